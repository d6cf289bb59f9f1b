import Derived.Test.YtjnekdihmchlpaaGreatDoorJT1a
import Derived.Test.YtjnekdihmchlpaaGreatDoorKTFFits
import Derived.WalkLawsBesides
import Derived.Test.YtjnekdihmchlpaaGreatDoorKTOff
import Derived.RangeFuncNested
import Derived.RangeFuncBound
import Derived.RangeFuncCalls
import Derived.RangeFuncLeaves
import Derived.Shelf.Abstract
import Derived.Shelf.RegionOpen
import Derived.WalkKit
import Derived.OwnWalkIn
import Derived.TacticsInMore
import Derived.LoopNIn
import Derived.LoopIn
import Derived.Test.YtjnekdihmchlpaaGreatDoorJT0a
import Derived.Test.YtjnekdihmchlpaaGreatDoorKTTgSTagsOk
import Derived.Test.YtjnekdihmchlpaaGreatDoorJT1b
import Derived.Deep.AppendLies
/- The contracts of the program's readers of a field's data. -/
namespace Go.Proofs.YtjnekdihmchlpaaGreatDoor
open Go.RowKit
set_option maxRecDepth 100000 in
set_option maxHeartbeats 800000 in
theorem getCounted_any (l : List UInt8) (i : Nat) (w : World) (hl : l.length ≤ 1048576) :
    Calls Tryz.prog 151 #[.string ⟨l.toArray⟩, .int .i64 i] w fun e w' => e = .returned (.tuple #[.string ⟨(if hasB l.length i 2 = true then getL l (i + 2) (numOf ((l.drop i).take 2)) else []).toArray⟩, .int .i64 (if hasB l.length i 2 = true then getI l (i + 2) (numOf ((l.drop i).take 2)) else -1)]) ∧ Below w.heap.size w w' := by
  cases hb : hasB l.length i 2
  · rw [if_neg (by decide), if_neg (by decide)]
    go_enter Tryz.func151, Tryz.ntmps151
    go_wp2_with fail
    refine (hasBytes_any _ _ _ _ (by omega)).mono ?_
    rintro e w1 ⟨rfl, hw1⟩
    subst hw1
    rw [hb]
    go_wp2
    go_ret2
    exact ⟨rfl, Below.refl _ _⟩
  · rw [if_pos rfl, if_pos rfl]
    have hin := hasB_in hb
    have HB : Hid _ := hb
    have HP : Hid _ := piece_eq l i 2
    have hpl : ((l.drop i).take 2).length ≤ 1099511627776 := by simp; omega
    have i1 : (i : Int) ≤ (i : Int) + 2 := by omega
    have i2 : (i : Int) + 2 ≤ (l.length : Int) := by omega
    clear hb hin
    go_enter Tryz.func151, Tryz.ntmps151
    go_wp2_with fail
    refine (hasBytes_any _ _ _ _ (by omega)).mono ?_
    rintro e w1 ⟨rfl, hw1⟩
    subst hw1
    rw [HB.out]
    go_wp2_with fail
    rw [HP.out]
    refine (iNumOf_any _ _ hpl).mono ?_
    rintro e w1 ⟨rfl, hw1⟩
    subst hw1
    have hnb := numOf_bd ((l.drop i).take 2)
    go_wp2_with fail
    refine (iGetDigits_any _ _ _ _ (by omega)).mono ?_
    rintro e w2 ⟨rfl, b2⟩
    go_wp2
    go_ret2
    exact ⟨rfl, b2⟩
set_option maxRecDepth 100000 in
set_option maxHeartbeats 800000 in
theorem getBytes_any (l : List UInt8) (i m : Nat) (w : World) (hl : l.length ≤ 1048576) (hm : m ≤ 999) :
    Calls Tryz.prog 152 #[.string ⟨l.toArray⟩, .int .i64 i, .int .i64 m] w fun e w' => e = .returned (.tuple #[.string ⟨(if hasB l.length i m = true then (l.drop i).take m else []).toArray⟩, .int .i64 (if hasB l.length i m = true then (i : Int) + m else -1)]) ∧ Below w.heap.size w w' := by
  cases hb : hasB l.length i m
  · rw [if_neg (by decide), if_neg (by decide)]
    go_enter Tryz.func152, Tryz.ntmps152
    go_wp2_with fail
    refine (hasBytes_any _ _ _ _ (by omega)).mono ?_
    rintro e w1 ⟨rfl, hw1⟩
    subst hw1
    rw [hb]
    go_wp2
    go_ret2
    exact ⟨rfl, Below.refl _ _⟩
  · rw [if_pos rfl, if_pos rfl]
    have hin := hasB_in hb
    have HB : Hid _ := hb
    have HP : Hid _ := piece_eq l i m
    have hpl : ((l.drop i).take m).length ≤ 1099511627776 := by simp; omega
    have i1 : (i : Int) ≤ (i : Int) + (m : Int) := by omega
    have i2 : (i : Int) + (m : Int) ≤ (l.length : Int) := by omega
    clear hb hin
    go_enter Tryz.func152, Tryz.ntmps152
    go_wp2_with fail
    refine (hasBytes_any _ _ _ _ (by omega)).mono ?_
    rintro e w1 ⟨rfl, hw1⟩
    subst hw1
    rw [HB.out]
    go_wp2_with fail
    rw [HP.out]
    refine (clone_any _ _ hpl).mono ?_
    rintro e w2 ⟨rfl, b2⟩
    go_wp2
    go_ret2
    exact ⟨rfl, b2⟩
set_option maxRecDepth 100000 in
set_option maxHeartbeats 1600000 in
theorem getData_any (l : List UInt8) (i : Nat) (n : Int) (w : World) (hl : l.length ≤ 1048576) (hn : n ∈ knowns) :
    Calls Tryz.prog 120 #[formV n, .string ⟨l.toArray⟩, .int .i64 i] w fun e w' => e = .returned (.tuple #[.string ⟨(rawL l i n).toArray⟩, .int .i64 (rawI l i n)]) ∧ Below w.heap.size w w' := by
  have hks := known_K hn
  rcases hks.1 with hk | hk | hk | hk | hk
  · rw [formV1 hk, (raw1 hk).1, (raw1 hk).2]
    have h1 := ta11 (fS n)
    clear hk hks hn
    go_enter Tryz.func120, Tryz.ntmps120
    go_wp2_with fail
    refine (iGetDigits_any _ _ _ _ (by omega)).mono ?_
    rintro e w1 ⟨rfl, b1⟩
    go_wp2
    go_ret2
    exact ⟨rfl, Below.trans (by go_grown) (b1.mono (by simp))⟩
  · rw [formV2 hk, (raw2 hk).1, (raw2 hk).2, Int.toNat_natCast]
    have h1 := ta21 (fS n)
    have h2 := ta22 (fS n)
    have hg := fun w => getCounted_any l i w hl
    generalize (if hasB l.length i 2 = true then getL l (i + 2) (numOf ((l.drop i).take 2)) else []) = A at hg ⊢
    generalize (if hasB l.length i 2 = true then getI l (i + 2) (numOf ((l.drop i).take 2)) else -1) = B at hg ⊢
    clear hk hks hn
    go_enter Tryz.func120, Tryz.ntmps120
    go_wp2_with fail
    refine (hg _).mono ?_
    rintro e w1 ⟨rfl, b1⟩
    go_wp2
    go_ret2
    exact ⟨rfl, Below.trans (by go_grown) (b1.mono (by simp))⟩
  · rw [formV3 hk, (raw3 hk).1, (raw3 hk).2, Int.toNat_natCast]
    have h1 := ta31 (fS n)
    have h2 := ta32 (fS n)
    have h3 := ta33 (fS n)
    obtain ⟨m, hm⟩ := Int.eq_ofNat_of_zero_le hks.2.1
    rw [hm] at h1 h2 h3 ⊢
    have hm9 : m ≤ 999 := by omega
    clear hk hks hn hm
    rw [Int.toNat_natCast]
    have hg := fun w => getBytes_any l i m w hl hm9
    generalize (if hasB l.length i m = true then (l.drop i).take m else []) = A at hg ⊢
    generalize (if hasB l.length i m = true then (i : Int) + m else -1) = B at hg ⊢
    go_enter Tryz.func120, Tryz.ntmps120
    go_wp2_with fail
    refine (hg _).mono ?_
    rintro e w1 ⟨rfl, b1⟩
    go_wp2
    go_ret2
    exact ⟨rfl, Below.trans (by go_grown) (b1.mono (by simp))⟩
  · rw [formV4 hk, (raw4 hk).1, (raw4 hk).2]
    have h1 := ta41 (fS n) 2
    have h2 := ta42 (fS n) 2
    have h3 := ta43 (fS n) 2
    have h4 := ta44 (fS n) 2
    clear hk hks hn
    go_enter Tryz.func120, Tryz.ntmps120
    go_wp2_with fail
    refine (iGetVar_any _ _ _ _ (by omega)).mono ?_
    rintro e w1 ⟨rfl, b1⟩
    go_wp2
    go_ret2
    exact ⟨rfl, Below.trans (by go_grown) (b1.mono (by simp))⟩
  · rw [formV5 hk, (raw5 hk).1, (raw5 hk).2]
    have h1 := ta41 (fS n) 3
    have h2 := ta42 (fS n) 3
    have h3 := ta43 (fS n) 3
    have h4 := ta44 (fS n) 3
    clear hk hks hn
    go_enter Tryz.func120, Tryz.ntmps120
    go_wp2_with fail
    refine (iGetVar_any _ _ _ _ (by omega)).mono ?_
    rintro e w1 ⟨rfl, b1⟩
    go_wp2
    go_ret2
    exact ⟨rfl, Below.trans (by go_grown) (b1.mono (by simp))⟩
end Go.Proofs.YtjnekdihmchlpaaGreatDoor
/- The contracts of the program's readers of a message's parts: each answers, or it panics with a fault. -/
namespace Go.Proofs.YtjnekdihmchlpaaGreatDoor
open Go.RowKit
def faultV (c a : Int) : Value := .iface 68 (.agg #[.int .i64 c, .int .i64 a])
/-- a panic with a fault of the message -/
def faultE (c a : Int) : Ending := .panicked [{ v := faultV c a, recovered := false }]
def kindE (l : List UInt8) : Ending := if kindOk l = true then .returned (.int .i64 (numOf (l.take 4))) else faultE 1 0
theorem kindE_no {l : List UInt8} (h : kindOk l = false) : kindE l = faultE 1 0 := by unfold kindE; rw [h]; rfl
theorem kindE_yes {l : List UInt8} (h : kindOk l = true) : kindE l = .returned (.int .i64 (numOf (l.take 4))) := by unfold kindE; rw [h]; rfl
theorem four_eq (l : List UInt8) : (⟨l.toArray⟩ : ByteArray).extract 0 4 = ⟨(l.take 4).toArray⟩ := piece_eq l 0 4
set_option maxRecDepth 100000 in
set_option maxHeartbeats 800000 in
theorem readKind_any (l : List UInt8) (w : World) (hl : l.length ≤ 1048576) :
    Calls Tryz.prog 73 #[.string ⟨l.toArray⟩] w fun e w' => e = kindE l ∧ w' = w := by
  cases hb : hasB l.length 0 4
  · have HK : Hid _ := kindE_no (l := l) (by simp [kindOk, hb])
    go_enter Tryz.func73, Tryz.ntmps73
    go_wp2_with fail
    refine (hasBytes_any _ _ _ _ (by omega)).mono ?_
    rintro e w1 ⟨rfl, hw1⟩
    subst hw1
    rw [hb]
    go_wp2
    exact ⟨rfl, HK.out.symm, rfl⟩
  · have hin := hasB_in hb
    have i2 : (4 : Int) ≤ (l.length : Int) := by omega
    have HP : Hid _ := four_eq l
    have hpl : (l.take 4).length ≤ 1099511627776 := by simp; omega
    cases hd : within 48 57 (l.take 4)
    · have HK : Hid _ := kindE_no (l := l) (by simp [kindOk, hd])
      have HB : Hid _ := hb
      clear hb hin
      go_enter Tryz.func73, Tryz.ntmps73
      go_wp2_with fail
      refine (hasBytes_any _ _ _ _ (by omega)).mono ?_
      rintro e w1 ⟨rfl, hw1⟩
      subst hw1
      rw [HB.out]
      go_wp2_with fail
      rw [HP.out]
      refine (iAllDig_any _ _ hpl).mono ?_
      rintro e w1 ⟨rfl, hw1⟩
      subst hw1
      rw [hd]
      go_wp2
      exact ⟨rfl, HK.out.symm, rfl⟩
    · have HK : Hid _ := kindE_yes (l := l) (by simp [kindOk, hd, hb])
      have HB : Hid _ := hb
      clear hb hin
      go_enter Tryz.func73, Tryz.ntmps73
      go_wp2_with fail
      refine (hasBytes_any _ _ _ _ (by omega)).mono ?_
      rintro e w1 ⟨rfl, hw1⟩
      subst hw1
      rw [HB.out]
      go_wp2_with fail
      rw [HP.out]
      refine (iAllDig_any _ _ hpl).mono ?_
      rintro e w1 ⟨rfl, hw1⟩
      subst hw1
      rw [hd]
      go_wp2_with fail
      rw [HP.out]
      refine (iNumOf_any _ _ hpl).mono ?_
      rintro e w1 ⟨rfl, hw1⟩
      subst hw1
      go_wp2
      go_ret
      exact ⟨HK.out.symm, rfl⟩
/-- a list of one's own and a place, or a fault -/
def Nums (w : World) (l : List UInt8) (e : Ending) (w' : World) : Prop :=
  if getSI l 4 < 0 then e = faultE 2 4 ∧ Below w.heap.size w w' else Sets w (getSL l 4) (getSI l 4) e w'
set_option maxRecDepth 100000 in
set_option maxHeartbeats 800000 in
theorem readNums_any (l : List UInt8) (w : World) (hl : l.length ≤ 1048576) :
    Calls Tryz.prog 74 #[.string ⟨l.toArray⟩] w fun e w' => Nums w l e w' := by
  go_enter Tryz.func74, Tryz.ntmps74
  go_wp2_with fail
  refine (iGetSet_any _ _ _ hl).mono ?_
  rintro e w1 ⟨ao, cap, rfl, ho, hb⟩
  have HU : Hid _ := show Nums w l = fun e w' => (if getSI l 4 < 0 then e = faultE 2 4 ∧ Below w.heap.size w w' else Sets w (getSL l 4) (getSI l 4) e w') from rfl
  obtain ⟨p, hp⟩ : ∃ p, getSI l 4 = p := ⟨_, rfl⟩
  rw [hp] at HU ⊢
  by_cases h : p < 0
  · have HQ : Hid (∀ w', Below w.heap.size w w' → Nums w l (faultE 2 4) w') := fun w' hb => by rw [HU.out]; simp only [if_pos h]; exact ⟨trivial, hb⟩
    clear hp HU
    go_wp2
    exact ⟨rfl, HQ.out _ hb⟩
  · have HQ : Hid (∀ e w', Sets w (getSL l 4) p e w' → Nums w l e w') := fun e w' hs => by rw [HU.out]; simp only [if_neg h]; exact hs
    have h' : 0 ≤ p := by omega
    clear hp HU h
    go_wp2
    go_ret2
    exact HQ.out _ _ ⟨ao, cap, rfl, ho, hb⟩
end Go.Proofs.YtjnekdihmchlpaaGreatDoor
/- The search by halves, and what is told by it: whether a day is a holiday; Works. -/
namespace Go.Proofs.YtjnekdihmchlpaaGreatDoor
open Go.RowKit
theorem worksV_no1 {d : Int} {zs : List Int} (h : dOk d = false) : worksV d zs = false := by simp [worksV, h]
theorem worksV_no2 {d : Int} {zs : List Int} (h : offOk zs = false) : worksV d zs = false := by simp [worksV, h]
theorem worksV_is {d : Int} {zs : List Int} (h : dOk d = true) (g : offOk zs = true) : worksV d zs = wk zs d := by simp [worksV, h, g]
end Go.Proofs.YtjnekdihmchlpaaGreatDoor
/- The iterator over the working days behind a day: what it hands to whoever ranges over it. -/
namespace Go.Proofs.YtjnekdihmchlpaaGreatDoor
open Go.RowKit Go.Shelf
/-- The slice at 'ao' reads as 'zs' in w, and lies below block N. -/
def IntsIn (N : Nat) (w : World) (ao : Option Addr) (zs : List Int) : Prop :=
  zs = [] ∨ ∃ b off, ao = some ⟨b, off, none⟩ ∧ b < N ∧ ∀ i, i < zs.length → w.cell? ⟨b, off + i, none⟩ = some (.int .i64 (zs.getD i 0))
theorem IntsIn.keep {N : Nat} {w w' : World} {ao : Option Addr} {zs : List Int} (h : IntsIn N w ao zs) (hb : Below N w w') : IntsIn N w' ao zs := by
  rcases h with h | ⟨b, off, h1, h2, h3⟩
  · exact .inl h
  · exact .inr ⟨b, off, h1, h2, fun i hi => (hb.cell (p := ⟨b, off + i, none⟩) h2).trans (h3 i hi)⟩
theorem IntsIn.at {N : Nat} {w : World} {ao : Option Addr} {zs : List Int} (h : IntsIn N w ao zs) (hN : N ≤ w.heap.size) : IntsAt w ao zs := by
  rcases h with h | ⟨b, off, h1, h2, h3⟩
  · exact .inl h
  · exact .inr ⟨b, off, h1, by omega, h3⟩
theorem IntsAt.in {w : World} {ao : Option Addr} {zs : List Int} (h : IntsAt w ao zs) : IntsIn w.heap.size w ao zs := h
/-- what a round leaves as it was: all below block N, and the box Bo -/
def Keep (N Bo : Nat) (W W' : World) : Prop := Below N W W' ∧ ∀ v, W.cell? ⟨Bo, 0, none⟩ = some v → W'.cell? ⟨Bo, 0, none⟩ = some v
theorem keep_t {N Bo : Nat} {A B C : World} (h : Keep N Bo A B) (k : Keep N Bo B C) : Keep N Bo A C := ⟨h.1.trans k.1, fun v hv => k.2 v (h.2 v hv)⟩
theorem keep_b {N Bo : Nat} {w : World} (hn : N ≤ w.heap.size) (W : World) (l : Nat) (o o' : Obj) (hl : w.heap.size ≤ l) (h : W.heap[l]? = some o) (hc : o.isCells = false) (hw : o.isWalk = false) : Keep N Bo W (W.putObj l o') :=
  ⟨belowK_b hn W l o o' hl h hc hw, fun _ hv => cell_kept hv (grownBy_putObj' W l o') (fun r e => by cases e; exact ⟨o, h, hc⟩)⟩
theorem val_int {k : IntKind} {a b : Int} (h : a = b) : Value.int k a = Value.int k b := by rw [h]
theorem wk_of (zs : List Int) (y : Int) : wk zs y = (decide ((y + 5) % 7 < 5) && !decide (y ∈ zs)) := rfl
end Go.Proofs.YtjnekdihmchlpaaGreatDoor
/- AddWork, the program's: by the iterator over the working days. -/
namespace Go.Proofs.YtjnekdihmchlpaaGreatDoor
open Go.RowKit Go.Shelf
theorem addV_no {d n : Int} {zs : List Int} (h : dOk d = false ∨ n < 0 ∨ 400 < n ∨ offOk zs = false) : addV d n zs = none := by
  unfold addV
  rw [if_neg]
  rintro ⟨a, b, c, e⟩
  rcases h with h | h | h | h
  · rw [a] at h; cases h
  · omega
  · omega
  · rw [e] at h; cases h
theorem addV_yes {d n : Int} {zs : List Int} (a : dOk d = true) (b : 0 ≤ n) (c : n ≤ 400) (e : offOk zs = true) : addV d n zs = adv zs (80000 - d).toNat n.toNat := by
  unfold addV; rw [if_pos ⟨a, b, c, e⟩]
theorem two_cells (w : World) (x : Int) (y : Bool) : ((w.alloc (.cells #[.int .i64 x] 3)).alloc (.cells #[.bool y] 4)).cell? ⟨w.heap.size, 0, none⟩ = some (.int .i64 x) ∧
    ((w.alloc (.cells #[.int .i64 x] 3)).alloc (.cells #[.bool y] 4)).cell? ⟨w.heap.size + 1, 0, none⟩ = some (.bool y) := by
  refine ⟨?_, ?_⟩
  · rw [World.cell?_alloc_lt _ _ _ (by simp)]; simp
  · rw [← World.size_alloc w (.cells #[.int .i64 x] 3)]; simp
theorem two_below (w : World) (o o' : Obj) : Below w.heap.size w ((w.alloc o).alloc o') := ((Below.refl _ w).alloc (Nat.le_refl _) _).alloc (by simp) _
/-- the box at block k holds v, and may be written -/
def Cl (W : World) (k : Nat) (v : Value) : Prop := W.cell? ⟨k, 0, none⟩ = some v ∧ W.frozen? ⟨k, 0, none⟩ = false
theorem Cl.kept {W W' : World} {row : Option Nat} {k : Nat} {v : Value} (h : Cl W k v) (hg : W.grownBy W' row) (hr : ∀ r, row = some r → ∃ o : Obj, W.heap[r]? = some o ∧ o.isCells = false) : Cl W' k v :=
  ⟨cell_kept h.1 hg hr, (frozen_kept h.1 hg hr).trans h.2⟩
theorem Cl.new (W : World) (v : Value) (t : TypeId) : Cl (W.alloc (.cells #[v] t)) W.heap.size v := by
  have h := World.alloc_heap_new W (.cells #[v] t)
  constructor
  · unfold World.cell?
    simp only [h]
    rfl
  · unfold World.frozen?
    simp only [h]
    rfl
theorem Cl.alloc {W : World} {k : Nat} {v : Value} (h : Cl W k v) (o : Obj) : Cl (W.alloc o) k v := h.kept (World.grownBy_alloc W o none) (fun r e => by cases e)
theorem Cl.other {W : World} {k j : Nat} {v u : Value} (h : Cl W k v) (hj : j ≠ k) : Cl (W.setCell ⟨j, 0, none⟩ u) k v := by
  refine ⟨?_, by rw [World.frozen?_setCell]; exact h.2⟩
  rw [World.cell?_setCell_other W ⟨j, 0, none⟩ u (b := ⟨k, 0, none⟩) (fun e => by injection e with e1; exact hj e1)]; exact h.1
theorem Cl.same {W : World} {k : Nat} {v u : Value} (h : Cl W k v) : Cl (W.setCell ⟨k, 0, none⟩ u) k u :=
  ⟨World.cell?_setCell_same W ⟨k, 0, none⟩ u h.1, by rw [World.frozen?_setCell]; exact h.2⟩
theorem Cl.put {W : World} {k D : Nat} {v : Value} {o o' : Obj} (h : Cl W k v) (hD : W.heap[D]? = some o) (ho : o.isCells = false) : Cl (W.putObj D o') k v :=
  h.kept (grownBy_putObj' W D o') (fun r e => by cases e; exact ⟨_, hD, ho⟩)
theorem bel_set {N j : Nat} {w W : World} (h : Below N w W) (hj : N ≤ j) (u : Value) : Below N w (W.setCell ⟨j, 0, none⟩ u) := h.setCell (p := ⟨j, 0, none⟩) hj u
theorem keep_set {N Bo j : Nat} (W : World) (u : Value) (hN : N ≤ j) (hj : j ≠ Bo) : Keep N Bo W (W.setCell ⟨j, 0, none⟩ u) :=
  ⟨(Below.refl N W).setCell (p := ⟨j, 0, none⟩) hN _, fun v hv => by
    rw [World.cell?_setCell_other W ⟨j, 0, none⟩ u (b := ⟨Bo, 0, none⟩) (fun e => by injection e with e1; exact hj e1)]; exact hv⟩
theorem adv_none {zs : List Int} {f m : Nat} (hm : 1 ≤ m) (h : (wd zs f).length < m) : adv zs f m = none := by
  obtain ⟨k, rfl⟩ : ∃ k, m = k + 1 := ⟨m - 1, by omega⟩
  rw [adv]; exact List.getElem?_eq_none (by omega)
theorem adv_pre {zs : List Int} {f m : Nat} {pre : List Int} {x : Int} (hp : pre ++ [x] <+: wd zs f) (hm : (pre ++ [x]).length = m) : adv zs f m = some x := by
  obtain ⟨t, ht⟩ := hp
  simp at hm
  subst hm
  rw [adv, ← ht]; simp
end Go.Proofs.YtjnekdihmchlpaaGreatDoor
/- WorkBetween, the program's: by the iterator over the working days. -/
namespace Go.Proofs.YtjnekdihmchlpaaGreatDoor
open Go.RowKit Go.Shelf
theorem betV_no {a b : Int} {zs : List Int} (h : dOk a = false ∨ dOk b = false ∨ offOk zs = false) : betV a b zs = -1 := by
  unfold betV
  rw [if_neg]
  rintro ⟨x, y, z⟩
  rcases h with h | h | h
  · rw [x] at h; cases h
  · rw [y] at h; cases h
  · rw [z] at h; cases h
theorem betV_yes {a b : Int} {zs : List Int} (x : dOk a = true) (y : dOk b = true) (z : offOk zs = true) : betV a b zs = (upto zs (80000 - a).toNat b : Int) := by
  unfold betV; rw [if_pos ⟨x, y, z⟩]
theorem upto_all {zs : List Int} {f : Nat} {b : Int} (h : ∀ y ∈ wd zs f, y ≤ b) : upto zs f b = (wd zs f).length := by
  unfold upto; exact List.countP_eq_length.2 (fun y hy => by simpa using h y hy)
theorem upto_pre {zs : List Int} {f : Nat} {b x : Int} {p : List Int} (hp : p ++ [x] <+: wd zs f) (h1 : ∀ y ∈ p, y ≤ b) (h2 : b < x) : upto zs f b = p.length := by
  obtain ⟨t, ht⟩ := hp
  have hk : (wd zs f)[p.length]? = some x := by rw [← ht]; simp
  have hb := wd_mem (List.mem_of_getElem? hk)
  have hdrop := wd_drop hk
  have hte : t = wd zs (80000 - x).toNat := by rw [hdrop, ← ht]; simp
  have c1 : p.countP (fun y => decide (y ≤ b)) = p.length := List.countP_eq_length.2 (fun y hy => by simpa using h1 y hy)
  have c2 : t.countP (fun y => decide (y ≤ b)) = 0 := List.countP_eq_zero.2 (fun y hy => by
    rw [hte] at hy
    have := wd_mem hy
    simp; omega)
  unfold upto
  rw [← ht, List.countP_append, List.countP_append, c1, c2]
  simp; omega
theorem le_snoc {pre : List Int} {x b : Int} (h : ∀ y ∈ pre, y ≤ b) (hx : x ≤ b) : ∀ y ∈ pre ++ [x], y ≤ b := by
  intro y hy
  rcases List.mem_append.1 hy with e | e
  · exact h y e
  · have : y = x := by simpa using e
    omega
theorem one_cell (w : World) (x : Int) : (w.alloc (.cells #[.int .i64 x] 3)).cell? ⟨w.heap.size, 0, none⟩ = some (.int .i64 x) := (Cl.new w (.int .i64 x) 3).1
theorem one_below (w : World) (o : Obj) : Below w.heap.size w (w.alloc o) := (Below.refl _ w).alloc (Nat.le_refl _) _
end Go.Proofs.YtjnekdihmchlpaaGreatDoor
/- AddWork and WorkBetween, the specification's. -/
namespace Go.Proofs.YtjnekdihmchlpaaGreatDoor
open Go.RowKit
set_option maxHeartbeats 1000000 in
theorem sAdd_any (d n : Int) (ao : Option Addr) (c : Nat) (zs : List Int) (w : World) (hx : IntsAt w ao zs) (h1 : zs.length ≤ 1099511627776) :
    Calls Tryz.prog 135 #[.int .i64 d, .int .i64 n, .slice ao zs.length c] w fun e w' => e = .returned (.tuple #[.int .i64 ((addV d n zs).getD 0), .bool (addV d n zs).isSome]) ∧ Below w.heap.size w w' := by
  have HX : Hid (IntsAt w ao zs) := hx
  clear hx
  cases hd : dOk d
  · have HN : Hid _ := addV_no (n := n) (zs := zs) (.inl hd)
    go_enter Tryz.func135, Tryz.ntmps135
    go_wp2_with fail
    refine (sDayOk_any _ _).mono ?_
    rintro e w' ⟨rfl, hw⟩
    subst hw
    go_wp2
    go_ret2
    exact ⟨two_eq (by rw [HN.out]; rfl) (by rw [HN.out]; rfl), Below.refl _ _⟩
  · cases hn : inB n 0 400
    · have HN : Hid (addV d n zs = none) := by
        refine addV_no ?_
        by_cases h0 : n < 0
        · exact .inr (.inl h0)
        · by_cases h4 : 400 < n
          · exact .inr (.inr (.inl h4))
          · rw [inB_pos (by omega) (by omega)] at hn; cases hn
      go_enter Tryz.func135, Tryz.ntmps135
      go_wp2_with fail
      refine (sDayOk_any _ _).mono ?_
      rintro e w' ⟨rfl, hw⟩
      subst hw
      go_wp2_with fail
      refine (in_any _ _ _ _).mono ?_
      rintro e w' ⟨rfl, hw⟩
      subst hw
      go_wp2
      go_ret2
      exact ⟨two_eq (by rw [HN.out]; rfl) (by rw [HN.out]; rfl), Below.refl _ _⟩
    · have hnb : 0 ≤ n ∧ n ≤ 400 := by simpa [inB] using hn
      cases ho : offOk zs
      · have HN : Hid _ := addV_no (d := d) (n := n) (.inr (.inr (.inr ho)))
        go_enter Tryz.func135, Tryz.ntmps135
        go_wp2_with fail
        refine (sDayOk_any _ _).mono ?_
        rintro e w' ⟨rfl, hw⟩
        subst hw
        go_wp2_with fail
        refine (in_any _ _ _ _).mono ?_
        rintro e w' ⟨rfl, hw⟩
        subst hw
        go_wp2_with fail
        refine (sOff_any _ _ zs _ HX.out h1).mono ?_
        rintro e w1 ⟨rfl, b1⟩
        go_wp2
        go_ret2
        exact ⟨two_eq (by rw [HN.out]; rfl) (by rw [HN.out]; rfl), b1⟩
      · have HV : Hid _ := addV_yes hd hnb.1 hnb.2 ho
        have hdb := dOk_bd hd
        go_enter Tryz.func135, Tryz.ntmps135
        go_wp2_with fail
        refine (sDayOk_any _ _).mono ?_
        rintro e w' ⟨rfl, hw⟩
        subst hw
        go_wp2_with fail
        refine (in_any _ _ _ _).mono ?_
        rintro e w' ⟨rfl, hw⟩
        subst hw
        go_wp2_with fail
        refine (sOff_any _ _ zs _ HX.out h1).mono ?_
        rintro e w1 ⟨rfl, b1⟩
        have HX1 : Hid (IntsAt w1 ao zs) := IntsAt.below HX.out b1
        go_wp2
        go_loop [0, 1] (fun p q => ∃ (f m : Nat), f ≤ 80000 ∧ m ≤ 400 ∧ p = .int .i64 (80000 - f) ∧ q = .int .i64 m ∧ adv zs f m = adv zs (80000 - d).toNat n.toNat) (fun p _ => (80000 - intOf p).toNat)
        case atStart => exact ⟨(80000 - d).toNat, n.toNat, by omega, by omega, val_int (by omega), val_int (by omega), rfl⟩
        case round =>
          obtain ⟨f, m, hf, hm, rfl, rfl, ht⟩ := hrel
          have HT : Hid _ := ht
          clear ht
          obtain ⟨y, hy⟩ : ∃ y : Int, 80000 - (f : Int) = y := ⟨_, rfl⟩
          rw [hy]
          have hy1 : 0 ≤ y := by omega
          have hy2 : y ≤ 80000 := by omega
          have HY : Hid _ := hy
          cases m with
          | zero =>
            have HE : Hid (addV d n zs = some y) := by rw [Hid, HV.out, ← HT.out, adv_zero, hy]
            clear hy
            go_wp2
            go_ret2
            exact ⟨two_eq (by rw [HE.out]; rfl) (by rw [HE.out]; rfl), b1⟩
          | succ m =>
            have hmp : (0 : Int) < ((m + 1 : Nat) : Int) := by omega
            cases f with
            | zero =>
              have hye : y = 80000 := by omega
              have HE : Hid (addV d n zs = none) := by rw [Hid, HV.out, ← HT.out, adv_end]
              have hdk : dOk (y + 1) = false := dOk_neg (by omega)
              clear hy
              go_wp2_with fail
              refine (sDayOk_any _ _).mono ?_
              rintro e w' ⟨rfl, hw⟩
              subst hw
              go_wp2
              go_ret2
              exact ⟨two_eq (by rw [HE.out]; rfl) (by rw [HE.out]; rfl), b1⟩
            | succ f =>
              have HF : Hid (80000 - (f : Int) = y + 1) := by rw [Hid]; omega
              have hye : y ≤ 79999 := by omega
              have hdk : dOk (y + 1) = true := dOk_pos (by omega) (by omega)
              cases hw2 : wk zs (y + 1)
              · have HR : Hid (adv zs f (m + 1) = adv zs (80000 - d).toNat n.toNat) := by rw [Hid, ← HT.out, adv_no (by rw [HF.out]; exact hw2)]
                clear hy
                go_wp2_with fail
                refine (sDayOk_any _ _).mono ?_
                rintro e w' ⟨rfl, hw⟩
                subst hw
                go_wp2_with fail
                refine (sWorks2_any _ _ _ zs _ HX1.out h1 hdk).mono ?_
                rintro e w' ⟨rfl, hw⟩
                subst hw
                go_wp2
                go_round
                case rel => exact ⟨f, m + 1, by omega, hm, val_int HF.out.symm, rfl, HR.out⟩
                case measure => simp [intOf]; omega
              · have HR : Hid (adv zs f m = adv zs (80000 - d).toNat n.toNat) := by rw [Hid, ← HT.out, adv_yes (by rw [HF.out]; exact hw2)]
                clear hy
                go_wp2_with fail
                refine (sDayOk_any _ _).mono ?_
                rintro e w' ⟨rfl, hw⟩
                subst hw
                go_wp2_with fail
                refine (sWorks2_any _ _ _ zs _ HX1.out h1 hdk).mono ?_
                rintro e w' ⟨rfl, hw⟩
                subst hw
                go_wp2
                go_round
                case rel => exact ⟨f, m, by omega, by omega, val_int HF.out.symm, val_int (by omega), HR.out⟩
                case measure => simp [intOf]; omega
end Go.Proofs.YtjnekdihmchlpaaGreatDoor
/- Chapter 8: Deadline, the program's and the specification's. -/
namespace Go.Proofs.YtjnekdihmchlpaaGreatDoor
open Go.RowKit
/-- AddWork; -1 where there is none -/
def dueV (d n : Int) (zs : List Int) : Int := (addV d n zs).getD (-1)
theorem dueV_no {d n : Int} {zs : List Int} (h : addV d n zs = none) : dueV d n zs = -1 := by rw [dueV, h]; rfl
theorem dueV_yes {d n y : Int} {zs : List Int} (h : addV d n zs = some y) : dueV d n zs = y := by rw [dueV, h]; rfl
set_option maxHeartbeats 400000 in
theorem sDue_any (d n : Int) (ao : Option Addr) (c : Nat) (zs : List Int) (w : World) (hx : IntsAt w ao zs) (h1 : zs.length ≤ 1099511627776) :
    Calls Tryz.prog 92 #[.int .i64 d, .int .i64 n, .slice ao zs.length c] w fun e w' => e = .returned (.int .i64 (dueV d n zs)) ∧ Below w.heap.size w w' := by
  cases h : addV d n zs with
  | none =>
    have HV : Hid _ := dueV_no h
    have HC : Hid (Calls Tryz.prog 135 #[.int .i64 d, .int .i64 n, .slice ao zs.length c] w fun e w' => e = .returned (.tuple #[.int .i64 0, .bool false]) ∧ Below w.heap.size w w') := by
      have g := sAdd_any d n ao c zs w hx h1
      rw [h] at g
      exact g
    clear hx
    go_enter Tryz.func92, Tryz.ntmps92
    go_wp2_with fail
    refine Calls.mono HC.out ?_
    rintro e w1 ⟨rfl, b1⟩
    go_wp2
    go_ret
    exact ⟨one_int HV.out.symm, b1⟩
  | some y =>
    have HV : Hid _ := dueV_yes h
    have HC : Hid (Calls Tryz.prog 135 #[.int .i64 d, .int .i64 n, .slice ao zs.length c] w fun e w' => e = .returned (.tuple #[.int .i64 y, .bool true]) ∧ Below w.heap.size w w') := by
      have g := sAdd_any d n ao c zs w hx h1
      rw [h] at g
      exact g
    clear hx
    go_enter Tryz.func92, Tryz.ntmps92
    go_wp2_with fail
    refine Calls.mono HC.out ?_
    rintro e w1 ⟨rfl, b1⟩
    go_wp2
    go_ret
    exact ⟨one_int HV.out.symm, b1⟩
end Go.Proofs.YtjnekdihmchlpaaGreatDoor
/- The contracts of PutTags, the program's and the specification's. -/
namespace Go.Proofs.YtjnekdihmchlpaaGreatDoor.Tg
open Go.RowKit
theorem iPad_is {x n : Int} {q : List UInt8} (hq : padT x n = q) (w : World) (ht : Pow10 w) :
    Calls Tryz.prog 24 #[.int .i64 x, .int .i64 n] w fun e w' => e = .returned (.string ⟨q.toArray⟩) ∧ Below w.heap.size w w' := by
  rw [← hq]; exact iPadNum_any x n w ht
theorem sPad_is {x n : Int} {q : List UInt8} (hq : padT x n = q) (w : World) :
    Calls Tryz.prog 31 #[.int .i64 x, .int .i64 n] w fun e w' => e = .returned (.string ⟨q.toArray⟩) ∧ Below w.heap.size w w' := by
  rw [← hq]; exact sPadNum_any x n w
theorem putTs_bd {fs : List Fld} (h : tagsOk fs = true) (k : Nat) : (putTs (fs.take k)).length ≤ 14160 := by
  obtain ⟨h1, h2⟩ := tagsOk_parts h
  have h3 := putTs_le (fs := fs.take k) (fun f hf => (tagOne_parts (okT_mem h2 f (List.mem_of_mem_take hf)).1).2.1)
  have h4 : (fs.take k).length ≤ 60 := by rw [List.length_take]; omega
  omega
set_option maxRecDepth 100000 in
set_option maxHeartbeats 1600000 in
theorem putTag_any (n : Int) (d : List UInt8) (w : World) (hl : d.length ≤ 1000000) (ht : Pow10 w) :
    Calls Tryz.prog 55 #[.agg #[.int .i64 n, .string ⟨d.toArray⟩]] w fun e w' => e = .returned (.string ⟨(putT (n, d)).toArray⟩) ∧ Below w.heap.size w w' := by
  obtain ⟨p, hp⟩ : ∃ p, padT n 4 = p := ⟨_, rfl⟩
  obtain ⟨q, hq⟩ : ∃ q, padT (d.length : Int) 3 = q := ⟨_, rfl⟩
  have hpl : p.length ≤ 18 := by rw [← hp]; exact padT_le _ _
  have hql : q.length ≤ 18 := by rw [← hq]; exact padT_le _ _
  have HE : Hid (putT (n, d) = p ++ q ++ d) := by unfold putT; simp only; rw [Hid, hp, hq]
  have HP : Hid _ := hp
  have HQ : Hid _ := hq
  have ht1 : Pow10 (w.alloc (.cells #[.int .i64 n, .string ⟨d.toArray⟩] 55)) := ht.below (by go_grown)
  have HT : Hid (∀ z : Over (w.alloc (.cells #[.int .i64 n, .string ⟨d.toArray⟩] 55)), Pow10 z.x) := fun z => ht1.below z.h
  have hne := over_ne (w.alloc (.cells #[.int .i64 n, .string ⟨d.toArray⟩] 55))
  have g1 := over_cell (W := w.alloc (.cells #[.int .i64 n, .string ⟨d.toArray⟩] 55)) (a := ⟨w.heap.size, 0, none⟩) (v := .int .i64 n) (by simp)
  have g2 := over_cell (W := w.alloc (.cells #[.int .i64 n, .string ⟨d.toArray⟩] 55)) (a := ⟨w.heap.size, 1, none⟩) (v := .string ⟨d.toArray⟩) (by simp)
  have H1 : Hid (∀ z : Over (w.alloc (.cells #[.int .i64 n, .string ⟨d.toArray⟩] 55)), Calls Tryz.prog 24 #[.int .i64 n, .int .i64 4] z.x fun e w'' => e = .returned (.string ⟨p.toArray⟩) ∧ ∃ y : Over (w.alloc (.cells #[.int .i64 n, .string ⟨d.toArray⟩] 55)), w'' = y.x) := fun z => over_of (iPad_is hp _ (HT.out z))
  have H2 : Hid (∀ z : Over (w.alloc (.cells #[.int .i64 n, .string ⟨d.toArray⟩] 55)), Calls Tryz.prog 24 #[.int .i64 d.length, .int .i64 3] z.x fun e w'' => e = .returned (.string ⟨q.toArray⟩) ∧ ∃ y : Over (w.alloc (.cells #[.int .i64 n, .string ⟨d.toArray⟩] 55)), w'' = y.x) := fun z => over_of (iPad_is hq _ (HT.out z))
  clear hp hq ht ht1 HP HQ HT
  go_enter Tryz.func55, Tryz.ntmps55
  go_wp2
  refine wp_region_over (by kernel_rfl) (by kernel_rfl) ?_
  repeat (go_big_quiet_step (first | with_reducible exact H1.out _ | with_reducible exact H2.out _))
  refine wpQuiet_nil ?_
  rintro _ ⟨⟨w2, b2⟩, hw2⟩
  subst hw2
  go_wp2
  go_ret
  exact ⟨one_str (by rw [HE.out, ba_append, ba_append]), Below.trans (by go_grown) (b2.mono (by simp))⟩
set_option maxRecDepth 100000 in
set_option maxHeartbeats 1600000 in
theorem iPutTags_any (ao : Option Addr) (cap : Nat) (fs : List Fld) (w : World) (hz : FldsAt w ao fs) (hn : fs.length ≤ 4194304) (hd : ∀ f ∈ fs, f.2.length ≤ 1099511627776) (ht : Pow10 w) :
    Calls Tryz.prog 21 #[.slice ao fs.length cap] w fun e w' => e = .returned (.tuple #[.string ⟨(putL fs).toArray⟩, .bool (putOk fs)]) ∧ Below w.heap.size w w' := by
  have HT : Hid (Pow10 w) := ht
  clear ht
  cases hok : tagsOk fs
  · have HN : Hid _ := putOk_no hok
    go_enter Tryz.func21, Tryz.ntmps21
    go_wp2_with fail
    refine (iTagsOk_any _ _ _ _ hz hn hd).mono ?_
    rintro e w1 ⟨rfl, b1⟩
    rw [hok]
    clear hok
    go_wp2
    go_ret2
    exact ⟨str_ok (by rw [putL_no HN.out]) HN.out.symm, b1⟩
  have HK : Hid _ := hok
  have HBD : Hid (∀ k, (putTs (fs.take k)).length ≤ 14160) := putTs_bd hok
  have HD : Hid (∀ f ∈ fs, f.2.length ≤ 200) := fun f hf => (tagOne_parts (okT_mem (tagsOk_parts hok).2 f hf).1).2.1
  have HFIN : Hid (∀ u : World, Below w.heap.size w u → ∀ e, e = Ending.returned (.tuple #[.string ⟨(putL fs).toArray⟩, .bool (putOk fs)]) → e = Ending.returned (.tuple #[.string ⟨(putL fs).toArray⟩, .bool (putOk fs)]) ∧ Below w.heap.size w u) := fun u hu e he => ⟨he, hu⟩
  go_enter Tryz.func21, Tryz.ntmps21
  go_wp2_with fail
  refine (iTagsOk_any _ _ _ _ hz hn hd).mono ?_
  rintro e w1 ⟨rfl, b1⟩
  rw [HK.out]
  have z1 := hz.below b1
  clear hok hz hd
  have HEND : Hid (∀ L : List UInt8, putTs fs = L → 999 < L.length → putL fs = [] ∧ putOk fs = false) := fun L hL h => by
    have := putOk_big (fs := fs) (by rw [hL]; omega)
    exact ⟨putL_no this, this⟩
  have HENY : Hid (∀ L : List UInt8, putTs fs = L → ¬ 999 < L.length → putL fs = L ∧ putOk fs = true) := fun L hL h => by
    have := putOk_yes HK.out (by rw [hL]; omega)
    exact ⟨by rw [putL_yes this, hL], this⟩
  rcases z1 with rfl | ⟨b, off, rfl, hb, hcell⟩
  · go_wp2
    refine wp_loop_rounds 1 ?_
    rw [rounds_succ]
    go_wp2
    go_ret2
    obtain ⟨e1, e2⟩ := HENY.out [] rfl (by simp)
    exact ⟨str_ok (by rw [e1]) e2.symm, b1⟩
  have HC : Hid (∀ i, i < fs.length → w1.cell? ⟨b, off + i * 2, none⟩ = some (.int .i64 (at0 fs i).1) ∧ w1.cell? ⟨b, off + i * 2 + 1, none⟩ = some (.string ⟨(at0 fs i).2.toArray⟩)) := hcell
  clear hcell
  go_wp2
  go_loopw [4, 12] (fun o i wr => ∃ k : Nat, k ≤ fs.length ∧ i = .int .i64 k ∧ o = .string ⟨(putTs (fs.take k)).toArray⟩ ∧ Below w1.heap.size w1 wr) (fun _ i _ => fs.length - (intOf i).toNat)
  case atStart => exact ⟨0, Nat.zero_le _, rfl, rfl, Below.refl _ _⟩
  case round =>
    obtain ⟨k, hk, rfl, rfl, hbr⟩ := hrel
    by_cases hlt : k < fs.length
    · have c1 : wr.cell? ⟨b, off + k * 2, none⟩ = some (.int .i64 (at0 fs k).1) := (hbr.cell (p := ⟨b, off + k * 2, none⟩) hb).trans (HC.out k hlt).1
      have c2 : wr.cell? ⟨b, off + k * 2 + 1, none⟩ = some (.string ⟨(at0 fs k).2.toArray⟩) := (hbr.cell (p := ⟨b, off + k * 2 + 1, none⟩) hb).trans (HC.out k hlt).2
      have hki : (k : Int) < (fs.length : Int) := by omega
      have hst := putTs_take fs k hlt
      have hl := HD.out _ (at0_mem hlt)
      have hbd := HBD.out k
      have hpw : Pow10 wr := HT.out.below (next b1 hbr)
      obtain ⟨⟨n, s⟩, hf⟩ : ∃ f, at0 fs k = f := ⟨_, rfl⟩
      rw [hf] at c1 c2 hst hl
      simp only at c1 c2 hl
      have hpl := putT_le (n, s)
      simp only at hpl
      have HST : Hid _ := hst
      have hpw2 : Pow10 (wr.alloc (.cells #[.int .i64 n, .string ⟨s.toArray⟩] 55)) := hpw.below (by go_grown)
      generalize putTs (fs.take k) = T at hbd HST
      have HPW : Hid _ := hpw2
      clear hf hst hpw hpw2
      go_wp2_with fail
      refine (putTag_any n s _ (by omega) HPW.out).mono ?_
      rintro e w2 ⟨rfl, b2⟩
      generalize putT (n, s) = U at hpl HST
      have bb : Below w1.heap.size w1 w2 := (hbr.alloc hbr.size _).trans (b2.mono (by have := hbr.size; simp; omega))
      clear b2 HPW
      go_wp2
      go_roundw
      case rel => exact ⟨k + 1, by omega, by go_num, by rw [HST.out, ba_append], bb⟩
      case measure => simp [intOf]; omega
    · have hke : k = fs.length := by omega
      subst hke
      have hbd := HBD.out fs.length
      have hbb := next b1 hbr
      rw [List.take_length] at hbd ⊢
      obtain ⟨L, hL⟩ : ∃ L, putTs fs = L := ⟨_, rfl⟩
      rw [hL] at hbd ⊢
      have HL : Hid _ := hL
      clear hL
      by_cases hbig : 999 < L.length
      · have hb9 : (999 : Int) < (L.length : Int) := by omega
        obtain ⟨e1, e2⟩ := HEND.out L HL.out hbig
        have E1 : Hid _ := e1
        have E2 : Hid _ := e2
        clear e1 e2
        go_wp2
        go_ret2
        exact ⟨str_ok (by rw [E1.out]) E2.out.symm, hbb⟩
      · have hb9 : ¬ (999 : Int) < (L.length : Int) := by omega
        obtain ⟨e1, e2⟩ := HENY.out L HL.out hbig
        have E1 : Hid _ := e1
        have E2 : Hid _ := e2
        clear e1 e2
        go_wp2
        go_ret2
        exact ⟨str_ok (by rw [E1.out]) E2.out.symm, hbb⟩
set_option maxRecDepth 100000 in
set_option maxHeartbeats 3200000 in
theorem sPutTags_any (ao : Option Addr) (cap : Nat) (fs : List Fld) (w : World) (hz : FldsAt w ao fs) (hn : fs.length ≤ 4194304) (hd : ∀ f ∈ fs, f.2.length ≤ 1099511627776) :
    Calls Tryz.prog 27 #[.slice ao fs.length cap] w fun e w' => e = .returned (.tuple #[.string ⟨(putL fs).toArray⟩, .bool (putOk fs)]) ∧ Below w.heap.size w w' := by
  cases hok : tagsOk fs
  · have HN : Hid _ := putOk_no hok
    go_enter Tryz.func27, Tryz.ntmps27
    go_wp2_with fail
    refine (sTagsOk_any _ _ _ _ hz hn hd).mono ?_
    rintro e w1 ⟨rfl, b1⟩
    rw [hok]
    clear hok
    go_wp2
    go_ret2
    exact ⟨str_ok (by rw [putL_no HN.out]) HN.out.symm, b1⟩
  have HK : Hid _ := hok
  have HBD : Hid (∀ k, (putTs (fs.take k)).length ≤ 14160) := putTs_bd hok
  have HD : Hid (∀ f ∈ fs, f.2.length ≤ 200) := fun f hf => (tagOne_parts (okT_mem (tagsOk_parts hok).2 f hf).1).2.1
  have HBIG : Hid (∀ k, 999 < (putTs (fs.take k)).length → putL fs = [] ∧ putOk fs = false) := fun k h => by
    have h2 := putTs_mono fs k
    have := putOk_big (fs := fs) (by omega)
    exact ⟨putL_no this, this⟩
  have HENY : Hid (∀ L : List UInt8, putTs fs = L → ¬ 999 < L.length → putL fs = L ∧ putOk fs = true) := fun L hL h => by
    have := putOk_yes hok (by rw [hL]; omega)
    exact ⟨by rw [putL_yes this, hL], this⟩
  go_enter Tryz.func27, Tryz.ntmps27
  go_wp2_with fail
  refine (sTagsOk_any _ _ _ _ hz hn hd).mono ?_
  rintro e w1 ⟨rfl, b1⟩
  rw [HK.out]
  have z1 := hz.below b1
  clear hok hz hd
  rcases z1 with rfl | ⟨b, off, rfl, hb, hcell⟩
  · go_wp2
    refine wp_loop_rounds 1 ?_
    rw [rounds_succ]
    go_wp2
    go_ret2
    obtain ⟨e1, e2⟩ := HENY.out [] rfl (by simp)
    exact ⟨str_ok (by rw [e1]) e2.symm, b1⟩
  have HC : Hid (∀ i, i < fs.length → w1.cell? ⟨b, off + i * 2, none⟩ = some (.int .i64 (at0 fs i).1) ∧ w1.cell? ⟨b, off + i * 2 + 1, none⟩ = some (.string ⟨(at0 fs i).2.toArray⟩)) := hcell
  clear hcell
  go_wp2
  go_loopw [4, 5] (fun o i wr => ∃ k : Nat, k ≤ fs.length ∧ i = .int .i64 k ∧ o = .string ⟨(putTs (fs.take k)).toArray⟩ ∧ ¬ 999 < (putTs (fs.take k)).length ∧ Below w1.heap.size w1 wr) (fun _ i _ => fs.length - (intOf i).toNat)
  case atStart => exact ⟨0, Nat.zero_le _, rfl, rfl, by simp [putTs], Below.refl _ _⟩
  case round =>
    obtain ⟨k, hk, rfl, rfl, hsm, hbr⟩ := hrel
    by_cases hlt : k < fs.length
    · have c1 : wr.cell? ⟨b, off + k * 2, none⟩ = some (.int .i64 (at0 fs k).1) := (hbr.cell (p := ⟨b, off + k * 2, none⟩) hb).trans (HC.out k hlt).1
      have c2 : wr.cell? ⟨b, off + k * 2 + 1, none⟩ = some (.string ⟨(at0 fs k).2.toArray⟩) := (hbr.cell (p := ⟨b, off + k * 2 + 1, none⟩) hb).trans (HC.out k hlt).2
      have hki : (k : Int) < (fs.length : Int) := by omega
      have hst := putTs_take fs k hlt
      have hl := HD.out _ (at0_mem hlt)
      have hbg := HBIG.out (k + 1)
      obtain ⟨⟨n, s⟩, hf⟩ : ∃ f, at0 fs k = f := ⟨_, rfl⟩
      rw [hf] at c1 c2 hst hl
      simp only at c1 c2 hl
      obtain ⟨p, hp⟩ : ∃ p, padT n 4 = p := ⟨_, rfl⟩
      obtain ⟨q, hq⟩ : ∃ q, padT (s.length : Int) 3 = q := ⟨_, rfl⟩
      have hpl : p.length ≤ 18 := by rw [← hp]; exact padT_le _ _
      have hql : q.length ≤ 18 := by rw [← hq]; exact padT_le _ _
      have hu : putT (n, s) = p ++ q ++ s := by unfold putT; simp only; rw [hp, hq]
      rw [hst, hu] at hbg
      have HST : Hid (putTs (fs.take (k + 1)) = putTs (fs.take k) ++ (p ++ q ++ s)) := by rw [Hid, hst, hu]
      have HP : Hid _ := hp
      have HQ : Hid _ := hq
      obtain ⟨T, hT⟩ : ∃ T, putTs (fs.take k) = T := ⟨_, rfl⟩
      rw [hT] at hsm hbg HST ⊢
      have hne := over_ne wr
      have g1 := over_cell c1
      have g2 := over_cell c2
      have H1 : Hid (∀ z : Over wr, Calls Tryz.prog 31 #[.int .i64 n, .int .i64 4] z.x fun e w'' => e = .returned (.string ⟨p.toArray⟩) ∧ ∃ y : Over wr, w'' = y.x) := fun z => over_of (sPad_is hp _)
      have H2 : Hid (∀ z : Over wr, Calls Tryz.prog 31 #[.int .i64 s.length, .int .i64 3] z.x fun e w'' => e = .returned (.string ⟨q.toArray⟩) ∧ ∃ y : Over wr, w'' = y.x) := fun z => over_of (sPad_is hq _)
      clear hf hst hp hq hu hT HP HQ
      by_cases hbig : 999 < (T ++ (p ++ q ++ s)).length
      · obtain ⟨e1, e2⟩ := hbg hbig
        have E1 : Hid _ := e1
        have E2 : Hid _ := e2
        have hb9 : (999 : Int) < (T.length : Int) + (p.length : Int) + (q.length : Int) + (s.length : Int) := by simp at hbig; omega
        clear e1 e2 hbg hbig
        go_wp2
        refine wp_region_over (by kernel_rfl) (by kernel_rfl) ?_
        repeat (go_big_quiet_step (first | with_reducible exact H1.out _ | with_reducible exact H2.out _))
        refine wpQuiet_nil ?_
        rintro _ ⟨⟨w2, b2⟩, hw2⟩
        subst hw2
        have bb := next b1 (next hbr b2)
        clear b2 g1 g2
        go_wp2
        go_ret2
        exact ⟨str_ok (by rw [E1.out]) E2.out.symm, bb⟩
      · have HSM : Hid (¬ 999 < (T ++ (p ++ q ++ s)).length) := hbig
        have hb9 : ¬ (999 : Int) < (T.length : Int) + (p.length : Int) + (q.length : Int) + (s.length : Int) := by simp at hbig; omega
        clear hbg hbig
        go_wp2
        refine wp_region_over (by kernel_rfl) (by kernel_rfl) ?_
        repeat (go_big_quiet_step (first | with_reducible exact H1.out _ | with_reducible exact H2.out _))
        refine wpQuiet_nil ?_
        rintro _ ⟨⟨w2, b2⟩, hw2⟩
        subst hw2
        have bb := next hbr b2
        clear b2 g1 g2
        go_wp2
        go_roundw
        case rel => exact ⟨k + 1, by omega, by go_num, by rw [HST.out, ba_append, ba_append, ba_append]; simp [List.append_assoc], by rw [HST.out]; exact HSM.out, bb⟩
        case measure => simp [intOf]; omega
    · have hke : k = fs.length := by omega
      subst hke
      have hbb := next b1 hbr
      rw [List.take_length] at hsm ⊢
      obtain ⟨L, hL⟩ : ∃ L, putTs fs = L := ⟨_, rfl⟩
      rw [hL] at hsm ⊢
      obtain ⟨e1, e2⟩ := HENY.out L hL hsm
      have E1 : Hid _ := e1
      have E2 : Hid _ := e2
      clear e1 e2 hL
      go_wp2
      go_ret2
      exact ⟨str_ok (by rw [E1.out]) E2.out.symm, hbb⟩
end Go.Proofs.YtjnekdihmchlpaaGreatDoor.Tg
/- The contract of the program's MessageOk. -/
namespace Go.Proofs.YtjnekdihmchlpaaGreatDoor
open Go.RowKit
theorem msgOk_no {kd : Int} {fs : List Fld} (h : okF 1 fs = false) : msgOk kd fs = false := by unfold msgOk; rw [h, Bool.and_false]
theorem msgOk_kd {kd : Int} {fs : List Fld} (h : ¬ (0 ≤ kd ∧ kd ≤ 9999)) : msgOk kd fs = false := by unfold msgOk; rw [decide_eq_false h, Bool.false_and]
theorem msgOk_fs {kd : Int} {fs : List Fld} (h : 0 ≤ kd ∧ kd ≤ 9999) : msgOk kd fs = okF 1 fs := by unfold msgOk; rw [decide_eq_true h, Bool.true_and]
theorem bcell {W w1 : World} (hb : Below W.heap.size W w1) : (∀ b o, b < W.heap.size → w1.cell? ⟨b, o, none⟩ = W.cell? ⟨b, o, none⟩) ∧ (∀ b o, b < W.heap.size → w1.frozen? ⟨b, o, none⟩ = W.frozen? ⟨b, o, none⟩) :=
  ⟨fun b o h => hb.cell (p := ⟨b, o, none⟩) h, fun b o h => hb.frozen (p := ⟨b, o, none⟩) h⟩
theorem iFieldOk_is {n : Int} {d : List UInt8} {q : Bool} (hq : fieldOk n d = q) (w : World) (hl : d.length ≤ 1099511627776) :
    Calls Tryz.prog 70 #[.agg #[.int .i64 n, .string ⟨d.toArray⟩]] w fun e w' => e = .returned (.bool q) ∧ Below w.heap.size w w' := by
  rw [← hq]; exact iFieldOk_any n d w hl
set_option maxHeartbeats 1600000 in
theorem iMessageOk_any (kd : Int) (ao : Option Addr) (cap : Nat) (fs : List Fld) (w : World) (hz : FldsAt w ao fs) (hn : fs.length ≤ 1048576) (hd : sumF fs ≤ 1048576) :
    Calls Tryz.prog 34 #[.agg #[.int .i64 kd, .slice ao fs.length cap]] w fun e w' => e = .returned (.bool (msgOk kd fs)) ∧ Below w.heap.size w w' := by
  by_cases hk0 : kd < 0
  · have HM : Hid (msgOk kd fs = false) := msgOk_kd (by omega)
    have hk1 : decide (kd < 0) = true := by simpa using hk0
    go_enter Tryz.func34, Tryz.ntmps34
    go_wp2
    go_quiet (exact Calls.quiet_of_same (tenTo_any 4 _ (by omega)))
    go_wp2
    go_ret
    exact ⟨one_bool HM.out.symm, below_drewN (by go_grown) _⟩
  · have hk1 : decide (kd < 0) = false := by simpa using hk0
    by_cases hk9 : 10000 ≤ kd
    · have HM : Hid (msgOk kd fs = false) := msgOk_kd (by omega)
      have hk2 : decide (10000 ≤ kd) = true := by simpa using hk9
      go_enter Tryz.func34, Tryz.ntmps34
      go_wp2
      go_quiet (exact Calls.quiet_of_same (tenTo_any 4 _ (by omega)))
      go_wp2
      go_ret
      exact ⟨one_bool HM.out.symm, below_drewN (by go_grown) _⟩
    · have hk2 : decide (10000 ≤ kd) = false := by simpa using hk9
      have HM : Hid (msgOk kd fs = okF 1 fs) := msgOk_fs (by omega)
      rcases hz with rfl | ⟨b, off, rfl, hb, hcell⟩
      · go_enter Tryz.func34, Tryz.ntmps34
        go_wp2
        go_quiet (exact Calls.quiet_of_same (tenTo_any 4 _ (by omega)))
        go_wp2
        refine wp_loop_rounds 1 ?_
        rw [rounds_succ]
        go_wp2
        go_ret
        exact ⟨one_bool HM.out.symm, below_drewN (by go_grown) _⟩
      · have HC : Hid (∀ i, i < fs.length → w.cell? ⟨b, off + i * 2, none⟩ = some (.int .i64 (at0 fs i).1) ∧ w.cell? ⟨b, off + i * 2 + 1, none⟩ = some (.string ⟨(at0 fs i).2.toArray⟩)) := hcell
        clear hcell
        go_enter Tryz.func34, Tryz.ntmps34
        go_wp2
        go_quiet (exact Calls.quiet_of_same (tenTo_any 4 _ (by omega)))
        go_wp2
        go_loopw [17] (fun i wr => ∃ k : Nat, k ≤ fs.length ∧ i = .int .i64 k ∧ okF 1 fs = okF (prevF fs k) (fs.drop k) ∧ Below w.heap.size w wr ∧ wr.cell? ⟨w.heap.size, 1, none⟩ = some (.slice (some ⟨b, off, none⟩) fs.length cap)) (fun i _ => fs.length - (intOf i).toNat)
        case atStart => exact ⟨0, Nat.zero_le _, rfl, rfl, below_drewN (by go_grown) _, by simp [go_sem]⟩
        case round =>
          obtain ⟨k, hk, rfl, hok, hbr, hbox⟩ := hrel
          have hws : w.heap.size < wr.heap.size := World.block_lt_of_cell? wr _ hbox
          by_cases hlt : k < fs.length
          · have c1 : wr.cell? ⟨b, off + k * 2, none⟩ = some (.int .i64 (at0 fs k).1) := (hbr.cell (p := ⟨b, off + k * 2, none⟩) hb).trans (HC.out k hlt).1
            have c2 : wr.cell? ⟨b, off + k * 2 + 1, none⟩ = some (.string ⟨(at0 fs k).2.toArray⟩) := (hbr.cell (p := ⟨b, off + k * 2 + 1, none⟩) hb).trans (HC.out k hlt).2
            have hki : (k : Int) < (fs.length : Int) := by omega
            have hst := okF_step fs k (prevF fs k) hlt
            have hdk := at0_le hlt hd
            have HPV : Hid (prevF fs (k + 1) = (at0 fs k).1) := rfl
            obtain ⟨⟨n, s⟩, hf⟩ : ∃ f, at0 fs k = f := ⟨_, rfl⟩
            rw [hf] at c1 c2 hst hdk HPV
            simp only at c1 c2 hst hdk HPV
            have hl : s.length ≤ 1099511627776 := by omega
            clear hf
            cases hq : fieldOk n s
            · have HN : Hid (msgOk kd fs = false) := by rw [Hid, HM.out, hok, hst, hq]; rfl
              have HQ : Hid _ := hq
              clear hq hst hok
              have hne := over_ne (wr.alloc (.cells #[.int .i64 n, .string ⟨s.toArray⟩] 57))
              have g1 := over_cell (W := wr.alloc (.cells #[.int .i64 n, .string ⟨s.toArray⟩] 57)) (a := ⟨wr.heap.size, 0, none⟩) (v := .int .i64 n) (by simp)
              have g2 := over_cell (W := wr.alloc (.cells #[.int .i64 n, .string ⟨s.toArray⟩] 57)) (a := ⟨wr.heap.size, 1, none⟩) (v := .string ⟨s.toArray⟩) (by simp)
              go_wp2
              refine wp_region_over (by kernel_rfl) (by kernel_rfl) ?_
              repeat (go_big_quiet_step (exact over_of (iFieldOk_is HQ.out _ hl)))
              refine wpQuiet_nil ?_
              rintro _ ⟨⟨w2, b2⟩, hw2⟩
              subst hw2
              go_wp2
              go_ret
              exact ⟨one_bool HN.out.symm, (hbr.alloc (Nat.le_of_lt hws) _).trans (b2.mono (by simp; omega))⟩
            · have HQ : Hid _ := hq
              rw [hq, Bool.true_and] at hst
              clear hq
              have hne := over_ne (wr.alloc (.cells #[.int .i64 n, .string ⟨s.toArray⟩] 57))
              have g1 := over_cell (W := wr.alloc (.cells #[.int .i64 n, .string ⟨s.toArray⟩] 57)) (a := ⟨wr.heap.size, 0, none⟩) (v := .int .i64 n) (by simp)
              have g2 := over_cell (W := wr.alloc (.cells #[.int .i64 n, .string ⟨s.toArray⟩] 57)) (a := ⟨wr.heap.size, 1, none⟩) (v := .string ⟨s.toArray⟩) (by simp)
              by_cases hk0' : k = 0
              · have hkz : decide (0 < k) = false := by simp [hk0']
                have hn1 : 1 < n := by have := known_K (ok_known HQ.out); omega
                have HN : Hid (okF 1 fs = okF (prevF fs (k + 1)) (fs.drop (k + 1))) := by
                  rw [Hid, hok, hst, HPV.out, show prevF fs k = 1 from by rw [hk0']; rfl, decide_eq_true hn1, Bool.true_and]
                clear hst hok hk0'
                go_wp2
                refine wp_region_over (by kernel_rfl) (by kernel_rfl) ?_
                repeat (go_big_quiet_step (exact over_of (iFieldOk_is HQ.out _ hl)))
                refine wpQuiet_nil ?_
                rintro _ ⟨⟨w2, b2⟩, hw2⟩
                subst hw2
                go_wp2
                go_roundw
                case rel => exact ⟨k + 1, by omega, by go_num, HN.out, (hbr.alloc (Nat.le_of_lt hws) _).trans (b2.mono (by simp; omega)), (b2.cell (p := ⟨w.heap.size, 1, none⟩) (by simp; omega)).trans (by rw [World.cell?_alloc_lt _ _ _ hws]; exact hbox)⟩
                case measure => simp [intOf]; omega
              · obtain ⟨j, rfl⟩ : ∃ j, k = j + 1 := ⟨k - 1, by omega⟩
                have hkz : decide (0 < j + 1) = true := by simp
                have c3 : wr.cell? ⟨b, off + j * 2, none⟩ = some (.int .i64 (at0 fs j).1) := (hbr.cell (p := ⟨b, off + j * 2, none⟩) hb).trans (HC.out j (by omega)).1
                have hjn : (j : Int) < (fs.length : Int) := by omega
                have hpv : prevF fs (j + 1) = (at0 fs j).1 := rfl
                obtain ⟨p, hp⟩ : ∃ p, (at0 fs j).1 = p := ⟨_, rfl⟩
                rw [hp] at c3 hpv
                have g3 := over_cell (W := wr.alloc (.cells #[.int .i64 n, .string ⟨s.toArray⟩] 57)) (a := ⟨w.heap.size, 1, none⟩) (v := .slice (some ⟨b, off, none⟩) fs.length cap) (by rw [World.cell?_alloc_lt _ _ _ hws]; exact hbox)
                have g4 := over_cell (W := wr.alloc (.cells #[.int .i64 n, .string ⟨s.toArray⟩] 57)) (a := ⟨b, off + j * 2, none⟩) (v := .int .i64 p) (by rw [World.cell?_alloc_lt _ _ _ (Nat.lt_of_lt_of_le hb hbr.size)]; exact c3)
                by_cases hpn : n ≤ p
                · have hdn : decide (n ≤ p) = true := by simpa using hpn
                  have HN : Hid (msgOk kd fs = false) := by rw [Hid, HM.out, hok, hst, hpv, decide_eq_false (by omega)]; rfl
                  clear hst hok hp hpv hpn
                  go_wp2
                  refine wp_region_over (by kernel_rfl) (by kernel_rfl) ?_
                  repeat (go_big_quiet_step (exact over_of (iFieldOk_is HQ.out _ hl)))
                  refine wpQuiet_nil ?_
                  rintro _ ⟨⟨w2, b2⟩, hw2⟩
                  subst hw2
                  go_wp2
                  go_ret
                  exact ⟨one_bool HN.out.symm, (hbr.alloc (Nat.le_of_lt hws) _).trans (b2.mono (by simp; omega))⟩
                · have hdn : decide (n ≤ p) = false := by simpa using hpn
                  have HN : Hid (okF 1 fs = okF (prevF fs (j + 1 + 1)) (fs.drop (j + 1 + 1))) := by
                    rw [Hid, hok, hst, HPV.out, hpv, decide_eq_true (by omega), Bool.true_and]
                  clear hst hok hp hpv hpn
                  go_wp2
                  refine wp_region_over (by kernel_rfl) (by kernel_rfl) ?_
                  repeat (go_big_quiet_step (exact over_of (iFieldOk_is HQ.out _ hl)))
                  refine wpQuiet_nil ?_
                  rintro _ ⟨⟨w2, b2⟩, hw2⟩
                  subst hw2
                  go_wp2
                  go_roundw
                  case rel => exact ⟨j + 1 + 1, by omega, by go_num, HN.out, (hbr.alloc (Nat.le_of_lt hws) _).trans (b2.mono (by simp; omega)), (b2.cell (p := ⟨w.heap.size, 1, none⟩) (by simp; omega)).trans (by rw [World.cell?_alloc_lt _ _ _ hws]; exact hbox)⟩
                  case measure => simp [intOf]; omega
          · have hke : k = fs.length := by omega
            subst hke
            have HN : Hid (msgOk kd fs = true) := by rw [Hid, HM.out, hok, okF_end]
            clear hok
            go_wp2
            go_ret
            exact ⟨one_bool HN.out.symm, hbr⟩
end Go.Proofs.YtjnekdihmchlpaaGreatDoor
/- The contract of the program's PackMessage. -/
namespace Go.Proofs.YtjnekdihmchlpaaGreatDoor
open Go.RowKit
theorem iPutSet_F {ao : Option Addr} {cap : Nat} {fs : List Fld} {w : World} (hx : IntsAt w ao (numsF fs)) (hl : fs.length ≤ 1048576) :
    Calls Tryz.prog 32 #[.slice ao fs.length cap] w fun e w' => e = .returned (.tuple #[.string ⟨(setF fs).toArray⟩, .bool (putS (numsF fs)).isSome]) ∧ Below w.heap.size w w' := by
  have h := iPutSet_any ao cap (numsF fs) w hx (by rw [numsF_len]; exact hl)
  rwa [numsF_len] at h
theorem iMsg_is {kd : Int} {ao : Option Addr} {cap : Nat} {fs : List Fld} {w : World} {q : Bool} (hq : msgOk kd fs = q) (hz : FldsAt w ao fs) (hn : fs.length ≤ 1048576) (hd : sumF fs ≤ 1048576) :
    Calls Tryz.prog 34 #[.agg #[.int .i64 kd, .slice ao fs.length cap]] w fun e w' => e = .returned (.bool q) ∧ Below w.heap.size w w' := by
  rw [← hq]; exact iMessageOk_any kd ao cap fs w hz hn hd
theorem setF_len (fs : List Fld) : (setF fs).length ≤ 16 := putS_len _
theorem okF_take {fs : List Fld} {p : Int} (h : okF p fs = true) (k : Nat) : ∀ f ∈ fs.take k, fieldOk f.1 f.2 = true := fun f hf => (okF_mem h f (List.mem_of_mem_take hf)).1
theorem body_bd {fs : List Fld} (h : okF 1 fs = true) (k : Nat) : (bodyP (fs.take k)).length ≤ 100000 := by
  have h1 := bodyP_len (okF_take h k)
  have h2 : (fs.take k).length ≤ fs.length := by rw [List.length_take]; omega
  rcases okF_len h (by omega) with h3 | h3
  · rw [h3] at h1 h2 ⊢; simp [bodyP]
  · omega
theorem body_step (fs : List Fld) (k : Nat) (h : k < fs.length) : bodyP (fs.take (k + 1)) = bodyP (fs.take k) ++ putFld (at0 fs k).1 (at0 fs k).2 := by
  have e : at0 fs k = fs[k] := by simp [at0, List.getD_eq_getElem?_getD, h]
  rw [List.take_succ_eq_append_getElem h, bodyP_append, e, bodyP_one]
set_option maxRecDepth 100000 in
set_option maxHeartbeats 1600000 in
theorem iPack_any (kd : Int) (ao : Option Addr) (cap : Nat) (fs : List Fld) (w : World) (hz : FldsAt w ao fs) (hn : fs.length ≤ 1048576) (hd : sumF fs ≤ 1048576) (ht : Pow10 w) :
    Calls Tryz.prog 9 #[.agg #[.int .i64 kd, .slice ao fs.length cap]] w fun e w' => e = .returned (.tuple #[.string ⟨(packL kd fs).toArray⟩, .bool (msgOk kd fs)]) ∧ Below w.heap.size w w' := by
  have bel : Below w.heap.size w (w.alloc (.cells #[.int .i64 kd, .slice ao fs.length cap] 30)) := by go_grown
  have HT : Hid (Pow10 w) := ht
  go_enter Tryz.func9, Tryz.ntmps9
  go_wp2_with fail
  refine (numsOf_any _ _ _ _ (hz.below bel) hn).mono ?_
  rintro e w1 ⟨rfl, o1, b1⟩
  obtain ⟨c0, c1, q1, hs1⟩ := box2 b1
  have i1 : IntsAt w1 (some ⟨(w.alloc (.cells #[.int .i64 kd, .slice ao fs.length cap] 30)).heap.size, 0, none⟩) (numsF fs) := ints_of_own o1
  clear b1 o1 bel ht
  go_wp2_with fail
  refine (iPutSet_F (by simpa using i1) hn).mono ?_
  rintro e w2 ⟨rfl, b2⟩
  have q2 := next q1 b2
  obtain ⟨d0, d1⟩ := keep2 c0 c1 b2
  have hsb := hs1
  clear i1 b2 q1 c0 c1
  cases hm : msgOk kd fs
  · have HN : Hid _ := packL_no hm
    have HM : Hid _ := hm
    clear hm
    cases hs : (putS (numsF fs)).isSome
    · go_wp2
      go_ret2
      exact ⟨str_ok (by rw [HN.out]) HM.out.symm, q2⟩
    · go_wp2_with fail
      refine (iMsg_is HM.out (hz.below q2) hn hd).mono ?_
      rintro e w3 ⟨rfl, b3⟩
      have q3 := next q2 b3
      clear b3 q2
      go_wp2
      go_ret2
      exact ⟨str_ok (by rw [HN.out]) HM.out.symm, q3⟩
  · have HY : Hid _ := packL_yes hm
    have HM : Hid _ := hm
    have HOK : Hid _ := (msgOk_parts hm).2
    rw [set_ok hm]
    clear hm
    go_wp2_with fail
    refine (iMsg_is HM.out (hz.below q2) hn hd).mono ?_
    rintro e w3 ⟨rfl, b3⟩
    have q3 := next q2 b3
    obtain ⟨c0, c1⟩ := keep2 d0 d1 b3
    clear b3 q2 d0 d1
    go_wp2_with fail
    refine (iPadNum_any _ _ _ (HT.out.below q3)).mono ?_
    rintro e w4 ⟨rfl, b4⟩
    have q4 := next q3 b4
    obtain ⟨d0, d1⟩ := keep2 c0 c1 b4
    have hpl := padT_l kd 4
    have hsl := setF_len fs
    have HT4 : Hid (Pow10 w4) := HT.out.below q4
    have HC : Hid (∀ i, i < fs.length → ∃ b off, ao = some ⟨b, off, none⟩ ∧ b < w4.heap.size ∧ w4.cell? ⟨b, off + i * 2, none⟩ = some (.int .i64 (at0 fs i).1) ∧ w4.cell? ⟨b, off + i * 2 + 1, none⟩ = some (.string ⟨(at0 fs i).2.toArray⟩)) := by
      rcases hz.below q4 with rfl | ⟨b, off, rfl, hb, hcell⟩
      · intro i hi; simp at hi
      · exact fun i hi => ⟨b, off, rfl, hb, hcell i hi⟩
    have HQ : Hid _ := q4
    clear b4 q3 c0 c1 q4 hz
    obtain ⟨p, hp⟩ : ∃ p, padT kd 4 = p := ⟨_, rfl⟩
    obtain ⟨s, hs⟩ : ∃ s, setF fs = s := ⟨_, rfl⟩
    rw [hp] at hpl HY ⊢
    rw [hs] at hsl HY ⊢
    clear hp hs
    go_wp2
    rw [ba_append]
    obtain ⟨H, hH⟩ : ∃ H, p ++ s = H := ⟨_, rfl⟩
    have hHl : H.length ≤ 34 := by rw [← hH, List.length_append]; omega
    rw [hH] at HY ⊢
    clear hH hpl hsl
    go_loopw [6, 33] (fun v i wr => ∃ k : Nat, k ≤ fs.length ∧ i = .int .i64 k ∧ v = .string ⟨(H ++ bodyP (fs.take k)).toArray⟩ ∧ Below w4.heap.size w4 wr) (fun _ i _ => fs.length - (intOf i).toNat)
    case atStart => exact ⟨0, Nat.zero_le _, rfl, by simp [bodyP], Below.refl _ _⟩
    case round =>
      obtain ⟨k, hk, rfl, rfl, hbr⟩ := hrel
      clear d0 d1
      have hbd := body_bd HOK.out k
      by_cases hlt : k < fs.length
      · obtain ⟨b, off, rfl, hb, e1, e2⟩ := HC.out k hlt
        have c1 : wr.cell? ⟨b, off + k * 2, none⟩ = some (.int .i64 (at0 fs k).1) := (hbr.cell (p := ⟨b, off + k * 2, none⟩) hb).trans e1
        have c2 : wr.cell? ⟨b, off + k * 2 + 1, none⟩ = some (.string ⟨(at0 fs k).2.toArray⟩) := (hbr.cell (p := ⟨b, off + k * 2 + 1, none⟩) hb).trans e2
        have hki : (k : Int) < (fs.length : Int) := by omega
        have HSTEP : Hid _ := body_step fs k hlt
        have hfo : fieldOk (at0 fs k).1 (at0 fs k).2 = true := (okF_mem HOK.out _ (at0_mem hlt)).1
        obtain ⟨⟨n, dt⟩, hf⟩ : ∃ f, at0 fs k = f := ⟨_, rfl⟩
        rw [hf] at c1 c2 HSTEP hfo
        simp only at c1 c2 HSTEP hfo
        have HF : Hid _ := hfo
        have hfl := putFld_len hfo
        have bx : Below w4.heap.size w4 (wr.alloc (.cells #[.int .i64 n, .string ⟨dt.toArray⟩] 57)) := hbr.alloc hbr.size _
        have HTr : Hid (Pow10 (wr.alloc (.cells #[.int .i64 n, .string ⟨dt.toArray⟩] 57))) := HT4.out.below bx
        obtain ⟨B, hB⟩ : ∃ B, H ++ bodyP (fs.take k) = B := ⟨_, rfl⟩
        have hBl : B.length ≤ 200000 := by rw [← hB, List.length_append]; omega
        rw [hB]
        have HB : Hid _ := hB
        clear hf hfo e1 e2 hB
        go_wp2_with fail
        refine (formOf_any _ _).mono ?_
        rintro e w5 ⟨rfl, hw5⟩
        subst hw5
        generalize knB n = kn
        go_wp2_with fail
        refine (putData_any _ _ _ HF.out HTr.out).mono ?_
        rintro e w6 ⟨rfl, b6⟩
        have bb : Below w4.heap.size w4 w6 := bx.trans (b6.mono (by have := hbr.size; simp; omega))
        obtain ⟨pf, hpf⟩ : ∃ x, putFld n dt = x := ⟨_, rfl⟩
        rw [hpf] at hfl HSTEP ⊢
        clear hpf b6 HTr bx
        generalize formV n = fv
        go_wp2
        go_roundw
        case rel => exact ⟨k + 1, by omega, by go_num, by rw [ba_append, HSTEP.out, ← HB.out, List.append_assoc], bb⟩
        case measure => simp [intOf]; omega
      · have hke : k = fs.length := by omega
        subst hke
        have HE : Hid (packL kd fs = H ++ bodyP (fs.take fs.length)) := by rw [Hid, HY.out, List.take_of_length_le (Nat.le_refl _)]
        obtain ⟨B, hB⟩ : ∃ B, H ++ bodyP (fs.take fs.length) = B := ⟨_, rfl⟩
        rw [hB] at HE ⊢
        clear hB
        go_wp2
        go_ret2
        exact ⟨str_ok (by rw [HE.out]) HM.out.symm, HQ.out.trans (hbr.mono HQ.out.size)⟩
end Go.Proofs.YtjnekdihmchlpaaGreatDoor
/- The contract of the program's GetTags. -/
namespace Go.Proofs.YtjnekdihmchlpaaGreatDoor.Tg
open Go.RowKit
theorem infoF : (Tryz.prog.info? 55).map (fun i => (i.zero, i.size, i.bytes)) = some (some (.agg #[.int .i64 0, .string ⟨#[]⟩]), 2, 24) := by kernel_rfl
theorem oneG (n : Int) (s : List UInt8) : ∀ u ∈ [Value.int .i64 n, .string ⟨s.toArray⟩], u.oneCell' = true := by
  intro u hu
  simp at hu
  rcases hu with rfl | rfl <;> rfl
theorem two_new (W : World) (x y : Value) (t : TypeId) (b : Nat) (hb : b = W.heap.size) : ∀ (j : Nat) (u : Value), [x, y][j]? = some u → (W.alloc (.cells #[x, y] t)).cell? ((⟨b, 0, none⟩ : Addr).add j) = some u := by
  subst hb
  intro j u h
  match j with
  | 0 => simp at h; subst h; simp [Addr.add, go_sem]
  | 1 => simp at h; subst h; simp [Addr.add, go_sem]
  | j + 2 => simp at h
/-- what GetTags hands back: a list of its own and whether there is one -/
def Gets (w : World) (o : Option (List Fld)) (e : Ending) (w' : World) : Prop :=
  ∃ a c, e = .returned (.tuple #[.slice a (o.getD []).length c, .bool o.isSome]) ∧ w'.ownsRow w.heap.size 55 2 (.slice a (o.getD []).length c) (o.getD []).length (fcells (o.getD [])) ∧ Below w.heap.size w w'
theorem tagI_no {l : List UInt8} {a : Nat} (h : hasB l.length a 4 = false) : tagI l a = (0, []) ∧ endI l a = -1 := ⟨if_neg (by rw [h]; decide), if_neg (by rw [h]; decide)⟩
theorem tagI_yes {l : List UInt8} {a : Nat} (h : hasB l.length a 4 = true) : tagI l a = (numOf ((l.drop a).take 4), varL l (a + 4) 3) ∧ endI l a = varI l (a + 4) 3 := ⟨if_pos h, if_pos h⟩
theorem varL_le (l : List UInt8) (i n : Int) : (varL l i n).length ≤ l.length := by
  unfold varL; split
  · rw [List.length_take, List.length_drop]; omega
  · simp
theorem endI_le {l : List UInt8} {a : Nat} (h : ¬ endI l a < 0) : a + 7 ≤ (endI l a).toNat ∧ (endI l a).toNat ≤ l.length := by
  cases hb : hasB l.length a 4
  · rw [(tagI_no hb).2] at h; omega
  · rw [(tagI_yes hb).2] at h ⊢
    cases hv : varOk l (a + 4) 3
    · rw [(var_no hv).2] at h; omega
    · rw [(var_yes hv).2] at h ⊢
      unfold varOk at hv
      simp at hv
      omega
set_option maxHeartbeats 1600000 in
theorem getTag_any (l : List UInt8) (a : Nat) (w : World) (hl : l.length ≤ 999) (_ha : a < l.length) :
    Calls Tryz.prog 41 #[.string ⟨l.toArray⟩, .int .i64 a] w fun e w' => e = .returned (.tuple #[.agg #[.int .i64 (tagI l a).1, .string ⟨(tagI l a).2.toArray⟩], .int .i64 (endI l a)]) ∧ Below w.heap.size w w' := by
  have bel1 : Below w.heap.size w (w.alloc (.cells #[.int .i64 0, .string ⟨#[]⟩] 55)) := by go_grown
  cases hb : hasB l.length a 4
  · obtain ⟨e1, e2⟩ := tagI_no hb
    rw [e1, e2]
    go_enter Tryz.func41, Tryz.ntmps41
    go_wp2_with fail
    refine (hasBytes_any l _ _ _ (by omega)).mono ?_
    rintro e w1 ⟨rfl, hw1⟩
    subst hw1
    rw [hb]
    clear e1 e2 hb
    go_wp2
    refine bodyPost_ret (by simp [results, Tryz.results41, go_sem]; try rfl) rfl ?_
    exact ⟨rfl, by go_grown⟩
  · obtain ⟨e1, e2⟩ := tagI_yes hb
    have hin := hasB_in hb
    have hvl := varL_le l (a + 4) 3
    rw [e1, e2]
    clear e1 e2
    have HB : Hid _ := hb
    have hpc := piece_eq l a 4
    obtain ⟨P, hP⟩ : ∃ P, (l.drop a).take 4 = P := ⟨_, rfl⟩
    have hPl : P.length ≤ 4 := by rw [← hP, List.length_take]; omega
    rw [hP] at hpc ⊢
    have h4 : a + 4 ≤ l.length := by omega
    clear hb hP
    go_enter Tryz.func41, Tryz.ntmps41
    go_wp2_with fail
    refine (hasBytes_any l _ _ _ (by omega)).mono ?_
    rintro e w1 ⟨rfl, hw1⟩
    subst hw1
    rw [HB.out]
    go_wp2_with fail
    refine (iGetVar_any l _ _ _ (by omega)).mono ?_
    rintro e w2 ⟨rfl, b2⟩
    obtain ⟨V, hV⟩ : ∃ V, varL l (a + 4) 3 = V := ⟨_, rfl⟩
    obtain ⟨I, hI⟩ : ∃ I, varI l (a + 4) 3 = I := ⟨_, rfl⟩
    rw [hV] at hvl ⊢
    rw [hI]
    have HV : Hid _ := hV
    have HI : Hid _ := hI
    clear hV hI
    have x0 := (b2.cell (p := ⟨w.heap.size, 0, none⟩) (by simp)).trans (show _ = some (.int .i64 0) by simp)
    have x1 := (b2.cell (p := ⟨w.heap.size, 1, none⟩) (by simp)).trans (show _ = some (.string ⟨#[]⟩) by simp)
    have y0 := (b2.frozen (p := ⟨w.heap.size, 0, none⟩) (by simp)).trans (show _ = false by simp)
    have y1 := (b2.frozen (p := ⟨w.heap.size, 1, none⟩) (by simp)).trans (show _ = false by simp)
    have q2 := next bel1 b2
    clear b2 bel1
    go_wp2_with fail
    rw [hpc]
    refine (iNumOf_any P _ (by omega)).mono ?_
    rintro e w3 ⟨rfl, hw3⟩
    subst hw3
    have HX : Hid _ := q2
    clear hpc q2
    go_wp2
    refine bodyPost_ret (by simp [results, Tryz.results41, go_sem, x0, x1]; try rfl) rfl ?_
    rw [HV.out, HI.out]
    exact ⟨rfl, (HX.out.setCell (Nat.le_refl _) _).setCell (Nat.le_refl _) _⟩
theorem gets_none (w w' : World) (l : List UInt8) (h : gotT l = none) (hb : Below w.heap.size w w') : Gets w (gotT l) (.returned (.tuple #[.slice none 0 0, .bool false])) w' := by
  rw [h]; exact ⟨none, 0, rfl, World.ownsRow_nil _ _ _ _, hb⟩
set_option maxRecDepth 100000 in
set_option maxHeartbeats 3200000 in
theorem iGetTags_any (l : List UInt8) (w : World) (hl : l.length ≤ 1048576) (ht : Pow10 w) :
    Calls Tryz.prog 12 #[.string ⟨l.toArray⟩] w (Gets w (gotT l)) := by
  obtain ⟨i0, hi, hz0, hz1, hz2⟩ := info_parts infoF
  have HT : Hid (Pow10 w) := ht
  clear ht
  by_cases hbig : 999 < l.length
  · have hb9 : (999 : Int) < (l.length : Int) := by omega
    have HN : Hid _ := got_big hbig
    go_enter Tryz.func12, Tryz.ntmps12
    go_wp2
    go_ret2
    exact gets_none _ _ _ HN.out (Below.refl _ _)
  have hb9 : ¬ (999 : Int) < (l.length : Int) := by omega
  have hl9 : l.length ≤ 999 := by omega
  clear hl hbig
  go_enter Tryz.func12, Tryz.ntmps12
  go_wp2
  go_loopw [4, 5] (fun v i wr => ∃ (f a : Nat) (acc : List Fld), a ≤ l.length ∧ i = .int .i64 a ∧ rdI l (l.length + 1) 0 [] = rdI l f a acc ∧ l.length < a + f ∧ acc.length * 7 ≤ a ∧ (∀ g ∈ acc, g.2.length ≤ 999) ∧ wr.ownsRow w.heap.size 55 2 v acc.length (fcells acc) ∧ Below w.heap.size w wr) (fun _ i _ => l.length - (intOf i).toNat)
  case atStart => exact ⟨l.length + 1, 0, [], Nat.zero_le _, rfl, rfl, by omega, by simp, (fun g hg => by cases hg), World.ownsRow_nil _ _ _ _, Below.refl _ _⟩
  case round =>
    obtain ⟨f, a, acc, ha, rfl, hrd, hf, hal, hmem, ho, hbr⟩ := hrel
    obtain ⟨va, vc, hv, -, -⟩ := flds_of_own' ho
    subst hv
    have HO : Hid (wr.ownsRow w.heap.size 55 2 (.slice va acc.length vc) acc.length (fcells acc)) := ho
    have HM : Hid (∀ g ∈ acc, g.2.length ≤ 999) := hmem
    clear ho hmem
    by_cases hlt : a < l.length
    · have hai : (a : Int) < (l.length : Int) := by omega
      by_cases hneg : endI l a < 0
      · have HN : Hid (gotT l = none) := by unfold gotT; rw [Hid, hrd, rdI_no hlt hneg]; rfl
        clear hrd
        go_wp2_with fail
        refine (getTag_any l a _ hl9 hlt).mono ?_
        rintro e w1 ⟨rfl, b1⟩
        have bb := next hbr b1
        obtain ⟨E, hE⟩ : ∃ E, endI l a = E := ⟨_, rfl⟩
        obtain ⟨⟨n, s⟩, hT⟩ : ∃ t, tagI l a = t := ⟨_, rfl⟩
        rw [hE] at hneg ⊢
        rw [hT]
        clear hE hT b1
        go_wp2
        go_ret2
        exact gets_none _ _ _ HN.out (bb.alloc bb.size _)
      · obtain ⟨g, rfl⟩ : ∃ g, f = g + 1 := ⟨f - 1, by omega⟩
        have hle := endI_le hneg
        have hst : rdI l (l.length + 1) 0 [] = rdI l g (endI l a).toNat (acc ++ [tagI l a]) := by rw [hrd, rdI_go hlt hneg]
        have hvl : (tagI l a).2.length ≤ 999 := by
          have := varL_le l (a + 4) 3
          unfold tagI; split
          · simp only; omega
          · simp
        clear hrd
        go_wp2_with fail
        refine (getTag_any l a _ hl9 hlt).mono ?_
        rintro e w1 ⟨rfl, b1⟩
        have bb := next hbr b1
        obtain ⟨q, hq⟩ : ∃ q : Nat, endI l a = q := ⟨_, (Int.toNat_of_nonneg (by omega)).symm⟩
        obtain ⟨⟨n, s⟩, hT⟩ : ∃ t, tagI l a = t := ⟨_, rfl⟩
        rw [hq] at hst hle ⊢
        rw [hT] at hst hvl ⊢
        simp only [Int.toNat_natCast] at hst hle hvl
        have hqn : ¬ (q : Int) < 0 := by omega
        have HST : Hid _ := hst
        have HO1 : Hid (w1.ownsRow w.heap.size 55 2 (.slice va acc.length vc) acc.length (fcells acc)) := keepRow HO.out b1
        have hbs := bb.size
        clear hq hT hst b1 HO hneg
        go_wp2_with (at_builtin; refine wpList_append_own _ rfl (.tmp 25) (.tmp 27) 39 rfl w.heap.size 55 i0 _ 2 24 Tryz.underlying39 hi hz0 hz1 hz2 rfl (by decide) _ _ _ rfl ((HO1.out.alloc _).alloc _) ⟨w1.heap.size + 1, 0, none⟩ 1 1 [.int .i64 n, .string ⟨s.toArray⟩] rfl rfl (two_new _ _ _ _ _ (by simp)) (oneG n s) (by unfold maxLen <;> omega) (by omega) (by simp <;> omega) ?_; intro v5 w5 o5 g5 _)
        have hb5 : Below w.heap.size w w5 := ((bb.alloc hbs _).alloc (by simp; omega) _).grown g5 (by simp; omega) (fun j hj => (HO1.out.lt j hj).1)
        have HR : Hid (w5.ownsRow w.heap.size 55 2 v5 (acc ++ [(n, s)]).length (fcells (acc ++ [(n, s)]))) := by rw [Hid, fcells_append, List.length_append]; exact o5
        clear o5 g5 HO1
        go_wp2
        go_roundw
        case rel =>
          refine ⟨g, q, acc ++ [(n, s)], by omega, rfl, HST.out, by omega, by simp; omega, fun x hx => ?_, HR.out, hb5⟩
          rcases List.mem_append.1 hx with h | h
          · exact HM.out x h
          · obtain rfl : x = (n, s) := by simpa using h
            exact hvl
        case measure => simp [intOf]; omega
    · have hal2 : a = l.length := by omega
      subst hal2
      have hgt : gotT l = onlyT l (some acc) := by unfold gotT; rw [hrd, rdI_end (by omega) (by omega)]
      have hpw : Pow10 wr := HT.out.below hbr
      have hfl : FldsAt wr va acc := by
        obtain ⟨a', c', hv, hf', -⟩ := flds_of_own' HO.out
        obtain ⟨rfl, _⟩ : va = a' ∧ vc = c' := by simpa using hv
        exact hf'
      clear hrd
      cases hpo : putOk acc
      · have HN : Hid (gotT l = none) := by rw [Hid, hgt]; exact only_no (fun h => by rw [hpo] at h; exact absurd h.1 (by decide))
        go_wp2_with fail
        refine (iPutTags_any _ _ _ _ hfl (by omega) (fun g hg => by have := HM.out g hg; omega) hpw).mono ?_
        rintro e w1 ⟨rfl, b1⟩
        rw [hpo]
        have bb := next hbr b1
        generalize putL acc = pl
        clear hpo hgt b1
        go_wp2
        go_ret2
        exact gets_none _ _ _ HN.out bb
      · by_cases heq : putTs acc = l
        · have HY : Hid (gotT l = some acc) := by rw [Hid, hgt]; exact only_of hpo heq
          have HP : Hid (putL acc = l) := by rw [Hid, putL_yes hpo, heq]
          go_wp2_with fail
          refine (iPutTags_any _ _ _ _ hfl (by omega) (fun g hg => by have := HM.out g hg; omega) hpw).mono ?_
          rintro e w1 ⟨rfl, b1⟩
          rw [hpo, HP.out]
          have bb := next hbr b1
          have HO1 : Hid (w1.ownsRow w.heap.size 55 2 (.slice va acc.length vc) acc.length (fcells acc)) := keepRow HO.out b1
          have hll : (l == l) = true := by simp
          clear hpo hgt b1 heq
          go_wp2
          go_ret2
          rw [HY.out]
          exact ⟨_, _, rfl, HO1.out, bb⟩
        · have HN : Hid (gotT l = none) := by rw [Hid, hgt]; exact only_no (fun h => heq h.2)
          have hne : (putL acc == l) = false := by rw [putL_yes hpo]; simpa using heq
          go_wp2_with fail
          refine (iPutTags_any _ _ _ _ hfl (by omega) (fun g hg => by have := HM.out g hg; omega) hpw).mono ?_
          rintro e w1 ⟨rfl, b1⟩
          rw [hpo]
          have bb := next hbr b1
          generalize putL acc = pl at hne
          clear hpo hgt b1 heq
          go_wp2
          go_ret2
          exact gets_none _ _ _ HN.out bb
end Go.Proofs.YtjnekdihmchlpaaGreatDoor.Tg
