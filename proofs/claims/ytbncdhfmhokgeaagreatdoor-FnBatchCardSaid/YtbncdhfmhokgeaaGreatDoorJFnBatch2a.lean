/- Joined: FGetF, FRead, DrawPick, Drawn, DrawTx. -/
import Derived.Test.YtbncdhfmhokgeaaGreatDoorJFnBatch1a
import Derived.Test.YtbncdhfmhokgeaaGreatDoorKFnBatchFFits
import Derived.Test.YtbncdhfmhokgeaaGreatDoorKFnBatchFGSet
import Derived.WalkLawsBesides
import Derived.Test.YtbncdhfmhokgeaaGreatDoorKFnBatchDraw
import Derived.Test.YtbncdhfmhokgeaaGreatDoorJFnBatch0a
/- The contracts of the program's readers of a field's data. -/
namespace Go.Proofs.YtbncdhfmhokgeaaGreatDoor
open Go.RowKit

set_option maxRecDepth 100000 in
set_option maxHeartbeats 800000 in
theorem getCounted_any (l : List UInt8) (i : Nat) (w : World) (hl : l.length ≤ 1048576) :
    Calls Tryz.prog 166 #[.string ⟨l.toArray⟩, .int .i64 i] w fun e w' => e = .returned (.tuple #[.string ⟨(if hasB l.length i 2 = true then getL l (i + 2) (numOf ((l.drop i).take 2)) else []).toArray⟩, .int .i64 (if hasB l.length i 2 = true then getI l (i + 2) (numOf ((l.drop i).take 2)) else -1)]) ∧ Below w.heap.size w w' := by
  cases hb : hasB l.length i 2
  · rw [if_neg (by decide), if_neg (by decide)]
    go_enter Tryz.func166, Tryz.ntmps166
    go_wp2_with fail
    refine (hasBytes_any _ _ _ _ (by omega)).mono ?_
    rintro e w1 ⟨rfl, hw1⟩
    subst hw1
    rw [hb]
    go_wp2
    go_ret2
    exact ⟨rfl, Below.refl _ _⟩
  · rw [if_pos rfl, if_pos rfl]
    have hin := hasB_in hb
    have HB : Hid _ := hb
    have HP : Hid _ := piece_eq l i 2
    have hpl : ((l.drop i).take 2).length ≤ 1099511627776 := by simp; omega
    have i1 : (i : Int) ≤ (i : Int) + 2 := by omega
    have i2 : (i : Int) + 2 ≤ (l.length : Int) := by omega
    clear hb hin
    go_enter Tryz.func166, Tryz.ntmps166
    go_wp2_with fail
    refine (hasBytes_any _ _ _ _ (by omega)).mono ?_
    rintro e w1 ⟨rfl, hw1⟩
    subst hw1
    rw [HB.out]
    go_wp2_with fail
    rw [HP.out]
    refine (iNumOf_any _ _ hpl).mono ?_
    rintro e w1 ⟨rfl, hw1⟩
    subst hw1
    have hnb := numOf_bd ((l.drop i).take 2)
    go_wp2_with fail
    refine (iGetDigits_any _ _ _ _ (by omega)).mono ?_
    rintro e w2 ⟨rfl, b2⟩
    go_wp2
    go_ret2
    exact ⟨rfl, b2⟩

set_option maxRecDepth 100000 in
set_option maxHeartbeats 800000 in
theorem getBytes_any (l : List UInt8) (i m : Nat) (w : World) (hl : l.length ≤ 1048576) (hm : m ≤ 999) :
    Calls Tryz.prog 167 #[.string ⟨l.toArray⟩, .int .i64 i, .int .i64 m] w fun e w' => e = .returned (.tuple #[.string ⟨(if hasB l.length i m = true then (l.drop i).take m else []).toArray⟩, .int .i64 (if hasB l.length i m = true then (i : Int) + m else -1)]) ∧ Below w.heap.size w w' := by
  cases hb : hasB l.length i m
  · rw [if_neg (by decide), if_neg (by decide)]
    go_enter Tryz.func167, Tryz.ntmps167
    go_wp2_with fail
    refine (hasBytes_any _ _ _ _ (by omega)).mono ?_
    rintro e w1 ⟨rfl, hw1⟩
    subst hw1
    rw [hb]
    go_wp2
    go_ret2
    exact ⟨rfl, Below.refl _ _⟩
  · rw [if_pos rfl, if_pos rfl]
    have hin := hasB_in hb
    have HB : Hid _ := hb
    have HP : Hid _ := piece_eq l i m
    have hpl : ((l.drop i).take m).length ≤ 1099511627776 := by simp; omega
    have i1 : (i : Int) ≤ (i : Int) + (m : Int) := by omega
    have i2 : (i : Int) + (m : Int) ≤ (l.length : Int) := by omega
    clear hb hin
    go_enter Tryz.func167, Tryz.ntmps167
    go_wp2_with fail
    refine (hasBytes_any _ _ _ _ (by omega)).mono ?_
    rintro e w1 ⟨rfl, hw1⟩
    subst hw1
    rw [HB.out]
    go_wp2_with fail
    rw [HP.out]
    refine (clone_any _ _ hpl).mono ?_
    rintro e w2 ⟨rfl, b2⟩
    go_wp2
    go_ret2
    exact ⟨rfl, b2⟩

set_option maxRecDepth 100000 in
set_option maxHeartbeats 1600000 in
theorem getData_any (l : List UInt8) (i : Nat) (n : Int) (w : World) (hl : l.length ≤ 1048576) (hn : n ∈ knowns) :
    Calls Tryz.prog 140 #[formV n, .string ⟨l.toArray⟩, .int .i64 i] w fun e w' => e = .returned (.tuple #[.string ⟨(rawL l i n).toArray⟩, .int .i64 (rawI l i n)]) ∧ Below w.heap.size w w' := by
  have hks := known_K hn
  rcases hks.1 with hk | hk | hk | hk | hk
  · rw [formV1 hk, (raw1 hk).1, (raw1 hk).2]
    have h1 := ta11 (fS n)
    clear hk hks hn
    go_enter Tryz.func140, Tryz.ntmps140
    go_wp2_with fail
    refine (iGetDigits_any _ _ _ _ (by omega)).mono ?_
    rintro e w1 ⟨rfl, b1⟩
    go_wp2
    go_ret2
    exact ⟨rfl, Below.trans (by go_grown) (b1.mono (by simp))⟩
  · rw [formV2 hk, (raw2 hk).1, (raw2 hk).2, Int.toNat_natCast]
    have h1 := ta21 (fS n)
    have h2 := ta22 (fS n)
    have hg := fun w => getCounted_any l i w hl
    generalize (if hasB l.length i 2 = true then getL l (i + 2) (numOf ((l.drop i).take 2)) else []) = A at hg ⊢
    generalize (if hasB l.length i 2 = true then getI l (i + 2) (numOf ((l.drop i).take 2)) else -1) = B at hg ⊢
    clear hk hks hn
    go_enter Tryz.func140, Tryz.ntmps140
    go_wp2_with fail
    refine (hg _).mono ?_
    rintro e w1 ⟨rfl, b1⟩
    go_wp2
    go_ret2
    exact ⟨rfl, Below.trans (by go_grown) (b1.mono (by simp))⟩
  · rw [formV3 hk, (raw3 hk).1, (raw3 hk).2, Int.toNat_natCast]
    have h1 := ta31 (fS n)
    have h2 := ta32 (fS n)
    have h3 := ta33 (fS n)
    obtain ⟨m, hm⟩ := Int.eq_ofNat_of_zero_le hks.2.1
    rw [hm] at h1 h2 h3 ⊢
    have hm9 : m ≤ 999 := by omega
    clear hk hks hn hm
    rw [Int.toNat_natCast]
    have hg := fun w => getBytes_any l i m w hl hm9
    generalize (if hasB l.length i m = true then (l.drop i).take m else []) = A at hg ⊢
    generalize (if hasB l.length i m = true then (i : Int) + m else -1) = B at hg ⊢
    go_enter Tryz.func140, Tryz.ntmps140
    go_wp2_with fail
    refine (hg _).mono ?_
    rintro e w1 ⟨rfl, b1⟩
    go_wp2
    go_ret2
    exact ⟨rfl, Below.trans (by go_grown) (b1.mono (by simp))⟩
  · rw [formV4 hk, (raw4 hk).1, (raw4 hk).2]
    have h1 := ta41 (fS n) 2
    have h2 := ta42 (fS n) 2
    have h3 := ta43 (fS n) 2
    have h4 := ta44 (fS n) 2
    clear hk hks hn
    go_enter Tryz.func140, Tryz.ntmps140
    go_wp2_with fail
    refine (iGetVar_any _ _ _ _ (by omega)).mono ?_
    rintro e w1 ⟨rfl, b1⟩
    go_wp2
    go_ret2
    exact ⟨rfl, Below.trans (by go_grown) (b1.mono (by simp))⟩
  · rw [formV5 hk, (raw5 hk).1, (raw5 hk).2]
    have h1 := ta41 (fS n) 3
    have h2 := ta42 (fS n) 3
    have h3 := ta43 (fS n) 3
    have h4 := ta44 (fS n) 3
    clear hk hks hn
    go_enter Tryz.func140, Tryz.ntmps140
    go_wp2_with fail
    refine (iGetVar_any _ _ _ _ (by omega)).mono ?_
    rintro e w1 ⟨rfl, b1⟩
    go_wp2
    go_ret2
    exact ⟨rfl, Below.trans (by go_grown) (b1.mono (by simp))⟩

end Go.Proofs.YtbncdhfmhokgeaaGreatDoor

/- The contracts of the program's readers of a message's parts: each answers, or it panics with a fault. -/
namespace Go.Proofs.YtbncdhfmhokgeaaGreatDoor
open Go.RowKit

def faultV (c a : Int) : Value := .iface 70 (.agg #[.int .i64 c, .int .i64 a])
/-- a panic with a fault of the message -/
def faultE (c a : Int) : Ending := .panicked [{ v := faultV c a, recovered := false }]

def kindE (l : List UInt8) : Ending := if kindOk l = true then .returned (.int .i64 (numOf (l.take 4))) else faultE 1 0
theorem kindE_no {l : List UInt8} (h : kindOk l = false) : kindE l = faultE 1 0 := by unfold kindE; rw [h]; rfl
theorem kindE_yes {l : List UInt8} (h : kindOk l = true) : kindE l = .returned (.int .i64 (numOf (l.take 4))) := by unfold kindE; rw [h]; rfl
theorem four_eq (l : List UInt8) : (⟨l.toArray⟩ : ByteArray).extract 0 4 = ⟨(l.take 4).toArray⟩ := piece_eq l 0 4

set_option maxRecDepth 100000 in
set_option maxHeartbeats 800000 in
theorem readKind_any (l : List UInt8) (w : World) (hl : l.length ≤ 1048576) :
    Calls Tryz.prog 97 #[.string ⟨l.toArray⟩] w fun e w' => e = kindE l ∧ w' = w := by
  cases hb : hasB l.length 0 4
  · have HK : Hid _ := kindE_no (l := l) (by simp [kindOk, hb])
    go_enter Tryz.func97, Tryz.ntmps97
    go_wp2_with fail
    refine (hasBytes_any _ _ _ _ (by omega)).mono ?_
    rintro e w1 ⟨rfl, hw1⟩
    subst hw1
    rw [hb]
    go_wp2
    exact ⟨rfl, HK.out.symm, rfl⟩
  · have hin := hasB_in hb
    have i2 : (4 : Int) ≤ (l.length : Int) := by omega
    have HP : Hid _ := four_eq l
    have hpl : (l.take 4).length ≤ 1099511627776 := by simp; omega
    cases hd : within 48 57 (l.take 4)
    · have HK : Hid _ := kindE_no (l := l) (by simp [kindOk, hd])
      have HB : Hid _ := hb
      clear hb hin
      go_enter Tryz.func97, Tryz.ntmps97
      go_wp2_with fail
      refine (hasBytes_any _ _ _ _ (by omega)).mono ?_
      rintro e w1 ⟨rfl, hw1⟩
      subst hw1
      rw [HB.out]
      go_wp2_with fail
      rw [HP.out]
      refine (iDigits_any _ _ hpl).mono ?_
      rintro e w1 ⟨rfl, hw1⟩
      subst hw1
      rw [hd]
      go_wp2
      exact ⟨rfl, HK.out.symm, rfl⟩
    · have HK : Hid _ := kindE_yes (l := l) (by simp [kindOk, hd, hb])
      have HB : Hid _ := hb
      clear hb hin
      go_enter Tryz.func97, Tryz.ntmps97
      go_wp2_with fail
      refine (hasBytes_any _ _ _ _ (by omega)).mono ?_
      rintro e w1 ⟨rfl, hw1⟩
      subst hw1
      rw [HB.out]
      go_wp2_with fail
      rw [HP.out]
      refine (iDigits_any _ _ hpl).mono ?_
      rintro e w1 ⟨rfl, hw1⟩
      subst hw1
      rw [hd]
      go_wp2_with fail
      rw [HP.out]
      refine (iNumOf_any _ _ hpl).mono ?_
      rintro e w1 ⟨rfl, hw1⟩
      subst hw1
      go_wp2
      go_ret
      exact ⟨HK.out.symm, rfl⟩

/-- a list of one's own and a place, or a fault -/
def Nums (w : World) (l : List UInt8) (e : Ending) (w' : World) : Prop :=
  if getSI l 4 < 0 then e = faultE 2 4 ∧ Below w.heap.size w w' else Sets w (getSL l 4) (getSI l 4) e w'

set_option maxRecDepth 100000 in
set_option maxHeartbeats 800000 in
theorem readNums_any (l : List UInt8) (w : World) (hl : l.length ≤ 1048576) :
    Calls Tryz.prog 98 #[.string ⟨l.toArray⟩] w fun e w' => Nums w l e w' := by
  go_enter Tryz.func98, Tryz.ntmps98
  go_wp2_with fail
  refine (iGetSet_any _ _ _ hl).mono ?_
  rintro e w1 ⟨ao, cap, rfl, ho, hb⟩
  have HU : Hid _ := show Nums w l = fun e w' => (if getSI l 4 < 0 then e = faultE 2 4 ∧ Below w.heap.size w w' else Sets w (getSL l 4) (getSI l 4) e w') from rfl
  obtain ⟨p, hp⟩ : ∃ p, getSI l 4 = p := ⟨_, rfl⟩
  rw [hp] at HU ⊢
  by_cases h : p < 0
  · have HQ : Hid (∀ w', Below w.heap.size w w' → Nums w l (faultE 2 4) w') := fun w' hb => by rw [HU.out]; simp only [if_pos h]; exact ⟨trivial, hb⟩
    clear hp HU
    go_wp2
    exact ⟨rfl, HQ.out _ hb⟩
  · have HQ : Hid (∀ e w', Sets w (getSL l 4) p e w' → Nums w l e w') := fun e w' hs => by rw [HU.out]; simp only [if_neg h]; exact hs
    have h' : 0 ≤ p := by omega
    clear hp HU h
    go_wp2
    go_ret2
    exact HQ.out _ _ ⟨ao, cap, rfl, ho, hb⟩

end Go.Proofs.YtbncdhfmhokgeaaGreatDoor

/- What is drawn from a list of ints, and what fits an int. -/
namespace Go.Proofs.YtbncdhfmhokgeaaGreatDoor
open Go.RowKit

theorem lit_cells (w : World) (zs : List Int) (arr : Array Value) (h : arr = (zs.map (Value.int .i64)).toArray) :
    ∀ i, i < zs.length → (w.alloc (.cells arr 3)).cell? ⟨w.heap.size, i, none⟩ = some (.int .i64 (zs.getD i 0)) := by
  intro i hi
  subst h
  simp [List.getD_eq_getElem?_getD, hi]

theorem cursor_ne {B : Nat} {w : World} {g : Nat} (hc : Cursor B w g) : w.heap.size ≠ g := by
  have := cursor_bd hc; omega
theorem cursor_alloc {B : Nat} {w : World} {g : Nat} (hc : Cursor B w g) (o : Obj) : Cursor B (w.alloc o) g := cursor_below hc ((Below.refl _ _).alloc (Nat.le_refl _) _)
theorem grown_alloc (w : World) (o : Obj) (row : Option Nat) : w.grownBy (w.alloc o) row := World.grownBy_alloc w o row

set_option maxHeartbeats 800000 in
theorem pickInt_any {B : Nat} (g b cap : Nat) (zs : List Int) (w : World) (hc : Cursor B w g) (hbg : b ≠ g) (hz : ∀ i, i < zs.length → w.cell? ⟨b, i, none⟩ = some (.int .i64 (zs.getD i 0))) (h1 : 1 ≤ zs.length) (h2 : zs.length ≤ 1000) :
    Calls Tryz.prog 79 #[.pointer (some ⟨g, 0, none⟩), .slice (some ⟨b, 0, none⟩) zs.length cap] w fun e w' => ∃ x : Int, e = .returned (.int .i64 x) ∧ x ∈ zs ∧ Cursor B w' g ∧ w.grownBy w' (some g) := by
  go_enter Tryz.func79, Tryz.ntmps79
  go_wp2_with fail
  refine (below_any _ _ _ hc (by omega)).mono ?_
  rintro e w1 ⟨x, rfl, x0, x1, c1, g1⟩
  have hx := x1 (by omega)
  obtain ⟨k, rfl⟩ := Int.eq_ofNat_of_zero_le x0
  have hk : k < zs.length := by omega
  have cb : w1.cell? ⟨b, k, none⟩ = some (.int .i64 (zs.getD k 0)) := g1.cell (a := ⟨b, k, none⟩) (hz k hk) (by simpa using hbg)
  have hm : zs.getD k 0 ∈ zs := by simp [List.getD_eq_getElem?_getD, hk]
  generalize zs.getD k 0 = z at cb hm
  clear hz x1
  go_wp2
  go_ret
  exact ⟨z, rfl, hm, c1, g1⟩

/-- what is drawn as an int fits 64 bits -/
def Fits (x : Int) : Prop := -9223372036854775808 ≤ x ∧ x ≤ 9223372036854775807
theorem fits_wf {x : Int} (h : Fits x) : (Lit.int .i64 x).wf = true := by
  simp [Lit.wf, IntKind.min, IntKind.max, IntKind.signed, IntKind.bits]; exact h
theorem fits_small {x : Int} (h1 : -1000000000000 ≤ x) (h2 : x ≤ 1000000000000) : Fits x := ⟨by omega, by omega⟩

end Go.Proofs.YtbncdhfmhokgeaaGreatDoor

/- What every law over drawn bytes begins with. -/
namespace Go.Proofs.YtbncdhfmhokgeaaGreatDoor
open Go.RowKit

theorem bel_grown {w w1 w2 : World} {g : Nat} (h : Below w.heap.size w w1) (hg : w1.grownBy w2 (some g)) (h0 : w.heap.size ≤ g) : Below w.heap.size w w2 :=
  h.grown hg h.size (fun k hk => by cases hk; exact h0)
theorem row_below {k : IntKind} {w w' : World} {a : Option Addr} {len cap : Nat} {zs : List Int} (h : IsRow k w a len cap zs) (hb : Below w.heap.size w w') : IsRow k w' a len cap zs := by
  rcases h with h | ⟨x, h1, h2, h3, h4, h5, h6⟩
  · exact .inl h
  · exact .inr ⟨x, h1, h2, h3, h4, fun i hi => (hb.cell (World.block_lt_of_cell? w _ (h5 i hi))).trans (h5 i hi), h6⟩

set_option maxHeartbeats 400000 in
theorem big_any (a : Option Addr) (len cap : Nat) (w : World) :
    Calls Tryz.prog 7 #[.slice a len cap] w fun e w' => e = .returned (.bool (decide ((1048576 : Int) < (len : Int)))) ∧ w' = w := by
  go_enter Tryz.func7, Tryz.ntmps7
  go_wp2
  go_ret
  exact ⟨rfl, rfl⟩

end Go.Proofs.YtbncdhfmhokgeaaGreatDoor

/- What is drawn as a text: so many bytes, whatever the bytes of the draw; and of what was there only the cursor moves. -/
namespace Go.Proofs.YtbncdhfmhokgeaaGreatDoor
open Go.RowKit

theorem own_neX {w : World} {base g n : Nat} {v : Value} {xs : List Value} (h : w.ownsRow base 5 1 v n xs) (hg : g < base) : v.ownBlock = none ∨ v.ownBlock ≠ some g := by
  right; intro e; have := (h.lt g e).1; omega
theorem cell_ofX (z : Int) (h0 : 0 ≤ z) (h1 : z ≤ 255) : Value.int .u8 z = cell (UInt8.ofNat z.toNat) := by
  unfold cell; rw [UInt8.toNat_ofNat']; congr 1; omega
theorem map_cell_setX (l : List UInt8) (j : Nat) (c : UInt8) : (l.map cell).set j (cell c) = (l.set j c).map cell := by rw [List.map_set]

theorem grown_new {w w1 w2 : World} {g : Nat} {row : Option Nat} (h : w.grownBy w1 (some g)) (h2 : w1.grownBy w2 row) (hr : ∀ j, row = some j → w.heap.size ≤ j) : w.grownBy w2 (some g) :=
  ⟨h2.os.trans h.os, h2.tape.trans h.tape, h2.output.trans h.output, Nat.le_trans h.size h2.size, fun k hk hne => (h2.block k (Nat.lt_of_lt_of_le hk h.size) (fun e => by have := hr k e.symm; omega)).trans (h.block k hk hne)⟩
set_option maxRecDepth 100000 in
set_option maxHeartbeats 1600000 in
theorem textG_any {B : Nat} (g n : Nat) (w : World) (hc : Cursor B w g) (hn : n ≤ 5000) :
    Calls Tryz.prog 115 #[.pointer (some ⟨g, 0, none⟩), .int .i64 n] w fun e w' => ∃ l : List UInt8, e = .returned (.string ⟨l.toArray⟩) ∧ l.length = n ∧ Cursor B w' g ∧ w.grownBy w' (some g) := by
  obtain ⟨i0, hi, hz0, hz1, hz2⟩ := info_parts info5
  have cb := cursor_bd hc
  have own : (w.alloc (.cells #[] 5)).ownsRow w.heap.size 5 1 (.slice (some ⟨w.heap.size, 0, none⟩) 0 0) 0 [] := World.ownsRow_lit w #[] 0 (Nat.le_refl _) (by unfold maxLen; omega) rfl
  have c0 := cursor_alloc hc (.cells #[] 5)
  have b0 : w.grownBy (w.alloc (.cells #[] 5)) (some g) := grown_alloc w _ _
  clear hc
  go_enter Tryz.func115, Tryz.ntmps115
  go_wp2
  go_loopw [5, 6] (fun v i wr => ∃ (k : Nat) (l : List UInt8), k ≤ n ∧ i = .int .i64 k ∧ l.length = k ∧ wr.ownsRow w.heap.size 5 1 v k (l.map cell) ∧ Cursor B wr g ∧ w.grownBy wr (some g) ∧ w.heap.size ≤ wr.heap.size) (fun _ i _ => n - (intOf i).toNat)
  case atStart => exact ⟨0, [], Nat.zero_le _, rfl, rfl, own, c0, b0, by simp⟩
  case round =>
    obtain ⟨k, l, hk, rfl, hll, ho, hc, hbr, hsz⟩ := hrel
    clear own c0 b0
    by_cases hlt : k < n
    · have hki : (k : Int) < (n : Int) := by omega
      have HLL : Hid _ := hll
      clear hll
      go_wp2_with fail
      refine (below_any _ _ _ hc (by omega)).mono ?_
      rintro e w3 ⟨z, rfl, z0, z1, c3, g3⟩
      have hz10 := z1 (by omega)
      have o3 := ho.kept g3 (own_neX ho (by omega))
      have b3 : w.grownBy w3 (some g) := hbr.trans g3
      have s3 : w.heap.size ≤ w3.heap.size := by have := g3.size; omega
      have HC : Hid _ := cell_ofX (48 + z) (by omega) (by omega)
      clear ho hc hbr g3 z1
      go_wp2_with (at_builtin; refine wpList_append_own _ rfl (.tmp 13) (.tmp 18) 22 rfl w.heap.size 5 i0 (.int .u8 0) 1 1 Tryz.underlying22 hi hz0 hz1 hz2 rfl (by decide) _ _ _ rfl (o3.alloc _) ⟨w3.heap.size, 0, none⟩ 1 1 [.int .u8 (48 + z)] rfl rfl (cell_one_new _ _ _) (ints_oneCell .u8 [48 + z]) (by unfold maxLen; omega) (by omega) (by simp; omega) ?_; intro v' w4 ho4 hg4 hn4)
      have hb4 : w.grownBy w4 (some g) := grown_new (b3.trans (grown_alloc w3 _ _)) hg4 (fun j hj => (o3.lt j hj).1)
      have hc4 : Cursor B w4 g := cursor_keep c3 (((Below.refl _ w3).alloc (by have := cursor_bd c3; omega) _).grown hg4 (by have := cursor_bd c3; simp; omega) (fun j hj => by have := (o3.lt j hj).1; omega))
      have hs4 : w.heap.size ≤ w4.heap.size := by have := hg4.size; simp at this; omega
      clear hg4 hn4 o3 c3 b3
      go_wp2
      go_roundw
      case rel => exact ⟨k + 1, l ++ [UInt8.ofNat (48 + z).toNat], by omega, by go_num, by have := HLL.out; simp; omega, by rw [List.map_append, List.map_cons, List.map_nil, ← HC.out]; exact ho4, hc4, hb4, hs4⟩
      case measure => simp [intOf]; omega
    · have hkn : k = n := by omega
      subst hkn
      have hki : ¬ (k : Int) < (k : Int) := by omega
      by_cases h0 : k = 0
      · subst h0
        have ht := text_own ho
        clear ho
        go_wp2
        go_ret
        exact ⟨l, rfl, by first | exact hll | simpa using hll, hc, hbr⟩
      · have h0i : (0 : Int) < (k : Int) := by omega
        go_wp2_with fail
        refine (once_any _ _ _ hc (by omega)).mono ?_
        rintro e w3 ⟨q, rfl, c3, g3⟩
        have o3 := ho.kept g3 (own_neX ho (by omega))
        have b3 : w.grownBy w3 (some g) := hbr.trans g3
        have s3 : w.heap.size ≤ w3.heap.size := by have := g3.size; omega
        clear ho hc hbr g3
        cases q
        · have ht := text_own o3
          clear o3
          go_wp2
          go_ret
          exact ⟨l, rfl, hll, c3, b3⟩
        · go_wp2_with fail
          refine (below_any _ _ _ c3 (by omega)).mono ?_
          rintro e w4 ⟨z, rfl, z0, z1, c4, g4⟩
          have hzk := z1 (by omega)
          have o4 := o3.kept g4 (own_neX o3 (by omega))
          have b4 : w.grownBy w4 (some g) := b3.trans g4
          have s4 : w.heap.size ≤ w4.heap.size := by have := g4.size; omega
          clear o3 c3 b3 g4 z1
          go_wp2_with fail
          refine (pickInt_any _ _ _ [47, 58, 0, 255, 65] _ (cursor_alloc c4 _) (cursor_ne c4) (lit_cells w4 [47, 58, 0, 255, 65] _ rfl) (by decide) (by decide)).mono ?_
          rintro e w5 ⟨y, rfl, hy, c5, g5⟩
          have hyb : 0 ≤ y ∧ y ≤ 255 := by simp at hy; omega
          have oa := o4.alloc (.cells #[.int .i64 47, .int .i64 58, .int .i64 0, .int .i64 255, .int .i64 65] 3)
          have o5 := oa.kept g5 (own_neX oa (by omega))
          have b5 : w.grownBy w5 (some g) := (b4.trans (grown_alloc w4 _ _)).trans g5
          have s5 : w.heap.size ≤ w5.heap.size := by have := g5.size; simp only [World.size_alloc] at this; omega
          clear oa o4 c4 b4 g5 hy
          obtain ⟨j, rfl⟩ := Int.eq_ofNat_of_zero_le z0
          rcases o5.2 with ⟨hv, hz⟩ | ⟨gg, cap, cur, hv, hrest⟩
          · omega
          · subst hv
            have hgg : w.heap.size ≤ gg := hrest.1
            clear hrest
            have hjl : j < k := by omega
            have c2 : ∃ v, w5.cell? ⟨gg, j, none⟩ = some v := by rw [o5.cellAt j (by omega)]; exact ⟨_, List.getElem?_eq_getElem (by simp; omega)⟩
            obtain ⟨old, c2⟩ := c2
            have c3 : w5.frozen? ⟨gg, j, none⟩ = false := o5.frozenAt j
            have R := o5.stored j (.int .u8 y)
            rw [cell_ofX y hyb.1 hyb.2, map_cell_setX, ← cell_ofX y hyb.1 hyb.2] at R
            have hb6 : w.grownBy (w5.setCell ⟨gg, j, none⟩ (.int .u8 y)) (some g) := grown_new b5 (grown_set w5 gg j _) (fun k hk => by cases hk; exact hgg)
            have hc6 : Cursor B (w5.setCell ⟨gg, j, none⟩ (.int .u8 y)) g := cursor_keep c5 ((Below.refl _ w5).setCell (Nat.le_trans cb.2 hgg) _)
            have ht := text_own R.1
            have hll2 : (l.set j (UInt8.ofNat y.toNat)).length = k := by rw [List.length_set]; exact hll
            generalize l.set j (UInt8.ofNat y.toNat) = l2 at ht hll2
            have HB : Hid (w.grownBy (w5.setCell ⟨gg, j, none⟩ (.int .u8 y)) (some g)) := hb6
            have HC : Hid (Cursor B (w5.setCell ⟨gg, j, none⟩ (.int .u8 y)) g) := hc6
            clear R o5 hb6 hc6 c5 b5
            go_wp2
            go_ret
            exact ⟨l2, rfl, hll2, HC.out, HB.out⟩

end Go.Proofs.YtbncdhfmhokgeaaGreatDoor
