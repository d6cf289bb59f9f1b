/- Joined: FGetF, FRead, DrawPick, Drawn. -/
import Derived.Test.YtbncdhfmhokgeaaGreatDoorJFnMessage1a
import Derived.Test.YtbncdhfmhokgeaaGreatDoorKFnMessageFFits
import Derived.Test.YtbncdhfmhokgeaaGreatDoorKFnMessageFGSet
import Derived.WalkLawsBesides
import Derived.Test.YtbncdhfmhokgeaaGreatDoorKFnMessageDraw
/- The contracts of the program's readers of a field's data. -/
namespace Go.Proofs.YtbncdhfmhokgeaaGreatDoor
open Go.RowKit

set_option maxRecDepth 100000 in
set_option maxHeartbeats 800000 in
theorem getCounted_any (l : List UInt8) (i : Nat) (w : World) (hl : l.length ≤ 1048576) :
    Calls Tryz.prog 166 #[.string ⟨l.toArray⟩, .int .i64 i] w fun e w' => e = .returned (.tuple #[.string ⟨(if hasB l.length i 2 = true then getL l (i + 2) (numOf ((l.drop i).take 2)) else []).toArray⟩, .int .i64 (if hasB l.length i 2 = true then getI l (i + 2) (numOf ((l.drop i).take 2)) else -1)]) ∧ Below w.heap.size w w' := by
  cases hb : hasB l.length i 2
  · rw [if_neg (by decide), if_neg (by decide)]
    go_enter Tryz.func166, Tryz.ntmps166
    go_wp2_with fail
    refine (hasBytes_any _ _ _ _ (by omega)).mono ?_
    rintro e w1 ⟨rfl, hw1⟩
    subst hw1
    rw [hb]
    go_wp2
    go_ret2
    exact ⟨rfl, Below.refl _ _⟩
  · rw [if_pos rfl, if_pos rfl]
    have hin := hasB_in hb
    have HB : Hid _ := hb
    have HP : Hid _ := piece_eq l i 2
    have hpl : ((l.drop i).take 2).length ≤ 1099511627776 := by simp; omega
    have i1 : (i : Int) ≤ (i : Int) + 2 := by omega
    have i2 : (i : Int) + 2 ≤ (l.length : Int) := by omega
    clear hb hin
    go_enter Tryz.func166, Tryz.ntmps166
    go_wp2_with fail
    refine (hasBytes_any _ _ _ _ (by omega)).mono ?_
    rintro e w1 ⟨rfl, hw1⟩
    subst hw1
    rw [HB.out]
    go_wp2_with fail
    rw [HP.out]
    refine (iNumOf_any _ _ hpl).mono ?_
    rintro e w1 ⟨rfl, hw1⟩
    subst hw1
    have hnb := numOf_bd ((l.drop i).take 2)
    go_wp2_with fail
    refine (iGetDigits_any _ _ _ _ (by omega)).mono ?_
    rintro e w2 ⟨rfl, b2⟩
    go_wp2
    go_ret2
    exact ⟨rfl, b2⟩

set_option maxRecDepth 100000 in
set_option maxHeartbeats 800000 in
theorem getBytes_any (l : List UInt8) (i m : Nat) (w : World) (hl : l.length ≤ 1048576) (hm : m ≤ 999) :
    Calls Tryz.prog 167 #[.string ⟨l.toArray⟩, .int .i64 i, .int .i64 m] w fun e w' => e = .returned (.tuple #[.string ⟨(if hasB l.length i m = true then (l.drop i).take m else []).toArray⟩, .int .i64 (if hasB l.length i m = true then (i : Int) + m else -1)]) ∧ Below w.heap.size w w' := by
  cases hb : hasB l.length i m
  · rw [if_neg (by decide), if_neg (by decide)]
    go_enter Tryz.func167, Tryz.ntmps167
    go_wp2_with fail
    refine (hasBytes_any _ _ _ _ (by omega)).mono ?_
    rintro e w1 ⟨rfl, hw1⟩
    subst hw1
    rw [hb]
    go_wp2
    go_ret2
    exact ⟨rfl, Below.refl _ _⟩
  · rw [if_pos rfl, if_pos rfl]
    have hin := hasB_in hb
    have HB : Hid _ := hb
    have HP : Hid _ := piece_eq l i m
    have hpl : ((l.drop i).take m).length ≤ 1099511627776 := by simp; omega
    have i1 : (i : Int) ≤ (i : Int) + (m : Int) := by omega
    have i2 : (i : Int) + (m : Int) ≤ (l.length : Int) := by omega
    clear hb hin
    go_enter Tryz.func167, Tryz.ntmps167
    go_wp2_with fail
    refine (hasBytes_any _ _ _ _ (by omega)).mono ?_
    rintro e w1 ⟨rfl, hw1⟩
    subst hw1
    rw [HB.out]
    go_wp2_with fail
    rw [HP.out]
    refine (clone_any _ _ hpl).mono ?_
    rintro e w2 ⟨rfl, b2⟩
    go_wp2
    go_ret2
    exact ⟨rfl, b2⟩

set_option maxRecDepth 100000 in
set_option maxHeartbeats 1600000 in
theorem getData_any (l : List UInt8) (i : Nat) (n : Int) (w : World) (hl : l.length ≤ 1048576) (hn : n ∈ knowns) :
    Calls Tryz.prog 140 #[formV n, .string ⟨l.toArray⟩, .int .i64 i] w fun e w' => e = .returned (.tuple #[.string ⟨(rawL l i n).toArray⟩, .int .i64 (rawI l i n)]) ∧ Below w.heap.size w w' := by
  have hks := known_K hn
  rcases hks.1 with hk | hk | hk | hk | hk
  · rw [formV1 hk, (raw1 hk).1, (raw1 hk).2]
    have h1 := ta11 (fS n)
    clear hk hks hn
    go_enter Tryz.func140, Tryz.ntmps140
    go_wp2_with fail
    refine (iGetDigits_any _ _ _ _ (by omega)).mono ?_
    rintro e w1 ⟨rfl, b1⟩
    go_wp2
    go_ret2
    exact ⟨rfl, Below.trans (by go_grown) (b1.mono (by simp))⟩
  · rw [formV2 hk, (raw2 hk).1, (raw2 hk).2, Int.toNat_natCast]
    have h1 := ta21 (fS n)
    have h2 := ta22 (fS n)
    have hg := fun w => getCounted_any l i w hl
    generalize (if hasB l.length i 2 = true then getL l (i + 2) (numOf ((l.drop i).take 2)) else []) = A at hg ⊢
    generalize (if hasB l.length i 2 = true then getI l (i + 2) (numOf ((l.drop i).take 2)) else -1) = B at hg ⊢
    clear hk hks hn
    go_enter Tryz.func140, Tryz.ntmps140
    go_wp2_with fail
    refine (hg _).mono ?_
    rintro e w1 ⟨rfl, b1⟩
    go_wp2
    go_ret2
    exact ⟨rfl, Below.trans (by go_grown) (b1.mono (by simp))⟩
  · rw [formV3 hk, (raw3 hk).1, (raw3 hk).2, Int.toNat_natCast]
    have h1 := ta31 (fS n)
    have h2 := ta32 (fS n)
    have h3 := ta33 (fS n)
    obtain ⟨m, hm⟩ := Int.eq_ofNat_of_zero_le hks.2.1
    rw [hm] at h1 h2 h3 ⊢
    have hm9 : m ≤ 999 := by omega
    clear hk hks hn hm
    rw [Int.toNat_natCast]
    have hg := fun w => getBytes_any l i m w hl hm9
    generalize (if hasB l.length i m = true then (l.drop i).take m else []) = A at hg ⊢
    generalize (if hasB l.length i m = true then (i : Int) + m else -1) = B at hg ⊢
    go_enter Tryz.func140, Tryz.ntmps140
    go_wp2_with fail
    refine (hg _).mono ?_
    rintro e w1 ⟨rfl, b1⟩
    go_wp2
    go_ret2
    exact ⟨rfl, Below.trans (by go_grown) (b1.mono (by simp))⟩
  · rw [formV4 hk, (raw4 hk).1, (raw4 hk).2]
    have h1 := ta41 (fS n) 2
    have h2 := ta42 (fS n) 2
    have h3 := ta43 (fS n) 2
    have h4 := ta44 (fS n) 2
    clear hk hks hn
    go_enter Tryz.func140, Tryz.ntmps140
    go_wp2_with fail
    refine (iGetVar_any _ _ _ _ (by omega)).mono ?_
    rintro e w1 ⟨rfl, b1⟩
    go_wp2
    go_ret2
    exact ⟨rfl, Below.trans (by go_grown) (b1.mono (by simp))⟩
  · rw [formV5 hk, (raw5 hk).1, (raw5 hk).2]
    have h1 := ta41 (fS n) 3
    have h2 := ta42 (fS n) 3
    have h3 := ta43 (fS n) 3
    have h4 := ta44 (fS n) 3
    clear hk hks hn
    go_enter Tryz.func140, Tryz.ntmps140
    go_wp2_with fail
    refine (iGetVar_any _ _ _ _ (by omega)).mono ?_
    rintro e w1 ⟨rfl, b1⟩
    go_wp2
    go_ret2
    exact ⟨rfl, Below.trans (by go_grown) (b1.mono (by simp))⟩

end Go.Proofs.YtbncdhfmhokgeaaGreatDoor

/- The contracts of the program's readers of a message's parts: each answers, or it panics with a fault. -/
namespace Go.Proofs.YtbncdhfmhokgeaaGreatDoor
open Go.RowKit

def faultV (c a : Int) : Value := .iface 70 (.agg #[.int .i64 c, .int .i64 a])
/-- a panic with a fault of the message -/
def faultE (c a : Int) : Ending := .panicked [{ v := faultV c a, recovered := false }]

def kindE (l : List UInt8) : Ending := if kindOk l = true then .returned (.int .i64 (numOf (l.take 4))) else faultE 1 0
theorem kindE_no {l : List UInt8} (h : kindOk l = false) : kindE l = faultE 1 0 := by unfold kindE; rw [h]; rfl
theorem kindE_yes {l : List UInt8} (h : kindOk l = true) : kindE l = .returned (.int .i64 (numOf (l.take 4))) := by unfold kindE; rw [h]; rfl
theorem four_eq (l : List UInt8) : (⟨l.toArray⟩ : ByteArray).extract 0 4 = ⟨(l.take 4).toArray⟩ := piece_eq l 0 4

set_option maxRecDepth 100000 in
set_option maxHeartbeats 800000 in
theorem readKind_any (l : List UInt8) (w : World) (hl : l.length ≤ 1048576) :
    Calls Tryz.prog 97 #[.string ⟨l.toArray⟩] w fun e w' => e = kindE l ∧ w' = w := by
  cases hb : hasB l.length 0 4
  · have HK : Hid _ := kindE_no (l := l) (by simp [kindOk, hb])
    go_enter Tryz.func97, Tryz.ntmps97
    go_wp2_with fail
    refine (hasBytes_any _ _ _ _ (by omega)).mono ?_
    rintro e w1 ⟨rfl, hw1⟩
    subst hw1
    rw [hb]
    go_wp2
    exact ⟨rfl, HK.out.symm, rfl⟩
  · have hin := hasB_in hb
    have i2 : (4 : Int) ≤ (l.length : Int) := by omega
    have HP : Hid _ := four_eq l
    have hpl : (l.take 4).length ≤ 1099511627776 := by simp; omega
    cases hd : within 48 57 (l.take 4)
    · have HK : Hid _ := kindE_no (l := l) (by simp [kindOk, hd])
      have HB : Hid _ := hb
      clear hb hin
      go_enter Tryz.func97, Tryz.ntmps97
      go_wp2_with fail
      refine (hasBytes_any _ _ _ _ (by omega)).mono ?_
      rintro e w1 ⟨rfl, hw1⟩
      subst hw1
      rw [HB.out]
      go_wp2_with fail
      rw [HP.out]
      refine (iDigits_any _ _ hpl).mono ?_
      rintro e w1 ⟨rfl, hw1⟩
      subst hw1
      rw [hd]
      go_wp2
      exact ⟨rfl, HK.out.symm, rfl⟩
    · have HK : Hid _ := kindE_yes (l := l) (by simp [kindOk, hd, hb])
      have HB : Hid _ := hb
      clear hb hin
      go_enter Tryz.func97, Tryz.ntmps97
      go_wp2_with fail
      refine (hasBytes_any _ _ _ _ (by omega)).mono ?_
      rintro e w1 ⟨rfl, hw1⟩
      subst hw1
      rw [HB.out]
      go_wp2_with fail
      rw [HP.out]
      refine (iDigits_any _ _ hpl).mono ?_
      rintro e w1 ⟨rfl, hw1⟩
      subst hw1
      rw [hd]
      go_wp2_with fail
      rw [HP.out]
      refine (iNumOf_any _ _ hpl).mono ?_
      rintro e w1 ⟨rfl, hw1⟩
      subst hw1
      go_wp2
      go_ret
      exact ⟨HK.out.symm, rfl⟩

/-- a list of one's own and a place, or a fault -/
def Nums (w : World) (l : List UInt8) (e : Ending) (w' : World) : Prop :=
  if getSI l 4 < 0 then e = faultE 2 4 ∧ Below w.heap.size w w' else Sets w (getSL l 4) (getSI l 4) e w'

set_option maxRecDepth 100000 in
set_option maxHeartbeats 800000 in
theorem readNums_any (l : List UInt8) (w : World) (hl : l.length ≤ 1048576) :
    Calls Tryz.prog 98 #[.string ⟨l.toArray⟩] w fun e w' => Nums w l e w' := by
  go_enter Tryz.func98, Tryz.ntmps98
  go_wp2_with fail
  refine (iGetSet_any _ _ _ hl).mono ?_
  rintro e w1 ⟨ao, cap, rfl, ho, hb⟩
  have HU : Hid _ := show Nums w l = fun e w' => (if getSI l 4 < 0 then e = faultE 2 4 ∧ Below w.heap.size w w' else Sets w (getSL l 4) (getSI l 4) e w') from rfl
  obtain ⟨p, hp⟩ : ∃ p, getSI l 4 = p := ⟨_, rfl⟩
  rw [hp] at HU ⊢
  by_cases h : p < 0
  · have HQ : Hid (∀ w', Below w.heap.size w w' → Nums w l (faultE 2 4) w') := fun w' hb => by rw [HU.out]; simp only [if_pos h]; exact ⟨trivial, hb⟩
    clear hp HU
    go_wp2
    exact ⟨rfl, HQ.out _ hb⟩
  · have HQ : Hid (∀ e w', Sets w (getSL l 4) p e w' → Nums w l e w') := fun e w' hs => by rw [HU.out]; simp only [if_neg h]; exact hs
    have h' : 0 ≤ p := by omega
    clear hp HU h
    go_wp2
    go_ret2
    exact HQ.out _ _ ⟨ao, cap, rfl, ho, hb⟩

end Go.Proofs.YtbncdhfmhokgeaaGreatDoor

/- What is drawn from a list of ints, and what fits an int. -/
namespace Go.Proofs.YtbncdhfmhokgeaaGreatDoor
open Go.RowKit

theorem lit_cells (w : World) (zs : List Int) (arr : Array Value) (h : arr = (zs.map (Value.int .i64)).toArray) :
    ∀ i, i < zs.length → (w.alloc (.cells arr 3)).cell? ⟨w.heap.size, i, none⟩ = some (.int .i64 (zs.getD i 0)) := by
  intro i hi
  subst h
  simp [List.getD_eq_getElem?_getD, hi]

theorem cursor_ne {B : Nat} {w : World} {g : Nat} (hc : Cursor B w g) : w.heap.size ≠ g := by
  have := cursor_bd hc; omega
theorem cursor_alloc {B : Nat} {w : World} {g : Nat} (hc : Cursor B w g) (o : Obj) : Cursor B (w.alloc o) g := cursor_below hc ((Below.refl _ _).alloc (Nat.le_refl _) _)
theorem grown_alloc (w : World) (o : Obj) (row : Option Nat) : w.grownBy (w.alloc o) row := World.grownBy_alloc w o row

set_option maxHeartbeats 800000 in
theorem pickInt_any {B : Nat} (g b cap : Nat) (zs : List Int) (w : World) (hc : Cursor B w g) (hbg : b ≠ g) (hz : ∀ i, i < zs.length → w.cell? ⟨b, i, none⟩ = some (.int .i64 (zs.getD i 0))) (h1 : 1 ≤ zs.length) (h2 : zs.length ≤ 1000) :
    Calls Tryz.prog 79 #[.pointer (some ⟨g, 0, none⟩), .slice (some ⟨b, 0, none⟩) zs.length cap] w fun e w' => ∃ x : Int, e = .returned (.int .i64 x) ∧ x ∈ zs ∧ Cursor B w' g ∧ w.grownBy w' (some g) := by
  go_enter Tryz.func79, Tryz.ntmps79
  go_wp2_with fail
  refine (below_any _ _ _ hc (by omega)).mono ?_
  rintro e w1 ⟨x, rfl, x0, x1, c1, g1⟩
  have hx := x1 (by omega)
  obtain ⟨k, rfl⟩ := Int.eq_ofNat_of_zero_le x0
  have hk : k < zs.length := by omega
  have cb : w1.cell? ⟨b, k, none⟩ = some (.int .i64 (zs.getD k 0)) := g1.cell (a := ⟨b, k, none⟩) (hz k hk) (by simpa using hbg)
  have hm : zs.getD k 0 ∈ zs := by simp [List.getD_eq_getElem?_getD, hk]
  generalize zs.getD k 0 = z at cb hm
  clear hz x1
  go_wp2
  go_ret
  exact ⟨z, rfl, hm, c1, g1⟩

/-- what is drawn as an int fits 64 bits -/
def Fits (x : Int) : Prop := -9223372036854775808 ≤ x ∧ x ≤ 9223372036854775807
theorem fits_wf {x : Int} (h : Fits x) : (Lit.int .i64 x).wf = true := by
  simp [Lit.wf, IntKind.min, IntKind.max, IntKind.signed, IntKind.bits]; exact h
theorem fits_small {x : Int} (h1 : -1000000000000 ≤ x) (h2 : x ≤ 1000000000000) : Fits x := ⟨by omega, by omega⟩

end Go.Proofs.YtbncdhfmhokgeaaGreatDoor

/- What every law over drawn bytes begins with. -/
namespace Go.Proofs.YtbncdhfmhokgeaaGreatDoor
open Go.RowKit

theorem bel_grown {w w1 w2 : World} {g : Nat} (h : Below w.heap.size w w1) (hg : w1.grownBy w2 (some g)) (h0 : w.heap.size ≤ g) : Below w.heap.size w w2 :=
  h.grown hg h.size (fun k hk => by cases hk; exact h0)
theorem row_below {k : IntKind} {w w' : World} {a : Option Addr} {len cap : Nat} {zs : List Int} (h : IsRow k w a len cap zs) (hb : Below w.heap.size w w') : IsRow k w' a len cap zs := by
  rcases h with h | ⟨x, h1, h2, h3, h4, h5, h6⟩
  · exact .inl h
  · exact .inr ⟨x, h1, h2, h3, h4, fun i hi => (hb.cell (World.block_lt_of_cell? w _ (h5 i hi))).trans (h5 i hi), h6⟩

set_option maxHeartbeats 400000 in
theorem big_any (a : Option Addr) (len cap : Nat) (w : World) :
    Calls Tryz.prog 7 #[.slice a len cap] w fun e w' => e = .returned (.bool (decide ((1048576 : Int) < (len : Int)))) ∧ w' = w := by
  go_enter Tryz.func7, Tryz.ntmps7
  go_wp2
  go_ret
  exact ⟨rfl, rfl⟩

end Go.Proofs.YtbncdhfmhokgeaaGreatDoor
