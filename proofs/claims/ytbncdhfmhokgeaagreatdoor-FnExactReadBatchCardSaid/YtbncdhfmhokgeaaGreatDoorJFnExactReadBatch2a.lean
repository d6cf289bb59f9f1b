/- Joined: FGetF, FRead, MarkF. -/
import Derived.Test.YtbncdhfmhokgeaaGreatDoorJFnExactReadBatch1a
import Derived.Test.YtbncdhfmhokgeaaGreatDoorKFnExactReadBatchFFits
import Derived.Test.YtbncdhfmhokgeaaGreatDoorKFnExactReadBatchFGSet
import Derived.WalkLawsBesides
import Derived.Test.YtbncdhfmhokgeaaGreatDoorKFnExactReadBatchMsgEq
import Derived.Test.YtbncdhfmhokgeaaGreatDoorJFnExactReadBatch0a
/- The contracts of the program's readers of a field's data. -/
namespace Go.Proofs.YtbncdhfmhokgeaaGreatDoor
open Go.RowKit

set_option maxRecDepth 100000 in
set_option maxHeartbeats 800000 in
theorem getCounted_any (l : List UInt8) (i : Nat) (w : World) (hl : l.length ≤ 1048576) :
    Calls Tryz.prog 166 #[.string ⟨l.toArray⟩, .int .i64 i] w fun e w' => e = .returned (.tuple #[.string ⟨(if hasB l.length i 2 = true then getL l (i + 2) (numOf ((l.drop i).take 2)) else []).toArray⟩, .int .i64 (if hasB l.length i 2 = true then getI l (i + 2) (numOf ((l.drop i).take 2)) else -1)]) ∧ Below w.heap.size w w' := by
  cases hb : hasB l.length i 2
  · rw [if_neg (by decide), if_neg (by decide)]
    go_enter Tryz.func166, Tryz.ntmps166
    go_wp2_with fail
    refine (hasBytes_any _ _ _ _ (by omega)).mono ?_
    rintro e w1 ⟨rfl, hw1⟩
    subst hw1
    rw [hb]
    go_wp2
    go_ret2
    exact ⟨rfl, Below.refl _ _⟩
  · rw [if_pos rfl, if_pos rfl]
    have hin := hasB_in hb
    have HB : Hid _ := hb
    have HP : Hid _ := piece_eq l i 2
    have hpl : ((l.drop i).take 2).length ≤ 1099511627776 := by simp; omega
    have i1 : (i : Int) ≤ (i : Int) + 2 := by omega
    have i2 : (i : Int) + 2 ≤ (l.length : Int) := by omega
    clear hb hin
    go_enter Tryz.func166, Tryz.ntmps166
    go_wp2_with fail
    refine (hasBytes_any _ _ _ _ (by omega)).mono ?_
    rintro e w1 ⟨rfl, hw1⟩
    subst hw1
    rw [HB.out]
    go_wp2_with fail
    rw [HP.out]
    refine (iNumOf_any _ _ hpl).mono ?_
    rintro e w1 ⟨rfl, hw1⟩
    subst hw1
    have hnb := numOf_bd ((l.drop i).take 2)
    go_wp2_with fail
    refine (iGetDigits_any _ _ _ _ (by omega)).mono ?_
    rintro e w2 ⟨rfl, b2⟩
    go_wp2
    go_ret2
    exact ⟨rfl, b2⟩

set_option maxRecDepth 100000 in
set_option maxHeartbeats 800000 in
theorem getBytes_any (l : List UInt8) (i m : Nat) (w : World) (hl : l.length ≤ 1048576) (hm : m ≤ 999) :
    Calls Tryz.prog 167 #[.string ⟨l.toArray⟩, .int .i64 i, .int .i64 m] w fun e w' => e = .returned (.tuple #[.string ⟨(if hasB l.length i m = true then (l.drop i).take m else []).toArray⟩, .int .i64 (if hasB l.length i m = true then (i : Int) + m else -1)]) ∧ Below w.heap.size w w' := by
  cases hb : hasB l.length i m
  · rw [if_neg (by decide), if_neg (by decide)]
    go_enter Tryz.func167, Tryz.ntmps167
    go_wp2_with fail
    refine (hasBytes_any _ _ _ _ (by omega)).mono ?_
    rintro e w1 ⟨rfl, hw1⟩
    subst hw1
    rw [hb]
    go_wp2
    go_ret2
    exact ⟨rfl, Below.refl _ _⟩
  · rw [if_pos rfl, if_pos rfl]
    have hin := hasB_in hb
    have HB : Hid _ := hb
    have HP : Hid _ := piece_eq l i m
    have hpl : ((l.drop i).take m).length ≤ 1099511627776 := by simp; omega
    have i1 : (i : Int) ≤ (i : Int) + (m : Int) := by omega
    have i2 : (i : Int) + (m : Int) ≤ (l.length : Int) := by omega
    clear hb hin
    go_enter Tryz.func167, Tryz.ntmps167
    go_wp2_with fail
    refine (hasBytes_any _ _ _ _ (by omega)).mono ?_
    rintro e w1 ⟨rfl, hw1⟩
    subst hw1
    rw [HB.out]
    go_wp2_with fail
    rw [HP.out]
    refine (clone_any _ _ hpl).mono ?_
    rintro e w2 ⟨rfl, b2⟩
    go_wp2
    go_ret2
    exact ⟨rfl, b2⟩

set_option maxRecDepth 100000 in
set_option maxHeartbeats 1600000 in
theorem getData_any (l : List UInt8) (i : Nat) (n : Int) (w : World) (hl : l.length ≤ 1048576) (hn : n ∈ knowns) :
    Calls Tryz.prog 140 #[formV n, .string ⟨l.toArray⟩, .int .i64 i] w fun e w' => e = .returned (.tuple #[.string ⟨(rawL l i n).toArray⟩, .int .i64 (rawI l i n)]) ∧ Below w.heap.size w w' := by
  have hks := known_K hn
  rcases hks.1 with hk | hk | hk | hk | hk
  · rw [formV1 hk, (raw1 hk).1, (raw1 hk).2]
    have h1 := ta11 (fS n)
    clear hk hks hn
    go_enter Tryz.func140, Tryz.ntmps140
    go_wp2_with fail
    refine (iGetDigits_any _ _ _ _ (by omega)).mono ?_
    rintro e w1 ⟨rfl, b1⟩
    go_wp2
    go_ret2
    exact ⟨rfl, Below.trans (by go_grown) (b1.mono (by simp))⟩
  · rw [formV2 hk, (raw2 hk).1, (raw2 hk).2, Int.toNat_natCast]
    have h1 := ta21 (fS n)
    have h2 := ta22 (fS n)
    have hg := fun w => getCounted_any l i w hl
    generalize (if hasB l.length i 2 = true then getL l (i + 2) (numOf ((l.drop i).take 2)) else []) = A at hg ⊢
    generalize (if hasB l.length i 2 = true then getI l (i + 2) (numOf ((l.drop i).take 2)) else -1) = B at hg ⊢
    clear hk hks hn
    go_enter Tryz.func140, Tryz.ntmps140
    go_wp2_with fail
    refine (hg _).mono ?_
    rintro e w1 ⟨rfl, b1⟩
    go_wp2
    go_ret2
    exact ⟨rfl, Below.trans (by go_grown) (b1.mono (by simp))⟩
  · rw [formV3 hk, (raw3 hk).1, (raw3 hk).2, Int.toNat_natCast]
    have h1 := ta31 (fS n)
    have h2 := ta32 (fS n)
    have h3 := ta33 (fS n)
    obtain ⟨m, hm⟩ := Int.eq_ofNat_of_zero_le hks.2.1
    rw [hm] at h1 h2 h3 ⊢
    have hm9 : m ≤ 999 := by omega
    clear hk hks hn hm
    rw [Int.toNat_natCast]
    have hg := fun w => getBytes_any l i m w hl hm9
    generalize (if hasB l.length i m = true then (l.drop i).take m else []) = A at hg ⊢
    generalize (if hasB l.length i m = true then (i : Int) + m else -1) = B at hg ⊢
    go_enter Tryz.func140, Tryz.ntmps140
    go_wp2_with fail
    refine (hg _).mono ?_
    rintro e w1 ⟨rfl, b1⟩
    go_wp2
    go_ret2
    exact ⟨rfl, Below.trans (by go_grown) (b1.mono (by simp))⟩
  · rw [formV4 hk, (raw4 hk).1, (raw4 hk).2]
    have h1 := ta41 (fS n) 2
    have h2 := ta42 (fS n) 2
    have h3 := ta43 (fS n) 2
    have h4 := ta44 (fS n) 2
    clear hk hks hn
    go_enter Tryz.func140, Tryz.ntmps140
    go_wp2_with fail
    refine (iGetVar_any _ _ _ _ (by omega)).mono ?_
    rintro e w1 ⟨rfl, b1⟩
    go_wp2
    go_ret2
    exact ⟨rfl, Below.trans (by go_grown) (b1.mono (by simp))⟩
  · rw [formV5 hk, (raw5 hk).1, (raw5 hk).2]
    have h1 := ta41 (fS n) 3
    have h2 := ta42 (fS n) 3
    have h3 := ta43 (fS n) 3
    have h4 := ta44 (fS n) 3
    clear hk hks hn
    go_enter Tryz.func140, Tryz.ntmps140
    go_wp2_with fail
    refine (iGetVar_any _ _ _ _ (by omega)).mono ?_
    rintro e w1 ⟨rfl, b1⟩
    go_wp2
    go_ret2
    exact ⟨rfl, Below.trans (by go_grown) (b1.mono (by simp))⟩

end Go.Proofs.YtbncdhfmhokgeaaGreatDoor

/- The contracts of the program's readers of a message's parts: each answers, or it panics with a fault. -/
namespace Go.Proofs.YtbncdhfmhokgeaaGreatDoor
open Go.RowKit

def faultV (c a : Int) : Value := .iface 70 (.agg #[.int .i64 c, .int .i64 a])
/-- a panic with a fault of the message -/
def faultE (c a : Int) : Ending := .panicked [{ v := faultV c a, recovered := false }]

def kindE (l : List UInt8) : Ending := if kindOk l = true then .returned (.int .i64 (numOf (l.take 4))) else faultE 1 0
theorem kindE_no {l : List UInt8} (h : kindOk l = false) : kindE l = faultE 1 0 := by unfold kindE; rw [h]; rfl
theorem kindE_yes {l : List UInt8} (h : kindOk l = true) : kindE l = .returned (.int .i64 (numOf (l.take 4))) := by unfold kindE; rw [h]; rfl
theorem four_eq (l : List UInt8) : (⟨l.toArray⟩ : ByteArray).extract 0 4 = ⟨(l.take 4).toArray⟩ := piece_eq l 0 4

set_option maxRecDepth 100000 in
set_option maxHeartbeats 800000 in
theorem readKind_any (l : List UInt8) (w : World) (hl : l.length ≤ 1048576) :
    Calls Tryz.prog 97 #[.string ⟨l.toArray⟩] w fun e w' => e = kindE l ∧ w' = w := by
  cases hb : hasB l.length 0 4
  · have HK : Hid _ := kindE_no (l := l) (by simp [kindOk, hb])
    go_enter Tryz.func97, Tryz.ntmps97
    go_wp2_with fail
    refine (hasBytes_any _ _ _ _ (by omega)).mono ?_
    rintro e w1 ⟨rfl, hw1⟩
    subst hw1
    rw [hb]
    go_wp2
    exact ⟨rfl, HK.out.symm, rfl⟩
  · have hin := hasB_in hb
    have i2 : (4 : Int) ≤ (l.length : Int) := by omega
    have HP : Hid _ := four_eq l
    have hpl : (l.take 4).length ≤ 1099511627776 := by simp; omega
    cases hd : within 48 57 (l.take 4)
    · have HK : Hid _ := kindE_no (l := l) (by simp [kindOk, hd])
      have HB : Hid _ := hb
      clear hb hin
      go_enter Tryz.func97, Tryz.ntmps97
      go_wp2_with fail
      refine (hasBytes_any _ _ _ _ (by omega)).mono ?_
      rintro e w1 ⟨rfl, hw1⟩
      subst hw1
      rw [HB.out]
      go_wp2_with fail
      rw [HP.out]
      refine (iDigits_any _ _ hpl).mono ?_
      rintro e w1 ⟨rfl, hw1⟩
      subst hw1
      rw [hd]
      go_wp2
      exact ⟨rfl, HK.out.symm, rfl⟩
    · have HK : Hid _ := kindE_yes (l := l) (by simp [kindOk, hd, hb])
      have HB : Hid _ := hb
      clear hb hin
      go_enter Tryz.func97, Tryz.ntmps97
      go_wp2_with fail
      refine (hasBytes_any _ _ _ _ (by omega)).mono ?_
      rintro e w1 ⟨rfl, hw1⟩
      subst hw1
      rw [HB.out]
      go_wp2_with fail
      rw [HP.out]
      refine (iDigits_any _ _ hpl).mono ?_
      rintro e w1 ⟨rfl, hw1⟩
      subst hw1
      rw [hd]
      go_wp2_with fail
      rw [HP.out]
      refine (iNumOf_any _ _ hpl).mono ?_
      rintro e w1 ⟨rfl, hw1⟩
      subst hw1
      go_wp2
      go_ret
      exact ⟨HK.out.symm, rfl⟩

/-- a list of one's own and a place, or a fault -/
def Nums (w : World) (l : List UInt8) (e : Ending) (w' : World) : Prop :=
  if getSI l 4 < 0 then e = faultE 2 4 ∧ Below w.heap.size w w' else Sets w (getSL l 4) (getSI l 4) e w'

set_option maxRecDepth 100000 in
set_option maxHeartbeats 800000 in
theorem readNums_any (l : List UInt8) (w : World) (hl : l.length ≤ 1048576) :
    Calls Tryz.prog 98 #[.string ⟨l.toArray⟩] w fun e w' => Nums w l e w' := by
  go_enter Tryz.func98, Tryz.ntmps98
  go_wp2_with fail
  refine (iGetSet_any _ _ _ hl).mono ?_
  rintro e w1 ⟨ao, cap, rfl, ho, hb⟩
  have HU : Hid _ := show Nums w l = fun e w' => (if getSI l 4 < 0 then e = faultE 2 4 ∧ Below w.heap.size w w' else Sets w (getSL l 4) (getSI l 4) e w') from rfl
  obtain ⟨p, hp⟩ : ∃ p, getSI l 4 = p := ⟨_, rfl⟩
  rw [hp] at HU ⊢
  by_cases h : p < 0
  · have HQ : Hid (∀ w', Below w.heap.size w w' → Nums w l (faultE 2 4) w') := fun w' hb => by rw [HU.out]; simp only [if_pos h]; exact ⟨trivial, hb⟩
    clear hp HU
    go_wp2
    exact ⟨rfl, HQ.out _ hb⟩
  · have HQ : Hid (∀ e w', Sets w (getSL l 4) p e w' → Nums w l e w') := fun e w' hs => by rw [HU.out]; simp only [if_neg h]; exact hs
    have h' : 0 ≤ p := by omega
    clear hp HU h
    go_wp2
    go_ret2
    exact HQ.out _ _ ⟨ao, cap, rfl, ho, hb⟩

end Go.Proofs.YtbncdhfmhokgeaaGreatDoor

/- The marks that the exact laws lay into an answer's own memory, and find again: slices of fields, messages. -/
namespace Go.Proofs.YtbncdhfmhokgeaaGreatDoor
open Go.RowKit

def mkF (k n : Nat) : List Fld := (List.range n).map fun i => (((k + 2 * i : Nat) : Int), mtx (k + 2 * i + 1))
theorem mkF_len (k n : Nat) : (mkF k n).length = n := by simp [mkF]
theorem mkF_at (k n i : Nat) (h : i < n) : at0 (mkF k n) i = (((k + 2 * i : Nat) : Int), mtx (k + 2 * i + 1)) := by simp [at0, mkF, List.getD_eq_getElem?_getD, h]
def fillF (fs : List Fld) (k j : Nat) : List Fld := mkF k j ++ fs.drop j
theorem fillF_len (fs : List Fld) (k j : Nat) (h : j ≤ fs.length) : (fillF fs k j).length = fs.length := by simp [fillF, mkF_len]; omega
theorem fillF_zero (fs : List Fld) (k : Nat) : fillF fs k 0 = fs := by simp [fillF, mkF]
theorem fillF_all (fs : List Fld) (k : Nat) : fillF fs k fs.length = mkF k fs.length := by simp [fillF]
theorem fillF_succ (fs : List Fld) (k j : Nat) (h : j < fs.length) : (fillF fs k j).set j (((k + 2 * j : Nat) : Int), mtx (k + 2 * j + 1)) = fillF fs k (j + 1) := by
  unfold fillF
  rw [List.set_append, if_neg (by rw [mkF_len]; omega), mkF_len, Nat.sub_self, List.drop_eq_getElem_cons h, List.set_cons_zero]
  simp [mkF, List.range_succ]
theorem grown_of {w w' : World} (h : Below w.heap.size w w') (r : Option Nat) : w.grownBy w' r := ⟨h.os, h.tape, h.output, h.size, fun k hk _ => h.block k hk⟩

set_option maxHeartbeats 800000 in
theorem markFieldS_any (ao : Option Addr) (cap base k : Nat) (fs : List Fld) (w : World) (ho : w.ownsRow base 60 2 (.slice ao fs.length cap) fs.length (fcells fs)) (hn : fs.length ≤ 1099511627) (k2 : k ≤ 1099511627) :
    Calls Tryz.prog 77 #[.slice ao fs.length cap, .int .i64 k] w fun e w' => e = .returned (.int .i64 (k + 2 * fs.length : Nat)) ∧
      w'.ownsRow base 60 2 (.slice ao fs.length cap) fs.length (fcells (mkF k fs.length)) ∧ w.grownBy w' (Value.slice ao fs.length cap).ownBlock := by
  rcases ho.2 with ⟨hv, h0⟩ | ⟨g, cap', cur, hv, hrest⟩
  · obtain rfl : fs = [] := List.eq_nil_of_length_eq_zero h0
    obtain ⟨rfl, rfl⟩ : ao = none ∧ cap = 0 := by simpa using hv
    clear hv h0
    go_enter Tryz.func77, Tryz.ntmps77
    go_wp2
    refine wp_loop_rounds 1 ?_
    rw [rounds_succ]
    go_wp2
    go_ret
    exact ⟨one_int (by simp), World.ownsRow_nil _ _ _ _, World.grownBy.refl _ _⟩
  · obtain ⟨rfl, rfl⟩ : ao = some ⟨g, 0, none⟩ ∧ cap = cap' := by simpa using hv
    clear hv hrest
    go_enter Tryz.func77, Tryz.ntmps77
    go_wp2
    go_loopw [1, 5] (fun c i wr => ∃ j : Nat, j ≤ fs.length ∧ i = .int .i64 j ∧ c = .int .i64 (k + 2 * j : Nat) ∧ wr.ownsRow base 60 2 (.slice (some ⟨g, 0, none⟩) fs.length cap) fs.length (fcells (fillF fs k j)) ∧ w.grownBy wr (some g)) (fun _ i _ => fs.length - (intOf i).toNat)
    case atStart => exact ⟨0, Nat.zero_le _, rfl, rfl, by rw [fillF_zero]; exact ho, World.grownBy.refl _ _⟩
    case round =>
      obtain ⟨j, hj, rfl, rfl, hor, hgr⟩ := hrel
      clear ho
      by_cases hlt : j < fs.length
      · have hji : (j : Int) < (fs.length : Int) := by omega
        have hat := fcells_at (fillF fs k j) j (by rw [fillF_len fs k j hj]; exact hlt)
        have c1 : wr.cell? ⟨g, j * 2, none⟩ = some (.int .i64 (at0 (fillF fs k j) j).1) := by rw [hor.cellAt (j * 2) (by omega)]; exact hat.1
        have c3 : wr.frozen? ⟨g, j * 2, none⟩ = false := hor.frozenAt _
        have R := hor.stored (j * 2) (.int .i64 (k + 2 * j : Nat))
        have HR : Hid _ := R.1
        have HG : Hid (w.grownBy (wr.setCell ⟨g, j * 2, none⟩ (.int .i64 (k + 2 * j : Nat))) (some g)) := hgr.trans R.2
        have HA : Hid ((fcells (fillF fs k j))[j * 2 + 1]? = some (.string ⟨(at0 (fillF fs k j) j).2.toArray⟩)) := hat.2
        have HS : Hid _ := fcells_set (fillF fs k j) (((k + 2 * j : Nat) : Int), mtx (k + 2 * j + 1)) j (by rw [fillF_len fs k j hj]; exact hlt)
        have HF : Hid _ := fillF_succ fs k j hlt
        obtain ⟨m, hm⟩ : ∃ m : Nat, k + 2 * j = m := ⟨_, rfl⟩
        obtain ⟨old, hold⟩ : ∃ x, (at0 (fillF fs k j) j).1 = x := ⟨_, rfl⟩
        rw [hm] at HR HG HS HF ⊢
        rw [hold] at c1
        have hmb : m ≤ 3298534883 := by omega
        have HM : Hid (k + 2 * (j + 1) = m + 1 + 1) := by rw [Hid]; omega
        clear R hor hgr hat hm hold
        go_wp2_with fail
        rw [show ((m : Int) + 1) = ((m + 1 : Nat) : Int) by omega]
        refine (markText_any (m + 1) _ (by omega) (by omega)).mono ?_
        rintro e w2 ⟨rfl, b2⟩
        have o2 := keepRow HR.out b2
        have c4 : w2.cell? ⟨g, j * 2 + 1, none⟩ = some (.string ⟨(at0 (fillF fs k j) j).2.toArray⟩) := by
          rw [o2.cellAt (j * 2 + 1) (by omega), List.getElem?_set_ne (by omega)]; exact HA.out
        have c5 : w2.frozen? ⟨g, j * 2 + 1, none⟩ = false := o2.frozenAt _
        have R2 := o2.stored (j * 2 + 1) (.string ⟨(mtx (m + 1)).toArray⟩)
        rw [HS.out, HF.out] at R2
        have HR2 : Hid _ := R2.1
        have HG2 : Hid (w.grownBy (w2.setCell ⟨g, j * 2 + 1, none⟩ (.string ⟨(mtx (m + 1)).toArray⟩)) (some g)) := (HG.out.trans (grown_of b2 _)).trans R2.2
        obtain ⟨os, hos⟩ : ∃ x, (at0 (fillF fs k j) j).2 = x := ⟨_, rfl⟩
        rw [hos] at c4
        generalize mtx (m + 1) = tx at HR2 HG2
        clear R2 o2 hos b2 HR HG HS HF HA
        go_wp2
        go_roundw
        case rel => exact ⟨j + 1, by omega, by go_num, by rw [HM.out]; go_num, HR2.out, HG2.out⟩
        case measure => simp [intOf]; omega
      · have hjn : j = fs.length := by omega
        subst hjn
        rw [fillF_all] at hor
        have HO : Hid _ := hor
        clear hor
        go_wp2
        go_ret
        exact ⟨rfl, HO.out, hgr⟩

theorem markText_is (n : Nat) (x : Int) (hx : x = (n : Int)) (w : World) (h0 : 0 < n) (hn : n ≤ 1099511627776) :
    Calls Tryz.prog 119 #[.int .i64 x] w fun e w' => e = .returned (.string ⟨(mtx n).toArray⟩) ∧ Below w.heap.size w w' := by
  rw [hx]; exact markText_any n w h0 hn

set_option maxHeartbeats 800000 in
theorem heldFieldS_any (ao : Option Addr) (cap n k : Nat) (w : World) (hz : FldsAt w ao (mkF k n)) (hn : n ≤ 1099511627) (k1 : 0 < k) (k2 : k ≤ 1099511627) :
    Calls Tryz.prog 78 #[.slice ao n cap, .int .i64 k] w fun e w' => e = .returned (.int .i64 (k + 2 * n : Nat)) ∧ Below w.heap.size w w' := by
  rcases hz with h0 | ⟨b, off, rfl, hb, hcell⟩
  · have hn0 : n = 0 := by have := mkF_len k n; rw [h0] at this; simpa using this.symm
    subst hn0
    clear h0
    go_enter Tryz.func78, Tryz.ntmps78
    go_wp2
    refine wp_loop_rounds 1 ?_
    rw [rounds_succ]
    go_wp2
    go_ret
    exact ⟨one_int (by simp), Below.refl _ _⟩
  · rw [mkF_len] at hcell
    have HC : Hid (∀ i, i < n → w.cell? ⟨b, off + i * 2, none⟩ = some (.int .i64 (k + 2 * i : Nat)) ∧ w.cell? ⟨b, off + i * 2 + 1, none⟩ = some (.string ⟨(mtx (k + 2 * i + 1)).toArray⟩)) := by
      intro i hi
      have := hcell i hi
      rw [mkF_at k n i hi] at this
      exact this
    clear hcell
    go_enter Tryz.func78, Tryz.ntmps78
    go_wp2
    go_loopw [1, 5] (fun c i wr => ∃ j : Nat, j ≤ n ∧ i = .int .i64 j ∧ c = .int .i64 (k + 2 * j : Nat) ∧ Below w.heap.size w wr) (fun _ i _ => n - (intOf i).toNat)
    case atStart => exact ⟨0, Nat.zero_le _, rfl, rfl, Below.refl _ _⟩
    case round =>
      obtain ⟨j, hj, rfl, rfl, hbr⟩ := hrel
      by_cases hlt : j < n
      · have hji : (j : Int) < (n : Int) := by omega
        have c1 : wr.cell? ⟨b, off + j * 2, none⟩ = some (.int .i64 (k + 2 * j : Nat)) := (hbr.cell (p := ⟨b, off + j * 2, none⟩) hb).trans (HC.out j hlt).1
        have c2 : wr.cell? ⟨b, off + j * 2 + 1, none⟩ = some (.string ⟨(mtx (k + 2 * j + 1)).toArray⟩) := (hbr.cell (p := ⟨b, off + j * 2 + 1, none⟩) hb).trans (HC.out j hlt).2
        obtain ⟨m, hm⟩ : ∃ m : Nat, k + 2 * j = m := ⟨_, rfl⟩
        rw [hm] at c1 c2 ⊢
        have hmb : m ≤ 3298534883 := by omega
        have HM : Hid (k + 2 * (j + 1) = m + 1 + 1) := by rw [Hid]; omega
        clear hm
        have hne := over_ne wr
        have g2 := over_cell c2
        have hmx : (m : Int) + 1 = ((m + 1 : Nat) : Int) := by omega
        have HX : Hid _ := hmx
        clear hmx
        go_wp2
        refine wp_region_over (by kernel_rfl) (by kernel_rfl) ?_
        repeat (go_big_quiet_step (exact over_of (markText_is (m + 1) _ HX.out _ (by omega) (by omega))))
        refine wpQuiet_nil ?_
        rintro _ ⟨⟨w2, b2⟩, hw2⟩
        subst hw2
        generalize mtx (m + 1) = tx
        go_wp2
        go_roundw
        case rel => exact ⟨j + 1, by omega, by go_num, by rw [HM.out]; go_num, hbr.trans (b2.mono hbr.size)⟩
        case measure => simp [intOf]; omega
      · have hjn : j = n := by omega
        subst hjn
        go_wp2
        go_ret
        exact ⟨rfl, hbr⟩

end Go.Proofs.YtbncdhfmhokgeaaGreatDoor
