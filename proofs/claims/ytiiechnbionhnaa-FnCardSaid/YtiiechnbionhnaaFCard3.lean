/- The contracts of Range, CardField, Mask and Turned, the program's and the specification's. -/
import Derived.Test.YtiiechnbionhnaaFCard2
import Derived.Test.YtiiechnbionhnaaFNum
import Derived.Test.YtiiechnbionhnaaFHas
import Derived.Test.YtiiechnbionhnaaFClone
import Derived.Test.YtiiechnbionhnaaSConv
import Derived.Deep.DeepCutAuto
import Derived.Deep.RegionHeld3
import Derived.Deep.RegionLaw
import Derived.Deep.RegionWith
namespace Go.Proofs.Ytiiechnbionhnaa
open Go.RowKit
set_option maxRecDepth 100000

theorem card_in {l : List UInt8} (h : cardOk l = true) : (12 ≤ l.length ∧ l.length ≤ 19) ∧ within 48 57 l = true := by
  unfold cardOk at h
  rw [Bool.and_eq_true, Bool.and_eq_true] at h
  exact ⟨of_decide_eq_true h.1, h.2.1⟩

def rangeV (l : List UInt8) : Int := if cardOk l then numOf (l.take 6) else -1
theorem ext6 (l : List UInt8) : (⟨l.toArray⟩ : ByteArray).extract 0 6 = ⟨(l.take 6).toArray⟩ := by rw [ba_extract]; simp

set_option maxHeartbeats 1600000 in
theorem iRange_any (l : List UInt8) (w : World) (hl : l.length ≤ 1099511627776) :
    Calls Try.prog 18 #[.string ⟨l.toArray⟩] w fun e w' => e = .returned (.int .i64 (rangeV l)) ∧ Below w.heap.size w w' := by
  cases hc : cardOk l
  · have HV : Hid (rangeV l = -1) := by rw [Hid, rangeV, hc]; rfl
    go_enter Try.func18, Try.ntmps18
    go_wp2
    refine wp_scope_ahead 0 rfl ?_
    go_wp2_with fail
    refine (iCardOk_any l _ hl).mono ?_
    rintro e w1 ⟨rfl, b1⟩
    rw [hc]
    have HB1 : Hid (Below w.heap.size w w1) := b1
    clear b1
    go_wp2
    go_step3
    refine ⟨rfl, ?_⟩
    go_wp2
    rw [Exit.noGoto_ret]
    go_ret
    exact ⟨one_int HV.out.symm, HB1.out⟩
  · have HV : Hid (rangeV l = numOf (l.take 6)) := by rw [Hid, rangeV, hc]; rfl
    have hin := (card_in hc).1
    have h6 : (6 : Int) ≤ (l.length : Int) := by omega
    have HE : Hid _ := ext6 l
    go_enter Try.func18, Try.ntmps18
    go_wp2
    refine wp_scope_ahead 0 rfl ?_
    go_wp2_with fail
    refine (iCardOk_any l _ hl).mono ?_
    rintro e w1 ⟨rfl, b1⟩
    rw [hc]
    have HB1 : Hid (Below w.heap.size w w1) := b1
    clear b1 hin hc
    go_wp2_with fail
    rw [HE.out]
    refine (iNumOf_any (l.take 6) _ (by simp; omega)).mono ?_
    rintro e w2 ⟨rfl, hw⟩
    subst hw
    go_wp2
    simp only [Exit.jump]
    go_ret
    exact ⟨one_int HV.out.symm, HB1.out⟩

set_option maxHeartbeats 1600000 in
theorem sRange_any (l : List UInt8) (w : World) (hl : l.length ≤ 1099511627776) :
    Calls Try.prog 17 #[.string ⟨l.toArray⟩] w fun e w' => e = .returned (.int .i64 (rangeV l)) ∧ w' = w := by
  cases hc : cardOk l
  · have HV : Hid (rangeV l = -1) := by rw [Hid, rangeV, hc]; rfl
    go_enter Try.func17, Try.ntmps17
    go_wp2_with fail
    refine (sCardOk_any l _ hl).mono ?_
    rintro e w1 ⟨rfl, hw⟩
    subst hw
    rw [hc]
    go_wp2
    go_ret
    exact ⟨one_int HV.out.symm, rfl⟩
  · have HV : Hid (rangeV l = numOf (l.take 6)) := by rw [Hid, rangeV, hc]; rfl
    have hin := (card_in hc).1
    have h6 : (6 : Int) ≤ (l.length : Int) := by omega
    have HE : Hid _ := ext6 l
    go_enter Try.func17, Try.ntmps17
    go_wp2_with fail
    refine (sCardOk_any l _ hl).mono ?_
    rintro e w1 ⟨rfl, hw⟩
    subst hw
    rw [hc]
    clear hin hc
    go_wp2_with fail
    rw [HE.out]
    refine (sNumOf_any (l.take 6) _ (by simp; omega)).mono ?_
    rintro e w2 ⟨rfl, hw⟩
    subst hw
    go_wp2
    go_ret
    exact ⟨one_int HV.out.symm, rfl⟩

def cfNum (l : List UInt8) : Int := if cardOk l then 2 else 0
def cfData (l : List UInt8) : List UInt8 := if cardOk l then l else []
theorem cf_ans {n m : Int} {d e : List UInt8} {x y : Bool} (h1 : n = m) (h2 : d = e) (h3 : x = y) : Ending.returned (.tuple #[.agg #[.int .i64 n, .string ⟨d.toArray⟩], .bool x]) = .returned (.tuple #[.agg #[.int .i64 m, .string ⟨e.toArray⟩], .bool y]) := by rw [h1, h2, h3]

/-- a new box of two cells stands, and may be written -/
theorem boxF {w u : World} {x y : Value} {t : TypeId} (h : Below (w.alloc (.cells #[x, y] t)).heap.size (w.alloc (.cells #[x, y] t)) u) :
    (u.cell? ⟨w.heap.size, 0, none⟩ = some x ∧ u.cell? ⟨w.heap.size, 1, none⟩ = some y) ∧ (u.frozen? ⟨w.heap.size, 0, none⟩ = false ∧ u.frozen? ⟨w.heap.size, 1, none⟩ = false) ∧ Below w.heap.size w u := by
  have hlt : w.heap.size < (w.alloc (.cells #[x, y] t)).heap.size := by simp
  refine ⟨⟨(h.cell (p := ⟨w.heap.size, 0, none⟩) hlt).trans (by simp), (h.cell (p := ⟨w.heap.size, 1, none⟩) hlt).trans (by simp)⟩, ⟨(h.frozen (p := ⟨w.heap.size, 0, none⟩) hlt).trans (by simp [go_sem]), (h.frozen (p := ⟨w.heap.size, 1, none⟩) hlt).trans (by simp [go_sem])⟩, ?_⟩
  exact ((Below.refl w.heap.size w).alloc (Nat.le_refl _) (.cells #[x, y] t)).trans (h.mono (Nat.le_of_lt hlt))

set_option maxHeartbeats 1600000 in
theorem iCardField_any (l : List UInt8) (w : World) (hl : l.length ≤ 1099511627776) :
    Calls Try.prog 22 #[.string ⟨l.toArray⟩] w fun e w' => e = .returned (.tuple #[.agg #[.int .i64 (cfNum l), .string ⟨(cfData l).toArray⟩], .bool (cardOk l)]) ∧ Below w.heap.size w w' := by
  have bel0 : Below w.heap.size w (w.alloc (.cells #[.int .i64 0, .string ByteArray.empty] 28)) := (Below.refl _ _).alloc (Nat.le_refl _) _
  cases hc : cardOk l
  · have HV : Hid (cfNum l = 0) := by rw [Hid, cfNum, hc]; rfl
    have HD : Hid (cfData l = []) := by rw [Hid, cfData, hc]; rfl
    have HB0 : Hid _ := bel0
    clear bel0
    go_enter Try.func22, Try.ntmps22
    go_wp2
    refine wp_scope_ahead 0 rfl ?_
    go_wp2_with fail
    refine (iCardOk_any l _ hl).mono ?_
    rintro e w1 ⟨rfl, b1⟩
    rw [hc]
    obtain ⟨⟨d0, d1⟩, ⟨z0, z1⟩, hb⟩ := boxF b1
    have HB : Hid (Below w.heap.size w w1) := hb
    clear b1 hb HB0
    go_wp2
    go_step3
    refine ⟨rfl, ?_⟩
    go_wp2
    rw [Exit.noGoto_ret]
    refine bodyPost_ret (by simp [results, Try.results22, go_sem, d0, d1]; try rfl) rfl ?_
    refine ⟨cf_ans HV.out.symm (e := cfData l) (d := []) HD.out.symm rfl, ?_⟩
    exact HB.out.trans ((bel_cell _ _ _ _).trans (bel_cell _ _ _ _))
  · have HV : Hid (cfNum l = 2) := by rw [Hid, cfNum, hc]; rfl
    have HD : Hid (cfData l = l) := by rw [Hid, cfData, hc]; rfl
    clear bel0
    go_enter Try.func22, Try.ntmps22
    go_wp2
    refine wp_scope_ahead 0 rfl ?_
    go_wp2_with fail
    refine (iCardOk_any l _ hl).mono ?_
    rintro e w1 ⟨rfl, b1⟩
    rw [hc]
    clear hc
    go_wp2_with fail
    refine (clone_any l _ hl).mono ?_
    rintro e w2 ⟨rfl, b2⟩
    obtain ⟨⟨d0, d1⟩, ⟨z0, z1⟩, hb⟩ := boxF (next b1 b2)
    have HB : Hid (Below w.heap.size w w2) := hb
    clear b1 hb b2
    go_wp2
    simp only [Exit.jump]
    refine bodyPost_ret (by simp [results, Try.results22, go_sem, d0, d1]; try rfl) rfl ?_
    refine ⟨cf_ans HV.out.symm HD.out.symm rfl, ?_⟩
    exact HB.out.trans ((bel_cell _ _ _ _).trans (bel_cell _ _ _ _))

set_option maxHeartbeats 1600000 in
theorem sCardField_any (l : List UInt8) (w : World) (hl : l.length ≤ 1099511627776) :
    Calls Try.prog 21 #[.string ⟨l.toArray⟩] w fun e w' => e = .returned (.tuple #[.agg #[.int .i64 (cfNum l), .string ⟨(cfData l).toArray⟩], .bool (cardOk l)]) ∧ Below w.heap.size w w' := by
  cases hc : cardOk l
  · have HV : Hid (cfNum l = 0) := by rw [Hid, cfNum, hc]; rfl
    have HD : Hid (cfData l = []) := by rw [Hid, cfData, hc]; rfl
    go_enter Try.func21, Try.ntmps21
    go_wp2_with fail
    refine (sCardOk_any l _ hl).mono ?_
    rintro e w1 ⟨rfl, hw⟩
    subst hw
    rw [hc]
    go_wp2
    refine bodyPost_ret (by simp [results, Try.results21, go_sem]; try rfl) rfl ?_
    refine ⟨cf_ans HV.out.symm (e := cfData l) (d := []) HD.out.symm rfl, ?_⟩
    exact (Below.refl _ _).alloc (Nat.le_refl _) _
  · have HV : Hid (cfNum l = 2) := by rw [Hid, cfNum, hc]; rfl
    have HD : Hid (cfData l = l) := by rw [Hid, cfData, hc]; rfl
    go_enter Try.func21, Try.ntmps21
    go_wp2_with fail
    refine (sCardOk_any l _ hl).mono ?_
    rintro e w1 ⟨rfl, hw⟩
    subst hw
    rw [hc]
    go_wp2
    refine bodyPost_ret (by simp [results, Try.results21, go_sem]; try rfl) rfl ?_
    refine ⟨cf_ans HV.out.symm HD.out.symm rfl, ?_⟩
    exact (Below.refl _ _).alloc (Nat.le_refl _) _

theorem ext_head (l : List UInt8) (k : Nat) : (⟨l.toArray⟩ : ByteArray).extract 0 k = ⟨(l.take k).toArray⟩ := by rw [ba_extract]; simp
theorem ext_one (l : List UInt8) (k : Nat) (h : k < l.length) : (⟨l.toArray⟩ : ByteArray).extract k (k + 1) = ⟨[l.getD k 0].toArray⟩ := by
  rw [ba_extract, show k + 1 - k = 1 from by omega, List.drop_eq_getElem_cons h]
  simp only [List.getD_eq_getElem?_getD, List.getElem?_eq_getElem h, Option.getD_some, List.take_succ_cons, List.take_zero]
theorem ext_tail (l : List UInt8) (k : Nat) : (⟨l.toArray⟩ : ByteArray).extract k l.length = ⟨(l.drop k).toArray⟩ := by
  rw [ba_extract, List.take_of_length_le (by simp)]

theorem slice_is (l : List UInt8) (a b : Nat) (h : a ≤ b) (g : b ≤ l.length) (W : World) : (Instr.slice 9 (.string ⟨l.toArray⟩) (some (.int .i64 (a : Int))) (some (.int .i64 (b : Int))) none).run Try.prog W = .ok (.string ((⟨l.toArray⟩ : ByteArray).extract a b)) W :=
  run_slice_string W 9 ⟨l.toArray⟩ .i64 .i64 a b Try.underlying9 (by omega) (by omega) (by rw [ba_size]; omega)
theorem slice_end (l : List UInt8) (a : Nat) (h : a ≤ l.length) (W : World) : (Instr.slice 9 (.string ⟨l.toArray⟩) (some (.int .i64 (a : Int))) none none).run Try.prog W = .ok (.string ((⟨l.toArray⟩ : ByteArray).extract a l.length)) W := by
  rw [run_slice_string_from_if W 9 ⟨l.toArray⟩ .i64 a Try.underlying9, if_pos ⟨by omega, by rw [ba_size]; omega⟩, ba_size]
  simp

def maskL (l : List UInt8) : List UInt8 := if cardOk l then l.take 6 ++ (List.replicate (l.length - 10) 42 ++ l.drop (l.length - 4)) else []
theorem ext4 (l : List UInt8) (h : 4 ≤ l.length) : (⟨l.toArray⟩ : ByteArray).extract (l.length - 4) l.length = ⟨(l.drop (l.length - 4)).toArray⟩ := by
  rw [ba_extract, show l.length - (l.length - 4) = 4 from by omega, List.take_of_length_le (by simp; omega)]

theorem cat_any (x y : List UInt8) (h : x.length + y.length ≤ 1099511627776 * 4) : ∀ W : World, (Op.stringOp .add ⟨x.toArray⟩ ⟨y.toArray⟩).run Try.prog W = .ok (.string ⟨(x ++ y).toArray⟩) W := fun W =>
  (run_string_add_sum W ⟨x.toArray⟩ ⟨y.toArray⟩ (by rw [ba_size, ba_size]; omega)).trans (by rw [ba_append])
theorem repeat_star (n : Nat) : Lib.repeatL [42] n = List.replicate n (42 : UInt8) := by
  induction n with
  | zero => rfl
  | succ n ih => simp [Lib.repeatL, ih, List.replicate_succ]

set_option maxHeartbeats 1600000 in
theorem iMask_any (l : List UInt8) (w : World) (hl : l.length ≤ 1099511627776) :
    Calls Try.prog 16 #[.string ⟨l.toArray⟩] w fun e w' => e = .returned (.string ⟨(maskL l).toArray⟩) ∧ Below w.heap.size w w' := by
  cases hc : cardOk l
  · have HV : Hid (maskL l = []) := by rw [Hid, maskL, hc]; rfl
    go_enter Try.func16, Try.ntmps16
    go_wp2
    refine wp_scope_ahead 0 rfl ?_
    go_wp2_with fail
    refine (iCardOk_any l _ hl).mono ?_
    rintro e w1 ⟨rfl, b1⟩
    rw [hc]
    have HB1 : Hid (Below w.heap.size w w1) := b1
    clear b1
    go_wp2
    go_step3
    refine ⟨rfl, ?_⟩
    go_wp2
    rw [Exit.noGoto_ret]
    go_ret
    exact ⟨one_str (by rw [HV.out]), HB1.out⟩
  · have HV : Hid (maskL l = l.take 6 ++ (List.replicate (l.length - 10) 42 ++ l.drop (l.length - 4))) := by rw [Hid, maskL, hc]; rfl
    have hin := (card_in hc).1
    have h6 : (6 : Int) ≤ (l.length : Int) := by omega
    have hw6 : IntKind.i64.wrap ((l.length : Int) - 6) = (l.length : Int) - 6 := by rw [IntKind.wrap_i64]; omega
    have hw4 : IntKind.i64.wrap ((l.length : Int) - 4) = ((l.length - 4 : Nat) : Int) := by rw [IntKind.wrap_i64]; omega
    have hw10 : IntKind.i64.wrap ((l.length : Int) - 6 - 4) = ((l.length - 10 : Nat) : Int) := by rw [IntKind.wrap_i64]; omega
    have HE : Hid _ := ext6 l
    have HE4 : Hid _ := ext4 l (by omega)
    go_enter Try.func16, Try.ntmps16
    go_wp2
    refine wp_scope_ahead 0 rfl ?_
    go_wp2_with fail
    refine (iCardOk_any l _ hl).mono ?_
    rintro e w1 ⟨rfl, b1⟩
    rw [hc]
    have HB1 : Hid (Below w.heap.size w w1) := b1
    clear b1 hc
    have h4 : ((l.length - 4 : Nat) : Int) ≤ (l.length : Int) := by omega
    have hRs : (⟨(Lib.repeatL (⟨#[42]⟩ : ByteArray).data.toList (l.length - 10)).toArray⟩ : ByteArray) = ⟨(List.replicate (l.length - 10) 42).toArray⟩ := by rw [show Lib.repeatL (⟨#[42]⟩ : ByteArray).data.toList (l.length - 10) = List.replicate (l.length - 10) 42 from repeat_star _]
    have g1 : ∀ W : World, (Op.stringOp .add ⟨(l.take 6).toArray⟩ ⟨(List.replicate (l.length - 10) 42).toArray⟩).run Try.prog W = .ok (.string ⟨(l.take 6 ++ List.replicate (l.length - 10) 42).toArray⟩) W := cat_any _ _ (by simp; omega)
    have g2 : ∀ W : World, (Op.stringOp .add ⟨(l.take 6 ++ List.replicate (l.length - 10) 42).toArray⟩ ⟨(l.drop (l.length - 4)).toArray⟩).run Try.prog W = .ok (.string ⟨(maskL l).toArray⟩) W := by rw [HV.out, ← List.append_assoc]; exact cat_any _ _ (by simp; omega)
    have HEx : (⟨l.toArray⟩ : ByteArray).extract 0 6 = ⟨(l.take 6).toArray⟩ := HE.out
    have HEy : (⟨l.toArray⟩ : ByteArray).extract (l.length - 4) l.length = ⟨(l.drop (l.length - 4)).toArray⟩ := HE4.out
    obtain ⟨A, hA⟩ : ∃ A : ByteArray, ⟨(l.take 6).toArray⟩ = A := ⟨_, rfl⟩
    obtain ⟨R, hR⟩ : ∃ R : ByteArray, ⟨(List.replicate (l.length - 10) 42).toArray⟩ = R := ⟨_, rfl⟩
    obtain ⟨C, hC⟩ : ∃ C : ByteArray, ⟨(l.take 6 ++ List.replicate (l.length - 10) 42).toArray⟩ = C := ⟨_, rfl⟩
    obtain ⟨D, hD⟩ : ∃ D : ByteArray, ⟨(l.drop (l.length - 4)).toArray⟩ = D := ⟨_, rfl⟩
    rw [hA, hR, hC] at g1
    rw [hC, hD] at g2
    rw [hA] at HEx
    rw [hD] at HEy
    rw [hR] at hRs
    have HR : Hid _ := hRs
    clear hA hR hC hD HE HE4 HV hRs
    go_wp2_with fail
    go_region_with (go_at_call 37; refine (Try.strings_Repeat ⟨#[42]⟩ (l.length - 10) _ (by omega) (by simp [ByteArray.size]; omega)).mono ?_; rintro e w2 ⟨rfl, b2⟩; rw [HR.out])
    all_goals
      go_wp2
      simp only [Exit.jump]
      go_ret
      exact ⟨rfl, next (below_drewN HB1.out _) b2⟩

end Go.Proofs.Ytiiechnbionhnaa
