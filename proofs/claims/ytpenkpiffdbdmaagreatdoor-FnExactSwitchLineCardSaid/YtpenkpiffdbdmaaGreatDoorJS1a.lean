import Derived.Test.YtpenkpiffdbdmaaGreatDoorKSTgPadP
import Derived.Lib.AppendIntMem
import Derived.Test.YtpenkpiffdbdmaaGreatDoorCards
import Derived.Test.YtpenkpiffdbdmaaGreatDoorTie
import Derived.Test.YtpenkpiffdbdmaaGreatDoorKSBase
import Derived.LaidMore
import Derived.Deep.DeepHandedRow
import Derived.Lay
import Derived.Stop.LaidErr
import Derived.Deep.SlicePairs
import Derived.Test.YtpenkpiffdbdmaaGreatDoorKSCal
import Derived.Test.YtpenkpiffdbdmaaGreatDoorKSLeaf
import Derived.Deep.Strs
import Derived.Lib.AppendZeros
/- The contracts of PadNum, the program's and the specification's. -/
namespace Go.Proofs.YtpenkpiffdbdmaaGreatDoor.Tg
open Go.RowKit
theorem repeat_one (n : Nat) : Lib.repeatL [48] n = List.replicate n 48 := by
  induction n with
  | zero => rfl
  | succ n ih => simp [Lib.repeatL, ih, List.replicate_succ]
def Pow10 (w : World) : Prop := Lib.TabIs Tryz.prog w "internal/strconv.uint64pow10" .u64 Lib.pow10Tab
theorem Pow10.below {w w' : World} (h : Pow10 w) (hb : Below w.heap.size w w') : Pow10 w' := Lib.tabBelow_of_tabIs h w' hb
set_option maxRecDepth 100000 in
set_option maxHeartbeats 400000 in
theorem l01Ten_any (n : Nat) (w : World) (hn : n ≤ 18) :
    Calls Tryz.prog 97 #[.int .i64 n] w fun e w' => e = .returned (.int .i64 (10 ^ n : Nat)) ∧ w' = w := by
  go_enter Tryz.func97, Tryz.ntmps97
  go_wp2
  go_loop [3, 4] (fun p i => ∃ k : Nat, k ≤ n ∧ i = .int .i64 k ∧ p = .int .i64 (10 ^ k : Nat)) (fun _ i => n - (intOf i).toNat)
  case atStart => exact ⟨0, Nat.zero_le _, rfl, rfl⟩
  case round =>
    obtain ⟨k, hk, rfl, rfl⟩ := hrel
    by_cases hlt : k < n
    · have hki : (k : Int) < (n : Int) := by omega
      have hp : 10 ^ k ≤ 10 ^ 17 := Nat.pow_le_pow_right (by omega) (by omega)
      have hs : 10 ^ (k + 1) = 10 ^ k * 10 := Nat.pow_succ 10 k
      obtain ⟨x, hx⟩ : ∃ x : Nat, 10 ^ k = x := ⟨_, rfl⟩
      rw [hx] at hp hs ⊢
      have HS : Hid (((10 ^ (k + 1) : Nat) : Int) = 10 * (x : Int)) := by rw [Hid, hs]; omega
      have hxb : x ≤ 100000000000000000 := by omega
      clear hs hx hp
      go_wp2
      go_round
      case rel => exact ⟨k + 1, by omega, by go_num, by rw [HS.out]⟩
      case measure => simp [intOf]; omega
    · have hke : k = n := by omega
      subst hke
      obtain ⟨x, hx⟩ : ∃ x : Nat, 10 ^ k = x := ⟨_, rfl⟩
      rw [hx]
      have HX : Hid _ := hx
      clear hx
      go_wp2
      go_ret
      exact ⟨one_int (by rw [← HX.out]; simp), rfl⟩
set_option maxRecDepth 100000 in
set_option maxHeartbeats 800000 in
theorem iPadNum_any (x n : Int) (w : World) (ht : Pow10 w) :
    Calls Tryz.prog 96 #[.int .i64 x, .int .i64 n] w fun e w' => e = .returned (.string ⟨(padT x n).toArray⟩) ∧ Below w.heap.size w w' := by
  have HT : Hid (Pow10 w) := ht
  clear ht
  by_cases h1 : n < 1
  · have HN : Hid _ := padT_no (padOk_no1 (x := x) (n := n) (by omega))
    go_enter Tryz.func96, Tryz.ntmps96
    go_wp2
    go_ret
    exact ⟨one_str (by rw [HN.out]), Below.refl _ _⟩
  · by_cases h2 : 18 < n
    · have HN : Hid _ := padT_no (padOk_no1 (x := x) (n := n) (by omega))
      go_enter Tryz.func96, Tryz.ntmps96
      go_wp2
      go_ret
      exact ⟨one_str (by rw [HN.out]), Below.refl _ _⟩
    · by_cases h3 : x < 0
      · have HN : Hid _ := padT_no (padOk_no2 (x := x) (n := n) (by omega))
        have h1' : 1 ≤ n := by omega
        have h2' : n ≤ 18 := by omega
        go_enter Tryz.func96, Tryz.ntmps96
        go_wp2
        go_ret
        exact ⟨one_str (by rw [HN.out]), Below.refl _ _⟩
      · obtain ⟨a, rfl⟩ := Int.eq_ofNat_of_zero_le (show 0 ≤ x by omega)
        obtain ⟨m, rfl⟩ := Int.eq_ofNat_of_zero_le (show 0 ≤ n by omega)
        have hm1 : (1 : Int) ≤ (m : Int) := by omega
        have hm2 : (m : Int) ≤ 18 := by omega
        have hp : 10 ^ m ≤ 10 ^ 18 := Nat.pow_le_pow_right (by omega) (by omega)
        clear h1 h2 h3
        by_cases h4 : 10 ^ m ≤ a
        · have HN : Hid _ := padT_no (padOk_no2 (x := a) (n := m) (by rw [Int.toNat_natCast]; omega))
          go_enter Tryz.func96, Tryz.ntmps96
          go_wp2_with fail
          refine (tenTo_any m _ (by omega)).mono ?_
          rintro e w1 ⟨rfl, hw1⟩
          subst hw1
          obtain ⟨y, hy⟩ : ∃ y : Nat, 10 ^ m = y := ⟨_, rfl⟩
          rw [hy] at h4 ⊢
          have h4i : (y : Int) ≤ (a : Int) := by omega
          clear hy hp
          go_wp2
          go_ret
          exact ⟨one_str (by rw [HN.out]), Below.refl _ _⟩
        · have HY : Hid (padT a m = padN a m) := padT_yes (by omega) (by omega) (by omega)
          have hsl := dec_len_pow m a (by omega) (by omega)
          have HI : Hid (Lib.itoa (a : Int) = Lib.decDigits a) := by rw [Hid, Lib.itoa, if_neg (by omega)]; rfl
          unfold padN at HY
          obtain ⟨s, hs⟩ : ∃ s, Lib.decDigits a = s := ⟨_, rfl⟩
          rw [hs] at HY hsl HI
          have hab : a ≤ 1000000000000000000 := by omega
          obtain ⟨y, hy⟩ : ∃ y : Nat, 10 ^ m = y := ⟨_, rfl⟩
          rw [hy] at h4
          have h4i : (a : Int) < (y : Int) := by omega
          have HYM : Hid _ := hy
          clear hs hp hy
          go_enter Tryz.func96, Tryz.ntmps96
          go_wp2_with fail
          refine (tenTo_any m _ (by omega)).mono ?_
          rintro e w1 ⟨rfl, hw1⟩
          subst hw1
          rw [HYM.out]
          go_wp2_with fail
          refine (Tryz.strconv_Itoa _ (by omega) (by omega) _ HT.out).mono ?_
          rintro e w2 ⟨rfl, k, os, rfl⟩
          rw [HI.out]
          have hr : (List.replicate (m - s.length) (48 : UInt8)).length = m - s.length := by simp
          go_wp2_with fail
          rw [show ((m : Int) - (s.length : Int)) = ((m - s.length : Nat) : Int) from by omega]
          refine (Tryz.strings_Repeat ⟨#[48]⟩ (m - s.length) _ (by omega) (by simp [ByteArray.size]; omega)).mono ?_
          rintro e w3 ⟨rfl, b3⟩
          rw [show Lib.repeatL (⟨#[48]⟩ : ByteArray).data.toList (m - s.length) = List.replicate (m - s.length) 48 from repeat_one _]
          generalize List.replicate (m - s.length) (48 : UInt8) = r at hr HY
          go_wp2
          go_ret
          refine ⟨one_str ?_, next (Lib.below_grow _ _ (Nat.le_refl _) _ _) b3⟩
          rw [HY.out, ba_append r s]
def strLen : Value → Nat
  | .string b => b.size
  | _ => 0
theorem strLen_list (l : List UInt8) : strLen (.string ⟨l.toArray⟩) = l.length := by simp [strLen, ByteArray.size]
set_option maxRecDepth 100000 in
set_option maxHeartbeats 800000 in
theorem sPadNum_any (x n : Int) (w : World) :
    Calls Tryz.prog 86 #[.int .i64 x, .int .i64 n] w fun e w' => e = .returned (.string ⟨(padT x n).toArray⟩) ∧ Below w.heap.size w w' := by
  cases h1 : inB n 1 18
  · have h1o : ¬ (1 ≤ n ∧ n ≤ 18) := of_decide_eq_false h1
    have HN : Hid _ := padT_no (padOk_no1 (x := x) h1o)
    go_enter Tryz.func86, Tryz.ntmps86
    go_wp2_with fail
    refine (in_any _ _ _ _).mono ?_
    rintro e w1 ⟨rfl, hw1⟩
    subst hw1
    rw [h1]
    go_wp2
    go_ret
    exact ⟨one_str (by rw [HN.out]), Below.refl _ _⟩
  · have h1i : 1 ≤ n ∧ n ≤ 18 := of_decide_eq_true h1
    have HI : Hid _ := h1
    obtain ⟨m, rfl⟩ := Int.eq_ofNat_of_zero_le (show 0 ≤ n by omega)
    have hp : 10 ^ m ≤ 10 ^ 18 := Nat.pow_le_pow_right (by omega) (by omega)
    have hp0 : 0 < 10 ^ m := Nat.pow_pos (by omega)
    have hm18 : m ≤ 18 := by omega
    have HM1 : Hid (1 ≤ m) := by rw [Hid]; omega
    clear h1
    obtain ⟨y, hy⟩ : ∃ y : Nat, 10 ^ m = y := ⟨_, rfl⟩
    rw [hy] at hp hp0
    have hyb : y ≤ 1000000000000000000 := by omega
    have HYM : Hid _ := hy
    clear hy hp
    cases h2 : inB x 0 ((y : Int) - 1)
    · have h2o : ¬ (0 ≤ x ∧ x ≤ (y : Int) - 1) := of_decide_eq_false h2
      have HN : Hid _ := padT_no (padOk_no2 (x := x) (n := m) (by rw [Int.toNat_natCast, HYM.out]; omega))
      go_enter Tryz.func86, Tryz.ntmps86
      go_wp2_with fail
      refine (in_any _ _ _ _).mono ?_
      rintro e w1 ⟨rfl, hw1⟩
      subst hw1
      rw [HI.out]
      go_wp2_with fail
      refine (l01Ten_any m _ hm18).mono ?_
      rintro e w1 ⟨rfl, hw1⟩
      subst hw1
      rw [HYM.out]
      go_wp2_with fail
      refine (in_any _ _ _ _).mono ?_
      rintro e w1 ⟨rfl, hw1⟩
      subst hw1
      rw [h2]
      go_wp2
      go_ret
      exact ⟨one_str (by rw [HN.out]), Below.refl _ _⟩
    · have h2i : 0 ≤ x ∧ x ≤ (y : Int) - 1 := of_decide_eq_true h2
      obtain ⟨a, rfl⟩ := Int.eq_ofNat_of_zero_le h2i.1
      have H2 : Hid _ := h2
      have hay : a < y := by omega
      have HY : Hid (padT a m = padN a m) := padT_yes HM1.out hm18 (by rw [HYM.out]; exact hay)
      have hsl := dec_len_pow m a HM1.out (by rw [HYM.out]; exact hay)
      unfold padN at HY
      clear h2
      go_enter Tryz.func86, Tryz.ntmps86
      go_wp2_with fail
      refine (in_any _ _ _ _).mono ?_
      rintro e w1 ⟨rfl, hw1⟩
      subst hw1
      rw [HI.out]
      go_wp2_with fail
      refine (l01Ten_any m _ hm18).mono ?_
      rintro e w1 ⟨rfl, hw1⟩
      subst hw1
      rw [HYM.out]
      go_wp2_with fail
      refine (in_any _ _ _ _).mono ?_
      rintro e w1 ⟨rfl, hw1⟩
      subst hw1
      rw [H2.out]
      clear H2 HI
      go_wp2_with fail
      refine (dec_up a _ (by omega)).mono ?_
      rintro e w1 ⟨rfl, hw1⟩
      subst hw1
      generalize Lib.decDigits a = s at hsl HY
      go_wp2
      go_loop [5] (fun v => ∃ k : Nat, k ≤ m - s.length ∧ v = .string ⟨(List.replicate k 48 ++ s).toArray⟩) (fun v => m - strLen v)
      case atStart => exact ⟨0, Nat.zero_le _, rfl⟩
      case round =>
        obtain ⟨k, hk, rfl⟩ := hrel
        have hsz : (List.replicate k (48 : UInt8) ++ s).length = k + s.length := by simp
        have HS2 : Hid ((⟨#[48]⟩ : ByteArray) ++ ⟨(List.replicate k 48 ++ s).toArray⟩ = ⟨(List.replicate (k + 1) 48 ++ s).toArray⟩) := ba_append [48] (List.replicate k 48 ++ s)
        have HS3 : Hid (strLen (.string ((⟨#[48]⟩ : ByteArray) ++ ⟨(List.replicate k 48 ++ s).toArray⟩)) = k + 1 + s.length) := by rw [Hid, HS2.out, strLen_list]; simp
        have HS4 : Hid (strLen (.string ⟨(List.replicate k 48 ++ s).toArray⟩) = k + s.length) := by rw [Hid, strLen_list, hsz]
        have HK : Hid (k = m - s.length → padT a m = List.replicate k 48 ++ s) := fun e => by rw [e]; exact HY.out
        generalize List.replicate k (48 : UInt8) ++ s = p at hsz HS2 HS3 HS4 HK
        have hpl : p.length ≤ 25 := by omega
        by_cases hlt : p.length < m
        · have hlt' : (p.length : Int) < (m : Int) := by omega
          have hkd : k + 1 ≤ m - s.length := by omega
          have hme : m - (k + 1 + s.length) < m - (k + s.length) := by omega
          clear hsz
          go_wp2
          go_round
          case rel => exact ⟨k + 1, hkd, by rw [HS2.out]⟩
          case measure => rw [HS3.out, HS4.out]; exact hme
        · have hlt' : (m : Int) ≤ (p.length : Int) := by omega
          have HP : Hid _ := HK.out (by omega)
          clear hsz HK HS2 HS3 HS4 hk
          go_wp2
          go_ret
          exact ⟨one_str (by rw [HP.out]), Below.refl _ _⟩
end Go.Proofs.YtpenkpiffdbdmaaGreatDoor.Tg
/- From what the rows of chapter 4 list of Go's library's tables to what PadNum asks of them. -/
namespace Go.Proofs.YtpenkpiffdbdmaaGreatDoor
open Go.ChangeShapes Go.WideShapes Go.ChangeAt Go.RowKit
theorem tabEqT : (Rows.laid_internal_strconv_uint64pow10 : DataW Unit) = Lib.tabData .u64 Lib.pow10Tab := by kernel_rfl
theorem pow10_headT {w : World} {r : List (String × DataW Unit)} (h1 : laidMet Tryz.prog (("internal/strconv.uint64pow10", Rows.laid_internal_strconv_uint64pow10) :: r) w) : Tg.Pow10 w := by
  rw [tabEqT] at h1
  exact Lib.tabIs_of_head (g := 4) (t := 152) (by kernel_rfl) (by kernel_rfl) Tryz.underlying152 Tryz.underlying137 (by kernel_rfl) (by kernel_rfl) h1
end Go.Proofs.YtpenkpiffdbdmaaGreatDoor
/- Fields and messages that came in: what such a struct reads as. -/
namespace Go.Proofs.YtpenkpiffdbdmaaGreatDoor
open Go.ChangeShapes Go.WideShapes Go.ChangeAt Go.RowKit Go.Deep
def FldsBd (fs : List Fld) : Prop := fs.length ≤ maxLen ∧ ∀ f ∈ fs, f.2.length ≤ maxLen
/-- The slice of fields at 'ao' reads as 'fs' in w. -/
def FldsAt (w : World) (ao : Option Addr) (fs : List Fld) : Prop :=
  fs = [] ∨ ∃ b off, ao = some ⟨b, off, none⟩ ∧ b < w.heap.size ∧ ∀ i, i < fs.length →
    w.cell? ⟨b, off + i * 2, none⟩ = some (.int .i64 (at0 fs i).1) ∧ w.cell? ⟨b, off + i * 2 + 1, none⟩ = some (.string ⟨(at0 fs i).2.toArray⟩)
theorem FldsAt.below {w w' : World} {ao : Option Addr} {fs : List Fld} (h : FldsAt w ao fs) (hb : Below w.heap.size w w') : FldsAt w' ao fs := by
  rcases h with h | ⟨b, off, h1, h2, h3⟩
  · exact .inl h
  · exact .inr ⟨b, off, h1, Nat.lt_of_lt_of_le h2 hb.size, fun i hi => ⟨(hb.cell (p := ⟨b, off + i * 2, none⟩) h2).trans (h3 i hi).1, (hb.cell (p := ⟨b, off + i * 2 + 1, none⟩) h2).trans (h3 i hi).2⟩⟩
theorem is_field {P : Program} {H : Type} {enc : TypeId × Value → H} {W : World} {r : Reach} {base : Nat} {t : TypeId} {f0 f1 : Field} {v : Value} {d : DataW H} {p : List MemPlace}
    (ht : P.underlying t = some (.struct #[f0, f1])) (hc : P.cellsOf t = 2) (o0 : f0.offset = 0) (o1 : f1.offset = 1) (c0 : P.cellsOf f0.type = 1) (c1 : P.cellsOf f1.type = 1)
    (t0 : P.underlying f0.type = some (.int .i64)) (t1 : P.underlying f1.type = some .string)
    (hv : Value.okWide P W r base t v) (h : DataW.Trod enc P W 0 (fun _ => true) true t v d p) : ∃ n s, v = .agg #[.int .i64 n, .string s] ∧ s.size ≤ maxLen := by
  obtain ⟨cs, rfl, _⟩ := okWide_struct ht hv
  obtain ⟨fuel, hf⟩ := h
  obtain ⟨y0, y1, m, _, hl, h0, h1⟩ := trod_struct2 ht hf
  simp only [Value.cells] at hl h0 h1
  rw [hc] at hl
  obtain ⟨l⟩ := cs
  match l, hl with
  | [a, b], _ =>
    simp [o0, o1, c0, c1] at h0 h1
    obtain ⟨n, e0, _⟩ := DataW.trod_int t0 h0
    obtain ⟨s, e1, _, hs⟩ := DataW.trod_string t1 h1
    simp at e0 e1
    exact ⟨n, s, by rw [e0, e1], hs⟩
theorem is_message {P : Program} {H : Type} {enc : TypeId × Value → H} {W : World} {r : Reach} {base : Nat} {t e : TypeId} {f0 f1 g0 g1 : Field} {v : Value} {d : DataW H} {p : List MemPlace}
    (ht : P.underlying t = some (.struct #[f0, f1])) (hc : P.cellsOf t = 2) (o0 : f0.offset = 0) (o1 : f1.offset = 1) (c0 : P.cellsOf f0.type = 1) (c1 : P.cellsOf f1.type = 1)
    (t0 : P.underlying f0.type = some (.int .i64)) (t1 : P.underlying f1.type = some (.slice e))
    (he : P.underlying e = some (.struct #[g0, g1])) (ce : P.cellsOf e = 2) (p0 : g0.offset = 0) (p1 : g1.offset = 1) (d0 : P.cellsOf g0.type = 1) (d1 : P.cellsOf g1.type = 1)
    (u0 : P.underlying g0.type = some (.int .i64)) (u1 : P.underlying g1.type = some .string)
    (hv : Value.okWide P W r base t v) (h : DataW.Trod enc P W 0 (fun _ => true) true t v d p) :
    ∃ n a cap fs, v = .agg #[.int .i64 n, .slice a (List.length fs) cap] ∧ FldsAt W a fs ∧ FldsBd fs := by
  obtain ⟨cs, rfl, _⟩ := okWide_struct ht hv
  obtain ⟨fuel, hf⟩ := h
  obtain ⟨y0, y1, m, _, hl, h0, h1⟩ := trod_struct2 ht hf
  simp only [Value.cells] at hl h0 h1
  rw [hc] at hl
  obtain ⟨l⟩ := cs
  match l, hl with
  | [x, y], _ =>
    simp [o0, o1, c0, c1] at h0 h1
    obtain ⟨n, e0, _⟩ := DataW.trod_int t0 h0
    simp at e0
    rcases open_slice_pairs t1 he ce p0 p1 d0 d1 h1 with ⟨e1, _⟩ | ⟨a, len, cap, m, k, V0, V1, D0, D1, P0, P1, e1, hb, hlc, hm, hmm, _, hx⟩
    · simp at e1
      exact ⟨n, none, 0, [], by rw [e0, e1]; rfl, .inl rfl, Nat.zero_le _, fun f hf => by cases hf⟩
    · simp at e1 hmm
      subst hmm
      obtain ⟨F, hF⟩ := choose_lt (α := Fld) (n := m) (p := fun i f => V0 i = .int .i64 f.1 ∧ V1 i = .string ⟨f.2.toArray⟩ ∧ f.2.length ≤ maxLen) (fun i hi => by
        obtain ⟨_, _, g2, g3⟩ := hx i hi
        obtain ⟨z, q0, _⟩ := DataW.trod_int u0 g2
        obtain ⟨s, q1, _, hs⟩ := DataW.trod_string u1 g3
        simp at q0 q1
        exact ⟨(z, s.data.toList), q0, by rw [q1], by show s.data.toList.length ≤ maxLen; rw [Array.length_toList]; exact hs⟩)
      refine ⟨n, some a, m, (List.range len).map F, by rw [e0, e1]; simp, ?_, by rw [List.length_map, List.length_range]; exact Nat.le_trans hlc hm, fun f hf => by
        obtain ⟨i, hi, rfl⟩ := List.mem_map.1 hf
        exact (hF i (by have := List.mem_range.1 hi; omega)).2.2⟩
      by_cases hz : len = 0
      · subst hz; exact .inl rfl
      · obtain ⟨bk, off, spot⟩ := a
        have hc0 := (hx 0 (by omega)).1
        have hspot : spot = none := by simpa [Addr.add] using World.cell?_spot hc0
        subst hspot
        refine .inr ⟨bk, off, rfl, ?_, fun i hi => ?_⟩
        · exact World.block_lt_of_cell? W _ hc0
        · have hi' : i < len := by simpa using hi
          have hat : at0 ((List.range len).map F) i = F i := by simp [at0, List.getD_eq_getElem?_getD, hi']
          obtain ⟨g0, g1, _, _⟩ := hx i (by omega)
          rw [hat, ← (hF i (by omega)).1, ← (hF i (by omega)).2.1]
          rw [add_plain] at g0 g1
          exact ⟨g0, by rw [Nat.add_assoc]; exact g1⟩
/-- a slice of such structs that came in -/
theorem is_flds {P : Program} {H : Type} {enc : TypeId × Value → H} {W : World} {r : Reach} {base : Nat} {t e : TypeId} {g0 g1 : Field} {v : Value} {d : DataW H} {p : List MemPlace}
    (ht : P.underlying t = some (.slice e))
    (he : P.underlying e = some (.struct #[g0, g1])) (ce : P.cellsOf e = 2) (p0 : g0.offset = 0) (p1 : g1.offset = 1) (d0 : P.cellsOf g0.type = 1) (d1 : P.cellsOf g1.type = 1)
    (u0 : P.underlying g0.type = some (.int .i64)) (u1 : P.underlying g1.type = some .string)
    (hv : Value.okWide P W r base t v) (h : DataW.Trod enc P W 0 (fun _ => true) true t v d p) :
    ∃ a cap fs, v = .slice a (List.length fs) cap ∧ FldsAt W a fs ∧ FldsBd fs := by
  obtain ⟨va, vl, vc, rfl⟩ := okWide_slice ht hv
  obtain ⟨fuel, h1⟩ := h
  rcases open_slice_pairs ht he ce p0 p1 d0 d1 h1 with ⟨e1, _⟩ | ⟨a, len, cap, m, k, V0, V1, D0, D1, P0, P1, e1, hb, hlc, hm, hmm, _, hx⟩
  · have e2 : Value.slice va vl vc = .slice none 0 0 := by simpa [Value.cells] using e1
    exact ⟨none, 0, [], e2, .inl rfl, Nat.zero_le _, fun f hf => by cases hf⟩
  · simp at hmm
    subst hmm
    have e2 : Value.slice va vl vc = .slice (some a) len m := by simpa [Value.cells] using e1
    obtain ⟨F, hF⟩ := choose_lt (α := Fld) (n := m) (p := fun i f => V0 i = .int .i64 f.1 ∧ V1 i = .string ⟨f.2.toArray⟩ ∧ f.2.length ≤ maxLen) (fun i hi => by
      obtain ⟨_, _, g2, g3⟩ := hx i hi
      obtain ⟨z, q0, _⟩ := DataW.trod_int u0 g2
      obtain ⟨s, q1, _, hs⟩ := DataW.trod_string u1 g3
      simp at q0 q1
      exact ⟨(z, s.data.toList), q0, by rw [q1], by show s.data.toList.length ≤ maxLen; rw [Array.length_toList]; exact hs⟩)
    refine ⟨some a, m, (List.range len).map F, by rw [e2]; simp, ?_, by rw [List.length_map, List.length_range]; exact Nat.le_trans hlc hm, fun f hf => by
      obtain ⟨i, hi, rfl⟩ := List.mem_map.1 hf
      exact (hF i (by have := List.mem_range.1 hi; omega)).2.2⟩
    by_cases hz : len = 0
    · subst hz; exact .inl rfl
    · obtain ⟨bk, off, spot⟩ := a
      have hc0 := (hx 0 (by omega)).1
      have hspot : spot = none := by simpa [Addr.add] using World.cell?_spot hc0
      subst hspot
      refine .inr ⟨bk, off, rfl, ?_, fun i hi => ?_⟩
      · exact World.block_lt_of_cell? W _ hc0
      · have hi' : i < len := by simpa using hi
        have hat : at0 ((List.range len).map F) i = F i := by simp [at0, List.getD_eq_getElem?_getD, hi']
        obtain ⟨g0, g1, _, _⟩ := hx i (by omega)
        rw [hat, ← (hF i (by omega)).1, ← (hF i (by omega)).2.1]
        rw [add_plain] at g0 g1
        exact ⟨g0, by rw [Nat.add_assoc]; exact g1⟩
end Go.Proofs.YtpenkpiffdbdmaaGreatDoor
/- The laws' own functions over messages: how much one takes, its copy. -/
namespace Go.Proofs.YtpenkpiffdbdmaaGreatDoor
open Go.RowKit
/-- what is left behind the data of all fields -/
def leftFs : List Fld → Int → Int
  | [], left => left
  | f :: r, left => if left - (f.2.length : Int) < 0 then -1 else leftFs r (left - (f.2.length : Int))
def leftM (fs : List Fld) (left : Int) : Int := if left - (fs.length : Int) < 0 then -1 else leftFs fs (left - (fs.length : Int))
theorem leftFs_step (fs : List Fld) (k : Nat) (left : Int) (h : k < fs.length) : leftFs (fs.drop k) left = if left - ((at0 fs k).2.length : Int) < 0 then -1 else leftFs (fs.drop (k + 1)) (left - ((at0 fs k).2.length : Int)) := by
  have e : at0 fs k = fs[k] := by simp [at0, List.getD_eq_getElem?_getD, h]
  rw [List.drop_eq_getElem_cons h, e]; rfl
def sumF (fs : List Fld) : Nat := (fs.map fun f => f.2.length).sum
theorem leftFs_sum (fs : List Fld) : ∀ left, 0 ≤ leftFs fs left → 0 ≤ left → (sumF fs : Int) ≤ left := by
  induction fs with
  | nil => intro left _ h; simpa [sumF] using h
  | cons f r ih =>
    intro left h hl
    simp only [leftFs] at h
    split at h
    · omega
    · have := ih _ h (by omega)
      simp only [sumF, List.map_cons, List.sum_cons] at this ⊢
      omega
theorem leftM_sum {fs : List Fld} {left : Int} (h : 0 ≤ leftM fs left) : (fs.length : Int) + sumF fs ≤ left := by
  unfold leftM at h
  split at h
  · omega
  · have := leftFs_sum fs _ h (by omega)
    omega
theorem sumF_mem {fs : List Fld} {f : Fld} (h : f ∈ fs) : f.2.length ≤ sumF fs := by
  induction fs with
  | nil => cases h
  | cons g r ih =>
    simp only [sumF, List.map_cons, List.sum_cons] at ih ⊢
    rcases List.mem_cons.1 h with rfl | hr
    · omega
    · have := ih hr; omega
theorem at0_mem {fs : List Fld} {k : Nat} (h : k < fs.length) : at0 fs k ∈ fs := by
  have e : at0 fs k = fs[k] := by simp [at0, List.getD_eq_getElem?_getD, h]
  rw [e]; exact List.getElem_mem h
theorem at0_le {fs : List Fld} {k n : Nat} (h : k < fs.length) (hs : sumF fs ≤ n) : (at0 fs k).2.length ≤ n := Nat.le_trans (sumF_mem (at0_mem h)) hs
set_option maxHeartbeats 800000 in
theorem szFieldS_any (ao : Option Addr) (cap : Nat) (fs : List Fld) (w : World) (hz : FldsAt w ao fs) (hd : FldsBd fs) :
    Calls Tryz.prog 9 #[.slice ao fs.length cap, .int .i64 1048576] w fun e w' => e = .returned (.int .i64 (leftM fs 1048576)) ∧ Below w.heap.size w w' := by
  have hn : fs.length ≤ 9223372036854775807 := by have := hd.1; unfold maxLen at this; omega
  have HD : Hid (∀ k, k < fs.length → (at0 fs k).2.length ≤ 9223372036854775807) := by
    intro k hk; have := hd.2 _ (at0_mem hk); unfold maxLen at this; omega
  clear hd
  by_cases hneg : (1048576 : Int) - (fs.length : Int) < 0
  · have HE : Hid (leftM fs 1048576 = -1) := if_pos hneg
    go_enter Tryz.func9, Tryz.ntmps9
    go_wp2
    go_ret
    exact ⟨one_int HE.out.symm, Below.refl _ _⟩
  · have HE : Hid (leftM fs 1048576 = leftFs fs (1048576 - (fs.length : Int))) := if_neg hneg
    rcases hz with rfl | ⟨b, off, rfl, hb, hcell⟩
    · go_enter Tryz.func9, Tryz.ntmps9
      go_wp2
      refine wp_loop_rounds 1 ?_
      rw [rounds_succ]
      go_wp2
      go_ret
      exact ⟨rfl, Below.refl _ _⟩
    · have HC : Hid (∀ i, i < fs.length → w.cell? ⟨b, off + i * 2, none⟩ = some (.int .i64 (at0 fs i).1) ∧ w.cell? ⟨b, off + i * 2 + 1, none⟩ = some (.string ⟨(at0 fs i).2.toArray⟩)) := hcell
      clear hcell
      go_enter Tryz.func9, Tryz.ntmps9
      go_wp2
      go_loopw [1, 5] (fun v i wr => ∃ (k : Nat) (l : Int), k ≤ fs.length ∧ i = .int .i64 k ∧ v = .int .i64 l ∧ 0 ≤ l ∧ l ≤ 1048576 ∧ leftM fs 1048576 = leftFs (fs.drop k) l ∧ Below w.heap.size w wr) (fun _ i _ => fs.length - (intOf i).toNat)
      case atStart => exact ⟨0, _, Nat.zero_le _, rfl, rfl, by omega, by omega, HE.out, Below.refl _ _⟩
      case round =>
        obtain ⟨k, l, hk, rfl, rfl, h0, h1, hleft, hbr⟩ := hrel
        by_cases hlt : k < fs.length
        · have c1 : wr.cell? ⟨b, off + k * 2, none⟩ = some (.int .i64 (at0 fs k).1) := (hbr.cell (p := ⟨b, off + k * 2, none⟩) hb).trans (HC.out k hlt).1
          have c2 : wr.cell? ⟨b, off + k * 2 + 1, none⟩ = some (.string ⟨(at0 fs k).2.toArray⟩) := (hbr.cell (p := ⟨b, off + k * 2 + 1, none⟩) hb).trans (HC.out k hlt).2
          have hki : (k : Int) < (fs.length : Int) := by omega
          have hst := leftFs_step fs k l hlt
          have hdk := HD.out k hlt
          obtain ⟨⟨n, s⟩, hf⟩ : ∃ f, at0 fs k = f := ⟨_, rfl⟩
          rw [hf] at c1 c2 hst hdk
          simp only at c1 c2 hst hdk
          by_cases hng : l - (s.length : Int) < 0
          · have HN : Hid (leftM fs 1048576 = -1) := by rw [Hid, hleft, hst, if_pos hng]
            have HF : Hid (leftF s l = -1) := if_pos hng
            clear hst hf hleft
            go_wp2_with fail
            refine (szField_any _ _ _ _ ⟨h1, h0⟩ hdk).mono ?_
            rintro e w1 ⟨rfl, b1⟩
            rw [HF.out]
            go_wp2
            go_ret
            exact ⟨one_int HN.out.symm, hbr.trans (b1.mono hbr.size)⟩
          · have HN : Hid (leftM fs 1048576 = leftFs (fs.drop (k + 1)) (l - (s.length : Int))) := by rw [Hid, hleft, hst, if_neg hng]
            have HF : Hid (leftF s l = l - (s.length : Int)) := if_neg hng
            clear hst hf hleft
            go_wp2_with fail
            refine (szField_any _ _ _ _ ⟨h1, h0⟩ hdk).mono ?_
            rintro e w1 ⟨rfl, b1⟩
            rw [HF.out]
            go_wp2
            go_roundw
            case rel => exact ⟨k + 1, _, by omega, by go_num, rfl, by omega, by omega, HN.out, hbr.trans (b1.mono hbr.size)⟩
            case measure => simp [intOf]; omega
        · have : k = fs.length := by omega
          subst this
          have HN : Hid (leftM fs 1048576 = l) := by rw [Hid, hleft, List.drop_of_length_le (Nat.le_refl _)]; rfl
          clear hleft
          go_wp2
          go_ret
          exact ⟨one_int HN.out.symm, hbr⟩
end Go.Proofs.YtpenkpiffdbdmaaGreatDoor
/- Fields in a row of one's own: the cells of a list of fields; the laws' copy of a message. -/
namespace Go.Proofs.YtpenkpiffdbdmaaGreatDoor
open Go.RowKit
theorem keepRow {w w' : World} {base n size : Nat} {t : TypeId} {v : Value} {xs : List Value} (h : w.ownsRow base t size v n xs) (hb : Below w.heap.size w w') : w'.ownsRow base t size v n xs := by
  obtain ⟨h1, h2⟩ := h
  refine ⟨h1, ?_⟩
  rcases h2 with h | ⟨g, cap, cur, hv, hg, hh, a1, a2, a3, a4⟩
  · exact .inl h
  · have hlt : g < w.heap.size := (Array.getElem?_eq_some_iff.1 hh).1
    exact .inr ⟨g, cap, cur, hv, hg, (hb.block g hlt).trans hh, a1, a2, a3, a4⟩
theorem keepSet {w : World} {base n size : Nat} {t : TypeId} {v : Value} {xs : List Value} (h : w.ownsRow base t size v n xs) (p : Addr) (u : Value) (hp : ∀ g, v.ownBlock = some g → g ≠ p.block) : (w.setCell p u).ownsRow base t size v n xs := by
  obtain ⟨h1, h2⟩ := h
  refine ⟨h1, ?_⟩
  rcases h2 with h | ⟨g, cap, cur, hv, hg, hh, a1, a2, a3, a4⟩
  · exact .inl h
  · exact .inr ⟨g, cap, cur, hv, hg, (Below.heap_setCell w p u g (hp g (by rw [hv]; rfl))).trans hh, a1, a2, a3, a4⟩
theorem lowerRow {w : World} {base base' n size : Nat} {t : TypeId} {v : Value} {xs : List Value} (h : w.ownsRow base t size v n xs) (hb : base' ≤ base) : w.ownsRow base' t size v n xs := by
  obtain ⟨h1, h2⟩ := h
  refine ⟨h1, ?_⟩
  rcases h2 with h | ⟨g, cap, cur, hv, hg, r⟩
  · exact .inl h
  · exact .inr ⟨g, cap, cur, hv, Nat.le_trans hb hg, r⟩
def fcell (f : Fld) : List Value := [.int .i64 f.1, .string ⟨f.2.toArray⟩]
def fcells (fs : List Fld) : List Value := fs.flatMap fcell
theorem fcells_cons (f : Fld) (r : List Fld) : fcells (f :: r) = .int .i64 f.1 :: .string ⟨f.2.toArray⟩ :: fcells r := rfl
theorem fcells_append (a b : List Fld) : fcells (a ++ b) = fcells a ++ fcells b := by simp [fcells]
theorem fcells_len (fs : List Fld) : (fcells fs).length = fs.length * 2 := by
  induction fs with
  | nil => rfl
  | cons f r ih => rw [fcells_cons]; simp [ih]; omega
theorem fcells_at (fs : List Fld) : ∀ k, k < fs.length → (fcells fs)[k * 2]? = some (.int .i64 (at0 fs k).1) ∧ (fcells fs)[k * 2 + 1]? = some (.string ⟨(at0 fs k).2.toArray⟩) := by
  induction fs with
  | nil => intro k h; simp at h
  | cons f r ih =>
    intro k h
    rw [fcells_cons]
    cases k with
    | zero => exact ⟨rfl, rfl⟩
    | succ k =>
      have := ih k (by simpa using h)
      rw [show (k + 1) * 2 = k * 2 + 1 + 1 by omega, List.getElem?_cons_succ, List.getElem?_cons_succ, List.getElem?_cons_succ, List.getElem?_cons_succ]
      exact this
theorem fcells_set (fs : List Fld) (f : Fld) : ∀ k, k < fs.length → ((fcells fs).set (k * 2) (.int .i64 f.1)).set (k * 2 + 1) (.string ⟨f.2.toArray⟩) = fcells (fs.set k f) := by
  induction fs with
  | nil => intro k h; simp at h
  | cons g r ih =>
    intro k h
    rw [fcells_cons]
    cases k with
    | zero => rfl
    | succ k =>
      have := ih k (by simpa using h)
      rw [show (k + 1) * 2 = k * 2 + 1 + 1 by omega, List.set_cons_succ, List.set_cons_succ, List.set_cons_succ, List.set_cons_succ, this]
      rfl
theorem fcells_one (fs : List Fld) : ∀ u ∈ fcells fs, u.oneCell' = true := by
  intro u hu
  simp only [fcells, List.mem_flatMap, fcell] at hu
  obtain ⟨f, _, hf⟩ := hu
  simp at hf
  rcases hf with rfl | rfl <;> rfl
theorem flds_of_own {w : World} {base g n cap : Nat} {t : TypeId} {fs : List Fld} (h : w.ownsRow base t 2 (.slice (some ⟨g, 0, none⟩) n cap) n (fcells fs)) : FldsAt w (some ⟨g, 0, none⟩) fs := by
  have hl := h.1
  rw [fcells_len] at hl
  by_cases h0 : fs = []
  · exact .inl h0
  · have hlt := (h.lt g rfl).2
    refine .inr ⟨g, 0, rfl, hlt, fun i hi => ?_⟩
    have := fcells_at fs i hi
    rw [Nat.zero_add, h.cellAt (i * 2) (by omega), h.cellAt (i * 2 + 1) (by omega)]
    exact this
theorem flds_of_own' {w : World} {base n : Nat} {t : TypeId} {v : Value} {fs : List Fld} (h : w.ownsRow base t 2 v n (fcells fs)) : ∃ ao cap, v = .slice ao fs.length cap ∧ FldsAt w ao fs ∧ n = fs.length := by
  have hn : n = fs.length := by have := h.1; rw [fcells_len] at this; omega
  subst hn
  rcases h.2 with ⟨rfl, hn⟩ | ⟨g, cap, cur, rfl, _⟩
  · have : fs = [] := List.eq_nil_of_length_eq_zero hn
    subst this
    exact ⟨none, 0, rfl, .inl rfl, rfl⟩
  · exact ⟨_, cap, rfl, flds_of_own h, rfl⟩
/-- what a copy holds behind k rounds -/
def halfF (fs : List Fld) (k : Nat) : List Fld := fs.take k ++ List.replicate (fs.length - k) (0, [])
theorem halfF_all (fs : List Fld) : halfF fs fs.length = fs := by simp [halfF]
theorem halfF_len (fs : List Fld) (k : Nat) (h : k ≤ fs.length) : (halfF fs k).length = fs.length := by simp [halfF]; omega
theorem halfF_succ (fs : List Fld) (k : Nat) (h : k < fs.length) : (halfF fs k).set k (at0 fs k) = halfF fs (k + 1) := by
  have e : at0 fs k = fs[k] := by simp [at0, List.getD_eq_getElem?_getD, h]
  unfold halfF
  rw [List.set_append, if_neg (by simp; omega), List.length_take, Nat.min_eq_left (Nat.le_of_lt h), Nat.sub_self, show fs.length - k = fs.length - (k + 1) + 1 by omega, List.replicate_succ, List.set_cons_zero, List.take_succ_eq_append_getElem h, e, List.append_assoc]
  rfl
theorem halfF_at (fs : List Fld) (k : Nat) (h : k < fs.length) : at0 (halfF fs k) k = (0, []) := by
  simp [at0, halfF, List.getD_eq_getElem?_getD, List.getElem?_append, Nat.min_eq_left (Nat.le_of_lt h), List.getElem?_replicate]
  split <;> rfl
theorem infoF : (Tryz.prog.info? 60).map (fun i => (i.zero, i.size, i.bytes)) = some (some (.agg #[.int .i64 0, .string ⟨#[]⟩]), 2, 24) := by kernel_rfl
theorem cells_rep (m : Nat) : (madeCells (Value.agg #[.int .i64 0, .string ⟨#[]⟩]).cells (m * 2)).toList = fcells (List.replicate m (0, [])) := by
  apply List.ext_getElem?
  intro j
  by_cases hj : j < m * 2
  · have hq : j / 2 < (List.replicate m ((0 : Int), ([] : List UInt8))).length := by simp; omega
    have ha : at0 (List.replicate m ((0 : Int), ([] : List UInt8))) (j / 2) = (0, []) := by
      simp [at0, List.getD_eq_getElem?_getD, List.getElem?_replicate]; split <;> rfl
    have h := fcells_at _ _ hq
    rw [ha] at h
    have hl : (madeCells (Value.agg #[.int .i64 0, .string ⟨#[]⟩]).cells (m * 2)).toList[j]? = some ((#[Value.int .i64 0, .string ⟨#[]⟩] : Array Value)[j % 2]!) := by
      simp [madeCells, hj, Value.cells]
    rcases Nat.mod_two_eq_zero_or_one j with e | e
    · rw [hl, e, show j = j / 2 * 2 by omega, h.1]; rfl
    · rw [hl, e, show j = j / 2 * 2 + 1 by omega, h.2]; rfl
  · rw [List.getElem?_eq_none (by rw [Array.length_toList, size_madeCells]; omega), List.getElem?_eq_none (by rw [fcells_len]; simp; omega)]
set_option maxHeartbeats 800000 in
theorem toFieldS_any (ao : Option Addr) (cap : Nat) (fs : List Fld) (w : World) (hz : FldsAt w ao fs) (hn : fs.length ≤ 1048576) :
    Calls Tryz.prog 19 #[.slice ao fs.length cap] w fun e w' => e = .returned (.slice (some ⟨w.heap.size, 0, none⟩) fs.length fs.length) ∧
      w'.ownsRow w.heap.size 60 2 (.slice (some ⟨w.heap.size, 0, none⟩) fs.length fs.length) fs.length (fcells fs) ∧ Below w.heap.size w w' := by
  obtain ⟨i0, hi, hz0, hz1, hz2⟩ := info_parts infoF
  have hm0 := cells_rep fs.length
  rcases hz with rfl | ⟨b, off, rfl, hb, hcell⟩
  · go_enter Tryz.func19, Tryz.ntmps19
    go_wp2_with (refine wpList_make_full _ rfl (.tmp 6) (.tmp 6) 28 rfl w.heap.size 60 i0 _ 2 Tryz.underlying28 hi hz0 hz1 .i64 .i64 _ _ 0 rfl rfl rfl rfl (by rw [hz2]; omega) (by unfold maxLen; omega) (Nat.le_refl _) ?_; intro w1 hown hg)
    refine wp_loop_rounds 1 ?_
    rw [rounds_succ]
    go_wp2
    go_ret
    exact ⟨rfl, by simpa [madeCells, fcells] using hown, (Below.refl _ _).grown hg (Nat.le_refl _) (fun k hk => by cases hk)⟩
  · have HC : Hid (∀ i, i < fs.length → w.cell? ⟨b, off + i * 2, none⟩ = some (.int .i64 (at0 fs i).1) ∧ w.cell? ⟨b, off + i * 2 + 1, none⟩ = some (.string ⟨(at0 fs i).2.toArray⟩)) := hcell
    clear hcell
    go_enter Tryz.func19, Tryz.ntmps19
    go_wp2_with (refine wpList_make_full _ rfl (.tmp 6) (.tmp 6) 28 rfl w.heap.size 60 i0 _ 2 Tryz.underlying28 hi hz0 hz1 .i64 .i64 _ _ fs.length rfl rfl rfl rfl (by rw [hz2]; omega) (by unfold maxLen; omega) (Nat.le_refl _) ?_; intro w1 hown hg)
    rw [hm0, show List.replicate fs.length ((0 : Int), ([] : List UInt8)) = halfF fs 0 from by simp [halfF]] at hown
    have hb1 : Below w.heap.size w w1 := (Below.refl _ _).grown hg (Nat.le_refl _) (fun k hk => by cases hk)
    clear hm0 hg
    go_loopw [4] (fun i wr => ∃ k : Nat, k ≤ fs.length ∧ i = .int .i64 k ∧ wr.ownsRow w.heap.size 60 2 (.slice (some ⟨w.heap.size, 0, none⟩) fs.length fs.length) fs.length (fcells (halfF fs k)) ∧ Below w.heap.size w wr) (fun i _ => fs.length - (intOf i).toNat)
    case atStart => exact ⟨0, Nat.zero_le _, rfl, hown, hb1⟩
    case round =>
      obtain ⟨k, hk, rfl, ho, hbr⟩ := hrel
      clear hown hb1
      by_cases hlt : k < fs.length
      · have c1 : wr.cell? ⟨b, off + k * 2, none⟩ = some (.int .i64 (at0 fs k).1) := (hbr.cell (p := ⟨b, off + k * 2, none⟩) hb).trans (HC.out k hlt).1
        have c2 : wr.cell? ⟨b, off + k * 2 + 1, none⟩ = some (.string ⟨(at0 fs k).2.toArray⟩) := (hbr.cell (p := ⟨b, off + k * 2 + 1, none⟩) hb).trans (HC.out k hlt).2
        have hki : (k : Int) < (fs.length : Int) := by omega
        have HS : Hid _ := halfF_succ fs k hlt
        have HT : Hid _ := fcells_set (halfF fs k) (at0 fs k) k (by rw [halfF_len fs k hk]; exact hlt)
        obtain ⟨⟨n, s⟩, hf⟩ : ∃ f, at0 fs k = f := ⟨_, rfl⟩
        rw [hf] at c1 c2 HS HT
        simp only at c1 c2 HT
        have HO : Hid (wr.ownsRow w.heap.size 60 2 (.slice (some ⟨w.heap.size, 0, none⟩) fs.length fs.length) fs.length (fcells (halfF fs k))) := ho
        have HA : Hid _ := halfF_at fs k hlt
        clear hf ho
        go_wp2_with fail
        refine (toField_any _ _ _).mono ?_
        rintro e w2 ⟨rfl, b2⟩
        have ho := keepRow HO.out b2
        have hat := fcells_at (halfF fs k) k (by rw [halfF_len fs k hk]; exact hlt)
        rw [HA.out] at hat
        have c3 : w2.cell? ⟨w.heap.size, k * 2, none⟩ = some (.int .i64 0) := by rw [ho.cellAt (k * 2) (by omega)]; exact hat.1
        have c4 : w2.cell? ⟨w.heap.size, k * 2 + 1, none⟩ = some (.string ⟨#[]⟩) := by rw [ho.cellAt (k * 2 + 1) (by omega)]; exact hat.2
        have c5 : w2.frozen? ⟨w.heap.size, k * 2, none⟩ = false := ho.frozenAt _
        have c6 : w2.frozen? ⟨w.heap.size, k * 2 + 1, none⟩ = false := ho.frozenAt _
        have HR : Hid (((w2.setCell ⟨w.heap.size, k * 2, none⟩ (.int .i64 n)).setCell ⟨w.heap.size, k * 2 + 1, none⟩ (.string ⟨s.toArray⟩)).ownsRow w.heap.size 60 2 (.slice (some ⟨w.heap.size, 0, none⟩) fs.length fs.length) fs.length (fcells (halfF fs (k + 1)))) := by
          have R := ((ho.stored (k * 2) (.int .i64 n)).1.stored (k * 2 + 1) (.string ⟨s.toArray⟩)).1
          rw [HT.out, HS.out] at R
          exact R
        clear ho hat
        go_wp2
        go_roundw
        case rel => exact ⟨k + 1, by omega, by go_num, HR.out, ((hbr.trans (b2.mono hbr.size)).setCell (Nat.le_refl _) _).setCell (Nat.le_refl _) _⟩
        case measure => simp [intOf]; omega
      · have : k = fs.length := by omega
        subst this
        rw [halfF_all] at ho
        go_wp2
        go_ret
        exact ⟨rfl, ho, hbr⟩
end Go.Proofs.YtpenkpiffdbdmaaGreatDoor
/- The laws' own functions over messages: a message's copy; whether two are the same. -/
namespace Go.Proofs.YtpenkpiffdbdmaaGreatDoor
open Go.RowKit
set_option maxHeartbeats 800000 in
theorem szMessage_any (kd : Int) (ao : Option Addr) (cap : Nat) (fs : List Fld) (w : World) (hz : FldsAt w ao fs) (hd : FldsBd fs) :
    Calls Tryz.prog 4 #[.agg #[.int .i64 kd, .slice ao fs.length cap], .int .i64 1048576] w fun e w' => e = .returned (.int .i64 (leftM fs 1048576)) ∧ Below w.heap.size w w' := by
  have bel1 : Below w.heap.size w (w.alloc (.cells #[.int .i64 kd, .slice ao fs.length cap] 24)) := (Below.refl _ _).alloc (Nat.le_refl _) _
  have hz1 := hz.below bel1
  have hlo : -1 ≤ leftM fs 1048576 := by
    have : ∀ (gs : List Fld) (l : Int), -1 ≤ l → -1 ≤ leftFs gs l := by
      intro gs
      induction gs with
      | nil => intro l h; exact h
      | cons f r ih => intro l h; simp only [leftFs]; split; omega; exact ih _ (by omega)
    unfold leftM; split
    · omega
    · exact this _ _ (by omega)
  go_enter Tryz.func4, Tryz.ntmps4
  go_wp2_with fail
  refine (szFieldS_any _ _ _ _ hz1 hd).mono ?_
  rintro e w1 ⟨rfl, b1⟩
  have bel := bel1.trans (b1.mono bel1.size)
  clear b1 bel1 hz1 hz hd
  obtain ⟨r, hr⟩ : ∃ r, leftM fs 1048576 = r := ⟨_, rfl⟩
  rw [hr] at hlo ⊢
  have HR : Hid _ := hr
  clear hr
  by_cases hneg : r < 0
  · obtain rfl : r = -1 := by omega
    go_wp2
    go_ret
    exact ⟨one_int HR.out.symm, bel⟩
  · go_wp2
    go_ret
    exact ⟨one_int HR.out.symm, bel⟩
set_option maxHeartbeats 800000 in
theorem toMessage_any (kd : Int) (ao : Option Addr) (cap : Nat) (fs : List Fld) (w : World) (hz : FldsAt w ao fs) (hn : fs.length ≤ 1048576) :
    Calls Tryz.prog 6 #[.agg #[.int .i64 kd, .slice ao fs.length cap]] w fun e w' => ∃ g, e = .returned (.agg #[.int .i64 kd, .slice (some ⟨g, 0, none⟩) fs.length fs.length]) ∧
      w'.ownsRow w.heap.size 60 2 (.slice (some ⟨g, 0, none⟩) fs.length fs.length) fs.length (fcells fs) ∧ Below w.heap.size w w' := by
  go_enter Tryz.func6, Tryz.ntmps6
  go_wp2_with fail
  refine (toFieldS_any _ _ _ _ (hz.below (by go_grown)) hn).mono ?_
  rintro e w1 ⟨rfl, ho, b1⟩
  generalize hW : (((w.alloc (.cells #[.int .i64 kd, .slice ao fs.length cap] 24)).alloc (.cells #[.int .i64 0, .slice none 0 0] 30)).alloc (.cells #[.int .i64 kd, .slice none 0 0] 30)) = W at ho b1 ⊢
  have hs : W.heap.size = w.heap.size + 3 := by rw [← hW]; simp
  have bW : Below w.heap.size w W := by rw [← hW]; go_grown
  have c1 : w1.cell? ⟨w.heap.size + 1, 0, none⟩ = some (.int .i64 0) := (b1.cell (p := ⟨w.heap.size + 1, 0, none⟩) (by rw [hs]; simp)).trans (by rw [← hW]; simp [go_sem])
  have c2 : w1.cell? ⟨w.heap.size + 1, 1, none⟩ = some (.slice none 0 0) := (b1.cell (p := ⟨w.heap.size + 1, 1, none⟩) (by rw [hs]; simp)).trans (by rw [← hW]; simp [go_sem])
  have c3 : w1.cell? ⟨w.heap.size + 1 + 1, 0, none⟩ = some (.int .i64 kd) := (b1.cell (p := ⟨w.heap.size + 1 + 1, 0, none⟩) (by rw [hs]; simp)).trans (by rw [← hW]; simp [go_sem])
  have c4 : w1.cell? ⟨w.heap.size + 1 + 1, 1, none⟩ = some (.slice none 0 0) := (b1.cell (p := ⟨w.heap.size + 1 + 1, 1, none⟩) (by rw [hs]; simp)).trans (by rw [← hW]; simp [go_sem])
  have z1 : w1.frozen? ⟨w.heap.size + 1, 0, none⟩ = false := (b1.frozen (p := ⟨w.heap.size + 1, 0, none⟩) (by rw [hs]; simp)).trans (by rw [← hW]; simp [go_sem])
  have z2 : w1.frozen? ⟨w.heap.size + 1, 1, none⟩ = false := (b1.frozen (p := ⟨w.heap.size + 1, 1, none⟩) (by rw [hs]; simp)).trans (by rw [← hW]; simp [go_sem])
  have z4 : w1.frozen? ⟨w.heap.size + 1 + 1, 1, none⟩ = false := (b1.frozen (p := ⟨w.heap.size + 1 + 1, 1, none⟩) (by rw [hs]; simp)).trans (by rw [← hW]; simp [go_sem])
  have HB : Hid (Below w.heap.size w w1) := bW.trans (b1.mono (by rw [hs]; omega))
  have HO : Hid (w1.ownsRow W.heap.size 60 2 (.slice (some ⟨W.heap.size, 0, none⟩) fs.length fs.length) fs.length (fcells fs)) := ho
  have HS : Hid _ := hs
  clear b1 bW hW ho hs hz
  go_wp2
  refine bodyPost_ret (by simp [results, Tryz.results6, go_sem, c1, c2]; try rfl) rfl ?_
  refine ⟨W.heap.size, rfl, ?_, ((HB.out.setCell (by show w.heap.size ≤ w.heap.size + 1 + 1; omega) _).setCell (by show w.heap.size ≤ w.heap.size + 1; omega) _).setCell (by show w.heap.size ≤ w.heap.size + 1; omega) _⟩
  have hs := HS.out
  have hne : ∀ (c : Nat) (g : Nat), c ≤ 2 → (Value.slice (some ⟨W.heap.size, 0, none⟩) fs.length fs.length).ownBlock = some g → g ≠ w.heap.size + c := by
    intro c g hc h
    simp [Value.ownBlock] at h
    omega
  exact lowerRow (keepSet (keepSet (keepSet HO.out _ _ (fun g h => hne 2 g (by omega) h)) _ _ (fun g h => hne 1 g (by omega) h)) _ _ (fun g h => hne 1 g (by omega) h)) (by omega)
def fldEq (f g : Fld) : Bool := decide (f = g)
theorem fldEq_yes {f g : Fld} (h : fldEq f g = true) : f = g := of_decide_eq_true h
theorem fldEq_no {f g : Fld} (h : fldEq f g = false) : f ≠ g := of_decide_eq_false h
set_option maxHeartbeats 800000 in
theorem eqField_any (n m : Int) (s t : List UInt8) (w : World) :
    Calls Tryz.prog 51 #[.agg #[.int .i64 n, .string ⟨s.toArray⟩], .agg #[.int .i64 m, .string ⟨t.toArray⟩]] w fun e w' => e = .returned (.bool (fldEq (n, s) (m, t))) ∧ Below w.heap.size w w' := by
  cases h1 : (n != m)
  · cases h2 : (s == t)
    · have HE : Hid (¬ (n, s) = (m, t)) := by
        intro e; rw [Prod.mk.injEq] at e; rw [e.2] at h2; simp at h2
      go_enter Tryz.func51, Tryz.ntmps51
      go_wp2
      go_ret
      exact ⟨one_bool (by rw [fldEq, decide_eq_false HE.out]), by go_grown⟩
    · have HE : Hid ((n, s) = (m, t)) := by
        have e1 : n = m := by simpa using h1
        have e2 : s = t := by simpa using h2
        rw [Hid, e1, e2]
      go_enter Tryz.func51, Tryz.ntmps51
      go_wp2
      go_ret
      exact ⟨one_bool (by rw [fldEq, decide_eq_true HE.out]), by go_grown⟩
  · have HE : Hid (¬ (n, s) = (m, t)) := by
      intro e; rw [Prod.mk.injEq] at e; rw [e.1] at h1; simp at h1
    go_enter Tryz.func51, Tryz.ntmps51
    go_wp2
    go_ret
    exact ⟨one_bool (by rw [fldEq, decide_eq_false HE.out]), by go_grown⟩
set_option maxHeartbeats 800000 in
theorem eqFieldS_any (ao bo : Option Addr) (c1 c2 : Nat) (xs ys : List Fld) (w : World) (hx : FldsAt w ao xs) (hy : FldsAt w bo ys) (h1 : xs.length ≤ 1099511627776) (h2 : ys.length ≤ 1099511627776) :
    Calls Tryz.prog 26 #[.slice ao xs.length c1, .slice bo ys.length c2] w fun e w' => e = .returned (.bool (decide (xs = ys))) ∧ Below w.heap.size w w' := by
  by_cases hl : xs.length = ys.length
  · rcases hx with rfl | ⟨b, off, rfl, hb, hcx⟩
    · have hy0 : ys = [] := List.eq_nil_of_length_eq_zero hl.symm
      subst hy0
      go_enter Tryz.func26, Tryz.ntmps26
      go_wp2
      refine wp_loop_rounds 1 ?_
      rw [rounds_succ]
      go_wp2
      go_ret
      exact ⟨rfl, Below.refl _ _⟩
    · rcases hy with rfl | ⟨d, off2, rfl, hd, hcy⟩
      · have hx0 : xs = [] := List.eq_nil_of_length_eq_zero hl
        subst hx0
        go_enter Tryz.func26, Tryz.ntmps26
        go_wp2
        refine wp_loop_rounds 1 ?_
        rw [rounds_succ]
        go_wp2
        go_ret
        exact ⟨rfl, Below.refl _ _⟩
      · obtain ⟨n, hn⟩ : ∃ n, xs.length = n := ⟨_, rfl⟩
        have hn2 : ys.length = n := by omega
        rw [hn] at hcx h1 ⊢
        rw [hn2] at hcy ⊢
        have HX : Hid (xs.length = n) := hn
        have HY : Hid (ys.length = n) := hn2
        have HCX : Hid (∀ i, i < n → w.cell? ⟨b, off + i * 2, none⟩ = some (.int .i64 (at0 xs i).1) ∧ w.cell? ⟨b, off + i * 2 + 1, none⟩ = some (.string ⟨(at0 xs i).2.toArray⟩)) := hcx
        have HCY : Hid (∀ i, i < n → w.cell? ⟨d, off2 + i * 2, none⟩ = some (.int .i64 (at0 ys i).1) ∧ w.cell? ⟨d, off2 + i * 2 + 1, none⟩ = some (.string ⟨(at0 ys i).2.toArray⟩)) := hcy
        clear hl hn hn2 hcx hcy
        go_enter Tryz.func26, Tryz.ntmps26
        go_wp2
        go_loopw [5] (fun i wr => ∃ k : Nat, k ≤ n ∧ i = .int .i64 k ∧ (∀ j, j < k → at0 xs j = at0 ys j) ∧ Below w.heap.size w wr) (fun i _ => n - (intOf i).toNat)
        case atStart => exact ⟨0, Nat.zero_le _, rfl, fun j hj => by omega, Below.refl _ _⟩
        case round =>
          obtain ⟨k, hk, rfl, hsame, hbr⟩ := hrel
          have HS : Hid (∀ j, j < k → at0 xs j = at0 ys j) := hsame
          clear hsame
          by_cases hlt : k < n
          · have e1 : wr.cell? ⟨b, off + k * 2, none⟩ = some (.int .i64 (at0 xs k).1) := (hbr.cell (p := ⟨b, off + k * 2, none⟩) hb).trans (HCX.out k hlt).1
            have e2 : wr.cell? ⟨b, off + k * 2 + 1, none⟩ = some (.string ⟨(at0 xs k).2.toArray⟩) := (hbr.cell (p := ⟨b, off + k * 2 + 1, none⟩) hb).trans (HCX.out k hlt).2
            have e3 : wr.cell? ⟨d, off2 + k * 2, none⟩ = some (.int .i64 (at0 ys k).1) := (hbr.cell (p := ⟨d, off2 + k * 2, none⟩) hd).trans (HCY.out k hlt).1
            have e4 : wr.cell? ⟨d, off2 + k * 2 + 1, none⟩ = some (.string ⟨(at0 ys k).2.toArray⟩) := (hbr.cell (p := ⟨d, off2 + k * 2 + 1, none⟩) hd).trans (HCY.out k hlt).2
            have hki : (k : Int) < (n : Int) := by omega
            have HNE : Hid (at0 xs k ≠ at0 ys k → ¬ xs = ys) := fun h e => h (by rw [e])
            obtain ⟨⟨x, s⟩, hxk⟩ : ∃ x, at0 xs k = x := ⟨_, rfl⟩
            obtain ⟨⟨y, t⟩, hyk⟩ : ∃ y, at0 ys k = y := ⟨_, rfl⟩
            rw [hxk] at e1 e2
            rw [hyk] at e3 e4
            simp only at e1 e2 e3 e4
            have HXK : Hid (at0 xs k = (x, s)) := hxk
            have HYK : Hid (at0 ys k = (y, t)) := hyk
            clear hxk hyk
            cases hq : fldEq (x, s) (y, t)
            · have HN : Hid (¬ xs = ys) := HNE.out (by rw [HXK.out, HYK.out]; exact fldEq_no hq)
              have HQ : Hid _ := hq
              clear hq HNE
              go_wp2
              go_region_with (refine (eqField_any _ _ _ _ _).mono ?_; rintro e w2 ⟨rfl, b2⟩; rw [HQ.out])
              all_goals
                go_wp2
                go_ret
                exact ⟨one_bool (by rw [decide_eq_false HN.out]), (below_drewN hbr _).trans (b2.mono hbr.size)⟩
            · have HY2 : Hid (at0 xs k = at0 ys k) := by rw [Hid, HXK.out, HYK.out]; exact fldEq_yes hq
              have HQ : Hid _ := hq
              clear hq HNE
              go_wp2
              go_region_with (refine (eqField_any _ _ _ _ _).mono ?_; rintro e w2 ⟨rfl, b2⟩; rw [HQ.out])
              all_goals
                go_wp2
                go_roundw
                case rel => exact ⟨k + 1, by omega, by go_num, fun j hj => by rcases (show j < k ∨ j = k from by omega) with h | rfl; exact HS.out j h; exact HY2.out, (below_drewN hbr _).trans (b2.mono hbr.size)⟩
                case measure => simp [intOf]; omega
          · have HE : Hid (xs = ys) := by
              apply List.ext_getElem (by rw [HX.out, HY.out])
              intro i g1 g2
              have := HS.out i (by rw [HX.out] at g1; omega)
              simpa [at0, List.getD_eq_getElem?_getD, g1, g2] using this
            go_wp2
            go_ret
            exact ⟨one_bool (by rw [decide_eq_true HE.out]), hbr⟩
  · have hne : ((xs.length : Int) != (ys.length : Int)) = true := by simp; omega
    have HE : Hid (¬ xs = ys) := fun e => hl (by rw [e])
    go_enter Tryz.func26, Tryz.ntmps26
    go_wp2
    go_ret
    exact ⟨one_bool (by rw [decide_eq_false HE.out]), Below.refl _ _⟩
def msgEq (k1 : Int) (xs : List Fld) (k2 : Int) (ys : List Fld) : Bool := decide (k1 = k2 ∧ xs = ys)
theorem msgEq_self (k : Int) (xs : List Fld) : msgEq k xs k xs = true := decide_eq_true ⟨rfl, rfl⟩
set_option maxHeartbeats 800000 in
theorem eqMessage_any (k1 k2 : Int) (ao bo : Option Addr) (c1 c2 : Nat) (xs ys : List Fld) (w : World) (hx : FldsAt w ao xs) (hy : FldsAt w bo ys) (h1 : xs.length ≤ 1099511627776) (h2 : ys.length ≤ 1099511627776) :
    Calls Tryz.prog 8 #[.agg #[.int .i64 k1, .slice ao xs.length c1], .agg #[.int .i64 k2, .slice bo ys.length c2]] w fun e w' => e = .returned (.bool (msgEq k1 xs k2 ys)) ∧ Below w.heap.size w w' := by
  cases hk : (k1 != k2)
  · have hke : k1 = k2 := by simpa using hk
    have bel : Below w.heap.size w ((w.alloc (.cells #[.int .i64 k1, .slice ao xs.length c1] 30)).alloc (.cells #[.int .i64 k2, .slice bo ys.length c2] 30)) := by go_grown
    have hx1 := hx.below bel
    have hy1 := hy.below bel
    have HM : Hid (msgEq k1 xs k2 ys = decide (xs = ys)) := by
      rw [Hid, msgEq]; by_cases h : xs = ys <;> simp [h, hke]
    have HB : Hid _ := bel
    clear hke bel hx hy
    go_enter Tryz.func8, Tryz.ntmps8
    go_wp2_with fail
    refine (eqFieldS_any _ _ _ _ _ _ _ hx1 hy1 h1 h2).mono ?_
    rintro e w1 ⟨rfl, b1⟩
    have bb := HB.out.trans (b1.mono (by have := HB.out.size; exact this))
    rw [← HM.out]
    obtain ⟨r, hr⟩ : ∃ r, msgEq k1 xs k2 ys = r := ⟨_, rfl⟩
    rw [hr]
    have HR : Hid _ := hr
    clear b1 hx1 hy1 HM HB hr
    cases r
    · go_wp2
      go_ret
      exact ⟨one_bool HR.out.symm, bb⟩
    · go_wp2
      go_ret
      exact ⟨one_bool HR.out.symm, bb⟩
  · have HM : Hid (msgEq k1 xs k2 ys = false) := decide_eq_false (fun e => by rw [e.1] at hk; simp at hk)
    go_enter Tryz.func8, Tryz.ntmps8
    go_wp2
    go_ret
    exact ⟨one_bool HM.out.symm, by go_grown⟩
end Go.Proofs.YtpenkpiffdbdmaaGreatDoor
/- The contracts of FieldOf, the program's and the specification's. -/
namespace Go.Proofs.YtpenkpiffdbdmaaGreatDoor
open Go.RowKit
def fOf : List Fld → Int → Option (List UInt8)
  | [], _ => none
  | f :: r, n => if f.1 = n then some f.2 else fOf r n
theorem fOf_step (fs : List Fld) (k : Nat) (n : Int) (h : k < fs.length) : fOf (fs.drop k) n = if (at0 fs k).1 = n then some (at0 fs k).2 else fOf (fs.drop (k + 1)) n := by
  have e : at0 fs k = fs[k] := by simp [at0, List.getD_eq_getElem?_getD, h]
  rw [List.drop_eq_getElem_cons h, e]; rfl
set_option maxHeartbeats 800000 in
theorem iFieldOf_any (kd : Int) (ao : Option Addr) (cap : Nat) (fs : List Fld) (num : Int) (w : World) (hz : FldsAt w ao fs) (hn : fs.length ≤ 1048576) (hd : sumF fs ≤ 1048576) :
    Calls Tryz.prog 43 #[.agg #[.int .i64 kd, .slice ao fs.length cap], .int .i64 num] w fun e w' => e = .returned (.tuple #[.string ⟨((fOf fs num).getD []).toArray⟩, .bool (fOf fs num).isSome]) ∧ Below w.heap.size w w' := by
  rcases hz with rfl | ⟨b, off, rfl, hb, hcell⟩
  · go_enter Tryz.func43, Tryz.ntmps43
    go_wp2
    refine wp_loop_rounds 1 ?_
    rw [rounds_succ]
    go_wp2
    go_ret2
    exact ⟨rfl, by go_grown⟩
  · have HC : Hid (∀ i, i < fs.length → w.cell? ⟨b, off + i * 2, none⟩ = some (.int .i64 (at0 fs i).1) ∧ w.cell? ⟨b, off + i * 2 + 1, none⟩ = some (.string ⟨(at0 fs i).2.toArray⟩)) := hcell
    clear hcell
    go_enter Tryz.func43, Tryz.ntmps43
    go_wp2
    go_loopw [11] (fun i wr => ∃ k : Nat, k ≤ fs.length ∧ i = .int .i64 k ∧ fOf fs num = fOf (fs.drop k) num ∧ Below w.heap.size w wr) (fun i _ => fs.length - (intOf i).toNat)
    case atStart => exact ⟨0, Nat.zero_le _, rfl, rfl, by go_grown⟩
    case round =>
      obtain ⟨k, hk, rfl, hok, hbr⟩ := hrel
      by_cases hlt : k < fs.length
      · have c1 : wr.cell? ⟨b, off + k * 2, none⟩ = some (.int .i64 (at0 fs k).1) := (hbr.cell (p := ⟨b, off + k * 2, none⟩) hb).trans (HC.out k hlt).1
        have c2 : wr.cell? ⟨b, off + k * 2 + 1, none⟩ = some (.string ⟨(at0 fs k).2.toArray⟩) := (hbr.cell (p := ⟨b, off + k * 2 + 1, none⟩) hb).trans (HC.out k hlt).2
        have hki : (k : Int) < (fs.length : Int) := by omega
        have hst := fOf_step fs k num hlt
        have hdk := at0_le hlt hd
        obtain ⟨⟨n, s⟩, hf⟩ : ∃ f, at0 fs k = f := ⟨_, rfl⟩
        rw [hf] at c1 c2 hst hdk
        simp only at c1 c2 hst hdk
        clear hf
        have hl : s.length ≤ 1099511627776 := by omega
        by_cases hq : n = num
        · have HN : Hid (fOf fs num = some s) := by rw [Hid, hok, hst, if_pos hq]
          have hq' : (n == num) = true := by simpa using hq
          clear hst hok hq
          go_wp2_with fail
          refine (clone_any s _ hl).mono ?_
          rintro e w2 ⟨rfl, b2⟩
          have bb := (hbr.alloc hbr.size (.cells #[.int .i64 n, .string ⟨s.toArray⟩] 60)).trans (b2.mono (by have := hbr.size; simp; omega))
          clear b2
          go_wp2
          go_ret2
          exact ⟨str_ok (by rw [HN.out]; rfl) (by rw [HN.out]; rfl), bb⟩
        · have HN : Hid (fOf fs num = fOf (fs.drop (k + 1)) num) := by rw [Hid, hok, hst, if_neg hq]
          have hq' : (n == num) = false := by simpa using hq
          clear hst hok hq
          go_wp2
          go_roundw
          case rel => exact ⟨k + 1, by omega, by go_num, HN.out, hbr.alloc hbr.size _⟩
          case measure => simp [intOf]; omega
      · have hke : k = fs.length := by omega
        subst hke
        have HN : Hid (fOf fs num = none) := by rw [Hid, hok, List.drop_of_length_le (Nat.le_refl _)]; rfl
        clear hok
        go_wp2
        go_ret2
        exact ⟨str_ok (by rw [HN.out]; rfl) (by rw [HN.out]; rfl), hbr⟩
set_option maxHeartbeats 800000 in
theorem sFieldOf_any (kd : Int) (ao : Option Addr) (cap : Nat) (fs : List Fld) (num : Int) (w : World) (hz : FldsAt w ao fs) (hn : fs.length ≤ 1048576) :
    Calls Tryz.prog 11 #[.agg #[.int .i64 kd, .slice ao fs.length cap], .int .i64 num] w fun e w' => e = .returned (.tuple #[.string ⟨((fOf fs num).getD []).toArray⟩, .bool (fOf fs num).isSome]) ∧ Below w.heap.size w w' := by
  rcases hz with rfl | ⟨b, off, rfl, hb, hcell⟩
  · go_enter Tryz.func11, Tryz.ntmps11
    go_wp2
    refine wp_loop_rounds 1 ?_
    rw [rounds_succ]
    go_wp2
    go_ret2
    exact ⟨rfl, by go_grown⟩
  · have HC : Hid (∀ i, i < fs.length → w.cell? ⟨b, off + i * 2, none⟩ = some (.int .i64 (at0 fs i).1) ∧ w.cell? ⟨b, off + i * 2 + 1, none⟩ = some (.string ⟨(at0 fs i).2.toArray⟩)) := hcell
    clear hcell
    have bel : Below w.heap.size w (w.alloc (.cells #[.int .i64 kd, .slice (some ⟨b, off, none⟩) fs.length cap] 30)) := by go_grown
    have hba : b < w.heap.size + 1 := by omega
    have hbn : ¬ b = w.heap.size := by omega
    go_enter Tryz.func11, Tryz.ntmps11
    go_wp2
    go_loop [6] (fun i => ∃ k : Nat, k ≤ fs.length ∧ i = .int .i64 k ∧ fOf fs num = fOf (fs.drop k) num) (fun i => fs.length - (intOf i).toNat)
    case atStart => exact ⟨0, Nat.zero_le _, rfl, rfl⟩
    case round =>
      obtain ⟨k, hk, rfl, hok⟩ := hrel
      by_cases hlt : k < fs.length
      · have c1 : (w.alloc (.cells #[.int .i64 kd, .slice (some ⟨b, off, none⟩) fs.length cap] 30)).cell? ⟨b, off + k * 2, none⟩ = some (.int .i64 (at0 fs k).1) := (bel.cell (p := ⟨b, off + k * 2, none⟩) hb).trans (HC.out k hlt).1
        have c2 : (w.alloc (.cells #[.int .i64 kd, .slice (some ⟨b, off, none⟩) fs.length cap] 30)).cell? ⟨b, off + k * 2 + 1, none⟩ = some (.string ⟨(at0 fs k).2.toArray⟩) := (bel.cell (p := ⟨b, off + k * 2 + 1, none⟩) hb).trans (HC.out k hlt).2
        have hki : (k : Int) < (fs.length : Int) := by omega
        have hst := fOf_step fs k num hlt
        obtain ⟨⟨n, s⟩, hf⟩ : ∃ f, at0 fs k = f := ⟨_, rfl⟩
        rw [hf] at c1 c2 hst
        simp only at c1 c2 hst
        clear hf
        by_cases hq : n = num
        · have HN : Hid (fOf fs num = some s) := by rw [Hid, hok, hst, if_pos hq]
          have hq' : (n == num) = true := by simpa using hq
          clear hst hok hq
          go_wp2
          go_ret2
          exact ⟨str_ok (by rw [HN.out]; rfl) (by rw [HN.out]; rfl), bel⟩
        · have HN : Hid (fOf fs num = fOf (fs.drop (k + 1)) num) := by rw [Hid, hok, hst, if_neg hq]
          have hq' : (n == num) = false := by simpa using hq
          clear hst hok hq
          go_wp2
          go_round
          case rel => exact ⟨k + 1, by omega, by go_num, HN.out⟩
          case measure => simp [intOf]; omega
      · have hke : k = fs.length := by omega
        subst hke
        have HN : Hid (fOf fs num = none) := by rw [Hid, hok, List.drop_of_length_le (Nat.le_refl _)]; rfl
        clear hok
        go_wp2
        go_ret2
        exact ⟨str_ok (by rw [HN.out]; rfl) (by rw [HN.out]; rfl), bel⟩
end Go.Proofs.YtpenkpiffdbdmaaGreatDoor
/- Tags, plainly: how a list of them is written, how it is read again. No Go in sight. -/
namespace Go.Proofs.YtpenkpiffdbdmaaGreatDoor.Tg
/-- a tag's text, and a list's -/
def putT (f : Fld) : List UInt8 := padT f.1 4 ++ padT f.2.length 3 ++ f.2
def putTs (fs : List Fld) : List UInt8 := fs.flatMap putT
theorem putTs_append (a b : List Fld) : putTs (a ++ b) = putTs a ++ putTs b := by simp [putTs]
theorem putTs_cons (f : Fld) (b : List Fld) : putTs (f :: b) = putT f ++ putTs b := by simp [putTs]
theorem putTs_take (fs : List Fld) (k : Nat) (h : k < fs.length) : putTs (fs.take (k + 1)) = putTs (fs.take k) ++ putT (at0 fs k) := by
  have e : at0 fs k = fs[k] := by simp [at0, List.getD_eq_getElem?_getD, h]
  rw [List.take_succ_eq_append_getElem h, putTs_append, e]; simp [putTs]
def putOk (fs : List Fld) : Bool := tagsOk fs && decide ((putTs fs).length ≤ 999)
def putL (fs : List Fld) : List UInt8 := if putOk fs = true then putTs fs else []
theorem putOk_no {fs : List Fld} (h : tagsOk fs = false) : putOk fs = false := by unfold putOk; rw [h, Bool.false_and]
theorem putOk_big {fs : List Fld} (h : ¬ (putTs fs).length ≤ 999) : putOk fs = false := by unfold putOk; rw [decide_eq_false h, Bool.and_false]
theorem putOk_yes {fs : List Fld} (h : tagsOk fs = true) (g : (putTs fs).length ≤ 999) : putOk fs = true := by unfold putOk; rw [h, decide_eq_true g]; rfl
theorem putOk_parts {fs : List Fld} (h : putOk fs = true) : tagsOk fs = true ∧ (putTs fs).length ≤ 999 := by simpa [putOk] using h
theorem putL_no {fs : List Fld} (h : putOk fs = false) : putL fs = [] := if_neg (by rw [h]; decide)
theorem putL_yes {fs : List Fld} (h : putOk fs = true) : putL fs = putTs fs := if_pos h
theorem padT_le (x n : Int) : (padT x n).length ≤ 18 := by
  rcases padT_cases x n with h | ⟨a, m, _, _, h1, h2, h3, h⟩
  · rw [h]; simp
  · rw [h, padN_len h1 h3]; omega
theorem putT_le (f : Fld) : (putT f).length ≤ 36 + f.2.length := by
  have h1 := padT_le f.1 4
  have h2 := padT_le f.2.length 3
  unfold putT; simp only [List.length_append]; omega
theorem putTs_le {fs : List Fld} (h : ∀ f ∈ fs, f.2.length ≤ 200) : (putTs fs).length ≤ 236 * fs.length := by
  induction fs with
  | nil => simp [putTs]
  | cons f r ih =>
    have h1 := putT_le f
    have h2 := h f (by simp)
    have h3 := ih (fun g hg => h g (by simp [hg]))
    rw [putTs_cons, List.length_append, List.length_cons]; omega
theorem putTs_mono (fs : List Fld) (k : Nat) : (putTs (fs.take k)).length ≤ (putTs fs).length := by
  have : putTs fs = putTs (fs.take k) ++ putTs (fs.drop k) := by rw [← putTs_append, List.take_append_drop]
  rw [this, List.length_append]; omega
end Go.Proofs.YtpenkpiffdbdmaaGreatDoor.Tg
/- The contracts of the small functions of chapter 2 (days): what each returns for every argument. -/
namespace Go.Proofs.YtpenkpiffdbdmaaGreatDoor
open Go.RowKit
theorem inB_pos {x a b : Int} (h : a ≤ x) (g : x ≤ b) : inB x a b = true := by simp [inB, h, g]
theorem inB_neg {x a b : Int} (h : x < a ∨ b < x) : inB x a b = false := by simp [inB]; omega
/-- the day of the week -/
def wdV (d : Int) : Int := if dOk d = true then (d + 5) % 7 else -1
theorem wdV_yes {d : Int} (h : dOk d = true) : wdV d = (d + 5) % 7 := if_pos h
theorem wdV_no {d : Int} (h : dOk d = false) : wdV d = -1 := if_neg (by rw [h]; decide)
end Go.Proofs.YtpenkpiffdbdmaaGreatDoor
/- The contracts of the small functions of chapter 3 (fields) over a text's bytes: what each returns for every argument. -/
namespace Go.Proofs.YtpenkpiffdbdmaaGreatDoor
open Go.RowKit
theorem in_byte (c : UInt8) (a b : Nat) : inB (c.toNat : Int) a b = (decide (a ≤ c.toNat) && decide (c.toNat ≤ b)) := by
  unfold inB
  by_cases h1 : a ≤ c.toNat <;> by_cases h2 : c.toNat ≤ b <;> simp [h1, h2]
set_option maxHeartbeats 400000 in
theorem iWithin_any (l : List UInt8) (a b : Nat) (w : World) (hl : l.length ≤ 1099511627776) :
    Calls Tryz.prog 78 #[.string ⟨l.toArray⟩, .int .u8 a, .int .u8 b] w fun e w' => e = .returned (.bool (within a b l)) ∧ w' = w := by
  go_enter Tryz.func78, Tryz.ntmps78
  go_wp2
  go_loop [7, 10] (fun _ i => ∃ k : Nat, k ≤ l.length ∧ i = .int .i64 k ∧ within a b l = within a b (l.drop k)) (fun _ i => l.length - (intOf i).toNat)
  case atStart => exact ⟨0, Nat.zero_le _, rfl, rfl⟩
  case round =>
    obtain ⟨k, hk, rfl, ht⟩ := hrel
    by_cases hlt : k < l.length
    · have hki : (k : Int) < (l.length : Int) := by omega
      have hs := within_step a b l k hlt
      obtain ⟨c, hc⟩ : ∃ c, (⟨l.toArray⟩ : ByteArray)[k]'(by rw [ba_size]; exact hlt) = c := ⟨_, rfl⟩
      rw [(byte_at l k hlt).trans hc] at hs
      have HS : Hid _ := ht.trans hs
      clear hs ht
      by_cases h1 : a ≤ c.toNat
      · have h1' : (a : Int) ≤ (c.toNat : Int) := by omega
        by_cases h2 : c.toNat ≤ b
        · have h2' : (c.toNat : Int) ≤ (b : Int) := by omega
          have HY : Hid (within a b l = within a b (l.drop (k + 1))) := by rw [Hid, HS.out]; simp [h1, h2]
          clear HS
          go_wp2
          go_round
          case rel => exact ⟨k + 1, by omega, by go_num, HY.out⟩
          case measure => simp [intOf]; omega
        · have h2' : (b : Int) < (c.toNat : Int) := by omega
          have HN : Hid (within a b l = false) := by rw [Hid, HS.out]; simp [h2]
          clear HS
          go_wp2
          go_ret
          exact ⟨one_bool HN.out.symm, rfl⟩
      · have h1' : (c.toNat : Int) < (a : Int) := by omega
        have HN : Hid (within a b l = false) := by rw [Hid, HS.out]; simp [h1]
        clear HS
        go_wp2
        go_ret
        exact ⟨one_bool HN.out.symm, rfl⟩
    · have hke : k = l.length := by omega
      subst hke
      have HE : Hid (within a b l = true) := by rw [Hid, ht, within_end]
      clear ht
      go_wp2
      go_ret
      exact ⟨one_bool HE.out.symm, rfl⟩
set_option maxHeartbeats 400000 in
theorem iAllDig_any (l : List UInt8) (w : World) (hl : l.length ≤ 1099511627776) :
    Calls Tryz.prog 64 #[.string ⟨l.toArray⟩] w fun e w' => e = .returned (.bool (within 48 57 l)) ∧ w' = w := by
  go_enter Tryz.func64, Tryz.ntmps64
  go_wp2_with fail
  refine (iWithin_any l 48 57 _ hl).mono ?_
  rintro e w1 ⟨rfl, hw⟩
  subst hw
  go_wp2
  go_ret
  exact ⟨rfl, rfl⟩
set_option maxHeartbeats 400000 in
theorem iPlain_any (l : List UInt8) (w : World) (hl : l.length ≤ 1099511627776) :
    Calls Tryz.prog 87 #[.string ⟨l.toArray⟩] w fun e w' => e = .returned (.bool (within 32 126 l)) ∧ w' = w := by
  go_enter Tryz.func87, Tryz.ntmps87
  go_wp2_with fail
  refine (iWithin_any l 32 126 _ hl).mono ?_
  rintro e w1 ⟨rfl, hw⟩
  subst hw
  go_wp2
  go_ret
  exact ⟨rfl, rfl⟩
set_option maxHeartbeats 400000 in
theorem sPlain_any (l : List UInt8) (w : World) (hl : l.length ≤ 1099511627776) :
    Calls Tryz.prog 54 #[.string ⟨l.toArray⟩] w fun e w' => e = .returned (.bool (within 32 126 l)) ∧ w' = w := by
  go_enter Tryz.func54, Tryz.ntmps54
  go_wp2
  go_loop [3] (fun i => ∃ k : Nat, k ≤ l.length ∧ i = .int .i64 k ∧ within 32 126 l = within 32 126 (l.drop k)) (fun i => l.length - (intOf i).toNat)
  case atStart => exact ⟨0, Nat.zero_le _, rfl, rfl⟩
  case round =>
    obtain ⟨k, hk, rfl, ht⟩ := hrel
    by_cases hlt : k < l.length
    · have hki : (k : Int) < (l.length : Int) := by omega
      have hs := within_step 32 126 l k hlt
      obtain ⟨c, hc⟩ : ∃ c, (⟨l.toArray⟩ : ByteArray)[k]'(by rw [ba_size]; exact hlt) = c := ⟨_, rfl⟩
      rw [(byte_at l k hlt).trans hc, ← in_byte c 32 126] at hs
      have HS : Hid _ := ht.trans hs
      have hwc := wrap_byte c
      clear hs ht
      cases hin : inB (c.toNat : Int) 32 126
      · have HN : Hid (within 32 126 l = false) := by rw [Hid, HS.out]; simp [hin]
        clear HS
        go_wp2_with fail
        refine (in_any _ _ _ _).mono ?_
        rintro e w1 ⟨rfl, hw1⟩
        subst hw1
        rw [hin]
        go_wp2
        go_ret
        exact ⟨one_bool HN.out.symm, rfl⟩
      · have HY : Hid (within 32 126 l = within 32 126 (l.drop (k + 1))) := by rw [Hid, HS.out]; simp [hin]
        clear HS
        go_wp2_with fail
        refine (in_any _ _ _ _).mono ?_
        rintro e w1 ⟨rfl, hw1⟩
        subst hw1
        rw [hin]
        go_wp2
        go_round
        case rel => exact ⟨k + 1, by omega, by go_num, HY.out⟩
        case measure => simp [intOf]; omega
    · have hke : k = l.length := by omega
      subst hke
      have HE : Hid (within 32 126 l = true) := by rw [Hid, ht, within_end]
      clear ht
      go_wp2
      go_ret
      exact ⟨one_bool HE.out.symm, rfl⟩
set_option maxHeartbeats 400000 in
theorem sAllDig_any (l : List UInt8) (w : World) (hl : l.length ≤ 1099511627776) :
    Calls Tryz.prog 53 #[.string ⟨l.toArray⟩] w fun e w' => e = .returned (.bool (within 48 57 l)) ∧ w' = w := by
  go_enter Tryz.func53, Tryz.ntmps53
  go_wp2
  go_loop [3] (fun i => ∃ k : Nat, k ≤ l.length ∧ i = .int .i64 k ∧ within 48 57 l = within 48 57 (l.drop k)) (fun i => l.length - (intOf i).toNat)
  case atStart => exact ⟨0, Nat.zero_le _, rfl, rfl⟩
  case round =>
    obtain ⟨k, hk, rfl, ht⟩ := hrel
    by_cases hlt : k < l.length
    · have hki : (k : Int) < (l.length : Int) := by omega
      have hs := within_step 48 57 l k hlt
      obtain ⟨c, hc⟩ : ∃ c, (⟨l.toArray⟩ : ByteArray)[k]'(by rw [ba_size]; exact hlt) = c := ⟨_, rfl⟩
      rw [(byte_at l k hlt).trans hc, ← in_byte c 48 57] at hs
      have HS : Hid _ := ht.trans hs
      have hwc := wrap_byte c
      clear hs ht
      cases hin : inB (c.toNat : Int) 48 57
      · have HN : Hid (within 48 57 l = false) := by rw [Hid, HS.out]; simp [hin]
        clear HS
        go_wp2_with fail
        refine (in_any _ _ _ _).mono ?_
        rintro e w1 ⟨rfl, hw1⟩
        subst hw1
        rw [hin]
        go_wp2
        go_ret
        exact ⟨one_bool HN.out.symm, rfl⟩
      · have HY : Hid (within 48 57 l = within 48 57 (l.drop (k + 1))) := by rw [Hid, HS.out]; simp [hin]
        clear HS
        go_wp2_with fail
        refine (in_any _ _ _ _).mono ?_
        rintro e w1 ⟨rfl, hw1⟩
        subst hw1
        rw [hin]
        go_wp2
        go_round
        case rel => exact ⟨k + 1, by omega, by go_num, HY.out⟩
        case measure => simp [intOf]; omega
    · have hke : k = l.length := by omega
      subst hke
      have HE : Hid (within 48 57 l = true) := by rw [Hid, ht, within_end]
      clear ht
      go_wp2
      go_ret
      exact ⟨one_bool HE.out.symm, rfl⟩
end Go.Proofs.YtpenkpiffdbdmaaGreatDoor
/- The contracts of NumOf, the program's and the specification's. -/
namespace Go.Proofs.YtpenkpiffdbdmaaGreatDoor
open Go.RowKit
set_option maxHeartbeats 400000 in
theorem iNumOf_any (l : List UInt8) (w : World) (hl : l.length ≤ 1099511627776) :
    Calls Tryz.prog 44 #[.string ⟨l.toArray⟩] w fun e w' => e = .returned (.int .i64 (numOf l)) ∧ w' = w := by
  by_cases hbig : 18 < l.length
  · have HN : Hid _ := numOf_no1 hbig
    have hbi : (18 : Int) < (l.length : Int) := by omega
    go_enter Tryz.func44, Tryz.ntmps44
    go_wp2
    go_ret
    exact ⟨one_int HN.out.symm, rfl⟩
  · have hbi : (l.length : Int) ≤ 18 := by omega
    have hl18 : l.length ≤ 18 := by omega
    cases hd : within 48 57 l
    · have HN : Hid _ := numOf_no2 hd
      go_enter Tryz.func44, Tryz.ntmps44
      go_wp2_with fail
      refine (iAllDig_any _ _ hl).mono ?_
      rintro e w1 ⟨rfl, hw⟩
      subst hw
      rw [hd]
      go_wp2
      go_ret
      exact ⟨one_int HN.out.symm, rfl⟩
    · have HY : Hid _ := numOf_yes hl18 hd
      have HB : Hid _ := val_bound l hd
      have HD : Hid (within 48 57 l = true) := hd
      go_enter Tryz.func44, Tryz.ntmps44
      go_wp2_with fail
      refine (iAllDig_any _ _ hl).mono ?_
      rintro e w1 ⟨rfl, hw⟩
      subst hw
      rw [hd]
      clear hd
      go_wp2
      go_loop [3, 4, 15] (fun v _ i => ∃ k : Nat, k ≤ l.length ∧ i = .int .i64 k ∧ v = .int .i64 (val 0 (l.take k))) (fun _ _ i => l.length - (intOf i).toNat)
      case atStart => exact ⟨0, Nat.zero_le _, rfl, rfl⟩
      case round =>
        obtain ⟨k, hk, rfl, rfl⟩ := hrel
        have hb := HB.out k hk
        have hp : 10 ^ k ≤ 10 ^ 18 := Nat.pow_le_pow_right (by omega) (by omega)
        by_cases hlt : k < l.length
        · have hki : (k : Int) < (l.length : Int) := by omega
          have hp1 : 10 ^ k ≤ 10 ^ 17 := Nat.pow_le_pow_right (by omega) (by omega)
          have hw := within_at HD.out hlt
          have hv := val_take l k hlt
          obtain ⟨c, hc⟩ : ∃ c, (⟨l.toArray⟩ : ByteArray)[k]'(by rw [ba_size]; exact hlt) = c := ⟨_, rfl⟩
          rw [(byte_at l k hlt).trans hc] at hw hv
          obtain ⟨x, hx⟩ : ∃ x, val 0 (l.take k) = x := ⟨_, rfl⟩
          rw [hx] at hb hv ⊢
          have hxb : x ≤ 100000000000000000 := by omega
          have hsi : ((val 0 (l.take (k + 1)) : Nat) : Int) = (x : Int) * 10 + ((c.toNat : Int) - 48) := by omega
          have HV : Hid _ := hsi
          clear hsi hv hx hb hp hp1
          go_wp2
          go_round
          case rel => exact ⟨k + 1, by omega, by go_num, by rw [HV.out]⟩
          case measure => simp [intOf]; omega
        · have hke : k = l.length := by omega
          subst hke
          rw [List.take_of_length_le (Nat.le_refl _)]
          clear hb hp
          go_wp2
          go_ret
          exact ⟨one_int HY.out.symm, rfl⟩
set_option maxHeartbeats 400000 in
theorem sNumOf_any (l : List UInt8) (w : World) (hl : l.length ≤ 1099511627776) :
    Calls Tryz.prog 30 #[.string ⟨l.toArray⟩] w fun e w' => e = .returned (.int .i64 (numOf l)) ∧ w' = w := by
  by_cases hbig : 18 < l.length
  · have HN : Hid _ := numOf_no1 hbig
    have hbi : (18 : Int) < (l.length : Int) := by omega
    go_enter Tryz.func30, Tryz.ntmps30
    go_wp2
    go_ret
    exact ⟨one_int HN.out.symm, rfl⟩
  · have hbi : (l.length : Int) ≤ 18 := by omega
    have hl18 : l.length ≤ 18 := by omega
    cases hd : within 48 57 l
    · have HN : Hid _ := numOf_no2 hd
      go_enter Tryz.func30, Tryz.ntmps30
      go_wp2_with fail
      refine (sAllDig_any _ _ hl).mono ?_
      rintro e w1 ⟨rfl, hw⟩
      subst hw
      rw [hd]
      go_wp2
      go_ret
      exact ⟨one_int HN.out.symm, rfl⟩
    · have HY : Hid _ := numOf_yes hl18 hd
      have HB : Hid _ := val_bound l hd
      have HD : Hid (within 48 57 l = true) := hd
      go_enter Tryz.func30, Tryz.ntmps30
      go_wp2_with fail
      refine (sAllDig_any _ _ hl).mono ?_
      rintro e w1 ⟨rfl, hw⟩
      subst hw
      rw [hd]
      clear hd
      go_wp2
      go_loop [3, 4] (fun v i => ∃ k : Nat, k ≤ l.length ∧ i = .int .i64 k ∧ v = .int .i64 (val 0 (l.take k))) (fun _ i => l.length - (intOf i).toNat)
      case atStart => exact ⟨0, Nat.zero_le _, rfl, rfl⟩
      case round =>
        obtain ⟨k, hk, rfl, rfl⟩ := hrel
        have hb := HB.out k hk
        have hp : 10 ^ k ≤ 10 ^ 18 := Nat.pow_le_pow_right (by omega) (by omega)
        by_cases hlt : k < l.length
        · have hki : (k : Int) < (l.length : Int) := by omega
          have hp1 : 10 ^ k ≤ 10 ^ 17 := Nat.pow_le_pow_right (by omega) (by omega)
          have hw := within_at HD.out hlt
          have hv := val_take l k hlt
          obtain ⟨c, hc⟩ : ∃ c, (⟨l.toArray⟩ : ByteArray)[k]'(by rw [ba_size]; exact hlt) = c := ⟨_, rfl⟩
          rw [(byte_at l k hlt).trans hc] at hw hv
          obtain ⟨x, hx⟩ : ∃ x, val 0 (l.take k) = x := ⟨_, rfl⟩
          rw [hx] at hb hv ⊢
          have hxb : x ≤ 100000000000000000 := by omega
          have hsi : ((val 0 (l.take (k + 1)) : Nat) : Int) = 10 * (x : Int) + (c.toNat : Int) - 48 := by omega
          have HV : Hid _ := hsi
          clear hsi hv hx hb hp hp1
          go_wp2
          go_round
          case rel => exact ⟨k + 1, by omega, by go_num, by rw [HV.out]⟩
          case measure => simp [intOf]; omega
        · have hke : k = l.length := by omega
          subst hke
          rw [List.take_of_length_le (Nat.le_refl _)]
          clear hb hp
          go_wp2
          go_ret
          exact ⟨one_int HY.out.symm, rfl⟩
end Go.Proofs.YtpenkpiffdbdmaaGreatDoor
/- The contract of hasBytes: whether so many bytes stand in a text from a place on. -/
namespace Go.Proofs.YtpenkpiffdbdmaaGreatDoor
open Go.RowKit
theorem str_two {a b : ByteArray} {x y : Int} (h : a = b) (g : x = y) : Ending.returned (.tuple #[.string a, .int .i64 x]) = .returned (.tuple #[.string b, .int .i64 y]) := by rw [h, g]
theorem piece_eq (l : List UInt8) (a b : Nat) : (⟨l.toArray⟩ : ByteArray).extract a (a + b) = ⟨((l.drop a).take b).toArray⟩ := by
  rw [ba_extract, Nat.add_sub_cancel_left]
def hasB (n : Nat) (i size : Int) : Bool := decide (0 ≤ i ∧ i ≤ n ∧ size ≤ n - i)
theorem hasB_pos {n : Nat} {i size : Int} (h0 : 0 ≤ i) (h1 : i ≤ n) (h2 : size ≤ n - i) : hasB n i size = true := decide_eq_true ⟨h0, h1, h2⟩
theorem hasB_neg {n : Nat} {i size : Int} (h : i < 0 ∨ n < i ∨ n - i < size) : hasB n i size = false := decide_eq_false (by omega)
theorem hasB_in {n : Nat} {i size : Int} (h : hasB n i size = true) : 0 ≤ i ∧ i ≤ n ∧ size ≤ n - i := of_decide_eq_true h
theorem hasB_out {n : Nat} {i size : Int} (h : hasB n i size = false) : ¬ (0 ≤ i ∧ i ≤ n ∧ size ≤ n - i) := of_decide_eq_false h
set_option maxHeartbeats 400000 in
theorem hasBytes_any (l : List UInt8) (i size : Int) (w : World) (hl : l.length ≤ 1099511627776) :
    Calls Tryz.prog 79 #[.string ⟨l.toArray⟩, .int .i64 i, .int .i64 size] w fun e w' => e = .returned (.bool (hasB l.length i size)) ∧ w' = w := by
  by_cases h0 : 0 ≤ i
  · by_cases h1 : i ≤ (l.length : Int)
    · by_cases h2 : size ≤ (l.length : Int) - i
      · have HB : Hid _ := hasB_pos h0 h1 h2
        go_enter Tryz.func79, Tryz.ntmps79
        go_wp2
        go_ret
        exact ⟨one_bool HB.out.symm, rfl⟩
      · have HB : Hid (hasB l.length i size = false) := hasB_neg (by omega)
        have h2' : (l.length : Int) - i < size := by omega
        go_enter Tryz.func79, Tryz.ntmps79
        go_wp2
        go_ret
        exact ⟨one_bool HB.out.symm, rfl⟩
    · have HB : Hid (hasB l.length i size = false) := hasB_neg (by omega)
      go_enter Tryz.func79, Tryz.ntmps79
      go_wp2
      go_ret
      exact ⟨one_bool HB.out.symm, rfl⟩
  · have HB : Hid (hasB l.length i size = false) := hasB_neg (by omega)
    go_enter Tryz.func79, Tryz.ntmps79
    go_wp2
    go_ret
    exact ⟨one_bool HB.out.symm, rfl⟩
end Go.Proofs.YtpenkpiffdbdmaaGreatDoor
/- The contracts of GetVar, the program's and the specification's. -/
namespace Go.Proofs.YtpenkpiffdbdmaaGreatDoor
open Go.RowKit
def lim (wd : Int) : Int := if wd = 2 then 99 else if wd = 3 then 999 else 0
def wOk (wd : Int) : Bool := decide (wd = 2) || decide (wd = 3)
theorem wOk_no {wd : Int} (h2 : wd ≠ 2) (h3 : wd ≠ 3) : wOk wd = false := by simp [wOk, h2, h3]
theorem wOk_is {wd : Int} (h : wOk wd = true) : wd = 2 ∨ wd = 3 := by simpa [wOk] using h
theorem wOk_isnt {wd : Int} (h : wOk wd = false) : wd ≠ 2 ∧ wd ≠ 3 := by simpa [wOk] using h
set_option maxHeartbeats 400000 in
theorem varLimit_any (wd : Int) (w : World) :
    Calls Tryz.prog 94 #[.int .i64 wd] w fun e w' => e = .returned (.tuple #[.int .i64 (lim wd), .bool (wOk wd)]) ∧ w' = w := by
  by_cases h2 : wd = 2
  · subst h2
    go_enter Tryz.func94, Tryz.ntmps94
    go_wp2
    go_ret2
    exact ⟨rfl, rfl⟩
  · by_cases h3 : wd = 3
    · subst h3
      go_enter Tryz.func94, Tryz.ntmps94
      go_wp2
      go_ret2
      exact ⟨rfl, rfl⟩
    · have HL : Hid (lim wd = 0) := by rw [Hid, lim, if_neg h2, if_neg h3]
      have HW : Hid _ := wOk_no h2 h3
      have h2' : (wd == 2) = false := by simpa using h2
      have h3' : (wd == 3) = false := by simpa using h3
      go_enter Tryz.func94, Tryz.ntmps94
      go_wp2
      go_ret2
      exact ⟨two_eq HL.out.symm HW.out.symm, rfl⟩
/-- GetVar -/
def vNum (l : List UInt8) (i wd : Int) : Int := numOf ((l.drop i.toNat).take wd.toNat)
def varOk (l : List UInt8) (i wd : Int) : Bool := wOk wd && decide (0 ≤ i ∧ i + wd ≤ l.length ∧ 0 ≤ vNum l i wd ∧ vNum l i wd ≤ l.length - (i + wd))
def varL (l : List UInt8) (i wd : Int) : List UInt8 := if varOk l i wd = true then (l.drop (i + wd).toNat).take (vNum l i wd).toNat else []
def varI (l : List UInt8) (i wd : Int) : Int := if varOk l i wd = true then i + wd + vNum l i wd else -1
theorem var_no {l : List UInt8} {i wd : Int} (h : varOk l i wd = false) : varL l i wd = [] ∧ varI l i wd = -1 := ⟨if_neg (by rw [h]; decide), if_neg (by rw [h]; decide)⟩
theorem var_yes {l : List UInt8} {i wd : Int} (h : varOk l i wd = true) : varL l i wd = (l.drop (i + wd).toNat).take (vNum l i wd).toNat ∧ varI l i wd = i + wd + vNum l i wd := ⟨if_pos h, if_pos h⟩
theorem varOk_w {l : List UInt8} {i wd : Int} (h : wOk wd = false) : varOk l i wd = false := by unfold varOk; rw [h]; rfl
theorem varOk_no {l : List UInt8} {i wd : Int} (h : ¬ (0 ≤ i ∧ i + wd ≤ l.length ∧ 0 ≤ vNum l i wd ∧ vNum l i wd ≤ l.length - (i + wd))) : varOk l i wd = false := by
  unfold varOk; rw [decide_eq_false h, Bool.and_false]
theorem varOk_yes {l : List UInt8} {i wd : Int} (hw : wOk wd = true) (h : 0 ≤ i ∧ i + wd ≤ l.length ∧ 0 ≤ vNum l i wd ∧ vNum l i wd ≤ l.length - (i + wd)) : varOk l i wd = true := by
  unfold varOk; rw [decide_eq_true h, hw]; rfl
set_option maxHeartbeats 800000 in
theorem iGetVar_any (l : List UInt8) (i wd : Int) (w : World) (hl : l.length ≤ 1099511627776) :
    Calls Tryz.prog 80 #[.string ⟨l.toArray⟩, .int .i64 i, .int .i64 wd] w fun e w' => e = .returned (.tuple #[.string ⟨(varL l i wd).toArray⟩, .int .i64 (varI l i wd)]) ∧ Below w.heap.size w w' := by
  cases hw : wOk wd
  · have HN : Hid _ := var_no (varOk_w (l := l) (i := i) hw)
    go_enter Tryz.func80, Tryz.ntmps80
    go_wp2_with fail
    refine (varLimit_any _ _).mono ?_
    rintro e w1 ⟨rfl, hw1⟩
    subst hw1
    rw [hw]
    go_wp2
    go_ret2
    exact ⟨str_two (by rw [HN.out.1]) HN.out.2.symm, Below.refl _ _⟩
  · have hwd := wOk_is hw
    cases hb : hasB l.length i wd
    · have HN : Hid _ := var_no (varOk_no (l := l) (i := i) (wd := wd) (by have := hasB_out hb; omega))
      have HW : Hid _ := hw
      clear hw hwd
      go_enter Tryz.func80, Tryz.ntmps80
      go_wp2_with fail
      refine (varLimit_any _ _).mono ?_
      rintro e w1 ⟨rfl, hw1⟩
      subst hw1
      rw [HW.out]
      go_wp2_with fail
      refine (hasBytes_any _ _ _ _ hl).mono ?_
      rintro e w1 ⟨rfl, hw1⟩
      subst hw1
      rw [hb]
      go_wp2
      go_ret2
      exact ⟨str_two (by rw [HN.out.1]) HN.out.2.symm, Below.refl _ _⟩
    · have hin := hasB_in hb
      have HW : Hid _ := hw
      have HB : Hid _ := hb
      obtain ⟨k, rfl⟩ := Int.eq_ofNat_of_zero_le hin.1
      obtain ⟨d, rfl⟩ := Int.eq_ofNat_of_zero_le (show 0 ≤ wd by omega)
      have hd : d = 2 ∨ d = 3 := by omega
      have hkd : k + d ≤ l.length := by omega
      have hnb := numOf_bd ((l.drop k).take d)
      have HV : Hid (vNum l k d = numOf ((l.drop k).take d)) := rfl
      have hpl : ((l.drop k).take d).length ≤ 1099511627776 := by simp; omega
      have HP : Hid _ := piece_eq l k d
      clear hw hb hin hwd
      go_enter Tryz.func80, Tryz.ntmps80
      go_wp2_with fail
      refine (varLimit_any _ _).mono ?_
      rintro e w1 ⟨rfl, hw1⟩
      subst hw1
      rw [HW.out]
      go_wp2_with fail
      refine (hasBytes_any _ _ _ _ hl).mono ?_
      rintro e w1 ⟨rfl, hw1⟩
      subst hw1
      rw [HB.out]
      have hk1 : (k : Int) ≤ (k : Int) + (d : Int) := by omega
      have hk2 : (k : Int) + (d : Int) ≤ (l.length : Int) := by omega
      clear HB
      go_wp2_with fail
      rw [HP.out]
      refine (iNumOf_any _ _ hpl).mono ?_
      rintro e w1 ⟨rfl, hw1⟩
      subst hw1
      obtain ⟨n, hn⟩ : ∃ n, numOf ((l.drop k).take d) = n := ⟨_, rfl⟩
      rw [hn] at hnb HV ⊢
      clear hn HP hpl
      by_cases hneg : n < 0
      · have HN : Hid _ := var_no (varOk_no (l := l) (i := k) (wd := d) (by rw [HV.out]; omega))
        go_wp2
        go_ret2
        exact ⟨str_two (by rw [HN.out.1]) HN.out.2.symm, Below.refl _ _⟩
      · obtain ⟨m, rfl⟩ := Int.eq_ofNat_of_zero_le (show 0 ≤ n by omega)
        cases hb : hasB l.length ((k : Int) + (d : Int)) m
        · have HN : Hid _ := var_no (varOk_no (l := l) (i := k) (wd := d) (by have := hasB_out hb; rw [HV.out]; omega))
          go_wp2_with fail
          refine (hasBytes_any _ _ _ _ hl).mono ?_
          rintro e w1 ⟨rfl, hw1⟩
          subst hw1
          rw [hb]
          go_wp2
          go_ret2
          exact ⟨str_two (by rw [HN.out.1]) HN.out.2.symm, Below.refl _ _⟩
        · have hin := hasB_in hb
          have HN : Hid (varL l k d = (l.drop (k + d)).take m ∧ varI l k d = (k : Int) + d + m) := by
            have h := var_yes (varOk_yes (l := l) (i := k) (wd := d) HW.out (by rw [HV.out]; omega))
            rw [HV.out] at h
            exact h
          have HB : Hid _ := hb
          have hkz : 0 ≤ (k : Int) + (d : Int) := by omega
          have hkm : (k : Int) + (d : Int) ≤ (k : Int) + (d : Int) + (m : Int) := by omega
          have hkl : (k : Int) + (d : Int) + (m : Int) ≤ (l.length : Int) := by omega
          have hpl : ((l.drop (k + d)).take m).length ≤ 1099511627776 := by simp; omega
          have HP : Hid _ := piece_eq l (k + d) m
          clear hb hin hneg
          go_wp2_with fail
          refine (hasBytes_any _ _ _ _ hl).mono ?_
          rintro e w1 ⟨rfl, hw1⟩
          subst hw1
          rw [HB.out]
          clear HB
          go_wp2_with fail
          rw [HP.out]
          refine (clone_any _ _ hpl).mono ?_
          rintro e w2 ⟨rfl, b2⟩
          clear hpl
          generalize (l.drop (k + d)).take m = r at HN
          go_wp2
          go_ret2
          exact ⟨str_two (by rw [HN.out.1]) HN.out.2.symm, b2⟩
end Go.Proofs.YtpenkpiffdbdmaaGreatDoor
/- Tags read from a text, plainly. -/
namespace Go.Proofs.YtpenkpiffdbdmaaGreatDoor.Tg
open Go.RowKit
set_option maxRecDepth 100000
/-- the tag that stands at place a, and the place behind it: as the program reads it -/
def tagI (l : List UInt8) (a : Nat) : Fld := if hasB l.length a 4 = true then (numOf ((l.drop a).take 4), varL l (a + 4) 3) else (0, [])
def endI (l : List UInt8) (a : Nat) : Int := if hasB l.length a 4 = true then varI l (a + 4) 3 else -1
def rdI (l : List UInt8) : Nat → Nat → List Fld → Option (List Fld)
  | 0, _, _ => none
  | f + 1, a, acc => if a < l.length then (if endI l a < 0 then none else rdI l f (endI l a).toNat (acc ++ [tagI l a])) else some acc
/-- as the specification reads it -/
def seenS (l : List UInt8) (a : Nat) : Bool := decide (a + 7 ≤ l.length) && (within 48 57 ((l.drop a).take 7) && decide (numOf ((l.drop (a + 4)).take 3) ≤ (l.length : Int) - a - 7))
def lenS (l : List UInt8) (a : Nat) : Nat := (numOf ((l.drop (a + 4)).take 3)).toNat
def tagS (l : List UInt8) (a : Nat) : Fld := (numOf ((l.drop a).take 4), (l.drop (a + 7)).take (lenS l a))
def rdS (l : List UInt8) : Nat → Nat → List Fld → Option (List Fld)
  | 0, _, _ => none
  | f + 1, a, acc => if a < l.length then (if seenS l a = false then none else rdS l f (a + 7 + lenS l a) (acc ++ [tagS l a])) else some acc
theorem rdI_end {l : List UInt8} {f a : Nat} {acc : List Fld} (h : ¬ a < l.length) (hf : 0 < f) : rdI l f a acc = some acc := by
  obtain ⟨f, rfl⟩ : ∃ g, f = g + 1 := ⟨f - 1, by omega⟩
  show (if a < l.length then _ else _) = _
  rw [if_neg h]
theorem rdI_no {l : List UInt8} {f a : Nat} {acc : List Fld} (h : a < l.length) (he : endI l a < 0) : rdI l f a acc = none := by
  cases f with
  | zero => rfl
  | succ f => show (if a < l.length then _ else _) = _; rw [if_pos h, if_pos he]
theorem rdI_go {l : List UInt8} {f a : Nat} {acc : List Fld} (h : a < l.length) (he : ¬ endI l a < 0) : rdI l (f + 1) a acc = rdI l f (endI l a).toNat (acc ++ [tagI l a]) := by
  show (if a < l.length then _ else _) = _; rw [if_pos h, if_neg he]
theorem rdS_end {l : List UInt8} {f a : Nat} {acc : List Fld} (h : ¬ a < l.length) (hf : 0 < f) : rdS l f a acc = some acc := by
  obtain ⟨f, rfl⟩ : ∃ g, f = g + 1 := ⟨f - 1, by omega⟩
  show (if a < l.length then _ else _) = _
  rw [if_neg h]
theorem rdS_no {l : List UInt8} {f a : Nat} {acc : List Fld} (h : a < l.length) (he : seenS l a = false) : rdS l f a acc = none := by
  cases f with
  | zero => rfl
  | succ f => show (if a < l.length then _ else _) = _; rw [if_pos h, if_pos he]
theorem rdS_go {l : List UInt8} {f a : Nat} {acc : List Fld} (h : a < l.length) (he : seenS l a = true) : rdS l (f + 1) a acc = rdS l f (a + 7 + lenS l a) (acc ++ [tagS l a]) := by
  show (if a < l.length then _ else _) = _; rw [if_pos h, if_neg (by rw [he]; decide)]
/-- only what would be put just so again is taken -/
def onlyT (l : List UInt8) (o : Option (List Fld)) : Option (List Fld) := o.filter fun fs => putOk fs && decide (putTs fs = l)
def gotT (l : List UInt8) : Option (List Fld) := onlyT l (rdI l (l.length + 1) 0 [])
theorem pad_it {m wd : Nat} (h1 : 1 ≤ wd) (h2 : wd ≤ 18) (h3 : m < 10 ^ wd) : (padT m wd).length = wd ∧ numOf (padT m wd) = (m : Int) ∧ within 48 57 (padT m wd) = true := by
  rw [padT_yes h1 h2 h3]
  exact ⟨padN_len h1 h3, padN_num h1 h2 h3, padN_dig _ _⟩
theorem put_parts {f : Fld} (h : tagOne f.1 f.2 = true) : ∃ p q : List UInt8, putT f = p ++ q ++ f.2 ∧ p.length = 4 ∧ q.length = 3 ∧ numOf p = f.1 ∧ numOf q = (f.2.length : Int) ∧ within 48 57 p = true ∧ within 48 57 q = true := by
  obtain ⟨h1, h2, _⟩ := tagOne_parts h
  obtain ⟨n, d⟩ := f
  obtain ⟨m, rfl⟩ := Int.eq_ofNat_of_zero_le (show 0 ≤ n by simp only at h1; omega)
  simp only at h1 h2
  obtain ⟨a1, a2, a3⟩ := pad_it (m := m) (wd := 4) (by omega) (by omega) (by omega)
  obtain ⟨b1, b2, b3⟩ := pad_it (m := d.length) (wd := 3) (by omega) (by omega) (by omega)
  exact ⟨padT (m : Int) 4, padT (d.length : Int) 3, rfl, a1, b1, a2, b2, a3, b3⟩
theorem at_I (pre post : List UInt8) {f : Fld} (h : tagOne f.1 f.2 = true) : tagI (pre ++ putT f ++ post) pre.length = f ∧ endI (pre ++ putT f ++ post) pre.length = ((pre ++ putT f).length : Int) := by
  obtain ⟨p, q, e, hp, hq, np, nq, wp, wq⟩ := put_parts h
  rw [e]
  have hb : hasB (pre ++ (p ++ q ++ f.2) ++ post).length (pre.length : Nat) 4 = true := hasB_pos (by omega) (by simp; omega) (by simp; omega)
  have e1 : ((pre ++ (p ++ q ++ f.2) ++ post).drop pre.length).take 4 = p := by rw [← hp]; simp
  have e2 : ((pre ++ (p ++ q ++ f.2) ++ post).drop (pre.length + 4)).take 3 = q := by
    rw [← hp, ← hq, show pre ++ (p ++ q ++ f.2) ++ post = (pre ++ p) ++ (q ++ (f.2 ++ post)) by simp, ← List.length_append, List.drop_left, List.take_left]
  have e3 : ((pre ++ (p ++ q ++ f.2) ++ post).drop (pre.length + 4 + 3)).take f.2.length = f.2 := by
    rw [← hp, ← hq, show pre ++ (p ++ q ++ f.2) ++ post = (pre ++ p ++ q) ++ (f.2 ++ post) by simp, ← List.length_append, ← List.length_append, List.drop_left, List.take_left]
  have hv : vNum (pre ++ (p ++ q ++ f.2) ++ post) ((pre.length : Nat) + 4 : Int) 3 = (f.2.length : Int) := by
    unfold vNum
    rw [show ((pre.length : Nat) + 4 : Int).toNat = pre.length + 4 by omega, show (3 : Int).toNat = 3 from rfl, e2, nq]
  have hok : varOk (pre ++ (p ++ q ++ f.2) ++ post) ((pre.length : Nat) + 4 : Int) 3 = true := varOk_yes rfl (by rw [hv]; simp; omega)
  have hy := var_yes hok
  rw [hv] at hy
  refine ⟨?_, ?_⟩
  · unfold tagI
    rw [if_pos hb, e1, np, hy.1, show ((pre.length : Nat) + 4 + 3 : Int).toNat = pre.length + 4 + 3 by omega, Int.toNat_natCast, e3]
  · unfold endI
    rw [if_pos hb, hy.2]; simp; omega
theorem at_S (pre post : List UInt8) {f : Fld} (h : tagOne f.1 f.2 = true) : tagS (pre ++ putT f ++ post) pre.length = f ∧ pre.length + 7 + lenS (pre ++ putT f ++ post) pre.length = (pre ++ putT f).length ∧ seenS (pre ++ putT f ++ post) pre.length = true := by
  obtain ⟨p, q, e, hp, hq, np, nq, wp, wq⟩ := put_parts h
  rw [e]
  have e1 : ((pre ++ (p ++ q ++ f.2) ++ post).drop pre.length).take 4 = p := by rw [← hp]; simp
  have e2 : ((pre ++ (p ++ q ++ f.2) ++ post).drop (pre.length + 4)).take 3 = q := by
    rw [← hp, ← hq, show pre ++ (p ++ q ++ f.2) ++ post = (pre ++ p) ++ (q ++ (f.2 ++ post)) by simp, ← List.length_append, List.drop_left, List.take_left]
  have e3 : ((pre ++ (p ++ q ++ f.2) ++ post).drop (pre.length + 7)).take f.2.length = f.2 := by
    rw [show pre.length + 7 = (pre ++ p ++ q).length by simp; omega, show pre ++ (p ++ q ++ f.2) ++ post = (pre ++ p ++ q) ++ (f.2 ++ post) by simp, List.drop_left, List.take_left]
  have e4 : ((pre ++ (p ++ q ++ f.2) ++ post).drop pre.length).take 7 = p ++ q := by
    rw [show 7 = (p ++ q).length by simp; omega, show pre ++ (p ++ q ++ f.2) ++ post = pre ++ ((p ++ q) ++ (f.2 ++ post)) by simp, List.drop_left, List.take_left]
  have hl : lenS (pre ++ (p ++ q ++ f.2) ++ post) pre.length = f.2.length := by unfold lenS; rw [e2, nq, Int.toNat_natCast]
  refine ⟨?_, ?_, ?_⟩
  · unfold tagS; rw [hl, e1, np, e3]
  · rw [hl]; simp; omega
  · unfold seenS
    have hw : within 48 57 (p ++ q) = true := within_of fun c hc => by
      rcases List.mem_append.1 hc with hc | hc
      · exact within_mem wp c hc
      · exact within_mem wq c hc
    rw [e4, e2, nq, hw, decide_eq_true (by simp; omega), decide_eq_true (by simp; omega)]; rfl
theorem putT_pos {f : Fld} (h : tagOne f.1 f.2 = true) : 7 ≤ (putT f).length := by
  obtain ⟨p, q, e, hp, hq, _⟩ := put_parts h
  rw [e]; simp; omega
theorem rdI_back (fs : List Fld) : ∀ (pre : List UInt8) (acc : List Fld) (n : Nat), (∀ f ∈ fs, tagOne f.1 f.2 = true) → (putTs fs).length < n → rdI (pre ++ putTs fs) n pre.length acc = some (acc ++ fs) := by
  induction fs with
  | nil => intro pre acc n _ hn; rw [rdI_end (by simp [putTs]) (by omega)]; simp
  | cons f r ih =>
    intro pre acc n hok hn
    have hf := hok f (by simp)
    have h7 := putT_pos hf
    obtain ⟨a1, a2⟩ := at_I pre (putTs r) hf
    have e : pre ++ putTs (f :: r) = pre ++ putT f ++ putTs r := by rw [putTs_cons]; simp
    rw [putTs_cons, List.length_append] at hn
    obtain ⟨n, rfl⟩ : ∃ m, n = m + 1 := ⟨n - 1, by omega⟩
    rw [e, rdI_go (by simp; omega) (by rw [a2]; omega), a1, a2, Int.toNat_natCast, ih (pre ++ putT f) (acc ++ [f]) n (fun g hg => hok g (by simp [hg])) (by omega)]
    simp
theorem rdS_back (fs : List Fld) : ∀ (pre : List UInt8) (acc : List Fld) (n : Nat), (∀ f ∈ fs, tagOne f.1 f.2 = true) → (putTs fs).length < n → rdS (pre ++ putTs fs) n pre.length acc = some (acc ++ fs) := by
  induction fs with
  | nil => intro pre acc n _ hn; rw [rdS_end (by simp [putTs]) (by omega)]; simp
  | cons f r ih =>
    intro pre acc n hok hn
    have hf := hok f (by simp)
    have h7 := putT_pos hf
    obtain ⟨a1, a2, a3⟩ := at_S pre (putTs r) hf
    have e : pre ++ putTs (f :: r) = pre ++ putT f ++ putTs r := by rw [putTs_cons]; simp
    rw [putTs_cons, List.length_append] at hn
    obtain ⟨n, rfl⟩ : ∃ m, n = m + 1 := ⟨n - 1, by omega⟩
    rw [e, rdS_go (by simp; omega) a3, a1, a2, ih (pre ++ putT f) (acc ++ [f]) n (fun g hg => hok g (by simp [hg])) (by omega)]
    simp
theorem only_is {l : List UInt8} {o : Option (List Fld)} {fs : List Fld} (h : onlyT l o = some fs) : o = some fs ∧ putOk fs = true ∧ putTs fs = l := by
  unfold onlyT at h
  rw [Option.filter_eq_some_iff] at h
  simpa using h
theorem only_of {l : List UInt8} {fs : List Fld} (h1 : putOk fs = true) (h2 : putTs fs = l) : onlyT l (some fs) = some fs := by
  unfold onlyT
  rw [Option.filter_eq_some_iff]
  simp [h1, h2]
theorem only_no {l : List UInt8} {fs : List Fld} (h : ¬ (putOk fs = true ∧ putTs fs = l)) : onlyT l (some fs) = none := by
  cases e : onlyT l (some fs)
  · rfl
  · rename_i gs
    obtain ⟨e1, e2, e3⟩ := only_is e
    obtain rfl : fs = gs := Option.some.inj e1
    exact absurd ⟨e2, e3⟩ h
theorem put_all {fs : List Fld} (h : putOk fs = true) : ∀ f ∈ fs, tagOne f.1 f.2 = true := fun f hf => (okT_mem (tagsOk_parts (putOk_parts h).1).2 f hf).1
/-- tags come back from their text -/
theorem got_put {fs : List Fld} (h : putOk fs = true) : gotT (putTs fs) = some fs := by
  have := rdI_back fs [] [] ((putTs fs).length + 1) (put_all h) (by omega)
  unfold gotT
  rw [show rdI (putTs fs) ((putTs fs).length + 1) 0 [] = some fs from this]
  exact only_of h rfl
theorem got_is {l : List UInt8} {fs : List Fld} (h : gotT l = some fs) : putOk fs = true ∧ putTs fs = l := (only_is h).2
/-- both ways of reading take the same -/
theorem got_S (l : List UInt8) : gotT l = onlyT l (rdS l (l.length + 1) 0 []) := by
  cases e : gotT l
  · cases e2 : onlyT l (rdS l (l.length + 1) 0 [])
    · rfl
    · rename_i fs
      obtain ⟨_, h1, h2⟩ := only_is e2
      have := got_put h1
      rw [h2, e] at this
      cases this
  · rename_i fs
    obtain ⟨h1, h2⟩ := got_is e
    have := rdS_back fs [] [] ((putTs fs).length + 1) (put_all h1) (by omega)
    rw [← h2, show rdS (putTs fs) ((putTs fs).length + 1) 0 [] = some fs from this, only_of h1 rfl]
theorem got_big {l : List UInt8} (h : 999 < l.length) : gotT l = none := by
  cases e : gotT l
  · rfl
  · rename_i fs
    obtain ⟨h1, h2⟩ := got_is e
    have := (putOk_parts h1).2
    rw [h2] at this; omega
end Go.Proofs.YtpenkpiffdbdmaaGreatDoor.Tg
/- The contracts of TagOf, the program's and the specification's. -/
namespace Go.Proofs.YtpenkpiffdbdmaaGreatDoor.Tg
open Go.RowKit
def fOf : List Fld → Int → Option (List UInt8)
  | [], _ => none
  | f :: r, n => if f.1 = n then some f.2 else fOf r n
theorem fOf_step (fs : List Fld) (k : Nat) (n : Int) (h : k < fs.length) : fOf (fs.drop k) n = if (at0 fs k).1 = n then some (at0 fs k).2 else fOf (fs.drop (k + 1)) n := by
  have e : at0 fs k = fs[k] := by simp [at0, List.getD_eq_getElem?_getD, h]
  rw [List.drop_eq_getElem_cons h, e]; rfl
set_option maxRecDepth 100000 in
set_option maxHeartbeats 800000 in
theorem iTagOf_any (ao : Option Addr) (cap : Nat) (fs : List Fld) (num : Int) (w : World) (hz : FldsAt w ao fs) (hn : fs.length ≤ 4194304) (hd : ∀ f ∈ fs, f.2.length ≤ 1099511627776) :
    Calls Tryz.prog 76 #[.slice ao fs.length cap, .int .i64 num] w fun e w' => e = .returned (.tuple #[.string ⟨((fOf fs num).getD []).toArray⟩, .bool (fOf fs num).isSome]) ∧ Below w.heap.size w w' := by
  rcases hz with rfl | ⟨b, off, rfl, hb, hcell⟩
  · go_enter Tryz.func76, Tryz.ntmps76
    go_wp2
    refine wp_loop_rounds 1 ?_
    rw [rounds_succ]
    go_wp2
    go_ret2
    exact ⟨rfl, Below.refl _ _⟩
  · have HC : Hid (∀ i, i < fs.length → w.cell? ⟨b, off + i * 2, none⟩ = some (.int .i64 (at0 fs i).1) ∧ w.cell? ⟨b, off + i * 2 + 1, none⟩ = some (.string ⟨(at0 fs i).2.toArray⟩)) := hcell
    clear hcell
    go_enter Tryz.func76, Tryz.ntmps76
    go_wp2
    go_loopw [10] (fun i wr => ∃ k : Nat, k ≤ fs.length ∧ i = .int .i64 k ∧ fOf fs num = fOf (fs.drop k) num ∧ Below w.heap.size w wr) (fun i _ => fs.length - (intOf i).toNat)
    case atStart => exact ⟨0, Nat.zero_le _, rfl, rfl, Below.refl _ _⟩
    case round =>
      obtain ⟨k, hk, rfl, hok, hbr⟩ := hrel
      by_cases hlt : k < fs.length
      · have c1 : wr.cell? ⟨b, off + k * 2, none⟩ = some (.int .i64 (at0 fs k).1) := (hbr.cell (p := ⟨b, off + k * 2, none⟩) hb).trans (HC.out k hlt).1
        have c2 : wr.cell? ⟨b, off + k * 2 + 1, none⟩ = some (.string ⟨(at0 fs k).2.toArray⟩) := (hbr.cell (p := ⟨b, off + k * 2 + 1, none⟩) hb).trans (HC.out k hlt).2
        have hki : (k : Int) < (fs.length : Int) := by omega
        have hst := fOf_step fs k num hlt
        have hdk := hd _ (at0_mem hlt)
        obtain ⟨⟨n, s⟩, hf⟩ : ∃ f, at0 fs k = f := ⟨_, rfl⟩
        rw [hf] at c1 c2 hst hdk
        simp only at c1 c2 hst hdk
        clear hf
        have hl : s.length ≤ 1099511627776 := by omega
        by_cases hq : n = num
        · have HN : Hid (fOf fs num = some s) := by rw [Hid, hok, hst, if_pos hq]
          have hq' : (n == num) = true := by simpa using hq
          clear hst hok hq
          go_wp2_with fail
          refine (clone_any s _ hl).mono ?_
          rintro e w2 ⟨rfl, b2⟩
          have bb := (hbr.alloc hbr.size (.cells #[.int .i64 n, .string ⟨s.toArray⟩] 94)).trans (b2.mono (by have := hbr.size; simp; omega))
          clear b2
          go_wp2
          go_ret2
          exact ⟨str_ok (by rw [HN.out]; rfl) (by rw [HN.out]; rfl), bb⟩
        · have HN : Hid (fOf fs num = fOf (fs.drop (k + 1)) num) := by rw [Hid, hok, hst, if_neg hq]
          have hq' : (n == num) = false := by simpa using hq
          clear hst hok hq
          go_wp2
          go_roundw
          case rel => exact ⟨k + 1, by omega, by go_num, HN.out, hbr.alloc hbr.size _⟩
          case measure => simp [intOf]; omega
      · have hke : k = fs.length := by omega
        subst hke
        have HN : Hid (fOf fs num = none) := by rw [Hid, hok, List.drop_of_length_le (Nat.le_refl _)]; rfl
        clear hok
        go_wp2
        go_ret2
        exact ⟨str_ok (by rw [HN.out]; rfl) (by rw [HN.out]; rfl), hbr⟩
set_option maxRecDepth 100000 in
set_option maxHeartbeats 800000 in
theorem sTagOf_any (ao : Option Addr) (cap : Nat) (fs : List Fld) (num : Int) (w : World) (hz : FldsAt w ao fs) (hn : fs.length ≤ 4194304) :
    Calls Tryz.prog 56 #[.slice ao fs.length cap, .int .i64 num] w fun e w' => e = .returned (.tuple #[.string ⟨((fOf fs num).getD []).toArray⟩, .bool (fOf fs num).isSome]) ∧ Below w.heap.size w w' := by
  rcases hz with rfl | ⟨b, off, rfl, hb, hcell⟩
  · go_enter Tryz.func56, Tryz.ntmps56
    go_wp2
    refine wp_loop_rounds 1 ?_
    rw [rounds_succ]
    go_wp2
    go_ret2
    exact ⟨rfl, Below.refl _ _⟩
  · have HC : Hid (∀ i, i < fs.length → w.cell? ⟨b, off + i * 2, none⟩ = some (.int .i64 (at0 fs i).1) ∧ w.cell? ⟨b, off + i * 2 + 1, none⟩ = some (.string ⟨(at0 fs i).2.toArray⟩)) := hcell
    clear hcell
    go_enter Tryz.func56, Tryz.ntmps56
    go_wp2
    go_loop [6] (fun i => ∃ k : Nat, k ≤ fs.length ∧ i = .int .i64 k ∧ fOf fs num = fOf (fs.drop k) num) (fun i => fs.length - (intOf i).toNat)
    case atStart => exact ⟨0, Nat.zero_le _, rfl, rfl⟩
    case round =>
      obtain ⟨k, hk, rfl, hok⟩ := hrel
      by_cases hlt : k < fs.length
      · have c1 : w.cell? ⟨b, off + k * 2, none⟩ = some (.int .i64 (at0 fs k).1) := (HC.out k hlt).1
        have c2 : w.cell? ⟨b, off + k * 2 + 1, none⟩ = some (.string ⟨(at0 fs k).2.toArray⟩) := (HC.out k hlt).2
        have hki : (k : Int) < (fs.length : Int) := by omega
        have hst := fOf_step fs k num hlt
        obtain ⟨⟨n, s⟩, hf⟩ : ∃ f, at0 fs k = f := ⟨_, rfl⟩
        rw [hf] at c1 c2 hst
        simp only at c1 c2 hst
        clear hf
        by_cases hq : n = num
        · have HN : Hid (fOf fs num = some s) := by rw [Hid, hok, hst, if_pos hq]
          have hq' : (n == num) = true := by simpa using hq
          clear hst hok hq
          go_wp2
          go_ret2
          exact ⟨str_ok (by rw [HN.out]; rfl) (by rw [HN.out]; rfl), Below.refl _ _⟩
        · have HN : Hid (fOf fs num = fOf (fs.drop (k + 1)) num) := by rw [Hid, hok, hst, if_neg hq]
          have hq' : (n == num) = false := by simpa using hq
          clear hst hok hq
          go_wp2
          go_round
          case rel => exact ⟨k + 1, by omega, by go_num, HN.out⟩
          case measure => simp [intOf]; omega
      · have hke : k = fs.length := by omega
        subst hke
        have HN : Hid (fOf fs num = none) := by rw [Hid, hok, List.drop_of_length_le (Nat.le_refl _)]; rfl
        clear hok
        go_wp2
        go_ret2
        exact ⟨str_ok (by rw [HN.out]; rfl) (by rw [HN.out]; rfl), Below.refl _ _⟩
end Go.Proofs.YtpenkpiffdbdmaaGreatDoor.Tg
/- The line of a message, plainly: what the program reads out of it. -/
namespace Go.Proofs.YtpenkpiffdbdmaaGreatDoor
open Go.RowKit
set_option maxRecDepth 100000
def swD (fs : List Fld) (n : Int) : List UInt8 := (fOf fs n).getD []
def swH (fs : List Fld) (n : Int) : Bool := (fOf fs n).isSome
def swN (fs : List Fld) (n : Int) : Int := numOf (swD fs n)
def swA (fs : List Fld) (n : Int) : Int := numOf (Lib.trimLeftB (swD fs n) 48)
def nthW (k : Nat) : List UInt8 := ([[97, 115, 107], [103, 105, 118, 101], [99, 104, 97, 114, 103, 101], [97, 110, 115, 119, 101, 114], [115, 101, 99, 111, 110, 100], [97, 99, 99, 101, 112, 116], [114, 101, 102, 117, 115, 101], [114, 117, 108, 101], [101, 120, 112, 105, 114, 101], [99, 108, 111, 115, 101]] : List (List UInt8)).getD k []
def swIn (x : Int) : Bool := decide (1 ≤ x) && decide (x ≤ 9999)
def swTg (fs : List Fld) : List Fld := (Tg.gotT (swD fs 48)).getD []
def swT (tg : List Fld) (n : Int) : List UInt8 := (Tg.fOf tg n).getD []
def swC (tg : List Fld) : Int := numOf (swT tg 1)
def swCb (tg : List Fld) : Bool := (swT tg 1 == []) || (decide (9 < (swT tg 1).length) || decide (swC tg < 0))
def swRef (l : List UInt8) : Bool := decide (l.length = 12) && within 33 126 l
def swWok (l : List UInt8) : Bool := (l == [97, 99, 99, 101, 112, 116]) || ((l == [114, 101, 102, 117, 115, 101]) || ((l == [114, 117, 108, 101]) || (l == [99, 108, 111, 115, 101])))
def swW (tg : List Fld) : List UInt8 := if swWok (swT tg 2) = true then swT tg 2 else []
/-- the sort of a message: its number among the eight, where it is one -/
def swCode (kd : Int) (fs : List Fld) : Int := if swH fs 24 = false ∨ kd = 1100 then -1 else swN fs 24
def swKey (k : Nat) : Int × Int := [(1100, -1), (1240, 200), (1240, 205), (1442, 450), (1442, 451), (1644, 603), (1644, 605), (1740, 700)].getD k (0, 0)
def swSort (kd cd : Int) : Option Nat :=
  if (kd, cd) = (1100, -1) then some 0 else if (kd, cd) = (1240, 200) then some 1 else if (kd, cd) = (1240, 205) then some 2 else if (kd, cd) = (1442, 450) then some 3
  else if (kd, cd) = (1442, 451) then some 4 else if (kd, cd) = (1644, 603) then some 5 else if (kd, cd) = (1644, 605) then some 6 else if (kd, cd) = (1740, 700) then some 7 else none
/-- the five words of a line, whether a field is not so, whether a tag is not so -/
def swOut (k : Nat) (fs tg : List Fld) : List (List UInt8) × Bool × Bool :=
  match k with
  | 0 => ([[97, 117, 116, 104], swD fs 37, Lib.itoa (swA fs 2), Lib.itoa (swN fs 49), Lib.itoa (swN fs 4)], ((!swRef (swD fs 37) || !swIn (swA fs 2)) || !swH fs 49) || !swH fs 4, false)
  | 1 => ([[112, 97, 121], Lib.itoa (swA fs 2), Lib.itoa (swA fs 93), Lib.itoa (swN fs 49), Lib.itoa (swN fs 4)], ((!swIn (swA fs 2) || !swIn (swA fs 93)) || !swH fs 49) || !swH fs 4, false)
  | 2 => ([[97, 99, 116], Lib.itoa (swC tg), [97, 110, 115, 119, 101, 114], Lib.itoa (swN fs 4), [48]], !swH fs 4, swCb tg)
  | 3 => ([[97, 99, 116], Lib.itoa (swC tg), [99, 104, 97, 114, 103, 101], Lib.itoa (swN fs 4), Lib.itoa (swN fs 25)], !swH fs 4 || !swH fs 25, swCb tg)
  | 4 => ([[97, 99, 116], Lib.itoa (swC tg), [115, 101, 99, 111, 110, 100], Lib.itoa (swN fs 4), [48]], !swH fs 4, swCb tg)
  | 5 => ([[97, 99, 116], Lib.itoa (swC tg), [97, 115, 107], [48], [48]], false, swCb tg)
  | 6 => ([[97, 99, 116], Lib.itoa (swC tg), [103, 105, 118, 101], [48], [48]], false, swCb tg)
  | _ => ([[97, 99, 116], Lib.itoa (swC tg), swW tg, Lib.itoa (swN fs 4), [48]], false, !swWok (swT tg 2) || swCb tg)
def swJoin (ws : List (List UInt8)) : List UInt8 := Lib.join ws [32]
/-- what SwitchLine answers -/
def swAns (kd : Int) (fs : List Fld) : List UInt8 × Int :=
  match swSort kd (swCode kd fs) with
  | none => ([], 1)
  | some k =>
    if msgOk kd fs = true then
      let o := swOut k fs (swTg fs)
      if o.2.1 = true then ([], 2) else if o.2.2 = true then ([], 3) else (swJoin o.1, 0)
    else ([], 1)
theorem tgot_len (l : List UInt8) : ((Tg.gotT l).getD []).length ≤ 60 ∧ ∀ f ∈ (Tg.gotT l).getD [], f.2.length ≤ 200 := by
  cases h : Tg.gotT l
  · simp
  · have q := Tg.tagsOk_parts (Tg.putOk_parts (Tg.got_is h).1).1
    exact ⟨q.1, fun f hf => (Tg.tagOne_parts (Tg.okT_mem q.2 f hf).1).2.1⟩
end Go.Proofs.YtpenkpiffdbdmaaGreatDoor
/- A reading as it lies in its box, and what its small functions answer. -/
namespace Go.Proofs.YtpenkpiffdbdmaaGreatDoor
open Go.RowKit
set_option maxRecDepth 100000
/-- what stood when the box of the reading was made: the fields, the tags, the tables -/
structure SwE (V : World) (ao : Option Addr) (fs : List Fld) (tao : Option Addr) (tg : List Fld) : Prop where
  hm : FldsAt V ao fs
  hn : fs.length ≤ 1048576
  hd : sumF fs ≤ 1048576
  ht : FldsAt V tao tg
  hk : tg.length ≤ 1000
  he : ∀ f ∈ tg, f.2.length ≤ 1000
  hp : Lib.TabIs Tryz.prog V "internal/strconv.uint64pow10" .u64 Lib.pow10Tab
  hw : ∀ k, k < 10 → V.cell? ⟨0, k, none⟩ = some (.string ⟨(nthW k).toArray⟩)
/-- the reading in its box, the first block behind V -/
structure SwR (V : World) (kd : Int) (ao : Option Addr) (cap : Nat) (fs : List Fld) (tao : Option Addr) (tc : Nat) (tg : List Fld) (nf nt : Bool) (u : World) : Prop where
  m0 : u.cell? ⟨V.heap.size, 0, none⟩ = some (.int .i64 kd)
  m1 : u.cell? ⟨V.heap.size, 1, none⟩ = some (.slice ao fs.length cap)
  m2 : u.cell? ⟨V.heap.size, 2, none⟩ = some (.slice tao tg.length tc)
  m3 : u.cell? ⟨V.heap.size, 3, none⟩ = some (.bool nf)
  m4 : u.cell? ⟨V.heap.size, 4, none⟩ = some (.bool nt)
  z3 : u.frozen? ⟨V.heap.size, 3, none⟩ = false
  z4 : u.frozen? ⟨V.heap.size, 4, none⟩ = false
  hb : Below V.heap.size V u
section
variable {V : World} {kd : Int} {ao : Option Addr} {cap : Nat} {fs : List Fld} {tao : Option Addr} {tc : Nat} {tg : List Fld} {nf nt : Bool} {u u' : World}
theorem SwR.lt (h : SwR V kd ao cap fs tao tc tg nf nt u) : V.heap.size < u.heap.size := World.block_lt_of_cell? u _ h.m0
theorem SwR.below (h : SwR V kd ao cap fs tao tc tg nf nt u) (k : Below u.heap.size u u') : SwR V kd ao cap fs tao tc tg nf nt u' := by
  have l := h.lt
  exact ⟨(k.cell (p := ⟨V.heap.size, 0, none⟩) l).trans h.m0, (k.cell (p := ⟨V.heap.size, 1, none⟩) l).trans h.m1, (k.cell (p := ⟨V.heap.size, 2, none⟩) l).trans h.m2, (k.cell (p := ⟨V.heap.size, 3, none⟩) l).trans h.m3, (k.cell (p := ⟨V.heap.size, 4, none⟩) l).trans h.m4,
    (k.frozen (p := ⟨V.heap.size, 3, none⟩) l).trans h.z3, (k.frozen (p := ⟨V.heap.size, 4, none⟩) l).trans h.z4, h.hb.trans (k.mono h.hb.size)⟩
theorem SwR.set3 (h : SwR V kd ao cap fs tao tc tg nf nt u) (x : Bool) : SwR V kd ao cap fs tao tc tg x nt (u.setCell ⟨V.heap.size, 3, none⟩ (.bool x)) := by
  obtain ⟨m0, m1, m2, m3, m4, z3, z4, hb⟩ := h
  exact ⟨by simp [go_sem, m0], by simp [go_sem, m1], by simp [go_sem, m2], by simp [go_sem, m3], by simp [go_sem, m4], by simp [go_sem, z3], by simp [go_sem, z4], hb.setCell (Nat.le_refl _) _⟩
theorem SwR.set4 (h : SwR V kd ao cap fs tao tc tg nf nt u) (x : Bool) : SwR V kd ao cap fs tao tc tg nf x (u.setCell ⟨V.heap.size, 4, none⟩ (.bool x)) := by
  obtain ⟨m0, m1, m2, m3, m4, z3, z4, hb⟩ := h
  exact ⟨by simp [go_sem, m0], by simp [go_sem, m1], by simp [go_sem, m2], by simp [go_sem, m3], by simp [go_sem, m4], by simp [go_sem, z3], by simp [go_sem, z4], hb.setCell (Nat.le_refl _) _⟩
end
theorem sw_eq {V : World} {kd : Int} {ao : Option Addr} {cap : Nat} {fs : List Fld} {tao : Option Addr} {tc : Nat} {tg : List Fld} {a b a' b' : Bool} {u : World} (h : SwR V kd ao cap fs tao tc tg a b u) (e : a = a') (g : b = b') : SwR V kd ao cap fs tao tc tg a' b' u := by subst e; subst g; exact h
theorem sw_str {a b : List UInt8} (h : b = a) : Ending.returned (.string ⟨a.toArray⟩) = .returned (.string ⟨b.toArray⟩) := by rw [h]
theorem sw_grow (w : World) (q : Nat) (os : Array Obj) : Below w.heap.size w (Go.Sort.grow (w.drewN q) os) :=
  ⟨rfl, rfl, rfl, by simp [Go.Sort.grow, World.drewN], fun k hk => by simp [Go.Sort.grow, World.drewN, Array.getElem?_append, hk]⟩
theorem sw_itoa {n : Int} {w : World} (h0 : -1 ≤ n) (h1 : n < 1000000000000000000) (ht : Lib.TabIs Tryz.prog w "internal/strconv.uint64pow10" .u64 Lib.pow10Tab) :
    Calls Tryz.prog 74 #[.int .i64 n] w fun e w' => e = .returned (.string ⟨(Lib.itoa n).toArray⟩) ∧ Below w.heap.size w w' := by
  refine (Tryz.strconv_Itoa n (by omega) (by omega) w ht).mono ?_
  rintro e w' ⟨rfl, k, os, rfl⟩
  exact ⟨rfl, sw_grow w k os⟩
theorem sw_num {l : List UInt8} : -1 ≤ numOf l ∧ numOf l < 1000000000000000000 := numOf_bd l
theorem sw_len {fs : List Fld} {n : Int} (h : sumF fs ≤ 1048576) : (swD fs n).length ≤ 1048576 := by
  unfold swD
  induction fs with
  | nil => simp [fOf]
  | cons f r ih =>
    have hs : sumF (f :: r) = f.2.length + sumF r := rfl
    unfold fOf
    split
    · simp; omega
    · exact ih (by omega)
theorem sw_tlen {tg : List Fld} {n : Int} (h : ∀ f ∈ tg, f.2.length ≤ 1000) : (swT tg n).length ≤ 1000 := by
  unfold swT
  induction tg with
  | nil => simp [Tg.fOf]
  | cons f r ih =>
    unfold Tg.fOf
    split
    · simpa using h f (by simp)
    · exact ih fun g hg => h g (by simp [hg])
set_option maxHeartbeats 1600000 in
/-- a number of a field, nought or -1 where there is none -/
theorem swNought_any {V : World} {kd : Int} {ao : Option Addr} {cap : Nat} {fs : List Fld} {tao : Option Addr} {tc : Nat} {tg : List Fld} {nf nt : Bool} (E : SwE V ao fs tao tg) (n : Int) (u : World) (R : SwR V kd ao cap fs tao tc tg nf nt u) :
    Calls Tryz.prog 62 #[.pointer (some ⟨V.heap.size, 0, none⟩), .int .i64 n] u fun e u' => e = .returned (.string ⟨(Lib.itoa (swN fs n)).toArray⟩) ∧ SwR V kd ao cap fs tao tc tg nf nt u' := by
  have HR : Hid _ := R
  have HE : Hid _ := E
  obtain ⟨m0, m1, m2, m3, m4, z3, z4, hb⟩ := R
  have HFI : Hid (Calls Tryz.prog 43 #[.agg #[.int .i64 kd, .slice ao fs.length cap], .int .i64 n] u fun e w' => e = .returned (.tuple #[.string ⟨(swD fs n).toArray⟩, .bool (swH fs n)]) ∧ Below u.heap.size u w') := iFieldOf_any kd ao cap fs n u (E.hm.below hb) E.hn E.hd
  have hl : (swD fs n).length ≤ 1099511627776 := by have := sw_len (n := n) E.hd; omega
  have HN : Hid (numOf (swD fs n) = swN fs n) := rfl
  obtain ⟨N, hN⟩ : ∃ x, swN fs n = x := ⟨_, rfl⟩
  have hbd := @sw_num (swD fs n)
  rw [HN.out, hN] at hbd
  rw [hN] at HN ⊢
  obtain ⟨D, hD⟩ : ∃ x, swD fs n = x := ⟨_, rfl⟩
  obtain ⟨H, hH⟩ : ∃ x, swH fs n = x := ⟨_, rfl⟩
  rw [hD, hH] at HFI
  rw [hD] at HN hl
  clear hN hD hH m2 m3 m4 z3 z4 hb E
  go_enter Tryz.func62, Tryz.ntmps62
  go_wp2_with fail
  refine HFI.out.mono ?_
  rintro e u1 ⟨rfl, b1⟩
  go_wp2_with fail
  refine (iNumOf_any _ _ hl).mono ?_
  rintro e u2 ⟨rfl, hu⟩
  subst hu
  rw [HN.out]
  go_wp2_with fail
  refine (sw_itoa hbd.1 hbd.2 (Lib.tabBelow_of_tabIs HE.out.hp _ (HR.out.below b1).hb)).mono ?_
  rintro e u3 ⟨rfl, b3⟩
  go_wp2
  go_ret
  exact ⟨rfl, (HR.out.below b1).below b3⟩
end Go.Proofs.YtpenkpiffdbdmaaGreatDoor
/- The table of the sorts of messages: a map with pairs as keys and functions as values, filled in whatever order. -/
namespace Go.Proofs.YtpenkpiffdbdmaaGreatDoor
open Go.RowKit Go.Maps
set_option maxRecDepth 100000
def wfI (n : Int) : Prop := (Lit.int .i64 n).wf = true
/-- what a pair reads as -/
def sortL (a c : Int) : Lit := .string (keyBytes [.int .i64 a, .int .i64 c])
theorem sw_rowK : (49 : TypeId) < Tryz.prog.types.size := of_decide_eq_true (by kernel_rfl)
theorem sw_cellsK : Tryz.prog.cellsOf 49 = 2 := by kernel_rfl
theorem sw_cellsI : Tryz.prog.cellsOf 3 = 1 := by kernel_rfl
theorem sw_deepK : Tryz.prog.keyType 49 = true := by kernel_rfl
theorem sw_wideK : (match Tryz.prog.underlying 49 with | some (.array _ _) | some (.struct _) => true | _ => false) = true := by kernel_rfl
theorem sw_klawK : WideMaps.KeyLaw Tryz.prog 49 := deep_law_laid laidOut (m := 3) (by omega) sw_rowK (by kernel_rfl) sw_wideK
theorem sw_lawK : Keyed Tryz.prog 49 := Keyed.of_law sw_klawK
theorem sw_typesN : ∃ n, Tryz.prog.types.size = n + 1 := ⟨Tryz.prog.types.size - 1, (Nat.succ_pred_eq_of_pos (Nat.lt_of_le_of_lt (Nat.zero_le _) sw_rowK)).symm⟩
theorem sw_keyOf {a c : Int} (ha : wfI a) (hc : wfI c) : keyOf Tryz.prog 49 (.agg #[.int .i64 a, .int .i64 c]) = some (sortL a c) := by
  obtain ⟨n, hn⟩ := sw_typesN
  have ha' : (Lit.int .i64 a).wf = true := ha
  have hc' : (Lit.int .i64 c).wf = true := hc
  simp [keyOf, Tryz.underlying49, sw_deepK, Value.formed, sw_cellsK, hn, Program.keyLits, Value.cells, sw_cellsI, Tryz.underlying3, ha', hc', sortL, List.range, List.range.loop]
theorem sortL_inj {a c a' c' : Int} (ha : wfI a) (hc : wfI c) (ha' : wfI a') (hc' : wfI c') (h : sortL a c = sortL a' c') : a = a' ∧ c = c' := by
  have := sw_lawK.inj (sw_keyOf ha hc) (h ▸ sw_keyOf ha' hc')
  simpa using this
theorem sortL_is (a c : Int) : WideAt.IsKeyLit (sortL a c) := trivial
/-- how a function reads in the table -/
def swRd (v : Value) : Option (DataW Unit × List MemPlace) :=
  match v with
  | .nilFunc => some (.nil, [])
  | .func (.func f) a b => if a = #[] ∧ b = #[] then some (.lit (.int .i64 (f : Nat)), []) else none
  | _ => none
theorem swRd_func (f : Nat) : swRd (.func (.func f) #[] #[]) = some (.lit (.int .i64 (f : Nat)), []) := by simp [swRd]
theorem swRd_lit {v : Value} {n : Int} {ps : List MemPlace} (h : swRd v = some (.lit (.int .i64 n), ps)) : ∃ f : Nat, v = .func (.func f) #[] #[] ∧ n = f := by
  unfold swRd at h
  split at h
  · cases h
  · rename_i f a b
    split at h
    · rename_i hab
      obtain ⟨rfl, rfl⟩ := hab
      simp at h
      exact ⟨f, rfl, h.1.symm⟩
    · cases h
  · cases h
/-- the function of a sort -/
def swF (k : Nat) : Nat := [35, 36, 37, 38, 39, 40, 41, 42].getD k 0
/-- the table in block b, where those sorts stand in it that 'done' says -/
def SwMap (w : World) (b n : Nat) (done : Nat → Bool) : Prop :=
  ∃ (D : DataW Unit), w.ownsMap Tryz.prog 49 swRd b n D ∧
    ∀ a c, wfI a → wfI c → Maps.has D (sortL a c) = (match swSort a c with | some k => done k | none => false) ∧
      ∀ k, swSort a c = some k → done k = true → D.atKey (sortL a c) .nil = .lit (.int .i64 (swF k : Nat))
theorem swSort_key {a c : Int} {k : Nat} (h : swSort a c = some k) : k < 8 ∧ a = (swKey k).1 ∧ c = (swKey k).2 := by
  unfold swSort at h
  repeat' split at h
  all_goals first | (rename_i hq; simp only [Option.some.injEq] at h; subst h; simp only [Prod.mk.injEq] at hq; exact ⟨by decide, hq.1, hq.2⟩) | cases h
theorem swKey_sort {k : Nat} (h : k < 8) : swSort (swKey k).1 (swKey k).2 = some k := by
  rcases (show k = 0 ∨ k = 1 ∨ k = 2 ∨ k = 3 ∨ k = 4 ∨ k = 5 ∨ k = 6 ∨ k = 7 by omega) with rfl | rfl | rfl | rfl | rfl | rfl | rfl | rfl <;> decide
theorem swKey_wf {k : Nat} (h : k < 8) : wfI (swKey k).1 ∧ wfI (swKey k).2 := by
  rcases (show k = 0 ∨ k = 1 ∨ k = 2 ∨ k = 3 ∨ k = 4 ∨ k = 5 ∨ k = 6 ∨ k = 7 by omega) with rfl | rfl | rfl | rfl | rfl | rfl | rfl | rfl <;> exact ⟨rfl, rfl⟩
theorem swMap_new (w : World) : SwMap (w.alloc (.map #[] 0)) w.heap.size 0 fun _ => false := by
  refine ⟨.map [], World.ownsMap_made w _ _ _, fun a c _ _ => ⟨?_, fun k _ h => by cases h⟩⟩
  cases swSort a c <;> rfl
theorem SwMap.put {w : World} {b n : Nat} {done : Nat → Bool} (h : SwMap w b n done) {k : Nat} (hk : k < 8) (hn : n < 100) :
    ∃ w', (Instr.mapUpdate 65 (.map (some b)) (.agg #[.int .i64 (swKey k).1, .int .i64 (swKey k).2]) (.func (.func (swF k)) #[] #[])).run Tryz.prog w = .ok () w' ∧
      SwMap w' b (n + 1) (fun j => if j = k then true else done j) ∧ w.grownBy w' (some b) := by
  obtain ⟨D, hown, hview⟩ := h
  obtain ⟨wk1, wk2⟩ := swKey_wf hk
  obtain ⟨w', hrun, hown', hg⟩ := hown.update sw_lawK Tryz.underlying65 (by unfold maxLen; omega) (sw_keyOf wk1 wk2) (swRd_func (swF k))
  refine ⟨w', hrun, ⟨_, hown', fun a c ha hc => ?_⟩, hg⟩
  by_cases he : a = (swKey k).1 ∧ c = (swKey k).2
  · obtain ⟨rfl, rfl⟩ := he
    rw [swKey_sort hk, Maps.has_put_same hown.isMap (sortL_is _ _), Maps.atKey_put_same hown.isMap (sortL_is _ _)]
    refine ⟨by simp, fun j hj _ => ?_⟩
    simp only [Option.some.injEq] at hj
    subst hj
    rfl
  · have hne : sortL a c ≠ sortL (swKey k).1 (swKey k).2 := fun e => he (sortL_inj ha hc wk1 wk2 e)
    rw [Maps.has_put_other hne, Maps.atKey_put_other hne]
    obtain ⟨h1, h2⟩ := hview a c ha hc
    refine ⟨?_, fun j hj hd => ?_⟩
    · rw [h1]
      cases hs : swSort a c with
      | none => rfl
      | some j =>
        have hjk : j ≠ k := fun e => he (by subst e; exact ⟨(swSort_key hs).2.1, (swSort_key hs).2.2⟩)
        simp [hjk]
    · have hjk : j ≠ k := fun e => he (by subst e; exact ⟨(swSort_key hj).2.1, (swSort_key hj).2.2⟩)
      exact h2 j hj (by simpa [hjk] using hd)
/-- what a look-up in the whole table gives -/
theorem SwMap.look {w : World} {b n : Nat} {done : Nat → Bool} (h : SwMap w b n done) (hd : ∀ k, k < 8 → done k = true) {a c : Int} (ha : wfI a) (hc : wfI c) :
    ∃ v, (Instr.lookup 65 (.map (some b)) (.agg #[.int .i64 a, .int .i64 c]) true).run Tryz.prog w = .ok (.tuple #[v, .bool (swSort a c).isSome]) w ∧ ∀ k, swSort a c = some k → v = .func (.func (swF k)) #[] #[] := by
  obtain ⟨D, hown, hview⟩ := h
  obtain ⟨h1, h2⟩ := hview a c ha hc
  obtain ⟨v, ps, hrun, hv⟩ := hown.look_ok sw_lawK Tryz.underlying65 (z := .nilFunc) (by rfl) (zd := .nil) (zp := []) rfl (sw_keyOf ha hc)
  have e : Maps.has D (sortL a c) = (swSort a c).isSome := by
    rw [h1]
    cases hs : swSort a c with
    | none => rfl
    | some j => exact hd j (swSort_key hs).1
  rw [e] at hrun
  refine ⟨v, hrun, fun k hk => ?_⟩
  rw [h2 k hk (hd k (swSort_key hk).1)] at hv
  obtain ⟨f, rfl, hf⟩ := swRd_lit hv
  rw [Int.ofNat_inj.1 hf]
end Go.Proofs.YtpenkpiffdbdmaaGreatDoor
/- The contract of the program's refOk. -/
namespace Go.Proofs.YtpenkpiffdbdmaaGreatDoor
open Go.RowKit
set_option maxRecDepth 100000
theorem swR_blank (l : List UInt8) : decide (0 ≤ Lib.indexByte l 32) = l.any (fun c => c == 32) := by
  induction l with
  | nil => rfl
  | cons b l ih =>
    have hg := Lib.indexByte_ge l 32
    by_cases hb : b = 32
    · have h1 : (b == 32) = true := by simp [hb]
      have h0 : Lib.indexByte (b :: l) 32 = 0 := by rw [Lib.indexByte, if_pos h1]
      rw [h0, List.any_cons, h1]; rfl
    · have h1 : (b == 32) = false := by simp [hb]
      rw [List.any_cons, h1, Bool.false_or, ← ih]
      by_cases h : Lib.indexByte l 32 = -1
      · have h0 : Lib.indexByte (b :: l) 32 = -1 := by rw [Lib.indexByte, if_neg (by rw [h1]; decide), if_pos (by simp [h])]
        rw [h0, h]
      · have h0 : Lib.indexByte (b :: l) 32 = Lib.indexByte l 32 + 1 := by rw [Lib.indexByte, if_neg (by rw [h1]; decide), if_neg (by simp [h])]
        rw [h0, decide_eq_true (show 0 ≤ Lib.indexByte l 32 + 1 by omega), decide_eq_true (show 0 ≤ Lib.indexByte l 32 by omega)]
theorem swR_within (l : List UInt8) : within 33 126 l = (within 32 126 l && !decide (0 ≤ Lib.indexByte l 32)) := by
  rw [swR_blank]
  induction l with
  | nil => rfl
  | cons b l ih =>
    simp only [within, List.all_cons, List.any_cons] at ih ⊢
    rw [ih]
    by_cases hb : b.toNat = 32
    · have h1 : (b == 32) = true := by
        have : b = 32 := UInt8.toNat_inj.1 hb
        simp [this]
      have h2 : decide (33 ≤ b.toNat) = false := by simp [hb]
      rw [h1, h2]
      simp
    · have h1 : (b == 32) = false := by
        cases h : (b == 32)
        · rfl
        · have : b = 32 := by simpa using h
          subst this
          exact absurd rfl hb
      have h2 : decide (33 ≤ b.toNat) = decide (32 ≤ b.toNat) := by
        by_cases h : 33 ≤ b.toNat
        · rw [decide_eq_true h, decide_eq_true (show 32 ≤ b.toNat by omega)]
        · rw [decide_eq_false h, decide_eq_false (show ¬ 32 ≤ b.toNat by omega)]
      rw [h1, h2, Bool.false_or]
      cases decide (32 ≤ b.toNat) <;> cases decide (b.toNat ≤ 126) <;> simp
set_option maxHeartbeats 800000 in
theorem swRef_any (l : List UInt8) (w : World) (hl : l.length ≤ 1099511627776) :
    Calls Tryz.prog 71 #[.string ⟨l.toArray⟩] w fun e w' => e = .returned (.bool (swRef l)) ∧ w' = w := by
  by_cases h12 : l.length = 12
  · have hq : ((l.length : Int) == 12) = true := by simp [h12]
    have HR : Hid (swRef l = (within 32 126 l && !decide (0 ≤ Lib.indexByte l 32))) := by rw [Hid, swRef, swR_within, decide_eq_true h12, Bool.true_and]
    clear h12
    cases hp : within 32 126 l
    · go_enter Tryz.func71, Tryz.ntmps71
      go_wp2_with fail
      refine (iPlain_any l _ hl).mono ?_
      rintro e w1 ⟨rfl, hw⟩
      subst hw
      rw [hp]
      go_wp2
      go_ret
      exact ⟨one_bool (by rw [HR.out, hp]; rfl), rfl⟩
    · go_enter Tryz.func71, Tryz.ntmps71
      go_wp2_with fail
      refine (iPlain_any l _ hl).mono ?_
      rintro e w1 ⟨rfl, hw⟩
      subst hw
      rw [hp]
      go_wp2_with fail
      refine (Tryz.strings_Contains_one ⟨l.toArray⟩ 32 _).mono ?_
      rintro e w1 ⟨rfl, hw⟩
      subst hw
      obtain ⟨q, hqq⟩ : ∃ q, decide (0 ≤ Lib.indexByte (⟨l.toArray⟩ : ByteArray).data.toList 32) = q := ⟨_, rfl⟩
      rw [hqq]
      have HQ : Hid (decide (0 ≤ Lib.indexByte l 32) = q) := hqq
      clear hqq
      go_wp2
      go_ret
      exact ⟨one_bool (by rw [HR.out, hp, HQ.out]; rfl), rfl⟩
  · have hq : ((l.length : Int) == 12) = false := by simp; omega
    have HR : Hid (swRef l = false) := by rw [Hid, swRef, decide_eq_false h12]; rfl
    clear h12
    go_enter Tryz.func71, Tryz.ntmps71
    go_wp2
    go_ret
    exact ⟨one_bool HR.out.symm, rfl⟩
end Go.Proofs.YtpenkpiffdbdmaaGreatDoor
/- What the reading's functions answer: the parts of a line. -/
namespace Go.Proofs.YtpenkpiffdbdmaaGreatDoor
open Go.RowKit
set_option maxRecDepth 100000
theorem swAcct_any (x : Int) (w : World) : Calls Tryz.prog 73 #[.int .i64 x] w fun e w' => e = .returned (.bool (swIn x)) ∧ w' = w := by
  unfold swIn
  by_cases h1 : 1 ≤ x
  · by_cases h2 : x ≤ 9999
    · go_enter Tryz.func73, Tryz.ntmps73
      go_wp2
      go_ret
      exact ⟨one_bool (by rw [decide_eq_true (show 1 ≤ x by omega), decide_eq_true (show x ≤ 9999 by omega)]; rfl), rfl⟩
    · go_enter Tryz.func73, Tryz.ntmps73
      go_wp2
      go_ret
      exact ⟨one_bool (by first | rw [decide_eq_false (show ¬ x ≤ 9999 by omega), Bool.and_false] | rw [decide_eq_false (show ¬ x ≤ 9999 by omega)]), rfl⟩
  · go_enter Tryz.func73, Tryz.ntmps73
    go_wp2
    go_ret
    exact ⟨one_bool (by rw [decide_eq_false (show ¬ 1 ≤ x by omega), Bool.false_and]), rfl⟩
set_option maxHeartbeats 1600000 in
/-- a number of a field that must be there -/
theorem swNumber_any {V : World} {kd : Int} {ao : Option Addr} {cap : Nat} {fs : List Fld} {tao : Option Addr} {tc : Nat} {tg : List Fld} {nf nt : Bool} (E : SwE V ao fs tao tg) (n : Int) (u : World) (R : SwR V kd ao cap fs tao tc tg nf nt u) :
    Calls Tryz.prog 59 #[.pointer (some ⟨V.heap.size, 0, none⟩), .int .i64 n] u fun e u' => e = .returned (.string ⟨(Lib.itoa (swN fs n)).toArray⟩) ∧ SwR V kd ao cap fs tao tc tg (nf || !swH fs n) nt u' := by
  have HR : Hid _ := R
  have HE : Hid _ := E
  obtain ⟨m0, m1, m2, m3, m4, z3, z4, hb⟩ := R
  have HFI : Hid (Calls Tryz.prog 43 #[.agg #[.int .i64 kd, .slice ao fs.length cap], .int .i64 n] u fun e w' => e = .returned (.tuple #[.string ⟨(swD fs n).toArray⟩, .bool (swH fs n)]) ∧ Below u.heap.size u w') := iFieldOf_any kd ao cap fs n u (E.hm.below hb) E.hn E.hd
  have hl : (swD fs n).length ≤ 1099511627776 := by have := sw_len (n := n) E.hd; omega
  have HN : Hid (numOf (swD fs n) = swN fs n) := rfl
  obtain ⟨N, hN⟩ : ∃ x, swN fs n = x := ⟨_, rfl⟩
  have hbd := @sw_num (swD fs n)
  rw [HN.out, hN] at hbd
  rw [hN] at HN ⊢
  obtain ⟨D, hD⟩ : ∃ x, swD fs n = x := ⟨_, rfl⟩
  obtain ⟨H, hH⟩ : ∃ x, swH fs n = x := ⟨_, rfl⟩
  rw [hD, hH] at HFI
  rw [hD] at HN hl
  rw [hH]
  clear hN hD hH m2 m3 m4 z3 z4 hb E
  go_enter Tryz.func59, Tryz.ntmps59
  go_wp2_with fail
  refine HFI.out.mono ?_
  rintro e u1 ⟨rfl, b1⟩
  have HR1 : Hid _ := HR.out.below b1
  clear b1 m0 m1
  cases H
  · have HR2 : Hid _ := HR1.out.set3 true
    have c3 := HR1.out.m3
    have f3 := HR1.out.z3
    go_wp2_with fail
    refine (iNumOf_any _ _ hl).mono ?_
    rintro e u2 ⟨rfl, hu⟩
    subst hu
    rw [HN.out]
    clear c3 f3
    go_wp2_with fail
    refine (sw_itoa hbd.1 hbd.2 (Lib.tabBelow_of_tabIs HE.out.hp _ HR2.out.hb)).mono ?_
    rintro e u3 ⟨rfl, b3⟩
    go_wp2
    go_ret
    exact ⟨rfl, sw_eq (HR2.out.below b3) (by simp) (by simp)⟩
  · go_wp2_with fail
    refine (iNumOf_any _ _ hl).mono ?_
    rintro e u2 ⟨rfl, hu⟩
    subst hu
    rw [HN.out]
    go_wp2_with fail
    refine (sw_itoa hbd.1 hbd.2 (Lib.tabBelow_of_tabIs HE.out.hp _ HR1.out.hb)).mono ?_
    rintro e u3 ⟨rfl, b3⟩
    go_wp2
    go_ret
    exact ⟨rfl, sw_eq (HR1.out.below b3) (by simp) (by simp)⟩
set_option maxHeartbeats 1600000 in
/-- the account of a field -/
theorem swAccount_any {V : World} {kd : Int} {ao : Option Addr} {cap : Nat} {fs : List Fld} {tao : Option Addr} {tc : Nat} {tg : List Fld} {nf nt : Bool} (E : SwE V ao fs tao tg) (n : Int) (u : World) (R : SwR V kd ao cap fs tao tc tg nf nt u) :
    Calls Tryz.prog 58 #[.pointer (some ⟨V.heap.size, 0, none⟩), .int .i64 n] u fun e u' => e = .returned (.string ⟨(Lib.itoa (swA fs n)).toArray⟩) ∧ SwR V kd ao cap fs tao tc tg (nf || !swIn (swA fs n)) nt u' := by
  have HR : Hid _ := R
  have HE : Hid _ := E
  obtain ⟨m0, m1, m2, m3, m4, z3, z4, hb⟩ := R
  have HFI : Hid (Calls Tryz.prog 43 #[.agg #[.int .i64 kd, .slice ao fs.length cap], .int .i64 n] u fun e w' => e = .returned (.tuple #[.string ⟨(swD fs n).toArray⟩, .bool (swH fs n)]) ∧ Below u.heap.size u w') := iFieldOf_any kd ao cap fs n u (E.hm.below hb) E.hn E.hd
  have hl : (swD fs n).length ≤ 1099511627776 := by have := sw_len (n := n) E.hd; omega
  have HN : Hid (numOf (Lib.trimLeftB (swD fs n) 48) = swA fs n) := rfl
  obtain ⟨N, hN⟩ : ∃ x, swA fs n = x := ⟨_, rfl⟩
  have hbd := @sw_num (Lib.trimLeftB (swD fs n) 48)
  have hl2 : (Lib.trimLeftB (swD fs n) 48).length ≤ 1099511627776 := by
    have := (List.dropWhile_suffix (· == (48 : UInt8)) (l := swD fs n)).length_le
    unfold Lib.trimLeftB; omega
  rw [HN.out, hN] at hbd
  rw [hN] at HN ⊢
  obtain ⟨D, hD⟩ : ∃ x, swD fs n = x := ⟨_, rfl⟩
  obtain ⟨H, hH⟩ : ∃ x, swH fs n = x := ⟨_, rfl⟩
  rw [hD, hH] at HFI
  rw [hD] at HN hl2
  obtain ⟨M, hM⟩ : ∃ x, Lib.trimLeftB D 48 = x := ⟨_, rfl⟩
  have HTL : Hid (∀ v, Calls Tryz.prog 72 #[.string ⟨D.toArray⟩, .string ⟨#[48]⟩] v fun e w' => e = .returned (.string ⟨M.toArray⟩) ∧ w' = v) := fun v => by
    have := Tryz.strings_TrimLeft_one ⟨D.toArray⟩ 48 (by decide) v
    rw [show (⟨D.toArray⟩ : ByteArray).data.toList = D from rfl, hM] at this
    exact this
  rw [hM] at HN hl2
  obtain ⟨Q, hQ⟩ : ∃ x, swIn N = x := ⟨_, rfl⟩
  have HAC : Hid (∀ v, Calls Tryz.prog 73 #[.int .i64 N] v fun e w' => e = .returned (.bool Q) ∧ w' = v) := fun v => by rw [← hQ]; exact swAcct_any N v
  rw [hQ]
  clear hN hD hH hM hQ m2 m3 m4 z3 z4 hb E hl
  go_enter Tryz.func58, Tryz.ntmps58
  go_wp2_with fail
  refine HFI.out.mono ?_
  rintro e u1 ⟨rfl, b1⟩
  have HR1 : Hid _ := HR.out.below b1
  clear b1 m0 m1
  go_wp2_with fail
  refine (HTL.out _).mono ?_
  rintro e u2 ⟨rfl, hu⟩
  subst hu
  go_wp2_with fail
  refine (iNumOf_any _ _ hl2).mono ?_
  rintro e u2 ⟨rfl, hu⟩
  subst hu
  rw [HN.out]
  go_wp2_with fail
  refine (HAC.out _).mono ?_
  rintro e u2 ⟨rfl, hu⟩
  subst hu
  cases Q
  · have HR2 : Hid _ := HR1.out.set3 true
    have c3 := HR1.out.m3
    have f3 := HR1.out.z3
    go_wp2_with fail
    refine (sw_itoa hbd.1 hbd.2 (Lib.tabBelow_of_tabIs HE.out.hp _ HR2.out.hb)).mono ?_
    rintro e u3 ⟨rfl, b3⟩
    clear c3 f3
    go_wp2
    go_ret
    exact ⟨rfl, sw_eq (HR2.out.below b3) (by simp) (by simp)⟩
  · go_wp2_with fail
    refine (sw_itoa hbd.1 hbd.2 (Lib.tabBelow_of_tabIs HE.out.hp _ HR1.out.hb)).mono ?_
    rintro e u3 ⟨rfl, b3⟩
    go_wp2
    go_ret
    exact ⟨rfl, sw_eq (HR1.out.below b3) (by simp) (by simp)⟩
set_option maxHeartbeats 1600000 in
/-- the reference -/
theorem swRefd_any {V : World} {kd : Int} {ao : Option Addr} {cap : Nat} {fs : List Fld} {tao : Option Addr} {tc : Nat} {tg : List Fld} {nf nt : Bool} (E : SwE V ao fs tao tg) (u : World) (R : SwR V kd ao cap fs tao tc tg nf nt u) :
    Calls Tryz.prog 57 #[.pointer (some ⟨V.heap.size, 0, none⟩)] u fun e u' => e = .returned (.string ⟨(swD fs 37).toArray⟩) ∧ SwR V kd ao cap fs tao tc tg (nf || !swRef (swD fs 37)) nt u' := by
  have HR : Hid _ := R
  have HE : Hid _ := E
  obtain ⟨m0, m1, m2, m3, m4, z3, z4, hb⟩ := R
  have HFI : Hid (Calls Tryz.prog 43 #[.agg #[.int .i64 kd, .slice ao fs.length cap], .int .i64 37] u fun e w' => e = .returned (.tuple #[.string ⟨(swD fs 37).toArray⟩, .bool (swH fs 37)]) ∧ Below u.heap.size u w') := iFieldOf_any kd ao cap fs 37 u (E.hm.below hb) E.hn E.hd
  have hl : (swD fs 37).length ≤ 1099511627776 := by have := sw_len (n := 37) E.hd; omega
  obtain ⟨D, hD⟩ : ∃ x, swD fs 37 = x := ⟨_, rfl⟩
  obtain ⟨H, hH⟩ : ∃ x, swH fs 37 = x := ⟨_, rfl⟩
  rw [hD, hH] at HFI
  rw [hD] at hl ⊢
  obtain ⟨Q, hQ⟩ : ∃ x, swRef D = x := ⟨_, rfl⟩
  have HAC : Hid (∀ v, Calls Tryz.prog 71 #[.string ⟨D.toArray⟩] v fun e w' => e = .returned (.bool Q) ∧ w' = v) := fun v => by rw [← hQ]; exact swRef_any D v hl
  rw [hQ]
  clear hD hH hQ m2 m3 m4 z3 z4 hb E hl
  go_enter Tryz.func57, Tryz.ntmps57
  go_wp2_with fail
  refine HFI.out.mono ?_
  rintro e u1 ⟨rfl, b1⟩
  have HR1 : Hid _ := HR.out.below b1
  clear b1 m0 m1
  go_wp2_with fail
  refine (HAC.out _).mono ?_
  rintro e u2 ⟨rfl, hu⟩
  subst hu
  cases Q
  · have HR2 : Hid _ := HR1.out.set3 true
    have c3 := HR1.out.m3
    have f3 := HR1.out.z3
    go_wp2
    go_ret
    exact ⟨rfl, sw_eq HR2.out (by simp) (by simp)⟩
  · go_wp2
    go_ret
    exact ⟨rfl, sw_eq HR1.out (by simp) (by simp)⟩
end Go.Proofs.YtpenkpiffdbdmaaGreatDoor
/- What the reading's functions answer: the parts of a line. -/
namespace Go.Proofs.YtpenkpiffdbdmaaGreatDoor
open Go.RowKit
set_option maxRecDepth 100000
set_option maxHeartbeats 1600000 in
/-- the number of a case -/
theorem swCase_any {V : World} {kd : Int} {ao : Option Addr} {cap : Nat} {fs : List Fld} {tao : Option Addr} {tc : Nat} {tg : List Fld} {nf nt : Bool} (E : SwE V ao fs tao tg) (u : World) (R : SwR V kd ao cap fs tao tc tg nf nt u) :
    Calls Tryz.prog 75 #[.pointer (some ⟨V.heap.size, 0, none⟩)] u fun e u' => e = .returned (.string ⟨(Lib.itoa (swC tg)).toArray⟩) ∧ SwR V kd ao cap fs tao tc tg nf (nt || swCb tg) u' := by
  have HR : Hid _ := R
  have HE : Hid _ := E
  obtain ⟨m0, m1, m2, m3, m4, z3, z4, hb⟩ := R
  have HFI : Hid (Calls Tryz.prog 76 #[.slice tao tg.length tc, .int .i64 1] u fun e w' => e = .returned (.tuple #[.string ⟨(swT tg 1).toArray⟩, .bool (Tg.fOf tg 1).isSome]) ∧ Below u.heap.size u w') := Tg.iTagOf_any tao tc tg 1 u (E.ht.below hb) (by have := E.hk; omega) fun f hf => by have := E.he f hf; omega
  have hl : (swT tg 1).length ≤ 1000 := sw_tlen E.he
  have HN : Hid (numOf (swT tg 1) = swC tg) := rfl
  have HC : Hid (swCb tg = ((swT tg 1 == []) || (decide (9 < (swT tg 1).length) || decide (swC tg < 0)))) := rfl
  obtain ⟨B, hB⟩ : ∃ x, swCb tg = x := ⟨_, rfl⟩
  obtain ⟨N, hN⟩ : ∃ x, swC tg = x := ⟨_, rfl⟩
  have hbd := @sw_num (swT tg 1)
  rw [HN.out, hN] at hbd
  rw [hN] at HN HC ⊢
  rw [hB] at HC ⊢
  obtain ⟨D, hD⟩ : ∃ x, swT tg 1 = x := ⟨_, rfl⟩
  obtain ⟨H, hH⟩ : ∃ x, (Tg.fOf tg 1).isSome = x := ⟨_, rfl⟩
  rw [hD, hH] at HFI
  rw [hD] at HN HC hl
  clear hN hD hH hB m0 m1 m3 m4 z3 z4 hb E
  go_enter Tryz.func75, Tryz.ntmps75
  go_wp2_with fail
  refine HFI.out.mono ?_
  rintro e u1 ⟨rfl, b1⟩
  have HR1 : Hid _ := HR.out.below b1
  clear b1 m2
  go_wp2_with fail
  refine (iNumOf_any _ _ (by omega)).mono ?_
  rintro e u2 ⟨rfl, hu⟩
  subst hu
  rw [HN.out]
  have HI := fun (v : World) (b : Below V.heap.size V v) => sw_itoa hbd.1 hbd.2 (Lib.tabBelow_of_tabIs HE.out.hp v b)
  have HII : Hid _ := HI
  clear HI hbd
  by_cases h1 : D = []
  · have h1' : (D == []) = true := by simp [h1]
    have hBt : Hid (B = true) := by rw [Hid, HC.out, h1', Bool.true_or]
    have HR2 : Hid _ := HR1.out.set4 true
    have c3 := HR1.out.m4
    have f3 := HR1.out.z4
    clear HC HN hl
    subst h1
    go_wp2_with fail
    refine (HII.out _ HR2.out.hb).mono ?_
    rintro e u3 ⟨rfl, b3⟩
    clear c3 f3
    go_wp2
    go_ret
    exact ⟨rfl, sw_eq (HR2.out.below b3) rfl (by rw [hBt.out, Bool.or_true])⟩
  have h1' : (D == []) = false := by simp [h1]
  by_cases h2 : 9 < D.length
  · have h2' : (9 : Int) < (D.length : Int) := by omega
    have hBt : Hid (B = true) := by rw [Hid, HC.out, h1', decide_eq_true h2]; rfl
    have HR2 : Hid _ := HR1.out.set4 true
    have c3 := HR1.out.m4
    have f3 := HR1.out.z4
    clear HC HN h2
    go_wp2_with fail
    refine (HII.out _ HR2.out.hb).mono ?_
    rintro e u3 ⟨rfl, b3⟩
    clear c3 f3
    go_wp2
    go_ret
    exact ⟨rfl, sw_eq (HR2.out.below b3) rfl (by rw [hBt.out, Bool.or_true])⟩
  have h2' : ¬ (9 : Int) < (D.length : Int) := by omega
  by_cases h3 : N < 0
  · have hBt : Hid (B = true) := by rw [Hid, HC.out, decide_eq_true h3, Bool.or_true, Bool.or_true]
    have HR2 : Hid _ := HR1.out.set4 true
    have c3 := HR1.out.m4
    have f3 := HR1.out.z4
    clear HC HN h2
    go_wp2_with fail
    refine (HII.out _ HR2.out.hb).mono ?_
    rintro e u3 ⟨rfl, b3⟩
    clear c3 f3
    go_wp2
    go_ret
    exact ⟨rfl, sw_eq (HR2.out.below b3) rfl (by rw [hBt.out, Bool.or_true])⟩
  have hBt : Hid (B = false) := by rw [Hid, HC.out, h1', decide_eq_false h2, decide_eq_false h3]; rfl
  clear HC HN h2
  go_wp2_with fail
  refine (HII.out _ HR1.out.hb).mono ?_
  rintro e u3 ⟨rfl, b3⟩
  go_wp2
  go_ret
  exact ⟨rfl, sw_eq (HR1.out.below b3) rfl (by rw [hBt.out, Bool.or_false])⟩
set_option maxHeartbeats 1600000 in
/-- the word of a verdict -/
theorem swWord_any {V : World} {kd : Int} {ao : Option Addr} {cap : Nat} {fs : List Fld} {tao : Option Addr} {tc : Nat} {tg : List Fld} {nf nt : Bool} (E : SwE V ao fs tao tg) (u : World) (R : SwR V kd ao cap fs tao tc tg nf nt u) :
    Calls Tryz.prog 61 #[.pointer (some ⟨V.heap.size, 0, none⟩)] u fun e u' => e = .returned (.string ⟨(swW tg).toArray⟩) ∧ SwR V kd ao cap fs tao tc tg nf (nt || !swWok (swT tg 2)) u' := by
  have HR : Hid _ := R
  have HE : Hid _ := E
  obtain ⟨m0, m1, m2, m3, m4, z3, z4, hb⟩ := R
  have HFI : Hid (Calls Tryz.prog 76 #[.slice tao tg.length tc, .int .i64 2] u fun e w' => e = .returned (.tuple #[.string ⟨(swT tg 2).toArray⟩, .bool (Tg.fOf tg 2).isSome]) ∧ Below u.heap.size u w') := Tg.iTagOf_any tao tc tg 2 u (E.ht.below hb) (by have := E.hk; omega) fun f hf => by have := E.he f hf; omega
  have hl : (swT tg 2).length ≤ 1000 := sw_tlen E.he
  have HW : Hid (swW tg = if swWok (swT tg 2) = true then swT tg 2 else []) := rfl
  have HO : Hid (swWok (swT tg 2) = ((swT tg 2 == [97, 99, 99, 101, 112, 116]) || ((swT tg 2 == [114, 101, 102, 117, 115, 101]) || ((swT tg 2 == [114, 117, 108, 101]) || (swT tg 2 == [99, 108, 111, 115, 101]))))) := rfl
  obtain ⟨B, hB⟩ : ∃ x, swWok (swT tg 2) = x := ⟨_, rfl⟩
  obtain ⟨W, hW⟩ : ∃ x, swW tg = x := ⟨_, rfl⟩
  rw [hB] at HO HW ⊢
  rw [hW] at HW ⊢
  obtain ⟨D, hD⟩ : ∃ x, swT tg 2 = x := ⟨_, rfl⟩
  obtain ⟨H, hH⟩ : ∃ x, (Tg.fOf tg 2).isSome = x := ⟨_, rfl⟩
  rw [hD, hH] at HFI
  rw [hD] at HO HW hl
  clear hD hH hB hW m0 m1 m3 m4 z3 z4 hb E
  go_enter Tryz.func61, Tryz.ntmps61
  go_wp2_with fail
  refine HFI.out.mono ?_
  rintro e u1 ⟨rfl, b1⟩
  have HR1 : Hid _ := HR.out.below b1
  clear b1 m2
  have HG : Hid (∀ k, k < 10 → u1.cell? ⟨0, k, none⟩ = some (.string ⟨(nthW k).toArray⟩)) := fun k hk => by
    have h := HE.out.hw k hk
    rw [HR1.out.hb.cell (p := ⟨0, k, none⟩) (World.block_lt_of_cell? V _ h)]
    exact h
  have g5 : u1.cell? ⟨0, 5, none⟩ = some (.string ⟨#[97, 99, 99, 101, 112, 116]⟩) := HG.out 5 (by decide)
  have g6 : u1.cell? ⟨0, 6, none⟩ = some (.string ⟨#[114, 101, 102, 117, 115, 101]⟩) := HG.out 6 (by decide)
  have g7 : u1.cell? ⟨0, 7, none⟩ = some (.string ⟨#[114, 117, 108, 101]⟩) := HG.out 7 (by decide)
  have g9 : u1.cell? ⟨0, 9, none⟩ = some (.string ⟨#[99, 108, 111, 115, 101]⟩) := HG.out 9 (by decide)
  by_cases h5 : D = [97, 99, 99, 101, 112, 116]
  · subst h5
    have hBt : B = true := HO.out
    subst hBt
    have HWW : Hid _ := HW.out
    rw [if_pos rfl] at HWW
    clear HW HO
    go_wp2
    go_ret
    exact ⟨sw_str HWW.out, sw_eq HR1.out (by simp) (by simp)⟩
  by_cases h6 : D = [114, 101, 102, 117, 115, 101]
  · subst h6
    have hBt : B = true := HO.out
    subst hBt
    have HWW : Hid _ := HW.out
    rw [if_pos rfl] at HWW
    clear HW HO
    go_wp2
    go_ret
    exact ⟨sw_str HWW.out, sw_eq HR1.out (by simp) (by simp)⟩
  by_cases h7 : D = [114, 117, 108, 101]
  · subst h7
    have hBt : B = true := HO.out
    subst hBt
    have HWW : Hid _ := HW.out
    rw [if_pos rfl] at HWW
    clear HW HO
    go_wp2
    go_ret
    exact ⟨sw_str HWW.out, sw_eq HR1.out (by simp) (by simp)⟩
  by_cases h9 : D = [99, 108, 111, 115, 101]
  · subst h9
    have hBt : B = true := HO.out
    subst hBt
    have HWW : Hid _ := HW.out
    rw [if_pos rfl] at HWW
    clear HW HO
    go_wp2
    go_ret
    exact ⟨sw_str HWW.out, sw_eq HR1.out (by simp) (by simp)⟩
  have d5 : (D == [97, 99, 99, 101, 112, 116]) = false := by simpa using h5
  have d6 : (D == [114, 101, 102, 117, 115, 101]) = false := by simpa using h6
  have d7 : (D == [114, 117, 108, 101]) = false := by simpa using h7
  have d9 : (D == [99, 108, 111, 115, 101]) = false := by simpa using h9
  have hBt : B = false := by rw [HO.out, d5, d6, d7, d9]; rfl
  subst hBt
  have HWW : Hid _ := HW.out
  rw [if_neg (by decide)] at HWW
  have HR2 : Hid _ := HR1.out.set4 true
  have c3 := HR1.out.m4
  have f3 := HR1.out.z4
  clear HW HO
  go_wp2
  go_ret
  exact ⟨sw_str HWW.out, sw_eq HR2.out (by simp) (by simp)⟩
end Go.Proofs.YtpenkpiffdbdmaaGreatDoor
/- What the reading answers for each sort of message: the five words of a line. -/
namespace Go.Proofs.YtpenkpiffdbdmaaGreatDoor
open Go.RowKit
set_option maxRecDepth 100000
/-- five words in a slice of one's own, and the reading behind them -/
def SwW (V : World) (kd : Int) (ao : Option Addr) (cap : Nat) (fs : List Fld) (tao : Option Addr) (tc : Nat) (tg : List Fld) (nf nt : Bool) (a b c d f : List UInt8) (e : Ending) (u : World) : Prop :=
  ∃ g, e = .returned (.slice (some ⟨g, 0, none⟩) 5 5) ∧ (u.cell? ⟨g, 0, none⟩ = some (.string ⟨a.toArray⟩) ∧ u.cell? ⟨g, 1, none⟩ = some (.string ⟨b.toArray⟩) ∧ u.cell? ⟨g, 2, none⟩ = some (.string ⟨c.toArray⟩) ∧ u.cell? ⟨g, 3, none⟩ = some (.string ⟨d.toArray⟩) ∧ u.cell? ⟨g, 4, none⟩ = some (.string ⟨f.toArray⟩)) ∧
    SwR V kd ao cap fs tao tc tg nf nt u
theorem swW_new {V : World} {kd : Int} {ao : Option Addr} {cap : Nat} {fs : List Fld} {tao : Option Addr} {tc : Nat} {tg : List Fld} {nf nt nf' nt' : Bool} {u : World} (h : SwR V kd ao cap fs tao tc tg nf nt u) (a b c d f : List UInt8) (t : TypeId) (hf : nf = nf') (ht : nt = nt') :
    SwW V kd ao cap fs tao tc tg nf' nt' a b c d f (.returned (.slice (some ⟨u.heap.size, 0, none⟩) 5 5)) (u.alloc (.cells #[.string ⟨a.toArray⟩, .string ⟨b.toArray⟩, .string ⟨c.toArray⟩, .string ⟨d.toArray⟩, .string ⟨f.toArray⟩] t)) := by
  subst hf; subst ht
  exact ⟨u.heap.size, rfl, ⟨by simp [go_sem], by simp [go_sem], by simp [go_sem], by simp [go_sem], by simp [go_sem]⟩, h.below ((Below.refl _ _).alloc (Nat.le_refl _) _)⟩
theorem SwW.flags {V : World} {kd : Int} {ao : Option Addr} {cap : Nat} {fs : List Fld} {tao : Option Addr} {tc : Nat} {tg : List Fld} {nf nt nf' nt' : Bool} {a b c d f : List UInt8} {e : Ending} {u : World} (h : SwW V kd ao cap fs tao tc tg nf nt a b c d f e u) (hf : nf = nf') (ht : nt = nt') : SwW V kd ao cap fs tao tc tg nf' nt' a b c d f e u := by
  subst hf; subst ht; exact h
set_option maxHeartbeats 1600000 in
theorem swAct_any {V : World} {kd : Int} {ao : Option Addr} {cap : Nat} {fs : List Fld} {tao : Option Addr} {tc : Nat} {tg : List Fld} {nf nt : Bool} (E : SwE V ao fs tao tg) (wd sm rs : List UInt8) (u : World) (R : SwR V kd ao cap fs tao tc tg nf nt u) :
    Calls Tryz.prog 60 #[.pointer (some ⟨V.heap.size, 0, none⟩), .string ⟨wd.toArray⟩, .string ⟨sm.toArray⟩, .string ⟨rs.toArray⟩] u (SwW V kd ao cap fs tao tc tg (nf) (nt || swCb tg) ([97, 99, 116]) (Lib.itoa (swC tg)) (wd) (sm) (rs)) := by
  have HE : Hid _ := E
  have HR : Hid _ := R
  clear R E
  go_enter Tryz.func60, Tryz.ntmps60
  go_wp2_with fail
  refine (swCase_any HE.out _ HR.out).mono ?_
  rintro e u1 ⟨rfl, h1⟩
  have H1 : Hid _ := h1
  clear h1
  go_wp2
  go_ret
  exact swW_new H1.out _ _ _ _ _ _ rfl rfl
set_option maxHeartbeats 1600000 in
theorem swAuth_any {V : World} {kd : Int} {ao : Option Addr} {cap : Nat} {fs : List Fld} {tao : Option Addr} {tc : Nat} {tg : List Fld} {nf nt : Bool} (E : SwE V ao fs tao tg) (u : World) (R : SwR V kd ao cap fs tao tc tg nf nt u) :
    Calls Tryz.prog 35 #[.pointer (some ⟨V.heap.size, 0, none⟩)] u (SwW V kd ao cap fs tao tc tg (nf || (((!swRef (swD fs 37) || !swIn (swA fs 2)) || !swH fs 49) || !swH fs 4)) (nt) ([97, 117, 116, 104]) (swD fs 37) (Lib.itoa (swA fs 2)) (Lib.itoa (swN fs 49)) (Lib.itoa (swN fs 4))) := by
  have HE : Hid _ := E
  have HR : Hid _ := R
  clear R E
  go_enter Tryz.func35, Tryz.ntmps35
  go_wp2_with fail
  refine (swRefd_any HE.out _ HR.out).mono ?_
  rintro e u1 ⟨rfl, h1⟩
  have H1 : Hid _ := h1
  clear h1
  go_wp2_with fail
  refine (swAccount_any HE.out 2 _ H1.out).mono ?_
  rintro e u2 ⟨rfl, h2⟩
  have H2 : Hid _ := h2
  clear h2
  go_wp2_with fail
  refine (swNumber_any HE.out 49 _ H2.out).mono ?_
  rintro e u3 ⟨rfl, h3⟩
  have H3 : Hid _ := h3
  clear h3
  go_wp2_with fail
  refine (swNumber_any HE.out 4 _ H3.out).mono ?_
  rintro e u4 ⟨rfl, h4⟩
  have H4 : Hid _ := h4
  clear h4
  go_wp2
  go_ret
  exact swW_new H4.out _ _ _ _ _ _ (by simp only [Bool.or_assoc]) rfl
set_option maxHeartbeats 1600000 in
theorem swPay_any {V : World} {kd : Int} {ao : Option Addr} {cap : Nat} {fs : List Fld} {tao : Option Addr} {tc : Nat} {tg : List Fld} {nf nt : Bool} (E : SwE V ao fs tao tg) (u : World) (R : SwR V kd ao cap fs tao tc tg nf nt u) :
    Calls Tryz.prog 36 #[.pointer (some ⟨V.heap.size, 0, none⟩)] u (SwW V kd ao cap fs tao tc tg (nf || (((!swIn (swA fs 2) || !swIn (swA fs 93)) || !swH fs 49) || !swH fs 4)) (nt) ([112, 97, 121]) (Lib.itoa (swA fs 2)) (Lib.itoa (swA fs 93)) (Lib.itoa (swN fs 49)) (Lib.itoa (swN fs 4))) := by
  have HE : Hid _ := E
  have HR : Hid _ := R
  clear R E
  go_enter Tryz.func36, Tryz.ntmps36
  go_wp2_with fail
  refine (swAccount_any HE.out 2 _ HR.out).mono ?_
  rintro e u1 ⟨rfl, h1⟩
  have H1 : Hid _ := h1
  clear h1
  go_wp2_with fail
  refine (swAccount_any HE.out 93 _ H1.out).mono ?_
  rintro e u2 ⟨rfl, h2⟩
  have H2 : Hid _ := h2
  clear h2
  go_wp2_with fail
  refine (swNumber_any HE.out 49 _ H2.out).mono ?_
  rintro e u3 ⟨rfl, h3⟩
  have H3 : Hid _ := h3
  clear h3
  go_wp2_with fail
  refine (swNumber_any HE.out 4 _ H3.out).mono ?_
  rintro e u4 ⟨rfl, h4⟩
  have H4 : Hid _ := h4
  clear h4
  go_wp2
  go_ret
  exact swW_new H4.out _ _ _ _ _ _ (by simp only [Bool.or_assoc]) rfl
set_option maxHeartbeats 1600000 in
theorem swAsk_any {V : World} {kd : Int} {ao : Option Addr} {cap : Nat} {fs : List Fld} {tao : Option Addr} {tc : Nat} {tg : List Fld} {nf nt : Bool} (E : SwE V ao fs tao tg) (u : World) (R : SwR V kd ao cap fs tao tc tg nf nt u) :
    Calls Tryz.prog 40 #[.pointer (some ⟨V.heap.size, 0, none⟩)] u (SwW V kd ao cap fs tao tc tg (nf) (nt || swCb tg) ([97, 99, 116]) (Lib.itoa (swC tg)) ([97, 115, 107]) ([48]) ([48])) := by
  have hg := E.hw 0 (by decide)
  rw [← R.hb.cell (p := ⟨0, 0, none⟩) (World.block_lt_of_cell? V _ hg)] at hg
  have hg' : u.cell? ⟨0, 0, none⟩ = some (.string ⟨#[97, 115, 107]⟩) := hg
  have HE : Hid _ := E
  have HR : Hid _ := R
  clear hg R E
  go_enter Tryz.func40, Tryz.ntmps40
  go_wp2_with fail
  refine (swAct_any HE.out [97, 115, 107] [48] [48] _ HR.out).mono ?_
  rintro e u1 ⟨g, rfl, hc, h1⟩
  have HW : Hid _ := (⟨g, rfl, hc, h1⟩ : SwW V kd ao cap fs tao tc tg nf (nt || swCb tg) _ _ _ _ _ _ u1)
  clear hc h1
  go_wp2
  go_ret
  exact HW.out
set_option maxHeartbeats 1600000 in
theorem swGive_any {V : World} {kd : Int} {ao : Option Addr} {cap : Nat} {fs : List Fld} {tao : Option Addr} {tc : Nat} {tg : List Fld} {nf nt : Bool} (E : SwE V ao fs tao tg) (u : World) (R : SwR V kd ao cap fs tao tc tg nf nt u) :
    Calls Tryz.prog 41 #[.pointer (some ⟨V.heap.size, 0, none⟩)] u (SwW V kd ao cap fs tao tc tg (nf) (nt || swCb tg) ([97, 99, 116]) (Lib.itoa (swC tg)) ([103, 105, 118, 101]) ([48]) ([48])) := by
  have hg := E.hw 1 (by decide)
  rw [← R.hb.cell (p := ⟨0, 1, none⟩) (World.block_lt_of_cell? V _ hg)] at hg
  have hg' : u.cell? ⟨0, 1, none⟩ = some (.string ⟨#[103, 105, 118, 101]⟩) := hg
  have HE : Hid _ := E
  have HR : Hid _ := R
  clear hg R E
  go_enter Tryz.func41, Tryz.ntmps41
  go_wp2_with fail
  refine (swAct_any HE.out [103, 105, 118, 101] [48] [48] _ HR.out).mono ?_
  rintro e u1 ⟨g, rfl, hc, h1⟩
  have HW : Hid _ := (⟨g, rfl, hc, h1⟩ : SwW V kd ao cap fs tao tc tg nf (nt || swCb tg) _ _ _ _ _ _ u1)
  clear hc h1
  go_wp2
  go_ret
  exact HW.out
set_option maxHeartbeats 1600000 in
theorem swVerdict_any {V : World} {kd : Int} {ao : Option Addr} {cap : Nat} {fs : List Fld} {tao : Option Addr} {tc : Nat} {tg : List Fld} {nf nt : Bool} (E : SwE V ao fs tao tg) (u : World) (R : SwR V kd ao cap fs tao tc tg nf nt u) :
    Calls Tryz.prog 42 #[.pointer (some ⟨V.heap.size, 0, none⟩)] u (SwW V kd ao cap fs tao tc tg (nf) (nt || (!swWok (swT tg 2) || swCb tg)) ([97, 99, 116]) (Lib.itoa (swC tg)) (swW tg) (Lib.itoa (swN fs 4)) ([48])) := by
  have HE : Hid _ := E
  have HR : Hid _ := R
  clear R E
  go_enter Tryz.func42, Tryz.ntmps42
  go_wp2_with fail
  refine (swWord_any HE.out _ HR.out).mono ?_
  rintro e u1 ⟨rfl, h1⟩
  have H1 : Hid _ := h1
  clear h1
  go_wp2_with fail
  refine (swNought_any HE.out 4 _ H1.out).mono ?_
  rintro e u2 ⟨rfl, h2⟩
  have H2 : Hid _ := h2
  clear h2
  go_wp2_with fail
  refine (swAct_any HE.out (swW tg) (Lib.itoa (swN fs 4)) [48] _ H2.out).mono ?_
  rintro e u3 ⟨g, rfl, hc, h3⟩
  have HW : Hid _ := (⟨g, rfl, hc, h3⟩ : SwW V kd ao cap fs tao tc tg nf ((nt || !swWok (swT tg 2)) || swCb tg) _ _ _ _ _ _ u3)
  clear hc h3
  go_wp2
  go_ret
  exact SwW.flags HW.out rfl (by simp only [Bool.or_assoc])
end Go.Proofs.YtpenkpiffdbdmaaGreatDoor
/- What the reading answers for an answer, a second asking and a charge: their order is open. -/
namespace Go.Proofs.YtpenkpiffdbdmaaGreatDoor
open Go.RowKit
set_option maxRecDepth 100000
set_option maxHeartbeats 1600000 in
theorem swAnswer_any {V : World} {kd : Int} {ao : Option Addr} {cap : Nat} {fs : List Fld} {tao : Option Addr} {tc : Nat} {tg : List Fld} {nf nt : Bool} (E : SwE V ao fs tao tg) (u : World) (R : SwR V kd ao cap fs tao tc tg nf nt u) :
    Calls Tryz.prog 37 #[.pointer (some ⟨V.heap.size, 0, none⟩)] u (SwW V kd ao cap fs tao tc tg (nf || !swH fs 4) (nt || swCb tg) ([97, 99, 116]) (Lib.itoa (swC tg)) ([97, 110, 115, 119, 101, 114]) (Lib.itoa (swN fs 4)) ([48])) := by
  have hg := E.hw 3 (by decide)
  rw [← R.hb.cell (p := ⟨0, 3, none⟩) (World.block_lt_of_cell? V _ hg)] at hg
  have hg' : u.cell? ⟨0, 3, none⟩ = some (.string ⟨#[97, 110, 115, 119, 101, 114]⟩) := hg
  have HE : Hid _ := E
  have HR : Hid _ := R
  have HG : Hid (∀ v, Below V.heap.size V v → v.cell? ⟨0, 3, none⟩ = some (.string ⟨#[97, 110, 115, 119, 101, 114]⟩)) := fun v b => by
    have h := E.hw 3 (by decide)
    rw [b.cell (p := ⟨0, 3, none⟩) (World.block_lt_of_cell? V _ h)]
    exact h
  clear hg R E
  go_enter Tryz.func37, Tryz.ntmps37
  go_upto_region 1 with fail
  go_region_held3 (fun v => v.cell? ⟨0, 3, none⟩ = some (.string ⟨#[97, 110, 115, 119, 101, 114]⟩)) (first | with_reducible exact hg' | with_reducible exact HG.out _ HR.out.hb.drew | (revert H2; intro H2; exact HG.out _ H2.out.hb) | (revert H1; intro H1; exact HG.out _ H1.out.hb)) ((first
    | (go_at_call 59; (first | with_reducible refine (swNumber_any HE.out 4 _ HR.out).mono ?_ | refine (swNumber_any HE.out 4 _ (HR.out.below (Below.refl _ _).drew)).mono ?_); rintro e u1 ⟨rfl, h1⟩; have H1 : Hid _ := h1; clear h1)
    | (go_at_call 60; refine (swAct_any HE.out [97, 110, 115, 119, 101, 114] (Lib.itoa (swN fs 4)) [48] _ H1.out).mono ?_; rintro e u2 ⟨g, rfl, hc, h2⟩; have HW : Hid _ := (⟨g, rfl, hc, h2⟩ : SwW V kd ao cap fs tao tc tg (nf || !swH fs 4) (nt || swCb tg) _ _ _ _ _ _ u2); have H2 : Hid (SwR V kd ao cap fs tao tc tg (nf || !swH fs 4) (nt || swCb tg) u2) := h2; clear hc h2)))
  all_goals
    go_wp2
    go_ret
    exact HW.out
set_option maxHeartbeats 1600000 in
theorem swSecond_any {V : World} {kd : Int} {ao : Option Addr} {cap : Nat} {fs : List Fld} {tao : Option Addr} {tc : Nat} {tg : List Fld} {nf nt : Bool} (E : SwE V ao fs tao tg) (u : World) (R : SwR V kd ao cap fs tao tc tg nf nt u) :
    Calls Tryz.prog 39 #[.pointer (some ⟨V.heap.size, 0, none⟩)] u (SwW V kd ao cap fs tao tc tg (nf || !swH fs 4) (nt || swCb tg) ([97, 99, 116]) (Lib.itoa (swC tg)) ([115, 101, 99, 111, 110, 100]) (Lib.itoa (swN fs 4)) ([48])) := by
  have hg := E.hw 4 (by decide)
  rw [← R.hb.cell (p := ⟨0, 4, none⟩) (World.block_lt_of_cell? V _ hg)] at hg
  have hg' : u.cell? ⟨0, 4, none⟩ = some (.string ⟨#[115, 101, 99, 111, 110, 100]⟩) := hg
  have HE : Hid _ := E
  have HR : Hid _ := R
  have HG : Hid (∀ v, Below V.heap.size V v → v.cell? ⟨0, 4, none⟩ = some (.string ⟨#[115, 101, 99, 111, 110, 100]⟩)) := fun v b => by
    have h := E.hw 4 (by decide)
    rw [b.cell (p := ⟨0, 4, none⟩) (World.block_lt_of_cell? V _ h)]
    exact h
  clear hg R E
  go_enter Tryz.func39, Tryz.ntmps39
  go_upto_region 1 with fail
  go_region_held3 (fun v => v.cell? ⟨0, 4, none⟩ = some (.string ⟨#[115, 101, 99, 111, 110, 100]⟩)) (first | with_reducible exact hg' | with_reducible exact HG.out _ HR.out.hb.drew | (revert H2; intro H2; exact HG.out _ H2.out.hb) | (revert H1; intro H1; exact HG.out _ H1.out.hb)) ((first
    | (go_at_call 59; (first | with_reducible refine (swNumber_any HE.out 4 _ HR.out).mono ?_ | refine (swNumber_any HE.out 4 _ (HR.out.below (Below.refl _ _).drew)).mono ?_); rintro e u1 ⟨rfl, h1⟩; have H1 : Hid _ := h1; clear h1)
    | (go_at_call 60; refine (swAct_any HE.out [115, 101, 99, 111, 110, 100] (Lib.itoa (swN fs 4)) [48] _ H1.out).mono ?_; rintro e u2 ⟨g, rfl, hc, h2⟩; have HW : Hid _ := (⟨g, rfl, hc, h2⟩ : SwW V kd ao cap fs tao tc tg (nf || !swH fs 4) (nt || swCb tg) _ _ _ _ _ _ u2); have H2 : Hid (SwR V kd ao cap fs tao tc tg (nf || !swH fs 4) (nt || swCb tg) u2) := h2; clear hc h2)))
  all_goals
    go_wp2
    go_ret
    exact HW.out
end Go.Proofs.YtpenkpiffdbdmaaGreatDoor
/- What the reading answers for an answer, a second asking and a charge: their order is open. -/
namespace Go.Proofs.YtpenkpiffdbdmaaGreatDoor
open Go.RowKit
set_option maxRecDepth 100000
set_option maxHeartbeats 1600000 in
theorem swCharge_any {V : World} {kd : Int} {ao : Option Addr} {cap : Nat} {fs : List Fld} {tao : Option Addr} {tc : Nat} {tg : List Fld} {nf nt : Bool} (E : SwE V ao fs tao tg) (u : World) (R : SwR V kd ao cap fs tao tc tg nf nt u) :
    Calls Tryz.prog 38 #[.pointer (some ⟨V.heap.size, 0, none⟩)] u (SwW V kd ao cap fs tao tc tg (nf || (!swH fs 4 || !swH fs 25)) (nt || swCb tg) ([97, 99, 116]) (Lib.itoa (swC tg)) ([99, 104, 97, 114, 103, 101]) (Lib.itoa (swN fs 4)) (Lib.itoa (swN fs 25))) := by
  have hg := E.hw 2 (by decide)
  rw [← R.hb.cell (p := ⟨0, 2, none⟩) (World.block_lt_of_cell? V _ hg)] at hg
  have hg' : u.cell? ⟨0, 2, none⟩ = some (.string ⟨#[99, 104, 97, 114, 103, 101]⟩) := hg
  have HE : Hid _ := E
  have HR : Hid _ := R
  have HG : Hid (∀ v, Below V.heap.size V v → v.cell? ⟨0, 2, none⟩ = some (.string ⟨#[99, 104, 97, 114, 103, 101]⟩)) := fun v b => by
    have h := E.hw 2 (by decide)
    rw [b.cell (p := ⟨0, 2, none⟩) (World.block_lt_of_cell? V _ h)]
    exact h
  clear hg R E
  go_enter Tryz.func38, Tryz.ntmps38
  go_upto_region 1 with fail
  go_region_held3 (fun v => v.cell? ⟨0, 2, none⟩ = some (.string ⟨#[99, 104, 97, 114, 103, 101]⟩)) (first | with_reducible exact hg' | with_reducible exact HG.out _ HR.out.hb.drew | (revert H3; intro H3; exact HG.out _ H3.out.hb) | (revert H2; intro H2; exact HG.out _ H2.out.hb) | (revert H1; intro H1; exact HG.out _ H1.out.hb)) ((first
    | (go_at_call_of 59 (Value.int .i64 4); (first | with_reducible refine (swNumber_any HE.out 4 _ HR.out).mono ?_ | refine (swNumber_any HE.out 4 _ (HR.out.below (Below.refl _ _).drew)).mono ?_); rintro e u1 ⟨rfl, h1⟩; have H1 : Hid _ := h1; clear h1)
    | (go_at_call_of 59 (Value.int .i64 25); refine (swNumber_any HE.out 25 _ H1.out).mono ?_; rintro e u2 ⟨rfl, h2⟩; have H2 : Hid _ := h2; clear h2)
    | (go_at_call 60; refine (swAct_any HE.out [99, 104, 97, 114, 103, 101] (Lib.itoa (swN fs 4)) (Lib.itoa (swN fs 25)) _ H2.out).mono ?_; rintro e u3 ⟨g, rfl, hc, h3⟩; have HW : Hid _ := (⟨g, rfl, hc, h3⟩ : SwW V kd ao cap fs tao tc tg ((nf || !swH fs 4) || !swH fs 25) (nt || swCb tg) _ _ _ _ _ _ u3); have H3 : Hid (SwR V kd ao cap fs tao tc tg ((nf || !swH fs 4) || !swH fs 25) (nt || swCb tg) u3) := h3; clear hc h3)))
  all_goals
    go_wp2
    go_ret
    exact SwW.flags HW.out (by simp only [Bool.or_assoc]) rfl
end Go.Proofs.YtpenkpiffdbdmaaGreatDoor
/- Slices of texts: those that came in, those in a row of one's own. -/
namespace Go.Proofs.YtpenkpiffdbdmaaGreatDoor
open Go.ChangeShapes Go.WideShapes Go.ChangeAt Go.RowKit Go.Deep
/-- The slice of texts at 'ao' reads as 'rs' in w. -/
def TxtsAt (w : World) (ao : Option Addr) (rs : Recs) : Prop :=
  rs = [] ∨ ∃ b off, ao = some ⟨b, off, none⟩ ∧ b < w.heap.size ∧ ∀ i, i < rs.length → w.cell? ⟨b, off + i, none⟩ = some (.string ⟨(nth rs i).toArray⟩)
def TxtsBd (rs : Recs) : Prop := rs.length ≤ maxLen ∧ ∀ r ∈ rs, r.length ≤ maxLen
theorem TxtsAt.below {w w' : World} {ao : Option Addr} {rs : Recs} (h : TxtsAt w ao rs) (hb : Below w.heap.size w w') : TxtsAt w' ao rs := by
  rcases h with h | ⟨b, off, h1, h2, h3⟩
  · exact .inl h
  · exact .inr ⟨b, off, h1, Nat.lt_of_lt_of_le h2 hb.size, fun i hi => (hb.cell (p := ⟨b, off + i, none⟩) h2).trans (h3 i hi)⟩
theorem is_txts {P : Program} {H : Type} {enc : TypeId × Value → H} {W : World} {r : Reach} {base : Nat} {t e : TypeId} {v : Value} {d : DataW H} {p : List MemPlace}
    (ht : P.underlying t = some (.slice e)) (he : P.underlying e = some .string) (ce : P.cellsOf e = 1)
    (hv : Value.okWide P W r base t v) (h : DataW.Trod enc P W 0 (fun _ => true) true t v d p) :
    ∃ a cap rs, v = .slice a (List.length rs) cap ∧ TxtsAt W a rs ∧ TxtsBd rs := by
  obtain ⟨va, vl, vc, rfl⟩ := okWide_slice ht hv
  obtain ⟨fuel, h1⟩ := h
  rcases open_strs ht he ce h1 with ⟨e1, _⟩ | ⟨a, len, cap, m, Sx, e1, _, hlc, hm, hmm, _, hx⟩
  · have e2 : Value.slice va vl vc = .slice none 0 0 := by simpa [Value.cells] using e1
    exact ⟨none, 0, [], e2, .inl rfl, Nat.zero_le _, fun f hf => by cases hf⟩
  · simp at hmm
    subst hmm
    have e2 : Value.slice va vl vc = .slice (some a) len m := by simpa [Value.cells] using e1
    refine ⟨some a, m, (List.range len).map fun i => (Sx i).data.toList, by rw [e2]; simp, ?_, by rw [List.length_map, List.length_range]; exact Nat.le_trans hlc hm, fun f hf => by
      obtain ⟨i, hi, rfl⟩ := List.mem_map.1 hf
      have := (hx i (by have := List.mem_range.1 hi; omega)).2
      rw [Array.length_toList]; exact this⟩
    by_cases hz : len = 0
    · subst hz; exact .inl rfl
    · obtain ⟨bk, off, spot⟩ := a
      have hc0 := (hx 0 (by omega)).1
      have hspot : spot = none := by simpa [Addr.add] using World.cell?_spot hc0
      subst hspot
      refine .inr ⟨bk, off, rfl, World.block_lt_of_cell? W _ hc0, fun i hi => ?_⟩
      have hi' : i < len := by simpa using hi
      have hat : nth ((List.range len).map fun i => (Sx i).data.toList) i = (Sx i).data.toList := by simp [nth, List.getD_eq_getElem?_getD, hi']
      have g0 := (hx i (by omega)).1
      rw [add_plain] at g0
      rw [hat, g0]
def scell (r : List UInt8) : Value := .string ⟨r.toArray⟩
def scells (rs : Recs) : List Value := rs.map scell
theorem scells_len (rs : Recs) : (scells rs).length = rs.length := by simp [scells]
theorem scells_append (a b : Recs) : scells (a ++ b) = scells a ++ scells b := by simp [scells]
theorem scells_at (rs : Recs) (k : Nat) (h : k < rs.length) : (scells rs)[k]? = some (.string ⟨(nth rs k).toArray⟩) := by
  simp [scells, scell, nth, List.getD_eq_getElem?_getD, h]
theorem scells_set (rs : Recs) (k : Nat) (r : List UInt8) : (scells rs).set k (.string ⟨r.toArray⟩) = scells (rs.set k r) := by
  show (rs.map scell).set k (scell r) = (rs.set k r).map scell
  rw [List.map_set]
theorem scells_one (rs : Recs) : ∀ u ∈ scells rs, u.oneCell' = true := by
  intro u hu
  simp only [scells, List.mem_map] at hu
  obtain ⟨r, _, rfl⟩ := hu
  rfl
theorem infoS : (Tryz.prog.info? 9).map (fun i => (i.zero, i.size, i.bytes)) = some (some (.string ⟨#[]⟩), 1, 16) := by kernel_rfl
theorem cells_repS (m : Nat) : (madeCells (Value.string ⟨#[]⟩).cells (m * 1)).toList = scells (List.replicate m []) := by
  rw [Nat.mul_one]
  refine (toList_madeCells_one _ _).trans ?_
  simp [scells, scell]
theorem keepRowS {w w' : World} {base n size : Nat} {t : TypeId} {v : Value} {xs : List Value} (h : w.ownsRow base t size v n xs) (hb : Below w.heap.size w w') : w'.ownsRow base t size v n xs := by
  obtain ⟨h1, h2⟩ := h
  refine ⟨h1, ?_⟩
  rcases h2 with h | ⟨g, cap, cur, hv, hg, hh, a1, a2, a3, a4⟩
  · exact .inl h
  · have hlt : g < w.heap.size := (Array.getElem?_eq_some_iff.1 hh).1
    exact .inr ⟨g, cap, cur, hv, hg, (hb.block g hlt).trans hh, a1, a2, a3, a4⟩
theorem txts_of_own {w : World} {base n : Nat} {t : TypeId} {v : Value} {rs : Recs} (h : w.ownsRow base t 1 v n (scells rs)) : ∃ ao cap, v = .slice ao rs.length cap ∧ TxtsAt w ao rs ∧ n = rs.length := by
  have hn : n = rs.length := by have := h.1; rw [scells_len] at this; omega
  subst hn
  rcases h.2 with ⟨rfl, hn⟩ | ⟨g, cap, cur, rfl, _⟩
  · have : rs = [] := List.eq_nil_of_length_eq_zero hn
    subst this
    exact ⟨none, 0, rfl, .inl rfl, rfl⟩
  · refine ⟨_, cap, rfl, ?_, rfl⟩
    by_cases h0 : rs = []
    · exact .inl h0
    · have hlt := (h.lt g rfl).2
      refine .inr ⟨g, 0, rfl, hlt, fun i hi => ?_⟩
      rw [Nat.zero_add, h.cellAt i (by omega)]
      exact scells_at rs i hi
theorem txts_any {w : World} {base n : Nat} {t : TypeId} {ao : Option Addr} {cap : Nat} {rs : Recs} (h : w.ownsRow base t 1 (.slice ao rs.length cap) n (scells rs)) : TxtsAt w ao rs := by
  obtain ⟨ao', cap', hv, hf, _⟩ := txts_of_own h
  obtain ⟨rfl, _⟩ : ao = ao' ∧ cap = cap' := by simpa using hv
  exact hf
theorem txts_cell {w : World} {b off : Nat} {rs : Recs} (h : TxtsAt w (some ⟨b, off, none⟩) rs) {k : Nat} (hk : k < rs.length) : w.cell? ⟨b, off + k, none⟩ = some (.string ⟨(nth rs k).toArray⟩) ∧ b < w.heap.size := by
  rcases h with rfl | ⟨b', off', hq, hb, hc⟩
  · simp at hk
  · obtain ⟨rfl, rfl⟩ : b = b' ∧ off = off' := by simpa using hq
    exact ⟨hc k hk, hb⟩
theorem one_txt {w : World} {g : Nat} {r : List UInt8} (h : w.cell? ⟨g, 0, none⟩ = some (.string ⟨r.toArray⟩)) : ∀ (j : Nat) (u : Value), [Value.string ⟨r.toArray⟩][j]? = some u → w.cell? ((⟨g, 0, none⟩ : Addr).add j) = some u := by
  intro j u hj
  match j with
  | 0 => simp at hj; subst hj; simpa [Addr.add] using h
  | j + 1 => simp at hj
theorem one_oneS (r : List UInt8) : ∀ u ∈ [Value.string ⟨r.toArray⟩], u.oneCell' = true := by
  intro u hu
  simp at hu
  subst hu; rfl
/-- what a copy holds behind k rounds -/
def halfS (rs : Recs) (k : Nat) : Recs := rs.take k ++ List.replicate (rs.length - k) []
theorem halfS_all (rs : Recs) : halfS rs rs.length = rs := by simp [halfS]
theorem halfS_len (rs : Recs) (k : Nat) (h : k ≤ rs.length) : (halfS rs k).length = rs.length := by simp [halfS]; omega
theorem halfS_succ (rs : Recs) (k : Nat) (h : k < rs.length) : (halfS rs k).set k (nth rs k) = halfS rs (k + 1) := by
  unfold halfS
  rw [List.set_append, if_neg (by simp; omega), List.length_take, Nat.min_eq_left (Nat.le_of_lt h), Nat.sub_self, show rs.length - k = rs.length - (k + 1) + 1 by omega, List.replicate_succ, List.set_cons_zero, take_nth rs k h, List.append_assoc]
  rfl
theorem halfS_at (rs : Recs) (k : Nat) (h : k < rs.length) : nth (halfS rs k) k = [] := by
  simp [nth, halfS, List.getD_eq_getElem?_getD, List.getElem?_append, Nat.min_eq_left (Nat.le_of_lt h), List.getElem?_replicate]
  split <;> rfl
/-- what is left behind all texts -/
def leftTs : Recs → Int → Int
  | [], left => left
  | f :: r, left => if left - (f.length : Int) < 0 then -1 else leftTs r (left - (f.length : Int))
def leftT (rs : Recs) (left : Int) : Int := if left - (rs.length : Int) < 0 then -1 else leftTs rs (left - (rs.length : Int))
theorem leftTs_step (rs : Recs) (k : Nat) (left : Int) (h : k < rs.length) : leftTs (rs.drop k) left = if left - ((nth rs k).length : Int) < 0 then -1 else leftTs (rs.drop (k + 1)) (left - ((nth rs k).length : Int)) := by
  rw [List.drop_eq_getElem_cons h, nth_is h]; rfl
def sumT (rs : Recs) : Nat := (rs.map List.length).sum
theorem leftTs_sum (rs : Recs) : ∀ left, 0 ≤ leftTs rs left → 0 ≤ left → (sumT rs : Int) ≤ left := by
  induction rs with
  | nil => intro left _ h; simpa [sumT] using h
  | cons f r ih =>
    intro left h hl
    simp only [leftTs] at h
    split at h
    · omega
    · have := ih _ h (by omega)
      simp only [sumT, List.map_cons, List.sum_cons] at this ⊢
      omega
theorem leftT_sum {rs : Recs} {left : Int} (h : 0 ≤ leftT rs left) : (rs.length : Int) + sumT rs ≤ left := by
  unfold leftT at h
  split at h
  · omega
  · have := leftTs_sum rs _ h (by omega)
    omega
theorem sumT_mem {rs : Recs} {f : List UInt8} (h : f ∈ rs) : f.length ≤ sumT rs := by
  induction rs with
  | nil => cases h
  | cons g r ih =>
    simp only [sumT, List.map_cons, List.sum_cons] at ih ⊢
    rcases List.mem_cons.1 h with rfl | hr
    · omega
    · have := ih hr; omega
end Go.Proofs.YtpenkpiffdbdmaaGreatDoor
/- Slices of ints: reading them, copying them, holding them against each other. -/
namespace Go.Proofs.YtpenkpiffdbdmaaGreatDoor
open Go.RowKit
/-- The slice at 'ao' reads as 'zs' in w. -/
def IntsAt (w : World) (ao : Option Addr) (zs : List Int) : Prop :=
  zs = [] ∨ ∃ b off, ao = some ⟨b, off, none⟩ ∧ b < w.heap.size ∧ ∀ i, i < zs.length → w.cell? ⟨b, off + i, none⟩ = some (.int .i64 (zs.getD i 0))
theorem IntsAt.below {w w' : World} {ao : Option Addr} {zs : List Int} (h : IntsAt w ao zs) (hb : Below w.heap.size w w') : IntsAt w' ao zs := by
  rcases h with h | ⟨b, off, h1, h2, h3⟩
  · exact .inl h
  · exact .inr ⟨b, off, h1, Nat.lt_of_lt_of_le h2 hb.size, fun i hi => (hb.cell (p := ⟨b, off + i, none⟩) h2).trans (h3 i hi)⟩
theorem getD_take {zs : List Int} {len i : Nat} (h : i < len) : (zs.take len).getD i 0 = zs.getD i 0 := by
  simp [List.getD_eq_getElem?_getD, h]
theorem ints_of_row {w : World} {a : Option Addr} {len cap : Nat} {zs : List Int} (h : IsRow .i64 w a len cap zs) : (zs.take len).length = len ∧ IntsAt w a (zs.take len) := by
  rcases h with ⟨rfl, rfl, rfl, rfl⟩ | ⟨x, rfl, hl, hm, hz, hcell, hwz⟩
  · exact ⟨rfl, .inl rfl⟩
  · have hlen : (zs.take len).length = len := by rw [List.length_take]; omega
    refine ⟨hlen, ?_⟩
    by_cases h0 : len = 0
    · subst h0; exact .inl (by simp)
    · obtain ⟨b, off, spot⟩ := x
      have hc := hcell 0 (by omega)
      have hspot : spot = none := by simpa [Addr.add] using World.cell?_spot hc
      subst hspot
      refine .inr ⟨b, off, rfl, ?_, fun i hi => ?_⟩
      · exact World.block_lt_of_cell? w _ hc
      · rw [hlen] at hi
        rw [getD_take hi]
        have := hcell i (by omega)
        by_cases e : i = 0
        · subst e; simpa [Addr.add] using this
        · simpa [Addr.add, e] using this
theorem ints_of_own {w : World} {base g n cap : Nat} {zs : List Int} (h : w.ownsRow base 3 1 (.slice (some ⟨g, 0, none⟩) n cap) n (zs.map (Value.int .i64))) : IntsAt w (some ⟨g, 0, none⟩) zs := by
  by_cases h0 : zs = []
  · exact .inl h0
  · have hl : zs.length = n := by simpa using h.1
    have hp : 0 < zs.length := List.length_pos_iff.2 h0
    have hc : ∀ i, i < zs.length → w.cell? ⟨g, 0 + i, none⟩ = some (.int .i64 (zs.getD i 0)) := by
      intro i hi
      rw [Nat.zero_add, h.cellAt i (by omega)]
      simp [List.getD_eq_getElem?_getD, hi]
    exact .inr ⟨g, 0, rfl, World.block_lt_of_cell? w _ (hc 0 hp), hc⟩
theorem info3 : (Tryz.prog.info? 3).map (fun i => (i.zero, i.size, i.bytes)) = some (some (.int .i64 0), 1, 8) := by kernel_rfl
/-- what toIntS has copied behind k rounds -/
def half (zs : List Int) (k : Nat) : List Value := (zs.take k).map (Value.int .i64) ++ List.replicate (zs.length - k) (.int .i64 0)
theorem half_zero (zs : List Int) : half zs 0 = List.replicate zs.length (.int .i64 0) := by simp [half]
theorem half_all (zs : List Int) : half zs zs.length = zs.map (Value.int .i64) := by simp [half]
theorem half_succ (zs : List Int) (k : Nat) (h : k < zs.length) : half zs (k + 1) = (half zs k).set k (.int .i64 (zs.getD k 0)) := by
  apply List.ext_getElem?
  intro j
  simp only [half, List.getElem?_set, List.getElem?_append, List.length_map, List.length_take, List.getElem?_map, List.getElem?_take, List.getElem?_replicate, List.getD_eq_getElem?_getD, List.length_append, List.length_replicate]
  by_cases h1 : j < k
  · have : j < zs.length := by omega
    have : ¬ k = j := by omega
    simp [*, Nat.min_eq_left (Nat.le_of_lt h), Nat.min_eq_left (show k + 1 ≤ zs.length by omega), show j < k + 1 by omega]
  · by_cases h2 : j = k
    · subst h2
      have : j < j + (zs.length - j) := by omega
      simp [*, Nat.min_eq_left (Nat.le_of_lt h), Nat.min_eq_left (show j + 1 ≤ zs.length by omega)]
    · have : ¬ k = j := by omega
      have a1 : ¬ j < k + 1 := by omega
      simp [*, Nat.min_eq_left (Nat.le_of_lt h), Nat.min_eq_left (show k + 1 ≤ zs.length by omega)]
      by_cases h3 : j < zs.length
      · rw [if_pos (by omega), if_pos (by omega)]
      · rw [if_neg (by omega), if_neg (by omega)]
theorem half_len (zs : List Int) (k : Nat) (h : k ≤ zs.length) : (half zs k).length = zs.length := by simp [half]; omega
theorem half_at (zs : List Int) (k : Nat) (h : k < zs.length) : (half zs k)[k]? = some (.int .i64 0) := by
  simp [half, List.getElem?_append, Nat.min_eq_left (Nat.le_of_lt h), List.getElem?_replicate]
  omega
end Go.Proofs.YtpenkpiffdbdmaaGreatDoor
/- Slices of ints that are one's own memory. -/
namespace Go.Proofs.YtpenkpiffdbdmaaGreatDoor
open Go.RowKit
theorem own_ints {w : World} {base : Nat} {v : Value} {zs : List Int} (h : w.ownsRow base 3 1 v zs.length (zs.map (Value.int .i64))) :
    ∃ ao cap, v = .slice ao zs.length cap ∧ IntsAt w ao zs := by
  rcases h.2 with ⟨rfl, h0⟩ | ⟨g, cap, cur, rfl, hrest⟩
  · have : zs = [] := List.eq_nil_of_length_eq_zero h0
    subst this
    exact ⟨none, 0, rfl, .inl rfl⟩
  · exact ⟨_, cap, rfl, ints_of_own h⟩
theorem own_shape {w : World} {base m : Nat} {v : Value} {xs : List Value} (h : w.ownsRow base 3 1 v m xs) : ∃ ao cap, v = .slice ao m cap := by
  rcases h.2 with ⟨rfl, rfl⟩ | ⟨g, cap, cur, rfl, hrest⟩
  · exact ⟨none, 0, rfl⟩
  · exact ⟨_, cap, rfl⟩
theorem ints_own {w : World} {base n cap : Nat} {ao : Option Addr} {zs : List Int} (h : w.ownsRow base 3 1 (.slice ao n cap) n (zs.map (Value.int .i64))) : IntsAt w ao zs := by
  have hl : zs.length = n := by simpa using h.1
  subst hl
  obtain ⟨ao', c, hv, hz⟩ := own_ints h
  obtain ⟨rfl, _⟩ : ao = ao' ∧ cap = c := by simpa using hv
  exact hz
theorem ho_ne {w : World} {base g n : Nat} {v : Value} {xs : List Value} (h : w.ownsRow base 3 1 v n xs) (hg : g < base) : v.ownBlock = none ∨ v.ownBlock ≠ some g := by
  right; intro e; have := (h.lt g e).1; omega
end Go.Proofs.YtpenkpiffdbdmaaGreatDoor
