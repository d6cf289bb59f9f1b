/- The contracts of ReadDate, the program's and the specification's. -/
import Derived.Test.YtohikfpceaogpaaDoorDTxt
import Derived.Test.YtohikfpceaogpaaDoorDDay
import Derived.Test.YtohikfpceaogpaaDoorDVars
import Derived.Lib.AtoiErrMem
import Derived.Lib.AtoiAllCases
import Derived.Lib.ConvBytes
import Derived.Stop.LaidErr
import Derived.Shelf.Vars
namespace Go.Proofs.YtohikfpceaogpaaDoor
open Go.RowKit

/-- what the variables hold, as far as ReadDate asks -/
def ReadEnv (w : World) : Prop := MonthTab w ∧ Pow10 w ∧ (∃ m, w.cell? ⟨4, 0, none⟩ = some (.int .i64 m)) ∧
  (∃ tp p, w.var? Tryd.prog "strconv.ErrSyntax" = some #[.iface tp p]) ∧ (∃ tp p, w.var? Tryd.prog "strconv.ErrRange" = some #[.iface tp p])
theorem ReadEnv.below {w w' : World} (h : ReadEnv w) (hb : Below w.heap.size w w') : ReadEnv w' := by
  obtain ⟨h0, h1, ⟨m, h2⟩, ⟨t, p, h3⟩, ⟨t2, p2, h4⟩⟩ := h
  exact ⟨h0.below hb, h1.below hb, ⟨m, (hb.cell (World.block_lt_of_cell? w _ h2)).trans h2⟩, ⟨t, p, var_keep h3 hb⟩, ⟨t2, p2, var_keep h4 hb⟩⟩

theorem implR_ok {l : List UInt8} {v : Int} (h : Lib.atoiAll (Lib.replaceAll l [45] []) = .ok v) : implR l = ofDate l v := by unfold implR; rw [h]
theorem implR_syn {l : List UInt8} (h : Lib.atoiAll (Lib.replaceAll l [45] []) = .«syntax») : implR l = none := by unfold implR; rw [h]
theorem implR_rng {l : List UInt8} (h : Lib.atoiAll (Lib.replaceAll l [45] []) = .range) : implR l = none := by unfold implR; rw [h]
theorem ofDate_no {l : List UInt8} {v : Int} (h : dayV v = none) : ofDate l v = none := by unfold ofDate; rw [h]
theorem ofDate_is {l : List UInt8} {v d : Int} (h : dayV v = some d) : ofDate l v = if dtxt d = l then some d else none := by unfold ofDate; rw [h]

theorem iDayOf_some {x d : Int} (w : World) (ht : MonthTab w) (hw : (Lit.int .i64 x).wf = true) (h : dayV x = some d) :
    Calls Tryd.prog 13 #[.int .i64 x] w fun e w' => e = .returned (.tuple #[.int .i64 d, .bool true]) ∧ w' = w := by
  have := iDayOf_any x w ht hw
  rw [h] at this
  exact this
theorem iDayOf_none {x : Int} (w : World) (ht : MonthTab w) (hw : (Lit.int .i64 x).wf = true) (h : dayV x = none) :
    Calls Tryd.prog 13 #[.int .i64 x] w fun e w' => e = .returned (.tuple #[.int .i64 0, .bool false]) ∧ w' = w := by
  have := iDayOf_any x w ht hw
  rw [h] at this
  exact this
theorem sDayOf_some {x d : Int} (w : World) (h : dayV x = some d) :
    Calls Tryd.prog 14 #[.int .i64 x] w fun e w' => e = .returned (.tuple #[.int .i64 d, .bool true]) ∧ Below w.heap.size w w' := by
  have := sDayOf_any x w
  rw [h] at this
  exact this
theorem sDayOf_none {x : Int} (w : World) (h : dayV x = none) :
    Calls Tryd.prog 14 #[.int .i64 x] w fun e w' => e = .returned (.tuple #[.int .i64 0, .bool false]) ∧ Below w.heap.size w w' := by
  have := sDayOf_any x w
  rw [h] at this
  exact this
theorem wf_of {x : Int} (h1 : -9223372036854775808 ≤ x) (h2 : x ≤ 9223372036854775807) : (Lit.int .i64 x).wf = true := by
  simp [Lit.wf, IntKind.min, IntKind.max, IntKind.signed, IntKind.bits]; exact ⟨h1, h2⟩

set_option maxHeartbeats 1000000 in
theorem iRead_any (l : List UInt8) (w : World) (hl : l.length ≤ 1048576) (he : ReadEnv w) :
    Calls Tryd.prog 20 #[.string ⟨l.toArray⟩] w fun e w' => e = .returned (.tuple #[.int .i64 ((implR l).getD 0), .bool (implR l).isSome]) ∧ Below w.heap.size w w' := by
  have HE : Hid (ReadEnv w) := he
  obtain ⟨_, _, ⟨m, hm⟩, _, _⟩ := he
  obtain ⟨r, hr⟩ : ∃ r, Lib.replaceAll l [45] [] = r := ⟨_, rfl⟩
  have hrl : r.length ≤ l.length := hr ▸ replaceAll_len l
  have hsz : (⟨l.toArray⟩ : ByteArray).size = l.length := ba_size l
  have hsr : (⟨r.toArray⟩ : ByteArray).size = r.length := ba_size r
  have HQ : Hid (Lib.replaceAll l [45] [] = r) := hr
  have HSZ : Hid _ := hsz
  have HSR : Hid _ := hsr
  clear hr hsz hsr
  go_enter Tryd.func20, Tryd.ntmps20
  go_wp2_with fail
  refine (Tryd.strings_ReplaceAll ⟨l.toArray⟩ ⟨#[45]⟩ ⟨#[]⟩ m _ (by rw [HSZ.out]; omega) hm (by decide) (by rw [HSZ.out]; show l.length + _ * 0 ≤ _; omega)).mono ?_
  rintro e w1 ⟨rfl, b1⟩
  rw [show Lib.replaceAll (⟨l.toArray⟩ : ByteArray).data.toList (⟨#[45]⟩ : ByteArray).data.toList (⟨#[]⟩ : ByteArray).data.toList = r from HQ.out]
  have he1 := HE.out.below b1
  have HE1 : Hid (ReadEnv w1) := he1
  obtain ⟨_, _, _, ⟨tp, p, hv1⟩, ⟨tp2, p2, hv2⟩⟩ := he1
  clear hm
  cases hpar : Lib.atoiAll r with
  | ok v =>
    have hvb := Lib.atoiAll_bounds hpar
    go_wp2_with fail
    refine (Tryd.strconv_Atoi_ok ⟨r.toArray⟩ (by rw [HSR.out]; omega) v hpar _).mono ?_
    rintro e w2 ⟨rfl, hw2⟩
    have b2 : Below w1.heap.size w1 w2 := by
      rcases hw2 with rfl | ⟨t, rfl⟩
      · exact Below.refl _ _
      · exact Lib.bytesWorld_below _ _ _
    have HM : Hid (MonthTab w2) := MonthTab.below HE1.out.1 b2
    have HP : Hid (Pow10 w2) := Pow10.below HE1.out.2.1 b2
    have B2 := next b1 b2
    clear hw2 hv1 hv2 b1 b2
    have HI : Hid (implR l = ofDate l v) := implR_ok (by rw [HQ.out, hpar])
    clear hpar
    cases hd : dayV v with
    | none =>
      have HN : Hid (implR l = none) := by rw [Hid, HI.out, ofDate_no hd]
      go_wp2_with fail
      refine (iDayOf_none _ HM.out (wf_of hvb.1 hvb.2) hd).mono ?_
      rintro e w3 ⟨rfl, hw3⟩
      subst hw3
      clear hd
      go_wp2
      go_ret2
      exact ⟨two_eq (by rw [HN.out]; rfl) (by rw [HN.out]; rfl), B2⟩
    | some d =>
      have HI2 : Hid _ := ofDate_is (l := l) hd
      go_wp2_with fail
      refine (iDayOf_some _ HM.out (wf_of hvb.1 hvb.2) hd).mono ?_
      rintro e w3 ⟨rfl, hw3⟩
      subst hw3
      clear hd
      go_wp2_with fail
      refine (iDateText_any _ _ HM.out HP.out).mono ?_
      rintro e w4 ⟨rfl, b4⟩
      have B4 := next B2 b4
      clear B2 b4
      by_cases hm : dtxt d = l
      · have HN : Hid (implR l = some d) := by rw [Hid, HI.out, HI2.out, if_pos hm]
        rw [hm]
        clear hm HI HI2
        go_wp2
        go_ret2
        exact ⟨two_eq (by rw [HN.out]; rfl) (by rw [HN.out]; rfl), B4⟩
      · have HN : Hid (implR l = none) := by rw [Hid, HI.out, HI2.out, if_neg hm]
        generalize dtxt d = t at hm
        have hm' : (t == l) = false := by simpa using hm
        clear HI HI2 hm
        go_wp2
        go_ret2
        exact ⟨two_eq (by rw [HN.out]; rfl) (by rw [HN.out]; rfl), B4⟩
  | «syntax» =>
    have HN : Hid (implR l = none) := implR_syn (by rw [HQ.out, hpar])
    go_wp2_with fail
    refine (Tryd.strconv_Atoi_syntax_var ⟨r.toArray⟩ (by rw [HSR.out]; omega) hpar tp p _ hv1).mono ?_
    rintro e w2 ⟨N, rfl, _, _, b2⟩
    clear hv1 hv2
    go_wp2
    go_ret2
    exact ⟨two_eq (by rw [HN.out]; rfl) (by rw [HN.out]; rfl), next b1 b2⟩
  | range =>
    have HN : Hid (implR l = none) := implR_rng (by rw [HQ.out, hpar])
    go_wp2_with fail
    refine (Tryd.strconv_Atoi_range_var ⟨r.toArray⟩ (by rw [HSR.out]; omega) hpar tp2 p2 _ hv2).mono ?_
    rintro e w2 ⟨N, rfl, _, _, b2⟩
    clear hv1 hv2
    go_wp2
    go_ret2
    exact ⟨two_eq (by rw [HN.out]; rfl) (by rw [HN.out]; rfl), next b1 b2⟩

theorem specR_long {l : List UInt8} (h : l.length ≠ 10) : specR l = none := by unfold specR; rw [if_neg h]
theorem specR_ten {l : List UInt8} (h : l.length = 10) : specR l = ofDate l (scanD 0 l) := by unfold specR; rw [if_pos h]
theorem scanD_step (l : List UInt8) (k x : Nat) (h : k < l.length) : scanD x (l.drop k) = scanD (if 48 ≤ (l.getD k 0).toNat ∧ (l.getD k 0).toNat ≤ 57 then 10 * x + ((l.getD k 0).toNat - 48) else x) (l.drop (k + 1)) := by
  have e : l.getD k 0 = l[k] := by simp [List.getD_eq_getElem?_getD, h]
  rw [List.drop_eq_getElem_cons h, e]
  simp only [scanD, List.foldl_cons]
theorem byte_at (l : List UInt8) (k : Nat) (h : k < l.length) : l.getD k 0 = (⟨l.toArray⟩ : ByteArray)[k]'(by rw [ba_size]; exact h) := by
  rw [List.getD_eq_getElem?_getD, List.getElem?_eq_getElem h]
  rfl
theorem wrap_byte (c : UInt8) : wrap64 ((c.toNat : Nat) : Int) = (c.toNat : Int) := by
  have := c.toNat_lt
  unfold wrap64; omega
theorem pow_step {k x : Nat} (hk : k < 10) (h : x < 10 ^ k) : 10 * x + 9 < 10 ^ (k + 1) ∧ x ≤ 1000000000 := by
  refine ⟨by rw [Nat.pow_succ]; omega, ?_⟩
  have : 10 ^ k ≤ 10 ^ 9 := Nat.pow_le_pow_right (by omega) (by omega)
  omega

set_option maxHeartbeats 1000000 in
theorem sRead_any (l : List UInt8) (w : World) :
    Calls Tryd.prog 21 #[.string ⟨l.toArray⟩] w fun e w' => e = .returned (.tuple #[.int .i64 ((specR l).getD 0), .bool (specR l).isSome]) ∧ Below w.heap.size w w' := by
  by_cases h10 : l.length = 10
  · have hne : ((l.length : Int) != 10) = false := by simp; omega
    have hli : (l.length : Int) = 10 := by omega
    have HR : Hid _ := specR_ten h10
    go_enter Tryd.func21, Tryd.ntmps21
    go_wp2
    go_loop [4, 5] (fun v i => ∃ (k x : Nat), k ≤ 10 ∧ x < 10 ^ k ∧ i = .int .i64 k ∧ v = .int .i64 x ∧ scanD 0 l = scanD x (l.drop k)) (fun _ i => 10 - (intOf i).toNat)
    case atStart => exact ⟨0, 0, Nat.zero_le _, by decide, rfl, rfl, rfl⟩
    case round =>
      obtain ⟨k, x, hk, hx, rfl, rfl, hs⟩ := hrel
      by_cases hlt : k < 10
      · have hkl : k < l.length := by omega
        have hst := scanD_step l k x hkl
        obtain ⟨hp1, hp2⟩ := pow_step hlt hx
        have hpk : 10 ^ k ≤ 10 ^ (k + 1) := Nat.pow_le_pow_right (by omega) (by omega)
        have HPK : Hid (x < 10 ^ (k + 1)) := by rw [Hid]; omega
        have HP1 : Hid _ := hp1
        have HS : Hid _ := hs.trans hst
        have hki : (k : Int) < 10 := by omega
        have hkli : (k : Int) < (l.length : Int) := by omega
        clear hs hst hp1 hpk hx
        go_wp2_with fail
        obtain ⟨c, hb⟩ : ∃ c, (⟨l.toArray⟩ : ByteArray)[k]'(by rw [ba_size]; exact hkl) = c := ⟨_, rfl⟩
        have hcl : l.getD k 0 = c := (byte_at l k hkl).trans hb
        have hc : c.toNat ≤ 255 := by have := c.toNat_lt; omega
        have hwc := wrap_byte c
        rw [hcl] at HS
        rw [hb, hwc]
        clear hcl
        refine (in_any _ _ _ _).mono ?_
        rintro e w1 ⟨rfl, hw1⟩
        subst hw1
        by_cases hd : 48 ≤ c.toNat ∧ c.toNat ≤ 57
        · have hin : inB (c.toNat : Int) 48 57 = true := inB_pos (by omega) (by omega)
          rw [if_pos hd] at HS
          have hsi : ((10 * x + (c.toNat - 48) : Nat) : Int) = 10 * (x : Int) + (c.toNat : Int) - 48 := by omega
          have HSI : Hid _ := hsi
          rw [hin]
          clear hsi
          go_wp2
          go_round
          case rel => exact ⟨k + 1, 10 * x + (c.toNat - 48), by omega, by have := HP1.out; omega, by go_num, by rw [HSI.out], HS.out⟩
          case measure => simp [intOf]; omega
        · have hin : inB (c.toNat : Int) 48 57 = false := inB_neg (by omega)
          rw [if_neg hd] at HS
          rw [hin]
          go_wp2
          go_round
          case rel => exact ⟨k + 1, x, by omega, HPK.out, by go_num, rfl, HS.out⟩
          case measure => simp [intOf]; omega
      · have hke : k = 10 := by omega
        subst hke
        have hsc : scanD 0 l = x := by rw [hs, List.drop_of_length_le (by omega)]; rfl
        rw [hsc] at HR
        have hxb : x < 10000000000 := hx
        clear hs hsc hx
        cases hd : dayV (x : Int) with
        | none =>
          have HN : Hid (specR l = none) := by rw [Hid, HR.out, ofDate_no hd]
          have HD : Hid _ := hd
          clear hd
          go_wp2_with fail
          refine (sDayOf_none _ HD.out).mono ?_
          rintro e w1 ⟨rfl, b1⟩
          go_wp2
          go_ret2
          exact ⟨two_eq (by rw [HN.out]; rfl) (by rw [HN.out]; rfl), b1⟩
        | some d =>
          have HI2 : Hid _ := ofDate_is (l := l) hd
          have HD : Hid _ := hd
          clear hd
          go_wp2_with fail
          refine (sDayOf_some _ HD.out).mono ?_
          rintro e w1 ⟨rfl, b1⟩
          go_wp2_with fail
          refine (sDateText_any _ _).mono ?_
          rintro e w2 ⟨rfl, b2⟩
          have B2 := next b1 b2
          by_cases hm : dtxt d = l
          · have HN : Hid (specR l = some d) := by rw [Hid, HR.out, HI2.out, if_pos hm]
            rw [hm]
            clear hm HR HI2
            go_wp2
            go_ret2
            exact ⟨two_eq (by rw [HN.out]; rfl) (by rw [HN.out]; rfl), B2⟩
          · have HN : Hid (specR l = none) := by rw [Hid, HR.out, HI2.out, if_neg hm]
            generalize dtxt d = t at hm
            have hm' : (t == l) = false := by simpa using hm
            clear HR HI2 hm
            go_wp2
            go_ret2
            exact ⟨two_eq (by rw [HN.out]; rfl) (by rw [HN.out]; rfl), B2⟩
  · have hne : ((l.length : Int) != 10) = true := by simp; omega
    have HN : Hid _ := specR_long h10
    clear h10
    go_enter Tryd.func21, Tryd.ntmps21
    go_wp2
    go_ret2
    exact ⟨two_eq (by rw [HN.out]; rfl) (by rw [HN.out]; rfl), Below.refl _ _⟩

end Go.Proofs.YtohikfpceaogpaaDoor
