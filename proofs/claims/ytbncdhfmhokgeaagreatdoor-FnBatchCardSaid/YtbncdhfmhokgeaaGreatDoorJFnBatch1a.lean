/- Joined: MEnv, UnpP, FGet, FPutF, Ints, FSet, FSetP, IntsOwn, Flds, MsgLaw, MsgOwn, Txts, FConcat, FNums, FLay, FPiece, FBlock, FPutV, SPutF, SLen, PackBack, UnpBack, FTake. -/
import Derived.Test.YtbncdhfmhokgeaaGreatDoorCards
import Derived.Test.YtbncdhfmhokgeaaGreatDoorTie
import Derived.Test.YtbncdhfmhokgeaaGreatDoorKFnBatchBase
import Derived.Test.YtbncdhfmhokgeaaGreatDoorJFnBatch0a
import Derived.LaidMore
import Derived.Deep.DeepHandedRow
import Derived.JoinedCond
import Derived.Lay
import Derived.SevenTiedAt
import Derived.Stop.Joined
import Derived.Stop.LaidErr
import Derived.Lib.LaidTab
import Derived.Test.YtbncdhfmhokgeaaGreatDoorKFnBatchFVar
import Derived.Test.YtbncdhfmhokgeaaGreatDoorKFnBatchSPut
import Derived.Test.YtbncdhfmhokgeaaGreatDoorKFnBatchFForm
import Derived.Handy
import Derived.OwnWalk
import Derived.Maps.AppendAt
import Derived.Deep.SlicePairs
import Derived.Deep.Strs
import Derived.Lib.AppendZeros
import Derived.Deep.AppendLies
import Derived.Lib.AppendStr
import Derived.Test.YtbncdhfmhokgeaaGreatDoorKFnBatchFRep
import Derived.Deep.RegionHeld3
import Derived.Deep.RegionLaw
/- From what the rows of chapter 4 list of Go's library's tables to what PadNum asks of them. -/
namespace Go.Proofs.YtbncdhfmhokgeaaGreatDoor
open Go.ChangeShapes Go.WideShapes Go.ChangeAt Go.RowKit

theorem tabEq : (Rows.laid_internal_strconv_uint64pow10 : DataW Unit) = Lib.tabData .u64 Lib.pow10Tab := by kernel_rfl
theorem pow10_head {w : World} {r : List (String × DataW Unit)} (h1 : laidMet Tryz.prog (("internal/strconv.uint64pow10", Rows.laid_internal_strconv_uint64pow10) :: r) w) : Pow10 w := by
  rw [tabEq] at h1
  exact Lib.tabIs_of_head (g := 1) (t := 215) (by kernel_rfl) (by kernel_rfl) Tryz.underlying215 Tryz.underlying188 (by kernel_rfl) (by kernel_rfl) h1

end Go.Proofs.YtbncdhfmhokgeaaGreatDoor


/- A message out of bytes, plainly. No Go in sight. -/
namespace Go.Proofs.YtbncdhfmhokgeaaGreatDoor

/-- what stands at place i by a field's form, and the place behind it -/
def rawL (l : List UInt8) (i n : Int) : List UInt8 :=
  if fK n = 1 then getL l i (fS n)
  else if fK n = 2 then (if hasB l.length i 2 = true then getL l (i + 2) (numOf ((l.drop i.toNat).take 2)) else [])
  else if fK n = 3 then (if hasB l.length i (fS n) = true then (l.drop i.toNat).take (fS n).toNat else [])
  else if fK n = 4 then varL l i 2 else if fK n = 5 then varL l i 3 else []
def rawI (l : List UInt8) (i n : Int) : Int :=
  if fK n = 1 then getI l i (fS n)
  else if fK n = 2 then (if hasB l.length i 2 = true then getI l (i + 2) (numOf ((l.drop i.toNat).take 2)) else -1)
  else if fK n = 3 then (if hasB l.length i (fS n) = true then i + fS n else -1)
  else if fK n = 4 then varI l i 2 else if fK n = 5 then varI l i 3 else -1
theorem raw1 {l : List UInt8} {i n : Int} (h : fK n = 1) : rawL l i n = getL l i (fS n) ∧ rawI l i n = getI l i (fS n) := ⟨if_pos h, if_pos h⟩
theorem raw2 {l : List UInt8} {i n : Int} (h : fK n = 2) : rawL l i n = (if hasB l.length i 2 = true then getL l (i + 2) (numOf ((l.drop i.toNat).take 2)) else []) ∧ rawI l i n = (if hasB l.length i 2 = true then getI l (i + 2) (numOf ((l.drop i.toNat).take 2)) else -1) := by
  unfold rawL rawI; simp [h]
theorem raw3 {l : List UInt8} {i n : Int} (h : fK n = 3) : rawL l i n = (if hasB l.length i (fS n) = true then (l.drop i.toNat).take (fS n).toNat else []) ∧ rawI l i n = (if hasB l.length i (fS n) = true then i + fS n else -1) := by
  unfold rawL rawI; simp [h]
theorem raw4 {l : List UInt8} {i n : Int} (h : fK n = 4) : rawL l i n = varL l i 2 ∧ rawI l i n = varI l i 2 := by
  unfold rawL rawI; simp [h]
theorem raw5 {l : List UInt8} {i n : Int} (h : fK n = 5) : rawL l i n = varL l i 3 ∧ rawI l i n = varI l i 3 := by
  unfold rawL rawI; simp [h]
theorem raw0 {l : List UInt8} {i n : Int} (h : fK n = 0) : rawL l i n = [] ∧ rawI l i n = -1 := by
  unfold rawL rawI; simp [h]
def fldAt (l : List UInt8) (i n : Int) : Bool := decide (0 ≤ rawI l i n) && fieldOk n (rawL l i n)

theorem getL_len (l : List UInt8) (i n : Int) : (getL l i n).length ≤ 100 := by
  unfold getL; split
  · rename_i h
    rw [unL_len]
    unfold getOk at h
    simp at h; omega
  · simp
theorem varL_len (l : List UInt8) (i n : Int) : (varL l i n).length ≤ l.length := by
  unfold varL; split
  · rw [List.length_take, List.length_drop]; omega
  · simp
theorem rawL_len (l : List UInt8) (i n : Int) (hl : l.length ≤ 1048576) : (rawL l i n).length ≤ 1099511627776 := by
  have h1 := getL_len l i (fS n)
  have h2 := getL_len l (i + 2) (numOf ((l.drop i.toNat).take 2))
  have h3 := varL_len l i 2
  have h4 := varL_len l i 3
  unfold rawL
  split
  · omega
  · split
    · split
      · omega
      · simp
    · split
      · split
        · rw [List.length_take, List.length_drop]; omega
        · simp
      · split
        · omega
        · split
          · omega
          · simp
theorem getI_le {l : List UInt8} {i n : Int} (h : 0 ≤ getI l i n) : i ≤ getI l i n ∧ getI l i n ≤ l.length := by
  unfold getI at h ⊢
  split at h
  · rename_i ho
    rw [if_pos ho]
    unfold getOk at ho
    simp at ho; omega
  · omega
theorem varI_le {l : List UInt8} {i n : Int} (h : 0 ≤ varI l i n) : i ≤ varI l i n ∧ varI l i n ≤ l.length := by
  unfold varI at h ⊢
  split at h
  · rename_i ho
    rw [if_pos ho]
    unfold varOk at ho
    simp at ho
    have := wOk_is ho.1
    omega
  · omega
theorem rawI_le {l : List UInt8} {i n : Int} (h : 0 ≤ rawI l i n) (hs : 0 ≤ fS n) : i ≤ rawI l i n ∧ rawI l i n ≤ l.length := by
  unfold rawI at h ⊢
  split at h
  · rename_i e; rw [if_pos e]; exact getI_le h
  · rename_i e; rw [if_neg e]
    split at h
    · rename_i e2; rw [if_pos e2]
      split at h
      · rename_i e3; rw [if_pos e3]; have := getI_le h; omega
      · omega
    · rename_i e2; rw [if_neg e2]
      split at h
      · rename_i e3; rw [if_pos e3]
        split at h
        · rename_i e4; rw [if_pos e4]; have := hasB_in e4; omega
        · omega
      · rename_i e3; rw [if_neg e3]
        split at h
        · rename_i e4; rw [if_pos e4]; exact varI_le h
        · rename_i e4; rw [if_neg e4]
          split at h
          · rename_i e5; rw [if_pos e5]; exact varI_le h
          · omega

/-- the fields one by one: the code, the place, the fields -/
def rdF (l : List UInt8) : List Int → Int → List Fld → Int × Int × List Fld
  | [], a, acc => if a < (l.length : Int) then (4, a, []) else (0, 0, acc)
  | n :: r, a, acc => if fldAt l a n = true then rdF l r (rawI l a n) (acc ++ [(n, rawL l a n)]) else (3, n, [])
theorem rdF_step (l : List UInt8) (ns : List Int) (k : Nat) (a : Int) (acc : List Fld) (h : k < ns.length) :
    rdF l (ns.drop k) a acc = if fldAt l a (ns.getD k 0) = true then rdF l (ns.drop (k + 1)) (rawI l a (ns.getD k 0)) (acc ++ [(ns.getD k 0, rawL l a (ns.getD k 0))]) else (3, ns.getD k 0, []) := by
  have e : ns.getD k 0 = ns[k] := by simp [List.getD_eq_getElem?_getD, h]
  rw [List.drop_eq_getElem_cons h, e]; rfl
def kindOk (l : List UInt8) : Bool := hasB l.length 0 4 && within 48 57 (l.take 4)
/-- the code, the place, the kind, the fields -/
def unp (l : List UInt8) : Int × Int × Int × List Fld :=
  if kindOk l = false then (1, 0, 0, [])
  else if getSI l 4 < 0 then (2, 4, 0, [])
  else if (rdF l (getSL l 4) (getSI l 4) []).1 = 0 then (0, 0, numOf (l.take 4), (rdF l (getSL l 4) (getSI l 4) []).2.2)
  else ((rdF l (getSL l 4) (getSI l 4) []).1, (rdF l (getSL l 4) (getSI l 4) []).2.1, 0, [])

end Go.Proofs.YtbncdhfmhokgeaaGreatDoor

/- The contracts of GetDigits, the program's and the specification's. -/
namespace Go.Proofs.YtbncdhfmhokgeaaGreatDoor
open Go.RowKit

theorem nib_shr : ∀ c : Fin 256, bits .and .u8 ((c.val : Int) / 16) 15 = ((c.val / 16 : Nat) : Int) := by decide +kernel
theorem nib_and : ∀ c : Fin 256, bits .and .u8 (c.val : Int) 15 = ((c.val % 16 : Nat) : Int) := by decide +kernel
theorem nib_even (b : List UInt8) (h : Nat) (e : h % 2 = 0) : nib b h = (b.getD (h / 2) 0).toNat / 16 := if_pos e
theorem nib_odd (b : List UInt8) (h : Nat) (e : h % 2 = 1) : nib b h = (b.getD (h / 2) 0).toNat % 16 := if_neg (by omega)

/-- the first k places hold f, the others 0 -/
def fill8 (f : Nat → UInt8) (n k : Nat) : List Value := (List.range n).map fun j => if j < k then cell (f j) else .int .u8 0
theorem fill8_zero (f : Nat → UInt8) (n : Nat) : (List.replicate n (0 : UInt8)).map cell = fill8 f n 0 := by
  apply List.ext_getElem?
  intro i
  by_cases hi : i < n
  · simp [hi, cell, fill8]
  · simp [hi, fill8]
theorem fill8_all (f : Nat → UInt8) (n : Nat) : fill8 f n n = ((List.range n).map f).map cell := by
  unfold fill8
  rw [List.map_map]
  refine List.map_congr_left fun j hj => ?_
  rw [List.mem_range] at hj
  simp [hj]
theorem fill8_at (f : Nat → UInt8) (n k : Nat) (h : k < n) : (fill8 f n k)[k]? = some (.int .u8 0) := by simp [fill8, h]
theorem fill8_succ (f : Nat → UInt8) (n k : Nat) : (fill8 f n k).set k (cell (f k)) = fill8 f n (k + 1) := by
  have := map_range_set (fun j => if j < k then cell (f j) else .int .u8 0) (fun j => if j < k + 1 then cell (f j) else .int .u8 0) n k (fun i hi => by
    by_cases h1 : i < k
    · rw [if_pos h1, if_pos (by omega)]
    · rw [if_neg h1, if_neg (by omega)])
  rw [if_pos (by omega)] at this
  exact this
theorem fill8_len (f : Nat → UInt8) (n k : Nat) : (fill8 f n k).length = n := by simp [fill8]

set_option maxRecDepth 100000 in
set_option maxHeartbeats 1000000 in
theorem unpack_any (b : List UInt8) (n : Nat) (w : World) (hn : n ≤ 100) (hb : b.length = (n + 1) / 2) :
    Calls Tryz.prog 180 #[.string ⟨b.toArray⟩, .int .i64 n] w fun e w' => e = .returned (.string ⟨(unL b n).toArray⟩) ∧ Below w.heap.size w w' := by
  obtain ⟨i0, hi, hz0, hz1, hz2⟩ := info_parts info5
  have HB : Hid _ := hb
  clear hb
  go_enter Tryz.func180, Tryz.ntmps180
  go_wp2_with (refine wpList_make_full _ rfl (.tmp 9) (.tmp 9) 22 rfl w.heap.size 5 i0 (.int .u8 0) 1 Tryz.underlying22 hi hz0 hz1 .i64 .i64 _ _ n rfl rfl rfl rfl (by rw [hz2]; omega) (by unfold maxLen; omega) (Nat.le_refl _) ?_; intro w2 hown hg)
  rw [made5, fill8_zero (fun k => unB b (k + n % 2))] at hown
  have hb2 : Below w.heap.size w w2 := (Below.refl _ _).grown hg (Nat.le_refl _) (fun k hk => by cases hk)
  clear hg
  go_loopw [6, 7, 8, 13] (fun _ _ _ i wr => ∃ k : Nat, k ≤ n ∧ i = .int .i64 k ∧ wr.ownsRow w.heap.size 5 1 (.slice (some ⟨w.heap.size, 0, none⟩) n n) n (fill8 (fun k => unB b (k + n % 2)) n k) ∧ Below w.heap.size w wr) (fun _ _ _ i _ => n - (intOf i).toNat)
  case atStart => exact ⟨0, Nat.zero_le _, rfl, hown, hb2⟩
  case round =>
    obtain ⟨k, hk, rfl, ho, hbr⟩ := hrel
    clear hown
    by_cases hlt : k < n
    · have hki : (k : Int) < (n : Int) := by omega
      have hu := unB_nat b (k + n % 2)
      have hst := (ho.stored k (cell (unB b (k + n % 2)))).1
      rw [fill8_succ (fun k => unB b (k + n % 2)) n k] at hst
      have c2 : wr.cell? ⟨w.heap.size, k, none⟩ = some (.int .u8 0) := by rw [ho.cellAt k (by omega), fill8_at _ _ _ hlt]
      have c3 : wr.frozen? ⟨w.heap.size, k, none⟩ = false := ho.frozenAt k
      obtain ⟨h, hh⟩ : ∃ h, k + n % 2 = h := ⟨_, rfl⟩
      rw [hh] at hu hst
      have hq2 : h / 2 < b.length := by have := HB.out; omega
      have hne := nib_even b h
      have hno := nib_odd b h
      have hnl := nib_lt b h
      obtain ⟨q, hq⟩ : ∃ q, h / 2 = q := ⟨_, rfl⟩
      rw [hq] at hq2 hne hno
      obtain ⟨c, hc⟩ : ∃ c, (⟨b.toArray⟩ : ByteArray)[q]'(by rw [ba_size]; exact hq2) = c := ⟨_, rfl⟩
      rw [(byte_at b q hq2).trans hc] at hne hno
      have hqi : (q : Int) < (b.length : Int) := by omega
      have hcb : (c.toNat : Int) ≤ 255 := by have := c.toNat_lt; omega
      have HH : Hid (k + n % 2 = h) := hh
      have HQ : Hid (h / 2 = q) := hq
      by_cases hev : h % 2 = 0
      · have f1 : bits .and .u8 ((c.toNat : Int) / 16) 15 = (nib b h : Int) := by rw [hne hev]; exact nib_shr ⟨c.toNat, c.toNat_lt⟩
        have HST : Hid ((wr.setCell ⟨w.heap.size, k, none⟩ (.int .u8 (48 + (nib b h : Int)))).ownsRow w.heap.size 5 1 (.slice (some ⟨w.heap.size, 0, none⟩) n n) n (fill8 (fun k => unB b (k + n % 2)) n (k + 1))) := by
          have e : cell (unB b h) = .int .u8 (48 + (nib b h : Int)) := by unfold cell; rw [hu]; congr 1
          rw [Hid, ← e]; exact hst
        obtain ⟨x, hx⟩ : ∃ x, nib b h = x := ⟨_, rfl⟩
        rw [hx] at f1 HST hnl
        clear hh hq ho hst hne hno hu hx
        go_wp2_with fail
        refine (digitPlace_any _ _ _ (by omega) (by omega)).mono ?_
        rintro e w3 ⟨rfl, hw3⟩
        subst hw3
        rw [HH.out, HQ.out, shift_even hev]
        go_wp2
        go_roundw
        case rel => exact ⟨k + 1, by omega, by go_num, HST.out, hbr.setCell (Nat.le_refl _) _⟩
        case measure => simp [intOf]; omega
      · have hod : h % 2 = 1 := by omega
        have f1 : bits .and .u8 (c.toNat : Int) 15 = (nib b h : Int) := by rw [hno hod]; exact nib_and ⟨c.toNat, c.toNat_lt⟩
        have HST : Hid ((wr.setCell ⟨w.heap.size, k, none⟩ (.int .u8 (48 + (nib b h : Int)))).ownsRow w.heap.size 5 1 (.slice (some ⟨w.heap.size, 0, none⟩) n n) n (fill8 (fun k => unB b (k + n % 2)) n (k + 1))) := by
          have e : cell (unB b h) = .int .u8 (48 + (nib b h : Int)) := by unfold cell; rw [hu]; congr 1
          rw [Hid, ← e]; exact hst
        obtain ⟨x, hx⟩ : ∃ x, nib b h = x := ⟨_, rfl⟩
        rw [hx] at f1 HST hnl
        clear hh hq ho hst hne hno hu hx
        go_wp2_with fail
        refine (digitPlace_any _ _ _ (by omega) (by omega)).mono ?_
        rintro e w3 ⟨rfl, hw3⟩
        subst hw3
        rw [HH.out, HQ.out, shift_odd hod]
        go_wp2
        go_roundw
        case rel => exact ⟨k + 1, by omega, by go_num, HST.out, hbr.setCell (Nat.le_refl _) _⟩
        case measure => simp [intOf]; omega
    · have hke : k = n := by omega
      subst hke
      rw [fill8_all] at ho
      have ht := text_own ho
      have HO : Hid _ := ho
      clear ho
      go_wp2
      go_ret
      exact ⟨rfl, hbr⟩

theorem goodB_no {b : List UInt8} {n : Nat} (hb : b.length = (n + 1) / 2) (hn : n ≤ 100) (h : putD (unL b n) ≠ some b) : goodB b n = false := by
  cases e : goodB b n
  · rfl
  · exact absurd ((again b n hb hn).2 e) h

set_option maxRecDepth 100000 in
set_option maxHeartbeats 1000000 in
theorem iGetDigits_any (l : List UInt8) (i n : Int) (w : World) (hl : l.length ≤ 1099511627776) :
    Calls Tryz.prog 165 #[.string ⟨l.toArray⟩, .int .i64 i, .int .i64 n] w fun e w' => e = .returned (.tuple #[.string ⟨(getL l i n).toArray⟩, .int .i64 (getI l i n)]) ∧ Below w.heap.size w w' := by
  by_cases h0 : n < 0
  · have HN : Hid _ := get_no (getOk_out (l := l) (i := i) (n := n) (by omega))
    go_enter Tryz.func165, Tryz.ntmps165
    go_wp2
    go_ret2
    exact ⟨str_two (by rw [HN.out.1]) HN.out.2.symm, Below.refl _ _⟩
  · by_cases h1 : 100 < n
    · have HN : Hid _ := get_no (getOk_out (l := l) (i := i) (n := n) (by omega))
      go_enter Tryz.func165, Tryz.ntmps165
      go_wp2
      go_ret2
      exact ⟨str_two (by rw [HN.out.1]) HN.out.2.symm, Below.refl _ _⟩
    · obtain ⟨d, rfl⟩ := Int.eq_ofNat_of_zero_le (show 0 ≤ n by omega)
      have hd : d ≤ 100 := by omega
      have hd' : (d : Int) ≤ 100 := by omega
      clear h0 h1
      obtain ⟨m, hm⟩ : ∃ m, (d + 1) / 2 = m := ⟨_, rfl⟩
      have HM : Hid _ := hm
      have hm50 : m ≤ 50 := by omega
      cases hb : hasB l.length i m
      · have HN : Hid _ := get_no (getOk_out (l := l) (i := i) (n := d) (by have := hasB_out hb; omega))
        clear hm
        go_enter Tryz.func165, Tryz.ntmps165
        go_wp2_with fail
        refine (packedLen_any _ _ (by omega)).mono ?_
        rintro e w1 ⟨rfl, hw1⟩
        subst hw1
        rw [HM.out]
        go_wp2_with fail
        refine (hasBytes_any _ _ _ _ hl).mono ?_
        rintro e w1 ⟨rfl, hw1⟩
        subst hw1
        rw [hb]
        go_wp2
        go_ret2
        exact ⟨str_two (by rw [HN.out.1]) HN.out.2.symm, Below.refl _ _⟩
      · have hin := hasB_in hb
        obtain ⟨k, rfl⟩ := Int.eq_ofNat_of_zero_le hin.1
        have HB : Hid _ := hb
        have hk1 : (k : Int) ≤ (k : Int) + (m : Int) := by omega
        have hk2 : (k : Int) + (m : Int) ≤ (l.length : Int) := by omega
        have HP : Hid _ := piece_eq l k m
        have hbl : ((l.drop k).take m).length = m := piece_len (by omega)
        have HK : Hid (getOk l k d = goodB ((l.drop k).take m) d) := by rw [Hid, getOk_in (by omega), hm]
        have HY : Hid (getOk l k d = true → getL l k d = unL ((l.drop k).take m) d ∧ getI l k d = (k : Int) + (m : Int)) := by
          intro h
          have := get_yes h
          rw [Int.toNat_natCast, Int.toNat_natCast, hm] at this
          exact ⟨this.1, by rw [this.2]; omega⟩
        obtain ⟨b, hbe⟩ : ∃ b, (l.drop k).take m = b := ⟨_, rfl⟩
        rw [hbe] at HP hbl HK HY
        have hbl2 : b.length = (d + 1) / 2 := by omega
        have HG : Hid (putD (unL b d) ≠ some b → getL l k d = [] ∧ getI l k d = -1) := fun h => get_no (by rw [HK.out]; exact goodB_no hbl2 hd h)
        have HT : Hid (putD (unL b d) = some b → getL l k d = unL b d ∧ getI l k d = (k : Int) + (m : Int)) := fun h => HY.out (by rw [HK.out]; exact (again b d hbl2 hd).1 h)
        have hul : (unL b d).length ≤ 1099511627776 := by rw [unL_len]; omega
        have HL2 : Hid _ := hbl2
        clear hb hin hm HK HY hbe hbl hbl2
        go_enter Tryz.func165, Tryz.ntmps165
        go_wp2_with fail
        refine (packedLen_any _ _ (by omega)).mono ?_
        rintro e w1 ⟨rfl, hw1⟩
        subst hw1
        rw [HM.out]
        go_wp2_with fail
        refine (hasBytes_any _ _ _ _ hl).mono ?_
        rintro e w1 ⟨rfl, hw1⟩
        subst hw1
        rw [HB.out]
        clear HB
        go_wp2_with fail
        refine (packedLen_any _ _ (by omega)).mono ?_
        rintro e w1 ⟨rfl, hw1⟩
        subst hw1
        rw [HM.out]
        go_wp2_with fail
        rw [HP.out]
        refine (unpack_any b d _ hd HL2.out).mono ?_
        rintro e w2 ⟨rfl, b2⟩
        go_wp2_with fail
        refine (iPutDigits_any _ _ hul).mono ?_
        rintro e w3 ⟨rfl, b3⟩
        have B3 := next b2 b3
        clear b2 b3 hul
        obtain ⟨r, hr⟩ : ∃ r, putD (unL b d) = r := ⟨_, rfl⟩
        rw [hr] at HG HT ⊢
        clear hr
        generalize unL b d = u at HT
        cases r with
        | none =>
          have HN : Hid _ := HG.out (by simp)
          simp only [Option.getD_none, Option.isSome_none]
          go_wp2
          go_ret2
          exact ⟨str_two (by rw [HN.out.1]) HN.out.2.symm, B3⟩
        | some r =>
          simp only [Option.getD_some, Option.isSome_some]
          by_cases hrb : r = b
          · subst hrb
            have HN : Hid _ := HT.out rfl
            clear HG HT
            have hp := HP.out
            go_wp2
            go_ret2
            exact ⟨str_two (by rw [HN.out.1]) HN.out.2.symm, B3⟩
          · have HN : Hid _ := HG.out (by simpa using hrb)
            clear HG HT
            have hp := HP.out
            have hrb' : (r == b) = false := by simpa using hrb
            go_wp2
            go_ret2
            exact ⟨str_two (by rw [HN.out.1]) HN.out.2.symm, B3⟩

end Go.Proofs.YtbncdhfmhokgeaaGreatDoor

/- The contracts of the functions that lay a right field's bytes, the program's and the specification's. -/
namespace Go.Proofs.YtbncdhfmhokgeaaGreatDoor
open Go.RowKit

theorem formV1 {n : Int} (hk : fK n = 1) : formV n = .iface 113 (.agg #[.int .i64 (fS n)]) := by rw [formV, if_pos hk]
theorem formV2 {n : Int} (hk : fK n = 2) : formV n = .iface 111 (.agg #[.int .i64 (fS n)]) := by rw [formV, if_neg (by rw [hk]; decide), if_pos hk]
theorem formV3 {n : Int} (hk : fK n = 3) : formV n = .iface 116 (.agg #[.int .i64 (fS n)]) := by rw [formV, if_neg (by rw [hk]; decide), if_neg (by rw [hk]; decide), if_pos hk]
theorem formV4 {n : Int} (hk : fK n = 4) : formV n = .iface 115 (.agg #[.int .i64 (fS n), .int .i64 2]) := by rw [formV, if_neg (by rw [hk]; decide), if_neg (by rw [hk]; decide), if_neg (by rw [hk]; decide), if_pos hk]
theorem formV5 {n : Int} (hk : fK n = 5) : formV n = .iface 115 (.agg #[.int .i64 (fS n), .int .i64 3]) := by rw [formV, if_neg (by rw [hk]; decide), if_neg (by rw [hk]; decide), if_neg (by rw [hk]; decide), if_neg (by rw [hk]; decide), if_pos hk]
theorem put1 {n : Int} {d : List UInt8} (hk : fK n = 1) : putFld n d = pkD d := if_pos hk
theorem put2 {n : Int} {d : List UInt8} (hk : fK n = 2) : putFld n d = padT d.length 2 ++ pkD d := by rw [putFld, if_neg (by rw [hk]; decide), if_pos hk]
theorem put3 {n : Int} {d : List UInt8} (hk : fK n = 3) : putFld n d = d := by rw [putFld, if_neg (by rw [hk]; decide), if_neg (by rw [hk]; decide), if_neg (by rw [hk]; decide), if_neg (by rw [hk]; decide)]
theorem put4 {n : Int} {d : List UInt8} (hk : fK n = 4) : putFld n d = padT d.length 2 ++ d := by rw [putFld, if_neg (by rw [hk]; decide), if_neg (by rw [hk]; decide), if_pos hk]
theorem put5 {n : Int} {d : List UInt8} (hk : fK n = 5) : putFld n d = padT d.length 3 ++ d := by rw [putFld, if_neg (by rw [hk]; decide), if_neg (by rw [hk]; decide), if_neg (by rw [hk]; decide), if_pos hk]

theorem ta11 (s : Int) (w : World) : (Instr.typeAssert (.iface 113 (.agg #[.int .i64 s])) 62 113 true).run Tryz.prog w = .ok (.tuple #[.agg #[.int .i64 s], .bool true]) w := by kernel_rfl
theorem ta21 (s : Int) (w : World) : (Instr.typeAssert (.iface 111 (.agg #[.int .i64 s])) 62 113 true).run Tryz.prog w = .ok (.tuple #[.agg #[.int .i64 0], .bool false]) w := by kernel_rfl
theorem ta22 (s : Int) (w : World) : (Instr.typeAssert (.iface 111 (.agg #[.int .i64 s])) 62 111 true).run Tryz.prog w = .ok (.tuple #[.agg #[.int .i64 s], .bool true]) w := by kernel_rfl
theorem ta31 (s : Int) (w : World) : (Instr.typeAssert (.iface 116 (.agg #[.int .i64 s])) 62 113 true).run Tryz.prog w = .ok (.tuple #[.agg #[.int .i64 0], .bool false]) w := by kernel_rfl
theorem ta32 (s : Int) (w : World) : (Instr.typeAssert (.iface 116 (.agg #[.int .i64 s])) 62 111 true).run Tryz.prog w = .ok (.tuple #[.agg #[.int .i64 0], .bool false]) w := by kernel_rfl
theorem ta33 (s : Int) (w : World) : (Instr.typeAssert (.iface 116 (.agg #[.int .i64 s])) 62 116 true).run Tryz.prog w = .ok (.tuple #[.agg #[.int .i64 s], .bool true]) w := by kernel_rfl
theorem ta41 (s q : Int) (w : World) : (Instr.typeAssert (.iface 115 (.agg #[.int .i64 s, .int .i64 q])) 62 113 true).run Tryz.prog w = .ok (.tuple #[.agg #[.int .i64 0], .bool false]) w := by kernel_rfl
theorem ta42 (s q : Int) (w : World) : (Instr.typeAssert (.iface 115 (.agg #[.int .i64 s, .int .i64 q])) 62 111 true).run Tryz.prog w = .ok (.tuple #[.agg #[.int .i64 0], .bool false]) w := by kernel_rfl
theorem ta43 (s q : Int) (w : World) : (Instr.typeAssert (.iface 115 (.agg #[.int .i64 s, .int .i64 q])) 62 116 true).run Tryz.prog w = .ok (.tuple #[.agg #[.int .i64 0], .bool false]) w := by kernel_rfl
theorem ta44 (s q : Int) (w : World) : (Instr.typeAssert (.iface 115 (.agg #[.int .i64 s, .int .i64 q])) 62 115 true).run Tryz.prog w = .ok (.tuple #[.agg #[.int .i64 s, .int .i64 q], .bool true]) w := by kernel_rfl

set_option maxRecDepth 100000 in
set_option maxHeartbeats 1600000 in
theorem putData_any (n : Int) (d : List UInt8) (w : World) (hok : fieldOk n d = true) (ht : Pow10 w) :
    Calls Tryz.prog 38 #[formV n, .string ⟨d.toArray⟩] w fun e w' => e = .returned (.string ⟨(putFld n d).toArray⟩) ∧ Below w.heap.size w w' := by
  rcases fieldOk_K hok with ⟨hk, _, hw, hl⟩ | ⟨hk, _, hw, hl⟩ | ⟨hk, _, hw, hl⟩ | ⟨hk, _, hw, hl⟩ | ⟨hk, _, hw, hl⟩
  · rw [formV1 hk, put1 hk]
    have h1 := ta11 (fS n)
    clear hok hk ht
    go_enter Tryz.func38, Tryz.ntmps38
    go_wp2_with fail
    refine (packDigits_any d _ (by omega) hw).mono ?_
    rintro e w1 ⟨rfl, b1⟩
    go_wp2
    go_ret
    exact ⟨rfl, Below.trans (by go_grown) (b1.mono (by simp))⟩
  · rw [formV2 hk, put2 hk]
    have h1 := ta21 (fS n)
    have h2 := ta22 (fS n)
    have bel : Below w.heap.size w (w.alloc (.cells #[.int .i64 (fS n)] 111)) := by go_grown
    have ht1 := ht.below bel
    have HB : Hid _ := bel
    clear hok hk ht bel
    go_enter Tryz.func38, Tryz.ntmps38
    go_wp2_with fail
    refine (iPadNum_any _ _ _ ht1).mono ?_
    rintro e w1 ⟨rfl, b1⟩
    go_wp2_with fail
    refine (packDigits_any d _ (by omega) hw).mono ?_
    rintro e w2 ⟨rfl, b2⟩
    have hpl := padT_l d.length 2
    have hkl := pkD_len d
    have HQ : Hid (pkL (padE d) ((d.length + 1) / 2) = pkD d) := rfl
    rw [HQ.out]
    have bb := next (HB.out.trans (b1.mono HB.out.size)) b2
    clear b1 b2 ht1
    obtain ⟨p, hp⟩ : ∃ p, padT (↑d.length) 2 = p := ⟨_, rfl⟩
    rw [hp] at hpl ⊢
    have HP : Hid _ := hp
    clear hp
    obtain ⟨q, hq⟩ : ∃ q, pkD d = q := ⟨_, rfl⟩
    rw [hq] at hkl ⊢
    have hql : q.length ≤ 100 := by omega
    have HQ2 : Hid _ := hq
    clear hq hkl HQ
    go_wp2
    go_ret
    exact ⟨one_str (by rw [HP.out, HQ2.out]; exact ba_append p q), bb⟩
  · rw [formV3 hk, put3 hk]
    have h1 := ta31 (fS n)
    have h2 := ta32 (fS n)
    have h3 := ta33 (fS n)
    clear hok hk ht
    go_enter Tryz.func38, Tryz.ntmps38
    go_wp2
    go_ret
    exact ⟨rfl, by go_grown⟩
  · rw [formV4 hk, put4 hk]
    have h1 := ta41 (fS n) 2
    have h2 := ta42 (fS n) 2
    have h3 := ta43 (fS n) 2
    have h4 := ta44 (fS n) 2
    have bel : Below w.heap.size w (w.alloc (.cells #[.int .i64 (fS n), .int .i64 2] 115)) := by go_grown
    have ht1 := ht.below bel
    have HB : Hid _ := bel
    clear hok hk ht bel
    go_enter Tryz.func38, Tryz.ntmps38
    go_wp2_with fail
    refine (iPadNum_any _ _ _ ht1).mono ?_
    rintro e w1 ⟨rfl, b1⟩
    have hpl := padT_l d.length 2
    have bb := HB.out.trans (b1.mono HB.out.size)
    clear b1 ht1
    obtain ⟨p, hp⟩ : ∃ p, padT (↑d.length) 2 = p := ⟨_, rfl⟩
    rw [hp] at hpl ⊢
    have HP : Hid _ := hp
    clear hp
    go_wp2
    go_ret
    exact ⟨one_str (by rw [HP.out]; exact ba_append p d), bb⟩
  · rw [formV5 hk, put5 hk]
    have h1 := ta41 (fS n) 3
    have h2 := ta42 (fS n) 3
    have h3 := ta43 (fS n) 3
    have h4 := ta44 (fS n) 3
    have bel : Below w.heap.size w (w.alloc (.cells #[.int .i64 (fS n), .int .i64 3] 115)) := by go_grown
    have ht1 := ht.below bel
    have HB : Hid _ := bel
    clear hok hk ht bel
    go_enter Tryz.func38, Tryz.ntmps38
    go_wp2_with fail
    refine (iPadNum_any _ _ _ ht1).mono ?_
    rintro e w1 ⟨rfl, b1⟩
    have hpl := padT_l d.length 3
    have bb := HB.out.trans (b1.mono HB.out.size)
    clear b1 ht1
    obtain ⟨p, hp⟩ : ∃ p, padT (↑d.length) 3 = p := ⟨_, rfl⟩
    rw [hp] at hpl ⊢
    have HP : Hid _ := hp
    clear hp
    go_wp2
    go_ret
    exact ⟨one_str (by rw [HP.out]; exact ba_append p d), bb⟩

end Go.Proofs.YtbncdhfmhokgeaaGreatDoor

/- Slices of ints: reading them, copying them, holding them against each other. -/
namespace Go.Proofs.YtbncdhfmhokgeaaGreatDoor
open Go.RowKit

/-- The slice at 'ao' reads as 'zs' in w. -/
def IntsAt (w : World) (ao : Option Addr) (zs : List Int) : Prop :=
  zs = [] ∨ ∃ b off, ao = some ⟨b, off, none⟩ ∧ b < w.heap.size ∧ ∀ i, i < zs.length → w.cell? ⟨b, off + i, none⟩ = some (.int .i64 (zs.getD i 0))

theorem IntsAt.below {w w' : World} {ao : Option Addr} {zs : List Int} (h : IntsAt w ao zs) (hb : Below w.heap.size w w') : IntsAt w' ao zs := by
  rcases h with h | ⟨b, off, h1, h2, h3⟩
  · exact .inl h
  · exact .inr ⟨b, off, h1, Nat.lt_of_lt_of_le h2 hb.size, fun i hi => (hb.cell (p := ⟨b, off + i, none⟩) h2).trans (h3 i hi)⟩

theorem getD_take {zs : List Int} {len i : Nat} (h : i < len) : (zs.take len).getD i 0 = zs.getD i 0 := by
  simp [List.getD_eq_getElem?_getD, h]

theorem ints_of_row {w : World} {a : Option Addr} {len cap : Nat} {zs : List Int} (h : IsRow .i64 w a len cap zs) : (zs.take len).length = len ∧ IntsAt w a (zs.take len) := by
  rcases h with ⟨rfl, rfl, rfl, rfl⟩ | ⟨x, rfl, hl, hm, hz, hcell, hwz⟩
  · exact ⟨rfl, .inl rfl⟩
  · have hlen : (zs.take len).length = len := by rw [List.length_take]; omega
    refine ⟨hlen, ?_⟩
    by_cases h0 : len = 0
    · subst h0; exact .inl (by simp)
    · obtain ⟨b, off, spot⟩ := x
      have hc := hcell 0 (by omega)
      have hspot : spot = none := by simpa [Addr.add] using World.cell?_spot hc
      subst hspot
      refine .inr ⟨b, off, rfl, ?_, fun i hi => ?_⟩
      · exact World.block_lt_of_cell? w _ hc
      · rw [hlen] at hi
        rw [getD_take hi]
        have := hcell i (by omega)
        by_cases e : i = 0
        · subst e; simpa [Addr.add] using this
        · simpa [Addr.add, e] using this

theorem ints_of_own {w : World} {base g n cap : Nat} {zs : List Int} (h : w.ownsRow base 3 1 (.slice (some ⟨g, 0, none⟩) n cap) n (zs.map (Value.int .i64))) : IntsAt w (some ⟨g, 0, none⟩) zs := by
  by_cases h0 : zs = []
  · exact .inl h0
  · have hl : zs.length = n := by simpa using h.1
    have hp : 0 < zs.length := List.length_pos_iff.2 h0
    have hc : ∀ i, i < zs.length → w.cell? ⟨g, 0 + i, none⟩ = some (.int .i64 (zs.getD i 0)) := by
      intro i hi
      rw [Nat.zero_add, h.cellAt i (by omega)]
      simp [List.getD_eq_getElem?_getD, hi]
    exact .inr ⟨g, 0, rfl, World.block_lt_of_cell? w _ (hc 0 hp), hc⟩

theorem info3 : (Tryz.prog.info? 3).map (fun i => (i.zero, i.size, i.bytes)) = some (some (.int .i64 0), 1, 8) := by kernel_rfl

/-- what toIntS has copied behind k rounds -/
def half (zs : List Int) (k : Nat) : List Value := (zs.take k).map (Value.int .i64) ++ List.replicate (zs.length - k) (.int .i64 0)
theorem half_zero (zs : List Int) : half zs 0 = List.replicate zs.length (.int .i64 0) := by simp [half]
theorem half_all (zs : List Int) : half zs zs.length = zs.map (Value.int .i64) := by simp [half]
theorem half_succ (zs : List Int) (k : Nat) (h : k < zs.length) : half zs (k + 1) = (half zs k).set k (.int .i64 (zs.getD k 0)) := by
  apply List.ext_getElem?
  intro j
  simp only [half, List.getElem?_set, List.getElem?_append, List.length_map, List.length_take, List.getElem?_map, List.getElem?_take, List.getElem?_replicate, List.getD_eq_getElem?_getD, List.length_append, List.length_replicate]
  by_cases h1 : j < k
  · have : j < zs.length := by omega
    have : ¬ k = j := by omega
    simp [*, Nat.min_eq_left (Nat.le_of_lt h), Nat.min_eq_left (show k + 1 ≤ zs.length by omega), show j < k + 1 by omega]
  · by_cases h2 : j = k
    · subst h2
      have : j < j + (zs.length - j) := by omega
      simp [*, Nat.min_eq_left (Nat.le_of_lt h), Nat.min_eq_left (show j + 1 ≤ zs.length by omega)]
    · have : ¬ k = j := by omega
      have a1 : ¬ j < k + 1 := by omega
      simp [*, Nat.min_eq_left (Nat.le_of_lt h), Nat.min_eq_left (show k + 1 ≤ zs.length by omega)]
      by_cases h3 : j < zs.length
      · rw [if_pos (by omega), if_pos (by omega)]
      · rw [if_neg (by omega), if_neg (by omega)]
theorem half_len (zs : List Int) (k : Nat) (h : k ≤ zs.length) : (half zs k).length = zs.length := by simp [half]; omega
theorem half_at (zs : List Int) (k : Nat) (h : k < zs.length) : (half zs k)[k]? = some (.int .i64 0) := by
  simp [half, List.getElem?_append, Nat.min_eq_left (Nat.le_of_lt h), List.getElem?_replicate]
  omega


end Go.Proofs.YtbncdhfmhokgeaaGreatDoor

/- The contracts of PutSet, the program's. -/
namespace Go.Proofs.YtbncdhfmhokgeaaGreatDoor
open Go.RowKit

theorem and7 : ∀ x : Fin 128, bits .and .i64 (x.val : Int) 7 = ((x.val % 8 : Nat) : Int) := by decide +kernel

theorem int_byte {a b x y : Int} (h : a = b) (g : x = y) : Ending.returned (.tuple #[.int .i64 a, .int .u8 x]) = .returned (.tuple #[.int .i64 b, .int .u8 y]) := by rw [h, g]
theorem bitV_eq (r : Nat) (hr : r < 8) : bitV r = 128 / 2 ^ r := by
  rcases (show r = 0 ∨ r = 1 ∨ r = 2 ∨ r = 3 ∨ r = 4 ∨ r = 5 ∨ r = 6 ∨ r = 7 from by omega) with rfl | rfl | rfl | rfl | rfl | rfl | rfl | rfl <;> rfl

set_option maxRecDepth 100000 in
set_option maxHeartbeats 800000 in
theorem bitPlace_any (q r : Nat) (w : World) (hq : q < 16) (hr : r < 8) :
    Calls Tryz.prog 120 #[.int .i64 (8 * q + r + 1 : Nat)] w fun e w' => e = .returned (.tuple #[.int .i64 q, .int .u8 (bitV r)]) ∧ ∃ d, w' = w.drewN d := by
  obtain ⟨n, hn⟩ : ∃ n, 8 * q + r + 1 = n := ⟨_, rfl⟩
  rw [hn]
  have hn1 : (1 : Int) ≤ (n : Int) := by omega
  have hn2 : (n : Int) ≤ 128 := by omega
  have ha : bits .and .i64 ((n : Int) - 1) 7 = (r : Int) := by
    have := and7 ⟨n - 1, by omega⟩
    simp only at this
    rw [show (n : Int) - 1 = ((n - 1 : Nat) : Int) from by omega, this]
    omega
  go_enter Tryz.func120, Tryz.ntmps120
  go_wp2
  go_quiet (fail)
  go_wp2
  go_ret2
  exact ⟨int_byte (by omega) (bitV_eq r hr).symm, _, rfl⟩

/-- what the cells of a set's bytes hold -/
def cellsS (f : Nat → Bool) (m : Nat) : List Value := (List.range m).map fun k => Value.int .u8 (partB f k 8)
theorem cellsS_text (f : Nat → Bool) (m : Nat) : cellsS f m = (setB f m).map cell := by
  unfold cellsS setB
  rw [List.map_map]
  refine List.map_congr_left fun k _ => ?_
  simp only [Function.comp, cell, byteOf_nat]
theorem cellsS_none (m : Nat) : (List.replicate m (0 : UInt8)).map cell = cellsS (fun _ => false) m := by
  have h : ∀ k b, partB (fun _ => false) k b = 0 := by
    intro k b
    induction b with
    | zero => rfl
    | succ b ih => rw [partB, ih]; rfl
  apply List.ext_getElem?
  intro i
  by_cases hi : i < m
  · simp [hi, cell, cellsS, h]
  · simp [hi, cellsS]

theorem gdN {w w' : World} {row : Option Nat} (h : w.grownBy w' row) (n : Nat) : w.grownBy (w'.drewN n) row := ⟨h.os, h.tape, h.output, h.size, h.block⟩

set_option maxRecDepth 100000 in
set_option maxHeartbeats 800000 in
theorem putBit_any (g m cap base q r : Nat) (f : Nat → Bool) (w : World) (ho : w.ownsRow base 5 1 (.slice (some ⟨g, 0, none⟩) m cap) m (cellsS f m)) (hm : m ≤ 16) (hq : q < m) (hr : r < 8) :
    Calls Tryz.prog 84 #[.slice (some ⟨g, 0, none⟩) m cap, .int .i64 (8 * q + r + 1 : Nat)] w fun e w' => e = .returned (.tuple #[]) ∧ w'.ownsRow base 5 1 (.slice (some ⟨g, 0, none⟩) m cap) m (cellsS (addB f (8 * q + r + 1)) m) ∧ w.grownBy w' (some g) := by
  have c2 : w.cell? ⟨g, q, none⟩ = some (.int .u8 (partB f q 8)) := by rw [ho.cellAt q (by omega)]; simp [cellsS, hq]
  have c3 : w.frozen? ⟨g, q, none⟩ = false := ho.frozenAt q
  have HST : Hid (∀ d, ((w.drewN d).setCell ⟨g, q, none⟩ (.int .u8 (bits .or .u8 (partB f q 8 : Int) (bitV r)))).ownsRow base 5 1 (.slice (some ⟨g, 0, none⟩) m cap) m (cellsS (addB f (8 * q + r + 1)) m) ∧ w.grownBy ((w.drewN d).setCell ⟨g, q, none⟩ (.int .u8 (bits .or .u8 (partB f q 8 : Int) (bitV r)))) (some g)) := by
    intro d
    have hod : (w.drewN d).ownsRow base 5 1 (.slice (some ⟨g, 0, none⟩) m cap) m (cellsS f m) := ho
    have h := hod.stored q (.int .u8 (bits .or .u8 (partB f q 8 : Int) (bitV r)))
    refine ⟨?_, (gdN (World.grownBy.refl w _) d).trans h.2⟩
    have e := map_range_set (fun k => Value.int .u8 (partB f k 8)) (fun k => Value.int .u8 (partB (addB f (8 * q + r + 1)) k 8)) m q (fun i hi => by rw [partB_add f q r i hr hi])
    have h1 := h.1
    rw [partB_or f q r hr] at h1 ⊢
    unfold cellsS at h1 ⊢
    rw [e] at h1
    exact h1
  have hqi : (q : Int) < (m : Int) := by omega
  clear ho
  go_enter Tryz.func84, Tryz.ntmps84
  go_wp2_with fail
  refine (bitPlace_any q r _ (by omega) hr).mono ?_
  rintro e w1 ⟨rfl, d, rfl⟩
  go_wp2
  go_end0
  exact ⟨rfl, HST.out d⟩

set_option maxRecDepth 100000 in
set_option maxHeartbeats 800000 in
theorem hasBit_any (l : List UInt8) (q r : Nat) (w : World) (hq : q < l.length) (hq16 : q < 16) (hr : r < 8) :
    Calls Tryz.prog 164 #[.string ⟨l.toArray⟩, .int .i64 (8 * q + r + 1 : Nat)] w fun e w' => e = .returned (.bool (bitL l (8 * q + r + 1))) ∧ ∃ d, w' = w.drewN d := by
  obtain ⟨c, hc⟩ : ∃ c, (⟨l.toArray⟩ : ByteArray)[q]'(by rw [ba_size]; exact hq) = c := ⟨_, rfl⟩
  have HB : Hid ((bits .and .u8 (c.toNat : Int) (bitV r) != 0) = bitL l (8 * q + r + 1)) := by
    have h := and_bit ⟨c.toNat, c.toNat_lt⟩ ⟨r, hr⟩
    unfold bitL
    rw [show (8 * q + r + 1 - 1) / 8 = q from by omega, show (8 * q + r + 1 - 1) % 8 = r from by omega, (byte_at l q hq).trans hc]
    exact h
  have hqi : (q : Int) < (l.length : Int) := by omega
  go_enter Tryz.func164, Tryz.ntmps164
  go_wp2_with fail
  refine (bitPlace_any q r _ hq16 hr).mono ?_
  rintro e w1 ⟨rfl, d, rfl⟩
  go_wp2
  go_ret
  exact ⟨one_bool HB.out, d, rfl⟩

set_option maxRecDepth 100000 in
set_option maxHeartbeats 800000 in
theorem isSet_any (ao : Option Addr) (cap : Nat) (zs : List Int) (w : World) (hx : IntsAt w ao zs) (hl : zs.length ≤ 1099511627776) :
    Calls Tryz.prog 83 #[.slice ao zs.length cap] w fun e w' => e = .returned (.bool (ascS 1 zs)) ∧ w' = w := by
  rcases hx with rfl | ⟨b, off, rfl, hb, hcx⟩
  · go_enter Tryz.func83, Tryz.ntmps83
    go_wp2
    refine wp_loop_rounds 1 ?_
    rw [rounds_succ]
    go_wp2
    go_ret
    exact ⟨rfl, rfl⟩
  · go_enter Tryz.func83, Tryz.ntmps83
    go_wp2
    go_loop [3, 5, 8] (fun l _ i => ∃ (k : Nat) (p : Int), k ≤ zs.length ∧ i = .int .i64 k ∧ l = .int .i64 p ∧ ascS 1 zs = ascS p (zs.drop k)) (fun _ _ i => zs.length - (intOf i).toNat)
    case atStart => exact ⟨0, 1, Nat.zero_le _, rfl, rfl, rfl⟩
    case round =>
      obtain ⟨k, p, hk, rfl, rfl, ht⟩ := hrel
      by_cases hlt : k < zs.length
      · have e1 := hcx k hlt
        have hs := ascS_step zs k p hlt
        obtain ⟨x, hxk⟩ : ∃ x, zs.getD k 0 = x := ⟨_, rfl⟩
        rw [hxk] at e1 hs
        have HK : Hid _ := ht.trans hs
        have hki : (k : Int) < (zs.length : Int) := by omega
        clear hcx hxk ht hs
        by_cases hp : p < x
        · by_cases h128 : x ≤ 128
          · have HY : Hid (ascS 1 zs = ascS x (zs.drop (k + 1))) := by rw [Hid, HK.out, decide_eq_true ⟨hp, h128⟩]; rfl
            go_wp2
            go_round
            case rel => exact ⟨k + 1, x, by omega, by go_num, rfl, HY.out⟩
            case measure => simp [intOf]; omega
          · have HN : Hid (ascS 1 zs = false) := by rw [Hid, HK.out, decide_eq_false (fun h => h128 h.2)]; rfl
            have h' : 128 < x := by omega
            go_wp2
            go_ret
            exact ⟨one_bool HN.out.symm, rfl⟩
        · have hp' : x ≤ p := by omega
          have HN : Hid (ascS 1 zs = false) := by rw [Hid, HK.out, decide_eq_false (fun h => hp h.1)]; rfl
          go_wp2
          go_ret
          exact ⟨one_bool HN.out.symm, rfl⟩
      · have HE : Hid (ascS 1 zs = true) := by rw [Hid, ht, List.drop_of_length_le (by omega)]; rfl
        have hki : ¬ (k : Int) < (zs.length : Int) := by omega
        clear hcx ht
        go_wp2
        go_ret
        exact ⟨one_bool HE.out.symm, rfl⟩

/-- the bits when the first k numbers are put -/
def bitK (zs : List Int) (k : Nat) (n : Nat) : Bool := (decide (n = 1) && wide zs) || (zs.take k).contains (n : Int)
theorem bitK_all (zs : List Int) (k : Nat) (h : zs.length ≤ k) : bitK zs k = bitS zs := by
  funext n; unfold bitK bitS; rw [List.take_of_length_le h]
theorem bitK_succ (zs : List Int) (k m : Nat) (h : k < zs.length) (hm : zs.getD k 0 = (m : Int)) : bitK zs (k + 1) = addB (bitK zs k) m := by
  funext n
  have e : zs[k] = (m : Int) := by rw [← hm]; simp [List.getD_eq_getElem?_getD, h]
  unfold addB bitK
  rw [List.take_add_one, List.getElem?_eq_getElem h, e, Bool.or_assoc]
  congr 1
  by_cases hn : n = m
  · subst hn; simp
  · have : ¬ (n : Int) = (m : Int) := by omega
    simp [hn, this]
theorem bitK_zero_wide {zs : List Int} (h : wide zs = true) : addB (fun _ => false) (8 * 0 + 0 + 1) = bitK zs 0 := by
  funext n; unfold addB bitK; rw [h]; simp
theorem bitK_zero_small {zs : List Int} (h : wide zs = false) : (fun _ => false) = bitK zs 0 := by
  funext n; unfold bitK; rw [h]; simp
theorem set_bd {zs : List Int} {k : Nat} (h : ascS 1 zs = true) (hk : k < zs.length) : 2 ≤ zs.getD k 0 ∧ zs.getD k 0 ≤ 8 * sizeS zs := by
  have hm : zs.getD k 0 ∈ zs := by simp [List.getD_eq_getElem?_getD, hk]
  have hb := ascS_mem h _ hm
  rcases sizeS_or zs with ⟨h1, _⟩ | ⟨h1, h2⟩
  · rw [h1]; omega
  · have : ¬ 64 < zs.getD k 0 := by
      intro hx
      have : wide zs = true := List.any_eq_true.2 ⟨_, hm, by simpa using hx⟩
      rw [h2] at this; cases this
    rw [h1]; omega

end Go.Proofs.YtbncdhfmhokgeaaGreatDoor

/- The contract of PutSet, the program's. -/
namespace Go.Proofs.YtbncdhfmhokgeaaGreatDoor
open Go.RowKit

set_option maxRecDepth 100000 in
set_option maxHeartbeats 1000000 in
theorem iPut_none (ao : Option Addr) (cap : Nat) (w : World) :
    Calls Tryz.prog 33 #[.slice ao 0 cap] w fun e w' => e = .returned (.tuple #[.string ⟨((putS []).getD []).toArray⟩, .bool (putS []).isSome]) ∧ Below w.heap.size w w' := by
    obtain ⟨i0, hi, hz0, hz1, hz2⟩ := info_parts info5
    have HS : Hid (ascS 1 [] = true) := rfl
    go_enter Tryz.func33, Tryz.ntmps33
    go_wp2_with fail
    refine (isSet_any ao cap [] _ (.inl rfl) (by simp)).mono ?_
    rintro e w1 ⟨rfl, hw⟩
    subst hw
    rw [HS.out]
    go_wp2_with (refine wpList_make_full _ rfl (.tmp 23) (.tmp 23) 22 rfl w1.heap.size 5 i0 (.int .u8 0) 1 Tryz.underlying22 hi hz0 hz1 .i64 .i64 _ _ 8 rfl rfl rfl rfl (by rw [hz2]; omega) (by unfold maxLen; omega) (Nat.le_refl _) ?_; intro w2 hown hg)
    rw [made5, cellsS_none] at hown
    have hb2 : Below w1.heap.size w1 w2 := (Below.refl _ _).grown hg (Nat.le_refl _) (fun k hk => by cases hk)
    clear hg
    rw [bitK_zero_small (zs := []) rfl, bitK_all [] 0 (by simp), cellsS_text] at hown
    have ht := text_own hown
    have HY : Hid (putS [] = some (setB (bitS []) 8)) := by rw [Hid, putS_yes HS.out]; rfl
    clear hown
    refine wp_loop_rounds 1 ?_
    rw [rounds_succ]
    go_wp2
    go_ret2
    exact ⟨str_ok (by rw [HY.out]; rfl) (by rw [HY.out]; rfl), hb2⟩

set_option maxRecDepth 100000 in
set_option maxHeartbeats 1000000 in
theorem iPut_wide (b off cap : Nat) (zs : List Int) (w : World) (hb : b < w.heap.size) (hcx : ∀ i, i < zs.length → w.cell? ⟨b, off + i, none⟩ = some (.int .i64 (zs.getD i 0))) (h0 : 0 < zs.length) (hl : zs.length ≤ 1048576) (hs : ascS 1 zs = true) (hw : wide zs = true) :
    Calls Tryz.prog 33 #[.slice (some ⟨b, off, none⟩) zs.length cap] w fun e w' => e = .returned (.tuple #[.string ⟨((putS zs).getD []).toArray⟩, .bool (putS zs).isSome]) ∧ Below w.heap.size w w' := by
    obtain ⟨i0, hi, hz0, hz1, hz2⟩ := info_parts info5
    have HS : Hid (ascS 1 zs = true) := hs
    have HZ : Hid (sizeS zs = 16) := by unfold sizeS; rw [Hid, if_pos hw]
    have HW : Hid (wide zs = true) := hw
    have hlast := wide_last hs (List.length_pos_iff.1 h0)
    rw [hw] at hlast
    have hlb : 64 < zs.getD (zs.length - 1) 0 := of_decide_eq_true hlast.symm
    have eL := hcx (zs.length - 1) (by omega)
    obtain ⟨y, hy⟩ : ∃ y, zs.getD (zs.length - 1) 0 = y := ⟨_, rfl⟩
    rw [hy] at hlb eL
    obtain ⟨t, ht⟩ : ∃ t, zs.length - 1 = t := ⟨_, rfl⟩
    rw [ht] at eL
    have hti : (zs.length : Int) - 1 = (t : Int) := by omega
    have hti2 : (t : Int) < (zs.length : Int) := by omega
    have h0i : (0 : Int) < (zs.length : Int) := by omega
    have HX : Hid (IntsAt w (some ⟨b, off, none⟩) zs) := .inr ⟨b, off, rfl, hb, hcx⟩
    clear hlast hy hs hw ht
    go_enter Tryz.func33, Tryz.ntmps33
    go_wp2_with fail
    refine (isSet_any _ _ _ _ HX.out (by omega)).mono ?_
    rintro e w1 ⟨rfl, hw⟩
    subst hw
    rw [HS.out]
    go_wp2_with (refine wpList_make_full _ rfl (.tmp 23) (.tmp 23) 22 rfl w1.heap.size 5 i0 (.int .u8 0) 1 Tryz.underlying22 hi hz0 hz1 .i64 .i64 _ _ 16 rfl rfl rfl rfl (by rw [hz2]; omega) (by unfold maxLen; omega) (Nat.le_refl _) ?_; intro w2 hown hg)
    rw [made5, cellsS_none] at hown
    have hb2 : Below w1.heap.size w1 w2 := (Below.refl _ _).grown hg (Nat.le_refl _) (fun k hk => by cases hk)
    clear hg
    clear eL
    go_wp2_with fail
    refine (putBit_any _ _ _ w1.heap.size 0 0 _ _ hown (by omega) (by omega) (by omega)).mono ?_
    rintro e w3 ⟨rfl, ho3, hg3⟩
    rw [bitK_zero_wide HW.out] at ho3
    have hb3 : Below w1.heap.size w1 w3 := hb2.grown hg3 hb2.size (fun q hq => by cases hq; exact Nat.le_refl _)
    clear hown hg3 hb2
    go_wp2
    go_loopw [7, 31] (fun _ i wr => ∃ k : Nat, k ≤ zs.length ∧ i = .int .i64 k ∧ wr.ownsRow w1.heap.size 5 1 (.slice (some ⟨w1.heap.size, 0, none⟩) 16 16) 16 (cellsS (bitK zs k) 16) ∧ Below w1.heap.size w1 wr) (fun _ i _ => zs.length - (intOf i).toNat)
    case atStart => exact ⟨0, Nat.zero_le _, rfl, ho3, hb3⟩
    case round =>
      obtain ⟨k, hk, rfl, ho, hbr⟩ := hrel
      clear ho3 hb3
      by_cases hlt : k < zs.length
      · have e1 : wr.cell? ⟨b, off + k, none⟩ = some (.int .i64 (zs.getD k 0)) := (hbr.cell (p := ⟨b, off + k, none⟩) hb).trans (hcx k hlt)
        have hbd := set_bd HS.out hlt
        rw [HZ.out] at hbd
        obtain ⟨x, hxn⟩ := Int.eq_ofNat_of_zero_le (show 0 ≤ zs.getD k 0 by omega)
        have HK : Hid _ := bitK_succ zs k x hlt hxn
        rw [hxn] at e1 hbd
        obtain ⟨q, hq⟩ : ∃ q, (x - 1) / 8 = q := ⟨_, rfl⟩
        obtain ⟨r, hr⟩ : ∃ r, (x - 1) % 8 = r := ⟨_, rfl⟩
        have hr8 : r < 8 := by omega
        have hqs : q < 16 := by omega
        have HX : Hid (x = 8 * q + r + 1) := by rw [Hid]; omega
        have hki : (k : Int) < (zs.length : Int) := by omega
        clear hcx hxn hq hr
        go_wp2_with fail
        rw [show (x : Int) = ((8 * q + r + 1 : Nat) : Int) from by rw [← HX.out]]
        refine (putBit_any _ _ _ w1.heap.size q r _ _ ho (by omega) hqs hr8).mono ?_
        rintro e w3 ⟨rfl, ho3, hg3⟩
        rw [← HX.out, ← HK.out] at ho3
        have hb3 : Below w1.heap.size w1 w3 := hbr.grown hg3 hbr.size (fun q hq => by cases hq; exact Nat.le_refl _)
        clear ho hg3 hbr e1
        go_wp2
        go_roundw
        case rel => exact ⟨k + 1, by omega, by go_num, ho3, hb3⟩
        case measure => simp [intOf]; omega
      · rw [bitK_all zs k (by omega), cellsS_text] at ho
        have ht := text_own ho
        have HY : Hid (putS zs = some (setB (bitS zs) 16)) := by rw [Hid, putS_yes HS.out, HZ.out]
        have hki : ¬ (k : Int) < (zs.length : Int) := by omega
        clear ho hcx
        go_wp2
        go_ret2
        exact ⟨str_ok (by rw [HY.out]; rfl) (by rw [HY.out]; rfl), hbr⟩

set_option maxRecDepth 100000 in
set_option maxHeartbeats 1000000 in
theorem iPut_small (b off cap : Nat) (zs : List Int) (w : World) (hb : b < w.heap.size) (hcx : ∀ i, i < zs.length → w.cell? ⟨b, off + i, none⟩ = some (.int .i64 (zs.getD i 0))) (h0 : 0 < zs.length) (hl : zs.length ≤ 1048576) (hs : ascS 1 zs = true) (hw : wide zs = false) :
    Calls Tryz.prog 33 #[.slice (some ⟨b, off, none⟩) zs.length cap] w fun e w' => e = .returned (.tuple #[.string ⟨((putS zs).getD []).toArray⟩, .bool (putS zs).isSome]) ∧ Below w.heap.size w w' := by
    obtain ⟨i0, hi, hz0, hz1, hz2⟩ := info_parts info5
    have HS : Hid (ascS 1 zs = true) := hs
    have HZ : Hid (sizeS zs = 8) := by unfold sizeS; rw [Hid, if_neg (by rw [hw]; decide)]
    have HW : Hid (wide zs = false) := hw
    have hlast := wide_last hs (List.length_pos_iff.1 h0)
    rw [hw] at hlast
    have hlb : zs.getD (zs.length - 1) 0 ≤ 64 := by have := of_decide_eq_false hlast.symm; omega
    have eL := hcx (zs.length - 1) (by omega)
    obtain ⟨y, hy⟩ : ∃ y, zs.getD (zs.length - 1) 0 = y := ⟨_, rfl⟩
    rw [hy] at hlb eL
    obtain ⟨t, ht⟩ : ∃ t, zs.length - 1 = t := ⟨_, rfl⟩
    rw [ht] at eL
    have hti : (zs.length : Int) - 1 = (t : Int) := by omega
    have hti2 : (t : Int) < (zs.length : Int) := by omega
    have h0i : (0 : Int) < (zs.length : Int) := by omega
    have HX : Hid (IntsAt w (some ⟨b, off, none⟩) zs) := .inr ⟨b, off, rfl, hb, hcx⟩
    clear hlast hy hs hw ht
    go_enter Tryz.func33, Tryz.ntmps33
    go_wp2_with fail
    refine (isSet_any _ _ _ _ HX.out (by omega)).mono ?_
    rintro e w1 ⟨rfl, hw⟩
    subst hw
    rw [HS.out]
    go_wp2_with (refine wpList_make_full _ rfl (.tmp 23) (.tmp 23) 22 rfl w1.heap.size 5 i0 (.int .u8 0) 1 Tryz.underlying22 hi hz0 hz1 .i64 .i64 _ _ 8 rfl rfl rfl rfl (by rw [hz2]; omega) (by unfold maxLen; omega) (Nat.le_refl _) ?_; intro w2 hown hg)
    rw [made5, cellsS_none] at hown
    have hb2 : Below w1.heap.size w1 w2 := (Below.refl _ _).grown hg (Nat.le_refl _) (fun k hk => by cases hk)
    clear hg
    rw [bitK_zero_small HW.out] at hown
    clear eL
    go_wp2
    go_loopw [7, 31] (fun _ i wr => ∃ k : Nat, k ≤ zs.length ∧ i = .int .i64 k ∧ wr.ownsRow w1.heap.size 5 1 (.slice (some ⟨w1.heap.size, 0, none⟩) 8 8) 8 (cellsS (bitK zs k) 8) ∧ Below w1.heap.size w1 wr) (fun _ i _ => zs.length - (intOf i).toNat)
    case atStart => exact ⟨0, Nat.zero_le _, rfl, hown, hb2⟩
    case round =>
      obtain ⟨k, hk, rfl, ho, hbr⟩ := hrel
      clear hown
      by_cases hlt : k < zs.length
      · have e1 : wr.cell? ⟨b, off + k, none⟩ = some (.int .i64 (zs.getD k 0)) := (hbr.cell (p := ⟨b, off + k, none⟩) hb).trans (hcx k hlt)
        have hbd := set_bd HS.out hlt
        rw [HZ.out] at hbd
        obtain ⟨x, hxn⟩ := Int.eq_ofNat_of_zero_le (show 0 ≤ zs.getD k 0 by omega)
        have HK : Hid _ := bitK_succ zs k x hlt hxn
        rw [hxn] at e1 hbd
        obtain ⟨q, hq⟩ : ∃ q, (x - 1) / 8 = q := ⟨_, rfl⟩
        obtain ⟨r, hr⟩ : ∃ r, (x - 1) % 8 = r := ⟨_, rfl⟩
        have hr8 : r < 8 := by omega
        have hqs : q < 8 := by omega
        have HX : Hid (x = 8 * q + r + 1) := by rw [Hid]; omega
        have hki : (k : Int) < (zs.length : Int) := by omega
        clear hcx hxn hq hr
        go_wp2_with fail
        rw [show (x : Int) = ((8 * q + r + 1 : Nat) : Int) from by rw [← HX.out]]
        refine (putBit_any _ _ _ w1.heap.size q r _ _ ho (by omega) hqs hr8).mono ?_
        rintro e w3 ⟨rfl, ho3, hg3⟩
        rw [← HX.out, ← HK.out] at ho3
        have hb3 : Below w1.heap.size w1 w3 := hbr.grown hg3 hbr.size (fun q hq => by cases hq; exact Nat.le_refl _)
        clear ho hg3 hbr e1
        go_wp2
        go_roundw
        case rel => exact ⟨k + 1, by omega, by go_num, ho3, hb3⟩
        case measure => simp [intOf]; omega
      · rw [bitK_all zs k (by omega), cellsS_text] at ho
        have ht := text_own ho
        have HY : Hid (putS zs = some (setB (bitS zs) 8)) := by rw [Hid, putS_yes HS.out, HZ.out]
        have hki : ¬ (k : Int) < (zs.length : Int) := by omega
        clear ho hcx
        go_wp2
        go_ret2
        exact ⟨str_ok (by rw [HY.out]; rfl) (by rw [HY.out]; rfl), hbr⟩

set_option maxRecDepth 100000 in
set_option maxHeartbeats 400000 in
theorem iPutSet_any (ao : Option Addr) (cap : Nat) (zs : List Int) (w : World) (hx : IntsAt w ao zs) (hl : zs.length ≤ 1048576) :
    Calls Tryz.prog 33 #[.slice ao zs.length cap] w fun e w' => e = .returned (.tuple #[.string ⟨((putS zs).getD []).toArray⟩, .bool (putS zs).isSome]) ∧ Below w.heap.size w w' := by
  cases hs : ascS 1 zs
  · have HN : Hid _ := putS_no hs
    go_enter Tryz.func33, Tryz.ntmps33
    go_wp2_with fail
    refine (isSet_any _ _ _ _ hx (by omega)).mono ?_
    rintro e w1 ⟨rfl, hw⟩
    subst hw
    rw [hs]
    go_wp2
    go_ret2
    exact ⟨str_ok (by rw [HN.out]; rfl) (by rw [HN.out]; rfl), Below.refl _ _⟩
  · by_cases h0 : 0 < zs.length
    · rcases hx with rfl | ⟨b, off, rfl, hb, hcx⟩
      · simp at h0
      · cases hw : wide zs
        · exact iPut_small b off cap zs w hb hcx h0 hl hs hw
        · exact iPut_wide b off cap zs w hb hcx h0 hl hs hw
    · have : zs = [] := List.eq_nil_of_length_eq_zero (by omega)
      subst this
      exact iPut_none ao cap w

end Go.Proofs.YtbncdhfmhokgeaaGreatDoor

/- Slices of ints that are one's own memory. -/
namespace Go.Proofs.YtbncdhfmhokgeaaGreatDoor
open Go.RowKit

theorem own_ints {w : World} {base : Nat} {v : Value} {zs : List Int} (h : w.ownsRow base 3 1 v zs.length (zs.map (Value.int .i64))) :
    ∃ ao cap, v = .slice ao zs.length cap ∧ IntsAt w ao zs := by
  rcases h.2 with ⟨rfl, h0⟩ | ⟨g, cap, cur, rfl, hrest⟩
  · have : zs = [] := List.eq_nil_of_length_eq_zero h0
    subst this
    exact ⟨none, 0, rfl, .inl rfl⟩
  · exact ⟨_, cap, rfl, ints_of_own h⟩
theorem own_shape {w : World} {base m : Nat} {v : Value} {xs : List Value} (h : w.ownsRow base 3 1 v m xs) : ∃ ao cap, v = .slice ao m cap := by
  rcases h.2 with ⟨rfl, rfl⟩ | ⟨g, cap, cur, rfl, hrest⟩
  · exact ⟨none, 0, rfl⟩
  · exact ⟨_, cap, rfl⟩
theorem ints_own {w : World} {base n cap : Nat} {ao : Option Addr} {zs : List Int} (h : w.ownsRow base 3 1 (.slice ao n cap) n (zs.map (Value.int .i64))) : IntsAt w ao zs := by
  have hl : zs.length = n := by simpa using h.1
  subst hl
  obtain ⟨ao', c, hv, hz⟩ := own_ints h
  obtain ⟨rfl, _⟩ : ao = ao' ∧ cap = c := by simpa using hv
  exact hz
theorem ho_ne {w : World} {base g n : Nat} {v : Value} {xs : List Value} (h : w.ownsRow base 3 1 v n xs) (hg : g < base) : v.ownBlock = none ∨ v.ownBlock ≠ some g := by
  right; intro e; have := (h.lt g e).1; omega

end Go.Proofs.YtbncdhfmhokgeaaGreatDoor

/- Fields and messages that came in: what such a struct reads as. -/
namespace Go.Proofs.YtbncdhfmhokgeaaGreatDoor
open Go.ChangeShapes Go.WideShapes Go.ChangeAt Go.RowKit Go.Deep

def FldsBd (fs : List Fld) : Prop := fs.length ≤ maxLen ∧ ∀ f ∈ fs, f.2.length ≤ maxLen
/-- The slice of fields at 'ao' reads as 'fs' in w. -/
def FldsAt (w : World) (ao : Option Addr) (fs : List Fld) : Prop :=
  fs = [] ∨ ∃ b off, ao = some ⟨b, off, none⟩ ∧ b < w.heap.size ∧ ∀ i, i < fs.length →
    w.cell? ⟨b, off + i * 2, none⟩ = some (.int .i64 (at0 fs i).1) ∧ w.cell? ⟨b, off + i * 2 + 1, none⟩ = some (.string ⟨(at0 fs i).2.toArray⟩)

theorem FldsAt.below {w w' : World} {ao : Option Addr} {fs : List Fld} (h : FldsAt w ao fs) (hb : Below w.heap.size w w') : FldsAt w' ao fs := by
  rcases h with h | ⟨b, off, h1, h2, h3⟩
  · exact .inl h
  · exact .inr ⟨b, off, h1, Nat.lt_of_lt_of_le h2 hb.size, fun i hi => ⟨(hb.cell (p := ⟨b, off + i * 2, none⟩) h2).trans (h3 i hi).1, (hb.cell (p := ⟨b, off + i * 2 + 1, none⟩) h2).trans (h3 i hi).2⟩⟩

theorem is_field {P : Program} {H : Type} {enc : TypeId × Value → H} {W : World} {r : Reach} {base : Nat} {t : TypeId} {f0 f1 : Field} {v : Value} {d : DataW H} {p : List MemPlace}
    (ht : P.underlying t = some (.struct #[f0, f1])) (hc : P.cellsOf t = 2) (o0 : f0.offset = 0) (o1 : f1.offset = 1) (c0 : P.cellsOf f0.type = 1) (c1 : P.cellsOf f1.type = 1)
    (t0 : P.underlying f0.type = some (.int .i64)) (t1 : P.underlying f1.type = some .string)
    (hv : Value.okWide P W r base t v) (h : DataW.Trod enc P W 0 (fun _ => true) true t v d p) : ∃ n s, v = .agg #[.int .i64 n, .string s] ∧ s.size ≤ maxLen := by
  obtain ⟨cs, rfl, _⟩ := okWide_struct ht hv
  obtain ⟨fuel, hf⟩ := h
  obtain ⟨y0, y1, m, _, hl, h0, h1⟩ := trod_struct2 ht hf
  simp only [Value.cells] at hl h0 h1
  rw [hc] at hl
  obtain ⟨l⟩ := cs
  match l, hl with
  | [a, b], _ =>
    simp [o0, o1, c0, c1] at h0 h1
    obtain ⟨n, e0, _⟩ := DataW.trod_int t0 h0
    obtain ⟨s, e1, _, hs⟩ := DataW.trod_string t1 h1
    simp at e0 e1
    exact ⟨n, s, by rw [e0, e1], hs⟩

theorem is_message {P : Program} {H : Type} {enc : TypeId × Value → H} {W : World} {r : Reach} {base : Nat} {t e : TypeId} {f0 f1 g0 g1 : Field} {v : Value} {d : DataW H} {p : List MemPlace}
    (ht : P.underlying t = some (.struct #[f0, f1])) (hc : P.cellsOf t = 2) (o0 : f0.offset = 0) (o1 : f1.offset = 1) (c0 : P.cellsOf f0.type = 1) (c1 : P.cellsOf f1.type = 1)
    (t0 : P.underlying f0.type = some (.int .i64)) (t1 : P.underlying f1.type = some (.slice e))
    (he : P.underlying e = some (.struct #[g0, g1])) (ce : P.cellsOf e = 2) (p0 : g0.offset = 0) (p1 : g1.offset = 1) (d0 : P.cellsOf g0.type = 1) (d1 : P.cellsOf g1.type = 1)
    (u0 : P.underlying g0.type = some (.int .i64)) (u1 : P.underlying g1.type = some .string)
    (hv : Value.okWide P W r base t v) (h : DataW.Trod enc P W 0 (fun _ => true) true t v d p) :
    ∃ n a cap fs, v = .agg #[.int .i64 n, .slice a (List.length fs) cap] ∧ FldsAt W a fs ∧ FldsBd fs := by
  obtain ⟨cs, rfl, _⟩ := okWide_struct ht hv
  obtain ⟨fuel, hf⟩ := h
  obtain ⟨y0, y1, m, _, hl, h0, h1⟩ := trod_struct2 ht hf
  simp only [Value.cells] at hl h0 h1
  rw [hc] at hl
  obtain ⟨l⟩ := cs
  match l, hl with
  | [x, y], _ =>
    simp [o0, o1, c0, c1] at h0 h1
    obtain ⟨n, e0, _⟩ := DataW.trod_int t0 h0
    simp at e0
    rcases open_slice_pairs t1 he ce p0 p1 d0 d1 h1 with ⟨e1, _⟩ | ⟨a, len, cap, m, k, V0, V1, D0, D1, P0, P1, e1, hb, hlc, hm, hmm, _, hx⟩
    · simp at e1
      exact ⟨n, none, 0, [], by rw [e0, e1]; rfl, .inl rfl, Nat.zero_le _, fun f hf => by cases hf⟩
    · simp at e1 hmm
      subst hmm
      obtain ⟨F, hF⟩ := choose_lt (α := Fld) (n := m) (p := fun i f => V0 i = .int .i64 f.1 ∧ V1 i = .string ⟨f.2.toArray⟩ ∧ f.2.length ≤ maxLen) (fun i hi => by
        obtain ⟨_, _, g2, g3⟩ := hx i hi
        obtain ⟨z, q0, _⟩ := DataW.trod_int u0 g2
        obtain ⟨s, q1, _, hs⟩ := DataW.trod_string u1 g3
        simp at q0 q1
        exact ⟨(z, s.data.toList), q0, by rw [q1], by show s.data.toList.length ≤ maxLen; rw [Array.length_toList]; exact hs⟩)
      refine ⟨n, some a, m, (List.range len).map F, by rw [e0, e1]; simp, ?_, by rw [List.length_map, List.length_range]; exact Nat.le_trans hlc hm, fun f hf => by
        obtain ⟨i, hi, rfl⟩ := List.mem_map.1 hf
        exact (hF i (by have := List.mem_range.1 hi; omega)).2.2⟩
      by_cases hz : len = 0
      · subst hz; exact .inl rfl
      · obtain ⟨bk, off, spot⟩ := a
        have hc0 := (hx 0 (by omega)).1
        have hspot : spot = none := by simpa [Addr.add] using World.cell?_spot hc0
        subst hspot
        refine .inr ⟨bk, off, rfl, ?_, fun i hi => ?_⟩
        · exact World.block_lt_of_cell? W _ hc0
        · have hi' : i < len := by simpa using hi
          have hat : at0 ((List.range len).map F) i = F i := by simp [at0, List.getD_eq_getElem?_getD, hi']
          obtain ⟨g0, g1, _, _⟩ := hx i (by omega)
          rw [hat, ← (hF i (by omega)).1, ← (hF i (by omega)).2.1]
          rw [add_plain] at g0 g1
          exact ⟨g0, by rw [Nat.add_assoc]; exact g1⟩

/-- a slice of such structs that came in -/
theorem is_flds {P : Program} {H : Type} {enc : TypeId × Value → H} {W : World} {r : Reach} {base : Nat} {t e : TypeId} {g0 g1 : Field} {v : Value} {d : DataW H} {p : List MemPlace}
    (ht : P.underlying t = some (.slice e))
    (he : P.underlying e = some (.struct #[g0, g1])) (ce : P.cellsOf e = 2) (p0 : g0.offset = 0) (p1 : g1.offset = 1) (d0 : P.cellsOf g0.type = 1) (d1 : P.cellsOf g1.type = 1)
    (u0 : P.underlying g0.type = some (.int .i64)) (u1 : P.underlying g1.type = some .string)
    (hv : Value.okWide P W r base t v) (h : DataW.Trod enc P W 0 (fun _ => true) true t v d p) :
    ∃ a cap fs, v = .slice a (List.length fs) cap ∧ FldsAt W a fs ∧ FldsBd fs := by
  obtain ⟨va, vl, vc, rfl⟩ := okWide_slice ht hv
  obtain ⟨fuel, h1⟩ := h
  rcases open_slice_pairs ht he ce p0 p1 d0 d1 h1 with ⟨e1, _⟩ | ⟨a, len, cap, m, k, V0, V1, D0, D1, P0, P1, e1, hb, hlc, hm, hmm, _, hx⟩
  · have e2 : Value.slice va vl vc = .slice none 0 0 := by simpa [Value.cells] using e1
    exact ⟨none, 0, [], e2, .inl rfl, Nat.zero_le _, fun f hf => by cases hf⟩
  · simp at hmm
    subst hmm
    have e2 : Value.slice va vl vc = .slice (some a) len m := by simpa [Value.cells] using e1
    obtain ⟨F, hF⟩ := choose_lt (α := Fld) (n := m) (p := fun i f => V0 i = .int .i64 f.1 ∧ V1 i = .string ⟨f.2.toArray⟩ ∧ f.2.length ≤ maxLen) (fun i hi => by
      obtain ⟨_, _, g2, g3⟩ := hx i hi
      obtain ⟨z, q0, _⟩ := DataW.trod_int u0 g2
      obtain ⟨s, q1, _, hs⟩ := DataW.trod_string u1 g3
      simp at q0 q1
      exact ⟨(z, s.data.toList), q0, by rw [q1], by show s.data.toList.length ≤ maxLen; rw [Array.length_toList]; exact hs⟩)
    refine ⟨some a, m, (List.range len).map F, by rw [e2]; simp, ?_, by rw [List.length_map, List.length_range]; exact Nat.le_trans hlc hm, fun f hf => by
      obtain ⟨i, hi, rfl⟩ := List.mem_map.1 hf
      exact (hF i (by have := List.mem_range.1 hi; omega)).2.2⟩
    by_cases hz : len = 0
    · subst hz; exact .inl rfl
    · obtain ⟨bk, off, spot⟩ := a
      have hc0 := (hx 0 (by omega)).1
      have hspot : spot = none := by simpa [Addr.add] using World.cell?_spot hc0
      subst hspot
      refine .inr ⟨bk, off, rfl, ?_, fun i hi => ?_⟩
      · exact World.block_lt_of_cell? W _ hc0
      · have hi' : i < len := by simpa using hi
        have hat : at0 ((List.range len).map F) i = F i := by simp [at0, List.getD_eq_getElem?_getD, hi']
        obtain ⟨g0, g1, _, _⟩ := hx i (by omega)
        rw [hat, ← (hF i (by omega)).1, ← (hF i (by omega)).2.1]
        rw [add_plain] at g0 g1
        exact ⟨g0, by rw [Nat.add_assoc]; exact g1⟩

end Go.Proofs.YtbncdhfmhokgeaaGreatDoor

/- The laws' own functions over messages: how much one takes, its copy. -/
namespace Go.Proofs.YtbncdhfmhokgeaaGreatDoor
open Go.RowKit

/-- what is left behind the data of all fields -/
def leftFs : List Fld → Int → Int
  | [], left => left
  | f :: r, left => if left - (f.2.length : Int) < 0 then -1 else leftFs r (left - (f.2.length : Int))
def leftM (fs : List Fld) (left : Int) : Int := if left - (fs.length : Int) < 0 then -1 else leftFs fs (left - (fs.length : Int))
theorem leftFs_step (fs : List Fld) (k : Nat) (left : Int) (h : k < fs.length) : leftFs (fs.drop k) left = if left - ((at0 fs k).2.length : Int) < 0 then -1 else leftFs (fs.drop (k + 1)) (left - ((at0 fs k).2.length : Int)) := by
  have e : at0 fs k = fs[k] := by simp [at0, List.getD_eq_getElem?_getD, h]
  rw [List.drop_eq_getElem_cons h, e]; rfl
def sumF (fs : List Fld) : Nat := (fs.map fun f => f.2.length).sum
theorem leftFs_sum (fs : List Fld) : ∀ left, 0 ≤ leftFs fs left → 0 ≤ left → (sumF fs : Int) ≤ left := by
  induction fs with
  | nil => intro left _ h; simpa [sumF] using h
  | cons f r ih =>
    intro left h hl
    simp only [leftFs] at h
    split at h
    · omega
    · have := ih _ h (by omega)
      simp only [sumF, List.map_cons, List.sum_cons] at this ⊢
      omega
theorem leftM_sum {fs : List Fld} {left : Int} (h : 0 ≤ leftM fs left) : (fs.length : Int) + sumF fs ≤ left := by
  unfold leftM at h
  split at h
  · omega
  · have := leftFs_sum fs _ h (by omega)
    omega
theorem sumF_mem {fs : List Fld} {f : Fld} (h : f ∈ fs) : f.2.length ≤ sumF fs := by
  induction fs with
  | nil => cases h
  | cons g r ih =>
    simp only [sumF, List.map_cons, List.sum_cons] at ih ⊢
    rcases List.mem_cons.1 h with rfl | hr
    · omega
    · have := ih hr; omega
theorem at0_mem {fs : List Fld} {k : Nat} (h : k < fs.length) : at0 fs k ∈ fs := by
  have e : at0 fs k = fs[k] := by simp [at0, List.getD_eq_getElem?_getD, h]
  rw [e]; exact List.getElem_mem h
theorem at0_le {fs : List Fld} {k n : Nat} (h : k < fs.length) (hs : sumF fs ≤ n) : (at0 fs k).2.length ≤ n := Nat.le_trans (sumF_mem (at0_mem h)) hs

set_option maxHeartbeats 800000 in
theorem szFieldS_any (ao : Option Addr) (cap : Nat) (fs : List Fld) (w : World) (hz : FldsAt w ao fs) (hd : FldsBd fs) :
    Calls Tryz.prog 116 #[.slice ao fs.length cap, .int .i64 1048576] w fun e w' => e = .returned (.int .i64 (leftM fs 1048576)) ∧ Below w.heap.size w w' := by
  have hn : fs.length ≤ 9223372036854775807 := by have := hd.1; unfold maxLen at this; omega
  have HD : Hid (∀ k, k < fs.length → (at0 fs k).2.length ≤ 9223372036854775807) := by
    intro k hk; have := hd.2 _ (at0_mem hk); unfold maxLen at this; omega
  clear hd
  by_cases hneg : (1048576 : Int) - (fs.length : Int) < 0
  · have HE : Hid (leftM fs 1048576 = -1) := if_pos hneg
    go_enter Tryz.func116, Tryz.ntmps116
    go_wp2
    go_ret
    exact ⟨one_int HE.out.symm, Below.refl _ _⟩
  · have HE : Hid (leftM fs 1048576 = leftFs fs (1048576 - (fs.length : Int))) := if_neg hneg
    rcases hz with rfl | ⟨b, off, rfl, hb, hcell⟩
    · go_enter Tryz.func116, Tryz.ntmps116
      go_wp2
      refine wp_loop_rounds 1 ?_
      rw [rounds_succ]
      go_wp2
      go_ret
      exact ⟨rfl, Below.refl _ _⟩
    · have HC : Hid (∀ i, i < fs.length → w.cell? ⟨b, off + i * 2, none⟩ = some (.int .i64 (at0 fs i).1) ∧ w.cell? ⟨b, off + i * 2 + 1, none⟩ = some (.string ⟨(at0 fs i).2.toArray⟩)) := hcell
      clear hcell
      go_enter Tryz.func116, Tryz.ntmps116
      go_wp2
      go_loopw [1, 5] (fun v i wr => ∃ (k : Nat) (l : Int), k ≤ fs.length ∧ i = .int .i64 k ∧ v = .int .i64 l ∧ 0 ≤ l ∧ l ≤ 1048576 ∧ leftM fs 1048576 = leftFs (fs.drop k) l ∧ Below w.heap.size w wr) (fun _ i _ => fs.length - (intOf i).toNat)
      case atStart => exact ⟨0, _, Nat.zero_le _, rfl, rfl, by omega, by omega, HE.out, Below.refl _ _⟩
      case round =>
        obtain ⟨k, l, hk, rfl, rfl, h0, h1, hleft, hbr⟩ := hrel
        by_cases hlt : k < fs.length
        · have c1 : wr.cell? ⟨b, off + k * 2, none⟩ = some (.int .i64 (at0 fs k).1) := (hbr.cell (p := ⟨b, off + k * 2, none⟩) hb).trans (HC.out k hlt).1
          have c2 : wr.cell? ⟨b, off + k * 2 + 1, none⟩ = some (.string ⟨(at0 fs k).2.toArray⟩) := (hbr.cell (p := ⟨b, off + k * 2 + 1, none⟩) hb).trans (HC.out k hlt).2
          have hki : (k : Int) < (fs.length : Int) := by omega
          have hst := leftFs_step fs k l hlt
          have hdk := HD.out k hlt
          obtain ⟨⟨n, s⟩, hf⟩ : ∃ f, at0 fs k = f := ⟨_, rfl⟩
          rw [hf] at c1 c2 hst hdk
          simp only at c1 c2 hst hdk
          by_cases hng : l - (s.length : Int) < 0
          · have HN : Hid (leftM fs 1048576 = -1) := by rw [Hid, hleft, hst, if_pos hng]
            have HF : Hid (leftF s l = -1) := if_pos hng
            clear hst hf hleft
            go_wp2_with fail
            refine (szField_any _ _ _ _ ⟨h1, h0⟩ hdk).mono ?_
            rintro e w1 ⟨rfl, b1⟩
            rw [HF.out]
            go_wp2
            go_ret
            exact ⟨one_int HN.out.symm, hbr.trans (b1.mono hbr.size)⟩
          · have HN : Hid (leftM fs 1048576 = leftFs (fs.drop (k + 1)) (l - (s.length : Int))) := by rw [Hid, hleft, hst, if_neg hng]
            have HF : Hid (leftF s l = l - (s.length : Int)) := if_neg hng
            clear hst hf hleft
            go_wp2_with fail
            refine (szField_any _ _ _ _ ⟨h1, h0⟩ hdk).mono ?_
            rintro e w1 ⟨rfl, b1⟩
            rw [HF.out]
            go_wp2
            go_roundw
            case rel => exact ⟨k + 1, _, by omega, by go_num, rfl, by omega, by omega, HN.out, hbr.trans (b1.mono hbr.size)⟩
            case measure => simp [intOf]; omega
        · have : k = fs.length := by omega
          subst this
          have HN : Hid (leftM fs 1048576 = l) := by rw [Hid, hleft, List.drop_of_length_le (Nat.le_refl _)]; rfl
          clear hleft
          go_wp2
          go_ret
          exact ⟨one_int HN.out.symm, hbr⟩

end Go.Proofs.YtbncdhfmhokgeaaGreatDoor

/- Fields in a row of one's own: the cells of a list of fields; the laws' copy of a message. -/
namespace Go.Proofs.YtbncdhfmhokgeaaGreatDoor
open Go.RowKit

theorem keepRow {w w' : World} {base n size : Nat} {t : TypeId} {v : Value} {xs : List Value} (h : w.ownsRow base t size v n xs) (hb : Below w.heap.size w w') : w'.ownsRow base t size v n xs := by
  obtain ⟨h1, h2⟩ := h
  refine ⟨h1, ?_⟩
  rcases h2 with h | ⟨g, cap, cur, hv, hg, hh, a1, a2, a3, a4⟩
  · exact .inl h
  · have hlt : g < w.heap.size := (Array.getElem?_eq_some_iff.1 hh).1
    exact .inr ⟨g, cap, cur, hv, hg, (hb.block g hlt).trans hh, a1, a2, a3, a4⟩

theorem keepSet {w : World} {base n size : Nat} {t : TypeId} {v : Value} {xs : List Value} (h : w.ownsRow base t size v n xs) (p : Addr) (u : Value) (hp : ∀ g, v.ownBlock = some g → g ≠ p.block) : (w.setCell p u).ownsRow base t size v n xs := by
  obtain ⟨h1, h2⟩ := h
  refine ⟨h1, ?_⟩
  rcases h2 with h | ⟨g, cap, cur, hv, hg, hh, a1, a2, a3, a4⟩
  · exact .inl h
  · exact .inr ⟨g, cap, cur, hv, hg, (Below.heap_setCell w p u g (hp g (by rw [hv]; rfl))).trans hh, a1, a2, a3, a4⟩
theorem lowerRow {w : World} {base base' n size : Nat} {t : TypeId} {v : Value} {xs : List Value} (h : w.ownsRow base t size v n xs) (hb : base' ≤ base) : w.ownsRow base' t size v n xs := by
  obtain ⟨h1, h2⟩ := h
  refine ⟨h1, ?_⟩
  rcases h2 with h | ⟨g, cap, cur, hv, hg, r⟩
  · exact .inl h
  · exact .inr ⟨g, cap, cur, hv, Nat.le_trans hb hg, r⟩

def fcell (f : Fld) : List Value := [.int .i64 f.1, .string ⟨f.2.toArray⟩]
def fcells (fs : List Fld) : List Value := fs.flatMap fcell
theorem fcells_cons (f : Fld) (r : List Fld) : fcells (f :: r) = .int .i64 f.1 :: .string ⟨f.2.toArray⟩ :: fcells r := rfl
theorem fcells_append (a b : List Fld) : fcells (a ++ b) = fcells a ++ fcells b := by simp [fcells]
theorem fcells_len (fs : List Fld) : (fcells fs).length = fs.length * 2 := by
  induction fs with
  | nil => rfl
  | cons f r ih => rw [fcells_cons]; simp [ih]; omega
theorem fcells_at (fs : List Fld) : ∀ k, k < fs.length → (fcells fs)[k * 2]? = some (.int .i64 (at0 fs k).1) ∧ (fcells fs)[k * 2 + 1]? = some (.string ⟨(at0 fs k).2.toArray⟩) := by
  induction fs with
  | nil => intro k h; simp at h
  | cons f r ih =>
    intro k h
    rw [fcells_cons]
    cases k with
    | zero => exact ⟨rfl, rfl⟩
    | succ k =>
      have := ih k (by simpa using h)
      rw [show (k + 1) * 2 = k * 2 + 1 + 1 by omega, List.getElem?_cons_succ, List.getElem?_cons_succ, List.getElem?_cons_succ, List.getElem?_cons_succ]
      exact this
theorem fcells_set (fs : List Fld) (f : Fld) : ∀ k, k < fs.length → ((fcells fs).set (k * 2) (.int .i64 f.1)).set (k * 2 + 1) (.string ⟨f.2.toArray⟩) = fcells (fs.set k f) := by
  induction fs with
  | nil => intro k h; simp at h
  | cons g r ih =>
    intro k h
    rw [fcells_cons]
    cases k with
    | zero => rfl
    | succ k =>
      have := ih k (by simpa using h)
      rw [show (k + 1) * 2 = k * 2 + 1 + 1 by omega, List.set_cons_succ, List.set_cons_succ, List.set_cons_succ, List.set_cons_succ, this]
      rfl
theorem fcells_one (fs : List Fld) : ∀ u ∈ fcells fs, u.oneCell' = true := by
  intro u hu
  simp only [fcells, List.mem_flatMap, fcell] at hu
  obtain ⟨f, _, hf⟩ := hu
  simp at hf
  rcases hf with rfl | rfl <;> rfl

theorem flds_of_own {w : World} {base g n cap : Nat} {t : TypeId} {fs : List Fld} (h : w.ownsRow base t 2 (.slice (some ⟨g, 0, none⟩) n cap) n (fcells fs)) : FldsAt w (some ⟨g, 0, none⟩) fs := by
  have hl := h.1
  rw [fcells_len] at hl
  by_cases h0 : fs = []
  · exact .inl h0
  · have hlt := (h.lt g rfl).2
    refine .inr ⟨g, 0, rfl, hlt, fun i hi => ?_⟩
    have := fcells_at fs i hi
    rw [Nat.zero_add, h.cellAt (i * 2) (by omega), h.cellAt (i * 2 + 1) (by omega)]
    exact this
theorem flds_of_own' {w : World} {base n : Nat} {t : TypeId} {v : Value} {fs : List Fld} (h : w.ownsRow base t 2 v n (fcells fs)) : ∃ ao cap, v = .slice ao fs.length cap ∧ FldsAt w ao fs ∧ n = fs.length := by
  have hn : n = fs.length := by have := h.1; rw [fcells_len] at this; omega
  subst hn
  rcases h.2 with ⟨rfl, hn⟩ | ⟨g, cap, cur, rfl, _⟩
  · have : fs = [] := List.eq_nil_of_length_eq_zero hn
    subst this
    exact ⟨none, 0, rfl, .inl rfl, rfl⟩
  · exact ⟨_, cap, rfl, flds_of_own h, rfl⟩

/-- what a copy holds behind k rounds -/
def halfF (fs : List Fld) (k : Nat) : List Fld := fs.take k ++ List.replicate (fs.length - k) (0, [])
theorem halfF_all (fs : List Fld) : halfF fs fs.length = fs := by simp [halfF]
theorem halfF_len (fs : List Fld) (k : Nat) (h : k ≤ fs.length) : (halfF fs k).length = fs.length := by simp [halfF]; omega
theorem halfF_succ (fs : List Fld) (k : Nat) (h : k < fs.length) : (halfF fs k).set k (at0 fs k) = halfF fs (k + 1) := by
  have e : at0 fs k = fs[k] := by simp [at0, List.getD_eq_getElem?_getD, h]
  unfold halfF
  rw [List.set_append, if_neg (by simp; omega), List.length_take, Nat.min_eq_left (Nat.le_of_lt h), Nat.sub_self, show fs.length - k = fs.length - (k + 1) + 1 by omega, List.replicate_succ, List.set_cons_zero, List.take_succ_eq_append_getElem h, e, List.append_assoc]
  rfl
theorem halfF_at (fs : List Fld) (k : Nat) (h : k < fs.length) : at0 (halfF fs k) k = (0, []) := by
  simp [at0, halfF, List.getD_eq_getElem?_getD, List.getElem?_append, Nat.min_eq_left (Nat.le_of_lt h), List.getElem?_replicate]
  split <;> rfl

theorem infoF : (Tryz.prog.info? 60).map (fun i => (i.zero, i.size, i.bytes)) = some (some (.agg #[.int .i64 0, .string ⟨#[]⟩]), 2, 24) := by kernel_rfl

theorem cells_rep (m : Nat) : (madeCells (Value.agg #[.int .i64 0, .string ⟨#[]⟩]).cells (m * 2)).toList = fcells (List.replicate m (0, [])) := by
  apply List.ext_getElem?
  intro j
  by_cases hj : j < m * 2
  · have hq : j / 2 < (List.replicate m ((0 : Int), ([] : List UInt8))).length := by simp; omega
    have ha : at0 (List.replicate m ((0 : Int), ([] : List UInt8))) (j / 2) = (0, []) := by
      simp [at0, List.getD_eq_getElem?_getD, List.getElem?_replicate]; split <;> rfl
    have h := fcells_at _ _ hq
    rw [ha] at h
    have hl : (madeCells (Value.agg #[.int .i64 0, .string ⟨#[]⟩]).cells (m * 2)).toList[j]? = some ((#[Value.int .i64 0, .string ⟨#[]⟩] : Array Value)[j % 2]!) := by
      simp [madeCells, hj, Value.cells]
    rcases Nat.mod_two_eq_zero_or_one j with e | e
    · rw [hl, e, show j = j / 2 * 2 by omega, h.1]; rfl
    · rw [hl, e, show j = j / 2 * 2 + 1 by omega, h.2]; rfl
  · rw [List.getElem?_eq_none (by rw [Array.length_toList, size_madeCells]; omega), List.getElem?_eq_none (by rw [fcells_len]; simp; omega)]

set_option maxHeartbeats 800000 in
theorem toFieldS_any (ao : Option Addr) (cap : Nat) (fs : List Fld) (w : World) (hz : FldsAt w ao fs) (hn : fs.length ≤ 1048576) :
    Calls Tryz.prog 117 #[.slice ao fs.length cap] w fun e w' => e = .returned (.slice (some ⟨w.heap.size, 0, none⟩) fs.length fs.length) ∧
      w'.ownsRow w.heap.size 60 2 (.slice (some ⟨w.heap.size, 0, none⟩) fs.length fs.length) fs.length (fcells fs) ∧ Below w.heap.size w w' := by
  obtain ⟨i0, hi, hz0, hz1, hz2⟩ := info_parts infoF
  have hm0 := cells_rep fs.length
  rcases hz with rfl | ⟨b, off, rfl, hb, hcell⟩
  · go_enter Tryz.func117, Tryz.ntmps117
    go_wp2_with (refine wpList_make_full _ rfl (.tmp 6) (.tmp 6) 24 rfl w.heap.size 60 i0 _ 2 Tryz.underlying24 hi hz0 hz1 .i64 .i64 _ _ 0 rfl rfl rfl rfl (by rw [hz2]; omega) (by unfold maxLen; omega) (Nat.le_refl _) ?_; intro w1 hown hg)
    refine wp_loop_rounds 1 ?_
    rw [rounds_succ]
    go_wp2
    go_ret
    exact ⟨rfl, by simpa [madeCells, fcells] using hown, (Below.refl _ _).grown hg (Nat.le_refl _) (fun k hk => by cases hk)⟩
  · have HC : Hid (∀ i, i < fs.length → w.cell? ⟨b, off + i * 2, none⟩ = some (.int .i64 (at0 fs i).1) ∧ w.cell? ⟨b, off + i * 2 + 1, none⟩ = some (.string ⟨(at0 fs i).2.toArray⟩)) := hcell
    clear hcell
    go_enter Tryz.func117, Tryz.ntmps117
    go_wp2_with (refine wpList_make_full _ rfl (.tmp 6) (.tmp 6) 24 rfl w.heap.size 60 i0 _ 2 Tryz.underlying24 hi hz0 hz1 .i64 .i64 _ _ fs.length rfl rfl rfl rfl (by rw [hz2]; omega) (by unfold maxLen; omega) (Nat.le_refl _) ?_; intro w1 hown hg)
    rw [hm0, show List.replicate fs.length ((0 : Int), ([] : List UInt8)) = halfF fs 0 from by simp [halfF]] at hown
    have hb1 : Below w.heap.size w w1 := (Below.refl _ _).grown hg (Nat.le_refl _) (fun k hk => by cases hk)
    clear hm0 hg
    go_loopw [4] (fun i wr => ∃ k : Nat, k ≤ fs.length ∧ i = .int .i64 k ∧ wr.ownsRow w.heap.size 60 2 (.slice (some ⟨w.heap.size, 0, none⟩) fs.length fs.length) fs.length (fcells (halfF fs k)) ∧ Below w.heap.size w wr) (fun i _ => fs.length - (intOf i).toNat)
    case atStart => exact ⟨0, Nat.zero_le _, rfl, hown, hb1⟩
    case round =>
      obtain ⟨k, hk, rfl, ho, hbr⟩ := hrel
      clear hown hb1
      by_cases hlt : k < fs.length
      · have c1 : wr.cell? ⟨b, off + k * 2, none⟩ = some (.int .i64 (at0 fs k).1) := (hbr.cell (p := ⟨b, off + k * 2, none⟩) hb).trans (HC.out k hlt).1
        have c2 : wr.cell? ⟨b, off + k * 2 + 1, none⟩ = some (.string ⟨(at0 fs k).2.toArray⟩) := (hbr.cell (p := ⟨b, off + k * 2 + 1, none⟩) hb).trans (HC.out k hlt).2
        have hki : (k : Int) < (fs.length : Int) := by omega
        have HS : Hid _ := halfF_succ fs k hlt
        have HT : Hid _ := fcells_set (halfF fs k) (at0 fs k) k (by rw [halfF_len fs k hk]; exact hlt)
        obtain ⟨⟨n, s⟩, hf⟩ : ∃ f, at0 fs k = f := ⟨_, rfl⟩
        rw [hf] at c1 c2 HS HT
        simp only at c1 c2 HT
        have HO : Hid (wr.ownsRow w.heap.size 60 2 (.slice (some ⟨w.heap.size, 0, none⟩) fs.length fs.length) fs.length (fcells (halfF fs k))) := ho
        have HA : Hid _ := halfF_at fs k hlt
        clear hf ho
        go_wp2_with fail
        refine (toField_any _ _ _).mono ?_
        rintro e w2 ⟨rfl, b2⟩
        have ho := keepRow HO.out b2
        have hat := fcells_at (halfF fs k) k (by rw [halfF_len fs k hk]; exact hlt)
        rw [HA.out] at hat
        have c3 : w2.cell? ⟨w.heap.size, k * 2, none⟩ = some (.int .i64 0) := by rw [ho.cellAt (k * 2) (by omega)]; exact hat.1
        have c4 : w2.cell? ⟨w.heap.size, k * 2 + 1, none⟩ = some (.string ⟨#[]⟩) := by rw [ho.cellAt (k * 2 + 1) (by omega)]; exact hat.2
        have c5 : w2.frozen? ⟨w.heap.size, k * 2, none⟩ = false := ho.frozenAt _
        have c6 : w2.frozen? ⟨w.heap.size, k * 2 + 1, none⟩ = false := ho.frozenAt _
        have HR : Hid (((w2.setCell ⟨w.heap.size, k * 2, none⟩ (.int .i64 n)).setCell ⟨w.heap.size, k * 2 + 1, none⟩ (.string ⟨s.toArray⟩)).ownsRow w.heap.size 60 2 (.slice (some ⟨w.heap.size, 0, none⟩) fs.length fs.length) fs.length (fcells (halfF fs (k + 1)))) := by
          have R := ((ho.stored (k * 2) (.int .i64 n)).1.stored (k * 2 + 1) (.string ⟨s.toArray⟩)).1
          rw [HT.out, HS.out] at R
          exact R
        clear ho hat
        go_wp2
        go_roundw
        case rel => exact ⟨k + 1, by omega, by go_num, HR.out, ((hbr.trans (b2.mono hbr.size)).setCell (Nat.le_refl _) _).setCell (Nat.le_refl _) _⟩
        case measure => simp [intOf]; omega
      · have : k = fs.length := by omega
        subst this
        rw [halfF_all] at ho
        go_wp2
        go_ret
        exact ⟨rfl, ho, hbr⟩

end Go.Proofs.YtbncdhfmhokgeaaGreatDoor

/- Slices of texts: those that came in, those in a row of one's own. -/
namespace Go.Proofs.YtbncdhfmhokgeaaGreatDoor
open Go.ChangeShapes Go.WideShapes Go.ChangeAt Go.RowKit Go.Deep

/-- The slice of texts at 'ao' reads as 'rs' in w. -/
def TxtsAt (w : World) (ao : Option Addr) (rs : Recs) : Prop :=
  rs = [] ∨ ∃ b off, ao = some ⟨b, off, none⟩ ∧ b < w.heap.size ∧ ∀ i, i < rs.length → w.cell? ⟨b, off + i, none⟩ = some (.string ⟨(nth rs i).toArray⟩)
def TxtsBd (rs : Recs) : Prop := rs.length ≤ maxLen ∧ ∀ r ∈ rs, r.length ≤ maxLen
theorem TxtsAt.below {w w' : World} {ao : Option Addr} {rs : Recs} (h : TxtsAt w ao rs) (hb : Below w.heap.size w w') : TxtsAt w' ao rs := by
  rcases h with h | ⟨b, off, h1, h2, h3⟩
  · exact .inl h
  · exact .inr ⟨b, off, h1, Nat.lt_of_lt_of_le h2 hb.size, fun i hi => (hb.cell (p := ⟨b, off + i, none⟩) h2).trans (h3 i hi)⟩

theorem is_txts {P : Program} {H : Type} {enc : TypeId × Value → H} {W : World} {r : Reach} {base : Nat} {t e : TypeId} {v : Value} {d : DataW H} {p : List MemPlace}
    (ht : P.underlying t = some (.slice e)) (he : P.underlying e = some .string) (ce : P.cellsOf e = 1)
    (hv : Value.okWide P W r base t v) (h : DataW.Trod enc P W 0 (fun _ => true) true t v d p) :
    ∃ a cap rs, v = .slice a (List.length rs) cap ∧ TxtsAt W a rs ∧ TxtsBd rs := by
  obtain ⟨va, vl, vc, rfl⟩ := okWide_slice ht hv
  obtain ⟨fuel, h1⟩ := h
  rcases open_strs ht he ce h1 with ⟨e1, _⟩ | ⟨a, len, cap, m, Sx, e1, _, hlc, hm, hmm, _, hx⟩
  · have e2 : Value.slice va vl vc = .slice none 0 0 := by simpa [Value.cells] using e1
    exact ⟨none, 0, [], e2, .inl rfl, Nat.zero_le _, fun f hf => by cases hf⟩
  · simp at hmm
    subst hmm
    have e2 : Value.slice va vl vc = .slice (some a) len m := by simpa [Value.cells] using e1
    refine ⟨some a, m, (List.range len).map fun i => (Sx i).data.toList, by rw [e2]; simp, ?_, by rw [List.length_map, List.length_range]; exact Nat.le_trans hlc hm, fun f hf => by
      obtain ⟨i, hi, rfl⟩ := List.mem_map.1 hf
      have := (hx i (by have := List.mem_range.1 hi; omega)).2
      rw [Array.length_toList]; exact this⟩
    by_cases hz : len = 0
    · subst hz; exact .inl rfl
    · obtain ⟨bk, off, spot⟩ := a
      have hc0 := (hx 0 (by omega)).1
      have hspot : spot = none := by simpa [Addr.add] using World.cell?_spot hc0
      subst hspot
      refine .inr ⟨bk, off, rfl, World.block_lt_of_cell? W _ hc0, fun i hi => ?_⟩
      have hi' : i < len := by simpa using hi
      have hat : nth ((List.range len).map fun i => (Sx i).data.toList) i = (Sx i).data.toList := by simp [nth, List.getD_eq_getElem?_getD, hi']
      have g0 := (hx i (by omega)).1
      rw [add_plain] at g0
      rw [hat, g0]

def scell (r : List UInt8) : Value := .string ⟨r.toArray⟩
def scells (rs : Recs) : List Value := rs.map scell
theorem scells_len (rs : Recs) : (scells rs).length = rs.length := by simp [scells]
theorem scells_append (a b : Recs) : scells (a ++ b) = scells a ++ scells b := by simp [scells]
theorem scells_at (rs : Recs) (k : Nat) (h : k < rs.length) : (scells rs)[k]? = some (.string ⟨(nth rs k).toArray⟩) := by
  simp [scells, scell, nth, List.getD_eq_getElem?_getD, h]
theorem scells_set (rs : Recs) (k : Nat) (r : List UInt8) : (scells rs).set k (.string ⟨r.toArray⟩) = scells (rs.set k r) := by
  show (rs.map scell).set k (scell r) = (rs.set k r).map scell
  rw [List.map_set]
theorem scells_one (rs : Recs) : ∀ u ∈ scells rs, u.oneCell' = true := by
  intro u hu
  simp only [scells, List.mem_map] at hu
  obtain ⟨r, _, rfl⟩ := hu
  rfl
theorem infoS : (Tryz.prog.info? 9).map (fun i => (i.zero, i.size, i.bytes)) = some (some (.string ⟨#[]⟩), 1, 16) := by kernel_rfl
theorem cells_repS (m : Nat) : (madeCells (Value.string ⟨#[]⟩).cells (m * 1)).toList = scells (List.replicate m []) := by
  rw [Nat.mul_one]
  refine (toList_madeCells_one _ _).trans ?_
  simp [scells, scell]

theorem keepRowS {w w' : World} {base n size : Nat} {t : TypeId} {v : Value} {xs : List Value} (h : w.ownsRow base t size v n xs) (hb : Below w.heap.size w w') : w'.ownsRow base t size v n xs := by
  obtain ⟨h1, h2⟩ := h
  refine ⟨h1, ?_⟩
  rcases h2 with h | ⟨g, cap, cur, hv, hg, hh, a1, a2, a3, a4⟩
  · exact .inl h
  · have hlt : g < w.heap.size := (Array.getElem?_eq_some_iff.1 hh).1
    exact .inr ⟨g, cap, cur, hv, hg, (hb.block g hlt).trans hh, a1, a2, a3, a4⟩
theorem txts_of_own {w : World} {base n : Nat} {t : TypeId} {v : Value} {rs : Recs} (h : w.ownsRow base t 1 v n (scells rs)) : ∃ ao cap, v = .slice ao rs.length cap ∧ TxtsAt w ao rs ∧ n = rs.length := by
  have hn : n = rs.length := by have := h.1; rw [scells_len] at this; omega
  subst hn
  rcases h.2 with ⟨rfl, hn⟩ | ⟨g, cap, cur, rfl, _⟩
  · have : rs = [] := List.eq_nil_of_length_eq_zero hn
    subst this
    exact ⟨none, 0, rfl, .inl rfl, rfl⟩
  · refine ⟨_, cap, rfl, ?_, rfl⟩
    by_cases h0 : rs = []
    · exact .inl h0
    · have hlt := (h.lt g rfl).2
      refine .inr ⟨g, 0, rfl, hlt, fun i hi => ?_⟩
      rw [Nat.zero_add, h.cellAt i (by omega)]
      exact scells_at rs i hi
theorem txts_any {w : World} {base n : Nat} {t : TypeId} {ao : Option Addr} {cap : Nat} {rs : Recs} (h : w.ownsRow base t 1 (.slice ao rs.length cap) n (scells rs)) : TxtsAt w ao rs := by
  obtain ⟨ao', cap', hv, hf, _⟩ := txts_of_own h
  obtain ⟨rfl, _⟩ : ao = ao' ∧ cap = cap' := by simpa using hv
  exact hf
theorem txts_cell {w : World} {b off : Nat} {rs : Recs} (h : TxtsAt w (some ⟨b, off, none⟩) rs) {k : Nat} (hk : k < rs.length) : w.cell? ⟨b, off + k, none⟩ = some (.string ⟨(nth rs k).toArray⟩) ∧ b < w.heap.size := by
  rcases h with rfl | ⟨b', off', hq, hb, hc⟩
  · simp at hk
  · obtain ⟨rfl, rfl⟩ : b = b' ∧ off = off' := by simpa using hq
    exact ⟨hc k hk, hb⟩
theorem one_txt {w : World} {g : Nat} {r : List UInt8} (h : w.cell? ⟨g, 0, none⟩ = some (.string ⟨r.toArray⟩)) : ∀ (j : Nat) (u : Value), [Value.string ⟨r.toArray⟩][j]? = some u → w.cell? ((⟨g, 0, none⟩ : Addr).add j) = some u := by
  intro j u hj
  match j with
  | 0 => simp at hj; subst hj; simpa [Addr.add] using h
  | j + 1 => simp at hj
theorem one_oneS (r : List UInt8) : ∀ u ∈ [Value.string ⟨r.toArray⟩], u.oneCell' = true := by
  intro u hu
  simp at hu
  subst hu; rfl

/-- what a copy holds behind k rounds -/
def halfS (rs : Recs) (k : Nat) : Recs := rs.take k ++ List.replicate (rs.length - k) []
theorem halfS_all (rs : Recs) : halfS rs rs.length = rs := by simp [halfS]
theorem halfS_len (rs : Recs) (k : Nat) (h : k ≤ rs.length) : (halfS rs k).length = rs.length := by simp [halfS]; omega
theorem halfS_succ (rs : Recs) (k : Nat) (h : k < rs.length) : (halfS rs k).set k (nth rs k) = halfS rs (k + 1) := by
  unfold halfS
  rw [List.set_append, if_neg (by simp; omega), List.length_take, Nat.min_eq_left (Nat.le_of_lt h), Nat.sub_self, show rs.length - k = rs.length - (k + 1) + 1 by omega, List.replicate_succ, List.set_cons_zero, take_nth rs k h, List.append_assoc]
  rfl
theorem halfS_at (rs : Recs) (k : Nat) (h : k < rs.length) : nth (halfS rs k) k = [] := by
  simp [nth, halfS, List.getD_eq_getElem?_getD, List.getElem?_append, Nat.min_eq_left (Nat.le_of_lt h), List.getElem?_replicate]
  split <;> rfl

/-- what is left behind all texts -/
def leftTs : Recs → Int → Int
  | [], left => left
  | f :: r, left => if left - (f.length : Int) < 0 then -1 else leftTs r (left - (f.length : Int))
def leftT (rs : Recs) (left : Int) : Int := if left - (rs.length : Int) < 0 then -1 else leftTs rs (left - (rs.length : Int))
theorem leftTs_step (rs : Recs) (k : Nat) (left : Int) (h : k < rs.length) : leftTs (rs.drop k) left = if left - ((nth rs k).length : Int) < 0 then -1 else leftTs (rs.drop (k + 1)) (left - ((nth rs k).length : Int)) := by
  rw [List.drop_eq_getElem_cons h, nth_is h]; rfl
def sumT (rs : Recs) : Nat := (rs.map List.length).sum
theorem leftTs_sum (rs : Recs) : ∀ left, 0 ≤ leftTs rs left → 0 ≤ left → (sumT rs : Int) ≤ left := by
  induction rs with
  | nil => intro left _ h; simpa [sumT] using h
  | cons f r ih =>
    intro left h hl
    simp only [leftTs] at h
    split at h
    · omega
    · have := ih _ h (by omega)
      simp only [sumT, List.map_cons, List.sum_cons] at this ⊢
      omega
theorem leftT_sum {rs : Recs} {left : Int} (h : 0 ≤ leftT rs left) : (rs.length : Int) + sumT rs ≤ left := by
  unfold leftT at h
  split at h
  · omega
  · have := leftTs_sum rs _ h (by omega)
    omega
theorem sumT_mem {rs : Recs} {f : List UInt8} (h : f ∈ rs) : f.length ≤ sumT rs := by
  induction rs with
  | nil => cases h
  | cons g r ih =>
    simp only [sumT, List.map_cons, List.sum_cons] at ih ⊢
    rcases List.mem_cons.1 h with rfl | hr
    · omega
    · have := ih hr; omega

end Go.Proofs.YtbncdhfmhokgeaaGreatDoor

/- The library's slices.Grow (at nil) and slices.Concat (of three), at slices of fields. -/
namespace Go.Proofs.YtbncdhfmhokgeaaGreatDoor
open Go.RowKit
set_option maxRecDepth 100000

theorem flds_news {w : World} {b off : Nat} {xs : List Fld} (h : FldsAt w (some ⟨b, off, none⟩) xs) : ∀ j u, (fcells xs)[j]? = some u → w.cell? ((⟨b, off, none⟩ : Addr).add j) = some u := by
  intro j u hj
  have hlt : j < xs.length * 2 := by
    rw [← fcells_len]
    exact (List.getElem?_eq_some_iff.1 hj).1
  rcases h with rfl | ⟨b', off', hq, hb, hc⟩
  · simp at hlt
  · obtain ⟨rfl, rfl⟩ : b = b' ∧ off = off' := by simpa using hq
    have e : ((⟨b, off, none⟩ : Addr).add j) = ⟨b, off + j, none⟩ := by unfold Addr.add; split <;> simp_all
    have hk := hc (j / 2) (by omega)
    have hf := fcells_at xs (j / 2) (by omega)
    rw [e]
    rcases Nat.mod_two_eq_zero_or_one j with m | m
    · have hj' : j = j / 2 * 2 := by omega
      rw [hj', hf.1] at hj
      rw [hj', hk.1]; exact hj
    · have hj' : j = j / 2 * 2 + 1 := by omega
      rw [hj', hf.2] at hj
      rw [hj', ← Nat.add_assoc, hk.2]; exact hj

theorem zeroC (n : Nat) : (Builtin.zeroCells (Value.agg #[.int .i64 0, .string ⟨#[]⟩]).cells n).size = n * 2 := by rw [size_zeroCells]; rfl

set_option maxHeartbeats 800000 in
theorem growF_nil (n : Nat) (w : World) (h0 : 0 < n) (hn : n ≤ 4194304) :
    Calls Tryz.prog 113 #[.slice none 0 0, .int .i64 n] w fun e w' => ∃ cap, e = .returned (.slice (some ⟨w.heap.size, 0, none⟩) 0 cap) ∧
      w'.ownsRow w.heap.size 60 2 (.slice (some ⟨w.heap.size, 0, none⟩) 0 cap) 0 [] ∧ Below w.heap.size w w' := by
  obtain ⟨i0, hi, hz0, hz1, hz2⟩ := info_parts infoF
  have hge := grownCap_ge w n 0 60
  have hcm := grownCap_le_maxLen w n 0 60 (by unfold maxLen; omega)
  have hr := fun ty => Lib.run_append_nil_zeros (P := Tryz.prog) w 24 3 ty 60 i0 _ .i64 .i64 Tryz.underlying24 Tryz.underlying3 hi hz0 n h0 (by omega) (by omega) (by rw [hz2]; omega)
  obtain ⟨cap, hcap⟩ : ∃ c, grownCap w n 0 60 = c := ⟨_, rfl⟩
  rw [hcap] at hge hcm
  have hO : (w.drew.alloc (.cells (Builtin.zeroCells (Value.agg #[.int .i64 0, .string ⟨#[]⟩]).cells n ++ Builtin.zeroCells (Value.agg #[.int .i64 0, .string ⟨#[]⟩]).cells (cap - n)) 60)).ownsRow w.heap.size 60 2 (.slice (some ⟨w.heap.size, 0, none⟩) 0 cap) 0 [] :=
    World.ownsRow_made w.drew _ cap (Nat.le_refl _) hcm (by rw [Array.size_append, zeroC, zeroC, ← Nat.add_mul]; congr 1; omega)
  have HO : Hid ((w.drew.alloc (.cells (Builtin.zeroCells (Value.agg #[.int .i64 0, .string ⟨#[]⟩]).cells n ++ Builtin.zeroCells (Value.agg #[.int .i64 0, .string ⟨#[]⟩]).cells (cap - n)) 60)).ownsRow w.heap.size 60 2 (.slice (some ⟨w.heap.size, 0, none⟩) 0 cap) 0 []) := hO
  have hle : 0 ≤ cap := Nat.zero_le _
  have hcm' : cap ≤ 9223372036854775807 := by unfold maxLen at hcm; omega
  have hr2 := fun ty => hr ty
  rw [hcap] at hr2
  go_enter Tryz.func113, Tryz.ntmps113
  clear hr hcap hO hge hcm
  go_wp2_with (at_builtin; refine Lib.wpList_append_run _ rfl _ _ _ _ rfl _ _ rfl rfl _ _ (hr2 _) ?_)
  go_ret
  exact ⟨cap, rfl, HO.out, by go_grown⟩

theorem run_append_fl (w : World) (base : Nat) (ty : TypeId) (v : Value) (n : Nat) (xs : List Value) (hown : w.ownsRow base 60 2 v n xs) (ao : Option Addr) (c : Nat) (fs : List Fld) (hz : FldsAt w ao fs)
    (hn : n + fs.length ≤ 5000000) (hbase : base ≤ w.heap.size) :
    ∃ v' w', (Builtin.append_ #[24, 24] ty #[v, .slice ao fs.length c]).run Tryz.prog w = .ok v' w' ∧ w'.ownsRow base 60 2 v' (n + fs.length) (xs ++ fcells fs) ∧ w.grownBy w' v.ownBlock ∧
      (v ≠ .slice none 0 0 → v' ≠ .slice none 0 0) ∧ (v'.ownBlock = v.ownBlock ∨ v'.ownBlock = some w.heap.size) := by
  obtain ⟨i0, hi, hz0, hz1, hz2⟩ := info_parts infoF
  cases ao with
  | none =>
    have hf : fs = [] := by
      rcases hz with h | ⟨b, off, h, _⟩
      · exact h
      · cases h
    subst hf
    refine ⟨v, w, ?_, by simpa [fcells] using hown, ⟨rfl, rfl, rfl, Nat.le_refl _, fun _ _ _ => rfl⟩, id, .inl rfl⟩
    have hu := Tryz.underlying24
    rcases hown.2 with ⟨rfl, rfl⟩ | ⟨g, cap, cur, rfl, hbg, hg, hnc, hcm, hcs, htake⟩
    · simp [Builtin.append_, run_underlying hu, sizeOf, typeInfo, hi, Builtin.lenOf, Builtin.firstCells]
    · simp [Builtin.append_, run_underlying hu, sizeOf, typeInfo, hi, Builtin.lenOf, Builtin.firstCells, loadCells, hnc, storeCells]
  | some a =>
    have hnews : ∀ j u, (fcells fs)[j]? = some u → w.cell? (a.add j) = some u := by
      rcases hz with rfl | ⟨b, off, hq, hb, hc⟩
      · intro j u hj; simp [fcells] at hj
      · obtain rfl : a = ⟨b, off, none⟩ := by simpa using hq
        exact flds_news (.inr ⟨b, off, rfl, hb, hc⟩)
    obtain ⟨v', w', h1, h2, h3, h4, h5⟩ := run_append_own_at (P := Tryz.prog) w base 24 ty 60 i0 _ 2 24 Tryz.underlying24 hi hz0 hz1 hz2 rfl (by decide) v n xs hown a fs.length c (fcells fs) (fcells_len fs) hnews (fcells_one fs) (by unfold maxLen; omega) (by omega) hbase
    exact ⟨v', w', h1, h2, h3, fun hne h => hne (h4.1 h).1, h5⟩

theorem wpList_append_fl {ops : Array Oper} {rest : List Oper} {o : Oper} {a : Act} {Q : Exit → Act → World → Prop} (w : World) (hgd : o.guard = none) (s x : Operand)
    (ho : o.op = .call { callee := .builtin .append, args := #[s, x], argTypes := #[24, 24] }) (base : Nat) (v : Value) (n : Nat) (xs : List Value) (hs : a.eval s = v) (hown : w.ownsRow base 60 2 v n xs)
    (ao : Option Addr) (c : Nat) (fs : List Fld) (hx : a.eval x = .slice ao fs.length c) (hz : FldsAt w ao fs) (hn : n + fs.length ≤ 5000000) (hbase : base ≤ w.heap.size)
    (h : ∀ v' w', w'.ownsRow base 60 2 v' (n + fs.length) (xs ++ fcells fs) → w.grownBy w' v.ownBlock → wpList Tryz.prog ops Q rest (a.put o.dst v') w') : wpList Tryz.prog ops Q (o :: rest) a w := by
  obtain ⟨v', w', hr, h1, h2, _⟩ := run_append_fl w base o.type v n xs hown ao c fs hz hn hbase
  exact Lib.wpList_append_run w hgd s x _ _ ho _ _ hs hx v' w' hr (h v' w' h1 h2)

/-- at a step of a region that draws its order: append of whatever slice of fields onto a row of one's own that is not nil -/
theorem step_append_fl {ops : Array Oper} {o : Oper} {a : Act} {w : World} {K : Act → World → Prop} {Q : Exit → Act → World → Prop} {E : Prop} (hgd : o.guard = none) (s x : Operand)
    (ho : o.op = .call { callee := .builtin .append, args := #[s, x], argTypes := #[24, 24] }) (base G n cap : Nat) (xs : List Value) (hs : a.eval s = .slice (some ⟨G, 0, none⟩) n cap) (hown : w.ownsRow base 60 2 (.slice (some ⟨G, 0, none⟩) n cap) n xs)
    (ao : Option Addr) (c : Nat) (fs : List Fld) (hx : a.eval x = .slice ao fs.length c) (hz : FldsAt w ao fs) (hn : n + fs.length ≤ 5000000) (hbase : base ≤ w.heap.size)
    (h : ∀ g cap' w', w'.ownsRow base 60 2 (.slice (some ⟨g, 0, none⟩) (n + fs.length) cap') (n + fs.length) (xs ++ fcells fs) → w.grownBy w' (some G) → (g = G ∨ w.heap.size ≤ g) → K (a.put o.dst (.slice (some ⟨g, 0, none⟩) (n + fs.length) cap')) w') :
    if Region.wanted o (yielded ops a.tmps) = true then Oper.wp Tryz.prog o a w K Q else E := by
  have hw : Region.wanted o (yielded ops a.tmps) = true := by simp [Region.wanted, hgd]
  rw [if_pos hw]
  obtain ⟨v', w', hr, h2, h3, h4, h5⟩ := run_append_fl w base o.type _ n xs hown ao c fs hz hn hbase
  have hf : ∃ g cap', v' = .slice (some ⟨g, 0, none⟩) (n + fs.length) cap' := by
    rcases h2.2 with ⟨hv, _⟩ | ⟨g, cap', cur, hv, _⟩
    · exact absurd hv (h4 (by simp))
    · exact ⟨g, cap', hv⟩
  obtain ⟨g, cap', rfl⟩ := hf
  unfold Oper.wp execOp
  simp only [ho, resolve, invoke, builtin, Sem.run_bind, Sem.run_pure, Result.andThen_ok, List.map_toArray, List.map_cons, List.map_nil, hs, hx, hr]
  refine h g cap' w' h2 h3 ?_
  rcases h5 with h5 | h5
  · left; simpa [Value.ownBlock] using h5
  · right; have : g = w.heap.size := by simpa [Value.ownBlock] using h5
    omega

/-- three slices of fields, laid side by side in a block -/
def Three (w : World) (g : Nat) (a1 : Option Addr) (c1 : Nat) (a2 : Option Addr) (c2 : Nat) (a3 : Option Addr) (c3 : Nat) (xs ys zs : List Fld) : Prop :=
  w.cell? ⟨g, 0, none⟩ = some (.slice a1 xs.length c1) ∧ w.cell? ⟨g, 1, none⟩ = some (.slice a2 ys.length c2) ∧ w.cell? ⟨g, 2, none⟩ = some (.slice a3 zs.length c3) ∧
  FldsAt w a1 xs ∧ FldsAt w a2 ys ∧ FldsAt w a3 zs
theorem Three.below {w w' : World} {g : Nat} {a1 a2 a3 : Option Addr} {c1 c2 c3 : Nat} {xs ys zs : List Fld} (h : Three w g a1 c1 a2 c2 a3 c3 xs ys zs) (hb : Below w.heap.size w w') : Three w' g a1 c1 a2 c2 a3 c3 xs ys zs := by
  obtain ⟨h1, h2, h3, h4, h5, h6⟩ := h
  have hg : g < w.heap.size := World.block_lt_of_cell? w _ h1
  exact ⟨(hb.cell (p := ⟨g, 0, none⟩) hg).trans h1, (hb.cell (p := ⟨g, 1, none⟩) hg).trans h2, (hb.cell (p := ⟨g, 2, none⟩) hg).trans h3, h4.below hb, h5.below hb, h6.below hb⟩

set_option maxHeartbeats 1600000 in
theorem concatF_any (g : Nat) (a1 : Option Addr) (c1 : Nat) (a2 : Option Addr) (c2 : Nat) (a3 : Option Addr) (c3 : Nat) (xs ys zs : List Fld) (w : World) (h : Three w g a1 c1 a2 c2 a3 c3 xs ys zs) (hy : 0 < ys.length) (hx : xs.length ≤ 1048576) (hy2 : ys.length ≤ 1048576) (hz2 : zs.length ≤ 1048576) :
    Calls Tryz.prog 69 #[.slice (some ⟨g, 0, none⟩) 3 3] w fun e w' => ∃ v, e = .returned v ∧
      w'.ownsRow w.heap.size 60 2 v (xs.length + ys.length + zs.length) (fcells (xs ++ ys ++ zs)) ∧ Below w.heap.size w w' := by
  have HT : Hid (Three w g a1 c1 a2 c2 a3 c3 xs ys zs) := h
  obtain ⟨e1, e2, e3, _, _, _⟩ := h
  go_enter Tryz.func69, Tryz.ntmps69
  go_wp2
  refine wp_loop_rounds 4 ?_
  rw [rounds_succ]
  go_wp2
  rw [rounds_succ]
  go_wp2
  rw [rounds_succ]
  go_wp2
  rw [rounds_succ]
  go_wp2_with fail
  rw [show (xs.length : Int) + (ys.length : Int) + (zs.length : Int) = ((xs.length + ys.length + zs.length : Nat) : Int) by omega]
  refine (growF_nil _ _ (by omega) (by omega)).mono ?_
  rintro e w1 ⟨cap, rfl, h1, q1⟩
  obtain ⟨e4, e5, e6, f1, f2, f3⟩ := HT.out.below q1
  have N1 : Hid _ := f1
  have HO1 : Hid (w1.ownsRow w.heap.size 60 2 (.slice (some ⟨w.heap.size, 0, none⟩) 0 cap) 0 []) := h1
  have hs1 := q1.size
  clear e1 e2 e3 h1 f1 f2 f3
  go_wp2
  refine wp_loop_rounds 4 ?_
  rw [rounds_succ]
  go_wp2_with (at_builtin; refine wpList_append_fl _ rfl (.tmp 31) (.tmp 32) rfl w.heap.size _ 0 _ rfl HO1.out a1 c1 xs rfl N1.out (by omega) hs1 ?_; intro v2 w2 o2 g2)
  have q2 : Below w.heap.size w w2 := q1.grown g2 hs1 (fun k hk => (HO1.out.lt k hk).1)
  obtain ⟨_, d2, d3, f1, f2, f3⟩ := HT.out.below q2
  have N2 : Hid _ := f2
  have HO2 : Hid (w2.ownsRow w.heap.size 60 2 v2 (0 + xs.length) ([] ++ fcells xs)) := o2
  have hs2 := q2.size
  clear e4 e5 e6 f1 f2 f3 N1 o2 g2 HO1 hs1
  go_wp2
  rw [rounds_succ]
  go_wp2_with (at_builtin; refine wpList_append_fl _ rfl (.tmp 31) (.tmp 32) rfl w.heap.size _ _ _ rfl HO2.out a2 c2 ys rfl N2.out (by omega) hs2 ?_; intro v3 w3 o3' g3)
  have q3 : Below w.heap.size w w3 := q2.grown g3 hs2 (fun k hk => (HO2.out.lt k hk).1)
  obtain ⟨_, _, i3, f1, f2, f3⟩ := HT.out.below q3
  have N3 : Hid _ := f3
  have HO3 : Hid (w3.ownsRow w.heap.size 60 2 v3 (0 + xs.length + ys.length) ([] ++ fcells xs ++ fcells ys)) := o3'
  have hs3 := q3.size
  clear d2 d3 f1 f2 f3 N2 o3' g3 HO2 hs2
  go_wp2
  rw [rounds_succ]
  go_wp2_with (at_builtin; refine wpList_append_fl _ rfl (.tmp 31) (.tmp 32) rfl w.heap.size _ _ _ rfl HO3.out a3 c3 zs rfl N3.out (by omega) hs3 ?_; intro v4 w4 o4 g4)
  have q4 : Below w.heap.size w w4 := q3.grown g4 hs3 (fun k hk => (HO3.out.lt k hk).1)
  have HO4 : Hid (w4.ownsRow w.heap.size 60 2 v4 (xs.length + ys.length + zs.length) (fcells (xs ++ ys ++ zs))) := by
    rw [fcells_append, fcells_append]
    rw [Nat.zero_add, List.nil_append] at o4
    exact o4
  clear i3 N3 o4 g4 HO3 hs3
  go_wp2
  rw [rounds_succ]
  go_wp2
  go_ret
  exact ⟨v4, rfl, HO4.out, q4⟩

end Go.Proofs.YtbncdhfmhokgeaaGreatDoor

/- The contracts of the functions that lay a message's parts: its fields' numbers; a field's bytes, the program's. -/
namespace Go.Proofs.YtbncdhfmhokgeaaGreatDoor
open Go.RowKit

theorem numsF_len (fs : List Fld) : (numsF fs).length = fs.length := by simp [numsF]
theorem numsF_at (fs : List Fld) (k : Nat) (h : k < fs.length) : (numsF fs).getD k 0 = (at0 fs k).1 := by
  simp [numsF, at0, List.getD_eq_getElem?_getD, h]

set_option maxRecDepth 100000 in
set_option maxHeartbeats 800000 in
theorem numsOf_any (ao : Option Addr) (cap : Nat) (fs : List Fld) (w : World) (hz : FldsAt w ao fs) (hn : fs.length ≤ 1048576) :
    Calls Tryz.prog 34 #[.slice ao fs.length cap] w fun e w' => e = .returned (.slice (some ⟨w.heap.size, 0, none⟩) fs.length fs.length) ∧
      w'.ownsRow w.heap.size 3 1 (.slice (some ⟨w.heap.size, 0, none⟩) fs.length fs.length) fs.length ((numsF fs).map (Value.int .i64)) ∧ Below w.heap.size w w' := by
  obtain ⟨i0, hi, hz0, hz1, hz2⟩ := info_parts info3
  have hnl := numsF_len fs
  have hm0 : (madeCells (Value.int .i64 0).cells (fs.length * 1)).toList = half (numsF fs) 0 := by
    rw [half_zero, Nat.mul_one, hnl]; exact toList_madeCells_one _ _
  have HC : Hid (∀ i, i < fs.length → ∃ b off, ao = some ⟨b, off, none⟩ ∧ b < w.heap.size ∧ w.cell? ⟨b, off + i * 2, none⟩ = some (.int .i64 (at0 fs i).1) ∧ w.cell? ⟨b, off + i * 2 + 1, none⟩ = some (.string ⟨(at0 fs i).2.toArray⟩)) := by
    rcases hz with rfl | ⟨b, off, rfl, hb, hcell⟩
    · intro i hi; simp at hi
    · exact fun i hi => ⟨b, off, rfl, hb, hcell i hi⟩
  clear hz
  go_enter Tryz.func34, Tryz.ntmps34
  go_wp2_with (refine wpList_make_full _ rfl (.tmp 7) (.tmp 7) 55 rfl w.heap.size 3 i0 (.int .i64 0) 1 Tryz.underlying55 hi hz0 hz1 .i64 .i64 _ _ fs.length rfl rfl rfl rfl (by rw [hz2]; omega) (by unfold maxLen; omega) (Nat.le_refl _) ?_; intro w1 hown hg)
  rw [hm0] at hown
  have hb1 : Below w.heap.size w w1 := (Below.refl _ _).grown hg (Nat.le_refl _) (fun k hk => by cases hk)
  have HNL : Hid _ := hnl
  clear hm0 hg hnl
  go_loopw [11] (fun i wr => ∃ k : Nat, k ≤ fs.length ∧ i = .int .i64 k ∧ wr.ownsRow w.heap.size 3 1 (.slice (some ⟨w.heap.size, 0, none⟩) fs.length fs.length) fs.length (half (numsF fs) k) ∧ Below w.heap.size w wr) (fun i _ => fs.length - (intOf i).toNat)
  case atStart => exact ⟨0, Nat.zero_le _, rfl, hown, hb1⟩
  case round =>
    obtain ⟨k, hk, rfl, ho, hbr⟩ := hrel
    clear hown hb1
    by_cases hlt : k < fs.length
    · obtain ⟨b, off, rfl, hb, d1, d2⟩ := HC.out k hlt
      have c1 : wr.cell? ⟨b, off + k * 2, none⟩ = some (.int .i64 (at0 fs k).1) := (hbr.cell (p := ⟨b, off + k * 2, none⟩) hb).trans d1
      have c2 : wr.cell? ⟨b, off + k * 2 + 1, none⟩ = some (.string ⟨(at0 fs k).2.toArray⟩) := (hbr.cell (p := ⟨b, off + k * 2 + 1, none⟩) hb).trans d2
      have hki : (k : Int) < (fs.length : Int) := by omega
      have hlt' : k < (numsF fs).length := by rw [HNL.out]; exact hlt
      have c3 : wr.cell? ⟨w.heap.size, k, none⟩ = some (.int .i64 0) := by rw [ho.cellAt k (by omega), half_at _ k hlt']
      have c4 : wr.frozen? ⟨w.heap.size, k, none⟩ = false := ho.frozenAt k
      have hws : w.heap.size < wr.heap.size := World.block_lt_of_cell? wr _ c3
      have hna := numsF_at fs k hlt
      obtain ⟨⟨n, s⟩, hf⟩ : ∃ f, at0 fs k = f := ⟨_, rfl⟩
      rw [hf] at c1 c2 hna
      simp only at c1 c2 hna
      have HR : Hid (((wr.setCell ⟨w.heap.size, k, none⟩ (.int .i64 n)).alloc (.cells #[.int .i64 n, .string ⟨s.toArray⟩] 60)).ownsRow w.heap.size 3 1 (.slice (some ⟨w.heap.size, 0, none⟩) fs.length fs.length) fs.length (half (numsF fs) (k + 1))) := by
        have R := ((ho.stored k (.int .i64 n)).1).alloc (.cells #[.int .i64 n, .string ⟨s.toArray⟩] 60)
        rw [half_succ _ k hlt', hna]
        exact R
      have HBB : Hid (Below w.heap.size w ((wr.setCell ⟨w.heap.size, k, none⟩ (.int .i64 n)).alloc (.cells #[.int .i64 n, .string ⟨s.toArray⟩] 60))) := (hbr.setCell (Nat.le_refl _) _).alloc (by simp; exact hbr.size) _
      have hne1 : ¬ wr.heap.size = w.heap.size := by omega
      have hne2 : ¬ w.heap.size = wr.heap.size := by omega
      clear hf hna ho d1 d2
      go_wp2
      go_roundw
      case rel => exact ⟨k + 1, by omega, by go_num, HR.out, HBB.out⟩
      case measure => simp [intOf]; omega
    · have hke : k = fs.length := by omega
      subst hke
      rw [show half (numsF fs) fs.length = (numsF fs).map (Value.int .i64) from by rw [← HNL.out]; exact half_all _] at ho
      go_wp2
      go_ret
      exact ⟨rfl, ho, hbr⟩

end Go.Proofs.YtbncdhfmhokgeaaGreatDoor

/- The contracts of the program's small functions over records: their lengths as bytes, the records laid one behind the other. -/
namespace Go.Proofs.YtbncdhfmhokgeaaGreatDoor
open Go.RowKit
set_option maxRecDepth 100000

theorem be4_cells (n : Nat) (h : n ≤ 1000000) : [Value.int .u8 ((n : Int) / 16777216), .int .u8 ((n : Int) / 65536), .int .u8 ((n : Int) / 256 % 256), .int .u8 ((n : Int) % 256)] = (be4 n).map cell := by
  have a : (n : Int) / 16777216 = ((n / 16777216 % 256 : Nat) : Int) := by omega
  have b : (n : Int) / 65536 = ((n / 65536 % 256 : Nat) : Int) := by omega
  have c : (n : Int) / 256 % 256 = ((n / 256 % 256 : Nat) : Int) := by omega
  have d : (n : Int) % 256 = ((n % 256 : Nat) : Int) := by omega
  rw [a, b, c, d]
  simp [be4, cell, UInt8.toNat_ofNat']
theorem map_cell_one (l : List UInt8) : ∀ u ∈ l.map cell, u.oneCell' = true := by
  intro u hu
  simp only [List.mem_map] at hu
  obtain ⟨c, _, rfl⟩ := hu
  rfl
theorem strCells_is (l : List UInt8) : Lib.strCells ⟨l.toArray⟩ = l.map cell := rfl
theorem news4 (w : World) (a b c d : Value) (t : TypeId) : ∀ (j : Nat) (u : Value), [a, b, c, d][j]? = some u → (w.alloc (.cells #[a, b, c, d] t)).cell? ((⟨w.heap.size, 0, none⟩ : Addr).add j) = some u := by
  intro j u h
  match j with
  | 0 => simp at h; subst h; simp [Addr.add, go_sem]
  | 1 => simp at h; subst h; simp [Addr.add, go_sem]
  | 2 => simp at h; subst h; simp [Addr.add, go_sem]
  | 3 => simp at h; subst h; simp [Addr.add, go_sem]
  | j + 4 => simp at h
theorem one4 (a b c d : Int) : ∀ u ∈ [Value.int .u8 a, .int .u8 b, .int .u8 c, .int .u8 d], u.oneCell' = true := by
  intro u hu
  simp at hu
  rcases hu with rfl | rfl | rfl | rfl <;> rfl

set_option maxRecDepth 100000 in
set_option maxHeartbeats 800000 in
theorem layLength_any (base n : Nat) (v : Value) (m : Nat) (l : List UInt8) (w : World) (ho : w.ownsRow base 5 1 v m (l.map cell)) (hb : base ≤ w.heap.size) (hm : m ≤ 10000000) (hn : n ≤ 1000000) :
    Calls Tryz.prog 141 #[v, .int .i64 n] w fun e w' => ∃ v', e = .returned v' ∧ w'.ownsRow base 5 1 v' (m + 4) ((l ++ be4 n).map cell) ∧ w.grownBy w' v.ownBlock := by
  obtain ⟨i0, hi, hz0, hz1, hz2⟩ := info_parts info5
  have HE : Hid _ := be4_cells n hn
  have HO : Hid (w.ownsRow base 5 1 v m (l.map cell)) := ho
  clear ho
  go_enter Tryz.func141, Tryz.ntmps141
  go_wp2_with (at_builtin; refine wpList_append_own _ rfl (.tmp 5) (.tmp 17) 22 rfl base 5 i0 (.int .u8 0) 1 1 Tryz.underlying22 hi hz0 hz1 hz2 rfl (by decide) v m _ rfl (HO.out.alloc _) ⟨w.heap.size, 0, none⟩ 4 4 [.int .u8 ((n : Int) / 16777216), .int .u8 ((n : Int) / 65536), .int .u8 ((n : Int) / 256 % 256), .int .u8 ((n : Int) % 256)] rfl rfl (news4 _ _ _ _ _ _) (one4 _ _ _ _) (by unfold maxLen; omega) (by omega) (by simp; omega) ?_; intro v' w4 ho4 hg4 _)
  have HR : Hid (w4.ownsRow base 5 1 v' (m + 4) ((l ++ be4 n).map cell)) := by rw [Hid, List.map_append, ← HE.out]; exact ho4
  have HG : Hid (w.grownBy w4 v.ownBlock) := (World.grownBy_alloc w _ _).trans hg4
  clear ho4 hg4
  go_wp2
  go_ret
  exact ⟨v', rfl, HR.out, HG.out⟩

set_option maxHeartbeats 400000 in
theorem recordOk_any (r : List UInt8) (w : World) (hr : r.length ≤ 9223372036854775807) :
    Calls Tryz.prog 103 #[.string ⟨r.toArray⟩] w fun e w' => e = .returned (.bool (recOk r)) ∧ w' = w := by
  by_cases h0 : (0 : Int) < (r.length : Int)
  · by_cases h1 : (r.length : Int) ≤ 3000
    · have HE : Hid (recOk r = true) := by simp [Hid, recOk]; omega
      go_enter Tryz.func103, Tryz.ntmps103
      go_wp2
      go_ret
      exact ⟨one_bool (by rw [HE.out]), rfl⟩
    · have HE : Hid (recOk r = false) := by simp [Hid, recOk]; omega
      go_enter Tryz.func103, Tryz.ntmps103
      go_wp2
      go_ret
      exact ⟨one_bool (by rw [HE.out]), rfl⟩
  · have HE : Hid (recOk r = false) := by simp [Hid, recOk]; omega
    go_enter Tryz.func103, Tryz.ntmps103
    go_wp2
    go_ret
    exact ⟨one_bool (by rw [HE.out]), rfl⟩

set_option maxHeartbeats 400000 in
theorem blocksFor_any (n : Nat) (w : World) (hn : n ≤ 10000000) :
    Calls Tryz.prog 105 #[.int .i64 n] w fun e w' => e = .returned (.int .i64 (nBlk n : Nat)) ∧ w' = w := by
  have HE : Hid (((n : Int) + 1012 - 1) / 1012 = ((nBlk n : Nat) : Int)) := by unfold nBlk; rw [Hid]; omega
  go_enter Tryz.func105, Tryz.ntmps105
  go_wp2
  go_ret
  exact ⟨one_int HE.out, rfl⟩

/-- what laying records hands back -/
def LaidR (w : World) (l : List UInt8) (e : Ending) (w' : World) : Prop :=
  ∃ g c, e = .returned (.slice (some ⟨g, 0, none⟩) l.length c) ∧ w'.ownsRow w.heap.size 5 1 (.slice (some ⟨g, 0, none⟩) l.length c) l.length (l.map cell) ∧ Below w.heap.size w w'
theorem laidR_of {w w' : World} {v : Value} {n : Nat} {l : List UInt8} (h : w'.ownsRow w.heap.size 5 1 v n (l.map cell)) (h0 : 0 < l.length) (hb : Below w.heap.size w w') : LaidR w l (.returned v) w' := by
  have hn : l.length = n := by simpa using h.1
  subst hn
  rcases h.2 with ⟨_, h1⟩ | ⟨g, c, cur, rfl, _⟩
  · omega
  · exact ⟨g, c, rfl, h, hb⟩

set_option maxRecDepth 100000 in
set_option maxHeartbeats 1600000 in
theorem layRecords_any (ao : Option Addr) (cap : Nat) (rs : Recs) (w : World) (hz : TxtsAt w ao rs) (hn : rs.length ≤ 200) (hd : ∀ r ∈ rs, r.length ≤ 3000) :
    Calls Tryz.prog 104 #[.slice ao rs.length cap] w (LaidR w (laid rs)) := by
  obtain ⟨i0, hi, hz0, hz1, hz2⟩ := info_parts info5
  have HLL : Hid (0 < (laid rs).length) := by rw [Hid, laid_len]; omega
  rcases hz with rfl | ⟨b, off, rfl, hb, hcell⟩
  · go_enter Tryz.func104, Tryz.ntmps104
    go_wp2
    refine wp_loop_rounds 1 ?_
    rw [rounds_succ]
    go_wp2_with fail
    refine (layLength_any w.heap.size 0 (.slice none 0 0) 0 [] _ (World.ownsRow_nil _ _ _ _) (Nat.le_refl _) (by omega) (by omega)).mono ?_
    rintro e w2 ⟨v2, rfl, o2, g2⟩
    have q2 : Below w.heap.size w w2 := (Below.refl _ _).grown g2 (Nat.le_refl _) (fun k hk => by cases hk)
    have HR : Hid (LaidR w (laid []) (.returned v2) w2) := laidR_of (n := 0 + 4) (by simpa [laid, layR] using o2) HLL.out q2
    clear o2 g2
    go_wp2
    go_ret
    exact HR.out
  have HC : Hid (∀ i, i < rs.length → w.cell? ⟨b, off + i, none⟩ = some (.string ⟨(nth rs i).toArray⟩)) := hcell
  have HBD : Hid (∀ k, (layR (rs.take k)).length ≤ 600800) := by
    intro k
    have h1 := layR_bd (rs := rs.take k) (fun r hr => hd r (List.mem_of_mem_take hr))
    have h2 : (rs.take k).length ≤ 200 := by rw [List.length_take]; omega
    omega
  have HD : Hid (∀ r ∈ rs, r.length ≤ 3000) := hd
  clear hcell hd
  go_enter Tryz.func104, Tryz.ntmps104
  go_wp2
  go_loopw [3, 8] (fun s i wr => ∃ (v : Value) (k : Nat), v = s ∧ k ≤ rs.length ∧ i = .int .i64 k ∧ wr.ownsRow w.heap.size 5 1 v (layR (rs.take k)).length ((layR (rs.take k)).map cell) ∧ Below w.heap.size w wr) (fun _ i _ => rs.length - (intOf i).toNat)
  case atStart => exact ⟨_, 0, rfl, Nat.zero_le _, rfl, World.ownsRow_nil _ _ _ _, Below.refl _ _⟩
  case round =>
    obtain ⟨v, k, hvs, hk, rfl, ho, hbr⟩ := hrel
    subst hvs
    have hbd := HBD.out k
    have hbs := hbr.size
    by_cases hlt : k < rs.length
    · have c1 : wr.cell? ⟨b, off + k, none⟩ = some (.string ⟨(nth rs k).toArray⟩) := (hbr.cell (p := ⟨b, off + k, none⟩) hb).trans (HC.out k hlt)
      have hki : (k : Int) < (rs.length : Int) := by omega
      have hrl := HD.out _ (nth_mem hlt)
      have hst := layR_step rs k hlt
      obtain ⟨r, hr⟩ : ∃ r, nth rs k = r := ⟨_, rfl⟩
      rw [hr] at c1 hrl hst
      obtain ⟨L, hL⟩ : ∃ L, layR (rs.take k) = L := ⟨_, rfl⟩
      rw [hL] at ho hbd hst
      have HST : Hid _ := hst
      have HO : Hid (wr.ownsRow w.heap.size 5 1 v L.length (L.map cell)) := ho
      have HLT : Hid (∀ j, v.ownBlock = some j → w.heap.size ≤ j) := fun j hj => (ho.lt j hj).1
      clear hr hL hst ho
      go_wp2_with fail
      refine (layLength_any w.heap.size r.length v L.length L _ HO.out hbs (by omega) (by omega)).mono ?_
      rintro e w2 ⟨v2, rfl, o2, g2⟩
      have q2 : Below w.heap.size w w2 := hbr.grown g2 hbs HLT.out
      have hs2 := q2.size
      have HLT2 : Hid (∀ j, v2.ownBlock = some j → w.heap.size ≤ j) := fun j hj => (o2.lt j hj).1
      have HO2 : Hid (w2.ownsRow w.heap.size 5 1 v2 (L.length + 4) ((L ++ be4 r.length).map cell)) := o2
      clear o2 g2 HO hbr
      go_wp2_with (at_builtin; refine Lib.wpList_append_own_string _ rfl (.tmp 15) (.tmp 16) 22 9 rfl w.heap.size 5 i0 Tryz.underlying22 Tryz.underlying9 hi hz0 hz1 hz2 v2 (L.length + 4) _ rfl HO2.out ⟨r.toArray⟩ rfl (by rw [ba_size]; unfold maxLen; omega) (by rw [ba_size]; omega) hs2 ?_; intro v4 w4 o4 g4 _)
      have q4 : Below w.heap.size w w4 := q2.grown g4 hs2 HLT2.out
      have HR : Hid (w4.ownsRow w.heap.size 5 1 v4 (layR (rs.take (k + 1))).length ((layR (rs.take (k + 1))).map cell)) := by
        rw [HST.out]
        rw [strCells_is, ← List.map_append, ba_size] at o4
        rw [← List.append_assoc, List.length_append, List.length_append, be4_len]
        exact o4
      clear o4 g4 HO2
      go_wp2
      go_roundw
      case rel => exact ⟨_, k + 1, rfl, by omega, by go_num, HR.out, q4⟩
      case measure => simp [intOf]; omega
    · have hke : k = rs.length := by omega
      subst hke
      rw [List.take_length] at ho hbd
      have HO : Hid (wr.ownsRow w.heap.size 5 1 v (layR rs).length ((layR rs).map cell)) := ho
      have HLT : Hid (∀ j, v.ownBlock = some j → w.heap.size ≤ j) := fun j hj => (ho.lt j hj).1
      clear ho
      go_wp2_with fail
      refine (layLength_any w.heap.size 0 v (layR rs).length (layR rs) _ HO.out hbs (by omega) (by omega)).mono ?_
      rintro e w2 ⟨v2, rfl, o2, g2⟩
      have q2 : Below w.heap.size w w2 := hbr.grown g2 hbs HLT.out
      have HR : Hid (LaidR w (laid rs) (.returned v2) w2) := laidR_of (n := (layR rs).length + 4) o2 HLL.out q2
      clear o2 g2
      go_wp2
      go_ret
      exact HR.out

end Go.Proofs.YtbncdhfmhokgeaaGreatDoor

/- The contracts of the program's blockAt and putPieces. -/
namespace Go.Proofs.YtbncdhfmhokgeaaGreatDoor
open Go.RowKit
set_option maxRecDepth 100000

set_option maxRecDepth 100000 in
set_option maxHeartbeats 400000 in
theorem blockAt_any (g n c k : Nat) (w : World) (hk : k * 1014 + 1014 ≤ c) (hk2 : k ≤ 1000000) :
    Calls Tryz.prog 143 #[.slice (some ⟨g, 0, none⟩) n c, .int .i64 k] w fun e w' => e = .returned (.slice (some ⟨g, k * 1014, none⟩) 1014 1014) ∧ w' = w := by
  have hs := fun W => sl_lhm (g := g) (o := 0) (n := n) (c := c) (x := (k : Int) * 1014) (y := (k : Int) * 1014 + 1014) (z := (k : Int) * 1014 + 1014) (k * 1014) (k * 1014 + 1014) (k * 1014 + 1014) (by omega) (by omega) (by omega) (by omega) (Nat.le_refl _) hk (by omega) W
  rw [Nat.zero_add, Nat.add_sub_cancel_left] at hs
  go_enter Tryz.func143, Tryz.ntmps143
  go_wp2
  go_ret
  exact ⟨rfl, rfl⟩

/-- a file of which k pieces are laid -/
def partF (l : List UInt8) (k : Nat) : List UInt8 := fileM (filled l) k ++ List.replicate ((nBlk l.length - k) * 1014) 64
theorem partF_zero (l : List UInt8) : partF l 0 = List.replicate (nBlk l.length * 1014) 64 := by simp [partF, fileM]
theorem partF_all (l : List UInt8) : partF l (nBlk l.length) = fileOf l := by simp [partF, fileOf]
theorem partF_len (l : List UInt8) (k : Nat) (h : k ≤ nBlk l.length) : (partF l k).length = nBlk l.length * 1014 := by
  rw [partF, List.length_append, List.length_replicate, fileM_len _ _ (by rw [filled_len]; exact Nat.mul_le_mul_right _ h), ← Nat.add_mul, Nat.add_sub_cancel' h]
set_option maxRecDepth 20000 in
theorem piece_filled (l : List UInt8) (k : Nat) (h : k < nBlk l.length) : ((filled l).drop (k * 1012)).take 1012 = (l.drop (k * 1012)).take 1012 ++ List.replicate (1012 - ((l.drop (k * 1012)).take 1012).length) 64 := by
  have h1 := nBlk_lt l.length
  have h2 := nBlk_le l.length
  rw [filled, List.drop_append_of_le_length (by omega), List.take_append, List.take_replicate, List.length_drop]
  congr 1
  rw [List.length_take, List.length_drop]
  congr 1
  omega
set_option maxRecDepth 20000 in
theorem partF_step (l : List UInt8) (k : Nat) (h : k < nBlk l.length) : splice (partF l k) (k * 1014) ((l.drop (k * 1012)).take 1012) = partF l (k + 1) := by
  obtain ⟨A, hA⟩ : ∃ A, fileM (filled l) k = A := ⟨_, rfl⟩
  have hal : A.length = k * 1014 := by rw [← hA]; exact fileM_len _ _ (by rw [filled_len]; exact Nat.mul_le_mul_right _ (Nat.le_of_lt h))
  obtain ⟨m, hm⟩ : ∃ m, nBlk l.length = k + 1 + m := ⟨nBlk l.length - (k + 1), by omega⟩
  have hpf := piece_filled l k h
  obtain ⟨cs, hcs⟩ : ∃ cs, (l.drop (k * 1012)).take 1012 = cs := ⟨_, rfl⟩
  have hcl : cs.length ≤ 1012 := by rw [← hcs, List.length_take]; omega
  rw [hcs] at hpf ⊢
  unfold partF splice
  rw [fileM_succ, hpf, hA, hm, ← hal, List.take_left, show k + 1 + m - k = m + 1 by omega, Nat.add_sub_cancel_left]
  rw [List.drop_append, List.drop_of_length_le (by omega), List.nil_append, Nat.add_sub_cancel_left, List.drop_replicate]
  rw [show ([64, 64] : List UInt8) = List.replicate 2 64 from rfl]
  simp only [List.append_assoc, List.replicate_append_replicate]
  congr 3
  omega

set_option maxRecDepth 100000 in
set_option maxHeartbeats 3200000 in
theorem putPieces_any (b c : Nat) (l : List UInt8) (w : World) (hr : Row w b l) (h0 : 0 < l.length) (hl : l.length ≤ 700000) (hc : l.length ≤ c) (hc2 : c ≤ maxLen) :
    Calls Tryz.prog 106 #[.slice (some ⟨b, 0, none⟩) l.length c] w fun e w' => e = .returned (.string ⟨(fileOf l).toArray⟩) ∧ Below w.heap.size w w' := by
  unfold maxLen at hc2
  have hb0 : 0 < nBlk l.length := by have := nBlk_le l.length; omega
  have hb1 : nBlk l.length ≤ 700 := by unfold nBlk; omega
  have HST : Hid (∀ k, k < nBlk l.length → splice (partF l k) (k * 1014) ((l.drop (k * 1012)).take 1012) = partF l (k + 1)) := fun k hk => partF_step l k hk
  have HPL : Hid (∀ k, k ≤ nBlk l.length → (partF l k).length = nBlk l.length * 1014) := partF_len l
  have HZ : Hid _ := partF_zero l
  have HA : Hid _ := partF_all l
  have HK : Hid (∀ k, k < nBlk l.length → k * 1012 < l.length) := fun k hk => by have := nBlk_lt l.length; omega
  obtain ⟨M, hM⟩ : ∃ M, nBlk l.length = M := ⟨_, rfl⟩
  rw [hM] at hb0 hb1 HST HPL HZ HA HK
  have HR : Hid (Row w b l) := hr
  have hblt := hr.lt
  have HM : Hid _ := hM
  clear hr hM
  go_enter Tryz.func106, Tryz.ntmps106
  go_wp2_with fail
  refine (blocksFor_any l.length _ (by omega)).mono ?_
  rintro e w1 ⟨rfl, hw1⟩
  rw [hw1, HM.out]
  clear hw1 w1
  go_wp2_with fail
  rw [show (M : Int) * 1014 = ((M * 1014 : Nat) : Int) by omega]
  refine (repeat_any w.heap.size (M * 1014) 1 _ (by simp [go_sem]) (by omega) (by omega)).mono ?_
  rintro e w2 ⟨rfl, hrow, b2⟩
  rw [World.size_alloc] at hrow ⊢
  obtain ⟨g, hg⟩ : ∃ g, w.heap.size + 1 = g := ⟨_, rfl⟩
  rw [hg] at hrow ⊢
  have q2 : Below w.heap.size w w2 := Below.trans (by go_grown) (b2.mono (by simp))
  rw [← HZ.out] at hrow
  have hgb : w.heap.size < g := by omega
  clear b2 hg
  go_wp2
  go_loopw [14] (fun i wr => ∃ k : Nat, k ≤ M ∧ i = .int .i64 k ∧ Row wr g (partF l k) ∧ Below w.heap.size w wr) (fun i _ => M - (intOf i).toNat)
  case atStart => exact ⟨0, Nat.zero_le _, rfl, hrow, q2⟩
  case round =>
    obtain ⟨k, hk, rfl, hrk, hbr⟩ := hrel
    clear hrow q2
    by_cases hlt : k < M
    · have hki : (k : Int) < (M : Int) := by omega
      have hkl := HK.out k hlt
      have hst := HST.out k hlt
      have hpl := HPL.out k hk
      obtain ⟨cs, hcs⟩ : ∃ cs, (l.drop (k * 1012)).take 1012 = cs := ⟨_, rfl⟩
      have hcl : cs.length = Nat.min (l.length - k * 1012) 1012 := by
        rw [← hcs, List.length_take, List.length_drop]
        show min 1012 (l.length - k * 1012) = min (l.length - k * 1012) 1012
        omega
      have hcl2 : cs.length ≤ 1012 := by rw [hcl]; exact Nat.min_le_right _ _
      have HSRC : Hid (∀ W, Below w.heap.size w W → ∀ (j : Nat) (x : UInt8), cs[j]? = some x → W.cell? ((⟨b, k * 1012, none⟩ : Addr).add j) = some (.int .u8 (x.toNat : Int))) := by
        intro W hW j x hx
        have hj := (List.getElem?_eq_some_iff.1 hx).1
        rw [add_at]
        refine ((HR.out.keep hW hblt).cell _ x ?_)
        rw [← hcs, List.getElem?_take, if_pos (by omega), List.getElem?_drop] at hx
        exact hx
      rw [hcs] at hst
      have HS : Hid (splice (partF l k) (k * 1014) cs = partF l (k + 1)) := hst
      have HRK : Hid (Row wr g (partF l k)) := hrk
      have HCL : Hid (cs.length = Nat.min (l.length - k * 1012) 1012) := hcl
      have HFIT : Hid (k * 1014 + cs.length ≤ (partF l k).length) := by rw [Hid, hpl]; have : (k + 1) * 1014 ≤ M * 1014 := Nat.mul_le_mul_right _ hlt; omega
      have hs1 := fun W => sl_h (g := g) (o := k * 1014) (n := 1014) (c := 1014) (x := 1012) 1012 rfl (by omega) (by omega) W
      have hs2 := fun W => sl_l (g := b) (o := 0) (n := l.length) (c := c) (x := (k : Int) * 1012) (k * 1012) (by omega) (by omega) (by omega) W
      rw [Nat.zero_add] at hs2
      have hkm : k * 1014 + 1014 ≤ M * 1014 := by have : (k + 1) * 1014 ≤ M * 1014 := Nat.mul_le_mul_right _ hlt; omega
      have hwr : IntKind.i64.wrap ((k : Int) * 1012) = (k : Int) * 1012 := by simp [IntKind.wrap, IntKind.bits, IntKind.signed]; omega
      clear hcs hst hrk hcl hpl
      go_wp2
      go_region_held3 (fun _ => True) (trivial) ((first
        | (go_at_call 143; refine (blockAt_any g (M * 1014) (M * 1014) k _ hkm (by omega)).mono ?_; rintro e w4 ⟨rfl, hw4⟩; rw [hw4]; clear hw4)
        | (refine step_copy_row rfl (.tmp 20) (.tmp 24) rfl g (k * 1014) 1012 1014 (partF l k) cs ⟨b, k * 1012, none⟩ (l.length - k * 1012) (c - k * 1012) (by kernel_rfl) (by kernel_rfl) (HRK.out.below (by first | exact Below.refl _ _ | exact (Below.refl _ _).drew | exact below_drewN (Below.refl _ _) _)) HCL.out HFIT.out (HSRC.out _ (by first | exact hbr | exact hbr.drew | exact below_drewN hbr _)) ?_; intro w5 hr5 hb5; rw [HS.out] at hr5; have q5 : Below w.heap.size w w5 := Below.trans (by first | exact hbr | exact hbr.drew | exact below_drewN hbr _) (hb5.mono (by omega)); have HR5 : Hid (Row w5 g (partF l (k + 1))) := hr5; clear hr5 hb5)))
      all_goals
        go_simp
        go_wp2
        go_roundw
        case rel => exact ⟨k + 1, by omega, by go_num, HR5.out, q5⟩
        case measure => simp [intOf]; omega
    · have hkM : k = M := by omega
      subst hkM
      have hpl := HPL.out k hk
      rw [HA.out] at hrk hpl
      have ht := text_at (w := wr) (g := g) (o := 0) (c := k * 1014) (l := fileOf l) (fun j x hx => by rw [Nat.zero_add]; exact hrk.cell j x hx)
      rw [hpl] at ht
      obtain ⟨F, hF⟩ : ∃ F, fileOf l = F := ⟨_, rfl⟩
      rw [hF] at ht
      have HF : Hid _ := hF
      clear hrk hpl HA HZ HST HPL HR hF
      go_wp2
      go_ret
      exact ⟨one_str (by rw [HF.out]), hbr⟩

end Go.Proofs.YtbncdhfmhokgeaaGreatDoor

/- The contract of the program's Block. -/
namespace Go.Proofs.YtbncdhfmhokgeaaGreatDoor
open Go.RowKit
set_option maxRecDepth 100000

set_option maxRecDepth 100000 in
set_option maxHeartbeats 1600000 in
theorem iBlock_any (ao : Option Addr) (cap : Nat) (rs : Recs) (w : World) (hz : TxtsAt w ao rs) (hn : rs.length ≤ 1099511627776) (hd : ∀ r ∈ rs, r.length ≤ 1099511627776) :
    Calls Tryz.prog 59 #[.slice ao rs.length cap] w fun e w' => e = .returned (.tuple #[.string ⟨(blockL rs).toArray⟩, .bool (blockOk rs)]) ∧ Below w.heap.size w w' := by
  by_cases h200 : (200 : Int) < (rs.length : Int)
  · have HN : Hid _ := blockOk_no1 (rs := rs) (by omega)
    go_enter Tryz.func59, Tryz.ntmps59
    go_wp2
    go_ret2
    exact ⟨str_ok (by rw [blockL_no HN.out]) HN.out.symm, Below.refl _ _⟩
  have h2 : rs.length ≤ 200 := by omega
  have HZ : Hid (TxtsAt w ao rs) := hz
  have HD : Hid (∀ r ∈ rs, r.length ≤ 1099511627776) := hd
  have HRR : Hid (recsOk rs = true → Calls Tryz.prog 104 #[.slice ao rs.length cap] w (LaidR w (laid rs))) := fun hok =>
    layRecords_any ao cap rs w hz h2 (fun r hr => (recsOk_mem hok r hr).2)
  have HLB : Hid (recsOk rs = true → (laid rs).length ≤ 600804) := fun hok => by
    have h1 := layR_bd (rs := rs) (fun r hr => (recsOk_mem hok r hr).2)
    rw [laid_len]; omega
  have HL0 : Hid (0 < (laid rs).length) := by rw [Hid, laid_len]; omega
  have HY : Hid (recsOk rs = true → nBlk (laid rs).length * 1014 ≤ 60000 → blockOk rs = true ∧ blockL rs = fileOf (laid rs)) := fun a b => by
    have := blockOk_of h2 a b
    exact ⟨this, blockL_yes this⟩
  have HB3 : Hid (60000 < nBlk (laid rs).length * 1014 → blockOk rs = false ∧ blockL rs = []) := fun h => by
    have := blockOk_no3 h
    exact ⟨this, blockL_no this⟩
  clear hz hd
  go_enter Tryz.func59, Tryz.ntmps59
  go_wp2
  go_loopw [12] (fun i wr => ∃ k : Nat, k ≤ rs.length ∧ i = .int .i64 k ∧ recsOk rs = recsOk (rs.drop k) ∧ w = wr) (fun i _ => rs.length - (intOf i).toNat)
  case atStart => exact ⟨0, Nat.zero_le _, rfl, rfl, rfl⟩
  case round =>
    obtain ⟨k, hk, rfl, hok, rfl⟩ := hrel
    by_cases hlt : k < rs.length
    · rcases HZ.out with h | ⟨b, off, rfl, hb, hcell⟩
      · rw [h] at hlt; simp at hlt
      have c1 := hcell k hlt
      have hki : (k : Int) < (rs.length : Int) := by omega
      have hst := recsOk_step rs k hlt
      have hrl := HD.out _ (nth_mem hlt)
      obtain ⟨r, hr⟩ : ∃ r, nth rs k = r := ⟨_, rfl⟩
      rw [hr] at c1 hst hrl
      cases hro : recOk r
      · have HN : Hid (blockOk rs = false) := blockOk_no2 (by rw [hok, hst, hro]; rfl)
        have HRO : Hid _ := hro
        clear hcell hok hst hr hro
        go_wp2_with fail
        refine (recordOk_any r _ (by omega)).mono ?_
        rintro e w2 ⟨rfl, hw2⟩
        rw [hw2, HRO.out]
        clear hw2
        go_wp2
        go_ret2
        exact ⟨str_ok (by rw [blockL_no HN.out]) HN.out.symm, Below.refl _ _⟩
      · have HN : Hid (recsOk rs = recsOk (rs.drop (k + 1))) := by rw [Hid, hok, hst, hro]; rfl
        have HRO : Hid _ := hro
        clear hcell hok hst hr hro
        go_wp2_with fail
        refine (recordOk_any r _ (by omega)).mono ?_
        rintro e w2 ⟨rfl, hw2⟩
        rw [hw2, HRO.out]
        clear hw2
        go_wp2
        go_roundw
        case rel => exact ⟨k + 1, by omega, by go_num, HN.out, by first | trivial | rfl⟩
        case measure => simp [intOf]; omega
    · have hke : k = rs.length := by omega
      subst hke
      have hok2 : recsOk rs = true := by rw [hok]; exact recsOk_end rs
      have hlb := HLB.out hok2
      have hl0 := HL0.out
      have HCALL : Hid (Calls Tryz.prog 104 #[.slice ao rs.length cap] w (LaidR w (laid rs))) := HRR.out hok2
      have HYY : Hid _ := HY.out hok2
      obtain ⟨L, hL⟩ : ∃ L, laid rs = L := ⟨_, rfl⟩
      rw [hL] at hlb hl0 HCALL HYY HB3
      clear hok hok2 HRR HY HLB HL0 hL
      go_wp2_with fail
      refine HCALL.out.mono ?_
      rintro e w2 ⟨g, c, rfl, o2, q2⟩
      have hcap : L.length ≤ c ∧ c ≤ maxLen := by
        rcases o2.2 with ⟨h, _⟩ | ⟨g', c', cur, hv, _, _, h1, h2, _⟩
        · cases h
        · obtain ⟨rfl, rfl⟩ : g = g' ∧ c = c' := by simpa using hv
          exact ⟨h1, h2⟩
      have hrow := row_of_own o2
      have HROW : Hid _ := hrow
      clear o2 hrow HCALL
      go_wp2_with fail
      refine (blocksFor_any L.length _ (by omega)).mono ?_
      rintro e w3 ⟨rfl, hw3⟩
      rw [hw3]
      clear hw3
      obtain ⟨M, hM⟩ : ∃ M, nBlk L.length = M := ⟨_, rfl⟩
      have hMb : M ≤ 700 := by rw [← hM]; unfold nBlk; omega
      rw [hM] at HYY HB3 ⊢
      clear hM
      by_cases h6 : (60000 : Int) < (M : Int) * 1014
      · obtain ⟨e1, e2⟩ := HB3.out (by omega)
        have E1 : Hid _ := e1
        have E2 : Hid _ := e2
        clear e1 e2
        go_wp2
        go_ret2
        exact ⟨str_ok (by rw [E2.out]) E1.out.symm, q2⟩
      · obtain ⟨e1, e2⟩ := HYY.out (by omega)
        have E1 : Hid _ := e1
        have E2 : Hid _ := e2
        clear e1 e2
        go_wp2_with fail
        refine (putPieces_any g c L _ HROW.out hl0 (by omega) hcap.1 hcap.2).mono ?_
        rintro e w4 ⟨rfl, b4⟩
        have q4 := next q2 b4
        clear b4
        obtain ⟨F, hF⟩ : ∃ F, fileOf L = F := ⟨_, rfl⟩
        rw [hF] at E2 ⊢
        clear hF
        go_wp2
        go_ret2
        exact ⟨str_ok (by rw [E2.out]) E1.out.symm, q4⟩

end Go.Proofs.YtbncdhfmhokgeaaGreatDoor

/- The contracts of PutVar, the program's and the specification's. -/
namespace Go.Proofs.YtbncdhfmhokgeaaGreatDoor
open Go.RowKit

def putV (l : List UInt8) (wd : Int) : Option (List UInt8) := if wOk wd = true ∧ (l.length : Int) ≤ lim wd then some (padT l.length wd ++ l) else none
theorem putV_no1 {l : List UInt8} {wd : Int} (h : wOk wd = false) : putV l wd = none := if_neg (by rw [h]; simp)
theorem putV_no2 {l : List UInt8} {wd : Int} (h : lim wd < (l.length : Int)) : putV l wd = none := if_neg (by omega)
theorem putV_yes {l : List UInt8} {wd : Int} (h : wOk wd = true) (h2 : (l.length : Int) ≤ lim wd) : putV l wd = some (padT l.length wd ++ l) := if_pos ⟨h, h2⟩
theorem lim_bd (wd : Int) : 0 ≤ lim wd ∧ lim wd ≤ 999 := by
  unfold lim; split
  · omega
  · split <;> omega
theorem padT_len {x n : Int} : (padT x n).length ≤ 18 := by
  rcases padT_cases x n with h | ⟨a, m, rfl, rfl, h1, h2, h3, h⟩
  · rw [h]; simp
  · rw [h, padN_len h1 h3]; exact h2


set_option maxRecDepth 100000 in
set_option maxHeartbeats 400000 in
theorem sPutVar_any (l : List UInt8) (wd : Int) (w : World) (hl : l.length ≤ 1099511627776) :
    Calls Tryz.prog 92 #[.string ⟨l.toArray⟩, .int .i64 wd] w fun e w' => e = .returned (.tuple #[.string ⟨((putV l wd).getD []).toArray⟩, .bool (putV l wd).isSome]) ∧ Below w.heap.size w w' := by
  cases hw : inB wd 2 3
  · have HN : Hid _ := putV_no1 (l := l) (wOk_no (wd := wd) (by rintro rfl; cases hw) (by rintro rfl; cases hw))
    go_enter Tryz.func92, Tryz.ntmps92
    go_wp2_with fail
    refine (in_any _ _ _ _).mono ?_
    rintro e w1 ⟨rfl, hw1⟩
    subst hw1
    rw [hw]
    go_wp2
    go_ret2
    exact ⟨str_ok (by rw [HN.out]; rfl) (by rw [HN.out]; rfl), Below.refl _ _⟩
  · have hwd : 2 ≤ wd ∧ wd ≤ 3 := of_decide_eq_true hw
    have HW : Hid _ := hw
    obtain ⟨d, rfl⟩ := Int.eq_ofNat_of_zero_le (show 0 ≤ wd by omega)
    have hwo : wOk (d : Int) = true := by unfold wOk; rcases (show (d : Int) = 2 ∨ (d : Int) = 3 by omega) with h | h <;> rw [h] <;> rfl
    obtain ⟨t, ht⟩ : ∃ t : Nat, 10 ^ d = t := ⟨_, rfl⟩
    have htl : lim (d : Int) = (t : Int) - 1 ∧ t ≤ 1000 := by
      rw [← ht]
      rcases (show d = 2 ∨ d = 3 by omega) with rfl | rfl
      · exact ⟨rfl, by decide⟩
      · exact ⟨rfl, by decide⟩
    have HD : Hid _ := ht
    have hd18 : d ≤ 18 := by omega
    clear hw ht
    by_cases hge : (t : Int) ≤ (l.length : Int)
    · have HN : Hid _ := putV_no2 (l := l) (wd := d) (by omega)
      clear htl
      go_enter Tryz.func92, Tryz.ntmps92
      go_wp2_with fail
      refine (in_any _ _ _ _).mono ?_
      rintro e w1 ⟨rfl, hw1⟩
      subst hw1
      rw [HW.out]
      go_wp2_with fail
      refine (l01Ten_any _ _ hd18).mono ?_
      rintro e w1 ⟨rfl, hw1⟩
      subst hw1
      rw [HD.out]
      go_wp2
      go_ret2
      exact ⟨str_ok (by rw [HN.out]; rfl) (by rw [HN.out]; rfl), Below.refl _ _⟩
    · have hlt : (l.length : Int) < (t : Int) := by omega
      have HY : Hid _ := putV_yes (l := l) hwo (by omega)
      have h999 : (l.length : Int) ≤ 999 := by omega
      have hpl := padT_len (x := l.length) (n := d)
      clear htl hge hwo
      go_enter Tryz.func92, Tryz.ntmps92
      go_wp2_with fail
      refine (in_any _ _ _ _).mono ?_
      rintro e w1 ⟨rfl, hw1⟩
      subst hw1
      rw [HW.out]
      go_wp2_with fail
      refine (l01Ten_any _ _ hd18).mono ?_
      rintro e w1 ⟨rfl, hw1⟩
      subst hw1
      rw [HD.out]
      go_wp2_with fail
      refine (sPadNum_any _ _ _).mono ?_
      rintro e w2 ⟨rfl, b2⟩
      generalize padT (l.length : Int) d = p at hpl HY
      go_wp2
      go_ret2
      exact ⟨str_ok (by rw [HY.out, ba_append]; rfl) (by rw [HY.out]; rfl), b2⟩

end Go.Proofs.YtbncdhfmhokgeaaGreatDoor

/- The contract of the specification's bytes of a right field. -/
namespace Go.Proofs.YtbncdhfmhokgeaaGreatDoor
open Go.RowKit

theorem putD_pk {d : List UInt8} (h : within 48 57 d = true) (hl : d.length ≤ 100) : (putD d).getD [] = pkD d := by rw [putD_yes h hl]; rfl
theorem putV_2 {d : List UInt8} (hl : d.length ≤ 99) : (putV d 2).getD [] = padT d.length 2 ++ d := by rw [putV_yes (by decide) (by simp [lim]; omega)]; rfl
theorem putV_3 {d : List UInt8} (hl : d.length ≤ 999) : (putV d 3).getD [] = padT d.length 3 ++ d := by rw [putV_yes (by decide) (by simp [lim]; omega)]; rfl

set_option maxRecDepth 100000 in
set_option maxHeartbeats 1600000 in
theorem l04Put_any (n : Int) (d : List UInt8) (w : World) (hok : fieldOk n d = true) :
    Calls Tryz.prog 40 #[.agg #[.int .i64 n, .string ⟨d.toArray⟩]] w fun e w' => e = .returned (.string ⟨(putFld n d).toArray⟩) ∧ Below w.heap.size w w' := by
  have hd : d.length ≤ 999 := by rcases fieldOk_K hok with h | h | h | h | h <;> omega
  have hl : d.length ≤ 1099511627776 := by omega
  have HOK : Hid _ := hok
  clear hok
  go_enter Tryz.func40, Tryz.ntmps40
  go_wp2_with fail
  refine (l04Form_any _ _).mono ?_
  rintro e w1 ⟨rfl, hw1⟩
  subst hw1
  go_wp2_with fail
  refine (sPutDigits_any _ _ hl).mono ?_
  rintro e w2 ⟨rfl, b2⟩
  obtain ⟨c0, c1, q2, _⟩ := box2 b2
  clear b2
  go_wp2_with fail
  refine (sPutVar_any _ _ _ hl).mono ?_
  rintro e w3 ⟨rfl, b3⟩
  obtain ⟨c0, c1⟩ := keep2 c0 c1 b3
  have q3 := next q2 b3
  clear b3 q2
  go_wp2_with fail
  refine (sPutVar_any _ _ _ hl).mono ?_
  rintro e w4 ⟨rfl, b4⟩
  obtain ⟨c0, c1⟩ := keep2 c0 c1 b4
  have q4 := next q3 b4
  clear b4 q3
  have HV2 : Hid (d.length ≤ 99 → (putV d 2).getD [] = padT d.length 2 ++ d) := fun h => putV_2 h
  have HV3 : Hid ((putV d 3).getD [] = padT d.length 3 ++ d) := putV_3 hd
  have HD : Hid (within 48 57 d = true → d.length ≤ 100 → (putD d).getD [] = pkD d) := putD_pk
  obtain ⟨v2, hv2⟩ : ∃ v, (putV d 2).getD [] = v := ⟨_, rfl⟩
  obtain ⟨v3, hv3⟩ : ∃ v, (putV d 3).getD [] = v := ⟨_, rfl⟩
  obtain ⟨dg', hdg⟩ : ∃ v, (putD d).getD [] = v := ⟨_, rfl⟩
  have hdl := putD_len d
  rw [hv2] at HV2 ⊢
  rw [hv3] at HV3 ⊢
  rw [hdg] at HD hdl ⊢
  clear hv2 hv3 hdg
  generalize (putV d 2).isSome = s2
  generalize (putV d 3).isSome = s3
  generalize (putD d).isSome = s1
  rcases fieldOk_K HOK.out with ⟨hk, _, hw, hx⟩ | ⟨hk, _, hw, hx⟩ | ⟨hk, _, hw, hx⟩ | ⟨hk, _, hw, hx⟩ | ⟨hk, _, hw, hx⟩
  · have HP : Hid _ := put1 (d := d) hk
    have HE : Hid _ := HD.out hw (by omega)
    rw [hk]
    clear hk
    go_wp2
    go_ret
    exact ⟨one_str (by rw [HP.out, HE.out]), q4⟩
  · have HP : Hid _ := put2 (d := d) hk
    have HE : Hid _ := HD.out hw (by omega)
    rw [hk]
    clear hk
    go_wp2_with fail
    refine (sPadNum_any _ _ _).mono ?_
    rintro e w5 ⟨rfl, b5⟩
    have hpl := padT_l d.length 2
    have q5 := next q4 b5
    clear b5 q4
    obtain ⟨p, hp⟩ : ∃ p, padT (↑d.length) 2 = p := ⟨_, rfl⟩
    rw [hp] at hpl ⊢
    have HPP : Hid _ := hp
    clear hp
    go_wp2
    go_ret
    exact ⟨one_str (by rw [HP.out, HPP.out, ← HE.out]; exact ba_append p dg'), q5⟩
  · have HP : Hid _ := put3 (d := d) hk
    rw [hk]
    clear hk
    go_wp2
    go_ret
    exact ⟨one_str (by rw [HP.out]), q4⟩
  · have HP : Hid _ := put4 (d := d) hk
    have HE : Hid _ := HV2.out (by omega)
    rw [hk]
    clear hk
    go_wp2
    go_ret
    exact ⟨one_str (by rw [HP.out, HE.out]), q4⟩
  · have HP : Hid _ := put5 (d := d) hk
    rw [hk]
    clear hk
    go_wp2
    go_ret
    exact ⟨one_str (by rw [HP.out, HV3.out]), q4⟩

end Go.Proofs.YtbncdhfmhokgeaaGreatDoor

/- The contracts of the small functions that the specification's Block calls. -/
namespace Go.Proofs.YtbncdhfmhokgeaaGreatDoor
open Go.RowKit
set_option maxRecDepth 100000

set_option maxHeartbeats 400000 in
theorem in6_any (x a b : Int) (w : World) :
    Calls Tryz.prog 89 #[.int .i64 x, .int .i64 a, .int .i64 b] w fun e w' => e = .returned (.bool (decide (a ≤ x) && decide (x ≤ b))) ∧ w' = w := by
  by_cases h0 : a ≤ x
  · go_enter Tryz.func89, Tryz.ntmps89
    go_wp2
    go_ret
    exact ⟨one_bool (by simp [h0]), rfl⟩
  · go_enter Tryz.func89, Tryz.ntmps89
    go_wp2
    go_ret
    exact ⟨one_bool (by simp; intro h; omega), rfl⟩
theorem in_rec (r : List UInt8) : (decide ((1 : Int) ≤ (r.length : Int)) && decide ((r.length : Int) ≤ 3000)) = recOk r := by
  unfold recOk
  congr 1 <;> (rw [decide_eq_decide]; omega)

theorem be4_cells' (n : Nat) (h : n ≤ 3000) : #[Value.int .u8 ((n : Int) / 16777216), .int .u8 ((n : Int) / 65536 % 256), .int .u8 ((n : Int) / 256 % 256), .int .u8 ((n : Int) % 256)] = ((be4 n).map cell).toArray := by
  have h1 := be4_cells n (by omega)
  have b : (n : Int) / 65536 % 256 = (n : Int) / 65536 := by omega
  rw [← h1, b]
set_option maxHeartbeats 400000 in
theorem l06Len_any (n : Nat) (w : World) (hn : n ≤ 3000) :
    Calls Tryz.prog 108 #[.int .i64 n] w fun e w' => e = .returned (.slice (some ⟨w.heap.size, 0, none⟩) 4 4) ∧ w' = w.alloc (.cells ((be4 n).map cell).toArray 5) := by
  have HE : Hid _ := be4_cells' n hn
  go_enter Tryz.func108, Tryz.ntmps108
  go_wp2
  go_ret
  exact ⟨rfl, by rw [← HE.out]⟩

end Go.Proofs.YtbncdhfmhokgeaaGreatDoor

/- A packed message comes back, plainly. No Go in sight. -/
namespace Go.Proofs.YtbncdhfmhokgeaaGreatDoor

theorem mid_drop (a b c : List UInt8) : ((a ++ b ++ c).drop a.length).take b.length = b := by simp

theorem dig_at (pre d post : List UInt8) (hw : within 48 57 d = true) (hl : d.length ≤ 100) :
    getL (pre ++ pkD d ++ post) pre.length d.length = d ∧ getI (pre ++ pkD d ++ post) pre.length d.length = pre.length + ((pkD d).length : Int) := by
  have hlen := pkD_len d
  have hbk : unL (pkD d) d.length = d := back d hw
  have hpd : putD d = some (pkD d) := putD_yes hw hl
  obtain ⟨s, hs⟩ : ∃ s, pkD d = s := ⟨_, rfl⟩
  rw [hs] at hpd hlen hbk ⊢
  have hp : ((pre ++ s ++ post).drop pre.length).take ((d.length + 1) / 2) = s := by
    rw [← hlen]; exact mid_drop pre s post
  have hok : getOk (pre ++ s ++ post) ((pre.length : Nat) : Int) ((d.length : Nat) : Int) = true := by
    rw [getOk_in (by simp; omega), hp]
    exact (again s d.length hlen hl).1 (by rw [hbk]; exact hpd)
  have hg := get_yes hok
  rw [Int.toNat_natCast, Int.toNat_natCast, hp, hbk] at hg
  refine ⟨hg.1, ?_⟩
  rw [hg.2, hlen]
  omega

theorem pad_at {m wd : Nat} (h1 : 1 ≤ wd) (h2 : wd ≤ 18) (h3 : m < 10 ^ wd) : (padT m wd).length = wd ∧ numOf (padT m wd) = (m : Int) ∧ within 48 57 (padT m wd) = true := by
  rw [padT_yes h1 h2 h3]
  exact ⟨padN_len h1 h3, padN_num h1 h2 h3, padN_dig _ _⟩

theorem var_at (pre s post : List UInt8) (wd : Nat) (hwd : wd = 2 ∨ wd = 3) (hs : s.length < 10 ^ wd) :
    varL (pre ++ (padT s.length wd ++ s) ++ post) pre.length wd = s ∧ varI (pre ++ (padT s.length wd ++ s) ++ post) pre.length wd = pre.length + ((padT s.length wd ++ s).length : Int) := by
  obtain ⟨hpl, hpn, _⟩ := pad_at (by omega) (by omega) hs
  obtain ⟨p, hp⟩ : ∃ p, padT s.length wd = p := ⟨_, rfl⟩
  rw [hp] at hpl hpn ⊢
  have e1 : ((pre ++ (p ++ s) ++ post).drop pre.length).take wd = p := by
    rw [← hpl]
    simp
  have e2 : ((pre ++ (p ++ s) ++ post).drop (pre.length + wd)).take s.length = s := by
    have := mid_drop (pre ++ p) s post
    rw [List.length_append, hpl] at this
    simpa using this
  have hv : vNum (pre ++ (p ++ s) ++ post) pre.length (wd : Int) = (s.length : Int) := by
    unfold vNum
    rw [Int.toNat_natCast, Int.toNat_natCast, e1, hpn]
  have hok : varOk (pre ++ (p ++ s) ++ post) pre.length (wd : Int) = true := varOk_yes (by rcases hwd with rfl | rfl <;> rfl) (by rw [hv]; simp; omega)
  have hy := var_yes hok
  rw [hv] at hy
  refine ⟨?_, ?_⟩
  · rw [hy.1, show ((pre.length : Int) + (wd : Int)).toNat = pre.length + wd from by omega, Int.toNat_natCast, e2]
  · rw [hy.2]; simp; omega

theorem fld_back (pre post : List UInt8) {n : Int} {d : List UInt8} (h : fieldOk n d = true) :
    rawL (pre ++ putFld n d ++ post) pre.length n = d ∧ rawI (pre ++ putFld n d ++ post) pre.length n = pre.length + ((putFld n d).length : Int) := by
  rcases fieldOk_K h with ⟨e, h1, h2, h3⟩ | ⟨e, h1, h2, h3⟩ | ⟨e, h1, h2, h3⟩ | ⟨e, h1, h2, h3⟩ | ⟨e, h1, h2, h3⟩
  · have hp : putFld n d = pkD d := if_pos e
    rw [hp, (raw1 e).1, (raw1 e).2, ← h1]
    exact dig_at pre d post h2 (by omega)
  · have hp : putFld n d = padT d.length 2 ++ pkD d := by unfold putFld; simp [e]
    obtain ⟨hpl, hpn, hpw⟩ := pad_at (m := d.length) (wd := 2) (by omega) (by omega) (by omega)
    have hpl' : (padT (d.length : Int) 2).length = 2 := hpl
    have hpn' : numOf (padT (d.length : Int) 2) = (d.length : Int) := hpn
    rw [hp, (raw2 e).1, (raw2 e).2, Int.toNat_natCast]
    obtain ⟨p, hpp⟩ : ∃ p, padT (d.length : Int) 2 = p := ⟨_, rfl⟩
    rw [hpp] at hpl' hpn' ⊢
    have hb : hasB (pre ++ (p ++ pkD d) ++ post).length pre.length 2 = true := hasB_pos (by omega) (by simp; omega) (by simp; omega)
    have e1 : ((pre ++ (p ++ pkD d) ++ post).drop pre.length).take 2 = p := by
      rw [← hpl']
      simp
    rw [if_pos hb, if_pos hb, e1, hpn']
    have := dig_at (pre ++ p) d post h2 (by omega)
    rw [show (pre ++ p) ++ pkD d ++ post = pre ++ (p ++ pkD d) ++ post by simp, show (((pre ++ p).length : Nat) : Int) = (pre.length : Int) + 2 by simp; omega] at this
    refine ⟨this.1, ?_⟩
    rw [this.2]; simp; omega
  · have hp : putFld n d = d := by unfold putFld; simp [e]
    rw [hp, (raw3 e).1, (raw3 e).2, ← h1, Int.toNat_natCast, Int.toNat_natCast]
    have hb : hasB (pre ++ d ++ post).length pre.length d.length = true := hasB_pos (by omega) (by simp; omega) (by simp; omega)
    rw [if_pos hb, if_pos hb]
    exact ⟨mid_drop pre d post, rfl⟩
  · have hp : putFld n d = padT d.length 2 ++ d := by unfold putFld; simp [e]
    rw [hp, (raw4 e).1, (raw4 e).2]
    exact var_at pre d post 2 (.inl rfl) (by omega)
  · have hp : putFld n d = padT d.length 3 ++ d := by unfold putFld; simp [e]
    rw [hp, (raw5 e).1, (raw5 e).2]
    exact var_at pre d post 3 (.inr rfl) (by omega)

theorem rd_back (post : List UInt8) (fs : List Fld) : ∀ (pre : List UInt8) (acc : List Fld), (∀ f ∈ fs, fieldOk f.1 f.2 = true) →
    rdF (pre ++ bodyP fs ++ post) (numsF fs) pre.length acc = if post = [] then (0, 0, acc ++ fs) else (4, ((pre ++ bodyP fs).length : Int), []) := by
  induction fs with
  | nil =>
    intro pre acc _
    show (if ((pre.length : Nat) : Int) < ((pre ++ [] ++ post).length : Int) then _ else _) = _
    by_cases hp : post = []
    · subst hp; simp
    · have : 0 < post.length := List.length_pos_iff.2 hp
      rw [if_pos (by simp; omega), if_neg hp]; simp [bodyP]
  | cons f r ih =>
    intro pre acc hok
    have hf := hok f (by simp)
    have hb := fld_back pre (bodyP r ++ post) hf
    have e : pre ++ bodyP (f :: r) ++ post = pre ++ putFld f.1 f.2 ++ (bodyP r ++ post) := by simp [bodyP]
    have hat : fldAt (pre ++ bodyP (f :: r) ++ post) pre.length f.1 = true := by
      rw [e]; unfold fldAt; rw [hb.1, hb.2, hf]; simp; omega
    show (if fldAt _ _ f.1 = true then rdF _ (numsF r) _ _ else _) = _
    rw [if_pos hat, e, hb.1, hb.2]
    have := ih (pre ++ putFld f.1 f.2) (acc ++ [f]) (fun g hg => hok g (by simp [hg]))
    rw [show (pre ++ putFld f.1 f.2) ++ bodyP r ++ post = pre ++ putFld f.1 f.2 ++ (bodyP r ++ post) by simp, show (((pre ++ putFld f.1 f.2).length : Nat) : Int) = (pre.length : Int) + ((putFld f.1 f.2).length : Int) by simp] at this
    rw [this]
    simp [bodyP]

theorem set_at (pre post : List UInt8) {zs : List Int} {s : List UInt8} (h : putS zs = some s) : getSL (pre ++ s ++ post) pre.length = zs ∧ getSI (pre ++ s ++ post) pre.length = pre.length + (s.length : Int) := by
  have ha : ascS 1 zs = true := by
    cases e : ascS 1 zs
    · rw [putS_no e] at h; cases h
    · rfl
  rw [putS_yes ha] at h
  have hs : setB (bitS zs) (sizeS zs) = s := Option.some.inj h
  have hlen : s.length = sizeS zs := by rw [← hs, setB_len]
  have hs8 : 8 ≤ sizeS zs := by rcases sizeS_or zs with ⟨h1, _⟩ | ⟨h1, _⟩ <;> omega
  have hnum := nums_set ha
  rw [hs] at hnum
  have hg0 : (pre ++ s ++ post).getD pre.length 0 = s.getD 0 0 := by
    simp only [List.getD_eq_getElem?_getD]
    rw [List.append_assoc, List.getElem?_append_right (Nat.le_refl _), Nat.sub_self, List.getElem?_append_left (by omega)]
  have hb1 : bitL s 1 = wide zs := by rw [← hs, bitL_set _ _ _ (by omega) (by omega), bitS_one ha]
  have hf := bitL_first s 0
  rw [List.drop_zero, hb1] at hf
  have hz : szB ((pre ++ s ++ post).getD pre.length 0) = sizeS zs := by
    rw [hg0]
    unfold szB sizeS
    rw [hf]
    by_cases hc : 128 ≤ (s.getD 0 0).toNat
    · rw [if_pos hc, if_pos (decide_eq_true hc)]
    · rw [if_neg hc, if_neg (by rw [decide_eq_false hc]; decide)]
  have hp : ((pre ++ s ++ post).drop pre.length).take (sizeS zs) = s := by
    rw [← hlen]; exact mid_drop pre s post
  have hg := (getS_in (l := pre ++ s ++ post) (k := pre.length) (m := sizeS zs) (b := s) hz (by simp; omega) hp hs8).1 (by rw [hnum, putS_yes ha, hs])
  rw [hnum] at hg
  exact ⟨hg.1, by rw [hg.2, hlen]⟩

theorem okF_all {fs : List Fld} : ∀ {p : Int}, okF p fs = true → ∀ f ∈ fs, fieldOk f.1 f.2 = true := by
  induction fs with
  | nil => intro p _ f hf; cases hf
  | cons g r ih =>
    intro p h f hf
    simp only [okF, Bool.and_eq_true, decide_eq_true_eq] at h
    rcases List.mem_cons.1 hf with rfl | hm
    · exact h.1.1
    · exact ih h.2 f hm

theorem unp_pack {kd : Int} {fs : List Fld} (post : List UInt8) (h : msgOk kd fs = true) :
    unp (packL kd fs ++ post) = if post = [] then (0, 0, kd, fs) else (4, ((packL kd fs).length : Int), 0, []) := by
  obtain ⟨hk, hf⟩ := msgOk_parts h
  obtain ⟨m, rfl⟩ := Int.eq_ofNat_of_zero_le hk.1
  obtain ⟨hpl, hpn, hpw⟩ := pad_at (m := m) (wd := 4) (by omega) (by omega) (by omega)
  have hpl' : (padT (m : Int) 4).length = 4 := hpl
  have hpn' : numOf (padT (m : Int) 4) = (m : Int) := hpn
  have hpw' : within 48 57 (padT (m : Int) 4) = true := hpw
  have hst : putS (numsF fs) = some (setF fs) := by
    unfold setF; rw [putS_yes (okF_asc hf)]; rfl
  rw [packL_yes h]
  obtain ⟨p, hpp⟩ : ∃ p, padT (m : Int) 4 = p := ⟨_, rfl⟩
  rw [hpp] at hpl' hpn' hpw' ⊢
  have hS := set_at p (bodyP fs ++ post) hst
  have hR := rd_back post fs (p ++ setF fs) [] (okF_all hf)
  rw [show p ++ setF fs ++ (bodyP fs ++ post) = p ++ setF fs ++ bodyP fs ++ post by simp, hpl'] at hS
  have hl4 : (p ++ setF fs ++ bodyP fs ++ post).take 4 = p := by
    rw [← hpl']; simp
  have hko : kindOk (p ++ setF fs ++ bodyP fs ++ post) = true := by
    unfold kindOk
    rw [hl4, hpw', hasB_pos (by omega) (by omega) (by simp; omega)]; rfl
  have h4 : (((4 : Nat) : Int)) = 4 := rfl
  rw [h4] at hS
  rw [show (((p ++ setF fs).length : Nat) : Int) = 4 + ((setF fs).length : Int) by simp; omega] at hR
  unfold unp
  rw [hko, if_neg (by decide), hS.1, hS.2, if_neg (by omega), hl4, hpn', hR]
  by_cases hp : post = []
  · simp [hp]
  · simp [hp]

end Go.Proofs.YtbncdhfmhokgeaaGreatDoor

/- A message that was unpacked packs to the same bytes, plainly. No Go in sight. -/
namespace Go.Proofs.YtbncdhfmhokgeaaGreatDoor

theorem val_last (l : List UInt8) (c : UInt8) : val 0 (l ++ [c]) = val 0 l * 10 + (c.toNat - 48) := by rw [val_append]; rfl
theorem val_inj : ∀ (n : Nat) (a b : List UInt8), a.length = n → b.length = n → within 48 57 a = true → within 48 57 b = true → val 0 a = val 0 b → a = b := by
  intro n
  induction n with
  | zero => intro a b ha hb _ _ _; rw [List.eq_nil_of_length_eq_zero ha, List.eq_nil_of_length_eq_zero hb]
  | succ n ih =>
    intro a b ha hb wa wb hv
    rcases List.eq_nil_or_concat a with rfl | ⟨a', x, rfl⟩
    · simp at ha
    rcases List.eq_nil_or_concat b with rfl | ⟨b', y, rfl⟩
    · simp at hb
    rw [List.concat_eq_append, List.concat_eq_append] at *
    have ma := within_mem wa
    have mb := within_mem wb
    rw [val_last, val_last] at hv
    have hx := ma x (by simp)
    have hy := mb y (by simp)
    have e1 : val 0 a' = val 0 b' := by omega
    have e2 : x.toNat = y.toNat := by omega
    have e3 : x = y := UInt8.toNat_inj.1 e2
    rw [ih a' b' (by simpa using ha) (by simpa using hb) (within_of fun c hc => ma c (by simp [hc])) (within_of fun c hc => mb c (by simp [hc])) e1, e3]

/-- a number's digits, written again -/
theorem pad_again {p : List UInt8} {wd m : Nat} (h1 : 1 ≤ wd) (h2 : wd ≤ 18) (hl : p.length = wd) (hm : numOf p = (m : Int)) : padT m wd = p ∧ m < 10 ^ wd := by
  have hw : within 48 57 p = true := by
    cases e : within 48 57 p
    · rw [numOf_no2 e] at hm; omega
    · rfl
  rw [numOf_yes (by omega) hw] at hm
  have hv : val 0 p = m := by omega
  have hb := val_bound p hw p.length (Nat.le_refl _)
  rw [List.take_of_length_le (Nat.le_refl _), hv, hl] at hb
  refine ⟨?_, hb⟩
  rw [padT_yes h1 h2 hb]
  exact val_inj wd _ _ (padN_len h1 hb) hl (padN_dig _ _) hw (by rw [padN_val, hv])

theorem cut_at (u : List UInt8) (a m : Nat) : u.drop a = (u.drop a).take m ++ u.drop (a + m) := by
  rw [← List.drop_drop, List.take_append_drop]

theorem dig_again {u : List UInt8} {a m : Nat} (h : 0 ≤ getI u a m) (hw : within 48 57 (getL u a m) = true) :
    (getL u a m).length = m ∧ (u.drop a).take ((m + 1) / 2) = pkD (getL u a m) ∧ getI u a m = ((a + (m + 1) / 2 : Nat) : Int) ∧ a + (m + 1) / 2 ≤ u.length := by
  cases ho : getOk u a m
  · rw [(get_no ho).2] at h; omega
  · have hg := get_yes ho
    unfold getOk at ho
    simp only [Bool.and_eq_true, decide_eq_true_eq, Int.toNat_natCast] at ho
    rw [Int.toNat_natCast, Int.toNat_natCast] at hg
    obtain ⟨b, hb⟩ : ∃ b, (u.drop a).take ((m + 1) / 2) = b := ⟨_, rfl⟩
    have hbl : b.length = (m + 1) / 2 := by rw [← hb]; exact piece_len (by omega)
    rw [hb] at hg ho ⊢
    have hag := (again b m hbl (by omega)).2 ho.2
    rw [hg.1] at hw ⊢
    have hul := unL_len b m
    rw [putD_yes hw (by omega)] at hag
    exact ⟨hul, (Option.some.inj hag).symm, by rw [hg.2]; omega, by omega⟩

theorem var_again {u : List UInt8} {a wd : Nat} (hwd : wd = 2 ∨ wd = 3) (h : 0 ≤ varI u a wd) :
    ∃ q : Nat, varI u a wd = q ∧ q ≤ u.length ∧ a ≤ q ∧ (u.drop a).take (q - a) = padT (varL u a wd).length wd ++ varL u a wd := by
  cases ho : varOk u a wd
  · rw [(var_no ho).2] at h; omega
  · have hy := var_yes ho
    unfold varOk at ho
    simp only [Bool.and_eq_true, decide_eq_true_eq] at ho
    obtain ⟨m, hm⟩ := Int.eq_ofNat_of_zero_le ho.2.2.2.1
    rw [hm] at hy ho
    have hp : numOf ((u.drop a).take wd) = (m : Int) := by
      have : vNum u a wd = numOf ((u.drop a).take wd) := by unfold vNum; rw [Int.toNat_natCast, Int.toNat_natCast]
      rw [← this, hm]
    have hpl : ((u.drop a).take wd).length = wd := piece_len (by omega)
    have hpa := pad_again (by omega) (by omega) hpl hp
    rw [show ((a : Int) + (wd : Int)).toNat = a + wd from by omega, Int.toNat_natCast] at hy
    have hll : (varL u a wd).length = m := by rw [hy.1]; exact piece_len (by omega)
    refine ⟨a + wd + m, by rw [hy.2]; omega, by omega, by omega, ?_⟩
    rw [hll, hpa.1, hy.1, show a + wd + m - a = wd + m by omega, List.take_add, List.drop_drop]

/-- what was read of a field is what is written of it -/
theorem fld_again {u : List UInt8} {a : Nat} {n : Int} (h : fldAt u a n = true) :
    ∃ q : Nat, rawI u a n = q ∧ q ≤ u.length ∧ u.drop a = putFld n (rawL u a n) ++ u.drop q := by
  have h0 : 0 ≤ rawI u a n := by simp [fldAt] at h; exact h.1
  have hf : fieldOk n (rawL u a n) = true := by simp [fldAt] at h; exact h.2
  rcases fieldOk_K hf with ⟨e, h1, h2, h3⟩ | ⟨e, h1, h2, h3⟩ | ⟨e, h1, h2, h3⟩ | ⟨e, h1, h2, h3⟩ | ⟨e, h1, h2, h3⟩
  · have hp : ∀ d, putFld n d = pkD d := fun d => if_pos e
    have hk := (known_K (ok_known hf)).2.1
    obtain ⟨m, hm⟩ := Int.eq_ofNat_of_zero_le hk
    rw [hp]
    rw [(raw1 e).1, hm] at h2 ⊢
    rw [(raw1 e).2, hm] at h0 ⊢
    have hd := dig_again h0 h2
    exact ⟨_, hd.2.2.1, hd.2.2.2, by rw [← hd.2.1]; exact cut_at u a _⟩
  · have hp : ∀ d, putFld n d = padT d.length 2 ++ pkD d := fun d => by unfold putFld; simp [e]
    rw [hp]
    have r1 := (raw2 (l := u) (i := (a : Int)) e).1
    have r2 := (raw2 (l := u) (i := (a : Int)) e).2
    rw [Int.toNat_natCast] at r1 r2
    cases hb : hasB u.length a 2
    · rw [hb, if_neg (by decide)] at r2; omega
    · rw [hb, if_pos rfl] at r1 r2
      have hin := hasB_in hb
      have hpl : ((u.drop a).take 2).length = 2 := piece_len (by omega)
      obtain ⟨p, hpp⟩ : ∃ p, (u.drop a).take 2 = p := ⟨_, rfl⟩
      rw [hpp] at r1 r2 hpl
      have hnn : 0 ≤ numOf p := by
        by_cases hc : 0 ≤ numOf p
        · exact hc
        · rw [(get_no (getOk_out (by omega))).2] at r2; omega
      obtain ⟨m, hm⟩ := Int.eq_ofNat_of_zero_le hnn
      rw [hm, show (a : Int) + 2 = ((a + 2 : Nat) : Int) by omega] at r1 r2
      rw [r1] at h2 ⊢
      rw [r2] at h0 ⊢
      have hd := dig_again h0 h2
      have hpa := pad_again (wd := 2) (by omega) (by omega) hpl hm
      refine ⟨_, hd.2.2.1, hd.2.2.2, ?_⟩
      have e2 : padT ((getL u ((a + 2 : Nat) : Int) m).length : Int) 2 = p := by rw [hd.1]; exact hpa.1
      rw [e2, ← hd.2.1, ← hpp, List.append_assoc, ← cut_at u (a + 2)]
      exact cut_at u a 2
  · have hp : ∀ d, putFld n d = d := fun d => by unfold putFld; simp [e]
    have hk := (known_K (ok_known hf)).2.1
    obtain ⟨m, hm⟩ := Int.eq_ofNat_of_zero_le hk
    rw [hp]
    have r1 := (raw3 (l := u) (i := (a : Int)) e).1
    have r2 := (raw3 (l := u) (i := (a : Int)) e).2
    rw [hm, Int.toNat_natCast] at r1
    rw [hm] at r2
    cases hb : hasB u.length a m
    · rw [hb, if_neg (by decide)] at r2; omega
    · rw [hb, if_pos rfl] at r1 r2
      have hin := hasB_in hb
      rw [Int.toNat_natCast] at r1
      rw [r1, r2]
      exact ⟨a + m, by omega, by omega, cut_at u a m⟩
  · have hp : ∀ d, putFld n d = padT d.length 2 ++ d := fun d => by unfold putFld; simp [e]
    rw [hp]
    rw [(raw4 e).1]
    rw [(raw4 e).2] at h0 ⊢
    obtain ⟨q, h4, h5, h6, h7⟩ := var_again (.inl rfl) h0
    refine ⟨q, h4, h5, ?_⟩
    have := cut_at u a (q - a)
    rw [h7, show a + (q - a) = q by omega] at this
    exact this
  · have hp : ∀ d, putFld n d = padT d.length 3 ++ d := fun d => by unfold putFld; simp [e]
    rw [hp]
    rw [(raw5 e).1]
    rw [(raw5 e).2] at h0 ⊢
    obtain ⟨q, h4, h5, h6, h7⟩ := var_again (.inr rfl) h0
    refine ⟨q, h4, h5, ?_⟩
    have := cut_at u a (q - a)
    rw [h7, show a + (q - a) = q by omega] at this
    exact this

theorem rd_again {u : List UInt8} : ∀ (ns : List Int) (a : Nat) (acc : List Fld), (rdF u ns a acc).1 = 0 →
    ∃ gs, (rdF u ns a acc).2.2 = acc ++ gs ∧ numsF gs = ns ∧ (∀ g ∈ gs, fieldOk g.1 g.2 = true) ∧ u.drop a = bodyP gs := by
  intro ns
  induction ns with
  | nil =>
    intro a acc h
    unfold rdF at h ⊢
    split at h
    · simp at h
    · rename_i hc
      rw [if_neg hc]
      refine ⟨[], by simp, rfl, (fun g hg => by cases hg), ?_⟩
      rw [List.drop_of_length_le (by omega)]; rfl
  | cons n r ih =>
    intro a acc h
    unfold rdF at h ⊢
    split at h
    · rename_i hf
      rw [if_pos hf]
      obtain ⟨q, h1, h2, h3⟩ := fld_again hf
      rw [h1] at h ⊢
      obtain ⟨gs, g1, g2, g3, g4⟩ := ih q _ h
      have hok : fieldOk n (rawL u a n) = true := by simp [fldAt] at hf; exact hf.2
      refine ⟨(n, rawL u a n) :: gs, by rw [g1]; simp, by rw [← g2]; rfl, ?_, ?_⟩
      · intro g hg
        rcases List.mem_cons.1 hg with rfl | hm
        · exact hok
        · exact g3 g hm
      · rw [h3, g4]; rfl
    · simp at h

theorem okF_of {fs : List Fld} : ∀ {p : Int}, (∀ f ∈ fs, fieldOk f.1 f.2 = true) → ascS p (numsF fs) = true → okF p fs = true := by
  induction fs with
  | nil => intro p _ _; rfl
  | cons f r ih =>
    intro p h ha
    have ha' : (decide (p < f.1 ∧ f.1 ≤ 128) && ascS f.1 (numsF r)) = true := ha
    rw [Bool.and_eq_true, decide_eq_true_eq] at ha'
    show ((fieldOk f.1 f.2 && decide (p < f.1)) && okF f.1 r) = true
    rw [h f (by simp), decide_eq_true ha'.1.1, ih (fun g hg => h g (by simp [hg])) ha'.2]; rfl

theorem pack_unp {u : List UInt8} (h : (unp u).1 = 0) : msgOk (unp u).2.2.1 (unp u).2.2.2 = true ∧ packL (unp u).2.2.1 (unp u).2.2.2 = u := by
  cases hk : kindOk u
  · have : unp u = (1, 0, 0, []) := by unfold unp; rw [hk]; rfl
    rw [this] at h; simp at h
  by_cases hneg : getSI u 4 < 0
  · have : unp u = (2, 4, 0, []) := by unfold unp; rw [hk, if_neg (by decide), if_pos hneg]
    rw [this] at h; simp at h
  by_cases hr : (rdF u (getSL u 4) (getSI u 4) []).1 = 0
  · have hu : unp u = (0, 0, numOf (u.take 4), (rdF u (getSL u 4) (getSI u 4) []).2.2) := by unfold unp; rw [hk, if_neg (by decide), if_neg hneg, if_pos hr]
    rw [hu]
    simp only
    have hko : hasB u.length 0 4 = true ∧ within 48 57 (u.take 4) = true := by simpa [kindOk] using hk
    have hin := hasB_in hko.1
    have hl4 : (u.take 4).length = 4 := by simp; omega
    have hnum := numOf_yes (l := u.take 4) (by omega) hko.2
    obtain ⟨m, hm⟩ : ∃ m, val 0 (u.take 4) = m := ⟨_, rfl⟩
    rw [hm] at hnum
    have hpa := pad_again (wd := 4) (by omega) (by omega) hl4 hnum
    cases hso : getSOk u 4
    · rw [(getS_no hso).2] at hneg; omega
    have hsy := getS_yes hso
    have hso' := hso
    unfold getSOk inS at hso'
    simp only [Bool.and_eq_true, decide_eq_true_eq] at hso'
    have e4 : (4 : Int).toNat = 4 := rfl
    rw [e4] at hsy hso'
    rw [← hsy.1] at hso'
    obtain ⟨z, hz⟩ : ∃ z, szB (u.getD 4 0) = z := ⟨_, rfl⟩
    have hps : pieceS u 4 = (u.drop 4).take z := by unfold pieceS; rw [hz]
    rw [hz] at hsy hso'
    have hpos : getSI u 4 = ((4 + z : Nat) : Int) := by rw [hsy.2]; omega
    rw [hpos] at hr ⊢
    obtain ⟨gs, g1, g2, g3, g4⟩ := rd_again _ _ _ hr
    rw [g1, List.nil_append, hnum]
    have hps2 : putS (numsF gs) = some ((u.drop 4).take z) := by rw [g2, hso'.2, hps]
    have hasc : ascS 1 (numsF gs) = true := by
      cases e : ascS 1 (numsF gs)
      · rw [putS_no e] at hps2; cases hps2
      · rfl
    have hmo : msgOk (m : Int) gs = true := by
      unfold msgOk
      rw [okF_of g3 hasc, decide_eq_true (by omega)]; rfl
    refine ⟨hmo, ?_⟩
    rw [packL_yes hmo]
    have hse : setF gs = (u.drop 4).take z := by unfold setF; rw [hps2]; rfl
    have hpe : padT (m : Int) 4 = u.take 4 := hpa.1
    rw [hse, hpe, ← g4, List.append_assoc, ← cut_at u 4 z, List.take_append_drop]
  · have : unp u = ((rdF u (getSL u 4) (getSI u 4) []).1, (rdF u (getSL u 4) (getSI u 4) []).2.1, 0, []) := by unfold unp; rw [hk, if_neg (by decide), if_neg hneg, if_neg hr]
    rw [this] at h; exact absurd h hr

end Go.Proofs.YtbncdhfmhokgeaaGreatDoor

/- The contract of the program's takePieces. -/
namespace Go.Proofs.YtbncdhfmhokgeaaGreatDoor
open Go.RowKit
set_option maxRecDepth 100000

set_option maxRecDepth 20000
/-- what is taken behind k blocks -/
def takenK (s : List UInt8) (m k : Nat) : List UInt8 := streamM s k ++ List.replicate ((m - k) * 1012) 0
theorem takenK_zero (s : List UInt8) (m : Nat) : takenK s m 0 = List.replicate (m * 1012) 0 := by simp [takenK, streamM]
theorem takenK_all (s : List UInt8) (m : Nat) : takenK s m m = streamM s m := by simp [takenK]
theorem takenK_len (s : List UInt8) (m k : Nat) (h : k ≤ m) (hl : m * 1014 ≤ s.length) : (takenK s m k).length = m * 1012 := by
  rw [takenK, List.length_append, List.length_replicate, streamM_len s k (by have : k * 1014 ≤ m * 1014 := Nat.mul_le_mul_right _ h; omega), ← Nat.add_mul, Nat.add_sub_cancel' h]
theorem takenK_step (s : List UInt8) (m k : Nat) (h : k < m) (hl : m * 1014 ≤ s.length) : splice (takenK s m k) (k * 1012) (pieceOf s k) = takenK s m (k + 1) := by
  have hkm : (k + 1) * 1014 ≤ m * 1014 := Nat.mul_le_mul_right _ h
  obtain ⟨A, hA⟩ : ∃ A, streamM s k = A := ⟨_, rfl⟩
  have hal : A.length = k * 1012 := by rw [← hA]; exact streamM_len s k (by omega)
  have hcl := pieceOf_len s k (by omega)
  obtain ⟨q, hq⟩ : ∃ q, m = k + 1 + q := ⟨m - (k + 1), by omega⟩
  obtain ⟨cs, hcs⟩ : ∃ cs, pieceOf s k = cs := ⟨_, rfl⟩
  unfold takenK splice
  rw [streamM_succ, hcs, hA, hq, ← hal, List.take_left, show k + 1 + q - k = q + 1 by omega, Nat.add_sub_cancel_left]
  rw [hcs] at hcl
  rw [List.drop_append, List.drop_of_length_le (by omega), List.nil_append, Nat.add_sub_cancel_left, List.drop_replicate, List.append_assoc, hcl, show (q + 1) * 1012 - 1012 = q * 1012 by omega]
theorem endOk_within (s : List UInt8) (k : Nat) (h : k * 1014 + 1014 ≤ s.length) : within 64 64 ((s.drop (k * 1014 + 1012)).take 2) = endOk s k := by
  rw [drop_take_getD s _ (by omega)]
  have f : ∀ c : UInt8, (decide (64 ≤ c.toNat) && decide (c.toNat ≤ 64)) = (c == 64) := fun c => by
    rw [Bool.eq_iff_iff]
    simp only [Bool.and_eq_true, decide_eq_true_eq, beq_iff_eq]
    constructor
    · intro ⟨a, b⟩; apply UInt8.toNat_inj.1; show c.toNat = 64; omega
    · intro a; subst a; decide
  simp only [within, List.all_cons, List.all_nil, Bool.and_true, f, endOk]
theorem own_madeB {w : World} {base g n c : Nat} (h : w.ownsRow base 5 1 (.slice (some ⟨g, 0, none⟩) n c) n (madeCells (Value.int .u8 0).cells (n * 1)).toList) : Row w g (List.replicate n 0) := by
  rw [made5] at h; exact row_of_own h

/-- what takePieces hands back -/
def TakeR (w : World) (s : List UInt8) (m : Nat) (e : Ending) (w' : World) : Prop :=
  (padM s m = true ∧ ∃ g, e = .returned (.tuple #[.slice (some ⟨g, 0, none⟩) (m * 1012) (m * 1012), .bool true]) ∧ w.heap.size ≤ g ∧ Row w' g (streamM s m) ∧ Below w.heap.size w w') ∨
  (padM s m = false ∧ e = .returned (.tuple #[.slice none 0 0, .bool false]) ∧ Below w.heap.size w w')

set_option maxRecDepth 100000 in
set_option maxHeartbeats 3200000 in
theorem takePieces_any (b c m : Nat) (s : List UInt8) (w : World) (hr : Row w b s) (hm : s.length = m * 1014) (h0 : 0 < m) (hl : s.length ≤ 60000) (hc : s.length ≤ c) (hc2 : c ≤ maxLen) :
    Calls Tryz.prog 109 #[.slice (some ⟨b, 0, none⟩) s.length c] w (TakeR w s m) := by
  unfold maxLen at hc2
  obtain ⟨i0, hi, hz0, hz1, hz2⟩ := info_parts info5
  have hblt := hr.lt
  have HR : Hid (Row w b s) := hr
  have HST : Hid (∀ k, k < m → splice (takenK s m k) (k * 1012) (pieceOf s k) = takenK s m (k + 1)) := fun k hk => takenK_step s m k hk (by omega)
  have HPL : Hid (∀ k, k ≤ m → (takenK s m k).length = m * 1012) := fun k hk => takenK_len s m k hk (by omega)
  have HZ : Hid _ := takenK_zero s m
  have HA : Hid _ := takenK_all s m
  have hm60 : m ≤ 60 := by omega
  have hd : (s.length : Int) / 1014 = (m : Int) := by omega
  have HSL : Hid _ := hm
  obtain ⟨S, hS⟩ : ∃ S, s.length = S := ⟨_, rfl⟩
  rw [hS] at hl hc hd HSL ⊢
  have HS : Hid _ := hS
  clear hr hm hS
  go_enter Tryz.func109, Tryz.ntmps109
  go_wp2_with (refine wpList_make_full _ rfl (.tmp 12) (.tmp 12) 22 rfl w.heap.size 5 i0 _ 1 Tryz.underlying22 hi hz0 hz1 .i64 .i64 _ _ (m * 1012) rfl rfl (by simp) (by simp) (by rw [hz2]; omega) (by unfold maxLen; omega) (Nat.le_refl _) ?_; intro w1 hown hg)
  have hrow := own_madeB hown
  rw [← HZ.out] at hrow
  have q1 : Below w.heap.size w w1 := (Below.refl _ _).grown hg (Nat.le_refl _) (fun k hk => by cases hk)
  clear hown hg
  go_loopw [15] (fun i wr => ∃ k : Nat, k ≤ m ∧ i = .int .i64 k ∧ padM s k = true ∧ Row wr w.heap.size (takenK s m k) ∧ Below w.heap.size w wr) (fun i _ => m - (intOf i).toNat)
  case atStart => exact ⟨0, Nat.zero_le _, rfl, rfl, hrow, q1⟩
  case round =>
    obtain ⟨k, hk, rfl, hpad, hrk, hbr⟩ := hrel
    clear hrow q1
    by_cases hlt : k < m
    · have hki : (k : Int) < (m : Int) := by omega
      have hkm : k * 1014 + 1014 ≤ c := by have : (k + 1) * 1014 ≤ m * 1014 := Nat.mul_le_mul_right _ hlt; have := HSL.out; omega
      have hkS : k * 1014 + 1014 ≤ S := by have : (k + 1) * 1014 ≤ m * 1014 := Nat.mul_le_mul_right _ hlt; have := HSL.out; omega
      have hst := HST.out k hlt
      have hpl := HPL.out k hk
      have HRB : Hid (Row wr b s) := HR.out.keep hbr hblt
      have HF : Hid (∀ (j : Nat) (x : UInt8), ((s.drop (k * 1014 + 1012)).take 2)[j]? = some x → wr.cell? ⟨b, k * 1014 + 1012 + j, none⟩ = some (.int .u8 (x.toNat : Int))) := by
        intro j x hx
        have hj := (List.getElem?_eq_some_iff.1 hx).1
        rw [List.length_take] at hj
        refine HRB.out.cell _ x ?_
        rw [List.getElem?_take, if_pos (by omega), List.getElem?_drop] at hx
        exact hx
      have hfl : ((s.drop (k * 1014 + 1012)).take 2).length = 2 := by rw [List.length_take, List.length_drop, HS.out]; omega
      have hew := endOk_within s k (by rw [HS.out]; omega)
      obtain ⟨fl, hfe⟩ : ∃ fl, (s.drop (k * 1014 + 1012)).take 2 = fl := ⟨_, rfl⟩
      rw [hfe] at HF hfl hew
      have hs1 := fun W => sl_l (g := b) (o := k * 1014) (n := 1014) (c := 1014) (x := 1012) 1012 rfl (by omega) (by omega) W
      have hs1' : ∀ W, (Instr.slice 22 (.slice (some ⟨b, k * 1014, none⟩) 1014 1014) (some (.int .i64 1012)) none none).run Tryz.prog W = .ok (.slice (some ⟨b, k * 1014 + 1012, none⟩) 2 2) W := hs1
      clear hs1 hfe
      have HFC : Hid (∀ W, W = wr → Calls Tryz.prog 111 #[.slice (some ⟨b, k * 1014 + 1012, none⟩) 2 2] W fun e w' => e = .returned (.bool (endOk s k)) ∧ w' = W) := fun W hW => by
        subst hW
        have := allFilling_any b (k * 1014 + 1012) 2 fl W HF.out (by omega)
        rw [hfl, hew] at this
        exact this
      clear HF hfl hew
      cases heo : endOk s k
      · have HN : Hid (padM s m = false) := padM_no hlt heo
        have HEO : Hid _ := heo
        clear heo hst hpl hpad
        go_wp2_with fail
        refine (blockAt_any b S c k _ hkm (by omega)).mono ?_
        rintro e w2 ⟨rfl, hw2⟩
        rw [hw2]
        clear hw2
        go_wp2_with fail
        refine (HFC.out _ rfl).mono ?_
        rintro e w3 ⟨rfl, hw3⟩
        rw [hw3, HEO.out]
        clear hw3
        go_wp2
        go_ret2
        exact .inr ⟨HN.out, rfl, hbr⟩
      · have HPAD : Hid (padM s (k + 1) = true) := by rw [Hid, padM_succ, hpad, heo]; rfl
        have HEO : Hid _ := heo
        obtain ⟨cs, hcs⟩ : ∃ cs, pieceOf s k = cs := ⟨_, rfl⟩
        have hcl : cs.length = 1012 := by rw [← hcs]; exact pieceOf_len s k (by rw [HS.out]; omega)
        rw [hcs] at hst
        have HSRC : Hid (∀ W, Below wr.heap.size wr W → ∀ (j : Nat) (x : UInt8), cs[j]? = some x → W.cell? ((⟨b, k * 1014, none⟩ : Addr).add j) = some (.int .u8 (x.toNat : Int))) := by
          intro W hW j x hx
          have hj := (List.getElem?_eq_some_iff.1 hx).1
          rw [add_at]
          refine ((HRB.out.below hW).cell _ x ?_)
          rw [← hcs, pieceOf, List.getElem?_take, if_pos (by omega), List.getElem?_drop] at hx
          exact hx
        have HSP : Hid (splice (takenK s m k) (k * 1012) cs = takenK s m (k + 1)) := hst
        have HRK : Hid (Row wr w.heap.size (takenK s m k)) := hrk
        have HCL : Hid (cs.length = Nat.min 1012 (m * 1012 - k * 1012)) := by
          rw [Hid, hcl]
          have : (k + 1) * 1012 ≤ m * 1012 := Nat.mul_le_mul_right _ hlt
          show 1012 = min 1012 (m * 1012 - k * 1012)
          omega
        have HFIT : Hid (k * 1012 + cs.length ≤ (takenK s m k).length) := by rw [Hid, hpl, hcl]; have : (k + 1) * 1012 ≤ m * 1012 := Nat.mul_le_mul_right _ hlt; omega
        have hs2 := fun W => sl_h (g := b) (o := k * 1014) (n := 1014) (c := 1014) (x := 1012) 1012 rfl (by omega) (by omega) W
        have hs3 := fun W => sl_l (g := w.heap.size) (o := 0) (n := m * 1012) (c := m * 1012) (x := (k : Int) * 1012) (k * 1012) (by omega) (by have : (k + 1) * 1012 ≤ m * 1012 := Nat.mul_le_mul_right _ hlt; omega) (by have : (k + 1) * 1012 ≤ m * 1012 := Nat.mul_le_mul_right _ hlt; omega) W
        rw [Nat.zero_add] at hs3
        have hwr : IntKind.i64.wrap ((k : Int) * 1012) = (k : Int) * 1012 := by simp [IntKind.wrap, IntKind.bits, IntKind.signed]; omega
        have hbs := hbr.size
        clear heo hst hpl hpad hcs hrk hcl
        go_wp2_with fail
        refine (blockAt_any b S c k _ hkm (by omega)).mono ?_
        rintro e w2 ⟨rfl, hw2⟩
        rw [hw2]
        clear hw2
        go_wp2_with fail
        refine (HFC.out _ rfl).mono ?_
        rintro e w3 ⟨rfl, hw3⟩
        rw [hw3, HEO.out]
        clear hw3
        go_wp2
        go_region_held3 (fun _ => True) (trivial) ((first
          | (refine step_copy_row rfl (.tmp 28) (.tmp 30) rfl w.heap.size (k * 1012) (m * 1012 - k * 1012) (m * 1012 - k * 1012) (takenK s m k) cs ⟨b, k * 1014, none⟩ 1012 1014 (by kernel_rfl) (by kernel_rfl) (HRK.out.below (by first | exact Below.refl _ _ | exact (Below.refl _ _).drew | exact below_drewN (Below.refl _ _) _)) HCL.out HFIT.out (HSRC.out _ (by first | exact Below.refl _ _ | exact (Below.refl _ _).drew | exact below_drewN (Below.refl _ _) _)) ?_; intro w5 hr5 hb5; rw [HSP.out] at hr5; have q5 : Below w.heap.size w w5 := Below.trans (by first | exact hbr | exact hbr.drew | exact below_drewN hbr _) hb5; have HR5 : Hid (Row w5 w.heap.size (takenK s m (k + 1))) := hr5; clear hr5 hb5)
          | fail))
        all_goals
          go_simp
          go_wp2
          go_roundw
          case rel => exact ⟨k + 1, by omega, by go_num, HPAD.out, HR5.out, q5⟩
          case measure => simp [intOf]; omega
    · have hkM : k = m := by omega
      subst hkM
      rw [HA.out] at hrk
      have HRR : Hid (Row wr w.heap.size (streamM s k)) := hrk
      clear hrk
      go_wp2
      go_ret2
      exact .inl ⟨hpad, _, rfl, Nat.le_refl _, HRR.out, hbr⟩

end Go.Proofs.YtbncdhfmhokgeaaGreatDoor
