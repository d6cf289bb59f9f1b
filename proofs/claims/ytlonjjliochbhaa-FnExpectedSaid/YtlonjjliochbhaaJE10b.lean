/- Joined: Days, RLate, Off, Search, HeapP, AWith, Shelf, FLed, FAuOk, AuBox, FScore, SAuOk, SScore, BestP, FClone, FACopy, AuPrune, AuUse, RReas, ICaseOk, SCaseOk, RStep, PostP, EvenP, DrawDays, DrawWork, DrawPl, CaNum, RpP, RpSumI, RpI, RpS. -/
import Derived.Test.YtlonjjliochbhaaJE10a
import Derived.Test.YtlonjjliochbhaaProg
import Derived.Handy
import Derived.Deep.RegionWith
import Derived.Deep.RegionHeld3
import Derived.Deep.DeepCutAuto
import Derived.Lib.SliceRun
import Derived.Lib.LaidTab
import Derived.Lib.AppendIntMem
/- Plain lists of days: holiday lists, and the working days behind a day. No Go in sight. -/
namespace Go.Proofs.Ytlonjjliochbhaa

/-- days, ascending, the first of them above l -/
def ascB : Int → List Int → Bool
  | _, [] => true
  | l, z :: r => decide (l < z ∧ 0 ≤ z ∧ z ≤ 80000) && ascB z r
def offOk (zs : List Int) : Bool := decide (zs.length ≤ 400) && ascB (-1) zs
theorem asc_step (zs : List Int) (k : Nat) (l : Int) (h : k < zs.length) : ascB l (zs.drop k) = (decide (l < zs.getD k 0 ∧ 0 ≤ zs.getD k 0 ∧ zs.getD k 0 ≤ 80000) && ascB (zs.getD k 0) (zs.drop (k + 1))) := by
  rw [List.drop_eq_getElem_cons h, ascB]
  simp [List.getD_eq_getElem?_getD, h]
theorem asc_mem : ∀ (zs : List Int) (l : Int), ascB l zs = true → ∀ z ∈ zs, l < z := by
  intro zs
  induction zs with
  | nil => intro l _ z hz; cases hz
  | cons a r ih =>
    intro l h z hz
    simp [ascB] at h
    rcases List.mem_cons.1 hz with rfl | hz
    · exact h.1.1
    · have := ih a h.2 z hz; omega
theorem asc_lt : ∀ (zs : List Int) (l : Int), ascB l zs = true → ∀ i j, i < j → j < zs.length → zs.getD i 0 < zs.getD j 0 := by
  intro zs
  induction zs with
  | nil => intro l _ i j _ h; simp at h
  | cons a r ih =>
    intro l h i j hij hj
    simp [ascB] at h
    cases j with
    | zero => omega
    | succ j =>
      have hj' : j < r.length := by simpa using hj
      cases i with
      | zero =>
        have := asc_mem r a h.2 (r.getD j 0) (by simp [List.getD_eq_getElem?_getD, hj'])
        simpa [List.getD_eq_getElem?_getD] using this
      | succ i =>
        have := ih a h.2 i j (by omega) hj'
        simpa [List.getD_eq_getElem?_getD] using this
theorem off_asc {zs : List Int} (h : offOk zs = true) : ascB (-1) zs = true := by simp [offOk] at h; exact h.2
theorem off_len {zs : List Int} (h : offOk zs = true) : zs.length ≤ 400 := by simp [offOk] at h; exact h.1
theorem off_no1 {zs : List Int} (h : 400 < zs.length) : offOk zs = false := by simp [offOk]; omega
theorem off_no2 {zs : List Int} (h : ascB (-1) zs = false) : offOk zs = false := by simp [offOk, h]
theorem off_yes {zs : List Int} (h : zs.length ≤ 400) (g : ascB (-1) zs = true) : offOk zs = true := by simp [offOk, h, g]

/-- what a search by halves ends with -/
theorem search_end {zs : List Int} {t : Int} {i : Nat} (ha : ascB (-1) zs = true) (h1 : ∀ k, k < i → zs.getD k 0 < t) (h2 : ∀ k, i ≤ k → k < zs.length → t ≤ zs.getD k 0) :
    (t ∈ zs) ↔ (i < zs.length ∧ zs.getD i 0 = t) := by
  constructor
  · intro hm
    obtain ⟨k, hk, rfl⟩ := List.mem_iff_getElem.1 hm
    have e : zs.getD k 0 = zs[k] := by simp [List.getD_eq_getElem?_getD, hk]
    have hik : i ≤ k := by
      rcases Nat.lt_or_ge k i with h | h
      · have := h1 k h; omega
      · exact h
    by_cases h : i = k
    · subst h; exact ⟨hk, e⟩
    · have a := asc_lt zs _ ha i k (by omega) hk
      have b := h2 i (Nat.le_refl _) (by omega)
      omega
  · rintro ⟨hi, rfl⟩
    simp [List.getD_eq_getElem?_getD, hi]

/-- whether a day is a working day -/
def wk (zs : List Int) (d : Int) : Bool := decide ((d + 5) % 7 < 5) && !decide (d ∈ zs)
def worksV (d : Int) (zs : List Int) : Bool := dOk d && offOk zs && wk zs d

/-- the working days behind the day 80000 - f -/
def wd (zs : List Int) : Nat → List Int
  | 0 => []
  | f + 1 => if wk zs (80000 - f) = true then (80000 - (f : Int)) :: wd zs f else wd zs f
/-- how many of them there are up to b -/
def upto (zs : List Int) (f : Nat) (b : Int) : Nat := (wd zs f).countP (fun x => decide (x ≤ b))
/-- the n-th working day behind the day 80000 - f -/
def adv (zs : List Int) (f : Nat) : Nat → Option Int
  | 0 => some (80000 - (f : Int))
  | n + 1 => (wd zs f)[n]?
def addV (d n : Int) (zs : List Int) : Option Int := if dOk d = true ∧ 0 ≤ n ∧ n ≤ 400 ∧ offOk zs = true then adv zs (80000 - d).toNat n.toNat else none
def betV (a b : Int) (zs : List Int) : Int := if dOk a = true ∧ dOk b = true ∧ offOk zs = true then (upto zs (80000 - a).toNat b : Int) else -1

theorem wd_yes {zs : List Int} {f : Nat} (h : wk zs (80000 - f) = true) : wd zs (f + 1) = (80000 - (f : Int)) :: wd zs f := by rw [wd, if_pos h]
theorem wd_no {zs : List Int} {f : Nat} (h : wk zs (80000 - f) = false) : wd zs (f + 1) = wd zs f := by rw [wd, if_neg (by rw [h]; decide)]
theorem wd_len (zs : List Int) (f : Nat) : (wd zs f).length ≤ f := by
  induction f with
  | zero => exact Nat.le_refl _
  | succ f ih =>
    cases h : wk zs (80000 - f)
    · rw [wd_no h]; omega
    · rw [wd_yes h]; simp; omega
theorem wd_mem {zs : List Int} {f : Nat} {e : Int} (h : e ∈ wd zs f) : 80000 - (f : Int) < e ∧ e ≤ 80000 ∧ wk zs e = true := by
  induction f with
  | zero => cases h
  | succ f ih =>
    cases hw : wk zs (80000 - f)
    · rw [wd_no hw] at h; have := ih h; exact ⟨by omega, this.2.1, this.2.2⟩
    · rw [wd_yes hw] at h
      rcases List.mem_cons.1 h with rfl | h
      · exact ⟨by omega, by omega, hw⟩
      · have := ih h; exact ⟨by omega, by omega, this.2.2⟩
theorem upto_none {zs : List Int} {f : Nat} {b : Int} (h : b ≤ 80000 - (f : Int)) : upto zs f b = 0 := by
  unfold upto
  rw [List.countP_eq_zero]
  intro x hx
  have := wd_mem hx
  simp; omega
theorem upto_yes {zs : List Int} {f : Nat} {b : Int} (h : wk zs (80000 - f) = true) (hb : 80000 - (f : Int) ≤ b) : upto zs (f + 1) b = upto zs f b + 1 := by
  unfold upto
  rw [wd_yes h, List.countP_cons_of_pos (by simpa using hb)]
theorem upto_no {zs : List Int} {f : Nat} {b : Int} (h : wk zs (80000 - f) = false) : upto zs (f + 1) b = upto zs f b := by
  unfold upto; rw [wd_no h]
theorem upto_at {zs : List Int} : ∀ {f k : Nat} {e : Int}, (wd zs f)[k]? = some e → upto zs f e = k + 1 := by
  intro f
  induction f with
  | zero => intro k e h; simp [wd] at h
  | succ f ih =>
    intro k e h
    cases hw : wk zs (80000 - f)
    · rw [wd_no hw] at h; rw [upto_no hw]; exact ih h
    · rw [wd_yes hw] at h
      cases k with
      | zero =>
        obtain rfl : 80000 - (f : Int) = e := by simpa using h
        rw [upto_yes hw (Int.le_refl _), upto_none (Int.le_refl _)]
      | succ k =>
        have h' : (wd zs f)[k]? = some e := by simpa using h
        have hm := wd_mem (List.mem_of_getElem? h')
        rw [upto_yes hw (by omega), ih h']
theorem wd_drop {zs : List Int} : ∀ {f k : Nat} {e : Int}, (wd zs f)[k]? = some e → wd zs (80000 - e).toNat = (wd zs f).drop (k + 1) := by
  intro f
  induction f with
  | zero => intro k e h; simp [wd] at h
  | succ f ih =>
    intro k e h
    cases hw : wk zs (80000 - f)
    · rw [wd_no hw] at h ⊢; exact ih h
    · rw [wd_yes hw] at h ⊢
      cases k with
      | zero =>
        obtain rfl : 80000 - (f : Int) = e := by simpa using h
        rw [show (80000 - (80000 - (f : Int))).toNat = f from by omega]; simp
      | succ k =>
        have h' : (wd zs f)[k]? = some e := by simpa using h
        rw [ih h']; simp

theorem adv_zero (zs : List Int) (f : Nat) : adv zs f 0 = some (80000 - (f : Int)) := rfl
theorem adv_end (zs : List Int) (n : Nat) : adv zs 0 (n + 1) = none := by simp [adv, wd]
theorem adv_yes {zs : List Int} {f n : Nat} (h : wk zs (80000 - f) = true) : adv zs (f + 1) (n + 1) = adv zs f n := by
  rw [adv, wd_yes h]
  cases n with
  | zero => simp [adv]
  | succ n => simp [adv]
theorem adv_no {zs : List Int} {f n : Nat} (h : wk zs (80000 - f) = false) : adv zs (f + 1) (n + 1) = adv zs f (n + 1) := by
  rw [adv, wd_no h]; rfl
theorem adv_bd {zs : List Int} {f n : Nat} {e : Int} (hf : f ≤ 80000) (h : adv zs f n = some e) : 80000 - (f : Int) ≤ e ∧ e ≤ 80000 ∧ (n = 0 ∨ wk zs e = true) := by
  cases n with
  | zero => obtain rfl : 80000 - (f : Int) = e := by simpa [adv] using h
            exact ⟨by omega, by omega, .inl rfl⟩
  | succ n =>
    have := wd_mem (List.mem_of_getElem? h)
    exact ⟨by omega, by omega, .inr this.2.2⟩
theorem adv_upto {zs : List Int} {f n : Nat} {e : Int} (h : adv zs f n = some e) : upto zs f e = n := by
  cases n with
  | zero => obtain rfl : 80000 - (f : Int) = e := by simpa [adv] using h
            exact upto_none (Int.le_refl _)
  | succ n => exact upto_at h
/-- days in two parts are days at once -/
theorem adv_split {zs : List Int} {f k m : Nat} {e : Int} (hf : f ≤ 80000) (h : adv zs f (k + m) = some e) : ∃ g, adv zs f k = some g ∧ adv zs (80000 - g).toNat m = some e := by
  cases k with
  | zero =>
    refine ⟨80000 - f, rfl, ?_⟩
    rw [show (80000 - (80000 - (f : Int))).toNat = f from by omega]
    simpa using h
  | succ k =>
    rw [show k + 1 + m = (k + m) + 1 from by omega, adv] at h
    have hlt := (List.getElem?_eq_some_iff.1 h).1
    obtain ⟨g, hg⟩ : ∃ g, (wd zs f)[k]? = some g := ⟨_, List.getElem?_eq_getElem (by omega)⟩
    refine ⟨g, hg, ?_⟩
    have hb := wd_mem (List.mem_of_getElem? hg)
    cases m with
    | zero =>
      rw [adv_zero]
      have : g = e := by simpa [hg] using h
      subst this
      congr 1; omega
    | succ m =>
      rw [adv, wd_drop hg, List.getElem?_drop]
      rw [show k + 1 + m = k + (m + 1) from by omega]; exact h

end Go.Proofs.Ytlonjjliochbhaa

/- Chapter 8, what hangs on days alone: Late, the program's and the specification's. -/
namespace Go.Proofs.Ytlonjjliochbhaa
open Go.RowKit

/-- whether today is behind due, both days -/
def lateV (t d : Int) : Bool := dOk t && dOk d && decide (d < t)
theorem lateV_no1 {t d : Int} (h : dOk t = false) : lateV t d = false := by simp [lateV, h]
theorem lateV_no2 {t d : Int} (h : dOk d = false) : lateV t d = false := by simp [lateV, h]
theorem lateV_yes {t d : Int} (h : dOk t = true) (g : dOk d = true) : lateV t d = decide (d < t) := by simp [lateV, h, g]


set_option maxHeartbeats 400000 in
theorem sLate_any (t d : Int) (w : World) :
    Calls Try.prog 72 #[.int .i64 t, .int .i64 d] w fun e w' => e = .returned (.bool (lateV t d)) ∧ w' = w := by
  cases h1 : dOk t
  · have HV : Hid _ := lateV_no1 (d := d) h1
    go_enter Try.func72, Try.ntmps72
    go_wp2_with (go_at_call 24; refine (sDayOk_any _ _).mono ?_; rintro e w' ⟨rfl, rfl⟩)
    go_ret
    exact ⟨one_bool HV.out.symm, rfl⟩
  · cases h2 : dOk d
    · have HV : Hid _ := lateV_no2 (t := t) h2
      go_enter Try.func72, Try.ntmps72
      go_wp2_with (go_at_call 24; refine (sDayOk_any _ _).mono ?_; rintro e w' ⟨rfl, rfl⟩)
      go_ret
      exact ⟨one_bool HV.out.symm, rfl⟩
    · have HV : Hid _ := lateV_yes h1 h2
      go_enter Try.func72, Try.ntmps72
      go_wp2_with (go_at_call 24; refine (sDayOk_any _ _).mono ?_; rintro e w' ⟨rfl, rfl⟩)
      go_ret
      exact ⟨one_bool HV.out.symm, rfl⟩

end Go.Proofs.Ytlonjjliochbhaa

/- Contracts over holiday lists, the program's and the specification's: whether a list is one, whether a day is in it. -/
namespace Go.Proofs.Ytlonjjliochbhaa
open Go.RowKit


/-- the day ahead of number k in a list -/
def prev (zs : List Int) (k : Nat) : Int := if k = 0 then -1 else zs.getD (k - 1) 0

set_option maxHeartbeats 1600000 in
theorem sOff_any (ao : Option Addr) (c : Nat) (zs : List Int) (w : World) (hx : IntsAt w ao zs) (h1 : zs.length ≤ 1099511627776) :
    Calls Try.prog 25 #[.slice ao zs.length c] w fun e w' => e = .returned (.bool (offOk zs)) ∧ Below w.heap.size w w' := by
  rcases hx with rfl | ⟨b, off, rfl, hb, hcx⟩
  · go_enter Try.func25, Try.ntmps25
    go_wp2
    refine wp_loop_rounds 1 ?_
    rw [rounds_succ]
    go_wp2
    go_ret
    exact ⟨rfl, Below.refl _ _⟩
  · go_enter Try.func25, Try.ntmps25
    go_wp2
    go_loopw [3] (fun i wr => ∃ (k : Nat), k ≤ zs.length ∧ i = .int .i64 k ∧ ascB (-1) zs = ascB (prev zs k) (zs.drop k) ∧ Below w.heap.size w wr) (fun i _ => zs.length - (intOf i).toNat)
    case atStart => exact ⟨0, Nat.zero_le _, rfl, rfl, Below.refl _ _⟩
    case round =>
      obtain ⟨k, hk, rfl, ht, hbr⟩ := hrel
      by_cases hlt : k < zs.length
      · have e1 : wr.cell? ⟨b, off + k, none⟩ = some (.int .i64 (zs.getD k 0)) := (hbr.cell (p := ⟨b, off + k, none⟩) hb).trans (hcx k hlt)
        have hs := asc_step zs k (prev zs k) hlt
        have hnext : prev zs (k + 1) = zs.getD k 0 := by simp [prev]
        have hki : (k : Int) < (zs.length : Int) := by omega
        by_cases hk0 : k = 0
        · subst hk0
          obtain ⟨x, hxk⟩ : ∃ x, zs.getD 0 0 = x := ⟨_, rfl⟩
          rw [hxk] at e1 hs hnext
          rw [Nat.add_zero] at e1
          have HK : Hid (ascB (-1) zs = (decide ((-1 : Int) < x ∧ 0 ≤ x ∧ x ≤ 80000) && ascB x (zs.drop (0 + 1)))) := ht.trans hs
          have HX : Hid _ := hnext
          clear hcx hxk ht hs hnext
          cases hd : dOk x
          · have HN : Hid (offOk zs = false) := off_no2 (by rw [HK.out, decide_eq_false (fun hh => by rw [dOk_pos hh.2.1 hh.2.2] at hd; cases hd)]; rfl)
            go_wp2
            go_quiet (exact Calls.quiet_of_same (sDayOk_any _ _))
            go_wp2
            go_ret
            exact ⟨one_bool HN.out.symm, below_drewN hbr _⟩
          · have hb2 := dOk_bd hd
            have HY : Hid (ascB (-1) zs = ascB x (zs.drop (0 + 1))) := by rw [Hid, HK.out, decide_eq_true ⟨by omega, hb2.1, hb2.2⟩]; rfl
            go_wp2
            go_quiet (exact Calls.quiet_of_same (sDayOk_any _ _))
            go_wp2
            go_roundw
            case rel => exact ⟨1, by omega, by go_num, by rw [HX.out]; exact HY.out, below_drewN hbr _⟩
            case measure => simp [intOf]; omega
        · obtain ⟨j, rfl⟩ : ∃ j, k = j + 1 := ⟨k - 1, by omega⟩
          have e2 : wr.cell? ⟨b, off + j, none⟩ = some (.int .i64 (zs.getD j 0)) := (hbr.cell (p := ⟨b, off + j, none⟩) hb).trans (hcx j (by omega))
          have hpv : prev zs (j + 1) = zs.getD j 0 := by simp [prev]
          rw [hpv] at ht hs
          obtain ⟨x, hxk⟩ : ∃ x, zs.getD (j + 1) 0 = x := ⟨_, rfl⟩
          obtain ⟨y, hyk⟩ : ∃ y, zs.getD j 0 = y := ⟨_, rfl⟩
          rw [hxk] at e1 hs hnext
          rw [hyk] at e2 ht hs
          have HK : Hid (ascB (-1) zs = (decide (y < x ∧ 0 ≤ x ∧ x ≤ 80000) && ascB x (zs.drop (j + 1 + 1)))) := ht.trans hs
          have HX : Hid _ := hnext
          clear hcx hxk hyk ht hs hnext hpv
          cases hd : dOk x
          · have HN : Hid (offOk zs = false) := off_no2 (by rw [HK.out, decide_eq_false (fun hh => by rw [dOk_pos hh.2.1 hh.2.2] at hd; cases hd)]; rfl)
            go_wp2
            go_quiet (exact Calls.quiet_of_same (sDayOk_any _ _))
            go_wp2
            go_ret
            exact ⟨one_bool HN.out.symm, below_drewN hbr _⟩
          · have hb2 := dOk_bd hd
            by_cases hp : y < x
            · have HY : Hid (ascB (-1) zs = ascB x (zs.drop (j + 1 + 1))) := by rw [Hid, HK.out, decide_eq_true ⟨hp, hb2.1, hb2.2⟩]; rfl
              go_wp2
              go_quiet (exact Calls.quiet_of_same (sDayOk_any _ _))
              go_wp2
              go_roundw
              case rel => exact ⟨j + 1 + 1, by omega, by go_num, by rw [HX.out]; exact HY.out, below_drewN hbr _⟩
              case measure => simp [intOf]; omega
            · have hp' : x ≤ y := by omega
              have HN : Hid (offOk zs = false) := off_no2 (by rw [HK.out, decide_eq_false (fun hh => hp hh.1)]; rfl)
              go_wp2
              go_quiet (exact Calls.quiet_of_same (sDayOk_any _ _))
              go_wp2
              go_ret
              exact ⟨one_bool HN.out.symm, below_drewN hbr _⟩
      · have hasc : ascB (-1) zs = true := by rw [ht, List.drop_of_length_le (by omega)]; rfl
        have HE : Hid (offOk zs = decide ((zs.length : Int) ≤ 400)) := by
          by_cases h4 : zs.length ≤ 400
          · rw [Hid, off_yes h4 hasc, decide_eq_true (by omega)]
          · rw [Hid, off_no1 (by omega), decide_eq_false (by omega)]
        have hki : ¬ (k : Int) < (zs.length : Int) := by omega
        clear hcx ht hasc
        go_wp2
        go_ret
        exact ⟨one_bool HE.out.symm, hbr⟩

theorem wk_in {zs : List Int} {d : Int} (h : d ∈ zs) : wk zs d = false := by simp [wk, h]
theorem wk_out {zs : List Int} {d : Int} (h : d ∉ zs) : wk zs d = decide ((d + 5) % 7 < 5) := by simp [wk, h]
theorem not_in {zs : List Int} {d : Int} (h : ∀ j, j < zs.length → zs.getD j 0 ≠ d) : d ∉ zs := fun hm => by
  obtain ⟨k, hk, e⟩ := List.mem_iff_getElem.1 hm
  exact h k hk (by simp [List.getD_eq_getElem?_getD, hk, e])

set_option maxHeartbeats 800000 in
theorem sWorks2_any (d : Int) (ao : Option Addr) (c : Nat) (zs : List Int) (w : World) (hx : IntsAt w ao zs) (h1 : zs.length ≤ 1099511627776) (hd : dOk d = true) :
    Calls Try.prog 81 #[.int .i64 d, .slice ao zs.length c] w fun e w' => e = .returned (.bool (wk zs d)) ∧ w' = w := by
  have hwd := wdV_yes hd
  have hdb := dOk_bd hd
  rcases hx with rfl | ⟨b, off, rfl, hb, hcx⟩
  · have HV : Hid (wk [] d = decide ((d + 5) % 7 < 5)) := wk_out (by simp)
    go_enter Try.func81, Try.ntmps81
    go_wp2
    refine wp_loop_rounds 1 ?_
    rw [rounds_succ]
    go_wp2_with (go_at_call 82; refine (sWeekDay_any _ _).mono ?_; rintro e w' ⟨rfl, rfl⟩; rw [hwd])
    go_ret
    exact ⟨one_bool HV.out.symm, rfl⟩
  · go_enter Try.func81, Try.ntmps81
    go_wp2
    go_loop [5] (fun i => ∃ k : Nat, k ≤ zs.length ∧ i = .int .i64 k ∧ ∀ j, j < k → zs.getD j 0 ≠ d) (fun i => zs.length - (intOf i).toNat)
    case atStart => exact ⟨0, Nat.zero_le _, rfl, fun j hj => by omega⟩
    case round =>
      obtain ⟨k, hk, rfl, hno⟩ := hrel
      have HN : Hid _ := hno
      clear hno
      by_cases hlt : k < zs.length
      · have e1 := hcx k hlt
        have hmem : zs.getD k 0 ∈ zs := by simp [List.getD_eq_getElem?_getD, hlt]
        obtain ⟨x, hxk⟩ : ∃ x, zs.getD k 0 = x := ⟨_, rfl⟩
        rw [hxk] at e1 hmem
        have HX : Hid _ := hxk
        have hki : (k : Int) < (zs.length : Int) := by omega
        clear hcx hxk
        cases he : (x == d)
        · have hne : x ≠ d := by simpa using he
          have HR : Hid (∀ j, j < k + 1 → zs.getD j 0 ≠ d) := fun j hj => by
            rcases (show j < k ∨ j = k from by omega) with h | rfl
            · exact HN.out j h
            · rw [HX.out]; exact hne
          clear hmem hne
          go_wp2
          go_round
          case rel => exact ⟨k + 1, by omega, by go_num, HR.out⟩
          case measure => simp [intOf]; omega
        · have hxd : x = d := by simpa using he
          have HV : Hid (wk zs d = false) := wk_in (hxd ▸ hmem)
          clear hmem hxd
          go_wp2
          go_ret
          exact ⟨one_bool HV.out.symm, rfl⟩
      · have HV : Hid (wk zs d = decide ((d + 5) % 7 < 5)) := wk_out (not_in (fun j hj => HN.out j (by omega)))
        have hki : ¬ (k : Int) < (zs.length : Int) := by omega
        clear hcx
        go_wp2_with (go_at_call 82; refine (sWeekDay_any _ _).mono ?_; rintro e w' ⟨rfl, rfl⟩; rw [hwd])
        go_ret
        exact ⟨one_bool HV.out.symm, rfl⟩

end Go.Proofs.Ytlonjjliochbhaa

/- The search by halves, and what is told by it: whether a day is a holiday; Works. -/
namespace Go.Proofs.Ytlonjjliochbhaa
open Go.RowKit






theorem worksV_no1 {d : Int} {zs : List Int} (h : dOk d = false) : worksV d zs = false := by simp [worksV, h]
theorem worksV_no2 {d : Int} {zs : List Int} (h : offOk zs = false) : worksV d zs = false := by simp [worksV, h]
theorem worksV_is {d : Int} {zs : List Int} (h : dOk d = true) (g : offOk zs = true) : worksV d zs = wk zs d := by simp [worksV, h, g]

end Go.Proofs.Ytlonjjliochbhaa

/- Heaps of candidates, plainly: the least one stands first; what one step upward does; which authorization is the best. No Go in sight. -/
namespace Go.Proofs.Ytlonjjliochbhaa

/-- a candidate: its score and its place -/
abbrev Cd := Int × Int
def ltC (x y : Cd) : Bool := decide (x.1 < y.1 ∨ (x.1 = y.1 ∧ x.2 < y.2))
theorem lt_irr (x : Cd) : ltC x x = false := by simp only [ltC, decide_eq_false_iff_not]; omega
theorem lt_asym {x y : Cd} (h : ltC x y = true) : ltC y x = false := by simp only [ltC, decide_eq_true_eq, decide_eq_false_iff_not] at *; omega
theorem ge_trans {x y z : Cd} (h : ltC z y = false) (g : ltC y x = false) : ltC z x = false := by simp only [ltC, decide_eq_false_iff_not] at *; omega
theorem ge_of_lt {k p j : Cd} (h : ltC k p = false) (g : ltC j p = true) : ltC k j = false := by simp only [ltC, decide_eq_true_eq, decide_eq_false_iff_not] at *; omega

def par (j : Nat) : Nat := (j - 1) / 2
theorem par_lt {j : Nat} (h : 0 < j) : par j < j := by unfold par; omega
/-- each one is not less than the one above it -/
def HeapF (f : Nat → Cd) (n : Nat) : Prop := ∀ k, 0 < k → k < n → ltC (f k) (f (par k)) = false
/-- so, but perhaps for the one at j -/
def NearF (f : Nat → Cd) (n j : Nat) : Prop := (∀ k, 0 < k → k < n → k ≠ j → ltC (f k) (f (par k)) = false) ∧ (0 < j → ∀ k, 0 < k → k < n → par k = j → ltC (f k) (f (par j)) = false)
def swapF (f : Nat → Cd) (i k : Nat) : Nat → Cd := fun m => if m = i then f k else if m = k then f i else f m
theorem swapF_i (f : Nat → Cd) (i k : Nat) : swapF f i k i = f k := if_pos rfl
theorem swapF_k (f : Nat → Cd) (i k : Nat) : swapF f i k k = f i := by
  unfold swapF
  by_cases h : k = i
  · rw [if_pos h, h]
  · rw [if_neg h, if_pos rfl]
theorem swapF_m (f : Nat → Cd) {i k m : Nat} (h : m ≠ i) (g : m ≠ k) : swapF f i k m = f m := by unfold swapF; rw [if_neg h, if_neg g]
theorem near_done {f : Nat → Cd} {n j : Nat} (h : NearF f n j) (hj : j = 0 ∨ ltC (f j) (f (par j)) = false) : HeapF f n := by
  intro k h0 hk
  by_cases e : k = j
  · subst e
    rcases hj with rfl | hj
    · omega
    · exact hj
  · exact h.1 k h0 hk e
theorem near_swap {f : Nat → Cd} {n j : Nat} (h : NearF f n j) (h0 : 0 < j) (hj : j < n) (hl : ltC (f j) (f (par j)) = true) : NearF (swapF f (par j) j) n (par j) := by
  have hp := par_lt h0
  refine ⟨fun k k0 kn kp => ?_, fun p0 k k0 kn kp => ?_⟩
  · by_cases kj : k = j
    · subst kj
      rw [swapF_k, swapF_i]
      exact lt_asym hl
    · rw [swapF_m f kp kj]
      by_cases e1 : par k = par j
      · rw [e1, swapF_i]
        have := h.1 k k0 kn kj
        rw [e1] at this
        exact ge_of_lt this hl
      · by_cases e2 : par k = j
        · rw [e2, swapF_k]
          exact h.2 h0 k k0 kn e2
        · rw [swapF_m f e1 e2]
          exact h.1 k k0 kn kj
  · have hpp := par_lt p0
    rw [swapF_m f (show par (par j) ≠ par j by omega) (show par (par j) ≠ j by omega)]
    have hq := h.1 (par j) p0 (by omega) (by omega)
    by_cases kj : k = j
    · subst kj
      rw [swapF_k]
      exact hq
    · have hkp := par_lt k0
      rw [swapF_m f (show k ≠ par j by omega) kj]
      have := h.1 k k0 kn kj
      rw [kp] at this
      exact ge_trans this hq
theorem heap_min {f : Nat → Cd} {n : Nat} (h : HeapF f n) : ∀ k, k < n → ltC (f k) (f 0) = false := by
  intro k
  induction k using Nat.strongRecOn with
  | _ k ih =>
    intro hk
    by_cases k0 : k = 0
    · subst k0; exact lt_irr _
    · have hp := par_lt (show 0 < k by omega)
      exact ge_trans (h k (by omega) hk) (ih (par k) hp (by omega))

def cdAt (H : List Cd) (k : Nat) : Cd := H.getD k (0, 0)
theorem cdAt_is {H : List Cd} {k : Nat} (h : k < H.length) : cdAt H k = H[k] := by simp [cdAt, List.getD_eq_getElem?_getD, h]
def IsHeap (H : List Cd) : Prop := HeapF (cdAt H) H.length
def Near (H : List Cd) (j : Nat) : Prop := NearF (cdAt H) H.length j
def swapL (H : List Cd) (i k : Nat) : List Cd := (H.set i (cdAt H k)).set k (cdAt H i)
theorem swapL_len (H : List Cd) (i k : Nat) : (swapL H i k).length = H.length := by simp [swapL]
theorem swapL_at {H : List Cd} {i k : Nat} (hi : i < H.length) (hk : k < H.length) (m : Nat) : cdAt (swapL H i k) m = swapF (cdAt H) i k m := by
  unfold swapF swapL
  by_cases hm : m < H.length
  · rw [cdAt_is (by simp; exact hm)]
    by_cases e2 : m = k
    · subst e2
      rw [List.getElem_set_self]
      by_cases e1 : m = i
      · rw [if_pos e1, e1]
      · rw [if_neg e1, if_pos rfl]
    · rw [List.getElem_set_ne (by omega)]
      by_cases e1 : m = i
      · subst e1
        rw [List.getElem_set_self, if_pos rfl]
      · rw [List.getElem_set_ne (by omega), if_neg e1, if_neg e2, cdAt_is hm]
  · have e1 : m ≠ i := by omega
    have e2 : m ≠ k := by omega
    rw [if_neg e1, if_neg e2]
    simp [cdAt, List.getD_eq_getElem?_getD, hm]
theorem swapL_fun {H : List Cd} {i k : Nat} (hi : i < H.length) (hk : k < H.length) : cdAt (swapL H i k) = swapF (cdAt H) i k := funext (swapL_at hi hk)
/-- the same candidates, in whatever order -/
def SameC (H G : List Cd) : Prop := G.length = H.length ∧ (∀ i, i < H.length → ∃ j, j < H.length ∧ cdAt G i = cdAt H j) ∧ (∀ j, j < H.length → ∃ i, i < H.length ∧ cdAt G i = cdAt H j)
theorem SameC.refl (H : List Cd) : SameC H H := ⟨rfl, fun i hi => ⟨i, hi, rfl⟩, fun j hj => ⟨j, hj, rfl⟩⟩
theorem SameC.trans {H G K : List Cd} (h : SameC H G) (g : SameC G K) : SameC H K := by
  refine ⟨g.1.trans h.1, fun i hi => ?_, fun j hj => ?_⟩
  · obtain ⟨a, ha, e⟩ := g.2.1 i (by rw [h.1]; exact hi)
    obtain ⟨b, hb, e'⟩ := h.2.1 a (by rw [h.1] at ha; exact ha)
    exact ⟨b, hb, e.trans e'⟩
  · obtain ⟨a, ha, e⟩ := h.2.2 j hj
    obtain ⟨b, hb, e'⟩ := g.2.2 a (by rw [h.1]; exact ha)
    exact ⟨b, by rw [h.1] at hb; exact hb, e'.trans e⟩
theorem same_swap {H : List Cd} {i k : Nat} (hi : i < H.length) (hk : k < H.length) : SameC H (swapL H i k) := by
  refine ⟨swapL_len H i k, fun m hm => ?_, fun m hm => ?_⟩
  · rw [swapL_at hi hk]
    by_cases e1 : m = i
    · exact ⟨k, hk, by rw [e1, swapF_i]⟩
    · by_cases e2 : m = k
      · exact ⟨i, hi, by rw [e2, swapF_k]⟩
      · exact ⟨m, hm, swapF_m _ e1 e2⟩
  · by_cases e1 : m = i
    · exact ⟨k, hk, by rw [swapL_at hi hk, swapF_k, e1]⟩
    · by_cases e2 : m = k
      · exact ⟨i, hi, by rw [swapL_at hi hk, swapF_i, e2]⟩
      · exact ⟨m, hm, by rw [swapL_at hi hk, swapF_m _ e1 e2]⟩
theorem cdAt_app {H : List Cd} {x : Cd} {k : Nat} (h : k < H.length) : cdAt (H ++ [x]) k = cdAt H k := by
  rw [cdAt_is (by simp; omega), cdAt_is h, List.getElem_append_left h]
theorem cdAt_last (H : List Cd) (x : Cd) : cdAt (H ++ [x]) H.length = x := by
  rw [cdAt_is (by simp)]; simp
theorem push_near {H : List Cd} (h : IsHeap H) (x : Cd) : Near (H ++ [x]) H.length := by
  refine ⟨fun k k0 kn kj => ?_, fun j0 k k0 kn kp => ?_⟩
  · have hk : k < H.length := by simp at kn; omega
    have hp := par_lt k0
    rw [cdAt_app hk, cdAt_app (by omega)]
    exact h k k0 hk
  · have hp := par_lt k0
    simp at kn
    omega

/-- a heap of the candidates among the first n, whose scores are sc -/
structure Cands (sc : Nat → Int) (n : Nat) (H : List Cd) : Prop where
  heap : IsHeap H
  only : ∀ i, i < H.length → ∃ m, m < n ∧ cdAt H i = (sc m, (m : Int)) ∧ 0 ≤ sc m
  all : ∀ m, m < n → 0 ≤ sc m → ∃ i, i < H.length ∧ cdAt H i = (sc m, (m : Int))
  le : H.length ≤ n
theorem Cands.start (sc : Nat → Int) : Cands sc 0 [] := ⟨fun k _ h => by simp at h, fun i h => by simp at h, fun m h => by omega, Nat.le_refl _⟩
theorem Cands.skip {sc : Nat → Int} {n : Nat} {H : List Cd} (h : Cands sc n H) (hs : sc n < 0) : Cands sc (n + 1) H := by
  refine ⟨h.heap, fun i hi => ?_, fun m hm h0 => ?_, Nat.le_succ_of_le h.le⟩
  · obtain ⟨m, hm, e⟩ := h.only i hi
    exact ⟨m, by omega, e⟩
  · by_cases e : m = n
    · subst e; omega
    · exact h.all m (by omega) h0
theorem Cands.push {sc : Nat → Int} {n : Nat} {H G : List Cd} (h : Cands sc n H) (hs : 0 ≤ sc n) (hg : IsHeap G) (hsame : SameC (H ++ [(sc n, (n : Int))]) G) : Cands sc (n + 1) G := by
  have hl := hsame.1
  simp at hl
  have hle := h.le
  refine ⟨hg, fun i hi => ?_, fun m hm h0 => ?_, by omega⟩
  · obtain ⟨j, hj, e⟩ := hsame.2.1 i (by simp; omega)
    rw [e]
    simp at hj
    by_cases ej : j = H.length
    · subst ej
      rw [cdAt_last]
      exact ⟨n, by omega, rfl, hs⟩
    · rw [cdAt_app (show j < H.length by omega)]
      obtain ⟨m, hm, e2⟩ := h.only j (by omega)
      exact ⟨m, by omega, e2⟩
  · by_cases e : m = n
    · subst e
      obtain ⟨i, hi, e2⟩ := hsame.2.2 H.length (by simp)
      rw [cdAt_last] at e2
      exact ⟨i, by simp at hi; omega, e2⟩
    · obtain ⟨j, hj, e2⟩ := h.all m (by omega) h0
      obtain ⟨i, hi, e3⟩ := hsame.2.2 j (by simp; omega)
      rw [cdAt_app hj] at e3
      exact ⟨i, by simp at hi; omega, e3.trans e2⟩

/-- which place is the best of n with scores sc; -1 for none -/
def Best (sc : Nat → Int) (n : Nat) (x : Int) : Prop := (x = -1 ∧ ∀ k, k < n → sc k < 0) ∨ ∃ i : Nat, i < n ∧ x = (i : Int) ∧ 0 ≤ sc i ∧ ∀ k, k < n → 0 ≤ sc k → (sc i < sc k ∨ (sc i = sc k ∧ i ≤ k))
theorem best_one {sc : Nat → Int} {n : Nat} {x y : Int} (h : Best sc n x) (g : Best sc n y) : x = y := by
  rcases h with ⟨rfl, h⟩ | ⟨i, hi, rfl, hs, h⟩
  · rcases g with ⟨rfl, _⟩ | ⟨k, hk, rfl, gs, _⟩
    · rfl
    · have := h k hk; omega
  · rcases g with ⟨rfl, g⟩ | ⟨k, hk, rfl, gs, g⟩
    · have := g i hi; omega
    · have h1 := h k hk gs
      have h2 := g i hi hs
      omega
theorem best_none {sc : Nat → Int} {n : Nat} {H : List Cd} (h : Cands sc n H) (h0 : H.length = 0) : Best sc n (-1) := by
  refine .inl ⟨rfl, fun k hk => ?_⟩
  by_cases e : sc k < 0
  · exact e
  · obtain ⟨i, hi, _⟩ := h.all k hk (by omega)
    omega
theorem best_root {sc : Nat → Int} {n : Nat} {H : List Cd} (h : Cands sc n H) (h0 : 0 < H.length) : Best sc n (cdAt H 0).2 := by
  obtain ⟨m, hm, e, hs⟩ := h.only 0 h0
  refine .inr ⟨m, hm, by rw [e], hs, fun k hk ks => ?_⟩
  obtain ⟨i, hi, e2⟩ := h.all k hk ks
  have := heap_min h.heap i hi
  rw [e, e2] at this
  simp only [ltC, decide_eq_false_iff_not] at this
  omega
/-- one more, looked at in order -/
theorem best_step {sc : Nat → Int} {n : Nat} {x : Int} (h : Best sc n x) (hs : sc n < 0) : Best sc (n + 1) x := by
  rcases h with ⟨rfl, h⟩ | ⟨i, hi, rfl, h1, h⟩
  · exact .inl ⟨rfl, fun k hk => by by_cases e : k = n; subst e; exact hs; exact h k (by omega)⟩
  · exact .inr ⟨i, by omega, rfl, h1, fun k hk ks => by by_cases e : k = n; subst e; omega; exact h k (by omega) ks⟩
theorem best_first {sc : Nat → Int} {n : Nat} (h : Best sc n (-1)) (hs : 0 ≤ sc n) : Best sc (n + 1) (n : Int) := by
  refine .inr ⟨n, by omega, rfl, hs, fun k hk ks => ?_⟩
  rcases h with ⟨_, h⟩ | ⟨i, _, e, _⟩
  · by_cases e : k = n
    · subst e; omega
    · have := h k (by omega); omega
  · omega
theorem best_new {sc : Nat → Int} {n i : Nat} (h : Best sc n (i : Int)) (hs : 0 ≤ sc n) (hl : sc n < sc i) : Best sc (n + 1) (n : Int) := by
  refine .inr ⟨n, by omega, rfl, hs, fun k hk ks => ?_⟩
  rcases h with ⟨e, _⟩ | ⟨j, hj, e, _, h⟩
  · omega
  · have ej : j = i := by omega
    subst ej
    by_cases e : k = n
    · subst e; omega
    · have := h k (by omega) ks; omega
theorem best_old {sc : Nat → Int} {n i : Nat} (h : Best sc n (i : Int)) (hl : ¬ sc n < sc i) : Best sc (n + 1) (i : Int) := by
  rcases h with ⟨e, _⟩ | ⟨j, hj, e, h1, h⟩
  · omega
  · have ej : j = i := by omega
    subst ej
    exact .inr ⟨j, by omega, rfl, h1, fun k hk ks => by by_cases e : k = n; subst e; omega; exact h k (by omega) ks⟩

end Go.Proofs.Ytlonjjliochbhaa

/- Whether a text's bytes lie within bounds: the program's own test, at every text. -/
namespace Go.Proofs.Ytlonjjliochbhaa
open Go.RowKit

theorem in_byte (c : UInt8) (a b : Nat) : inB (c.toNat : Int) a b = (decide (a ≤ c.toNat) && decide (c.toNat ≤ b)) := by
  unfold inB
  by_cases h1 : a ≤ c.toNat <;> by_cases h2 : c.toNat ≤ b <;> simp [h1, h2]



end Go.Proofs.Ytlonjjliochbhaa


/- The contracts of the program's accountOk, EntryOk, Back, keyOf, BalanceOf, Worth, lineOk. -/
namespace Go.Proofs.Ytlonjjliochbhaa
open Go.RowKit
set_option maxRecDepth 100000






end Go.Proofs.Ytlonjjliochbhaa

/- The contract of the program's AuthOk: what it returns for every authorization. -/
namespace Go.Proofs.Ytlonjjliochbhaa
open Go.RowKit
set_option maxRecDepth 100000




end Go.Proofs.Ytlonjjliochbhaa

/- An authorization in a box: its six cells. -/
namespace Go.Proofs.Ytlonjjliochbhaa
open Go.RowKit
set_option maxRecDepth 100000

/-- six cells of an authorization -/
structure AuB (b : Nat) (a : Au) (u : World) : Prop where
  c0 : u.cell? ⟨b, 0, none⟩ = some (.string ⟨a.ref.toArray⟩)
  c1 : u.cell? ⟨b, 1, none⟩ = some (.int .i64 a.iss)
  c2 : u.cell? ⟨b, 2, none⟩ = some (.int .i64 a.cur)
  c3 : u.cell? ⟨b, 3, none⟩ = some (.int .i64 a.am)
  c4 : u.cell? ⟨b, 4, none⟩ = some (.int .i64 a.day)
  c5 : u.cell? ⟨b, 5, none⟩ = some (.bool a.used)
theorem AuB.lt {b : Nat} {a : Au} {u : World} (x : AuB b a u) : b < u.heap.size := World.block_lt_of_cell? u _ x.c0
theorem AuB.below {b : Nat} {a : Au} {u u' : World} (x : AuB b a u) (h : Below u.heap.size u u') : AuB b a u' := by
  have l := x.lt
  exact ⟨(h.cell (p := ⟨b, 0, none⟩) l).trans x.c0, (h.cell (p := ⟨b, 1, none⟩) l).trans x.c1, (h.cell (p := ⟨b, 2, none⟩) l).trans x.c2, (h.cell (p := ⟨b, 3, none⟩) l).trans x.c3, (h.cell (p := ⟨b, 4, none⟩) l).trans x.c4, (h.cell (p := ⟨b, 5, none⟩) l).trans x.c5⟩
theorem AuB.grown {b : Nat} {a : Au} {u u' : World} {row : Option Nat} (x : AuB b a u) (g : u.grownBy u' row) (hr : some b ≠ row) : AuB b a u' := by
  have l := x.lt
  exact ⟨(g.cell_far ⟨b, 0, none⟩ l hr).trans x.c0, (g.cell_far ⟨b, 1, none⟩ l hr).trans x.c1, (g.cell_far ⟨b, 2, none⟩ l hr).trans x.c2, (g.cell_far ⟨b, 3, none⟩ l hr).trans x.c3, (g.cell_far ⟨b, 4, none⟩ l hr).trans x.c4, (g.cell_far ⟨b, 5, none⟩ l hr).trans x.c5⟩
theorem AuB.new (w : World) (a : Au) (t : TypeId) : AuB w.heap.size a (w.alloc (.cells #[.string ⟨a.ref.toArray⟩, .int .i64 a.iss, .int .i64 a.cur, .int .i64 a.am, .int .i64 a.day, .bool a.used] t)) :=
  ⟨by simp, by simp, by simp, by simp, by simp, by simp⟩

end Go.Proofs.Ytlonjjliochbhaa

/- The contract of the program's MatchScore: how near an authorization is, for every authorization and every four numbers. -/
namespace Go.Proofs.Ytlonjjliochbhaa
open Go.RowKit
set_option maxRecDepth 100000

theorem wf_bd {x : Int} (h : (Lit.int .i64 x).wf = true) : -9223372036854775808 ≤ x ∧ x ≤ 9223372036854775807 := by
  simpa [Lit.wf, IntKind.min, IntKind.max, IntKind.signed, IntKind.bits] using h
theorem score_no {a : Au} {iss cur am day : Int} (h : canV a iss cur am day = false) : scoreV a iss cur am day = -1 := by rw [scoreV, if_neg (by rw [h]; decide)]
theorem score_yes {a : Au} {iss cur am day : Int} (h : canV a iss cur am day = true) : scoreV a iss cur am day = 8 * absV (am - a.am) + day - a.day := by rw [scoreV, if_pos h]
theorem can_is (a : Au) (iss cur am day : Int) : canV a iss cur am day = (auOk a && (!a.used && (decide (a.iss = iss) && (decide (a.cur = cur) && (timeOk a day && sumOk a am))))) := rfl
theorem abs_max (x : Int) : max x (-x) = absV x := by unfold absV; split <;> omega




end Go.Proofs.Ytlonjjliochbhaa

/- The contract of the specification's AuthOk: what it returns for every authorization. -/
namespace Go.Proofs.Ytlonjjliochbhaa
open Go.RowKit
set_option maxRecDepth 100000

theorem in_isA {x a b : Int} {q : Bool} (h : inB x a b = q) (w : World) : Calls Try.prog 33 #[.int .i64 x, .int .i64 a, .int .i64 b] w fun e w' => e = .returned (.bool q) ∧ w' = w := by rw [← h]; exact in_any x a b w

set_option maxHeartbeats 3200000 in
theorem sAuthOk_any (a : Au) (w : World) (hl : a.ref.length ≤ 1099511627776) :
    Calls Try.prog 48 #[auv a] w fun e w' => e = .returned (.bool (auOk a)) ∧ Below w.heap.size w w' := by
  obtain ⟨r, i, c, m, d, u⟩ := a
  simp only [auv] at hl ⊢
  have HV : Hid (auOk ⟨r, i, c, m, d, u⟩ = ((decide (r.length = 12) && within 33 126 r) && (acctOk i && (decide (0 ≤ digs c) && (decide (1 ≤ m ∧ m ≤ 100000000000) && dOk d))))) := rfl
  obtain ⟨W, hW⟩ : ∃ W, w.alloc (.cells #[.string ⟨r.toArray⟩, .int .i64 i, .int .i64 c, .int .i64 m, .int .i64 d, .bool u] 63) = W := ⟨_, rfl⟩
  have bW : Below w.heap.size w W := hW ▸ (Below.refl _ _).alloc (Nat.le_refl _) _
  have HBW : Hid (Below w.heap.size w W) := bW
  have c0 : W.cell? ⟨w.heap.size, 0, none⟩ = some (.string ⟨r.toArray⟩) := by rw [← hW]; simp
  have c1 : W.cell? ⟨w.heap.size, 1, none⟩ = some (.int .i64 i) := by rw [← hW]; simp
  have c2 : W.cell? ⟨w.heap.size, 2, none⟩ = some (.int .i64 c) := by rw [← hW]; simp
  have c3 : W.cell? ⟨w.heap.size, 3, none⟩ = some (.int .i64 m) := by rw [← hW]; simp
  have c4 : W.cell? ⟨w.heap.size, 4, none⟩ = some (.int .i64 d) := by rw [← hW]; simp
  have lW : w.heap.size < W.heap.size := by rw [← hW]; simp
  have HW : Hid _ := hW
  clear hW bW
  go_enter Try.func48, Try.ntmps48
  go_wp2
  rw [HW.out]
  clear HW
  go_loopw [3] (fun i wr => ∃ k : Nat, k ≤ r.length ∧ i = .int .i64 k ∧ within 33 126 r = within 33 126 (r.drop k) ∧ wr = W) (fun i _ => r.length - (intOf i).toNat)
  case atStart => exact ⟨0, Nat.zero_le _, rfl, rfl, rfl⟩
  case round =>
    obtain ⟨k, hk, rfl, ht, hwr⟩ := hrel
    subst hwr
    by_cases hlt : k < r.length
    · have hki : (k : Int) < (r.length : Int) := by omega
      have hs := within_step 33 126 r k hlt
      obtain ⟨b, hb⟩ : ∃ b, (⟨r.toArray⟩ : ByteArray)[k]'(by rw [ba_size]; exact hlt) = b := ⟨_, rfl⟩
      rw [(byte_at r k hlt).trans hb, ← in_byte b 33 126] at hs
      have HS : Hid _ := ht.trans hs
      have hwc := wrap_byte b
      clear hs ht
      cases hin : inB (b.toNat : Int) 33 126
      · have HN : Hid (within 33 126 r = false) := by rw [Hid, HS.out]; simp [hin]
        clear HS
        go_wp2_with fail
        refine (in_isA hin _).mono ?_
        rintro e w1 ⟨rfl, hw1⟩
        subst hw1
        go_wp2
        go_ret
        exact ⟨one_bool (by rw [HV.out, HN.out]; simp), HBW.out⟩
      · have HY : Hid (within 33 126 r = within 33 126 (r.drop (k + 1))) := by rw [Hid, HS.out]; simp [hin]
        clear HS
        go_wp2_with fail
        refine (in_isA hin _).mono ?_
        rintro e w1 ⟨rfl, hw1⟩
        subst hw1
        go_wp2
        go_roundw
        case rel => exact ⟨k + 1, by omega, by go_num, HY.out, trivial⟩
        case measure => simp [intOf]; omega
    · have hke : k = r.length := by omega
      subst hke
      have HE : Hid (within 33 126 r = true) := by rw [Hid, ht, within_end]
      clear ht
      by_cases h12 : r.length = 12
      · have hq : ((r.length : Int) == 12) = true := by simp [h12]
        have HV1 : Hid (auOk ⟨r, i, c, m, d, u⟩ = (acctOk i && (decide (0 ≤ digs c) && (decide (1 ≤ m ∧ m ≤ 100000000000) && dOk d)))) := by rw [Hid, HV.out, HE.out, decide_eq_true h12]; rfl
        clear h12 HV HE
        cases hi : acctOk i
        · go_wp2_with fail
          refine (acct_is hi _).mono ?_
          rintro e w1 ⟨rfl, hw1⟩
          subst hw1
          go_wp2
          go_ret
          exact ⟨one_bool (by rw [HV1.out, hi]; rfl), HBW.out⟩
        · go_wp2_with fail
          refine (acct_is hi _).mono ?_
          rintro e w1 ⟨rfl, hw1⟩
          subst hw1
          go_wp2_with fail
          refine (sDigits_any c _).mono ?_
          rintro e w2 ⟨rfl, b2⟩
          have e3 : w2.cell? ⟨w.heap.size, 3, none⟩ = some (.int .i64 m) := (b2.cell (p := ⟨w.heap.size, 3, none⟩) lW).trans c3
          have e4 : w2.cell? ⟨w.heap.size, 4, none⟩ = some (.int .i64 d) := (b2.cell (p := ⟨w.heap.size, 4, none⟩) lW).trans c4
          have HB : Hid (Below w.heap.size w w2) := HBW.out.trans (b2.mono HBW.out.size)
          rw [hi] at HV1
          clear c0 c1 c2 c3 c4 b2 HBW
          by_cases hd : 0 ≤ digs c
          · cases hin : inB m 1 100000000000
            · have HVV : Hid (auOk ⟨r, i, c, m, d, u⟩ = false) := by
                have : decide (1 ≤ m ∧ m ≤ 100000000000) = false := hin
                rw [Hid, HV1.out, decide_eq_true hd, this]; rfl
              clear HV1
              generalize digs c = g at hd
              go_wp2_with fail
              refine (in_isA hin _).mono ?_
              rintro e w3 ⟨rfl, hw3⟩
              subst hw3
              go_wp2
              go_ret
              exact ⟨one_bool HVV.out.symm, HB.out⟩
            · have HVV : Hid (auOk ⟨r, i, c, m, d, u⟩ = dOk d) := by
                have : decide (1 ≤ m ∧ m ≤ 100000000000) = true := hin
                rw [Hid, HV1.out, decide_eq_true hd, this]; rfl
              clear HV1
              generalize digs c = g at hd
              go_wp2_with fail
              refine (in_isA hin _).mono ?_
              rintro e w3 ⟨rfl, hw3⟩
              subst hw3
              go_wp2_with fail
              refine (sDayOk_any d _).mono ?_
              rintro e w3 ⟨rfl, hw3⟩
              subst hw3
              generalize dOk d = q at HVV
              go_wp2
              go_ret
              exact ⟨one_bool HVV.out.symm, HB.out⟩
          · have HVV : Hid (auOk ⟨r, i, c, m, d, u⟩ = false) := by rw [Hid, HV1.out, decide_eq_false hd]; rfl
            clear HV1
            generalize digs c = g at hd
            go_wp2
            go_ret
            exact ⟨one_bool HVV.out.symm, HB.out⟩
      · have hq : ((r.length : Int) == 12) = false := by simp; omega
        have HV1 : Hid (auOk ⟨r, i, c, m, d, u⟩ = false) := by rw [Hid, HV.out, decide_eq_false h12]; rfl
        clear h12 HV HE
        go_wp2
        go_ret
        exact ⟨one_bool HV1.out.symm, HBW.out⟩

end Go.Proofs.Ytlonjjliochbhaa

/- The contract of the specification's MatchScore: how near an authorization is, for every authorization and every four numbers. -/
namespace Go.Proofs.Ytlonjjliochbhaa
open Go.RowKit
set_option maxRecDepth 100000

set_option maxHeartbeats 6400000 in
theorem sScore_any (a : Au) (iss cur am day : Int) (w : World) (hl : a.ref.length ≤ 1099511627776) (_w3 : (Lit.int .i64 am).wf = true) (w4 : (Lit.int .i64 day).wf = true) :
    Calls Try.prog 57 #[auv a, .int .i64 iss, .int .i64 cur, .int .i64 am, .int .i64 day] w fun e w' => e = .returned (.int .i64 (scoreV a iss cur am day)) ∧ Below w.heap.size w w' := by
  have hday := wf_bd w4
  have HV := can_is a iss cur am day
  obtain ⟨q, hq⟩ : ∃ q, auOk a = q := ⟨_, rfl⟩
  have HO : Hid (∀ u, Calls Try.prog 48 #[auv a] u fun e w' => e = .returned (.bool q) ∧ Below u.heap.size u w') := fun u => by rw [← hq]; exact sAuthOk_any a u hl
  have HN : Hid (canV a iss cur am day = false → scoreV a iss cur am day = -1) := score_no
  have HY : Hid (canV a iss cur am day = true → scoreV a iss cur am day = 8 * absV (am - a.am) + day - a.day) := score_yes
  obtain ⟨W, hW⟩ : ∃ W, W = w.alloc (.cells #[.string ⟨a.ref.toArray⟩, .int .i64 a.iss, .int .i64 a.cur, .int .i64 a.am, .int .i64 a.day, .bool a.used] 63) := ⟨_, rfl⟩
  have B : AuB w.heap.size a W := by rw [hW]; exact AuB.new w a _
  have HBB : Hid (AuB w.heap.size a W) := B
  have bW : Below w.heap.size w W := by rw [hW]; exact (Below.refl _ _).alloc (Nat.le_refl _) _
  have HBW : Hid (Below w.heap.size w W) := bW
  clear bW _w3 w4
  cases q
  · have HE : Hid (scoreV a iss cur am day = -1) := HN.out (by rw [HV, hq]; rfl)
    clear HV HN HY hq
    obtain ⟨r, i, c, m, d, u⟩ := a
    unfold auv at HO ⊢
    simp only at hW HO  ⊢
    have HW : Hid _ := hW
    obtain ⟨f0, f1, f2, f3, f4, f5⟩ := B
    clear hW
    go_enter Try.func57, Try.ntmps57
    go_upto_region 1 with fail
    rw [← HW.out]
    go_wp2_with fail
    refine (HO.out _).mono ?_
    rintro e u1 ⟨rfl, b1⟩
    have B1 := HBB.out.below b1
    have HB1 : Hid (Below w.heap.size w u1) := next HBW.out b1
    clear b1 f0 f1 f2 f3 f4 f5
    obtain ⟨f0, f1, f2, f3, f4, f5⟩ := B1
    simp only at f0 f1 f2 f3 f4 f5
    go_wp2
    go_ret
    exact ⟨one_int HE.out.symm, HB1.out⟩
  obtain ⟨-, -, -, hmm, hdd⟩ := auOk_parts hq
  have hdb := dOk_bd hdd
  have HTB : Hid (timeOk a day = true → a.day ≤ day ∧ day ≤ a.day + 7) := fun h => of_decide_eq_true h
  have HSB : Hid (sumOk a am = true → 1 ≤ am ∧ am ≤ a.am + a.am / 10) := fun h => of_decide_eq_true h
  have HT : Hid (∀ u, Calls Try.prog 33 #[.int .i64 day, .int .i64 a.day, .int .i64 (a.day + 7)] u fun e w' => e = .returned (.bool (timeOk a day)) ∧ w' = u) := fun u => in_any day a.day (a.day + 7) u
  have HS : Hid (∀ u, Calls Try.prog 33 #[.int .i64 am, .int .i64 1, .int .i64 (a.am + a.am / 10)] u fun e w' => e = .returned (.bool (sumOk a am)) ∧ w' = u) := fun u => in_any am 1 (a.am + a.am / 10) u
  have hq10 : a.am.tdiv 10 = a.am / 10 := Int.tdiv_eq_ediv_of_nonneg (by omega)
  rw [hq, Bool.true_and] at HV
  clear hq hdd
  cases hu : a.used
  · rw [hu, Bool.not_false, Bool.true_and] at HV
    cases hi : (a.iss != iss)
    · have hi' : decide (a.iss = iss) = true := decide_eq_true (by simpa using hi)
      rw [hi', Bool.true_and] at HV
      cases hcu : (a.cur != cur)
      · have hc' : decide (a.cur = cur) = true := decide_eq_true (by simpa using hcu)
        rw [hc', Bool.true_and] at HV
        cases ht : timeOk a day
        · have HE : Hid (scoreV a iss cur am day = -1) := HN.out (by rw [HV, ht]; rfl)
          rw [ht] at HT
          clear HV HN HY ht HS HTB HSB hi' hc' hq10
          obtain ⟨r, i, c, m, d, u⟩ := a
          unfold auv at HO ⊢
          simp only at hW HO HT hu hi hcu hmm hdb ⊢
          subst hu
          have HW : Hid _ := hW
          obtain ⟨f0, f1, f2, f3, f4, f5⟩ := B
          clear hW
          go_enter Try.func57, Try.ntmps57
          go_upto_region 1 with fail
          rw [← HW.out]
          go_wp2_with fail
          refine (HO.out _).mono ?_
          rintro e u1 ⟨rfl, b1⟩
          have B1 := HBB.out.below b1
          have HB1 : Hid (Below w.heap.size w u1) := next HBW.out b1
          clear b1 f0 f1 f2 f3 f4 f5
          obtain ⟨f0, f1, f2, f3, f4, f5⟩ := B1
          simp only at f0 f1 f2 f3 f4 f5
          go_wp2_with fail
          refine (HT.out _).mono ?_
          rintro e u2 ⟨rfl, hu2⟩
          subst hu2
          go_wp2
          go_ret
          exact ⟨one_int HE.out.symm, HB1.out⟩
        · rw [ht, Bool.true_and] at HV
          rw [ht] at HT
          have htb := HTB.out ht
          cases hs : sumOk a am
          · have HE : Hid (scoreV a iss cur am day = -1) := HN.out (by rw [HV, hs])
            rw [hs] at HS
            clear HV HN HY ht HTB HSB hi' hc' hs htb
            obtain ⟨tt, htt⟩ : ∃ t, a.am / 10 = t := ⟨_, rfl⟩
            have ht1 : 0 ≤ tt ∧ tt ≤ 10000000000 := by omega
            rw [htt] at HS hq10
            clear htt
            obtain ⟨r, i, c, m, d, u⟩ := a
            unfold auv at HO ⊢
            simp only at hW HO HT HS hu hi hcu hmm hdb hq10 ⊢
            subst hu
            have HW : Hid _ := hW
            obtain ⟨f0, f1, f2, f3, f4, f5⟩ := B
            clear hW
            go_enter Try.func57, Try.ntmps57
            go_upto_region 1 with fail
            rw [← HW.out]
            go_wp2_with fail
            refine (HO.out _).mono ?_
            rintro e u1 ⟨rfl, b1⟩
            have B1 := HBB.out.below b1
            have HB1 : Hid (Below w.heap.size w u1) := next HBW.out b1
            clear b1 f0 f1 f2 f3 f4 f5
            obtain ⟨f0, f1, f2, f3, f4, f5⟩ := B1
            simp only at f0 f1 f2 f3 f4 f5
            go_wp2_with fail
            refine (HT.out _).mono ?_
            rintro e u2 ⟨rfl, hu2⟩
            subst hu2
            go_wp2_with fail
            refine (HS.out _).mono ?_
            rintro e u2 ⟨rfl, hu2⟩
            subst hu2
            go_wp2
            go_ret
            exact ⟨one_int HE.out.symm, HB1.out⟩
          · have hsb := HSB.out hs
            rw [hs] at HS
            have HEE : Hid (scoreV a iss cur am day = 8 * absV (am - a.am) + day - a.day) := by rw [Hid, HY.out (by rw [HV, hs])]
            clear HV HN HY ht HTB HSB hi' hc' hs
            obtain ⟨tt, htt⟩ : ∃ t, a.am / 10 = t := ⟨_, rfl⟩
            have ht1 : 0 ≤ tt ∧ tt ≤ 10000000000 := by omega
            rw [htt] at HS hq10 hsb
            clear htt
            by_cases hng : am - a.am < 0
            · have HE : Hid (scoreV a iss cur am day = 8 * (-(am - a.am)) + day - a.day) := by rw [Hid, HEE.out, absV, if_pos hng]
              clear HEE
              obtain ⟨r, i, c, m, d, u⟩ := a
              unfold auv at HO ⊢
              simp only at hW HO HT HS HE hu hi hcu hmm hdb htb hsb hq10 hng ⊢
              subst hu
              have HW : Hid _ := hW
              obtain ⟨f0, f1, f2, f3, f4, f5⟩ := B
              clear hW
              go_enter Try.func57, Try.ntmps57
              go_upto_region 1 with fail
              rw [← HW.out]
              go_wp2_with fail
              refine (HO.out _).mono ?_
              rintro e u1 ⟨rfl, b1⟩
              have B1 := HBB.out.below b1
              have HB1 : Hid (Below w.heap.size w u1) := next HBW.out b1
              clear b1 f0 f1 f2 f3 f4 f5
              obtain ⟨f0, f1, f2, f3, f4, f5⟩ := B1
              simp only at f0 f1 f2 f3 f4 f5
              go_wp2_with fail
              refine (HT.out _).mono ?_
              rintro e u2 ⟨rfl, hu2⟩
              subst hu2
              go_wp2_with fail
              refine (HS.out _).mono ?_
              rintro e u2 ⟨rfl, hu2⟩
              subst hu2
              go_wp2
              go_ret
              exact ⟨one_int HE.out.symm, HB1.out⟩
            · have HE : Hid (scoreV a iss cur am day = 8 * (am - a.am) + day - a.day) := by rw [Hid, HEE.out, absV, if_neg hng]
              clear HEE
              obtain ⟨r, i, c, m, d, u⟩ := a
              unfold auv at HO ⊢
              simp only at hW HO HT HS HE hu hi hcu hmm hdb htb hsb hq10 hng ⊢
              subst hu
              have HW : Hid _ := hW
              obtain ⟨f0, f1, f2, f3, f4, f5⟩ := B
              clear hW
              go_enter Try.func57, Try.ntmps57
              go_upto_region 1 with fail
              rw [← HW.out]
              go_wp2_with fail
              refine (HO.out _).mono ?_
              rintro e u1 ⟨rfl, b1⟩
              have B1 := HBB.out.below b1
              have HB1 : Hid (Below w.heap.size w u1) := next HBW.out b1
              clear b1 f0 f1 f2 f3 f4 f5
              obtain ⟨f0, f1, f2, f3, f4, f5⟩ := B1
              simp only at f0 f1 f2 f3 f4 f5
              go_wp2_with fail
              refine (HT.out _).mono ?_
              rintro e u2 ⟨rfl, hu2⟩
              subst hu2
              go_wp2_with fail
              refine (HS.out _).mono ?_
              rintro e u2 ⟨rfl, hu2⟩
              subst hu2
              go_wp2
              go_ret
              exact ⟨one_int HE.out.symm, HB1.out⟩
      · have hc' : decide (a.cur = cur) = false := decide_eq_false (by simpa using hcu)
        have HE : Hid (scoreV a iss cur am day = -1) := HN.out (by rw [HV, hc']; rfl)
        clear HV HN HY HT HS HTB HSB hi' hc' hq10
        obtain ⟨r, i, c, m, d, u⟩ := a
        unfold auv at HO ⊢
        simp only at hW HO hu hi hcu hmm hdb ⊢
        subst hu
        have HW : Hid _ := hW
        obtain ⟨f0, f1, f2, f3, f4, f5⟩ := B
        clear hW
        go_enter Try.func57, Try.ntmps57
        go_upto_region 1 with fail
        rw [← HW.out]
        go_wp2_with fail
        refine (HO.out _).mono ?_
        rintro e u1 ⟨rfl, b1⟩
        have B1 := HBB.out.below b1
        have HB1 : Hid (Below w.heap.size w u1) := next HBW.out b1
        clear b1 f0 f1 f2 f3 f4 f5
        obtain ⟨f0, f1, f2, f3, f4, f5⟩ := B1
        simp only at f0 f1 f2 f3 f4 f5
        go_wp2
        go_ret
        exact ⟨one_int HE.out.symm, HB1.out⟩
    · have hi' : decide (a.iss = iss) = false := decide_eq_false (by simpa using hi)
      have HE : Hid (scoreV a iss cur am day = -1) := HN.out (by rw [HV, hi']; rfl)
      clear HV HN HY HT HS HTB HSB hi' hq10
      obtain ⟨r, i, c, m, d, u⟩ := a
      unfold auv at HO ⊢
      simp only at hW HO hu hi hmm hdb ⊢
      subst hu
      have HW : Hid _ := hW
      obtain ⟨f0, f1, f2, f3, f4, f5⟩ := B
      clear hW
      go_enter Try.func57, Try.ntmps57
      go_upto_region 1 with fail
      rw [← HW.out]
      go_wp2_with fail
      refine (HO.out _).mono ?_
      rintro e u1 ⟨rfl, b1⟩
      have B1 := HBB.out.below b1
      have HB1 : Hid (Below w.heap.size w u1) := next HBW.out b1
      clear b1 f0 f1 f2 f3 f4 f5
      obtain ⟨f0, f1, f2, f3, f4, f5⟩ := B1
      simp only at f0 f1 f2 f3 f4 f5
      go_wp2
      go_ret
      exact ⟨one_int HE.out.symm, HB1.out⟩
  · have HE : Hid (scoreV a iss cur am day = -1) := HN.out (by rw [HV, hu]; rfl)
    clear HV HN HY HT HS HTB HSB hq10
    obtain ⟨r, i, c, m, d, u⟩ := a
    unfold auv at HO ⊢
    simp only at hW HO hu hmm hdb ⊢
    subst hu
    have HW : Hid _ := hW
    obtain ⟨f0, f1, f2, f3, f4, f5⟩ := B
    clear hW
    go_enter Try.func57, Try.ntmps57
    go_upto_region 1 with fail
    rw [← HW.out]
    go_wp2_with fail
    refine (HO.out _).mono ?_
    rintro e u1 ⟨rfl, b1⟩
    have B1 := HBB.out.below b1
    have HB1 : Hid (Below w.heap.size w u1) := next HBW.out b1
    clear b1 f0 f1 f2 f3 f4 f5
    obtain ⟨f0, f1, f2, f3, f4, f5⟩ := B1
    simp only at f0 f1 f2 f3 f4 f5
    go_wp2
    go_ret
    exact ⟨one_int HE.out.symm, HB1.out⟩

end Go.Proofs.Ytlonjjliochbhaa

/- The authorization that is found, plainly. -/
namespace Go.Proofs.Ytlonjjliochbhaa
open Go.RowKit
set_option maxRecDepth 100000

def scA (az : List Au) (iss cur am day : Int) (k : Nat) : Int := scoreV (auAt az k) iss cur am day
def BestAt (az : List Au) (iss cur am day x : Int) : Prop := (az.length ≤ 100 ∧ Best (scA az iss cur am day) az.length x) ∨ (100 < az.length ∧ x = -1)
theorem bestAt_one {az : List Au} {iss cur am day x y : Int} (h : BestAt az iss cur am day x) (g : BestAt az iss cur am day y) : x = y := by
  rcases h with ⟨h1, h⟩ | ⟨h1, rfl⟩
  · rcases g with ⟨_, g⟩ | ⟨g1, _⟩
    · exact best_one h g
    · omega
  · rcases g with ⟨g1, _⟩ | ⟨_, rfl⟩
    · omega
    · rfl

end Go.Proofs.Ytlonjjliochbhaa

/- The contract of the library's strings.Clone, at a text given as bytes. -/
namespace Go.Proofs.Ytlonjjliochbhaa
open Go.RowKit


end Go.Proofs.Ytlonjjliochbhaa

/- The contract of the program's own copy of a list of authorizations. -/
namespace Go.Proofs.Ytlonjjliochbhaa
open Go.RowKit
set_option maxRecDepth 100000


end Go.Proofs.Ytlonjjliochbhaa

/- The contracts of AuthPrune, the program's and the specification's. -/
namespace Go.Proofs.Ytlonjjliochbhaa
open Go.RowKit
set_option maxRecDepth 100000

def keepP (f : Int) (a : Au) : Bool := !a.used && decide (f ≤ a.day)
def pruneL (az : List Au) (t : Int) : List Au := if dOk t = true then az.filter (keepP (t - 7)) else []
theorem pruneL_len (az : List Au) (t : Int) : (pruneL az t).length ≤ az.length := by unfold pruneL; split; exact List.length_filter_le _ _; exact Nat.zero_le _
theorem take_filter (f : Int) (az : List Au) (k : Nat) (h : k < az.length) : (az.take (k + 1)).filter (keepP f) = (az.take k).filter (keepP f) ++ (if keepP f (auAt az k) = true then [auAt az k] else []) := by
  rw [List.take_succ_eq_append_getElem h, List.filter_append, auAt_is h]
  cases hq : keepP f az[k] <;> simp [hq]

/-- a row of one's own, cells from a place on written -/
theorem own_setCells {base n : Nat} {t : TypeId} {g cap : Nat} (vs : List Value) : ∀ (o : Nat) (w : World) (xs : List Value), w.ownsRow base t 6 (.slice (some ⟨g, 0, none⟩) n cap) n xs → o + vs.length ≤ n * 6 →
    ∃ ys, (w.setCells g o vs).ownsRow base t 6 (.slice (some ⟨g, 0, none⟩) n cap) n ys ∧ ys.take o = xs.take o ∧ w.grownBy (w.setCells g o vs) (some g) := by
  induction vs with
  | nil => intro o w xs h _; exact ⟨xs, h, rfl, World.grownBy.refl _ _⟩
  | cons v r ih =>
    intro o w xs h hl
    have hs := h.stored o v
    obtain ⟨ys, h1, h2, h3⟩ := ih (o + 1) _ _ hs.1 (by simp at hl; omega)
    refine ⟨ys, h1, ?_, hs.2.trans h3⟩
    have e : ys.take o = (ys.take (o + 1)).take o := by rw [List.take_take, Nat.min_eq_left (Nat.le_succ o)]
    rw [e, h2, List.take_take, Nat.min_eq_left (Nat.le_succ o), List.take_set_of_le (Nat.le_refl o)]
/-- the first of such a row -/
theorem own_cut {w : World} {base n s : Nat} {t : TypeId} {g cap : Nat} {xs : List Value} (h : w.ownsRow base t 6 (.slice (some ⟨g, 0, none⟩) n cap) n xs) (hs : s ≤ n) : w.ownsRow base t 6 (.slice (some ⟨g, 0, none⟩) s cap) s (xs.take (s * 6)) := by
  obtain ⟨h1, h2⟩ := h
  rcases h2 with ⟨hv, _⟩ | ⟨g', cap', cur, hv, hg, hh, a1, a2, a3, a4⟩
  · cases hv
  · obtain ⟨rfl, rfl⟩ : g = g' ∧ cap = cap' := by simpa using hv
    refine ⟨by rw [List.length_take, h1]; omega, .inr ⟨g, cap, cur, rfl, hg, hh, by omega, a2, a3, ?_⟩⟩
    rw [← a4, List.take_take, Nat.min_eq_left (by omega)]
theorem zeros_one (n : Nat) : ∀ v ∈ (Builtin.zeroCells (Value.agg #[.string ⟨#[]⟩, .int .i64 0, .int .i64 0, .int .i64 0, .int .i64 0, .bool false]).cells n).toList, v.oneCell' = true := by
  intro v hv
  simp only [Builtin.zeroCells, Array.toList_map, List.mem_map] at hv
  obtain ⟨j, _, rfl⟩ := hv
  have : j % 6 = 0 ∨ j % 6 = 1 ∨ j % 6 = 2 ∨ j % 6 = 3 ∨ j % 6 = 4 ∨ j % 6 = 5 := by omega
  simp only [Value.cells]
  show Value.oneCell' ((#[Value.string ⟨#[]⟩, .int .i64 0, .int .i64 0, .int .i64 0, .int .i64 0, .bool false] : Array Value)[j % 6]!) = true
  rcases this with e | e | e | e | e | e <;> rw [e] <;> rfl

theorem au_one {w : World} {g : Nat} {a : Au} (h : AuB g a w) : AuthsAt w (some ⟨g, 0, none⟩) [a] :=
  .inr ⟨g, 0, rfl, h.lt, fun i hi => by
    obtain rfl : i = 0 := by simpa using hi
    exact ⟨h.c0, h.c1, h.c2, h.c3, h.c4, h.c5⟩⟩
theorem sizeOwn (w : World) : (sizeOf 63).run Try.prog w = .ok 6 w := by
  obtain ⟨i0, hi, hz0, hz1, hz2⟩ := info_parts infoA
  simp [sizeOf, typeInfo, hi, hz1]

/-- what lies in a list that is pruned in place, behind k rounds: s that stay lie in front -/
structure Prn (f : Int) (az bs : List Au) (s k : Nat) : Prop where
  len : bs.length = az.length
  le : s ≤ k
  front : bs.take s = (az.take k).filter (keepP f)
  rest : ∀ j, k ≤ j → j < az.length → auAt bs j = auAt az j
theorem Prn.start (f : Int) (az : List Au) : Prn f az az 0 0 := ⟨rfl, Nat.le_refl _, rfl, fun _ _ _ => rfl⟩
theorem Prn.skip {f : Int} {az bs : List Au} {s k : Nat} (h : Prn f az bs s k) (hk : k < az.length) (hq : keepP f (auAt az k) = false) : Prn f az bs s (k + 1) :=
  ⟨h.len, Nat.le_succ_of_le h.le, by rw [take_filter f az k hk, hq, h.front]; simp, fun j h1 h2 => h.rest j (by omega) h2⟩
theorem Prn.keep {f : Int} {az bs : List Au} {s k : Nat} (h : Prn f az bs s k) (hk : k < az.length) (hq : keepP f (auAt az k) = true) : Prn f az (bs.set s (auAt az k)) (s + 1) (k + 1) := by
  have hl := h.len
  have hle := h.le
  refine ⟨by rw [List.length_set]; exact hl, by omega, ?_, fun j h1 h2 => ?_⟩
  · rw [take_filter f az k hk, hq, if_pos rfl, ← h.front, List.take_succ_eq_append_getElem (by rw [List.length_set]; omega), List.take_set_of_le (Nat.le_refl s), List.getElem_set_self]
  · rw [auAt_is (by rw [List.length_set]; omega), List.getElem_set_ne (by omega), ← auAt_is (by omega)]
    exact h.rest j (by omega) h2



set_option maxHeartbeats 3200000 in
theorem sPrune_any (ao : Option Addr) (cap : Nat) (az : List Au) (t : Int) (w : World) (hz : AuthsAt w ao az) (hn : az.length ≤ 4194304) :
    Calls Try.prog 47 #[.slice ao az.length cap, .int .i64 t] w (AuR1 w (pruneL az t)) := by
  have bA : Below w.heap.size w (w.alloc (.cells #[] 63)) := (Below.refl _ _).alloc (Nat.le_refl _) _
  have oA := auLit w
  have HDY : Hid (∀ u, Calls Try.prog 24 #[.int .i64 t] u fun e w' => e = .returned (.bool (dOk t)) ∧ w' = u) := fun u => sDayOk_any t u
  cases hq : dOk t
  · have HL : Hid (pruneL az t = []) := by rw [Hid, pruneL, if_neg (by rw [hq]; decide)]
    rw [hq] at HDY
    have HO : Hid _ := And.intro oA bA
    clear oA bA
    by_cases h0 : 0 < az.length
    · have h0' : (0 : Int) < (az.length : Int) := by omega
      go_enter Try.func47, Try.ntmps47
      go_wp2
      refine wp_loop_rounds 1 ?_
      rw [rounds_succ]
      go_wp2_with fail
      refine (HDY.out _).mono ?_
      rintro e w1 ⟨rfl, hw⟩
      subst hw
      go_wp2
      go_ret
      rw [HL.out]
      exact ⟨_, _, rfl, HO.out.1, HO.out.2⟩
    · have h0' : ¬ (0 : Int) < (az.length : Int) := by omega
      go_enter Try.func47, Try.ntmps47
      go_wp2
      refine wp_loop_rounds 1 ?_
      rw [rounds_succ]
      go_wp2
      go_ret
      rw [HL.out]
      exact ⟨_, _, rfl, HO.out.1, HO.out.2⟩
  · have htb := dOk_bd hq
    have HL : Hid (pruneL az t = az.filter (keepP (t - 7))) := by rw [Hid, pruneL, if_pos hq]
    rw [hq] at HDY
    rcases hz with rfl | ⟨b, off, rfl, hb, hcell⟩
    · have HO : Hid _ := And.intro oA bA
      clear oA bA
      go_enter Try.func47, Try.ntmps47
      go_wp2
      refine wp_loop_rounds 1 ?_
      rw [rounds_succ]
      go_wp2
      go_ret
      rw [HL.out]
      exact ⟨_, _, rfl, HO.out.1, HO.out.2⟩
    have HC : Hid (∀ i, i < az.length → w.cell? ⟨b, off + i * 6, none⟩ = some (.string ⟨(auAt az i).ref.toArray⟩) ∧ w.cell? ⟨b, off + i * 6 + 1, none⟩ = some (.int .i64 (auAt az i).iss) ∧ w.cell? ⟨b, off + i * 6 + 2, none⟩ = some (.int .i64 (auAt az i).cur) ∧ w.cell? ⟨b, off + i * 6 + 3, none⟩ = some (.int .i64 (auAt az i).am) ∧ w.cell? ⟨b, off + i * 6 + 4, none⟩ = some (.int .i64 (auAt az i).day) ∧ w.cell? ⟨b, off + i * 6 + 5, none⟩ = some (.bool (auAt az i).used)) := hcell
    clear hcell
    go_enter Try.func47, Try.ntmps47
    go_wp2
    go_loopw [5, 6] (fun v i wr => ∃ (k : Nat) (ao : Option Addr) (c : Nat), k ≤ az.length ∧ i = .int .i64 k ∧ v = .slice ao ((az.take k).filter (keepP (t - 7))).length c ∧ wr.ownsRow w.heap.size 63 6 (.slice ao ((az.take k).filter (keepP (t - 7))).length c) ((az.take k).filter (keepP (t - 7))).length (acells ((az.take k).filter (keepP (t - 7)))) ∧ Below w.heap.size w wr) (fun _ i _ => az.length - (intOf i).toNat)
    case atStart => exact ⟨0, _, _, Nat.zero_le _, rfl, rfl, oA, bA⟩
    case round =>
      obtain ⟨k, ao, cc, hk, rfl, rfl, hor, hbr⟩ := hrel
      clear oA bA
      by_cases hlt : k < az.length
      · have x0 : wr.cell? ⟨b, off + k * 6, none⟩ = some (.string ⟨(auAt az k).ref.toArray⟩) := (hbr.cell (p := ⟨b, off + k * 6, none⟩) hb).trans (HC.out k hlt).1
        have x1 : wr.cell? ⟨b, off + k * 6 + 1, none⟩ = some (.int .i64 (auAt az k).iss) := (hbr.cell (p := ⟨b, off + k * 6 + 1, none⟩) hb).trans (HC.out k hlt).2.1
        have x2 : wr.cell? ⟨b, off + k * 6 + 2, none⟩ = some (.int .i64 (auAt az k).cur) := (hbr.cell (p := ⟨b, off + k * 6 + 2, none⟩) hb).trans (HC.out k hlt).2.2.1
        have x3 : wr.cell? ⟨b, off + k * 6 + 3, none⟩ = some (.int .i64 (auAt az k).am) := (hbr.cell (p := ⟨b, off + k * 6 + 3, none⟩) hb).trans (HC.out k hlt).2.2.2.1
        have x4 : wr.cell? ⟨b, off + k * 6 + 4, none⟩ = some (.int .i64 (auAt az k).day) := (hbr.cell (p := ⟨b, off + k * 6 + 4, none⟩) hb).trans (HC.out k hlt).2.2.2.2.1
        have x5 : wr.cell? ⟨b, off + k * 6 + 5, none⟩ = some (.bool (auAt az k).used) := (hbr.cell (p := ⟨b, off + k * 6 + 5, none⟩) hb).trans (HC.out k hlt).2.2.2.2.2
        have hki : (k : Int) < (az.length : Int) := by omega
        have HTF : Hid _ := take_filter (t - 7) az k hlt
        have HK : Hid (keepP (t - 7) (auAt az k) = (!(auAt az k).used && decide (t - 7 ≤ (auAt az k).day))) := rfl
        have hll : ((az.take k).filter (keepP (t - 7))).length ≤ k := Nat.le_trans (List.length_filter_le _ _) (by simp; omega)
        obtain ⟨B, hB⟩ : ∃ B, (az.take k).filter (keepP (t - 7)) = B := ⟨_, rfl⟩
        obtain ⟨⟨r, i, c, m, d, u⟩, hf⟩ : ∃ a, auAt az k = a := ⟨_, rfl⟩
        rw [hf] at x0 x1 x2 x3 x4 x5 HK HTF
        rw [hB] at hor hll HTF ⊢
        simp only at x0 x1 x2 x3 x4 x5 HK
        have HO : Hid (wr.ownsRow w.heap.size 63 6 (.slice ao B.length cc) B.length (acells B)) := hor
        have HB : Hid (Below w.heap.size w wr) := hbr
        clear hB hf hor hbr
        go_wp2_with fail
        refine (HDY.out _).mono ?_
        rintro e w1 ⟨rfl, hw⟩
        subst hw
        cases u
        · by_cases hfd : t - 7 ≤ d
          · have HE : Hid ((az.take (k + 1)).filter (keepP (t - 7)) = B ++ [⟨r, i, c, m, d, false⟩]) := by rw [Hid, HTF.out, HK.out, decide_eq_true hfd]; rfl
            have HON : Hid (AuthsAt (w1.alloc (.cells #[.string ⟨r.toArray⟩, .int .i64 i, .int .i64 c, .int .i64 m, .int .i64 d, .bool false] 63)) (some ⟨w1.heap.size, 0, none⟩) [⟨r, i, c, m, d, false⟩]) := au_one (AuB.new w1 ⟨r, i, c, m, d, false⟩ _)
            have HOA : Hid ((w1.alloc (.cells #[.string ⟨r.toArray⟩, .int .i64 i, .int .i64 c, .int .i64 m, .int .i64 d, .bool false] 63)).ownsRow w.heap.size 63 6 (.slice ao B.length cc) B.length (acells B)) := keepA HO.out ((Below.refl _ _).alloc (Nat.le_refl _) _)
            have hwz : w.heap.size ≤ w1.heap.size := HB.out.size
            go_wp2_with (at_builtin; refine wpList_append_auths _ rfl (.tmp 34) (.tmp 39) rfl w.heap.size (.slice ao B.length cc) B.length (acells B) rfl HOA.out (some ⟨w1.heap.size, 0, none⟩) 1 [⟨r, i, c, m, d, false⟩] rfl HON.out (by simp; omega) (by simp; omega) ?_; intro v2 w2 o2 g2 n2)
            obtain ⟨a2, c2, rfl⟩ := auShape o2
            have HO2 : Hid (w2.ownsRow w.heap.size 63 6 (.slice a2 (B ++ ([⟨r, i, c, m, d, false⟩] : List Au)).length c2) (B ++ ([⟨r, i, c, m, d, false⟩] : List Au)).length (acells (B ++ [⟨r, i, c, m, d, false⟩]))) := by rw [Hid, List.length_append, acells_append]; exact o2
            have HB2 : Hid (Below w.heap.size w w2) := (HB.out.alloc HB.out.size _).grown g2 (by simp; omega) (fun j hj => (HOA.out.lt j hj).1)
            clear o2 g2 n2 HOA HON HTF HK
            go_wp2
            go_roundw
            case rel => exact ⟨k + 1, a2, c2, by omega, by go_num, by rw [HE.out, List.length_append], by rw [HE.out]; exact HO2.out, HB2.out⟩
            case measure => simp [intOf]; omega
          · have HE : Hid ((az.take (k + 1)).filter (keepP (t - 7)) = B) := by rw [Hid, HTF.out, HK.out, decide_eq_false hfd]; simp
            clear HTF HK
            go_wp2
            go_roundw
            case rel => exact ⟨k + 1, ao, cc, by omega, by go_num, by rw [HE.out], by rw [HE.out]; exact HO.out, HB.out⟩
            case measure => simp [intOf]; omega
        · have HE : Hid ((az.take (k + 1)).filter (keepP (t - 7)) = B) := by rw [Hid, HTF.out, HK.out]; simp
          clear HTF HK
          go_wp2
          go_roundw
          case rel => exact ⟨k + 1, ao, cc, by omega, by go_num, by rw [HE.out], by rw [HE.out]; exact HO.out, HB.out⟩
          case measure => simp [intOf]; omega
      · have hke : k = az.length := by omega
        subst hke
        rw [List.take_length] at hor ⊢
        have HO : Hid _ := And.intro hor hbr
        clear hor hbr
        go_wp2
        go_ret
        rw [HL.out]
        exact ⟨_, _, rfl, HO.out.1, HO.out.2⟩

end Go.Proofs.Ytlonjjliochbhaa

/- The contracts of AuthUse, the program's and the specification's. -/
namespace Go.Proofs.Ytlonjjliochbhaa
open Go.RowKit
set_option maxRecDepth 100000

def useOk (az : List Au) (i : Int) : Bool := decide (0 ≤ i ∧ i < az.length) && !(auAt az i.toNat).used
def usedAu (a : Au) : Au := ⟨a.ref, a.iss, a.cur, a.am, a.day, true⟩
def useL (az : List Au) (i : Int) : List Au := if useOk az i = true then az.set i.toNat (usedAu (auAt az i.toNat)) else az
theorem useL_len (az : List Au) (i : Int) : (useL az i).length = az.length := by unfold useL; split <;> simp
theorem useL_no {az : List Au} {i : Int} (h : useOk az i = false) : useL az i = az := by rw [useL, if_neg (by rw [h]; decide)]


set_option maxHeartbeats 1600000 in
theorem sUse_any (ao : Option Addr) (cap : Nat) (az : List Au) (i : Int) (w : World) (hz : AuthsAt w ao az) (hn : az.length ≤ 4194304) :
    Calls Try.prog 52 #[.slice ao az.length cap, .int .i64 i] w (AuR2 w (useL az i) (useOk az i)) := by
  have bA : Below w.heap.size w (w.alloc (.cells #[] 63)) := (Below.refl _ _).alloc (Nat.le_refl _) _
  have HZ1 : Hid (AuthsAt (w.alloc (.cells #[] 63)) ao az) := hz.below bA
  have HO1 := auLit w
  have HIN : Hid (∀ u, Calls Try.prog 33 #[.int .i64 i, .int .i64 0, .int .i64 ((az.length : Int) - 1)] u fun e w' => e = .returned (.bool (decide (0 ≤ i ∧ i < az.length))) ∧ w' = u) := fun u => by
    have := in_any i 0 ((az.length : Int) - 1) u
    rwa [show inB i 0 ((az.length : Int) - 1) = decide (0 ≤ i ∧ i < az.length) by unfold inB; exact decide_eq_decide.2 (by omega)] at this
  by_cases hin : 0 ≤ i ∧ i < az.length
  · obtain ⟨k, rfl⟩ := Int.eq_ofNat_of_zero_le hin.1
    have hk : k < az.length := by omega
    have hlt : (k : Int) < (az.length : Int) := by omega
    rw [decide_eq_true hin] at HIN
    have HAT : Hid ((acells az)[k * 6 + 5]? = some (.bool (auAt az k).used)) := (acells_at az k hk).2.2.2.2.2
    have HST : Hid ((acells az).set (k * 6 + 5) (.bool true) = acells (az.set k (usedAu (auAt az k)))) := acells_set5 az true k hk
    have HU : Hid (useOk az (k : Int) = !(auAt az k).used) := by rw [Hid, useOk, decide_eq_true (show 0 ≤ (k : Int) ∧ (k : Int) < az.length by omega), Bool.true_and, Int.toNat_natCast]
    have HUL : Hid (useOk az (k : Int) = true → useL az (k : Int) = az.set k (usedAu (auAt az k))) := fun h => by rw [useL, if_pos h, Int.toNat_natCast]
    rcases hz with rfl | ⟨b, off, rfl, hb, hcell⟩
    · simp at hk
    have HC5 : Hid (w.cell? ⟨b, off + k * 6 + 5, none⟩ = some (.bool (auAt az k).used)) := (hcell k hk).2.2.2.2.2
    obtain ⟨us, hus⟩ : ∃ us, (auAt az k).used = us := ⟨_, rfl⟩
    rw [hus] at HAT HU HC5
    clear hus hcell hin
    go_enter Try.func52, Try.ntmps52
    go_wp2_with (at_builtin; refine wpList_append_auths _ rfl (.tmp 7) (.tmp 8) rfl w.heap.size (.slice (some ⟨w.heap.size, 0, none⟩) 0 0) 0 [] rfl HO1 _ cap az rfl HZ1.out (by omega) (by simp) ?_; intro v2 w2 o2 g2 n2)
    obtain ⟨g, cc, rfl⟩ := au_notnil o2 (n2 (by simp))
    simp only [Nat.zero_add, List.nil_append] at o2 ⊢
    have b2 : Below w.heap.size w w2 := bA.grown g2 (by simp) (fun j hj => by cases hj; exact Nat.le_refl _)
    have y5 : w2.cell? ⟨g, k * 6 + 5, none⟩ = some (.bool us) := by rw [o2.cellAt (k * 6 + 5) (by omega)]; exact HAT.out
    have z5 : w2.frozen? ⟨g, k * 6 + 5, none⟩ = false := o2.frozenAt _
    have x5 : w2.cell? ⟨b, off + k * 6 + 5, none⟩ = some (.bool us) := (b2.cell (p := ⟨b, off + k * 6 + 5, none⟩) hb).trans HC5.out
    have HB : Hid (Below w.heap.size w w2) := b2
    have HO : Hid (w2.ownsRow w.heap.size 63 6 (.slice (some ⟨g, 0, none⟩) az.length cc) az.length (acells az)) := o2
    have hgw := (o2.lt g rfl).1
    clear o2 b2 g2 n2 HO1 bA
    go_wp2_with fail
    refine (HIN.out _).mono ?_
    rintro e w3 ⟨rfl, hw3⟩
    subst hw3
    cases us
    · have HQ : Hid (useOk az (k : Int) = true) := HU.out
      have HR : Hid ((w3.setCell ⟨g, k * 6 + 5, none⟩ (.bool true)).ownsRow w.heap.size 63 6 (.slice (some ⟨g, 0, none⟩) az.length cc) az.length (acells (az.set k (usedAu (auAt az k))))) := by
        have R := (HO.out.stored (k * 6 + 5) (.bool true)).1
        rw [HST.out] at R
        exact R
      go_wp2
      go_ret2
      rw [HQ.out, HUL.out HQ.out]
      exact ⟨some ⟨g, 0, none⟩, cc, by rw [List.length_set]; rfl, by rw [List.length_set]; exact HR.out, HB.out.setCell hgw _⟩
    · have HQ : Hid (useOk az (k : Int) = false) := HU.out
      go_wp2
      go_ret2
      rw [HQ.out, useL_no HQ.out]
      exact ⟨_, _, rfl, HO.out, HB.out⟩
  · have HQ : Hid (useOk az i = false) := by rw [Hid, useOk, decide_eq_false hin]; rfl
    rw [decide_eq_false hin] at HIN
    clear hin
    go_enter Try.func52, Try.ntmps52
    go_wp2_with (at_builtin; refine wpList_append_auths _ rfl (.tmp 7) (.tmp 8) rfl w.heap.size (.slice (some ⟨w.heap.size, 0, none⟩) 0 0) 0 [] rfl HO1 ao cap az rfl HZ1.out (by omega) (by simp) ?_; intro v2 w2 o2 g2 n2)
    obtain ⟨g, cc, rfl⟩ := au_notnil o2 (n2 (by simp))
    simp only [Nat.zero_add, List.nil_append] at o2 ⊢
    have b2 : Below w.heap.size w w2 := bA.grown g2 (by simp) (fun j hj => by cases hj; exact Nat.le_refl _)
    have HB : Hid (Below w.heap.size w w2) := b2
    have HO : Hid (w2.ownsRow w.heap.size 63 6 (.slice (some ⟨g, 0, none⟩) az.length cc) az.length (acells az)) := o2
    clear o2 b2 g2 n2 HO1 bA hz
    go_wp2_with fail
    refine (HIN.out _).mono ?_
    rintro e w3 ⟨rfl, hw3⟩
    subst hw3
    go_wp2
    go_ret2
    rw [HQ.out, useL_no HQ.out]
    exact ⟨_, _, rfl, HO.out, HB.out⟩

end Go.Proofs.Ytlonjjliochbhaa

/- Chapter 8, the reasons: what the program and the specification answer of a code. -/
namespace Go.Proofs.Ytlonjjliochbhaa
open Go.RowKit
set_option maxRecDepth 100000

def txF : ByteArray := ⟨#[102, 114, 97, 117, 100]⟩
def txN : ByteArray := ⟨#[110, 111, 110, 101]⟩
def txT : ByteArray := ⟨#[116, 119, 105, 99, 101]⟩
def txA : ByteArray := ⟨#[97, 109, 111, 117, 110, 116]⟩
def txQ : ByteArray := ⟨#[113, 117, 97, 108, 105, 116, 121]⟩
def txC : ByteArray := ⟨#[99, 97, 110, 99, 101, 108, 108, 101, 100]⟩
/-- a reason's text; the empty one for another code -/
def rTxt (x : Int) : ByteArray := if x = 4837 then txF else if x = 4855 then txN else if x = 4834 then txT else if x = 4831 then txA else if x = 4853 then txQ else if x = 4841 then txC else ⟨#[]⟩
def rD0 (x : Int) : Int := if x = 4837 then 85 else if x = 4855 then 65 else if x = 4834 then 45 else if x = 4831 then 45 else if x = 4853 then 65 else if x = 4841 then 45 else 0
theorem rD0_no {x : Int} (h : x ≠ 4837 ∧ x ≠ 4855 ∧ x ≠ 4834 ∧ x ≠ 4831 ∧ x ≠ 4853 ∧ x ≠ 4841) : rD0 x = 0 := by simp [rD0, h]
theorem rTxt_no {x : Int} (h : x ≠ 4837 ∧ x ≠ 4855 ∧ x ≠ 4834 ∧ x ≠ 4831 ∧ x ≠ 4853 ∧ x ≠ 4841) : rTxt x = ⟨#[]⟩ := by simp [rTxt, h]
theorem rD0_yes {x : Int} (h : rOk x = true) : rD0 x = rDays x := by
  rcases r_cases x with rfl | rfl | rfl | rfl | rfl | rfl | h'
  iterate 6 rfl
  rw [rOk_no h'] at h; cases h
theorem rDays_bad {x : Int} (h : rOk x = false) : rDays x = -1 := by
  rcases r_cases x with rfl | rfl | rfl | rfl | rfl | rfl | h'
  iterate 6 cases h
  exact rDays_no h'
theorem beq_no {a b : Int} (h : a ≠ b) : (a == b) = false := by simpa using h


def rL : List Int := [4837, 4855, 4834, 4831, 4853, 4841]
/-- the place of a reason, or -1 -/
def rAt (x : Int) : Int := if x = 4837 then 0 else if x = 4855 then 1 else if x = 4834 then 2 else if x = 4831 then 3 else if x = 4853 then 4 else if x = 4841 then 5 else -1
theorem rAt_no {x : Int} (h : x ≠ 4837 ∧ x ≠ 4855 ∧ x ≠ 4834 ∧ x ≠ 4831 ∧ x ≠ 4853 ∧ x ≠ 4841) : rAt x = -1 := by simp [rAt, h]
theorem rAt_ok (x : Int) : decide (0 ≤ rAt x) = rOk x := by
  rcases r_cases x with rfl | rfl | rfl | rfl | rfl | rfl | h'
  iterate 6 rfl
  rw [rAt_no h', rOk_no h']; rfl
theorem rL_at {x : Int} {k : Nat} (hk : k < 6) (h : rL.getD k 0 = x) : rAt x = k := by
  rcases (show k = 0 ∨ k = 1 ∨ k = 2 ∨ k = 3 ∨ k = 4 ∨ k = 5 by omega) with rfl | rfl | rfl | rfl | rfl | rfl <;> (subst h; rfl)
theorem rL_none {x : Int} (h : ∀ j, j < 6 → rL.getD j 0 ≠ x) : rAt x = -1 := by
  have h0 := h 0 (by omega)
  have h1 := h 1 (by omega)
  have h2 := h 2 (by omega)
  have h3 := h 3 (by omega)
  have h4 := h 4 (by omega)
  have h5 := h 5 (by omega)
  simp [rL] at h0 h1 h2 h3 h4 h5
  exact rAt_no ⟨by omega, by omega, by omega, by omega, by omega, by omega⟩
set_option maxHeartbeats 1600000 in
theorem l08_any (x : Int) (w : World) :
    Calls Try.prog 76 #[.int .i64 x] w fun e w' => e = .returned (.int .i64 (rAt x)) ∧ Below w.heap.size w w' := by
  have hcA : ∀ k, k < 6 → (w.alloc (.cells #[.int .i64 4837, .int .i64 4855, .int .i64 4834, .int .i64 4831, .int .i64 4853, .int .i64 4841] 3)).cell? ⟨w.heap.size, k, none⟩ = some (.int .i64 (rL.getD k 0)) := by
    intro k hk
    rcases (show k = 0 ∨ k = 1 ∨ k = 2 ∨ k = 3 ∨ k = 4 ∨ k = 5 by omega) with rfl | rfl | rfl | rfl | rfl | rfl <;> simp [rL]
  have hbel : Below w.heap.size w (w.alloc (.cells #[.int .i64 4837, .int .i64 4855, .int .i64 4834, .int .i64 4831, .int .i64 4853, .int .i64 4841] 3)) := (Below.refl _ _).alloc (Nat.le_refl _) _
  go_enter Try.func76, Try.ntmps76
  go_wp2
  go_loop [4] (fun i => ∃ k : Nat, k ≤ 6 ∧ i = .int .i64 k ∧ ∀ j, j < k → rL.getD j 0 ≠ x) (fun i => 6 - (intOf i).toNat)
  case atStart => exact ⟨0, by omega, rfl, fun j hj => by omega⟩
  case round =>
    obtain ⟨k, hk, rfl, hno⟩ := hrel
    have HN : Hid (∀ j, j < k → rL.getD j 0 ≠ x) := hno
    clear hno
    by_cases hlt : k < 6
    · have a1 := hcA k hlt
      clear hcA
      obtain ⟨c, hc⟩ : ∃ c, rL.getD k 0 = c := ⟨_, rfl⟩
      rw [hc] at a1
      have HC : Hid (rL.getD k 0 = c) := hc
      clear hc
      cases he : (c == x)
      · have HE : Hid (rL.getD k 0 ≠ x) := by rw [HC.out]; simpa [Hid] using he
        go_wp2
        go_round
        case rel => exact ⟨k + 1, by omega, by go_num, fun j hj => by rcases (show j < k ∨ j = k from by omega) with h | rfl; exact HN.out j h; exact HE.out⟩
        case measure => simp [intOf]; omega
      · have HE : Hid (rL.getD k 0 = x) := by rw [HC.out]; simpa [Hid] using he
        go_wp2
        go_ret
        exact ⟨one_int (rL_at hlt HE.out).symm, hbel⟩
    · have : k = 6 := by omega
      subst this
      clear hcA
      go_wp2
      go_ret
      exact ⟨one_int (rL_none HN.out).symm, hbel⟩
set_option maxHeartbeats 800000 in
theorem sROk_any (x : Int) (w : World) :
    Calls Try.prog 68 #[.int .i64 x] w fun e w' => e = .returned (.bool (rOk x)) ∧ Below w.heap.size w w' := by
  have HV : Hid _ := rAt_ok x
  go_enter Try.func68, Try.ntmps68
  go_wp2_with fail
  refine (l08_any x _).mono ?_
  rintro e w1 ⟨rfl, b1⟩
  go_wp2
  go_ret
  exact ⟨one_bool HV.out, b1⟩
set_option maxHeartbeats 800000 in
theorem sRPart_any (x : Int) (w : World) :
    Calls Try.prog 79 #[.int .i64 x] w fun e w' => e = .returned (.bool (rPart x)) ∧ w' = w := by
  obtain ⟨p, hp⟩ : ∃ p, (x == 4831) = p := ⟨_, rfl⟩
  have HV : Hid (rPart x = (p || x == 4853)) := by rw [Hid, rPart, hp]
  cases p
  · go_enter Try.func79, Try.ntmps79
    go_wp2
    go_ret
    exact ⟨one_bool (by rw [HV.out]; rfl), rfl⟩
  · go_enter Try.func79, Try.ntmps79
    go_wp2
    go_ret
    exact ⟨one_bool (by rw [HV.out]; rfl), rfl⟩
set_option maxHeartbeats 800000 in
theorem sRProof_any (x : Int) (w : World) :
    Calls Try.prog 78 #[.int .i64 x] w fun e w' => e = .returned (.bool (rProof x)) ∧ w' = w := by
  obtain ⟨p, hp⟩ : ∃ p, (x == 4837) = p := ⟨_, rfl⟩
  have HV : Hid (rProof x = (p || x == 4834)) := by rw [Hid, rProof, hp]
  cases p
  · go_enter Try.func78, Try.ntmps78
    go_wp2
    go_ret
    exact ⟨one_bool (by rw [HV.out]; rfl), rfl⟩
  · go_enter Try.func78, Try.ntmps78
    go_wp2
    go_ret
    exact ⟨one_bool (by rw [HV.out]; rfl), rfl⟩
theorem rDays_at {x : Int} (h : rOk x = true) : ∃ k : Nat, k < 6 ∧ rAt x = k ∧ rDays x = ([85, 65, 45, 45, 65, 45] : List Int).getD k 0 := by
  rcases r_cases x with rfl | rfl | rfl | rfl | rfl | rfl | h'
  · exact ⟨0, by decide, rfl, rfl⟩
  · exact ⟨1, by decide, rfl, rfl⟩
  · exact ⟨2, by decide, rfl, rfl⟩
  · exact ⟨3, by decide, rfl, rfl⟩
  · exact ⟨4, by decide, rfl, rfl⟩
  · exact ⟨5, by decide, rfl, rfl⟩
  · rw [rOk_no h'] at h; cases h
set_option maxHeartbeats 1600000 in
theorem sRDays_any (x : Int) (w : World) :
    Calls Try.prog 80 #[.int .i64 x] w fun e w' => e = .returned (.int .i64 (rDays x)) ∧ Below w.heap.size w w' := by
  cases h : rOk x
  · have HV : Hid _ := rDays_bad h
    have hA : rAt x = -1 := by
      rcases r_cases x with rfl | rfl | rfl | rfl | rfl | rfl | h'
      iterate 6 cases h
      exact rAt_no h'
    have HA : Hid _ := hA
    clear hA
    go_enter Try.func80, Try.ntmps80
    go_wp2_with fail
    refine (l08_any x _).mono ?_
    rintro e w1 ⟨rfl, b1⟩
    rw [HA.out]
    go_wp2
    go_ret
    exact ⟨one_int HV.out.symm, b1⟩
  · obtain ⟨k, hk, hA, hD⟩ := rDays_at h
    have HA : Hid _ := hA
    have HD : Hid _ := hD
    clear hA hD
    go_enter Try.func80, Try.ntmps80
    go_wp2_with fail
    refine (l08_any x _).mono ?_
    rintro e w1 ⟨rfl, b1⟩
    rw [HA.out]
    have bel : Below w.heap.size w (w1.alloc (.cells #[.int .i64 85, .int .i64 65, .int .i64 45, .int .i64 45, .int .i64 65, .int .i64 45] 3)) := b1.alloc b1.size _
    have hc : (w1.alloc (.cells #[.int .i64 85, .int .i64 65, .int .i64 45, .int .i64 45, .int .i64 65, .int .i64 45] 3)).cell? ⟨w1.heap.size, k, none⟩ = some (.int .i64 (([85, 65, 45, 45, 65, 45] : List Int).getD k 0)) := by
      rcases (show k = 0 ∨ k = 1 ∨ k = 2 ∨ k = 3 ∨ k = 4 ∨ k = 5 by omega) with rfl | rfl | rfl | rfl | rfl | rfl <;> simp
    obtain ⟨v, hv⟩ : ∃ v, ([85, 65, 45, 45, 65, 45] : List Int).getD k 0 = v := ⟨_, rfl⟩
    rw [hv] at hc
    have HV : Hid _ := hv
    have HB : Hid _ := bel
    clear hv bel b1 h
    go_wp2
    go_ret
    exact ⟨one_int (by rw [HD.out, HV.out]), HB.out⟩

end Go.Proofs.Ytlonjjliochbhaa

/- The contract of the program's CaseOk. -/
namespace Go.Proofs.Ytlonjjliochbhaa
open Go.RowKit
set_option maxRecDepth 100000


end Go.Proofs.Ytlonjjliochbhaa

/- The contract of the specification's CaseOk. -/
namespace Go.Proofs.Ytlonjjliochbhaa
open Go.RowKit
set_option maxRecDepth 100000

theorem in_is {x a b : Int} {q : Bool} (h : inB x a b = q) (w : World) : Calls Try.prog 33 #[.int .i64 x, .int .i64 a, .int .i64 b] w fun e w' => e = .returned (.bool q) ∧ w' = w := by rw [← h]; exact in_any x a b w
theorem inB_of {x a b : Int} {q : Bool} (h : inB x a b = q) : decide (a ≤ x ∧ x ≤ b) = q := h

set_option maxHeartbeats 6400000 in
theorem sCaseOk_any (c : Cs) (w : World) :
    Calls Try.prog 58 #[cv c] w fun e w' => e = .returned (.bool (caseOk c)) ∧ Below w.heap.size w w' := by
  obtain ⟨W, hW⟩ : ∃ W, W = w.alloc (.cells #[.int .i64 c.iss, .int .i64 c.acq, .int .i64 c.cur, .int .i64 c.am, .int .i64 c.st, .int .i64 c.rsn, .int .i64 c.cl, .int .i64 c.bk, .int .i64 c.fee, .bool c.cop, .int .i64 c.sta, .int .i64 c.due] 37) := ⟨_, rfl⟩
  have B : CB w.heap.size 0 c W := by rw [hW]; exact CB.new w c _
  have bW : Below w.heap.size w W := by rw [hW]; exact (Below.refl _ _).alloc (Nat.le_refl _) _
  obtain ⟨iss, acq, cur, am, st, rsn, cl, bk, fee, cop, sta, due⟩ := c
  unfold cv
  simp only at hW ⊢
  have HBC : Hid (CB w.heap.size 0 ⟨iss, acq, cur, am, st, rsn, cl, bk, fee, cop, sta, due⟩ W) := B
  have HW : Hid _ := hW
  have HBW : Hid (Below w.heap.size w W) := bW
  obtain ⟨f0, f1, f2, f3, f4, f5, f6, f7, f8, f9, f10, f11⟩ := B
  simp only [Nat.zero_add] at f0 f1 f2 f3 f4 f5 f6 f7 f8 f9 f10 f11
  clear hW bW f9
  go_enter Try.func58, Try.ntmps58
  go_upto_region 1 with fail
  rw [← HW.out]
  go_wp2_with fail
  refine (acct_any iss _).mono ?_
  rintro e w1 ⟨rfl, hw⟩
  rw [hw]
  clear hw
  cases h1 : acctOk iss
  · have HE : Hid (caseOk ⟨iss, acq, cur, am, st, rsn, cl, bk, fee, cop, sta, due⟩ = false) := by simp [Hid, caseOk, party, h1]
    clear h1
    go_wp2
    go_ret
    exact ⟨one_bool HE.out.symm, HBW.out⟩
  go_wp2_with fail
  refine (acct_any acq _).mono ?_
  rintro e w1 ⟨rfl, hw⟩
  rw [hw]
  clear hw
  cases h2 : acctOk acq
  · have HE : Hid (caseOk ⟨iss, acq, cur, am, st, rsn, cl, bk, fee, cop, sta, due⟩ = false) := by simp [Hid, caseOk, party, h2]
    clear h1 h2
    go_wp2
    go_ret
    exact ⟨one_bool HE.out.symm, HBW.out⟩
  by_cases h3 : iss = acq
  · have HE : Hid (caseOk ⟨iss, acq, cur, am, st, rsn, cl, bk, fee, cop, sta, due⟩ = false) := by simp [Hid, caseOk, h3]
    have h3' : (iss == acq) = true := by simpa using h3
    clear h1 h2 h3
    go_wp2
    go_ret
    exact ⟨one_bool HE.out.symm, HBW.out⟩
  have h3' := beq_no h3
  by_cases k1 : iss = 9999
  · have HE : Hid (caseOk ⟨iss, acq, cur, am, st, rsn, cl, bk, fee, cop, sta, due⟩ = false) := by simp [Hid, caseOk, party, k1]
    have k1' : (iss == 9999) = true := by simpa using k1
    clear h1 h2 h3 k1
    go_wp2
    go_ret
    exact ⟨one_bool HE.out.symm, HBW.out⟩
  have k1' := beq_no k1
  by_cases k2 : acq = 9999
  · have HE : Hid (caseOk ⟨iss, acq, cur, am, st, rsn, cl, bk, fee, cop, sta, due⟩ = false) := by simp [Hid, caseOk, party, k2]
    have k2' : (acq == 9999) = true := by simpa using k2
    clear h1 h2 h3 k1 k2
    go_wp2
    go_ret
    exact ⟨one_bool HE.out.symm, HBW.out⟩
  have k2' := beq_no k2
  have H1 : Hid (party iss = true) := by simp [Hid, party, h1, k1]
  have H2 : Hid (party acq = true) := by simp [Hid, party, h2, k2]
  have H3 : Hid (decide (iss ≠ acq) = true) := decide_eq_true h3
  clear h1 h2 h3 k1 k2
  go_upto_region 3 with fail
  go_cut [3] (fun v wc => v = .bool (early st) ∧ wc = W)
  case first =>
    cases he : inB st 0 2
    · have HV : Hid (early st = (st == 7)) := by
        simp only [Hid, early, inB_of he, Bool.false_or]
        by_cases h : st = 7 <;> simp [h]
      go_wp2_with (go_at_call 33; refine (in_is he _).mono ?_; rintro e w' ⟨rfl, rfl⟩)
      go_meet
      exact ⟨by rw [HV.out], rfl⟩
    · have HV : Hid (early st = true) := by simp only [Hid, early, inB_of he, Bool.true_or]
      go_wp2_with (go_at_call 33; refine (in_is he _).mono ?_; rintro e w' ⟨rfl, rfl⟩)
      go_meet
      exact ⟨by rw [HV.out], rfl⟩
  case rest =>
    obtain ⟨rfl, hwc⟩ := hcut
    rw [hwc]
    clear hwc
    obtain ⟨E, hE⟩ : ∃ E, early st = E := ⟨_, rfl⟩
    rw [hE]
    have HEE : Hid _ := hE
    obtain ⟨d, hd⟩ : ∃ d, digs cur = d := ⟨_, rfl⟩
    have HD : Hid _ := hd
    clear hd hE h3' k1' k2'
    obtain ⟨m, hm⟩ : ∃ m, (decide (0 ≤ d) && (decide (1 ≤ am ∧ am ≤ 100000000000) && (decide (0 ≤ st ∧ st ≤ 7) && (rOk rsn || (decide (rsn = 0) && E))))) = m := ⟨_, rfl⟩
    have HM : Hid _ := hm
    clear hm
    go_upto_region 4 with fail
    go_cut [69] (fun v wc => v = .bool (!m) ∧ Below W.heap.size W wc)
    case first =>
      go_wp2_with fail
      refine (digs_is _ d HD.out).mono ?_
      rintro e w3 ⟨rfl, b3⟩
      have B3 := HBC.out.below b3
      have HB3 : Hid (Below W.heap.size W w3) := b3
      clear b3 f0 f1 f2 f3 f4 f5 f6 f7 f8 f10 f11
      obtain ⟨f0, f1, f2, f3, f4, f5, f6, f7, f8, f9, f10, f11⟩ := B3
      simp only [Nat.zero_add] at f0 f1 f2 f3 f4 f5 f6 f7 f8 f9 f10 f11
      clear f9 f0 f1 f2 f6 f7 f8 f10 f11
      by_cases h4 : d < 0
      · have HE : Hid (m = false) := by
          have : ¬ 0 ≤ d := by omega
          rw [Hid, ← HM.out]; simp [this]
        go_wp2
        go_meet
        exact ⟨by rw [HE.out]; rfl, HB3.out⟩
      have H4 : Hid (decide (0 ≤ d) = true) := decide_eq_true (by omega)
      have HN : Hid (decide (d < 0) = false) := decide_eq_false h4
      go_wp2_with fail
      cases h5 : inB am 1 100000000000
      · have HE : Hid (m = false) := by rw [Hid, ← HM.out, inB_of h5]; simp
        refine (in_is h5 _).mono ?_
        rintro e w4 ⟨rfl, hw⟩
        rw [hw]
        clear hw
        clear h5
        go_wp2
        go_meet
        exact ⟨by rw [HE.out]; rfl, HB3.out⟩
      have H5 : Hid (decide (1 ≤ am ∧ am ≤ 100000000000) = true) := h5
      refine (in_is h5 _).mono ?_
      rintro e w4 ⟨rfl, hw⟩
      rw [hw]
      clear hw
      clear h5
      go_wp2_with fail
      cases h7 : inB st 0 7
      · have HE : Hid (m = false) := by rw [Hid, ← HM.out, inB_of h7]; simp
        refine (in_is h7 _).mono ?_
        rintro e w4 ⟨rfl, hw⟩
        rw [hw]
        clear hw
        clear h7
        go_wp2
        go_meet
        exact ⟨by rw [HE.out]; rfl, HB3.out⟩
      have H7 : Hid (decide (0 ≤ st ∧ st ≤ 7) = true) := h7
      refine (in_is h7 _).mono ?_
      rintro e w4 ⟨rfl, hw⟩
      rw [hw]
      clear hw
      clear h7
      go_wp2_with fail
      refine (sROk_any rsn _).mono ?_
      rintro e w5 ⟨rfl, b5⟩
      have g5 := (b5.cell (p := ⟨w.heap.size, 5, none⟩) (World.block_lt_of_cell? _ _ f5)).trans f5
      have HB5 : Hid (Below W.heap.size W w5) := next HB3.out b5
      clear b5 f3 f4 f5
      have HQ : Hid (m = (rOk rsn || (decide (rsn = 0) && E))) := by rw [Hid, ← HM.out, H4.out, H5.out, H7.out]; rfl
      cases h8 : rOk rsn
      · rw [h8, Bool.false_or] at HQ
        clear h8
        by_cases h9 : rsn = 0
        · rw [decide_eq_true h9, Bool.true_and] at HQ
          have h9' : (rsn == 0) = true := by simpa using h9
          clear h9
          cases E
          · go_wp2
            go_meet
            exact ⟨by rw [HQ.out]; first | rfl | (rw [HN.out]; rfl), HB5.out⟩
          · go_wp2
            go_meet
            exact ⟨by rw [HQ.out]; first | rfl | (rw [HN.out]; rfl), HB5.out⟩
        · rw [decide_eq_false h9, Bool.false_and] at HQ
          have h9' := beq_no h9
          clear h9
          go_wp2
          go_meet
          exact ⟨by rw [HQ.out]; first | rfl | (rw [HN.out]; rfl), HB5.out⟩
      · rw [h8, Bool.true_or] at HQ
        clear h8
        go_wp2
        go_meet
        exact ⟨by rw [HQ.out]; first | rfl | (rw [HN.out]; rfl), HB5.out⟩
    case rest =>
      obtain ⟨rfl, bc⟩ := hcut
      have B5 := HBC.out.below bc
      have HB5 : Hid (Below w.heap.size w wc) := next HBW.out bc
      clear bc f0 f1 f2 f3 f4 f5 f6 f7 f8 f10 f11
      obtain ⟨f0, f1, f2, f3, f4, f5, f6, f7, f8, f9, f10, f11⟩ := B5
      simp only [Nat.zero_add] at f0 f1 f2 f3 f4 f5 f6 f7 f8 f9 f10 f11
      clear f9 f0 f1 f2 f4 f5
      have hx : ∀ r : Bool, (decide (0 ≤ cl ∧ cl ≤ am) && (decide (0 ≤ bk ∧ bk ≤ am) && (decide (0 ≤ fee ∧ fee ≤ 500000) && (dOk sta && (dOk due || decide (due = -1)))))) = r → caseOk ⟨iss, acq, cur, am, st, rsn, cl, bk, fee, cop, sta, due⟩ = (m && r) := by
        intro r hr
        subst hr
        simp only [caseOk, reasonOkAt, H1.out, H2.out, HD.out, H3.out, Bool.true_and, ← HM.out, HEE.out, Bool.and_assoc]
      cases m
      · have HE : Hid (caseOk ⟨iss, acq, cur, am, st, rsn, cl, bk, fee, cop, sta, due⟩ = false) := hx _ rfl
        clear hx
        go_wp2
        go_ret
        exact ⟨one_bool HE.out.symm, HB5.out⟩
      simp only [Bool.true_and] at hx
      have HX : Hid (∀ r : Bool, (decide (0 ≤ cl ∧ cl ≤ am) && (decide (0 ≤ bk ∧ bk ≤ am) && (decide (0 ≤ fee ∧ fee ≤ 500000) && (dOk sta && (dOk due || decide (due = -1)))))) = r → caseOk ⟨iss, acq, cur, am, st, rsn, cl, bk, fee, cop, sta, due⟩ = r) := hx
      clear hx
      go_wp2_with fail
      cases h9 : inB cl 0 am
      · have HE : Hid (caseOk ⟨iss, acq, cur, am, st, rsn, cl, bk, fee, cop, sta, due⟩ = false) := HX.out _ (by rw [inB_of h9]; rfl)
        refine (in_is h9 _).mono ?_
        rintro e w4 ⟨rfl, hw⟩
        rw [hw]
        clear hw
        clear h9
        go_wp2
        go_ret
        exact ⟨one_bool HE.out.symm, HB5.out⟩
      refine (in_is h9 _).mono ?_
      rintro e w4 ⟨rfl, hw⟩
      rw [hw]
      clear hw
      have H9 : Hid (decide (0 ≤ cl ∧ cl ≤ am) = true) := h9
      clear h9
      go_wp2_with fail
      cases h10 : inB bk 0 am
      · have HE : Hid (caseOk ⟨iss, acq, cur, am, st, rsn, cl, bk, fee, cop, sta, due⟩ = false) := HX.out _ (by rw [inB_of h10]; simp)
        refine (in_is h10 _).mono ?_
        rintro e w4 ⟨rfl, hw⟩
        rw [hw]
        clear hw
        clear h10
        go_wp2
        go_ret
        exact ⟨one_bool HE.out.symm, HB5.out⟩
      refine (in_is h10 _).mono ?_
      rintro e w4 ⟨rfl, hw⟩
      rw [hw]
      clear hw
      have H10 : Hid (decide (0 ≤ bk ∧ bk ≤ am) = true) := h10
      clear h10
      go_wp2_with fail
      cases h11 : inB fee 0 500000
      · have HE : Hid (caseOk ⟨iss, acq, cur, am, st, rsn, cl, bk, fee, cop, sta, due⟩ = false) := HX.out _ (by rw [inB_of h11]; simp)
        refine (in_is h11 _).mono ?_
        rintro e w4 ⟨rfl, hw⟩
        rw [hw]
        clear hw
        clear h11
        go_wp2
        go_ret
        exact ⟨one_bool HE.out.symm, HB5.out⟩
      refine (in_is h11 _).mono ?_
      rintro e w4 ⟨rfl, hw⟩
      rw [hw]
      clear hw
      have H11 : Hid (decide (0 ≤ fee ∧ fee ≤ 500000) = true) := h11
      clear h11
      have HE : Hid (caseOk ⟨iss, acq, cur, am, st, rsn, cl, bk, fee, cop, sta, due⟩ = (dOk sta && (dOk due || decide (due = -1)))) := HX.out _ (by rw [H9.out, H10.out, H11.out]; rfl)
      clear HX
      go_wp2_with fail
      refine (sDayOk_any sta _).mono ?_
      rintro e w6 ⟨rfl, hw⟩
      rw [hw]
      clear hw
      cases h15 : dOk sta
      · rw [h15, Bool.false_and] at HE
        clear h15
        go_wp2
        go_ret
        exact ⟨one_bool HE.out.symm, HB5.out⟩
      rw [h15, Bool.true_and] at HE
      clear h15
      by_cases h17 : due = -1
      · rw [decide_eq_true h17, Bool.or_true] at HE
        have h17' : (due == -1) = true := by simpa using h17
        clear h17
        go_wp2
        go_ret
        exact ⟨one_bool HE.out.symm, HB5.out⟩
      · rw [decide_eq_false h17, Bool.or_false] at HE
        have h17' := beq_no h17
        clear h17
        go_wp2_with fail
        refine (sDayOk_any due _).mono ?_
        rintro e w7 ⟨rfl, hw⟩
        rw [hw]
        clear hw
        go_wp2
        go_ret
        exact ⟨one_bool HE.out.symm, HB5.out⟩

end Go.Proofs.Ytlonjjliochbhaa

/- Chapter 8, the days of the steps: the program's table, the specification's list. -/
namespace Go.Proofs.Ytlonjjliochbhaa
open Go.RowKit

def stepL : List Int := [30, 30, 15, 60, 20]
/-- the days of a step, -1 for another -/
def stepV (x : Int) : Int := if 0 ≤ x ∧ x ≤ 4 then stepL.getD x.toNat 0 else -1
theorem stepV_no {x : Int} (h : x < 0 ∨ 4 < x) : stepV x = -1 := if_neg (by omega)
theorem stepV_yes {k : Nat} (h : k < 5) : stepV (k : Int) = stepL.getD k 0 := by rw [stepV, if_pos (by omega)]; rfl
theorem step_cases (x : Int) : (x < 0 ∨ 4 < x) ∨ ∃ k : Nat, k < 5 ∧ x = (k : Int) := by
  by_cases h : x < 0 ∨ 4 < x
  · exact .inl h
  · exact .inr ⟨x.toNat, by omega, by omega⟩



set_option maxHeartbeats 400000 in
theorem sStep_any (x : Int) (w : World) :
    Calls Try.prog 62 #[.int .i64 x] w fun e w' => e = .returned (.int .i64 (stepV x)) ∧ Below w.heap.size w w' := by
  rcases step_cases x with h | ⟨k, hk, rfl⟩
  · have HV : Hid _ := stepV_no h
    have hi : inB x 0 4 = false := inB_neg h
    go_enter Try.func62, Try.ntmps62
    go_wp2_with (go_at_call 33; refine (in_any _ _ _ _).mono ?_; rintro e w' ⟨rfl, rfl⟩)
    go_ret
    exact ⟨one_int HV.out.symm, Below.refl _ _⟩
  · have hi : inB (k : Int) 0 4 = true := inB_pos (by omega) (by omega)
    have HB : Hid (Below w.heap.size w (w.alloc (.cells #[.int .i64 30, .int .i64 30, .int .i64 15, .int .i64 60, .int .i64 20] 3))) := (Below.refl _ _).alloc (Nat.le_refl _) _
    have hc : (w.alloc (.cells #[.int .i64 30, .int .i64 30, .int .i64 15, .int .i64 60, .int .i64 20] 3)).cell? ⟨w.heap.size, k, none⟩ = some (.int .i64 (stepL.getD k 0)) := by
      rcases (show k = 0 ∨ k = 1 ∨ k = 2 ∨ k = 3 ∨ k = 4 by omega) with rfl | rfl | rfl | rfl | rfl <;> simp [stepL]
    have HL : Hid _ := stepV_yes hk
    obtain ⟨v, hv⟩ : ∃ v, stepL.getD k 0 = v := ⟨_, rfl⟩
    rw [hv] at hc
    have HV : Hid _ := hv
    clear hv
    go_enter Try.func62, Try.ntmps62
    go_wp2_with (go_at_call 33; refine (in_any _ _ _ _).mono ?_; rintro e w' ⟨rfl, rfl⟩)
    go_ret
    exact ⟨one_int (by rw [HL.out, HV.out]), HB.out⟩

end Go.Proofs.Ytlonjjliochbhaa

/- The books, plainly: amounts by account and currency; a line more is an amount more at one place; lines in order are told by their amounts. -/
namespace Go.Proofs.Ytlonjjliochbhaa

/-- the amount that stands at an account and a currency -/
def look : List Ln → Int → Int → Option Int
  | [], _, _ => none
  | x :: r, a, c => if x.1 = a ∧ x.2.1 = c then some x.2.2 else look r a c
/-- amounts by account and currency, with more at one place; what comes to 0 goes -/
def upd (f : Int → Int → Option Int) (a c m : Int) : Int → Int → Option Int := fun a' c' =>
  if a' = a ∧ c' = c then (if (f a c).getD 0 + m = 0 then none else some ((f a c).getD 0 + m)) else f a' c'
def Srt (ls : List Ln) : Prop := ls.Pairwise (fun x y => lnLt x y = true)
def NZ (ls : List Ln) : Prop := ∀ x ∈ ls, x.2.2 ≠ 0
theorem lnLt_iff {x y : Ln} : lnLt x y = true ↔ x.1 < y.1 ∨ x.1 = y.1 ∧ x.2.1 < y.2.1 := by simp [lnLt]
theorem lnLt_trans {x y z : Ln} (h1 : lnLt x y = true) (h2 : lnLt y z = true) : lnLt x z = true := by
  rw [lnLt_iff] at *; omega
theorem look_none {ls : List Ln} {a c : Int} (h : ∀ x ∈ ls, ¬ (x.1 = a ∧ x.2.1 = c)) : look ls a c = none := by
  induction ls with
  | nil => rfl
  | cons y r ih =>
    simp only [look]
    rw [if_neg (h y (List.mem_cons_self ..))]
    exact ih fun x hx => h x (List.mem_cons_of_mem _ hx)
theorem look_mem {ls : List Ln} {a c v : Int} (h : look ls a c = some v) : (a, c, v) ∈ ls := by
  induction ls with
  | nil => simp [look] at h
  | cons y r ih =>
    simp only [look] at h
    split at h
    · rename_i hk
      obtain ⟨y1, y2, y3⟩ := y
      simp at hk h
      obtain ⟨rfl, rfl⟩ := hk
      subst h
      exact List.mem_cons_self ..
    · exact List.mem_cons_of_mem _ (ih h)
/-- no two lines are of one account and currency -/
def Apart (ls : List Ln) : Prop := ls.Pairwise (fun x y => ¬ (x.1 = y.1 ∧ x.2.1 = y.2.1))
theorem Srt.apart {ls : List Ln} (h : Srt ls) : Apart ls := h.imp fun {x y} hxy => by rw [lnLt_iff] at hxy; omega
theorem mem_look {ls : List Ln} (h : Apart ls) {a c v : Int} : (a, c, v) ∈ ls ↔ look ls a c = some v := by
  refine ⟨fun hm => ?_, look_mem⟩
  induction ls with
  | nil => cases hm
  | cons y r ih =>
    obtain ⟨h1, h2⟩ := List.pairwise_cons.1 h
    rcases List.mem_cons.1 hm with rfl | hr
    · simp [look]
    · have hk := h1 _ hr
      simp only at hk
      simp only [look]
      rw [if_neg hk]
      exact ih h2 hr
theorem look_snoc (ls : List Ln) (x : Ln) (a c : Int) : look (ls ++ [x]) a c = match look ls a c with | some v => some v | none => if x.1 = a ∧ x.2.1 = c then some x.2.2 else none := by
  induction ls with
  | nil => simp [look]
  | cons y r ih =>
    simp only [List.cons_append, look]
    split
    · rfl
    · exact ih
theorem look_take {ls : List Ln} (hs : Srt ls) (hz : NZ ls) {k : Nat} (hk : k < ls.length) : look (ls.take (k + 1)) = upd (look (ls.take k)) (lnAt ls k).1 (lnAt ls k).2.1 (lnAt ls k).2.2 := by
  have hn : look (ls.take k) (lnAt ls k).1 (lnAt ls k).2.1 = none := by
    refine look_none fun x hx => ?_
    obtain ⟨i, hi, rfl⟩ := List.mem_iff_getElem.1 hx
    simp only [List.length_take] at hi
    have hp := List.pairwise_iff_getElem.1 hs i k (by omega) hk (by omega)
    rw [lnLt_iff] at hp
    rw [List.getElem_take, lnAt_is hk]
    omega
  have h0 : (lnAt ls k).2.2 ≠ 0 := hz _ (lnAt_mem hk)
  funext a c
  rw [take_lnAt ls k hk, look_snoc]
  unfold upd
  rw [hn]
  by_cases he : a = (lnAt ls k).1 ∧ c = (lnAt ls k).2.1
  · obtain ⟨rfl, rfl⟩ := he
    rw [hn]
    simp [h0]
  · rw [if_neg he, if_neg (fun h => he ⟨h.1.symm, h.2.symm⟩)]
    cases look (ls.take k) a c <;> rfl
theorem mem_addL {ls : List Ln} {a c m : Int} {x : Ln} (h : x ∈ addL ls a c m) : x ∈ ls ∨ x.1 = a ∧ x.2.1 = c := by
  induction ls with
  | nil => simp [addL] at h; subst h; exact .inr ⟨rfl, rfl⟩
  | cons y r ih =>
    simp only [addL] at h
    split at h
    · split at h
      · split at h
        · rcases List.mem_cons.1 h with rfl | h
          · exact .inr ⟨rfl, rfl⟩
          · exact .inl (List.mem_cons_of_mem _ h)
        · exact .inl (List.mem_cons_of_mem _ h)
      · rcases List.mem_cons.1 h with rfl | h
        · exact .inr ⟨rfl, rfl⟩
        · exact .inl h
    · rcases List.mem_cons.1 h with rfl | h
      · exact .inl (List.mem_cons_self ..)
      · exact (ih h).imp (List.mem_cons_of_mem _) id
theorem reach_iff {x : Ln} {a c : Int} : reach x a c = true ↔ a < x.1 ∨ x.1 = a ∧ c ≤ x.2.1 := by simp [reach]
theorem srt_addL {ls : List Ln} (hs : Srt ls) (a c m : Int) : Srt (addL ls a c m) := by
  induction ls with
  | nil => simp [addL, Srt]
  | cons y r ih =>
    obtain ⟨h1, h2⟩ := List.pairwise_cons.1 hs
    simp only [addL]
    split
    · rename_i hr
      rw [reach_iff] at hr
      split
      · rename_i he
        split
        · refine List.pairwise_cons.2 ⟨fun z hz => ?_, h2⟩
          have := h1 z hz
          rw [lnLt_iff] at this ⊢
          simp only
          omega
        · exact h2
      · rename_i he
        refine List.pairwise_cons.2 ⟨fun z hz => ?_, hs⟩
        have hy : lnLt (a, c, m) y = true := by rw [lnLt_iff]; simp only; omega
        rcases List.mem_cons.1 hz with rfl | hz
        · exact hy
        · exact lnLt_trans hy (h1 z hz)
    · rename_i hr
      rw [reach_iff] at hr
      refine List.pairwise_cons.2 ⟨fun z hz => ?_, ih h2⟩
      rcases mem_addL hz with hz | ⟨e1, e2⟩
      · exact h1 z hz
      · rw [lnLt_iff]; omega
theorem nz_addL {ls : List Ln} (hz : NZ ls) (a c : Int) {m : Int} (hm : m ≠ 0) : NZ (addL ls a c m) := by
  induction ls with
  | nil => intro x hx; simp [addL] at hx; subst hx; exact hm
  | cons y r ih =>
    have hr : NZ r := fun x hx => hz x (List.mem_cons_of_mem _ hx)
    simp only [addL]
    split
    · split
      · split
        · rename_i h0
          intro x hx
          rcases List.mem_cons.1 hx with rfl | hx
          · exact h0
          · exact hr x hx
        · exact hr
      · intro x hx
        rcases List.mem_cons.1 hx with rfl | hx
        · exact hm
        · exact hz x hx
    · intro x hx
      rcases List.mem_cons.1 hx with rfl | hx
      · exact hz _ (List.mem_cons_self ..)
      · exact ih hr x hx
theorem look_addL {ls : List Ln} (hs : Srt ls) (a c : Int) {m : Int} (hm : m ≠ 0) : look (addL ls a c m) = upd (look ls) a c m := by
  induction ls with
  | nil =>
    funext a' c'
    simp only [addL, look, upd, Option.getD_none, Int.zero_add, if_neg hm]
    by_cases h : a' = a ∧ c' = c
    · rw [if_pos h, if_pos ⟨h.1.symm, h.2.symm⟩]
    · rw [if_neg h, if_neg (fun q => h ⟨q.1.symm, q.2.symm⟩)]
  | cons y r ih =>
    obtain ⟨h1, h2⟩ := List.pairwise_cons.1 hs
    have ih' := ih h2
    funext a' c'
    simp only [addL]
    split
    · rename_i hr
      rw [reach_iff] at hr
      split
      · rename_i he
        have hnr : look r a c = none := look_none fun x hx hk => by
          have := h1 x hx
          rw [lnLt_iff] at this; omega
        have hl : look (y :: r) a c = some y.2.2 := by simp [look, he]
        unfold upd
        rw [hl]
        simp only [Option.getD_some]
        split
        · rename_i h0
          by_cases h : a' = a ∧ c' = c
          · rw [if_pos h]; simp [look, h.1, h.2]
          · rw [if_neg h]
            have e1 : ¬ (a = a' ∧ c = c') := fun q => h ⟨q.1.symm, q.2.symm⟩
            simp only [look]
            rw [if_neg e1, if_neg (by rw [he.1, he.2]; exact e1)]
        · rename_i h0
          have h0' : y.2.2 + m = 0 := by omega
          by_cases h : a' = a ∧ c' = c
          · rw [if_pos h, if_pos h0', h.1, h.2]; exact hnr
          · rw [if_neg h]
            have e1 : ¬ (a = a' ∧ c = c') := fun q => h ⟨q.1.symm, q.2.symm⟩
            simp only [look]
            rw [if_neg (by rw [he.1, he.2]; exact e1)]
      · rename_i he
        have hn : look (y :: r) a c = none := look_none fun x hx hk => by
          rcases List.mem_cons.1 hx with rfl | hx
          · exact he hk
          · have := h1 x hx
            rw [lnLt_iff] at this; omega
        unfold upd
        rw [hn]
        simp only [Option.getD_none, Int.zero_add, if_neg hm]
        by_cases h : a' = a ∧ c' = c
        · rw [if_pos h]; simp [look, h.1, h.2]
        · have e1 : ¬ (a = a' ∧ c = c') := fun q => h ⟨q.1.symm, q.2.symm⟩
          rw [if_neg h]; conv => lhs; rw [look]
          rw [if_neg e1]
    · rename_i hr
      rw [reach_iff] at hr
      have hya : ¬ (y.1 = a ∧ y.2.1 = c) := by omega
      have hl : look (y :: r) a c = look r a c := by simp only [look]; rw [if_neg hya]
      have hx := congrFun (congrFun ih' a') c'
      conv => lhs; rw [look]
      unfold upd at hx ⊢
      rw [hl, hx]
      by_cases h : a' = a ∧ c' = c
      · rw [if_neg (by rw [h.1, h.2]; exact hya), if_pos h, if_pos h]
      · rw [if_neg h, if_neg h]; simp only [look]
theorem eq_of_look {l1 l2 : List Ln} (h1 : Srt l1) (h2 : Srt l2) (h : ∀ a c, look l1 a c = look l2 a c) : l1 = l2 := by
  have hm : ∀ x : Ln, x ∈ l1 ↔ x ∈ l2 := fun ⟨a, c, v⟩ => by rw [mem_look h1.apart, mem_look h2.apart, h]
  clear h
  induction l1 generalizing l2 with
  | nil =>
    cases l2 with
    | nil => rfl
    | cons y r => exact absurd ((hm y).2 (List.mem_cons_self ..)) (by simp)
  | cons x r ih =>
    cases l2 with
    | nil => exact absurd ((hm x).1 (List.mem_cons_self ..)) (by simp)
    | cons y s =>
      obtain ⟨p1, p2⟩ := List.pairwise_cons.1 h1
      obtain ⟨q1, q2⟩ := List.pairwise_cons.1 h2
      have irr : ∀ z : Ln, lnLt z z = true → False := fun z hz => by rw [lnLt_iff] at hz; omega
      have hxy : x = y := by
        rcases List.mem_cons.1 ((hm x).1 (List.mem_cons_self ..)) with h | h
        · exact h
        · rcases List.mem_cons.1 ((hm y).2 (List.mem_cons_self ..)) with h' | h'
          · exact h'.symm
          · exact (irr x (lnLt_trans (p1 y h') (q1 x h))).elim
      subst hxy
      refine congrArg (x :: ·) (ih p2 q2 fun z => ⟨fun hz => ?_, fun hz => ?_⟩)
      · rcases List.mem_cons.1 ((hm z).1 (List.mem_cons_of_mem _ hz)) with rfl | h
        · exact (irr z (p1 z hz)).elim
        · exact h
      · rcases List.mem_cons.1 ((hm z).2 (List.mem_cons_of_mem _ hz)) with rfl | h
        · exact (irr z (q1 z hz)).elim
        · exact h
theorem srt_of_linesOk {ls : List Ln} (h : linesOk none ls = true) : Srt ls := by
  have key : ∀ (r : List Ln) (p : Ln), linesOk (some p) r = true → (∀ x ∈ r, lnLt p x = true) ∧ Srt r := by
    intro r
    induction r with
    | nil => intro p _; exact ⟨(fun x hx => by cases hx), List.Pairwise.nil⟩
    | cons y s ih =>
      intro p hp
      simp only [linesOk, Bool.and_eq_true] at hp
      obtain ⟨a1, a2⟩ := ih y hp.2
      refine ⟨fun x hx => ?_, List.pairwise_cons.2 ⟨a1, a2⟩⟩
      rcases List.mem_cons.1 hx with rfl | hx
      · exact hp.1.2
      · exact lnLt_trans hp.1.2 (a1 x hx)
  cases ls with
  | nil => exact List.Pairwise.nil
  | cons y s =>
    simp only [linesOk, Bool.and_eq_true] at h
    obtain ⟨a1, a2⟩ := key s y h.2
    exact List.pairwise_cons.2 ⟨a1, a2⟩
theorem nz_of_linesOk {ls : List Ln} (h : linesOk none ls = true) : NZ ls := fun x hx => (lnOk_is (linesOk_mem h x hx)).2.2.2

end Go.Proofs.Ytlonjjliochbhaa

/- The books, plainly: even lines; how one line stands to another. -/
namespace Go.Proofs.Ytlonjjliochbhaa

theorem cur_mem {c : Int} (h : 0 ≤ digs c) : c ∈ curL := by
  unfold digs at h
  simp only [curL, List.mem_cons, List.not_mem_nil, or_false]
  repeat' split at h
  all_goals omega
theorem sumC_none {c : Int} {ls : List Ln} (h : ∀ x ∈ ls, x.2.1 ≠ c) : sumC c ls = 0 := by
  induction ls with
  | nil => rfl
  | cons y r ih =>
    have h1 := h y (List.mem_cons_self ..)
    have h2 := ih fun x hx => h x (List.mem_cons_of_mem _ hx)
    simp only [sumC, List.map_cons, List.sum_cons] at h2 ⊢
    rw [if_neg h1, h2]; rfl
theorem evenL_iff {ls : List Ln} (h : ∀ x ∈ ls, 0 ≤ digs x.2.1) : evenL ls = true ↔ ∀ x ∈ ls, sumC x.2.1 ls = 0 := by
  unfold evenL
  rw [List.all_eq_true]
  constructor
  · intro ha x hx
    simpa using ha _ (cur_mem (h x hx))
  · intro ha c _
    by_cases hc : ∃ x ∈ ls, x.2.1 = c
    · obtain ⟨x, hx, rfl⟩ := hc
      simpa using ha x hx
    · have := sumC_none (c := c) (ls := ls) fun x hx e => hc ⟨x, hx, e⟩
      simp [this]
/-- how one line stands to another: below 0 ahead of it, 0 at its place, above 0 behind it -/
def cmpI (a b : Int) : Int := if a < b then -1 else if b < a then 1 else 0
def orI (x y : Int) : Int := if x ≠ 0 then x else y
def cmpL (x y : Ln) : Int := orI (cmpI x.1 y.1) (cmpI x.2.1 y.2.1)
theorem cmpL_lt (x y : Ln) : cmpL x y < 0 ↔ lnLt x y = true := by
  simp only [cmpL, orI, cmpI, lnLt, decide_eq_true_eq]
  repeat' split
  all_goals omega

end Go.Proofs.Ytlonjjliochbhaa

/- What is drawn for chapter 2: days and dates, whatever the bytes. -/
namespace Go.Proofs.Ytlonjjliochbhaa
open Go.RowKit

theorem bel_g {w w' : World} {g : Nat} (hg : w.grownBy w' (some g)) (h : g ≤ w.heap.size) : Below g w w' := (Below.refl g w).grown hg h (fun k hk => by cases hk; exact Nat.le_refl _)


end Go.Proofs.Ytlonjjliochbhaa

/- What is drawn for AddWork: a day, a number and a list, whatever the bytes. -/
namespace Go.Proofs.Ytlonjjliochbhaa
open Go.RowKit



end Go.Proofs.Ytlonjjliochbhaa

/- A right holiday list that is drawn, whatever the bytes. -/
namespace Go.Proofs.Ytlonjjliochbhaa
open Go.RowKit
set_option maxRecDepth 100000
theorem grown_farP {w w1 w2 : World} {g : Nat} {row : Option Nat} (h : w.grownBy w1 (some g)) (h2 : w1.grownBy w2 row) (hr : ∀ j, row = some j → w.heap.size ≤ j) : w.grownBy w2 (some g) :=
  ⟨h2.os.trans h.os, h2.tape.trans h.tape, h2.output.trans h.output, Nat.le_trans h.size h2.size, fun k hk hne => (h2.block k (Nat.lt_of_lt_of_le hk h.size) (fun e => by have := hr k e.symm; omega)).trans (h.block k hk hne)⟩
set_option maxHeartbeats 1600000 in
theorem plain_any {B : Nat} (g : Nat) (w : World) (hc : Cursor B w g) :
    Calls Try.prog 20 #[.pointer (some ⟨g, 0, none⟩)] w fun e w' => ∃ (ao : Option Addr) (c : Nat) (xs : List Int), e = .returned (.slice ao xs.length c) ∧ xs.length ≤ 6 ∧ w'.ownsRow w.heap.size 3 1 (.slice ao xs.length c) xs.length (xs.map (Value.int .i64)) ∧ Cursor B w' g ∧ w.grownBy w' (some g) ∧ w.heap.size ≤ w'.heap.size := by
  obtain ⟨i0, hi, hz0, hz1, hz2⟩ := info_parts info3
  have cb := cursor_bd hc
  have own0 : (w.alloc (.cells #[] 3)).ownsRow w.heap.size 3 1 (.slice (some ⟨w.heap.size, 0, none⟩) 0 0) 0 [] := World.ownsRow_lit w #[] 0 (Nat.le_refl _) (by unfold maxLen; omega) rfl
  go_enter Try.func20, Try.ntmps20
  go_wp2_with fail
  refine (below_any _ _ _ (cursor_alloc hc _) (by omega)).mono ?_
  rintro e w2 ⟨n, rfl, n0, n1, c2, g2⟩
  have hn8 := n1 (by omega)
  obtain ⟨m, rfl⟩ := Int.eq_ofNat_of_zero_le n0
  have own2 := own0.kept g2 (ho_ne own0 (by omega))
  have b2 : w.grownBy w2 (some g) := (World.grownBy_alloc w _ _).trans g2
  have s2 : w.heap.size ≤ w2.heap.size := by have := g2.size; simp at this; omega
  clear own0 n1 g2 hc
  go_wp2
  go_loopw [3, 4, 6] (fun v p i wr => ∃ (k : Nat) (y : Int) (xs : List Int), k ≤ m ∧ i = .int .i64 k ∧ p = .int .i64 y ∧ (0 ≤ y ∧ y ≤ 9000 + 60 * k) ∧ xs.length = k ∧ wr.ownsRow w.heap.size 3 1 v k (xs.map (Value.int .i64)) ∧ Cursor B wr g ∧ w.grownBy wr (some g) ∧ w.heap.size ≤ wr.heap.size) (fun _ _ i _ => m - (intOf i).toNat)
  case atStart => exact ⟨0, 9000, [], Nat.zero_le _, rfl, rfl, by omega, rfl, own2, c2, b2, s2⟩
  case round =>
    obtain ⟨k, y, xs, hk, rfl, rfl, hy, hxl, ho, hc, hbr, hsz⟩ := hrel
    clear own2 c2 b2 s2
    by_cases hlt : k < m
    · have hki : (k : Int) < (m : Int) := by omega
      have HXL : Hid _ := hxl
      clear hxl
      go_wp2_with (first | (go_at_call 16; refine (below_any _ _ _ hc (by omega)).mono ?_; rintro e w3 ⟨z, rfl, zz0, zz1, c3, g3⟩; have hzz := zz1 (by omega); have o3 := ho.kept g3 (ho_ne ho (by omega)); have b3 : w.grownBy w3 (some g) := hbr.trans g3; have s3 := g3.size) | (at_builtin; refine wpList_append_own _ rfl (.tmp 20) (.tmp 22) 24 rfl w.heap.size 3 i0 (.int .i64 0) 1 8 Try.underlying24 hi hz0 hz1 hz2 rfl (by decide) _ _ _ rfl (o3.alloc _) ⟨w3.heap.size, 0, none⟩ 1 1 [.int .i64 (y + 1 + z)] rfl rfl (cell_one_new _ _ _) (ints_oneCell .i64 [y + 1 + z]) (by unfold maxLen; omega) (by omega) (by simp; omega) ?_; intro v' w4 ho1 hg1 hn1))
      have hb1 : w.grownBy w4 (some g) := grown_farP (b3.trans (World.grownBy_alloc w3 _ _)) hg1 (fun j hj => by have := (o3.lt j hj).1; omega)
      have hc1 : Cursor B w4 g := cursor_keep c3 (((Below.refl _ w3).alloc (by omega) _).grown hg1 (by simp; omega) (fun j hj => by have := (o3.lt j hj).1; omega))
      have hs1 : w.heap.size ≤ w4.heap.size := by have := hg1.size; simp at this; omega
      clear hg1 hn1 ho
      go_wp2
      go_roundw
      case rel => exact ⟨k + 1, y + 1 + z, xs ++ [y + 1 + z], by omega, by go_num, rfl, by omega, by have := HXL.out; simp; omega, by rw [List.map_append]; exact ho1, hc1, hb1, hs1⟩
      case measure => simp [intOf]; omega
    · have hkm : k = m := by omega
      subst hkm
      have HO : Hid _ := ho
      have hki : ¬ (k : Int) < (k : Int) := by omega
      clear ho
      go_wp2
      go_ret
      obtain ⟨ao, c, hv⟩ := own_shape HO.out
      subst hv
      subst hxl
      exact ⟨ao, c, xs, rfl, by omega, HO.out, hc, hbr, hsz⟩

end Go.Proofs.Ytlonjjliochbhaa

/- The numbers of the cases that are such: plainly. -/
namespace Go.Proofs.Ytlonjjliochbhaa
open Go.RowKit
set_option maxRecDepth 100000

/-- the numbers below k of the cases that are such -/
def numsL (P : Cs → Bool) (cs : List Cs) (k : Nat) : List Int := ((List.range k).filter fun i => P (csAt cs i)).map fun i : Nat => (i : Int)
theorem numsL_zero (P : Cs → Bool) (cs : List Cs) : numsL P cs 0 = [] := rfl
theorem numsL_in {P : Cs → Bool} {cs : List Cs} {k : Nat} (h : P (csAt cs k) = true) : numsL P cs (k + 1) = numsL P cs k ++ [(k : Int)] := by
  simp [numsL, List.range_succ, List.filter_append, h]
theorem numsL_out {P : Cs → Bool} {cs : List Cs} {k : Nat} (h : P (csAt cs k) = false) : numsL P cs (k + 1) = numsL P cs k := by
  simp [numsL, List.range_succ, List.filter_append, h]
theorem numsL_le (P : Cs → Bool) (cs : List Cs) (k : Nat) : (numsL P cs k).length ≤ k := by
  refine Nat.le_trans (by rw [numsL, List.length_map]; exact List.length_filter_le _ _) ?_
  simp
/-- an open case; one that is open and late -/
def opP (c : Cs) : Bool := !(c.st == 7)
def dueP (t : Int) (c : Cs) : Bool := opP c && lateV t c.due
theorem opP_no {c : Cs} (h : (c.st == 7) = true) : opP c = false := by simp [opP, h]
theorem opP_yes {c : Cs} (h : (c.st == 7) = false) : opP c = true := by simp [opP, h]
theorem dueP_no {t : Int} {c : Cs} (h : (c.st == 7) = true) : dueP t c = false := by simp [dueP, opP_no h]
theorem dueP_late {t : Int} {c : Cs} (h : (c.st == 7) = false) : dueP t c = lateV t c.due := by simp [dueP, opP_yes h]
theorem one_nu (x : Int) : ∀ u ∈ [Value.int .i64 x], u.oneCell' = true := by
  intro u hu
  rw [List.mem_singleton.1 hu]; rfl
theorem infoI : (Try.prog.info? 3).map (fun i => (i.zero, i.size, i.bytes)) = some (some (.int .i64 0), 1, 8) := by kernel_rfl
/-- an answer of numbers: a row of its own -/
def NuR (w : World) (zs : List Int) (e : Ending) (w' : World) : Prop :=
  ∃ a k, e = .returned (.slice a zs.length k) ∧ w'.ownsRow w.heap.size 3 1 (.slice a zs.length k) zs.length (zs.map (Value.int .i64)) ∧ Below w.heap.size w w'

end Go.Proofs.Ytlonjjliochbhaa

/- Sums over cases, as the machine reckons them: plainly. -/
namespace Go.Proofs.Ytlonjjliochbhaa
open Go.RowKit
set_option maxRecDepth 100000

theorem take_csAt (cs : List Cs) (k : Nat) (h : k < cs.length) : cs.take (k + 1) = cs.take k ++ [csAt cs k] := by rw [List.take_succ_eq_append_getElem h, csAt_is h]
/-- what a case adds to a sum: what is told of it, where it is such -/
def sumS (P : Cs → Bool) (f : Cs → Int) (s : Int) (c : Cs) : Int := if P c = true then IntKind.i64.wrap (s + f c) else s
def sumV (P : Cs → Bool) (f : Cs → Int) (cs : List Cs) : Int := cs.foldl (sumS P f) 0
theorem sumV_step (P : Cs → Bool) (f : Cs → Int) (cs : List Cs) (k : Nat) (h : k < cs.length) : sumV P f (cs.take (k + 1)) = sumS P f (sumV P f (cs.take k)) (csAt cs k) := by
  rw [take_csAt cs k h, sumV, List.foldl_append]; rfl
theorem sumV_in {P : Cs → Bool} {f : Cs → Int} {cs : List Cs} {k : Nat} (h : k < cs.length) (hp : P (csAt cs k) = true) : sumV P f (cs.take (k + 1)) = IntKind.i64.wrap (sumV P f (cs.take k) + f (csAt cs k)) := by
  rw [sumV_step P f cs k h, sumS, if_pos hp]
theorem sumV_out {P : Cs → Bool} {f : Cs → Int} {cs : List Cs} {k : Nat} (h : k < cs.length) (hp : P (csAt cs k) = false) : sumV P f (cs.take (k + 1)) = sumV P f (cs.take k) := by
  rw [sumV_step P f cs k h, sumS, if_neg (by rw [hp]; decide)]
theorem wrap_bd (x : Int) : -9223372036854775808 ≤ IntKind.i64.wrap x ∧ IntKind.i64.wrap x ≤ 9223372036854775807 := by
  rw [IntKind.wrap_i64]; omega
theorem foldl_bd (P : Cs → Bool) (f : Cs → Int) (cs : List Cs) : ∀ s : Int, -9223372036854775808 ≤ s ∧ s ≤ 9223372036854775807 → -9223372036854775808 ≤ cs.foldl (sumS P f) s ∧ cs.foldl (sumS P f) s ≤ 9223372036854775807 := by
  induction cs with
  | nil => intro s h; exact h
  | cons c r ih =>
    intro s h
    refine ih _ ?_
    unfold sumS
    split
    · exact wrap_bd _
    · exact h
theorem sumV_bd (P : Cs → Bool) (f : Cs → Int) (cs : List Cs) : -9223372036854775808 ≤ sumV P f cs ∧ sumV P f cs ≤ 9223372036854775807 := foldl_bd P f cs 0 (by omega)
theorem sumV_filter (P Q : Cs → Bool) (f : Cs → Int) (cs : List Cs) : sumV P f (cs.filter Q) = sumV (fun c => P c && Q c) f cs := by
  unfold sumV
  suffices h : ∀ s : Int, (cs.filter Q).foldl (sumS P f) s = cs.foldl (sumS (fun c => P c && Q c) f) s from h 0
  induction cs with
  | nil => intro s; rfl
  | cons c r ih =>
    intro s
    rw [List.filter_cons, List.foldl_cons, ← ih]
    cases hq : Q c <;> cases hp : P c <;> simp [hq, hp, sumS]
/-- of one currency -/
def curP (x : Int) (c : Cs) : Bool := c.cur == x
/-- what a case says of an account -/
def netC (c : Cs) : Int := wrap64 (c.am - c.bk)
def balV (a : Int) (c : Cs) : Int :=
  if a = 9999 then wrap64 ((if a = c.acq then wrap64 ((if a = c.iss then wrap64 (0 - netC c) else 0) + netC c) else (if a = c.iss then wrap64 (0 - netC c) else 0)) + c.fee)
  else (if a = c.acq then wrap64 ((if a = c.iss then wrap64 (0 - netC c) else 0) + netC c) else (if a = c.iss then wrap64 (0 - netC c) else 0))
/-- a case adds what it says of an account, one part behind another -/
def expV (a : Int) (s : Int) (c : Cs) : Int :=
  if a = 9999 then wrap64 ((if c.acq = a then wrap64 ((if c.iss = a then wrap64 (s - netC c) else s) + netC c) else (if c.iss = a then wrap64 (s - netC c) else s)) + c.fee)
  else (if c.acq = a then wrap64 ((if c.iss = a then wrap64 (s - netC c) else s) + netC c) else (if c.iss = a then wrap64 (s - netC c) else s))
theorem expV_is (a s : Int) (c : Cs) (h : -9223372036854775808 ≤ s ∧ s ≤ 9223372036854775807) : IntKind.i64.wrap (s + balV a c) = expV a s c := by
  rw [IntKind.wrap_i64]
  unfold expV balV
  generalize netC c = n
  by_cases h1 : a = c.iss
  · by_cases h2 : a = c.acq
    · by_cases h3 : a = 9999
      · simp only [if_pos h1, if_pos h1.symm, if_pos h2, if_pos h2.symm, if_pos h3, wrap64]
        omega
      · simp only [if_pos h1, if_pos h1.symm, if_pos h2, if_pos h2.symm, if_neg h3, wrap64]
        omega
    · by_cases h3 : a = 9999
      · simp only [if_pos h1, if_pos h1.symm, if_neg h2, if_neg (Ne.symm h2), if_pos h3, wrap64]
        omega
      · simp only [if_pos h1, if_pos h1.symm, if_neg h2, if_neg (Ne.symm h2), if_neg h3, wrap64]
        omega
  · by_cases h2 : a = c.acq
    · by_cases h3 : a = 9999
      · simp only [if_neg h1, if_neg (Ne.symm h1), if_pos h2, if_pos h2.symm, if_pos h3, wrap64]
        omega
      · simp only [if_neg h1, if_neg (Ne.symm h1), if_pos h2, if_pos h2.symm, if_neg h3, wrap64]
        omega
    · by_cases h3 : a = 9999
      · simp only [if_neg h1, if_neg (Ne.symm h1), if_neg h2, if_neg (Ne.symm h2), if_pos h3, wrap64]
        omega
      · simp only [if_neg h1, if_neg (Ne.symm h1), if_neg h2, if_neg (Ne.symm h2), if_neg h3]
        omega

end Go.Proofs.Ytlonjjliochbhaa

/- The contracts of sumOf, Expected, Open and Given: the program's. -/
namespace Go.Proofs.Ytlonjjliochbhaa
open Go.RowKit
set_option maxRecDepth 100000

theorem balV_at {a : Int} {c : Cs} : balV a c = (if (a == 9999) = true then wrap64 ((if (a == c.acq) = true then wrap64 ((if (a == c.iss) = true then wrap64 (0 - netC c) else 0) + netC c) else (if (a == c.iss) = true then wrap64 (0 - netC c) else 0)) + c.fee)
  else (if (a == c.acq) = true then wrap64 ((if (a == c.iss) = true then wrap64 (0 - netC c) else 0) + netC c) else (if (a == c.iss) = true then wrap64 (0 - netC c) else 0))) := by
  simp only [beq_iff_eq]; rfl
set_option maxHeartbeats 800000 in
theorem iNet_any (c : Cs) (w : World) : Calls Try.prog 18 #[cv c] w fun e w' => e = .returned (.int .i64 (netC c)) ∧ Below w.heap.size w w' := by
  obtain ⟨iss, acq, cur, am, st, rsn, cl, bk, fee, cop, sta, due⟩ := c
  unfold cv
  go_enter Try.func18, Try.ntmps18
  go_wp2
  go_ret
  exact ⟨rfl, by go_grown⟩
set_option maxHeartbeats 800000 in
theorem sNet_any (c : Cs) (w : World) : Calls Try.prog 14 #[cv c] w fun e w' => e = .returned (.int .i64 (netC c)) ∧ Below w.heap.size w w' := by
  obtain ⟨iss, acq, cur, am, st, rsn, cl, bk, fee, cop, sta, due⟩ := c
  unfold cv
  go_enter Try.func14, Try.ntmps14
  go_wp2
  go_ret
  exact ⟨rfl, by go_grown⟩
set_option maxHeartbeats 6400000 in
theorem bal_any (c : Cs) (a : Int) (w : World) : Calls Try.prog 13 #[cv c, .int .i64 a] w fun e w' => e = .returned (.int .i64 (balV a c)) ∧ Below w.heap.size w w' := by
  have HN : Hid (∀ u, Calls Try.prog 18 #[cv c] u fun e w' => e = .returned (.int .i64 (netC c)) ∧ Below u.heap.size u w') := fun u => iNet_any c u
  have HV : Hid _ := @balV_at a c
  obtain ⟨n, hn⟩ : ∃ n, netC c = n := ⟨_, rfl⟩
  rw [hn] at HN HV
  clear hn
  obtain ⟨iss, acq, cur, am, st, rsn, cl, bk, fee, cop, sta, due⟩ := c
  unfold cv at HN ⊢
  simp only at HN HV ⊢
  obtain ⟨V, hV⟩ : ∃ V, balV a ⟨iss, acq, cur, am, st, rsn, cl, bk, fee, cop, sta, due⟩ = V := ⟨_, rfl⟩
  rw [hV] at HV ⊢
  clear hV
  obtain ⟨U, hU⟩ : ∃ U, U = w.alloc (.cells #[.int .i64 iss, .int .i64 acq, .int .i64 cur, .int .i64 am, .int .i64 st, .int .i64 rsn, .int .i64 cl, .int .i64 bk, .int .i64 fee, .bool cop, .int .i64 sta, .int .i64 due] 37) := ⟨_, rfl⟩
  have bU : Below w.heap.size w U := by rw [hU]; exact (Below.refl _ _).alloc (Nat.le_refl _) _
  have hcU : CB w.heap.size 0 ⟨iss, acq, cur, am, st, rsn, cl, bk, fee, cop, sta, due⟩ U := by rw [hU]; exact CB.new w ⟨iss, acq, cur, am, st, rsn, cl, bk, fee, cop, sta, due⟩ _
  have HU : Hid _ := hU
  have HBU : Hid (Below w.heap.size w U) := bU
  have HC : Hid (CB w.heap.size 0 ⟨iss, acq, cur, am, st, rsn, cl, bk, fee, cop, sta, due⟩ U) := hcU
  clear hU bU
  obtain ⟨z0, z1, z2, z3, z4, z5, z6, z7, z8, z9, z10, z11⟩ := hcU
  simp only [Nat.zero_add] at z0 z1 z2 z3 z4 z5 z6 z7 z8 z9 z10 z11
  go_enter Try.func13, Try.ntmps13
  go_upto_region 2 with fail
  rw [← HU.out]
  clear HU
  cases h1 : (a == iss)
  · rw [h1] at HV
    cases h2 : (a == acq)
    · rw [h2] at HV
      cases h3 : (a == 9999)
      · rw [h3] at HV
        have HR : Hid _ := HV.out
        simp only [Bool.false_eq_true, if_false] at HR
        clear HV
        go_wp2
        go_ret
        exact ⟨one_int (by first | exact HR.out.symm | simpa using HR.out.symm), HBU.out⟩
      · rw [h3] at HV
        have HR : Hid _ := HV.out
        simp only [Bool.false_eq_true, if_false, if_true] at HR
        clear HV
        go_wp2
        go_ret
        exact ⟨one_int (by first | exact HR.out.symm | simpa using HR.out.symm), HBU.out⟩
    · rw [h2] at HV
      go_wp2_with fail
      refine (HN.out _).mono ?_
      rintro e w2 ⟨rfl, b2⟩
      have HB2 : Hid (Below w.heap.size w w2) := next HBU.out b2
      replace HC : Hid (CB w.heap.size 0 ⟨iss, acq, cur, am, st, rsn, cl, bk, fee, cop, sta, due⟩ w2) := HC.out.below b2
      clear b2 z0 z1 z2 z3 z4 z5 z6 z7 z8 z9 z10 z11
      obtain ⟨z0, z1, z2, z3, z4, z5, z6, z7, z8, z9, z10, z11⟩ := HC.out
      simp only [Nat.zero_add] at z0 z1 z2 z3 z4 z5 z6 z7 z8 z9 z10 z11
      cases h3 : (a == 9999)
      · rw [h3] at HV
        have HR : Hid _ := HV.out
        simp only [Bool.false_eq_true, if_false, if_true] at HR
        clear HV
        go_wp2
        go_ret
        exact ⟨one_int (by first | exact HR.out.symm | simpa using HR.out.symm), HB2.out⟩
      · rw [h3] at HV
        have HR : Hid _ := HV.out
        simp only [Bool.false_eq_true, if_false, if_true] at HR
        clear HV
        go_wp2
        go_ret
        exact ⟨one_int (by first | exact HR.out.symm | simpa using HR.out.symm), HB2.out⟩
  · rw [h1] at HV
    go_wp2_with fail
    refine (HN.out _).mono ?_
    rintro e w1 ⟨rfl, b1⟩
    have HB1 : Hid (Below w.heap.size w w1) := next HBU.out b1
    replace HC : Hid (CB w.heap.size 0 ⟨iss, acq, cur, am, st, rsn, cl, bk, fee, cop, sta, due⟩ w1) := HC.out.below b1
    clear b1 z0 z1 z2 z3 z4 z5 z6 z7 z8 z9 z10 z11
    obtain ⟨z0, z1, z2, z3, z4, z5, z6, z7, z8, z9, z10, z11⟩ := HC.out
    simp only [Nat.zero_add] at z0 z1 z2 z3 z4 z5 z6 z7 z8 z9 z10 z11
    cases h2 : (a == acq)
    · rw [h2] at HV
      cases h3 : (a == 9999)
      · rw [h3] at HV
        have HR : Hid _ := HV.out
        simp only [Bool.false_eq_true, if_false, if_true] at HR
        clear HV
        go_wp2
        go_ret
        exact ⟨one_int (by first | exact HR.out.symm | simpa using HR.out.symm), HB1.out⟩
      · rw [h3] at HV
        have HR : Hid _ := HV.out
        simp only [Bool.false_eq_true, if_false, if_true] at HR
        clear HV
        go_wp2
        go_ret
        exact ⟨one_int (by first | exact HR.out.symm | simpa using HR.out.symm), HB1.out⟩
    · rw [h2] at HV
      go_wp2_with fail
      refine (HN.out _).mono ?_
      rintro e w2 ⟨rfl, b2⟩
      have HB2 : Hid (Below w.heap.size w w2) := next HB1.out b2
      replace HC : Hid (CB w.heap.size 0 ⟨iss, acq, cur, am, st, rsn, cl, bk, fee, cop, sta, due⟩ w2) := HC.out.below b2
      clear b2 z0 z1 z2 z3 z4 z5 z6 z7 z8 z9 z10 z11
      obtain ⟨z0, z1, z2, z3, z4, z5, z6, z7, z8, z9, z10, z11⟩ := HC.out
      simp only [Nat.zero_add] at z0 z1 z2 z3 z4 z5 z6 z7 z8 z9 z10 z11
      cases h3 : (a == 9999)
      · rw [h3] at HV
        have HR : Hid _ := HV.out
        simp only [Bool.false_eq_true, if_false, if_true] at HR
        clear HV
        go_wp2
        go_ret
        exact ⟨one_int (by first | exact HR.out.symm | simpa using HR.out.symm), HB2.out⟩
      · rw [h3] at HV
        have HR : Hid _ := HV.out
        simp only [if_true] at HR
        clear HV
        go_wp2
        go_ret
        exact ⟨one_int (by first | exact HR.out.symm | simpa using HR.out.symm), HB2.out⟩
set_option maxHeartbeats 1600000 in
theorem toldExpected_any (c : Cs) (g : Nat) (ac : Int) (w : World) (hc : w.cell? ⟨g, 0, none⟩ = some (.int .i64 ac)) :
    Calls Try.prog 12 #[cv c, .pointer (some ⟨g, 0, none⟩)] w fun e w' => e = .returned (.int .i64 (balV ac c)) ∧ Below w.heap.size w w' := by
  have hg : g < w.heap.size := World.block_lt_of_cell? w _ hc
  have HN : Hid (∀ u, Calls Try.prog 13 #[cv c, .int .i64 ac] u fun e w' => e = .returned (.int .i64 (balV ac c)) ∧ Below u.heap.size u w') := fun u => bal_any c ac u
  obtain ⟨V, hV⟩ : ∃ V, balV ac c = V := ⟨_, rfl⟩
  rw [hV] at HN ⊢
  clear hV
  obtain ⟨iss, acq, cur, am, st, rsn, cl, bk, fee, cop, sta, due⟩ := c
  unfold cv at HN ⊢
  simp only at HN ⊢
  obtain ⟨U, hU⟩ : ∃ U, U = w.alloc (.cells #[.int .i64 iss, .int .i64 acq, .int .i64 cur, .int .i64 am, .int .i64 st, .int .i64 rsn, .int .i64 cl, .int .i64 bk, .int .i64 fee, .bool cop, .int .i64 sta, .int .i64 due] 37) := ⟨_, rfl⟩
  have bU : Below w.heap.size w U := by rw [hU]; exact (Below.refl _ _).alloc (Nat.le_refl _) _
  have hcU : CB w.heap.size 0 ⟨iss, acq, cur, am, st, rsn, cl, bk, fee, cop, sta, due⟩ U := by rw [hU]; exact CB.new w ⟨iss, acq, cur, am, st, rsn, cl, bk, fee, cop, sta, due⟩ _
  have HU : Hid _ := hU
  have hgU : U.cell? ⟨g, 0, none⟩ = some (.int .i64 ac) := (bU.cell (p := ⟨g, 0, none⟩) hg).trans hc
  have HBU : Hid (Below w.heap.size w U) := bU
  clear hU bU hc
  obtain ⟨z0, z1, z2, z3, z4, z5, z6, z7, z8, z9, z10, z11⟩ := hcU
  simp only [Nat.zero_add] at z0 z1 z2 z3 z4 z5 z6 z7 z8 z9 z10 z11
  go_enter Try.func12, Try.ntmps12
  go_upto_region 1 with fail
  rw [← HU.out]
  clear HU
  go_wp2_with fail
  refine (HN.out _).mono ?_
  rintro e w1 ⟨rfl, b1⟩
  have HB1 : Hid (Below w.heap.size w w1) := next HBU.out b1
  clear b1 z0 z1 z2 z3 z4 z5 z6 z7 z8 z9 z10 z11 hgU
  go_wp2
  go_ret
  exact ⟨rfl, HB1.out⟩
set_option maxHeartbeats 6400000 in
theorem sumOfExpected_any (ao : Option Addr) (cap : Nat) (cs : List Cs) (x : Int) (g : Nat) (ac : Int) (w : World) (hz : CasesAt w ao cs) (hn : cs.length ≤ 1048576) (hc : w.cell? ⟨g, 0, none⟩ = some (.int .i64 ac)) :
    Calls Try.prog 11 #[.slice ao cs.length cap, .int .i64 x, .func (.func 12) #[] #[.pointer (some ⟨g, 0, none⟩)]] w fun e w' => e = .returned (.int .i64 (sumV (curP x) (balV ac) cs)) ∧ Below w.heap.size w w' := by
  have HX : Hid (CasesAt w ao cs) := hz
  have HG : Hid (∀ u, Below w.heap.size w u → u.cell? ⟨g, 0, none⟩ = some (.int .i64 ac)) := fun u h => (h.cell (p := ⟨g, 0, none⟩) (World.block_lt_of_cell? w _ hc)).trans hc
  clear hc
  clear hz
  go_enter Try.func11, Try.ntmps11
  go_wp2
  go_loopw [7, 12] (fun s i wr => ∃ k : Nat, k ≤ cs.length ∧ i = .int .i64 k ∧ s = .int .i64 (sumV (curP x) (balV ac) (cs.take k)) ∧ Below w.heap.size w wr) (fun _ i _ => cs.length - (intOf i).toNat)
  case atStart => exact ⟨0, Nat.zero_le _, rfl, rfl, Below.refl _ _⟩
  case round =>
    obtain ⟨k, hk, rfl, rfl, hbr⟩ := hrel
    have HBR : Hid (Below w.heap.size w wr) := hbr
    by_cases hlt : k < cs.length
    · have hki : (k : Int) < (cs.length : Int) := by omega
      obtain ⟨cb, off, rfl, hb2, hcb⟩ := (HX.out.below hbr).at hlt
      have HIN : Hid _ := @sumV_in (curP x) (balV ac) cs k hlt
      have HOUT : Hid _ := @sumV_out (curP x) (balV ac) cs k hlt
      obtain ⟨⟨iss, acq, cur, am, st, rsn, cl, bk, fee, cop, sta, due⟩, hc⟩ : ∃ f, csAt cs k = f := ⟨_, rfl⟩
      rw [hc] at hcb HIN HOUT
      obtain ⟨y0, y1, y2, y3, y4, y5, y6, y7, y8, y9, y10, y11⟩ := hcb
      simp only at y0 y1 y2 y3 y4 y5 y6 y7 y8 y9 y10 y11
      obtain ⟨S, hS⟩ : ∃ S, sumV (curP x) (balV ac) (cs.take k) = S := ⟨_, rfl⟩
      rw [hS] at HIN HOUT ⊢
      obtain ⟨B, hB⟩ : ∃ B, (balV ac) ⟨iss, acq, cur, am, st, rsn, cl, bk, fee, cop, sta, due⟩ = B := ⟨_, rfl⟩
      rw [hB] at HIN
      clear hc hS hbr hb2
      obtain ⟨U, hU⟩ : ∃ U, U = wr.alloc (.cells #[.int .i64 iss, .int .i64 acq, .int .i64 cur, .int .i64 am, .int .i64 st, .int .i64 rsn, .int .i64 cl, .int .i64 bk, .int .i64 fee, .bool cop, .int .i64 sta, .int .i64 due] 37) := ⟨_, rfl⟩
      have bU : Below wr.heap.size wr U := by rw [hU]; exact (Below.refl _ _).alloc (Nat.le_refl _) _
      have hcU : CB wr.heap.size 0 ⟨iss, acq, cur, am, st, rsn, cl, bk, fee, cop, sta, due⟩ U := by rw [hU]; exact CB.new wr ⟨iss, acq, cur, am, st, rsn, cl, bk, fee, cop, sta, due⟩ _
      have HB1 : Hid (Below w.heap.size w U) := next HBR.out bU
      have HFN : Hid (Calls Try.prog 12 #[.agg #[.int .i64 iss, .int .i64 acq, .int .i64 cur, .int .i64 am, .int .i64 st, .int .i64 rsn, .int .i64 cl, .int .i64 bk, .int .i64 fee, .bool cop, .int .i64 sta, .int .i64 due], .pointer (some ⟨g, 0, none⟩)] U fun e w' => e = .returned (.int .i64 B) ∧ Below U.heap.size U w') := by
        have := toldExpected_any ⟨iss, acq, cur, am, st, rsn, cl, bk, fee, cop, sta, due⟩ g ac U (HG.out _ HB1.out)
        rw [hB] at this
        exact this
      go_upto_region 5 with fail
      rw [← hU]
      clear hU bU HBR y0 y1 y2 y3 y4 y5 y6 y7 y8 y9 y10 y11 hB
      obtain ⟨z0, z1, z2, z3, z4, z5, z6, z7, z8, z9, z10, z11⟩ := hcU
      simp only [Nat.zero_add] at z0 z1 z2 z3 z4 z5 z6 z7 z8 z9 z10 z11
      by_cases h1 : cur = x
      · have h1' : (cur == x) = true := by simpa using h1
        have HV : Hid (sumV (curP x) (balV ac) (cs.take (k + 1)) = IntKind.i64.wrap (S + B)) := HIN.out h1'
        obtain ⟨T, hT⟩ : ∃ T, IntKind.i64.wrap (S + B) = T := ⟨_, rfl⟩
        rw [hT] at HV
        clear HIN HOUT h1
        go_wp2_with fail
        refine HFN.out.mono ?_
        rintro e w2 ⟨rfl, b2⟩
        have HB2 : Hid (Below w.heap.size w w2) := next HB1.out b2
        clear b2 HFN HB1 z0 z1 z2 z3 z4 z5 z6 z7 z8 z9 z10 z11
        go_wp2
        go_roundw
        case rel => exact ⟨k + 1, by omega, by go_num, by rw [HV.out], HB2.out⟩
        case measure => simp [intOf]; omega
      · have h1' : (cur == x) = false := by simpa using h1
        have HV : Hid (sumV (curP x) (balV ac) (cs.take (k + 1)) = S) := HOUT.out h1'
        clear HIN HOUT h1 HFN
        go_wp2
        go_roundw
        case rel => exact ⟨k + 1, by omega, by go_num, by rw [HV.out], HB1.out⟩
        case measure => simp [intOf]; omega
    · have hke : k = cs.length := by omega
      subst hke
      have hki : ¬ (cs.length : Int) < (cs.length : Int) := by omega
      rw [List.take_length]
      obtain ⟨S, hS⟩ : ∃ S, sumV (curP x) (balV ac) cs = S := ⟨_, rfl⟩
      rw [hS]
      have HV : Hid _ := hS
      clear hS hbr
      go_wp2
      go_ret
      exact ⟨one_int HV.out.symm, HBR.out⟩

end Go.Proofs.Ytlonjjliochbhaa

/- The contracts of Expected, Open and Given: the program's. -/
namespace Go.Proofs.Ytlonjjliochbhaa
open Go.RowKit
set_option maxRecDepth 100000

theorem one_C (c : Cs) : ∀ u ∈ (ccs c).toList, u.oneCell' = true := by
  have h := cscells_one [c]
  simpa [cscells] using h
theorem take_filterC (cs : List Cs) (P : Cs → Bool) (k : Nat) (h : k < cs.length) : (cs.take (k + 1)).filter P = if P (csAt cs k) = true then (cs.take k).filter P ++ [csAt cs k] else (cs.take k).filter P := by
  rw [take_csAt cs k h, List.filter_append]
  cases hp : P (csAt cs k) <;> simp [hp]
theorem keepC_in {P : Cs → Bool} {cs : List Cs} {k : Nat} (h : k < cs.length) (hp : P (csAt cs k) = true) : (cs.take (k + 1)).filter P = (cs.take k).filter P ++ [csAt cs k] := by rw [take_filterC cs P k h, if_pos hp]
theorem keepC_out {P : Cs → Bool} {cs : List Cs} {k : Nat} (h : k < cs.length) (hp : P (csAt cs k) = false) : (cs.take (k + 1)).filter P = (cs.take k).filter P := by rw [take_filterC cs P k h, if_neg (by rw [hp]; decide)]
theorem keepC_le (cs : List Cs) (P : Cs → Bool) (k : Nat) : ((cs.take k).filter P).length ≤ cs.length := Nat.le_trans (List.length_filter_le _ _) (by simp; omega)
theorem own_shapeC {u : World} {base n : Nat} {v : Value} {xs : List Value} (h : u.ownsRow base 37 12 v n xs) : ∃ a k, v = .slice a n k := by
  rcases h.2 with ⟨rfl, rfl⟩ | ⟨g, cap, cur, rfl, -⟩
  · exact ⟨none, 0, rfl⟩
  · exact ⟨_, _, rfl⟩
set_option maxHeartbeats 1600000 in
theorem iExpected_any (b : Bk) (p : Bp) (av x : Int) (w : World) (hx : BookAt w b p) (hn : bkSm b) :
    Calls Try.prog 6 #[bkv b p, .int .i64 av, .int .i64 x] w fun e w' => e = .returned (.int .i64 (sumV (curP x) (balV av) b.cs)) ∧ Below w.heap.size w w' := by
  obtain ⟨W, hW⟩ : ∃ W, W = (w.alloc (.cells #[.int .i64 b.today, .slice p.o b.off.length p.oc, .slice p.a b.az.length p.ac, .slice p.c b.cs.length p.cc, .slice p.l b.ls.length p.lc, .slice p.g b.log.length p.gc] 32)).alloc (.cells #[.int .i64 av] 3) := ⟨_, rfl⟩
  have bW : Below w.heap.size w W := by rw [hW]; go_grown
  have s6 : S6 w.heap.size b p W := by rw [hW]; exact (S6.new w b p _).below ((Below.refl _ _).alloc (Nat.le_refl _) _)
  have HCL : Hid (W.cell? ⟨w.heap.size + 1, 0, none⟩ = some (.int .i64 av)) := by rw [Hid, hW]; simp
  have HX : Hid (CasesAt W p.c b.cs) := hx.cs.below bW
  have hcn := hn.2.2.1
  have HW : Hid _ := hW
  have HBW : Hid (Below w.heap.size w W) := bW
  clear hx hn hW bW
  obtain ⟨td, fo, az, cs, ls, lg⟩ := b
  obtain ⟨o, oc, a, ac, c, cc, l, lc, g, gc⟩ := p
  unfold bkv
  simp only at HW HX hcn s6 ⊢
  obtain ⟨x0, x1, x2, x3, x4, x5⟩ := s6
  simp only at x0 x1 x2 x3 x4 x5
  go_enter Try.func6, Try.ntmps6
  go_upto_region 1 with fail
  rw [← HW.out]
  clear HW
  go_wp2_with fail
  refine (sumOfExpected_any _ _ _ _ _ _ _ HX.out hcn HCL.out).mono ?_
  rintro e w1 ⟨rfl, b1⟩
  have HB1 : Hid (Below w.heap.size w w1) := next HBW.out b1
  clear b1 x0 x1 x2 x3 x4 x5
  go_wp2
  go_ret
  exact ⟨rfl, HB1.out⟩

end Go.Proofs.Ytlonjjliochbhaa

/- The contracts of Expected, Open and Given: the specification's. -/
namespace Go.Proofs.Ytlonjjliochbhaa
open Go.RowKit
set_option maxRecDepth 100000

theorem expV_at {a s : Int} {c : Cs} : expV a s c = (if (a == 9999) = true then wrap64 ((if (c.acq == a) = true then wrap64 ((if (c.iss == a) = true then wrap64 (s - netC c) else s) + netC c) else (if (c.iss == a) = true then wrap64 (s - netC c) else s)) + c.fee)
  else (if (c.acq == a) = true then wrap64 ((if (c.iss == a) = true then wrap64 (s - netC c) else s) + netC c) else (if (c.iss == a) = true then wrap64 (s - netC c) else s))) := by
  simp only [beq_iff_eq]; rfl
theorem expIn {x a : Int} {cs : List Cs} {k : Nat} (h : k < cs.length) (hp : curP x (csAt cs k) = true) : sumV (curP x) (balV a) (cs.take (k + 1)) = expV a (sumV (curP x) (balV a) (cs.take k)) (csAt cs k) := by
  rw [sumV_in h hp, expV_is _ _ _ (sumV_bd _ _ _)]
theorem one_intV {a b : Int} (h : a = b) : Value.int .i64 a = Value.int .i64 b := by rw [h]
set_option maxHeartbeats 6400000 in
theorem sExpected_any (b : Bk) (p : Bp) (av : Int) (x : Int) (w : World) (hx : BookAt w b p) (hn : bkSm b) :
    Calls Try.prog 7 #[bkv b p, .int .i64 av, .int .i64 x] w fun e w' => e = .returned (.int .i64 (sumV (curP x) (balV av) b.cs)) ∧ Below w.heap.size w w' := by
  obtain ⟨W, hW⟩ : ∃ W, W = w.alloc (.cells #[.int .i64 b.today, .slice p.o b.off.length p.oc, .slice p.a b.az.length p.ac, .slice p.c b.cs.length p.cc, .slice p.l b.ls.length p.lc, .slice p.g b.log.length p.gc] 32) := ⟨_, rfl⟩
  have bW : Below w.heap.size w W := by rw [hW]; exact (Below.refl _ _).alloc (Nat.le_refl _) _
  have s6 : S6 w.heap.size b p W := by rw [hW]; exact S6.new w b p _
  have HX : Hid (CasesAt W p.c b.cs) := hx.cs.below bW
  have hcn := hn.2.2.1
  have HW : Hid _ := hW
  have HBW : Hid (Below w.heap.size w W) := bW
  clear hx hn hW bW
  obtain ⟨td, fo, az, cs, ls, lg⟩ := b
  obtain ⟨o, oc, a, ac, c, cc, l, lc, g, gc⟩ := p
  unfold bkv
  simp only at HW HX hcn s6 ⊢
  have HS : Hid _ := s6
  clear s6
  go_enter Try.func7, Try.ntmps7
  go_upto_region 2 with fail
  rw [← HW.out]
  clear HW
  go_wp2_with fail
  go_loopw [7, 8] (fun s i wr => ∃ k : Nat, k ≤ cs.length ∧ i = .int .i64 (k : Int) ∧ s = .int .i64 (sumV (curP x) (balV av) (cs.take k)) ∧ Below W.heap.size W wr) (fun _ i _ => cs.length - (intOf i).toNat)
  case atStart => exact ⟨0, Nat.zero_le _, rfl, rfl, Below.refl _ _⟩
  case round =>
    obtain ⟨k, hk, rfl, rfl, hbr⟩ := hrel
    have HBR : Hid (Below W.heap.size W wr) := hbr
    have hs6 := HS.out.below hbr
    obtain ⟨x0, x1, x2, x3, x4, x5⟩ := hs6
    simp only at x0 x1 x2 x3 x4 x5
    by_cases hlt : k < cs.length
    · have hki : (k : Int) < (cs.length : Int) := by omega
      obtain ⟨cb, off, rfl, hb2, hcb⟩ := (HX.out.below hbr).at hlt
      have HIN : Hid _ := @expIn x av cs k hlt
      have HOUT : Hid _ := @sumV_out (curP x) (balV av) cs k hlt
      obtain ⟨⟨iss, acq, cur, am, st, rsn, cl, bk, fee, cop, sta, due⟩, hc⟩ : ∃ f, csAt cs k = f := ⟨_, rfl⟩
      rw [hc] at hcb HIN HOUT
      obtain ⟨y0, y1, y2, y3, y4, y5, y6, y7, y8, y9, y10, y11⟩ := hcb
      simp only at y0 y1 y2 y3 y4 y5 y6 y7 y8 y9 y10 y11
      obtain ⟨S, hS⟩ : ∃ S, sumV (curP x) (balV av) (cs.take k) = S := ⟨_, rfl⟩
      rw [hS] at HIN HOUT ⊢
      clear hc hS hbr hb2
      have HN : Hid (∀ u, Calls Try.prog 14 #[cv ⟨iss, acq, cur, am, st, rsn, cl, bk, fee, cop, sta, due⟩] u fun e w' => e = .returned (.int .i64 (netC ⟨iss, acq, cur, am, st, rsn, cl, bk, fee, cop, sta, due⟩)) ∧ Below u.heap.size u w') := fun u => sNet_any ⟨iss, acq, cur, am, st, rsn, cl, bk, fee, cop, sta, due⟩ u
      obtain ⟨U, hU⟩ : ∃ U, U = wr.alloc (.cells #[.int .i64 iss, .int .i64 acq, .int .i64 cur, .int .i64 am, .int .i64 st, .int .i64 rsn, .int .i64 cl, .int .i64 bk, .int .i64 fee, .bool cop, .int .i64 sta, .int .i64 due] 37) := ⟨_, rfl⟩
      have bU : Below wr.heap.size wr U := by rw [hU]; exact (Below.refl _ _).alloc (Nat.le_refl _) _
      have hcU : CB wr.heap.size 0 ⟨iss, acq, cur, am, st, rsn, cl, bk, fee, cop, sta, due⟩ U := by rw [hU]; exact CB.new wr ⟨iss, acq, cur, am, st, rsn, cl, bk, fee, cop, sta, due⟩ _
      have HBU : Hid (Below W.heap.size W U) := next HBR.out bU
      have HC : Hid (CB wr.heap.size 0 ⟨iss, acq, cur, am, st, rsn, cl, bk, fee, cop, sta, due⟩ U) := hcU
      go_upto_region 6 with fail
      rw [← hU]
      clear hU bU HBR y0 y1 y2 y3 y4 y5 y6 y7 y8 y9 y10 y11 x0 x1 x2 x3 x4 x5
      obtain ⟨z0, z1, z2, z3, z4, z5, z6, z7, z8, z9, z10, z11⟩ := hcU
      simp only [Nat.zero_add] at z0 z1 z2 z3 z4 z5 z6 z7 z8 z9 z10 z11
      cases h1 : (cur == x)
      · have h1' : (cur != x) = true := by simp [bne, h1]
        have HV : Hid _ := HOUT.out h1
        clear HIN HOUT h1 HN HC
        go_wp2
        go_roundw
        case rel => exact ⟨k + 1, by omega, by go_num, by rw [HV.out], HBU.out⟩
        case measure => simp [intOf]; omega
      · have h1' : (cur != x) = false := by simp [bne, h1]
        have HV : Hid _ := (HIN.out h1).trans expV_at
        obtain ⟨n, hn⟩ : ∃ n, netC ⟨iss, acq, cur, am, st, rsn, cl, bk, fee, cop, sta, due⟩ = n := ⟨_, rfl⟩
        rw [hn] at HN HV
        obtain ⟨V, hVV⟩ : ∃ V, sumV (curP x) (balV av) (cs.take (k + 1)) = V := ⟨_, rfl⟩
        have HVV : Hid _ := hVV
        rw [hVV] at HV
        unfold cv at HN
        simp only at HN HV
        clear HIN HOUT h1 hn hVV
        cases h1 : (iss == av)
        · rw [h1] at HV
          cases h2 : (acq == av)
          · rw [h2] at HV
            cases h3 : (av == 9999)
            · rw [h3] at HV
              have HR : Hid _ := HV.out
              simp only [Bool.false_eq_true, if_false] at HR
              clear HV
              go_wp2
              go_roundw
              case rel => exact ⟨k + 1, by omega, by go_num, by rw [HVV.out]; exact one_intV (by first | exact HR.out.symm | simpa using HR.out.symm), HBU.out⟩
              case measure => simp [intOf]; omega
            · rw [h3] at HV
              have HR : Hid _ := HV.out
              simp only [Bool.false_eq_true, if_false, if_true] at HR
              clear HV
              go_wp2
              go_roundw
              case rel => exact ⟨k + 1, by omega, by go_num, by rw [HVV.out]; exact one_intV (by first | exact HR.out.symm | simpa using HR.out.symm), HBU.out⟩
              case measure => simp [intOf]; omega
          · rw [h2] at HV
            go_wp2_with fail
            refine (HN.out _).mono ?_
            rintro e w2 ⟨rfl, b2⟩
            have HB2 : Hid (Below W.heap.size W w2) := next HBU.out b2
            replace HC : Hid (CB wr.heap.size 0 ⟨iss, acq, cur, am, st, rsn, cl, bk, fee, cop, sta, due⟩ w2) := HC.out.below b2
            clear b2 z0 z1 z2 z3 z4 z5 z6 z7 z8 z9 z10 z11
            obtain ⟨z0, z1, z2, z3, z4, z5, z6, z7, z8, z9, z10, z11⟩ := HC.out
            simp only [Nat.zero_add] at z0 z1 z2 z3 z4 z5 z6 z7 z8 z9 z10 z11
            cases h3 : (av == 9999)
            · rw [h3] at HV
              have HR : Hid _ := HV.out
              simp only [Bool.false_eq_true, if_false, if_true] at HR
              clear HV
              go_wp2
              go_roundw
              case rel => exact ⟨k + 1, by omega, by go_num, by rw [HVV.out]; exact one_intV (by first | exact HR.out.symm | simpa using HR.out.symm), HB2.out⟩
              case measure => simp [intOf]; omega
            · rw [h3] at HV
              have HR : Hid _ := HV.out
              simp only [Bool.false_eq_true, if_false, if_true] at HR
              clear HV
              go_wp2
              go_roundw
              case rel => exact ⟨k + 1, by omega, by go_num, by rw [HVV.out]; exact one_intV (by first | exact HR.out.symm | simpa using HR.out.symm), HB2.out⟩
              case measure => simp [intOf]; omega
        · rw [h1] at HV
          go_wp2_with fail
          refine (HN.out _).mono ?_
          rintro e w1 ⟨rfl, b1⟩
          have HB1 : Hid (Below W.heap.size W w1) := next HBU.out b1
          replace HC : Hid (CB wr.heap.size 0 ⟨iss, acq, cur, am, st, rsn, cl, bk, fee, cop, sta, due⟩ w1) := HC.out.below b1
          clear b1 z0 z1 z2 z3 z4 z5 z6 z7 z8 z9 z10 z11
          obtain ⟨z0, z1, z2, z3, z4, z5, z6, z7, z8, z9, z10, z11⟩ := HC.out
          simp only [Nat.zero_add] at z0 z1 z2 z3 z4 z5 z6 z7 z8 z9 z10 z11
          cases h2 : (acq == av)
          · rw [h2] at HV
            cases h3 : (av == 9999)
            · rw [h3] at HV
              have HR : Hid _ := HV.out
              simp only [Bool.false_eq_true, if_false, if_true] at HR
              clear HV
              go_wp2
              go_roundw
              case rel => exact ⟨k + 1, by omega, by go_num, by rw [HVV.out]; exact one_intV (by first | exact HR.out.symm | simpa using HR.out.symm), HB1.out⟩
              case measure => simp [intOf]; omega
            · rw [h3] at HV
              have HR : Hid _ := HV.out
              simp only [Bool.false_eq_true, if_false, if_true] at HR
              clear HV
              go_wp2
              go_roundw
              case rel => exact ⟨k + 1, by omega, by go_num, by rw [HVV.out]; exact one_intV (by first | exact HR.out.symm | simpa using HR.out.symm), HB1.out⟩
              case measure => simp [intOf]; omega
          · rw [h2] at HV
            go_wp2_with fail
            refine (HN.out _).mono ?_
            rintro e w2 ⟨rfl, b2⟩
            have HB2 : Hid (Below W.heap.size W w2) := next HB1.out b2
            replace HC : Hid (CB wr.heap.size 0 ⟨iss, acq, cur, am, st, rsn, cl, bk, fee, cop, sta, due⟩ w2) := HC.out.below b2
            clear b2 z0 z1 z2 z3 z4 z5 z6 z7 z8 z9 z10 z11
            obtain ⟨z0, z1, z2, z3, z4, z5, z6, z7, z8, z9, z10, z11⟩ := HC.out
            simp only [Nat.zero_add] at z0 z1 z2 z3 z4 z5 z6 z7 z8 z9 z10 z11
            cases h3 : (av == 9999)
            · rw [h3] at HV
              have HR : Hid _ := HV.out
              simp only [Bool.false_eq_true, if_false, if_true] at HR
              clear HV
              go_wp2
              go_roundw
              case rel => exact ⟨k + 1, by omega, by go_num, by rw [HVV.out]; exact one_intV (by first | exact HR.out.symm | simpa using HR.out.symm), HB2.out⟩
              case measure => simp [intOf]; omega
            · rw [h3] at HV
              have HR : Hid _ := HV.out
              simp only [if_true] at HR
              clear HV
              go_wp2
              go_roundw
              case rel => exact ⟨k + 1, by omega, by go_num, by rw [HVV.out]; exact one_intV (by first | exact HR.out.symm | simpa using HR.out.symm), HB2.out⟩
              case measure => simp [intOf]; omega
    · have hke : k = cs.length := by omega
      subst hke
      have hki : ¬ (cs.length : Int) < (cs.length : Int) := by omega
      rw [List.take_length]
      obtain ⟨S, hS⟩ : ∃ S, sumV (curP x) (balV av) cs = S := ⟨_, rfl⟩
      rw [hS]
      have HV : Hid _ := hS
      have HBB : Hid (Below w.heap.size w wr) := next HBW.out HBR.out
      clear hS hbr HBR
      go_wp2
      go_ret
      exact ⟨one_int HV.out.symm, HBB.out⟩

end Go.Proofs.Ytlonjjliochbhaa
