/- Joined: Aid, Base, Cal, Leaf, DLeaf, Ints, IntsOwn, Cur, LedP, Lns, LnLaw, LnLaw2, EnLaw, CaseP, CVal, FLed, SLed, Days, RLate, CLaw, EnMark, RStep, SVars, Over. -/
import Derived.Test.YtenbhmmknejcjaaDoorProg
import Derived.WalkKit
import Derived.WalkLawsBesides
import Derived.Deep.QuietTactic
import Derived.BigQuiet
import Derived.WalkSmall
import Derived.OwnWalk
import Derived.Test.YtenbhmmknejcjaaDoorRows
import Derived.ProofKit
import Derived.OpenShut
import Derived.ShutString
import Derived.ChangeOld
import Derived.Below
import Init
import Derived.Maps.AppendAt
import Derived.Maps.OwnSet
import Derived.Maps.OwnOps
import Derived.Outline
import Derived.Deep.SlicePairs
import Derived.Deep.Strs
import Derived.Lib.SmallJoins
import Derived.Lib.AppendZeros
import Derived.Deep.AppendLies
import Derived.Deep.RegionWith
import Derived.Handy
import Derived.Deep.RegionHeld3
import Derived.Lib.LaidTab
import Derived.Lib.AppendIntMem
import Derived.Test.YtenbhmmknejcjaaDoorCards
import Derived.Test.YtenbhmmknejcjaaDoorTie
import Derived.LaidMore
import Derived.Deep.DeepHandedRow
import Derived.JoinedCond
import Derived.Lay
import Derived.SevenTiedAt
import Derived.Stop.Joined
import Derived.Stop.LaidErr
import Derived.ChangeVars
/- Small steps that many walks end with. -/
namespace Go.Proofs.YtenbhmmknejcjaaDoor
open Go.RowKit

theorem next {w w1 w2 : World} (h : Below w.heap.size w w1) (k : Below w1.heap.size w1 w2) : Below w.heap.size w w2 := h.trans (k.mono h.size)
theorem two_eq {k : IntKind} {a b : Int} {x y : Bool} (h : a = b) (g : x = y) : Ending.returned (.tuple #[.int k a, .bool x]) = .returned (.tuple #[.int k b, .bool y]) := by rw [h, g]
theorem two_ints {k : IntKind} {a b x y : Int} (h : a = b) (g : x = y) : Ending.returned (.tuple #[.int k a, .int k x]) = .returned (.tuple #[.int k b, .int k y]) := by rw [h, g]
theorem one_int {k : IntKind} {a b : Int} (h : a = b) : Ending.returned (.int k a) = .returned (.int k b) := by rw [h]
theorem one_bool {a b : Bool} (h : a = b) : Ending.returned (.bool a) = .returned (.bool b) := by rw [h]
theorem one_str {a b : ByteArray} (h : a = b) : Ending.returned (.string a) = .returned (.string b) := by rw [h]

end Go.Proofs.YtenbhmmknejcjaaDoor

/- What every law's last step uses: closed facts of the program, and what a slice of integers that came in reads as. -/
namespace Go.Proofs.YtenbhmmknejcjaaDoor
open Go.ChangeShapes Go.WideShapes Go.ChangeAt Go.RowKit

theorem own : ownKnob Tryd.prog.godebug = none := by kernel_rfl
theorem laidOut : laidOutB Tryd.prog = true := by kernel_rfl

/-- A slice of integers that came in: nil, or a row of 'cap' cells that hold the numbers 'zs', each fitting its kind; the first 'len' are its elements. -/
def IsRow (k : IntKind) (w : World) (a : Option Addr) (len cap : Nat) (zs : List Int) : Prop :=
  (a = none ∧ len = 0 ∧ cap = 0 ∧ zs = []) ∨
  ∃ x, a = some x ∧ len ≤ cap ∧ cap ≤ maxLen ∧ zs.length = cap ∧ (∀ i, i < zs.length → w.cell? (x.add i) = some (.int k (zs.getD i 0))) ∧ ∀ n ∈ zs, (Lit.int k n).wf = true

theorem is_row {H : Type} {enc : TypeId × Value → H} {W : World} {t e : TypeId} {k : IntKind} {a : Option Addr} {len cap : Nat} {d : DataW H} {p : List MemPlace}
    (ht : Tryd.prog.underlying t = some (.slice e)) (he : Tryd.prog.underlying e = some (.int k)) (hc : Tryd.prog.cellsOf e = 1)
    (h : DataW.Trod enc Tryd.prog W 0 (fun _ => true) true t (Value.slice a len cap) d p) : ∃ zs, IsRow k W a len cap zs := by
  obtain ⟨fuel, hf⟩ := h
  rcases open_ints ht he hc hf with ⟨hcs, _⟩ | ⟨x, l, c, zs, hcs, _, hl, hm, hz, _, hcell, hwz⟩
  · simp [Value.cells] at hcs
    obtain ⟨rfl, rfl, rfl⟩ := hcs
    exact ⟨[], .inl ⟨rfl, rfl, rfl, rfl⟩⟩
  · simp [Value.cells] at hcs
    obtain ⟨rfl, rfl, rfl⟩ := hcs
    exact ⟨zs, .inr ⟨_, rfl, hl, hm, by simpa using hz, hcell, hwz⟩⟩

end Go.Proofs.YtenbhmmknejcjaaDoor

/- Plain arithmetic on the calendar: no Go in sight. -/
namespace Go.Proofs.YtenbhmmknejcjaaDoor

def leap (y : Int) : Bool := decide (y % 4 = 0 ∧ (y % 100 ≠ 0 ∨ y % 400 = 0))
/-- how many days year y has -/
def ylen (y : Int) : Int := if leap y then 366 else 365
/-- how many days there are in the years 1 .. y - 1 -/
def ahead (y : Int) : Int := 365 * (y - 1) + (y - 1) / 4 - (y - 1) / 100 + (y - 1) / 400
/-- the day of January 1st of year y -/
def ystart (y : Int) : Int := ahead y - 730119
def mdays : List Int := [31, 28, 31, 30, 31, 30, 31, 31, 30, 31, 30, 31]
/-- how many days month k + 1 of year y has -/
def mlen (y : Int) (k : Nat) : Int := if k = 1 ∧ leap y = true then 29 else mdays.getD k 0
/-- how many days there are in year y ahead of month k + 1 -/
def msum (y : Int) : Nat → Int
  | 0 => 0
  | k + 1 => msum y k + mlen y k

theorem leap_yes {y : Int} (h1 : y % 4 = 0) (h2 : y % 100 ≠ 0 ∨ y % 400 = 0) : leap y = true := by simp [leap]; exact ⟨h1, h2⟩
theorem leap_no {y : Int} (h : y % 4 ≠ 0 ∨ (y % 100 = 0 ∧ y % 400 ≠ 0)) : leap y = false := by simp [leap]; omega
theorem leap_cases (y : Int) : (leap y = true ∧ y % 4 = 0 ∧ (y % 100 ≠ 0 ∨ y % 400 = 0)) ∨ (leap y = false ∧ (y % 4 ≠ 0 ∨ (y % 100 = 0 ∧ y % 400 ≠ 0))) := by
  by_cases h : y % 4 = 0 ∧ (y % 100 ≠ 0 ∨ y % 400 = 0)
  · exact .inl ⟨leap_yes h.1 h.2, h.1, h.2⟩
  · exact .inr ⟨leap_no (by omega), by omega⟩

theorem ahead_next (y : Int) : ahead (y + 1) = ahead y + ylen y := by
  unfold ahead ylen
  rcases leap_cases y with ⟨h, h1, h2⟩ | ⟨h, h1⟩
  · rw [if_pos h]; omega
  · rw [h, if_neg (by decide)]; omega
theorem ystart_next (y : Int) : ystart (y + 1) = ystart y + ylen y := by unfold ystart; rw [ahead_next]; omega
theorem ylen_bd (y : Int) : 365 ≤ ylen y ∧ ylen y ≤ 366 := by unfold ylen; split <;> omega
theorem ahead_mono {y z : Int} (h : y ≤ z) : ahead y ≤ ahead z := by unfold ahead; omega
theorem ystart_mono {y z : Int} (h : y ≤ z) : ystart y ≤ ystart z := by have := ahead_mono h; unfold ystart; omega
theorem ystart_2000 : ystart 2000 = 0 := by decide
theorem ystart_guess (q : Int) (h : 0 ≤ q) : ystart (2000 + q) ≤ 366 * q := by unfold ystart ahead; omega
theorem ystart_up {y : Int} (h : 2000 ≤ y) : 365 * (y - 2000) ≤ ystart y := by unfold ystart ahead; omega

theorem mlen_bd (y : Int) (k : Nat) (h : k < 12) : 28 ≤ mlen y k ∧ mlen y k ≤ 31 := by
  unfold mlen
  split
  · omega
  · rcases (show k = 0 ∨ k = 1 ∨ k = 2 ∨ k = 3 ∨ k = 4 ∨ k = 5 ∨ k = 6 ∨ k = 7 ∨ k = 8 ∨ k = 9 ∨ k = 10 ∨ k = 11 from by omega) with rfl | rfl | rfl | rfl | rfl | rfl | rfl | rfl | rfl | rfl | rfl | rfl <;> decide
theorem msum_12 (y : Int) : msum y 12 = ylen y := by
  unfold ylen
  cases h : leap y <;> simp [msum, mlen, mdays, h]
theorem msum_mono (y : Int) {j k : Nat} (h : j ≤ k) (hk : k ≤ 12) : msum y j ≤ msum y k := by
  induction k with
  | zero => have : j = 0 := by omega
            subst this; exact Int.le_refl _
  | succ k ih =>
    by_cases e : j = k + 1
    · subst e; exact Int.le_refl _
    · have := ih (by omega) (by omega)
      have := mlen_bd y k (by omega)
      rw [msum]; omega
theorem msum_bd (y : Int) {k : Nat} (hk : k ≤ 12) : 0 ≤ msum y k ∧ msum y k ≤ 366 := by
  have h1 := msum_mono y (Nat.zero_le k) hk
  have h2 := msum_mono y hk (Nat.le_refl _)
  have h3 := ylen_bd y
  rw [msum_12] at h2
  simp only [msum] at h1
  omega

/-- x is the date of the day d -/
def IsDate (d x : Int) : Prop := ∃ (y : Int) (k : Nat) (r : Int), 2000 ≤ y ∧ y ≤ 2299 ∧ k < 12 ∧ 0 ≤ r ∧ r < mlen y k ∧ d = ystart y + msum y k + r ∧ x = 10000 * y + 100 * (k + 1) + r + 1

theorem year_one {d y z a b : Int} (h1 : d = ystart y + a) (h2 : d = ystart z + b) (a0 : 0 ≤ a) (a1 : a < ylen y) (b0 : 0 ≤ b) (b1 : b < ylen z) : y = z := by
  rcases Int.lt_trichotomy y z with h | h | h
  · have := ystart_mono (show y + 1 ≤ z by omega); rw [ystart_next] at this; omega
  · exact h
  · have := ystart_mono (show z + 1 ≤ y by omega); rw [ystart_next] at this; omega
theorem month_one {y d : Int} {j k : Nat} {r s : Int} (h1 : d = msum y j + r) (h2 : d = msum y k + s) (hj : j < 12) (hk : k < 12) (r0 : 0 ≤ r) (r1 : r < mlen y j) (s0 : 0 ≤ s) (s1 : s < mlen y k) : j = k := by
  rcases Nat.lt_trichotomy j k with h | h | h
  · have := msum_mono y (show j + 1 ≤ k by omega) (by omega); rw [msum] at this; omega
  · exact h
  · have := msum_mono y (show k + 1 ≤ j by omega) (by omega); rw [msum] at this; omega
theorem in_year {y r : Int} {k : Nat} (hk : k < 12) (r0 : 0 ≤ r) (r1 : r < mlen y k) : 0 ≤ msum y k + r ∧ msum y k + r < ylen y := by
  have h1 := msum_bd y (show k ≤ 12 by omega)
  have h2 := msum_mono y (show k + 1 ≤ 12 by omega) (Nat.le_refl _)
  rw [msum_12, msum] at h2
  omega
theorem IsDate.unique {d x z : Int} (h : IsDate d x) (g : IsDate d z) : x = z := by
  obtain ⟨y, k, r, y1, y2, hk, r0, r1, hd, rfl⟩ := h
  obtain ⟨y', k', r', z1, z2, hk', s0, s1, hd', rfl⟩ := g
  have a := in_year hk r0 r1
  have b := in_year hk' s0 s1
  have e := year_one (y := y) (z := y') (d := d) (a := msum y k + r) (b := msum y' k' + r') (by omega) (by omega) a.1 a.2 b.1 b.2
  subst e
  have f := month_one (y := y) (d := msum y k + r) rfl (by omega) hk hk' r0 r1 s0 s1
  subst f
  omega

def dOk (d : Int) : Bool := decide (0 ≤ d ∧ d ≤ 80000)
theorem dOk_bd {d : Int} (h : dOk d = true) : 0 ≤ d ∧ d ≤ 80000 := by simpa [dOk] using h
theorem dOk_out {d : Int} (h : dOk d = false) : d < 0 ∨ 80000 < d := by simp [dOk] at h; omega
theorem dOk_pos {d : Int} (h1 : 0 ≤ d) (h2 : d ≤ 80000) : dOk d = true := by simp [dOk, h1, h2]
theorem dOk_neg {d : Int} (h : d < 0 ∨ 80000 < d) : dOk d = false := by simp [dOk]; omega

/-- what stands in a date's places -/
def partsOk (x : Int) : Bool := decide (1 ≤ x / 100 % 100 ∧ x / 100 % 100 ≤ 12 ∧ 1 ≤ x % 100 ∧ x % 100 ≤ mlen (x / 10000) (x / 100 % 100 - 1).toNat)
def dayIs (x : Int) : Int := ystart (x / 10000) + msum (x / 10000) (x / 100 % 100 - 1).toNat + x % 100 - 1
/-- the day of a date, if there is one -/
def dayV (x : Int) : Option Int := if 20000101 ≤ x ∧ x ≤ 22991231 ∧ partsOk x = true ∧ dOk (dayIs x) = true then some (dayIs x) else none

theorem parts_at {y : Int} {k : Nat} {r : Int} (hk : k < 12) (r0 : 0 ≤ r) (r1 : r < mlen y k) :
    (10000 * y + 100 * (k + 1) + r + 1) / 10000 = y ∧ (10000 * y + 100 * (k + 1) + r + 1) / 100 % 100 = k + 1 ∧ (10000 * y + 100 * (k + 1) + r + 1) % 100 = r + 1 := by
  have := mlen_bd y k hk
  omega
theorem dayV_of {d x : Int} (h : IsDate d x) (hd : dOk d = true) : dayV x = some d := by
  obtain ⟨y, k, r, y1, y2, hk, r0, r1, hd', rfl⟩ := h
  have hb := mlen_bd y k hk
  obtain ⟨e1, e2, e3⟩ := parts_at (y := y) (k := k) (r := r) hk r0 r1
  have hp : partsOk (10000 * y + 100 * (k + 1) + r + 1) = true := by
    unfold partsOk
    rw [e1, e2, e3, show ((k : Int) + 1 - 1).toNat = k from by omega]
    exact decide_eq_true ⟨by omega, by omega, by omega, by omega⟩
  have hi : dayIs (10000 * y + 100 * (k + 1) + r + 1) = d := by
    unfold dayIs
    rw [e1, e2, e3, show ((k : Int) + 1 - 1).toNat = k from by omega]
    omega
  unfold dayV
  rw [hp, hi, hd, if_pos ⟨by omega, by omega, rfl, rfl⟩]
theorem isDate_parts {x : Int} (h1 : 20000101 ≤ x) (h2 : x ≤ 22991231) (hp : partsOk x = true) : IsDate (dayIs x) x := by
  unfold partsOk at hp
  have hp := of_decide_eq_true hp
  refine ⟨x / 10000, (x / 100 % 100 - 1).toNat, x % 100 - 1, by omega, by omega, by omega, by omega, by omega, by unfold dayIs; omega, ?_⟩
  rw [show (((x / 100 % 100 - 1).toNat : Nat) : Int) = x / 100 % 100 - 1 from by omega]
  omega
theorem isDate_dayV {d x : Int} (h : dayV x = some d) : IsDate d x ∧ dOk d = true := by
  unfold dayV at h
  split at h
  · rename_i hh
    obtain ⟨a, b, c, e⟩ := hh
    obtain rfl : dayIs x = d := by simpa using h
    exact ⟨isDate_parts a b c, e⟩
  · cases h
/-- the date of a day, 0 for none -/
def dateV (d : Int) : Int := if dOk d = true then (((List.range 2991232).find? fun n : Nat => dayV (20000000 + (n : Int)) == some d).map fun n : Nat => 20000000 + (n : Int)).getD 0 else 0
theorem dateV_no {d : Int} (h : dOk d = false) : dateV d = 0 := by unfold dateV; rw [if_neg (by rw [h]; decide)]
theorem dateV_yes {d x : Int} (h : dOk d = true) (g : IsDate d x) : dateV d = x := by
  have hv := dayV_of g h
  have hr : 20000101 ≤ x ∧ x ≤ 22991231 := by
    have hv' := hv
    unfold dayV at hv'
    split at hv'
    · rename_i hh; exact ⟨hh.1, hh.2.1⟩
    · cases hv'
  unfold dateV
  rw [if_pos h]
  cases hf : (List.range 2991232).find? (fun n : Nat => dayV (20000000 + (n : Int)) == some d) with
  | none =>
    rw [List.find?_eq_none] at hf
    have hn := hf (x - 20000000).toNat (List.mem_range.2 (by omega))
    rw [show 20000000 + (((x - 20000000).toNat : Nat) : Int) = x from by omega, hv] at hn
    simp at hn
  | some n =>
    have hn : dayV (20000000 + (n : Int)) = some d := by simpa using List.find?_some hf
    exact (isDate_dayV hn).1.unique g

/-- ahead of the first year and behind the last one there are no days -/
theorem dayIs_out {x : Int} (hp : partsOk x = true) (h : x < 20000101 ∨ 22991231 < x) (y1 : 10000 ≤ x) : dOk (dayIs x) = false := by
  unfold partsOk at hp
  have hp := of_decide_eq_true hp
  have hk : (x / 100 % 100 - 1).toNat < 12 := by omega
  have hin := in_year (y := x / 10000) (r := x % 100 - 1) hk (by omega) (by omega)
  have hm := mlen_bd (x / 10000) _ hk
  apply dOk_neg
  rcases h with h | h
  · have hy : x / 10000 + 1 ≤ 2000 := by omega
    have := ystart_mono hy
    rw [ystart_next, ystart_2000] at this
    left; unfold dayIs; omega
  · have hy : 2300 ≤ x / 10000 := by omega
    have := ystart_up (y := x / 10000) (by omega)
    right; unfold dayIs; omega

/-- every day has a date -/
theorem month_of (y a : Int) (a0 : 0 ≤ a) : ∀ n, n ≤ 12 → a < msum y n → ∃ k r, k < n ∧ 0 ≤ r ∧ r < mlen y k ∧ a = msum y k + r := by
  intro n
  induction n with
  | zero => intro _ h; simp only [msum] at h; omega
  | succ n ih =>
    intro hn h
    by_cases h1 : a < msum y n
    · obtain ⟨k, r, h2, h3, h4, h5⟩ := ih (by omega) h1
      exact ⟨k, r, by omega, h3, h4, h5⟩
    · rw [msum] at h
      exact ⟨n, a - msum y n, by omega, by omega, by omega, by omega⟩
theorem isDate_of {d y : Int} (hd : dOk d = true) (y1 : 2000 ≤ y) (h1 : ystart y ≤ d) (h2 : d < ystart y + ylen y) :
    ∃ k r, k < 12 ∧ 0 ≤ r ∧ r < mlen y k ∧ d = ystart y + msum y k + r ∧ IsDate d (10000 * y + 100 * (k + 1) + r + 1) := by
  obtain ⟨k, r, a, b, c, e⟩ := month_of y (d - ystart y) (by omega) 12 (Nat.le_refl _) (by rw [msum_12]; omega)
  have hb := dOk_bd hd
  have := ystart_up y1
  exact ⟨k, r, a, b, c, by omega, y, k, r, y1, by omega, a, b, c, by omega, rfl⟩
theorem year_of (d : Nat) : ∃ y, 2000 ≤ y ∧ ystart y ≤ d ∧ d < ystart y + ylen y := by
  induction d with
  | zero => exact ⟨2000, by decide, by decide, by decide⟩
  | succ d ih =>
    obtain ⟨y, h1, h2, h3⟩ := ih
    by_cases h : (d : Int) + 1 < ystart y + ylen y
    · exact ⟨y, h1, by omega, by omega⟩
    · have := ystart_next y
      have := ylen_bd (y + 1)
      exact ⟨y + 1, by omega, by omega, by omega⟩
theorem isDate_all {d : Int} (h : dOk d = true) : IsDate d (dateV d) := by
  have hb := dOk_bd h
  obtain ⟨y, h1, h2, h3⟩ := year_of d.toNat
  obtain ⟨k, r, _, _, _, _, hi⟩ := isDate_of h h1 (by omega) (by omega)
  rw [dateV_yes h hi]; exact hi
theorem dayV_dateV {d : Int} (h : dOk d = true) : dayV (dateV d) = some d := dayV_of (isDate_all h) h
theorem date_bd {d : Int} (h : dOk d = true) : 20000101 ≤ dateV d ∧ dateV d ≤ 22991231 := by
  have := dayV_dateV h
  unfold dayV at this
  split at this
  · rename_i hh; exact ⟨hh.1, hh.2.1⟩
  · cases this

/-- the next day's date is greater, and not by much -/
theorem date_next {d : Int} (h : dOk d = true) (g : dOk (d + 1) = true) : dateV d < dateV (d + 1) ∧ dateV (d + 1) - dateV d ≤ 8870 := by
  have hd := isDate_all h
  generalize hx : dateV d = x at hd
  obtain ⟨y, k, r, y1, y2, hk, r0, r1, e1, rfl⟩ := hd
  have hb := mlen_bd y k hk
  by_cases c1 : r + 1 < mlen y k
  · have : IsDate (d + 1) (10000 * y + 100 * (k + 1) + (r + 1) + 1) := ⟨y, k, r + 1, y1, y2, hk, by omega, c1, by omega, rfl⟩
    rw [dateV_yes g this]; omega
  · by_cases c2 : k + 1 < 12
    · have hb2 := mlen_bd y (k + 1) c2
      have : IsDate (d + 1) (10000 * y + 100 * ((k + 1 : Nat) + 1) + 0 + 1) := ⟨y, k + 1, 0, y1, y2, c2, by omega, by omega, by rw [msum]; omega, rfl⟩
      rw [dateV_yes g this]; omega
    · have hk11 : k = 11 := by omega
      subst hk11
      have hs := msum_12 y
      rw [msum] at hs
      have hn := ystart_next y
      have hu := ystart_up (y := y + 1) (by omega)
      have hg := dOk_bd g
      have hb2 := mlen_bd (y + 1) 0 (by omega)
      have : IsDate (d + 1) (10000 * (y + 1) + 100 * ((0 : Nat) + 1) + 0 + 1) := ⟨y + 1, 0, 0, by omega, by omega, by omega, by omega, by omega, by simp only [msum]; omega, rfl⟩
      rw [dateV_yes g this]
      have hb3 : mlen y 11 = 31 := by unfold mlen; rw [if_neg (by omega)]; rfl
      omega

end Go.Proofs.YtenbhmmknejcjaaDoor

/- The contracts of the small functions of chapter 1 (money): what each returns for every argument. -/
namespace Go.Proofs.YtenbhmmknejcjaaDoor
open Go.RowKit

def mOk (x : Int) : Bool := decide (-1000000000000 ≤ x ∧ x ≤ 1000000000000)
theorem mOk_pos {x : Int} (h1 : -1000000000000 ≤ x) (h2 : x ≤ 1000000000000) : mOk x = true := by simp [mOk, h1, h2]
theorem mOk_neg {x : Int} (h : x < -1000000000000 ∨ 1000000000000 < x) : mOk x = false := by simp [mOk]; omega
theorem mOk_bd {x : Int} (h : mOk x = true) : -1000000000000 ≤ x ∧ x ≤ 1000000000000 := by simpa [mOk] using h
theorem mOk_out {x : Int} (h : mOk x = false) : x < -1000000000000 ∨ 1000000000000 < x := by simp [mOk] at h; omega

def inB (x a b : Int) : Bool := decide (a ≤ x ∧ x ≤ b)

set_option maxHeartbeats 400000 in
theorem in_any (x a b : Int) (w : World) :
    Calls Tryd.prog 47 #[.int .i64 x, .int .i64 a, .int .i64 b] w fun e w' => e = .returned (.bool (inB x a b)) ∧ w' = w := by
  by_cases h1 : a ≤ x
  · by_cases h2 : x ≤ b
    · go_enter Tryd.func47, Tryd.ntmps47
      go_wp2
      go_ret
      exact ⟨by simp [inB, h1, h2], rfl⟩
    · go_enter Tryd.func47, Tryd.ntmps47
      go_wp2
      go_ret
      exact ⟨by simp [inB, h1, h2], rfl⟩
  · go_enter Tryd.func47, Tryd.ntmps47
    go_wp2
    go_ret
    exact ⟨by simp [inB]; omega, rfl⟩




end Go.Proofs.YtenbhmmknejcjaaDoor

/- The contracts of the small functions of chapter 2 (days): what each returns for every argument. -/
namespace Go.Proofs.YtenbhmmknejcjaaDoor
open Go.RowKit

theorem inB_pos {x a b : Int} (h : a ≤ x) (g : x ≤ b) : inB x a b = true := by simp [inB, h, g]
theorem inB_neg {x a b : Int} (h : x < a ∨ b < x) : inB x a b = false := by simp [inB]; omega

set_option maxHeartbeats 400000 in
theorem sDayOk_any (x : Int) (w : World) :
    Calls Tryd.prog 32 #[.int .i64 x] w fun e w' => e = .returned (.bool (dOk x)) ∧ w' = w := by
  go_enter Tryd.func32, Tryd.ntmps32
  go_wp2_with (go_at_call 47; refine (in_any _ _ _ _).mono ?_; rintro e w' ⟨rfl, rfl⟩)
  go_ret
  exact ⟨rfl, rfl⟩

set_option maxHeartbeats 400000 in
theorem iDayOk_any (x : Int) (w : World) :
    Calls Tryd.prog 28 #[.int .i64 x] w fun e w' => e = .returned (.bool (dOk x)) ∧ w' = w := by
  by_cases h1 : 0 ≤ x
  · by_cases h2 : x ≤ 80000
    · go_enter Tryd.func28, Tryd.ntmps28
      go_wp2
      go_ret
      exact ⟨by simp [dOk, h1, h2], rfl⟩
    · go_enter Tryd.func28, Tryd.ntmps28
      go_wp2
      go_ret
      exact ⟨by simp [dOk, h1, h2], rfl⟩
  · go_enter Tryd.func28, Tryd.ntmps28
    go_wp2
    go_ret
    exact ⟨by simp [dOk]; omega, rfl⟩

/-- the day of the week -/
def wdV (d : Int) : Int := if dOk d = true then (d + 5) % 7 else -1
theorem wdV_yes {d : Int} (h : dOk d = true) : wdV d = (d + 5) % 7 := if_pos h
theorem wdV_no {d : Int} (h : dOk d = false) : wdV d = -1 := if_neg (by rw [h]; decide)

set_option maxHeartbeats 400000 in
theorem sWeekDay_any (x : Int) (w : World) :
    Calls Tryd.prog 97 #[.int .i64 x] w fun e w' => e = .returned (.int .i64 (wdV x)) ∧ w' = w := by
  cases h : dOk x
  · have HV : Hid _ := wdV_no h
    go_enter Tryd.func97, Tryd.ntmps97
    go_wp2_with (go_at_call 32; refine (sDayOk_any _ _).mono ?_; rintro e w' ⟨rfl, rfl⟩)
    go_ret
    exact ⟨one_int HV.out.symm, rfl⟩
  · have HV : Hid _ := wdV_yes h
    have hb := dOk_bd h
    go_enter Tryd.func97, Tryd.ntmps97
    go_wp2_with (go_at_call 32; refine (sDayOk_any _ _).mono ?_; rintro e w' ⟨rfl, rfl⟩)
    go_ret
    exact ⟨one_int HV.out.symm, rfl⟩

set_option maxHeartbeats 400000 in
theorem iWeekDay_any (x : Int) (w : World) :
    Calls Tryd.prog 93 #[.int .i64 x] w fun e w' => e = .returned (.int .i64 (wdV x)) ∧ w' = w := by
  cases h : dOk x
  · have HV : Hid _ := wdV_no h
    go_enter Tryd.func93, Tryd.ntmps93
    go_wp2_with (go_at_call 28; refine (iDayOk_any _ _).mono ?_; rintro e w' ⟨rfl, rfl⟩)
    go_ret
    exact ⟨one_int HV.out.symm, rfl⟩
  · have HV : Hid _ := wdV_yes h
    have hb := dOk_bd h
    go_enter Tryd.func93, Tryd.ntmps93
    go_wp2_with (go_at_call 28; refine (iDayOk_any _ _).mono ?_; rintro e w' ⟨rfl, rfl⟩)
    go_ret
    exact ⟨one_int HV.out.symm, rfl⟩

end Go.Proofs.YtenbhmmknejcjaaDoor

/- Slices of ints: reading them, copying them, holding them against each other. -/
namespace Go.Proofs.YtenbhmmknejcjaaDoor
open Go.RowKit

/-- The slice at 'ao' reads as 'zs' in w. -/
def IntsAt (w : World) (ao : Option Addr) (zs : List Int) : Prop :=
  zs = [] ∨ ∃ b off, ao = some ⟨b, off, none⟩ ∧ b < w.heap.size ∧ ∀ i, i < zs.length → w.cell? ⟨b, off + i, none⟩ = some (.int .i64 (zs.getD i 0))

theorem IntsAt.below {w w' : World} {ao : Option Addr} {zs : List Int} (h : IntsAt w ao zs) (hb : Below w.heap.size w w') : IntsAt w' ao zs := by
  rcases h with h | ⟨b, off, h1, h2, h3⟩
  · exact .inl h
  · exact .inr ⟨b, off, h1, Nat.lt_of_lt_of_le h2 hb.size, fun i hi => (hb.cell (p := ⟨b, off + i, none⟩) h2).trans (h3 i hi)⟩

theorem getD_take {zs : List Int} {len i : Nat} (h : i < len) : (zs.take len).getD i 0 = zs.getD i 0 := by
  simp [List.getD_eq_getElem?_getD, h]

theorem ints_of_row {w : World} {a : Option Addr} {len cap : Nat} {zs : List Int} (h : IsRow .i64 w a len cap zs) : (zs.take len).length = len ∧ IntsAt w a (zs.take len) := by
  rcases h with ⟨rfl, rfl, rfl, rfl⟩ | ⟨x, rfl, hl, hm, hz, hcell, hwz⟩
  · exact ⟨rfl, .inl rfl⟩
  · have hlen : (zs.take len).length = len := by rw [List.length_take]; omega
    refine ⟨hlen, ?_⟩
    by_cases h0 : len = 0
    · subst h0; exact .inl (by simp)
    · obtain ⟨b, off, spot⟩ := x
      have hc := hcell 0 (by omega)
      have hspot : spot = none := by simpa [Addr.add] using World.cell?_spot hc
      subst hspot
      refine .inr ⟨b, off, rfl, ?_, fun i hi => ?_⟩
      · exact World.block_lt_of_cell? w _ hc
      · rw [hlen] at hi
        rw [getD_take hi]
        have := hcell i (by omega)
        by_cases e : i = 0
        · subst e; simpa [Addr.add] using this
        · simpa [Addr.add, e] using this

theorem ints_of_own {w : World} {base g n cap : Nat} {zs : List Int} (h : w.ownsRow base 3 1 (.slice (some ⟨g, 0, none⟩) n cap) n (zs.map (Value.int .i64))) : IntsAt w (some ⟨g, 0, none⟩) zs := by
  by_cases h0 : zs = []
  · exact .inl h0
  · have hl : zs.length = n := by simpa using h.1
    have hp : 0 < zs.length := List.length_pos_iff.2 h0
    have hc : ∀ i, i < zs.length → w.cell? ⟨g, 0 + i, none⟩ = some (.int .i64 (zs.getD i 0)) := by
      intro i hi
      rw [Nat.zero_add, h.cellAt i (by omega)]
      simp [List.getD_eq_getElem?_getD, hi]
    exact .inr ⟨g, 0, rfl, World.block_lt_of_cell? w _ (hc 0 hp), hc⟩

theorem info3 : (Tryd.prog.info? 3).map (fun i => (i.zero, i.size, i.bytes)) = some (some (.int .i64 0), 1, 8) := by kernel_rfl

/-- what toIntS has copied behind k rounds -/
def half (zs : List Int) (k : Nat) : List Value := (zs.take k).map (Value.int .i64) ++ List.replicate (zs.length - k) (.int .i64 0)
theorem half_zero (zs : List Int) : half zs 0 = List.replicate zs.length (.int .i64 0) := by simp [half]
theorem half_all (zs : List Int) : half zs zs.length = zs.map (Value.int .i64) := by simp [half]
theorem half_succ (zs : List Int) (k : Nat) (h : k < zs.length) : half zs (k + 1) = (half zs k).set k (.int .i64 (zs.getD k 0)) := by
  apply List.ext_getElem?
  intro j
  simp only [half, List.getElem?_set, List.getElem?_append, List.length_map, List.length_take, List.getElem?_map, List.getElem?_take, List.getElem?_replicate, List.getD_eq_getElem?_getD, List.length_append, List.length_replicate]
  by_cases h1 : j < k
  · have : j < zs.length := by omega
    have : ¬ k = j := by omega
    simp [*, Nat.min_eq_left (Nat.le_of_lt h), Nat.min_eq_left (show k + 1 ≤ zs.length by omega), show j < k + 1 by omega]
  · by_cases h2 : j = k
    · subst h2
      have : j < j + (zs.length - j) := by omega
      simp [*, Nat.min_eq_left (Nat.le_of_lt h), Nat.min_eq_left (show j + 1 ≤ zs.length by omega)]
    · have : ¬ k = j := by omega
      have a1 : ¬ j < k + 1 := by omega
      simp [*, Nat.min_eq_left (Nat.le_of_lt h), Nat.min_eq_left (show k + 1 ≤ zs.length by omega)]
      by_cases h3 : j < zs.length
      · rw [if_pos (by omega), if_pos (by omega)]
      · rw [if_neg (by omega), if_neg (by omega)]
theorem half_len (zs : List Int) (k : Nat) (h : k ≤ zs.length) : (half zs k).length = zs.length := by simp [half]; omega
theorem half_at (zs : List Int) (k : Nat) (h : k < zs.length) : (half zs k)[k]? = some (.int .i64 0) := by
  simp [half, List.getElem?_append, Nat.min_eq_left (Nat.le_of_lt h), List.getElem?_replicate]
  omega


end Go.Proofs.YtenbhmmknejcjaaDoor

/- Slices of ints that are one's own memory. -/
namespace Go.Proofs.YtenbhmmknejcjaaDoor
open Go.RowKit

theorem own_ints {w : World} {base : Nat} {v : Value} {zs : List Int} (h : w.ownsRow base 3 1 v zs.length (zs.map (Value.int .i64))) :
    ∃ ao cap, v = .slice ao zs.length cap ∧ IntsAt w ao zs := by
  rcases h.2 with ⟨rfl, h0⟩ | ⟨g, cap, cur, rfl, hrest⟩
  · have : zs = [] := List.eq_nil_of_length_eq_zero h0
    subst this
    exact ⟨none, 0, rfl, .inl rfl⟩
  · exact ⟨_, cap, rfl, ints_of_own h⟩
theorem own_shape {w : World} {base m : Nat} {v : Value} {xs : List Value} (h : w.ownsRow base 3 1 v m xs) : ∃ ao cap, v = .slice ao m cap := by
  rcases h.2 with ⟨rfl, rfl⟩ | ⟨g, cap, cur, rfl, hrest⟩
  · exact ⟨none, 0, rfl⟩
  · exact ⟨_, cap, rfl⟩
theorem ints_own {w : World} {base n cap : Nat} {ao : Option Addr} {zs : List Int} (h : w.ownsRow base 3 1 (.slice ao n cap) n (zs.map (Value.int .i64))) : IntsAt w ao zs := by
  have hl : zs.length = n := by simpa using h.1
  subst hl
  obtain ⟨ao', c, hv, hz⟩ := own_ints h
  obtain ⟨rfl, _⟩ : ao = ao' ∧ cap = c := by simpa using hv
  exact hz
theorem ho_ne {w : World} {base g n : Nat} {v : Value} {xs : List Value} (h : w.ownsRow base 3 1 v n xs) (hg : g < base) : v.ownBlock = none ∨ v.ownBlock ≠ some g := by
  right; intro e; have := (h.lt g e).1; omega

end Go.Proofs.YtenbhmmknejcjaaDoor

/- The contracts of Digits: the program's map of currencies, the specification's list. -/
namespace Go.Proofs.YtenbhmmknejcjaaDoor
open Go.RowKit Go.Maps

/-- an entry of a map literal, at the operation -/
theorem wpList_insert_own {H : Type} {P : Program} (w : World) {ops : Array Oper} {rest : List Oper} {o : Oper} {a : Act} {Q : Exit → Act → World → Prop}
    (hg : o.guard = none) (m x v : Operand) (t : TypeId) (hop : o.op = Op.insert t m x v)
    (k e : TypeId) (K : Keyed P k) (ht : P.underlying t = some (.map k e)) (R : Value → Option (DataW H × List MemPlace)) (b n : Nat) (D : DataW H)
    (hm : a.eval m = .map (some b)) (hown : w.ownsMap P k R b n D) (hn : n < maxLen) (key val : Value) (kl : Lit) (hx : a.eval x = key) (hv : a.eval v = val) (hkey : keyOf P k key = some kl)
    (d : DataW H) (ps : List MemPlace) (hval : R val = some (d, ps))
    (hK : ∀ w', w'.ownsMap P k R b (n + 1) (D.put kl d) → w.grownBy w' (some b) → wpList P ops Q rest (a.put o.dst undef) w') :
    wpList P ops Q (o :: rest) a w := by
  refine wpList_plain hg fun K' hK' => ?_
  obtain ⟨w', hrun, r1, r2⟩ := hown.update K ht hn hkey hval
  unfold Oper.wp
  simp [execOp, hop, hm, hx, hv, hrun, Result.andThen]
  exact hK' _ _ (hK w' r1 r2)

theorem lawInt : Keyed Tryd.prog 3 := int_keyed Tryd.underlying3

/-- what the program's map of currencies reads as -/
def curD : DataW Unit := (((((((((DataW.map (H := Unit) []).put (.int .i64 36) (.lit (.int .i64 2))).put (.int .i64 392) (.lit (.int .i64 0))).put (.int .i64 756) (.lit (.int .i64 2))).put (.int .i64 826) (.lit (.int .i64 2))).put (.int .i64 840) (.lit (.int .i64 2))).put (.int .i64 978) (.lit (.int .i64 2))).put (.int .i64 48) (.lit (.int .i64 3))).put (.int .i64 414) (.lit (.int .i64 3)))

set_option maxHeartbeats 800000 in
theorem currencies_any (w : World) :
    Calls Tryd.prog 72 #[] w fun e w' => e = .returned (.map (some w.heap.size)) ∧ w'.ownsMap Tryd.prog 3 (plainElem (H := Unit) Tryd.prog 3) w.heap.size 8 curD ∧ Below w.heap.size w w' := by
  have hmm := @run_makeMap Tryd.prog
  have hown0 := World.ownsMap_made w Tryd.prog 3 (plainElem (H := Unit) Tryd.prog 3)
  have hb0 := (Below.refl w.heap.size w).alloc (Nat.le_refl _) (.map #[] 0)
  go_enter Tryd.func72, Tryd.ntmps72
  go_wp2_with (first | (refine wpList_insert_own _ rfl (.tmp 1) (.const (.int .i64 36)) (.const (.int .i64 2)) 86 rfl 3 3 lawInt Tryd.underlying86 _ _ _ _ rfl hown0 (by decide) _ _ _ rfl rfl (keyOf_int_mk Tryd.underlying3 (by decide)) _ [] (plainElem_int Tryd.underlying3 (by decide)) ?_; intro w1 hown1 hg1) | (refine wpList_insert_own _ rfl (.tmp 1) (.const (.int .i64 392)) (.const (.int .i64 0)) 86 rfl 3 3 lawInt Tryd.underlying86 _ _ _ _ rfl hown1 (by decide) _ _ _ rfl rfl (keyOf_int_mk Tryd.underlying3 (by decide)) _ [] (plainElem_int Tryd.underlying3 (by decide)) ?_; intro w2 hown2 hg2) | (refine wpList_insert_own _ rfl (.tmp 1) (.const (.int .i64 756)) (.const (.int .i64 2)) 86 rfl 3 3 lawInt Tryd.underlying86 _ _ _ _ rfl hown2 (by decide) _ _ _ rfl rfl (keyOf_int_mk Tryd.underlying3 (by decide)) _ [] (plainElem_int Tryd.underlying3 (by decide)) ?_; intro w3 hown3 hg3) | (refine wpList_insert_own _ rfl (.tmp 1) (.const (.int .i64 826)) (.const (.int .i64 2)) 86 rfl 3 3 lawInt Tryd.underlying86 _ _ _ _ rfl hown3 (by decide) _ _ _ rfl rfl (keyOf_int_mk Tryd.underlying3 (by decide)) _ [] (plainElem_int Tryd.underlying3 (by decide)) ?_; intro w4 hown4 hg4) | (refine wpList_insert_own _ rfl (.tmp 1) (.const (.int .i64 840)) (.const (.int .i64 2)) 86 rfl 3 3 lawInt Tryd.underlying86 _ _ _ _ rfl hown4 (by decide) _ _ _ rfl rfl (keyOf_int_mk Tryd.underlying3 (by decide)) _ [] (plainElem_int Tryd.underlying3 (by decide)) ?_; intro w5 hown5 hg5) | (refine wpList_insert_own _ rfl (.tmp 1) (.const (.int .i64 978)) (.const (.int .i64 2)) 86 rfl 3 3 lawInt Tryd.underlying86 _ _ _ _ rfl hown5 (by decide) _ _ _ rfl rfl (keyOf_int_mk Tryd.underlying3 (by decide)) _ [] (plainElem_int Tryd.underlying3 (by decide)) ?_; intro w6 hown6 hg6) | (refine wpList_insert_own _ rfl (.tmp 1) (.const (.int .i64 48)) (.const (.int .i64 3)) 86 rfl 3 3 lawInt Tryd.underlying86 _ _ _ _ rfl hown6 (by decide) _ _ _ rfl rfl (keyOf_int_mk Tryd.underlying3 (by decide)) _ [] (plainElem_int Tryd.underlying3 (by decide)) ?_; intro w7 hown7 hg7) | (refine wpList_insert_own _ rfl (.tmp 1) (.const (.int .i64 414)) (.const (.int .i64 3)) 86 rfl 3 3 lawInt Tryd.underlying86 _ _ _ _ rfl hown7 (by decide) _ _ _ rfl rfl (keyOf_int_mk Tryd.underlying3 (by decide)) _ [] (plainElem_int Tryd.underlying3 (by decide)) ?_; intro w8 hown8 hg8))
  go_ret
  refine ⟨rfl, hown8, ?_⟩
  have gr : ∀ {a b : World}, Below w.heap.size w a → a.grownBy b (some w.heap.size) → Below w.heap.size w b := fun h g => h.grown g h.size (fun k hk => by cases hk; exact Nat.le_refl _)
  exact gr (gr (gr (gr (gr (gr (gr (gr hb0 hg1) hg2) hg3) hg4) hg5) hg6) hg7) hg8

/-- how many digits a currency has behind the point; -1 for no currency -/
def digs (cur : Int) : Int := if cur = 36 then 2 else if cur = 392 then 0 else if cur = 756 then 2 else if cur = 826 then 2 else if cur = 840 then 2 else if cur = 978 then 2 else if cur = 48 then 3 else if cur = 414 then 3 else -1
def isCur (cur : Int) : Bool := cur == 36 || cur == 392 || cur == 756 || cur == 826 || cur == 840 || cur == 978 || cur == 48 || cur == 414

theorem cur_cases {cur : Int} (h : isCur cur = true) : cur = 36 ∨ cur = 392 ∨ cur = 756 ∨ cur = 826 ∨ cur = 840 ∨ cur = 978 ∨ cur = 48 ∨ cur = 414 := by
  simp [isCur] at h; omega
theorem cur_none {cur : Int} (h : isCur cur = false) : cur ≠ 36 ∧ cur ≠ 392 ∧ cur ≠ 756 ∧ cur ≠ 826 ∧ cur ≠ 840 ∧ cur ≠ 978 ∧ cur ≠ 48 ∧ cur ≠ 414 := by
  simp [isCur] at h; omega
theorem digs_none {cur : Int} (h : isCur cur = false) : digs cur = -1 := by
  have := cur_none h; simp [digs, this]
theorem digs_bd (cur : Int) : -1 ≤ digs cur ∧ digs cur ≤ 3 := by
  unfold digs; repeat' split
  all_goals omega
theorem digs_cur {cur : Int} (h : isCur cur = true) : 0 ≤ digs cur := by
  rcases cur_cases h with rfl | rfl | rfl | rfl | rfl | rfl | rfl | rfl <;> decide
theorem isCur_iff (cur : Int) : isCur cur = decide (0 ≤ digs cur) := by
  cases h : isCur cur
  · simp [digs_none h]
  · simp [digs_cur h]

theorem curD_has_yes {cur : Int} (h : isCur cur = true) : Maps.has curD (.int .i64 cur) = true := by
  rcases cur_cases h with rfl | rfl | rfl | rfl | rfl | rfl | rfl | rfl <;> decide
theorem curD_at {cur : Int} (h : isCur cur = true) : curD.atKey (.int .i64 cur) (.lit (.int .i64 0)) = .lit (.int .i64 (digs cur)) := by
  rcases cur_cases h with rfl | rfl | rfl | rfl | rfl | rfl | rfl | rfl <;> rfl
theorem lit_ne {a b : Int} (h : a ≠ b) : Lit.int .i64 a ≠ Lit.int .i64 b := fun e => h (by injection e)
theorem curD_has_no {cur : Int} (h : isCur cur = false) : Maps.has curD (.int .i64 cur) = false := by
  have g := cur_none h
  unfold curD
  rw [Maps.has_put_other (lit_ne (by omega)), Maps.has_put_other (lit_ne (by omega)), Maps.has_put_other (lit_ne (by omega)), Maps.has_put_other (lit_ne (by omega)),
    Maps.has_put_other (lit_ne (by omega)), Maps.has_put_other (lit_ne (by omega)), Maps.has_put_other (lit_ne (by omega)), Maps.has_put_other (lit_ne (by omega))]
  rfl

theorem zero3 (w : World) : (zeroValue 3).run Tryd.prog w = .ok (.int .i64 0) w := by kernel_rfl

set_option maxHeartbeats 800000 in
theorem iDigits_any (cur : Int) (w : World) (hw : (Lit.int .i64 cur).wf = true) :
    Calls Tryd.prog 43 #[.int .i64 cur] w fun e w' => e = .returned (.int .i64 (digs cur)) ∧ Below w.heap.size w w' := by
  cases h : isCur cur
  · have hh := curD_has_no h
    have D : Hid (digs cur = -1) := digs_none h
    clear h
    go_enter Tryd.func43, Tryd.ntmps43
    go_wp2_with (first | (go_at_call 72; refine (currencies_any _).mono ?_; rintro e w1 ⟨rfl, hown, hb⟩) | (at_lookup; refine wpList_lookup_own_ok_int _ rfl _ _ 86 rfl 3 3 .i64 lawInt Tryd.underlying86 Tryd.underlying3 (zero3 _) _ 8 curD rfl hown _ _ rfl (keyOf_int_mk Tryd.underlying3 hw) ?_; intro c hat hwc))
    go_ret
    exact ⟨one_int D.out.symm, hb⟩
  · have hh := curD_has_yes h
    have D : Hid (curD.atKey (.int .i64 cur) (.lit (.int .i64 0)) = .lit (.int .i64 (digs cur))) := curD_at h
    clear h
    go_enter Tryd.func43, Tryd.ntmps43
    go_wp2_with (first | (go_at_call 72; refine (currencies_any _).mono ?_; rintro e w1 ⟨rfl, hown, hb⟩) | (at_lookup; refine wpList_lookup_own_ok_int _ rfl _ _ 86 rfl 3 3 .i64 lawInt Tryd.underlying86 Tryd.underlying3 (zero3 _) _ 8 curD rfl hown _ _ rfl (keyOf_int_mk Tryd.underlying3 hw) ?_; intro c hat hwc; have HC : Hid (curD.atKey (.int .i64 cur) (.lit (.int .i64 0)) = .lit (.int .i64 c)) := hat; clear hat))
    go_ret
    refine ⟨one_int ?_, hb⟩
    have e := HC.out.symm.trans D.out
    injection e with e1
    injection e1

/-- the specification's lists -/
def curL : List Int := [36, 392, 756, 826, 840, 978, 48, 414]
def digL : List Int := [2, 0, 2, 2, 2, 2, 3, 3]

theorem below8 {k : Nat} (h : k < 8) : k = 0 ∨ k = 1 ∨ k = 2 ∨ k = 3 ∨ k = 4 ∨ k = 5 ∨ k = 6 ∨ k = 7 := by omega
theorem digL_at {cur : Int} {k : Nat} (hk : k < 8) (h : curL.getD k 0 = cur) : digL.getD k 0 = digs cur := by
  subst h
  rcases below8 hk with rfl | rfl | rfl | rfl | rfl | rfl | rfl | rfl <;> decide
theorem digL_none {cur : Int} (h : ∀ j, j < 8 → curL.getD j 0 ≠ cur) : digs cur = -1 := by
  have h0 := h 0 (by omega); have h1 := h 1 (by omega); have h2 := h 2 (by omega); have h3 := h 3 (by omega)
  have h4 := h 4 (by omega); have h5 := h 5 (by omega); have h6 := h 6 (by omega); have h7 := h 7 (by omega)
  simp [curL] at h0 h1 h2 h3 h4 h5 h6 h7
  simp [digs]; omega

set_option maxHeartbeats 400000 in
theorem sCurrencies_any (w : World) :
    Calls Tryd.prog 74 #[] w fun e w' => e = .returned (.slice (some ⟨w.heap.size, 0, none⟩) 8 8) ∧ w' = w.alloc (.cells #[.int .i64 36, .int .i64 392, .int .i64 756, .int .i64 826, .int .i64 840, .int .i64 978, .int .i64 48, .int .i64 414] 3) := by
  go_enter Tryd.func74, Tryd.ntmps74
  go_wp2
  go_ret
  exact ⟨rfl, rfl⟩

set_option maxHeartbeats 800000 in
theorem sDigits_any (cur : Int) (w : World) :
    Calls Tryd.prog 48 #[.int .i64 cur] w fun e w' => e = .returned (.int .i64 (digs cur)) ∧ Below w.heap.size w w' := by
  have hcA : ∀ k, k < 8 → ((w.alloc (.cells #[.int .i64 2, .int .i64 0, .int .i64 2, .int .i64 2, .int .i64 2, .int .i64 2, .int .i64 3, .int .i64 3] 3)).alloc (.cells #[.int .i64 36, .int .i64 392, .int .i64 756, .int .i64 826, .int .i64 840, .int .i64 978, .int .i64 48, .int .i64 414] 3)).cell? ⟨w.heap.size + 1, k, none⟩ = some (.int .i64 (curL.getD k 0)) := by
    intro k hk
    rcases below8 hk with rfl | rfl | rfl | rfl | rfl | rfl | rfl | rfl <;> simp [curL]
  have hcB : ∀ k, k < 8 → ((w.alloc (.cells #[.int .i64 2, .int .i64 0, .int .i64 2, .int .i64 2, .int .i64 2, .int .i64 2, .int .i64 3, .int .i64 3] 3)).alloc (.cells #[.int .i64 36, .int .i64 392, .int .i64 756, .int .i64 826, .int .i64 840, .int .i64 978, .int .i64 48, .int .i64 414] 3)).cell? ⟨w.heap.size, k, none⟩ = some (.int .i64 (digL.getD k 0)) := by
    intro k hk
    rcases below8 hk with rfl | rfl | rfl | rfl | rfl | rfl | rfl | rfl <;> simp [digL]
  have hbel : Below w.heap.size w ((w.alloc (.cells #[.int .i64 2, .int .i64 0, .int .i64 2, .int .i64 2, .int .i64 2, .int .i64 2, .int .i64 3, .int .i64 3] 3)).alloc (.cells #[.int .i64 36, .int .i64 392, .int .i64 756, .int .i64 826, .int .i64 840, .int .i64 978, .int .i64 48, .int .i64 414] 3)) := ((Below.refl _ _).alloc (Nat.le_refl _) _).alloc (by simp) _
  go_enter Tryd.func48, Tryd.ntmps48
  go_wp2_with (go_at_call 74; refine (sCurrencies_any _).mono ?_; rintro e w' ⟨rfl, rfl⟩)
  go_loop [5] (fun i => ∃ k : Nat, k ≤ 8 ∧ i = .int .i64 k ∧ ∀ j, j < k → curL.getD j 0 ≠ cur) (fun i => 8 - (intOf i).toNat)
  case atStart => exact ⟨0, by omega, rfl, fun j hj => by omega⟩
  case round =>
    obtain ⟨k, hk, rfl, hno⟩ := hrel
    have HN : Hid (∀ j, j < k → curL.getD j 0 ≠ cur) := hno
    clear hno
    by_cases hlt : k < 8
    · have a1 := hcA k hlt
      have a2 := hcB k hlt
      clear hcA hcB
      obtain ⟨c, hc⟩ : ∃ c, curL.getD k 0 = c := ⟨_, rfl⟩
      obtain ⟨d, hd⟩ : ∃ d, digL.getD k 0 = d := ⟨_, rfl⟩
      rw [hc] at a1
      rw [hd] at a2
      have HC : Hid (curL.getD k 0 = c) := hc
      have HD : Hid (digL.getD k 0 = d) := hd
      clear hc hd
      cases he : (c == cur)
      · have HE : Hid (curL.getD k 0 ≠ cur) := by rw [HC.out]; simpa [Hid] using he
        go_wp2
        go_round
        case rel => exact ⟨k + 1, by omega, by go_num, fun j hj => by rcases (show j < k ∨ j = k from by omega) with h | rfl; exact HN.out j h; exact HE.out⟩
        case measure => simp [intOf]; omega
      · have HE : Hid (curL.getD k 0 = cur) := by rw [HC.out]; simpa [Hid] using he
        go_wp2
        go_ret
        exact ⟨one_int (HD.out.symm.trans (digL_at hlt HE.out)), hbel⟩
    · have : k = 8 := by omega
      subst this
      clear hcA hcB
      go_wp2
      go_ret
      exact ⟨one_int (digL_none HN.out).symm, hbel⟩

end Go.Proofs.YtenbhmmknejcjaaDoor

/- The books, plainly: lines, when they are so, a line more, an entry posted. No Go in sight. -/
namespace Go.Proofs.YtenbhmmknejcjaaDoor

/-- a line: account, currency, amount -/
abbrev Ln := Int × Int × Int
/-- an entry: from, to, currency, amount -/
abbrev En := Int × Int × Int × Int
def lnAt (ls : List Ln) (k : Nat) : Ln := ls.getD k (0, 0, 0)
theorem lnAt_is {ls : List Ln} {k : Nat} (h : k < ls.length) : lnAt ls k = ls[k] := by simp [lnAt, List.getD_eq_getElem?_getD, h]
theorem lnAt_mem {ls : List Ln} {k : Nat} (h : k < ls.length) : lnAt ls k ∈ ls := by rw [lnAt_is h]; exact List.getElem_mem h
theorem take_lnAt (ls : List Ln) (k : Nat) (h : k < ls.length) : ls.take (k + 1) = ls.take k ++ [lnAt ls k] := by rw [List.take_succ_eq_append_getElem h, lnAt_is h]
theorem drop_lnAt (ls : List Ln) (k : Nat) (h : k < ls.length) : ls.drop k = lnAt ls k :: ls.drop (k + 1) := by rw [List.drop_eq_getElem_cons h, lnAt_is h]
def acctOk (a : Int) : Bool := decide (1 ≤ a ∧ a ≤ 9999)
def lnOk (x : Ln) : Bool := acctOk x.1 && (decide (0 ≤ digs x.2.1) && (mOk x.2.2 && decide (x.2.2 ≠ 0)))
/-- one line stands behind another -/
def lnLt (x y : Ln) : Bool := decide (x.1 < y.1 ∨ x.1 = y.1 ∧ x.2.1 < y.2.1)
/-- all lines so, and each behind the one ahead of it -/
def linesOk : Option Ln → List Ln → Bool
  | _, [] => true
  | none, x :: r => lnOk x && linesOk (some x) r
  | some y, x :: r => (lnOk x && lnLt y x) && linesOk (some x) r
def sumC (cur : Int) (ls : List Ln) : Int := (ls.map fun x => if x.2.1 = cur then x.2.2 else 0).sum
theorem sumC_step (cur : Int) (ls : List Ln) (k : Nat) (h : k < ls.length) : sumC cur (ls.take (k + 1)) = sumC cur (ls.take k) + if (lnAt ls k).2.1 = cur then (lnAt ls k).2.2 else 0 := by
  rw [take_lnAt ls k h]; simp [sumC]
def evenL (ls : List Ln) : Bool := curL.all fun c => decide (sumC c ls = 0)
def ledgerOk (ls : List Ln) : Bool := linesOk none ls && (decide (ls.length ≤ 400) && evenL ls)
def entryOk (e : En) : Bool := acctOk e.1 && (acctOk e.2.1 && (decide (e.1 ≠ e.2.1) && (decide (0 ≤ digs e.2.2.1) && decide (1 ≤ e.2.2.2 ∧ e.2.2.2 ≤ 1000000000000))))
def balL : List Ln → Int → Int → Int
  | [], _, _ => 0
  | x :: r, a, c => if x.1 = a ∧ x.2.1 = c then x.2.2 else balL r a c
theorem balL_step (ls : List Ln) (k : Nat) (a c : Int) (h : k < ls.length) : balL (ls.drop k) a c = if (lnAt ls k).1 = a ∧ (lnAt ls k).2.1 = c then (lnAt ls k).2.2 else balL (ls.drop (k + 1)) a c := by
  rw [drop_lnAt ls k h]; rfl
/-- a line is at or behind a place -/
def reach (x : Ln) (a c : Int) : Bool := decide (a < x.1 ∨ x.1 = a ∧ c ≤ x.2.1)
/-- lines with more on one of them -/
def addL : List Ln → Int → Int → Int → List Ln
  | [], a, c, m => [(a, c, m)]
  | x :: r, a, c, m => if reach x a c = true then (if x.1 = a ∧ x.2.1 = c then (if x.2.2 + m ≠ 0 then (a, c, x.2.2 + m) :: r else r) else (a, c, m) :: x :: r) else x :: addL r a c m
def postTry (ls : List Ln) (e : En) : List Ln := addL (addL ls e.1 e.2.2.1 (-e.2.2.2)) e.2.1 e.2.2.1 e.2.2.2
def postOk (ls : List Ln) (e : En) : Bool := (ledgerOk ls && entryOk e) && ledgerOk (postTry ls e)
def postL (ls : List Ln) (e : En) : List Ln := if postOk ls e = true then postTry ls e else ls
/-- entries posted in a row: what comes of them, nothing when one is refused -/
def postsL : List Ln → List En → Option (List Ln)
  | ls, [] => some ls
  | ls, e :: r => if postOk ls e = true then postsL (postTry ls e) r else none
/-- the sum of all amounts above 0 in a currency (as ints of 64 bits add up) -/
def worthS (cur : Int) (s : Int) (x : Ln) : Int := if x.2.1 = cur ∧ 0 < x.2.2 then IntKind.i64.wrap (s + x.2.2) else s
def worthL (ls : List Ln) (cur : Int) : Int := ls.foldl (worthS cur) 0
theorem worthL_step (ls : List Ln) (cur : Int) (k : Nat) (h : k < ls.length) : worthL (ls.take (k + 1)) cur = worthS cur (worthL (ls.take k) cur) (lnAt ls k) := by
  rw [take_lnAt ls k h, worthL, List.foldl_append]; rfl
def backE (e : En) : En := (e.2.1, e.1, e.2.2.1, e.2.2.2)
/-- the accounts that have a line, ascending -/
def acctsL (ls : List Ln) : List Int := ((List.range 9999).map fun i : Nat => ((i : Int) + 1)).filter fun a => ls.any fun x => decide (x.1 = a)

theorem linesOk_mem {ls : List Ln} : ∀ {p : Option Ln}, linesOk p ls = true → ∀ x ∈ ls, lnOk x = true := by
  induction ls with
  | nil => intro p _ x hx; cases hx
  | cons y r ih =>
    intro p h x hx
    cases p with
    | none =>
      simp only [linesOk, Bool.and_eq_true] at h
      rcases List.mem_cons.1 hx with rfl | hr
      · exact h.1
      · exact ih h.2 x hr
    | some q =>
      simp only [linesOk, Bool.and_eq_true] at h
      rcases List.mem_cons.1 hx with rfl | hr
      · exact h.1.1
      · exact ih h.2 x hr
theorem lnOk_is {x : Ln} (h : lnOk x = true) : (1 ≤ x.1 ∧ x.1 ≤ 9999) ∧ 0 ≤ digs x.2.1 ∧ (-1000000000000 ≤ x.2.2 ∧ x.2.2 ≤ 1000000000000) ∧ x.2.2 ≠ 0 := by
  simp only [lnOk, acctOk, Bool.and_eq_true, decide_eq_true_eq] at h
  exact ⟨h.1, h.2.1, mOk_bd h.2.2.1, h.2.2.2⟩
theorem addL_len (ls : List Ln) (a c m : Int) : (addL ls a c m).length ≤ ls.length + 1 := by
  induction ls with
  | nil => simp [addL]
  | cons x r ih =>
    simp only [addL]
    split
    · split
      · split <;> simp <;> omega
      · simp
    · simp; omega

theorem mem_accts {ls : List Ln} {a : Int} : a ∈ acctsL ls ↔ (1 ≤ a ∧ a ≤ 9999) ∧ ∃ x ∈ ls, x.1 = a := by
  simp only [acctsL, List.mem_filter, List.mem_map, List.mem_range, List.any_eq_true, decide_eq_true_eq]
  constructor
  · rintro ⟨⟨i, hi, rfl⟩, h⟩
    exact ⟨by omega, h⟩
  · rintro ⟨h, hx⟩
    exact ⟨⟨(a - 1).toNat, by omega, by omega⟩, hx⟩
theorem accts_up (ls : List Ln) : (acctsL ls).Pairwise (· < ·) := by
  refine List.Pairwise.filter _ (List.pairwise_map.2 ?_)
  exact List.pairwise_lt_range.imp fun {i j} h => by omega
theorem accts_apart (ls : List Ln) : (acctsL ls).Pairwise (· ≠ ·) := (accts_up ls).imp fun h => by omega
theorem accts_len (ls : List Ln) : (acctsL ls).length ≤ 9999 := by
  refine Nat.le_trans (List.length_filter_le _ _) ?_
  simp
theorem accts_bd {ls : List Ln} {a : Int} (h : a ∈ acctsL ls) : 1 ≤ a ∧ a ≤ 9999 := (mem_accts.1 h).1

end Go.Proofs.YtenbhmmknejcjaaDoor

/- Slices of lines and of entries: those that came in, those in a row of one's own. -/
namespace Go.Proofs.YtenbhmmknejcjaaDoor
open Go.ChangeShapes Go.WideShapes Go.ChangeAt Go.RowKit Go.Deep

def wf64 (n : Int) : Prop := (Lit.int .i64 n).wf = true
def lnBd (x : Ln) : Prop := wf64 x.1 ∧ wf64 x.2.1 ∧ wf64 x.2.2
def enBd (e : En) : Prop := wf64 e.1 ∧ wf64 e.2.1 ∧ wf64 e.2.2.1 ∧ wf64 e.2.2.2
/-- The slice of lines at 'ao' reads as 'ls' in w. -/
def LinesAt (w : World) (ao : Option Addr) (ls : List Ln) : Prop :=
  ls = [] ∨ ∃ b off, ao = some ⟨b, off, none⟩ ∧ b < w.heap.size ∧ ∀ i, i < ls.length →
    w.cell? ⟨b, off + i * 3, none⟩ = some (.int .i64 (lnAt ls i).1) ∧ w.cell? ⟨b, off + i * 3 + 1, none⟩ = some (.int .i64 (lnAt ls i).2.1) ∧ w.cell? ⟨b, off + i * 3 + 2, none⟩ = some (.int .i64 (lnAt ls i).2.2)
def LinesBd (ls : List Ln) : Prop := ls.length ≤ maxLen ∧ ∀ x ∈ ls, lnBd x
theorem LinesAt.below {w w' : World} {ao : Option Addr} {ls : List Ln} (h : LinesAt w ao ls) (hb : Below w.heap.size w w') : LinesAt w' ao ls := by
  rcases h with h | ⟨b, off, h1, h2, h3⟩
  · exact .inl h
  · exact .inr ⟨b, off, h1, Nat.lt_of_lt_of_le h2 hb.size, fun i hi => ⟨(hb.cell (p := ⟨b, off + i * 3, none⟩) h2).trans (h3 i hi).1, (hb.cell (p := ⟨b, off + i * 3 + 1, none⟩) h2).trans (h3 i hi).2.1, (hb.cell (p := ⟨b, off + i * 3 + 2, none⟩) h2).trans (h3 i hi).2.2⟩⟩
theorem LinesAt.at {w : World} {ao : Option Addr} {ls : List Ln} (h : LinesAt w ao ls) {k : Nat} (hk : k < ls.length) :
    ∃ b off, ao = some ⟨b, off, none⟩ ∧ b < w.heap.size ∧ w.cell? ⟨b, off + k * 3, none⟩ = some (.int .i64 (lnAt ls k).1) ∧ w.cell? ⟨b, off + k * 3 + 1, none⟩ = some (.int .i64 (lnAt ls k).2.1) ∧ w.cell? ⟨b, off + k * 3 + 2, none⟩ = some (.int .i64 (lnAt ls k).2.2) := by
  rcases h with rfl | ⟨b, off, h1, h2, h3⟩
  · simp at hk
  · exact ⟨b, off, h1, h2, h3 k hk⟩

def enAt (es : List En) (k : Nat) : En := es.getD k (0, 0, 0, 0)
theorem enAt_is {es : List En} {k : Nat} (h : k < es.length) : enAt es k = es[k] := by simp [enAt, List.getD_eq_getElem?_getD, h]
theorem enAt_mem {es : List En} {k : Nat} (h : k < es.length) : enAt es k ∈ es := by rw [enAt_is h]; exact List.getElem_mem h
/-- The slice of entries at 'ao' reads as 'es' in w. -/
def EntsAt (w : World) (ao : Option Addr) (es : List En) : Prop :=
  es = [] ∨ ∃ b off, ao = some ⟨b, off, none⟩ ∧ b < w.heap.size ∧ ∀ i, i < es.length →
    w.cell? ⟨b, off + i * 4, none⟩ = some (.int .i64 (enAt es i).1) ∧ w.cell? ⟨b, off + i * 4 + 1, none⟩ = some (.int .i64 (enAt es i).2.1) ∧ w.cell? ⟨b, off + i * 4 + 2, none⟩ = some (.int .i64 (enAt es i).2.2.1) ∧ w.cell? ⟨b, off + i * 4 + 3, none⟩ = some (.int .i64 (enAt es i).2.2.2)
def EntsBd (es : List En) : Prop := es.length ≤ maxLen ∧ ∀ x ∈ es, enBd x
theorem EntsAt.below {w w' : World} {ao : Option Addr} {es : List En} (h : EntsAt w ao es) (hb : Below w.heap.size w w') : EntsAt w' ao es := by
  rcases h with h | ⟨b, off, h1, h2, h3⟩
  · exact .inl h
  · exact .inr ⟨b, off, h1, Nat.lt_of_lt_of_le h2 hb.size, fun i hi => ⟨(hb.cell (p := ⟨b, off + i * 4, none⟩) h2).trans (h3 i hi).1, (hb.cell (p := ⟨b, off + i * 4 + 1, none⟩) h2).trans (h3 i hi).2.1, (hb.cell (p := ⟨b, off + i * 4 + 2, none⟩) h2).trans (h3 i hi).2.2.1, (hb.cell (p := ⟨b, off + i * 4 + 3, none⟩) h2).trans (h3 i hi).2.2.2⟩⟩
theorem EntsAt.at {w : World} {ao : Option Addr} {es : List En} (h : EntsAt w ao es) {k : Nat} (hk : k < es.length) :
    ∃ b off, ao = some ⟨b, off, none⟩ ∧ b < w.heap.size ∧ w.cell? ⟨b, off + k * 4, none⟩ = some (.int .i64 (enAt es k).1) ∧ w.cell? ⟨b, off + k * 4 + 1, none⟩ = some (.int .i64 (enAt es k).2.1) ∧ w.cell? ⟨b, off + k * 4 + 2, none⟩ = some (.int .i64 (enAt es k).2.2.1) ∧ w.cell? ⟨b, off + k * 4 + 3, none⟩ = some (.int .i64 (enAt es k).2.2.2) := by
  rcases h with rfl | ⟨b, off, h1, h2, h3⟩
  · simp at hk
  · exact ⟨b, off, h1, h2, h3 k hk⟩

section
variable {P : Program} {H : Type} {enc : TypeId × Value → H} {W : World}
/-- a struct of three ints, cell by cell -/
theorem ints3 {e : TypeId} {f0 f1 f2 : Field} {fuel : Nat} {cs : List Value} {x : DataW H × List MemPlace} (he : P.underlying e = some (.struct #[f0, f1, f2])) (ce : P.cellsOf e = 3) (o0 : f0.offset = 0) (o1 : f1.offset = 1) (o2 : f2.offset = 2)
    (c0 : P.cellsOf f0.type = 1) (c1 : P.cellsOf f1.type = 1) (c2 : P.cellsOf f2.type = 1) (u0 : P.underlying f0.type = some (.int .i64)) (u1 : P.underlying f1.type = some (.int .i64)) (u2 : P.underlying f2.type = some (.int .i64))
    (h : DataW.trod enc P W 0 (fun _ => true) true fuel e cs = some x) : ∃ l : Ln, cs = [.int .i64 l.1, .int .i64 l.2.1, .int .i64 l.2.2] ∧ lnBd l := by
  obtain ⟨y0, y1, y2, n, _, hl, h0, h1, h2⟩ := trod_struct3 he h
  rw [ce] at hl
  match cs, hl with
  | [a, b, c], _ =>
    simp [o0, o1, o2, c0, c1, c2] at h0 h1 h2
    obtain ⟨z0, q0, _, r0⟩ := DataW.trod_int u0 h0
    obtain ⟨z1, q1, _, r1⟩ := DataW.trod_int u1 h1
    obtain ⟨z2, q2, _, r2⟩ := DataW.trod_int u2 h2
    simp at q0 q1 q2
    exact ⟨(z0, z1, z2), by rw [q0, q1, q2], r0, r1, r2⟩
/-- a struct of four ints, cell by cell -/
theorem ints4 {e : TypeId} {f0 f1 f2 f3 : Field} {fuel : Nat} {cs : List Value} {x : DataW H × List MemPlace} (he : P.underlying e = some (.struct #[f0, f1, f2, f3])) (ce : P.cellsOf e = 4) (o0 : f0.offset = 0) (o1 : f1.offset = 1) (o2 : f2.offset = 2) (o3 : f3.offset = 3)
    (c0 : P.cellsOf f0.type = 1) (c1 : P.cellsOf f1.type = 1) (c2 : P.cellsOf f2.type = 1) (c3 : P.cellsOf f3.type = 1) (u0 : P.underlying f0.type = some (.int .i64)) (u1 : P.underlying f1.type = some (.int .i64)) (u2 : P.underlying f2.type = some (.int .i64)) (u3 : P.underlying f3.type = some (.int .i64))
    (h : DataW.trod enc P W 0 (fun _ => true) true fuel e cs = some x) : ∃ l : En, cs = [.int .i64 l.1, .int .i64 l.2.1, .int .i64 l.2.2.1, .int .i64 l.2.2.2] ∧ enBd l := by
  obtain ⟨xs, n, _, _, hl, hxl, hf⟩ := DataW.trod_struct he h
  rw [ce] at hl
  match xs, hxl, cs, hl with
  | [y0, y1, y2, y3], _, [a, b, c, d], _ =>
    have h0 := hf 0 f0 rfl
    have h1 := hf 1 f1 rfl
    have h2 := hf 2 f2 rfl
    have h3 := hf 3 f3 rfl
    simp [o0, o1, o2, o3, c0, c1, c2, c3] at h0 h1 h2 h3
    obtain ⟨z0, q0, _, r0⟩ := DataW.trod_int u0 h0
    obtain ⟨z1, q1, _, r1⟩ := DataW.trod_int u1 h1
    obtain ⟨z2, q2, _, r2⟩ := DataW.trod_int u2 h2
    obtain ⟨z3, q3, _, r3⟩ := DataW.trod_int u3 h3
    simp at q0 q1 q2 q3
    exact ⟨(z0, z1, z2, z3), by rw [q0, q1, q2, q3], r0, r1, r2, r3⟩
theorem add_at3 (b off i j : Nat) : ((⟨b, off, none⟩ : Addr).add i).add j = ⟨b, off + i + j, none⟩ := by
  have e : ∀ o k, ((⟨b, o, none⟩ : Addr).add k) = ⟨b, o + k, none⟩ := fun o k => by unfold Addr.add; split <;> simp_all
  rw [e, e]
/-- a slice of structs of three ints -/
theorem lines_open {t e : TypeId} {f0 f1 f2 : Field} {fuel : Nat} {y : Value} {x : DataW H × List MemPlace} (ht : P.underlying t = some (.slice e)) (he : P.underlying e = some (.struct #[f0, f1, f2])) (ce : P.cellsOf e = 3) (o0 : f0.offset = 0) (o1 : f1.offset = 1) (o2 : f2.offset = 2)
    (c0 : P.cellsOf f0.type = 1) (c1 : P.cellsOf f1.type = 1) (c2 : P.cellsOf f2.type = 1) (u0 : P.underlying f0.type = some (.int .i64)) (u1 : P.underlying f1.type = some (.int .i64)) (u2 : P.underlying f2.type = some (.int .i64))
    (h : DataW.trod enc P W 0 (fun _ => true) true fuel t [y] = some x) : ∃ a cap ls, y = .slice a (List.length ls) cap ∧ LinesAt W a ls ∧ LinesBd ls := by
  rcases open_slice ht h with ⟨e1, _⟩ | ⟨a, len, cap, m, n, D, Pl, e1, hb, hlc, hm, hmm, _, hx⟩
  · simp at e1
    exact ⟨none, 0, [], by rw [e1]; rfl, .inl rfl, Nat.zero_le _, fun f hf => by cases hf⟩
  · simp at e1 hmm
    subst hmm
    obtain ⟨F, hF⟩ := choose_lt (α := Ln) (n := m) (p := fun i l => W.cells? 0 (a.add (i * P.cellsOf e)) (P.cellsOf e) = some [.int .i64 l.1, .int .i64 l.2.1, .int .i64 l.2.2] ∧ lnBd l) (fun i hi => by
      obtain ⟨cs', g1, g2⟩ := hx i hi
      obtain ⟨l, rfl, hl⟩ := ints3 he ce o0 o1 o2 c0 c1 c2 u0 u1 u2 g2
      exact ⟨l, g1, hl⟩)
    refine ⟨some a, m, (List.range len).map F, by rw [e1]; simp, ?_, by rw [List.length_map, List.length_range]; exact Nat.le_trans hlc hm, fun f hf => by
      obtain ⟨i, hi, rfl⟩ := List.mem_map.1 hf
      exact (hF i (by have := List.mem_range.1 hi; omega)).2⟩
    by_cases hz : len = 0
    · subst hz; exact .inl rfl
    · have each : ∀ i, i < len → ∀ j v, [Value.int .i64 (F i).1, .int .i64 (F i).2.1, .int .i64 (F i).2.2][j]? = some v → W.cell? ((a.add (i * 3)).add j) = some v := fun i hi j v hv => by
        have g := (hF i (by omega)).1
        rw [ce] at g
        obtain ⟨_, _, hcell⟩ := World.cells?_some g
        have := hcell j (by have := (List.getElem?_eq_some_iff.1 hv).1; simpa using this)
        rw [this]; simpa using hv
      obtain ⟨bk, off, spot⟩ := a
      have hc0 := each 0 (by omega) 0 _ rfl
      have hspot : spot = none := by simpa [Addr.add] using World.cell?_spot hc0
      subst hspot
      refine .inr ⟨bk, off, rfl, ?_, fun i hi => ?_⟩
      · have := World.block_lt_of_cell? W _ hc0
        simpa [add_at3] using this
      · have hi' : i < len := by simpa using hi
        have hat : lnAt ((List.range len).map F) i = F i := by simp [lnAt, List.getD_eq_getElem?_getD, hi']
        rw [hat]
        have g0 := each i hi' 0 _ rfl
        have g1 := each i hi' 1 _ rfl
        have g2 := each i hi' 2 _ rfl
        rw [add_at3] at g0 g1 g2
        exact ⟨g0, g1, g2⟩
/-- a slice of structs of four ints -/
theorem ents_open {t e : TypeId} {f0 f1 f2 f3 : Field} {fuel : Nat} {y : Value} {x : DataW H × List MemPlace} (ht : P.underlying t = some (.slice e)) (he : P.underlying e = some (.struct #[f0, f1, f2, f3])) (ce : P.cellsOf e = 4) (o0 : f0.offset = 0) (o1 : f1.offset = 1) (o2 : f2.offset = 2) (o3 : f3.offset = 3)
    (c0 : P.cellsOf f0.type = 1) (c1 : P.cellsOf f1.type = 1) (c2 : P.cellsOf f2.type = 1) (c3 : P.cellsOf f3.type = 1) (u0 : P.underlying f0.type = some (.int .i64)) (u1 : P.underlying f1.type = some (.int .i64)) (u2 : P.underlying f2.type = some (.int .i64)) (u3 : P.underlying f3.type = some (.int .i64))
    (h : DataW.trod enc P W 0 (fun _ => true) true fuel t [y] = some x) : ∃ a cap ls, y = .slice a (List.length ls) cap ∧ EntsAt W a ls ∧ EntsBd ls := by
  rcases open_slice ht h with ⟨e1, _⟩ | ⟨a, len, cap, m, n, D, Pl, e1, hb, hlc, hm, hmm, _, hx⟩
  · simp at e1
    exact ⟨none, 0, [], by rw [e1]; rfl, .inl rfl, Nat.zero_le _, fun f hf => by cases hf⟩
  · simp at e1 hmm
    subst hmm
    obtain ⟨F, hF⟩ := choose_lt (α := En) (n := m) (p := fun i l => W.cells? 0 (a.add (i * P.cellsOf e)) (P.cellsOf e) = some [.int .i64 l.1, .int .i64 l.2.1, .int .i64 l.2.2.1, .int .i64 l.2.2.2] ∧ enBd l) (fun i hi => by
      obtain ⟨cs', g1, g2⟩ := hx i hi
      obtain ⟨l, rfl, hl⟩ := ints4 he ce o0 o1 o2 o3 c0 c1 c2 c3 u0 u1 u2 u3 g2
      exact ⟨l, g1, hl⟩)
    refine ⟨some a, m, (List.range len).map F, by rw [e1]; simp, ?_, by rw [List.length_map, List.length_range]; exact Nat.le_trans hlc hm, fun f hf => by
      obtain ⟨i, hi, rfl⟩ := List.mem_map.1 hf
      exact (hF i (by have := List.mem_range.1 hi; omega)).2⟩
    by_cases hz : len = 0
    · subst hz; exact .inl rfl
    · have each : ∀ i, i < len → ∀ j v, [Value.int .i64 (F i).1, .int .i64 (F i).2.1, .int .i64 (F i).2.2.1, .int .i64 (F i).2.2.2][j]? = some v → W.cell? ((a.add (i * 4)).add j) = some v := fun i hi j v hv => by
        have g := (hF i (by omega)).1
        rw [ce] at g
        obtain ⟨_, _, hcell⟩ := World.cells?_some g
        have := hcell j (by have := (List.getElem?_eq_some_iff.1 hv).1; simpa using this)
        rw [this]; simpa using hv
      obtain ⟨bk, off, spot⟩ := a
      have hc0 := each 0 (by omega) 0 _ rfl
      have hspot : spot = none := by simpa [Addr.add] using World.cell?_spot hc0
      subst hspot
      refine .inr ⟨bk, off, rfl, ?_, fun i hi => ?_⟩
      · have := World.block_lt_of_cell? W _ hc0
        simpa [add_at3] using this
      · have hi' : i < len := by simpa using hi
        have hat : enAt ((List.range len).map F) i = F i := by simp [enAt, List.getD_eq_getElem?_getD, hi']
        rw [hat]
        have g0 := each i hi' 0 _ rfl
        have g1 := each i hi' 1 _ rfl
        have g2 := each i hi' 2 _ rfl
        have g3 := each i hi' 3 _ rfl
        rw [add_at3] at g0 g1 g2 g3
        exact ⟨g0, g1, g2, g3⟩
/-- a struct whose one field is a slice of structs of three ints -/
theorem is_ledger {r : Reach} {base : Nat} {t e : TypeId} {g0 f0 f1 f2 : Field} {v : Value} {d : DataW H} {p : List MemPlace} (hg : P.underlying t = some (.struct #[g0])) (cg : P.cellsOf t = 1) (og : g0.offset = 0) (cg0 : P.cellsOf g0.type = 1) (ht : P.underlying g0.type = some (.slice e))
    (he : P.underlying e = some (.struct #[f0, f1, f2])) (ce : P.cellsOf e = 3) (o0 : f0.offset = 0) (o1 : f1.offset = 1) (o2 : f2.offset = 2)
    (c0 : P.cellsOf f0.type = 1) (c1 : P.cellsOf f1.type = 1) (c2 : P.cellsOf f2.type = 1) (u0 : P.underlying f0.type = some (.int .i64)) (u1 : P.underlying f1.type = some (.int .i64)) (u2 : P.underlying f2.type = some (.int .i64))
    (hv : Value.okWide P W r base t v) (h : DataW.Trod enc P W 0 (fun _ => true) true t v d p) : ∃ a cap ls, v = .agg #[.slice a (List.length ls) cap] ∧ LinesAt W a ls ∧ LinesBd ls := by
  obtain ⟨cs, rfl, _⟩ := okWide_struct hg hv
  obtain ⟨fuel, hf⟩ := h
  obtain ⟨y0, m, _, hl, h0⟩ := trod_struct1 hg hf
  simp only [Value.cells] at hl h0
  rw [cg] at hl
  obtain ⟨l⟩ := cs
  match l, hl with
  | [y], _ =>
    simp [og, cg0] at h0
    obtain ⟨a, cap, ls, e1, e2, e3⟩ := lines_open ht he ce o0 o1 o2 c0 c1 c2 u0 u1 u2 h0
    exact ⟨a, cap, ls, by rw [e1], e2, e3⟩
theorem is_entry {r : Reach} {base : Nat} {t : TypeId} {f0 f1 f2 f3 : Field} {v : Value} {d : DataW H} {p : List MemPlace} (he : P.underlying t = some (.struct #[f0, f1, f2, f3])) (ce : P.cellsOf t = 4) (o0 : f0.offset = 0) (o1 : f1.offset = 1) (o2 : f2.offset = 2) (o3 : f3.offset = 3)
    (c0 : P.cellsOf f0.type = 1) (c1 : P.cellsOf f1.type = 1) (c2 : P.cellsOf f2.type = 1) (c3 : P.cellsOf f3.type = 1) (u0 : P.underlying f0.type = some (.int .i64)) (u1 : P.underlying f1.type = some (.int .i64)) (u2 : P.underlying f2.type = some (.int .i64)) (u3 : P.underlying f3.type = some (.int .i64))
    (hv : Value.okWide P W r base t v) (h : DataW.Trod enc P W 0 (fun _ => true) true t v d p) : ∃ a b c m, v = .agg #[.int .i64 a, .int .i64 b, .int .i64 c, .int .i64 m] ∧ enBd (a, b, c, m) := by
  obtain ⟨cs, rfl, _⟩ := okWide_struct he hv
  obtain ⟨fuel, hf⟩ := h
  obtain ⟨l, e1, e2⟩ := ints4 he ce o0 o1 o2 o3 c0 c1 c2 c3 u0 u1 u2 u3 hf
  simp only [Value.cells] at e1
  obtain ⟨cl⟩ := cs
  simp only at e1
  subst e1
  exact ⟨l.1, l.2.1, l.2.2.1, l.2.2.2, rfl, e2⟩
theorem is_ents {r : Reach} {base : Nat} {t e : TypeId} {f0 f1 f2 f3 : Field} {v : Value} {d : DataW H} {p : List MemPlace} (ht : P.underlying t = some (.slice e)) (he : P.underlying e = some (.struct #[f0, f1, f2, f3])) (ce : P.cellsOf e = 4) (o0 : f0.offset = 0) (o1 : f1.offset = 1) (o2 : f2.offset = 2) (o3 : f3.offset = 3)
    (c0 : P.cellsOf f0.type = 1) (c1 : P.cellsOf f1.type = 1) (c2 : P.cellsOf f2.type = 1) (c3 : P.cellsOf f3.type = 1) (u0 : P.underlying f0.type = some (.int .i64)) (u1 : P.underlying f1.type = some (.int .i64)) (u2 : P.underlying f2.type = some (.int .i64)) (u3 : P.underlying f3.type = some (.int .i64))
    (hv : Value.okWide P W r base t v) (h : DataW.Trod enc P W 0 (fun _ => true) true t v d p) : ∃ a cap es, v = .slice a (List.length es) cap ∧ EntsAt W a es ∧ EntsBd es := by
  obtain ⟨va, vl, vc, rfl⟩ := okWide_slice ht hv
  obtain ⟨fuel, h1⟩ := h
  exact ents_open ht he ce o0 o1 o2 o3 c0 c1 c2 c3 u0 u1 u2 u3 h1
end

def lcell (x : Ln) : List Value := [.int .i64 x.1, .int .i64 x.2.1, .int .i64 x.2.2]
def lcells (ls : List Ln) : List Value := ls.flatMap lcell
theorem lcells_cons (x : Ln) (r : List Ln) : lcells (x :: r) = .int .i64 x.1 :: .int .i64 x.2.1 :: .int .i64 x.2.2 :: lcells r := rfl
theorem lcells_append (a b : List Ln) : lcells (a ++ b) = lcells a ++ lcells b := by simp [lcells]
theorem lcells_len (ls : List Ln) : (lcells ls).length = ls.length * 3 := by
  induction ls with
  | nil => rfl
  | cons f r ih => rw [lcells_cons]; simp [ih]; omega
theorem lcells_at (ls : List Ln) : ∀ k, k < ls.length → (lcells ls)[k * 3]? = some (.int .i64 (lnAt ls k).1) ∧ (lcells ls)[k * 3 + 1]? = some (.int .i64 (lnAt ls k).2.1) ∧ (lcells ls)[k * 3 + 2]? = some (.int .i64 (lnAt ls k).2.2) := by
  induction ls with
  | nil => intro k h; simp at h
  | cons f r ih =>
    intro k h
    rw [lcells_cons]
    cases k with
    | zero => exact ⟨rfl, rfl, rfl⟩
    | succ k =>
      have := ih k (by simpa using h)
      rw [show (k + 1) * 3 = k * 3 + 1 + 1 + 1 by omega]
      simp only [List.getElem?_cons_succ]
      exact this
theorem lcells_set (ls : List Ln) (x : Ln) : ∀ k, k < ls.length → (((lcells ls).set (k * 3) (.int .i64 x.1)).set (k * 3 + 1) (.int .i64 x.2.1)).set (k * 3 + 2) (.int .i64 x.2.2) = lcells (ls.set k x) := by
  induction ls with
  | nil => intro k h; simp at h
  | cons g r ih =>
    intro k h
    rw [lcells_cons]
    cases k with
    | zero => rfl
    | succ k =>
      have := ih k (by simpa using h)
      rw [show (k + 1) * 3 = k * 3 + 1 + 1 + 1 by omega]
      simp only [List.set_cons_succ]
      rw [this]
      rfl
theorem lcells_one (ls : List Ln) : ∀ u ∈ lcells ls, u.oneCell' = true := by
  intro u hu
  simp only [lcells, List.mem_flatMap, lcell] at hu
  obtain ⟨f, _, hf⟩ := hu
  simp at hf
  rcases hf with rfl | rfl | rfl <;> rfl
theorem lines_of_own {w : World} {base n : Nat} {t : TypeId} {v : Value} {ls : List Ln} (h : w.ownsRow base t 3 v n (lcells ls)) : ∃ ao cap, v = .slice ao ls.length cap ∧ LinesAt w ao ls ∧ n = ls.length := by
  have hn : n = ls.length := by have := h.1; rw [lcells_len] at this; omega
  subst hn
  rcases h.2 with ⟨rfl, hn⟩ | ⟨g, cap, cur, rfl, _⟩
  · have : ls = [] := List.eq_nil_of_length_eq_zero hn
    subst this
    exact ⟨none, 0, rfl, .inl rfl, rfl⟩
  · refine ⟨_, cap, rfl, ?_, rfl⟩
    by_cases h0 : ls = []
    · exact .inl h0
    · refine .inr ⟨g, 0, rfl, (h.lt g rfl).2, fun i hi => ?_⟩
      have := lcells_at ls i hi
      rw [Nat.zero_add, h.cellAt (i * 3) (by omega), h.cellAt (i * 3 + 1) (by omega), h.cellAt (i * 3 + 2) (by omega)]
      exact this

end Go.Proofs.YtenbhmmknejcjaaDoor

/- The laws' own functions over lines and ledgers: how much one takes, its copy, whether two are the same, marks in one's own. -/
namespace Go.Proofs.YtenbhmmknejcjaaDoor
open Go.RowKit
set_option maxRecDepth 100000

theorem keepL {w w' : World} {base n size : Nat} {t : TypeId} {v : Value} {xs : List Value} (h : w.ownsRow base t size v n xs) (hb : Below w.heap.size w w') : w'.ownsRow base t size v n xs := by
  obtain ⟨h1, h2⟩ := h
  refine ⟨h1, ?_⟩
  rcases h2 with h | ⟨g, cap, cur, hv, hg, hh, a1, a2, a3, a4⟩
  · exact .inl h
  · have hlt : g < w.heap.size := (Array.getElem?_eq_some_iff.1 hh).1
    exact .inr ⟨g, cap, cur, hv, hg, (hb.block g hlt).trans hh, a1, a2, a3, a4⟩
theorem keepSetL {w : World} {base n size : Nat} {t : TypeId} {v : Value} {xs : List Value} (h : w.ownsRow base t size v n xs) (p : Addr) (u : Value) (hp : ∀ g, v.ownBlock = some g → g ≠ p.block) : (w.setCell p u).ownsRow base t size v n xs := by
  obtain ⟨h1, h2⟩ := h
  refine ⟨h1, ?_⟩
  rcases h2 with h | ⟨g, cap, cur, hv, hg, hh, a1, a2, a3, a4⟩
  · exact .inl h
  · exact .inr ⟨g, cap, cur, hv, hg, (Below.heap_setCell w p u g (hp g (by rw [hv]; rfl))).trans hh, a1, a2, a3, a4⟩
theorem lowerL {w : World} {base base' n size : Nat} {t : TypeId} {v : Value} {xs : List Value} (h : w.ownsRow base t size v n xs) (hb : base' ≤ base) : w.ownsRow base' t size v n xs := by
  obtain ⟨h1, h2⟩ := h
  refine ⟨h1, ?_⟩
  rcases h2 with h | ⟨g, cap, cur, hv, hg, r⟩
  · exact .inl h
  · exact .inr ⟨g, cap, cur, hv, Nat.le_trans hb hg, r⟩

def leftL (n : Nat) (left : Int) : Int := if left - (n : Int) < 0 then -1 else left - (n : Int)


/-- what a copy holds behind k rounds -/
def halfL (ls : List Ln) (k : Nat) : List Ln := ls.take k ++ List.replicate (ls.length - k) (0, 0, 0)
theorem halfL_all (ls : List Ln) : halfL ls ls.length = ls := by simp [halfL]
theorem halfL_len (ls : List Ln) (k : Nat) (h : k ≤ ls.length) : (halfL ls k).length = ls.length := by simp [halfL]; omega
theorem halfL_succ (ls : List Ln) (k : Nat) (h : k < ls.length) : (halfL ls k).set k (lnAt ls k) = halfL ls (k + 1) := by
  unfold halfL
  rw [List.set_append, if_neg (by simp; omega), List.length_take, Nat.min_eq_left (Nat.le_of_lt h), Nat.sub_self, show ls.length - k = ls.length - (k + 1) + 1 by omega, List.replicate_succ, List.set_cons_zero, take_lnAt ls k h, List.append_assoc]
  rfl
theorem halfL_at (ls : List Ln) (k : Nat) (h : k < ls.length) : lnAt (halfL ls k) k = (0, 0, 0) := by
  simp [lnAt, halfL, List.getD_eq_getElem?_getD, List.getElem?_append, Nat.min_eq_left (Nat.le_of_lt h), List.getElem?_replicate]
  split <;> rfl
theorem cells_repL (m : Nat) : (madeCells (Value.agg #[.int .i64 0, .int .i64 0, .int .i64 0]).cells (m * 3)).toList = lcells (List.replicate m (0, 0, 0)) := by
  apply List.ext_getElem?
  intro j
  by_cases hj : j < m * 3
  · have hq : j / 3 < (List.replicate m ((0 : Int), (0 : Int), (0 : Int))).length := by simp; omega
    have ha : lnAt (List.replicate m ((0 : Int), (0 : Int), (0 : Int))) (j / 3) = (0, 0, 0) := by
      simp [lnAt, List.getD_eq_getElem?_getD, List.getElem?_replicate]; split <;> rfl
    have h := lcells_at _ _ hq
    rw [ha] at h
    have hl : (madeCells (Value.agg #[.int .i64 0, .int .i64 0, .int .i64 0]).cells (m * 3)).toList[j]? = some ((#[Value.int .i64 0, .int .i64 0, .int .i64 0] : Array Value)[j % 3]!) := by
      simp [madeCells, hj, Value.cells]
    rcases (show j % 3 = 0 ∨ j % 3 = 1 ∨ j % 3 = 2 by omega) with e | e | e
    · rw [hl, e, show j = j / 3 * 3 by omega, h.1]; rfl
    · rw [hl, e, show j = j / 3 * 3 + 1 by omega, h.2.1]; rfl
    · rw [hl, e, show j = j / 3 * 3 + 2 by omega, h.2.2]; rfl
  · rw [List.getElem?_eq_none (by rw [Array.length_toList, size_madeCells]; omega), List.getElem?_eq_none (by rw [lcells_len]; simp; omega)]


theorem lines_any {w : World} {base n : Nat} {t : TypeId} {ao : Option Addr} {cap : Nat} {ls : List Ln} (h : w.ownsRow base t 3 (.slice ao ls.length cap) n (lcells ls)) : LinesAt w ao ls := by
  obtain ⟨ao', cap', hv, hf, _⟩ := lines_of_own h
  obtain ⟨rfl, _⟩ : ao = ao' ∧ cap = cap' := by simpa using hv
  exact hf



end Go.Proofs.YtenbhmmknejcjaaDoor

/- The laws' own functions over ledgers and entries: a ledger's copy, whether two are the same, marks in one's own lines; an entry's copy. -/
namespace Go.Proofs.YtenbhmmknejcjaaDoor
open Go.RowKit
set_option maxRecDepth 100000



/-- the marks of n lines, from k on -/
def mkL (k n : Nat) : List Ln := (List.range n).map fun i => (((k + 3 * i : Nat) : Int), ((k + 3 * i + 1 : Nat) : Int), ((k + 3 * i + 2 : Nat) : Int))
theorem mkL_len (k n : Nat) : (mkL k n).length = n := by simp [mkL]
theorem mkL_at (k n i : Nat) (h : i < n) : lnAt (mkL k n) i = (((k + 3 * i : Nat) : Int), ((k + 3 * i + 1 : Nat) : Int), ((k + 3 * i + 2 : Nat) : Int)) := by simp [lnAt, mkL, List.getD_eq_getElem?_getD, h]
def fillL (ls : List Ln) (k j : Nat) : List Ln := mkL k j ++ ls.drop j
theorem fillL_len (ls : List Ln) (k j : Nat) (h : j ≤ ls.length) : (fillL ls k j).length = ls.length := by simp [fillL, mkL_len]; omega
theorem fillL_zero (ls : List Ln) (k : Nat) : fillL ls k 0 = ls := by simp [fillL, mkL]
theorem fillL_all (ls : List Ln) (k : Nat) : fillL ls k ls.length = mkL k ls.length := by simp [fillL]
theorem fillL_succ (ls : List Ln) (k j : Nat) (h : j < ls.length) : (fillL ls k j).set j (((k + 3 * j : Nat) : Int), ((k + 3 * j + 1 : Nat) : Int), ((k + 3 * j + 2 : Nat) : Int)) = fillL ls k (j + 1) := by
  unfold fillL
  rw [List.set_append, if_neg (by rw [mkL_len]; omega), mkL_len, Nat.sub_self, List.drop_eq_getElem_cons h, List.set_cons_zero]
  simp [mkL, List.range_succ]






end Go.Proofs.YtenbhmmknejcjaaDoor

/- The laws' own functions over slices of entries: how much one takes, its copy, whether two are the same, marks in one's own. -/
namespace Go.Proofs.YtenbhmmknejcjaaDoor
open Go.RowKit
set_option maxRecDepth 100000

def ecell (x : En) : List Value := [.int .i64 x.1, .int .i64 x.2.1, .int .i64 x.2.2.1, .int .i64 x.2.2.2]
def ecells (es : List En) : List Value := es.flatMap ecell
theorem ecells_cons (x : En) (r : List En) : ecells (x :: r) = .int .i64 x.1 :: .int .i64 x.2.1 :: .int .i64 x.2.2.1 :: .int .i64 x.2.2.2 :: ecells r := rfl
theorem ecells_len (es : List En) : (ecells es).length = es.length * 4 := by
  induction es with
  | nil => rfl
  | cons f r ih => rw [ecells_cons]; simp [ih]; omega
theorem ecells_at (es : List En) : ∀ k, k < es.length → (ecells es)[k * 4]? = some (.int .i64 (enAt es k).1) ∧ (ecells es)[k * 4 + 1]? = some (.int .i64 (enAt es k).2.1) ∧ (ecells es)[k * 4 + 2]? = some (.int .i64 (enAt es k).2.2.1) ∧ (ecells es)[k * 4 + 3]? = some (.int .i64 (enAt es k).2.2.2) := by
  induction es with
  | nil => intro k h; simp at h
  | cons f r ih =>
    intro k h
    rw [ecells_cons]
    cases k with
    | zero => exact ⟨rfl, rfl, rfl, rfl⟩
    | succ k =>
      have := ih k (by simpa using h)
      rw [show (k + 1) * 4 = k * 4 + 1 + 1 + 1 + 1 by omega]
      simp only [List.getElem?_cons_succ]
      exact this
theorem ecells_set (es : List En) (x : En) : ∀ k, k < es.length → ((((ecells es).set (k * 4) (.int .i64 x.1)).set (k * 4 + 1) (.int .i64 x.2.1)).set (k * 4 + 2) (.int .i64 x.2.2.1)).set (k * 4 + 3) (.int .i64 x.2.2.2) = ecells (es.set k x) := by
  induction es with
  | nil => intro k h; simp at h
  | cons g r ih =>
    intro k h
    rw [ecells_cons]
    cases k with
    | zero => rfl
    | succ k =>
      have := ih k (by simpa using h)
      rw [show (k + 1) * 4 = k * 4 + 1 + 1 + 1 + 1 by omega]
      simp only [List.set_cons_succ]
      rw [this]
      rfl
theorem ents_of_own {w : World} {base n : Nat} {t : TypeId} {v : Value} {es : List En} (h : w.ownsRow base t 4 v n (ecells es)) : ∃ ao cap, v = .slice ao es.length cap ∧ EntsAt w ao es ∧ n = es.length := by
  have hn : n = es.length := by have := h.1; rw [ecells_len] at this; omega
  subst hn
  rcases h.2 with ⟨rfl, hn⟩ | ⟨g, cap, cur, rfl, _⟩
  · have : es = [] := List.eq_nil_of_length_eq_zero hn
    subst this
    exact ⟨none, 0, rfl, .inl rfl, rfl⟩
  · refine ⟨_, cap, rfl, ?_, rfl⟩
    by_cases h0 : es = []
    · exact .inl h0
    · refine .inr ⟨g, 0, rfl, (h.lt g rfl).2, fun i hi => ?_⟩
      have := ecells_at es i hi
      rw [Nat.zero_add, h.cellAt (i * 4) (by omega), h.cellAt (i * 4 + 1) (by omega), h.cellAt (i * 4 + 2) (by omega), h.cellAt (i * 4 + 3) (by omega)]
      exact this
theorem ents_any {w : World} {base n : Nat} {t : TypeId} {ao : Option Addr} {cap : Nat} {es : List En} (h : w.ownsRow base t 4 (.slice ao es.length cap) n (ecells es)) : EntsAt w ao es := by
  obtain ⟨ao', cap', hv, hf, _⟩ := ents_of_own h
  obtain ⟨rfl, _⟩ : ao = ao' ∧ cap = cap' := by simpa using hv
  exact hf
theorem take_enAt (es : List En) (k : Nat) (h : k < es.length) : es.take (k + 1) = es.take k ++ [enAt es k] := by rw [List.take_succ_eq_append_getElem h, enAt_is h]


/-- what a copy holds behind k rounds -/
def halfE (es : List En) (k : Nat) : List En := es.take k ++ List.replicate (es.length - k) (0, 0, 0, 0)
theorem halfE_all (es : List En) : halfE es es.length = es := by simp [halfE]
theorem halfE_len (es : List En) (k : Nat) (h : k ≤ es.length) : (halfE es k).length = es.length := by simp [halfE]; omega
theorem halfE_succ (es : List En) (k : Nat) (h : k < es.length) : (halfE es k).set k (enAt es k) = halfE es (k + 1) := by
  unfold halfE
  rw [List.set_append, if_neg (by simp; omega), List.length_take, Nat.min_eq_left (Nat.le_of_lt h), Nat.sub_self, show es.length - k = es.length - (k + 1) + 1 by omega, List.replicate_succ, List.set_cons_zero, take_enAt es k h, List.append_assoc]
  rfl
theorem halfE_at (es : List En) (k : Nat) (h : k < es.length) : enAt (halfE es k) k = (0, 0, 0, 0) := by
  simp [enAt, halfE, List.getD_eq_getElem?_getD, List.getElem?_append, Nat.min_eq_left (Nat.le_of_lt h), List.getElem?_replicate]
  split <;> rfl
theorem infoE : (Tryd.prog.info? 36).map (fun i => (i.zero, i.size, i.bytes)) = some (some (.agg #[.int .i64 0, .int .i64 0, .int .i64 0, .int .i64 0]), 4, 32) := by kernel_rfl
theorem cells_repE (m : Nat) : (madeCells (Value.agg #[.int .i64 0, .int .i64 0, .int .i64 0, .int .i64 0]).cells (m * 4)).toList = ecells (List.replicate m (0, 0, 0, 0)) := by
  apply List.ext_getElem?
  intro j
  by_cases hj : j < m * 4
  · have hq : j / 4 < (List.replicate m ((0 : Int), (0 : Int), (0 : Int), (0 : Int))).length := by simp; omega
    have ha : enAt (List.replicate m ((0 : Int), (0 : Int), (0 : Int), (0 : Int))) (j / 4) = (0, 0, 0, 0) := by
      simp [enAt, List.getD_eq_getElem?_getD, List.getElem?_replicate]; split <;> rfl
    have h := ecells_at _ _ hq
    rw [ha] at h
    have hl : (madeCells (Value.agg #[.int .i64 0, .int .i64 0, .int .i64 0, .int .i64 0]).cells (m * 4)).toList[j]? = some ((#[Value.int .i64 0, .int .i64 0, .int .i64 0, .int .i64 0] : Array Value)[j % 4]!) := by
      simp [madeCells, hj, Value.cells]
    rcases (show j % 4 = 0 ∨ j % 4 = 1 ∨ j % 4 = 2 ∨ j % 4 = 3 by omega) with e | e | e | e
    · rw [hl, e, show j = j / 4 * 4 by omega, h.1]; rfl
    · rw [hl, e, show j = j / 4 * 4 + 1 by omega, h.2.1]; rfl
    · rw [hl, e, show j = j / 4 * 4 + 2 by omega, h.2.2.1]; rfl
    · rw [hl, e, show j = j / 4 * 4 + 3 by omega, h.2.2.2]; rfl
  · rw [List.getElem?_eq_none (by rw [Array.length_toList, size_madeCells]; omega), List.getElem?_eq_none (by rw [ecells_len]; simp; omega)]




end Go.Proofs.YtenbhmmknejcjaaDoor

/- Cases, plainly: reasons, when a case is so, what a start answers. No Go in sight. -/
namespace Go.Proofs.YtenbhmmknejcjaaDoor

/-- a case -/
structure Cs where
  iss : Int
  acq : Int
  cur : Int
  am : Int
  st : Int
  rsn : Int
  cl : Int
  bk : Int
  fee : Int
  cop : Bool
  sta : Int
  due : Int
/-- an act -/
structure Ac where
  kind : Int
  am : Int
  rsn : Int

def rOk (x : Int) : Bool := x == 4837 || x == 4855 || x == 4834 || x == 4831 || x == 4853 || x == 4841
def rDays (x : Int) : Int := if x = 4837 then 85 else if x = 4855 then 65 else if x = 4834 then 45 else if x = 4831 then 45 else if x = 4853 then 65 else if x = 4841 then 45 else -1
def rPart (x : Int) : Bool := x == 4831 || x == 4853
def rProof (x : Int) : Bool := x == 4837 || x == 4834
theorem r_cases (x : Int) : x = 4837 ∨ x = 4855 ∨ x = 4834 ∨ x = 4831 ∨ x = 4853 ∨ x = 4841 ∨ (x ≠ 4837 ∧ x ≠ 4855 ∧ x ≠ 4834 ∧ x ≠ 4831 ∧ x ≠ 4853 ∧ x ≠ 4841) := by omega
theorem rOk_no {x : Int} (h : x ≠ 4837 ∧ x ≠ 4855 ∧ x ≠ 4834 ∧ x ≠ 4831 ∧ x ≠ 4853 ∧ x ≠ 4841) : rOk x = false := by simp [rOk, h]
theorem rDays_no {x : Int} (h : x ≠ 4837 ∧ x ≠ 4855 ∧ x ≠ 4834 ∧ x ≠ 4831 ∧ x ≠ 4853 ∧ x ≠ 4841) : rDays x = -1 := by simp [rDays, h]
theorem rPart_no {x : Int} (h : x ≠ 4837 ∧ x ≠ 4855 ∧ x ≠ 4834 ∧ x ≠ 4831 ∧ x ≠ 4853 ∧ x ≠ 4841) : rPart x = false := by simp [rPart, h]
theorem rProof_no {x : Int} (h : x ≠ 4837 ∧ x ≠ 4855 ∧ x ≠ 4834 ∧ x ≠ 4831 ∧ x ≠ 4853 ∧ x ≠ 4841) : rProof x = false := by simp [rProof, h]

def early (st : Int) : Bool := decide (0 ≤ st ∧ st ≤ 2) || decide (st = 7)
def party (a : Int) : Bool := acctOk a && decide (a ≠ 9999)
def reasonOkAt (r st : Int) : Bool := rOk r || (decide (r = 0) && early st)
/-- when a case is so -/
def caseOk (c : Cs) : Bool :=
  party c.iss && (party c.acq && (decide (c.iss ≠ c.acq) && (decide (0 ≤ digs c.cur) && (decide (1 ≤ c.am ∧ c.am ≤ 100000000000) && (decide (0 ≤ c.st ∧ c.st ≤ 7) && (reasonOkAt c.rsn c.st &&
    (decide (0 ≤ c.cl ∧ c.cl ≤ c.am) && (decide (0 ≤ c.bk ∧ c.bk ≤ c.am) && (decide (0 ≤ c.fee ∧ c.fee ≤ 500000) && (dOk c.sta && (dOk c.due || decide (c.due = -1))))))))))))
theorem caseOk_parts {c : Cs} (h : caseOk c = true) : party c.iss = true ∧ party c.acq = true ∧ c.iss ≠ c.acq ∧ 0 ≤ digs c.cur ∧ (1 ≤ c.am ∧ c.am ≤ 100000000000) ∧ (0 ≤ c.st ∧ c.st ≤ 7) ∧ reasonOkAt c.rsn c.st = true ∧
    (0 ≤ c.cl ∧ c.cl ≤ c.am) ∧ (0 ≤ c.bk ∧ c.bk ≤ c.am) ∧ (0 ≤ c.fee ∧ c.fee ≤ 500000) ∧ dOk c.sta = true ∧ (dOk c.due = true ∨ c.due = -1) := by
  simpa [caseOk] using h

/-- what a start answers -/
def startC (iss acq cur am day : Int) : Cs := ⟨iss, acq, cur, am, 0, 0, 0, 0, 0, false, day, -1⟩

end Go.Proofs.YtenbhmmknejcjaaDoor

/- A case as it lies: its value, its box, what stays of it. -/
namespace Go.Proofs.YtenbhmmknejcjaaDoor
open Go.RowKit
set_option maxRecDepth 100000

/-- a case as a value, and as cells -/
def cv (c : Cs) : Value := .agg #[.int .i64 c.iss, .int .i64 c.acq, .int .i64 c.cur, .int .i64 c.am, .int .i64 c.st, .int .i64 c.rsn, .int .i64 c.cl, .int .i64 c.bk, .int .i64 c.fee, .bool c.cop, .int .i64 c.sta, .int .i64 c.due]
def ccs (c : Cs) : Array Value := #[.int .i64 c.iss, .int .i64 c.acq, .int .i64 c.cur, .int .i64 c.am, .int .i64 c.st, .int .i64 c.rsn, .int .i64 c.cl, .int .i64 c.bk, .int .i64 c.fee, .bool c.cop, .int .i64 c.sta, .int .i64 c.due]
/-- a case lies in a block, from a place on -/
structure CB (s o : Nat) (c : Cs) (u : World) : Prop where
  f0 : u.cell? ⟨s, o, none⟩ = some (.int .i64 c.iss)
  f1 : u.cell? ⟨s, o + 1, none⟩ = some (.int .i64 c.acq)
  f2 : u.cell? ⟨s, o + 2, none⟩ = some (.int .i64 c.cur)
  f3 : u.cell? ⟨s, o + 3, none⟩ = some (.int .i64 c.am)
  f4 : u.cell? ⟨s, o + 4, none⟩ = some (.int .i64 c.st)
  f5 : u.cell? ⟨s, o + 5, none⟩ = some (.int .i64 c.rsn)
  f6 : u.cell? ⟨s, o + 6, none⟩ = some (.int .i64 c.cl)
  f7 : u.cell? ⟨s, o + 7, none⟩ = some (.int .i64 c.bk)
  f8 : u.cell? ⟨s, o + 8, none⟩ = some (.int .i64 c.fee)
  f9 : u.cell? ⟨s, o + 9, none⟩ = some (.bool c.cop)
  f10 : u.cell? ⟨s, o + 10, none⟩ = some (.int .i64 c.sta)
  f11 : u.cell? ⟨s, o + 11, none⟩ = some (.int .i64 c.due)
theorem CB.lt {s o : Nat} {c : Cs} {u : World} (h : CB s o c u) : s < u.heap.size := World.block_lt_of_cell? u _ h.f0
theorem CB.below {s o : Nat} {c : Cs} {u u' : World} (h : CB s o c u) (b : Below u.heap.size u u') : CB s o c u' := by
  have l := h.lt
  exact ⟨(b.cell (p := ⟨s, o, none⟩) l).trans h.f0, (b.cell (p := ⟨s, o + 1, none⟩) l).trans h.f1, (b.cell (p := ⟨s, o + 2, none⟩) l).trans h.f2, (b.cell (p := ⟨s, o + 3, none⟩) l).trans h.f3, (b.cell (p := ⟨s, o + 4, none⟩) l).trans h.f4, (b.cell (p := ⟨s, o + 5, none⟩) l).trans h.f5,
    (b.cell (p := ⟨s, o + 6, none⟩) l).trans h.f6, (b.cell (p := ⟨s, o + 7, none⟩) l).trans h.f7, (b.cell (p := ⟨s, o + 8, none⟩) l).trans h.f8, (b.cell (p := ⟨s, o + 9, none⟩) l).trans h.f9, (b.cell (p := ⟨s, o + 10, none⟩) l).trans h.f10, (b.cell (p := ⟨s, o + 11, none⟩) l).trans h.f11⟩
theorem CB.grown {s o : Nat} {c : Cs} {u u' : World} {row : Option Nat} (h : CB s o c u) (g : u.grownBy u' row) (hr : some s ≠ row) : CB s o c u' := by
  have l := h.lt
  exact ⟨(g.cell_far ⟨s, o, none⟩ l hr).trans h.f0, (g.cell_far ⟨s, o + 1, none⟩ l hr).trans h.f1, (g.cell_far ⟨s, o + 2, none⟩ l hr).trans h.f2, (g.cell_far ⟨s, o + 3, none⟩ l hr).trans h.f3, (g.cell_far ⟨s, o + 4, none⟩ l hr).trans h.f4, (g.cell_far ⟨s, o + 5, none⟩ l hr).trans h.f5,
    (g.cell_far ⟨s, o + 6, none⟩ l hr).trans h.f6, (g.cell_far ⟨s, o + 7, none⟩ l hr).trans h.f7, (g.cell_far ⟨s, o + 8, none⟩ l hr).trans h.f8, (g.cell_far ⟨s, o + 9, none⟩ l hr).trans h.f9, (g.cell_far ⟨s, o + 10, none⟩ l hr).trans h.f10, (g.cell_far ⟨s, o + 11, none⟩ l hr).trans h.f11⟩
theorem CB.new (w : World) (c : Cs) (t : TypeId) : CB w.heap.size 0 c (w.alloc (.cells #[.int .i64 c.iss, .int .i64 c.acq, .int .i64 c.cur, .int .i64 c.am, .int .i64 c.st, .int .i64 c.rsn, .int .i64 c.cl, .int .i64 c.bk, .int .i64 c.fee, .bool c.cop, .int .i64 c.sta, .int .i64 c.due] t)) := by
  exact ⟨by simp, by simp, by simp, by simp, by simp, by simp, by simp, by simp, by simp, by simp, by simp, by simp⟩

/-- the cells of a case may be written -/
structure FZ (s o : Nat) (u : World) : Prop where
  z0 : u.frozen? ⟨s, o, none⟩ = false
  z1 : u.frozen? ⟨s, o + 1, none⟩ = false
  z2 : u.frozen? ⟨s, o + 2, none⟩ = false
  z3 : u.frozen? ⟨s, o + 3, none⟩ = false
  z4 : u.frozen? ⟨s, o + 4, none⟩ = false
  z5 : u.frozen? ⟨s, o + 5, none⟩ = false
  z6 : u.frozen? ⟨s, o + 6, none⟩ = false
  z7 : u.frozen? ⟨s, o + 7, none⟩ = false
  z8 : u.frozen? ⟨s, o + 8, none⟩ = false
  z9 : u.frozen? ⟨s, o + 9, none⟩ = false
  z10 : u.frozen? ⟨s, o + 10, none⟩ = false
  z11 : u.frozen? ⟨s, o + 11, none⟩ = false
theorem FZ.below {s o : Nat} {u u' : World} (h : FZ s o u) (l : s < u.heap.size) (b : Below u.heap.size u u') : FZ s o u' :=
  ⟨(b.frozen (p := ⟨s, o, none⟩) l).trans h.z0, (b.frozen (p := ⟨s, o + 1, none⟩) l).trans h.z1, (b.frozen (p := ⟨s, o + 2, none⟩) l).trans h.z2, (b.frozen (p := ⟨s, o + 3, none⟩) l).trans h.z3, (b.frozen (p := ⟨s, o + 4, none⟩) l).trans h.z4, (b.frozen (p := ⟨s, o + 5, none⟩) l).trans h.z5, (b.frozen (p := ⟨s, o + 6, none⟩) l).trans h.z6, (b.frozen (p := ⟨s, o + 7, none⟩) l).trans h.z7, (b.frozen (p := ⟨s, o + 8, none⟩) l).trans h.z8, (b.frozen (p := ⟨s, o + 9, none⟩) l).trans h.z9, (b.frozen (p := ⟨s, o + 10, none⟩) l).trans h.z10, (b.frozen (p := ⟨s, o + 11, none⟩) l).trans h.z11⟩
theorem FZ.grown {s o : Nat} {u u' : World} {row : Option Nat} (h : FZ s o u) (l : s < u.heap.size) (g : u.grownBy u' row) (hr : some s ≠ row) : FZ s o u' :=
  ⟨(g.frozen_far ⟨s, o, none⟩ l hr).trans h.z0, (g.frozen_far ⟨s, o + 1, none⟩ l hr).trans h.z1, (g.frozen_far ⟨s, o + 2, none⟩ l hr).trans h.z2, (g.frozen_far ⟨s, o + 3, none⟩ l hr).trans h.z3, (g.frozen_far ⟨s, o + 4, none⟩ l hr).trans h.z4, (g.frozen_far ⟨s, o + 5, none⟩ l hr).trans h.z5, (g.frozen_far ⟨s, o + 6, none⟩ l hr).trans h.z6, (g.frozen_far ⟨s, o + 7, none⟩ l hr).trans h.z7, (g.frozen_far ⟨s, o + 8, none⟩ l hr).trans h.z8, (g.frozen_far ⟨s, o + 9, none⟩ l hr).trans h.z9, (g.frozen_far ⟨s, o + 10, none⟩ l hr).trans h.z10, (g.frozen_far ⟨s, o + 11, none⟩ l hr).trans h.z11⟩
theorem FZ.new (w : World) (cs : Array Value) (t : TypeId) : FZ w.heap.size 0 (w.alloc (.cells cs t)) :=
  ⟨by simp [go_sem], by simp [go_sem], by simp [go_sem], by simp [go_sem], by simp [go_sem], by simp [go_sem], by simp [go_sem], by simp [go_sem], by simp [go_sem], by simp [go_sem], by simp [go_sem], by simp [go_sem]⟩
/-- a case put into a block -/
def put12 (u : World) (h : Nat) (c : Cs) : World :=
  (((((((((((u.setCell ⟨h, 0, none⟩ (.int .i64 c.iss)).setCell ⟨h, 1, none⟩ (.int .i64 c.acq)).setCell ⟨h, 2, none⟩ (.int .i64 c.cur)).setCell ⟨h, 3, none⟩ (.int .i64 c.am)).setCell ⟨h, 4, none⟩ (.int .i64 c.st)).setCell ⟨h, 5, none⟩ (.int .i64 c.rsn)).setCell ⟨h, 6, none⟩ (.int .i64 c.cl)).setCell ⟨h, 7, none⟩ (.int .i64 c.bk)).setCell ⟨h, 8, none⟩ (.int .i64 c.fee)).setCell ⟨h, 9, none⟩ (.bool c.cop)).setCell ⟨h, 10, none⟩ (.int .i64 c.sta)).setCell ⟨h, 11, none⟩ (.int .i64 c.due)
theorem put12_below {w u : World} {h n : Nat} (c : Cs) (b : Below n w u) (hn : n ≤ h) : Below n w (put12 u h c) :=
  (((((((((((b.setCell hn _).setCell hn _).setCell hn _).setCell hn _).setCell hn _).setCell hn _).setCell hn _).setCell hn _).setCell hn _).setCell hn _).setCell hn _).setCell hn _
theorem put12_size (u : World) (h : Nat) (c : Cs) : (put12 u h c).heap.size = u.heap.size := by simp [put12]
theorem put12_cb {u : World} {h : Nat} {c d : Cs} (b : CB h 0 d u) : CB h 0 c (put12 u h c) := by
  obtain ⟨f0, f1, f2, f3, f4, f5, f6, f7, f8, f9, f10, f11⟩ := b
  simp only [Nat.zero_add] at f0 f1 f2 f3 f4 f5 f6 f7 f8 f9 f10 f11
  exact ⟨by simp [put12, go_sem, f0], by simp [put12, go_sem, f1], by simp [put12, go_sem, f2], by simp [put12, go_sem, f3], by simp [put12, go_sem, f4], by simp [put12, go_sem, f5], by simp [put12, go_sem, f6], by simp [put12, go_sem, f7], by simp [put12, go_sem, f8], by simp [put12, go_sem, f9], by simp [put12, go_sem, f10], by simp [put12, go_sem, f11]⟩

end Go.Proofs.YtenbhmmknejcjaaDoor

/- The contracts of the program's accountOk, EntryOk, Back, keyOf, BalanceOf, Worth, lineOk. -/
namespace Go.Proofs.YtenbhmmknejcjaaDoor
open Go.RowKit
set_option maxRecDepth 100000

set_option maxHeartbeats 400000 in
theorem iAcct_any (a : Int) (w : World) :
    Calls Tryd.prog 50 #[.int .i64 a] w fun e w' => e = .returned (.bool (acctOk a)) ∧ w' = w := by
  by_cases h1 : 1 ≤ a
  · by_cases h2 : a ≤ 9999
    · have HE : Hid (acctOk a = true) := by simp [Hid, acctOk, h1, h2]
      go_enter Tryd.func50, Tryd.ntmps50
      go_wp2
      go_ret
      exact ⟨one_bool HE.out.symm, rfl⟩
    · have HE : Hid (acctOk a = false) := by simp [Hid, acctOk, h1, h2]
      go_enter Tryd.func50, Tryd.ntmps50
      go_wp2
      go_ret
      exact ⟨one_bool HE.out.symm, rfl⟩
  · have HE : Hid (acctOk a = false) := by simp [Hid, acctOk]; omega
    go_enter Tryd.func50, Tryd.ntmps50
    go_wp2
    go_ret
    exact ⟨one_bool HE.out.symm, rfl⟩
theorem iAcct_is {a : Int} {q : Bool} (h : acctOk a = q) (w : World) : Calls Tryd.prog 50 #[.int .i64 a] w fun e w' => e = .returned (.bool q) ∧ w' = w := by rw [← h]; exact iAcct_any a w
theorem iDigs_is {c : Int} (w : World) (d : Int) (h : digs c = d) (hc : (Lit.int .i64 c).wf = true) : Calls Tryd.prog 43 #[.int .i64 c] w fun e w' => e = .returned (.int .i64 d) ∧ Below w.heap.size w w' := by rw [← h]; exact iDigits_any c w hc



set_option maxHeartbeats 1600000 in
theorem iEntryOk_any (a b c m : Int) (w : World) (hc : (Lit.int .i64 c).wf = true) :
    Calls Tryd.prog 14 #[.agg #[.int .i64 a, .int .i64 b, .int .i64 c, .int .i64 m]] w fun e w' => e = .returned (.bool (entryOk (a, b, c, m))) ∧ Below w.heap.size w w' := by
  have bel : Below w.heap.size w (w.alloc (.cells #[.int .i64 a, .int .i64 b, .int .i64 c, .int .i64 m] 36)) := by go_grown
  have HC : Hid _ := hc
  clear hc
  cases h1 : acctOk a
  · have HE : Hid (entryOk (a, b, c, m) = false) := by simp [Hid, entryOk, h1]
    have H1 : Hid _ := h1
    clear h1
    go_enter Tryd.func14, Tryd.ntmps14
    go_wp2_with fail
    refine (iAcct_is H1.out _).mono ?_
    rintro e w1 ⟨rfl, hw⟩
    rw [hw]
    clear hw
    go_wp2
    go_ret
    exact ⟨one_bool HE.out.symm, bel⟩
  have H1 : Hid _ := h1
  cases h2 : acctOk b
  · have HE : Hid (entryOk (a, b, c, m) = false) := by simp [Hid, entryOk, h2]
    have H2 : Hid _ := h2
    clear h1 h2
    go_enter Tryd.func14, Tryd.ntmps14
    go_wp2_with fail
    refine (iAcct_is H1.out _).mono ?_
    rintro e w1 ⟨rfl, hw⟩
    rw [hw]
    clear hw
    go_wp2_with fail
    refine (iAcct_is H2.out _).mono ?_
    rintro e w2 ⟨rfl, hw⟩
    rw [hw]
    clear hw
    go_wp2
    go_ret
    exact ⟨one_bool HE.out.symm, bel⟩
  have H2 : Hid _ := h2
  by_cases h3 : a = b
  · have HE : Hid (entryOk (a, b, c, m) = false) := by simp [Hid, entryOk, h3]
    have h3' : (a != b) = false := by simpa using h3
    clear h1 h2 h3
    go_enter Tryd.func14, Tryd.ntmps14
    go_wp2_with fail
    refine (iAcct_is H1.out _).mono ?_
    rintro e w1 ⟨rfl, hw⟩
    rw [hw]
    clear hw
    go_wp2_with fail
    refine (iAcct_is H2.out _).mono ?_
    rintro e w2 ⟨rfl, hw⟩
    rw [hw]
    clear hw
    go_wp2
    go_ret
    exact ⟨one_bool HE.out.symm, bel⟩
  have h3' : (a != b) = true := by simpa using h3
  have hx : ∀ q : Bool, (decide (0 ≤ digs c) && decide (1 ≤ m ∧ m ≤ 1000000000000)) = q → entryOk (a, b, c, m) = q := by
    intro q hq
    simp only [entryOk, h1, h2, Bool.true_and, decide_eq_true h3]
    exact hq
  obtain ⟨d, hd⟩ : ∃ d, digs c = d := ⟨_, rfl⟩
  have HD : Hid _ := hd
  have HE : Hid (entryOk (a, b, c, m) = (decide (0 ≤ d) && decide (1 ≤ m ∧ m ≤ 1000000000000))) := hx _ (by rw [hd])
  clear hx hd h3 h1 h2
  go_enter Tryd.func14, Tryd.ntmps14
  go_wp2_with fail
  refine (iAcct_is H1.out _).mono ?_
  rintro e w1 ⟨rfl, hw⟩
  rw [hw]
  clear hw
  go_wp2_with fail
  refine (iAcct_is H2.out _).mono ?_
  rintro e w2 ⟨rfl, hw⟩
  rw [hw]
  clear hw
  go_wp2_with fail
  refine (iDigs_is _ d HD.out HC.out).mono ?_
  rintro e w3 ⟨rfl, b3⟩
  have x3 := (b3.cell (p := ⟨w.heap.size, 3, none⟩) (by simp)).trans (show _ = some (.int .i64 m) by simp)
  have q3 := bel.trans (b3.mono bel.size)
  clear b3 bel
  by_cases h4 : 0 ≤ d
  · by_cases h5 : 1 ≤ m
    · by_cases h6 : m ≤ 1000000000000
      · have HX : Hid (entryOk (a, b, c, m) = true) := by rw [Hid, HE.out]; simp [h4, h5, h6]
        clear HE
        go_wp2
        go_ret
        exact ⟨one_bool HX.out.symm, q3⟩
      · have HX : Hid (entryOk (a, b, c, m) = false) := by rw [Hid, HE.out]; simp [h6]
        have H6 : Hid (decide (m ≤ 1000000000000) = false) := decide_eq_false h6
        clear HE
        go_wp2
        go_ret
        exact ⟨one_bool (by rw [HX.out, H6.out]), q3⟩
    · have HX : Hid (entryOk (a, b, c, m) = false) := by rw [Hid, HE.out]; simp [h5]
      clear HE
      go_wp2
      go_ret
      exact ⟨one_bool HX.out.symm, q3⟩
  · have HX : Hid (entryOk (a, b, c, m) = false) := by rw [Hid, HE.out]; simp [h4]
    clear HE
    go_wp2
    go_ret
    exact ⟨one_bool HX.out.symm, q3⟩


end Go.Proofs.YtenbhmmknejcjaaDoor

/- The contracts of the specification's l07Acct, EntryOk, BalanceOf, Back, Worth, LedgerOk. -/
namespace Go.Proofs.YtenbhmmknejcjaaDoor
open Go.RowKit
set_option maxRecDepth 100000

set_option maxHeartbeats 400000 in
theorem acct_any (a : Int) (w : World) :
    Calls Tryd.prog 46 #[.int .i64 a] w fun e w' => e = .returned (.bool (acctOk a)) ∧ w' = w := by
  go_enter Tryd.func46, Tryd.ntmps46
  go_wp2_with fail
  refine (in_any _ _ _ _).mono ?_
  rintro e w1 ⟨rfl, hw⟩
  rw [hw]
  go_wp2
  go_ret
  exact ⟨rfl, rfl⟩
theorem acct_is {a : Int} {q : Bool} (h : acctOk a = q) (w : World) : Calls Tryd.prog 46 #[.int .i64 a] w fun e w' => e = .returned (.bool q) ∧ w' = w := by rw [← h]; exact acct_any a w

set_option maxHeartbeats 800000 in
theorem sBack_any (a b c m : Int) (w : World) :
    Calls Tryd.prog 71 #[.agg #[.int .i64 a, .int .i64 b, .int .i64 c, .int .i64 m]] w fun e w' => e = .returned (.agg #[.int .i64 b, .int .i64 a, .int .i64 c, .int .i64 m]) ∧ Below w.heap.size w w' := by
  go_enter Tryd.func71, Tryd.ntmps71
  go_wp2
  go_returns
  refine ⟨rfl, ?_⟩
  go_grown



theorem digs_is {c : Int} (w : World) (d : Int) (h : digs c = d) : Calls Tryd.prog 48 #[.int .i64 c] w fun e w' => e = .returned (.int .i64 d) ∧ Below w.heap.size w w' := by rw [← h]; exact sDigits_any c w


end Go.Proofs.YtenbhmmknejcjaaDoor

/- Plain lists of days: holiday lists, and the working days behind a day. No Go in sight. -/
namespace Go.Proofs.YtenbhmmknejcjaaDoor

/-- days, ascending, the first of them above l -/
def ascB : Int → List Int → Bool
  | _, [] => true
  | l, z :: r => decide (l < z ∧ 0 ≤ z ∧ z ≤ 80000) && ascB z r
def offOk (zs : List Int) : Bool := decide (zs.length ≤ 400) && ascB (-1) zs
theorem asc_step (zs : List Int) (k : Nat) (l : Int) (h : k < zs.length) : ascB l (zs.drop k) = (decide (l < zs.getD k 0 ∧ 0 ≤ zs.getD k 0 ∧ zs.getD k 0 ≤ 80000) && ascB (zs.getD k 0) (zs.drop (k + 1))) := by
  rw [List.drop_eq_getElem_cons h, ascB]
  simp [List.getD_eq_getElem?_getD, h]
theorem asc_mem : ∀ (zs : List Int) (l : Int), ascB l zs = true → ∀ z ∈ zs, l < z := by
  intro zs
  induction zs with
  | nil => intro l _ z hz; cases hz
  | cons a r ih =>
    intro l h z hz
    simp [ascB] at h
    rcases List.mem_cons.1 hz with rfl | hz
    · exact h.1.1
    · have := ih a h.2 z hz; omega
theorem asc_lt : ∀ (zs : List Int) (l : Int), ascB l zs = true → ∀ i j, i < j → j < zs.length → zs.getD i 0 < zs.getD j 0 := by
  intro zs
  induction zs with
  | nil => intro l _ i j _ h; simp at h
  | cons a r ih =>
    intro l h i j hij hj
    simp [ascB] at h
    cases j with
    | zero => omega
    | succ j =>
      have hj' : j < r.length := by simpa using hj
      cases i with
      | zero =>
        have := asc_mem r a h.2 (r.getD j 0) (by simp [List.getD_eq_getElem?_getD, hj'])
        simpa [List.getD_eq_getElem?_getD] using this
      | succ i =>
        have := ih a h.2 i j (by omega) hj'
        simpa [List.getD_eq_getElem?_getD] using this
theorem off_asc {zs : List Int} (h : offOk zs = true) : ascB (-1) zs = true := by simp [offOk] at h; exact h.2
theorem off_len {zs : List Int} (h : offOk zs = true) : zs.length ≤ 400 := by simp [offOk] at h; exact h.1
theorem off_no1 {zs : List Int} (h : 400 < zs.length) : offOk zs = false := by simp [offOk]; omega
theorem off_no2 {zs : List Int} (h : ascB (-1) zs = false) : offOk zs = false := by simp [offOk, h]
theorem off_yes {zs : List Int} (h : zs.length ≤ 400) (g : ascB (-1) zs = true) : offOk zs = true := by simp [offOk, h, g]

/-- what a search by halves ends with -/
theorem search_end {zs : List Int} {t : Int} {i : Nat} (ha : ascB (-1) zs = true) (h1 : ∀ k, k < i → zs.getD k 0 < t) (h2 : ∀ k, i ≤ k → k < zs.length → t ≤ zs.getD k 0) :
    (t ∈ zs) ↔ (i < zs.length ∧ zs.getD i 0 = t) := by
  constructor
  · intro hm
    obtain ⟨k, hk, rfl⟩ := List.mem_iff_getElem.1 hm
    have e : zs.getD k 0 = zs[k] := by simp [List.getD_eq_getElem?_getD, hk]
    have hik : i ≤ k := by
      rcases Nat.lt_or_ge k i with h | h
      · have := h1 k h; omega
      · exact h
    by_cases h : i = k
    · subst h; exact ⟨hk, e⟩
    · have a := asc_lt zs _ ha i k (by omega) hk
      have b := h2 i (Nat.le_refl _) (by omega)
      omega
  · rintro ⟨hi, rfl⟩
    simp [List.getD_eq_getElem?_getD, hi]

/-- whether a day is a working day -/
def wk (zs : List Int) (d : Int) : Bool := decide ((d + 5) % 7 < 5) && !decide (d ∈ zs)
def worksV (d : Int) (zs : List Int) : Bool := dOk d && offOk zs && wk zs d

/-- the working days behind the day 80000 - f -/
def wd (zs : List Int) : Nat → List Int
  | 0 => []
  | f + 1 => if wk zs (80000 - f) = true then (80000 - (f : Int)) :: wd zs f else wd zs f
/-- how many of them there are up to b -/
def upto (zs : List Int) (f : Nat) (b : Int) : Nat := (wd zs f).countP (fun x => decide (x ≤ b))
/-- the n-th working day behind the day 80000 - f -/
def adv (zs : List Int) (f : Nat) : Nat → Option Int
  | 0 => some (80000 - (f : Int))
  | n + 1 => (wd zs f)[n]?
def addV (d n : Int) (zs : List Int) : Option Int := if dOk d = true ∧ 0 ≤ n ∧ n ≤ 400 ∧ offOk zs = true then adv zs (80000 - d).toNat n.toNat else none
def betV (a b : Int) (zs : List Int) : Int := if dOk a = true ∧ dOk b = true ∧ offOk zs = true then (upto zs (80000 - a).toNat b : Int) else -1

theorem wd_yes {zs : List Int} {f : Nat} (h : wk zs (80000 - f) = true) : wd zs (f + 1) = (80000 - (f : Int)) :: wd zs f := by rw [wd, if_pos h]
theorem wd_no {zs : List Int} {f : Nat} (h : wk zs (80000 - f) = false) : wd zs (f + 1) = wd zs f := by rw [wd, if_neg (by rw [h]; decide)]
theorem wd_len (zs : List Int) (f : Nat) : (wd zs f).length ≤ f := by
  induction f with
  | zero => exact Nat.le_refl _
  | succ f ih =>
    cases h : wk zs (80000 - f)
    · rw [wd_no h]; omega
    · rw [wd_yes h]; simp; omega
theorem wd_mem {zs : List Int} {f : Nat} {e : Int} (h : e ∈ wd zs f) : 80000 - (f : Int) < e ∧ e ≤ 80000 ∧ wk zs e = true := by
  induction f with
  | zero => cases h
  | succ f ih =>
    cases hw : wk zs (80000 - f)
    · rw [wd_no hw] at h; have := ih h; exact ⟨by omega, this.2.1, this.2.2⟩
    · rw [wd_yes hw] at h
      rcases List.mem_cons.1 h with rfl | h
      · exact ⟨by omega, by omega, hw⟩
      · have := ih h; exact ⟨by omega, by omega, this.2.2⟩
theorem upto_none {zs : List Int} {f : Nat} {b : Int} (h : b ≤ 80000 - (f : Int)) : upto zs f b = 0 := by
  unfold upto
  rw [List.countP_eq_zero]
  intro x hx
  have := wd_mem hx
  simp; omega
theorem upto_yes {zs : List Int} {f : Nat} {b : Int} (h : wk zs (80000 - f) = true) (hb : 80000 - (f : Int) ≤ b) : upto zs (f + 1) b = upto zs f b + 1 := by
  unfold upto
  rw [wd_yes h, List.countP_cons_of_pos (by simpa using hb)]
theorem upto_no {zs : List Int} {f : Nat} {b : Int} (h : wk zs (80000 - f) = false) : upto zs (f + 1) b = upto zs f b := by
  unfold upto; rw [wd_no h]
theorem upto_at {zs : List Int} : ∀ {f k : Nat} {e : Int}, (wd zs f)[k]? = some e → upto zs f e = k + 1 := by
  intro f
  induction f with
  | zero => intro k e h; simp [wd] at h
  | succ f ih =>
    intro k e h
    cases hw : wk zs (80000 - f)
    · rw [wd_no hw] at h; rw [upto_no hw]; exact ih h
    · rw [wd_yes hw] at h
      cases k with
      | zero =>
        obtain rfl : 80000 - (f : Int) = e := by simpa using h
        rw [upto_yes hw (Int.le_refl _), upto_none (Int.le_refl _)]
      | succ k =>
        have h' : (wd zs f)[k]? = some e := by simpa using h
        have hm := wd_mem (List.mem_of_getElem? h')
        rw [upto_yes hw (by omega), ih h']
theorem wd_drop {zs : List Int} : ∀ {f k : Nat} {e : Int}, (wd zs f)[k]? = some e → wd zs (80000 - e).toNat = (wd zs f).drop (k + 1) := by
  intro f
  induction f with
  | zero => intro k e h; simp [wd] at h
  | succ f ih =>
    intro k e h
    cases hw : wk zs (80000 - f)
    · rw [wd_no hw] at h ⊢; exact ih h
    · rw [wd_yes hw] at h ⊢
      cases k with
      | zero =>
        obtain rfl : 80000 - (f : Int) = e := by simpa using h
        rw [show (80000 - (80000 - (f : Int))).toNat = f from by omega]; simp
      | succ k =>
        have h' : (wd zs f)[k]? = some e := by simpa using h
        rw [ih h']; simp

theorem adv_zero (zs : List Int) (f : Nat) : adv zs f 0 = some (80000 - (f : Int)) := rfl
theorem adv_end (zs : List Int) (n : Nat) : adv zs 0 (n + 1) = none := by simp [adv, wd]
theorem adv_yes {zs : List Int} {f n : Nat} (h : wk zs (80000 - f) = true) : adv zs (f + 1) (n + 1) = adv zs f n := by
  rw [adv, wd_yes h]
  cases n with
  | zero => simp [adv]
  | succ n => simp [adv]
theorem adv_no {zs : List Int} {f n : Nat} (h : wk zs (80000 - f) = false) : adv zs (f + 1) (n + 1) = adv zs f (n + 1) := by
  rw [adv, wd_no h]; rfl
theorem adv_bd {zs : List Int} {f n : Nat} {e : Int} (hf : f ≤ 80000) (h : adv zs f n = some e) : 80000 - (f : Int) ≤ e ∧ e ≤ 80000 ∧ (n = 0 ∨ wk zs e = true) := by
  cases n with
  | zero => obtain rfl : 80000 - (f : Int) = e := by simpa [adv] using h
            exact ⟨by omega, by omega, .inl rfl⟩
  | succ n =>
    have := wd_mem (List.mem_of_getElem? h)
    exact ⟨by omega, by omega, .inr this.2.2⟩
theorem adv_upto {zs : List Int} {f n : Nat} {e : Int} (h : adv zs f n = some e) : upto zs f e = n := by
  cases n with
  | zero => obtain rfl : 80000 - (f : Int) = e := by simpa [adv] using h
            exact upto_none (Int.le_refl _)
  | succ n => exact upto_at h
/-- days in two parts are days at once -/
theorem adv_split {zs : List Int} {f k m : Nat} {e : Int} (hf : f ≤ 80000) (h : adv zs f (k + m) = some e) : ∃ g, adv zs f k = some g ∧ adv zs (80000 - g).toNat m = some e := by
  cases k with
  | zero =>
    refine ⟨80000 - f, rfl, ?_⟩
    rw [show (80000 - (80000 - (f : Int))).toNat = f from by omega]
    simpa using h
  | succ k =>
    rw [show k + 1 + m = (k + m) + 1 from by omega, adv] at h
    have hlt := (List.getElem?_eq_some_iff.1 h).1
    obtain ⟨g, hg⟩ : ∃ g, (wd zs f)[k]? = some g := ⟨_, List.getElem?_eq_getElem (by omega)⟩
    refine ⟨g, hg, ?_⟩
    have hb := wd_mem (List.mem_of_getElem? hg)
    cases m with
    | zero =>
      rw [adv_zero]
      have : g = e := by simpa [hg] using h
      subst this
      congr 1; omega
    | succ m =>
      rw [adv, wd_drop hg, List.getElem?_drop]
      rw [show k + 1 + m = k + (m + 1) from by omega]; exact h

end Go.Proofs.YtenbhmmknejcjaaDoor

/- Chapter 8, what hangs on days alone: Late, the program's and the specification's. -/
namespace Go.Proofs.YtenbhmmknejcjaaDoor
open Go.RowKit

/-- whether today is behind due, both days -/
def lateV (t d : Int) : Bool := dOk t && dOk d && decide (d < t)
theorem lateV_no1 {t d : Int} (h : dOk t = false) : lateV t d = false := by simp [lateV, h]
theorem lateV_no2 {t d : Int} (h : dOk d = false) : lateV t d = false := by simp [lateV, h]
theorem lateV_yes {t d : Int} (h : dOk t = true) (g : dOk d = true) : lateV t d = decide (d < t) := by simp [lateV, h, g]

set_option maxHeartbeats 400000 in
theorem iLate_any (t d : Int) (w : World) :
    Calls Tryd.prog 95 #[.int .i64 t, .int .i64 d] w fun e w' => e = .returned (.bool (lateV t d)) ∧ w' = w := by
  cases h1 : dOk t
  · have HV : Hid _ := lateV_no1 (d := d) h1
    go_enter Tryd.func95, Tryd.ntmps95
    go_wp2_with (go_at_call 28; refine (iDayOk_any _ _).mono ?_; rintro e w' ⟨rfl, rfl⟩)
    go_ret
    exact ⟨one_bool HV.out.symm, rfl⟩
  · cases h2 : dOk d
    · have HV : Hid _ := lateV_no2 (t := t) h2
      go_enter Tryd.func95, Tryd.ntmps95
      go_wp2_with (go_at_call 28; refine (iDayOk_any _ _).mono ?_; rintro e w' ⟨rfl, rfl⟩)
      go_ret
      exact ⟨one_bool HV.out.symm, rfl⟩
    · have HV : Hid _ := lateV_yes h1 h2
      go_enter Tryd.func95, Tryd.ntmps95
      go_wp2_with (go_at_call 28; refine (iDayOk_any _ _).mono ?_; rintro e w' ⟨rfl, rfl⟩)
      go_ret
      exact ⟨one_bool HV.out.symm, rfl⟩

set_option maxHeartbeats 400000 in
theorem sLate_any (t d : Int) (w : World) :
    Calls Tryd.prog 68 #[.int .i64 t, .int .i64 d] w fun e w' => e = .returned (.bool (lateV t d)) ∧ w' = w := by
  cases h1 : dOk t
  · have HV : Hid _ := lateV_no1 (d := d) h1
    go_enter Tryd.func68, Tryd.ntmps68
    go_wp2_with (go_at_call 32; refine (sDayOk_any _ _).mono ?_; rintro e w' ⟨rfl, rfl⟩)
    go_ret
    exact ⟨one_bool HV.out.symm, rfl⟩
  · cases h2 : dOk d
    · have HV : Hid _ := lateV_no2 (t := t) h2
      go_enter Tryd.func68, Tryd.ntmps68
      go_wp2_with (go_at_call 32; refine (sDayOk_any _ _).mono ?_; rintro e w' ⟨rfl, rfl⟩)
      go_ret
      exact ⟨one_bool HV.out.symm, rfl⟩
    · have HV : Hid _ := lateV_yes h1 h2
      go_enter Tryd.func68, Tryd.ntmps68
      go_wp2_with (go_at_call 32; refine (sDayOk_any _ _).mono ?_; rintro e w' ⟨rfl, rfl⟩)
      go_ret
      exact ⟨one_bool HV.out.symm, rfl⟩

end Go.Proofs.YtenbhmmknejcjaaDoor

/- A case and an act that come in; the laws' own copies and comparisons of them. -/
namespace Go.Proofs.YtenbhmmknejcjaaDoor
open Go.ChangeShapes Go.WideShapes Go.ChangeAt Go.RowKit
set_option maxRecDepth 100000

/-- the numbers of a case fit -/
def csBd (c : Cs) : Prop := wf64 c.iss ∧ wf64 c.acq ∧ wf64 c.cur ∧ wf64 c.am ∧ wf64 c.st ∧ wf64 c.rsn ∧ wf64 c.cl ∧ wf64 c.bk ∧ wf64 c.fee ∧ wf64 c.sta ∧ wf64 c.due
def acBd (a : Ac) : Prop := wf64 a.kind ∧ wf64 a.am ∧ wf64 a.rsn
def av (a : Ac) : Value := .agg #[.int .i64 a.kind, .int .i64 a.am, .int .i64 a.rsn]
section
variable {P : Program} {H : Type} {enc : TypeId × Value → H} {W : World}
set_option maxHeartbeats 1600000 in
theorem cells_case {t : TypeId} {f0 f1 f2 f3 f4 f5 f6 f7 f8 f9 f10 f11 : Field} {fuel : Nat} {cs : List Value} {x : DataW H × List MemPlace} (he : P.underlying t = some (.struct #[f0, f1, f2, f3, f4, f5, f6, f7, f8, f9, f10, f11])) (ce : P.cellsOf t = 12) (o0 : f0.offset = 0) (o1 : f1.offset = 1) (o2 : f2.offset = 2) (o3 : f3.offset = 3) (o4 : f4.offset = 4) (o5 : f5.offset = 5) (o6 : f6.offset = 6) (o7 : f7.offset = 7) (o8 : f8.offset = 8) (o9 : f9.offset = 9) (o10 : f10.offset = 10) (o11 : f11.offset = 11)
    (c0 : P.cellsOf f0.type = 1) (c1 : P.cellsOf f1.type = 1) (c2 : P.cellsOf f2.type = 1) (c3 : P.cellsOf f3.type = 1) (c4 : P.cellsOf f4.type = 1) (c5 : P.cellsOf f5.type = 1) (c6 : P.cellsOf f6.type = 1) (c7 : P.cellsOf f7.type = 1) (c8 : P.cellsOf f8.type = 1) (c9 : P.cellsOf f9.type = 1) (c10 : P.cellsOf f10.type = 1) (c11 : P.cellsOf f11.type = 1)
    (u0 : P.underlying f0.type = some (.int .i64)) (u1 : P.underlying f1.type = some (.int .i64)) (u2 : P.underlying f2.type = some (.int .i64)) (u3 : P.underlying f3.type = some (.int .i64)) (u4 : P.underlying f4.type = some (.int .i64)) (u5 : P.underlying f5.type = some (.int .i64)) (u6 : P.underlying f6.type = some (.int .i64)) (u7 : P.underlying f7.type = some (.int .i64)) (u8 : P.underlying f8.type = some (.int .i64)) (u9 : P.underlying f9.type = some .bool) (u10 : P.underlying f10.type = some (.int .i64)) (u11 : P.underlying f11.type = some (.int .i64))
    (h : DataW.trod enc P W 0 (fun _ => true) true fuel t cs = some x) : ∃ c : Cs, cs = [.int .i64 c.iss, .int .i64 c.acq, .int .i64 c.cur, .int .i64 c.am, .int .i64 c.st, .int .i64 c.rsn, .int .i64 c.cl, .int .i64 c.bk, .int .i64 c.fee, .bool c.cop, .int .i64 c.sta, .int .i64 c.due] ∧ csBd c := by
  obtain ⟨xs, n, _, _, hl, hxl, hf⟩ := DataW.trod_struct he h
  rw [ce] at hl
  match xs, hxl, cs, hl with
  | [y0, y1, y2, y3, y4, y5, y6, y7, y8, y9, y10, y11], _, [a0, a1, a2, a3, a4, a5, a6, a7, a8, a9, a10, a11], _ =>
    have h0 := hf 0 f0 rfl
    have h1 := hf 1 f1 rfl
    have h2 := hf 2 f2 rfl
    have h3 := hf 3 f3 rfl
    have h4 := hf 4 f4 rfl
    have h5 := hf 5 f5 rfl
    have h6 := hf 6 f6 rfl
    have h7 := hf 7 f7 rfl
    have h8 := hf 8 f8 rfl
    have h9 := hf 9 f9 rfl
    have h10 := hf 10 f10 rfl
    have h11 := hf 11 f11 rfl
    simp [o0, c0] at h0
    simp [o1, c1] at h1
    simp [o2, c2] at h2
    simp [o3, c3] at h3
    simp [o4, c4] at h4
    simp [o5, c5] at h5
    simp [o6, c6] at h6
    simp [o7, c7] at h7
    simp [o8, c8] at h8
    simp [o9, c9] at h9
    simp [o10, c10] at h10
    simp [o11, c11] at h11
    obtain ⟨z0, q0, _, r0⟩ := DataW.trod_int u0 h0
    obtain ⟨z1, q1, _, r1⟩ := DataW.trod_int u1 h1
    obtain ⟨z2, q2, _, r2⟩ := DataW.trod_int u2 h2
    obtain ⟨z3, q3, _, r3⟩ := DataW.trod_int u3 h3
    obtain ⟨z4, q4, _, r4⟩ := DataW.trod_int u4 h4
    obtain ⟨z5, q5, _, r5⟩ := DataW.trod_int u5 h5
    obtain ⟨z6, q6, _, r6⟩ := DataW.trod_int u6 h6
    obtain ⟨z7, q7, _, r7⟩ := DataW.trod_int u7 h7
    obtain ⟨z8, q8, _, r8⟩ := DataW.trod_int u8 h8
    obtain ⟨z9, q9, _⟩ := DataW.trod_bool u9 h9
    obtain ⟨z10, q10, _, r10⟩ := DataW.trod_int u10 h10
    obtain ⟨z11, q11, _, r11⟩ := DataW.trod_int u11 h11
    simp at q0 q1 q2 q3 q4 q5 q6 q7 q8 q9 q10 q11
    exact ⟨⟨z0, z1, z2, z3, z4, z5, z6, z7, z8, z9, z10, z11⟩, by rw [q0, q1, q2, q3, q4, q5, q6, q7, q8, q9, q10, q11], r0, r1, r2, r3, r4, r5, r6, r7, r8, r10, r11⟩
theorem is_case {r : Reach} {base : Nat} {t : TypeId} {f0 f1 f2 f3 f4 f5 f6 f7 f8 f9 f10 f11 : Field} {v : Value} {d : DataW H} {p : List MemPlace} (he : P.underlying t = some (.struct #[f0, f1, f2, f3, f4, f5, f6, f7, f8, f9, f10, f11])) (ce : P.cellsOf t = 12) (o0 : f0.offset = 0) (o1 : f1.offset = 1) (o2 : f2.offset = 2) (o3 : f3.offset = 3) (o4 : f4.offset = 4) (o5 : f5.offset = 5) (o6 : f6.offset = 6) (o7 : f7.offset = 7) (o8 : f8.offset = 8) (o9 : f9.offset = 9) (o10 : f10.offset = 10) (o11 : f11.offset = 11)
    (c0 : P.cellsOf f0.type = 1) (c1 : P.cellsOf f1.type = 1) (c2 : P.cellsOf f2.type = 1) (c3 : P.cellsOf f3.type = 1) (c4 : P.cellsOf f4.type = 1) (c5 : P.cellsOf f5.type = 1) (c6 : P.cellsOf f6.type = 1) (c7 : P.cellsOf f7.type = 1) (c8 : P.cellsOf f8.type = 1) (c9 : P.cellsOf f9.type = 1) (c10 : P.cellsOf f10.type = 1) (c11 : P.cellsOf f11.type = 1)
    (u0 : P.underlying f0.type = some (.int .i64)) (u1 : P.underlying f1.type = some (.int .i64)) (u2 : P.underlying f2.type = some (.int .i64)) (u3 : P.underlying f3.type = some (.int .i64)) (u4 : P.underlying f4.type = some (.int .i64)) (u5 : P.underlying f5.type = some (.int .i64)) (u6 : P.underlying f6.type = some (.int .i64)) (u7 : P.underlying f7.type = some (.int .i64)) (u8 : P.underlying f8.type = some (.int .i64)) (u9 : P.underlying f9.type = some .bool) (u10 : P.underlying f10.type = some (.int .i64)) (u11 : P.underlying f11.type = some (.int .i64))
    (hv : Value.okWide P W r base t v) (h : DataW.Trod enc P W 0 (fun _ => true) true t v d p) : ∃ c : Cs, v = cv c ∧ csBd c := by
  obtain ⟨cs, rfl, _⟩ := okWide_struct he hv
  obtain ⟨fuel, hf⟩ := h
  obtain ⟨l, e1, e2⟩ := cells_case he ce o0 o1 o2 o3 o4 o5 o6 o7 o8 o9 o10 o11 c0 c1 c2 c3 c4 c5 c6 c7 c8 c9 c10 c11 u0 u1 u2 u3 u4 u5 u6 u7 u8 u9 u10 u11 hf
  simp only [Value.cells] at e1
  obtain ⟨cl⟩ := cs
  simp only at e1
  subst e1
  exact ⟨l, rfl, e2⟩
theorem is_act {r : Reach} {base : Nat} {t : TypeId} {f0 f1 f2 : Field} {v : Value} {d : DataW H} {p : List MemPlace} (he : P.underlying t = some (.struct #[f0, f1, f2])) (ce : P.cellsOf t = 3) (o0 : f0.offset = 0) (o1 : f1.offset = 1) (o2 : f2.offset = 2)
    (c0 : P.cellsOf f0.type = 1) (c1 : P.cellsOf f1.type = 1) (c2 : P.cellsOf f2.type = 1) (u0 : P.underlying f0.type = some (.int .i64)) (u1 : P.underlying f1.type = some (.int .i64)) (u2 : P.underlying f2.type = some (.int .i64))
    (hv : Value.okWide P W r base t v) (h : DataW.Trod enc P W 0 (fun _ => true) true t v d p) : ∃ a : Ac, v = av a ∧ acBd a := by
  obtain ⟨cs, rfl, _⟩ := okWide_struct he hv
  obtain ⟨fuel, hf⟩ := h
  obtain ⟨l, e1, e2⟩ := ints3 he ce o0 o1 o2 c0 c1 c2 u0 u1 u2 hf
  simp only [Value.cells] at e1
  obtain ⟨cl⟩ := cs
  simp only at e1
  subst e1
  exact ⟨⟨l.1, l.2.1, l.2.2⟩, rfl, e2⟩
end


end Go.Proofs.YtenbhmmknejcjaaDoor

/- Marks in one's own entries, found again. -/
namespace Go.Proofs.YtenbhmmknejcjaaDoor
open Go.RowKit
set_option maxRecDepth 100000

/-- the marks of n entries, from k on -/
def mkE (k n : Nat) : List En := (List.range n).map fun i => (((k + 4 * i : Nat) : Int), ((k + 4 * i + 1 : Nat) : Int), ((k + 4 * i + 2 : Nat) : Int), ((k + 4 * i + 3 : Nat) : Int))
theorem mkE_len (k n : Nat) : (mkE k n).length = n := by simp [mkE]
theorem mkE_at (k n i : Nat) (h : i < n) : enAt (mkE k n) i = (((k + 4 * i : Nat) : Int), ((k + 4 * i + 1 : Nat) : Int), ((k + 4 * i + 2 : Nat) : Int), ((k + 4 * i + 3 : Nat) : Int)) := by simp [enAt, mkE, List.getD_eq_getElem?_getD, h]
def fillE (es : List En) (k j : Nat) : List En := mkE k j ++ es.drop j
theorem fillE_len (es : List En) (k j : Nat) (h : j ≤ es.length) : (fillE es k j).length = es.length := by simp [fillE, mkE_len]; omega
theorem fillE_zero (es : List En) (k : Nat) : fillE es k 0 = es := by simp [fillE, mkE]
theorem fillE_all (es : List En) (k : Nat) : fillE es k es.length = mkE k es.length := by simp [fillE]
theorem fillE_succ (es : List En) (k j : Nat) (h : j < es.length) : (fillE es k j).set j (((k + 4 * j : Nat) : Int), ((k + 4 * j + 1 : Nat) : Int), ((k + 4 * j + 2 : Nat) : Int), ((k + 4 * j + 3 : Nat) : Int)) = fillE es k (j + 1) := by
  unfold fillE
  rw [List.set_append, if_neg (by rw [mkE_len]; omega), mkE_len, Nat.sub_self, List.drop_eq_getElem_cons h, List.set_cons_zero]
  simp [mkE, List.range_succ]


theorem keepE {w w' : World} {base n size : Nat} {t : TypeId} {v : Value} {xs : List Value} {row : Option Nat} (h : w.ownsRow base t size v n xs) (hg : w.grownBy w' row) (hne : ∀ g, v.ownBlock = some g → some g ≠ row) : w'.ownsRow base t size v n xs := by
  obtain ⟨h1, h2⟩ := h
  refine ⟨h1, ?_⟩
  rcases h2 with h | ⟨g, cap, cur, hv, hg', hh, a1, a2, a3, a4⟩
  · exact .inl h
  · have hlt : g < w.heap.size := (Array.getElem?_eq_some_iff.1 hh).1
    exact .inr ⟨g, cap, cur, hv, hg', (hg.block g hlt (hne g (by rw [hv]; rfl))).trans hh, a1, a2, a3, a4⟩
/-- what stood ahead of a row stands behind marks in it -/
theorem below_mark {w u u' : World} {row : Option Nat} (b : Below w.heap.size w u) (g : u.grownBy u' row) (hr : ∀ x, row = some x → w.heap.size ≤ x) : Below w.heap.size w u' := b.grown g b.size hr
theorem ents_mark {w : World} {base n : Nat} {t : TypeId} {ao : Option Addr} {cap : Nat} (h : w.ownsRow base t 4 (.slice ao n cap) n (ecells (mkE 1 n))) : EntsAt w ao (mkE 1 n) := by
  obtain ⟨ao', cap', hv, hf, _⟩ := ents_of_own h
  obtain ⟨rfl, _⟩ : ao = ao' ∧ n = (mkE 1 n).length ∧ cap = cap' := by simpa using hv
  exact hf

end Go.Proofs.YtenbhmmknejcjaaDoor

/- Chapter 8, the days of the steps: the program's table, the specification's list. -/
namespace Go.Proofs.YtenbhmmknejcjaaDoor
open Go.RowKit

def stepL : List Int := [30, 30, 15, 60, 20]
/-- the days of a step, -1 for another -/
def stepV (x : Int) : Int := if 0 ≤ x ∧ x ≤ 4 then stepL.getD x.toNat 0 else -1
theorem stepV_no {x : Int} (h : x < 0 ∨ 4 < x) : stepV x = -1 := if_neg (by omega)
theorem stepV_yes {k : Nat} (h : k < 5) : stepV (k : Int) = stepL.getD k 0 := by rw [stepV, if_pos (by omega)]; rfl
theorem step_cases (x : Int) : (x < 0 ∨ 4 < x) ∨ ∃ k : Nat, k < 5 ∧ x = (k : Int) := by
  by_cases h : x < 0 ∨ 4 < x
  · exact .inl h
  · exact .inr ⟨x.toNat, by omega, by omega⟩

/-- the table of the steps' days holds them -/
def StepTab (w : World) : Prop := Lib.TabIs Tryd.prog w "loop.example/g00126/impl.stepDays" .i64 stepL
theorem StepTab.below {w w' : World} (h : StepTab w) (hb : Below w.heap.size w w') : StepTab w' := Lib.tabBelow_of_tabIs h w' hb
theorem StepTab.cell {w : World} (h : StepTab w) (i : Nat) (hi : i < 5) : w.cell? ⟨0, i, none⟩ = some (.int .i64 (stepL.getD i 0)) :=
  Lib.TabIs.cell h (by kernel_rfl) i hi

set_option maxHeartbeats 400000 in
theorem iStep_any (x : Int) (w : World) (ht : StepTab w) :
    Calls Tryd.prog 23 #[.int .i64 x] w fun e w' => e = .returned (.int .i64 (stepV x)) ∧ w' = w := by
  rcases step_cases x with h | ⟨k, hk, rfl⟩
  · have HV : Hid _ := stepV_no h
    clear ht
    rcases h with h | h
    · go_enter Tryd.func23, Tryd.ntmps23
      go_wp2
      go_ret
      exact ⟨one_int HV.out.symm, rfl⟩
    · go_enter Tryd.func23, Tryd.ntmps23
      go_wp2
      go_ret
      exact ⟨one_int HV.out.symm, rfl⟩
  · have hc := ht.cell k hk
    have HL : Hid _ := stepV_yes hk
    obtain ⟨v, hv⟩ : ∃ v, stepL.getD k 0 = v := ⟨_, rfl⟩
    rw [hv] at hc
    have HV : Hid _ := hv
    clear ht hv
    go_enter Tryd.func23, Tryd.ntmps23
    go_wp2
    go_ret
    exact ⟨one_int (by rw [HL.out, HV.out]), rfl⟩

set_option maxHeartbeats 400000 in
theorem sStep_any (x : Int) (w : World) :
    Calls Tryd.prog 37 #[.int .i64 x] w fun e w' => e = .returned (.int .i64 (stepV x)) ∧ Below w.heap.size w w' := by
  rcases step_cases x with h | ⟨k, hk, rfl⟩
  · have HV : Hid _ := stepV_no h
    have hi : inB x 0 4 = false := inB_neg h
    go_enter Tryd.func37, Tryd.ntmps37
    go_wp2_with (go_at_call 47; refine (in_any _ _ _ _).mono ?_; rintro e w' ⟨rfl, rfl⟩)
    go_ret
    exact ⟨one_int HV.out.symm, Below.refl _ _⟩
  · have hi : inB (k : Int) 0 4 = true := inB_pos (by omega) (by omega)
    have HB : Hid (Below w.heap.size w (w.alloc (.cells #[.int .i64 30, .int .i64 30, .int .i64 15, .int .i64 60, .int .i64 20] 3))) := (Below.refl _ _).alloc (Nat.le_refl _) _
    have hc : (w.alloc (.cells #[.int .i64 30, .int .i64 30, .int .i64 15, .int .i64 60, .int .i64 20] 3)).cell? ⟨w.heap.size, k, none⟩ = some (.int .i64 (stepL.getD k 0)) := by
      rcases (show k = 0 ∨ k = 1 ∨ k = 2 ∨ k = 3 ∨ k = 4 by omega) with rfl | rfl | rfl | rfl | rfl <;> simp [stepL]
    have HL : Hid _ := stepV_yes hk
    obtain ⟨v, hv⟩ : ∃ v, stepL.getD k 0 = v := ⟨_, rfl⟩
    rw [hv] at hc
    have HV : Hid _ := hv
    clear hv
    go_enter Tryd.func37, Tryd.ntmps37
    go_wp2_with (go_at_call 47; refine (in_any _ _ _ _).mono ?_; rintro e w' ⟨rfl, rfl⟩)
    go_ret
    exact ⟨one_int (by rw [HL.out, HV.out]), HB.out⟩

end Go.Proofs.YtenbhmmknejcjaaDoor

/- The table of the steps' days, as the rows list it, and behind a call. -/
namespace Go.Proofs.YtenbhmmknejcjaaDoor
open Go.ChangeShapes Go.WideShapes Go.ChangeAt Go.RowKit

theorem stepEq : (Rows.laid_loop_example_g00126_impl_stepDays : DataW Unit) = Lib.tabData .i64 stepL := by kernel_rfl
theorem step_g : Tryd.prog.globalNamed "loop.example/g00126/impl.stepDays" = some 0 := by kernel_rfl
theorem step_t : (Tryd.prog.globals[0]?).map (·.type) = some 79 := by kernel_rfl
theorem step_head {rest : List (String × DataW Unit)} {w : World} (h : laidMet Tryd.prog (("loop.example/g00126/impl.stepDays", Rows.laid_loop_example_g00126_impl_stepDays) :: rest) w) : StepTab w := by
  rw [stepEq] at h
  exact Lib.tabIs_of_head step_g step_t Tryd.underlying79 Tryd.underlying3 (by kernel_rfl) (by kernel_rfl) h

theorem var_keep {w w' : World} {n : String} {cs : Array Value} (h : w.var? Tryd.prog n = some cs) (hb : Below w.heap.size w w') : w'.var? Tryd.prog n = some cs := by
  unfold World.var? at *
  cases hg : Tryd.prog.globalNamed n with
  | none => simp [hg] at h
  | some g =>
    simp only [hg, Option.bind_some] at h ⊢
    have hlt : g < w.heap.size := by
      rcases Nat.lt_or_ge g w.heap.size with h' | h'
      · exact h'
      · rw [Array.getElem?_eq_none h'] at h; simp at h
    rw [hb.block g hlt]
    exact h

theorem step_vars {H : Type} {enc : TypeId × Value → H} {W W' : World} {gv : Nat} {tv : TypeId} {cs : Array Value} {fv : Nat} {dv : DataW H} {pv : List MemPlace}
    (hg : Tryd.prog.globalNamed "loop.example/g00126/impl.stepDays" = some gv) (ht : (Tryd.prog.globals[gv]?).map (·.type) = some tv) (hvar : W.var? Tryd.prog "loop.example/g00126/impl.stepDays" = some cs)
    (hd : DataW.trod enc Tryd.prog W 0 (fun _ => true) true fv tv cs.toList = some (dv, pv)) (hm : StepTab W) (hb : Below W.heap.size W W') :
    DataW.TrodVars enc Tryd.prog W' (fun b => decide (b < W.heap.size)) ["loop.example/g00126/impl.stepDays"] [dv] (MemPlace.row ⟨gv, 0, none⟩ cs.size ++ pv) := by
  obtain rfl := Option.some.inj (step_g.symm.trans hg)
  obtain rfl := Option.some.inj (step_t.symm.trans ht)
  have hcs : cs = (stepL.map fun z => Value.int .i64 z).toArray := by
    unfold StepTab Lib.TabIs at hm
    rw [hm] at hvar
    injection hvar with h
    exact h.symm
  subst hcs
  have hlt : ∀ x ∈ pv, x.block < W.heap.size := DataW.trod_lt fv _ _ _ hd
  obtain ⟨f', hd'⟩ := Below.trod laidOut (by kernel_rfl) (of_decide_eq_true (by kernel_rfl)) (v := .agg (stepL.map fun z => Value.int .i64 z).toArray)
    (⟨fv, by simpa [Value.cells, stepL] using hd⟩ : DataW.Trod enc Tryd.prog W 0 (fun _ => true) true 79 (.agg (stepL.map fun z => Value.int .i64 z).toArray) dv pv) hb hlt
  exact trodVars_mk1 hg ht (var_keep hvar hb) (by simpa [Value.cells, stepL] using hd')

end Go.Proofs.YtenbhmmknejcjaaDoor

/- A region that draws its order and whose callees make memory of their own: walked once, over the class of all worlds in which what was there stands. -/
namespace Go.Proofs.YtenbhmmknejcjaaDoor
open Go.RowKit

/-- a world in which all that W holds stands -/
structure Over (W : World) where
  x : World
  h : Below W.heap.size W x

theorem over_ne (W : World) : Nonempty (Over W) := ⟨⟨W, Below.refl _ _⟩⟩
theorem over_cell {W : World} {a : Addr} {v : Value} (h : W.cell? a = some v) (z : Over W) : z.x.cell? a = some v := (z.h.cell (p := a) (World.block_lt_of_cell? W _ h)).trans h

theorem wp_region_over {P : Program} {id : Nat} {Q : Exit → Act → World → Prop} {a : Act} {w : World} {l : List Oper} (hm : P.follows .mixedOrders = true) (hB : Region.lexB .any l.toArray = true)
    (h : wpQuiet P l.toArray (fun w' => ∃ z : Over w, w' = z.x) (fun a' => ∀ w', (∃ z : Over w, w' = z.x) → Q .normal a' w') l a) : (Code.region id l.toArray true).wp P Q a w :=
  wp_region_quiet (C := fun w' => ∃ z : Over w, w' = z.x) hm hB ⟨⟨_, (Below.refl _ _).drew⟩, rfl⟩ (by simpa using h)

theorem over_of {P : Program} {f : FuncId} {args : Array Value} {w : World} {z : Over w} {v : Value} (h : Calls P f args z.x fun e w' => e = .returned v ∧ Below z.x.heap.size z.x w') :
    Calls P f args z.x fun e w'' => e = .returned v ∧ ∃ y : Over w, w'' = y.x :=
  h.mono fun _ w' ⟨he, hb⟩ => ⟨he, ⟨w', z.h.trans (hb.mono z.h.size)⟩, rfl⟩

end Go.Proofs.YtenbhmmknejcjaaDoor
