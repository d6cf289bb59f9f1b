/- Joined: Aid, Base, Leaf, Cur, LedP, Cal, By, AuP, Lns, AuSl, AuOwn, AuLaw, CaseP, CVal, LnLaw, LnLaw2, EnLaw, CLaw, CaSl, Over, CaLaw, FileP, FBytes, Txts, MarkT, StrLaw, Ints, IntsEq, BkGen, CaCpy, IntsOwn, BkCpy, BkTo, CaApp, AuApp, TxtApp, IntApp, SLed, TgLeaf, TgNum, TgDec3, DLeaf, PadP, Dec3, SPad, DecT, Draw, DrawPick, Drawn. -/
import Derived.Test.YtlonjjliochbhaaProg
import Derived.WalkKit
import Derived.WalkLawsBesides
import Derived.Deep.QuietTactic
import Derived.BigQuiet
import Derived.WalkSmall
import Derived.OwnWalk
import Derived.Test.YtlonjjliochbhaaRows
import Derived.ProofKit
import Derived.OpenShut
import Derived.ShutString
import Derived.ChangeOld
import Derived.Below
import Derived.Maps.OwnSet
import Derived.Maps.OwnOps
import Derived.Outline
import Init
import Derived.Lib.Strings
import Derived.Deep.SlicePairs
import Derived.Deep.Strs
import Derived.Lib.SmallJoins
import Derived.Lib.AppendZeros
import Derived.Maps.AppendAt
import Derived.Deep.AppendLies
import Derived.Handy
import Derived.Deep.RegionWith
import Derived.Deep.RegionHeld3
import Derived.Deep.DeepCutAuto
import Derived.Laws.IdiomStrings
import Derived.Laws.BytesArg
import Derived.Lib.ItoaNum
import Derived.Lib.ItoaLen
import Derived.WalkSpells
/- Small steps that many walks end with. -/
namespace Go.Proofs.Ytlonjjliochbhaa
open Go.RowKit

theorem next {w w1 w2 : World} (h : Below w.heap.size w w1) (k : Below w1.heap.size w1 w2) : Below w.heap.size w w2 := h.trans (k.mono h.size)
theorem two_eq {k : IntKind} {a b : Int} {x y : Bool} (h : a = b) (g : x = y) : Ending.returned (.tuple #[.int k a, .bool x]) = .returned (.tuple #[.int k b, .bool y]) := by rw [h, g]
theorem two_ints {k : IntKind} {a b x y : Int} (h : a = b) (g : x = y) : Ending.returned (.tuple #[.int k a, .int k x]) = .returned (.tuple #[.int k b, .int k y]) := by rw [h, g]
theorem one_int {k : IntKind} {a b : Int} (h : a = b) : Ending.returned (.int k a) = .returned (.int k b) := by rw [h]
theorem one_bool {a b : Bool} (h : a = b) : Ending.returned (.bool a) = .returned (.bool b) := by rw [h]
theorem one_str {a b : ByteArray} (h : a = b) : Ending.returned (.string a) = .returned (.string b) := by rw [h]

end Go.Proofs.Ytlonjjliochbhaa

/- What every law's last step uses: closed facts of the program, and what a slice of integers that came in reads as. -/
namespace Go.Proofs.Ytlonjjliochbhaa
open Go.ChangeShapes Go.WideShapes Go.ChangeAt Go.RowKit

theorem own : ownKnob Try.prog.godebug = none := by kernel_rfl
theorem laidOut : laidOutB Try.prog = true := by kernel_rfl

/-- A slice of integers that came in: nil, or a row of 'cap' cells that hold the numbers 'zs', each fitting its kind; the first 'len' are its elements. -/
def IsRow (k : IntKind) (w : World) (a : Option Addr) (len cap : Nat) (zs : List Int) : Prop :=
  (a = none ∧ len = 0 ∧ cap = 0 ∧ zs = []) ∨
  ∃ x, a = some x ∧ len ≤ cap ∧ cap ≤ maxLen ∧ zs.length = cap ∧ (∀ i, i < zs.length → w.cell? (x.add i) = some (.int k (zs.getD i 0))) ∧ ∀ n ∈ zs, (Lit.int k n).wf = true

theorem is_row {H : Type} {enc : TypeId × Value → H} {W : World} {t e : TypeId} {k : IntKind} {a : Option Addr} {len cap : Nat} {d : DataW H} {p : List MemPlace}
    (ht : Try.prog.underlying t = some (.slice e)) (he : Try.prog.underlying e = some (.int k)) (hc : Try.prog.cellsOf e = 1)
    (h : DataW.Trod enc Try.prog W 0 (fun _ => true) true t (Value.slice a len cap) d p) : ∃ zs, IsRow k W a len cap zs := by
  obtain ⟨fuel, hf⟩ := h
  rcases open_ints ht he hc hf with ⟨hcs, _⟩ | ⟨x, l, c, zs, hcs, _, hl, hm, hz, _, hcell, hwz⟩
  · simp [Value.cells] at hcs
    obtain ⟨rfl, rfl, rfl⟩ := hcs
    exact ⟨[], .inl ⟨rfl, rfl, rfl, rfl⟩⟩
  · simp [Value.cells] at hcs
    obtain ⟨rfl, rfl, rfl⟩ := hcs
    exact ⟨zs, .inr ⟨_, rfl, hl, hm, by simpa using hz, hcell, hwz⟩⟩

end Go.Proofs.Ytlonjjliochbhaa

/- The contracts of the small functions of chapter 1 (money): what each returns for every argument. -/
namespace Go.Proofs.Ytlonjjliochbhaa
open Go.RowKit

def mOk (x : Int) : Bool := decide (-1000000000000 ≤ x ∧ x ≤ 1000000000000)
theorem mOk_pos {x : Int} (h1 : -1000000000000 ≤ x) (h2 : x ≤ 1000000000000) : mOk x = true := by simp [mOk, h1, h2]
theorem mOk_neg {x : Int} (h : x < -1000000000000 ∨ 1000000000000 < x) : mOk x = false := by simp [mOk]; omega
theorem mOk_bd {x : Int} (h : mOk x = true) : -1000000000000 ≤ x ∧ x ≤ 1000000000000 := by simpa [mOk] using h
theorem mOk_out {x : Int} (h : mOk x = false) : x < -1000000000000 ∨ 1000000000000 < x := by simp [mOk] at h; omega

def inB (x a b : Int) : Bool := decide (a ≤ x ∧ x ≤ b)

set_option maxHeartbeats 400000 in
theorem in_any (x a b : Int) (w : World) :
    Calls Try.prog 33 #[.int .i64 x, .int .i64 a, .int .i64 b] w fun e w' => e = .returned (.bool (inB x a b)) ∧ w' = w := by
  by_cases h1 : a ≤ x
  · by_cases h2 : x ≤ b
    · go_enter Try.func33, Try.ntmps33
      go_wp2
      go_ret
      exact ⟨by simp [inB, h1, h2], rfl⟩
    · go_enter Try.func33, Try.ntmps33
      go_wp2
      go_ret
      exact ⟨by simp [inB, h1, h2], rfl⟩
  · go_enter Try.func33, Try.ntmps33
    go_wp2
    go_ret
    exact ⟨by simp [inB]; omega, rfl⟩

set_option maxHeartbeats 400000 in
theorem sMoneyOk_any (x : Int) (w : World) :
    Calls Try.prog 77 #[.int .i64 x] w fun e w' => e = .returned (.bool (mOk x)) ∧ w' = w := by
  go_enter Try.func77, Try.ntmps77
  go_wp2_with (go_at_call 33; refine (in_any _ _ _ _).mono ?_; rintro e w' ⟨rfl, rfl⟩)
  go_ret
  exact ⟨rfl, rfl⟩



end Go.Proofs.Ytlonjjliochbhaa

/- The contracts of Digits: the program's map of currencies, the specification's list. -/
namespace Go.Proofs.Ytlonjjliochbhaa
open Go.RowKit Go.Maps

/-- an entry of a map literal, at the operation -/
theorem wpList_insert_own {H : Type} {P : Program} (w : World) {ops : Array Oper} {rest : List Oper} {o : Oper} {a : Act} {Q : Exit → Act → World → Prop}
    (hg : o.guard = none) (m x v : Operand) (t : TypeId) (hop : o.op = Op.insert t m x v)
    (k e : TypeId) (K : Keyed P k) (ht : P.underlying t = some (.map k e)) (R : Value → Option (DataW H × List MemPlace)) (b n : Nat) (D : DataW H)
    (hm : a.eval m = .map (some b)) (hown : w.ownsMap P k R b n D) (hn : n < maxLen) (key val : Value) (kl : Lit) (hx : a.eval x = key) (hv : a.eval v = val) (hkey : keyOf P k key = some kl)
    (d : DataW H) (ps : List MemPlace) (hval : R val = some (d, ps))
    (hK : ∀ w', w'.ownsMap P k R b (n + 1) (D.put kl d) → w.grownBy w' (some b) → wpList P ops Q rest (a.put o.dst undef) w') :
    wpList P ops Q (o :: rest) a w := by
  refine wpList_plain hg fun K' hK' => ?_
  obtain ⟨w', hrun, r1, r2⟩ := hown.update K ht hn hkey hval
  unfold Oper.wp
  simp [execOp, hop, hm, hx, hv, hrun, Result.andThen]
  exact hK' _ _ (hK w' r1 r2)

theorem lawInt : Keyed Try.prog 3 := int_keyed Try.underlying3

/-- what the program's map of currencies reads as -/
def curD : DataW Unit := (((((((((DataW.map (H := Unit) []).put (.int .i64 36) (.lit (.int .i64 2))).put (.int .i64 392) (.lit (.int .i64 0))).put (.int .i64 756) (.lit (.int .i64 2))).put (.int .i64 826) (.lit (.int .i64 2))).put (.int .i64 840) (.lit (.int .i64 2))).put (.int .i64 978) (.lit (.int .i64 2))).put (.int .i64 48) (.lit (.int .i64 3))).put (.int .i64 414) (.lit (.int .i64 3)))


/-- how many digits a currency has behind the point; -1 for no currency -/
def digs (cur : Int) : Int := if cur = 36 then 2 else if cur = 392 then 0 else if cur = 756 then 2 else if cur = 826 then 2 else if cur = 840 then 2 else if cur = 978 then 2 else if cur = 48 then 3 else if cur = 414 then 3 else -1
def isCur (cur : Int) : Bool := cur == 36 || cur == 392 || cur == 756 || cur == 826 || cur == 840 || cur == 978 || cur == 48 || cur == 414

theorem cur_cases {cur : Int} (h : isCur cur = true) : cur = 36 ∨ cur = 392 ∨ cur = 756 ∨ cur = 826 ∨ cur = 840 ∨ cur = 978 ∨ cur = 48 ∨ cur = 414 := by
  simp [isCur] at h; omega
theorem cur_none {cur : Int} (h : isCur cur = false) : cur ≠ 36 ∧ cur ≠ 392 ∧ cur ≠ 756 ∧ cur ≠ 826 ∧ cur ≠ 840 ∧ cur ≠ 978 ∧ cur ≠ 48 ∧ cur ≠ 414 := by
  simp [isCur] at h; omega
theorem digs_none {cur : Int} (h : isCur cur = false) : digs cur = -1 := by
  have := cur_none h; simp [digs, this]
theorem digs_bd (cur : Int) : -1 ≤ digs cur ∧ digs cur ≤ 3 := by
  unfold digs; repeat' split
  all_goals omega
theorem digs_cur {cur : Int} (h : isCur cur = true) : 0 ≤ digs cur := by
  rcases cur_cases h with rfl | rfl | rfl | rfl | rfl | rfl | rfl | rfl <;> decide
theorem isCur_iff (cur : Int) : isCur cur = decide (0 ≤ digs cur) := by
  cases h : isCur cur
  · simp [digs_none h]
  · simp [digs_cur h]

theorem curD_has_yes {cur : Int} (h : isCur cur = true) : Maps.has curD (.int .i64 cur) = true := by
  rcases cur_cases h with rfl | rfl | rfl | rfl | rfl | rfl | rfl | rfl <;> decide
theorem curD_at {cur : Int} (h : isCur cur = true) : curD.atKey (.int .i64 cur) (.lit (.int .i64 0)) = .lit (.int .i64 (digs cur)) := by
  rcases cur_cases h with rfl | rfl | rfl | rfl | rfl | rfl | rfl | rfl <;> rfl
theorem lit_ne {a b : Int} (h : a ≠ b) : Lit.int .i64 a ≠ Lit.int .i64 b := fun e => h (by injection e)
theorem curD_has_no {cur : Int} (h : isCur cur = false) : Maps.has curD (.int .i64 cur) = false := by
  have g := cur_none h
  unfold curD
  rw [Maps.has_put_other (lit_ne (by omega)), Maps.has_put_other (lit_ne (by omega)), Maps.has_put_other (lit_ne (by omega)), Maps.has_put_other (lit_ne (by omega)),
    Maps.has_put_other (lit_ne (by omega)), Maps.has_put_other (lit_ne (by omega)), Maps.has_put_other (lit_ne (by omega)), Maps.has_put_other (lit_ne (by omega))]
  rfl

theorem zero3 (w : World) : (zeroValue 3).run Try.prog w = .ok (.int .i64 0) w := by kernel_rfl


/-- the specification's lists -/
def curL : List Int := [36, 392, 756, 826, 840, 978, 48, 414]
def digL : List Int := [2, 0, 2, 2, 2, 2, 3, 3]

theorem below8 {k : Nat} (h : k < 8) : k = 0 ∨ k = 1 ∨ k = 2 ∨ k = 3 ∨ k = 4 ∨ k = 5 ∨ k = 6 ∨ k = 7 := by omega
theorem digL_at {cur : Int} {k : Nat} (hk : k < 8) (h : curL.getD k 0 = cur) : digL.getD k 0 = digs cur := by
  subst h
  rcases below8 hk with rfl | rfl | rfl | rfl | rfl | rfl | rfl | rfl <;> decide
theorem digL_none {cur : Int} (h : ∀ j, j < 8 → curL.getD j 0 ≠ cur) : digs cur = -1 := by
  have h0 := h 0 (by omega); have h1 := h 1 (by omega); have h2 := h 2 (by omega); have h3 := h 3 (by omega)
  have h4 := h 4 (by omega); have h5 := h 5 (by omega); have h6 := h 6 (by omega); have h7 := h 7 (by omega)
  simp [curL] at h0 h1 h2 h3 h4 h5 h6 h7
  simp [digs]; omega

set_option maxHeartbeats 400000 in
theorem sCurrencies_any (w : World) :
    Calls Try.prog 67 #[] w fun e w' => e = .returned (.slice (some ⟨w.heap.size, 0, none⟩) 8 8) ∧ w' = w.alloc (.cells #[.int .i64 36, .int .i64 392, .int .i64 756, .int .i64 826, .int .i64 840, .int .i64 978, .int .i64 48, .int .i64 414] 3) := by
  go_enter Try.func67, Try.ntmps67
  go_wp2
  go_ret
  exact ⟨rfl, rfl⟩

set_option maxHeartbeats 800000 in
theorem sDigits_any (cur : Int) (w : World) :
    Calls Try.prog 56 #[.int .i64 cur] w fun e w' => e = .returned (.int .i64 (digs cur)) ∧ Below w.heap.size w w' := by
  have hcA : ∀ k, k < 8 → ((w.alloc (.cells #[.int .i64 2, .int .i64 0, .int .i64 2, .int .i64 2, .int .i64 2, .int .i64 2, .int .i64 3, .int .i64 3] 3)).alloc (.cells #[.int .i64 36, .int .i64 392, .int .i64 756, .int .i64 826, .int .i64 840, .int .i64 978, .int .i64 48, .int .i64 414] 3)).cell? ⟨w.heap.size + 1, k, none⟩ = some (.int .i64 (curL.getD k 0)) := by
    intro k hk
    rcases below8 hk with rfl | rfl | rfl | rfl | rfl | rfl | rfl | rfl <;> simp [curL]
  have hcB : ∀ k, k < 8 → ((w.alloc (.cells #[.int .i64 2, .int .i64 0, .int .i64 2, .int .i64 2, .int .i64 2, .int .i64 2, .int .i64 3, .int .i64 3] 3)).alloc (.cells #[.int .i64 36, .int .i64 392, .int .i64 756, .int .i64 826, .int .i64 840, .int .i64 978, .int .i64 48, .int .i64 414] 3)).cell? ⟨w.heap.size, k, none⟩ = some (.int .i64 (digL.getD k 0)) := by
    intro k hk
    rcases below8 hk with rfl | rfl | rfl | rfl | rfl | rfl | rfl | rfl <;> simp [digL]
  have hbel : Below w.heap.size w ((w.alloc (.cells #[.int .i64 2, .int .i64 0, .int .i64 2, .int .i64 2, .int .i64 2, .int .i64 2, .int .i64 3, .int .i64 3] 3)).alloc (.cells #[.int .i64 36, .int .i64 392, .int .i64 756, .int .i64 826, .int .i64 840, .int .i64 978, .int .i64 48, .int .i64 414] 3)) := ((Below.refl _ _).alloc (Nat.le_refl _) _).alloc (by simp) _
  go_enter Try.func56, Try.ntmps56
  go_wp2_with (go_at_call 67; refine (sCurrencies_any _).mono ?_; rintro e w' ⟨rfl, rfl⟩)
  go_loop [5] (fun i => ∃ k : Nat, k ≤ 8 ∧ i = .int .i64 k ∧ ∀ j, j < k → curL.getD j 0 ≠ cur) (fun i => 8 - (intOf i).toNat)
  case atStart => exact ⟨0, by omega, rfl, fun j hj => by omega⟩
  case round =>
    obtain ⟨k, hk, rfl, hno⟩ := hrel
    have HN : Hid (∀ j, j < k → curL.getD j 0 ≠ cur) := hno
    clear hno
    by_cases hlt : k < 8
    · have a1 := hcA k hlt
      have a2 := hcB k hlt
      clear hcA hcB
      obtain ⟨c, hc⟩ : ∃ c, curL.getD k 0 = c := ⟨_, rfl⟩
      obtain ⟨d, hd⟩ : ∃ d, digL.getD k 0 = d := ⟨_, rfl⟩
      rw [hc] at a1
      rw [hd] at a2
      have HC : Hid (curL.getD k 0 = c) := hc
      have HD : Hid (digL.getD k 0 = d) := hd
      clear hc hd
      cases he : (c == cur)
      · have HE : Hid (curL.getD k 0 ≠ cur) := by rw [HC.out]; simpa [Hid] using he
        go_wp2
        go_round
        case rel => exact ⟨k + 1, by omega, by go_num, fun j hj => by rcases (show j < k ∨ j = k from by omega) with h | rfl; exact HN.out j h; exact HE.out⟩
        case measure => simp [intOf]; omega
      · have HE : Hid (curL.getD k 0 = cur) := by rw [HC.out]; simpa [Hid] using he
        go_wp2
        go_ret
        exact ⟨one_int (HD.out.symm.trans (digL_at hlt HE.out)), hbel⟩
    · have : k = 8 := by omega
      subst this
      clear hcA hcB
      go_wp2
      go_ret
      exact ⟨one_int (digL_none HN.out).symm, hbel⟩

end Go.Proofs.Ytlonjjliochbhaa

/- The books, plainly: lines, when they are so, a line more, an entry posted. No Go in sight. -/
namespace Go.Proofs.Ytlonjjliochbhaa

/-- a line: account, currency, amount -/
abbrev Ln := Int × Int × Int
/-- an entry: from, to, currency, amount -/
abbrev En := Int × Int × Int × Int
def lnAt (ls : List Ln) (k : Nat) : Ln := ls.getD k (0, 0, 0)
theorem lnAt_is {ls : List Ln} {k : Nat} (h : k < ls.length) : lnAt ls k = ls[k] := by simp [lnAt, List.getD_eq_getElem?_getD, h]
theorem lnAt_mem {ls : List Ln} {k : Nat} (h : k < ls.length) : lnAt ls k ∈ ls := by rw [lnAt_is h]; exact List.getElem_mem h
theorem take_lnAt (ls : List Ln) (k : Nat) (h : k < ls.length) : ls.take (k + 1) = ls.take k ++ [lnAt ls k] := by rw [List.take_succ_eq_append_getElem h, lnAt_is h]
theorem drop_lnAt (ls : List Ln) (k : Nat) (h : k < ls.length) : ls.drop k = lnAt ls k :: ls.drop (k + 1) := by rw [List.drop_eq_getElem_cons h, lnAt_is h]
def acctOk (a : Int) : Bool := decide (1 ≤ a ∧ a ≤ 9999)
def lnOk (x : Ln) : Bool := acctOk x.1 && (decide (0 ≤ digs x.2.1) && (mOk x.2.2 && decide (x.2.2 ≠ 0)))
/-- one line stands behind another -/
def lnLt (x y : Ln) : Bool := decide (x.1 < y.1 ∨ x.1 = y.1 ∧ x.2.1 < y.2.1)
/-- all lines so, and each behind the one ahead of it -/
def linesOk : Option Ln → List Ln → Bool
  | _, [] => true
  | none, x :: r => lnOk x && linesOk (some x) r
  | some y, x :: r => (lnOk x && lnLt y x) && linesOk (some x) r
def sumC (cur : Int) (ls : List Ln) : Int := (ls.map fun x => if x.2.1 = cur then x.2.2 else 0).sum
theorem sumC_step (cur : Int) (ls : List Ln) (k : Nat) (h : k < ls.length) : sumC cur (ls.take (k + 1)) = sumC cur (ls.take k) + if (lnAt ls k).2.1 = cur then (lnAt ls k).2.2 else 0 := by
  rw [take_lnAt ls k h]; simp [sumC]
def evenL (ls : List Ln) : Bool := curL.all fun c => decide (sumC c ls = 0)
def ledgerOk (ls : List Ln) : Bool := linesOk none ls && (decide (ls.length ≤ 400) && evenL ls)
def entryOk (e : En) : Bool := acctOk e.1 && (acctOk e.2.1 && (decide (e.1 ≠ e.2.1) && (decide (0 ≤ digs e.2.2.1) && decide (1 ≤ e.2.2.2 ∧ e.2.2.2 ≤ 1000000000000))))
def balL : List Ln → Int → Int → Int
  | [], _, _ => 0
  | x :: r, a, c => if x.1 = a ∧ x.2.1 = c then x.2.2 else balL r a c
theorem balL_step (ls : List Ln) (k : Nat) (a c : Int) (h : k < ls.length) : balL (ls.drop k) a c = if (lnAt ls k).1 = a ∧ (lnAt ls k).2.1 = c then (lnAt ls k).2.2 else balL (ls.drop (k + 1)) a c := by
  rw [drop_lnAt ls k h]; rfl
/-- a line is at or behind a place -/
def reach (x : Ln) (a c : Int) : Bool := decide (a < x.1 ∨ x.1 = a ∧ c ≤ x.2.1)
/-- lines with more on one of them -/
def addL : List Ln → Int → Int → Int → List Ln
  | [], a, c, m => [(a, c, m)]
  | x :: r, a, c, m => if reach x a c = true then (if x.1 = a ∧ x.2.1 = c then (if x.2.2 + m ≠ 0 then (a, c, x.2.2 + m) :: r else r) else (a, c, m) :: x :: r) else x :: addL r a c m
def postTry (ls : List Ln) (e : En) : List Ln := addL (addL ls e.1 e.2.2.1 (-e.2.2.2)) e.2.1 e.2.2.1 e.2.2.2
def postOk (ls : List Ln) (e : En) : Bool := (ledgerOk ls && entryOk e) && ledgerOk (postTry ls e)
def postL (ls : List Ln) (e : En) : List Ln := if postOk ls e = true then postTry ls e else ls
/-- entries posted in a row: what comes of them, nothing when one is refused -/
def postsL : List Ln → List En → Option (List Ln)
  | ls, [] => some ls
  | ls, e :: r => if postOk ls e = true then postsL (postTry ls e) r else none
/-- the sum of all amounts above 0 in a currency (as ints of 64 bits add up) -/
def worthS (cur : Int) (s : Int) (x : Ln) : Int := if x.2.1 = cur ∧ 0 < x.2.2 then IntKind.i64.wrap (s + x.2.2) else s
def worthL (ls : List Ln) (cur : Int) : Int := ls.foldl (worthS cur) 0
theorem worthL_step (ls : List Ln) (cur : Int) (k : Nat) (h : k < ls.length) : worthL (ls.take (k + 1)) cur = worthS cur (worthL (ls.take k) cur) (lnAt ls k) := by
  rw [take_lnAt ls k h, worthL, List.foldl_append]; rfl
def backE (e : En) : En := (e.2.1, e.1, e.2.2.1, e.2.2.2)
/-- the accounts that have a line, ascending -/
def acctsL (ls : List Ln) : List Int := ((List.range 9999).map fun i : Nat => ((i : Int) + 1)).filter fun a => ls.any fun x => decide (x.1 = a)

theorem linesOk_mem {ls : List Ln} : ∀ {p : Option Ln}, linesOk p ls = true → ∀ x ∈ ls, lnOk x = true := by
  induction ls with
  | nil => intro p _ x hx; cases hx
  | cons y r ih =>
    intro p h x hx
    cases p with
    | none =>
      simp only [linesOk, Bool.and_eq_true] at h
      rcases List.mem_cons.1 hx with rfl | hr
      · exact h.1
      · exact ih h.2 x hr
    | some q =>
      simp only [linesOk, Bool.and_eq_true] at h
      rcases List.mem_cons.1 hx with rfl | hr
      · exact h.1.1
      · exact ih h.2 x hr
theorem lnOk_is {x : Ln} (h : lnOk x = true) : (1 ≤ x.1 ∧ x.1 ≤ 9999) ∧ 0 ≤ digs x.2.1 ∧ (-1000000000000 ≤ x.2.2 ∧ x.2.2 ≤ 1000000000000) ∧ x.2.2 ≠ 0 := by
  simp only [lnOk, acctOk, Bool.and_eq_true, decide_eq_true_eq] at h
  exact ⟨h.1, h.2.1, mOk_bd h.2.2.1, h.2.2.2⟩
theorem addL_len (ls : List Ln) (a c m : Int) : (addL ls a c m).length ≤ ls.length + 1 := by
  induction ls with
  | nil => simp [addL]
  | cons x r ih =>
    simp only [addL]
    split
    · split
      · split <;> simp <;> omega
      · simp
    · simp; omega

theorem mem_accts {ls : List Ln} {a : Int} : a ∈ acctsL ls ↔ (1 ≤ a ∧ a ≤ 9999) ∧ ∃ x ∈ ls, x.1 = a := by
  simp only [acctsL, List.mem_filter, List.mem_map, List.mem_range, List.any_eq_true, decide_eq_true_eq]
  constructor
  · rintro ⟨⟨i, hi, rfl⟩, h⟩
    exact ⟨by omega, h⟩
  · rintro ⟨h, hx⟩
    exact ⟨⟨(a - 1).toNat, by omega, by omega⟩, hx⟩
theorem accts_up (ls : List Ln) : (acctsL ls).Pairwise (· < ·) := by
  refine List.Pairwise.filter _ (List.pairwise_map.2 ?_)
  exact List.pairwise_lt_range.imp fun {i j} h => by omega
theorem accts_apart (ls : List Ln) : (acctsL ls).Pairwise (· ≠ ·) := (accts_up ls).imp fun h => by omega
theorem accts_len (ls : List Ln) : (acctsL ls).length ≤ 9999 := by
  refine Nat.le_trans (List.length_filter_le _ _) ?_
  simp
theorem accts_bd {ls : List Ln} {a : Int} (h : a ∈ acctsL ls) : 1 ≤ a ∧ a ≤ 9999 := (mem_accts.1 h).1

end Go.Proofs.Ytlonjjliochbhaa

/- Plain arithmetic on the calendar: no Go in sight. -/
namespace Go.Proofs.Ytlonjjliochbhaa

def leap (y : Int) : Bool := decide (y % 4 = 0 ∧ (y % 100 ≠ 0 ∨ y % 400 = 0))
/-- how many days year y has -/
def ylen (y : Int) : Int := if leap y then 366 else 365
/-- how many days there are in the years 1 .. y - 1 -/
def ahead (y : Int) : Int := 365 * (y - 1) + (y - 1) / 4 - (y - 1) / 100 + (y - 1) / 400
/-- the day of January 1st of year y -/
def ystart (y : Int) : Int := ahead y - 730119
def mdays : List Int := [31, 28, 31, 30, 31, 30, 31, 31, 30, 31, 30, 31]
/-- how many days month k + 1 of year y has -/
def mlen (y : Int) (k : Nat) : Int := if k = 1 ∧ leap y = true then 29 else mdays.getD k 0
/-- how many days there are in year y ahead of month k + 1 -/
def msum (y : Int) : Nat → Int
  | 0 => 0
  | k + 1 => msum y k + mlen y k

theorem leap_yes {y : Int} (h1 : y % 4 = 0) (h2 : y % 100 ≠ 0 ∨ y % 400 = 0) : leap y = true := by simp [leap]; exact ⟨h1, h2⟩
theorem leap_no {y : Int} (h : y % 4 ≠ 0 ∨ (y % 100 = 0 ∧ y % 400 ≠ 0)) : leap y = false := by simp [leap]; omega
theorem leap_cases (y : Int) : (leap y = true ∧ y % 4 = 0 ∧ (y % 100 ≠ 0 ∨ y % 400 = 0)) ∨ (leap y = false ∧ (y % 4 ≠ 0 ∨ (y % 100 = 0 ∧ y % 400 ≠ 0))) := by
  by_cases h : y % 4 = 0 ∧ (y % 100 ≠ 0 ∨ y % 400 = 0)
  · exact .inl ⟨leap_yes h.1 h.2, h.1, h.2⟩
  · exact .inr ⟨leap_no (by omega), by omega⟩

theorem ahead_next (y : Int) : ahead (y + 1) = ahead y + ylen y := by
  unfold ahead ylen
  rcases leap_cases y with ⟨h, h1, h2⟩ | ⟨h, h1⟩
  · rw [if_pos h]; omega
  · rw [h, if_neg (by decide)]; omega
theorem ystart_next (y : Int) : ystart (y + 1) = ystart y + ylen y := by unfold ystart; rw [ahead_next]; omega
theorem ylen_bd (y : Int) : 365 ≤ ylen y ∧ ylen y ≤ 366 := by unfold ylen; split <;> omega
theorem ahead_mono {y z : Int} (h : y ≤ z) : ahead y ≤ ahead z := by unfold ahead; omega
theorem ystart_mono {y z : Int} (h : y ≤ z) : ystart y ≤ ystart z := by have := ahead_mono h; unfold ystart; omega
theorem ystart_2000 : ystart 2000 = 0 := by decide
theorem ystart_guess (q : Int) (h : 0 ≤ q) : ystart (2000 + q) ≤ 366 * q := by unfold ystart ahead; omega
theorem ystart_up {y : Int} (h : 2000 ≤ y) : 365 * (y - 2000) ≤ ystart y := by unfold ystart ahead; omega

theorem mlen_bd (y : Int) (k : Nat) (h : k < 12) : 28 ≤ mlen y k ∧ mlen y k ≤ 31 := by
  unfold mlen
  split
  · omega
  · rcases (show k = 0 ∨ k = 1 ∨ k = 2 ∨ k = 3 ∨ k = 4 ∨ k = 5 ∨ k = 6 ∨ k = 7 ∨ k = 8 ∨ k = 9 ∨ k = 10 ∨ k = 11 from by omega) with rfl | rfl | rfl | rfl | rfl | rfl | rfl | rfl | rfl | rfl | rfl | rfl <;> decide
theorem msum_12 (y : Int) : msum y 12 = ylen y := by
  unfold ylen
  cases h : leap y <;> simp [msum, mlen, mdays, h]
theorem msum_mono (y : Int) {j k : Nat} (h : j ≤ k) (hk : k ≤ 12) : msum y j ≤ msum y k := by
  induction k with
  | zero => have : j = 0 := by omega
            subst this; exact Int.le_refl _
  | succ k ih =>
    by_cases e : j = k + 1
    · subst e; exact Int.le_refl _
    · have := ih (by omega) (by omega)
      have := mlen_bd y k (by omega)
      rw [msum]; omega
theorem msum_bd (y : Int) {k : Nat} (hk : k ≤ 12) : 0 ≤ msum y k ∧ msum y k ≤ 366 := by
  have h1 := msum_mono y (Nat.zero_le k) hk
  have h2 := msum_mono y hk (Nat.le_refl _)
  have h3 := ylen_bd y
  rw [msum_12] at h2
  simp only [msum] at h1
  omega

/-- x is the date of the day d -/
def IsDate (d x : Int) : Prop := ∃ (y : Int) (k : Nat) (r : Int), 2000 ≤ y ∧ y ≤ 2299 ∧ k < 12 ∧ 0 ≤ r ∧ r < mlen y k ∧ d = ystart y + msum y k + r ∧ x = 10000 * y + 100 * (k + 1) + r + 1

theorem year_one {d y z a b : Int} (h1 : d = ystart y + a) (h2 : d = ystart z + b) (a0 : 0 ≤ a) (a1 : a < ylen y) (b0 : 0 ≤ b) (b1 : b < ylen z) : y = z := by
  rcases Int.lt_trichotomy y z with h | h | h
  · have := ystart_mono (show y + 1 ≤ z by omega); rw [ystart_next] at this; omega
  · exact h
  · have := ystart_mono (show z + 1 ≤ y by omega); rw [ystart_next] at this; omega
theorem month_one {y d : Int} {j k : Nat} {r s : Int} (h1 : d = msum y j + r) (h2 : d = msum y k + s) (hj : j < 12) (hk : k < 12) (r0 : 0 ≤ r) (r1 : r < mlen y j) (s0 : 0 ≤ s) (s1 : s < mlen y k) : j = k := by
  rcases Nat.lt_trichotomy j k with h | h | h
  · have := msum_mono y (show j + 1 ≤ k by omega) (by omega); rw [msum] at this; omega
  · exact h
  · have := msum_mono y (show k + 1 ≤ j by omega) (by omega); rw [msum] at this; omega
theorem in_year {y r : Int} {k : Nat} (hk : k < 12) (r0 : 0 ≤ r) (r1 : r < mlen y k) : 0 ≤ msum y k + r ∧ msum y k + r < ylen y := by
  have h1 := msum_bd y (show k ≤ 12 by omega)
  have h2 := msum_mono y (show k + 1 ≤ 12 by omega) (Nat.le_refl _)
  rw [msum_12, msum] at h2
  omega
theorem IsDate.unique {d x z : Int} (h : IsDate d x) (g : IsDate d z) : x = z := by
  obtain ⟨y, k, r, y1, y2, hk, r0, r1, hd, rfl⟩ := h
  obtain ⟨y', k', r', z1, z2, hk', s0, s1, hd', rfl⟩ := g
  have a := in_year hk r0 r1
  have b := in_year hk' s0 s1
  have e := year_one (y := y) (z := y') (d := d) (a := msum y k + r) (b := msum y' k' + r') (by omega) (by omega) a.1 a.2 b.1 b.2
  subst e
  have f := month_one (y := y) (d := msum y k + r) rfl (by omega) hk hk' r0 r1 s0 s1
  subst f
  omega

def dOk (d : Int) : Bool := decide (0 ≤ d ∧ d ≤ 80000)
theorem dOk_bd {d : Int} (h : dOk d = true) : 0 ≤ d ∧ d ≤ 80000 := by simpa [dOk] using h
theorem dOk_out {d : Int} (h : dOk d = false) : d < 0 ∨ 80000 < d := by simp [dOk] at h; omega
theorem dOk_pos {d : Int} (h1 : 0 ≤ d) (h2 : d ≤ 80000) : dOk d = true := by simp [dOk, h1, h2]
theorem dOk_neg {d : Int} (h : d < 0 ∨ 80000 < d) : dOk d = false := by simp [dOk]; omega

/-- what stands in a date's places -/
def partsOk (x : Int) : Bool := decide (1 ≤ x / 100 % 100 ∧ x / 100 % 100 ≤ 12 ∧ 1 ≤ x % 100 ∧ x % 100 ≤ mlen (x / 10000) (x / 100 % 100 - 1).toNat)
def dayIs (x : Int) : Int := ystart (x / 10000) + msum (x / 10000) (x / 100 % 100 - 1).toNat + x % 100 - 1
/-- the day of a date, if there is one -/
def dayV (x : Int) : Option Int := if 20000101 ≤ x ∧ x ≤ 22991231 ∧ partsOk x = true ∧ dOk (dayIs x) = true then some (dayIs x) else none

theorem parts_at {y : Int} {k : Nat} {r : Int} (hk : k < 12) (r0 : 0 ≤ r) (r1 : r < mlen y k) :
    (10000 * y + 100 * (k + 1) + r + 1) / 10000 = y ∧ (10000 * y + 100 * (k + 1) + r + 1) / 100 % 100 = k + 1 ∧ (10000 * y + 100 * (k + 1) + r + 1) % 100 = r + 1 := by
  have := mlen_bd y k hk
  omega
theorem dayV_of {d x : Int} (h : IsDate d x) (hd : dOk d = true) : dayV x = some d := by
  obtain ⟨y, k, r, y1, y2, hk, r0, r1, hd', rfl⟩ := h
  have hb := mlen_bd y k hk
  obtain ⟨e1, e2, e3⟩ := parts_at (y := y) (k := k) (r := r) hk r0 r1
  have hp : partsOk (10000 * y + 100 * (k + 1) + r + 1) = true := by
    unfold partsOk
    rw [e1, e2, e3, show ((k : Int) + 1 - 1).toNat = k from by omega]
    exact decide_eq_true ⟨by omega, by omega, by omega, by omega⟩
  have hi : dayIs (10000 * y + 100 * (k + 1) + r + 1) = d := by
    unfold dayIs
    rw [e1, e2, e3, show ((k : Int) + 1 - 1).toNat = k from by omega]
    omega
  unfold dayV
  rw [hp, hi, hd, if_pos ⟨by omega, by omega, rfl, rfl⟩]
theorem isDate_parts {x : Int} (h1 : 20000101 ≤ x) (h2 : x ≤ 22991231) (hp : partsOk x = true) : IsDate (dayIs x) x := by
  unfold partsOk at hp
  have hp := of_decide_eq_true hp
  refine ⟨x / 10000, (x / 100 % 100 - 1).toNat, x % 100 - 1, by omega, by omega, by omega, by omega, by omega, by unfold dayIs; omega, ?_⟩
  rw [show (((x / 100 % 100 - 1).toNat : Nat) : Int) = x / 100 % 100 - 1 from by omega]
  omega
theorem isDate_dayV {d x : Int} (h : dayV x = some d) : IsDate d x ∧ dOk d = true := by
  unfold dayV at h
  split at h
  · rename_i hh
    obtain ⟨a, b, c, e⟩ := hh
    obtain rfl : dayIs x = d := by simpa using h
    exact ⟨isDate_parts a b c, e⟩
  · cases h
/-- the date of a day, 0 for none -/
def dateV (d : Int) : Int := if dOk d = true then (((List.range 2991232).find? fun n : Nat => dayV (20000000 + (n : Int)) == some d).map fun n : Nat => 20000000 + (n : Int)).getD 0 else 0
theorem dateV_no {d : Int} (h : dOk d = false) : dateV d = 0 := by unfold dateV; rw [if_neg (by rw [h]; decide)]
theorem dateV_yes {d x : Int} (h : dOk d = true) (g : IsDate d x) : dateV d = x := by
  have hv := dayV_of g h
  have hr : 20000101 ≤ x ∧ x ≤ 22991231 := by
    have hv' := hv
    unfold dayV at hv'
    split at hv'
    · rename_i hh; exact ⟨hh.1, hh.2.1⟩
    · cases hv'
  unfold dateV
  rw [if_pos h]
  cases hf : (List.range 2991232).find? (fun n : Nat => dayV (20000000 + (n : Int)) == some d) with
  | none =>
    rw [List.find?_eq_none] at hf
    have hn := hf (x - 20000000).toNat (List.mem_range.2 (by omega))
    rw [show 20000000 + (((x - 20000000).toNat : Nat) : Int) = x from by omega, hv] at hn
    simp at hn
  | some n =>
    have hn : dayV (20000000 + (n : Int)) = some d := by simpa using List.find?_some hf
    exact (isDate_dayV hn).1.unique g

/-- ahead of the first year and behind the last one there are no days -/
theorem dayIs_out {x : Int} (hp : partsOk x = true) (h : x < 20000101 ∨ 22991231 < x) (y1 : 10000 ≤ x) : dOk (dayIs x) = false := by
  unfold partsOk at hp
  have hp := of_decide_eq_true hp
  have hk : (x / 100 % 100 - 1).toNat < 12 := by omega
  have hin := in_year (y := x / 10000) (r := x % 100 - 1) hk (by omega) (by omega)
  have hm := mlen_bd (x / 10000) _ hk
  apply dOk_neg
  rcases h with h | h
  · have hy : x / 10000 + 1 ≤ 2000 := by omega
    have := ystart_mono hy
    rw [ystart_next, ystart_2000] at this
    left; unfold dayIs; omega
  · have hy : 2300 ≤ x / 10000 := by omega
    have := ystart_up (y := x / 10000) (by omega)
    right; unfold dayIs; omega

/-- every day has a date -/
theorem month_of (y a : Int) (a0 : 0 ≤ a) : ∀ n, n ≤ 12 → a < msum y n → ∃ k r, k < n ∧ 0 ≤ r ∧ r < mlen y k ∧ a = msum y k + r := by
  intro n
  induction n with
  | zero => intro _ h; simp only [msum] at h; omega
  | succ n ih =>
    intro hn h
    by_cases h1 : a < msum y n
    · obtain ⟨k, r, h2, h3, h4, h5⟩ := ih (by omega) h1
      exact ⟨k, r, by omega, h3, h4, h5⟩
    · rw [msum] at h
      exact ⟨n, a - msum y n, by omega, by omega, by omega, by omega⟩
theorem isDate_of {d y : Int} (hd : dOk d = true) (y1 : 2000 ≤ y) (h1 : ystart y ≤ d) (h2 : d < ystart y + ylen y) :
    ∃ k r, k < 12 ∧ 0 ≤ r ∧ r < mlen y k ∧ d = ystart y + msum y k + r ∧ IsDate d (10000 * y + 100 * (k + 1) + r + 1) := by
  obtain ⟨k, r, a, b, c, e⟩ := month_of y (d - ystart y) (by omega) 12 (Nat.le_refl _) (by rw [msum_12]; omega)
  have hb := dOk_bd hd
  have := ystart_up y1
  exact ⟨k, r, a, b, c, by omega, y, k, r, y1, by omega, a, b, c, by omega, rfl⟩
theorem year_of (d : Nat) : ∃ y, 2000 ≤ y ∧ ystart y ≤ d ∧ d < ystart y + ylen y := by
  induction d with
  | zero => exact ⟨2000, by decide, by decide, by decide⟩
  | succ d ih =>
    obtain ⟨y, h1, h2, h3⟩ := ih
    by_cases h : (d : Int) + 1 < ystart y + ylen y
    · exact ⟨y, h1, by omega, by omega⟩
    · have := ystart_next y
      have := ylen_bd (y + 1)
      exact ⟨y + 1, by omega, by omega, by omega⟩
theorem isDate_all {d : Int} (h : dOk d = true) : IsDate d (dateV d) := by
  have hb := dOk_bd h
  obtain ⟨y, h1, h2, h3⟩ := year_of d.toNat
  obtain ⟨k, r, _, _, _, _, hi⟩ := isDate_of h h1 (by omega) (by omega)
  rw [dateV_yes h hi]; exact hi
theorem dayV_dateV {d : Int} (h : dOk d = true) : dayV (dateV d) = some d := dayV_of (isDate_all h) h
theorem date_bd {d : Int} (h : dOk d = true) : 20000101 ≤ dateV d ∧ dateV d ≤ 22991231 := by
  have := dayV_dateV h
  unfold dayV at this
  split at this
  · rename_i hh; exact ⟨hh.1, hh.2.1⟩
  · cases this

/-- the next day's date is greater, and not by much -/
theorem date_next {d : Int} (h : dOk d = true) (g : dOk (d + 1) = true) : dateV d < dateV (d + 1) ∧ dateV (d + 1) - dateV d ≤ 8870 := by
  have hd := isDate_all h
  generalize hx : dateV d = x at hd
  obtain ⟨y, k, r, y1, y2, hk, r0, r1, e1, rfl⟩ := hd
  have hb := mlen_bd y k hk
  by_cases c1 : r + 1 < mlen y k
  · have : IsDate (d + 1) (10000 * y + 100 * (k + 1) + (r + 1) + 1) := ⟨y, k, r + 1, y1, y2, hk, by omega, c1, by omega, rfl⟩
    rw [dateV_yes g this]; omega
  · by_cases c2 : k + 1 < 12
    · have hb2 := mlen_bd y (k + 1) c2
      have : IsDate (d + 1) (10000 * y + 100 * ((k + 1 : Nat) + 1) + 0 + 1) := ⟨y, k + 1, 0, y1, y2, c2, by omega, by omega, by rw [msum]; omega, rfl⟩
      rw [dateV_yes g this]; omega
    · have hk11 : k = 11 := by omega
      subst hk11
      have hs := msum_12 y
      rw [msum] at hs
      have hn := ystart_next y
      have hu := ystart_up (y := y + 1) (by omega)
      have hg := dOk_bd g
      have hb2 := mlen_bd (y + 1) 0 (by omega)
      have : IsDate (d + 1) (10000 * (y + 1) + 100 * ((0 : Nat) + 1) + 0 + 1) := ⟨y + 1, 0, 0, by omega, by omega, by omega, by omega, by omega, by simp only [msum]; omega, rfl⟩
      rw [dateV_yes g this]
      have hb3 : mlen y 11 = 31 := by unfold mlen; rw [if_neg (by omega)]; rfl
      omega

end Go.Proofs.Ytlonjjliochbhaa

/- Plain lists of bytes: what they are as texts, whether each lies within bounds, the number that digits spell. No Go in sight. -/
namespace Go.Proofs.Ytlonjjliochbhaa
open Go.RowKit

theorem ba_append (l r : List UInt8) : (⟨l.toArray⟩ ++ ⟨r.toArray⟩ : ByteArray) = ⟨(l ++ r).toArray⟩ := by
  apply ByteArray.ext
  simp
theorem ba_list (b : ByteArray) : b = ⟨b.data.toList.toArray⟩ := by cases b; simp
theorem ba_extract (l : List UInt8) (a b : Nat) : (⟨l.toArray⟩ : ByteArray).extract a b = ⟨((l.drop a).take (b - a)).toArray⟩ := by
  have h := Lib.extract_data ⟨l.toArray⟩ a b
  rw [ba_list (ByteArray.extract ⟨l.toArray⟩ a b), h]
theorem ba_size (l : List UInt8) : (⟨l.toArray⟩ : ByteArray).size = l.length := by simp [ByteArray.size]
theorem ba_inj {l r : List UInt8} : ((⟨l.toArray⟩ : ByteArray) = ⟨r.toArray⟩) ↔ l = r :=
  ⟨fun h => by have := congrArg (fun b : ByteArray => b.data.toList) h; simpa using this, fun h => by rw [h]⟩
theorem byte_at (l : List UInt8) (k : Nat) (h : k < l.length) : l.getD k 0 = (⟨l.toArray⟩ : ByteArray)[k]'(by rw [ba_size]; exact h) := by
  rw [List.getD_eq_getElem?_getD, List.getElem?_eq_getElem h]
  rfl
theorem wrap_byte (c : UInt8) : wrap64 ((c.toNat : Nat) : Int) = (c.toNat : Int) := by
  have := c.toNat_lt
  unfold wrap64; omega

/-- whether each byte is a .. b -/
def within (a b : Nat) (l : List UInt8) : Bool := l.all fun c => decide (a ≤ c.toNat) && decide (c.toNat ≤ b)
theorem within_step (a b : Nat) (l : List UInt8) (k : Nat) (h : k < l.length) : within a b (l.drop k) = ((decide (a ≤ (l.getD k 0).toNat) && decide ((l.getD k 0).toNat ≤ b)) && within a b (l.drop (k + 1))) := by
  have e : l.getD k 0 = l[k] := by simp [List.getD_eq_getElem?_getD, h]
  rw [List.drop_eq_getElem_cons h, e]
  simp only [within, List.all_cons]
theorem within_end (a b : Nat) (l : List UInt8) : within a b (l.drop l.length) = true := by rw [List.drop_of_length_le (Nat.le_refl _)]; rfl
theorem within_mem {a b : Nat} {l : List UInt8} (h : within a b l = true) : ∀ c ∈ l, a ≤ c.toNat ∧ c.toNat ≤ b := by
  intro c hc
  have := List.all_eq_true.1 h c hc
  simpa using this
theorem within_of {a b : Nat} {l : List UInt8} (h : ∀ c ∈ l, a ≤ c.toNat ∧ c.toNat ≤ b) : within a b l = true :=
  List.all_eq_true.2 fun c hc => by simpa using h c hc
theorem within_at {a b : Nat} {l : List UInt8} (h : within a b l = true) {k : Nat} (hk : k < l.length) : a ≤ (l.getD k 0).toNat ∧ (l.getD k 0).toNat ≤ b :=
  within_mem h _ (by simp [List.getD_eq_getElem?_getD, hk])

/-- the number that digits spell, from a on -/
def val (a : Nat) (l : List UInt8) : Nat := l.foldl (fun a c => a * 10 + (c.toNat - 48)) a
theorem val_cons (a : Nat) (c : UInt8) (l : List UInt8) : val a (c :: l) = val (a * 10 + (c.toNat - 48)) l := by simp only [val, List.foldl_cons]
theorem val_append (a : Nat) (l r : List UInt8) : val a (l ++ r) = val (val a l) r := by simp [val]
theorem val_zeros (k : Nat) (l : List UInt8) : val 0 (List.replicate k 48 ++ l) = val 0 l := by
  induction k with
  | zero => rfl
  | succ k ih => rw [List.replicate_succ, List.cons_append, val_cons]; exact ih
theorem take_succ_at (l : List UInt8) (k : Nat) (h : k < l.length) : l.take (k + 1) = l.take k ++ [l.getD k 0] := by
  rw [List.take_add_one, List.getElem?_eq_getElem h, List.getD_eq_getElem?_getD, List.getElem?_eq_getElem h]; rfl
theorem val_take (l : List UInt8) (k : Nat) (h : k < l.length) : val 0 (l.take (k + 1)) = val 0 (l.take k) * 10 + ((l.getD k 0).toNat - 48) := by
  rw [take_succ_at l k h, val_append]; rfl
theorem val_bound (l : List UInt8) (h : within 48 57 l = true) : ∀ k, k ≤ l.length → val 0 (l.take k) < 10 ^ k := by
  intro k
  induction k with
  | zero => intro _; simp [val]
  | succ k ih =>
    intro hk
    have := ih (by omega)
    have hb := within_at h (k := k) (by omega)
    rw [val_take l k (by omega), Nat.pow_succ]
    omega

/-- a text's number -/
def numOf (l : List UInt8) : Int := if l.length ≤ 18 ∧ within 48 57 l = true then (val 0 l : Int) else -1
theorem numOf_no1 {l : List UInt8} (h : 18 < l.length) : numOf l = -1 := if_neg (by omega)
theorem numOf_no2 {l : List UInt8} (h : within 48 57 l = false) : numOf l = -1 := if_neg (by rw [h]; simp)
theorem numOf_yes {l : List UInt8} (h1 : l.length ≤ 18) (h2 : within 48 57 l = true) : numOf l = (val 0 l : Int) := if_pos ⟨h1, h2⟩
theorem numOf_bd (l : List UInt8) : -1 ≤ numOf l ∧ numOf l < 1000000000000000000 := by
  unfold numOf
  split
  · rename_i h
    have := val_bound l h.2 l.length (Nat.le_refl _)
    rw [List.take_of_length_le (Nat.le_refl _)] at this
    have : 10 ^ l.length ≤ 10 ^ 18 := Nat.pow_le_pow_right (by omega) h.1
    omega
  · omega

end Go.Proofs.Ytlonjjliochbhaa

/- Authorizations, plainly: when one is so, how near it is, which is the nearest. No Go in sight. -/
namespace Go.Proofs.Ytlonjjliochbhaa

/-- an authorization -/
structure Au where
  ref : List UInt8
  iss : Int
  cur : Int
  am : Int
  day : Int
  used : Bool
def zeroAu : Au := ⟨[], 0, 0, 0, 0, false⟩
def auAt (az : List Au) (k : Nat) : Au := az.getD k zeroAu
theorem auAt_is {az : List Au} {k : Nat} (h : k < az.length) : auAt az k = az[k] := by simp [auAt, List.getD_eq_getElem?_getD, h]
theorem auAt_mem {az : List Au} {k : Nat} (h : k < az.length) : auAt az k ∈ az := by rw [auAt_is h]; exact List.getElem_mem h
theorem au_ext {az bs : List Au} (hl : az.length = bs.length) (h : ∀ i, i < az.length → auAt az i = auAt bs i) : az = bs := by
  apply List.ext_getElem hl
  intro i g1 g2
  have := h i g1
  rwa [auAt_is g1, auAt_is g2] at this

def refOk (l : List UInt8) : Bool := decide (l.length = 12) && within 33 126 l
def auOk (a : Au) : Bool := refOk a.ref && (acctOk a.iss && (decide (0 ≤ digs a.cur) && (decide (1 ≤ a.am ∧ a.am ≤ 100000000000) && dOk a.day)))
def timeOk (a : Au) (day : Int) : Bool := decide (a.day ≤ day ∧ day ≤ a.day + 7)
def sumOk (a : Au) (am : Int) : Bool := decide (1 ≤ am ∧ am ≤ a.am + a.am / 10)
def canV (a : Au) (iss cur am day : Int) : Bool := auOk a && (!a.used && (decide (a.iss = iss) && (decide (a.cur = cur) && (timeOk a day && sumOk a am))))
def absV (x : Int) : Int := if x < 0 then -x else x
def scoreV (a : Au) (iss cur am day : Int) : Int := if canV a iss cur am day = true then 8 * absV (am - a.am) + day - a.day else -1
theorem auOk_parts {a : Au} (h : auOk a = true) : refOk a.ref = true ∧ acctOk a.iss = true ∧ 0 ≤ digs a.cur ∧ (1 ≤ a.am ∧ a.am ≤ 100000000000) ∧ dOk a.day = true := by
  simpa [auOk] using h

end Go.Proofs.Ytlonjjliochbhaa

/- Slices of lines and of entries: those that came in, those in a row of one's own. -/
namespace Go.Proofs.Ytlonjjliochbhaa
open Go.ChangeShapes Go.WideShapes Go.ChangeAt Go.RowKit Go.Deep

def wf64 (n : Int) : Prop := (Lit.int .i64 n).wf = true
def lnBd (x : Ln) : Prop := wf64 x.1 ∧ wf64 x.2.1 ∧ wf64 x.2.2
def enBd (e : En) : Prop := wf64 e.1 ∧ wf64 e.2.1 ∧ wf64 e.2.2.1 ∧ wf64 e.2.2.2
/-- The slice of lines at 'ao' reads as 'ls' in w. -/
def LinesAt (w : World) (ao : Option Addr) (ls : List Ln) : Prop :=
  ls = [] ∨ ∃ b off, ao = some ⟨b, off, none⟩ ∧ b < w.heap.size ∧ ∀ i, i < ls.length →
    w.cell? ⟨b, off + i * 3, none⟩ = some (.int .i64 (lnAt ls i).1) ∧ w.cell? ⟨b, off + i * 3 + 1, none⟩ = some (.int .i64 (lnAt ls i).2.1) ∧ w.cell? ⟨b, off + i * 3 + 2, none⟩ = some (.int .i64 (lnAt ls i).2.2)
def LinesBd (ls : List Ln) : Prop := ls.length ≤ maxLen ∧ ∀ x ∈ ls, lnBd x
theorem LinesAt.below {w w' : World} {ao : Option Addr} {ls : List Ln} (h : LinesAt w ao ls) (hb : Below w.heap.size w w') : LinesAt w' ao ls := by
  rcases h with h | ⟨b, off, h1, h2, h3⟩
  · exact .inl h
  · exact .inr ⟨b, off, h1, Nat.lt_of_lt_of_le h2 hb.size, fun i hi => ⟨(hb.cell (p := ⟨b, off + i * 3, none⟩) h2).trans (h3 i hi).1, (hb.cell (p := ⟨b, off + i * 3 + 1, none⟩) h2).trans (h3 i hi).2.1, (hb.cell (p := ⟨b, off + i * 3 + 2, none⟩) h2).trans (h3 i hi).2.2⟩⟩
theorem LinesAt.at {w : World} {ao : Option Addr} {ls : List Ln} (h : LinesAt w ao ls) {k : Nat} (hk : k < ls.length) :
    ∃ b off, ao = some ⟨b, off, none⟩ ∧ b < w.heap.size ∧ w.cell? ⟨b, off + k * 3, none⟩ = some (.int .i64 (lnAt ls k).1) ∧ w.cell? ⟨b, off + k * 3 + 1, none⟩ = some (.int .i64 (lnAt ls k).2.1) ∧ w.cell? ⟨b, off + k * 3 + 2, none⟩ = some (.int .i64 (lnAt ls k).2.2) := by
  rcases h with rfl | ⟨b, off, h1, h2, h3⟩
  · simp at hk
  · exact ⟨b, off, h1, h2, h3 k hk⟩

def enAt (es : List En) (k : Nat) : En := es.getD k (0, 0, 0, 0)
theorem enAt_is {es : List En} {k : Nat} (h : k < es.length) : enAt es k = es[k] := by simp [enAt, List.getD_eq_getElem?_getD, h]
theorem enAt_mem {es : List En} {k : Nat} (h : k < es.length) : enAt es k ∈ es := by rw [enAt_is h]; exact List.getElem_mem h
/-- The slice of entries at 'ao' reads as 'es' in w. -/
def EntsAt (w : World) (ao : Option Addr) (es : List En) : Prop :=
  es = [] ∨ ∃ b off, ao = some ⟨b, off, none⟩ ∧ b < w.heap.size ∧ ∀ i, i < es.length →
    w.cell? ⟨b, off + i * 4, none⟩ = some (.int .i64 (enAt es i).1) ∧ w.cell? ⟨b, off + i * 4 + 1, none⟩ = some (.int .i64 (enAt es i).2.1) ∧ w.cell? ⟨b, off + i * 4 + 2, none⟩ = some (.int .i64 (enAt es i).2.2.1) ∧ w.cell? ⟨b, off + i * 4 + 3, none⟩ = some (.int .i64 (enAt es i).2.2.2)
def EntsBd (es : List En) : Prop := es.length ≤ maxLen ∧ ∀ x ∈ es, enBd x
theorem EntsAt.below {w w' : World} {ao : Option Addr} {es : List En} (h : EntsAt w ao es) (hb : Below w.heap.size w w') : EntsAt w' ao es := by
  rcases h with h | ⟨b, off, h1, h2, h3⟩
  · exact .inl h
  · exact .inr ⟨b, off, h1, Nat.lt_of_lt_of_le h2 hb.size, fun i hi => ⟨(hb.cell (p := ⟨b, off + i * 4, none⟩) h2).trans (h3 i hi).1, (hb.cell (p := ⟨b, off + i * 4 + 1, none⟩) h2).trans (h3 i hi).2.1, (hb.cell (p := ⟨b, off + i * 4 + 2, none⟩) h2).trans (h3 i hi).2.2.1, (hb.cell (p := ⟨b, off + i * 4 + 3, none⟩) h2).trans (h3 i hi).2.2.2⟩⟩
theorem EntsAt.at {w : World} {ao : Option Addr} {es : List En} (h : EntsAt w ao es) {k : Nat} (hk : k < es.length) :
    ∃ b off, ao = some ⟨b, off, none⟩ ∧ b < w.heap.size ∧ w.cell? ⟨b, off + k * 4, none⟩ = some (.int .i64 (enAt es k).1) ∧ w.cell? ⟨b, off + k * 4 + 1, none⟩ = some (.int .i64 (enAt es k).2.1) ∧ w.cell? ⟨b, off + k * 4 + 2, none⟩ = some (.int .i64 (enAt es k).2.2.1) ∧ w.cell? ⟨b, off + k * 4 + 3, none⟩ = some (.int .i64 (enAt es k).2.2.2) := by
  rcases h with rfl | ⟨b, off, h1, h2, h3⟩
  · simp at hk
  · exact ⟨b, off, h1, h2, h3 k hk⟩

section
variable {P : Program} {H : Type} {enc : TypeId × Value → H} {W : World}
/-- a struct of three ints, cell by cell -/
theorem ints3 {e : TypeId} {f0 f1 f2 : Field} {fuel : Nat} {cs : List Value} {x : DataW H × List MemPlace} (he : P.underlying e = some (.struct #[f0, f1, f2])) (ce : P.cellsOf e = 3) (o0 : f0.offset = 0) (o1 : f1.offset = 1) (o2 : f2.offset = 2)
    (c0 : P.cellsOf f0.type = 1) (c1 : P.cellsOf f1.type = 1) (c2 : P.cellsOf f2.type = 1) (u0 : P.underlying f0.type = some (.int .i64)) (u1 : P.underlying f1.type = some (.int .i64)) (u2 : P.underlying f2.type = some (.int .i64))
    (h : DataW.trod enc P W 0 (fun _ => true) true fuel e cs = some x) : ∃ l : Ln, cs = [.int .i64 l.1, .int .i64 l.2.1, .int .i64 l.2.2] ∧ lnBd l := by
  obtain ⟨y0, y1, y2, n, _, hl, h0, h1, h2⟩ := trod_struct3 he h
  rw [ce] at hl
  match cs, hl with
  | [a, b, c], _ =>
    simp [o0, o1, o2, c0, c1, c2] at h0 h1 h2
    obtain ⟨z0, q0, _, r0⟩ := DataW.trod_int u0 h0
    obtain ⟨z1, q1, _, r1⟩ := DataW.trod_int u1 h1
    obtain ⟨z2, q2, _, r2⟩ := DataW.trod_int u2 h2
    simp at q0 q1 q2
    exact ⟨(z0, z1, z2), by rw [q0, q1, q2], r0, r1, r2⟩
/-- a struct of four ints, cell by cell -/
theorem ints4 {e : TypeId} {f0 f1 f2 f3 : Field} {fuel : Nat} {cs : List Value} {x : DataW H × List MemPlace} (he : P.underlying e = some (.struct #[f0, f1, f2, f3])) (ce : P.cellsOf e = 4) (o0 : f0.offset = 0) (o1 : f1.offset = 1) (o2 : f2.offset = 2) (o3 : f3.offset = 3)
    (c0 : P.cellsOf f0.type = 1) (c1 : P.cellsOf f1.type = 1) (c2 : P.cellsOf f2.type = 1) (c3 : P.cellsOf f3.type = 1) (u0 : P.underlying f0.type = some (.int .i64)) (u1 : P.underlying f1.type = some (.int .i64)) (u2 : P.underlying f2.type = some (.int .i64)) (u3 : P.underlying f3.type = some (.int .i64))
    (h : DataW.trod enc P W 0 (fun _ => true) true fuel e cs = some x) : ∃ l : En, cs = [.int .i64 l.1, .int .i64 l.2.1, .int .i64 l.2.2.1, .int .i64 l.2.2.2] ∧ enBd l := by
  obtain ⟨xs, n, _, _, hl, hxl, hf⟩ := DataW.trod_struct he h
  rw [ce] at hl
  match xs, hxl, cs, hl with
  | [y0, y1, y2, y3], _, [a, b, c, d], _ =>
    have h0 := hf 0 f0 rfl
    have h1 := hf 1 f1 rfl
    have h2 := hf 2 f2 rfl
    have h3 := hf 3 f3 rfl
    simp [o0, o1, o2, o3, c0, c1, c2, c3] at h0 h1 h2 h3
    obtain ⟨z0, q0, _, r0⟩ := DataW.trod_int u0 h0
    obtain ⟨z1, q1, _, r1⟩ := DataW.trod_int u1 h1
    obtain ⟨z2, q2, _, r2⟩ := DataW.trod_int u2 h2
    obtain ⟨z3, q3, _, r3⟩ := DataW.trod_int u3 h3
    simp at q0 q1 q2 q3
    exact ⟨(z0, z1, z2, z3), by rw [q0, q1, q2, q3], r0, r1, r2, r3⟩
theorem add_at3 (b off i j : Nat) : ((⟨b, off, none⟩ : Addr).add i).add j = ⟨b, off + i + j, none⟩ := by
  have e : ∀ o k, ((⟨b, o, none⟩ : Addr).add k) = ⟨b, o + k, none⟩ := fun o k => by unfold Addr.add; split <;> simp_all
  rw [e, e]
/-- a slice of structs of three ints -/
theorem lines_open {t e : TypeId} {f0 f1 f2 : Field} {fuel : Nat} {y : Value} {x : DataW H × List MemPlace} (ht : P.underlying t = some (.slice e)) (he : P.underlying e = some (.struct #[f0, f1, f2])) (ce : P.cellsOf e = 3) (o0 : f0.offset = 0) (o1 : f1.offset = 1) (o2 : f2.offset = 2)
    (c0 : P.cellsOf f0.type = 1) (c1 : P.cellsOf f1.type = 1) (c2 : P.cellsOf f2.type = 1) (u0 : P.underlying f0.type = some (.int .i64)) (u1 : P.underlying f1.type = some (.int .i64)) (u2 : P.underlying f2.type = some (.int .i64))
    (h : DataW.trod enc P W 0 (fun _ => true) true fuel t [y] = some x) : ∃ a cap ls, y = .slice a (List.length ls) cap ∧ LinesAt W a ls ∧ LinesBd ls := by
  rcases open_slice ht h with ⟨e1, _⟩ | ⟨a, len, cap, m, n, D, Pl, e1, hb, hlc, hm, hmm, _, hx⟩
  · simp at e1
    exact ⟨none, 0, [], by rw [e1]; rfl, .inl rfl, Nat.zero_le _, fun f hf => by cases hf⟩
  · simp at e1 hmm
    subst hmm
    obtain ⟨F, hF⟩ := choose_lt (α := Ln) (n := m) (p := fun i l => W.cells? 0 (a.add (i * P.cellsOf e)) (P.cellsOf e) = some [.int .i64 l.1, .int .i64 l.2.1, .int .i64 l.2.2] ∧ lnBd l) (fun i hi => by
      obtain ⟨cs', g1, g2⟩ := hx i hi
      obtain ⟨l, rfl, hl⟩ := ints3 he ce o0 o1 o2 c0 c1 c2 u0 u1 u2 g2
      exact ⟨l, g1, hl⟩)
    refine ⟨some a, m, (List.range len).map F, by rw [e1]; simp, ?_, by rw [List.length_map, List.length_range]; exact Nat.le_trans hlc hm, fun f hf => by
      obtain ⟨i, hi, rfl⟩ := List.mem_map.1 hf
      exact (hF i (by have := List.mem_range.1 hi; omega)).2⟩
    by_cases hz : len = 0
    · subst hz; exact .inl rfl
    · have each : ∀ i, i < len → ∀ j v, [Value.int .i64 (F i).1, .int .i64 (F i).2.1, .int .i64 (F i).2.2][j]? = some v → W.cell? ((a.add (i * 3)).add j) = some v := fun i hi j v hv => by
        have g := (hF i (by omega)).1
        rw [ce] at g
        obtain ⟨_, _, hcell⟩ := World.cells?_some g
        have := hcell j (by have := (List.getElem?_eq_some_iff.1 hv).1; simpa using this)
        rw [this]; simpa using hv
      obtain ⟨bk, off, spot⟩ := a
      have hc0 := each 0 (by omega) 0 _ rfl
      have hspot : spot = none := by simpa [Addr.add] using World.cell?_spot hc0
      subst hspot
      refine .inr ⟨bk, off, rfl, ?_, fun i hi => ?_⟩
      · have := World.block_lt_of_cell? W _ hc0
        simpa [add_at3] using this
      · have hi' : i < len := by simpa using hi
        have hat : lnAt ((List.range len).map F) i = F i := by simp [lnAt, List.getD_eq_getElem?_getD, hi']
        rw [hat]
        have g0 := each i hi' 0 _ rfl
        have g1 := each i hi' 1 _ rfl
        have g2 := each i hi' 2 _ rfl
        rw [add_at3] at g0 g1 g2
        exact ⟨g0, g1, g2⟩
/-- a slice of structs of four ints -/
theorem ents_open {t e : TypeId} {f0 f1 f2 f3 : Field} {fuel : Nat} {y : Value} {x : DataW H × List MemPlace} (ht : P.underlying t = some (.slice e)) (he : P.underlying e = some (.struct #[f0, f1, f2, f3])) (ce : P.cellsOf e = 4) (o0 : f0.offset = 0) (o1 : f1.offset = 1) (o2 : f2.offset = 2) (o3 : f3.offset = 3)
    (c0 : P.cellsOf f0.type = 1) (c1 : P.cellsOf f1.type = 1) (c2 : P.cellsOf f2.type = 1) (c3 : P.cellsOf f3.type = 1) (u0 : P.underlying f0.type = some (.int .i64)) (u1 : P.underlying f1.type = some (.int .i64)) (u2 : P.underlying f2.type = some (.int .i64)) (u3 : P.underlying f3.type = some (.int .i64))
    (h : DataW.trod enc P W 0 (fun _ => true) true fuel t [y] = some x) : ∃ a cap ls, y = .slice a (List.length ls) cap ∧ EntsAt W a ls ∧ EntsBd ls := by
  rcases open_slice ht h with ⟨e1, _⟩ | ⟨a, len, cap, m, n, D, Pl, e1, hb, hlc, hm, hmm, _, hx⟩
  · simp at e1
    exact ⟨none, 0, [], by rw [e1]; rfl, .inl rfl, Nat.zero_le _, fun f hf => by cases hf⟩
  · simp at e1 hmm
    subst hmm
    obtain ⟨F, hF⟩ := choose_lt (α := En) (n := m) (p := fun i l => W.cells? 0 (a.add (i * P.cellsOf e)) (P.cellsOf e) = some [.int .i64 l.1, .int .i64 l.2.1, .int .i64 l.2.2.1, .int .i64 l.2.2.2] ∧ enBd l) (fun i hi => by
      obtain ⟨cs', g1, g2⟩ := hx i hi
      obtain ⟨l, rfl, hl⟩ := ints4 he ce o0 o1 o2 o3 c0 c1 c2 c3 u0 u1 u2 u3 g2
      exact ⟨l, g1, hl⟩)
    refine ⟨some a, m, (List.range len).map F, by rw [e1]; simp, ?_, by rw [List.length_map, List.length_range]; exact Nat.le_trans hlc hm, fun f hf => by
      obtain ⟨i, hi, rfl⟩ := List.mem_map.1 hf
      exact (hF i (by have := List.mem_range.1 hi; omega)).2⟩
    by_cases hz : len = 0
    · subst hz; exact .inl rfl
    · have each : ∀ i, i < len → ∀ j v, [Value.int .i64 (F i).1, .int .i64 (F i).2.1, .int .i64 (F i).2.2.1, .int .i64 (F i).2.2.2][j]? = some v → W.cell? ((a.add (i * 4)).add j) = some v := fun i hi j v hv => by
        have g := (hF i (by omega)).1
        rw [ce] at g
        obtain ⟨_, _, hcell⟩ := World.cells?_some g
        have := hcell j (by have := (List.getElem?_eq_some_iff.1 hv).1; simpa using this)
        rw [this]; simpa using hv
      obtain ⟨bk, off, spot⟩ := a
      have hc0 := each 0 (by omega) 0 _ rfl
      have hspot : spot = none := by simpa [Addr.add] using World.cell?_spot hc0
      subst hspot
      refine .inr ⟨bk, off, rfl, ?_, fun i hi => ?_⟩
      · have := World.block_lt_of_cell? W _ hc0
        simpa [add_at3] using this
      · have hi' : i < len := by simpa using hi
        have hat : enAt ((List.range len).map F) i = F i := by simp [enAt, List.getD_eq_getElem?_getD, hi']
        rw [hat]
        have g0 := each i hi' 0 _ rfl
        have g1 := each i hi' 1 _ rfl
        have g2 := each i hi' 2 _ rfl
        have g3 := each i hi' 3 _ rfl
        rw [add_at3] at g0 g1 g2 g3
        exact ⟨g0, g1, g2, g3⟩
/-- a struct whose one field is a slice of structs of three ints -/
theorem is_ledger {r : Reach} {base : Nat} {t e : TypeId} {g0 f0 f1 f2 : Field} {v : Value} {d : DataW H} {p : List MemPlace} (hg : P.underlying t = some (.struct #[g0])) (cg : P.cellsOf t = 1) (og : g0.offset = 0) (cg0 : P.cellsOf g0.type = 1) (ht : P.underlying g0.type = some (.slice e))
    (he : P.underlying e = some (.struct #[f0, f1, f2])) (ce : P.cellsOf e = 3) (o0 : f0.offset = 0) (o1 : f1.offset = 1) (o2 : f2.offset = 2)
    (c0 : P.cellsOf f0.type = 1) (c1 : P.cellsOf f1.type = 1) (c2 : P.cellsOf f2.type = 1) (u0 : P.underlying f0.type = some (.int .i64)) (u1 : P.underlying f1.type = some (.int .i64)) (u2 : P.underlying f2.type = some (.int .i64))
    (hv : Value.okWide P W r base t v) (h : DataW.Trod enc P W 0 (fun _ => true) true t v d p) : ∃ a cap ls, v = .agg #[.slice a (List.length ls) cap] ∧ LinesAt W a ls ∧ LinesBd ls := by
  obtain ⟨cs, rfl, _⟩ := okWide_struct hg hv
  obtain ⟨fuel, hf⟩ := h
  obtain ⟨y0, m, _, hl, h0⟩ := trod_struct1 hg hf
  simp only [Value.cells] at hl h0
  rw [cg] at hl
  obtain ⟨l⟩ := cs
  match l, hl with
  | [y], _ =>
    simp [og, cg0] at h0
    obtain ⟨a, cap, ls, e1, e2, e3⟩ := lines_open ht he ce o0 o1 o2 c0 c1 c2 u0 u1 u2 h0
    exact ⟨a, cap, ls, by rw [e1], e2, e3⟩
theorem is_entry {r : Reach} {base : Nat} {t : TypeId} {f0 f1 f2 f3 : Field} {v : Value} {d : DataW H} {p : List MemPlace} (he : P.underlying t = some (.struct #[f0, f1, f2, f3])) (ce : P.cellsOf t = 4) (o0 : f0.offset = 0) (o1 : f1.offset = 1) (o2 : f2.offset = 2) (o3 : f3.offset = 3)
    (c0 : P.cellsOf f0.type = 1) (c1 : P.cellsOf f1.type = 1) (c2 : P.cellsOf f2.type = 1) (c3 : P.cellsOf f3.type = 1) (u0 : P.underlying f0.type = some (.int .i64)) (u1 : P.underlying f1.type = some (.int .i64)) (u2 : P.underlying f2.type = some (.int .i64)) (u3 : P.underlying f3.type = some (.int .i64))
    (hv : Value.okWide P W r base t v) (h : DataW.Trod enc P W 0 (fun _ => true) true t v d p) : ∃ a b c m, v = .agg #[.int .i64 a, .int .i64 b, .int .i64 c, .int .i64 m] ∧ enBd (a, b, c, m) := by
  obtain ⟨cs, rfl, _⟩ := okWide_struct he hv
  obtain ⟨fuel, hf⟩ := h
  obtain ⟨l, e1, e2⟩ := ints4 he ce o0 o1 o2 o3 c0 c1 c2 c3 u0 u1 u2 u3 hf
  simp only [Value.cells] at e1
  obtain ⟨cl⟩ := cs
  simp only at e1
  subst e1
  exact ⟨l.1, l.2.1, l.2.2.1, l.2.2.2, rfl, e2⟩
theorem is_ents {r : Reach} {base : Nat} {t e : TypeId} {f0 f1 f2 f3 : Field} {v : Value} {d : DataW H} {p : List MemPlace} (ht : P.underlying t = some (.slice e)) (he : P.underlying e = some (.struct #[f0, f1, f2, f3])) (ce : P.cellsOf e = 4) (o0 : f0.offset = 0) (o1 : f1.offset = 1) (o2 : f2.offset = 2) (o3 : f3.offset = 3)
    (c0 : P.cellsOf f0.type = 1) (c1 : P.cellsOf f1.type = 1) (c2 : P.cellsOf f2.type = 1) (c3 : P.cellsOf f3.type = 1) (u0 : P.underlying f0.type = some (.int .i64)) (u1 : P.underlying f1.type = some (.int .i64)) (u2 : P.underlying f2.type = some (.int .i64)) (u3 : P.underlying f3.type = some (.int .i64))
    (hv : Value.okWide P W r base t v) (h : DataW.Trod enc P W 0 (fun _ => true) true t v d p) : ∃ a cap es, v = .slice a (List.length es) cap ∧ EntsAt W a es ∧ EntsBd es := by
  obtain ⟨va, vl, vc, rfl⟩ := okWide_slice ht hv
  obtain ⟨fuel, h1⟩ := h
  exact ents_open ht he ce o0 o1 o2 o3 c0 c1 c2 c3 u0 u1 u2 u3 h1
end

def lcell (x : Ln) : List Value := [.int .i64 x.1, .int .i64 x.2.1, .int .i64 x.2.2]
def lcells (ls : List Ln) : List Value := ls.flatMap lcell
theorem lcells_cons (x : Ln) (r : List Ln) : lcells (x :: r) = .int .i64 x.1 :: .int .i64 x.2.1 :: .int .i64 x.2.2 :: lcells r := rfl
theorem lcells_append (a b : List Ln) : lcells (a ++ b) = lcells a ++ lcells b := by simp [lcells]
theorem lcells_len (ls : List Ln) : (lcells ls).length = ls.length * 3 := by
  induction ls with
  | nil => rfl
  | cons f r ih => rw [lcells_cons]; simp [ih]; omega
theorem lcells_at (ls : List Ln) : ∀ k, k < ls.length → (lcells ls)[k * 3]? = some (.int .i64 (lnAt ls k).1) ∧ (lcells ls)[k * 3 + 1]? = some (.int .i64 (lnAt ls k).2.1) ∧ (lcells ls)[k * 3 + 2]? = some (.int .i64 (lnAt ls k).2.2) := by
  induction ls with
  | nil => intro k h; simp at h
  | cons f r ih =>
    intro k h
    rw [lcells_cons]
    cases k with
    | zero => exact ⟨rfl, rfl, rfl⟩
    | succ k =>
      have := ih k (by simpa using h)
      rw [show (k + 1) * 3 = k * 3 + 1 + 1 + 1 by omega]
      simp only [List.getElem?_cons_succ]
      exact this
theorem lcells_set (ls : List Ln) (x : Ln) : ∀ k, k < ls.length → (((lcells ls).set (k * 3) (.int .i64 x.1)).set (k * 3 + 1) (.int .i64 x.2.1)).set (k * 3 + 2) (.int .i64 x.2.2) = lcells (ls.set k x) := by
  induction ls with
  | nil => intro k h; simp at h
  | cons g r ih =>
    intro k h
    rw [lcells_cons]
    cases k with
    | zero => rfl
    | succ k =>
      have := ih k (by simpa using h)
      rw [show (k + 1) * 3 = k * 3 + 1 + 1 + 1 by omega]
      simp only [List.set_cons_succ]
      rw [this]
      rfl
theorem lcells_one (ls : List Ln) : ∀ u ∈ lcells ls, u.oneCell' = true := by
  intro u hu
  simp only [lcells, List.mem_flatMap, lcell] at hu
  obtain ⟨f, _, hf⟩ := hu
  simp at hf
  rcases hf with rfl | rfl | rfl <;> rfl
theorem lines_of_own {w : World} {base n : Nat} {t : TypeId} {v : Value} {ls : List Ln} (h : w.ownsRow base t 3 v n (lcells ls)) : ∃ ao cap, v = .slice ao ls.length cap ∧ LinesAt w ao ls ∧ n = ls.length := by
  have hn : n = ls.length := by have := h.1; rw [lcells_len] at this; omega
  subst hn
  rcases h.2 with ⟨rfl, hn⟩ | ⟨g, cap, cur, rfl, _⟩
  · have : ls = [] := List.eq_nil_of_length_eq_zero hn
    subst this
    exact ⟨none, 0, rfl, .inl rfl, rfl⟩
  · refine ⟨_, cap, rfl, ?_, rfl⟩
    by_cases h0 : ls = []
    · exact .inl h0
    · refine .inr ⟨g, 0, rfl, (h.lt g rfl).2, fun i hi => ?_⟩
      have := lcells_at ls i hi
      rw [Nat.zero_add, h.cellAt (i * 3) (by omega), h.cellAt (i * 3 + 1) (by omega), h.cellAt (i * 3 + 2) (by omega)]
      exact this

end Go.Proofs.Ytlonjjliochbhaa

/- Authorizations and slices of them: those that came in. -/
namespace Go.Proofs.Ytlonjjliochbhaa
open Go.ChangeShapes Go.WideShapes Go.ChangeAt Go.RowKit Go.Deep

def aucells (a : Au) : List Value := [.string ⟨a.ref.toArray⟩, .int .i64 a.iss, .int .i64 a.cur, .int .i64 a.am, .int .i64 a.day, .bool a.used]
def auv (a : Au) : Value := .agg #[.string ⟨a.ref.toArray⟩, .int .i64 a.iss, .int .i64 a.cur, .int .i64 a.am, .int .i64 a.day, .bool a.used]
/-- its numbers fit, its text is not too long -/
def auBd (a : Au) : Prop := a.ref.length ≤ maxLen ∧ wf64 a.iss ∧ wf64 a.cur ∧ wf64 a.am ∧ wf64 a.day
/-- The slice of authorizations at 'ao' reads as 'az' in w. -/
def AuthsAt (w : World) (ao : Option Addr) (az : List Au) : Prop :=
  az = [] ∨ ∃ b off, ao = some ⟨b, off, none⟩ ∧ b < w.heap.size ∧ ∀ i, i < az.length →
    w.cell? ⟨b, off + i * 6, none⟩ = some (.string ⟨(auAt az i).ref.toArray⟩) ∧ w.cell? ⟨b, off + i * 6 + 1, none⟩ = some (.int .i64 (auAt az i).iss) ∧ w.cell? ⟨b, off + i * 6 + 2, none⟩ = some (.int .i64 (auAt az i).cur) ∧ w.cell? ⟨b, off + i * 6 + 3, none⟩ = some (.int .i64 (auAt az i).am) ∧ w.cell? ⟨b, off + i * 6 + 4, none⟩ = some (.int .i64 (auAt az i).day) ∧ w.cell? ⟨b, off + i * 6 + 5, none⟩ = some (.bool (auAt az i).used)
def AuthsBd (az : List Au) : Prop := az.length ≤ maxLen ∧ ∀ x ∈ az, auBd x
theorem AuthsAt.below {w w' : World} {ao : Option Addr} {az : List Au} (h : AuthsAt w ao az) (hb : Below w.heap.size w w') : AuthsAt w' ao az := by
  rcases h with h | ⟨b, off, h1, h2, h3⟩
  · exact .inl h
  · exact .inr ⟨b, off, h1, Nat.lt_of_lt_of_le h2 hb.size, fun i hi => ⟨(hb.cell (p := ⟨b, off + i * 6, none⟩) h2).trans (h3 i hi).1, (hb.cell (p := ⟨b, off + i * 6 + 1, none⟩) h2).trans (h3 i hi).2.1, (hb.cell (p := ⟨b, off + i * 6 + 2, none⟩) h2).trans (h3 i hi).2.2.1, (hb.cell (p := ⟨b, off + i * 6 + 3, none⟩) h2).trans (h3 i hi).2.2.2.1, (hb.cell (p := ⟨b, off + i * 6 + 4, none⟩) h2).trans (h3 i hi).2.2.2.2.1, (hb.cell (p := ⟨b, off + i * 6 + 5, none⟩) h2).trans (h3 i hi).2.2.2.2.2⟩⟩

section
variable {P : Program} {H : Type} {enc : TypeId × Value → H} {W : World}
theorem cells_auth {e : TypeId} {f0 f1 f2 f3 f4 f5 : Field} {fuel : Nat} {cs : List Value} {x : DataW H × List MemPlace} (he : P.underlying e = some (.struct #[f0, f1, f2, f3, f4, f5])) (ce : P.cellsOf e = 6) (o0 : f0.offset = 0) (o1 : f1.offset = 1) (o2 : f2.offset = 2) (o3 : f3.offset = 3) (o4 : f4.offset = 4) (o5 : f5.offset = 5)
    (c0 : P.cellsOf f0.type = 1) (c1 : P.cellsOf f1.type = 1) (c2 : P.cellsOf f2.type = 1) (c3 : P.cellsOf f3.type = 1) (c4 : P.cellsOf f4.type = 1) (c5 : P.cellsOf f5.type = 1) (u0 : P.underlying f0.type = some .string) (u1 : P.underlying f1.type = some (.int .i64)) (u2 : P.underlying f2.type = some (.int .i64)) (u3 : P.underlying f3.type = some (.int .i64)) (u4 : P.underlying f4.type = some (.int .i64)) (u5 : P.underlying f5.type = some .bool)
    (h : DataW.trod enc P W 0 (fun _ => true) true fuel e cs = some x) : ∃ l : Au, cs = aucells l ∧ auBd l := by
  obtain ⟨xs, n, _, _, hl, hxl, hf⟩ := DataW.trod_struct he h
  rw [ce] at hl
  match xs, hxl, cs, hl with
  | [y0, y1, y2, y3, y4, y5], _, [a0, a1, a2, a3, a4, a5], _ =>
    have h0 := hf 0 f0 rfl
    have h1 := hf 1 f1 rfl
    have h2 := hf 2 f2 rfl
    have h3 := hf 3 f3 rfl
    have h4 := hf 4 f4 rfl
    have h5 := hf 5 f5 rfl
    simp [o0, c0] at h0
    simp [o1, c1] at h1
    simp [o2, c2] at h2
    simp [o3, c3] at h3
    simp [o4, c4] at h4
    simp [o5, c5] at h5
    obtain ⟨z0, q0, _, r0⟩ := DataW.trod_string u0 h0
    obtain ⟨z1, q1, _, r1⟩ := DataW.trod_int u1 h1
    obtain ⟨z2, q2, _, r2⟩ := DataW.trod_int u2 h2
    obtain ⟨z3, q3, _, r3⟩ := DataW.trod_int u3 h3
    obtain ⟨z4, q4, _, r4⟩ := DataW.trod_int u4 h4
    obtain ⟨z5, q5, _⟩ := DataW.trod_bool u5 h5
    simp at q0 q1 q2 q3 q4 q5
    exact ⟨⟨z0.data.toList, z1, z2, z3, z4, z5⟩, by rw [q0, q1, q2, q3, q4, q5]; rfl, by show z0.data.toList.length ≤ maxLen; rw [Array.length_toList]; exact r0, r1, r2, r3, r4⟩
/-- an authorization that came in -/
theorem is_auth {r : Reach} {base : Nat} {t : TypeId} {f0 f1 f2 f3 f4 f5 : Field} {v : Value} {d : DataW H} {p : List MemPlace} (he : P.underlying t = some (.struct #[f0, f1, f2, f3, f4, f5])) (ce : P.cellsOf t = 6) (o0 : f0.offset = 0) (o1 : f1.offset = 1) (o2 : f2.offset = 2) (o3 : f3.offset = 3) (o4 : f4.offset = 4) (o5 : f5.offset = 5)
    (c0 : P.cellsOf f0.type = 1) (c1 : P.cellsOf f1.type = 1) (c2 : P.cellsOf f2.type = 1) (c3 : P.cellsOf f3.type = 1) (c4 : P.cellsOf f4.type = 1) (c5 : P.cellsOf f5.type = 1) (u0 : P.underlying f0.type = some .string) (u1 : P.underlying f1.type = some (.int .i64)) (u2 : P.underlying f2.type = some (.int .i64)) (u3 : P.underlying f3.type = some (.int .i64)) (u4 : P.underlying f4.type = some (.int .i64)) (u5 : P.underlying f5.type = some .bool)
    (hv : Value.okWide P W r base t v) (h : DataW.Trod enc P W 0 (fun _ => true) true t v d p) : ∃ c : Au, v = auv c ∧ auBd c := by
  obtain ⟨cs, rfl, _⟩ := okWide_struct he hv
  obtain ⟨fuel, hf⟩ := h
  obtain ⟨l, hl, hb⟩ := cells_auth he ce o0 o1 o2 o3 o4 o5 c0 c1 c2 c3 c4 c5 u0 u1 u2 u3 u4 u5 hf
  refine ⟨l, ?_, hb⟩
  obtain ⟨ll⟩ := cs
  simp only [Value.cells] at hl
  rw [hl]; rfl
/-- a slice of authorizations -/
theorem auths_open {t e : TypeId} {f0 f1 f2 f3 f4 f5 : Field} {fuel : Nat} {y : Value} {x : DataW H × List MemPlace} (ht : P.underlying t = some (.slice e)) (he : P.underlying e = some (.struct #[f0, f1, f2, f3, f4, f5])) (ce : P.cellsOf e = 6) (o0 : f0.offset = 0) (o1 : f1.offset = 1) (o2 : f2.offset = 2) (o3 : f3.offset = 3) (o4 : f4.offset = 4) (o5 : f5.offset = 5)
    (c0 : P.cellsOf f0.type = 1) (c1 : P.cellsOf f1.type = 1) (c2 : P.cellsOf f2.type = 1) (c3 : P.cellsOf f3.type = 1) (c4 : P.cellsOf f4.type = 1) (c5 : P.cellsOf f5.type = 1) (u0 : P.underlying f0.type = some .string) (u1 : P.underlying f1.type = some (.int .i64)) (u2 : P.underlying f2.type = some (.int .i64)) (u3 : P.underlying f3.type = some (.int .i64)) (u4 : P.underlying f4.type = some (.int .i64)) (u5 : P.underlying f5.type = some .bool)
    (h : DataW.trod enc P W 0 (fun _ => true) true fuel t [y] = some x) : ∃ a cap ls, y = .slice a (List.length ls) cap ∧ AuthsAt W a ls ∧ AuthsBd ls := by
  rcases open_slice ht h with ⟨e1, _⟩ | ⟨a, len, cap, m, n, D, Pl, e1, hb, hlc, hm, hmm, _, hx⟩
  · simp at e1
    exact ⟨none, 0, [], by rw [e1]; rfl, .inl rfl, Nat.zero_le _, fun f hf => by cases hf⟩
  · simp at e1 hmm
    subst hmm
    haveI : Inhabited Au := ⟨zeroAu⟩
    obtain ⟨F, hF⟩ := choose_lt (α := Au) (n := m) (p := fun i l => W.cells? 0 (a.add (i * P.cellsOf e)) (P.cellsOf e) = some (aucells l) ∧ auBd l) (fun i hi => by
      obtain ⟨cs', g1, g2⟩ := hx i hi
      obtain ⟨l, rfl, hl⟩ := cells_auth he ce o0 o1 o2 o3 o4 o5 c0 c1 c2 c3 c4 c5 u0 u1 u2 u3 u4 u5 g2
      exact ⟨l, g1, hl⟩)
    refine ⟨some a, m, (List.range len).map F, by rw [e1]; simp, ?_, by rw [List.length_map, List.length_range]; exact Nat.le_trans hlc hm, fun f hf => by
      obtain ⟨i, hi, rfl⟩ := List.mem_map.1 hf
      exact (hF i (by have := List.mem_range.1 hi; omega)).2⟩
    by_cases hz : len = 0
    · subst hz; exact .inl rfl
    · have each : ∀ i, i < len → ∀ j v, (aucells (F i))[j]? = some v → W.cell? ((a.add (i * 6)).add j) = some v := fun i hi j v hv => by
        have g := (hF i (by omega)).1
        rw [ce] at g
        obtain ⟨_, _, hcell⟩ := World.cells?_some g
        have := hcell j (by have := (List.getElem?_eq_some_iff.1 hv).1; simpa [aucells] using this)
        rw [this]; simpa using hv
      obtain ⟨bk, off, spot⟩ := a
      have hc0 := each 0 (by omega) 0 _ rfl
      have hspot : spot = none := by simpa [Addr.add] using World.cell?_spot hc0
      subst hspot
      refine .inr ⟨bk, off, rfl, ?_, fun i hi => ?_⟩
      · have := World.block_lt_of_cell? W _ hc0
        simpa [add_at3] using this
      · have hi' : i < len := by simpa using hi
        have hat : auAt ((List.range len).map F) i = F i := by simp [auAt, List.getD_eq_getElem?_getD, hi']
        rw [hat]
        have g0 := each i hi' 0 _ rfl
        have g1 := each i hi' 1 _ rfl
        have g2 := each i hi' 2 _ rfl
        have g3 := each i hi' 3 _ rfl
        have g4 := each i hi' 4 _ rfl
        have g5 := each i hi' 5 _ rfl
        rw [add_at3] at g0 g1 g2 g3 g4 g5
        exact ⟨g0, g1, g2, g3, g4, g5⟩
theorem is_auths {r : Reach} {base : Nat} {t e : TypeId} {f0 f1 f2 f3 f4 f5 : Field} {v : Value} {d : DataW H} {p : List MemPlace} (ht : P.underlying t = some (.slice e)) (he : P.underlying e = some (.struct #[f0, f1, f2, f3, f4, f5])) (ce : P.cellsOf e = 6) (o0 : f0.offset = 0) (o1 : f1.offset = 1) (o2 : f2.offset = 2) (o3 : f3.offset = 3) (o4 : f4.offset = 4) (o5 : f5.offset = 5)
    (c0 : P.cellsOf f0.type = 1) (c1 : P.cellsOf f1.type = 1) (c2 : P.cellsOf f2.type = 1) (c3 : P.cellsOf f3.type = 1) (c4 : P.cellsOf f4.type = 1) (c5 : P.cellsOf f5.type = 1) (u0 : P.underlying f0.type = some .string) (u1 : P.underlying f1.type = some (.int .i64)) (u2 : P.underlying f2.type = some (.int .i64)) (u3 : P.underlying f3.type = some (.int .i64)) (u4 : P.underlying f4.type = some (.int .i64)) (u5 : P.underlying f5.type = some .bool)
    (hv : Value.okWide P W r base t v) (h : DataW.Trod enc P W 0 (fun _ => true) true t v d p) : ∃ a cap ls, v = .slice a (List.length ls) cap ∧ AuthsAt W a ls ∧ AuthsBd ls := by
  obtain ⟨va, vl, vc, rfl⟩ := okWide_slice ht hv
  obtain ⟨fuel, h1⟩ := h
  exact auths_open ht he ce o0 o1 o2 o3 o4 o5 c0 c1 c2 c3 c4 c5 u0 u1 u2 u3 u4 u5 h1
end

end Go.Proofs.Ytlonjjliochbhaa

/- Authorizations in a row of one's own: their cells; the laws' copies of them. -/
namespace Go.Proofs.Ytlonjjliochbhaa
open Go.RowKit
set_option maxRecDepth 100000

theorem keepA {w w' : World} {base n size : Nat} {t : TypeId} {v : Value} {xs : List Value} (h : w.ownsRow base t size v n xs) (hb : Below w.heap.size w w') : w'.ownsRow base t size v n xs := by
  obtain ⟨h1, h2⟩ := h
  refine ⟨h1, ?_⟩
  rcases h2 with h | ⟨g, cap, cur, hv, hg, hh, a1, a2, a3, a4⟩
  · exact .inl h
  · have hlt : g < w.heap.size := (Array.getElem?_eq_some_iff.1 hh).1
    exact .inr ⟨g, cap, cur, hv, hg, (hb.block g hlt).trans hh, a1, a2, a3, a4⟩
theorem lowerA {w : World} {base base' n size : Nat} {t : TypeId} {v : Value} {xs : List Value} (h : w.ownsRow base t size v n xs) (hb : base' ≤ base) : w.ownsRow base' t size v n xs := by
  obtain ⟨h1, h2⟩ := h
  refine ⟨h1, ?_⟩
  rcases h2 with h | ⟨g, cap, cur, hv, hg, r⟩
  · exact .inl h
  · exact .inr ⟨g, cap, cur, hv, Nat.le_trans hb hg, r⟩

def acells (az : List Au) : List Value := az.flatMap aucells
theorem acells_cons (a : Au) (r : List Au) : acells (a :: r) = .string ⟨a.ref.toArray⟩ :: .int .i64 a.iss :: .int .i64 a.cur :: .int .i64 a.am :: .int .i64 a.day :: .bool a.used :: acells r := rfl
theorem acells_append (a b : List Au) : acells (a ++ b) = acells a ++ acells b := by simp [acells]
theorem acells_len (az : List Au) : (acells az).length = az.length * 6 := by
  induction az with
  | nil => rfl
  | cons a r ih => rw [acells_cons]; simp [ih]; omega
theorem acells_at (az : List Au) : ∀ k, k < az.length → (acells az)[k * 6]? = some (.string ⟨(auAt az k).ref.toArray⟩) ∧ (acells az)[k * 6 + 1]? = some (.int .i64 (auAt az k).iss) ∧ (acells az)[k * 6 + 2]? = some (.int .i64 (auAt az k).cur) ∧ (acells az)[k * 6 + 3]? = some (.int .i64 (auAt az k).am) ∧ (acells az)[k * 6 + 4]? = some (.int .i64 (auAt az k).day) ∧ (acells az)[k * 6 + 5]? = some (.bool (auAt az k).used) := by
  induction az with
  | nil => intro k h; simp at h
  | cons a r ih =>
    intro k h
    rw [acells_cons]
    cases k with
    | zero => exact ⟨rfl, rfl, rfl, rfl, rfl, rfl⟩
    | succ k =>
      have := ih k (by simpa using h)
      rw [show (k + 1) * 6 = k * 6 + 1 + 1 + 1 + 1 + 1 + 1 by omega, show k * 6 + 1 + 1 + 1 + 1 + 1 + 1 + 1 = (k * 6 + 1) + 1 + 1 + 1 + 1 + 1 + 1 by omega, show k * 6 + 1 + 1 + 1 + 1 + 1 + 1 + 2 = (k * 6 + 2) + 1 + 1 + 1 + 1 + 1 + 1 by omega, show k * 6 + 1 + 1 + 1 + 1 + 1 + 1 + 3 = (k * 6 + 3) + 1 + 1 + 1 + 1 + 1 + 1 by omega, show k * 6 + 1 + 1 + 1 + 1 + 1 + 1 + 4 = (k * 6 + 4) + 1 + 1 + 1 + 1 + 1 + 1 by omega, show k * 6 + 1 + 1 + 1 + 1 + 1 + 1 + 5 = (k * 6 + 5) + 1 + 1 + 1 + 1 + 1 + 1 by omega]
      simp only [List.getElem?_cons_succ]
      exact this
theorem acells_set (az : List Au) (a : Au) : ∀ k, k < az.length → (((((((acells az).set (k * 6) (.string ⟨a.ref.toArray⟩)).set (k * 6 + 1) (.int .i64 a.iss)).set (k * 6 + 2) (.int .i64 a.cur)).set (k * 6 + 3) (.int .i64 a.am)).set (k * 6 + 4) (.int .i64 a.day)).set (k * 6 + 5) (.bool a.used)) = acells (az.set k a) := by
  induction az with
  | nil => intro k h; simp at h
  | cons g r ih =>
    intro k h
    rw [acells_cons]
    cases k with
    | zero => rfl
    | succ k =>
      have := ih k (by simpa using h)
      rw [show (k + 1) * 6 = k * 6 + 1 + 1 + 1 + 1 + 1 + 1 by omega, show k * 6 + 1 + 1 + 1 + 1 + 1 + 1 + 1 = (k * 6 + 1) + 1 + 1 + 1 + 1 + 1 + 1 by omega, show k * 6 + 1 + 1 + 1 + 1 + 1 + 1 + 2 = (k * 6 + 2) + 1 + 1 + 1 + 1 + 1 + 1 by omega, show k * 6 + 1 + 1 + 1 + 1 + 1 + 1 + 3 = (k * 6 + 3) + 1 + 1 + 1 + 1 + 1 + 1 by omega, show k * 6 + 1 + 1 + 1 + 1 + 1 + 1 + 4 = (k * 6 + 4) + 1 + 1 + 1 + 1 + 1 + 1 by omega, show k * 6 + 1 + 1 + 1 + 1 + 1 + 1 + 5 = (k * 6 + 5) + 1 + 1 + 1 + 1 + 1 + 1 by omega]
      simp only [List.set_cons_succ, this]
      rfl
/-- storing what stands there changes nothing -/
theorem set_there {xs : List Value} {k : Nat} {v : Value} (h : xs[k]? = some v) : xs.set k v = xs := by
  apply List.ext_getElem? 
  intro i
  by_cases e : k = i
  · subst e
    rw [List.getElem?_set_self (List.getElem?_eq_some_iff.1 h).1, h]
  · rw [List.getElem?_set_ne e]
theorem acells_set5 (az : List Au) (b : Bool) (k : Nat) (h : k < az.length) : (acells az).set (k * 6 + 5) (.bool b) = acells (az.set k ⟨(auAt az k).ref, (auAt az k).iss, (auAt az k).cur, (auAt az k).am, (auAt az k).day, b⟩) := by
  rw [← acells_set az _ k h]
  obtain ⟨h0, h1, h2, h3, h4, h5⟩ := acells_at az k h
  simp only
  rw [set_there h0, set_there h1, set_there h2, set_there h3, set_there h4]
theorem acells_one (az : List Au) : ∀ u ∈ acells az, u.oneCell' = true := by
  intro u hu
  obtain ⟨a, _, h⟩ := List.mem_flatMap.1 hu
  simp only [aucells, List.mem_cons, List.not_mem_nil, or_false] at h
  rcases h with rfl | rfl | rfl | rfl | rfl | rfl <;> rfl

theorem auths_of_own {w : World} {base g n cap : Nat} {t : TypeId} {az : List Au} (h : w.ownsRow base t 6 (.slice (some ⟨g, 0, none⟩) n cap) n (acells az)) : AuthsAt w (some ⟨g, 0, none⟩) az := by
  have hl := h.1
  rw [acells_len] at hl
  by_cases h0 : az = []
  · exact .inl h0
  · have hlt := (h.lt g rfl).2
    refine .inr ⟨g, 0, rfl, hlt, fun i hi => ?_⟩
    have := acells_at az i hi
    rw [Nat.zero_add, h.cellAt (i * 6) (by omega), h.cellAt (i * 6 + 1) (by omega), h.cellAt (i * 6 + 2) (by omega), h.cellAt (i * 6 + 3) (by omega), h.cellAt (i * 6 + 4) (by omega), h.cellAt (i * 6 + 5) (by omega)]
    exact this
theorem auths_of_own' {w : World} {base n : Nat} {t : TypeId} {v : Value} {az : List Au} (h : w.ownsRow base t 6 v n (acells az)) : ∃ ao cap, v = .slice ao az.length cap ∧ AuthsAt w ao az ∧ n = az.length := by
  have hn : n = az.length := by have := h.1; rw [acells_len] at this; omega
  subst hn
  rcases h.2 with ⟨rfl, hn⟩ | ⟨g, cap, cur, rfl, _⟩
  · have : az = [] := List.eq_nil_of_length_eq_zero hn
    subst this
    exact ⟨none, 0, rfl, .inl rfl, rfl⟩
  · exact ⟨_, cap, rfl, auths_of_own h, rfl⟩
theorem auths_any {w : World} {base n : Nat} {t : TypeId} {ao : Option Addr} {cap : Nat} {az : List Au} (h : w.ownsRow base t 6 (.slice ao n cap) n (acells az)) : AuthsAt w ao az := by
  obtain ⟨ao', cap', hv, hf, _⟩ := auths_of_own' h
  obtain ⟨rfl, _⟩ : ao = ao' ∧ n = az.length ∧ cap = cap' := by simpa using hv
  exact hf

/-- what a copy holds behind k rounds -/
def halfA (az : List Au) (k : Nat) : List Au := az.take k ++ List.replicate (az.length - k) zeroAu
theorem halfA_zero (az : List Au) : halfA az 0 = List.replicate az.length zeroAu := by simp [halfA]
theorem halfA_all (az : List Au) : halfA az az.length = az := by simp [halfA]
theorem halfA_len (az : List Au) (k : Nat) (h : k ≤ az.length) : (halfA az k).length = az.length := by simp [halfA]; omega
theorem halfA_succ (az : List Au) (k : Nat) (h : k < az.length) : (halfA az k).set k (auAt az k) = halfA az (k + 1) := by
  unfold halfA
  rw [List.set_append, if_neg (by simp; omega), List.length_take, Nat.min_eq_left (Nat.le_of_lt h), Nat.sub_self, show az.length - k = az.length - (k + 1) + 1 by omega, List.replicate_succ, List.set_cons_zero, List.take_succ_eq_append_getElem h, auAt_is h, List.append_assoc]
  rfl
theorem halfA_at (az : List Au) (k : Nat) (h : k < az.length) : auAt (halfA az k) k = zeroAu := by
  simp [auAt, halfA, List.getD_eq_getElem?_getD, List.getElem?_append, Nat.min_eq_left (Nat.le_of_lt h), List.getElem?_replicate]
  split <;> rfl

theorem infoA : (Try.prog.info? 63).map (fun i => (i.zero, i.size, i.bytes)) = some (some (.agg #[.string ⟨#[]⟩, .int .i64 0, .int .i64 0, .int .i64 0, .int .i64 0, .bool false]), 6, 56) := by kernel_rfl

theorem cells_repA (m : Nat) : (madeCells (Value.agg #[.string ⟨#[]⟩, .int .i64 0, .int .i64 0, .int .i64 0, .int .i64 0, .bool false]).cells (m * 6)).toList = acells (List.replicate m zeroAu) := by
  apply List.ext_getElem?
  intro j
  by_cases hj : j < m * 6
  · have hq : j / 6 < (List.replicate m zeroAu).length := by simp; omega
    have ha : auAt (List.replicate m zeroAu) (j / 6) = zeroAu := by
      simp [auAt, List.getD_eq_getElem?_getD, List.getElem?_replicate]; split <;> rfl
    have h := acells_at _ _ hq
    rw [ha] at h
    have hl : (madeCells (Value.agg #[.string ⟨#[]⟩, .int .i64 0, .int .i64 0, .int .i64 0, .int .i64 0, .bool false]).cells (m * 6)).toList[j]? = some ((#[Value.string ⟨#[]⟩, .int .i64 0, .int .i64 0, .int .i64 0, .int .i64 0, .bool false] : Array Value)[j % 6]!) := by
      simp [madeCells, hj, Value.cells]
    obtain ⟨h0, h1, h2, h3, h4, h5⟩ := h
    rcases (show j % 6 = 0 ∨ j % 6 = 1 ∨ j % 6 = 2 ∨ j % 6 = 3 ∨ j % 6 = 4 ∨ j % 6 = 5 by omega) with e | e | e | e | e | e
    · rw [hl, e, show j = j / 6 * 6 by omega, h0]; rfl
    · rw [hl, e, show j = j / 6 * 6 + 1 by omega, h1]; rfl
    · rw [hl, e, show j = j / 6 * 6 + 2 by omega, h2]; rfl
    · rw [hl, e, show j = j / 6 * 6 + 3 by omega, h3]; rfl
    · rw [hl, e, show j = j / 6 * 6 + 4 by omega, h4]; rfl
    · rw [hl, e, show j = j / 6 * 6 + 5 by omega, h5]; rfl
  · rw [List.getElem?_eq_none (by rw [Array.length_toList, size_madeCells]; omega), List.getElem?_eq_none (by rw [acells_len]; simp; omega)]

end Go.Proofs.Ytlonjjliochbhaa

/- The laws' own small functions over authorizations: how much they take, their copies, whether two lists are the same. -/
namespace Go.Proofs.Ytlonjjliochbhaa
open Go.RowKit
set_option maxRecDepth 100000

def leftA (l : List UInt8) (left : Int) : Int := if left - (l.length : Int) < 0 then -1 else left - (l.length : Int)







end Go.Proofs.Ytlonjjliochbhaa

/- Cases, plainly: reasons, when a case is so, what a start answers. No Go in sight. -/
namespace Go.Proofs.Ytlonjjliochbhaa

/-- a case -/
structure Cs where
  iss : Int
  acq : Int
  cur : Int
  am : Int
  st : Int
  rsn : Int
  cl : Int
  bk : Int
  fee : Int
  cop : Bool
  sta : Int
  due : Int
/-- an act -/
structure Ac where
  kind : Int
  am : Int
  rsn : Int

def rOk (x : Int) : Bool := x == 4837 || x == 4855 || x == 4834 || x == 4831 || x == 4853 || x == 4841
def rDays (x : Int) : Int := if x = 4837 then 85 else if x = 4855 then 65 else if x = 4834 then 45 else if x = 4831 then 45 else if x = 4853 then 65 else if x = 4841 then 45 else -1
def rPart (x : Int) : Bool := x == 4831 || x == 4853
def rProof (x : Int) : Bool := x == 4837 || x == 4834
theorem r_cases (x : Int) : x = 4837 ∨ x = 4855 ∨ x = 4834 ∨ x = 4831 ∨ x = 4853 ∨ x = 4841 ∨ (x ≠ 4837 ∧ x ≠ 4855 ∧ x ≠ 4834 ∧ x ≠ 4831 ∧ x ≠ 4853 ∧ x ≠ 4841) := by omega
theorem rOk_no {x : Int} (h : x ≠ 4837 ∧ x ≠ 4855 ∧ x ≠ 4834 ∧ x ≠ 4831 ∧ x ≠ 4853 ∧ x ≠ 4841) : rOk x = false := by simp [rOk, h]
theorem rDays_no {x : Int} (h : x ≠ 4837 ∧ x ≠ 4855 ∧ x ≠ 4834 ∧ x ≠ 4831 ∧ x ≠ 4853 ∧ x ≠ 4841) : rDays x = -1 := by simp [rDays, h]
theorem rPart_no {x : Int} (h : x ≠ 4837 ∧ x ≠ 4855 ∧ x ≠ 4834 ∧ x ≠ 4831 ∧ x ≠ 4853 ∧ x ≠ 4841) : rPart x = false := by simp [rPart, h]
theorem rProof_no {x : Int} (h : x ≠ 4837 ∧ x ≠ 4855 ∧ x ≠ 4834 ∧ x ≠ 4831 ∧ x ≠ 4853 ∧ x ≠ 4841) : rProof x = false := by simp [rProof, h]

def early (st : Int) : Bool := decide (0 ≤ st ∧ st ≤ 2) || decide (st = 7)
def party (a : Int) : Bool := acctOk a && decide (a ≠ 9999)
def reasonOkAt (r st : Int) : Bool := rOk r || (decide (r = 0) && early st)
/-- when a case is so -/
def caseOk (c : Cs) : Bool :=
  party c.iss && (party c.acq && (decide (c.iss ≠ c.acq) && (decide (0 ≤ digs c.cur) && (decide (1 ≤ c.am ∧ c.am ≤ 100000000000) && (decide (0 ≤ c.st ∧ c.st ≤ 7) && (reasonOkAt c.rsn c.st &&
    (decide (0 ≤ c.cl ∧ c.cl ≤ c.am) && (decide (0 ≤ c.bk ∧ c.bk ≤ c.am) && (decide (0 ≤ c.fee ∧ c.fee ≤ 500000) && (dOk c.sta && (dOk c.due || decide (c.due = -1))))))))))))
theorem caseOk_parts {c : Cs} (h : caseOk c = true) : party c.iss = true ∧ party c.acq = true ∧ c.iss ≠ c.acq ∧ 0 ≤ digs c.cur ∧ (1 ≤ c.am ∧ c.am ≤ 100000000000) ∧ (0 ≤ c.st ∧ c.st ≤ 7) ∧ reasonOkAt c.rsn c.st = true ∧
    (0 ≤ c.cl ∧ c.cl ≤ c.am) ∧ (0 ≤ c.bk ∧ c.bk ≤ c.am) ∧ (0 ≤ c.fee ∧ c.fee ≤ 500000) ∧ dOk c.sta = true ∧ (dOk c.due = true ∨ c.due = -1) := by
  simpa [caseOk] using h

/-- what a start answers -/
def startC (iss acq cur am day : Int) : Cs := ⟨iss, acq, cur, am, 0, 0, 0, 0, 0, false, day, -1⟩

end Go.Proofs.Ytlonjjliochbhaa

/- A case as it lies: its value, its box, what stays of it. -/
namespace Go.Proofs.Ytlonjjliochbhaa
open Go.RowKit
set_option maxRecDepth 100000

/-- a case as a value, and as cells -/
def cv (c : Cs) : Value := .agg #[.int .i64 c.iss, .int .i64 c.acq, .int .i64 c.cur, .int .i64 c.am, .int .i64 c.st, .int .i64 c.rsn, .int .i64 c.cl, .int .i64 c.bk, .int .i64 c.fee, .bool c.cop, .int .i64 c.sta, .int .i64 c.due]
def ccs (c : Cs) : Array Value := #[.int .i64 c.iss, .int .i64 c.acq, .int .i64 c.cur, .int .i64 c.am, .int .i64 c.st, .int .i64 c.rsn, .int .i64 c.cl, .int .i64 c.bk, .int .i64 c.fee, .bool c.cop, .int .i64 c.sta, .int .i64 c.due]
/-- a case lies in a block, from a place on -/
structure CB (s o : Nat) (c : Cs) (u : World) : Prop where
  f0 : u.cell? ⟨s, o, none⟩ = some (.int .i64 c.iss)
  f1 : u.cell? ⟨s, o + 1, none⟩ = some (.int .i64 c.acq)
  f2 : u.cell? ⟨s, o + 2, none⟩ = some (.int .i64 c.cur)
  f3 : u.cell? ⟨s, o + 3, none⟩ = some (.int .i64 c.am)
  f4 : u.cell? ⟨s, o + 4, none⟩ = some (.int .i64 c.st)
  f5 : u.cell? ⟨s, o + 5, none⟩ = some (.int .i64 c.rsn)
  f6 : u.cell? ⟨s, o + 6, none⟩ = some (.int .i64 c.cl)
  f7 : u.cell? ⟨s, o + 7, none⟩ = some (.int .i64 c.bk)
  f8 : u.cell? ⟨s, o + 8, none⟩ = some (.int .i64 c.fee)
  f9 : u.cell? ⟨s, o + 9, none⟩ = some (.bool c.cop)
  f10 : u.cell? ⟨s, o + 10, none⟩ = some (.int .i64 c.sta)
  f11 : u.cell? ⟨s, o + 11, none⟩ = some (.int .i64 c.due)
theorem CB.lt {s o : Nat} {c : Cs} {u : World} (h : CB s o c u) : s < u.heap.size := World.block_lt_of_cell? u _ h.f0
theorem CB.below {s o : Nat} {c : Cs} {u u' : World} (h : CB s o c u) (b : Below u.heap.size u u') : CB s o c u' := by
  have l := h.lt
  exact ⟨(b.cell (p := ⟨s, o, none⟩) l).trans h.f0, (b.cell (p := ⟨s, o + 1, none⟩) l).trans h.f1, (b.cell (p := ⟨s, o + 2, none⟩) l).trans h.f2, (b.cell (p := ⟨s, o + 3, none⟩) l).trans h.f3, (b.cell (p := ⟨s, o + 4, none⟩) l).trans h.f4, (b.cell (p := ⟨s, o + 5, none⟩) l).trans h.f5,
    (b.cell (p := ⟨s, o + 6, none⟩) l).trans h.f6, (b.cell (p := ⟨s, o + 7, none⟩) l).trans h.f7, (b.cell (p := ⟨s, o + 8, none⟩) l).trans h.f8, (b.cell (p := ⟨s, o + 9, none⟩) l).trans h.f9, (b.cell (p := ⟨s, o + 10, none⟩) l).trans h.f10, (b.cell (p := ⟨s, o + 11, none⟩) l).trans h.f11⟩
theorem CB.grown {s o : Nat} {c : Cs} {u u' : World} {row : Option Nat} (h : CB s o c u) (g : u.grownBy u' row) (hr : some s ≠ row) : CB s o c u' := by
  have l := h.lt
  exact ⟨(g.cell_far ⟨s, o, none⟩ l hr).trans h.f0, (g.cell_far ⟨s, o + 1, none⟩ l hr).trans h.f1, (g.cell_far ⟨s, o + 2, none⟩ l hr).trans h.f2, (g.cell_far ⟨s, o + 3, none⟩ l hr).trans h.f3, (g.cell_far ⟨s, o + 4, none⟩ l hr).trans h.f4, (g.cell_far ⟨s, o + 5, none⟩ l hr).trans h.f5,
    (g.cell_far ⟨s, o + 6, none⟩ l hr).trans h.f6, (g.cell_far ⟨s, o + 7, none⟩ l hr).trans h.f7, (g.cell_far ⟨s, o + 8, none⟩ l hr).trans h.f8, (g.cell_far ⟨s, o + 9, none⟩ l hr).trans h.f9, (g.cell_far ⟨s, o + 10, none⟩ l hr).trans h.f10, (g.cell_far ⟨s, o + 11, none⟩ l hr).trans h.f11⟩
theorem CB.new (w : World) (c : Cs) (t : TypeId) : CB w.heap.size 0 c (w.alloc (.cells #[.int .i64 c.iss, .int .i64 c.acq, .int .i64 c.cur, .int .i64 c.am, .int .i64 c.st, .int .i64 c.rsn, .int .i64 c.cl, .int .i64 c.bk, .int .i64 c.fee, .bool c.cop, .int .i64 c.sta, .int .i64 c.due] t)) := by
  exact ⟨by simp, by simp, by simp, by simp, by simp, by simp, by simp, by simp, by simp, by simp, by simp, by simp⟩

/-- the cells of a case may be written -/
structure FZ (s o : Nat) (u : World) : Prop where
  z0 : u.frozen? ⟨s, o, none⟩ = false
  z1 : u.frozen? ⟨s, o + 1, none⟩ = false
  z2 : u.frozen? ⟨s, o + 2, none⟩ = false
  z3 : u.frozen? ⟨s, o + 3, none⟩ = false
  z4 : u.frozen? ⟨s, o + 4, none⟩ = false
  z5 : u.frozen? ⟨s, o + 5, none⟩ = false
  z6 : u.frozen? ⟨s, o + 6, none⟩ = false
  z7 : u.frozen? ⟨s, o + 7, none⟩ = false
  z8 : u.frozen? ⟨s, o + 8, none⟩ = false
  z9 : u.frozen? ⟨s, o + 9, none⟩ = false
  z10 : u.frozen? ⟨s, o + 10, none⟩ = false
  z11 : u.frozen? ⟨s, o + 11, none⟩ = false
theorem FZ.below {s o : Nat} {u u' : World} (h : FZ s o u) (l : s < u.heap.size) (b : Below u.heap.size u u') : FZ s o u' :=
  ⟨(b.frozen (p := ⟨s, o, none⟩) l).trans h.z0, (b.frozen (p := ⟨s, o + 1, none⟩) l).trans h.z1, (b.frozen (p := ⟨s, o + 2, none⟩) l).trans h.z2, (b.frozen (p := ⟨s, o + 3, none⟩) l).trans h.z3, (b.frozen (p := ⟨s, o + 4, none⟩) l).trans h.z4, (b.frozen (p := ⟨s, o + 5, none⟩) l).trans h.z5, (b.frozen (p := ⟨s, o + 6, none⟩) l).trans h.z6, (b.frozen (p := ⟨s, o + 7, none⟩) l).trans h.z7, (b.frozen (p := ⟨s, o + 8, none⟩) l).trans h.z8, (b.frozen (p := ⟨s, o + 9, none⟩) l).trans h.z9, (b.frozen (p := ⟨s, o + 10, none⟩) l).trans h.z10, (b.frozen (p := ⟨s, o + 11, none⟩) l).trans h.z11⟩
theorem FZ.grown {s o : Nat} {u u' : World} {row : Option Nat} (h : FZ s o u) (l : s < u.heap.size) (g : u.grownBy u' row) (hr : some s ≠ row) : FZ s o u' :=
  ⟨(g.frozen_far ⟨s, o, none⟩ l hr).trans h.z0, (g.frozen_far ⟨s, o + 1, none⟩ l hr).trans h.z1, (g.frozen_far ⟨s, o + 2, none⟩ l hr).trans h.z2, (g.frozen_far ⟨s, o + 3, none⟩ l hr).trans h.z3, (g.frozen_far ⟨s, o + 4, none⟩ l hr).trans h.z4, (g.frozen_far ⟨s, o + 5, none⟩ l hr).trans h.z5, (g.frozen_far ⟨s, o + 6, none⟩ l hr).trans h.z6, (g.frozen_far ⟨s, o + 7, none⟩ l hr).trans h.z7, (g.frozen_far ⟨s, o + 8, none⟩ l hr).trans h.z8, (g.frozen_far ⟨s, o + 9, none⟩ l hr).trans h.z9, (g.frozen_far ⟨s, o + 10, none⟩ l hr).trans h.z10, (g.frozen_far ⟨s, o + 11, none⟩ l hr).trans h.z11⟩
theorem FZ.new (w : World) (cs : Array Value) (t : TypeId) : FZ w.heap.size 0 (w.alloc (.cells cs t)) :=
  ⟨by simp [go_sem], by simp [go_sem], by simp [go_sem], by simp [go_sem], by simp [go_sem], by simp [go_sem], by simp [go_sem], by simp [go_sem], by simp [go_sem], by simp [go_sem], by simp [go_sem], by simp [go_sem]⟩
/-- a case put into a block -/
def put12 (u : World) (h : Nat) (c : Cs) : World :=
  (((((((((((u.setCell ⟨h, 0, none⟩ (.int .i64 c.iss)).setCell ⟨h, 1, none⟩ (.int .i64 c.acq)).setCell ⟨h, 2, none⟩ (.int .i64 c.cur)).setCell ⟨h, 3, none⟩ (.int .i64 c.am)).setCell ⟨h, 4, none⟩ (.int .i64 c.st)).setCell ⟨h, 5, none⟩ (.int .i64 c.rsn)).setCell ⟨h, 6, none⟩ (.int .i64 c.cl)).setCell ⟨h, 7, none⟩ (.int .i64 c.bk)).setCell ⟨h, 8, none⟩ (.int .i64 c.fee)).setCell ⟨h, 9, none⟩ (.bool c.cop)).setCell ⟨h, 10, none⟩ (.int .i64 c.sta)).setCell ⟨h, 11, none⟩ (.int .i64 c.due)
theorem put12_below {w u : World} {h n : Nat} (c : Cs) (b : Below n w u) (hn : n ≤ h) : Below n w (put12 u h c) :=
  (((((((((((b.setCell hn _).setCell hn _).setCell hn _).setCell hn _).setCell hn _).setCell hn _).setCell hn _).setCell hn _).setCell hn _).setCell hn _).setCell hn _).setCell hn _
theorem put12_size (u : World) (h : Nat) (c : Cs) : (put12 u h c).heap.size = u.heap.size := by simp [put12]
theorem put12_cb {u : World} {h : Nat} {c d : Cs} (b : CB h 0 d u) : CB h 0 c (put12 u h c) := by
  obtain ⟨f0, f1, f2, f3, f4, f5, f6, f7, f8, f9, f10, f11⟩ := b
  simp only [Nat.zero_add] at f0 f1 f2 f3 f4 f5 f6 f7 f8 f9 f10 f11
  exact ⟨by simp [put12, go_sem, f0], by simp [put12, go_sem, f1], by simp [put12, go_sem, f2], by simp [put12, go_sem, f3], by simp [put12, go_sem, f4], by simp [put12, go_sem, f5], by simp [put12, go_sem, f6], by simp [put12, go_sem, f7], by simp [put12, go_sem, f8], by simp [put12, go_sem, f9], by simp [put12, go_sem, f10], by simp [put12, go_sem, f11]⟩

end Go.Proofs.Ytlonjjliochbhaa

/- The laws' own functions over lines and ledgers: how much one takes, its copy, whether two are the same, marks in one's own. -/
namespace Go.Proofs.Ytlonjjliochbhaa
open Go.RowKit
set_option maxRecDepth 100000

theorem keepL {w w' : World} {base n size : Nat} {t : TypeId} {v : Value} {xs : List Value} (h : w.ownsRow base t size v n xs) (hb : Below w.heap.size w w') : w'.ownsRow base t size v n xs := by
  obtain ⟨h1, h2⟩ := h
  refine ⟨h1, ?_⟩
  rcases h2 with h | ⟨g, cap, cur, hv, hg, hh, a1, a2, a3, a4⟩
  · exact .inl h
  · have hlt : g < w.heap.size := (Array.getElem?_eq_some_iff.1 hh).1
    exact .inr ⟨g, cap, cur, hv, hg, (hb.block g hlt).trans hh, a1, a2, a3, a4⟩
theorem keepSetL {w : World} {base n size : Nat} {t : TypeId} {v : Value} {xs : List Value} (h : w.ownsRow base t size v n xs) (p : Addr) (u : Value) (hp : ∀ g, v.ownBlock = some g → g ≠ p.block) : (w.setCell p u).ownsRow base t size v n xs := by
  obtain ⟨h1, h2⟩ := h
  refine ⟨h1, ?_⟩
  rcases h2 with h | ⟨g, cap, cur, hv, hg, hh, a1, a2, a3, a4⟩
  · exact .inl h
  · exact .inr ⟨g, cap, cur, hv, hg, (Below.heap_setCell w p u g (hp g (by rw [hv]; rfl))).trans hh, a1, a2, a3, a4⟩
theorem keepG {w w' : World} {base n size : Nat} {t : TypeId} {v : Value} {xs : List Value} {row : Option Nat} (h : w.ownsRow base t size v n xs) (hg : w.grownBy w' row) (hne : ∀ g, v.ownBlock = some g → some g ≠ row) : w'.ownsRow base t size v n xs := by
  obtain ⟨h1, h2⟩ := h
  refine ⟨h1, ?_⟩
  rcases h2 with h | ⟨g, cap, cur, hv, hg', hh, a1, a2, a3, a4⟩
  · exact .inl h
  · have hlt : g < w.heap.size := (Array.getElem?_eq_some_iff.1 hh).1
    exact .inr ⟨g, cap, cur, hv, hg', (hg.block g hlt (hne g (by rw [hv]; rfl))).trans hh, a1, a2, a3, a4⟩
theorem lowerL {w : World} {base base' n size : Nat} {t : TypeId} {v : Value} {xs : List Value} (h : w.ownsRow base t size v n xs) (hb : base' ≤ base) : w.ownsRow base' t size v n xs := by
  obtain ⟨h1, h2⟩ := h
  refine ⟨h1, ?_⟩
  rcases h2 with h | ⟨g, cap, cur, hv, hg, r⟩
  · exact .inl h
  · exact .inr ⟨g, cap, cur, hv, Nat.le_trans hb hg, r⟩

def leftL (n : Nat) (left : Int) : Int := if left - (n : Int) < 0 then -1 else left - (n : Int)


/-- what a copy holds behind k rounds -/
def halfL (ls : List Ln) (k : Nat) : List Ln := ls.take k ++ List.replicate (ls.length - k) (0, 0, 0)
theorem halfL_all (ls : List Ln) : halfL ls ls.length = ls := by simp [halfL]
theorem halfL_len (ls : List Ln) (k : Nat) (h : k ≤ ls.length) : (halfL ls k).length = ls.length := by simp [halfL]; omega
theorem halfL_succ (ls : List Ln) (k : Nat) (h : k < ls.length) : (halfL ls k).set k (lnAt ls k) = halfL ls (k + 1) := by
  unfold halfL
  rw [List.set_append, if_neg (by simp; omega), List.length_take, Nat.min_eq_left (Nat.le_of_lt h), Nat.sub_self, show ls.length - k = ls.length - (k + 1) + 1 by omega, List.replicate_succ, List.set_cons_zero, take_lnAt ls k h, List.append_assoc]
  rfl
theorem halfL_at (ls : List Ln) (k : Nat) (h : k < ls.length) : lnAt (halfL ls k) k = (0, 0, 0) := by
  simp [lnAt, halfL, List.getD_eq_getElem?_getD, List.getElem?_append, Nat.min_eq_left (Nat.le_of_lt h), List.getElem?_replicate]
  split <;> rfl
theorem infoL : (Try.prog.info? 115).map (fun i => (i.zero, i.size, i.bytes)) = some (some (.agg #[.int .i64 0, .int .i64 0, .int .i64 0]), 3, 24) := by kernel_rfl
theorem cells_repL (m : Nat) : (madeCells (Value.agg #[.int .i64 0, .int .i64 0, .int .i64 0]).cells (m * 3)).toList = lcells (List.replicate m (0, 0, 0)) := by
  apply List.ext_getElem?
  intro j
  by_cases hj : j < m * 3
  · have hq : j / 3 < (List.replicate m ((0 : Int), (0 : Int), (0 : Int))).length := by simp; omega
    have ha : lnAt (List.replicate m ((0 : Int), (0 : Int), (0 : Int))) (j / 3) = (0, 0, 0) := by
      simp [lnAt, List.getD_eq_getElem?_getD, List.getElem?_replicate]; split <;> rfl
    have h := lcells_at _ _ hq
    rw [ha] at h
    have hl : (madeCells (Value.agg #[.int .i64 0, .int .i64 0, .int .i64 0]).cells (m * 3)).toList[j]? = some ((#[Value.int .i64 0, .int .i64 0, .int .i64 0] : Array Value)[j % 3]!) := by
      simp [madeCells, hj, Value.cells]
    rcases (show j % 3 = 0 ∨ j % 3 = 1 ∨ j % 3 = 2 by omega) with e | e | e
    · rw [hl, e, show j = j / 3 * 3 by omega, h.1]; rfl
    · rw [hl, e, show j = j / 3 * 3 + 1 by omega, h.2.1]; rfl
    · rw [hl, e, show j = j / 3 * 3 + 2 by omega, h.2.2]; rfl
  · rw [List.getElem?_eq_none (by rw [Array.length_toList, size_madeCells]; omega), List.getElem?_eq_none (by rw [lcells_len]; simp; omega)]


theorem lines_any {w : World} {base n : Nat} {t : TypeId} {ao : Option Addr} {cap : Nat} {ls : List Ln} (h : w.ownsRow base t 3 (.slice ao ls.length cap) n (lcells ls)) : LinesAt w ao ls := by
  obtain ⟨ao', cap', hv, hf, _⟩ := lines_of_own h
  obtain ⟨rfl, _⟩ : ao = ao' ∧ cap = cap' := by simpa using hv
  exact hf



end Go.Proofs.Ytlonjjliochbhaa

/- The laws' own functions over ledgers and entries: a ledger's copy, whether two are the same, marks in one's own lines; an entry's copy. -/
namespace Go.Proofs.Ytlonjjliochbhaa
open Go.RowKit
set_option maxRecDepth 100000



/-- the marks of n lines, from k on -/
def mkL (k n : Nat) : List Ln := (List.range n).map fun i => (((k + 3 * i : Nat) : Int), ((k + 3 * i + 1 : Nat) : Int), ((k + 3 * i + 2 : Nat) : Int))
theorem mkL_len (k n : Nat) : (mkL k n).length = n := by simp [mkL]
theorem mkL_at (k n i : Nat) (h : i < n) : lnAt (mkL k n) i = (((k + 3 * i : Nat) : Int), ((k + 3 * i + 1 : Nat) : Int), ((k + 3 * i + 2 : Nat) : Int)) := by simp [lnAt, mkL, List.getD_eq_getElem?_getD, h]
def fillL (ls : List Ln) (k j : Nat) : List Ln := mkL k j ++ ls.drop j
theorem fillL_len (ls : List Ln) (k j : Nat) (h : j ≤ ls.length) : (fillL ls k j).length = ls.length := by simp [fillL, mkL_len]; omega
theorem fillL_zero (ls : List Ln) (k : Nat) : fillL ls k 0 = ls := by simp [fillL, mkL]
theorem fillL_all (ls : List Ln) (k : Nat) : fillL ls k ls.length = mkL k ls.length := by simp [fillL]
theorem fillL_succ (ls : List Ln) (k j : Nat) (h : j < ls.length) : (fillL ls k j).set j (((k + 3 * j : Nat) : Int), ((k + 3 * j + 1 : Nat) : Int), ((k + 3 * j + 2 : Nat) : Int)) = fillL ls k (j + 1) := by
  unfold fillL
  rw [List.set_append, if_neg (by rw [mkL_len]; omega), mkL_len, Nat.sub_self, List.drop_eq_getElem_cons h, List.set_cons_zero]
  simp [mkL, List.range_succ]






end Go.Proofs.Ytlonjjliochbhaa

/- The laws' own functions over slices of entries: how much one takes, its copy, whether two are the same, marks in one's own. -/
namespace Go.Proofs.Ytlonjjliochbhaa
open Go.RowKit
set_option maxRecDepth 100000

def ecell (x : En) : List Value := [.int .i64 x.1, .int .i64 x.2.1, .int .i64 x.2.2.1, .int .i64 x.2.2.2]
def ecells (es : List En) : List Value := es.flatMap ecell
theorem ecells_cons (x : En) (r : List En) : ecells (x :: r) = .int .i64 x.1 :: .int .i64 x.2.1 :: .int .i64 x.2.2.1 :: .int .i64 x.2.2.2 :: ecells r := rfl
theorem ecells_len (es : List En) : (ecells es).length = es.length * 4 := by
  induction es with
  | nil => rfl
  | cons f r ih => rw [ecells_cons]; simp [ih]; omega
theorem ecells_at (es : List En) : ∀ k, k < es.length → (ecells es)[k * 4]? = some (.int .i64 (enAt es k).1) ∧ (ecells es)[k * 4 + 1]? = some (.int .i64 (enAt es k).2.1) ∧ (ecells es)[k * 4 + 2]? = some (.int .i64 (enAt es k).2.2.1) ∧ (ecells es)[k * 4 + 3]? = some (.int .i64 (enAt es k).2.2.2) := by
  induction es with
  | nil => intro k h; simp at h
  | cons f r ih =>
    intro k h
    rw [ecells_cons]
    cases k with
    | zero => exact ⟨rfl, rfl, rfl, rfl⟩
    | succ k =>
      have := ih k (by simpa using h)
      rw [show (k + 1) * 4 = k * 4 + 1 + 1 + 1 + 1 by omega]
      simp only [List.getElem?_cons_succ]
      exact this
theorem ecells_set (es : List En) (x : En) : ∀ k, k < es.length → ((((ecells es).set (k * 4) (.int .i64 x.1)).set (k * 4 + 1) (.int .i64 x.2.1)).set (k * 4 + 2) (.int .i64 x.2.2.1)).set (k * 4 + 3) (.int .i64 x.2.2.2) = ecells (es.set k x) := by
  induction es with
  | nil => intro k h; simp at h
  | cons g r ih =>
    intro k h
    rw [ecells_cons]
    cases k with
    | zero => rfl
    | succ k =>
      have := ih k (by simpa using h)
      rw [show (k + 1) * 4 = k * 4 + 1 + 1 + 1 + 1 by omega]
      simp only [List.set_cons_succ]
      rw [this]
      rfl
theorem ents_of_own {w : World} {base n : Nat} {t : TypeId} {v : Value} {es : List En} (h : w.ownsRow base t 4 v n (ecells es)) : ∃ ao cap, v = .slice ao es.length cap ∧ EntsAt w ao es ∧ n = es.length := by
  have hn : n = es.length := by have := h.1; rw [ecells_len] at this; omega
  subst hn
  rcases h.2 with ⟨rfl, hn⟩ | ⟨g, cap, cur, rfl, _⟩
  · have : es = [] := List.eq_nil_of_length_eq_zero hn
    subst this
    exact ⟨none, 0, rfl, .inl rfl, rfl⟩
  · refine ⟨_, cap, rfl, ?_, rfl⟩
    by_cases h0 : es = []
    · exact .inl h0
    · refine .inr ⟨g, 0, rfl, (h.lt g rfl).2, fun i hi => ?_⟩
      have := ecells_at es i hi
      rw [Nat.zero_add, h.cellAt (i * 4) (by omega), h.cellAt (i * 4 + 1) (by omega), h.cellAt (i * 4 + 2) (by omega), h.cellAt (i * 4 + 3) (by omega)]
      exact this
theorem ents_any {w : World} {base n : Nat} {t : TypeId} {ao : Option Addr} {cap : Nat} {es : List En} (h : w.ownsRow base t 4 (.slice ao es.length cap) n (ecells es)) : EntsAt w ao es := by
  obtain ⟨ao', cap', hv, hf, _⟩ := ents_of_own h
  obtain ⟨rfl, _⟩ : ao = ao' ∧ cap = cap' := by simpa using hv
  exact hf
theorem take_enAt (es : List En) (k : Nat) (h : k < es.length) : es.take (k + 1) = es.take k ++ [enAt es k] := by rw [List.take_succ_eq_append_getElem h, enAt_is h]


/-- what a copy holds behind k rounds -/
def halfE (es : List En) (k : Nat) : List En := es.take k ++ List.replicate (es.length - k) (0, 0, 0, 0)
theorem halfE_all (es : List En) : halfE es es.length = es := by simp [halfE]
theorem halfE_len (es : List En) (k : Nat) (h : k ≤ es.length) : (halfE es k).length = es.length := by simp [halfE]; omega
theorem halfE_succ (es : List En) (k : Nat) (h : k < es.length) : (halfE es k).set k (enAt es k) = halfE es (k + 1) := by
  unfold halfE
  rw [List.set_append, if_neg (by simp; omega), List.length_take, Nat.min_eq_left (Nat.le_of_lt h), Nat.sub_self, show es.length - k = es.length - (k + 1) + 1 by omega, List.replicate_succ, List.set_cons_zero, take_enAt es k h, List.append_assoc]
  rfl
theorem halfE_at (es : List En) (k : Nat) (h : k < es.length) : enAt (halfE es k) k = (0, 0, 0, 0) := by
  simp [enAt, halfE, List.getD_eq_getElem?_getD, List.getElem?_append, Nat.min_eq_left (Nat.le_of_lt h), List.getElem?_replicate]
  split <;> rfl
theorem infoE : (Try.prog.info? 99).map (fun i => (i.zero, i.size, i.bytes)) = some (some (.agg #[.int .i64 0, .int .i64 0, .int .i64 0, .int .i64 0]), 4, 32) := by kernel_rfl
theorem cells_repE (m : Nat) : (madeCells (Value.agg #[.int .i64 0, .int .i64 0, .int .i64 0, .int .i64 0]).cells (m * 4)).toList = ecells (List.replicate m (0, 0, 0, 0)) := by
  apply List.ext_getElem?
  intro j
  by_cases hj : j < m * 4
  · have hq : j / 4 < (List.replicate m ((0 : Int), (0 : Int), (0 : Int), (0 : Int))).length := by simp; omega
    have ha : enAt (List.replicate m ((0 : Int), (0 : Int), (0 : Int), (0 : Int))) (j / 4) = (0, 0, 0, 0) := by
      simp [enAt, List.getD_eq_getElem?_getD, List.getElem?_replicate]; split <;> rfl
    have h := ecells_at _ _ hq
    rw [ha] at h
    have hl : (madeCells (Value.agg #[.int .i64 0, .int .i64 0, .int .i64 0, .int .i64 0]).cells (m * 4)).toList[j]? = some ((#[Value.int .i64 0, .int .i64 0, .int .i64 0, .int .i64 0] : Array Value)[j % 4]!) := by
      simp [madeCells, hj, Value.cells]
    rcases (show j % 4 = 0 ∨ j % 4 = 1 ∨ j % 4 = 2 ∨ j % 4 = 3 by omega) with e | e | e | e
    · rw [hl, e, show j = j / 4 * 4 by omega, h.1]; rfl
    · rw [hl, e, show j = j / 4 * 4 + 1 by omega, h.2.1]; rfl
    · rw [hl, e, show j = j / 4 * 4 + 2 by omega, h.2.2.1]; rfl
    · rw [hl, e, show j = j / 4 * 4 + 3 by omega, h.2.2.2]; rfl
  · rw [List.getElem?_eq_none (by rw [Array.length_toList, size_madeCells]; omega), List.getElem?_eq_none (by rw [ecells_len]; simp; omega)]




end Go.Proofs.Ytlonjjliochbhaa

/- A case and an act that come in; the laws' own copies and comparisons of them. -/
namespace Go.Proofs.Ytlonjjliochbhaa
open Go.ChangeShapes Go.WideShapes Go.ChangeAt Go.RowKit
set_option maxRecDepth 100000

/-- the numbers of a case fit -/
def csBd (c : Cs) : Prop := wf64 c.iss ∧ wf64 c.acq ∧ wf64 c.cur ∧ wf64 c.am ∧ wf64 c.st ∧ wf64 c.rsn ∧ wf64 c.cl ∧ wf64 c.bk ∧ wf64 c.fee ∧ wf64 c.sta ∧ wf64 c.due
def acBd (a : Ac) : Prop := wf64 a.kind ∧ wf64 a.am ∧ wf64 a.rsn
def av (a : Ac) : Value := .agg #[.int .i64 a.kind, .int .i64 a.am, .int .i64 a.rsn]
section
variable {P : Program} {H : Type} {enc : TypeId × Value → H} {W : World}
set_option maxHeartbeats 1600000 in
theorem cells_case {t : TypeId} {f0 f1 f2 f3 f4 f5 f6 f7 f8 f9 f10 f11 : Field} {fuel : Nat} {cs : List Value} {x : DataW H × List MemPlace} (he : P.underlying t = some (.struct #[f0, f1, f2, f3, f4, f5, f6, f7, f8, f9, f10, f11])) (ce : P.cellsOf t = 12) (o0 : f0.offset = 0) (o1 : f1.offset = 1) (o2 : f2.offset = 2) (o3 : f3.offset = 3) (o4 : f4.offset = 4) (o5 : f5.offset = 5) (o6 : f6.offset = 6) (o7 : f7.offset = 7) (o8 : f8.offset = 8) (o9 : f9.offset = 9) (o10 : f10.offset = 10) (o11 : f11.offset = 11)
    (c0 : P.cellsOf f0.type = 1) (c1 : P.cellsOf f1.type = 1) (c2 : P.cellsOf f2.type = 1) (c3 : P.cellsOf f3.type = 1) (c4 : P.cellsOf f4.type = 1) (c5 : P.cellsOf f5.type = 1) (c6 : P.cellsOf f6.type = 1) (c7 : P.cellsOf f7.type = 1) (c8 : P.cellsOf f8.type = 1) (c9 : P.cellsOf f9.type = 1) (c10 : P.cellsOf f10.type = 1) (c11 : P.cellsOf f11.type = 1)
    (u0 : P.underlying f0.type = some (.int .i64)) (u1 : P.underlying f1.type = some (.int .i64)) (u2 : P.underlying f2.type = some (.int .i64)) (u3 : P.underlying f3.type = some (.int .i64)) (u4 : P.underlying f4.type = some (.int .i64)) (u5 : P.underlying f5.type = some (.int .i64)) (u6 : P.underlying f6.type = some (.int .i64)) (u7 : P.underlying f7.type = some (.int .i64)) (u8 : P.underlying f8.type = some (.int .i64)) (u9 : P.underlying f9.type = some .bool) (u10 : P.underlying f10.type = some (.int .i64)) (u11 : P.underlying f11.type = some (.int .i64))
    (h : DataW.trod enc P W 0 (fun _ => true) true fuel t cs = some x) : ∃ c : Cs, cs = [.int .i64 c.iss, .int .i64 c.acq, .int .i64 c.cur, .int .i64 c.am, .int .i64 c.st, .int .i64 c.rsn, .int .i64 c.cl, .int .i64 c.bk, .int .i64 c.fee, .bool c.cop, .int .i64 c.sta, .int .i64 c.due] ∧ csBd c := by
  obtain ⟨xs, n, _, _, hl, hxl, hf⟩ := DataW.trod_struct he h
  rw [ce] at hl
  match xs, hxl, cs, hl with
  | [y0, y1, y2, y3, y4, y5, y6, y7, y8, y9, y10, y11], _, [a0, a1, a2, a3, a4, a5, a6, a7, a8, a9, a10, a11], _ =>
    have h0 := hf 0 f0 rfl
    have h1 := hf 1 f1 rfl
    have h2 := hf 2 f2 rfl
    have h3 := hf 3 f3 rfl
    have h4 := hf 4 f4 rfl
    have h5 := hf 5 f5 rfl
    have h6 := hf 6 f6 rfl
    have h7 := hf 7 f7 rfl
    have h8 := hf 8 f8 rfl
    have h9 := hf 9 f9 rfl
    have h10 := hf 10 f10 rfl
    have h11 := hf 11 f11 rfl
    simp [o0, c0] at h0
    simp [o1, c1] at h1
    simp [o2, c2] at h2
    simp [o3, c3] at h3
    simp [o4, c4] at h4
    simp [o5, c5] at h5
    simp [o6, c6] at h6
    simp [o7, c7] at h7
    simp [o8, c8] at h8
    simp [o9, c9] at h9
    simp [o10, c10] at h10
    simp [o11, c11] at h11
    obtain ⟨z0, q0, _, r0⟩ := DataW.trod_int u0 h0
    obtain ⟨z1, q1, _, r1⟩ := DataW.trod_int u1 h1
    obtain ⟨z2, q2, _, r2⟩ := DataW.trod_int u2 h2
    obtain ⟨z3, q3, _, r3⟩ := DataW.trod_int u3 h3
    obtain ⟨z4, q4, _, r4⟩ := DataW.trod_int u4 h4
    obtain ⟨z5, q5, _, r5⟩ := DataW.trod_int u5 h5
    obtain ⟨z6, q6, _, r6⟩ := DataW.trod_int u6 h6
    obtain ⟨z7, q7, _, r7⟩ := DataW.trod_int u7 h7
    obtain ⟨z8, q8, _, r8⟩ := DataW.trod_int u8 h8
    obtain ⟨z9, q9, _⟩ := DataW.trod_bool u9 h9
    obtain ⟨z10, q10, _, r10⟩ := DataW.trod_int u10 h10
    obtain ⟨z11, q11, _, r11⟩ := DataW.trod_int u11 h11
    simp at q0 q1 q2 q3 q4 q5 q6 q7 q8 q9 q10 q11
    exact ⟨⟨z0, z1, z2, z3, z4, z5, z6, z7, z8, z9, z10, z11⟩, by rw [q0, q1, q2, q3, q4, q5, q6, q7, q8, q9, q10, q11], r0, r1, r2, r3, r4, r5, r6, r7, r8, r10, r11⟩
theorem is_case {r : Reach} {base : Nat} {t : TypeId} {f0 f1 f2 f3 f4 f5 f6 f7 f8 f9 f10 f11 : Field} {v : Value} {d : DataW H} {p : List MemPlace} (he : P.underlying t = some (.struct #[f0, f1, f2, f3, f4, f5, f6, f7, f8, f9, f10, f11])) (ce : P.cellsOf t = 12) (o0 : f0.offset = 0) (o1 : f1.offset = 1) (o2 : f2.offset = 2) (o3 : f3.offset = 3) (o4 : f4.offset = 4) (o5 : f5.offset = 5) (o6 : f6.offset = 6) (o7 : f7.offset = 7) (o8 : f8.offset = 8) (o9 : f9.offset = 9) (o10 : f10.offset = 10) (o11 : f11.offset = 11)
    (c0 : P.cellsOf f0.type = 1) (c1 : P.cellsOf f1.type = 1) (c2 : P.cellsOf f2.type = 1) (c3 : P.cellsOf f3.type = 1) (c4 : P.cellsOf f4.type = 1) (c5 : P.cellsOf f5.type = 1) (c6 : P.cellsOf f6.type = 1) (c7 : P.cellsOf f7.type = 1) (c8 : P.cellsOf f8.type = 1) (c9 : P.cellsOf f9.type = 1) (c10 : P.cellsOf f10.type = 1) (c11 : P.cellsOf f11.type = 1)
    (u0 : P.underlying f0.type = some (.int .i64)) (u1 : P.underlying f1.type = some (.int .i64)) (u2 : P.underlying f2.type = some (.int .i64)) (u3 : P.underlying f3.type = some (.int .i64)) (u4 : P.underlying f4.type = some (.int .i64)) (u5 : P.underlying f5.type = some (.int .i64)) (u6 : P.underlying f6.type = some (.int .i64)) (u7 : P.underlying f7.type = some (.int .i64)) (u8 : P.underlying f8.type = some (.int .i64)) (u9 : P.underlying f9.type = some .bool) (u10 : P.underlying f10.type = some (.int .i64)) (u11 : P.underlying f11.type = some (.int .i64))
    (hv : Value.okWide P W r base t v) (h : DataW.Trod enc P W 0 (fun _ => true) true t v d p) : ∃ c : Cs, v = cv c ∧ csBd c := by
  obtain ⟨cs, rfl, _⟩ := okWide_struct he hv
  obtain ⟨fuel, hf⟩ := h
  obtain ⟨l, e1, e2⟩ := cells_case he ce o0 o1 o2 o3 o4 o5 o6 o7 o8 o9 o10 o11 c0 c1 c2 c3 c4 c5 c6 c7 c8 c9 c10 c11 u0 u1 u2 u3 u4 u5 u6 u7 u8 u9 u10 u11 hf
  simp only [Value.cells] at e1
  obtain ⟨cl⟩ := cs
  simp only at e1
  subst e1
  exact ⟨l, rfl, e2⟩
theorem is_act {r : Reach} {base : Nat} {t : TypeId} {f0 f1 f2 : Field} {v : Value} {d : DataW H} {p : List MemPlace} (he : P.underlying t = some (.struct #[f0, f1, f2])) (ce : P.cellsOf t = 3) (o0 : f0.offset = 0) (o1 : f1.offset = 1) (o2 : f2.offset = 2)
    (c0 : P.cellsOf f0.type = 1) (c1 : P.cellsOf f1.type = 1) (c2 : P.cellsOf f2.type = 1) (u0 : P.underlying f0.type = some (.int .i64)) (u1 : P.underlying f1.type = some (.int .i64)) (u2 : P.underlying f2.type = some (.int .i64))
    (hv : Value.okWide P W r base t v) (h : DataW.Trod enc P W 0 (fun _ => true) true t v d p) : ∃ a : Ac, v = av a ∧ acBd a := by
  obtain ⟨cs, rfl, _⟩ := okWide_struct he hv
  obtain ⟨fuel, hf⟩ := h
  obtain ⟨l, e1, e2⟩ := ints3 he ce o0 o1 o2 c0 c1 c2 u0 u1 u2 hf
  simp only [Value.cells] at e1
  obtain ⟨cl⟩ := cs
  simp only at e1
  subst e1
  exact ⟨⟨l.1, l.2.1, l.2.2⟩, rfl, e2⟩
end


end Go.Proofs.Ytlonjjliochbhaa

/- Cases and slices of them: those that came in, and rows of one's own. -/
namespace Go.Proofs.Ytlonjjliochbhaa
open Go.ChangeShapes Go.WideShapes Go.ChangeAt Go.RowKit Go.Deep
set_option maxRecDepth 100000

def csAt (cs : List Cs) (k : Nat) : Cs := cs.getD k ⟨0, 0, 0, 0, 0, 0, 0, 0, 0, false, 0, 0⟩
theorem csAt_is {cs : List Cs} {k : Nat} (h : k < cs.length) : csAt cs k = cs[k] := by simp [csAt, List.getD_eq_getElem?_getD, h]
theorem csAt_mem {cs : List Cs} {k : Nat} (h : k < cs.length) : csAt cs k ∈ cs := by rw [csAt_is h]; exact List.getElem_mem h
/-- The slice of cases at 'ao' reads as 'cs' in w. -/
def CasesAt (w : World) (ao : Option Addr) (cs : List Cs) : Prop :=
  cs = [] ∨ ∃ b off, ao = some ⟨b, off, none⟩ ∧ b < w.heap.size ∧ ∀ i, i < cs.length → CB b (off + i * 12) (csAt cs i) w
def CasesBd (cs : List Cs) : Prop := cs.length ≤ maxLen ∧ ∀ x ∈ cs, csBd x
theorem CasesAt.below {w w' : World} {ao : Option Addr} {cs : List Cs} (h : CasesAt w ao cs) (hb : Below w.heap.size w w') : CasesAt w' ao cs := by
  rcases h with h | ⟨b, off, h1, h2, h3⟩
  · exact .inl h
  · exact .inr ⟨b, off, h1, Nat.lt_of_lt_of_le h2 hb.size, fun i hi => (h3 i hi).below hb⟩
theorem CasesAt.at {w : World} {ao : Option Addr} {cs : List Cs} (h : CasesAt w ao cs) {k : Nat} (hk : k < cs.length) : ∃ b off, ao = some ⟨b, off, none⟩ ∧ b < w.heap.size ∧ CB b (off + k * 12) (csAt cs k) w := by
  rcases h with rfl | ⟨b, off, h1, h2, h3⟩
  · simp at hk
  · exact ⟨b, off, h1, h2, h3 k hk⟩

section
variable {P : Program} {H : Type} {enc : TypeId × Value → H} {W : World}
theorem cases_open {t e : TypeId} {f0 f1 f2 f3 f4 f5 f6 f7 f8 f9 f10 f11 : Field} {fuel : Nat} {y : Value} {x : DataW H × List MemPlace} (ht : P.underlying t = some (.slice e)) (he : P.underlying e = some (.struct #[f0, f1, f2, f3, f4, f5, f6, f7, f8, f9, f10, f11])) (ce : P.cellsOf e = 12) (o0 : f0.offset = 0) (o1 : f1.offset = 1) (o2 : f2.offset = 2) (o3 : f3.offset = 3) (o4 : f4.offset = 4) (o5 : f5.offset = 5) (o6 : f6.offset = 6) (o7 : f7.offset = 7) (o8 : f8.offset = 8) (o9 : f9.offset = 9) (o10 : f10.offset = 10) (o11 : f11.offset = 11)
    (c0 : P.cellsOf f0.type = 1) (c1 : P.cellsOf f1.type = 1) (c2 : P.cellsOf f2.type = 1) (c3 : P.cellsOf f3.type = 1) (c4 : P.cellsOf f4.type = 1) (c5 : P.cellsOf f5.type = 1) (c6 : P.cellsOf f6.type = 1) (c7 : P.cellsOf f7.type = 1) (c8 : P.cellsOf f8.type = 1) (c9 : P.cellsOf f9.type = 1) (c10 : P.cellsOf f10.type = 1) (c11 : P.cellsOf f11.type = 1) (u0 : P.underlying f0.type = some (.int .i64)) (u1 : P.underlying f1.type = some (.int .i64)) (u2 : P.underlying f2.type = some (.int .i64)) (u3 : P.underlying f3.type = some (.int .i64)) (u4 : P.underlying f4.type = some (.int .i64)) (u5 : P.underlying f5.type = some (.int .i64)) (u6 : P.underlying f6.type = some (.int .i64)) (u7 : P.underlying f7.type = some (.int .i64)) (u8 : P.underlying f8.type = some (.int .i64)) (u9 : P.underlying f9.type = some .bool) (u10 : P.underlying f10.type = some (.int .i64)) (u11 : P.underlying f11.type = some (.int .i64))
    (h : DataW.trod enc P W 0 (fun _ => true) true fuel t [y] = some x) : ∃ a cap ls, y = .slice a (List.length ls) cap ∧ CasesAt W a ls ∧ CasesBd ls := by
  rcases open_slice ht h with ⟨e1, _⟩ | ⟨a, len, cap, m, n, D, Pl, e1, hb, hlc, hm, hmm, _, hx⟩
  · simp at e1
    exact ⟨none, 0, [], by rw [e1]; rfl, .inl rfl, Nat.zero_le _, fun f hf => by cases hf⟩
  · simp at e1 hmm
    subst hmm
    haveI : Inhabited Cs := ⟨⟨0, 0, 0, 0, 0, 0, 0, 0, 0, false, 0, 0⟩⟩
    obtain ⟨F, hF⟩ := choose_lt (α := Cs) (n := m) (p := fun i l => W.cells? 0 (a.add (i * P.cellsOf e)) (P.cellsOf e) = some (ccs l).toList ∧ csBd l) (fun i hi => by
      obtain ⟨cs', g1, g2⟩ := hx i hi
      obtain ⟨l, hl, hl2⟩ := cells_case he ce o0 o1 o2 o3 o4 o5 o6 o7 o8 o9 o10 o11 c0 c1 c2 c3 c4 c5 c6 c7 c8 c9 c10 c11 u0 u1 u2 u3 u4 u5 u6 u7 u8 u9 u10 u11 g2
      exact ⟨l, by rw [g1, hl]; rfl, hl2⟩)
    refine ⟨some a, m, (List.range len).map F, by rw [e1]; simp, ?_, by rw [List.length_map, List.length_range]; exact Nat.le_trans hlc hm, fun f hf => by
      obtain ⟨i, hi, rfl⟩ := List.mem_map.1 hf
      exact (hF i (by have := List.mem_range.1 hi; omega)).2⟩
    by_cases hz : len = 0
    · subst hz; exact .inl rfl
    · have each : ∀ i, i < len → ∀ j v, ((ccs (F i)).toList)[j]? = some v → W.cell? ((a.add (i * 12)).add j) = some v := fun i hi j v hv => by
        have g := (hF i (by omega)).1
        rw [ce] at g
        obtain ⟨_, _, hcell⟩ := World.cells?_some g
        have := hcell j (by have := (List.getElem?_eq_some_iff.1 hv).1; simpa [ccs] using this)
        rw [this]; simpa using hv
      obtain ⟨bk, off, spot⟩ := a
      have hc0 := each 0 (by omega) 0 _ rfl
      have hspot : spot = none := by simpa [Addr.add] using World.cell?_spot hc0
      subst hspot
      refine .inr ⟨bk, off, rfl, ?_, fun i hi => ?_⟩
      · have := World.block_lt_of_cell? W _ hc0
        simpa [add_at3] using this
      · have hi' : i < len := by simpa using hi
        have hat : csAt ((List.range len).map F) i = F i := by simp [csAt, List.getD_eq_getElem?_getD, hi']
        rw [hat]
        have g0 := each i hi' 0 _ rfl
        have g1 := each i hi' 1 _ rfl
        have g2 := each i hi' 2 _ rfl
        have g3 := each i hi' 3 _ rfl
        have g4 := each i hi' 4 _ rfl
        have g5 := each i hi' 5 _ rfl
        have g6 := each i hi' 6 _ rfl
        have g7 := each i hi' 7 _ rfl
        have g8 := each i hi' 8 _ rfl
        have g9 := each i hi' 9 _ rfl
        have g10 := each i hi' 10 _ rfl
        have g11 := each i hi' 11 _ rfl
        rw [add_at3] at g0 g1 g2 g3 g4 g5 g6 g7 g8 g9 g10 g11
        exact ⟨g0, g1, g2, g3, g4, g5, g6, g7, g8, g9, g10, g11⟩
/-- a slice of cases that came in -/
theorem is_cases {r : Reach} {base : Nat} {t e : TypeId} {f0 f1 f2 f3 f4 f5 f6 f7 f8 f9 f10 f11 : Field} {v : Value} {d : DataW H} {p : List MemPlace} (ht : P.underlying t = some (.slice e)) (he : P.underlying e = some (.struct #[f0, f1, f2, f3, f4, f5, f6, f7, f8, f9, f10, f11])) (ce : P.cellsOf e = 12) (o0 : f0.offset = 0) (o1 : f1.offset = 1) (o2 : f2.offset = 2) (o3 : f3.offset = 3) (o4 : f4.offset = 4) (o5 : f5.offset = 5) (o6 : f6.offset = 6) (o7 : f7.offset = 7) (o8 : f8.offset = 8) (o9 : f9.offset = 9) (o10 : f10.offset = 10) (o11 : f11.offset = 11)
    (c0 : P.cellsOf f0.type = 1) (c1 : P.cellsOf f1.type = 1) (c2 : P.cellsOf f2.type = 1) (c3 : P.cellsOf f3.type = 1) (c4 : P.cellsOf f4.type = 1) (c5 : P.cellsOf f5.type = 1) (c6 : P.cellsOf f6.type = 1) (c7 : P.cellsOf f7.type = 1) (c8 : P.cellsOf f8.type = 1) (c9 : P.cellsOf f9.type = 1) (c10 : P.cellsOf f10.type = 1) (c11 : P.cellsOf f11.type = 1) (u0 : P.underlying f0.type = some (.int .i64)) (u1 : P.underlying f1.type = some (.int .i64)) (u2 : P.underlying f2.type = some (.int .i64)) (u3 : P.underlying f3.type = some (.int .i64)) (u4 : P.underlying f4.type = some (.int .i64)) (u5 : P.underlying f5.type = some (.int .i64)) (u6 : P.underlying f6.type = some (.int .i64)) (u7 : P.underlying f7.type = some (.int .i64)) (u8 : P.underlying f8.type = some (.int .i64)) (u9 : P.underlying f9.type = some .bool) (u10 : P.underlying f10.type = some (.int .i64)) (u11 : P.underlying f11.type = some (.int .i64))
    (hv : Value.okWide P W r base t v) (h : DataW.Trod enc P W 0 (fun _ => true) true t v d p) : ∃ a cap ls, v = .slice a (List.length ls) cap ∧ CasesAt W a ls ∧ CasesBd ls := by
  obtain ⟨va, vl, vc, rfl⟩ := okWide_slice ht hv
  obtain ⟨fuel, h1⟩ := h
  exact cases_open ht he ce o0 o1 o2 o3 o4 o5 o6 o7 o8 o9 o10 o11 c0 c1 c2 c3 c4 c5 c6 c7 c8 c9 c10 c11 u0 u1 u2 u3 u4 u5 u6 u7 u8 u9 u10 u11 h1
end

def cscells (cs : List Cs) : List Value := cs.flatMap fun c => (ccs c).toList
theorem cscells_cons (c : Cs) (r : List Cs) : cscells (c :: r) = (ccs c).toList ++ cscells r := rfl
theorem cscells_append (a b : List Cs) : cscells (a ++ b) = cscells a ++ cscells b := by simp [cscells]
theorem cscells_len (cs : List Cs) : (cscells cs).length = cs.length * 12 := by
  induction cs with
  | nil => rfl
  | cons c r ih => rw [cscells_cons, List.length_append, ih]; simp [ccs]; omega
theorem cscells_at (cs : List Cs) : ∀ (k j : Nat), k < cs.length → j < 12 → (cscells cs)[k * 12 + j]? = (ccs (csAt cs k)).toList[j]? := by
  induction cs with
  | nil => intro k j h; simp at h
  | cons c r ih =>
    intro k j hk hj
    rw [cscells_cons]
    cases k with
    | zero =>
      rw [List.getElem?_append_left (by simp [ccs]; omega)]
      simp [csAt]
    | succ k =>
      have hl : (ccs c).toList.length = 12 := by simp [ccs]
      rw [List.getElem?_append_right (by rw [hl]; omega), hl, show (k + 1) * 12 + j - 12 = k * 12 + j by omega, ih k j (by simpa using hk) hj]
      simp [csAt]
theorem cscells_one (cs : List Cs) : ∀ u ∈ cscells cs, u.oneCell' = true := by
  intro u hu
  simp [cscells, ccs] at hu
  obtain ⟨c, _, h⟩ := hu
  rcases h with rfl | rfl | rfl | rfl | rfl | rfl | rfl | rfl | rfl | rfl | rfl | rfl <;> rfl
/-- a row of cases of one's own, read -/
theorem cases_own {w : World} {base n : Nat} {t : TypeId} {ao : Option Addr} {cap : Nat} {cs : List Cs} (h : w.ownsRow base t 12 (.slice ao n cap) n (cscells cs)) : CasesAt w ao cs := by
  rcases h.2 with ⟨hv, h0⟩ | ⟨g, cap', cur, hv, hrest⟩
  · have hl := h.1
    obtain ⟨rfl, rfl, rfl⟩ : ao = none ∧ n = 0 ∧ cap = 0 := by simpa using hv
    rw [cscells_len] at hl
    exact .inl (List.length_eq_zero_iff.1 (by omega))
  · have hl := h.1
    rw [cscells_len] at hl
    obtain ⟨rfl, rfl⟩ : ao = some ⟨g, 0, none⟩ ∧ cap = cap' := by simpa using hv
    by_cases hz : cs = []
    · exact .inl hz
    · have hlt := (h.lt g rfl).2
      refine .inr ⟨g, 0, rfl, hlt, fun i hi => ?_⟩
      have e : ∀ j, j < 12 → w.cell? ⟨g, 0 + i * 12 + j, none⟩ = (ccs (csAt cs i)).toList[j]? := fun j hj => by
        rw [Nat.zero_add, h.cellAt (i * 12 + j) (by omega), cscells_at cs i j hi hj]
      exact ⟨e 0 (by omega), e 1 (by omega), e 2 (by omega), e 3 (by omega), e 4 (by omega), e 5 (by omega), e 6 (by omega), e 7 (by omega), e 8 (by omega), e 9 (by omega), e 10 (by omega), e 11 (by omega)⟩

end Go.Proofs.Ytlonjjliochbhaa

/- A region that draws its order and whose callees make memory of their own: walked once, over the class of all worlds in which what was there stands. -/
namespace Go.Proofs.Ytlonjjliochbhaa
open Go.RowKit

/-- a world in which all that W holds stands -/
structure Over (W : World) where
  x : World
  h : Below W.heap.size W x

theorem over_ne (W : World) : Nonempty (Over W) := ⟨⟨W, Below.refl _ _⟩⟩
theorem over_cell {W : World} {a : Addr} {v : Value} (h : W.cell? a = some v) (z : Over W) : z.x.cell? a = some v := (z.h.cell (p := a) (World.block_lt_of_cell? W _ h)).trans h

theorem wp_region_over {P : Program} {id : Nat} {Q : Exit → Act → World → Prop} {a : Act} {w : World} {l : List Oper} (hm : P.follows .mixedOrders = true) (hB : Region.lexB .any l.toArray = true)
    (h : wpQuiet P l.toArray (fun w' => ∃ z : Over w, w' = z.x) (fun a' => ∀ w', (∃ z : Over w, w' = z.x) → Q .normal a' w') l a) : (Code.region id l.toArray true).wp P Q a w :=
  wp_region_quiet (C := fun w' => ∃ z : Over w, w' = z.x) hm hB ⟨⟨_, (Below.refl _ _).drew⟩, rfl⟩ (by simpa using h)

theorem over_of {P : Program} {f : FuncId} {args : Array Value} {w : World} {z : Over w} {v : Value} (h : Calls P f args z.x fun e w' => e = .returned v ∧ Below z.x.heap.size z.x w') :
    Calls P f args z.x fun e w'' => e = .returned v ∧ ∃ y : Over w, w'' = y.x :=
  h.mono fun _ w' ⟨he, hb⟩ => ⟨he, ⟨w', z.h.trans (hb.mono z.h.size)⟩, rfl⟩

end Go.Proofs.Ytlonjjliochbhaa

/- The laws' own measure and comparison of slices of cases. -/
namespace Go.Proofs.Ytlonjjliochbhaa
open Go.RowKit
set_option maxRecDepth 100000



end Go.Proofs.Ytlonjjliochbhaa

/- Blocked files, plainly: how records are laid, cut into blocks, and found again. No Go in sight. -/
namespace Go.Proofs.Ytlonjjliochbhaa

set_option maxRecDepth 20000
abbrev Recs := List (List UInt8)
/-- a number as four bytes -/
def be4 (n : Nat) : List UInt8 := [UInt8.ofNat (n / 16777216), UInt8.ofNat (n / 65536), UInt8.ofNat (n / 256), UInt8.ofNat n]
theorem be4_len (n : Nat) : (be4 n).length = 4 := rfl
def lay1 (r : List UInt8) : List UInt8 := be4 r.length ++ r
theorem lay1_len (r : List UInt8) : (lay1 r).length = r.length + 4 := by simp [lay1, be4_len]; omega
def layR (rs : Recs) : List UInt8 := rs.flatMap lay1
theorem layR_append (a b : Recs) : layR (a ++ b) = layR a ++ layR b := by simp [layR]
theorem layR_one (r : List UInt8) : layR [r] = lay1 r := by simp [layR]
theorem layR_cons (r : List UInt8) (rs : Recs) : layR (r :: rs) = lay1 r ++ layR rs := by simp [layR]
def laid (rs : Recs) : List UInt8 := layR rs ++ be4 0
def recOk (r : List UInt8) : Bool := decide (0 < r.length) && decide (r.length ≤ 3000)
theorem recOk_is {r : List UInt8} (h : recOk r = true) : 0 < r.length ∧ r.length ≤ 3000 := by simpa [recOk] using h
def recsOk (rs : Recs) : Bool := rs.all recOk
def nth (rs : Recs) (k : Nat) : List UInt8 := rs.getD k []
theorem nth_is {rs : Recs} {k : Nat} (h : k < rs.length) : nth rs k = rs[k] := by simp [nth, List.getD_eq_getElem?_getD, h]
theorem nth_mem {rs : Recs} {k : Nat} (h : k < rs.length) : nth rs k ∈ rs := by rw [nth_is h]; exact List.getElem_mem h
theorem take_nth (rs : Recs) (k : Nat) (h : k < rs.length) : rs.take (k + 1) = rs.take k ++ [nth rs k] := by
  rw [List.take_succ_eq_append_getElem h, nth_is h]
theorem recsOk_step (rs : Recs) (k : Nat) (h : k < rs.length) : recsOk (rs.drop k) = (recOk (nth rs k) && recsOk (rs.drop (k + 1))) := by
  rw [List.drop_eq_getElem_cons h, nth_is h]; rfl
theorem recsOk_end (rs : Recs) : recsOk (rs.drop rs.length) = true := by rw [List.drop_of_length_le (Nat.le_refl _)]; rfl
theorem recsOk_mem {rs : Recs} (h : recsOk rs = true) : ∀ r ∈ rs, 0 < r.length ∧ r.length ≤ 3000 := fun r hr => recOk_is (List.all_eq_true.1 h r hr)
theorem layR_step (rs : Recs) (k : Nat) (h : k < rs.length) : layR (rs.take (k + 1)) = layR (rs.take k) ++ (be4 (nth rs k).length ++ nth rs k) := by
  rw [take_nth rs k h, layR_append, layR_one]; rfl
theorem layR_bd {rs : Recs} (h : ∀ r ∈ rs, r.length ≤ 3000) : (layR rs).length ≤ 3004 * rs.length := by
  induction rs with
  | nil => simp [layR]
  | cons r q ih =>
    have h1 := h r (List.mem_cons_self ..)
    have h2 := ih (fun g hg => h g (List.mem_cons_of_mem _ hg))
    rw [layR_cons, List.length_append, lay1_len, List.length_cons]; omega
theorem laid_len (rs : Recs) : (laid rs).length = (layR rs).length + 4 := by simp [laid, be4_len]

def nBlk (n : Nat) : Nat := (n + 1011) / 1012
/-- a stream of m pieces as a file -/
def fileM (t : List UInt8) (m : Nat) : List UInt8 := (List.range m).flatMap fun i => (t.drop (i * 1012)).take 1012 ++ [64, 64]
def filled (l : List UInt8) : List UInt8 := l ++ List.replicate (nBlk l.length * 1012 - l.length) 64
def fileOf (l : List UInt8) : List UInt8 := fileM (filled l) (nBlk l.length)
def blockOk (rs : Recs) : Bool := (decide (rs.length ≤ 200) && recsOk rs) && decide (nBlk (laid rs).length * 1014 ≤ 60000)
def blockL (rs : Recs) : List UInt8 := if blockOk rs = true then fileOf (laid rs) else []
theorem blockL_yes {rs : Recs} (h : blockOk rs = true) : blockL rs = fileOf (laid rs) := if_pos h
theorem blockL_no {rs : Recs} (h : blockOk rs = false) : blockL rs = [] := if_neg (by rw [h]; decide)
theorem blockOk_parts {rs : Recs} (h : blockOk rs = true) : rs.length ≤ 200 ∧ recsOk rs = true ∧ nBlk (laid rs).length * 1014 ≤ 60000 := by
  simp [blockOk] at h; exact ⟨h.1.1, h.1.2, h.2⟩
theorem blockOk_of {rs : Recs} (h1 : rs.length ≤ 200) (h2 : recsOk rs = true) (h3 : nBlk (laid rs).length * 1014 ≤ 60000) : blockOk rs = true := by simp [blockOk, h1, h2, h3]
theorem blockOk_no1 {rs : Recs} (h : 200 < rs.length) : blockOk rs = false := by simp [blockOk]; intro h1; omega
theorem blockOk_no2 {rs : Recs} (h : recsOk rs = false) : blockOk rs = false := by simp [blockOk, h]
theorem blockOk_no3 {rs : Recs} (h : 60000 < nBlk (laid rs).length * 1014) : blockOk rs = false := by simp [blockOk]; intros; omega
theorem nBlk_le (n : Nat) : n ≤ nBlk n * 1012 := by unfold nBlk; omega
theorem nBlk_lt (n : Nat) : nBlk n * 1012 < n + 1012 := by unfold nBlk; omega
theorem filled_len (l : List UInt8) : (filled l).length = nBlk l.length * 1012 := by
  have := nBlk_le l.length
  simp [filled]; omega

theorem fileM_succ (t : List UInt8) (m : Nat) : fileM t (m + 1) = fileM t m ++ ((t.drop (m * 1012)).take 1012 ++ [64, 64]) := by
  simp [fileM, List.range_succ]
theorem fileM_len (t : List UInt8) (m : Nat) (h : m * 1012 ≤ t.length) : (fileM t m).length = m * 1014 := by
  induction m with
  | zero => rfl
  | succ m ih =>
    rw [fileM_succ, List.length_append, ih (by omega), List.length_append, List.length_take, List.length_drop, show [(64 : UInt8), 64].length = 2 from rfl]
    omega
theorem fileOf_len (l : List UInt8) : (fileOf l).length = nBlk l.length * 1014 := fileM_len _ _ (by rw [filled_len]; omega)

/-- block i of a file -/
def blk (s : List UInt8) (i : Nat) : List UInt8 := (s.drop (i * 1014)).take 1014
def pieceOf (s : List UInt8) (i : Nat) : List UInt8 := (s.drop (i * 1014)).take 1012
def streamM (s : List UInt8) (m : Nat) : List UInt8 := (List.range m).flatMap (pieceOf s)
def streamOf (s : List UInt8) : List UInt8 := streamM s (s.length / 1014)
theorem streamM_succ (s : List UInt8) (m : Nat) : streamM s (m + 1) = streamM s m ++ pieceOf s m := by simp [streamM, List.range_succ]
theorem pieceOf_len (s : List UInt8) (m : Nat) (h : m * 1014 + 1012 ≤ s.length) : (pieceOf s m).length = 1012 := by
  rw [pieceOf, List.length_take, List.length_drop]; omega
theorem streamM_len (s : List UInt8) (m : Nat) (h : m * 1014 ≤ s.length) : (streamM s m).length = m * 1012 := by
  induction m with
  | zero => rfl
  | succ m ih =>
    rw [streamM_succ, List.length_append, ih (by omega), pieceOf_len s m (by omega)]
    omega
def endOk (s : List UInt8) (i : Nat) : Bool := (s.getD (i * 1014 + 1012) 0 == 64) && (s.getD (i * 1014 + 1013) 0 == 64)
def padM (s : List UInt8) (m : Nat) : Bool := (List.range m).all (endOk s)
def padAll (s : List UInt8) : Bool := padM s (s.length / 1014)
theorem padM_succ (s : List UInt8) (m : Nat) : padM s (m + 1) = (padM s m && endOk s m) := by simp [padM, List.range_succ]
theorem padM_at {s : List UInt8} {m : Nat} (h : padM s m = true) {i : Nat} (hi : i < m) : endOk s i = true := List.all_eq_true.1 h i (List.mem_range.2 hi)
theorem padM_no {s : List UInt8} {m i : Nat} (hi : i < m) (h : endOk s i = false) : padM s m = false := by
  cases hp : padM s m
  · rfl
  · rw [padM_at hp hi] at h; cases h

theorem drop_take_getD (s : List UInt8) (a : Nat) (h : a + 2 ≤ s.length) : (s.drop a).take 2 = [s.getD a 0, s.getD (a + 1) 0] := by
  rw [List.drop_eq_getElem_cons (by omega), List.take_succ_cons, List.drop_eq_getElem_cons (by omega), List.take_succ_cons, List.take_zero]
  simp [List.getD_eq_getElem?_getD, show a < s.length by omega, show a + 1 < s.length by omega]
/-- a file whose blocks end right is its stream's file -/
theorem file_stream (s : List UInt8) : ∀ m, m * 1014 ≤ s.length → padM s m = true → fileM (streamM s m) m = s.take (m * 1014) := by
  intro m
  induction m with
  | zero => intro _ _; rfl
  | succ m ih =>
    intro hl hp
    rw [padM_succ, Bool.and_eq_true] at hp
    have hsl := streamM_len s m (by omega)
    have e1 : fileM (streamM s (m + 1)) m = fileM (streamM s m) m := by
      rw [streamM_succ]
      unfold fileM
      have ext : ∀ (l : List Nat) (f g : Nat → List UInt8), (∀ i ∈ l, f i = g i) → l.flatMap f = l.flatMap g := by
        intro l f g
        induction l with
        | nil => intro _; rfl
        | cons x r ih => intro h; rw [List.flatMap_cons, List.flatMap_cons, h x (List.mem_cons_self ..), ih fun i hi => h i (List.mem_cons_of_mem _ hi)]
      refine ext _ _ _ fun i hi => ?_
      have hi := List.mem_range.1 hi
      rw [List.drop_append_of_le_length (by omega), List.take_append_of_le_length (by rw [List.length_drop]; omega)]
    have e2 : ((streamM s (m + 1)).drop (m * 1012)).take 1012 = pieceOf s m := by
      rw [streamM_succ, ← hsl, List.drop_left]
      exact List.take_of_length_le (by rw [pieceOf_len s m (by omega)]; omega)
    have e3 : [(64 : UInt8), 64] = (s.drop (m * 1014 + 1012)).take 2 := by
      have := hp.2
      simp only [endOk, Bool.and_eq_true, beq_iff_eq] at this
      rw [drop_take_getD s _ (by omega), this.1, this.2]
    rw [fileM_succ, e1, e2, ih (by omega) hp.1, e3, pieceOf, show (m + 1) * 1014 = m * 1014 + (1012 + 2) by omega, List.take_add, List.take_add, List.drop_drop]
theorem file_of_stream {s : List UInt8} (hm : s.length % 1014 = 0) (hp : padAll s = true) : fileM (streamOf s) (s.length / 1014) = s := by
  rw [streamOf, file_stream s _ (by omega) hp, List.take_of_length_le (by omega)]
/-- and the other way round -/
theorem piece_fileM (t : List UInt8) : ∀ m, m * 1012 ≤ t.length → ∀ i, i < m → ∀ u, pieceOf (fileM t m ++ u) i = (t.drop (i * 1012)).take 1012 ∧ endOk (fileM t m ++ u) i = true := by
  intro m
  induction m with
  | zero => intro _ i hi; omega
  | succ m ih =>
    intro hl i hi u
    rw [fileM_succ, List.append_assoc]
    by_cases h : i < m
    · exact ih (by omega) i h _
    · obtain rfl : i = m := by omega
      have hf := fileM_len t i (by omega)
      have hpl : ((t.drop (i * 1012)).take 1012).length = 1012 := by rw [List.length_take, List.length_drop]; omega
      constructor
      · rw [pieceOf, ← hf, List.drop_left, List.append_assoc, List.take_append_of_le_length (by omega), List.take_of_length_le (by omega)]
      · have g : ∀ j, j < 2 → (fileM t i ++ ((t.drop (i * 1012)).take 1012 ++ [64, 64] ++ u)).getD (i * 1014 + (1012 + j)) 0 = 64 := by
          intro j hj
          rw [List.getD_eq_getElem?_getD, List.getElem?_append_right (by omega), hf, Nat.add_sub_cancel_left, List.append_assoc, List.getElem?_append_right (by omega), hpl, Nat.add_sub_cancel_left]
          match j, hj with
          | 0, _ => rfl
          | 1, _ => rfl
        have g0 := g 0 (by omega)
        have g1 := g 1 (by omega)
        simp only [Nat.add_zero] at g0
        simp only [endOk, g0, show i * 1014 + 1013 = i * 1014 + (1012 + 1) by omega, g1]; rfl
theorem stream_fileM (t : List UInt8) (m : Nat) (h : m * 1012 = t.length) : streamM (fileM t m) m = t ∧ padM (fileM t m) m = true := by
  constructor
  · have : ∀ k, k ≤ m → streamM (fileM t m) k = t.take (k * 1012) := by
      intro k
      induction k with
      | zero => intro _; rfl
      | succ k ih =>
        intro hk
        have hp := (piece_fileM t m (by omega) k (by omega) []).1
        rw [List.append_nil] at hp
        rw [streamM_succ, ih (by omega), hp, show (k + 1) * 1012 = k * 1012 + 1012 by omega, List.take_add]
    rw [this m (Nat.le_refl _), List.take_of_length_le (by omega)]
  · apply List.all_eq_true.2
    intro i hi
    have := (piece_fileM t m (by omega) i (List.mem_range.1 hi) []).2
    rwa [List.append_nil] at this
theorem stream_file (t : List UInt8) (m : Nat) (h : m * 1012 = t.length) : streamOf (fileM t m) = t ∧ padAll (fileM t m) = true := by
  have hl := fileM_len t m (by omega)
  have hd : (fileM t m).length / 1014 = m := by omega
  unfold streamOf padAll
  rw [hd]
  exact stream_fileM t m h
theorem fileM_inj {a b : List UInt8} {m n : Nat} (ha : m * 1012 = a.length) (hb : n * 1012 = b.length) (h : fileM a m = fileM b n) : m = n ∧ a = b := by
  have h1 := fileM_len a m (by omega)
  have h2 := fileM_len b n (by omega)
  rw [h] at h1
  have hmn : m = n := by omega
  subst hmn
  refine ⟨rfl, ?_⟩
  rw [← (stream_fileM a m ha).1, h, (stream_fileM b m hb).1]

/-- the number that four bytes spell -/
def num4 (l : List UInt8) (a : Nat) : Nat := (l.getD a 0).toNat * 16777216 + (l.getD (a + 1) 0).toNat * 65536 + (l.getD (a + 2) 0).toNat * 256 + (l.getD (a + 3) 0).toNat
def walkR (l : List UInt8) : Nat → Nat → Recs → Option (Recs × Nat)
  | 0, _, _ => none
  | f + 1, a, acc =>
    if l.length < a + 4 then none
    else if num4 l a = 0 then some (acc, a + 4)
    else if 3000 < num4 l a ∨ l.length < a + 4 + num4 l a ∨ 200 ≤ acc.length then none
    else walkR l f (a + 4 + num4 l a) (acc ++ [(l.drop (a + 4)).take (num4 l a)])
theorem walkR_short {l : List UInt8} {f a : Nat} {acc : Recs} (h : l.length < a + 4) : walkR l f a acc = none := by
  cases f with
  | zero => rfl
  | succ f => exact if_pos h
theorem walkR_end {l : List UInt8} {f a : Nat} {acc : Recs} (h : ¬ l.length < a + 4) (h0 : num4 l a = 0) : walkR l (f + 1) a acc = some (acc, a + 4) := by
  rw [walkR, if_neg h, if_pos h0]
theorem walkR_bad {l : List UInt8} {f a : Nat} {acc : Recs} (h : ¬ l.length < a + 4) (h0 : num4 l a ≠ 0) (h1 : 3000 < num4 l a ∨ l.length < a + 4 + num4 l a ∨ 200 ≤ acc.length) : walkR l f a acc = none := by
  cases f with
  | zero => rfl
  | succ f => rw [walkR, if_neg h, if_neg h0, if_pos h1]
theorem walkR_go {l : List UInt8} {f a : Nat} {acc : Recs} (h : ¬ l.length < a + 4) (h0 : num4 l a ≠ 0) (h1 : ¬ (3000 < num4 l a ∨ l.length < a + 4 + num4 l a ∨ 200 ≤ acc.length)) :
    walkR l (f + 1) a acc = walkR l f (a + 4 + num4 l a) (acc ++ [(l.drop (a + 4)).take (num4 l a)]) := by
  rw [walkR, if_neg h, if_neg h0, if_neg h1]

theorem be4_num (l : List UInt8) (a : Nat) (h : a + 4 ≤ l.length) : (l.drop a).take 4 = be4 (num4 l a) := by
  have e : ∀ k, k < 4 → ∃ c, l[a + k]? = some c ∧ l.getD (a + k) 0 = c := fun k hk => ⟨l[a + k], by rw [List.getElem?_eq_getElem (by omega)], by simp [List.getD_eq_getElem?_getD, show a + k < l.length by omega]⟩
  obtain ⟨c0, p0, q0⟩ := e 0 (by omega)
  obtain ⟨c1, p1, q1⟩ := e 1 (by omega)
  obtain ⟨c2, p2, q2⟩ := e 2 (by omega)
  obtain ⟨c3, p3, q3⟩ := e 3 (by omega)
  simp only [Nat.add_zero] at p0 q0
  have hl : (l.drop a).take 4 = [c0, c1, c2, c3] := by
    apply List.ext_getElem?
    intro j
    rw [List.getElem?_take]
    by_cases hj : j < 4
    · rw [if_pos hj, List.getElem?_drop]
      match j, hj with
      | 0, _ => simpa using p0
      | 1, _ => simpa using p1
      | 2, _ => simpa using p2
      | 3, _ => simpa using p3
    · rw [if_neg hj, List.getElem?_eq_none (by simp; omega)]
  rw [hl, be4, num4, q0, q1, q2, q3]
  have b0 := c0.toNat_lt
  have b1 := c1.toNat_lt
  have b2 := c2.toNat_lt
  have b3 := c3.toNat_lt
  have f : ∀ (c : UInt8) (n : Nat), n % 256 = c.toNat → UInt8.ofNat n = c := fun c n h => by
    apply UInt8.toNat_inj.1
    rw [UInt8.toNat_ofNat']; exact h
  rw [f c0 _ (by omega), f c1 _ (by omega), f c2 _ (by omega), f c3 _ (by omega)]
theorem num4_be4 (n : Nat) (h : n < 4294967296) (p q : List UInt8) : num4 (p ++ (be4 n ++ q)) p.length = n := by
  have e : ∀ k, k < 4 → (p ++ (be4 n ++ q)).getD (p.length + k) 0 = (be4 n).getD k 0 := fun k hk => by
    rw [List.getD_eq_getElem?_getD, List.getElem?_append_right (by omega), Nat.add_sub_cancel_left, List.getElem?_append_left (by rw [be4_len]; omega), List.getD_eq_getElem?_getD]
  have e0 := e 0 (by omega)
  have e1 := e 1 (by omega)
  have e2 := e 2 (by omega)
  have e3 := e 3 (by omega)
  rw [Nat.add_zero] at e0
  rw [num4, e0, e1, e2, e3]
  simp only [be4, List.getD_cons_zero, List.getD_cons_succ, UInt8.toNat_ofNat']
  omega

/-- what the walk found stands there -/
theorem walkR_is (l : List UInt8) : ∀ f a acc out e, walkR l f a acc = some (out, e) → l.take a = layR acc → a ≤ l.length → recsOk acc = true → acc.length ≤ 200 →
    l.take e = laid out ∧ e ≤ l.length ∧ recsOk out = true ∧ out.length ≤ 200 := by
  intro f
  induction f with
  | zero => intro a acc out e h; cases h
  | succ f ih =>
    intro a acc out e h ht ha hok hn
    by_cases h1 : l.length < a + 4
    · rw [walkR_short h1] at h; cases h
    have hb := be4_num l a (by omega)
    by_cases h0 : num4 l a = 0
    · rw [walkR_end h1 h0] at h
      cases h
      refine ⟨?_, by omega, hok, hn⟩
      rw [List.take_add, hb, h0, ht]; rfl
    · by_cases h2 : 3000 < num4 l a ∨ l.length < a + 4 + num4 l a ∨ 200 ≤ acc.length
      · rw [walkR_bad h1 h0 h2] at h; cases h
      · rw [walkR_go h1 h0 h2] at h
        have hlen : ((l.drop (a + 4)).take (num4 l a)).length = num4 l a := by simp; omega
        refine ih _ _ _ _ h ?_ (by omega) ?_ (by simp; omega)
        · rw [List.take_add, List.take_add, hb, ht, layR_append, layR_one, lay1, hlen, List.append_assoc]
        · simp only [recsOk, List.all_append, Bool.and_eq_true]
          refine ⟨hok, ?_⟩
          simp [recOk, hlen]; omega
/-- and what was laid is found -/
theorem walkR_laid (u : List UInt8) : ∀ (rs acc : Recs) f, recsOk rs = true → acc.length + rs.length ≤ 200 → rs.length < f →
    walkR (layR acc ++ (layR rs ++ be4 0 ++ u)) f (layR acc).length acc = some (acc ++ rs, (layR acc).length + (layR rs).length + 4) := by
  intro rs
  induction rs with
  | nil =>
    intro acc f _ _ hf
    obtain ⟨g, rfl⟩ : ∃ g, f = g + 1 := ⟨f - 1, by simp at hf; omega⟩
    have hn := num4_be4 0 (by omega) (layR acc) u
    rw [show layR [] ++ be4 0 ++ u = be4 0 ++ u from rfl, walkR_end (by simp [be4_len]) hn]
    simp [layR]
  | cons r q ih =>
    intro acc f hok hn hf
    obtain ⟨g, rfl⟩ : ∃ g, f = g + 1 := ⟨f - 1, by simp at hf; omega⟩
    have hok' : recOk r = true ∧ recsOk q = true := by simpa [recsOk] using hok
    have hr := recOk_is hok'.1
    have es : layR (r :: q) ++ be4 0 ++ u = be4 r.length ++ (r ++ (layR q ++ be4 0 ++ u)) := by rw [layR_cons, lay1]; simp [List.append_assoc]
    have hnum := num4_be4 r.length (by omega) (layR acc) (r ++ (layR q ++ be4 0 ++ u))
    have hn' : acc.length + (q.length + 1) ≤ 200 := by simpa using hn
    rw [es, walkR_go (by simp [be4_len]) (by rw [hnum]; omega) (by rw [hnum]; simp [be4_len]; omega), hnum]
    have e1 : ((layR acc ++ (be4 r.length ++ (r ++ (layR q ++ be4 0 ++ u)))).drop ((layR acc).length + 4)).take r.length = r := by
      rw [← List.append_assoc, show (layR acc).length + 4 = (layR acc ++ be4 r.length).length by simp [be4_len], List.drop_left, List.take_left]
    have e2 : layR acc ++ (be4 r.length ++ (r ++ (layR q ++ be4 0 ++ u))) = layR (acc ++ [r]) ++ (layR q ++ be4 0 ++ u) := by
      rw [layR_append, layR_one, lay1]; simp [List.append_assoc]
    have e3 : (layR acc).length + 4 + r.length = (layR (acc ++ [r])).length := by rw [layR_append, layR_one, List.length_append, lay1_len]; omega
    rw [e1, e2, e3, ih (acc ++ [r]) g hok'.2 (by simp; omega) (by simp at hf; omega)]
    have e4 : (layR (r :: q)).length = r.length + 4 + (layR q).length := by rw [layR_cons, List.length_append, lay1_len]
    rw [List.append_assoc, ← e3, e4]
    have e5 : (layR acc).length + 4 + r.length + (layR q).length + 4 = (layR acc).length + (r.length + 4 + (layR q).length) + 4 := by omega
    rw [e5]; rfl

/-- the records of a file, and the code -/
def unb (s : List UInt8) : Recs × Nat :=
  if s.length = 0 ∨ 60000 < s.length ∨ s.length % 1014 ≠ 0 then ([], 1)
  else if padAll s = false then ([], 2)
  else match walkR (streamOf s) ((streamOf s).length + 1) 0 [] with
    | none => ([], 3)
    | some p => if blockOk p.1 = true ∧ blockL p.1 = s then (p.1, 0) else ([], 4)
theorem unb_1 {s : List UInt8} (h : s.length = 0 ∨ 60000 < s.length ∨ s.length % 1014 ≠ 0) : unb s = ([], 1) := if_pos h
theorem unb_2 {s : List UInt8} (h : ¬ (s.length = 0 ∨ 60000 < s.length ∨ s.length % 1014 ≠ 0)) (h2 : padAll s = false) : unb s = ([], 2) := by rw [unb, if_neg h, if_pos h2]
theorem unb_3 {s : List UInt8} (h : ¬ (s.length = 0 ∨ 60000 < s.length ∨ s.length % 1014 ≠ 0)) (h2 : padAll s = true) (h3 : walkR (streamOf s) ((streamOf s).length + 1) 0 [] = none) : unb s = ([], 3) := by
  rw [unb, if_neg h, if_neg (by rw [h2]; decide), h3]
theorem unb_4 {s : List UInt8} {out : Recs} {e : Nat} (h : ¬ (s.length = 0 ∨ 60000 < s.length ∨ s.length % 1014 ≠ 0)) (h2 : padAll s = true) (h3 : walkR (streamOf s) ((streamOf s).length + 1) 0 [] = some (out, e)) (h4 : ¬ (blockOk out = true ∧ blockL out = s)) : unb s = ([], 4) := by
  rw [unb, if_neg h, if_neg (by rw [h2]; decide), h3]; exact if_neg h4
theorem unb_0 {s : List UInt8} {out : Recs} {e : Nat} (h : ¬ (s.length = 0 ∨ 60000 < s.length ∨ s.length % 1014 ≠ 0)) (h2 : padAll s = true) (h3 : walkR (streamOf s) ((streamOf s).length + 1) 0 [] = some (out, e)) (h4 : blockOk out = true ∧ blockL out = s) : unb s = (out, 0) := by
  rw [unb, if_neg h, if_neg (by rw [h2]; decide), h3]; exact if_pos h4
theorem unb_code (s : List UInt8) : (unb s).2 ≤ 4 := by
  unfold unb
  split
  · decide
  · split
    · decide
    · split
      · decide
      · split <;> simp
theorem unb_not {s : List UInt8} (h : (unb s).2 ≠ 0) : (unb s).1 = [] := by
  unfold unb at h ⊢
  split at h
  · rename_i h1; rw [if_pos h1]
  · rename_i h1; rw [if_neg h1]
    split at h
    · rename_i h2; rw [if_pos h2]
    · rename_i h2; rw [if_neg h2]
      split at h
      · rfl
      · rename_i p h3
        split at h
        · exact absurd rfl h
        · rename_i h4; exact congrArg Prod.fst (if_neg h4)
theorem unb_is {s : List UInt8} (h : (unb s).2 = 0) : blockOk (unb s).1 = true ∧ blockL (unb s).1 = s := by
  unfold unb at h ⊢
  split at h
  · cases h
  · rename_i h1; rw [if_neg h1]
    split at h
    · cases h
    · rename_i h2; rw [if_neg h2]
      split at h
      · cases h
      · rename_i p h3
        split at h
        · rename_i h4
          have e : (if blockOk p.1 = true ∧ blockL p.1 = s then (p.1, 0) else (([] : Recs), 4)) = (p.1, 0) := if_pos h4
          show blockOk (if blockOk p.1 = true ∧ blockL p.1 = s then (p.1, 0) else (([] : Recs), 4)).1 = true ∧ blockL (if blockOk p.1 = true ∧ blockL p.1 = s then (p.1, 0) else (([] : Recs), 4)).1 = s
          rw [e]; exact h4
        · cases h
theorem blockL_shape {rs : Recs} (h : blockOk rs = true) : ¬ ((blockL rs).length = 0 ∨ 60000 < (blockL rs).length ∨ (blockL rs).length % 1014 ≠ 0) := by
  obtain ⟨h1, h2, h3⟩ := blockOk_parts h
  have hl := laid_len rs
  have hb := nBlk_le (laid rs).length
  rw [blockL_yes h, fileOf_len]
  omega
theorem unb_block {rs : Recs} (h : blockOk rs = true) : unb (blockL rs) = (rs, 0) := by
  have hs := blockL_shape h
  obtain ⟨h1, h2, h3⟩ := blockOk_parts h
  have hy := blockL_yes h
  obtain ⟨e1, e2⟩ := stream_file (filled (laid rs)) (nBlk (laid rs).length) (filled_len _).symm
  have hw := walkR_laid (List.replicate (nBlk (laid rs).length * 1012 - (laid rs).length) 64) rs [] ((filled (laid rs)).length + 1) h2 (by simpa using h1) (by
    have : rs.length ≤ (layR rs).length := by
      clear hs hy e1 e2 h h1 h2 h3
      induction rs with
      | nil => simp
      | cons r q ih => rw [layR_cons, List.length_append, lay1_len, List.length_cons]; omega
    have := laid_len rs
    have := filled_len (laid rs)
    have := nBlk_le (laid rs).length
    omega)
  have hf : layR [] ++ (layR rs ++ be4 0 ++ List.replicate (nBlk (laid rs).length * 1012 - (laid rs).length) 64) = filled (laid rs) := rfl
  rw [hf] at hw
  refine unb_0 (e := (layR []).length + (layR rs).length + 4) hs (by rw [hy]; exact e2) ?_ ⟨h, rfl⟩
  rw [hy, fileOf, e1]
  exact hw
/-- what the program looks at instead: little enough behind the end, and only filling -/
theorem rest_iff {s : List UInt8} {out : Recs} {e : Nat} (h : ¬ (s.length = 0 ∨ 60000 < s.length ∨ s.length % 1014 ≠ 0)) (h2 : padAll s = true) (h3 : walkR (streamOf s) ((streamOf s).length + 1) 0 [] = some (out, e)) :
    (blockOk out = true ∧ blockL out = s) ↔ ((streamOf s).length - e < 1012 ∧ within 64 64 ((streamOf s).drop e) = true) := by
  obtain ⟨w1, w2, w3, w4⟩ := walkR_is _ _ _ _ _ _ h3 rfl (Nat.zero_le _) rfl (Nat.zero_le _)
  have hsl : (streamOf s).length = s.length / 1014 * 1012 := streamM_len s _ (by omega)
  have hfs := file_of_stream (by omega) h2
  have hel : (laid out).length = e := by rw [← w1, List.length_take]; omega
  have hb1 := nBlk_le (laid out).length
  have hb2 := nBlk_lt (laid out).length
  constructor
  · rintro ⟨g1, g2⟩
    rw [blockL_yes g1] at g2
    have g3 : fileM (filled (laid out)) (nBlk (laid out).length) = fileM (streamOf s) (s.length / 1014) := by rw [hfs]; exact g2
    obtain ⟨hm, ht⟩ := fileM_inj (filled_len _).symm hsl.symm g3
    refine ⟨by omega, ?_⟩
    rw [← ht, filled, ← hel, List.drop_left]
    apply within_of
    intro c hc
    obtain rfl := (List.mem_replicate.1 hc).2
    decide
  · rintro ⟨g1, g2⟩
    have hm : nBlk (laid out).length = s.length / 1014 := by omega
    have hok : blockOk out = true := blockOk_of w4 w3 (by omega)
    refine ⟨hok, ?_⟩
    rw [blockL_yes hok, fileOf, hm]
    have ht : filled (laid out) = streamOf s := by
      rw [filled, hm, ← w1]
      conv => rhs; rw [← List.take_append_drop e (streamOf s)]
      congr 1
      apply List.ext_getElem
      · rw [List.length_replicate, List.length_take, List.length_drop]; omega
      · intro i p q
        rw [List.getElem_replicate]
        have := within_mem g2 _ (List.getElem_mem q)
        apply UInt8.toNat_inj.1
        show 64 = _
        omega
    rw [ht]; exact hfs

end Go.Proofs.Ytlonjjliochbhaa

/- Slices of bytes that are one's own memory, and the text that they are turned into. -/
namespace Go.Proofs.Ytlonjjliochbhaa
open Go.RowKit

theorem info5 : (Try.prog.info? 5).map (fun i => (i.zero, i.size, i.bytes)) = some (some (.int .u8 0), 1, 1) := by kernel_rfl
/-- a byte as a cell -/
def cell (c : UInt8) : Value := .int .u8 (c.toNat : Int)
/-- the text of bytes that one owns -/
theorem text_own {w : World} {base : Nat} {v : Value} {n : Nat} {l : List UInt8} (h : w.ownsRow base 5 1 v n (l.map cell)) :
    (convert 22 9 v).run Try.prog w = .ok (.string ⟨l.toArray⟩) w := by
  rcases h.2 with ⟨rfl, h0⟩ | ⟨g, cap, cur, rfl, hrest⟩
  · subst h0
    have hl : l = [] := by have := h.1; simpa using this
    subst hl
    exact run_convert_bytes_nil w _ _ Try.underlying22 Try.underlying5 _ _ _ Try.underlying9
  · have hl : l.length = n := by simpa using h.1
    subst hl
    refine run_convert_bytes_back w _ _ _ _ _ _ Try.underlying22 Try.underlying5 Try.underlying9 fun j hj => ?_
    have := h.cellAt j (by omega)
    rw [show (⟨g, 0, none⟩ : Addr).add j = ⟨g, j, none⟩ from by unfold Addr.add; split <;> simp_all]
    rw [this]
    simp [cell, hj]
theorem made5 (m : Nat) : (madeCells (Value.int .u8 0).cells (m * 1)).toList = (List.replicate m (0 : UInt8)).map cell := by
  rw [Nat.mul_one]
  refine (toList_madeCells_one _ _).trans ?_
  simp [cell]
theorem str_ok {a b : ByteArray} {x y : Bool} (h : a = b) (g : x = y) : Ending.returned (.tuple #[.string a, .bool x]) = .returned (.tuple #[.string b, .bool y]) := by rw [h, g]

end Go.Proofs.Ytlonjjliochbhaa

/- Slices of texts: those that came in, those in a row of one's own. -/
namespace Go.Proofs.Ytlonjjliochbhaa
open Go.ChangeShapes Go.WideShapes Go.ChangeAt Go.RowKit Go.Deep

/-- The slice of texts at 'ao' reads as 'rs' in w. -/
def TxtsAt (w : World) (ao : Option Addr) (rs : Recs) : Prop :=
  rs = [] ∨ ∃ b off, ao = some ⟨b, off, none⟩ ∧ b < w.heap.size ∧ ∀ i, i < rs.length → w.cell? ⟨b, off + i, none⟩ = some (.string ⟨(nth rs i).toArray⟩)
def TxtsBd (rs : Recs) : Prop := rs.length ≤ maxLen ∧ ∀ r ∈ rs, r.length ≤ maxLen
theorem TxtsAt.below {w w' : World} {ao : Option Addr} {rs : Recs} (h : TxtsAt w ao rs) (hb : Below w.heap.size w w') : TxtsAt w' ao rs := by
  rcases h with h | ⟨b, off, h1, h2, h3⟩
  · exact .inl h
  · exact .inr ⟨b, off, h1, Nat.lt_of_lt_of_le h2 hb.size, fun i hi => (hb.cell (p := ⟨b, off + i, none⟩) h2).trans (h3 i hi)⟩

theorem is_txts {P : Program} {H : Type} {enc : TypeId × Value → H} {W : World} {r : Reach} {base : Nat} {t e : TypeId} {v : Value} {d : DataW H} {p : List MemPlace}
    (ht : P.underlying t = some (.slice e)) (he : P.underlying e = some .string) (ce : P.cellsOf e = 1)
    (hv : Value.okWide P W r base t v) (h : DataW.Trod enc P W 0 (fun _ => true) true t v d p) :
    ∃ a cap rs, v = .slice a (List.length rs) cap ∧ TxtsAt W a rs ∧ TxtsBd rs := by
  obtain ⟨va, vl, vc, rfl⟩ := okWide_slice ht hv
  obtain ⟨fuel, h1⟩ := h
  rcases open_strs ht he ce h1 with ⟨e1, _⟩ | ⟨a, len, cap, m, Sx, e1, _, hlc, hm, hmm, _, hx⟩
  · have e2 : Value.slice va vl vc = .slice none 0 0 := by simpa [Value.cells] using e1
    exact ⟨none, 0, [], e2, .inl rfl, Nat.zero_le _, fun f hf => by cases hf⟩
  · simp at hmm
    subst hmm
    have e2 : Value.slice va vl vc = .slice (some a) len m := by simpa [Value.cells] using e1
    refine ⟨some a, m, (List.range len).map fun i => (Sx i).data.toList, by rw [e2]; simp, ?_, by rw [List.length_map, List.length_range]; exact Nat.le_trans hlc hm, fun f hf => by
      obtain ⟨i, hi, rfl⟩ := List.mem_map.1 hf
      have := (hx i (by have := List.mem_range.1 hi; omega)).2
      rw [Array.length_toList]; exact this⟩
    by_cases hz : len = 0
    · subst hz; exact .inl rfl
    · obtain ⟨bk, off, spot⟩ := a
      have hc0 := (hx 0 (by omega)).1
      have hspot : spot = none := by simpa [Addr.add] using World.cell?_spot hc0
      subst hspot
      refine .inr ⟨bk, off, rfl, World.block_lt_of_cell? W _ hc0, fun i hi => ?_⟩
      have hi' : i < len := by simpa using hi
      have hat : nth ((List.range len).map fun i => (Sx i).data.toList) i = (Sx i).data.toList := by simp [nth, List.getD_eq_getElem?_getD, hi']
      have g0 := (hx i (by omega)).1
      rw [add_plain] at g0
      rw [hat, g0]

def scell (r : List UInt8) : Value := .string ⟨r.toArray⟩
def scells (rs : Recs) : List Value := rs.map scell
theorem scells_len (rs : Recs) : (scells rs).length = rs.length := by simp [scells]
theorem scells_append (a b : Recs) : scells (a ++ b) = scells a ++ scells b := by simp [scells]
theorem scells_at (rs : Recs) (k : Nat) (h : k < rs.length) : (scells rs)[k]? = some (.string ⟨(nth rs k).toArray⟩) := by
  simp [scells, scell, nth, List.getD_eq_getElem?_getD, h]
theorem scells_set (rs : Recs) (k : Nat) (r : List UInt8) : (scells rs).set k (.string ⟨r.toArray⟩) = scells (rs.set k r) := by
  show (rs.map scell).set k (scell r) = (rs.set k r).map scell
  rw [List.map_set]
theorem scells_one (rs : Recs) : ∀ u ∈ scells rs, u.oneCell' = true := by
  intro u hu
  simp only [scells, List.mem_map] at hu
  obtain ⟨r, _, rfl⟩ := hu
  rfl
theorem infoS : (Try.prog.info? 9).map (fun i => (i.zero, i.size, i.bytes)) = some (some (.string ⟨#[]⟩), 1, 16) := by kernel_rfl
theorem cells_repS (m : Nat) : (madeCells (Value.string ⟨#[]⟩).cells (m * 1)).toList = scells (List.replicate m []) := by
  rw [Nat.mul_one]
  refine (toList_madeCells_one _ _).trans ?_
  simp [scells, scell]

theorem keepRowS {w w' : World} {base n size : Nat} {t : TypeId} {v : Value} {xs : List Value} (h : w.ownsRow base t size v n xs) (hb : Below w.heap.size w w') : w'.ownsRow base t size v n xs := by
  obtain ⟨h1, h2⟩ := h
  refine ⟨h1, ?_⟩
  rcases h2 with h | ⟨g, cap, cur, hv, hg, hh, a1, a2, a3, a4⟩
  · exact .inl h
  · have hlt : g < w.heap.size := (Array.getElem?_eq_some_iff.1 hh).1
    exact .inr ⟨g, cap, cur, hv, hg, (hb.block g hlt).trans hh, a1, a2, a3, a4⟩
theorem txts_of_own {w : World} {base n : Nat} {t : TypeId} {v : Value} {rs : Recs} (h : w.ownsRow base t 1 v n (scells rs)) : ∃ ao cap, v = .slice ao rs.length cap ∧ TxtsAt w ao rs ∧ n = rs.length := by
  have hn : n = rs.length := by have := h.1; rw [scells_len] at this; omega
  subst hn
  rcases h.2 with ⟨rfl, hn⟩ | ⟨g, cap, cur, rfl, _⟩
  · have : rs = [] := List.eq_nil_of_length_eq_zero hn
    subst this
    exact ⟨none, 0, rfl, .inl rfl, rfl⟩
  · refine ⟨_, cap, rfl, ?_, rfl⟩
    by_cases h0 : rs = []
    · exact .inl h0
    · have hlt := (h.lt g rfl).2
      refine .inr ⟨g, 0, rfl, hlt, fun i hi => ?_⟩
      rw [Nat.zero_add, h.cellAt i (by omega)]
      exact scells_at rs i hi
theorem txts_any {w : World} {base n : Nat} {t : TypeId} {ao : Option Addr} {cap : Nat} {rs : Recs} (h : w.ownsRow base t 1 (.slice ao rs.length cap) n (scells rs)) : TxtsAt w ao rs := by
  obtain ⟨ao', cap', hv, hf, _⟩ := txts_of_own h
  obtain ⟨rfl, _⟩ : ao = ao' ∧ cap = cap' := by simpa using hv
  exact hf
theorem txts_cell {w : World} {b off : Nat} {rs : Recs} (h : TxtsAt w (some ⟨b, off, none⟩) rs) {k : Nat} (hk : k < rs.length) : w.cell? ⟨b, off + k, none⟩ = some (.string ⟨(nth rs k).toArray⟩) ∧ b < w.heap.size := by
  rcases h with rfl | ⟨b', off', hq, hb, hc⟩
  · simp at hk
  · obtain ⟨rfl, rfl⟩ : b = b' ∧ off = off' := by simpa using hq
    exact ⟨hc k hk, hb⟩
theorem one_txt {w : World} {g : Nat} {r : List UInt8} (h : w.cell? ⟨g, 0, none⟩ = some (.string ⟨r.toArray⟩)) : ∀ (j : Nat) (u : Value), [Value.string ⟨r.toArray⟩][j]? = some u → w.cell? ((⟨g, 0, none⟩ : Addr).add j) = some u := by
  intro j u hj
  match j with
  | 0 => simp at hj; subst hj; simpa [Addr.add] using h
  | j + 1 => simp at hj
theorem one_oneS (r : List UInt8) : ∀ u ∈ [Value.string ⟨r.toArray⟩], u.oneCell' = true := by
  intro u hu
  simp at hu
  subst hu; rfl

/-- what a copy holds behind k rounds -/
def halfS (rs : Recs) (k : Nat) : Recs := rs.take k ++ List.replicate (rs.length - k) []
theorem halfS_all (rs : Recs) : halfS rs rs.length = rs := by simp [halfS]
theorem halfS_len (rs : Recs) (k : Nat) (h : k ≤ rs.length) : (halfS rs k).length = rs.length := by simp [halfS]; omega
theorem halfS_succ (rs : Recs) (k : Nat) (h : k < rs.length) : (halfS rs k).set k (nth rs k) = halfS rs (k + 1) := by
  unfold halfS
  rw [List.set_append, if_neg (by simp; omega), List.length_take, Nat.min_eq_left (Nat.le_of_lt h), Nat.sub_self, show rs.length - k = rs.length - (k + 1) + 1 by omega, List.replicate_succ, List.set_cons_zero, take_nth rs k h, List.append_assoc]
  rfl
theorem halfS_at (rs : Recs) (k : Nat) (h : k < rs.length) : nth (halfS rs k) k = [] := by
  simp [nth, halfS, List.getD_eq_getElem?_getD, List.getElem?_append, Nat.min_eq_left (Nat.le_of_lt h), List.getElem?_replicate]
  split <;> rfl

/-- what is left behind all texts -/
def leftTs : Recs → Int → Int
  | [], left => left
  | f :: r, left => if left - (f.length : Int) < 0 then -1 else leftTs r (left - (f.length : Int))
def leftT (rs : Recs) (left : Int) : Int := if left - (rs.length : Int) < 0 then -1 else leftTs rs (left - (rs.length : Int))
theorem leftTs_step (rs : Recs) (k : Nat) (left : Int) (h : k < rs.length) : leftTs (rs.drop k) left = if left - ((nth rs k).length : Int) < 0 then -1 else leftTs (rs.drop (k + 1)) (left - ((nth rs k).length : Int)) := by
  rw [List.drop_eq_getElem_cons h, nth_is h]; rfl
def sumT (rs : Recs) : Nat := (rs.map List.length).sum
theorem leftTs_sum (rs : Recs) : ∀ left, 0 ≤ leftTs rs left → 0 ≤ left → (sumT rs : Int) ≤ left := by
  induction rs with
  | nil => intro left _ h; simpa [sumT] using h
  | cons f r ih =>
    intro left h hl
    simp only [leftTs] at h
    split at h
    · omega
    · have := ih _ h (by omega)
      simp only [sumT, List.map_cons, List.sum_cons] at this ⊢
      omega
theorem leftT_sum {rs : Recs} {left : Int} (h : 0 ≤ leftT rs left) : (rs.length : Int) + sumT rs ≤ left := by
  unfold leftT at h
  split at h
  · omega
  · have := leftTs_sum rs _ h (by omega)
    omega
theorem sumT_mem {rs : Recs} {f : List UInt8} (h : f ∈ rs) : f.length ≤ sumT rs := by
  induction rs with
  | nil => cases h
  | cons g r ih =>
    simp only [sumT, List.map_cons, List.sum_cons] at ih ⊢
    rcases List.mem_cons.1 h with rfl | hr
    · omega
    · have := ih hr; omega

end Go.Proofs.Ytlonjjliochbhaa

/- The text that the exact laws lay as a mark. -/
namespace Go.Proofs.Ytlonjjliochbhaa
open Go.RowKit

def digC (m : Nat) : UInt8 := UInt8.ofNat (48 + m % 10)
theorem digC_nat (m : Nat) : (digC m).toNat = 48 + m % 10 := by unfold digC; rw [UInt8.toNat_ofNat']; omega
def mdig (n : Nat) : List UInt8 := if _h : n = 0 then [] else mdig (n / 10) ++ [digC n]
termination_by n
decreasing_by omega
theorem mdig_zero : mdig 0 = [] := by rw [mdig]; rfl
theorem mdig_step (n : Nat) (h : n ≠ 0) : mdig n = mdig (n / 10) ++ [digC n] := by rw [mdig, dif_neg h]
theorem mdig_len (n : Nat) : ∀ k, n < 10 ^ k → (mdig n).length ≤ k := by
  induction n using Nat.strongRecOn with
  | _ n ih =>
    intro k hk
    by_cases h : n = 0
    · subst h; rw [mdig_zero]; exact Nat.zero_le _
    · rw [mdig_step n h]
      cases k with
      | zero => simp at hk; omega
      | succ k =>
        have := ih (n / 10) (by omega) k (by rw [Nat.pow_succ] at hk; omega)
        simp; omega
def mtx (n : Nat) : List UInt8 := 109 :: mdig n

end Go.Proofs.Ytlonjjliochbhaa

/- The laws' own small functions over slices of texts: how much they take, a copy, whether two are the same, marks. -/
namespace Go.Proofs.Ytlonjjliochbhaa
open Go.RowKit




def mkS (k n : Nat) : Recs := (List.range n).map fun i => mtx (k + i)
theorem mkS_len (k n : Nat) : (mkS k n).length = n := by simp [mkS]
theorem mkS_at (k n i : Nat) (h : i < n) : nth (mkS k n) i = mtx (k + i) := by simp [nth, mkS, List.getD_eq_getElem?_getD, h]
def fillS (rs : Recs) (k j : Nat) : Recs := mkS k j ++ rs.drop j
theorem fillS_len (rs : Recs) (k j : Nat) (h : j ≤ rs.length) : (fillS rs k j).length = rs.length := by simp [fillS, mkS_len]; omega
theorem fillS_zero (rs : Recs) (k : Nat) : fillS rs k 0 = rs := by simp [fillS, mkS]
theorem fillS_all (rs : Recs) (k : Nat) : fillS rs k rs.length = mkS k rs.length := by simp [fillS]
theorem fillS_succ (rs : Recs) (k j : Nat) (h : j < rs.length) : (fillS rs k j).set j (mtx (k + j)) = fillS rs k (j + 1) := by
  unfold fillS
  rw [List.set_append, if_neg (by rw [mkS_len]; omega), mkS_len, Nat.sub_self, List.drop_eq_getElem_cons h, List.set_cons_zero]
  simp [mkS, List.range_succ]
theorem grown_ofS {w w' : World} (h : Below w.heap.size w w') (r : Option Nat) : w.grownBy w' r := ⟨h.os, h.tape, h.output, h.size, fun k hk _ => h.block k hk⟩
end Go.Proofs.Ytlonjjliochbhaa

/- Slices of ints: reading them, copying them, holding them against each other. -/
namespace Go.Proofs.Ytlonjjliochbhaa
open Go.RowKit

/-- The slice at 'ao' reads as 'zs' in w. -/
def IntsAt (w : World) (ao : Option Addr) (zs : List Int) : Prop :=
  zs = [] ∨ ∃ b off, ao = some ⟨b, off, none⟩ ∧ b < w.heap.size ∧ ∀ i, i < zs.length → w.cell? ⟨b, off + i, none⟩ = some (.int .i64 (zs.getD i 0))

theorem IntsAt.below {w w' : World} {ao : Option Addr} {zs : List Int} (h : IntsAt w ao zs) (hb : Below w.heap.size w w') : IntsAt w' ao zs := by
  rcases h with h | ⟨b, off, h1, h2, h3⟩
  · exact .inl h
  · exact .inr ⟨b, off, h1, Nat.lt_of_lt_of_le h2 hb.size, fun i hi => (hb.cell (p := ⟨b, off + i, none⟩) h2).trans (h3 i hi)⟩

theorem getD_take {zs : List Int} {len i : Nat} (h : i < len) : (zs.take len).getD i 0 = zs.getD i 0 := by
  simp [List.getD_eq_getElem?_getD, h]

theorem ints_of_row {w : World} {a : Option Addr} {len cap : Nat} {zs : List Int} (h : IsRow .i64 w a len cap zs) : (zs.take len).length = len ∧ IntsAt w a (zs.take len) := by
  rcases h with ⟨rfl, rfl, rfl, rfl⟩ | ⟨x, rfl, hl, hm, hz, hcell, hwz⟩
  · exact ⟨rfl, .inl rfl⟩
  · have hlen : (zs.take len).length = len := by rw [List.length_take]; omega
    refine ⟨hlen, ?_⟩
    by_cases h0 : len = 0
    · subst h0; exact .inl (by simp)
    · obtain ⟨b, off, spot⟩ := x
      have hc := hcell 0 (by omega)
      have hspot : spot = none := by simpa [Addr.add] using World.cell?_spot hc
      subst hspot
      refine .inr ⟨b, off, rfl, ?_, fun i hi => ?_⟩
      · exact World.block_lt_of_cell? w _ hc
      · rw [hlen] at hi
        rw [getD_take hi]
        have := hcell i (by omega)
        by_cases e : i = 0
        · subst e; simpa [Addr.add] using this
        · simpa [Addr.add, e] using this

theorem ints_of_own {w : World} {base g n cap : Nat} {zs : List Int} (h : w.ownsRow base 3 1 (.slice (some ⟨g, 0, none⟩) n cap) n (zs.map (Value.int .i64))) : IntsAt w (some ⟨g, 0, none⟩) zs := by
  by_cases h0 : zs = []
  · exact .inl h0
  · have hl : zs.length = n := by simpa using h.1
    have hp : 0 < zs.length := List.length_pos_iff.2 h0
    have hc : ∀ i, i < zs.length → w.cell? ⟨g, 0 + i, none⟩ = some (.int .i64 (zs.getD i 0)) := by
      intro i hi
      rw [Nat.zero_add, h.cellAt i (by omega)]
      simp [List.getD_eq_getElem?_getD, hi]
    exact .inr ⟨g, 0, rfl, World.block_lt_of_cell? w _ (hc 0 hp), hc⟩

theorem info3 : (Try.prog.info? 3).map (fun i => (i.zero, i.size, i.bytes)) = some (some (.int .i64 0), 1, 8) := by kernel_rfl

/-- what toIntS has copied behind k rounds -/
def half (zs : List Int) (k : Nat) : List Value := (zs.take k).map (Value.int .i64) ++ List.replicate (zs.length - k) (.int .i64 0)
theorem half_zero (zs : List Int) : half zs 0 = List.replicate zs.length (.int .i64 0) := by simp [half]
theorem half_all (zs : List Int) : half zs zs.length = zs.map (Value.int .i64) := by simp [half]
theorem half_succ (zs : List Int) (k : Nat) (h : k < zs.length) : half zs (k + 1) = (half zs k).set k (.int .i64 (zs.getD k 0)) := by
  apply List.ext_getElem?
  intro j
  simp only [half, List.getElem?_set, List.getElem?_append, List.length_map, List.length_take, List.getElem?_map, List.getElem?_take, List.getElem?_replicate, List.getD_eq_getElem?_getD, List.length_append, List.length_replicate]
  by_cases h1 : j < k
  · have : j < zs.length := by omega
    have : ¬ k = j := by omega
    simp [*, Nat.min_eq_left (Nat.le_of_lt h), Nat.min_eq_left (show k + 1 ≤ zs.length by omega), show j < k + 1 by omega]
  · by_cases h2 : j = k
    · subst h2
      have : j < j + (zs.length - j) := by omega
      simp [*, Nat.min_eq_left (Nat.le_of_lt h), Nat.min_eq_left (show j + 1 ≤ zs.length by omega)]
    · have : ¬ k = j := by omega
      have a1 : ¬ j < k + 1 := by omega
      simp [*, Nat.min_eq_left (Nat.le_of_lt h), Nat.min_eq_left (show k + 1 ≤ zs.length by omega)]
      by_cases h3 : j < zs.length
      · rw [if_pos (by omega), if_pos (by omega)]
      · rw [if_neg (by omega), if_neg (by omega)]
theorem half_len (zs : List Int) (k : Nat) (h : k ≤ zs.length) : (half zs k).length = zs.length := by simp [half]; omega
theorem half_at (zs : List Int) (k : Nat) (h : k < zs.length) : (half zs k)[k]? = some (.int .i64 0) := by
  simp [half, List.getElem?_append, Nat.min_eq_left (Nat.le_of_lt h), List.getElem?_replicate]
  omega


end Go.Proofs.Ytlonjjliochbhaa

/- Slices of ints held against each other. -/
namespace Go.Proofs.Ytlonjjliochbhaa
open Go.RowKit

theorem eq_of_getD {xs ys : List Int} (hl : xs.length = ys.length) (h : ∀ j, j < xs.length → xs.getD j 0 = ys.getD j 0) : xs = ys := by
  apply List.ext_getElem hl
  intro i h1 h2
  have := h i h1
  simpa [List.getD_eq_getElem?_getD, h1, h2] using this


end Go.Proofs.Ytlonjjliochbhaa

/- A book as it lies, whatever it holds; the laws' comparison of two that hold the same. -/
namespace Go.Proofs.Ytlonjjliochbhaa
open Go.RowKit
set_option maxRecDepth 100000

/-- a book, plainly -/
structure Bk where
  today : Int
  off : List Int
  az : List Au
  cs : List Cs
  ls : List Ln
  log : Recs
/-- where a book's lists lie, and their room -/
structure Bp where
  o : Option Addr
  oc : Nat
  a : Option Addr
  ac : Nat
  c : Option Addr
  cc : Nat
  l : Option Addr
  lc : Nat
  g : Option Addr
  gc : Nat
def bkv (b : Bk) (p : Bp) : Value := .agg #[.int .i64 b.today, .slice p.o b.off.length p.oc, .slice p.a b.az.length p.ac, .slice p.c b.cs.length p.cc, .slice p.l b.ls.length p.lc, .slice p.g b.log.length p.gc]
structure BookAt (u : World) (b : Bk) (p : Bp) : Prop where
  off : IntsAt u p.o b.off
  az : AuthsAt u p.a b.az
  cs : CasesAt u p.c b.cs
  ls : LinesAt u p.l b.ls
  log : TxtsAt u p.g b.log
theorem BookAt.below {u u' : World} {b : Bk} {p : Bp} (h : BookAt u b p) (hb : Below u.heap.size u u') : BookAt u' b p := ⟨h.off.below hb, h.az.below hb, h.cs.below hb, h.ls.below hb, h.log.below hb⟩
/-- no list is greater than the laws let through -/
def bkSm (b : Bk) : Prop := b.off.length ≤ 1048576 ∧ b.az.length ≤ 1048576 ∧ b.cs.length ≤ 1048576 ∧ b.ls.length ≤ 1048576 ∧ b.log.length ≤ 1048576
/-- a book's six cells in a box -/
structure S6 (B : Nat) (b : Bk) (p : Bp) (u : World) : Prop where
  c0 : u.cell? ⟨B, 0, none⟩ = some (.int .i64 b.today)
  c1 : u.cell? ⟨B, 1, none⟩ = some (.slice p.o b.off.length p.oc)
  c2 : u.cell? ⟨B, 2, none⟩ = some (.slice p.a b.az.length p.ac)
  c3 : u.cell? ⟨B, 3, none⟩ = some (.slice p.c b.cs.length p.cc)
  c4 : u.cell? ⟨B, 4, none⟩ = some (.slice p.l b.ls.length p.lc)
  c5 : u.cell? ⟨B, 5, none⟩ = some (.slice p.g b.log.length p.gc)
theorem S6.lt {B : Nat} {b : Bk} {p : Bp} {u : World} (h : S6 B b p u) : B < u.heap.size := World.block_lt_of_cell? u _ h.c0
theorem S6.below {B : Nat} {b : Bk} {p : Bp} {u u' : World} (h : S6 B b p u) (hb : Below u.heap.size u u') : S6 B b p u' := by
  have l := h.lt
  exact ⟨(hb.cell (p := ⟨B, 0, none⟩) l).trans h.c0, (hb.cell (p := ⟨B, 1, none⟩) l).trans h.c1, (hb.cell (p := ⟨B, 2, none⟩) l).trans h.c2, (hb.cell (p := ⟨B, 3, none⟩) l).trans h.c3, (hb.cell (p := ⟨B, 4, none⟩) l).trans h.c4, (hb.cell (p := ⟨B, 5, none⟩) l).trans h.c5⟩
theorem S6.new (w : World) (b : Bk) (p : Bp) (ty : TypeId) : S6 w.heap.size b p (w.alloc (.cells #[.int .i64 b.today, .slice p.o b.off.length p.oc, .slice p.a b.az.length p.ac, .slice p.c b.cs.length p.cc, .slice p.l b.ls.length p.lc, .slice p.g b.log.length p.gc] ty)) := ⟨by simp, by simp, by simp, by simp, by simp, by simp⟩


end Go.Proofs.Ytlonjjliochbhaa

/- Rows of cases of one's own: filled one by one; the laws' own copy of a slice of cases. -/
namespace Go.Proofs.Ytlonjjliochbhaa
open Go.RowKit
set_option maxRecDepth 100000

def zC : Cs := ⟨0, 0, 0, 0, 0, 0, 0, 0, 0, false, 0, 0⟩
theorem cscells_set (cs : List Cs) (c : Cs) : ∀ k, k < cs.length → (((((((((((((cscells cs).set (k * 12) (.int .i64 c.iss)).set (k * 12 + 1) (.int .i64 c.acq)).set (k * 12 + 2) (.int .i64 c.cur)).set (k * 12 + 3) (.int .i64 c.am)).set (k * 12 + 4) (.int .i64 c.st)).set (k * 12 + 5) (.int .i64 c.rsn)).set (k * 12 + 6) (.int .i64 c.cl)).set (k * 12 + 7) (.int .i64 c.bk)).set (k * 12 + 8) (.int .i64 c.fee)).set (k * 12 + 9) (.bool c.cop)).set (k * 12 + 10) (.int .i64 c.sta)).set (k * 12 + 11) (.int .i64 c.due)) = cscells (cs.set k c) := by
  induction cs with
  | nil => intro k h; simp at h
  | cons g r ih =>
    intro k h
    cases k with
    | zero => rfl
    | succ k =>
      have := ih k (by simpa using h)
      have e : cscells (g :: r) = .int .i64 g.iss :: .int .i64 g.acq :: .int .i64 g.cur :: .int .i64 g.am :: .int .i64 g.st :: .int .i64 g.rsn :: .int .i64 g.cl :: .int .i64 g.bk :: .int .i64 g.fee :: .bool g.cop :: .int .i64 g.sta :: .int .i64 g.due :: cscells r := rfl
      rw [e, show (k + 1) * 12 = k * 12 + 1 + 1 + 1 + 1 + 1 + 1 + 1 + 1 + 1 + 1 + 1 + 1 by omega, show k * 12 + 1 + 1 + 1 + 1 + 1 + 1 + 1 + 1 + 1 + 1 + 1 + 1 + 1 = (k * 12 + 1) + 1 + 1 + 1 + 1 + 1 + 1 + 1 + 1 + 1 + 1 + 1 + 1 by omega, show k * 12 + 1 + 1 + 1 + 1 + 1 + 1 + 1 + 1 + 1 + 1 + 1 + 1 + 2 = (k * 12 + 2) + 1 + 1 + 1 + 1 + 1 + 1 + 1 + 1 + 1 + 1 + 1 + 1 by omega, show k * 12 + 1 + 1 + 1 + 1 + 1 + 1 + 1 + 1 + 1 + 1 + 1 + 1 + 3 = (k * 12 + 3) + 1 + 1 + 1 + 1 + 1 + 1 + 1 + 1 + 1 + 1 + 1 + 1 by omega, show k * 12 + 1 + 1 + 1 + 1 + 1 + 1 + 1 + 1 + 1 + 1 + 1 + 1 + 4 = (k * 12 + 4) + 1 + 1 + 1 + 1 + 1 + 1 + 1 + 1 + 1 + 1 + 1 + 1 by omega, show k * 12 + 1 + 1 + 1 + 1 + 1 + 1 + 1 + 1 + 1 + 1 + 1 + 1 + 5 = (k * 12 + 5) + 1 + 1 + 1 + 1 + 1 + 1 + 1 + 1 + 1 + 1 + 1 + 1 by omega, show k * 12 + 1 + 1 + 1 + 1 + 1 + 1 + 1 + 1 + 1 + 1 + 1 + 1 + 6 = (k * 12 + 6) + 1 + 1 + 1 + 1 + 1 + 1 + 1 + 1 + 1 + 1 + 1 + 1 by omega, show k * 12 + 1 + 1 + 1 + 1 + 1 + 1 + 1 + 1 + 1 + 1 + 1 + 1 + 7 = (k * 12 + 7) + 1 + 1 + 1 + 1 + 1 + 1 + 1 + 1 + 1 + 1 + 1 + 1 by omega, show k * 12 + 1 + 1 + 1 + 1 + 1 + 1 + 1 + 1 + 1 + 1 + 1 + 1 + 8 = (k * 12 + 8) + 1 + 1 + 1 + 1 + 1 + 1 + 1 + 1 + 1 + 1 + 1 + 1 by omega, show k * 12 + 1 + 1 + 1 + 1 + 1 + 1 + 1 + 1 + 1 + 1 + 1 + 1 + 9 = (k * 12 + 9) + 1 + 1 + 1 + 1 + 1 + 1 + 1 + 1 + 1 + 1 + 1 + 1 by omega, show k * 12 + 1 + 1 + 1 + 1 + 1 + 1 + 1 + 1 + 1 + 1 + 1 + 1 + 10 = (k * 12 + 10) + 1 + 1 + 1 + 1 + 1 + 1 + 1 + 1 + 1 + 1 + 1 + 1 by omega, show k * 12 + 1 + 1 + 1 + 1 + 1 + 1 + 1 + 1 + 1 + 1 + 1 + 1 + 11 = (k * 12 + 11) + 1 + 1 + 1 + 1 + 1 + 1 + 1 + 1 + 1 + 1 + 1 + 1 by omega]
      simp only [List.set_cons_succ, this]
      rfl
def halfC (cs : List Cs) (k : Nat) : List Cs := cs.take k ++ List.replicate (cs.length - k) zC
theorem halfC_zero (cs : List Cs) : halfC cs 0 = List.replicate cs.length zC := by simp [halfC]
theorem halfC_all (cs : List Cs) : halfC cs cs.length = cs := by simp [halfC]
theorem halfC_len (cs : List Cs) (k : Nat) (h : k ≤ cs.length) : (halfC cs k).length = cs.length := by simp [halfC]; omega
theorem halfC_succ (cs : List Cs) (k : Nat) (h : k < cs.length) : (halfC cs k).set k (csAt cs k) = halfC cs (k + 1) := by
  unfold halfC
  rw [List.set_append, if_neg (by simp; omega), List.length_take, Nat.min_eq_left (Nat.le_of_lt h), Nat.sub_self, show cs.length - k = cs.length - (k + 1) + 1 by omega, List.replicate_succ, List.set_cons_zero, List.take_succ_eq_append_getElem h, csAt_is h, List.append_assoc]
  rfl
theorem halfC_at (cs : List Cs) (k : Nat) (h : k < cs.length) : csAt (halfC cs k) k = zC := by
  simp [csAt, halfC, List.getD_eq_getElem?_getD, List.getElem?_append, Nat.min_eq_left (Nat.le_of_lt h), List.getElem?_replicate]
  split <;> rfl
theorem infoC : (Try.prog.info? 37).map (fun i => (i.zero, i.size, i.bytes)) = some (some (.agg #[.int .i64 0, .int .i64 0, .int .i64 0, .int .i64 0, .int .i64 0, .int .i64 0, .int .i64 0, .int .i64 0, .int .i64 0, .bool false, .int .i64 0, .int .i64 0]), 12, 96) := by kernel_rfl
theorem cells_repC (m : Nat) : (madeCells (Value.agg #[.int .i64 0, .int .i64 0, .int .i64 0, .int .i64 0, .int .i64 0, .int .i64 0, .int .i64 0, .int .i64 0, .int .i64 0, .bool false, .int .i64 0, .int .i64 0]).cells (m * 12)).toList = cscells (List.replicate m zC) := by
  apply List.ext_getElem?
  intro j
  by_cases hj : j < m * 12
  · have hq : j / 12 < (List.replicate m zC).length := by simp; omega
    have ha : csAt (List.replicate m zC) (j / 12) = zC := by
      simp [csAt, List.getD_eq_getElem?_getD, List.getElem?_replicate]; split <;> rfl
    have h := cscells_at _ (j / 12) (j % 12) hq (by omega)
    rw [ha, show j / 12 * 12 + j % 12 = j by omega] at h
    rw [h]
    have hl : (madeCells (Value.agg #[.int .i64 0, .int .i64 0, .int .i64 0, .int .i64 0, .int .i64 0, .int .i64 0, .int .i64 0, .int .i64 0, .int .i64 0, .bool false, .int .i64 0, .int .i64 0]).cells (m * 12)).toList[j]? = some ((#[.int .i64 0, .int .i64 0, .int .i64 0, .int .i64 0, .int .i64 0, .int .i64 0, .int .i64 0, .int .i64 0, .int .i64 0, .bool false, .int .i64 0, .int .i64 0] : Array Value)[j % 12]!) := by
      simp [madeCells, hj, Value.cells]
    rw [hl]
    rcases (show j % 12 = 0 ∨ j % 12 = 1 ∨ j % 12 = 2 ∨ j % 12 = 3 ∨ j % 12 = 4 ∨ j % 12 = 5 ∨ j % 12 = 6 ∨ j % 12 = 7 ∨ j % 12 = 8 ∨ j % 12 = 9 ∨ j % 12 = 10 ∨ j % 12 = 11 by omega) with e | e | e | e | e | e | e | e | e | e | e | e <;> rw [e] <;> rfl
  · rw [List.getElem?_eq_none (by simp [madeCells]; omega), List.getElem?_eq_none (by rw [cscells_len]; simp; omega)]


end Go.Proofs.Ytlonjjliochbhaa

/- Slices of ints that are one's own memory. -/
namespace Go.Proofs.Ytlonjjliochbhaa
open Go.RowKit

theorem own_ints {w : World} {base : Nat} {v : Value} {zs : List Int} (h : w.ownsRow base 3 1 v zs.length (zs.map (Value.int .i64))) :
    ∃ ao cap, v = .slice ao zs.length cap ∧ IntsAt w ao zs := by
  rcases h.2 with ⟨rfl, h0⟩ | ⟨g, cap, cur, rfl, hrest⟩
  · have : zs = [] := List.eq_nil_of_length_eq_zero h0
    subst this
    exact ⟨none, 0, rfl, .inl rfl⟩
  · exact ⟨_, cap, rfl, ints_of_own h⟩
theorem own_shape {w : World} {base m : Nat} {v : Value} {xs : List Value} (h : w.ownsRow base 3 1 v m xs) : ∃ ao cap, v = .slice ao m cap := by
  rcases h.2 with ⟨rfl, rfl⟩ | ⟨g, cap, cur, rfl, hrest⟩
  · exact ⟨none, 0, rfl⟩
  · exact ⟨_, cap, rfl⟩
theorem ints_own {w : World} {base n cap : Nat} {ao : Option Addr} {zs : List Int} (h : w.ownsRow base 3 1 (.slice ao n cap) n (zs.map (Value.int .i64))) : IntsAt w ao zs := by
  have hl : zs.length = n := by simpa using h.1
  subst hl
  obtain ⟨ao', c, hv, hz⟩ := own_ints h
  obtain ⟨rfl, _⟩ : ao = ao' ∧ cap = c := by simpa using hv
  exact hz
theorem ho_ne {w : World} {base g n : Nat} {v : Value} {xs : List Value} (h : w.ownsRow base 3 1 v n xs) (hg : g < base) : v.ownBlock = none ∨ v.ownBlock ≠ some g := by
  right; intro e; have := (h.lt g e).1; omega

end Go.Proofs.Ytlonjjliochbhaa

/- The laws' own copy of a book: five rows of one's own, no two in one block. -/
namespace Go.Proofs.Ytlonjjliochbhaa
open Go.RowKit
set_option maxRecDepth 100000

/-- six cells that may be written -/
structure Z6 (B : Nat) (v0 v1 v2 v3 v4 v5 : Value) (u : World) : Prop where
  c0 : u.cell? ⟨B, 0, none⟩ = some v0
  c1 : u.cell? ⟨B, 1, none⟩ = some v1
  c2 : u.cell? ⟨B, 2, none⟩ = some v2
  c3 : u.cell? ⟨B, 3, none⟩ = some v3
  c4 : u.cell? ⟨B, 4, none⟩ = some v4
  c5 : u.cell? ⟨B, 5, none⟩ = some v5
  z0 : u.frozen? ⟨B, 0, none⟩ = false
  z1 : u.frozen? ⟨B, 1, none⟩ = false
  z2 : u.frozen? ⟨B, 2, none⟩ = false
  z3 : u.frozen? ⟨B, 3, none⟩ = false
  z4 : u.frozen? ⟨B, 4, none⟩ = false
  z5 : u.frozen? ⟨B, 5, none⟩ = false
theorem Z6.lt {B : Nat} {v0 v1 v2 v3 v4 v5 : Value} {u : World} (h : Z6 B v0 v1 v2 v3 v4 v5 u) : B < u.heap.size := World.block_lt_of_cell? u _ h.c0
theorem Z6.below {B : Nat} {v0 v1 v2 v3 v4 v5 : Value} {u u' : World} (h : Z6 B v0 v1 v2 v3 v4 v5 u) (b : Below u.heap.size u u') : Z6 B v0 v1 v2 v3 v4 v5 u' := by
  have l := h.lt
  exact ⟨(b.cell (p := ⟨B, 0, none⟩) l).trans h.c0, (b.cell (p := ⟨B, 1, none⟩) l).trans h.c1, (b.cell (p := ⟨B, 2, none⟩) l).trans h.c2, (b.cell (p := ⟨B, 3, none⟩) l).trans h.c3, (b.cell (p := ⟨B, 4, none⟩) l).trans h.c4, (b.cell (p := ⟨B, 5, none⟩) l).trans h.c5, (b.frozen (p := ⟨B, 0, none⟩) l).trans h.z0, (b.frozen (p := ⟨B, 1, none⟩) l).trans h.z1, (b.frozen (p := ⟨B, 2, none⟩) l).trans h.z2, (b.frozen (p := ⟨B, 3, none⟩) l).trans h.z3, (b.frozen (p := ⟨B, 4, none⟩) l).trans h.z4, (b.frozen (p := ⟨B, 5, none⟩) l).trans h.z5⟩
theorem Z6.far {B B' i : Nat} {v0 v1 v2 v3 v4 v5 : Value} {u : World} {x : Value} (h : Z6 B v0 v1 v2 v3 v4 v5 u) (hne : B' ≠ B) : Z6 B v0 v1 v2 v3 v4 v5 (u.setCell ⟨B', i, none⟩ x) := by
  have l := h.lt
  have gr : u.grownBy (u.setCell ⟨B', i, none⟩ x) (some B') := ⟨rfl, rfl, rfl, by simp, fun j _ hj => Below.heap_setCell _ _ _ _ (fun e => hj (by rw [e]))⟩
  have hs : some B ≠ some B' := fun e => hne (by injection e with e; exact e.symm)
  exact ⟨(gr.cell_far ⟨B, 0, none⟩ l hs).trans h.c0, (gr.cell_far ⟨B, 1, none⟩ l hs).trans h.c1, (gr.cell_far ⟨B, 2, none⟩ l hs).trans h.c2, (gr.cell_far ⟨B, 3, none⟩ l hs).trans h.c3, (gr.cell_far ⟨B, 4, none⟩ l hs).trans h.c4, (gr.cell_far ⟨B, 5, none⟩ l hs).trans h.c5, by simp [h.z0], by simp [h.z1], by simp [h.z2], by simp [h.z3], by simp [h.z4], by simp [h.z5]⟩
theorem Z6.set0 {B : Nat} {v0 v1 v2 v3 v4 v5 : Value} {u : World} (h : Z6 B v0 v1 v2 v3 v4 v5 u) (x : Value) : Z6 B x v1 v2 v3 v4 v5 (u.setCell ⟨B, 0, none⟩ x) := by
  obtain ⟨c0, c1, c2, c3, c4, c5, z0, z1, z2, z3, z4, z5⟩ := h
  exact ⟨by simp [go_sem, c0], by simp [go_sem, c1], by simp [go_sem, c2], by simp [go_sem, c3], by simp [go_sem, c4], by simp [go_sem, c5], by simp [go_sem, z0], by simp [go_sem, z1], by simp [go_sem, z2], by simp [go_sem, z3], by simp [go_sem, z4], by simp [go_sem, z5]⟩
theorem Z6.set1 {B : Nat} {v0 v1 v2 v3 v4 v5 : Value} {u : World} (h : Z6 B v0 v1 v2 v3 v4 v5 u) (x : Value) : Z6 B v0 x v2 v3 v4 v5 (u.setCell ⟨B, 1, none⟩ x) := by
  obtain ⟨c0, c1, c2, c3, c4, c5, z0, z1, z2, z3, z4, z5⟩ := h
  exact ⟨by simp [go_sem, c0], by simp [go_sem, c1], by simp [go_sem, c2], by simp [go_sem, c3], by simp [go_sem, c4], by simp [go_sem, c5], by simp [go_sem, z0], by simp [go_sem, z1], by simp [go_sem, z2], by simp [go_sem, z3], by simp [go_sem, z4], by simp [go_sem, z5]⟩
theorem Z6.set2 {B : Nat} {v0 v1 v2 v3 v4 v5 : Value} {u : World} (h : Z6 B v0 v1 v2 v3 v4 v5 u) (x : Value) : Z6 B v0 v1 x v3 v4 v5 (u.setCell ⟨B, 2, none⟩ x) := by
  obtain ⟨c0, c1, c2, c3, c4, c5, z0, z1, z2, z3, z4, z5⟩ := h
  exact ⟨by simp [go_sem, c0], by simp [go_sem, c1], by simp [go_sem, c2], by simp [go_sem, c3], by simp [go_sem, c4], by simp [go_sem, c5], by simp [go_sem, z0], by simp [go_sem, z1], by simp [go_sem, z2], by simp [go_sem, z3], by simp [go_sem, z4], by simp [go_sem, z5]⟩
theorem Z6.set3 {B : Nat} {v0 v1 v2 v3 v4 v5 : Value} {u : World} (h : Z6 B v0 v1 v2 v3 v4 v5 u) (x : Value) : Z6 B v0 v1 v2 x v4 v5 (u.setCell ⟨B, 3, none⟩ x) := by
  obtain ⟨c0, c1, c2, c3, c4, c5, z0, z1, z2, z3, z4, z5⟩ := h
  exact ⟨by simp [go_sem, c0], by simp [go_sem, c1], by simp [go_sem, c2], by simp [go_sem, c3], by simp [go_sem, c4], by simp [go_sem, c5], by simp [go_sem, z0], by simp [go_sem, z1], by simp [go_sem, z2], by simp [go_sem, z3], by simp [go_sem, z4], by simp [go_sem, z5]⟩
theorem Z6.set4 {B : Nat} {v0 v1 v2 v3 v4 v5 : Value} {u : World} (h : Z6 B v0 v1 v2 v3 v4 v5 u) (x : Value) : Z6 B v0 v1 v2 v3 x v5 (u.setCell ⟨B, 4, none⟩ x) := by
  obtain ⟨c0, c1, c2, c3, c4, c5, z0, z1, z2, z3, z4, z5⟩ := h
  exact ⟨by simp [go_sem, c0], by simp [go_sem, c1], by simp [go_sem, c2], by simp [go_sem, c3], by simp [go_sem, c4], by simp [go_sem, c5], by simp [go_sem, z0], by simp [go_sem, z1], by simp [go_sem, z2], by simp [go_sem, z3], by simp [go_sem, z4], by simp [go_sem, z5]⟩
theorem Z6.set5 {B : Nat} {v0 v1 v2 v3 v4 v5 : Value} {u : World} (h : Z6 B v0 v1 v2 v3 v4 v5 u) (x : Value) : Z6 B v0 v1 v2 v3 v4 x (u.setCell ⟨B, 5, none⟩ x) := by
  obtain ⟨c0, c1, c2, c3, c4, c5, z0, z1, z2, z3, z4, z5⟩ := h
  exact ⟨by simp [go_sem, c0], by simp [go_sem, c1], by simp [go_sem, c2], by simp [go_sem, c3], by simp [go_sem, c4], by simp [go_sem, c5], by simp [go_sem, z0], by simp [go_sem, z1], by simp [go_sem, z2], by simp [go_sem, z3], by simp [go_sem, z4], by simp [go_sem, z5]⟩
theorem Z6.new (w : World) (v0 v1 v2 v3 v4 v5 : Value) (ty : TypeId) : Z6 w.heap.size v0 v1 v2 v3 v4 v5 (w.alloc (.cells #[v0, v1, v2, v3, v4, v5] ty)) :=
  ⟨by simp, by simp, by simp, by simp, by simp, by simp, by simp [go_sem], by simp [go_sem], by simp [go_sem], by simp [go_sem], by simp [go_sem], by simp [go_sem]⟩
/-- a book that owns its memory -/
structure OwnBk (base : Nat) (b : Bk) (q : Bp) (u : World) : Prop where
  off : u.ownsRow base 3 1 (.slice q.o b.off.length q.oc) b.off.length (b.off.map (Value.int .i64))
  az : u.ownsRow base 63 6 (.slice q.a b.az.length q.ac) b.az.length (acells b.az)
  cs : u.ownsRow base 37 12 (.slice q.c b.cs.length q.cc) b.cs.length (cscells b.cs)
  ls : u.ownsRow base 115 3 (.slice q.l b.ls.length q.lc) b.ls.length (lcells b.ls)
  log : u.ownsRow base 9 1 (.slice q.g b.log.length q.gc) b.log.length (scells b.log)
  apart : ∃ g1 g2 g3 g4 g5, q.o = some ⟨g1, 0, none⟩ ∧ q.a = some ⟨g2, 0, none⟩ ∧ q.c = some ⟨g3, 0, none⟩ ∧ q.l = some ⟨g4, 0, none⟩ ∧ q.g = some ⟨g5, 0, none⟩ ∧ g1 < g2 ∧ g2 < g3 ∧ g3 < g4 ∧ g4 < g5
theorem OwnBk.below {base : Nat} {b : Bk} {q : Bp} {u u' : World} (h : OwnBk base b q u) (hb : Below u.heap.size u u') : OwnBk base b q u' := ⟨keepL h.off hb, keepL h.az hb, keepL h.cs hb, keepL h.ls hb, keepL h.log hb, h.apart⟩
theorem OwnBk.at {base : Nat} {b : Bk} {q : Bp} {u : World} (h : OwnBk base b q u) : BookAt u b q := ⟨ints_own h.off, auths_any h.az, cases_own h.cs, lines_any h.ls, txts_any h.log⟩

end Go.Proofs.Ytlonjjliochbhaa

/- The contract of the laws' own copy of a book. -/
namespace Go.Proofs.Ytlonjjliochbhaa
open Go.RowKit
set_option maxRecDepth 100000

theorem S6.under {s B : Nat} {b : Bk} {p : Bp} {u u' : World} (h : S6 s b p u) (hb : Below B u u') (l : s < B) : S6 s b p u' :=
  ⟨(hb.cell (p := ⟨s, 0, none⟩) l).trans h.c0, (hb.cell (p := ⟨s, 1, none⟩) l).trans h.c1, (hb.cell (p := ⟨s, 2, none⟩) l).trans h.c2, (hb.cell (p := ⟨s, 3, none⟩) l).trans h.c3, (hb.cell (p := ⟨s, 4, none⟩) l).trans h.c4, (hb.cell (p := ⟨s, 5, none⟩) l).trans h.c5⟩
theorem Z6.under {s B : Nat} {v0 v1 v2 v3 v4 v5 : Value} {u u' : World} (h : Z6 s v0 v1 v2 v3 v4 v5 u) (hb : Below B u u') (l : s < B) : Z6 s v0 v1 v2 v3 v4 v5 u' :=
  ⟨(hb.cell (p := ⟨s, 0, none⟩) l).trans h.c0, (hb.cell (p := ⟨s, 1, none⟩) l).trans h.c1, (hb.cell (p := ⟨s, 2, none⟩) l).trans h.c2, (hb.cell (p := ⟨s, 3, none⟩) l).trans h.c3, (hb.cell (p := ⟨s, 4, none⟩) l).trans h.c4, (hb.cell (p := ⟨s, 5, none⟩) l).trans h.c5, (hb.frozen (p := ⟨s, 0, none⟩) l).trans h.z0, (hb.frozen (p := ⟨s, 1, none⟩) l).trans h.z1, (hb.frozen (p := ⟨s, 2, none⟩) l).trans h.z2, (hb.frozen (p := ⟨s, 3, none⟩) l).trans h.z3, (hb.frozen (p := ⟨s, 4, none⟩) l).trans h.z4, (hb.frozen (p := ⟨s, 5, none⟩) l).trans h.z5⟩
theorem bel_b (u : World) (h i : Nat) (x : Value) : Below h u (u.setCell ⟨h, i, none⟩ x) := Below.setCell (p := ⟨h, i, none⟩) (Below.refl h u) (Nat.le_refl h) x
theorem row_far {u : World} {base n size B i : Nat} {t : TypeId} {v x : Value} {xs : List Value} (o : u.ownsRow base t size v n xs) (hB : B < base) : (u.setCell ⟨B, i, none⟩ x).ownsRow base t size v n xs :=
  o.kept (row := some B) ⟨rfl, rfl, rfl, by simp, fun j _ hj => Below.heap_setCell _ _ _ _ (fun e => hj (by rw [e]))⟩ (.inr fun h => by have := (o.lt _ h).1; omega)


end Go.Proofs.Ytlonjjliochbhaa

/- Appending a slice of cases, which may be nil, onto a row of one's own. -/
namespace Go.Proofs.Ytlonjjliochbhaa
open Go.RowKit
set_option maxRecDepth 100000

theorem cases_news {w : World} {b off : Nat} {xs : List Cs} (h : CasesAt w (some ⟨b, off, none⟩) xs) : ∀ j u, (cscells xs)[j]? = some u → w.cell? ((⟨b, off, none⟩ : Addr).add j) = some u := by
  intro j u hj
  have hlt : j < xs.length * 12 := by
    rw [← cscells_len]
    exact (List.getElem?_eq_some_iff.1 hj).1
  rcases h with rfl | ⟨b', off', hq, hb, hc⟩
  · simp at hlt
  · obtain ⟨rfl, rfl⟩ : b = b' ∧ off = off' := by simpa using hq
    have e : ((⟨b, off, none⟩ : Addr).add j) = ⟨b, off + j, none⟩ := by unfold Addr.add; split <;> simp_all
    obtain ⟨k0, k1, k2, k3, k4, k5, k6, k7, k8, k9, k10, k11⟩ := hc (j / 12) (by omega)
    have hat := cscells_at xs (j / 12) (j % 12) (by omega) (by omega)
    rw [show j / 12 * 12 + j % 12 = j by omega, hj] at hat
    rw [e]
    rcases (show j % 12 = 0 ∨ j % 12 = 1 ∨ j % 12 = 2 ∨ j % 12 = 3 ∨ j % 12 = 4 ∨ j % 12 = 5 ∨ j % 12 = 6 ∨ j % 12 = 7 ∨ j % 12 = 8 ∨ j % 12 = 9 ∨ j % 12 = 10 ∨ j % 12 = 11 by omega) with e | e | e | e | e | e | e | e | e | e | e | e
    · rw [e] at hat
      rw [show off + j = off + j / 12 * 12 by omega, k0]
      exact hat.symm
    · rw [e] at hat
      rw [show off + j = off + j / 12 * 12 + 1 by omega, k1]
      exact hat.symm
    · rw [e] at hat
      rw [show off + j = off + j / 12 * 12 + 2 by omega, k2]
      exact hat.symm
    · rw [e] at hat
      rw [show off + j = off + j / 12 * 12 + 3 by omega, k3]
      exact hat.symm
    · rw [e] at hat
      rw [show off + j = off + j / 12 * 12 + 4 by omega, k4]
      exact hat.symm
    · rw [e] at hat
      rw [show off + j = off + j / 12 * 12 + 5 by omega, k5]
      exact hat.symm
    · rw [e] at hat
      rw [show off + j = off + j / 12 * 12 + 6 by omega, k6]
      exact hat.symm
    · rw [e] at hat
      rw [show off + j = off + j / 12 * 12 + 7 by omega, k7]
      exact hat.symm
    · rw [e] at hat
      rw [show off + j = off + j / 12 * 12 + 8 by omega, k8]
      exact hat.symm
    · rw [e] at hat
      rw [show off + j = off + j / 12 * 12 + 9 by omega, k9]
      exact hat.symm
    · rw [e] at hat
      rw [show off + j = off + j / 12 * 12 + 10 by omega, k10]
      exact hat.symm
    · rw [e] at hat
      rw [show off + j = off + j / 12 * 12 + 11 by omega, k11]
      exact hat.symm

theorem run_append_cases (w : World) (base : Nat) (ty : TypeId) (v : Value) (n : Nat) (xs : List Value) (hown : w.ownsRow base 37 12 v n xs) (ao : Option Addr) (c : Nat) (az : List Cs) (hz : CasesAt w ao az)
    (hn : n + az.length ≤ 5000000) (hbase : base ≤ w.heap.size) :
    ∃ v' w', (Builtin.append_ #[26, 26] ty #[v, .slice ao az.length c]).run Try.prog w = .ok v' w' ∧ w'.ownsRow base 37 12 v' (n + az.length) (xs ++ cscells az) ∧ w.grownBy w' v.ownBlock ∧
      (v ≠ .slice none 0 0 → v' ≠ .slice none 0 0) := by
  obtain ⟨i0, hi, hz0, hz1, hz2⟩ := info_parts infoC
  cases ao with
  | none =>
    have hf : az = [] := by
      rcases hz with h | ⟨b, off, h, _⟩
      · exact h
      · cases h
    subst hf
    refine ⟨v, w, ?_, by simpa [cscells] using hown, ⟨rfl, rfl, rfl, Nat.le_refl _, fun _ _ _ => rfl⟩, id⟩
    have hu := Try.underlying26
    rcases hown.2 with ⟨rfl, rfl⟩ | ⟨g, cap, cur, rfl, hbg, hg, hnc, hcm, hcs, htake⟩
    · simp [Builtin.append_, run_underlying hu, sizeOf, typeInfo, hi, Builtin.lenOf, Builtin.firstCells]
    · simp [Builtin.append_, run_underlying hu, sizeOf, typeInfo, hi, Builtin.lenOf, Builtin.firstCells, loadCells, hnc, storeCells]
  | some a =>
    have hnews : ∀ j u, (cscells az)[j]? = some u → w.cell? (a.add j) = some u := by
      rcases hz with rfl | ⟨b, off, hq, hb, hc⟩
      · intro j u hj; simp [cscells] at hj
      · obtain rfl : a = ⟨b, off, none⟩ := by simpa using hq
        exact cases_news (.inr ⟨b, off, rfl, hb, hc⟩)
    obtain ⟨v', w', h1, h2, h3, h4, _⟩ := run_append_own_at (P := Try.prog) w base 26 ty 37 i0 _ 12 96 Try.underlying26 hi hz0 hz1 hz2 rfl (by decide) v n xs hown a az.length c (cscells az) (cscells_len az) hnews (cscells_one az) (by unfold maxLen; omega) (by omega) hbase
    exact ⟨v', w', h1, h2, h3, fun hne h => hne (h4.1 h).1⟩

theorem wpList_append_cases {ops : Array Oper} {rest : List Oper} {o : Oper} {a : Act} {Q : Exit → Act → World → Prop} (w : World) (hgd : o.guard = none) (s x : Operand)
    (ho : o.op = .call { callee := .builtin .append, args := #[s, x], argTypes := #[26, 26] }) (base : Nat) (v : Value) (n : Nat) (xs : List Value) (hs : a.eval s = v) (hown : w.ownsRow base 37 12 v n xs)
    (ao : Option Addr) (c : Nat) (az : List Cs) (hx : a.eval x = .slice ao az.length c) (hz : CasesAt w ao az) (hn : n + az.length ≤ 5000000) (hbase : base ≤ w.heap.size)
    (h : ∀ v' w', w'.ownsRow base 37 12 v' (n + az.length) (xs ++ cscells az) → w.grownBy w' v.ownBlock → (v ≠ .slice none 0 0 → v' ≠ .slice none 0 0) → wpList Try.prog ops Q rest (a.put o.dst v') w') : wpList Try.prog ops Q (o :: rest) a w := by
  obtain ⟨v', w', hr, h1, h2, h3⟩ := run_append_cases w base o.type v n xs hown ao c az hz hn hbase
  exact Lib.wpList_append_run w hgd s x _ _ ho _ _ hs hx v' w' hr (h v' w' h1 h2 h3)

theorem caLit (w : World) : (w.alloc (.cells #[] 37)).ownsRow w.heap.size 37 12 (.slice (some ⟨w.heap.size, 0, none⟩) 0 0) 0 [] := World.ownsRow_lit w #[] 0 (Nat.le_refl _) (by unfold maxLen; omega) rfl
theorem caShape {w : World} {base n : Nat} {v : Value} {xs : List Value} (h : w.ownsRow base 37 12 v n xs) : ∃ ao cap, v = .slice ao n cap := by
  rcases h.2 with ⟨rfl, rfl⟩ | ⟨g, c, cur, rfl, _⟩
  · exact ⟨none, 0, rfl⟩
  · exact ⟨_, c, rfl⟩

end Go.Proofs.Ytlonjjliochbhaa

/- append onto a row of one's own, of whatever list of authorizations, one that is nil too. -/
namespace Go.Proofs.Ytlonjjliochbhaa
open Go.RowKit

theorem auths_news {w : World} {b off : Nat} {xs : List Au} (h : AuthsAt w (some ⟨b, off, none⟩) xs) : ∀ j u, (acells xs)[j]? = some u → w.cell? ((⟨b, off, none⟩ : Addr).add j) = some u := by
  intro j u hj
  have hlt : j < xs.length * 6 := by
    rw [← acells_len]
    exact (List.getElem?_eq_some_iff.1 hj).1
  rcases h with rfl | ⟨b', off', hq, hb, hc⟩
  · simp at hlt
  · obtain ⟨rfl, rfl⟩ : b = b' ∧ off = off' := by simpa using hq
    have e : ((⟨b, off, none⟩ : Addr).add j) = ⟨b, off + j, none⟩ := by unfold Addr.add; split <;> simp_all
    obtain ⟨k0, k1, k2, k3, k4, k5⟩ := hc (j / 6) (by omega)
    obtain ⟨f0, f1, f2, f3, f4, f5⟩ := acells_at xs (j / 6) (by omega)
    rw [e]
    rcases (show j % 6 = 0 ∨ j % 6 = 1 ∨ j % 6 = 2 ∨ j % 6 = 3 ∨ j % 6 = 4 ∨ j % 6 = 5 by omega) with e | e | e | e | e | e
    · rw [show j = j / 6 * 6 by omega, f0] at hj
      rw [show off + j = off + j / 6 * 6 by omega, k0]
      exact hj
    · rw [show j = j / 6 * 6 + 1 by omega, f1] at hj
      rw [show off + j = off + j / 6 * 6 + 1 by omega, k1]
      exact hj
    · rw [show j = j / 6 * 6 + 2 by omega, f2] at hj
      rw [show off + j = off + j / 6 * 6 + 2 by omega, k2]
      exact hj
    · rw [show j = j / 6 * 6 + 3 by omega, f3] at hj
      rw [show off + j = off + j / 6 * 6 + 3 by omega, k3]
      exact hj
    · rw [show j = j / 6 * 6 + 4 by omega, f4] at hj
      rw [show off + j = off + j / 6 * 6 + 4 by omega, k4]
      exact hj
    · rw [show j = j / 6 * 6 + 5 by omega, f5] at hj
      rw [show off + j = off + j / 6 * 6 + 5 by omega, k5]
      exact hj

theorem run_append_auths (w : World) (base : Nat) (ty : TypeId) (v : Value) (n : Nat) (xs : List Value) (hown : w.ownsRow base 63 6 v n xs) (ao : Option Addr) (c : Nat) (az : List Au) (hz : AuthsAt w ao az)
    (hn : n + az.length ≤ 5000000) (hbase : base ≤ w.heap.size) :
    ∃ v' w', (Builtin.append_ #[25, 25] ty #[v, .slice ao az.length c]).run Try.prog w = .ok v' w' ∧ w'.ownsRow base 63 6 v' (n + az.length) (xs ++ acells az) ∧ w.grownBy w' v.ownBlock ∧
      (v ≠ .slice none 0 0 → v' ≠ .slice none 0 0) := by
  obtain ⟨i0, hi, hz0, hz1, hz2⟩ := info_parts infoA
  cases ao with
  | none =>
    have hf : az = [] := by
      rcases hz with h | ⟨b, off, h, _⟩
      · exact h
      · cases h
    subst hf
    refine ⟨v, w, ?_, by simpa [acells] using hown, ⟨rfl, rfl, rfl, Nat.le_refl _, fun _ _ _ => rfl⟩, id⟩
    have hu := Try.underlying25
    rcases hown.2 with ⟨rfl, rfl⟩ | ⟨g, cap, cur, rfl, hbg, hg, hnc, hcm, hcs, htake⟩
    · simp [Builtin.append_, run_underlying hu, sizeOf, typeInfo, hi, Builtin.lenOf, Builtin.firstCells]
    · simp [Builtin.append_, run_underlying hu, sizeOf, typeInfo, hi, Builtin.lenOf, Builtin.firstCells, loadCells, hnc, storeCells]
  | some a =>
    have hnews : ∀ j u, (acells az)[j]? = some u → w.cell? (a.add j) = some u := by
      rcases hz with rfl | ⟨b, off, hq, hb, hc⟩
      · intro j u hj; simp [acells] at hj
      · obtain rfl : a = ⟨b, off, none⟩ := by simpa using hq
        exact auths_news (.inr ⟨b, off, rfl, hb, hc⟩)
    obtain ⟨v', w', h1, h2, h3, h4, _⟩ := run_append_own_at (P := Try.prog) w base 25 ty 63 i0 _ 6 56 Try.underlying25 hi hz0 hz1 hz2 rfl (by decide) v n xs hown a az.length c (acells az) (acells_len az) hnews (acells_one az) (by unfold maxLen; omega) (by omega) hbase
    exact ⟨v', w', h1, h2, h3, fun hne h => hne (h4.1 h).1⟩

theorem wpList_append_auths {ops : Array Oper} {rest : List Oper} {o : Oper} {a : Act} {Q : Exit → Act → World → Prop} (w : World) (hgd : o.guard = none) (s x : Operand)
    (ho : o.op = .call { callee := .builtin .append, args := #[s, x], argTypes := #[25, 25] }) (base : Nat) (v : Value) (n : Nat) (xs : List Value) (hs : a.eval s = v) (hown : w.ownsRow base 63 6 v n xs)
    (ao : Option Addr) (c : Nat) (az : List Au) (hx : a.eval x = .slice ao az.length c) (hz : AuthsAt w ao az) (hn : n + az.length ≤ 5000000) (hbase : base ≤ w.heap.size)
    (h : ∀ v' w', w'.ownsRow base 63 6 v' (n + az.length) (xs ++ acells az) → w.grownBy w' v.ownBlock → (v ≠ .slice none 0 0 → v' ≠ .slice none 0 0) → wpList Try.prog ops Q rest (a.put o.dst v') w') : wpList Try.prog ops Q (o :: rest) a w := by
  obtain ⟨v', w', hr, h1, h2, h3⟩ := run_append_auths w base o.type v n xs hown ao c az hz hn hbase
  exact Lib.wpList_append_run w hgd s x _ _ ho _ _ hs hx v' w' hr (h v' w' h1 h2 h3)

theorem auLit (w : World) : (w.alloc (.cells #[] 63)).ownsRow w.heap.size 63 6 (.slice (some ⟨w.heap.size, 0, none⟩) 0 0) 0 [] := World.ownsRow_lit w #[] 0 (Nat.le_refl _) (by unfold maxLen; omega) rfl
theorem auShape {w : World} {base n : Nat} {v : Value} {xs : List Value} (h : w.ownsRow base 63 6 v n xs) : ∃ ao cap, v = .slice ao n cap := by
  rcases h.2 with ⟨rfl, rfl⟩ | ⟨g, c, cur, rfl, _⟩
  · exact ⟨none, 0, rfl⟩
  · exact ⟨_, c, rfl⟩
theorem au_notnil {w : World} {base n : Nat} {v : Value} {xs : List Value} (h : w.ownsRow base 63 6 v n xs) (hv : v ≠ .slice none 0 0) : ∃ g c, v = .slice (some ⟨g, 0, none⟩) n c := by
  rcases h.2 with ⟨h, _⟩ | ⟨g, c, cur, h, _⟩
  · exact absurd h hv
  · exact ⟨g, c, h⟩
/-- what a function leaves that answers a list of its own, and a flag -/
def AuR2 (u : World) (L : List Au) (q : Bool) (e : Ending) (u' : World) : Prop :=
  ∃ ao cap, e = .returned (.tuple #[.slice ao L.length cap, .bool q]) ∧ u'.ownsRow u.heap.size 63 6 (.slice ao L.length cap) L.length (acells L) ∧ Below u.heap.size u u'
def AuR1 (u : World) (L : List Au) (e : Ending) (u' : World) : Prop :=
  ∃ ao cap, e = .returned (.slice ao L.length cap) ∧ u'.ownsRow u.heap.size 63 6 (.slice ao L.length cap) L.length (acells L) ∧ Below u.heap.size u u'

end Go.Proofs.Ytlonjjliochbhaa

/- Appending a slice of texts, which may be nil, onto a row of one's own; the program's join at two lists of texts. -/
namespace Go.Proofs.Ytlonjjliochbhaa
open Go.RowKit
set_option maxRecDepth 100000

theorem txts_news {w : World} {a : Addr} {rs : Recs} (h : TxtsAt w (some a) rs) : ∀ j u, (scells rs)[j]? = some u → w.cell? (a.add j) = some u := by
  intro j u hj
  have hl : j < rs.length := by
    rcases Nat.lt_or_ge j rs.length with h' | h'
    · exact h'
    · rw [List.getElem?_eq_none (by rw [scells_len]; exact h')] at hj; cases hj
  rcases h with h | ⟨b, off, h1, h2, h3⟩
  · rw [h] at hl; simp at hl
  · injection h1 with h1
    subst h1
    have e := h3 j hl
    have hu : u = .string ⟨(nth rs j).toArray⟩ := by
      rw [scells_at rs j hl] at hj
      exact (Option.some.inj hj).symm
    rw [hu]
    by_cases e0 : j = 0
    · subst e0; simpa [Addr.add] using e
    · simpa [Addr.add, e0] using e
theorem run_append_txtsAt (w : World) (base : Nat) (ty : TypeId) (v : Value) (n : Nat) (cs : List Value) (hown : w.ownsRow base 9 1 v n cs) (ao : Option Addr) (c : Nat) (rs : Recs) (hz : TxtsAt w ao rs)
    (hn : n + rs.length ≤ 4000000) (hbase : base ≤ w.heap.size) :
    ∃ v' w', (Builtin.append_ #[30, 30] ty #[v, .slice ao rs.length c]).run Try.prog w = .ok v' w' ∧ w'.ownsRow base 9 1 v' (n + rs.length) (cs ++ scells rs) ∧ w.grownBy w' v.ownBlock := by
  obtain ⟨i0, hi, hz0, hz1, hz2⟩ := info_parts infoS
  cases ao with
  | none =>
    have hf : rs = [] := by
      rcases hz with h | ⟨b, off, h, _⟩
      · exact h
      · cases h
    subst hf
    refine ⟨v, w, ?_, by simpa [scells] using hown, ⟨rfl, rfl, rfl, Nat.le_refl _, fun _ _ _ => rfl⟩⟩
    have hu := Try.underlying30
    rcases hown.2 with ⟨rfl, rfl⟩ | ⟨g, cap, cur, rfl, hbg, hg, hnc, hcm, hcs, htake⟩
    · simp [Builtin.append_, run_underlying hu, sizeOf, typeInfo, hi, Builtin.lenOf, Builtin.firstCells]
    · simp [Builtin.append_, run_underlying hu, sizeOf, typeInfo, hi, Builtin.lenOf, Builtin.firstCells, loadCells, hnc, storeCells]
  | some a =>
    obtain ⟨v', w', h1, h2, h3, _, _⟩ := run_append_own_at (P := Try.prog) w base 30 ty 9 i0 _ 1 16 Try.underlying30 hi hz0 hz1 hz2 rfl (by decide) v n cs hown a rs.length c (scells rs) (by simp [scells_len]) (txts_news hz) (scells_one rs) (by unfold maxLen; omega) (by omega) hbase
    exact ⟨v', w', h1, h2, h3⟩
theorem wpList_append_txtsAt {ops : Array Oper} {rest : List Oper} {o : Oper} {a : Act} {Q : Exit → Act → World → Prop} (w : World) (hgd : o.guard = none) (s x : Operand)
    (ho : o.op = .call { callee := .builtin .append, args := #[s, x], argTypes := #[30, 30] }) (base : Nat) (v : Value) (n : Nat) (cs : List Value) (hs : a.eval s = v) (hown : w.ownsRow base 9 1 v n cs)
    (ao : Option Addr) (c : Nat) (rs : Recs) (hx : a.eval x = .slice ao rs.length c) (hz : TxtsAt w ao rs) (hn : n + rs.length ≤ 4000000) (hbase : base ≤ w.heap.size)
    (h : ∀ v' w', w'.ownsRow base 9 1 v' (n + rs.length) (cs ++ scells rs) → w.grownBy w' v.ownBlock → wpList Try.prog ops Q rest (a.put o.dst v') w') :
    wpList Try.prog ops Q (o :: rest) a w := by
  refine wpList_plain hgd fun K hK => ?_
  obtain ⟨v', w', hr, h2, h3⟩ := run_append_txtsAt w base o.type v n cs hown ao c rs hz hn hbase
  unfold Oper.wp execOp
  simp only [ho, resolve, invoke, builtin, Sem.run_bind, Sem.run_pure, Result.andThen_ok, List.map_toArray, List.map_cons, List.map_nil, hs, hx, hr]
  exact hK _ _ (h v' w' h2 h3)


end Go.Proofs.Ytlonjjliochbhaa

/- Appending a slice of ints, which may be nil, onto a row of one's own; the program's join at one list of ints. -/
namespace Go.Proofs.Ytlonjjliochbhaa
open Go.RowKit
set_option maxRecDepth 100000

theorem ints_news {w : World} {a : Addr} {zs : List Int} (h : IntsAt w (some a) zs) : ∀ j u, (zs.map (Value.int .i64))[j]? = some u → w.cell? (a.add j) = some u := by
  intro j u hj
  have hl : j < zs.length := by
    rcases Nat.lt_or_ge j zs.length with h' | h'
    · exact h'
    · rw [List.getElem?_eq_none (by simpa using h')] at hj; cases hj
  rcases h with h | ⟨b, off, h1, h2, h3⟩
  · rw [h] at hl; simp at hl
  · injection h1 with h1
    subst h1
    have e := h3 j hl
    have hu : u = .int .i64 (zs.getD j 0) := by
      rw [List.getElem?_map, List.getElem?_eq_getElem hl] at hj
      simp at hj
      rw [← hj]
      simp [List.getD_eq_getElem?_getD, hl]
    rw [hu]
    by_cases e0 : j = 0
    · subst e0; simpa [Addr.add] using e
    · simpa [Addr.add, e0] using e
theorem intv_one (zs : List Int) : ∀ u ∈ zs.map (Value.int .i64), u.oneCell' = true := by
  intro u hu
  simp at hu
  obtain ⟨x, _, rfl⟩ := hu
  rfl
theorem run_append_intsAt (w : World) (base : Nat) (ty : TypeId) (v : Value) (n : Nat) (cs : List Value) (hown : w.ownsRow base 3 1 v n cs) (ao : Option Addr) (c : Nat) (zs : List Int) (hz : IntsAt w ao zs)
    (hn : n + zs.length ≤ 4000000) (hbase : base ≤ w.heap.size) :
    ∃ v' w', (Builtin.append_ #[24, 24] ty #[v, .slice ao zs.length c]).run Try.prog w = .ok v' w' ∧ w'.ownsRow base 3 1 v' (n + zs.length) (cs ++ zs.map (Value.int .i64)) ∧ w.grownBy w' v.ownBlock := by
  obtain ⟨i0, hi, hz0, hz1, hz2⟩ := info_parts info3
  cases ao with
  | none =>
    have hf : zs = [] := by
      rcases hz with h | ⟨b, off, h, _⟩
      · exact h
      · cases h
    subst hf
    refine ⟨v, w, ?_, by simpa using hown, ⟨rfl, rfl, rfl, Nat.le_refl _, fun _ _ _ => rfl⟩⟩
    have hu := Try.underlying24
    rcases hown.2 with ⟨rfl, rfl⟩ | ⟨g, cap, cur, rfl, hbg, hg, hnc, hcm, hcs, htake⟩
    · simp [Builtin.append_, run_underlying hu, sizeOf, typeInfo, hi, Builtin.lenOf, Builtin.firstCells]
    · simp [Builtin.append_, run_underlying hu, sizeOf, typeInfo, hi, Builtin.lenOf, Builtin.firstCells, loadCells, hnc, storeCells]
  | some a =>
    obtain ⟨v', w', h1, h2, h3, _, _⟩ := run_append_own_at (P := Try.prog) w base 24 ty 3 i0 _ 1 8 Try.underlying24 hi hz0 hz1 hz2 rfl (by decide) v n cs hown a zs.length c (zs.map (Value.int .i64)) (by simp) (ints_news hz) (intv_one zs) (by unfold maxLen; omega) (by omega) hbase
    exact ⟨v', w', h1, h2, h3⟩
theorem wpList_append_intsAt {ops : Array Oper} {rest : List Oper} {o : Oper} {a : Act} {Q : Exit → Act → World → Prop} (w : World) (hgd : o.guard = none) (s x : Operand)
    (ho : o.op = .call { callee := .builtin .append, args := #[s, x], argTypes := #[24, 24] }) (base : Nat) (v : Value) (n : Nat) (cs : List Value) (hs : a.eval s = v) (hown : w.ownsRow base 3 1 v n cs)
    (ao : Option Addr) (c : Nat) (zs : List Int) (hx : a.eval x = .slice ao zs.length c) (hz : IntsAt w ao zs) (hn : n + zs.length ≤ 4000000) (hbase : base ≤ w.heap.size)
    (h : ∀ v' w', w'.ownsRow base 3 1 v' (n + zs.length) (cs ++ zs.map (Value.int .i64)) → w.grownBy w' v.ownBlock → wpList Try.prog ops Q rest (a.put o.dst v') w') :
    wpList Try.prog ops Q (o :: rest) a w := by
  refine wpList_plain hgd fun K hK => ?_
  obtain ⟨v', w', hr, h2, h3⟩ := run_append_intsAt w base o.type v n cs hown ao c zs hz hn hbase
  unfold Oper.wp execOp
  simp only [ho, resolve, invoke, builtin, Sem.run_bind, Sem.run_pure, Result.andThen_ok, List.map_toArray, List.map_cons, List.map_nil, hs, hx, hr]
  exact hK _ _ (h v' w' h2 h3)


end Go.Proofs.Ytlonjjliochbhaa

/- The contracts of the specification's l07Acct, EntryOk, BalanceOf, Back, Worth, LedgerOk. -/
namespace Go.Proofs.Ytlonjjliochbhaa
open Go.RowKit
set_option maxRecDepth 100000

set_option maxHeartbeats 400000 in
theorem acct_any (a : Int) (w : World) :
    Calls Try.prog 55 #[.int .i64 a] w fun e w' => e = .returned (.bool (acctOk a)) ∧ w' = w := by
  go_enter Try.func55, Try.ntmps55
  go_wp2_with fail
  refine (in_any _ _ _ _).mono ?_
  rintro e w1 ⟨rfl, hw⟩
  rw [hw]
  go_wp2
  go_ret
  exact ⟨rfl, rfl⟩
theorem acct_is {a : Int} {q : Bool} (h : acctOk a = q) (w : World) : Calls Try.prog 55 #[.int .i64 a] w fun e w' => e = .returned (.bool q) ∧ w' = w := by rw [← h]; exact acct_any a w

set_option maxHeartbeats 800000 in
theorem sBack_any (a b c m : Int) (w : World) :
    Calls Try.prog 75 #[.agg #[.int .i64 a, .int .i64 b, .int .i64 c, .int .i64 m]] w fun e w' => e = .returned (.agg #[.int .i64 b, .int .i64 a, .int .i64 c, .int .i64 m]) ∧ Below w.heap.size w w' := by
  go_enter Try.func75, Try.ntmps75
  go_wp2
  go_returns
  refine ⟨rfl, ?_⟩
  go_grown



theorem digs_is {c : Int} (w : World) (d : Int) (h : digs c = d) : Calls Try.prog 56 #[.int .i64 c] w fun e w' => e = .returned (.int .i64 d) ∧ Below w.heap.size w w' := by rw [← h]; exact sDigits_any c w

set_option maxHeartbeats 1600000 in
theorem sEntryOk_any (a b c m : Int) (w : World) :
    Calls Try.prog 70 #[.agg #[.int .i64 a, .int .i64 b, .int .i64 c, .int .i64 m]] w fun e w' => e = .returned (.bool (entryOk (a, b, c, m))) ∧ Below w.heap.size w w' := by
  have bel : Below w.heap.size w (w.alloc (.cells #[.int .i64 a, .int .i64 b, .int .i64 c, .int .i64 m] 99)) := by go_grown
  cases h1 : acctOk a
  · have HE : Hid (entryOk (a, b, c, m) = false) := by simp [Hid, entryOk, h1]
    have H1 : Hid _ := h1
    clear h1
    go_enter Try.func70, Try.ntmps70
    go_wp2_with fail
    refine (acct_is H1.out _).mono ?_
    rintro e w1 ⟨rfl, hw⟩
    rw [hw]
    clear hw
    go_wp2
    go_ret
    exact ⟨one_bool HE.out.symm, bel⟩
  have H1 : Hid _ := h1
  cases h2 : acctOk b
  · have HE : Hid (entryOk (a, b, c, m) = false) := by simp [Hid, entryOk, h2]
    have H2 : Hid _ := h2
    clear h1 h2
    go_enter Try.func70, Try.ntmps70
    go_wp2_with fail
    refine (acct_is H1.out _).mono ?_
    rintro e w1 ⟨rfl, hw⟩
    rw [hw]
    clear hw
    go_wp2_with fail
    refine (acct_is H2.out _).mono ?_
    rintro e w2 ⟨rfl, hw⟩
    rw [hw]
    clear hw
    go_wp2
    go_ret
    exact ⟨one_bool HE.out.symm, bel⟩
  have H2 : Hid _ := h2
  by_cases h3 : a = b
  · have HE : Hid (entryOk (a, b, c, m) = false) := by simp [Hid, entryOk, h3]
    have h3' : (a != b) = false := by simpa using h3
    clear h1 h2 h3
    go_enter Try.func70, Try.ntmps70
    go_wp2_with fail
    refine (acct_is H1.out _).mono ?_
    rintro e w1 ⟨rfl, hw⟩
    rw [hw]
    clear hw
    go_wp2_with fail
    refine (acct_is H2.out _).mono ?_
    rintro e w2 ⟨rfl, hw⟩
    rw [hw]
    clear hw
    go_wp2
    go_ret
    exact ⟨one_bool HE.out.symm, bel⟩
  have h3' : (a != b) = true := by simpa using h3
  have hx : ∀ q : Bool, (decide (0 ≤ digs c) && decide (1 ≤ m ∧ m ≤ 1000000000000)) = q → entryOk (a, b, c, m) = q := by
    intro q hq
    simp only [entryOk, h1, h2, Bool.true_and, decide_eq_true h3]
    exact hq
  obtain ⟨d, hd⟩ : ∃ d, digs c = d := ⟨_, rfl⟩
  have HD : Hid _ := hd
  by_cases h4 : 0 ≤ d
  · have HE : Hid (entryOk (a, b, c, m) = inB m 1 1000000000000) := hx _ (by rw [hd, decide_eq_true h4]; rfl)
    clear hx hd h3 h1 h2
    go_enter Try.func70, Try.ntmps70
    go_wp2_with fail
    refine (acct_is H1.out _).mono ?_
    rintro e w1 ⟨rfl, hw⟩
    rw [hw]
    clear hw
    go_wp2_with fail
    refine (acct_is H2.out _).mono ?_
    rintro e w2 ⟨rfl, hw⟩
    rw [hw]
    clear hw
    go_wp2_with fail
    refine (digs_is _ d HD.out).mono ?_
    rintro e w3 ⟨rfl, b3⟩
    have x3 := (b3.cell (p := ⟨w.heap.size, 3, none⟩) (by simp)).trans (show _ = some (.int .i64 m) by simp)
    have q3 := bel.trans (b3.mono bel.size)
    clear b3 bel
    go_wp2_with fail
    refine (in_any _ _ _ _).mono ?_
    rintro e w4 ⟨rfl, hw⟩
    rw [hw]
    clear hw
    obtain ⟨q, hq⟩ : ∃ q, inB m 1 1000000000000 = q := ⟨_, rfl⟩
    rw [hq]
    have HQ : Hid _ := hq
    clear hq
    go_wp2
    go_ret
    exact ⟨one_bool (by rw [HE.out, HQ.out]), q3⟩
  · have HE : Hid (entryOk (a, b, c, m) = false) := hx _ (by rw [hd, decide_eq_false h4]; rfl)
    clear hx hd h3 h1 h2
    go_enter Try.func70, Try.ntmps70
    go_wp2_with fail
    refine (acct_is H1.out _).mono ?_
    rintro e w1 ⟨rfl, hw⟩
    rw [hw]
    clear hw
    go_wp2_with fail
    refine (acct_is H2.out _).mono ?_
    rintro e w2 ⟨rfl, hw⟩
    rw [hw]
    clear hw
    go_wp2_with fail
    refine (digs_is _ d HD.out).mono ?_
    rintro e w3 ⟨rfl, b3⟩
    have q3 := bel.trans (b3.mono bel.size)
    clear b3 bel
    go_wp2
    go_ret
    exact ⟨one_bool HE.out.symm, q3⟩

end Go.Proofs.Ytlonjjliochbhaa

/- The contracts of the small functions of chapter 3 (fields) over a text's bytes: what each returns for every argument. -/
namespace Go.Proofs.Ytlonjjliochbhaa.Tg
open Go.RowKit

def inB (x a b : Int) : Bool := decide (a ≤ x ∧ x ≤ b)
theorem inB_pos {x a b : Int} (h : a ≤ x) (g : x ≤ b) : inB x a b = true := by simp [inB, h, g]
theorem inB_neg {x a b : Int} (h : x < a ∨ b < x) : inB x a b = false := by simp [inB]; omega

set_option maxHeartbeats 400000 in
theorem in_any (x a b : Int) (w : World) :
    Calls Try.prog 33 #[.int .i64 x, .int .i64 a, .int .i64 b] w fun e w' => e = .returned (.bool (inB x a b)) ∧ w' = w := by
  by_cases h1 : a ≤ x
  · by_cases h2 : x ≤ b
    · go_enter Try.func33, Try.ntmps33
      go_wp2
      go_ret
      exact ⟨by simp [inB, h1, h2], rfl⟩
    · go_enter Try.func33, Try.ntmps33
      go_wp2
      go_ret
      exact ⟨by simp [inB, h1, h2], rfl⟩
  · go_enter Try.func33, Try.ntmps33
    go_wp2
    go_ret
    exact ⟨by simp [inB]; omega, rfl⟩

theorem in_byte (c : UInt8) (a b : Nat) : inB (c.toNat : Int) a b = (decide (a ≤ c.toNat) && decide (c.toNat ≤ b)) := by
  unfold inB
  by_cases h1 : a ≤ c.toNat <;> by_cases h2 : c.toNat ≤ b <;> simp [h1, h2]




set_option maxHeartbeats 400000 in
theorem sDigits_any (l : List UInt8) (w : World) (hl : l.length ≤ 1099511627776) :
    Calls Try.prog 54 #[.string ⟨l.toArray⟩] w fun e w' => e = .returned (.bool (within 48 57 l)) ∧ w' = w := by
  go_enter Try.func54, Try.ntmps54
  go_wp2
  go_loop [3] (fun i => ∃ k : Nat, k ≤ l.length ∧ i = .int .i64 k ∧ within 48 57 l = within 48 57 (l.drop k)) (fun i => l.length - (intOf i).toNat)
  case atStart => exact ⟨0, Nat.zero_le _, rfl, rfl⟩
  case round =>
    obtain ⟨k, hk, rfl, ht⟩ := hrel
    by_cases hlt : k < l.length
    · have hki : (k : Int) < (l.length : Int) := by omega
      have hs := within_step 48 57 l k hlt
      obtain ⟨c, hc⟩ : ∃ c, (⟨l.toArray⟩ : ByteArray)[k]'(by rw [ba_size]; exact hlt) = c := ⟨_, rfl⟩
      rw [(byte_at l k hlt).trans hc, ← in_byte c 48 57] at hs
      have HS : Hid _ := ht.trans hs
      have hwc := wrap_byte c
      clear hs ht
      cases hin : inB (c.toNat : Int) 48 57
      · have HN : Hid (within 48 57 l = false) := by rw [Hid, HS.out]; simp [hin]
        clear HS
        go_wp2_with fail
        refine (in_any _ _ _ _).mono ?_
        rintro e w1 ⟨rfl, hw1⟩
        subst hw1
        rw [hin]
        go_wp2
        go_ret
        exact ⟨one_bool HN.out.symm, rfl⟩
      · have HY : Hid (within 48 57 l = within 48 57 (l.drop (k + 1))) := by rw [Hid, HS.out]; simp [hin]
        clear HS
        go_wp2_with fail
        refine (in_any _ _ _ _).mono ?_
        rintro e w1 ⟨rfl, hw1⟩
        subst hw1
        rw [hin]
        go_wp2
        go_round
        case rel => exact ⟨k + 1, by omega, by go_num, HY.out⟩
        case measure => simp [intOf]; omega
    · have hke : k = l.length := by omega
      subst hke
      have HE : Hid (within 48 57 l = true) := by rw [Hid, ht, within_end]
      clear ht
      go_wp2
      go_ret
      exact ⟨one_bool HE.out.symm, rfl⟩

end Go.Proofs.Ytlonjjliochbhaa.Tg

/- The contracts of NumOf, the program's and the specification's. -/
namespace Go.Proofs.Ytlonjjliochbhaa.Tg
open Go.RowKit


set_option maxHeartbeats 400000 in
theorem sNumOf_any (l : List UInt8) (w : World) (hl : l.length ≤ 1099511627776) :
    Calls Try.prog 46 #[.string ⟨l.toArray⟩] w fun e w' => e = .returned (.int .i64 (numOf l)) ∧ w' = w := by
  by_cases hbig : 18 < l.length
  · have HN : Hid _ := numOf_no1 hbig
    have hbi : (18 : Int) < (l.length : Int) := by omega
    go_enter Try.func46, Try.ntmps46
    go_wp2
    go_ret
    exact ⟨one_int HN.out.symm, rfl⟩
  · have hbi : (l.length : Int) ≤ 18 := by omega
    have hl18 : l.length ≤ 18 := by omega
    cases hd : within 48 57 l
    · have HN : Hid _ := numOf_no2 hd
      go_enter Try.func46, Try.ntmps46
      go_wp2_with fail
      refine (sDigits_any _ _ hl).mono ?_
      rintro e w1 ⟨rfl, hw⟩
      subst hw
      rw [hd]
      go_wp2
      go_ret
      exact ⟨one_int HN.out.symm, rfl⟩
    · have HY : Hid _ := numOf_yes hl18 hd
      have HB : Hid _ := val_bound l hd
      have HD : Hid (within 48 57 l = true) := hd
      go_enter Try.func46, Try.ntmps46
      go_wp2_with fail
      refine (sDigits_any _ _ hl).mono ?_
      rintro e w1 ⟨rfl, hw⟩
      subst hw
      rw [hd]
      clear hd
      go_wp2
      go_loop [3, 4] (fun v i => ∃ k : Nat, k ≤ l.length ∧ i = .int .i64 k ∧ v = .int .i64 (val 0 (l.take k))) (fun _ i => l.length - (intOf i).toNat)
      case atStart => exact ⟨0, Nat.zero_le _, rfl, rfl⟩
      case round =>
        obtain ⟨k, hk, rfl, rfl⟩ := hrel
        have hb := HB.out k hk
        have hp : 10 ^ k ≤ 10 ^ 18 := Nat.pow_le_pow_right (by omega) (by omega)
        by_cases hlt : k < l.length
        · have hki : (k : Int) < (l.length : Int) := by omega
          have hp1 : 10 ^ k ≤ 10 ^ 17 := Nat.pow_le_pow_right (by omega) (by omega)
          have hw := within_at HD.out hlt
          have hv := val_take l k hlt
          obtain ⟨c, hc⟩ : ∃ c, (⟨l.toArray⟩ : ByteArray)[k]'(by rw [ba_size]; exact hlt) = c := ⟨_, rfl⟩
          rw [(byte_at l k hlt).trans hc] at hw hv
          obtain ⟨x, hx⟩ : ∃ x, val 0 (l.take k) = x := ⟨_, rfl⟩
          rw [hx] at hb hv ⊢
          have hxb : x ≤ 100000000000000000 := by omega
          have hsi : ((val 0 (l.take (k + 1)) : Nat) : Int) = 10 * (x : Int) + (c.toNat : Int) - 48 := by omega
          have HV : Hid _ := hsi
          clear hsi hv hx hb hp hp1
          go_wp2
          go_round
          case rel => exact ⟨k + 1, by omega, by go_num, by rw [HV.out]⟩
          case measure => simp [intOf]; omega
        · have hke : k = l.length := by omega
          subst hke
          rw [List.take_of_length_le (Nat.le_refl _)]
          clear hb hp
          go_wp2
          go_ret
          exact ⟨one_int HY.out.symm, rfl⟩

end Go.Proofs.Ytlonjjliochbhaa.Tg

/- The specification's decimal numeral. -/
namespace Go.Proofs.Ytlonjjliochbhaa.Tg
open Go.RowKit

/-- the digits of m, none for 0 -/
def low (m : Nat) : List UInt8 := if m = 0 then [] else Lib.decDigits m
theorem low_step (m : Nat) (h : m ≠ 0) : low m = low (m / 10) ++ [UInt8.ofNat (48 + m % 10)] := by
  unfold low
  rw [if_neg h, Lib.decDigits]
  by_cases h1 : m < 10
  · rw [dif_pos h1, if_pos (by omega), Nat.mod_eq_of_lt h1]; rfl
  · rw [dif_neg h1, if_neg (by omega)]

theorem dec_len (a : Nat) (ha : a ≤ 9223372036854775807) : (Lib.decDigits a).length ≤ 21 := by
  have := Lib.itoa_length_le (a : Int) (by omega) (by omega)
  simpa [Lib.itoa, show ¬ (a : Int) < 0 from by omega] using this

theorem dig_one (d : Nat) (h : d < 10) : (⟨#[48, 49, 50, 51, 52, 53, 54, 55, 56, 57]⟩ : ByteArray).extract d (d + 1) = ⟨[UInt8.ofNat (48 + d)].toArray⟩ := by
  rcases (show d = 0 ∨ d = 1 ∨ d = 2 ∨ d = 3 ∨ d = 4 ∨ d = 5 ∨ d = 6 ∨ d = 7 ∨ d = 8 ∨ d = 9 from by omega) with rfl | rfl | rfl | rfl | rfl | rfl | rfl | rfl | rfl | rfl <;> decide
theorem dig_piece (d : Nat) (l : List UInt8) (h : d < 10) : (⟨#[48, 49, 50, 51, 52, 53, 54, 55, 56, 57]⟩ : ByteArray).extract d (d + 1) ++ ⟨l.toArray⟩ = ⟨(UInt8.ofNat (48 + d) :: l).toArray⟩ := by
  rw [dig_one d h, ba_append]; rfl

set_option maxHeartbeats 800000 in
theorem dec_up (a : Nat) (w : World) (ha : a ≤ 9223372036854775807) :
    Calls Try.prog 28 #[.int .i64 a] w fun e w' => e = .returned (.string ⟨(Lib.decDigits a).toArray⟩) ∧ w' = w := by
  by_cases h0 : a = 0
  · subst h0
    go_enter Try.func28, Try.ntmps28
    go_wp2
    go_ret
    exact ⟨one_str (by rw [Lib.decDigits_one (by omega)]; rfl), rfl⟩
  · have hne : ((a : Int) == 0) = false := by simp; omega
    have hnn : ¬ (a : Int) < 0 := by omega
    go_enter Try.func28, Try.ntmps28
    go_wp2
    go_loop [3, 4, 5] (fun o m _ => ∃ (k : Nat) (l : List UInt8), k ≤ a ∧ m = .int .i64 k ∧ o = .string ⟨l.toArray⟩ ∧ Lib.decDigits a = low k ++ l) (fun _ m _ => (intOf m).toNat)
    case atStart => exact ⟨a, [], Nat.le_refl _, rfl, rfl, by simp [low, h0]⟩
    case round =>
      obtain ⟨k, l, hk, rfl, rfl, hd⟩ := hrel
      by_cases hk0 : k = 0
      · subst hk0
        have HD : Hid _ := hd
        clear hd
        go_wp2
        go_ret
        exact ⟨one_str (by have := HD.out; simp [low] at this; rw [this]), rfl⟩
      · have kne : ((k : Int) != 0) = true := by simp; omega
        have HD : Hid (Lib.decDigits a = low (k / 10) ++ (UInt8.ofNat (48 + k % 10) :: l)) := by rw [Hid, hd, low_step k hk0]; simp
        have hl : l.length ≤ 21 := by have h1 := dec_len a ha; rw [hd] at h1; simp at h1; omega
        clear hd
        go_wp2
        go_round
        case rel => exact ⟨k / 10, UInt8.ofNat (48 + k % 10) :: l, by omega, by go_num, by rw [dig_piece _ _ (by omega)], HD.out⟩
        case measure => simp [intOf]; omega

end Go.Proofs.Ytlonjjliochbhaa.Tg

/- The contracts of the small functions of chapter 2 (days): what each returns for every argument. -/
namespace Go.Proofs.Ytlonjjliochbhaa
open Go.RowKit

theorem inB_pos {x a b : Int} (h : a ≤ x) (g : x ≤ b) : inB x a b = true := by simp [inB, h, g]
theorem inB_neg {x a b : Int} (h : x < a ∨ b < x) : inB x a b = false := by simp [inB]; omega

set_option maxHeartbeats 400000 in
theorem sDayOk_any (x : Int) (w : World) :
    Calls Try.prog 24 #[.int .i64 x] w fun e w' => e = .returned (.bool (dOk x)) ∧ w' = w := by
  go_enter Try.func24, Try.ntmps24
  go_wp2_with (go_at_call 33; refine (in_any _ _ _ _).mono ?_; rintro e w' ⟨rfl, rfl⟩)
  go_ret
  exact ⟨rfl, rfl⟩


/-- the day of the week -/
def wdV (d : Int) : Int := if dOk d = true then (d + 5) % 7 else -1
theorem wdV_yes {d : Int} (h : dOk d = true) : wdV d = (d + 5) % 7 := if_pos h
theorem wdV_no {d : Int} (h : dOk d = false) : wdV d = -1 := if_neg (by rw [h]; decide)

set_option maxHeartbeats 400000 in
theorem sWeekDay_any (x : Int) (w : World) :
    Calls Try.prog 82 #[.int .i64 x] w fun e w' => e = .returned (.int .i64 (wdV x)) ∧ w' = w := by
  cases h : dOk x
  · have HV : Hid _ := wdV_no h
    go_enter Try.func82, Try.ntmps82
    go_wp2_with (go_at_call 24; refine (sDayOk_any _ _).mono ?_; rintro e w' ⟨rfl, rfl⟩)
    go_ret
    exact ⟨one_int HV.out.symm, rfl⟩
  · have HV : Hid _ := wdV_yes h
    have hb := dOk_bd h
    go_enter Try.func82, Try.ntmps82
    go_wp2_with (go_at_call 24; refine (sDayOk_any _ _).mono ?_; rintro e w' ⟨rfl, rfl⟩)
    go_ret
    exact ⟨one_int HV.out.symm, rfl⟩


end Go.Proofs.Ytlonjjliochbhaa

/- Numbers with noughts ahead, over plain lists. No Go in sight. -/
namespace Go.Proofs.Ytlonjjliochbhaa

theorem ofNat_dig (d : Nat) (h : d < 10) : (UInt8.ofNat (48 + d)).toNat = 48 + d := by
  rw [UInt8.toNat_ofNat']; omega
theorem dec_props (n : Nat) : (∀ c ∈ Lib.decDigits n, 48 ≤ c.toNat ∧ c.toNat ≤ 57) ∧ val 0 (Lib.decDigits n) = n := by
  induction n using Nat.strongRecOn with
  | _ n ih =>
    rw [Lib.decDigits]
    by_cases h : n < 10
    · rw [dif_pos h]
      refine ⟨fun c hc => ?_, ?_⟩
      · obtain rfl : c = UInt8.ofNat (48 + n) := by simpa using hc
        rw [ofNat_dig n h]; omega
      · simp only [val, List.foldl_cons, List.foldl_nil]
        rw [ofNat_dig n h]; omega
    · rw [dif_neg h]
      obtain ⟨i1, i2⟩ := ih (n / 10) (by omega)
      refine ⟨fun c hc => ?_, ?_⟩
      · rcases List.mem_append.1 hc with hc | hc
        · exact i1 c hc
        · obtain rfl : c = UInt8.ofNat (48 + n % 10) := by simpa using hc
          rw [ofNat_dig _ (by omega)]; omega
      · rw [val_append, i2]
        simp only [val, List.foldl_cons, List.foldl_nil]
        rw [ofNat_dig _ (by omega)]; omega
theorem dec_len_pow (k n : Nat) (hk : 1 ≤ k) (h : n < 10 ^ k) : (Lib.decDigits n).length ≤ k := by
  induction k generalizing n with
  | zero => omega
  | succ k ih =>
    rw [Lib.decDigits]
    by_cases h1 : n < 10
    · rw [dif_pos h1]; simp
    · rw [dif_neg h1]
      have hk1 : 1 ≤ k := by
        rcases Nat.eq_zero_or_pos k with rfl | hp
        · simp at h; omega
        · exact hp
      have := ih (n / 10) hk1 (by rw [Nat.pow_succ] at h; omega)
      simp; omega
def padOk (x n : Int) : Bool := decide (1 ≤ n ∧ n ≤ 18) && decide (0 ≤ x ∧ x < ((10 ^ n.toNat : Nat) : Int))
/-- x with noughts ahead to n digits -/
def padN (x n : Nat) : List UInt8 := List.replicate (n - (Lib.decDigits x).length) 48 ++ Lib.decDigits x
def padT (x n : Int) : List UInt8 := if padOk x n = true then padN x.toNat n.toNat else []
theorem padT_no {x n : Int} (h : padOk x n = false) : padT x n = [] := if_neg (by rw [h]; decide)
theorem padOk_no1 {x n : Int} (h : ¬ (1 ≤ n ∧ n ≤ 18)) : padOk x n = false := by unfold padOk; rw [decide_eq_false h]; rfl
theorem padOk_no2 {x n : Int} (h : ¬ (0 ≤ x ∧ x < ((10 ^ n.toNat : Nat) : Int))) : padOk x n = false := by unfold padOk; rw [decide_eq_false h, Bool.and_false]
theorem padT_yes {x n : Nat} (h1 : 1 ≤ n) (h2 : n ≤ 18) (h3 : x < 10 ^ n) : padT x n = padN x n := by
  unfold padT
  rw [if_pos]
  · rw [Int.toNat_natCast, Int.toNat_natCast]
  · unfold padOk
    rw [decide_eq_true (by omega), decide_eq_true (by rw [Int.toNat_natCast]; omega)]; rfl
theorem padT_cases (x n : Int) : padT x n = [] ∨ ∃ a m : Nat, x = a ∧ n = m ∧ 1 ≤ m ∧ m ≤ 18 ∧ a < 10 ^ m ∧ padT x n = padN a m := by
  cases h : padOk x n
  · exact .inl (padT_no h)
  · unfold padOk at h
    rw [Bool.and_eq_true, decide_eq_true_eq, decide_eq_true_eq] at h
    obtain ⟨a, rfl⟩ := Int.eq_ofNat_of_zero_le h.2.1
    obtain ⟨m, rfl⟩ := Int.eq_ofNat_of_zero_le (show 0 ≤ n by omega)
    rw [Int.toNat_natCast] at h
    exact .inr ⟨a, m, rfl, rfl, by omega, by omega, by omega, padT_yes (by omega) (by omega) (by omega)⟩
theorem padN_len {x n : Nat} (h1 : 1 ≤ n) (h3 : x < 10 ^ n) : (padN x n).length = n := by
  have := dec_len_pow n x h1 h3
  simp [padN]; omega
theorem padN_dig (x n : Nat) : within 48 57 (padN x n) = true := by
  refine within_of fun c hc => ?_
  rcases List.mem_append.1 hc with hc | hc
  · rw [List.mem_replicate] at hc
    rw [hc.2]; decide
  · exact (dec_props x).1 c hc
theorem padN_val (x n : Nat) : val 0 (padN x n) = x := by
  unfold padN; rw [val_zeros, (dec_props x).2]
theorem padN_num {x n : Nat} (h1 : 1 ≤ n) (h2 : n ≤ 18) (h3 : x < 10 ^ n) : numOf (padN x n) = (x : Int) := by
  rw [numOf_yes (by rw [padN_len h1 h3]; exact h2) (padN_dig x n), padN_val]
theorem dig_plain {l : List UInt8} (h : within 48 57 l = true) : within 32 126 l = true :=
  within_of fun c hc => by have := within_mem h c hc; omega

end Go.Proofs.Ytlonjjliochbhaa

/- The specification's decimal numeral. -/
namespace Go.Proofs.Ytlonjjliochbhaa
open Go.RowKit

/-- the digits of m, none for 0 -/
def low (m : Nat) : List UInt8 := if m = 0 then [] else Lib.decDigits m
theorem low_step (m : Nat) (h : m ≠ 0) : low m = low (m / 10) ++ [UInt8.ofNat (48 + m % 10)] := by
  unfold low
  rw [if_neg h, Lib.decDigits]
  by_cases h1 : m < 10
  · rw [dif_pos h1, if_pos (by omega), Nat.mod_eq_of_lt h1]; rfl
  · rw [dif_neg h1, if_neg (by omega)]

theorem dec_len (a : Nat) (ha : a ≤ 9223372036854775807) : (Lib.decDigits a).length ≤ 21 := by
  have := Lib.itoa_length_le (a : Int) (by omega) (by omega)
  simpa [Lib.itoa, show ¬ (a : Int) < 0 from by omega] using this

theorem dig_one (d : Nat) (h : d < 10) : (⟨#[48, 49, 50, 51, 52, 53, 54, 55, 56, 57]⟩ : ByteArray).extract d (d + 1) = ⟨[UInt8.ofNat (48 + d)].toArray⟩ := by
  rcases (show d = 0 ∨ d = 1 ∨ d = 2 ∨ d = 3 ∨ d = 4 ∨ d = 5 ∨ d = 6 ∨ d = 7 ∨ d = 8 ∨ d = 9 from by omega) with rfl | rfl | rfl | rfl | rfl | rfl | rfl | rfl | rfl | rfl <;> decide
theorem dig_piece (d : Nat) (l : List UInt8) (h : d < 10) : (⟨#[48, 49, 50, 51, 52, 53, 54, 55, 56, 57]⟩ : ByteArray).extract d (d + 1) ++ ⟨l.toArray⟩ = ⟨(UInt8.ofNat (48 + d) :: l).toArray⟩ := by
  rw [dig_one d h, ba_append]; rfl

set_option maxHeartbeats 800000 in
theorem dec_up (a : Nat) (w : World) (ha : a ≤ 9223372036854775807) :
    Calls Try.prog 28 #[.int .i64 a] w fun e w' => e = .returned (.string ⟨(Lib.decDigits a).toArray⟩) ∧ w' = w := by
  by_cases h0 : a = 0
  · subst h0
    go_enter Try.func28, Try.ntmps28
    go_wp2
    go_ret
    exact ⟨one_str (by rw [Lib.decDigits_one (by omega)]; rfl), rfl⟩
  · have hne : ((a : Int) == 0) = false := by simp; omega
    have hnn : ¬ (a : Int) < 0 := by omega
    go_enter Try.func28, Try.ntmps28
    go_wp2
    go_loop [3, 4, 5] (fun o m _ => ∃ (k : Nat) (l : List UInt8), k ≤ a ∧ m = .int .i64 k ∧ o = .string ⟨l.toArray⟩ ∧ Lib.decDigits a = low k ++ l) (fun _ m _ => (intOf m).toNat)
    case atStart => exact ⟨a, [], Nat.le_refl _, rfl, rfl, by simp [low, h0]⟩
    case round =>
      obtain ⟨k, l, hk, rfl, rfl, hd⟩ := hrel
      by_cases hk0 : k = 0
      · subst hk0
        have HD : Hid _ := hd
        clear hd
        go_wp2
        go_ret
        exact ⟨one_str (by have := HD.out; simp [low] at this; rw [this]), rfl⟩
      · have kne : ((k : Int) != 0) = true := by simp; omega
        have HD : Hid (Lib.decDigits a = low (k / 10) ++ (UInt8.ofNat (48 + k % 10) :: l)) := by rw [Hid, hd, low_step k hk0]; simp
        have hl : l.length ≤ 21 := by have h1 := dec_len a ha; rw [hd] at h1; simp at h1; omega
        clear hd
        go_wp2
        go_round
        case rel => exact ⟨k / 10, UInt8.ofNat (48 + k % 10) :: l, by omega, by go_num, by rw [dig_piece _ _ (by omega)], HD.out⟩
        case measure => simp [intOf]; omega

end Go.Proofs.Ytlonjjliochbhaa

/- The contract of the specification's PadNum: what it returns for every two numbers. -/
namespace Go.Proofs.Ytlonjjliochbhaa
open Go.RowKit

set_option maxRecDepth 100000 in
set_option maxHeartbeats 400000 in
theorem l01Ten_any (n : Nat) (w : World) (hn : n ≤ 18) :
    Calls Try.prog 44 #[.int .i64 n] w fun e w' => e = .returned (.int .i64 (10 ^ n : Nat)) ∧ w' = w := by
  go_enter Try.func44, Try.ntmps44
  go_wp2
  go_loop [3, 4] (fun p i => ∃ k : Nat, k ≤ n ∧ i = .int .i64 k ∧ p = .int .i64 (10 ^ k : Nat)) (fun _ i => n - (intOf i).toNat)
  case atStart => exact ⟨0, Nat.zero_le _, rfl, rfl⟩
  case round =>
    obtain ⟨k, hk, rfl, rfl⟩ := hrel
    by_cases hlt : k < n
    · have hki : (k : Int) < (n : Int) := by omega
      have hp : 10 ^ k ≤ 10 ^ 17 := Nat.pow_le_pow_right (by omega) (by omega)
      have hs : 10 ^ (k + 1) = 10 ^ k * 10 := Nat.pow_succ 10 k
      obtain ⟨x, hx⟩ : ∃ x : Nat, 10 ^ k = x := ⟨_, rfl⟩
      rw [hx] at hp hs ⊢
      have HS : Hid (((10 ^ (k + 1) : Nat) : Int) = 10 * (x : Int)) := by rw [Hid, hs]; omega
      have hxb : x ≤ 100000000000000000 := by omega
      clear hs hx hp
      go_wp2
      go_round
      case rel => exact ⟨k + 1, by omega, by go_num, by rw [HS.out]⟩
      case measure => simp [intOf]; omega
    · have hke : k = n := by omega
      subst hke
      obtain ⟨x, hx⟩ : ∃ x : Nat, 10 ^ k = x := ⟨_, rfl⟩
      rw [hx]
      have HX : Hid _ := hx
      clear hx
      go_wp2
      go_ret
      exact ⟨one_int (by rw [← HX.out]; simp), rfl⟩

def strLen : Value → Nat
  | .string b => b.size
  | _ => 0
theorem strLen_list (l : List UInt8) : strLen (.string ⟨l.toArray⟩) = l.length := by simp [strLen, ByteArray.size]

set_option maxRecDepth 100000 in
set_option maxHeartbeats 800000 in
theorem sPadNum_any (x n : Int) (w : World) :
    Calls Try.prog 29 #[.int .i64 x, .int .i64 n] w fun e w' => e = .returned (.string ⟨(padT x n).toArray⟩) ∧ Below w.heap.size w w' := by
  cases h1 : inB n 1 18
  · have h1o : ¬ (1 ≤ n ∧ n ≤ 18) := of_decide_eq_false h1
    have HN : Hid _ := padT_no (padOk_no1 (x := x) h1o)
    go_enter Try.func29, Try.ntmps29
    go_wp2_with fail
    refine (in_any _ _ _ _).mono ?_
    rintro e w1 ⟨rfl, hw1⟩
    subst hw1
    rw [h1]
    go_wp2
    go_ret
    exact ⟨one_str (by rw [HN.out]), Below.refl _ _⟩
  · have h1i : 1 ≤ n ∧ n ≤ 18 := of_decide_eq_true h1
    have HI : Hid _ := h1
    obtain ⟨m, rfl⟩ := Int.eq_ofNat_of_zero_le (show 0 ≤ n by omega)
    have hp : 10 ^ m ≤ 10 ^ 18 := Nat.pow_le_pow_right (by omega) (by omega)
    have hp0 : 0 < 10 ^ m := Nat.pow_pos (by omega)
    have hm18 : m ≤ 18 := by omega
    have HM1 : Hid (1 ≤ m) := by rw [Hid]; omega
    clear h1
    obtain ⟨y, hy⟩ : ∃ y : Nat, 10 ^ m = y := ⟨_, rfl⟩
    rw [hy] at hp hp0
    have hyb : y ≤ 1000000000000000000 := by omega
    have HYM : Hid _ := hy
    clear hy hp
    cases h2 : inB x 0 ((y : Int) - 1)
    · have h2o : ¬ (0 ≤ x ∧ x ≤ (y : Int) - 1) := of_decide_eq_false h2
      have HN : Hid _ := padT_no (padOk_no2 (x := x) (n := m) (by rw [Int.toNat_natCast, HYM.out]; omega))
      go_enter Try.func29, Try.ntmps29
      go_wp2_with fail
      refine (in_any _ _ _ _).mono ?_
      rintro e w1 ⟨rfl, hw1⟩
      subst hw1
      rw [HI.out]
      go_wp2_with fail
      refine (l01Ten_any m _ hm18).mono ?_
      rintro e w1 ⟨rfl, hw1⟩
      subst hw1
      rw [HYM.out]
      go_wp2_with fail
      refine (in_any _ _ _ _).mono ?_
      rintro e w1 ⟨rfl, hw1⟩
      subst hw1
      rw [h2]
      go_wp2
      go_ret
      exact ⟨one_str (by rw [HN.out]), Below.refl _ _⟩
    · have h2i : 0 ≤ x ∧ x ≤ (y : Int) - 1 := of_decide_eq_true h2
      obtain ⟨a, rfl⟩ := Int.eq_ofNat_of_zero_le h2i.1
      have H2 : Hid _ := h2
      have hay : a < y := by omega
      have HY : Hid (padT a m = padN a m) := padT_yes HM1.out hm18 (by rw [HYM.out]; exact hay)
      have hsl := dec_len_pow m a HM1.out (by rw [HYM.out]; exact hay)
      unfold padN at HY
      clear h2
      go_enter Try.func29, Try.ntmps29
      go_wp2_with fail
      refine (in_any _ _ _ _).mono ?_
      rintro e w1 ⟨rfl, hw1⟩
      subst hw1
      rw [HI.out]
      go_wp2_with fail
      refine (l01Ten_any m _ hm18).mono ?_
      rintro e w1 ⟨rfl, hw1⟩
      subst hw1
      rw [HYM.out]
      go_wp2_with fail
      refine (in_any _ _ _ _).mono ?_
      rintro e w1 ⟨rfl, hw1⟩
      subst hw1
      rw [H2.out]
      clear H2 HI
      go_wp2_with fail
      refine (dec_up a _ (by omega)).mono ?_
      rintro e w1 ⟨rfl, hw1⟩
      subst hw1
      generalize Lib.decDigits a = s at hsl HY
      go_wp2
      go_loop [5] (fun v => ∃ k : Nat, k ≤ m - s.length ∧ v = .string ⟨(List.replicate k 48 ++ s).toArray⟩) (fun v => m - strLen v)
      case atStart => exact ⟨0, Nat.zero_le _, rfl⟩
      case round =>
        obtain ⟨k, hk, rfl⟩ := hrel
        have hsz : (List.replicate k (48 : UInt8) ++ s).length = k + s.length := by simp
        have HS2 : Hid ((⟨#[48]⟩ : ByteArray) ++ ⟨(List.replicate k 48 ++ s).toArray⟩ = ⟨(List.replicate (k + 1) 48 ++ s).toArray⟩) := ba_append [48] (List.replicate k 48 ++ s)
        have HS3 : Hid (strLen (.string ((⟨#[48]⟩ : ByteArray) ++ ⟨(List.replicate k 48 ++ s).toArray⟩)) = k + 1 + s.length) := by rw [Hid, HS2.out, strLen_list]; simp
        have HS4 : Hid (strLen (.string ⟨(List.replicate k 48 ++ s).toArray⟩) = k + s.length) := by rw [Hid, strLen_list, hsz]
        have HK : Hid (k = m - s.length → padT a m = List.replicate k 48 ++ s) := fun e => by rw [e]; exact HY.out
        generalize List.replicate k (48 : UInt8) ++ s = p at hsz HS2 HS3 HS4 HK
        have hpl : p.length ≤ 25 := by omega
        by_cases hlt : p.length < m
        · have hlt' : (p.length : Int) < (m : Int) := by omega
          have hkd : k + 1 ≤ m - s.length := by omega
          have hme : m - (k + 1 + s.length) < m - (k + s.length) := by omega
          clear hsz
          go_wp2
          go_round
          case rel => exact ⟨k + 1, hkd, by rw [HS2.out]⟩
          case measure => rw [HS3.out, HS4.out]; exact hme
        · have hlt' : (m : Int) ≤ (p.length : Int) := by omega
          have HP : Hid _ := HK.out (by omega)
          clear hsz HK HS2 HS3 HS4 hk
          go_wp2
          go_ret
          exact ⟨one_str (by rw [HP.out]), Below.refl _ _⟩

end Go.Proofs.Ytlonjjliochbhaa

/- The decimal text of whatever number: some text, and not a long one. -/
namespace Go.Proofs.Ytlonjjliochbhaa
open Go.RowKit Tg
set_option maxRecDepth 100000

theorem wrapT_eq (n : Int) : IntKind.i64.wrap n = if 9223372036854775808 ≤ n % 18446744073709551616 then n % 18446744073709551616 - 18446744073709551616 else n % 18446744073709551616 := by
  simp [IntKind.wrap, IntKind.bits, IntKind.signed]
theorem wrapT_bd (n : Int) : -9223372036854775808 ≤ IntKind.i64.wrap n ∧ IntKind.i64.wrap n ≤ 9223372036854775807 := by
  rw [wrapT_eq]
  by_cases h : 9223372036854775808 ≤ n % 18446744073709551616
  · rw [if_pos h]; omega
  · rw [if_neg h]; omega
theorem wrapT_id {n : Int} (h1 : -9223372036854775808 ≤ n) (h2 : n ≤ 9223372036854775807) : IntKind.i64.wrap n = n := by
  rw [wrapT_eq]
  by_cases h : 9223372036854775808 ≤ n % 18446744073709551616
  · rw [if_pos h]; omega
  · rw [if_neg h]; omega
/-- how many digits there may be yet -/
def QT (j : Nat) (k : Int) : Prop := j = 0 ∨ (1 ≤ j ∧ k.natAbs * 10 ^ (j - 1) ≤ 9223372036854775808)
theorem QT_bd {j : Nat} {k : Int} (h : QT j k) (hk : k ≠ 0) : j ≤ 19 := by
  rcases h with rfl | ⟨h1, h2⟩
  · omega
  · by_cases hj : j ≤ 19
    · exact hj
    · have h3 : 10 ^ 19 ≤ 10 ^ (j - 1) := Nat.pow_le_pow_right (by omega) (by omega)
      have h4 : 1 * 10 ^ (j - 1) ≤ k.natAbs * 10 ^ (j - 1) := Nat.mul_le_mul_right _ (by omega)
      omega
theorem tdiv_abs (k : Int) : (k.tdiv 10).natAbs = k.natAbs / 10 := by rw [Int.natAbs_tdiv]; rfl
theorem QT_next {j : Nat} {k : Int} (h : QT j k) (_hk : k ≠ 0) : QT (j + 1) (IntKind.i64.wrap (k.tdiv 10)) ∧ (IntKind.i64.wrap (k.tdiv 10)).natAbs < k.natAbs := by
  have ha := tdiv_abs k
  have hb := wrapT_bd (k.tdiv 10)
  by_cases hs : k.natAbs ≤ 9223372036854775808
  · have e : IntKind.i64.wrap (k.tdiv 10) = k.tdiv 10 := wrapT_id (by omega) (by omega)
    rw [e]
    refine ⟨.inr ⟨by omega, ?_⟩, by omega⟩
    rcases h with rfl | ⟨h1, h2⟩
    · rw [ha]; simp; omega
    · have e2 : 10 ^ (j + 1 - 1) = 10 ^ (j - 1) * 10 := by rw [← Nat.pow_succ]; congr 1; omega
      have h3 : k.natAbs / 10 * 10 ≤ k.natAbs := Nat.div_mul_le_self _ _
      have h4 := Nat.mul_le_mul_right (10 ^ (j - 1)) h3
      rw [ha, e2]
      have e3 : k.natAbs / 10 * (10 ^ (j - 1) * 10) = k.natAbs / 10 * 10 * 10 ^ (j - 1) := by
        rw [Nat.mul_comm (10 ^ (j - 1)) 10, Nat.mul_assoc]
      omega
  · rcases h with rfl | ⟨h1, h2⟩
    · refine ⟨.inr ⟨by omega, ?_⟩, by omega⟩
      simp; omega
    · exfalso
      have h3 : 1 ≤ 10 ^ (j - 1) := Nat.one_le_pow _ _ (by omega)
      have h4 : k.natAbs * 1 ≤ k.natAbs * 10 ^ (j - 1) := Nat.mul_le_mul_left _ h3
      omega

set_option maxHeartbeats 800000 in
theorem dec_tot (n : Int) (w : World) :
    Calls Try.prog 28 #[.int .i64 n] w fun e w' => ∃ l : List UInt8, e = .returned (.string ⟨l.toArray⟩) ∧ l.length ≤ 22 ∧ w' = w := by
  by_cases h0 : n = 0
  · subst h0
    go_enter Try.func28, Try.ntmps28
    go_wp2
    go_ret
    exact ⟨[48], rfl, by simp, rfl⟩
  · have hne : (n == 0) = false := by simpa using h0
    go_enter Try.func28, Try.ntmps28
    go_wp2
    go_loop [3, 4, 5] (fun o m _ => ∃ (k : Int) (l : List UInt8), m = .int .i64 k ∧ o = .string ⟨l.toArray⟩ ∧ l.length ≤ 20 ∧ QT l.length k) (fun _ m _ => (intOf m).natAbs)
    case atStart => exact ⟨n, [], rfl, rfl, by simp, .inl rfl⟩
    case round =>
      obtain ⟨k, l, rfl, rfl, hl, hq⟩ := hrel
      by_cases hk0 : k = 0
      · subst hk0
        clear hq
        by_cases hn : n < 0
        · go_wp2
          go_ret
          exact ⟨45 :: l, by rw [show (⟨#[45]⟩ : ByteArray) = ⟨[45].toArray⟩ from rfl, ba_append]; rfl, by simp; omega, rfl⟩
        · go_wp2
          go_ret
          exact ⟨l, rfl, by omega, rfl⟩
      · have kne : (k != 0) = true := by simpa using hk0
        have hb := QT_bd hq hk0
        obtain ⟨hq1, hq2⟩ := QT_next hq hk0
        obtain ⟨k2, hk2⟩ : ∃ x, IntKind.i64.wrap (k.tdiv 10) = x := ⟨_, rfl⟩
        rw [hk2] at hq1 hq2
        have HQ1 : Hid _ := hq1
        have HQ2 : Hid (k2.natAbs < k.natAbs) := hq2
        have hr : (k.tmod 10).natAbs < 10 := by
          rw [Int.natAbs_tmod]; exact Nat.mod_lt _ (by decide)
        obtain ⟨r, hre⟩ : ∃ r, k.tmod 10 = r := ⟨_, rfl⟩
        rw [hre] at hr
        clear hq hq1 hq2
        by_cases hs : r < 0
        · obtain ⟨d, hd⟩ : ∃ d : Nat, r = -(d : Int) := ⟨r.natAbs, by omega⟩
          subst hd
          have hd9 : d < 10 := by omega
          have hd0 : 0 < d := by omega
          have hw : IntKind.i64.wrap (-(d : Int)) = -(d : Int) := wrapT_id (by omega) (by omega)
          clear hr
          go_wp2
          go_round
          case rel => exact ⟨k2, UInt8.ofNat (48 + d) :: l, by rfl, by rw [dig_piece _ _ hd9], by simp; omega, HQ1.out⟩
          case measure => simp only [intOf]; exact HQ2.out
        · obtain ⟨d, hd⟩ : ∃ d : Nat, r = (d : Int) := ⟨r.natAbs, by omega⟩
          subst hd
          have hd9 : d < 10 := by omega
          clear hr
          go_wp2
          go_round
          case rel => exact ⟨k2, UInt8.ofNat (48 + d) :: l, by rfl, by rw [dig_piece _ _ hd9], by simp; omega, HQ1.out⟩
          case measure => simp only [intOf]; exact HQ2.out

end Go.Proofs.Ytlonjjliochbhaa

/- The cursor over the bytes of a draw: whatever the bytes, what is drawn is within its bounds. -/
namespace Go.Proofs.Ytlonjjliochbhaa
open Go.RowKit

theorem setD_other {w : World} {g k g' k' : Nat} {v u : Value} (h : g = g' → k ≠ k') (hc : w.cell? ⟨g', k', none⟩ = some u) : (w.setCell ⟨g, k, none⟩ v).cell? ⟨g', k', none⟩ = some u := by
  rw [World.cell?_setCell_other w ⟨g, k, none⟩ v (b := ⟨g', k', none⟩) (fun e => by injection e with e1 e2; exact h e1 e2)]; exact hc
theorem set_same {w : World} {g k : Nat} {v u : Value} (hc : w.cell? ⟨g, k, none⟩ = some u) : (w.setCell ⟨g, k, none⟩ v).cell? ⟨g, k, none⟩ = some v := World.cell?_setCell_same w ⟨g, k, none⟩ v hc
theorem set_frozen {w : World} {a b : Addr} {v : Value} (h : w.frozen? b = false) : (w.setCell a v).frozen? b = false := by simp [h]

/-- n bytes lie at 'ao', below block B, none of them in block g -/
def BytesAt (B : Nat) (w : World) (g : Nat) (ao : Option Addr) (n : Nat) : Prop :=
  n = 0 ∨ ∃ b off, ao = some ⟨b, off, none⟩ ∧ b ≠ g ∧ b < B ∧ ∀ j, j < n → ∃ v : Int, 0 ≤ v ∧ v ≤ 255 ∧ w.cell? ⟨b, off + j, none⟩ = some (.int .u8 v)

/-- block g is a cursor over bytes that lie elsewhere, all of it below block B -/
def Cursor (B : Nat) (w : World) (g : Nat) : Prop :=
  ∃ (ao : Option Addr) (n cap : Nat) (i h : Int), 0 ≤ i ∧ i ≤ n ∧ n ≤ 1048576 ∧ (g < B ∧ B ≤ w.heap.size) ∧ w.cell? ⟨g, 0, none⟩ = some (.slice ao n cap) ∧ w.cell? ⟨g, 1, none⟩ = some (.int .i64 i) ∧
    w.cell? ⟨g, 2, none⟩ = some (.int .i64 h) ∧ w.frozen? ⟨g, 1, none⟩ = false ∧ w.frozen? ⟨g, 2, none⟩ = false ∧ BytesAt B w g ao n

theorem wrap_small (n : Nat) (h : n ≤ 1073741823) : IntKind.i64.wrap (n : Int) = n := by
  simp [IntKind.wrap, IntKind.bits, IntKind.signed]; omega
theorem and_mask (a : Int) (m : Nat) (hm : m ≤ 1073741823) : 0 ≤ bits .and .i64 a (m : Int) ∧ bits .and .i64 a (m : Int) ≤ m := by
  have h : (BitVec.ofInt 64 a &&& BitVec.ofInt 64 (m : Int)).toNat ≤ m := by
    rw [BitVec.toNat_and]
    refine Nat.le_trans Nat.and_le_right ?_
    rw [BitVec.toNat_ofInt]
    omega
  have e : bits .and .i64 a (m : Int) = IntKind.i64.wrap (((BitVec.ofInt 64 a &&& BitVec.ofInt 64 (m : Int)).toNat : Nat) : Int) := rfl
  rw [e, wrap_small _ (by omega)]
  omega
theorem and255 (a : Int) : 0 ≤ bits .and .i64 a 255 ∧ bits .and .i64 a 255 ≤ 255 := and_mask a 255 (by omega)

theorem grown_set (w : World) (g k : Nat) (v : Value) : w.grownBy (w.setCell ⟨g, k, none⟩ v) (some g) :=
  ⟨rfl, rfl, rfl, by simp, fun j _ hj => Below.heap_setCell _ _ _ _ (fun e => hj (by rw [e]))⟩
theorem grown_drewN {w w' : World} {row : Option Nat} (h : w.grownBy w' row) (n : Nat) : w.grownBy (w'.drewN n) row := ⟨h.os, h.tape, h.output, h.size, h.block⟩

theorem bytes_set {B : Nat} {w : World} {g k n : Nat} {v : Value} {ao : Option Addr} (h : BytesAt B w g ao n) : BytesAt B (w.setCell ⟨g, k, none⟩ v) g ao n := by
  rcases h with h | ⟨b, off, h1, h2, h3, h4⟩
  · exact .inl h
  · refine .inr ⟨b, off, h1, h2, h3, fun j hj => ?_⟩
    obtain ⟨x, x0, x1, hx⟩ := h4 j hj
    exact ⟨x, x0, x1, setD_other (fun e => absurd e.symm h2) hx⟩
theorem cursor_h {B : Nat} {w : World} {g : Nat} (hc : Cursor B w g) (H : Int) : Cursor B (w.setCell ⟨g, 2, none⟩ (.int .i64 H)) g := by
  obtain ⟨ao, n, cap, i, h, h1, h2, h3, hg, c0, c1, c2, f1, f2, hb⟩ := hc
  exact ⟨ao, n, cap, i, H, h1, h2, h3, by simpa using hg, setD_other (by omega) c0, setD_other (by omega) c1, set_same c2, set_frozen f1, set_frozen f2, bytes_set hb⟩
theorem cursor_i {B : Nat} {w : World} {g n cap : Nat} {ao : Option Addr} (hc : Cursor B w g) (h0 : w.cell? ⟨g, 0, none⟩ = some (.slice ao n cap)) (j : Int) (j0 : 0 ≤ j) (j1 : j ≤ n) : Cursor B (w.setCell ⟨g, 1, none⟩ (.int .i64 j)) g := by
  obtain ⟨ao', n', cap', i, h, h1, h2, h3, hg, c0, c1, c2, f1, f2, hb⟩ := hc
  rw [h0] at c0
  obtain ⟨rfl, rfl, rfl⟩ : ao = ao' ∧ n = n' ∧ cap = cap' := by simpa using c0
  exact ⟨ao, n, cap, j, h, j0, j1, h3, by simpa using hg, setD_other (by omega) h0, set_same c1, setD_other (by omega) c2, set_frozen f1, set_frozen f2, bytes_set hb⟩
theorem cursor_keep {B : Nat} {w w' : World} {g : Nat} (hc : Cursor B w g) (hb : Below B w w') : Cursor B w' g := by
  obtain ⟨ao, n, cap, i, h, h1, h2, h3, hg, c0, c1, c2, f1, f2, hy⟩ := hc
  have hl := hg.1
  refine ⟨ao, n, cap, i, h, h1, h2, h3, ⟨hg.1, Nat.le_trans hg.2 hb.size⟩, (hb.cell hl).trans c0, (hb.cell hl).trans c1, (hb.cell hl).trans c2, (hb.frozen hl).trans f1, (hb.frozen hl).trans f2, ?_⟩
  rcases hy with hy | ⟨b, off, y1, y2, y3, y4⟩
  · exact .inl hy
  · refine .inr ⟨b, off, y1, y2, y3, fun j hj => ?_⟩
    obtain ⟨x, x0, x1, hx⟩ := y4 j hj
    exact ⟨x, x0, x1, (hb.cell (p := ⟨b, off + j, none⟩) y3).trans hx⟩
theorem cursor_bd {B : Nat} {w : World} {g : Nat} (hc : Cursor B w g) : g < B ∧ B ≤ w.heap.size := by
  obtain ⟨_, _, _, _, _, _, _, _, hg, _⟩ := hc; exact hg
theorem cursor_below {B : Nat} {w w' : World} {g : Nat} (hc : Cursor B w g) (hb : Below w.heap.size w w') : Cursor B w' g := cursor_keep hc (hb.mono (cursor_bd hc).2)

set_option maxHeartbeats 800000 in
theorem byte_any {B : Nat} (g : Nat) (w : World) (hc : Cursor B w g) :
    Calls Try.prog 23 #[.pointer (some ⟨g, 0, none⟩)] w fun e w' => ∃ x : Int, e = .returned (.int .i64 x) ∧ 0 ≤ x ∧ x ≤ 255 ∧ Cursor B w' g ∧ w.grownBy w' (some g) := by
  have HC : Hid (Cursor B w g) := hc
  obtain ⟨ao, n, cap, i, h, h1, h2, h3, hg, c0, c1, c2, f1, f2, hy⟩ := hc
  by_cases hlt : i < n
  · rcases hy with hy | ⟨b, off, rfl, y2, y3, y4⟩
    · omega
    · obtain ⟨v, v0, v1, cb⟩ := y4 i.toNat (by omega)
      clear y4
      go_enter Try.func23, Try.ntmps23
      go_wp2
      generalize wrap64 (wrap64 (h * 6364136223846793005) + 1442695040888963407) = H
      obtain ⟨W, hW⟩ : ∃ W, w.setCell ⟨g, 2, none⟩ (.int .i64 H) = W := ⟨_, rfl⟩
      have d0 : W.cell? ⟨g, 0, none⟩ = some (.slice (some ⟨b, off, none⟩) n cap) := hW ▸ setD_other (by omega) c0
      have d1 : W.cell? ⟨g, 1, none⟩ = some (.int .i64 i) := hW ▸ setD_other (by omega) c1
      have d2 : W.cell? ⟨g, 2, none⟩ = some (.int .i64 H) := hW ▸ set_same c2
      have db : W.cell? ⟨b, off + i.toNat, none⟩ = some (.int .u8 v) := hW ▸ setD_other (by omega) cb
      have e1 : W.frozen? ⟨g, 1, none⟩ = false := hW ▸ set_frozen f1
      have HR : Hid (Cursor B W g ∧ w.grownBy W (some g)) := hW ▸ ⟨cursor_h HC.out H, grown_set w g 2 _⟩
      rw [hW]
      clear hW c0 c1 c2 f1 f2 cb
      go_quiet (fail)
      go_wp2
      go_quiet (fail)
      go_wp2
      go_quiet (fail)
      go_wp2
      go_ret
      exact ⟨_, rfl, (and255 _).1, (and255 _).2, cursor_i HR.out.1 d0 _ (by omega) (by omega), grown_drewN (HR.out.2.trans (grown_set _ _ _ _)) _⟩
  · go_enter Try.func23, Try.ntmps23
    go_wp2
    generalize wrap64 (wrap64 (h * 6364136223846793005) + 1442695040888963407) = H
    obtain ⟨W, hW⟩ : ∃ W, w.setCell ⟨g, 2, none⟩ (.int .i64 H) = W := ⟨_, rfl⟩
    have d0 : W.cell? ⟨g, 0, none⟩ = some (.slice ao n cap) := hW ▸ setD_other (by omega) c0
    have d1 : W.cell? ⟨g, 1, none⟩ = some (.int .i64 i) := hW ▸ setD_other (by omega) c1
    have d2 : W.cell? ⟨g, 2, none⟩ = some (.int .i64 H) := hW ▸ set_same c2
    have HR : Hid (Cursor B W g ∧ w.grownBy W (some g)) := hW ▸ ⟨cursor_h HC.out H, grown_set w g 2 _⟩
    rw [hW]
    clear hW c0 c1 c2 f1 f2 hy
    go_quiet (fail)
    go_wp2
    go_quiet (fail)
    go_wp2
    go_ret
    exact ⟨_, rfl, (and255 _).1, (and255 _).2, HR.out.1, grown_drewN (grown_drewN HR.out.2 _) _⟩

set_option maxHeartbeats 800000 in
theorem below_any {B : Nat} (g : Nat) (n : Int) (w : World) (hc : Cursor B w g) (hn : n ≤ 1099511627776) :
    Calls Try.prog 16 #[.pointer (some ⟨g, 0, none⟩), .int .i64 n] w fun e w' => ∃ x : Int, e = .returned (.int .i64 x) ∧ 0 ≤ x ∧ (1 ≤ n → x < n) ∧ Cursor B w' g ∧ w.grownBy w' (some g) := by
  by_cases h1 : n ≤ 0
  · go_enter Try.func16, Try.ntmps16
    go_wp2
    go_ret
    exact ⟨0, rfl, by omega, by omega, hc, World.grownBy.refl _ _⟩
  · have hne : (n == 0) = false := by simp; omega
    by_cases h2 : n ≤ 256
    · go_enter Try.func16, Try.ntmps16
      go_wp2_with fail
      refine (byte_any _ _ hc).mono ?_
      rintro e w1 ⟨x, rfl, x0, x1, c1, g1⟩
      go_wp2
      go_ret
      exact ⟨_, rfl, Int.emod_nonneg _ (by omega), fun _ => Int.emod_lt_of_pos _ (by omega), c1, g1⟩
    · go_enter Try.func16, Try.ntmps16
      go_wp2_with fail
      refine (byte_any _ _ hc).mono ?_
      rintro e w1 ⟨x, rfl, x0, x1, c1, g1⟩
      go_wp2_with fail
      refine (byte_any _ _ c1).mono ?_
      rintro e w2 ⟨y, rfl, y0, y1, c2, g2⟩
      go_wp2_with fail
      refine (byte_any _ _ c2).mono ?_
      rintro e w3 ⟨z, rfl, z0, z1, c3, g3⟩
      go_wp2_with fail
      refine (byte_any _ _ c3).mono ?_
      rintro e w4 ⟨u, rfl, u0, u1, c4, g4⟩
      go_wp2
      go_ret
      exact ⟨_, rfl, Int.emod_nonneg _ (by omega), fun _ => Int.emod_lt_of_pos _ (by omega), c4, ((g1.trans g2).trans g3).trans g4⟩

set_option maxHeartbeats 800000 in
theorem once_any {B : Nat} (g : Nat) (n : Int) (w : World) (hc : Cursor B w g) (hn : n ≤ 1099511627776) :
    Calls Try.prog 30 #[.pointer (some ⟨g, 0, none⟩), .int .i64 n] w fun e w' => ∃ x : Bool, e = .returned (.bool x) ∧ Cursor B w' g ∧ w.grownBy w' (some g) := by
  go_enter Try.func30, Try.ntmps30
  go_wp2_with fail
  refine (below_any _ _ _ hc hn).mono ?_
  rintro e w1 ⟨x, rfl, x0, x1, c1, g1⟩
  go_wp2
  go_ret
  exact ⟨_, rfl, c1, g1⟩

/-- byte slices that came in: a new cursor over them -/
theorem bytes_of_row {w : World} {a : Option Addr} {len cap g : Nat} {zs : List Int} (h : IsRow .u8 w a len cap zs) (hg : w.heap.size ≤ g) : BytesAt g w g a len := by
  rcases h with ⟨rfl, rfl, rfl, rfl⟩ | ⟨x, rfl, hl, hm, hz, hcell, hwz⟩
  · exact .inl rfl
  · by_cases h0 : len = 0
    · exact .inl h0
    · obtain ⟨b, off, spot⟩ := x
      have hc := hcell 0 (by omega)
      have hspot : spot = none := by simpa [Addr.add] using World.cell?_spot hc
      subst hspot
      have hlt := World.block_lt_of_cell? w _ hc
      refine .inr ⟨b, off, rfl, by simp [Addr.add] at hlt; omega, by simp [Addr.add] at hlt; omega, fun j hj => ?_⟩
      have hj' := hcell j (by omega)
      have hwf := hwz (zs.getD j 0) (by
        have : j < zs.length := by omega
        simp [List.getD_eq_getElem?_getD, this])
      have hbd : 0 ≤ zs.getD j 0 ∧ zs.getD j 0 ≤ 255 := by simpa [Lit.wf, IntKind.min, IntKind.max, IntKind.signed, IntKind.bits] using hwf
      refine ⟨zs.getD j 0, hbd.1, hbd.2, ?_⟩
      by_cases e : j = 0
      · subst e; simpa [Addr.add] using hj'
      · simpa [Addr.add, e] using hj'

theorem cursor_new {w : World} {ao : Option Addr} {n cap : Nat} (h : Int) (t : TypeId) (hb : BytesAt w.heap.size w w.heap.size ao n) (hn : n ≤ 1048576) :
    Cursor (w.heap.size + 1) (w.alloc (.cells #[.slice ao n cap, .int .i64 0, .int .i64 h] t)) w.heap.size := by
  refine ⟨ao, n, cap, 0, h, by omega, by omega, hn, ⟨by omega, by simp⟩, by simp, by simp, by simp, by simp, by simp, ?_⟩
  rcases hb with hb | ⟨b, off, y1, y2, y3, y4⟩
  · exact .inl hb
  · refine .inr ⟨b, off, y1, y2, by omega, fun j hj => ?_⟩
    obtain ⟨x, x0, x1, hx⟩ := y4 j hj
    exact ⟨x, x0, x1, by rw [World.cell?_alloc_lt _ _ _ (by exact y3)]; exact hx⟩

set_option maxHeartbeats 800000 in
theorem new_any (a : Option Addr) (len cap : Nat) (zs : List Int) (w : World) (hr : IsRow .u8 w a len cap zs) (hn : len ≤ 1048576) :
    Calls Try.prog 8 #[.slice a len cap] w fun e w' => e = .returned (.pointer (some ⟨w.heap.size, 0, none⟩)) ∧ Cursor (w.heap.size + 1) w' w.heap.size ∧ Below w.heap.size w w' := by
  have hb := bytes_of_row (g := w.heap.size) hr (Nat.le_refl _)
  clear hr
  have HB : Hid (BytesAt w.heap.size w w.heap.size a len) := hb
  rcases hb with rfl | ⟨b, off, rfl, hbg, hbl, hbytes⟩
  · go_enter Try.func8, Try.ntmps8
    go_wp2
    refine wp_loop_rounds 1 ?_
    rw [rounds_succ]
    go_wp2
    go_ret
    exact ⟨rfl, cursor_new _ _ HB.out hn, (Below.refl _ _).alloc (Nat.le_refl _) _⟩
  · go_enter Try.func8, Try.ntmps8
    go_wp2
    go_loop [3, 4] (fun c i => ∃ (k : Nat) (H : Int), k ≤ len ∧ i = .int .i64 k ∧ c = .int .i64 H) (fun _ i => len - (intOf i).toNat)
    case atStart => exact ⟨0, _, Nat.zero_le _, rfl, rfl⟩
    case round =>
      obtain ⟨k, H, hk, rfl, rfl⟩ := hrel
      by_cases hlt : k < len
      · have hki : (k : Int) < (len : Int) := by omega
        by_cases h4 : (k : Int) < 4000
        · obtain ⟨v, v0, v1, cb⟩ := hbytes k hlt
          clear hbytes
          go_wp2
          go_round
          case rel => exact ⟨k + 1, _, by omega, by go_num, rfl⟩
          case measure => simp [intOf]; omega
        · clear hbytes
          go_wp2
          go_ret
          exact ⟨rfl, cursor_new _ _ HB.out hn, (Below.refl _ _).alloc (Nat.le_refl _) _⟩
      · clear hbytes
        go_wp2
        go_ret
        exact ⟨rfl, cursor_new _ _ HB.out hn, (Below.refl _ _).alloc (Nat.le_refl _) _⟩

end Go.Proofs.Ytlonjjliochbhaa

/- What is drawn from a list of ints, and what fits an int. -/
namespace Go.Proofs.Ytlonjjliochbhaa
open Go.RowKit

theorem lit_cells (w : World) (zs : List Int) (arr : Array Value) (h : arr = (zs.map (Value.int .i64)).toArray) :
    ∀ i, i < zs.length → (w.alloc (.cells arr 3)).cell? ⟨w.heap.size, i, none⟩ = some (.int .i64 (zs.getD i 0)) := by
  intro i hi
  subst h
  simp [List.getD_eq_getElem?_getD, hi]

theorem cursor_ne {B : Nat} {w : World} {g : Nat} (hc : Cursor B w g) : w.heap.size ≠ g := by
  have := cursor_bd hc; omega
theorem cursor_alloc {B : Nat} {w : World} {g : Nat} (hc : Cursor B w g) (o : Obj) : Cursor B (w.alloc o) g := cursor_below hc ((Below.refl _ _).alloc (Nat.le_refl _) _)
theorem grown_alloc (w : World) (o : Obj) (row : Option Nat) : w.grownBy (w.alloc o) row := World.grownBy_alloc w o row

set_option maxHeartbeats 800000 in
theorem pickInt_any {B : Nat} (g b cap : Nat) (zs : List Int) (w : World) (hc : Cursor B w g) (hbg : b ≠ g) (hz : ∀ i, i < zs.length → w.cell? ⟨b, i, none⟩ = some (.int .i64 (zs.getD i 0))) (h1 : 1 ≤ zs.length) (h2 : zs.length ≤ 1000) :
    Calls Try.prog 10 #[.pointer (some ⟨g, 0, none⟩), .slice (some ⟨b, 0, none⟩) zs.length cap] w fun e w' => ∃ x : Int, e = .returned (.int .i64 x) ∧ x ∈ zs ∧ Cursor B w' g ∧ w.grownBy w' (some g) := by
  go_enter Try.func10, Try.ntmps10
  go_wp2_with fail
  refine (below_any _ _ _ hc (by omega)).mono ?_
  rintro e w1 ⟨x, rfl, x0, x1, c1, g1⟩
  have hx := x1 (by omega)
  obtain ⟨k, rfl⟩ := Int.eq_ofNat_of_zero_le x0
  have hk : k < zs.length := by omega
  have cb : w1.cell? ⟨b, k, none⟩ = some (.int .i64 (zs.getD k 0)) := g1.cell (a := ⟨b, k, none⟩) (hz k hk) (by simpa using hbg)
  have hm : zs.getD k 0 ∈ zs := by simp [List.getD_eq_getElem?_getD, hk]
  generalize zs.getD k 0 = z at cb hm
  clear hz x1
  go_wp2
  go_ret
  exact ⟨z, rfl, hm, c1, g1⟩

/-- what is drawn as an int fits 64 bits -/
def Fits (x : Int) : Prop := -9223372036854775808 ≤ x ∧ x ≤ 9223372036854775807
theorem fits_wf {x : Int} (h : Fits x) : (Lit.int .i64 x).wf = true := by
  simp [Lit.wf, IntKind.min, IntKind.max, IntKind.signed, IntKind.bits]; exact h
theorem fits_small {x : Int} (h1 : -1000000000000 ≤ x) (h2 : x ≤ 1000000000000) : Fits x := ⟨by omega, by omega⟩

end Go.Proofs.Ytlonjjliochbhaa

/- What every law over drawn bytes begins with. -/
namespace Go.Proofs.Ytlonjjliochbhaa
open Go.RowKit

theorem bel_grown {w w1 w2 : World} {g : Nat} (h : Below w.heap.size w w1) (hg : w1.grownBy w2 (some g)) (h0 : w.heap.size ≤ g) : Below w.heap.size w w2 :=
  h.grown hg h.size (fun k hk => by cases hk; exact h0)
theorem row_below {k : IntKind} {w w' : World} {a : Option Addr} {len cap : Nat} {zs : List Int} (h : IsRow k w a len cap zs) (hb : Below w.heap.size w w') : IsRow k w' a len cap zs := by
  rcases h with h | ⟨x, h1, h2, h3, h4, h5, h6⟩
  · exact .inl h
  · exact .inr ⟨x, h1, h2, h3, h4, fun i hi => (hb.cell (World.block_lt_of_cell? w _ (h5 i hi))).trans (h5 i hi), h6⟩

set_option maxHeartbeats 400000 in
theorem big_any (a : Option Addr) (len cap : Nat) (w : World) :
    Calls Try.prog 4 #[.slice a len cap] w fun e w' => e = .returned (.bool (decide ((1048576 : Int) < (len : Int)))) ∧ w' = w := by
  go_enter Try.func4, Try.ntmps4
  go_wp2
  go_ret
  exact ⟨rfl, rfl⟩

end Go.Proofs.Ytlonjjliochbhaa
