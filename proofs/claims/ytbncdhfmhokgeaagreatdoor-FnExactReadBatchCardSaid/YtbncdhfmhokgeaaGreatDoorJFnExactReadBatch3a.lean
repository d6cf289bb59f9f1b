/- Joined: FWith, BatP, Msgs, BatR, FPack. -/
import Derived.Test.YtbncdhfmhokgeaaGreatDoorKFnExactReadBatchFMsgOk
import Derived.Test.YtbncdhfmhokgeaaGreatDoorKFnExactReadBatchFCopy
import Derived.Test.YtbncdhfmhokgeaaGreatDoorJFnExactReadBatch1a
import Derived.Test.YtbncdhfmhokgeaaGreatDoorJFnExactReadBatch0a
import Derived.Test.YtbncdhfmhokgeaaGreatDoorKFnExactReadBatchFFieldOf
import Derived.Test.YtbncdhfmhokgeaaGreatDoorKFnExactReadBatchMsgEq
import Derived.Lib.AppendZeros
import Derived.Maps.AppendAt
import Derived.Deep.AppendLies
/- The contract of the program's With. -/
namespace Go.Proofs.YtbncdhfmhokgeaaGreatDoor
open Go.RowKit
set_option maxRecDepth 100000

def withOk (kd : Int) (fs : List Fld) (num : Int) (d : List UInt8) : Bool := fieldOk num d && msgOk kd fs
def withL (kd : Int) (fs : List Fld) (num : Int) (d : List UInt8) : List Fld := if withOk kd fs num d = true then withF fs num d else fs
theorem withL_no {kd : Int} {fs : List Fld} {num : Int} {d : List UInt8} (h : withOk kd fs num d = false) : withL kd fs num d = fs := if_neg (by rw [h]; decide)
theorem withL_yes {kd : Int} {fs : List Fld} {num : Int} {d : List UInt8} (h : withOk kd fs num d = true) : withL kd fs num d = withF fs num d := if_pos h
theorem withL_len (kd : Int) (fs : List Fld) (num : Int) (d : List UInt8) : (withL kd fs num d).length ≤ fs.length + 1 := by
  unfold withL; split
  · exact withF_len fs num d
  · omega
/-- what With answers: a message whose fields are its own -/
def Withs (w : World) (kd : Int) (gs : List Fld) (ok : Bool) (e : Ending) (w' : World) : Prop :=
  ∃ ao cap, e = .returned (.tuple #[.agg #[.int .i64 kd, .slice ao gs.length cap], .bool ok]) ∧ w'.ownsRow w.heap.size 60 2 (.slice ao gs.length cap) gs.length (fcells gs) ∧ Below w.heap.size w w'

theorem threebox {w u : World} {x y x' y' x'' y'' : Value} {t t' t'' : TypeId} (b : Below (((w.alloc (.cells #[x, y] t)).alloc (.cells #[x', y'] t')).alloc (.cells #[x'', y''] t'')).heap.size (((w.alloc (.cells #[x, y] t)).alloc (.cells #[x', y'] t')).alloc (.cells #[x'', y''] t'')) u) :
    u.cell? ⟨w.heap.size, 0, none⟩ = some x ∧ u.cell? ⟨w.heap.size, 1, none⟩ = some y ∧ u.cell? ⟨w.heap.size + 1, 0, none⟩ = some x' ∧ u.cell? ⟨w.heap.size + 1, 1, none⟩ = some y' ∧
      u.frozen? ⟨w.heap.size + 1, 0, none⟩ = false ∧ u.frozen? ⟨w.heap.size + 1, 1, none⟩ = false ∧ u.cell? ⟨w.heap.size + 1 + 1, 0, none⟩ = some x'' ∧ u.cell? ⟨w.heap.size + 1 + 1, 1, none⟩ = some y'' ∧ Below w.heap.size w u ∧ w.heap.size + 1 + 1 < u.heap.size :=
  ⟨(b.cell (p := ⟨w.heap.size, 0, none⟩) (by simp; omega)).trans (by simp [go_sem]), (b.cell (p := ⟨w.heap.size, 1, none⟩) (by simp; omega)).trans (by simp [go_sem]),
    (b.cell (p := ⟨w.heap.size + 1, 0, none⟩) (by simp)).trans (by simp [go_sem]), (b.cell (p := ⟨w.heap.size + 1, 1, none⟩) (by simp)).trans (by simp [go_sem]),
    (b.frozen (p := ⟨w.heap.size + 1, 0, none⟩) (by simp)).trans (by simp [go_sem]), (b.frozen (p := ⟨w.heap.size + 1, 1, none⟩) (by simp)).trans (by simp [go_sem]),
    (b.cell (p := ⟨w.heap.size + 1 + 1, 0, none⟩) (by simp)).trans (by simp [go_sem]), (b.cell (p := ⟨w.heap.size + 1 + 1, 1, none⟩) (by simp)).trans (by simp [go_sem]),
    ((((Below.refl _ _).alloc (Nat.le_refl _) _).alloc (by simp) _).alloc (by simp; omega) _).trans (b.mono (by simp; omega)), by have := b.size; simp at this; omega⟩

theorem with_end {kd : Int} {g n : Nat} {w u : World} {ok : Bool} {gs fs : List Fld} (hg : gs = fs) (hn : n = fs.length) (ho : u.ownsRow w.heap.size 60 2 (.slice (some ⟨g, 0, none⟩) n n) n (fcells fs)) (hb : Below w.heap.size w u) (hlt : w.heap.size + 1 < g) :
    Withs w kd gs ok (.returned (.tuple #[.agg #[.int .i64 kd, .slice (some ⟨g, 0, none⟩) n n], .bool ok])) ((u.setCell ⟨w.heap.size + 1, 0, none⟩ (.int .i64 kd)).setCell ⟨w.heap.size + 1, 1, none⟩ (.slice (some ⟨g, 0, none⟩) n n)) := by
  subst hg; subst hn
  have hne : ∀ (x : Nat), (Value.slice (some ⟨g, 0, none⟩) gs.length gs.length).ownBlock = some x → x ≠ w.heap.size + 1 := by
    intro x h
    simp [Value.ownBlock] at h
    omega
  exact ⟨_, _, rfl, keepSet (keepSet ho _ _ hne) _ _ hne, (hb.setCell (by show w.heap.size ≤ w.heap.size + 1; omega) _).setCell (by show w.heap.size ≤ w.heap.size + 1; omega) _⟩

theorem iMessageOk_is {kd : Int} {ao : Option Addr} {cap : Nat} {fs : List Fld} {w : World} {q : Bool} (hq : msgOk kd fs = q) (hz : FldsAt w ao fs) (hn : fs.length ≤ 1048576) (hd : sumF fs ≤ 1048576) :
    Calls Tryz.prog 35 #[.agg #[.int .i64 kd, .slice ao fs.length cap]] w fun e w' => e = .returned (.bool q) ∧ Below w.heap.size w w' := by
  rw [← hq]; exact iMessageOk_any kd ao cap fs w hz hn hd

set_option maxHeartbeats 1600000 in
theorem iWith_no (kd : Int) (ao : Option Addr) (cap : Nat) (fs : List Fld) (num : Int) (d : List UInt8) (w : World) (hz : FldsAt w ao fs) (hn : fs.length ≤ 1048576) (hd : sumF fs ≤ 1048576) (hl : d.length ≤ 1099511627776) (hno : withOk kd fs num d = false) :
    Calls Tryz.prog 22 #[.agg #[.int .i64 kd, .slice ao fs.length cap], .int .i64 num, .string ⟨d.toArray⟩] w (Withs w kd (withL kd fs num d) (withOk kd fs num d)) := by
  have HL : Hid _ := withL_no hno
  have hds : ∀ f ∈ fs, f.2.length ≤ 1099511627776 := fun f hf => by have := sumF_mem hf; omega
  rw [hno]
  have hno' := hno
  unfold withOk at hno'
  cases hf : fieldOk num d
  · have HF : Hid _ := hf
    clear hno hno' hf
    go_enter Tryz.func22, Tryz.ntmps22
    go_wp2_with fail
    refine (iFieldOk_is HF.out _ hl).mono ?_
    rintro e w1 ⟨rfl, b1⟩
    obtain ⟨x0, x1, x2, x3, f2, f3, _, _, bel, hsz⟩ := threebox b1
    clear b1
    go_wp2_with fail
    refine (copyMessage_any _ _ _ _ _ (hz.below bel) (by omega) hds).mono ?_
    rintro e w2 ⟨g, rfl, o2, b2⟩
    have y2 := (b2.cell (p := ⟨w.heap.size + 1, 0, none⟩) (by show w.heap.size + 1 < w1.heap.size; omega)).trans x2
    have y3 := (b2.cell (p := ⟨w.heap.size + 1, 1, none⟩) (by show w.heap.size + 1 < w1.heap.size; omega)).trans x3
    have z2 := (b2.frozen (p := ⟨w.heap.size + 1, 0, none⟩) (by show w.heap.size + 1 < w1.heap.size; omega)).trans f2
    have z3 := (b2.frozen (p := ⟨w.heap.size + 1, 1, none⟩) (by show w.heap.size + 1 < w1.heap.size; omega)).trans f3
    have hgl : w.heap.size + 1 < g := by have := (o2.lt g rfl).1; omega
    have HE : Hid _ := with_end (kd := kd) (ok := false) HL.out rfl (lowerRow o2 bel.size) (next bel b2) hgl
    clear x0 x1 x2 x3 f2 f3 bel hsz o2 b2 hz
    go_wp2
    refine bodyPost_ret (by simp [results, Tryz.results22, go_sem, y2, y3]; try rfl) rfl ?_
    exact HE.out
  · rw [hf, Bool.true_and] at hno'
    have HF : Hid _ := hf
    have HM : Hid _ := hno'
    clear hno hno' hf
    go_enter Tryz.func22, Tryz.ntmps22
    go_wp2_with fail
    refine (iFieldOk_is HF.out _ hl).mono ?_
    rintro e w1 ⟨rfl, b1⟩
    obtain ⟨x0, x1, x2, x3, f2, f3, _, _, bel, hsz⟩ := threebox b1
    clear b1
    go_wp2_with fail
    refine (iMessageOk_is HM.out (hz.below bel) hn hd).mono ?_
    rintro e w1' ⟨rfl, b1'⟩
    have x0 := (b1'.cell (p := ⟨w.heap.size, 0, none⟩) (by show w.heap.size < w1.heap.size; omega)).trans x0
    have x1 := (b1'.cell (p := ⟨w.heap.size, 1, none⟩) (by show w.heap.size < w1.heap.size; omega)).trans x1
    have x2 := (b1'.cell (p := ⟨w.heap.size + 1, 0, none⟩) (by show w.heap.size + 1 < w1.heap.size; omega)).trans x2
    have x3 := (b1'.cell (p := ⟨w.heap.size + 1, 1, none⟩) (by show w.heap.size + 1 < w1.heap.size; omega)).trans x3
    have f2 := (b1'.frozen (p := ⟨w.heap.size + 1, 0, none⟩) (by show w.heap.size + 1 < w1.heap.size; omega)).trans f2
    have f3 := (b1'.frozen (p := ⟨w.heap.size + 1, 1, none⟩) (by show w.heap.size + 1 < w1.heap.size; omega)).trans f3
    have bel := next bel b1'
    have hsz' := b1'.size
    clear b1'
    go_wp2_with fail
    refine (copyMessage_any _ _ _ _ _ (hz.below bel) (by omega) hds).mono ?_
    rintro e w2 ⟨g, rfl, o2, b2⟩
    have y2 := (b2.cell (p := ⟨w.heap.size + 1, 0, none⟩) (by show w.heap.size + 1 < w1'.heap.size; omega)).trans x2
    have y3 := (b2.cell (p := ⟨w.heap.size + 1, 1, none⟩) (by show w.heap.size + 1 < w1'.heap.size; omega)).trans x3
    have z2 := (b2.frozen (p := ⟨w.heap.size + 1, 0, none⟩) (by show w.heap.size + 1 < w1'.heap.size; omega)).trans f2
    have z3 := (b2.frozen (p := ⟨w.heap.size + 1, 1, none⟩) (by show w.heap.size + 1 < w1'.heap.size; omega)).trans f3
    have hgl : w.heap.size + 1 < g := by have := (o2.lt g rfl).1; omega
    have HE : Hid _ := with_end (kd := kd) (ok := false) HL.out rfl (lowerRow o2 bel.size) (next bel b2) hgl
    clear x0 x1 x2 x3 f2 f3 bel hsz o2 b2 hz
    go_wp2
    refine bodyPost_ret (by simp [results, Tryz.results22, go_sem, y2, y3]; try rfl) rfl ?_
    exact HE.out

end Go.Proofs.YtbncdhfmhokgeaaGreatDoor

/- Batches of messages, plainly: their records, their sum, when there is a batch. No Go in sight. -/
namespace Go.Proofs.YtbncdhfmhokgeaaGreatDoor

abbrev Msg := Int × List Fld
def mAt (ms : List Msg) (k : Nat) : Msg := ms.getD k (0, [])
theorem mAt_is {ms : List Msg} {k : Nat} (h : k < ms.length) : mAt ms k = ms[k] := by simp [mAt, List.getD_eq_getElem?_getD, h]
theorem mAt_mem {ms : List Msg} {k : Nat} (h : k < ms.length) : mAt ms k ∈ ms := by rw [mAt_is h]; exact List.getElem_mem h
theorem take_mAt (ms : List Msg) (k : Nat) (h : k < ms.length) : ms.take (k + 1) = ms.take k ++ [mAt ms k] := by
  rw [List.take_succ_eq_append_getElem h, mAt_is h]
/-- a message's amount: the number of its field 4, 0 when there is none -/
def amtOf (m : Msg) : Int := ((fOf m.2 4).map numOf).getD 0
def sumA (ms : List Msg) : Int := (ms.map amtOf).sum
theorem sumA_step (ms : List Msg) (k : Nat) (h : k < ms.length) : sumA (ms.take (k + 1)) = sumA (ms.take k) + amtOf (mAt ms k) := by
  rw [take_mAt ms k h]; simp [sumA]
def place (i : Nat) : List UInt8 := padT i 8
def headF : List Fld := [(24, [54, 57, 55])]
def tailF (ms : List Msg) : List Fld := [(4, padT (sumA ms) 12), (24, [54, 57, 53]), (71, padT ms.length 8)]
def recOf (m : Msg) (i : Nat) : List UInt8 := packL m.1 (withF m.2 71 (place i))
def headM (ms : List Msg) : List Msg := (1644, headF) :: ms
/-- the first k records of a batch's messages, the head's among them -/
def recsTo (L : List Msg) (k : Nat) : Recs := (List.range k).map fun i => recOf (mAt L i) (i + 1)
theorem recsTo_succ (L : List Msg) (k : Nat) : recsTo L (k + 1) = recsTo L k ++ [recOf (mAt L k) (k + 1)] := by simp [recsTo, List.range_succ]
theorem recsTo_len (L : List Msg) (k : Nat) : (recsTo L k).length = k := by simp [recsTo]
def msgOkM (m : Msg) : Bool := msgOk m.1 m.2
def allOk (ms : List Msg) : Bool := ms.all msgOkM
theorem allOk_mem {ms : List Msg} (h : allOk ms = true) : ∀ m ∈ ms, msgOk m.1 m.2 = true := fun m hm => List.all_eq_true.1 h m hm
theorem allOk_step (ms : List Msg) (k : Nat) (h : k < ms.length) : allOk (ms.drop k) = (msgOk (mAt ms k).1 (mAt ms k).2 && allOk (ms.drop (k + 1))) := by
  rw [List.drop_eq_getElem_cons h, mAt_is h]; rfl
theorem allOk_end (ms : List Msg) : allOk (ms.drop ms.length) = true := by rw [List.drop_of_length_le (Nat.le_refl _)]; rfl
def batchRecs (ms : List Msg) : Recs := recsTo (headM ms) (ms.length + 1) ++ [packL 1644 (tailF ms)]
def batchOk (ms : List Msg) : Bool := decide (ms.length ≤ 198) && (allOk ms && (decide (sumA ms < 1000000000000) && blockOk (batchRecs ms)))
def batchL (ms : List Msg) : List UInt8 := if batchOk ms = true then blockL (batchRecs ms) else []
theorem batchL_no {ms : List Msg} (h : batchOk ms = false) : batchL ms = [] := if_neg (by rw [h]; decide)
theorem batchOk_no1 {ms : List Msg} (h : 198 < ms.length) : batchOk ms = false := by simp [batchOk]; intro h1; omega
theorem batchOk_no2 {ms : List Msg} (h : allOk ms = false) : batchOk ms = false := by simp [batchOk, h]
theorem batchOk_no3 {ms : List Msg} (h : 1000000000000 ≤ sumA ms) : batchOk ms = false := by
  have : ¬ sumA ms < 1000000000000 := by omega
  simp [batchOk, this]
theorem batchOk_is {ms : List Msg} (h1 : ms.length ≤ 198) (h2 : allOk ms = true) (h3 : sumA ms < 1000000000000) : batchOk ms = blockOk (batchRecs ms) := by
  simp [batchOk, h1, h2, h3]
theorem batchL_is {ms : List Msg} (h1 : ms.length ≤ 198) (h2 : allOk ms = true) (h3 : sumA ms < 1000000000000) : batchL ms = blockL (batchRecs ms) := by
  unfold batchL; rw [batchOk_is h1 h2 h3]
  cases h : blockOk (batchRecs ms)
  · rw [if_neg (by decide), blockL_no h]
  · rw [if_pos rfl]

theorem padT8 {i : Nat} (h : i < 100000000) : (place i).length = 8 ∧ within 48 57 (place i) = true := by
  have e : place i = padN i 8 := padT_yes (n := 8) (by omega) (by omega) (by simpa using h)
  rw [e]; exact ⟨padN_len (by omega) (by simpa using h), padN_dig _ _⟩
theorem place_len (i : Nat) : (place i).length ≤ 18 := padT_l _ _
theorem field71 {i : Nat} (h : i < 100000000) : fieldOk 71 (place i) = true := by
  obtain ⟨h1, h2⟩ := padT8 h
  show fieldKS (fK 71) (fS 71) (place i) = true
  rw [show fK 71 = 1 by decide, show fS 71 = 8 by decide]
  simp [fieldKS, h1, h2]
theorem withOk71 {kd : Int} {fs : List Fld} {i : Nat} (h : i < 100000000) : withOk kd fs 71 (place i) = msgOk kd fs := by
  unfold withOk; rw [field71 h]; rfl
/-- a field put into a right message leaves it right -/
theorem okF_filter {q : Fld → Bool} : ∀ {fs : List Fld} {p : Int}, okF p fs = true → okF p (fs.filter q) = true := by
  intro fs
  induction fs with
  | nil => intro p _; rfl
  | cons f r ih =>
    intro p h
    simp only [okF, Bool.and_eq_true, decide_eq_true_eq] at h
    have low : ∀ {l : List Fld} {a b : Int}, a ≤ b → okF b l = true → okF a l = true := by
      intro l a b hab hl
      cases l with
      | nil => rfl
      | cons g s =>
        simp only [okF, Bool.and_eq_true, decide_eq_true_eq] at hl ⊢
        exact ⟨⟨hl.1.1, by omega⟩, hl.2⟩
    by_cases hq : q f = true
    · rw [List.filter_cons_of_pos hq]
      simp only [okF, Bool.and_eq_true, decide_eq_true_eq]
      exact ⟨h.1, ih h.2⟩
    · rw [List.filter_cons_of_neg hq]
      exact low (by omega) (ih h.2)
theorem okF_low {l : List Fld} {a b : Int} (hab : a ≤ b) (hl : okF b l = true) : okF a l = true := by
  cases l with
  | nil => rfl
  | cons g s =>
    simp only [okF, Bool.and_eq_true, decide_eq_true_eq] at hl ⊢
    exact ⟨⟨hl.1.1, by omega⟩, hl.2⟩
theorem okF_high {l : List Fld} {a b : Int} (hl : okF a l = true) (hb : ∀ f ∈ l, b < f.1) : okF b l = true := by
  cases l with
  | nil => rfl
  | cons g s =>
    simp only [okF, Bool.and_eq_true, decide_eq_true_eq] at hl ⊢
    exact ⟨⟨hl.1.1, hb g (List.mem_cons_self ..)⟩, hl.2⟩
theorem okF_app {b : Int} {r : List Fld} (hr : okF b r = true) : ∀ {l : List Fld} {p : Int}, okF p l = true → (∀ f ∈ l, f.1 ≤ b) → p ≤ b → okF p (l ++ r) = true := by
  intro l
  induction l with
  | nil => intro p _ _ hp; exact okF_low hp hr
  | cons g s ih =>
    intro p hl hb hp
    simp only [okF, Bool.and_eq_true, decide_eq_true_eq] at hl
    show ((fieldOk g.1 g.2 && decide (p < g.1)) && okF g.1 (s ++ r)) = true
    rw [hl.1.1, decide_eq_true hl.1.2, ih hl.2 (fun f hf => hb f (List.mem_cons_of_mem _ hf)) (hb g (List.mem_cons_self ..))]; rfl
theorem okF_withF {fs : List Fld} {num : Int} {d : List UInt8} (h : okF 1 fs = true) (hf : fieldOk num d = true) (hn : 1 < num) : okF 1 (withF fs num d) = true := by
  unfold withF
  have h2 : okF num (fs.filter (gtN num)) = true := okF_high (okF_filter h) fun f hf => by
    have := (List.mem_filter.1 hf).2
    simpa [gtN] using this
  have h3 : okF (num - 1) ((num, d) :: fs.filter (gtN num)) = true := by
    show ((fieldOk num d && decide (num - 1 < num)) && okF num (fs.filter (gtN num))) = true
    rw [hf, h2, decide_eq_true (by omega)]; rfl
  refine okF_app h3 (okF_filter h) (fun f hf => ?_) (by omega)
  have := (List.mem_filter.1 hf).2
  have : f.1 < num := by simpa [ltN] using this
  omega
theorem msgOk_with {kd : Int} {fs : List Fld} {i : Nat} (h : msgOk kd fs = true) (hi : i < 100000000) : msgOk kd (withF fs 71 (place i)) = true := by
  obtain ⟨h1, h2⟩ := msgOk_parts h
  unfold msgOk
  rw [decide_eq_true h1, okF_withF h2 (field71 hi) (by omega)]; rfl
theorem head_ok : msgOk 1644 headF = true := by decide
theorem dec1 : place 1 = [48, 48, 48, 48, 48, 48, 48, 49] := by
  have e : place 1 = padN 1 8 := padT_yes (x := 1) (n := 8) (by omega) (by omega) (by simp)
  have d : Lib.decDigits 1 = [49] := by rw [Lib.decDigits, dif_pos (by omega)]; rfl
  rw [e, padN, d]; rfl
def head1 : List Fld := [(24, [54, 57, 55]), (71, [48, 48, 48, 48, 48, 48, 48, 49])]
theorem head_with : withF headF 71 (place 1) = head1 := by rw [dec1]; decide
theorem head1_ok : msgOk 1644 head1 = true := by decide
theorem recsTo_one (ms : List Msg) : recsTo (headM ms) 1 = [packL 1644 head1] := by
  show [packL 1644 (withF headF 71 (place 1))] = _
  rw [head_with]

/-- amounts of right messages -/
theorem fOf_mem {fs : List Fld} {n : Int} {d : List UInt8} (h : fOf fs n = some d) : (n, d) ∈ fs := by
  induction fs with
  | nil => cases h
  | cons f r ih =>
    simp only [fOf] at h
    split at h
    · rename_i e
      obtain rfl : f.2 = d := by simpa using h
      rw [← e]; exact List.mem_cons_self ..
    · exact List.mem_cons_of_mem _ (ih h)
theorem amt_bd {m : Msg} (h : msgOk m.1 m.2 = true) : 0 ≤ amtOf m ∧ amtOf m < 1000000000000 := by
  unfold amtOf
  cases hf : fOf m.2 4 with
  | none => simp
  | some d =>
    have hk := (okF_mem (msgOk_parts h).2 _ (fOf_mem hf)).1
    have e : d.length = 12 ∧ within 48 57 d = true := by
      have : fieldKS (fK 4) (fS 4) d = true := hk
      rw [show fK 4 = 1 by decide, show fS 4 = 12 by decide] at this
      simp [fieldKS] at this
      exact ⟨by omega, this.2⟩
    have hb := val_bound d e.2 d.length (Nat.le_refl _)
    rw [List.take_of_length_le (Nat.le_refl _), e.1] at hb
    show 0 ≤ numOf d ∧ numOf d < 1000000000000
    rw [numOf_yes (by omega) e.2]
    omega
theorem sum_bd : ∀ {ms : List Msg}, allOk ms = true → 0 ≤ sumA ms ∧ sumA ms ≤ 1000000000000 * ms.length := by
  intro ms
  induction ms with
  | nil => intro _; simp [sumA]
  | cons m r ih =>
    intro h
    have h1 := amt_bd (allOk_mem h m (List.mem_cons_self ..))
    have h2 := ih (List.all_eq_true.2 fun x hx => allOk_mem h x (List.mem_cons_of_mem _ hx))
    simp only [sumA, List.map_cons, List.sum_cons, List.length_cons] at h2 ⊢
    omega
theorem allOk_take {ms : List Msg} (h : allOk ms = true) (k : Nat) : allOk (ms.take k) = true := List.all_eq_true.2 fun x hx => allOk_mem h x (List.mem_of_mem_take hx)
theorem tail_ok {ms : List Msg} (h0 : 0 ≤ sumA ms) (hl : ms.length ≤ 198) : msgOk 1644 (tailF ms) = decide (sumA ms < 1000000000000) := by
  have h71 : fieldOk 71 (padT ms.length 8) = true := field71 (i := ms.length) (by omega)
  have h24 : fieldOk 24 [54, 57, 53] = true := by decide
  have h4 : fieldOk 4 (padT (sumA ms) 12) = decide (sumA ms < 1000000000000) := by
    show fieldKS (fK 4) (fS 4) _ = _
    rw [show fK 4 = 1 by decide, show fS 4 = 12 by decide]
    obtain ⟨s, hs⟩ := Int.eq_ofNat_of_zero_le h0
    rw [hs]
    by_cases hlt : s < 1000000000000
    · have e : padT (s : Int) 12 = padN s 12 := padT_yes (n := 12) (by omega) (by omega) (by simpa using hlt)
      rw [e, decide_eq_true (by omega)]
      have a := padN_len (x := s) (n := 12) (by omega) (by simpa using hlt)
      have b := padN_dig s 12
      simp [fieldKS, a, b]
    · have e : padT (s : Int) 12 = [] := padT_no (padOk_no2 (by
        rw [show ((10 ^ (12 : Int).toNat : Nat) : Int) = 1000000000000 by decide]; omega))
      rw [e, decide_eq_false (by omega)]; rfl
  show (decide _ && ((fieldOk 4 _ && decide _) && ((fieldOk 24 _ && decide _) && ((fieldOk 71 _ && decide _) && true)))) = _
  rw [h4, h24, h71]
  simp
theorem sum3 (a b c : List UInt8) (ha : a.length ≤ 18) (hb : b.length ≤ 18) (hc : c.length ≤ 18) : sumF [(4, a), (24, c), (71, b)] ≤ 100 := by
  simp only [sumF, List.map_cons, List.map_nil, List.sum_cons, List.sum_nil]
  omega
theorem tailF_bd (ms : List Msg) : sumF (tailF ms) ≤ 100 := sum3 _ _ _ (padT_l _ _) (padT_l _ _) (by decide)

end Go.Proofs.YtbncdhfmhokgeaaGreatDoor

/- Slices of messages: those that came in, those in a row of one's own. -/
namespace Go.Proofs.YtbncdhfmhokgeaaGreatDoor
open Go.ChangeShapes Go.WideShapes Go.ChangeAt Go.RowKit Go.Deep

/-- a message as it lies: its kind, where its fields lie, and what they are -/
structure MV where
  kd : Int
  ao : Option Addr
  cap : Nat
  fs : List Fld
instance : Inhabited MV := ⟨⟨0, none, 0, []⟩⟩
def MV.m (x : MV) : Msg := (x.kd, x.fs)
def MV.z : MV := ⟨0, none, 0, []⟩
def vAt (xs : List MV) (k : Nat) : MV := xs.getD k MV.z
theorem vAt_is {xs : List MV} {k : Nat} (h : k < xs.length) : vAt xs k = xs[k] := by simp [vAt, List.getD_eq_getElem?_getD, h]
theorem vAt_mem {xs : List MV} {k : Nat} (h : k < xs.length) : vAt xs k ∈ xs := by rw [vAt_is h]; exact List.getElem_mem h
def plainM (xs : List MV) : List Msg := xs.map MV.m
theorem plainM_len (xs : List MV) : (plainM xs).length = xs.length := by simp [plainM]
theorem plainM_at {xs : List MV} {k : Nat} (h : k < xs.length) : mAt (plainM xs) k = ((vAt xs k).kd, (vAt xs k).fs) := by
  rw [mAt_is (by rw [plainM_len]; exact h), vAt_is h]; simp [plainM, MV.m]
theorem plainM_mem {xs : List MV} {x : MV} (h : x ∈ xs) : (x.kd, x.fs) ∈ plainM xs := List.mem_map.2 ⟨x, h, rfl⟩

/-- The slice of messages at 'ao' reads as 'xs' in w. -/
def MsgsAt (w : World) (ao : Option Addr) (xs : List MV) : Prop :=
  (xs = [] ∨ ∃ b off, ao = some ⟨b, off, none⟩ ∧ b < w.heap.size ∧ ∀ i, i < xs.length →
    w.cell? ⟨b, off + i * 2, none⟩ = some (.int .i64 (vAt xs i).kd) ∧ w.cell? ⟨b, off + i * 2 + 1, none⟩ = some (.slice (vAt xs i).ao (vAt xs i).fs.length (vAt xs i).cap)) ∧
  ∀ x ∈ xs, FldsAt w x.ao x.fs
def MsgsBd (xs : List MV) : Prop := xs.length ≤ maxLen ∧ ∀ x ∈ xs, FldsBd x.fs
theorem MsgsAt.below {w w' : World} {ao : Option Addr} {xs : List MV} (h : MsgsAt w ao xs) (hb : Below w.heap.size w w') : MsgsAt w' ao xs := by
  refine ⟨?_, fun x hx => (h.2 x hx).below hb⟩
  rcases h.1 with h | ⟨b, off, h1, h2, h3⟩
  · exact .inl h
  · exact .inr ⟨b, off, h1, Nat.lt_of_lt_of_le h2 hb.size, fun i hi => ⟨(hb.cell (p := ⟨b, off + i * 2, none⟩) h2).trans (h3 i hi).1, (hb.cell (p := ⟨b, off + i * 2 + 1, none⟩) h2).trans (h3 i hi).2⟩⟩
/-- what is read at place k -/
theorem MsgsAt.at {w : World} {ao : Option Addr} {xs : List MV} (h : MsgsAt w ao xs) {k : Nat} (hk : k < xs.length) :
    ∃ b off, ao = some ⟨b, off, none⟩ ∧ b < w.heap.size ∧ w.cell? ⟨b, off + k * 2, none⟩ = some (.int .i64 (vAt xs k).kd) ∧ w.cell? ⟨b, off + k * 2 + 1, none⟩ = some (.slice (vAt xs k).ao (vAt xs k).fs.length (vAt xs k).cap) ∧ FldsAt w (vAt xs k).ao (vAt xs k).fs := by
  rcases h.1 with rfl | ⟨b, off, h1, h2, h3⟩
  · simp at hk
  · exact ⟨b, off, h1, h2, (h3 k hk).1, (h3 k hk).2, h.2 _ (vAt_mem hk)⟩

theorem flds_open {P : Program} {H : Type} {enc : TypeId × Value → H} {W : World} {t e : TypeId} {g0 g1 : Field} {fuel : Nat} {y : Value} {x : DataW H × List MemPlace}
    (t1 : P.underlying t = some (.slice e))
    (he : P.underlying e = some (.struct #[g0, g1])) (ce : P.cellsOf e = 2) (p0 : g0.offset = 0) (p1 : g1.offset = 1) (d0 : P.cellsOf g0.type = 1) (d1 : P.cellsOf g1.type = 1)
    (u0 : P.underlying g0.type = some (.int .i64)) (u1 : P.underlying g1.type = some .string)
    (h1 : DataW.trod enc P W 0 (fun _ => true) true fuel t [y] = some x) :
    ∃ a cap fs, y = .slice a (List.length fs) cap ∧ FldsAt W a fs ∧ FldsBd fs := by
  rcases open_slice_pairs t1 he ce p0 p1 d0 d1 h1 with ⟨e1, _⟩ | ⟨a, len, cap, m, k, V0, V1, D0, D1, P0, P1, e1, hb, hlc, hm, hmm, _, hx⟩
  · simp at e1
    exact ⟨none, 0, [], by rw [e1]; rfl, .inl rfl, Nat.zero_le _, fun f hf => by cases hf⟩
  · simp at e1 hmm
    subst hmm
    obtain ⟨F, hF⟩ := choose_lt (α := Fld) (n := m) (p := fun i f => V0 i = .int .i64 f.1 ∧ V1 i = .string ⟨f.2.toArray⟩ ∧ f.2.length ≤ maxLen) (fun i hi => by
      obtain ⟨_, _, g2, g3⟩ := hx i hi
      obtain ⟨z, q0, _⟩ := DataW.trod_int u0 g2
      obtain ⟨s, q1, _, hs⟩ := DataW.trod_string u1 g3
      simp at q0 q1
      exact ⟨(z, s.data.toList), q0, by rw [q1], by show s.data.toList.length ≤ maxLen; rw [Array.length_toList]; exact hs⟩)
    refine ⟨some a, m, (List.range len).map F, by rw [e1]; simp, ?_, by rw [List.length_map, List.length_range]; exact Nat.le_trans hlc hm, fun f hf => by
      obtain ⟨i, hi, rfl⟩ := List.mem_map.1 hf
      exact (hF i (by have := List.mem_range.1 hi; omega)).2.2⟩
    by_cases hz : len = 0
    · subst hz; exact .inl rfl
    · obtain ⟨bk, off, spot⟩ := a
      have hc0 := (hx 0 (by omega)).1
      have hspot : spot = none := by simpa [Addr.add] using World.cell?_spot hc0
      subst hspot
      refine .inr ⟨bk, off, rfl, ?_, fun i hi => ?_⟩
      · exact World.block_lt_of_cell? W _ hc0
      · have hi' : i < len := by simpa using hi
        have hat : at0 ((List.range len).map F) i = F i := by simp [at0, List.getD_eq_getElem?_getD, hi']
        obtain ⟨g0, g1, _, _⟩ := hx i (by omega)
        rw [hat, ← (hF i (by omega)).1, ← (hF i (by omega)).2.1]
        rw [add_plain] at g0 g1
        exact ⟨g0, by rw [Nat.add_assoc]; exact g1⟩

/-- a slice of messages that came in -/
theorem is_msgs {P : Program} {H : Type} {enc : TypeId × Value → H} {W : World} {r : Reach} {base : Nat} {t s e : TypeId} {f0 f1 g0 g1 : Field} {v : Value} {d : DataW H} {p : List MemPlace}
    (ht : P.underlying t = some (.slice s))
    (hs : P.underlying s = some (.struct #[f0, f1])) (hc : P.cellsOf s = 2) (o0 : f0.offset = 0) (o1 : f1.offset = 1) (c0 : P.cellsOf f0.type = 1) (c1 : P.cellsOf f1.type = 1)
    (t0 : P.underlying f0.type = some (.int .i64)) (t1 : P.underlying f1.type = some (.slice e))
    (he : P.underlying e = some (.struct #[g0, g1])) (ce : P.cellsOf e = 2) (p0 : g0.offset = 0) (p1 : g1.offset = 1) (d0 : P.cellsOf g0.type = 1) (d1 : P.cellsOf g1.type = 1)
    (u0 : P.underlying g0.type = some (.int .i64)) (u1 : P.underlying g1.type = some .string)
    (hv : Value.okWide P W r base t v) (h : DataW.Trod enc P W 0 (fun _ => true) true t v d p) :
    ∃ a cap xs, v = .slice a (List.length xs) cap ∧ MsgsAt W a xs ∧ MsgsBd xs := by
  obtain ⟨va, vl, vc, rfl⟩ := okWide_slice ht hv
  obtain ⟨fuel, h1⟩ := h
  rcases open_slice_pairs ht hs hc o0 o1 c0 c1 h1 with ⟨e1, _⟩ | ⟨a, len, cap, m, k, V0, V1, D0, D1, P0, P1, e1, hb, hlc, hm, hmm, _, hx⟩
  · have e2 : Value.slice va vl vc = .slice none 0 0 := by simpa [Value.cells] using e1
    exact ⟨none, 0, [], e2, ⟨.inl rfl, fun f hf => by cases hf⟩, Nat.zero_le _, fun f hf => by cases hf⟩
  · simp at hmm
    subst hmm
    have e2 : Value.slice va vl vc = .slice (some a) len m := by simpa [Value.cells] using e1
    obtain ⟨F, hF⟩ := choose_lt (α := MV) (n := m) (p := fun i x => V0 i = .int .i64 x.kd ∧ V1 i = .slice x.ao x.fs.length x.cap ∧ FldsAt W x.ao x.fs ∧ FldsBd x.fs) (fun i hi => by
      obtain ⟨_, _, g2, g3⟩ := hx i hi
      obtain ⟨z, q0, _⟩ := DataW.trod_int t0 g2
      obtain ⟨fa, fc, fs, q1, q2, q3⟩ := flds_open t1 he ce p0 p1 d0 d1 u0 u1 g3
      simp at q0
      exact ⟨⟨z, fa, fc, fs⟩, q0, q1, q2, q3⟩)
    refine ⟨some a, m, (List.range len).map F, by rw [e2]; simp, ⟨?_, fun x hx => by
      obtain ⟨i, hi, rfl⟩ := List.mem_map.1 hx
      exact (hF i (by have := List.mem_range.1 hi; omega)).2.2.1⟩, by rw [List.length_map, List.length_range]; exact Nat.le_trans hlc hm, fun f hf => by
      obtain ⟨i, hi, rfl⟩ := List.mem_map.1 hf
      exact (hF i (by have := List.mem_range.1 hi; omega)).2.2.2⟩
    by_cases hz : len = 0
    · subst hz; exact .inl rfl
    · obtain ⟨bk, off, spot⟩ := a
      have hc0 := (hx 0 (by omega)).1
      have hspot : spot = none := by simpa [Addr.add] using World.cell?_spot hc0
      subst hspot
      refine .inr ⟨bk, off, rfl, ?_, fun i hi => ?_⟩
      · exact World.block_lt_of_cell? W _ hc0
      · have hi' : i < len := by simpa using hi
        have hat : vAt ((List.range len).map F) i = F i := by simp [vAt, List.getD_eq_getElem?_getD, hi']
        obtain ⟨g0, g1, _, _⟩ := hx i (by omega)
        rw [hat, ← (hF i (by omega)).1, ← (hF i (by omega)).2.1]
        rw [add_plain] at g0 g1
        exact ⟨g0, by rw [Nat.add_assoc]; exact g1⟩

def mcell (x : MV) : List Value := [.int .i64 x.kd, .slice x.ao x.fs.length x.cap]
def mcells (xs : List MV) : List Value := xs.flatMap mcell
theorem mcells_cons (x : MV) (r : List MV) : mcells (x :: r) = .int .i64 x.kd :: .slice x.ao x.fs.length x.cap :: mcells r := rfl
theorem mcells_append (a b : List MV) : mcells (a ++ b) = mcells a ++ mcells b := by simp [mcells]
theorem mcells_len (xs : List MV) : (mcells xs).length = xs.length * 2 := by
  induction xs with
  | nil => rfl
  | cons f r ih => rw [mcells_cons]; simp [ih]; omega
theorem mcells_at (xs : List MV) : ∀ k, k < xs.length → (mcells xs)[k * 2]? = some (.int .i64 (vAt xs k).kd) ∧ (mcells xs)[k * 2 + 1]? = some (.slice (vAt xs k).ao (vAt xs k).fs.length (vAt xs k).cap) := by
  induction xs with
  | nil => intro k h; simp at h
  | cons f r ih =>
    intro k h
    rw [mcells_cons]
    cases k with
    | zero => exact ⟨rfl, rfl⟩
    | succ k =>
      have := ih k (by simpa using h)
      rw [show (k + 1) * 2 = k * 2 + 1 + 1 by omega, List.getElem?_cons_succ, List.getElem?_cons_succ, List.getElem?_cons_succ, List.getElem?_cons_succ]
      exact this
theorem mcells_set (xs : List MV) (x : MV) : ∀ k, k < xs.length → ((mcells xs).set (k * 2) (.int .i64 x.kd)).set (k * 2 + 1) (.slice x.ao x.fs.length x.cap) = mcells (xs.set k x) := by
  induction xs with
  | nil => intro k h; simp at h
  | cons g r ih =>
    intro k h
    rw [mcells_cons]
    cases k with
    | zero => rfl
    | succ k =>
      have := ih k (by simpa using h)
      rw [show (k + 1) * 2 = k * 2 + 1 + 1 by omega, List.set_cons_succ, List.set_cons_succ, List.set_cons_succ, List.set_cons_succ, this]
      rfl
theorem mcells_one (xs : List MV) : ∀ u ∈ mcells xs, u.oneCell' = true := by
  intro u hu
  simp only [mcells, List.mem_flatMap, mcell] at hu
  obtain ⟨f, _, hf⟩ := hu
  simp at hf
  rcases hf with rfl | rfl <;> rfl

theorem msgs_of_own {w : World} {base n : Nat} {t : TypeId} {v : Value} {xs : List MV} (h : w.ownsRow base t 2 v n (mcells xs)) (hf : ∀ x ∈ xs, FldsAt w x.ao x.fs) : ∃ ao cap, v = .slice ao xs.length cap ∧ MsgsAt w ao xs ∧ n = xs.length := by
  have hn : n = xs.length := by have := h.1; rw [mcells_len] at this; omega
  subst hn
  rcases h.2 with ⟨rfl, hn⟩ | ⟨g, cap, cur, rfl, _⟩
  · have : xs = [] := List.eq_nil_of_length_eq_zero hn
    subst this
    exact ⟨none, 0, rfl, ⟨.inl rfl, hf⟩, rfl⟩
  · refine ⟨_, cap, rfl, ⟨?_, hf⟩, rfl⟩
    by_cases h0 : xs = []
    · exact .inl h0
    · refine .inr ⟨g, 0, rfl, (h.lt g rfl).2, fun i hi => ?_⟩
      have := mcells_at xs i hi
      rw [Nat.zero_add, h.cellAt (i * 2) (by omega), h.cellAt (i * 2 + 1) (by omega)]
      exact this

theorem infoM : (Tryz.prog.info? 26).map (fun i => (i.zero, i.size, i.bytes)) = some (some (.agg #[.int .i64 0, .slice none 0 0]), 2, 32) := by kernel_rfl
theorem cells_repM (m : Nat) : (madeCells (Value.agg #[.int .i64 0, .slice none 0 0]).cells (m * 2)).toList = mcells (List.replicate m MV.z) := by
  apply List.ext_getElem?
  intro j
  by_cases hj : j < m * 2
  · have hq : j / 2 < (List.replicate m MV.z).length := by simp; omega
    have ha : vAt (List.replicate m MV.z) (j / 2) = MV.z := by
      simp [vAt, List.getD_eq_getElem?_getD, List.getElem?_replicate]; split <;> rfl
    have h := mcells_at _ _ hq
    rw [ha] at h
    have hl : (madeCells (Value.agg #[.int .i64 0, .slice none 0 0]).cells (m * 2)).toList[j]? = some ((#[Value.int .i64 0, .slice none 0 0] : Array Value)[j % 2]!) := by
      simp [madeCells, hj, Value.cells]
    rcases Nat.mod_two_eq_zero_or_one j with e | e
    · rw [hl, e, show j = j / 2 * 2 by omega, h.1]; rfl
    · rw [hl, e, show j = j / 2 * 2 + 1 by omega, h.2]; rfl
  · rw [List.getElem?_eq_none (by rw [Array.length_toList, size_madeCells]; omega), List.getElem?_eq_none (by rw [mcells_len]; simp; omega)]

theorem msgs_news {w : World} {a : Addr} {xs : List MV} (h : MsgsAt w (some a) xs) : ∀ j u, (mcells xs)[j]? = some u → w.cell? (a.add j) = some u := by
  intro j u hj
  have hlt : j < xs.length * 2 := by
    rw [← mcells_len]
    exact (List.getElem?_eq_some_iff.1 hj).1
  rcases h.1 with rfl | ⟨b', off', hq, hb, hc⟩
  · simp at hlt
  · obtain rfl : a = ⟨b', off', none⟩ := by simpa using hq
    have e : ((⟨b', off', none⟩ : Addr).add j) = ⟨b', off' + j, none⟩ := by unfold Addr.add; split <;> simp_all
    have hk := hc (j / 2) (by omega)
    have hf := mcells_at xs (j / 2) (by omega)
    rw [e]
    rcases Nat.mod_two_eq_zero_or_one j with m | m
    · have hj' : j = j / 2 * 2 := by omega
      rw [hj', hf.1] at hj
      rw [hj', hk.1]; exact hj
    · have hj' : j = j / 2 * 2 + 1 := by omega
      rw [hj', hf.2] at hj
      rw [hj', ← Nat.add_assoc, hk.2]; exact hj

theorem run_append_msgs (w : World) (base : Nat) (ty : TypeId) (v : Value) (n : Nat) (cs : List Value) (hown : w.ownsRow base 26 2 v n cs) (ao : Option Addr) (c : Nat) (xs : List MV) (hz : MsgsAt w ao xs)
    (hn : n + xs.length ≤ 4000000) (hbase : base ≤ w.heap.size) :
    ∃ v' w', (Builtin.append_ #[35, 35] ty #[v, .slice ao xs.length c]).run Tryz.prog w = .ok v' w' ∧ w'.ownsRow base 26 2 v' (n + xs.length) (cs ++ mcells xs) ∧ w.grownBy w' v.ownBlock ∧
      (v ≠ .slice none 0 0 → v' ≠ .slice none 0 0) := by
  obtain ⟨i0, hi, hz0, hz1, hz2⟩ := info_parts infoM
  cases ao with
  | none =>
    have hf : xs = [] := by
      rcases hz.1 with h | ⟨b, off, h, _⟩
      · exact h
      · cases h
    subst hf
    refine ⟨v, w, ?_, by simpa [mcells] using hown, ⟨rfl, rfl, rfl, Nat.le_refl _, fun _ _ _ => rfl⟩, id⟩
    have hu := Tryz.underlying35
    rcases hown.2 with ⟨rfl, rfl⟩ | ⟨g, cap, cur, rfl, hbg, hg, hnc, hcm, hcs, htake⟩
    · simp [Builtin.append_, run_underlying hu, sizeOf, typeInfo, hi, Builtin.lenOf, Builtin.firstCells]
    · simp [Builtin.append_, run_underlying hu, sizeOf, typeInfo, hi, Builtin.lenOf, Builtin.firstCells, loadCells, hnc, storeCells]
  | some a =>
    obtain ⟨v', w', h1, h2, h3, h4, _⟩ := run_append_own_at (P := Tryz.prog) w base 35 ty 26 i0 _ 2 32 Tryz.underlying35 hi hz0 hz1 hz2 rfl (by decide) v n cs hown a xs.length c (mcells xs) (mcells_len xs) (msgs_news hz) (mcells_one xs) (by unfold maxLen; omega) (by omega) hbase
    exact ⟨v', w', h1, h2, h3, fun hne h => hne (h4.1 h).1⟩

theorem wpList_append_msgs {ops : Array Oper} {rest : List Oper} {o : Oper} {a : Act} {Q : Exit → Act → World → Prop} (w : World) (hgd : o.guard = none) (s x : Operand)
    (ho : o.op = .call { callee := .builtin .append, args := #[s, x], argTypes := #[35, 35] }) (base : Nat) (v : Value) (n : Nat) (cs : List Value) (hs : a.eval s = v) (hown : w.ownsRow base 26 2 v n cs)
    (ao : Option Addr) (c : Nat) (xs : List MV) (hx : a.eval x = .slice ao xs.length c) (hz : MsgsAt w ao xs) (hn : n + xs.length ≤ 4000000) (hbase : base ≤ w.heap.size)
    (h : ∀ v' w', w'.ownsRow base 26 2 v' (n + xs.length) (cs ++ mcells xs) → w.grownBy w' v.ownBlock → (v ≠ .slice none 0 0 → v' ≠ .slice none 0 0) → wpList Tryz.prog ops Q rest (a.put o.dst v') w') : wpList Tryz.prog ops Q (o :: rest) a w := by
  obtain ⟨v', w', hr, h1, h2, h3⟩ := run_append_msgs w base o.type v n cs hown ao c xs hz hn hbase
  exact Lib.wpList_append_run w hgd s x _ _ ho _ _ hs hx v' w' hr (h v' w' h1 h2 h3)

theorem wpList_append_msg {ops : Array Oper} {rest : List Oper} {o : Oper} {a : Act} {Q : Exit → Act → World → Prop} (w : World) (hgd : o.guard = none) (s x : Operand)
    (ho : o.op = .call { callee := .builtin .append, args := #[s, x], argTypes := #[35, 35] }) (base : Nat) (v : Value) (n : Nat) (cs : List Value) (hs : a.eval s = v) (hown : w.ownsRow base 26 2 v n cs)
    (m : MV) (ad : Addr) (hx : a.eval x = .slice (some ad) 1 1) (hnews : ∀ j u, (mcells [m])[j]? = some u → w.cell? (ad.add j) = some u) (hn : n ≤ 4000000) (hbase : base ≤ w.heap.size)
    (h : ∀ v' w', w'.ownsRow base 26 2 v' (n + 1) (cs ++ mcells [m]) → w.grownBy w' v.ownBlock → (v'.ownBlock = v.ownBlock ∨ v'.ownBlock = some w.heap.size) → wpList Tryz.prog ops Q rest (a.put o.dst v') w') : wpList Tryz.prog ops Q (o :: rest) a w := by
  obtain ⟨i0, hi, hz0, hz1, hz2⟩ := info_parts infoM
  obtain ⟨v', w', h1, h2, h3, _, h5⟩ := run_append_own_at (P := Tryz.prog) w base 35 o.type 26 i0 _ 2 32 Tryz.underlying35 hi hz0 hz1 hz2 rfl (by decide) v n cs hown ad 1 1 (mcells [m]) (mcells_len [m]) hnews (mcells_one [m]) (by unfold maxLen; omega) (by omega) hbase
  exact Lib.wpList_append_run w hgd s x _ _ ho _ _ hs hx v' w' h1 (h v' w' h2 h3 h5)

theorem one_msg {w : World} {g : Nat} {x : MV} (h0 : w.cell? ⟨g, 0, none⟩ = some (.int .i64 x.kd)) (h1 : w.cell? ⟨g, 1, none⟩ = some (.slice x.ao x.fs.length x.cap)) (h2 : FldsAt w x.ao x.fs) : MsgsAt w (some ⟨g, 0, none⟩) [x] :=
  ⟨.inr ⟨g, 0, rfl, World.block_lt_of_cell? w _ h0, fun i hi => by
    obtain rfl : i = 0 := by simpa using hi
    exact ⟨h0, h1⟩⟩, fun y hy => by
    obtain rfl : y = x := by simpa using hy
    exact h2⟩

end Go.Proofs.YtbncdhfmhokgeaaGreatDoor

/- Reading a batch, plainly. No Go in sight. -/
namespace Go.Proofs.YtbncdhfmhokgeaaGreatDoor

def unpM (r : List UInt8) : Msg := ((unp r).2.2.1, (unp r).2.2.2)
def unpOk (r : List UInt8) : Bool := decide ((unp r).1 = 0)
def allUnp (rs : Recs) : Bool := rs.all unpOk
theorem allUnp_step (rs : Recs) (k : Nat) (h : k < rs.length) : allUnp (rs.drop k) = (unpOk (nth rs k) && allUnp (rs.drop (k + 1))) := by
  rw [List.drop_eq_getElem_cons h, nth_is h]; rfl
theorem allUnp_end (rs : Recs) : allUnp (rs.drop rs.length) = true := by rw [List.drop_of_length_le (Nat.le_refl _)]; rfl
theorem allUnp_mem {rs : Recs} (h : allUnp rs = true) : ∀ r ∈ rs, (unp r).1 = 0 := fun r hr => of_decide_eq_true (List.all_eq_true.1 h r hr)
/-- the messages between the first and the last -/
def innerM (rs : Recs) : List Msg := ((rs.map unpM).drop 1).take (rs.length - 2)
theorem innerM_len (rs : Recs) : (innerM rs).length = rs.length - 2 := by simp [innerM]; omega
/-- what reading a batch answers -/
def rdB (s : List UInt8) : List Msg × Nat :=
  if (unb s).2 ≠ 0 then ([], 1)
  else if allUnp (unb s).1 = false then ([], 2)
  else if (unb s).1.length < 2 ∨ nth (unb s).1 0 ≠ packL 1644 head1 then ([], 3)
  else if batchOk (innerM (unb s).1) = true ∧ batchL (innerM (unb s).1) = s then (innerM (unb s).1, 0) else ([], 4)
theorem rdB_1 {s : List UInt8} (h : (unb s).2 ≠ 0) : rdB s = ([], 1) := if_pos h
theorem rdB_2 {s : List UInt8} (h : (unb s).2 = 0) (h2 : allUnp (unb s).1 = false) : rdB s = ([], 2) := by rw [rdB, if_neg (by simpa using h), if_pos h2]
theorem rdB_3 {s : List UInt8} (h : (unb s).2 = 0) (h2 : allUnp (unb s).1 = true) (h3 : (unb s).1.length < 2 ∨ nth (unb s).1 0 ≠ packL 1644 head1) : rdB s = ([], 3) := by
  rw [rdB, if_neg (by simpa using h), if_neg (by rw [h2]; decide), if_pos h3]
theorem rdB_4 {s : List UInt8} (h : (unb s).2 = 0) (h2 : allUnp (unb s).1 = true) (h3 : ¬ ((unb s).1.length < 2 ∨ nth (unb s).1 0 ≠ packL 1644 head1)) (h4 : ¬ (batchOk (innerM (unb s).1) = true ∧ batchL (innerM (unb s).1) = s)) : rdB s = ([], 4) := by
  rw [rdB, if_neg (by simpa using h), if_neg (by rw [h2]; decide), if_neg h3, if_neg h4]
theorem rdB_0 {s : List UInt8} (h : (unb s).2 = 0) (h2 : allUnp (unb s).1 = true) (h3 : ¬ ((unb s).1.length < 2 ∨ nth (unb s).1 0 ≠ packL 1644 head1)) (h4 : batchOk (innerM (unb s).1) = true ∧ batchL (innerM (unb s).1) = s) : rdB s = (innerM (unb s).1, 0) := by
  rw [rdB, if_neg (by simpa using h), if_neg (by rw [h2]; decide), if_neg h3, if_pos h4]
theorem unb_bd (s : List UInt8) : (unb s).1.length ≤ 200 ∧ ∀ r ∈ (unb s).1, r.length ≤ 3000 := by
  by_cases h : (unb s).2 = 0
  · obtain ⟨h1, _⟩ := unb_is h
    obtain ⟨a, b, _⟩ := blockOk_parts h1
    exact ⟨a, fun r hr => (recsOk_mem b r hr).2⟩
  · rw [unb_not h]; exact ⟨by simp, fun r hr => by cases hr⟩
theorem unpM_ok {r : List UInt8} (h : (unp r).1 = 0) : msgOk (unpM r).1 (unpM r).2 = true := (pack_unp h).1
theorem rdB_code (s : List UInt8) : (rdB s).2 ≤ 4 := by
  unfold rdB
  split
  · decide
  · split
    · decide
    · split
      · decide
      · split <;> simp
theorem rdB_bd (s : List UInt8) : (rdB s).1.length ≤ 198 := by
  unfold rdB
  split
  · simp
  · split
    · simp
    · split
      · simp
      · split
        · have := (unb_bd s).1
          rw [innerM_len]; omega
        · simp

end Go.Proofs.YtbncdhfmhokgeaaGreatDoor

/- The contract of the program's PackMessage. -/
namespace Go.Proofs.YtbncdhfmhokgeaaGreatDoor
open Go.RowKit

theorem iPutSet_F {ao : Option Addr} {cap : Nat} {fs : List Fld} {w : World} (hx : IntsAt w ao (numsF fs)) (hl : fs.length ≤ 1048576) :
    Calls Tryz.prog 33 #[.slice ao fs.length cap] w fun e w' => e = .returned (.tuple #[.string ⟨(setF fs).toArray⟩, .bool (putS (numsF fs)).isSome]) ∧ Below w.heap.size w w' := by
  have h := iPutSet_any ao cap (numsF fs) w hx (by rw [numsF_len]; exact hl)
  rwa [numsF_len] at h
theorem iMsg_is {kd : Int} {ao : Option Addr} {cap : Nat} {fs : List Fld} {w : World} {q : Bool} (hq : msgOk kd fs = q) (hz : FldsAt w ao fs) (hn : fs.length ≤ 1048576) (hd : sumF fs ≤ 1048576) :
    Calls Tryz.prog 35 #[.agg #[.int .i64 kd, .slice ao fs.length cap]] w fun e w' => e = .returned (.bool q) ∧ Below w.heap.size w w' := by
  rw [← hq]; exact iMessageOk_any kd ao cap fs w hz hn hd
theorem setF_len (fs : List Fld) : (setF fs).length ≤ 16 := putS_len _
theorem okF_take {fs : List Fld} {p : Int} (h : okF p fs = true) (k : Nat) : ∀ f ∈ fs.take k, fieldOk f.1 f.2 = true := fun f hf => (okF_mem h f (List.mem_of_mem_take hf)).1
theorem body_bd {fs : List Fld} (h : okF 1 fs = true) (k : Nat) : (bodyP (fs.take k)).length ≤ 100000 := by
  have h1 := bodyP_len (okF_take h k)
  have h2 : (fs.take k).length ≤ fs.length := by rw [List.length_take]; omega
  rcases okF_len h (by omega) with h3 | h3
  · rw [h3] at h1 h2 ⊢; simp [bodyP]
  · omega
theorem body_step (fs : List Fld) (k : Nat) (h : k < fs.length) : bodyP (fs.take (k + 1)) = bodyP (fs.take k) ++ putFld (at0 fs k).1 (at0 fs k).2 := by
  have e : at0 fs k = fs[k] := by simp [at0, List.getD_eq_getElem?_getD, h]
  rw [List.take_succ_eq_append_getElem h, bodyP_append, e, bodyP_one]

set_option maxRecDepth 100000 in
set_option maxHeartbeats 1600000 in
theorem iPack_any (kd : Int) (ao : Option Addr) (cap : Nat) (fs : List Fld) (w : World) (hz : FldsAt w ao fs) (hn : fs.length ≤ 1048576) (hd : sumF fs ≤ 1048576) (ht : Pow10 w) :
    Calls Tryz.prog 9 #[.agg #[.int .i64 kd, .slice ao fs.length cap]] w fun e w' => e = .returned (.tuple #[.string ⟨(packL kd fs).toArray⟩, .bool (msgOk kd fs)]) ∧ Below w.heap.size w w' := by
  have bel : Below w.heap.size w (w.alloc (.cells #[.int .i64 kd, .slice ao fs.length cap] 26)) := by go_grown
  have HT : Hid (Pow10 w) := ht
  go_enter Tryz.func9, Tryz.ntmps9
  go_wp2_with fail
  refine (numsOf_any _ _ _ _ (hz.below bel) hn).mono ?_
  rintro e w1 ⟨rfl, o1, b1⟩
  obtain ⟨c0, c1, q1, hs1⟩ := box2 b1
  have i1 : IntsAt w1 (some ⟨(w.alloc (.cells #[.int .i64 kd, .slice ao fs.length cap] 26)).heap.size, 0, none⟩) (numsF fs) := ints_of_own o1
  clear b1 o1 bel ht
  go_wp2_with fail
  refine (iPutSet_F (by simpa using i1) hn).mono ?_
  rintro e w2 ⟨rfl, b2⟩
  have q2 := next q1 b2
  obtain ⟨d0, d1⟩ := keep2 c0 c1 b2
  have hsb := hs1
  clear i1 b2 q1 c0 c1
  cases hm : msgOk kd fs
  · have HN : Hid _ := packL_no hm
    have HM : Hid _ := hm
    clear hm
    cases hs : (putS (numsF fs)).isSome
    · go_wp2
      go_ret2
      exact ⟨str_ok (by rw [HN.out]) HM.out.symm, q2⟩
    · go_wp2_with fail
      refine (iMsg_is HM.out (hz.below q2) hn hd).mono ?_
      rintro e w3 ⟨rfl, b3⟩
      have q3 := next q2 b3
      clear b3 q2
      go_wp2
      go_ret2
      exact ⟨str_ok (by rw [HN.out]) HM.out.symm, q3⟩
  · have HY : Hid _ := packL_yes hm
    have HM : Hid _ := hm
    have HOK : Hid _ := (msgOk_parts hm).2
    rw [set_ok hm]
    clear hm
    go_wp2_with fail
    refine (iMsg_is HM.out (hz.below q2) hn hd).mono ?_
    rintro e w3 ⟨rfl, b3⟩
    have q3 := next q2 b3
    obtain ⟨c0, c1⟩ := keep2 d0 d1 b3
    clear b3 q2 d0 d1
    go_wp2_with fail
    refine (iPadNum_any _ _ _ (HT.out.below q3)).mono ?_
    rintro e w4 ⟨rfl, b4⟩
    have q4 := next q3 b4
    obtain ⟨d0, d1⟩ := keep2 c0 c1 b4
    have hpl := padT_l kd 4
    have hsl := setF_len fs
    have HT4 : Hid (Pow10 w4) := HT.out.below q4
    have HC : Hid (∀ i, i < fs.length → ∃ b off, ao = some ⟨b, off, none⟩ ∧ b < w4.heap.size ∧ w4.cell? ⟨b, off + i * 2, none⟩ = some (.int .i64 (at0 fs i).1) ∧ w4.cell? ⟨b, off + i * 2 + 1, none⟩ = some (.string ⟨(at0 fs i).2.toArray⟩)) := by
      rcases hz.below q4 with rfl | ⟨b, off, rfl, hb, hcell⟩
      · intro i hi; simp at hi
      · exact fun i hi => ⟨b, off, rfl, hb, hcell i hi⟩
    have HQ : Hid _ := q4
    clear b4 q3 c0 c1 q4 hz
    obtain ⟨p, hp⟩ : ∃ p, padT kd 4 = p := ⟨_, rfl⟩
    obtain ⟨s, hs⟩ : ∃ s, setF fs = s := ⟨_, rfl⟩
    rw [hp] at hpl HY ⊢
    rw [hs] at hsl HY ⊢
    clear hp hs
    go_wp2
    rw [ba_append]
    obtain ⟨H, hH⟩ : ∃ H, p ++ s = H := ⟨_, rfl⟩
    have hHl : H.length ≤ 34 := by rw [← hH, List.length_append]; omega
    rw [hH] at HY ⊢
    clear hH hpl hsl
    go_loopw [6, 33] (fun v i wr => ∃ k : Nat, k ≤ fs.length ∧ i = .int .i64 k ∧ v = .string ⟨(H ++ bodyP (fs.take k)).toArray⟩ ∧ Below w4.heap.size w4 wr) (fun _ i _ => fs.length - (intOf i).toNat)
    case atStart => exact ⟨0, Nat.zero_le _, rfl, by simp [bodyP], Below.refl _ _⟩
    case round =>
      obtain ⟨k, hk, rfl, rfl, hbr⟩ := hrel
      clear d0 d1
      have hbd := body_bd HOK.out k
      by_cases hlt : k < fs.length
      · obtain ⟨b, off, rfl, hb, e1, e2⟩ := HC.out k hlt
        have c1 : wr.cell? ⟨b, off + k * 2, none⟩ = some (.int .i64 (at0 fs k).1) := (hbr.cell (p := ⟨b, off + k * 2, none⟩) hb).trans e1
        have c2 : wr.cell? ⟨b, off + k * 2 + 1, none⟩ = some (.string ⟨(at0 fs k).2.toArray⟩) := (hbr.cell (p := ⟨b, off + k * 2 + 1, none⟩) hb).trans e2
        have hki : (k : Int) < (fs.length : Int) := by omega
        have HSTEP : Hid _ := body_step fs k hlt
        have hfo : fieldOk (at0 fs k).1 (at0 fs k).2 = true := (okF_mem HOK.out _ (at0_mem hlt)).1
        obtain ⟨⟨n, dt⟩, hf⟩ : ∃ f, at0 fs k = f := ⟨_, rfl⟩
        rw [hf] at c1 c2 HSTEP hfo
        simp only at c1 c2 HSTEP hfo
        have HF : Hid _ := hfo
        have hfl := putFld_len hfo
        have bx : Below w4.heap.size w4 (wr.alloc (.cells #[.int .i64 n, .string ⟨dt.toArray⟩] 60)) := hbr.alloc hbr.size _
        have HTr : Hid (Pow10 (wr.alloc (.cells #[.int .i64 n, .string ⟨dt.toArray⟩] 60))) := HT4.out.below bx
        obtain ⟨B, hB⟩ : ∃ B, H ++ bodyP (fs.take k) = B := ⟨_, rfl⟩
        have hBl : B.length ≤ 200000 := by rw [← hB, List.length_append]; omega
        rw [hB]
        have HB : Hid _ := hB
        clear hf hfo e1 e2 hB
        go_wp2_with fail
        refine (formOf_any _ _).mono ?_
        rintro e w5 ⟨rfl, hw5⟩
        subst hw5
        generalize knB n = kn
        go_wp2_with fail
        refine (putData_any _ _ _ HF.out HTr.out).mono ?_
        rintro e w6 ⟨rfl, b6⟩
        have bb : Below w4.heap.size w4 w6 := bx.trans (b6.mono (by have := hbr.size; simp; omega))
        obtain ⟨pf, hpf⟩ : ∃ x, putFld n dt = x := ⟨_, rfl⟩
        rw [hpf] at hfl HSTEP ⊢
        clear hpf b6 HTr bx
        generalize formV n = fv
        go_wp2
        go_roundw
        case rel => exact ⟨k + 1, by omega, by go_num, by rw [ba_append, HSTEP.out, ← HB.out, List.append_assoc], bb⟩
        case measure => simp [intOf]; omega
      · have hke : k = fs.length := by omega
        subst hke
        have HE : Hid (packL kd fs = H ++ bodyP (fs.take fs.length)) := by rw [Hid, HY.out, List.take_of_length_le (Nat.le_refl _)]
        obtain ⟨B, hB⟩ : ∃ B, H ++ bodyP (fs.take fs.length) = B := ⟨_, rfl⟩
        rw [hB] at HE ⊢
        clear hB
        go_wp2
        go_ret2
        exact ⟨str_ok (by rw [HE.out]) HM.out.symm, HQ.out.trans (hbr.mono HQ.out.size)⟩

end Go.Proofs.YtbncdhfmhokgeaaGreatDoor
