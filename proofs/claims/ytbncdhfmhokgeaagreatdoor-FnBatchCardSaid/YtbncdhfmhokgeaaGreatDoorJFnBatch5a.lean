/- Joined: FWithG, MsgsOwn. -/
import Derived.Test.YtbncdhfmhokgeaaGreatDoorKFnBatchFWithY
import Derived.Test.YtbncdhfmhokgeaaGreatDoorKFnBatchSWith
import Derived.Test.YtbncdhfmhokgeaaGreatDoorJFnBatch3a
/- The contracts of With, the program's and the specification's, at a message as it lies. -/
namespace Go.Proofs.YtbncdhfmhokgeaaGreatDoor
open Go.RowKit

/-- a message whose fields lie somewhere, or that has none -/
def GoodMV (x : MV) : Prop := (x.ao = none ∧ x.fs = [] ∧ x.cap = 0) ∨ ∃ b off, x.ao = some ⟨b, off, none⟩ ∧ x.fs.length ≤ x.cap ∧ x.cap ≤ 9223372036854775807
theorem iWithG {kd : Int} {ao : Option Addr} {cap : Nat} {fs : List Fld} {num : Int} {d : List UInt8} {w : World} (hg : GoodMV ⟨kd, ao, cap, fs⟩) (hz : FldsAt w ao fs) (hn : fs.length ≤ 1048576) (hd : sumF fs ≤ 1048576) (hl : d.length ≤ 1099511627776) :
    Calls Tryz.prog 22 #[.agg #[.int .i64 kd, .slice ao fs.length cap], .int .i64 num, .string ⟨d.toArray⟩] w (Withs w kd (withL kd fs num d) (withOk kd fs num d)) := by
  rcases hg with ⟨h1, h2, h3⟩ | ⟨b, off, h1, h2, h3⟩
  · simp only at h1 h2 h3
    subst h1; subst h2; subst h3
    exact iWith_none kd num d w hl
  · simp only at h1 h2 h3
    subst h1
    exact iWith_any kd b off cap fs num d w hz hn hd hl h2 h3
theorem sWithG {kd : Int} {ao : Option Addr} {cap : Nat} {fs : List Fld} {num : Int} {d : List UInt8} {w : World} (_hg : GoodMV ⟨kd, ao, cap, fs⟩) (hz : FldsAt w ao fs) (hn : fs.length ≤ 1048576) (hd : sumF fs ≤ 1048576) (hl : d.length ≤ 1099511627776) :
    Calls Tryz.prog 62 #[.agg #[.int .i64 kd, .slice ao fs.length cap], .int .i64 num, .string ⟨d.toArray⟩] w (Withs w kd (withL kd fs num d) (withOk kd fs num d)) :=
  sWith_any kd ao cap fs num d w hz hn hd hl
/-- a message in a row of one's own -/
theorem good_own {w : World} {base n : Nat} {t : TypeId} {kd : Int} {ao : Option Addr} {cap : Nat} {fs : List Fld} (h : w.ownsRow base t 2 (.slice ao n cap) n (fcells fs)) : GoodMV ⟨kd, ao, cap, fs⟩ := by
  have hn : n = fs.length := by have := h.1; rw [fcells_len] at this; omega
  rcases h.2 with ⟨hv, h0⟩ | ⟨g, c, cur, hv, _, _, h1, h2, _⟩
  · have e : ao = none ∧ cap = 0 := by
      simp at hv; exact ⟨hv.1, hv.2.2⟩
    have e0 : fs.length = 0 := by omega
    exact .inl ⟨e.1, List.eq_nil_of_length_eq_zero e0, e.2⟩
  · obtain ⟨rfl, rfl⟩ : ao = some ⟨g, 0, none⟩ ∧ cap = c := by simpa using hv
    refine .inr ⟨g, 0, rfl, ?_, ?_⟩
    · show fs.length ≤ cap
      omega
    · show cap ≤ 9223372036854775807
      unfold maxLen at h2; omega

end Go.Proofs.YtbncdhfmhokgeaaGreatDoor

/- Messages of one's own: rows of messages whose fields lie in rows of one's own, all apart. -/
namespace Go.Proofs.YtbncdhfmhokgeaaGreatDoor
open Go.RowKit
set_option maxRecDepth 100000

def slv (x : MV) : Value := .slice x.ao x.fs.length x.cap
/-- a row of messages of one's own, each with a row of fields of one's own, no two of them the same -/
structure MsR (B : Nat) (w : World) (v : Value) (xs : List MV) : Prop where
  row : w.ownsRow B 26 2 v xs.length (mcells xs)
  rows : ∀ x ∈ xs, w.ownsRow B 60 2 (slv x) x.fs.length (fcells x.fs)
  apart : ∀ x ∈ xs, ∀ g, (slv x).ownBlock = some g → v.ownBlock ≠ some g
  pair : xs.Pairwise fun x y => ∀ g, (slv x).ownBlock = some g → (slv y).ownBlock ≠ some g
theorem MsR.below {B : Nat} {w w' : World} {v : Value} {xs : List MV} (h : MsR B w v xs) (hb : Below w.heap.size w w') : MsR B w' v xs :=
  ⟨keepRow h.row hb, fun x hx => keepRow (h.rows x hx) hb, h.apart, h.pair⟩
theorem MsR.nil (B : Nat) (w : World) : MsR B w (.slice none 0 0) [] := ⟨World.ownsRow_nil _ _ _ _, (fun x hx => by cases hx), (fun x hx => by cases hx), List.Pairwise.nil⟩
theorem flds_ofS {w : World} {base n : Nat} {t : TypeId} {x : MV} (h : w.ownsRow base t 2 (slv x) n (fcells x.fs)) : FldsAt w x.ao x.fs := by
  obtain ⟨ao', cap', hv, hf, _⟩ := flds_of_own' h
  obtain ⟨rfl, _⟩ : x.ao = ao' ∧ x.cap = cap' := by simpa [slv] using hv
  exact hf
theorem MsR.msgs {B : Nat} {w : World} {v : Value} {xs : List MV} (h : MsR B w v xs) : ∃ ao cap, v = .slice ao xs.length cap ∧ MsgsAt w ao xs := by
  obtain ⟨ao, cap, h1, h2, _⟩ := msgs_of_own h.row (fun x hx => flds_ofS (h.rows x hx))
  exact ⟨ao, cap, h1, h2⟩
theorem keepG {w w' : World} {base n size : Nat} {t : TypeId} {v : Value} {xs : List Value} {r : Option Nat} (h : w.ownsRow base t size v n xs) (hb : w.grownBy w' r) (hne : ∀ g, v.ownBlock = some g → r ≠ some g) : w'.ownsRow base t size v n xs := by
  obtain ⟨h1, h2⟩ := h
  refine ⟨h1, ?_⟩
  rcases h2 with h | ⟨g, cap, cur, hv, hg, hh, a1, a2, a3, a4⟩
  · exact .inl h
  · have hlt : g < w.heap.size := (Array.getElem?_eq_some_iff.1 hh).1
    exact .inr ⟨g, cap, cur, hv, hg, (hb.block g hlt (fun e => hne g (by rw [hv]; rfl) e.symm)).trans hh, a1, a2, a3, a4⟩
/-- behind an append of one message -/
theorem MsR.snoc {B : Nat} {w w1 w2 : World} {v v' : Value} {xs : List MV} {x : MV} (h : MsR B w v xs) (hb : Below w.heap.size w w1) (hx : w1.ownsRow w.heap.size 60 2 (slv x) x.fs.length (fcells x.fs)) (hB : B ≤ w.heap.size)
    (ho : w2.ownsRow B 26 2 v' (xs.length + 1) (mcells xs ++ mcells [x])) (hg : w1.grownBy w2 v.ownBlock) (hv : v'.ownBlock = v.ownBlock ∨ ∃ g, v'.ownBlock = some g ∧ w1.heap.size ≤ g) : MsR B w2 v' (xs ++ [x]) := by
  have hvb : ∀ g, v.ownBlock = some g → g < w.heap.size := fun g hg => (h.row.lt g hg).2
  have r1 : ∀ y ∈ xs, w2.ownsRow B 60 2 (slv y) y.fs.length (fcells y.fs) := fun y hy => keepG (keepRow (h.rows y hy) hb) hg (fun g hg => h.apart y hy g hg)
  have r2 : w2.ownsRow B 60 2 (slv x) x.fs.length (fcells x.fs) := lowerRow (keepG hx hg (fun g hgx e => by
    have := hvb g e
    have := (hx.lt g hgx).1
    omega)) hB
  refine ⟨by rw [mcells_append, List.length_append]; exact ho, fun y hy => ?_, fun y hy g hgy e => ?_, ?_⟩
  · rcases List.mem_append.1 hy with hy | hy
    · exact r1 y hy
    · obtain rfl : y = x := by simpa using hy
      exact r2
  · rcases hv with hv | ⟨g', hv, hge⟩
    · rw [hv] at e
      rcases List.mem_append.1 hy with hy | hy
      · exact h.apart y hy g hgy e
      · obtain rfl : y = x := by simpa using hy
        have := hvb g e
        have := (hx.lt g hgy).1
        omega
    · obtain rfl : g' = g := by rw [hv] at e; simpa using e
      rcases List.mem_append.1 hy with hy | hy
      · have := (keepRow (h.rows y hy) hb).lt g' hgy
        omega
      · obtain rfl : y = x := by simpa using hy
        have := hx.lt g' hgy
        omega
  · refine List.pairwise_append.2 ⟨h.pair, List.pairwise_singleton _ _, fun a ha b hb2 g hga e => ?_⟩
    obtain rfl : b = x := by simpa using hb2
    have h1 := (h.rows a ha).lt g hga
    have h2 := (hx.lt g e).1
    omega

/-- messages that lie in part of a block, each with a row of fields of one's own, no two of them the same -/
structure MsO (w : World) (B b off n : Nat) (sv : Nat → Value) (len : Nat → Nat) (kd : Nat → Int) (fs : Nat → List Fld) : Prop where
  lt : ∀ i, i < n → B ≤ b ∧ b < w.heap.size
  c0 : ∀ i, i < n → w.cell? ⟨b, off + i * 2, none⟩ = some (.int .i64 (kd i))
  c1 : ∀ i, i < n → w.cell? ⟨b, off + i * 2 + 1, none⟩ = some (sv i)
  fr : ∀ i, i < n → ∀ j, w.frozen? ⟨b, j, none⟩ = false
  rows : ∀ i, i < n → w.ownsRow B 60 2 (sv i) (len i) (fcells (fs i))
  apart : ∀ i, i < n → (sv i).ownBlock ≠ some b
  pair : ∀ i j, i < n → j < n → i ≠ j → ∀ g, (sv i).ownBlock = some g → (sv j).ownBlock ≠ some g
theorem MsO.below {w w' : World} {B b off n : Nat} {sv : Nat → Value} {len : Nat → Nat} {kd : Nat → Int} {fs : Nat → List Fld} (h : MsO w B b off n sv len kd fs) (hb : Below w.heap.size w w') : MsO w' B b off n sv len kd fs :=
  ⟨fun i hi => ⟨(h.lt i hi).1, Nat.lt_of_lt_of_le (h.lt i hi).2 hb.size⟩, fun i hi => (hb.cell (p := ⟨b, off + i * 2, none⟩) (h.lt i hi).2).trans (h.c0 i hi), fun i hi => (hb.cell (p := ⟨b, off + i * 2 + 1, none⟩) (h.lt i hi).2).trans (h.c1 i hi),
    fun i hi j => (hb.frozen (p := ⟨b, j, none⟩) (h.lt i hi).2).trans (h.fr i hi j), fun i hi => keepRow (h.rows i hi) hb, h.apart, h.pair⟩
theorem MsO.congr {w : World} {B b off n : Nat} {sv : Nat → Value} {len : Nat → Nat} {kd kd' : Nat → Int} {fs fs' : Nat → List Fld} (h : MsO w B b off n sv len kd fs) (e1 : ∀ i, i < n → kd i = kd' i) (e2 : ∀ i, i < n → fs i = fs' i) : MsO w B b off n sv len kd' fs' :=
  ⟨h.lt, fun i hi => by rw [← e1 i hi]; exact h.c0 i hi, h.c1, h.fr, fun i hi => by rw [← e2 i hi]; exact h.rows i hi, h.apart, h.pair⟩
/-- a kind is stored -/
theorem MsO.setKd {w : World} {B b off n : Nat} {sv : Nat → Value} {len : Nat → Nat} {kd : Nat → Int} {fs : Nat → List Fld} (h : MsO w B b off n sv len kd fs) {j : Nat} (hj : j < n) (y : Int) :
    MsO (w.setCell ⟨b, off + j * 2, none⟩ (.int .i64 y)) B b off n sv len (fun i => if i = j then y else kd i) fs := by
  refine ⟨fun i hi => ⟨(h.lt i hi).1, by simpa using (h.lt i hi).2⟩, fun i hi => ?_, fun i hi => ?_, fun i hi k => ?_, fun i hi => keepSet (h.rows i hi) _ _ (fun g hg e => h.apart i hi (by rw [hg, e])), h.apart, h.pair⟩
  · by_cases e : i = j
    · subst e
      rw [if_pos rfl]
      have := h.c0 i hi
      simp [go_sem, this]
    · rw [if_neg e, World.cell?_setCell_other _ _ _ _ (by first | (simp; done) | (simp; omega))]
      exact h.c0 i hi
  · rw [World.cell?_setCell_other _ _ _ _ (by first | (simp; done) | (simp; omega))]
    exact h.c1 i hi
  · have := h.fr i hi k
    simpa [go_sem] using this
/-- a row of fields is marked -/
theorem MsO.setFs {w w' : World} {B b off n : Nat} {sv : Nat → Value} {len : Nat → Nat} {kd : Nat → Int} {fs : Nat → List Fld} (h : MsO w B b off n sv len kd fs) {j : Nat} (hj : j < n) {gs : List Fld} (hg : w.grownBy w' (sv j).ownBlock) (ho : w'.ownsRow B 60 2 (sv j) (len j) (fcells gs)) :
    MsO w' B b off n sv len kd (fun i => if i = j then gs else fs i) := by
  have hne : some b ≠ (sv j).ownBlock := fun e => h.apart j hj e.symm
  refine ⟨fun i hi => ⟨(h.lt i hi).1, Nat.lt_of_lt_of_le (h.lt i hi).2 hg.size⟩, fun i hi => (hg.cell_far ⟨b, off + i * 2, none⟩ (h.lt i hi).2 hne).trans (h.c0 i hi), fun i hi => (hg.cell_far ⟨b, off + i * 2 + 1, none⟩ (h.lt i hi).2 hne).trans (h.c1 i hi),
    fun i hi k => (hg.frozen_far ⟨b, k, none⟩ (h.lt i hi).2 hne).trans (h.fr i hi k), fun i hi => ?_, h.apart, h.pair⟩
  by_cases e : i = j
  · subst e; rw [if_pos rfl]; exact ho
  · rw [if_neg e]
    exact keepG (h.rows i hi) hg (fun g hgi e2 => h.pair j i hj hi (fun e3 => e e3.symm) g e2 hgi)
/-- part of a row of messages -/
theorem MsR.part {B : Nat} {w : World} {G cap : Nat} {ys : List MV} (h : MsR B w (.slice (some ⟨G, 0, none⟩) ys.length cap) ys) (a m : Nat) (ham : a + m ≤ ys.length) :
    MsO w B G (a * 2) m (fun i => slv (vAt ys (a + i))) (fun i => (vAt ys (a + i)).fs.length) (fun i => (vAt ys (a + i)).kd) (fun i => (vAt ys (a + i)).fs) := by
  refine ⟨fun i hi => h.row.lt G rfl, fun i hi => ?_, fun i hi => ?_, fun i hi j => h.row.frozenAt _, fun i hi => h.rows _ (vAt_mem (by omega)), fun i hi e => h.apart _ (vAt_mem (show a + i < ys.length by omega)) G e rfl, fun i j hi hj hij g hgi => ?_⟩
  · have := (mcells_at ys (a + i) (by omega)).1
    rw [show a * 2 + i * 2 = (a + i) * 2 by omega, h.row.cellAt ((a + i) * 2) (by omega)]; exact this
  · have := (mcells_at ys (a + i) (by omega)).2
    rw [show a * 2 + i * 2 + 1 = (a + i) * 2 + 1 by omega, h.row.cellAt ((a + i) * 2 + 1) (by omega)]; exact this
  · have hp := List.pairwise_iff_getElem.1 h.pair
    have hi' : a + i < ys.length := by omega
    have hj' : a + j < ys.length := by omega
    rw [vAt_is hi'] at hgi
    rw [vAt_is hj']
    rcases Nat.lt_or_gt_of_ne hij with hlt | hlt
    · exact hp (a + i) (a + j) hi' hj' (by omega) g hgi
    · intro e
      exact hp (a + j) (a + i) hj' hi' (by omega) g e hgi

end Go.Proofs.YtbncdhfmhokgeaaGreatDoor
