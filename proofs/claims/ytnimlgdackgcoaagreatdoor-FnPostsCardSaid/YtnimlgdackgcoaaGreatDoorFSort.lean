/- The library's slices.SortFunc at lines, by compareLines: a permutation, in order. -/
import Derived.Test.YtnimlgdackgcoaaGreatDoorShelf
import Derived.Test.YtnimlgdackgcoaaGreatDoorFCmp
import Derived.Test.YtnimlgdackgcoaaGreatDoorPostP
namespace Go.Proofs.YtnimlgdackgcoaaGreatDoor
open Go.RowKit Go.Sort Go.Shelf Go.Lib
set_option maxRecDepth 100000

theorem flat_lcells (ls : List Ln) : flatK lcell 3 ls.toArray = (lcells ls).toArray := by
  apply ext_get!
  · simp [lcells_len]
  · intro t ht
    simp only [size_flatK, List.size_toArray] at ht
    rw [get_flatK _ _ _ _ (by simpa using ht)]
    have hq : t / 3 < ls.length := by omega
    have hx : ls.toArray[t / 3]! = lnAt ls (t / 3) := by simp [lnAt, List.getD_eq_getElem?_getD, hq]
    have h := lcells_at ls (t / 3) hq
    rw [hx]
    have hg : (lcells ls).toArray[t]! = ((lcells ls)[t]?).getD default := by simp
    rw [hg]
    rcases (show t % 3 = 0 ∨ t % 3 = 1 ∨ t % 3 = 2 by omega) with e | e | e
    · rw [e, show t = t / 3 * 3 by omega, h.1, show (t / 3 * 3) / 3 = t / 3 by omega]; rfl
    · rw [e, show t = t / 3 * 3 + 1 by omega, h.2.1, show (t / 3 * 3 + 1) / 3 = t / 3 by omega]; rfl
    · rw [e, show t = t / 3 * 3 + 2 by omega, h.2.2, show (t / 3 * 3 + 2) / 3 = t / 3 by omega]; rfl
theorem holds_own {w : World} {base n cap g : Nat} {t : TypeId} {ls : List Ln} (h : w.ownsRow base t 3 (.slice (some ⟨g, 0, none⟩) n cap) n (lcells ls)) : HoldsK lcell 3 w g 0 ls.toArray := by
  have hn : n = ls.length := by have := h.1; rw [lcells_len] at this; omega
  intro j hj
  rw [flat_lcells] at hj ⊢
  simp only [List.size_toArray, lcells_len] at hj
  refine ⟨?_, h.frozenAt _⟩
  rw [Nat.zero_add, h.cellAt j (by omega)]
  have : j < (lcells ls).length := by rw [lcells_len]; omega
  simp [getElem!_pos, this]
theorem own_sorted {w : World} {base n cap g m : Nat} {t : TypeId} {ls ds : List Ln} {os : Array Obj} (h : w.ownsRow base t 3 (.slice (some ⟨g, 0, none⟩) n cap) n (lcells ls)) (hl : ds.length = ls.length) :
    (sortWorldK lcell 3 w g 0 m ds.toArray os).ownsRow base t 3 (.slice (some ⟨g, 0, none⟩) n cap) n (lcells ds) := by
  have hn : n = ls.length := by have := h.1; rw [lcells_len] at this; omega
  have hlt : g < w.heap.size := (h.lt g rfl).2
  rcases h.2 with ⟨e0, _⟩ | ⟨g', cap', cur, e0, hb, hg, hnc, hm, hs, ht⟩
  · cases e0
  · injection e0 with e1 _ e3
    injection e1 with e1
    injection e1 with e1
    subst e1; subst e3
    refine ⟨by rw [lcells_len]; omega, .inr ⟨g, cap, putCells id 0 (lcells ds).toArray cur, rfl, hb, ?_, hnc, hm, by simpa [putCells] using hs, ?_⟩⟩
    · unfold sortWorldK putRowK
      rw [flat_lcells]
      have e1 : ((w.heap.modify g (onCells (putCells id 0 (lcells ds).toArray))) ++ os)[g]? = some (.cells (putCells id 0 (lcells ds).toArray cur) t) := by
        rw [Array.getElem?_append_left (by simpa using hlt), Array.getElem?_modify, if_pos rfl, hg]; rfl
      exact e1
    · apply List.ext_getElem?
      intro j
      rw [List.getElem?_take, Array.getElem?_toList]
      by_cases hj : j < n * 3
      · have hjc : j < cur.size := by rw [hs]; exact Nat.lt_of_lt_of_le hj (Nat.mul_le_mul_right 3 hnc)
        have hd : j < (lcells ds).length := by rw [lcells_len]; omega
        simp only [if_pos hj, putCells, Array.getElem?_mapIdx, Array.getElem?_eq_getElem hjc, Option.map_some]
        rw [if_pos ⟨Nat.zero_le _, by simpa using hd⟩, List.getElem?_eq_getElem hd]
        simp [getElem!_pos, hd]
      · rw [if_neg hj, List.getElem?_eq_none (by rw [lcells_len]; omega)]
theorem below_sorted {B : Nat} {w0 w : World} {g m : Nat} {d : Array Ln} {os : Array Obj} (h : RowKit.Below B w0 w) (hB : B ≤ w0.heap.size) (hg : B ≤ g) : RowKit.Below B w0 (sortWorldK lcell 3 w g 0 m d os) := by
  refine ⟨h.os, h.tape, h.output, ?_, fun k hk => ?_⟩
  · have := h.size
    simp [sortWorldK, putRowK, grow, putRow, mapBlock, Sort.ahead]; omega
  · rw [← h.block k hk]
    have hs := h.size
    have e1 : ((w.heap.modify g (onCells (putCells id 0 (flatK lcell 3 d)))) ++ os)[k]? = w.heap[k]? := by
      rw [Array.getElem?_append_left (by simp; omega), Array.getElem?_modify, if_neg (by omega)]
    exact e1
theorem ltOf_cmp (x y : Ln) : ltOf cmpL x y = lnLt x y := by
  unfold ltOf
  rw [Bool.eq_iff_iff, decide_eq_true_eq]; exact cmpL_lt x y
theorem swoL : SWO (ltOf cmpL) where
  irrefl x := by rw [ltOf_cmp]; simp [lnLt]
  trans x y z h1 h2 := by rw [ltOf_cmp] at *; exact lnLt_trans h1 h2
  ntrans x y z h1 h2 := by rw [ltOf_cmp] at *; simp [lnLt] at *; omega
theorem cmpLays (blk off size : Nat) (w : World) : CmpLays Tryz.prog 46 #[] lcell 3 cmpL blk off size w :=
  fun _ _ _ _ x y => cmpLines_any x.1 x.2.1 x.2.2 y.1 y.2.1 y.2.2 _
theorem perm_of {ls : List Ln} {d : Array Ln} (h : PermIn 0 ls.toArray.size ls.toArray d) : d.toList.Perm ls ∧ d.size = ls.length := by
  obtain ⟨h1, _, h3⟩ := h
  have hs : d.size = ls.length := by simpa using h1
  refine ⟨?_, hs⟩
  have e1 : d.extract 0 ls.toArray.size = d := by simp [← hs]
  have e2 : ls.toArray.extract 0 ls.toArray.size = ls.toArray := by simp
  rw [e1, e2] at h3
  simpa using h3
theorem sorted_of {n : Nat} {d : Array Ln} (h : SortedIn (ltOf cmpL) 0 n d) (hn : d.size = n) : d.toList.Pairwise (fun x y => lnLt y x = false) := by
  rw [List.pairwise_iff_getElem]
  intro i j hi hj hij
  simp only [Array.length_toList] at hi hj
  have := h i j (Nat.zero_le _) hij (by omega)
  rw [ltOf_cmp, getElem!_pos d j hj, getElem!_pos d i hi] at this
  simpa using this

set_option maxHeartbeats 1600000 in
theorem sort_any (ao : Option Addr) (n cap base : Nat) (ls : List Ln) (w : World) (ho : w.ownsRow base 49 3 (.slice ao n cap) n (lcells ls)) (hn : ls.length ≤ 1000) (hb : base ≤ w.heap.size) :
    Calls Tryz.prog 49 #[.slice ao n cap, .func (.func 46) #[] #[]] w fun e w' => e = .returned (.tuple #[]) ∧ ∃ ds : List Ln, ds.Perm ls ∧ ds.Pairwise (fun x y => lnLt y x = false) ∧ w'.ownsRow base 49 3 (.slice ao n cap) n (lcells ds) ∧ RowKit.Below base w w' := by
  have hnl : n = ls.length := by have := ho.1; rw [lcells_len] at this; omega
  rcases ho.2 with ⟨e0, h0⟩ | ⟨g, cap', cur, e0, hbg, _⟩
  · have hls : ls = [] := List.eq_nil_of_length_eq_zero (by omega)
    subst h0
    have h := AnyF.slices_SortFunc_none Tryz.sortLn ao cap (.func (.func 46) #[] #[]) w
    change Calls Tryz.prog 49 _ _ _ at h
    refine h.mono ?_
    rintro e w' ⟨rfl, rfl⟩
    refine ⟨rfl, [], by rw [hls], List.Pairwise.nil, ?_, RowKit.Below.refl _ _⟩
    rw [hls] at ho; exact ho
  · injection e0 with e1 _ e3
    subst e1
    have hlt := (ho.lt g rfl).2
    have eg : ∀ args w, (callFunc 46 args).run Tryz.prog w = .ok (.enter 46 args) w := enters_of Tryz.func46 (by kernel_rfl) rfl
    have h := AnyQ.slices_SortFunc Tryz.sortLn 3 Tryz.isAgg49 Tryz.sizeOf49 lcell (fun _ => rfl) (fun x v hv => by simp [lcell] at hv; rcases hv with rfl | rfl | rfl <;> rfl) cmpL swoL 46 #[] g 0 cap ls.toArray w eg (cmpLays g 0 ls.toArray.size w) (holds_own ho) hlt (by simp; omega)
    change Calls Tryz.prog 49 _ _ _ at h
    have hz : ls.toArray.size = n := by simp [hnl]
    rw [hz] at h
    refine h.mono ?_
    rintro e w' ⟨rfl, d', m, os, hp, hs, rfl⟩
    rw [← hz] at hp
    obtain ⟨p1, p2⟩ := perm_of hp
    have hd : d' = d'.toList.toArray := by simp
    refine ⟨rfl, d'.toList, p1, sorted_of hs (by rw [p2, hnl]), ?_, below_sorted (RowKit.Below.refl _ _) hb hbg⟩
    rw [hd]
    exact own_sorted ho (by simp [p2])

end Go.Proofs.YtnimlgdackgcoaaGreatDoor
