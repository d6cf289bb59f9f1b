/- The contract of the specification's BookText. -/
import Derived.Test.YtkdodamdjajbiaaBkSz
import Derived.Test.YtkdodamdjajbiaaBkTo
import Derived.Test.YtkdodamdjajbiaaSConv
import Derived.Lib.Join
namespace Go.Proofs.Ytkdodamdjajbiaa
open Go.RowKit
set_option maxRecDepth 100000

/-- each line with a newline behind it -/
def bookT (lg : Recs) : List UInt8 := lg.flatMap fun r => r ++ [10]
theorem bookT_next (lg : Recs) (k : Nat) (h : k < lg.length) : bookT (lg.take (k + 1)) = bookT (lg.take k) ++ (nth lg k ++ [10]) := by
  have e : nth lg k = lg[k] := by simp [nth, List.getD_eq_getElem?_getD, h]
  rw [List.take_succ_eq_append_getElem h, bookT, List.flatMap_append, e]; simp [bookT]
theorem bookT_len (lg : Recs) : (bookT lg).length = lg.length + sumT lg := by
  induction lg with
  | nil => rfl
  | cons r s ih =>
    have e : bookT (r :: s) = (r ++ [10]) ++ bookT s := rfl
    rw [e, List.length_append, ih]
    simp [sumT]; omega
theorem bookT_take (lg : Recs) (k : Nat) : (bookT (lg.take k)).length ≤ (bookT lg).length := by
  have e : bookT lg = bookT (lg.take k) ++ bookT (lg.drop k) := by
    rw [bookT, bookT, bookT, ← List.flatMap_append, List.take_append_drop]
  rw [e, List.length_append]; omega
theorem tail_last (r : Recs) : Lib.joinTail [10] (r ++ [[]]) = 10 :: bookT r := by
  induction r with
  | nil => rfl
  | cons y s ih =>
    have e : Lib.joinTail [10] (y :: s ++ [[]]) = ([10] ++ y) ++ Lib.joinTail [10] (s ++ [[]]) := rfl
    rw [e, ih]
    simp [bookT]
theorem join_last (lg : Recs) : Lib.join (lg ++ [[]]) [10] = bookT lg := by
  cases lg with
  | nil => rfl
  | cons x r =>
    rw [List.cons_append, Lib.join_cons, tail_last]
    simp [bookT]

set_option maxHeartbeats 6400000 in
theorem sBookText_any (b : Bk) (p : Bp) (w : World) (hx : BookAt w b p) (hn : bkLg b) :
    Calls Try.prog 23 #[bkv b p] w fun e w' => e = .returned (.string ⟨(bookT b.log).toArray⟩) ∧ Below w.heap.size w w' := by
  obtain ⟨i0, hi, hz0, hz1, hz2⟩ := info_parts info5
  obtain ⟨W, hW⟩ : ∃ W, W = (w.alloc (.cells #[.int .i64 b.today, .slice p.o b.off.length p.oc, .slice p.a b.az.length p.ac, .slice p.c b.cs.length p.cc, .slice p.l b.ls.length p.lc, .slice p.g b.log.length p.gc] 39)).alloc (.cells #[] 5) := ⟨_, rfl⟩
  have bW : Below w.heap.size w W := by rw [hW]; go_grown
  have HS : Hid (S6 w.heap.size b p W) := by rw [Hid, hW]; exact (S6.new w b p _).below ((Below.refl _ _).alloc (Nat.le_refl _) _)
  have HO0 : Hid (W.ownsRow (w.heap.size + 1) 5 1 (.slice (some ⟨w.heap.size + 1, 0, none⟩) 0 0) 0 ((bookT []).map cell)) := by
    have h := World.ownsRow_lit (base := w.heap.size + 1) (e := 5) (size := 1) (w.alloc (.cells #[.int .i64 b.today, .slice p.o b.off.length p.oc, .slice p.a b.az.length p.ac, .slice p.c b.cs.length p.cc, .slice p.l b.ls.length p.lc, .slice p.g b.log.length p.gc] 39)) #[] 0 (by simp) (by unfold maxLen; omega) rfl
    rw [Hid, hW]; simpa [bookT] using h
  have HX : Hid (TxtsAt w p.g b.log) := hx.log
  have HWS : Hid (W.heap.size = w.heap.size + 2) := by rw [Hid, hW]; simp
  have HQ : Hid (∀ u, Below (w.heap.size + 1) W u → Below w.heap.size w u) := fun u h => bW.trans (h.mono (by omega))
  have HK : Hid (∀ u, Below (w.heap.size + 1) W u → S6 w.heap.size b p u) := fun u h => HS.out.under h (by omega)
  have HL : Hid (∀ k, (bookT (b.log.take k)).length ≤ 1048576) := fun k => by have := bookT_take b.log k; have := bookT_len b.log; have := hn.2; omega
  have hcn := hn.1.2.2.2.2
  clear hx hn bW HS
  have HW : Hid _ := hW
  clear hW
  obtain ⟨td, fo, az, cs, ls, lg⟩ := b
  obtain ⟨o, oc, a, ac, c, cc, l, lc, g, gc⟩ := p
  unfold bkv
  simp only at HW HX hcn HL ⊢
  go_enter Try.func23, Try.ntmps23
  go_upto_region 2 with fail
  rw [← HW.out]
  clear HW
  go_wp2_with fail
  go_loopw [3, 4] (fun s i wr => ∃ (v : Value) (k : Nat), v = s ∧ k ≤ lg.length ∧ i = .int .i64 (k : Int) ∧ wr.ownsRow (w.heap.size + 1) 5 1 v (bookT (lg.take k)).length ((bookT (lg.take k)).map cell) ∧ Below (w.heap.size + 1) W wr) (fun _ i _ => lg.length - (intOf i).toNat)
  case atStart => exact ⟨_, 0, rfl, Nat.zero_le _, rfl, HO0.out, Below.refl _ _⟩
  case round =>
    obtain ⟨v, k, hvs, hk, rfl, hown, hbr⟩ := hrel
    subst hvs
    have HBR : Hid (Below (w.heap.size + 1) W wr) := hbr
    obtain ⟨x0, x1, x2, x3, x4, x5⟩ := HK.out _ hbr
    simp only at x0 x1 x2 x3 x4 x5
    by_cases hlt : k < lg.length
    · have hki : (k : Int) < (lg.length : Int) := by omega
      obtain ⟨gb, off, rfl, hgb, hcell⟩ : ∃ gb off, g = some ⟨gb, off, none⟩ ∧ gb < wr.heap.size ∧ wr.cell? ⟨gb, off + k, none⟩ = some (.string ⟨(nth lg k).toArray⟩) := by
        rcases HX.out.below (HQ.out _ hbr) with h | ⟨gb, off, h1, h2, h3⟩
        · rw [h] at hlt; simp at hlt
        · exact ⟨gb, off, h1, h2, h3 k hlt⟩
      have HNX : Hid _ := bookT_next lg k hlt
      have hl1 := HL.out k
      have hl2 := HL.out (k + 1)
      rw [HNX.out, List.length_append] at hl2
      obtain ⟨r, hr⟩ : ∃ r, nth lg k = r := ⟨_, rfl⟩
      rw [hr] at hcell HNX hl2
      obtain ⟨d, hd⟩ : ∃ d, r ++ [10] = d := ⟨_, rfl⟩
      rw [hd] at HNX hl2
      obtain ⟨D, hD⟩ : ∃ D, bookT (lg.take k) = D := ⟨_, rfl⟩
      rw [hD] at HNX hl1 hl2 hown
      have HO : Hid (wr.ownsRow (w.heap.size + 1) 5 1 v D.length (D.map cell)) := hown
      obtain ⟨cap5, w5, hcv0, hba, b5⟩ := conv_bytes d wr
      have hcv : (convert 9 81 (.string (⟨r.toArray⟩ ++ ⟨#[10]⟩))).run Try.prog wr = .ok (.slice (some ⟨wr.heap.size, 0, none⟩) d.length cap5) w5 := by
        rw [show (⟨r.toArray⟩ ++ ⟨#[10]⟩ : ByteArray) = ⟨d.toArray⟩ from by rw [← hd]; exact ba_append r [10]]; exact hcv0
      have HO5 : Hid (w5.ownsRow (w.heap.size + 1) 5 1 v D.length (D.map cell)) := keepL HO.out b5
      have hsz : wr.heap.size ≤ w5.heap.size := b5.size
      have hwz := hbr.size
      have hws := HWS.out
      have HNW : Hid (∀ j u, (d.map cell)[j]? = some u → w5.cell? ((⟨wr.heap.size, 0, none⟩ : Addr).add j) = some u) := by
        intro j u hj
        have hl : j < d.length := by
          rcases Nat.lt_or_ge j d.length with h' | h'
          · exact h'
          · rw [List.getElem?_eq_none (by simpa using h')] at hj; cases hj
        rw [show (⟨wr.heap.size, 0, none⟩ : Addr).add j = ⟨wr.heap.size, j, none⟩ from by unfold Addr.add; split <;> simp_all, (hba.2 j hl).1]
        simpa [List.getElem?_map, List.getD_eq_getElem?_getD, hl] using hj
      have HB5 : Hid (Below (w.heap.size + 1) W w5) := hbr.trans (b5.mono (by omega))
      have HLT : Hid (∀ j, v.ownBlock = some j → w.heap.size + 1 ≤ j) := fun j hj => (hown.lt j hj).1
      have hrl : r.length ≤ 1048576 := by
        have e : d.length = r.length + 1 := by rw [← hd]; simp
        omega
      clear hown hbr hba b5 hcv0 hd hr hD HO
      go_wp2_with (at_builtin; refine wpList_append_own _ rfl (.tmp 13) (.tmp 20) 81 rfl (w.heap.size + 1) 5 i0 (.int .u8 0) 1 1 Try.underlying81 hi hz0 hz1 hz2 rfl (by decide) v D.length _ rfl HO5.out ⟨wr.heap.size, 0, none⟩ d.length cap5 (d.map cell) rfl (by simp) HNW.out (bytes_one d) (by unfold maxLen; omega) (by omega) (by omega) ?_; intro v6 w6 o6 g6 _)
      have q6 : Below (w.heap.size + 1) W w6 := HB5.out.grown g6 (by omega) HLT.out
      have HR6 : Hid (w6.ownsRow (w.heap.size + 1) 5 1 v6 (bookT (lg.take (k + 1))).length ((bookT (lg.take (k + 1))).map cell)) := by
        rw [Hid, HNX.out, List.length_append, List.map_append]; exact o6
      clear o6 g6 x0 x1 x2 x3 x4 x5 hcell hcv
      go_wp2
      go_roundw
      case rel => exact ⟨_, k + 1, rfl, by omega, by go_num, HR6.out, q6⟩
      case measure => simp [intOf]; omega
    · have hke : k = lg.length := by omega
      subst hke
      have hki : ¬ (lg.length : Int) < (lg.length : Int) := by omega
      rw [List.take_length] at hown
      have hcv := text_own hown
      clear hbr hown
      go_wp2
      go_ret
      exact ⟨rfl, HQ.out _ HBR.out⟩

end Go.Proofs.Ytkdodamdjajbiaa
