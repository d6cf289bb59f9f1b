/- The contract of the program's LedgerText. -/
import Derived.Test.YtnimlgdackgcoaaGreatDoorLTxt2
import Derived.Test.YtnimlgdackgcoaaGreatDoorShelf
import Derived.Maps.AppendAt
namespace Go.Proofs.YtnimlgdackgcoaaGreatDoor
open Go.RowKit
set_option maxRecDepth 100000

def tbytes (ls : List Ln) : List ByteArray := ls.map fun x => ⟨(lineT x).toArray⟩
def tcells (ls : List Ln) : List Value := ls.map fun x => .string ⟨(lineT x).toArray⟩
theorem tcells_len (ls : List Ln) : (tcells ls).length = ls.length := by simp [tcells]
theorem tcells_next (ls : List Ln) (k : Nat) (h : k < ls.length) : tcells (ls.take (k + 1)) = tcells (ls.take k) ++ [.string ⟨(lineT (lnAt ls k)).toArray⟩] := by
  rw [take_lnAt ls k h, tcells, List.map_append]; rfl
theorem tbytes_join (ls : List Ln) : Lib.join ((tbytes ls).map (·.data.toList)) [59] = textL ls := by
  rw [textL, tbytes, List.map_map]; rfl
theorem tcells_at (ls : List Ln) (j : Nat) (x : ByteArray) (h : (tbytes ls)[j]? = some x) : (tcells ls)[j]? = some (.string x) := by
  simp only [tbytes, tcells, List.getElem?_map, Option.map_eq_some_iff] at h ⊢
  obtain ⟨y, h1, rfl⟩ := h
  exact ⟨y, h1, rfl⟩
theorem keepT {w w' : World} {base n size : Nat} {t : TypeId} {v : Value} {xs : List Value} (h : w.ownsRow base t size v n xs) (hb : Below w.heap.size w w') : w'.ownsRow base t size v n xs := by
  obtain ⟨h1, h2⟩ := h
  refine ⟨h1, ?_⟩
  rcases h2 with h | ⟨g, cap, cur, hv, hg, hh, a1, a2, a3, a4⟩
  · exact .inl h
  · have hlt : g < w.heap.size := (Array.getElem?_eq_some_iff.1 hh).1
    exact .inr ⟨g, cap, cur, hv, hg, (hb.block g hlt).trans hh, a1, a2, a3, a4⟩
theorem join_own {w : World} {base : Nat} {t : TypeId} {v : Value} {ls : List Ln} (h : w.ownsRow base t 1 v ls.length (tcells ls)) (h0 : ls ≠ []) :
    ∃ g cap, v = .slice (some ⟨g, 0, none⟩) (tbytes ls).length cap ∧ g < w.heap.size ∧ (tbytes ls).length ≤ cap ∧ ∀ (j : Nat) x, (tbytes ls)[j]? = some x → w.cell? ⟨g, 0 + j, none⟩ = some (.string x) := by
  have hlen : (tbytes ls).length = ls.length := by simp [tbytes]
  rcases h.2 with ⟨_, hn⟩ | ⟨g, cap, cur, rfl, hg, hh, a1, a2, a3, a4⟩
  · exact absurd (List.eq_nil_of_length_eq_zero hn) h0
  · refine ⟨g, cap, by rw [hlen], (h.lt g rfl).2, by rw [hlen]; omega, fun j x hj => ?_⟩
    have hjl : j < ls.length := by rw [← hlen]; exact (List.getElem?_eq_some_iff.1 hj).1
    rw [Nat.zero_add, h.cellAt j (by omega)]
    exact tcells_at ls j x hj
theorem one_txt {w : World} {g : Nat} {r : List UInt8} (h : w.cell? ⟨g, 0, none⟩ = some (.string ⟨r.toArray⟩)) : ∀ (j : Nat) (u : Value), [Value.string ⟨r.toArray⟩][j]? = some u → w.cell? ((⟨g, 0, none⟩ : Addr).add j) = some u := by
  intro j u hj
  match j with
  | 0 => simp at hj; subst hj; simpa [Addr.add] using h
  | j + 1 => simp at hj
theorem one_oneS (r : List UInt8) : ∀ u ∈ [Value.string ⟨r.toArray⟩], u.oneCell' = true := by
  intro u hu
  simp at hu
  subst hu; rfl

set_option maxHeartbeats 3200000 in
theorem iLedgerText_any (ao : Option Addr) (cap : Nat) (ls : List Ln) (w : World) (hz : LinesAt w ao ls) (hn : ls.length ≤ 1099511627776) (hwf : ∀ x ∈ ls, lnBd x) (ht : Pow10 w) :
    Calls Tryz.prog 15 #[.agg #[.slice ao ls.length cap]] w fun e w' => e = .returned (.string ⟨(ledT ls).toArray⟩) ∧ Below w.heap.size w w' := by
  obtain ⟨i0, hi, hz0, hz1, hz2⟩ := info_parts infoS
  obtain ⟨W, hW⟩ : ∃ W, W = w.alloc (.cells #[.slice ao ls.length cap] 26) := ⟨_, rfl⟩
  have bW : Below w.heap.size w W := by rw [hW]; go_grown
  have l0 : W.cell? ⟨w.heap.size, 0, none⟩ = some (.slice ao ls.length cap) := by rw [hW]; simp
  have HZ : Hid (LinesAt W ao ls) := hz.below bW
  have HT : Hid (Pow10 W) := ht.below bW
  have HBW : Hid (Below w.heap.size w W) := bW
  have HWF : Hid (∀ x ∈ ls, lnBd x) := hwf
  clear hz bW ht hwf
  cases hL : ledgerOk ls
  · have HE : Hid _ := ledT_no hL
    have HC : Hid (Calls Tryz.prog 23 #[.agg #[.slice ao ls.length cap]] W fun e w' => e = .returned (.bool false) ∧ Below W.heap.size W w') := by
      have h := iLedgerOk_any ao cap ls W HZ.out hn HWF.out
      rw [hL] at h; exact h
    clear hL
    go_enter Tryz.func15, Tryz.ntmps15
    go_upto_region 1 with fail
    rw [← hW]
    clear hW
    go_wp2_with fail
    refine HC.out.mono ?_
    rintro e w1 ⟨rfl, b1⟩
    have q1 := next HBW.out b1
    clear b1
    go_wp2
    go_ret
    exact ⟨one_str (by rw [HE.out]), q1⟩
  have HC : Hid (Calls Tryz.prog 23 #[.agg #[.slice ao ls.length cap]] W fun e w' => e = .returned (.bool true) ∧ Below W.heap.size W w') := by
    have h := iLedgerOk_any ao cap ls W HZ.out hn HWF.out
    rw [hL] at h; exact h
  have HOK : Hid (∀ x ∈ ls, lnOk x = true) := linesOk_mem (by simp only [ledgerOk, Bool.and_eq_true] at hL; exact hL.1)
  have hl4 : ls.length ≤ 400 := by simp only [ledgerOk, Bool.and_eq_true, decide_eq_true_eq] at hL; exact hL.2.1
  have HLK : Hid (ledgerOk ls = true) := hL
  clear hL
  go_enter Tryz.func15, Tryz.ntmps15
  go_upto_region 1 with fail
  rw [← hW]
  clear hW
  go_wp2_with fail
  refine HC.out.mono ?_
  rintro e w1 ⟨rfl, b1⟩
  have q1 := next HBW.out b1
  have HZ1 : Hid (LinesAt w1 ao ls) := HZ.out.below b1
  have HT1 : Hid (Pow10 w1) := HT.out.below b1
  have l1 : w1.cell? ⟨w.heap.size, 0, none⟩ = some (.slice ao ls.length cap) := (b1.cell (p := ⟨w.heap.size, 0, none⟩) (World.block_lt_of_cell? W _ l0)).trans l0
  clear b1 l0 HC HZ HT HWF
  by_cases h0 : ls = []
  · have HE : Hid _ := ledT_none HLK.out h0
    have h00 : ls.length = 0 := by rw [h0]; rfl
    rw [h00] at l1
    clear HLK h00
    go_wp2
    go_ret
    exact ⟨one_str (by rw [HE.out]), q1⟩
  have HE : Hid _ := ledT_yes HLK.out h0
  have H0 : Hid (ls ≠ []) := h0
  have hpos : 0 < ls.length := List.length_pos_iff.2 h0
  have hpi : ((ls.length : Int) == 0) = false := beq_eq_false_iff_ne.2 (by omega)
  clear h0 HLK
  go_wp2
  clear l1
  go_loopw [3, 16] (fun s i wr => ∃ (v : Value) (k : Nat), v = s ∧ k ≤ ls.length ∧ i = .int .i64 k ∧ wr.ownsRow w1.heap.size 9 1 v k (tcells (ls.take k)) ∧ Below w1.heap.size w1 wr) (fun _ i _ => ls.length - (intOf i).toNat)
  case atStart => exact ⟨_, 0, rfl, Nat.zero_le _, rfl, World.ownsRow_nil _ _ _ _, Below.refl _ _⟩
  case round =>
    obtain ⟨v, k, hvs, hk, rfl, hown, hbr⟩ := hrel
    subst hvs
    have hbs := hbr.size
    by_cases hlt : k < ls.length
    · have hki : (k : Int) < (ls.length : Int) := by omega
      obtain ⟨b, off, rfl, hb2, c1, c2, c3⟩ := (HZ1.out.below hbr).at hlt
      have HNX : Hid _ := tcells_next ls k hlt
      have hok := HOK.out _ (lnAt_mem hlt)
      have hLl := lineT_le hok
      obtain ⟨⟨x, y, z⟩, hx⟩ : ∃ x, lnAt ls k = x := ⟨_, rfl⟩
      rw [hx] at c1 c2 c3 HNX hok hLl
      simp only at c1 c2 c3
      obtain ⟨V, hV⟩ : ∃ V, V = wr.alloc (.cells #[.int .i64 x, .int .i64 y, .int .i64 z] 49) := ⟨_, rfl⟩
      have bV : Below wr.heap.size wr V := by rw [hV]; go_grown
      have qV : Below w1.heap.size w1 V := next hbr bV
      have hsV : w1.heap.size ≤ V.heap.size := qV.size
      have g0 : V.cell? ⟨wr.heap.size, 0, none⟩ = some (.int .i64 x) := by rw [hV]; simp
      have g1 : V.cell? ⟨wr.heap.size, 1, none⟩ = some (.int .i64 y) := by rw [hV]; simp
      have g2 : V.cell? ⟨wr.heap.size, 2, none⟩ = some (.int .i64 z) := by rw [hV]; simp
      have HO : Hid (V.ownsRow w1.heap.size 9 1 v k (tcells (ls.take k))) := keepT hown bV
      have HLT : Hid (∀ j, v.ownBlock = some j → w1.heap.size ≤ j) := fun j hj => (hown.lt j hj).1
      obtain ⟨r, hr⟩ : ∃ r, lineT (x, y, z) = r := ⟨_, rfl⟩
      have HCL : Hid (Calls Tryz.prog 36 #[.agg #[.int .i64 x, .int .i64 y, .int .i64 z]] V fun e w' => e = .returned (.string ⟨r.toArray⟩) ∧ Below V.heap.size V w') := by rw [← hr]; exact lineText_any x y z V hok (HT1.out.below qV)
      rw [hr] at HNX hLl
      have HQV : Hid (Below w1.heap.size w1 V) := qV
      clear hr hok hown hx bV qV
      go_upto_region 9 with fail
      rw [← hV]
      clear hV
      go_wp2_with fail
      refine HCL.out.mono ?_
      rintro e w3 ⟨rfl, b3⟩
      have q3 := next HQV.out b3
      have hs3 := q3.size
      have HO3 : Hid (w3.ownsRow w1.heap.size 9 1 v k (tcells (ls.take k))) := keepT HO.out b3
      clear HCL b3 HO g0 g1 g2 c1 c2 c3 HQV hsV
      go_wp2_with (at_builtin; refine wpList_append_own _ rfl (.tmp 20) (.tmp 23) 63 rfl w1.heap.size 9 i0 (.string ByteArray.empty) 1 16 Tryz.underlying63 hi hz0 hz1 hz2 rfl (by decide) _ _ _ rfl (HO3.out.alloc _) ⟨w3.heap.size, 0, none⟩ 1 1 [.string ⟨r.toArray⟩] rfl rfl (one_txt (by simp [go_sem])) (one_oneS r) (by unfold maxLen; omega) (by omega) (by simp; omega) ?_; intro v5 w5 o5 g5 _)
      have q5 : Below w1.heap.size w1 w5 := (q3.alloc hs3 _).grown g5 (by simp; omega) HLT.out
      have HR5 : Hid (w5.ownsRow w1.heap.size 9 1 v5 (k + 1) (tcells (ls.take (k + 1)))) := by rw [Hid, HNX.out]; exact o5
      clear o5 g5 HO3 q3 hs3
      go_wp2
      go_roundw
      case rel => exact ⟨_, k + 1, rfl, by omega, by go_num, HR5.out, q5⟩
      case measure => simp [intOf]; omega
    · have hke : k = ls.length := by omega
      subst hke
      have hki : ¬ (ls.length : Int) < (ls.length : Int) := by omega
      rw [List.take_length] at hown
      have q2 := next q1 hbr
      obtain ⟨g, c, hv, hg, hcp, hcells⟩ := join_own hown H0.out
      have hTL := textL_le HOK.out
      have HJ : Hid (Calls Tryz.prog 37 #[v, .string ⟨#[59]⟩] wr fun e w' => e = .returned (.string ⟨(textL ls).toArray⟩) ∧ Below wr.heap.size wr w') := by
        rw [Hid, hv, ← tbytes_join]
        exact Tryz.strings_Join g 0 c (tbytes ls) ⟨#[59]⟩ wr hcells hg (by simp [tbytes]; omega) hcp (by show (Lib.join ((tbytes ls).map (·.data.toList)) [59]).length ≤ _; rw [tbytes_join]; omega)
      clear hown hv hg hcp hcells hbr
      go_wp2_with fail
      refine HJ.out.mono ?_
      rintro e w3 ⟨rfl, b3⟩
      have q3 := next q2 b3
      clear HJ b3
      go_wp2
      go_ret
      exact ⟨one_str (by rw [HE.out]), q3⟩

end Go.Proofs.YtnimlgdackgcoaaGreatDoor
