/- The laws' own small functions over slices of texts: how much they take, a copy, whether two are the same, marks. -/
import Derived.Test.YtkdodamdjajbiaaTxts
import Derived.Test.YtkdodamdjajbiaaOver
import Derived.Test.YtkdodamdjajbiaaMarkT
import Derived.Handy
import Derived.OwnWalk
namespace Go.Proofs.Ytkdodamdjajbiaa
open Go.RowKit

set_option maxRecDepth 100000 in
set_option maxHeartbeats 800000 in
theorem szStringS_gen (ao : Option Addr) (cap : Nat) (rs : Recs) (left : Int) (w : World) (hz : TxtsAt w ao rs) (hd : TxtsBd rs) (hl0 : 0 ≤ left) (hl1 : left ≤ 1048576) :
    Calls Try.prog 29 #[.slice ao rs.length cap, .int .i64 left] w fun e w' => e = .returned (.int .i64 (leftT rs left)) ∧ Below w.heap.size w w' := by
  have hn : rs.length ≤ 9223372036854775807 := by have := hd.1; unfold maxLen at this; omega
  have HD : Hid (∀ k, k < rs.length → (nth rs k).length ≤ 9223372036854775807) := by
    intro k hk; have := hd.2 _ (nth_mem hk); unfold maxLen at this; omega
  clear hd
  by_cases hneg : left - (rs.length : Int) < 0
  · have HE : Hid (leftT rs left = -1) := if_pos hneg
    go_enter Try.func29, Try.ntmps29
    go_wp2
    go_ret
    exact ⟨one_int HE.out.symm, Below.refl _ _⟩
  · have HE : Hid (leftT rs left = leftTs rs (left - (rs.length : Int))) := if_neg hneg
    rcases hz with rfl | ⟨b, off, rfl, hb, hcell⟩
    · go_enter Try.func29, Try.ntmps29
      go_wp2
      refine wp_loop_rounds 1 ?_
      rw [rounds_succ]
      go_wp2
      go_ret
      exact ⟨one_int (by rw [HE.out]; simp [leftTs]), Below.refl _ _⟩
    · have HC : Hid (∀ i, i < rs.length → w.cell? ⟨b, off + i, none⟩ = some (.string ⟨(nth rs i).toArray⟩)) := hcell
      clear hcell
      go_enter Try.func29, Try.ntmps29
      go_wp2
      go_loopw [1, 5] (fun v i wr => ∃ (k : Nat) (l : Int), k ≤ rs.length ∧ i = .int .i64 k ∧ v = .int .i64 l ∧ 0 ≤ l ∧ l ≤ 1048576 ∧ leftT rs left = leftTs (rs.drop k) l ∧ Below w.heap.size w wr) (fun _ i _ => rs.length - (intOf i).toNat)
      case atStart => exact ⟨0, _, Nat.zero_le _, rfl, rfl, by omega, by omega, HE.out, Below.refl _ _⟩
      case round =>
        obtain ⟨k, l, hk, rfl, rfl, h0, h1, hleft, hbr⟩ := hrel
        by_cases hlt : k < rs.length
        · have c1 : wr.cell? ⟨b, off + k, none⟩ = some (.string ⟨(nth rs k).toArray⟩) := (hbr.cell (p := ⟨b, off + k, none⟩) hb).trans (HC.out k hlt)
          have hki : (k : Int) < (rs.length : Int) := by omega
          have hst := leftTs_step rs k l hlt
          have hdk := HD.out k hlt
          obtain ⟨s, hf⟩ : ∃ f, nth rs k = f := ⟨_, rfl⟩
          rw [hf] at c1 hst hdk
          by_cases hng : l - (s.length : Int) < 0
          · have HN : Hid (leftT rs left = -1) := by rw [Hid, hleft, hst, if_pos hng]
            clear hst hf hleft
            go_wp2
            go_ret
            exact ⟨one_int HN.out.symm, hbr⟩
          · have HN : Hid (leftT rs left = leftTs (rs.drop (k + 1)) (l - (s.length : Int))) := by rw [Hid, hleft, hst, if_neg hng]
            clear hst hf hleft
            go_wp2
            go_roundw
            case rel => exact ⟨k + 1, _, by omega, by go_num, rfl, by omega, by omega, HN.out, hbr⟩
            case measure => simp [intOf]; omega
        · have : k = rs.length := by omega
          subst this
          have HN : Hid (leftT rs left = l) := by rw [Hid, hleft, List.drop_of_length_le (Nat.le_refl _)]; rfl
          clear hleft
          go_wp2
          go_ret
          exact ⟨one_int HN.out.symm, hbr⟩
theorem szStringS_any (ao : Option Addr) (cap : Nat) (rs : Recs) (w : World) (hz : TxtsAt w ao rs) (hd : TxtsBd rs) :
    Calls Try.prog 29 #[.slice ao rs.length cap, .int .i64 1048576] w fun e w' => e = .returned (.int .i64 (leftT rs 1048576)) ∧ Below w.heap.size w w' := szStringS_gen ao cap rs 1048576 w hz hd (by omega) (by omega)

set_option maxRecDepth 100000 in
set_option maxHeartbeats 800000 in
theorem toStringS_any (ao : Option Addr) (cap : Nat) (rs : Recs) (w : World) (hz : TxtsAt w ao rs) (hn : rs.length ≤ 1048576) :
    Calls Try.prog 35 #[.slice ao rs.length cap] w fun e w' => e = .returned (.slice (some ⟨w.heap.size, 0, none⟩) rs.length rs.length) ∧
      w'.ownsRow w.heap.size 9 1 (.slice (some ⟨w.heap.size, 0, none⟩) rs.length rs.length) rs.length (scells rs) ∧ Below w.heap.size w w' := by
  obtain ⟨i0, hi, hz0, hz1, hz2⟩ := info_parts infoS
  have hm0 := cells_repS rs.length
  rcases hz with rfl | ⟨b, off, rfl, hb, hcell⟩
  · go_enter Try.func35, Try.ntmps35
    go_wp2_with (refine wpList_make_full _ rfl (.tmp 6) (.tmp 6) 28 rfl w.heap.size 9 i0 _ 1 Try.underlying28 hi hz0 hz1 .i64 .i64 _ _ 0 rfl rfl rfl rfl (by rw [hz2]; omega) (by unfold maxLen; omega) (Nat.le_refl _) ?_; intro w1 hown hg)
    refine wp_loop_rounds 1 ?_
    rw [rounds_succ]
    go_wp2
    go_ret
    exact ⟨rfl, by simpa [madeCells, scells] using hown, (Below.refl _ _).grown hg (Nat.le_refl _) (fun k hk => by cases hk)⟩
  · have HC : Hid (∀ i, i < rs.length → w.cell? ⟨b, off + i, none⟩ = some (.string ⟨(nth rs i).toArray⟩)) := hcell
    clear hcell
    go_enter Try.func35, Try.ntmps35
    go_wp2_with (refine wpList_make_full _ rfl (.tmp 6) (.tmp 6) 28 rfl w.heap.size 9 i0 _ 1 Try.underlying28 hi hz0 hz1 .i64 .i64 _ _ rs.length rfl rfl rfl rfl (by rw [hz2]; omega) (by unfold maxLen; omega) (Nat.le_refl _) ?_; intro w1 hown hg)
    rw [hm0, show List.replicate rs.length ([] : List UInt8) = halfS rs 0 from by simp [halfS]] at hown
    have hb1 : Below w.heap.size w w1 := (Below.refl _ _).grown hg (Nat.le_refl _) (fun k hk => by cases hk)
    clear hm0 hg
    go_loopw [4] (fun i wr => ∃ k : Nat, k ≤ rs.length ∧ i = .int .i64 k ∧ wr.ownsRow w.heap.size 9 1 (.slice (some ⟨w.heap.size, 0, none⟩) rs.length rs.length) rs.length (scells (halfS rs k)) ∧ Below w.heap.size w wr) (fun i _ => rs.length - (intOf i).toNat)
    case atStart => exact ⟨0, Nat.zero_le _, rfl, hown, hb1⟩
    case round =>
      obtain ⟨k, hk, rfl, ho, hbr⟩ := hrel
      clear hown hb1
      by_cases hlt : k < rs.length
      · have c1 : wr.cell? ⟨b, off + k, none⟩ = some (.string ⟨(nth rs k).toArray⟩) := (hbr.cell (p := ⟨b, off + k, none⟩) hb).trans (HC.out k hlt)
        have hki : (k : Int) < (rs.length : Int) := by omega
        have HS : Hid _ := halfS_succ rs k hlt
        have HT : Hid _ := scells_set (halfS rs k) k (nth rs k)
        have hat := scells_at (halfS rs k) k (by rw [halfS_len rs k hk]; exact hlt)
        rw [halfS_at rs k hlt] at hat
        obtain ⟨s, hf⟩ : ∃ f, nth rs k = f := ⟨_, rfl⟩
        rw [hf] at c1 HS HT
        have c3 : wr.cell? ⟨w.heap.size, k, none⟩ = some (.string ⟨#[]⟩) := by rw [ho.cellAt k (by omega)]; exact hat
        have c5 : wr.frozen? ⟨w.heap.size, k, none⟩ = false := ho.frozenAt _
        have HR : Hid ((wr.setCell ⟨w.heap.size, k, none⟩ (.string ⟨s.toArray⟩)).ownsRow w.heap.size 9 1 (.slice (some ⟨w.heap.size, 0, none⟩) rs.length rs.length) rs.length (scells (halfS rs (k + 1)))) := by
          have R := (ho.stored k (.string ⟨s.toArray⟩)).1
          rw [HT.out, HS.out] at R
          exact R
        clear ho hat hf
        go_wp2
        go_roundw
        case rel => exact ⟨k + 1, by omega, by go_num, HR.out, hbr.setCell (Nat.le_refl _) _⟩
        case measure => simp [intOf]; omega
      · have : k = rs.length := by omega
        subst this
        rw [halfS_all] at ho
        go_wp2
        go_ret
        exact ⟨rfl, ho, hbr⟩

set_option maxRecDepth 100000 in
set_option maxHeartbeats 1600000 in
theorem eqStringS_any (ao bo : Option Addr) (c1 c2 : Nat) (xs ys : Recs) (w : World) (hx : TxtsAt w ao xs) (hy : TxtsAt w bo ys) (h1 : xs.length ≤ 1099511627776) (h2 : ys.length ≤ 1099511627776) :
    Calls Try.prog 43 #[.slice ao xs.length c1, .slice bo ys.length c2] w fun e w' => e = .returned (.bool (decide (xs = ys))) ∧ Below w.heap.size w w' := by
  by_cases hl : xs.length = ys.length
  · rcases hx with rfl | ⟨b, off, rfl, hb, hcx⟩
    · have hy0 : ys = [] := List.eq_nil_of_length_eq_zero hl.symm
      subst hy0
      go_enter Try.func43, Try.ntmps43
      go_wp2
      refine wp_loop_rounds 1 ?_
      rw [rounds_succ]
      go_wp2
      go_ret
      exact ⟨rfl, Below.refl _ _⟩
    · rcases hy with rfl | ⟨d, off2, rfl, hd, hcy⟩
      · have hx0 : xs = [] := List.eq_nil_of_length_eq_zero hl
        subst hx0
        go_enter Try.func43, Try.ntmps43
        go_wp2
        refine wp_loop_rounds 1 ?_
        rw [rounds_succ]
        go_wp2
        go_ret
        exact ⟨rfl, Below.refl _ _⟩
      · obtain ⟨n, hn⟩ : ∃ n, xs.length = n := ⟨_, rfl⟩
        have hn2 : ys.length = n := by omega
        rw [hn] at hcx h1 ⊢
        rw [hn2] at hcy ⊢
        have HX : Hid (xs.length = n) := hn
        have HY : Hid (ys.length = n) := hn2
        have HCX : Hid (∀ i, i < n → w.cell? ⟨b, off + i, none⟩ = some (.string ⟨(nth xs i).toArray⟩)) := hcx
        have HCY : Hid (∀ i, i < n → w.cell? ⟨d, off2 + i, none⟩ = some (.string ⟨(nth ys i).toArray⟩)) := hcy
        clear hl hn hn2 hcx hcy
        go_enter Try.func43, Try.ntmps43
        go_wp2
        go_loopw [5] (fun i wr => ∃ k : Nat, k ≤ n ∧ i = .int .i64 k ∧ (∀ j, j < k → nth xs j = nth ys j) ∧ Below w.heap.size w wr) (fun i _ => n - (intOf i).toNat)
        case atStart => exact ⟨0, Nat.zero_le _, rfl, fun j hj => by omega, Below.refl _ _⟩
        case round =>
          obtain ⟨k, hk, rfl, hsame, hbr⟩ := hrel
          have HS : Hid (∀ j, j < k → nth xs j = nth ys j) := hsame
          clear hsame
          by_cases hlt : k < n
          · have e1 : wr.cell? ⟨b, off + k, none⟩ = some (.string ⟨(nth xs k).toArray⟩) := (hbr.cell (p := ⟨b, off + k, none⟩) hb).trans (HCX.out k hlt)
            have e3 : wr.cell? ⟨d, off2 + k, none⟩ = some (.string ⟨(nth ys k).toArray⟩) := (hbr.cell (p := ⟨d, off2 + k, none⟩) hd).trans (HCY.out k hlt)
            have hki : (k : Int) < (n : Int) := by omega
            have HNE : Hid (nth xs k ≠ nth ys k → ¬ xs = ys) := fun h e => h (by rw [e])
            obtain ⟨s, hxk⟩ : ∃ x, nth xs k = x := ⟨_, rfl⟩
            obtain ⟨t, hyk⟩ : ∃ y, nth ys k = y := ⟨_, rfl⟩
            rw [hxk] at e1
            rw [hyk] at e3
            have HXK : Hid (nth xs k = s) := hxk
            have HYK : Hid (nth ys k = t) := hyk
            clear hxk hyk
            have hne := over_ne wr
            have g1 := over_cell e1
            have g3 := over_cell e3
            by_cases hs1 : s = t
            · subst hs1
              have HY2 : Hid (nth xs k = nth ys k) := by rw [Hid, HXK.out, HYK.out]
              have hss : (s == s) = true := by simp
              clear HNE
              go_wp2
              refine wp_region_over (by kernel_rfl) (by kernel_rfl) ?_
              repeat (go_big_quiet_step (fail))
              refine wpQuiet_nil ?_
              rintro _ ⟨⟨w2, b2⟩, hw2⟩
              subst hw2
              go_wp2
              go_roundw
              case rel => exact ⟨k + 1, by omega, by go_num, fun j hj => by rcases (show j < k ∨ j = k from by omega) with h | rfl; exact HS.out j h; exact HY2.out, hbr.trans (b2.mono hbr.size)⟩
              case measure => simp [intOf]; omega
            · have hs2 : (s == t) = false := by simpa using hs1
              have HN : Hid (¬ xs = ys) := HNE.out (by rw [HXK.out, HYK.out]; exact hs1)
              clear HNE hs1
              go_wp2
              refine wp_region_over (by kernel_rfl) (by kernel_rfl) ?_
              repeat (go_big_quiet_step (fail))
              refine wpQuiet_nil ?_
              rintro _ ⟨⟨w2, b2⟩, hw2⟩
              subst hw2
              go_wp2
              go_ret
              exact ⟨one_bool (by rw [decide_eq_false HN.out]), hbr.trans (b2.mono hbr.size)⟩
          · have HE : Hid (xs = ys) := by
              apply List.ext_getElem (by rw [HX.out, HY.out])
              intro i g1 g2
              have := HS.out i (by rw [HX.out] at g1; omega)
              simpa [nth, List.getD_eq_getElem?_getD, g1, g2] using this
            go_wp2
            go_ret
            exact ⟨one_bool (by rw [decide_eq_true HE.out]), hbr⟩
  · have hne : ((xs.length : Int) != (ys.length : Int)) = true := by simp; omega
    have HE : Hid (¬ xs = ys) := fun e => hl (by rw [e])
    go_enter Try.func43, Try.ntmps43
    go_wp2
    go_ret
    exact ⟨one_bool (by rw [decide_eq_false HE.out]), Below.refl _ _⟩

def mkS (k n : Nat) : Recs := (List.range n).map fun i => mtx (k + i)
theorem mkS_len (k n : Nat) : (mkS k n).length = n := by simp [mkS]
theorem mkS_at (k n i : Nat) (h : i < n) : nth (mkS k n) i = mtx (k + i) := by simp [nth, mkS, List.getD_eq_getElem?_getD, h]
def fillS (rs : Recs) (k j : Nat) : Recs := mkS k j ++ rs.drop j
theorem fillS_len (rs : Recs) (k j : Nat) (h : j ≤ rs.length) : (fillS rs k j).length = rs.length := by simp [fillS, mkS_len]; omega
theorem fillS_zero (rs : Recs) (k : Nat) : fillS rs k 0 = rs := by simp [fillS, mkS]
theorem fillS_all (rs : Recs) (k : Nat) : fillS rs k rs.length = mkS k rs.length := by simp [fillS]
theorem fillS_succ (rs : Recs) (k j : Nat) (h : j < rs.length) : (fillS rs k j).set j (mtx (k + j)) = fillS rs k (j + 1) := by
  unfold fillS
  rw [List.set_append, if_neg (by rw [mkS_len]; omega), mkS_len, Nat.sub_self, List.drop_eq_getElem_cons h, List.set_cons_zero]
  simp [mkS, List.range_succ]
theorem grown_ofS {w w' : World} (h : Below w.heap.size w w') (r : Option Nat) : w.grownBy w' r := ⟨h.os, h.tape, h.output, h.size, fun k hk _ => h.block k hk⟩
end Go.Proofs.Ytkdodamdjajbiaa
