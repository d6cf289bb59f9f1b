/- The contract of the program's Unblock. -/
import Derived.Test.YtbncdhfmhokgeaaGreatDoorJFnBatch1a
import Derived.Test.YtbncdhfmhokgeaaGreatDoorKFnBatchFRecs
import Derived.Test.YtbncdhfmhokgeaaGreatDoorJFnBatch0a
namespace Go.Proofs.YtbncdhfmhokgeaaGreatDoor
open Go.RowKit
set_option maxRecDepth 100000

/-- what Unblock hands back: records of its own, and the code -/
def UnbR (w : World) (u : Recs × Nat) (e : Ending) (w' : World) : Prop :=
  ∃ a c, e = .returned (.tuple #[.slice a u.1.length c, .int .i64 (u.2 : Nat)]) ∧ w'.ownsRow w.heap.size 9 1 (.slice a u.1.length c) u.1.length (scells u.1) ∧ Below w.heap.size w w'
theorem unbR_none {w w' : World} {u : Recs × Nat} {k : Nat} (h : u = ([], k)) (hb : Below w.heap.size w w') : UnbR w u (.returned (.tuple #[.slice none 0 0, .int .i64 (k : Nat)])) w' := by
  subst h
  exact ⟨none, 0, rfl, World.ownsRow_nil _ _ _ _, hb⟩

theorem lowerRowS {w : World} {base base' n size : Nat} {t : TypeId} {v : Value} {xs : List Value} (h : w.ownsRow base t size v n xs) (hb : base' ≤ base) : w.ownsRow base' t size v n xs := by
  obtain ⟨h1, h2⟩ := h
  refine ⟨h1, ?_⟩
  rcases h2 with h | ⟨g, cap, cur, hv, hg, r⟩
  · exact .inl h
  · exact .inr ⟨g, cap, cur, hv, Nat.le_trans hb hg, r⟩

set_option maxRecDepth 100000 in
set_option maxHeartbeats 3200000 in
theorem iUnblock_any (s : List UInt8) (w : World) (hl : s.length ≤ 1099511627776) :
    Calls Tryz.prog 64 #[.string ⟨s.toArray⟩] w (UnbR w (unb s)) := by
  by_cases h1 : s.length = 0 ∨ 60000 < s.length ∨ s.length % 1014 ≠ 0
  · have HN : Hid _ := unb_1 h1
    by_cases he : s = []
    · subst he
      go_enter Tryz.func64, Tryz.ntmps64
      go_wp2
      go_ret2
      exact unbR_none HN.out (Below.refl _ _)
    · have he2 : (s == []) = false := by simpa using he
      by_cases h6 : (60000 : Int) < (s.length : Int)
      · go_enter Tryz.func64, Tryz.ntmps64
        go_wp2
        go_ret2
        exact unbR_none HN.out (Below.refl _ _)
      · have hne : ((s.length : Int) % 1014 == 0) = false := beq_eq_false_iff_ne.2 (by
          have := List.length_pos_iff.2 he
          omega)
        clear h1
        go_enter Tryz.func64, Tryz.ntmps64
        go_wp2
        go_ret2
        exact unbR_none HN.out (Below.refl _ _)
  have h0 : 0 < s.length := by omega
  have he2 : (s == []) = false := by
    cases s with
    | nil => simp at h0
    | cons x r => rfl
  have h6 : ¬ (60000 : Int) < (s.length : Int) := by omega
  have hmod : (s.length : Int) % 1014 = 0 := by omega
  obtain ⟨m, hm⟩ : ∃ m, s.length = m * 1014 := ⟨s.length / 1014, by omega⟩
  have hdiv : s.length / 1014 = m := by omega
  have hm0 : 0 < m := by omega
  have hm6 : m ≤ 59 := by omega
  have hcv := conv_run s
  have HROW : Hid (Row (convW s w) w.heap.size s) := convW_row s w
  have bC1 : Below w.heap.size w (convW s w) := convW_below s w
  have hsz := convW_size s w
  have hcg := convC_ge s w
  have hcl := convC_le s w (by unfold maxLen; omega)
  have H1 : Hid _ := h1
  have HST : Hid (streamOf s = streamM s m) := by rw [Hid, streamOf, hdiv]
  have HPD : Hid (padAll s = padM s m) := by rw [Hid, padAll, hdiv]
  have HTAKE : Hid (Calls Tryz.prog 109 #[.slice (some ⟨w.heap.size, 0, none⟩) s.length (convC s w)] (convW s w) (TakeR (convW s w) s m)) := takePieces_any _ _ m s _ HROW.out hm hm0 (by omega) hcg hcl
  have HLEN : Hid ((streamM s m).length = m * 1012) := streamM_len s m (by omega)
  clear h1 hm hdiv hcg hcl
  go_enter Tryz.func64, Tryz.ntmps64
  go_wp2_with fail
  refine (callsH HTAKE).mono ?_
  rintro e w2 (⟨hpad, g, rfl, hg, hrow, b2⟩ | ⟨hpad, rfl, b2⟩)
  · have q2 : Below w.heap.size w w2 := bC1.trans (b2.mono (by omega))
    have hsl := HLEN.out
    obtain ⟨L, hL⟩ : ∃ L, m * 1012 = L := ⟨_, rfl⟩
    have hLb : L ≤ 59708 := by omega
    have hL1 : 1012 ≤ L := by omega
    rw [hL] at hsl ⊢
    clear hL
    have HP : Hid (padAll s = true) := by rw [Hid, HPD.out, hpad]
    obtain ⟨S, hS⟩ : ∃ S, streamM s m = S := ⟨_, rfl⟩
    rw [hS] at hrow hsl HST
    have HWK : Hid (Calls Tryz.prog 110 #[.slice (some ⟨g, 0, none⟩) L L] w2 (WalkR w2 (walkR S (S.length + 1) 0 []))) := by
      have := walkRecords_any g L S w2 hrow (by omega) (by omega) (by unfold maxLen; omega)
      rw [hsl] at this
      rw [hsl]
      exact this
    have HRW : Hid _ := hrow
    have HSL : Hid _ := hsl
    clear hpad hrow b2 hS HTAKE HROW bC1 hcv hsl
    go_wp2_with fail
    refine (callsH HWK).mono ?_
    clear HWK
    cases hwk : walkR S (S.length + 1) 0 []
    · have HN : Hid (unb s = ([], 3)) := unb_3 H1.out HP.out (by rw [HST.out]; exact hwk)
      clear hwk
      rintro e w3 ⟨v, rfl, b3⟩
      have q3 := next q2 b3
      clear b3
      go_wp2
      go_ret2
      exact unbR_none HN.out q3
    · rename_i p
      obtain ⟨out, en⟩ := p
      have hri := rest_iff H1.out HP.out (out := out) (e := en) (by rw [HST.out]; exact hwk)
      have HY : Hid (blockOk out = true ∧ blockL out = s → unb s = (out, 0)) := fun h => unb_0 H1.out HP.out (by rw [HST.out]; exact hwk) h
      have HN : Hid (¬ (blockOk out = true ∧ blockL out = s) → unb s = ([], 4)) := fun h => unb_4 H1.out HP.out (by rw [HST.out]; exact hwk) h
      obtain ⟨-, hen, -, -⟩ := walkR_is _ _ _ _ _ _ hwk rfl (Nat.zero_le _) rfl (Nat.zero_le _)
      rw [HST.out] at hri
      have HRI : Hid _ := hri
      clear hwk hri
      rintro e w3 ⟨va, vc, rfl, o3, b3⟩
      have q3 := next q2 b3
      have HO : Hid (w3.ownsRow w2.heap.size 9 1 (.slice va out.length vc) out.length (scells out)) := o3
      have hrow3 := HRW.out.below b3
      have hb2 := q2.size
      have hen2 : en ≤ L := by rw [← HSL.out]; exact hen
      have HRI2 : Hid ((blockOk out = true ∧ blockL out = s) ↔ (L - en < 1012 ∧ within 64 64 (S.drop en) = true)) := by rw [← HSL.out]; exact HRI.out
      have HOW : Hid (w3.ownsRow w.heap.size 9 1 (.slice va out.length vc) out.length (scells out)) := lowerRowS o3 hb2
      have HR3 : Hid (Row w3 g S) := hrow3
      clear o3 b3 hrow3 HO HRI hen
      by_cases hbig : (1012 : Int) ≤ (L : Int) - (en : Int)
      · have HF : Hid (unb s = ([], 4)) := HN.out (fun h => by have := (HRI2.out.1 h).1; omega)
        clear HN HY HRI2
        go_wp2
        go_ret2
        exact unbR_none HF.out q3
      · have hln : (S.drop en).length = L - en := by rw [List.length_drop, HSL.out]
        by_cases hlt : en < L
        · have hs := fun W => sl_l (g := g) (o := 0) (n := L) (c := L) (x := (en : Int)) en rfl hen2 hlt W
          rw [Nat.zero_add] at hs
          have HFC : Hid (Calls Tryz.prog 111 #[.slice (some ⟨g, en, none⟩) (L - en) (L - en)] w3 fun e w' => e = .returned (.bool (within 64 64 (S.drop en))) ∧ w' = w3) := by
            have := allFilling_any g en (L - en) (S.drop en) w3 (fun j x hx => by
              rw [List.getElem?_drop] at hx
              exact HR3.out.cell _ x hx) (by omega)
            rw [hln] at this
            exact this
          cases hwi : within 64 64 (S.drop en)
          · have HF : Hid (unb s = ([], 4)) := HN.out (fun h => by have := (HRI2.out.1 h).2; rw [hwi] at this; cases this)
            rw [hwi] at HFC
            clear HN HY HRI2 hwi hln
            go_wp2_with fail
            refine (callsH HFC).mono ?_
            rintro e w4 ⟨rfl, hw4⟩
            rw [hw4]
            clear hw4
            go_wp2
            go_ret2
            exact unbR_none HF.out q3
          · have HF : Hid (unb s = (out, 0)) := HY.out (HRI2.out.2 ⟨by omega, hwi⟩)
            rw [hwi] at HFC
            clear HN HY HRI2 hwi hln
            go_wp2_with fail
            refine (callsH HFC).mono ?_
            rintro e w4 ⟨rfl, hw4⟩
            rw [hw4]
            clear hw4
            go_wp2
            go_ret2
            rw [HF.out]
            exact ⟨va, vc, rfl, HOW.out, q3⟩
        · have hee : en = L := by omega
          subst hee
          have hdr : S.drop en = [] := List.eq_nil_of_length_eq_zero (by rw [hln]; omega)
          have HF : Hid (unb s = (out, 0)) := HY.out (HRI2.out.2 ⟨by omega, by rw [hdr]; rfl⟩)
          have HFC : Hid (Calls Tryz.prog 111 #[.slice (some ⟨g, 0, none⟩) 0 0] w3 fun e w' => e = .returned (.bool true) ∧ w' = w3) := allFilling_any g 0 0 [] w3 (fun j x hx => by cases hx) (by simp)
          clear HN HY HRI2 hln hdr
          go_wp2_with fail
          refine (callsH HFC).mono ?_
          rintro e w4 ⟨rfl, hw4⟩
          rw [hw4]
          clear hw4
          go_wp2
          go_ret2
          rw [HF.out]
          exact ⟨va, vc, rfl, HOW.out, q3⟩
  · have q2 : Below w.heap.size w w2 := bC1.trans (b2.mono (by omega))
    have HN : Hid (unb s = ([], 2)) := unb_2 H1.out (by rw [HPD.out, hpad])
    clear hpad b2 HTAKE HROW bC1 hcv
    go_wp2
    go_ret2
    exact unbR_none HN.out q2

end Go.Proofs.YtbncdhfmhokgeaaGreatDoor
