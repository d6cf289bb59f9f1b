/- Entries in a row, plainly; the boxes that stand while they are posted. -/
import Derived.Test.YtnimlgdackgcoaaGreatDoorPostB
import Derived.Test.YtnimlgdackgcoaaGreatDoorEnLaw
namespace Go.Proofs.YtnimlgdackgcoaaGreatDoor
open Go.RowKit
set_option maxRecDepth 100000

def allL (ls : List Ln) (es : List En) : List Ln := (postsL ls es).getD ls
def allOk (ls : List Ln) (es : List En) : Bool := (postsL ls es).isSome
theorem posts_step (cur : List Ln) (es : List En) (k : Nat) (h : k < es.length) : postsL cur (es.drop k) = if postOk cur (enAt es k) = true then postsL (postTry cur (enAt es k)) (es.drop (k + 1)) else none := by
  rw [List.drop_eq_getElem_cons h, ← enAt_is h]; rfl
theorem posts_end (cur : List Ln) (es : List En) : postsL cur (es.drop es.length) = some cur := by
  rw [List.drop_of_length_le (Nat.le_refl _)]; rfl
theorem wf_small {x : Int} (h : -1000000000000 ≤ x ∧ x ≤ 1000000000000) : wf64 x := WalkArith.wf_i64 (by omega)
theorem bd_of_ok {ls : List Ln} (h : ledgerOk ls = true) : ∀ x ∈ ls, lnBd x := by
  intro x hx
  obtain ⟨h1, h2, h3, _⟩ := lnOk_is (linesOk_mem (ledgerOk_parts h).1 x hx)
  refine ⟨wf_small (by omega), wf_small ?_, wf_small h3⟩
  have := cur_mem h2
  simp [curL] at this
  omega
theorem posted_ok {ls : List Ln} {e : En} (h : postOk ls e = true) : postL ls e = postTry ls e ∧ ledgerOk (postTry ls e) = true := by
  refine ⟨postL_yes h, ?_⟩
  simp only [postOk, Bool.and_eq_true] at h
  exact h.2

/-- the boxes: the ledger's, the answer's, the running one's -/
structure PA (s B : Nat) (ao : Option Addr) (cap n : Nat) (cur : List Ln) (a2 : Option Addr) (k2 : Nat) (u : World) : Prop where
  l0 : u.cell? ⟨s, 0, none⟩ = some (.slice ao n cap)
  r0 : u.cell? ⟨s + 1, 0, none⟩ = some (.slice none 0 0)
  rf : u.frozen? ⟨s + 1, 0, none⟩ = false
  c6 : u.cell? ⟨B, 0, none⟩ = some (.slice a2 cur.length k2)
  f6 : u.frozen? ⟨B, 0, none⟩ = false
  own : u.ownsRow (s + 2) 49 3 (.slice a2 cur.length k2) cur.length (lcells cur)
  ne : ∀ g, (Value.slice a2 cur.length k2).ownBlock = some g → g ≠ B
  hB : s + 2 ≤ B
theorem PA.below {s B : Nat} {ao : Option Addr} {cap n : Nat} {cur : List Ln} {a2 : Option Addr} {k2 : Nat} {u u' : World} (h : PA s B ao cap n cur a2 k2 u) (b : Below u.heap.size u u') : PA s B ao cap n cur a2 k2 u' := by
  have h0 : s < u.heap.size := World.block_lt_of_cell? u _ h.l0
  have h1 : s + 1 < u.heap.size := World.block_lt_of_cell? u _ h.r0
  have h2 : B < u.heap.size := World.block_lt_of_cell? u _ h.c6
  exact ⟨(b.cell (p := ⟨s, 0, none⟩) h0).trans h.l0, (b.cell (p := ⟨s + 1, 0, none⟩) h1).trans h.r0, (b.frozen (p := ⟨s + 1, 0, none⟩) h1).trans h.rf, (b.cell (p := ⟨B, 0, none⟩) h2).trans h.c6, (b.frozen (p := ⟨B, 0, none⟩) h2).trans h.f6, keepL h.own b, h.ne, h.hB⟩
/-- another ledger is stored into the running box -/
theorem PA.put {s B base : Nat} {ao : Option Addr} {cap n : Nat} {cur nxt : List Ln} {a2 a3 : Option Addr} {k2 k3 : Nat} {u : World} (h : PA s B ao cap n cur a2 k2 u) (o : u.ownsRow base 49 3 (.slice a3 nxt.length k3) nxt.length (lcells nxt)) (hb : B < base) :
    PA s B ao cap n nxt a3 k3 (u.setCell ⟨B, 0, none⟩ (.slice a3 nxt.length k3)) := by
  have hs := h.hB
  have hne : ∀ g, (Value.slice a3 nxt.length k3).ownBlock = some g → g ≠ B := fun g hg => by have := (o.lt g hg).1; omega
  refine ⟨?_, ?_, ?_, by simp [go_sem, h.c6], ?_, lowerL (keepSetL o _ _ hne) (by omega), hne, hs⟩
  · rw [World.cell?_setCell_far _ _ _ _ (by simp; omega)]; exact h.l0
  · rw [World.cell?_setCell_far _ _ _ _ (by simp; omega)]; exact h.r0
  · simp [go_sem, h.rf]
  · simp [go_sem, h.f6]
theorem pa_start {w w1 : World} {ao a1 : Option Addr} {cap k1 n : Nat} {ls : List Ln} {t : TypeId} (l0 : w1.cell? ⟨w.heap.size, 0, none⟩ = some (.slice ao n cap)) (r0 : w1.cell? ⟨w.heap.size + 1, 0, none⟩ = some (.slice none 0 0)) (rf : w1.frozen? ⟨w.heap.size + 1, 0, none⟩ = false)
    (o : w1.ownsRow (w.heap.size + 2) 49 3 (.slice a1 ls.length k1) ls.length (lcells ls)) : PA w.heap.size w1.heap.size ao cap n ls a1 k1 (w1.alloc (.cells #[.slice a1 ls.length k1] t)) := by
  have b : Below w1.heap.size w1 (w1.alloc (.cells #[.slice a1 ls.length k1] t)) := by go_grown
  have h0 : w.heap.size < w1.heap.size := World.block_lt_of_cell? w1 _ l0
  have h1 : w.heap.size + 1 < w1.heap.size := World.block_lt_of_cell? w1 _ r0
  exact ⟨(b.cell (p := ⟨w.heap.size, 0, none⟩) h0).trans l0, (b.cell (p := ⟨w.heap.size + 1, 0, none⟩) h1).trans r0, (b.frozen (p := ⟨w.heap.size + 1, 0, none⟩) h1).trans rf, by simp, by simp [go_sem], keepL o b, fun g hg => by have := (o.lt g hg).2; omega, by omega⟩
theorem all_end {w u : World} {gs cur : List Ln} {ok : Bool} {ao : Option Addr} {cap base : Nat} (hg : gs = cur) (ho : u.ownsRow base 49 3 (.slice ao cur.length cap) cur.length (lcells cur)) (hb : w.heap.size + 1 < base) (bel : Below w.heap.size w u) :
    PostR w gs ok (.returned (.tuple #[.agg #[.slice ao cur.length cap], .bool ok])) (u.setCell ⟨w.heap.size + 1, 0, none⟩ (.slice ao cur.length cap)) := by
  subst hg
  exact ⟨ao, cap, rfl, lowerL (keepSetL ho _ _ (fun g hg => by have := (ho.lt g hg).1; simp only; omega)) (by omega), bel.setCell (by show w.heap.size ≤ w.heap.size + 1; omega) _⟩

set_option maxHeartbeats 3200000 in
theorem iPostAll_any (ao : Option Addr) (cap : Nat) (ls : List Ln) (eo : Option Addr) (ec : Nat) (es : List En) (w : World) (hz : LinesAt w ao ls) (hn : ls.length ≤ 1048576) (hlb : ∀ x ∈ ls, lnBd x) (hy : EntsAt w eo es) (hm : es.length ≤ 1048576) (heb : ∀ x ∈ es, enBd x) :
    Calls Tryz.prog 6 #[.agg #[.slice ao ls.length cap], .slice eo es.length ec] w (PostR w (allL ls es) (allOk ls es)) := by
  obtain ⟨W, hW⟩ : ∃ W, W = (w.alloc (.cells #[.slice ao ls.length cap] 26)).alloc (.cells #[.slice none 0 0] 26) := ⟨_, rfl⟩
  have bW : Below w.heap.size w W := by rw [hW]; go_grown
  have hWs : W.heap.size = w.heap.size + 2 := by rw [hW]; simp
  have l0 : W.cell? ⟨w.heap.size, 0, none⟩ = some (.slice ao ls.length cap) := by rw [hW]; simp [go_sem]
  have r0 : W.cell? ⟨w.heap.size + 1, 0, none⟩ = some (.slice none 0 0) := by rw [hW]; simp [go_sem]
  have rf : W.frozen? ⟨w.heap.size + 1, 0, none⟩ = false := by rw [hW]; simp [go_sem]
  have HL0 : Hid _ := l0
  have HR0 : Hid _ := r0
  have HRF : Hid _ := rf
  have HZ : Hid (LinesAt w ao ls) := hz
  have HY : Hid (EntsAt w eo es) := hy
  have HLB : Hid (∀ x ∈ ls, lnBd x) := hlb
  have HEB : Hid (∀ x ∈ es, enBd x) := heb
  have HBW : Hid (Below w.heap.size w W) := bW
  have HWS : Hid _ := hWs
  clear hz hy hlb heb r0 rf bW hWs
  go_enter Tryz.func6, Tryz.ntmps6
  go_upto_region 1 with fail
  rw [← hW]
  clear hW
  go_wp2_with fail
  refine (iCopy_any ao cap ls W (HZ.out.below HBW.out) (by omega)).mono ?_
  rintro e w1 ⟨a1, k1, rfl, o1, b1⟩
  have hws := HWS.out
  have P1 : PA w.heap.size w1.heap.size ao cap ls.length ls a1 k1 (w1.alloc (.cells #[.slice a1 ls.length k1] 26)) := pa_start ((b1.cell (p := ⟨w.heap.size, 0, none⟩) (by show w.heap.size < W.heap.size; omega)).trans HL0.out) ((b1.cell (p := ⟨w.heap.size + 1, 0, none⟩) (by show w.heap.size + 1 < W.heap.size; omega)).trans HR0.out) ((b1.frozen (p := ⟨w.heap.size + 1, 0, none⟩) (by show w.heap.size + 1 < W.heap.size; omega)).trans HRF.out) (lowerL o1 (by omega))
  have q1 := next HBW.out b1
  obtain ⟨V, hV⟩ : ∃ V, V = w1.alloc (.cells #[.slice a1 ls.length k1] 26) := ⟨_, rfl⟩
  have qV : Below w.heap.size w V := by rw [hV]; exact q1.alloc q1.size _
  have HPV : Hid (PA w.heap.size w1.heap.size ao cap ls.length ls a1 k1 V) := by rw [Hid, hV]; exact P1
  obtain ⟨B, hBe⟩ : ∃ B, B = w1.heap.size := ⟨_, rfl⟩
  clear P1 q1 o1 b1 l0 hws
  go_upto_region 2 with fail
  rw [← hV, ← hBe]
  rw [← hBe] at HPV
  clear hV hBe
  go_wp2
  go_loopw [7, 14] (fun v7 i wr => ∃ (k : Nat) (cur : List Ln) (a2 : Option Addr) (k2 : Nat), k ≤ es.length ∧ i = .int .i64 k ∧ v7 = .bool true ∧ postsL ls es = postsL cur (es.drop k) ∧ PA w.heap.size B ao cap ls.length cur a2 k2 wr ∧ (cur.length ≤ 1048576 ∧ ∀ x ∈ cur, lnBd x) ∧ Below w.heap.size w wr) (fun _ i _ => es.length - (intOf i).toNat)
  case atStart => exact ⟨0, ls, a1, k1, Nat.zero_le _, rfl, rfl, rfl, HPV.out, ⟨hn, HLB.out⟩, qV⟩
  case round =>
    obtain ⟨k, cur, a2, k2, hk, rfl, rfl, hps, hpa, ⟨hcl, hcb⟩, hbr⟩ := hrel
    have HPA : Hid (PA w.heap.size B ao cap ls.length cur a2 k2 wr) := hpa
    have HCB : Hid (∀ x ∈ cur, lnBd x) := hcb
    have HPS : Hid (postsL ls es = postsL cur (es.drop k)) := hps
    clear hpa hcb hps HPV qV
    by_cases hlt : k < es.length
    · have hki : (k : Int) < (es.length : Int) := by omega
      obtain ⟨b, off, rfl, hb2, y1, y2, y3, y4⟩ := (HY.out.below hbr).at hlt
      have hst := posts_step cur es k hlt
      have hek := HEB.out _ (enAt_mem hlt)
      obtain ⟨⟨a, a', c, m⟩, hx⟩ : ∃ x, enAt es k = x := ⟨_, rfl⟩
      rw [hx] at y1 y2 y3 y4 hst hek
      simp only at y1 y2 y3 y4
      have HST : Hid _ := HPS.out.trans hst
      have HEK : Hid (enBd (a, a', c, m)) := hek
      obtain ⟨U, hU⟩ : ∃ U, U = wr.alloc (.cells #[.int .i64 a, .int .i64 a', .int .i64 c, .int .i64 m] 35) := ⟨_, rfl⟩
      have bU : Below wr.heap.size wr U := by rw [hU]; go_grown
      have u0 : U.cell? ⟨wr.heap.size, 0, none⟩ = some (.int .i64 a) := by rw [hU]; simp
      have u1 : U.cell? ⟨wr.heap.size, 1, none⟩ = some (.int .i64 a') := by rw [hU]; simp
      have u2 : U.cell? ⟨wr.heap.size, 2, none⟩ = some (.int .i64 c) := by rw [hU]; simp
      have u3 : U.cell? ⟨wr.heap.size, 3, none⟩ = some (.int .i64 m) := by rw [hU]; simp
      have HPU : Hid (PA w.heap.size B ao cap ls.length cur a2 k2 U) := HPA.out.below bU
      have c6 := HPU.out.c6
      have qU := next hbr bU
      have HBU : Hid (B < U.heap.size) := World.block_lt_of_cell? U _ c6
      clear hst hek hx bU hbr
      go_upto_region 5 with fail
      rw [← hU]
      clear hU y1 y2 y3 y4
      go_wp2_with fail
      refine (iPost_any a2 k2 cur a a' c m U (lines_any HPU.out.own) hcl HCB.out HEK.out).mono ?_
      rintro e w2 ⟨a3, k3, rfl, o3, b3⟩
      have P3 := HPU.out.below b3
      have d6 := P3.c6
      have f6 := P3.f6
      have q3 := next qU b3
      have hbu := HBU.out
      have HP4 : Hid (PA w.heap.size B ao cap ls.length (postL cur (a, a', c, m)) a3 k3 (w2.setCell ⟨B, 0, none⟩ (.slice a3 (postL cur (a, a', c, m)).length k3))) := P3.put o3 hbu
      have hBs := HPA.out.hB
      have q4 : Below w.heap.size w (w2.setCell ⟨B, 0, none⟩ (.slice a3 (postL cur (a, a', c, m)).length k3)) := q3.setCell (by show w.heap.size ≤ B; omega) _
      clear P3 o3 b3 q3 hbu c6 u0 u1 u2 u3 qU hBs
      cases hok : postOk cur (a, a', c, m)
      · rw [hok] at HST
        have HNO : Hid (postsL ls es = none) := HST.out
        have HPL : Hid (postL cur (a, a', c, m) = cur) := postL_no hok
        rw [HPL.out] at HP4 q4 ⊢
        clear HST hok
        obtain ⟨X, hX⟩ : ∃ X, X = w2.setCell ⟨B, 0, none⟩ (.slice a3 cur.length k3) := ⟨_, rfl⟩
        rw [← hX] at HP4 q4
        have l4 := HP4.out.l0
        have HZX : Hid (LinesAt X ao ls) := HZ.out.below q4
        go_upto_region 7 with fail
        rw [← hX]
        clear hX d6 f6
        go_wp2_with fail
        refine (iCopy_any ao cap ls X HZX.out (by omega)).mono ?_
        rintro e w5 ⟨a5, k5, rfl, o5, b5⟩
        have P5 := HP4.out.below b5
        have r5 := P5.r0
        have rf5 := P5.rf
        have HE : Hid (PostR w (allL ls es) (allOk ls es) (.returned (.tuple #[.agg #[.slice a5 ls.length k5], .bool false])) (w5.setCell ⟨w.heap.size + 1, 0, none⟩ (.slice a5 ls.length k5))) := by
          have h1 : allOk ls es = false := by unfold allOk; rw [HNO.out]; rfl
          have h2 : allL ls es = ls := by unfold allL; rw [HNO.out]; rfl
          rw [Hid, h1]
          exact all_end (w := w) h2 o5 (World.block_lt_of_cell? X _ HP4.out.r0) (next q4 b5)
        clear o5 b5 P5 l4
        go_wp2
        refine bodyPost_ret (by simp [results, Tryz.results6, go_sem, r5]; try rfl) rfl ?_
        exact HE.out
      · have hpo := posted_ok hok
        rw [hok] at HST
        have HN : Hid (postsL ls es = postsL (postL cur (a, a', c, m)) (es.drop (k + 1))) := by rw [Hid, HST.out, hpo.1]; rfl
        have HB2 : Hid ((postL cur (a, a', c, m)).length ≤ 1048576 ∧ ∀ x ∈ postL cur (a, a', c, m), lnBd x) := by
          rw [hpo.1]
          exact ⟨by have := (ledgerOk_parts hpo.2).2.1; omega, bd_of_ok hpo.2⟩
        clear HST hok hpo
        generalize postL cur (a, a', c, m) = nxt at *
        go_wp2
        go_roundw
        case rel => exact ⟨k + 1, nxt, a3, k3, by omega, by go_num, rfl, HN.out, HP4.out, HB2.out, q4⟩
        case measure => simp [intOf]; omega
    · have hke : k = es.length := by omega
      subst hke
      have hki : ¬ (es.length : Int) < (es.length : Int) := by omega
      have hsome : postsL ls es = some cur := by rw [HPS.out, posts_end]
      have c6 := HPA.out.c6
      have r0 := HPA.out.r0
      have rf := HPA.out.rf
      have HE : Hid (PostR w (allL ls es) (allOk ls es) (.returned (.tuple #[.agg #[.slice a2 cur.length k2], .bool true])) (wr.setCell ⟨w.heap.size + 1, 0, none⟩ (.slice a2 cur.length k2))) := by
        have h1 : allOk ls es = true := by unfold allOk; rw [hsome]; rfl
        have h2 : allL ls es = cur := by unfold allL; rw [hsome]; rfl
        rw [Hid, h1]
        exact all_end (w := w) h2 HPA.out.own (by omega) hbr
      clear hsome HPS
      go_wp2
      refine bodyPost_ret (by simp [results, Tryz.results6, go_sem, r0]; try rfl) rfl ?_
      exact HE.out

end Go.Proofs.YtnimlgdackgcoaaGreatDoor
