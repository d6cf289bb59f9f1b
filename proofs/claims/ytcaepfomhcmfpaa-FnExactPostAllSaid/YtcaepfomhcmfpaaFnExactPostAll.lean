/- Proved: at every ledger and every list of entries (of at most 1048576 lines and entries together; a greater input passes by the law's own first tests) the program's PostAll answers as the specification's, both results; it leaves its arguments as they were and keeps nothing of them; its answer owns its memory, behind another call too. No other conditions. -/
import Derived.Test.YtcaepfomhcmfpaaBase
import Derived.Test.YtcaepfomhcmfpaaSPAll
namespace Go.Proofs.Ytcaepfomhcmfpaa.fnExactPostAll
open Go.ChangeShapes Go.WideShapes Go.ChangeAt Go.RowKit
set_option maxRecDepth 100000

theorem keep1 {w u : World} {b : Nat} {x : Value} (h0 : w.cell? ⟨b, 0, none⟩ = some x) (k : Below w.heap.size w u) : u.cell? ⟨b, 0, none⟩ = some x :=
  have hb : b < w.heap.size := World.block_lt_of_cell? w _ h0
  (k.cell (p := ⟨b, 0, none⟩) hb).trans h0
theorem lines_mark {w : World} {base n : Nat} {t : TypeId} {ao : Option Addr} {cap : Nat} (h : w.ownsRow base t 3 (.slice ao n cap) n (lcells (mkL 1 n))) : LinesAt w ao (mkL 1 n) := by
  obtain ⟨ao', cap', hv, hf, _⟩ := lines_of_own h
  obtain ⟨rfl, _⟩ : ao = ao' ∧ n = (mkL 1 n).length ∧ cap = cap' := by simpa using hv
  exact hf
theorem lc_new {u : World} {base : Nat} {L : List Ln} {ao : Option Addr} {cap : Nat} (t : TypeId) (o : u.ownsRow base 76 3 (.slice ao L.length cap) L.length (lcells L)) : LC base L u.heap.size ao cap (u.alloc (.cells #[.slice ao L.length cap] t)) :=
  ⟨by simp, keepL o (by go_grown)⟩

set_option maxHeartbeats 12800000 in
theorem walk (b0 : Option Addr) (cap0 : Nat) (ls : List Ln) (b1 : Option Addr) (cap1 : Nat) (es : List En) (w : World) (w0 : LinesAt w b0 ls ∧ LinesBd ls) (w1 : EntsAt w b1 es ∧ EntsBd es) :
    Calls Try.prog 8 #[.agg #[.slice b0 ls.length cap0], .slice b1 es.length cap1] w fun e w' => e = .returned (.bool true) ∧ Below w.heap.size w w' := by
  obtain ⟨hz, hd⟩ := w0
  obtain ⟨hy, hdy⟩ := w1
  obtain ⟨W, hW⟩ : ∃ W, W = w.alloc (.cells #[.slice b0 ls.length cap0] 42) := ⟨_, rfl⟩
  have bW : Below w.heap.size w W := by rw [hW]; go_grown
  have hm : ls.length ≤ 9223372036854775807 := by have := hd.1; unfold maxLen at this; omega
  have hmy : es.length ≤ 9223372036854775807 := by have := hdy.1; unfold maxLen at this; omega
  have HZ : Hid (LinesAt w b0 ls) := hz
  have HY : Hid (EntsAt w b1 es) := hy
  have HD : Hid (∀ x ∈ ls, lnBd x) := hd.2
  have HDY : Hid (∀ x ∈ es, enBd x) := hdy.2
  have l0 : W.cell? ⟨w.heap.size, 0, none⟩ = some (.slice b0 ls.length cap0) := by rw [hW]; simp
  have HBW : Hid (Below w.heap.size w W) := bW
  clear hd hdy hz hy bW
  by_cases hbig : (1048576 : Int) - (ls.length : Int) < 0
  · have HL : Hid (leftL ls.length 1048576 = -1) := if_pos hbig
    go_enter Try.func8, Try.ntmps8
    go_upto_region 2 with fail
    rw [← hW]
    clear hW
    go_wp2_with fail
    refine (szLedger_any _ _ _ _ _ (by omega) (by omega) hm).mono ?_
    rintro e u1 ⟨rfl, b1⟩
    rw [HL.out]
    have q1 := next HBW.out b1
    clear b1
    go_wp2
    go_ret
    exact ⟨rfl, q1⟩
  have HL : Hid (leftL ls.length 1048576 = 1048576 - (ls.length : Int)) := if_neg hbig
  have hn : ls.length ≤ 1048576 := by omega
  by_cases hbig2 : (1048576 : Int) - (ls.length : Int) - (es.length : Int) < 0
  · have HL2 : Hid (leftL es.length (1048576 - (ls.length : Int)) = -1) := if_pos hbig2
    go_enter Try.func8, Try.ntmps8
    go_upto_region 2 with fail
    rw [← hW]
    clear hW
    go_wp2_with fail
    refine (szLedger_any _ _ _ _ _ (by omega) (by omega) hm).mono ?_
    rintro e u1 ⟨rfl, b1⟩
    rw [HL.out]
    have q1 := next HBW.out b1
    clear b1
    go_wp2_with fail
    refine (szEntryS_any _ _ _ _ _ (by omega) (by omega) hmy).mono ?_
    rintro e u2 ⟨rfl, b2⟩
    rw [HL2.out]
    have q2 := next q1 b2
    clear b2
    go_wp2
    go_ret
    exact ⟨rfl, q2⟩
  have HL2 : Hid (leftL es.length (1048576 - (ls.length : Int)) = 1048576 - (ls.length : Int) - (es.length : Int)) := if_neg hbig2
  have hne : es.length ≤ 1048576 := by omega
  obtain ⟨L, hLE⟩ : ∃ L, allL ls es = L := ⟨_, rfl⟩
  obtain ⟨ok, hOE⟩ : ∃ ok, allOk ls es = ok := ⟨_, rfl⟩
  have HSP : Hid (∀ (u : World) (g h : Nat), LinesAt u (some ⟨g, 0, none⟩) ls → EntsAt u (some ⟨h, 0, none⟩) es → Calls Try.prog 31 #[.agg #[.slice (some ⟨g, 0, none⟩) ls.length ls.length], .slice (some ⟨h, 0, none⟩) es.length es.length] u (PostR u L ok)) := fun u g h h1 h2 => by
    have := sPostAll_any (some ⟨g, 0, none⟩) ls.length ls (some ⟨h, 0, none⟩) es.length es u h1 hn h2 hne
    rw [hLE, hOE] at this; exact this
  have HIP : Hid (∀ (u : World) (g h : Nat), LinesAt u (some ⟨g, 0, none⟩) ls → EntsAt u (some ⟨h, 0, none⟩) es → Calls Try.prog 33 #[.agg #[.slice (some ⟨g, 0, none⟩) ls.length ls.length], .slice (some ⟨h, 0, none⟩) es.length es.length] u (PostR u L ok)) := fun u g h h1 h2 => by
    have := iPostAll_any (some ⟨g, 0, none⟩) ls.length ls (some ⟨h, 0, none⟩) es.length es u h1 hn HD.out h2 hne HDY.out
    rw [hLE, hOE] at this; exact this
  have hLl : L.length ≤ 1048576 := by
    rw [← hLE]
    have key : ∀ (es : List En) (cur L' : List Ln), cur.length ≤ 1048576 → postsL cur es = some L' → L'.length ≤ 1048576 := by
      intro es
      induction es with
      | nil => intro cur L' hc h; simp [postsL] at h; rw [← h]; exact hc
      | cons e r ih =>
        intro cur L' hc h
        simp only [postsL] at h
        split at h
        · rename_i hp
          exact ih _ _ (by have := (ledgerOk_parts (posted_ok hp).2).2.1; omega) h
        · cases h
    unfold allL
    cases hp : postsL ls es with
    | none => simpa using hn
    | some L' => simpa using key es ls L' hn hp
  clear hLE hOE
  go_enter Try.func8, Try.ntmps8
  go_upto_region 2 with fail
  rw [← hW]
  clear hW
  go_wp2_with fail
  refine (szLedger_any _ _ _ _ _ (by omega) (by omega) hm).mono ?_
  rintro e u1 ⟨rfl, b1⟩
  rw [HL.out]
  have q1 := next HBW.out b1
  have l1 := keep1 l0 b1
  clear b1 l0
  go_wp2_with fail
  refine (szEntryS_any _ _ _ _ _ (by omega) (by omega) hmy).mono ?_
  rintro e u1' ⟨rfl, b1'⟩
  rw [HL2.out]
  have q1' := next q1 b1'
  have l2 := keep1 l1 b1'
  clear b1' l1 q1
  go_wp2_with fail
  refine (toLedger_any _ _ _ _ (HZ.out.below q1') hn).mono ?_
  rintro e u2 ⟨g2, rfl, o2, b2⟩
  have q2 := next q1' b2
  have HF2 : Hid (LinesAt u2 (some ⟨g2, 0, none⟩) ls) := lines_any o2
  have HL3 : Hid (u2.cell? ⟨w.heap.size, 0, none⟩ = some (.slice b0 ls.length cap0)) := keep1 l2 b2
  clear b2 o2 l2 q1'
  go_wp2_with fail
  refine (toEntryS_any _ _ _ _ (HY.out.below q2) hne).mono ?_
  rintro e u3 ⟨rfl, o3, b3⟩
  have q3 := next q2 b3
  have HF3 : Hid (LinesAt u3 (some ⟨g2, 0, none⟩) ls) := HF2.out.below b3
  have HG3 : Hid (EntsAt u3 (some ⟨u2.heap.size, 0, none⟩) es) := ents_any o3
  replace HL3 : Hid (u3.cell? ⟨w.heap.size, 0, none⟩ = some (.slice b0 ls.length cap0)) := keep1 HL3.out b3
  clear b3 o3 q2
  go_wp2_with fail
  refine (HSP.out _ _ _ HF3.out HG3.out).mono ?_
  rintro e u4 ⟨a6, k6, rfl, o4, b4⟩
  obtain ⟨V1, hV⟩ : ∃ V, V = u4.alloc (.cells #[.slice a6 L.length k6] 26) := ⟨_, rfl⟩
  have bV : Below u4.heap.size u4 V1 := by rw [hV]; go_grown
  have HP6 : Hid (LC u3.heap.size L u4.heap.size a6 k6 V1) := by rw [hV]; exact lc_new _ o4
  have HX6 : Hid (∀ x, (Value.slice a6 L.length k6).ownBlock = some x → x < u4.heap.size) := fun x hx => (o4.lt x hx).2
  have HS1 : Hid (V1.heap.size = u4.heap.size + 1) := by rw [hV, Hid]; simp
  have q4 := next (next q3 b4) bV
  have HSW : Hid (w.heap.size < u4.heap.size) := Nat.lt_of_lt_of_le (World.block_lt_of_cell? u3 _ HL3.out) b4.size
  have l4 := keep1 (keep1 HL3.out b4) bV
  obtain ⟨B6, hB6⟩ : ∃ B, B = u4.heap.size := ⟨_, rfl⟩
  clear o4 b4 bV HF2 HF3 HG3 q3 HL3
  go_upto_region 9 with fail
  rw [← hV, ← hB6]
  rw [← hB6] at HP6 HX6 HS1 HSW
  clear hV hB6
  go_wp2_with fail
  refine (toLedger_any _ _ _ _ (HZ.out.below q4) hn).mono ?_
  rintro e u5 ⟨g5, rfl, o5, b5⟩
  obtain ⟨V2, hV⟩ : ∃ V, V = u5.alloc (.cells #[.slice (some ⟨g5, 0, none⟩) ls.length ls.length] 26) := ⟨_, rfl⟩
  have bV : Below u5.heap.size u5 V2 := by rw [hV]; go_grown
  have x8 : V2.cell? ⟨u5.heap.size, 0, none⟩ = some (.slice (some ⟨g5, 0, none⟩) ls.length ls.length) := by rw [hV]; simp
  have HS2 : Hid (V2.heap.size = u5.heap.size + 1) := by rw [hV, Hid]; simp
  have HG5 : Hid (V1.heap.size ≤ g5 ∧ g5 < u5.heap.size) := o5.lt g5 rfl
  have HO5 : Hid (V2.ownsRow V1.heap.size 76 3 (.slice (some ⟨g5, 0, none⟩) ls.length ls.length) ls.length (lcells ls)) := keepL o5 bV
  replace HP6 : Hid (LC u3.heap.size L B6 a6 k6 V2) := (HP6.out.below b5).below bV
  have q5 := next (next q4 b5) bV
  have l5 := keep1 (keep1 l4 b5) bV
  obtain ⟨B8, hB8⟩ : ∃ B, B = u5.heap.size := ⟨_, rfl⟩
  clear o5 b5 bV q4 l4
  go_upto_region 10 with fail
  rw [← hV, ← hB8]
  rw [← hB8] at HS2 HG5 x8
  clear hV hB8
  go_wp2_with fail
  refine (toEntryS_any _ _ _ _ (HY.out.below q5) hne).mono ?_
  rintro e u6 ⟨rfl, o6, b6⟩
  have HG6 : Hid (u6.ownsRow V2.heap.size 28 4 (.slice (some ⟨V2.heap.size, 0, none⟩) es.length es.length) es.length (ecells es)) := o6
  have HS6 : Hid (V2.heap.size < u6.heap.size) := (o6.lt _ rfl).2
  replace HP6 : Hid (LC u3.heap.size L B6 a6 k6 u6) := HP6.out.below b6
  replace HO5 : Hid (u6.ownsRow V1.heap.size 76 3 (.slice (some ⟨g5, 0, none⟩) ls.length ls.length) ls.length (lcells ls)) := keepL HO5.out b6
  have q6 := next q5 b6
  have HL6 : Hid (u6.cell? ⟨w.heap.size, 0, none⟩ = some (.slice b0 ls.length cap0)) := keep1 l5 b6
  have x9 := keep1 x8 b6
  have HX9 : Hid (u6.cell? ⟨B8, 0, none⟩ = some (.slice (some ⟨g5, 0, none⟩) ls.length ls.length)) := x9
  clear o6 b6 q5 l5 x8
  go_wp2_with fail
  refine (HIP.out _ _ _ (lines_any HO5.out) (ents_any HG6.out)).mono ?_
  rintro e u7 ⟨a10, k10, rfl, o7, b7⟩
  obtain ⟨V3, hV⟩ : ∃ V, V = u7.alloc (.cells #[.slice a10 L.length k10] 26) := ⟨_, rfl⟩
  have bV : Below u7.heap.size u7 V3 := by rw [hV]; go_grown
  have HP10 : Hid (LC u6.heap.size L u7.heap.size a10 k10 V3) := by rw [hV]; exact lc_new _ o7
  have HX10 : Hid (∀ x, (Value.slice a10 L.length k10).ownBlock = some x → u6.heap.size ≤ x ∧ x < u7.heap.size) := fun x hx => o7.lt x hx
  have HS7 : Hid (u6.heap.size ≤ u7.heap.size) := b7.size
  replace HP6 : Hid (LC u3.heap.size L B6 a6 k6 V3) := (HP6.out.below b7).below bV
  replace HO5 : Hid (V3.ownsRow V1.heap.size 76 3 (.slice (some ⟨g5, 0, none⟩) ls.length ls.length) ls.length (lcells ls)) := keepL (keepL HO5.out b7) bV
  replace HG6 : Hid (V3.ownsRow V2.heap.size 28 4 (.slice (some ⟨V2.heap.size, 0, none⟩) es.length es.length) es.length (ecells es)) := keepL (keepL HG6.out b7) bV
  have q7 := next (next q6 b7) bV
  replace HL6 : Hid (V3.cell? ⟨w.heap.size, 0, none⟩ = some (.slice b0 ls.length cap0)) := keep1 (keep1 HL6.out b7) bV
  replace HX9 : Hid (V3.cell? ⟨B8, 0, none⟩ = some (.slice (some ⟨g5, 0, none⟩) ls.length ls.length)) := keep1 (keep1 HX9.out b7) bV
  obtain ⟨B10, hB10⟩ : ∃ B, B = u7.heap.size := ⟨_, rfl⟩
  have hnq : (ok != ok) = false := by simp
  clear o7 b7 bV q6 x9
  go_upto_region 12 with fail
  rw [← hV, ← hB10]
  rw [← hB10] at HP10 HX10 HS7
  clear hV hB10
  have c10 := HP10.out.c0
  have c6 := HP6.out.c0
  go_wp2_with fail
  refine (eqLedger_same _ _ _ _ _ _ HP10.out.lines HP6.out.lines (by omega)).mono ?_
  rintro e u8 ⟨rfl, b8⟩
  replace HP10 : Hid (LC u6.heap.size L B10 a10 k10 u8) := HP10.out.below b8
  replace HP6 : Hid (LC u3.heap.size L B6 a6 k6 u8) := HP6.out.below b8
  replace HO5 : Hid (u8.ownsRow V1.heap.size 76 3 (.slice (some ⟨g5, 0, none⟩) ls.length ls.length) ls.length (lcells ls)) := keepL HO5.out b8
  replace HG6 : Hid (u8.ownsRow V2.heap.size 28 4 (.slice (some ⟨V2.heap.size, 0, none⟩) es.length es.length) es.length (ecells es)) := keepL HG6.out b8
  replace HL6 : Hid (u8.cell? ⟨w.heap.size, 0, none⟩ = some (.slice b0 ls.length cap0)) := keep1 HL6.out b8
  replace HX9 : Hid (u8.cell? ⟨B8, 0, none⟩ = some (.slice (some ⟨g5, 0, none⟩) ls.length ls.length)) := keep1 HX9.out b8
  have q8 := next q7 b8
  have x8 : u8.cell? ⟨B8, 0, none⟩ = some (.slice (some ⟨g5, 0, none⟩) ls.length ls.length) := HX9.out
  have l8 : u8.cell? ⟨w.heap.size, 0, none⟩ = some (.slice b0 ls.length cap0) := HL6.out
  have HZ8 : Hid (LinesAt u8 b0 ls) := HZ.out.below q8
  clear b8 c10 c6 q7
  go_upto_region 14 with fail
  go_region_held3 (fun u => u.cell? ⟨B8, 0, none⟩ = some (.slice (some ⟨g5, 0, none⟩) ls.length ls.length) ∧ u.cell? ⟨w.heap.size, 0, none⟩ = some (.slice b0 ls.length cap0)) (first | exact ⟨x8, l8⟩ | exact ⟨keep1 HX9.out b10, keep1 HL6.out b10⟩ | exact ⟨keep1 HX9.out b9, keep1 HL6.out b9⟩) ((first
    | (go_at_call 24; refine (toLedger_any _ _ _ _ (HZ8.out.below ((Below.refl _ _).drew)) hn).mono ?_; rintro e u9 ⟨g9, rfl, o9, b9'⟩; have b9 : Below u8.heap.size u8 u9 := ((Below.refl _ _).drew).trans b9')
    | (go_at_call 25; refine (eqLedger_same _ _ _ _ _ _ ((lines_any HO5.out).below b9) (lines_any o9) (by omega)).mono ?_; rintro e u10 ⟨rfl, b10'⟩; have b10 : Below u8.heap.size u8 u10 := next b9 b10')))
  all_goals
    replace HP10 : Hid (LC u6.heap.size L B10 a10 k10 u10) := HP10.out.below b10
    replace HP6 : Hid (LC u3.heap.size L B6 a6 k6 u10) := HP6.out.below b10
    replace HO5 : Hid (u10.ownsRow V1.heap.size 76 3 (.slice (some ⟨g5, 0, none⟩) ls.length ls.length) ls.length (lcells ls)) := keepL HO5.out b10
    replace HG6 : Hid (u10.ownsRow V2.heap.size 28 4 (.slice (some ⟨V2.heap.size, 0, none⟩) es.length es.length) es.length (ecells es)) := keepL HG6.out b10
    replace HL6 : Hid (u10.cell? ⟨w.heap.size, 0, none⟩ = some (.slice b0 ls.length cap0)) := keep1 HL6.out b10
    replace HX9 : Hid (u10.cell? ⟨B8, 0, none⟩ = some (.slice (some ⟨g5, 0, none⟩) ls.length ls.length)) := keep1 HX9.out b10
    have q10 := next q8 b10
    clear b10 b10' b9 b9' o9 HZ8 x8 l8 q8
    go_wp2_with fail
    refine (toEntryS_any _ _ _ _ (HY.out.below q10) hne).mono ?_
    rintro e u11 ⟨rfl, o11, b11⟩
    have q11 := next q10 b11
    have F11 := ents_any o11
    replace HP10 : Hid (LC u6.heap.size L B10 a10 k10 u11) := HP10.out.below b11
    replace HP6 : Hid (LC u3.heap.size L B6 a6 k6 u11) := HP6.out.below b11
    replace HO5 : Hid (u11.ownsRow V1.heap.size 76 3 (.slice (some ⟨g5, 0, none⟩) ls.length ls.length) ls.length (lcells ls)) := keepL HO5.out b11
    replace HG6 : Hid (u11.ownsRow V2.heap.size 28 4 (.slice (some ⟨V2.heap.size, 0, none⟩) es.length es.length) es.length (ecells es)) := keepL HG6.out b11
    replace HL6 : Hid (u11.cell? ⟨w.heap.size, 0, none⟩ = some (.slice b0 ls.length cap0)) := keep1 HL6.out b11
    replace HX9 : Hid (u11.cell? ⟨B8, 0, none⟩ = some (.slice (some ⟨g5, 0, none⟩) ls.length ls.length)) := keep1 HX9.out b11
    clear b11 o11 q10
    go_wp2_with fail
    refine (eqEntryS_same _ _ _ _ _ _ (ents_any HG6.out) F11 (by omega)).mono ?_
    rintro e u12 ⟨rfl, b12⟩
    have q12 := next q11 b12
    replace HP10 : Hid (LC u6.heap.size L B10 a10 k10 u12) := HP10.out.below b12
    replace HP6 : Hid (LC u3.heap.size L B6 a6 k6 u12) := HP6.out.below b12
    replace HO5 : Hid (u12.ownsRow V1.heap.size 76 3 (.slice (some ⟨g5, 0, none⟩) ls.length ls.length) ls.length (lcells ls)) := keepL HO5.out b12
    replace HG6 : Hid (u12.ownsRow V2.heap.size 28 4 (.slice (some ⟨V2.heap.size, 0, none⟩) es.length es.length) es.length (ecells es)) := keepL HG6.out b12
    replace HL6 : Hid (u12.cell? ⟨w.heap.size, 0, none⟩ = some (.slice b0 ls.length cap0)) := keep1 HL6.out b12
    have x12 := keep1 HX9.out b12
    clear b12 q11 F11 HX9
    go_wp2_with fail
    refine (markLedger_any _ _ _ 1 _ _ HO5.out (by omega) (by omega)).mono ?_
    rintro e u13 ⟨rfl, o13, gr13⟩
    have gr13' : u12.grownBy u13 (some g5) := gr13
    obtain ⟨m1, hm1⟩ : ∃ m, 1 + 3 * ls.length = m := ⟨_, rfl⟩
    rw [hm1]
    have hm1b : m1 ≤ 5000000 := by omega
    clear hm1
    have hg5 := HG5.out
    have hs1 := HS1.out
    have hs2 := HS2.out
    have hs6 := HS6.out
    have hs7 := HS7.out
    have hsw := HSW.out
    replace HP10 : Hid (LC u6.heap.size L B10 a10 k10 u13) := HP10.out.grown gr13' (by simp; omega) (fun x hx e => by have := HX10.out x hx; cases e; omega)
    replace HP6 : Hid (LC u3.heap.size L B6 a6 k6 u13) := HP6.out.grown gr13' (by simp; omega) (fun x hx e => by have := HX6.out x hx; cases e; omega)
    replace HG6 : Hid (u13.ownsRow V2.heap.size 28 4 (.slice (some ⟨V2.heap.size, 0, none⟩) es.length es.length) es.length (ecells es)) := keepG HG6.out gr13' (fun x hx e => by simp [Value.ownBlock] at hx; cases e; omega)
    replace HL6 : Hid (u13.cell? ⟨w.heap.size, 0, none⟩ = some (.slice b0 ls.length cap0)) := (gr13'.cell_far ⟨w.heap.size, 0, none⟩ (World.block_lt_of_cell? u12 _ HL6.out) (by simp; omega)).trans HL6.out
    have q13 : Below w.heap.size w u13 := q12.grown gr13' q12.size (fun x hx => by cases hx; omega)
    clear gr13 gr13' o13 HO5 x12 q12 hg5 hs1 hs2 hs6 hs7 hsw
    go_wp2_with fail
    refine (markEntryS_any _ _ _ m1 _ _ HG6.out (by omega) (by omega)).mono ?_
    rintro e u14 ⟨rfl, gr14⟩
    obtain ⟨m2, hm2⟩ : ∃ m, m1 + 4 * es.length = m := ⟨_, rfl⟩
    rw [hm2]
    have hm2b : m2 ≤ 50000000 := by omega
    clear hm2
    have hg5 := HG5.out
    have hs1 := HS1.out
    have hs2 := HS2.out
    have hs6 := HS6.out
    have hs7 := HS7.out
    have hsw := HSW.out
    replace HP10 : Hid (LC u6.heap.size L B10 a10 k10 u14) := HP10.out.grown gr14 (by simp; omega) (fun x hx e => by have := HX10.out x hx; cases e; omega)
    replace HP6 : Hid (LC u3.heap.size L B6 a6 k6 u14) := HP6.out.grown gr14 (by simp; omega) (fun x hx e => by have := HX6.out x hx; cases e; omega)
    replace HL6 : Hid (u14.cell? ⟨w.heap.size, 0, none⟩ = some (.slice b0 ls.length cap0)) := (gr14.cell_far ⟨w.heap.size, 0, none⟩ (World.block_lt_of_cell? u13 _ HL6.out) (by simp; omega)).trans HL6.out
    have q14 : Below w.heap.size w u14 := q13.grown gr14 q13.size (fun x hx => by cases hx; omega)
    have c10 := HP10.out.c0
    have c6 := HP6.out.c0
    clear gr14 HG6 q13 hg5 hs1 hs2 hs6 hs7 hsw
    go_wp2_with fail
    refine (eqLedger_same _ _ _ _ _ _ HP10.out.lines HP6.out.lines (by omega)).mono ?_
    rintro e u15 ⟨rfl, b15⟩
    replace HP10 : Hid (LC u6.heap.size L B10 a10 k10 u15) := HP10.out.below b15
    replace HP6 : Hid (LC u3.heap.size L B6 a6 k6 u15) := HP6.out.below b15
    replace HL6 : Hid (u15.cell? ⟨w.heap.size, 0, none⟩ = some (.slice b0 ls.length cap0)) := keep1 HL6.out b15
    have q15 := next q14 b15
    have c15 := HP10.out.c0
    clear b15 c10 c6 q14
    go_wp2_with fail
    refine (markLedger_any _ _ _ 1 _ _ HP10.out.own (by omega) (by omega)).mono ?_
    rintro e u16 ⟨rfl, o16, gr16⟩
    obtain ⟨mm, hmm⟩ : ∃ m, 1 + 3 * L.length = m := ⟨_, rfl⟩
    rw [hmm]
    have HMM : Hid _ := hmm
    have hml : mm ≤ 5000000 := by omega
    clear hmm
    have hg5 := HG5.out
    have hs1 := HS1.out
    have hs2 := HS2.out
    have hs6 := HS6.out
    have hsw := HSW.out
    replace HP6 : Hid (LC u3.heap.size L B6 a6 k6 u16) := HP6.out.grown gr16 (fun e => by have := HX10.out _ e.symm; omega) (fun x hx e => by have := HX10.out _ e.symm; have := HX6.out x hx; omega)
    replace HL6 : Hid (u16.cell? ⟨w.heap.size, 0, none⟩ = some (.slice b0 ls.length cap0)) := (gr16.cell_far ⟨w.heap.size, 0, none⟩ (World.block_lt_of_cell? u15 _ HL6.out) (show some w.heap.size ≠ (Value.slice a10 L.length k10).ownBlock from fun e => by have := HX10.out _ e.symm; omega)).trans HL6.out
    have q16 : Below w.heap.size w u16 := q15.grown gr16 q15.size (fun x hx => by have := HX10.out _ hx; omega)
    have c16 := (gr16.cell_far ⟨B10, 0, none⟩ (World.block_lt_of_cell? u15 _ c15) (show some B10 ≠ (Value.slice a10 L.length k10).ownBlock from fun e => by have := (HX10.out _ e.symm).2; omega)).trans c15
    have F16 : Hid (LinesAt u16 a10 (mkL 1 L.length)) := lines_mark o16
    have HC16 : Hid (u16.cell? ⟨B10, 0, none⟩ = some (.slice a10 L.length k10)) := c16
    clear gr16 o16 HP10 q15 c15 hg5 hs1 hs2 hs6 hsw
    go_wp2_with fail
    refine (heldLedger_any _ _ _ 1 _ F16.out (by omega) (by omega)).mono ?_
    rintro e u17 ⟨rfl, b17⟩
    rw [HMM.out]
    replace HP6 : Hid (LC u3.heap.size L B6 a6 k6 u17) := HP6.out.below b17
    replace F16 : Hid (LinesAt u17 a10 (mkL 1 L.length)) := F16.out.below b17
    replace HC16 : Hid (u17.cell? ⟨B10, 0, none⟩ = some (.slice a10 L.length k10)) := keep1 HC16.out b17
    have l17 := keep1 HL6.out b17
    have q17 := next q16 b17
    have hnm : ((mm : Int) != (mm : Int)) = false := by simp
    clear b17 c16 q16 HL6
    go_wp2_with fail
    refine (toLedger_any _ _ _ _ (HZ.out.below q17) hn).mono ?_
    rintro e u18 ⟨g18, rfl, o18, b18⟩
    have q18 := next q17 b18
    have HF18 : Hid (LinesAt u18 (some ⟨g18, 0, none⟩) ls) := lines_any o18
    replace HP6 : Hid (LC u3.heap.size L B6 a6 k6 u18) := HP6.out.below b18
    replace F16 : Hid (LinesAt u18 a10 (mkL 1 L.length)) := F16.out.below b18
    replace HC16 : Hid (u18.cell? ⟨B10, 0, none⟩ = some (.slice a10 L.length k10)) := keep1 HC16.out b18
    clear b18 o18 l17 q17
    go_wp2_with fail
    refine (toEntryS_any _ _ _ _ (HY.out.below q18) hne).mono ?_
    rintro e u19 ⟨rfl, o19, b19⟩
    have q19 := next q18 b19
    have HF19 : Hid (LinesAt u19 (some ⟨g18, 0, none⟩) ls) := HF18.out.below b19
    have HG19 : Hid (EntsAt u19 (some ⟨u18.heap.size, 0, none⟩) es) := ents_any o19
    replace HP6 : Hid (LC u3.heap.size L B6 a6 k6 u19) := HP6.out.below b19
    replace F16 : Hid (LinesAt u19 a10 (mkL 1 L.length)) := F16.out.below b19
    replace HC16 : Hid (u19.cell? ⟨B10, 0, none⟩ = some (.slice a10 L.length k10)) := keep1 HC16.out b19
    clear b19 o19 q18 HF18
    go_wp2_with fail
    refine (HIP.out _ _ _ HF19.out HG19.out).mono ?_
    rintro e u20 ⟨a20, k20, rfl, o20, b20⟩
    obtain ⟨V4, hV⟩ : ∃ V, V = u20.alloc (.cells #[.slice a20 L.length k20] 26) := ⟨_, rfl⟩
    have bV : Below u20.heap.size u20 V4 := by rw [hV]; go_grown
    have HP20 : Hid (LC u19.heap.size L u20.heap.size a20 k20 V4) := by rw [hV]; exact lc_new _ o20
    replace HP6 : Hid (LC u3.heap.size L B6 a6 k6 V4) := (HP6.out.below b20).below bV
    replace F16 : Hid (LinesAt V4 a10 (mkL 1 L.length)) := (F16.out.below b20).below bV
    replace HC16 : Hid (V4.cell? ⟨B10, 0, none⟩ = some (.slice a10 L.length k10)) := keep1 (keep1 HC16.out b20) bV
    have q20 := next (next q19 b20) bV
    have c20 := HP20.out.c0
    have c6 := HP6.out.c0
    clear o20 b20 bV q19 HF19 HG19
    go_upto_region 32 with fail
    rw [← hV]
    clear hV
    go_wp2_with fail
    refine (eqLedger_same _ _ _ _ _ _ HP20.out.lines HP6.out.lines (by omega)).mono ?_
    rintro e u21 ⟨rfl, b21⟩
    replace F16 : Hid (LinesAt u21 a10 (mkL 1 L.length)) := F16.out.below b21
    have c21 := keep1 HC16.out b21
    have q21 := next q20 b21
    clear b21 c20 c6 q20
    go_wp2_with fail
    refine (heldLedger_any _ _ _ 1 _ F16.out (by omega) (by omega)).mono ?_
    rintro e u22 ⟨rfl, b22⟩
    rw [HMM.out]
    have q22 := next q21 b22
    clear b22 q21
    go_wp2
    go_ret
    exact ⟨rfl, q22⟩

set_option maxRecDepth 100000 in
theorem lifted (os : Os) (started : os.Started) (H : Type) (enc : TypeId × Value → H) :
    ReturnsInHanded {} Try.checked os 8 .any (Rows.fnExactPostAllSpec.pre6 enc Try.prog Try.f8 Rows.fnExactPostAllRow.domain false) (Rows.fnExactPostAllSpec.post enc Try.prog Try.f8 false true false false) := by
  refine returnsInHanded_of_change (C := Try.checked) own started (by kernel_rfl) Try.func8
    (ChangeSpec.witness6 (enc := enc) (C := Try.checked) false ⟨#[], #[.agg #[.slice none 0 0], .slice none 0 0], []⟩ 8 (by kernel_rfl) (by kernel_rfl) (by kernel_rfl) (by kernel_rfl)) ?_
  intro W base args ds gs before hval0 hW hcnd _
  have hval : ∀ (j : Nat) t v, Try.f8.params[j]? = some t → args[j]? = some v → Value.okWide Try.prog W .any base t v := hval0
  have hW' := hW
  obtain ⟨p, q, hA0, hV, rfl, hfz, hnd⟩ := hW
  have hA : DataW.TrodAll enc Try.prog W 0 (fun _ => true) true Try.f8.params.toList args.toList ds p := hA0
  rw [Try.params8] at hA hval
  obtain ⟨v0, vs0, d0, ds0, p0, q0, hargs, rfl, rfl, h0, r0⟩ := trodAll_cons hA
  obtain ⟨v1, vs1, d1, ds1, p1, q1, rfl, rfl, rfl, h1, r1⟩ := trodAll_cons r0
  obtain ⟨rfl, rfl, rfl⟩ := trodAll_nil r1
  obtain rfl : args = #[v0, v1] := by cases args; simp_all
  obtain ⟨rfl, rfl⟩ := trodVars_none hV
  have k0 := h0
  have lt0 : ∀ x ∈ p0, x.block < W.heap.size := by obtain ⟨m, hm⟩ := k0; exact DataW.trod_lt m _ _ _ hm
  obtain ⟨b0, cap0, ls0, rfl, w0⟩ := is_ledger Try.underlying42 (by kernel_rfl) rfl (by kernel_rfl) Try.underlying40 Try.underlying101 (by kernel_rfl) rfl rfl rfl (by kernel_rfl) (by kernel_rfl) (by kernel_rfl) Try.underlying3 Try.underlying3 Try.underlying3 (hval 0 42 v0 rfl rfl) h0
  have k1 := h1
  have lt1 : ∀ x ∈ p1, x.block < W.heap.size := by obtain ⟨m, hm⟩ := k1; exact DataW.trod_lt m _ _ _ hm
  obtain ⟨b1, cap1, es1, rfl, w1⟩ := is_ents Try.underlying52 Try.underlying46 (by kernel_rfl) rfl rfl rfl rfl (by kernel_rfl) (by kernel_rfl) (by kernel_rfl) (by kernel_rfl) Try.underlying3 Try.underlying3 Try.underlying3 Try.underlying3 (hval 1 52 v1 rfl rfl) h1
  clear hA0 hval0
  refine (walk b0 cap0 ls0 b1 cap1 es1 W w0 w1).mono fun e W' ⟨he, bel⟩ => ?_
  subst he
  exact ⟨_, rfl, _, _, _, [], _, [], hW', trodAll_mk1 (shut_bool Try.underlying4 _), (trodAll_cons_mk (Below.trod laidOut (by kernel_rfl) (of_decide_eq_true (by kernel_rfl)) k0 bel lt0) (trodAll_cons_mk (Below.trod laidOut (by kernel_rfl) (of_decide_eq_true (by kernel_rfl)) k1 bel lt1) trodAll_mk0)), rfl, bel.frame _, fun h => by cases h⟩

theorem proved : Rows.FnExactPostAllSaid :=
  OpenClaim.holds_of_wide 8 Try.f8 rfl rfl rfl rfl rfl rfl rfl ⟨rfl, rfl, rfl, rfl, rfl⟩ rfl rfl rfl rfl rfl (by kernel_rfl) Try.func8 (by kernel_rfl)
    (of_decide_eq_true (by kernel_rfl)) (by unfold Func.isWrapper; first | (rw [if_pos (by decide +kernel)]; kernel_rfl) | (rw [if_neg (by decide +kernel)]; exact ⟨rfl, rfl⟩))
    (fun os started H enc _ => lifted os started H enc)
end Go.Proofs.Ytcaepfomhcmfpaa.fnExactPostAll
