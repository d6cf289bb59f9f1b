/- Proved: at every ledger (of at most 1048576 lines; a longer one passes by the law's own first test) and every entry the program's Post answers as the specification's, both results; it leaves its argument as it was and keeps nothing of it; its answer owns its memory, behind another call too. No other conditions. -/
import Derived.Test.YtcaepfomhcmfpaaBase
import Derived.Test.YtcaepfomhcmfpaaPostB
namespace Go.Proofs.Ytcaepfomhcmfpaa.fnExactPost
open Go.ChangeShapes Go.WideShapes Go.ChangeAt Go.RowKit
set_option maxRecDepth 100000

theorem le5 {s : Nat} {ao : Option Addr} {cap n : Nat} {a b c m : Int} {u : World} (h : LE s ao cap n a b c m u) : u.cell? ⟨s, 0, none⟩ = some (.slice ao n cap) ∧ u.cell? ⟨s + 1, 0, none⟩ = some (.int .i64 a) ∧ u.cell? ⟨s + 1, 1, none⟩ = some (.int .i64 b) ∧ u.cell? ⟨s + 1, 2, none⟩ = some (.int .i64 c) ∧ u.cell? ⟨s + 1, 3, none⟩ = some (.int .i64 m) := ⟨h.l0, h.e0, h.e1, h.e2, h.e3⟩
theorem keep1 {w u : World} {b : Nat} {x : Value} (h0 : w.cell? ⟨b, 0, none⟩ = some x) (k : Below w.heap.size w u) : u.cell? ⟨b, 0, none⟩ = some x :=
  have hb : b < w.heap.size := World.block_lt_of_cell? w _ h0
  (k.cell (p := ⟨b, 0, none⟩) hb).trans h0

theorem s7 {s x : Nat} {ao : Option Addr} {cap n : Nat} {a b c m : Int} {y : Value} {V u : World} (hx : V.cell? ⟨x, 0, none⟩ = some y) (h : LE s ao cap n a b c m V) (hb : Below V.heap.size V u) : u.cell? ⟨x, 0, none⟩ = some y ∧ u.cell? ⟨s + 1, 0, none⟩ = some (.int .i64 a) ∧ u.cell? ⟨s + 1, 1, none⟩ = some (.int .i64 b) ∧ u.cell? ⟨s + 1, 2, none⟩ = some (.int .i64 c) ∧ u.cell? ⟨s + 1, 3, none⟩ = some (.int .i64 m) :=
  ⟨keep1 hx hb, (h.below hb).e0, (h.below hb).e1, (h.below hb).e2, (h.below hb).e3⟩
theorem lines_mark {w : World} {base n : Nat} {t : TypeId} {ao : Option Addr} {cap : Nat} (h : w.ownsRow base t 3 (.slice ao n cap) n (lcells (mkL 1 n))) : LinesAt w ao (mkL 1 n) := by
  obtain ⟨ao', cap', hv, hf, _⟩ := lines_of_own h
  obtain ⟨rfl, _⟩ : ao = ao' ∧ n = (mkL 1 n).length ∧ cap = cap' := by simpa using hv
  exact hf

set_option maxHeartbeats 12800000 in
theorem walk (b0 : Option Addr) (cap0 : Nat) (ls : List Ln) (a b c m : Int) (w : World) (w0 : LinesAt w b0 ls ∧ LinesBd ls) (w1 : enBd (a, b, c, m)) :
    Calls Try.prog 7 #[.agg #[.slice b0 ls.length cap0], .agg #[.int .i64 a, .int .i64 b, .int .i64 c, .int .i64 m]] w fun e w' => e = .returned (.bool true) ∧ Below w.heap.size w w' := by
  obtain ⟨hz, hd⟩ := w0
  obtain ⟨W, hW⟩ : ∃ W, W = (w.alloc (.cells #[.slice b0 ls.length cap0] 42)).alloc (.cells #[.int .i64 a, .int .i64 b, .int .i64 c, .int .i64 m] 46) := ⟨_, rfl⟩
  have bW : Below w.heap.size w W := by rw [hW]; go_grown
  have E0 : LE w.heap.size b0 cap0 ls.length a b c m W := by rw [hW]; exact ⟨by simp [go_sem], by simp [go_sem], by simp [go_sem], by simp [go_sem], by simp [go_sem]⟩
  have hm : ls.length ≤ 9223372036854775807 := by have := hd.1; unfold maxLen at this; omega
  have HZ : Hid (LinesAt w b0 ls) := hz
  have HD : Hid (∀ x ∈ ls, lnBd x) := hd.2
  have HEB : Hid (enBd (a, b, c, m)) := w1
  have l0 := E0.l0
  have HE0 : Hid (LE w.heap.size b0 cap0 ls.length a b c m W) := E0
  have HBW : Hid (Below w.heap.size w W) := bW
  clear hd w1 hz E0 bW
  by_cases hbig : (1048576 : Int) - (ls.length : Int) < 0
  · have HL : Hid (leftL ls.length 1048576 = -1) := if_pos hbig
    go_enter Try.func7, Try.ntmps7
    go_upto_region 2 with fail
    rw [← hW]
    clear hW
    go_wp2_with fail
    refine (szLedger_any _ _ _ _ _ (by omega) (by omega) hm).mono ?_
    rintro e u1 ⟨rfl, b1⟩
    rw [HL.out]
    have q1 := next HBW.out b1
    clear b1
    go_wp2
    go_ret
    exact ⟨rfl, q1⟩
  have HL : Hid (leftL ls.length 1048576 = 1048576 - (ls.length : Int)) := if_neg hbig
  have hn : ls.length ≤ 1048576 := by omega
  obtain ⟨L, hLE⟩ : ∃ L, postL ls (a, b, c, m) = L := ⟨_, rfl⟩
  obtain ⟨ok, hOE⟩ : ∃ ok, postOk ls (a, b, c, m) = ok := ⟨_, rfl⟩
  have HSP : Hid (∀ (u : World) (g : Nat), LinesAt u (some ⟨g, 0, none⟩) ls → Calls Try.prog 14 #[.agg #[.slice (some ⟨g, 0, none⟩) ls.length ls.length], .agg #[.int .i64 a, .int .i64 b, .int .i64 c, .int .i64 m]] u (PostR u L ok)) := fun u g h => by
    have := sPost_any (some ⟨g, 0, none⟩) ls.length ls a b c m u h hn
    rw [hLE, hOE] at this; exact this
  have HIP : Hid (∀ (u : World) (g : Nat), LinesAt u (some ⟨g, 0, none⟩) ls → Calls Try.prog 13 #[.agg #[.slice (some ⟨g, 0, none⟩) ls.length ls.length], .agg #[.int .i64 a, .int .i64 b, .int .i64 c, .int .i64 m]] u (PostR u L ok)) := fun u g h => by
    have := iPost_any (some ⟨g, 0, none⟩) ls.length ls a b c m u h hn HD.out HEB.out
    rw [hLE, hOE] at this; exact this
  have hLl : L.length ≤ 1048578 := by
    rw [← hLE]
    unfold postL
    split
    · have h1 := addL_len ls a c (-m)
      have h2 := addL_len (addL ls a c (-m)) b c m
      show (addL (addL ls a c (-m)) b c m).length ≤ _
      omega
    · omega
  clear hLE hOE
  go_enter Try.func7, Try.ntmps7
  go_upto_region 2 with fail
  rw [← hW]
  clear hW
  go_wp2_with fail
  refine (szLedger_any _ _ _ _ _ (by omega) (by omega) hm).mono ?_
  rintro e u1 ⟨rfl, b1⟩
  rw [HL.out]
  have q1 := next HBW.out b1
  have HE1 : Hid (LE w.heap.size b0 cap0 ls.length a b c m u1) := HE0.out.below b1
  have HZ1 : Hid (LinesAt u1 b0 ls) := HZ.out.below q1
  obtain ⟨l0, e0, e1, e2, e3⟩ := HE1.out
  clear b1
  go_upto_region 5 with fail
  have z : ZB u1 u1 none (fun _ => True) := ZB.start (fun _ _ => trivial)
  go_cut [6, 7] (fun v6 v7 wc => ∃ B ao k, v6 = .pointer (some ⟨B, 0, none⟩) ∧ v7 = .bool ok ∧ LB u1 L B ao k wc)
  case first =>
    go_region_held3 (fun u => u.cell? ⟨w.heap.size, 0, none⟩ = some (.slice b0 ls.length cap0) ∧ u.cell? ⟨w.heap.size + 1, 0, none⟩ = some (.int .i64 a) ∧ u.cell? ⟨w.heap.size + 1, 1, none⟩ = some (.int .i64 b) ∧ u.cell? ⟨w.heap.size + 1, 2, none⟩ = some (.int .i64 c) ∧ u.cell? ⟨w.heap.size + 1, 3, none⟩ = some (.int .i64 m)) (first | exact ⟨l0, e0, e1, e2, e3⟩ | exact le5 (HE1.out.below z.bel) | exact le5 (HE1.out.below z.drew.bel) | exact le5 (HE1.out.below (z.al _).bel) | exact le5 (HE1.out.below (z.al _).drew.bel) | exact le5 (HE1.out.below (z.drew.al _).bel) | exact le5 (HE1.out.below (HF.out _).bel) | exact le5 (HE1.out.below HF.out.bel)) ((first
      | (go_at_call 24; (first | with_reducible refine (zToL HZ1.out hn z).mono ?_ | with_reducible refine (zToL HZ1.out hn z.drew).mono ?_ | with_reducible refine (zToL HZ1.out hn (z.al _)).mono ?_ | with_reducible refine (zToL HZ1.out hn (z.al _).drew).mono ?_ | with_reducible refine (zToL HZ1.out hn (z.drew.al _)).mono ?_); rintro e v1 ⟨g1, rfl, z⟩)
      | (go_at_call 26; (first | with_reducible refine (zToE z).mono ?_ | with_reducible refine (zToE z.drew).mono ?_ | with_reducible refine (zToE (z.al _)).mono ?_ | with_reducible refine (zToE (z.al _).drew).mono ?_ | with_reducible refine (zToE (z.drew.al _)).mono ?_); rintro e v2 ⟨rfl, z⟩)
      | (go_at_call 14; (first | with_reducible refine (zPost z (HSP.out _ _ z.now.2)).mono ?_ | with_reducible refine (zPost z.drew (HSP.out _ _ z.drew.now.2)).mono ?_ | with_reducible refine (zPost (z.al _) (HSP.out _ _ (z.al _).now.2)).mono ?_ | with_reducible refine (zPost (z.al _).drew (HSP.out _ _ (z.al _).drew.now.2)).mono ?_ | with_reducible refine (zPost (z.drew.al _) (HSP.out _ _ (z.drew.al _).now.2)).mono ?_); rintro e v3 ⟨a3, k3, rfl, o3, z0, z⟩; (first | (have HF : Hid (∀ t, LB u1 L v3.heap.size a3 k3 (v3.alloc (.cells #[.slice a3 L.length k3] t))) := (fun t => LB.new o3 z0 z)) | (have HF : Hid _ := LB.set o3 z0 z; obtain ⟨_, _, n0, n1⟩ := z.box _ rfl)); clear o3 z0)))
    all_goals
      go_wp2_with fail
      go_meet
      first
        | exact ⟨_, _, _, rfl, rfl, HF.out _⟩
        | exact ⟨_, _, _, rfl, rfl, HF.out⟩
  case rest =>
    obtain ⟨B2, a2, k2, rfl, rfl, P2⟩ := hcut
    obtain ⟨u2, hu⟩ : ∃ x, x = wc := ⟨_, rfl⟩
    subst hu
    have HP2 : Hid (LC u1.heap.size L B2 a2 k2 u2) := P2.lc
    have q2 := next q1 P2.bel
    have HE2 : Hid (LE w.heap.size b0 cap0 ls.length a b c m u2) := HE1.out.below P2.bel
    have HB2 : Hid (B2 < u2.heap.size) := World.block_lt_of_cell? u2 _ P2.c0
    have HX2 : Hid (∀ x, (Value.slice a2 L.length k2).ownBlock = some x → x < u2.heap.size) := fun x hx => (P2.own.lt x hx).2
    have HS1 : Hid (w.heap.size + 1 < u1.heap.size) := World.block_lt_of_cell? u1 _ e0
    have HU2 : Hid (u1.heap.size ≤ u2.heap.size) := P2.bel.size
    clear P2 l0 e0 e1 e2 e3 z
    have l0 := HE2.out.l0
    go_wp2_with fail
    refine (toLedger_any _ _ _ _ (HZ.out.below q2) hn).mono ?_
    rintro e u3 ⟨g3, rfl, o3, b3⟩
    obtain ⟨V, hV⟩ : ∃ V, V = u3.alloc (.cells #[.slice (some ⟨g3, 0, none⟩) ls.length ls.length] 26) := ⟨_, rfl⟩
    have bV : Below u3.heap.size u3 V := by rw [hV]; go_grown
    have x3 : V.cell? ⟨u3.heap.size, 0, none⟩ = some (.slice (some ⟨g3, 0, none⟩) ls.length ls.length) := by rw [hV]; simp
    have HVS : Hid (V.heap.size = u3.heap.size + 1) := by rw [hV, Hid]; simp
    have HG3 : Hid (u2.heap.size ≤ g3 ∧ g3 < u3.heap.size) := o3.lt g3 rfl
    replace HP2 : Hid (LC u1.heap.size L B2 a2 k2 V) := (HP2.out.below b3).below bV
    have q3 := next (next q2 b3) bV
    have HE3 : Hid (LE w.heap.size b0 cap0 ls.length a b c m V) := (HE2.out.below b3).below bV
    have HO3 : Hid (V.ownsRow u2.heap.size 76 3 (.slice (some ⟨g3, 0, none⟩) ls.length ls.length) ls.length (lcells ls)) := keepL o3 bV
    have HX3 : Hid (V.cell? ⟨u3.heap.size, 0, none⟩ = some (.slice (some ⟨g3, 0, none⟩) ls.length ls.length)) := x3
    obtain ⟨_, e0, e1, e2, e3⟩ := HE3.out
    clear l0 o3 b3 bV HE2 HE1 HE0 HZ1 q2 q1
    go_upto_region 7 with fail
    rw [← hV]
    clear hV
    have z : ZB V V none (fun v => LinesAt v (some ⟨g3, 0, none⟩) ls) := ZB.start (fun v hv => (lines_any HO3.out).below hv)
    go_cut [9, 10] (fun v6 v7 wc => ∃ B ao k, v6 = .pointer (some ⟨B, 0, none⟩) ∧ v7 = .bool ok ∧ LB V L B ao k wc)
    case first =>
      go_region_held3 (fun u => u.cell? ⟨u3.heap.size, 0, none⟩ = some (.slice (some ⟨g3, 0, none⟩) ls.length ls.length) ∧ u.cell? ⟨w.heap.size + 1, 0, none⟩ = some (.int .i64 a) ∧ u.cell? ⟨w.heap.size + 1, 1, none⟩ = some (.int .i64 b) ∧ u.cell? ⟨w.heap.size + 1, 2, none⟩ = some (.int .i64 c) ∧ u.cell? ⟨w.heap.size + 1, 3, none⟩ = some (.int .i64 m)) (first | exact ⟨x3, e0, e1, e2, e3⟩ | exact s7 HX3.out HE3.out z.bel | exact s7 HX3.out HE3.out z.drew.bel | exact s7 HX3.out HE3.out (z.al _).bel | exact s7 HX3.out HE3.out (z.al _).drew.bel | exact s7 HX3.out HE3.out (z.drew.al _).bel | exact s7 HX3.out HE3.out (HF.out _).bel | exact s7 HX3.out HE3.out HF.out.bel) ((first
        | (go_at_call 26; (first | with_reducible refine (zToE z).mono ?_ | with_reducible refine (zToE z.drew).mono ?_ | with_reducible refine (zToE (z.al _)).mono ?_ | with_reducible refine (zToE (z.al _).drew).mono ?_ | with_reducible refine (zToE (z.drew.al _)).mono ?_); rintro e v2 ⟨rfl, z⟩)
        | (go_at_call 13; (first | with_reducible refine (zPost z (HIP.out _ _ z.now)).mono ?_ | with_reducible refine (zPost z.drew (HIP.out _ _ z.drew.now)).mono ?_ | with_reducible refine (zPost (z.al _) (HIP.out _ _ (z.al _).now)).mono ?_ | with_reducible refine (zPost (z.al _).drew (HIP.out _ _ (z.al _).drew.now)).mono ?_ | with_reducible refine (zPost (z.drew.al _) (HIP.out _ _ (z.drew.al _).now)).mono ?_); rintro e v3 ⟨a3, k3, rfl, o3, z0, z⟩; (first | (have HF : Hid (∀ t, LB V L v3.heap.size a3 k3 (v3.alloc (.cells #[.slice a3 L.length k3] t))) := (fun t => LB.new o3 z0 z)) | (have HF : Hid _ := LB.set o3 z0 z; obtain ⟨_, _, n0, n1⟩ := z.box _ rfl)); clear o3 z0)))
      all_goals
        go_wp2_with fail
        go_meet
        first
          | exact ⟨_, _, _, rfl, rfl, HF.out _⟩
          | exact ⟨_, _, _, rfl, rfl, HF.out⟩
    case rest =>
      obtain ⟨B4, a4, k4, rfl, rfl, P4⟩ := hcut
      obtain ⟨u4, hu⟩ : ∃ x, x = wc := ⟨_, rfl⟩
      subst hu
      have HP4 : Hid (LC V.heap.size L B4 a4 k4 u4) := P4.lc
      replace HP2 : Hid (LC u1.heap.size L B2 a2 k2 u4) := HP2.out.below P4.bel
      replace HO3 : Hid (u4.ownsRow u2.heap.size 76 3 (.slice (some ⟨g3, 0, none⟩) ls.length ls.length) ls.length (lcells ls)) := keepL HO3.out P4.bel
      replace HX3 : Hid (u4.cell? ⟨u3.heap.size, 0, none⟩ = some (.slice (some ⟨g3, 0, none⟩) ls.length ls.length)) := keep1 HX3.out P4.bel
      have HE4 : Hid (LE w.heap.size b0 cap0 ls.length a b c m u4) := HE3.out.below P4.bel
      have q4 := next q3 P4.bel
      have HB4 : Hid (V.heap.size ≤ B4) := P4.ge
      have HN4 : Hid (∀ g, (Value.slice a4 L.length k4).ownBlock = some g → g ≠ B4) := P4.ne
      have HX4 : Hid (∀ g, (Value.slice a4 L.length k4).ownBlock = some g → V.heap.size ≤ g) := fun g hg => (P4.own.lt g hg).1
      have c4 := P4.c0
      have c2 := HP2.out.c0
      have hnq : (ok != ok) = false := by simp
      clear P4 x3 e0 e1 e2 e3 z HE3 q3
      go_wp2_with fail
      refine (eqLedger_same _ _ _ _ _ _ HP4.out.lines HP2.out.lines (by omega)).mono ?_
      rintro e u5 ⟨rfl, b5⟩
      replace HP4 : Hid (LC V.heap.size L B4 a4 k4 u5) := HP4.out.below b5
      replace HP2 : Hid (LC u1.heap.size L B2 a2 k2 u5) := HP2.out.below b5
      replace HO3 : Hid (u5.ownsRow u2.heap.size 76 3 (.slice (some ⟨g3, 0, none⟩) ls.length ls.length) ls.length (lcells ls)) := keepL HO3.out b5
      replace HX3 : Hid (u5.cell? ⟨u3.heap.size, 0, none⟩ = some (.slice (some ⟨g3, 0, none⟩) ls.length ls.length)) := keep1 HX3.out b5
      have HE5 : Hid (LE w.heap.size b0 cap0 ls.length a b c m u5) := HE4.out.below b5
      have q5 := next q4 b5
      have x3 : u5.cell? ⟨u3.heap.size, 0, none⟩ = some (.slice (some ⟨g3, 0, none⟩) ls.length ls.length) := HX3.out
      have l0 := HE5.out.l0
      have HZ5 : Hid (LinesAt u5 b0 ls) := HZ.out.below q5
      clear b5 c4 c2 HE4 q4
      go_upto_region 10 with fail
      go_region_held3 (fun u => u.cell? ⟨u3.heap.size, 0, none⟩ = some (.slice (some ⟨g3, 0, none⟩) ls.length ls.length) ∧ u.cell? ⟨w.heap.size, 0, none⟩ = some (.slice b0 ls.length cap0)) (first | exact ⟨x3, l0⟩ | exact ⟨keep1 HX3.out b8, keep1 HE5.out.l0 b8⟩ | exact ⟨keep1 HX3.out b7, keep1 HE5.out.l0 b7⟩) ((first
        | (go_at_call 24; refine (toLedger_any _ _ _ _ (HZ5.out.below ((Below.refl _ _).drew)) hn).mono ?_; rintro e u6 ⟨g6, rfl, o6, b6⟩; have b7 : Below u5.heap.size u5 u6 := ((Below.refl _ _).drew).trans b6)
        | (go_at_call 25; refine (eqLedger_same _ _ _ _ _ _ ((lines_any HO3.out).below b7) (lines_any o6) (by omega)).mono ?_; rintro e u7 ⟨rfl, b7'⟩; have b8 : Below u5.heap.size u5 u7 := next b7 b7')))
      all_goals
        replace HP4 : Hid (LC V.heap.size L B4 a4 k4 u7) := HP4.out.below b8
        replace HP2 : Hid (LC u1.heap.size L B2 a2 k2 u7) := HP2.out.below b8
        replace HO3 : Hid (u7.ownsRow u2.heap.size 76 3 (.slice (some ⟨g3, 0, none⟩) ls.length ls.length) ls.length (lcells ls)) := keepL HO3.out b8
        have HE7 : Hid (LE w.heap.size b0 cap0 ls.length a b c m u7) := HE5.out.below b8
        have q7 := next q5 b8
        have x7 := keep1 HX3.out b8
        clear b6 b7 b7' b8 o6 HX3 HZ5 x3 l0 HE5 q5
        go_wp2_with fail
        refine (markLedger_any _ _ _ 1 _ _ HO3.out (by omega) (by omega)).mono ?_
        rintro e u8 ⟨rfl, o8, gr8⟩
        have gr8' : u7.grownBy u8 (some g3) := gr8
        have hg3 := HG3.out
        have hvs := HVS.out
        have hu2 := HU2.out
        have hs1 := HS1.out
        have hb4 := HB4.out
        replace HP4 : Hid (LC V.heap.size L B4 a4 k4 u8) := HP4.out.grown gr8' (by simp; omega) (fun x hx e => by have := HX4.out x hx; cases e; omega)
        replace HP2 : Hid (LC u1.heap.size L B2 a2 k2 u8) := HP2.out.grown gr8' (by have := HB2.out; simp; omega) (fun x hx e => by have := HX2.out x hx; cases e; omega)
        have HE8 : Hid (LE w.heap.size b0 cap0 ls.length a b c m u8) := HE7.out.grown gr8' (fun x hx => by cases hx; omega)
        have q8 : Below w.heap.size w u8 := q7.grown gr8' q7.size (fun x hx => by cases hx; omega)
        have c4 := HP4.out.c0
        have c2 := HP2.out.c0
        clear gr8 gr8' o8 HO3 x7 HE7 q7 hg3 hvs hu2 hs1 hb4
        go_wp2_with fail
        refine (eqLedger_same _ _ _ _ _ _ HP4.out.lines HP2.out.lines (by omega)).mono ?_
        rintro e u9 ⟨rfl, b9⟩
        replace HP4 : Hid (LC V.heap.size L B4 a4 k4 u9) := HP4.out.below b9
        replace HP2 : Hid (LC u1.heap.size L B2 a2 k2 u9) := HP2.out.below b9
        have HE9 : Hid (LE w.heap.size b0 cap0 ls.length a b c m u9) := HE8.out.below b9
        have q9 := next q8 b9
        have c9 := HP4.out.c0
        clear b9 c4 c2 HE8 q8
        go_wp2_with fail
        refine (markLedger_any _ _ _ 1 _ _ HP4.out.own (by omega) (by omega)).mono ?_
        rintro e u10 ⟨rfl, o10, gr10⟩
        obtain ⟨mm, hmm⟩ : ∃ m, 1 + 3 * L.length = m := ⟨_, rfl⟩
        rw [hmm]
        have HMM : Hid _ := hmm
        have hml : mm ≤ 5000000 := by omega
        clear hmm
        have hg3 := HG3.out
        have hvs := HVS.out
        have hu2 := HU2.out
        have hs1 := HS1.out
        replace HP2 : Hid (LC u1.heap.size L B2 a2 k2 u10) := HP2.out.grown gr10 (fun e => by have := HX4.out _ e.symm; have := HB2.out; omega) (fun x hx e => by have := HX4.out _ e.symm; have := HX2.out x hx; omega)
        have HE10 : Hid (LE w.heap.size b0 cap0 ls.length a b c m u10) := HE9.out.grown gr10 (fun x hx => by have := HX4.out _ hx; omega)
        have q10 : Below w.heap.size w u10 := q9.grown gr10 q9.size (fun x hx => by have := HX4.out _ hx; omega)
        have c10 := (gr10.cell_far ⟨B4, 0, none⟩ (World.block_lt_of_cell? u9 _ c9) (fun e => HN4.out _ e.symm rfl)).trans c9
        have F10 : Hid (LinesAt u10 a4 (mkL 1 L.length)) := lines_mark o10
        have HC10 : Hid (u10.cell? ⟨B4, 0, none⟩ = some (.slice a4 L.length k4)) := c10
        clear gr10 o10 HP4 HE9 q9 c9 hg3 hvs hu2 hs1
        go_wp2_with fail
        refine (heldLedger_any _ _ _ 1 _ F10.out (by omega) (by omega)).mono ?_
        rintro e u11 ⟨rfl, b11⟩
        rw [HMM.out]
        replace HP2 : Hid (LC u1.heap.size L B2 a2 k2 u11) := HP2.out.below b11
        replace F10 : Hid (LinesAt u11 a4 (mkL 1 L.length)) := F10.out.below b11
        have HE11 : Hid (LE w.heap.size b0 cap0 ls.length a b c m u11) := HE10.out.below b11
        replace HC10 : Hid (u11.cell? ⟨B4, 0, none⟩ = some (.slice a4 L.length k4)) := keep1 HC10.out b11
        have q11 := next q10 b11
        have HZ11 : Hid (LinesAt u11 b0 ls) := HZ.out.below q11
        have hnm : ((mm : Int) != (mm : Int)) = false := by simp
        obtain ⟨l0, e0, e1, e2, e3⟩ := HE11.out
        clear b11 c10 HE10 q10
        go_upto_region 24 with fail
        have z : ZB u11 u11 none (fun _ => True) := ZB.start (fun _ _ => trivial)
        go_cut [14, 15] (fun v6 v7 wc => ∃ B ao k, v6 = .pointer (some ⟨B, 0, none⟩) ∧ v7 = .bool ok ∧ LB u11 L B ao k wc)
        case first =>
          go_region_held3 (fun u => u.cell? ⟨w.heap.size, 0, none⟩ = some (.slice b0 ls.length cap0) ∧ u.cell? ⟨w.heap.size + 1, 0, none⟩ = some (.int .i64 a) ∧ u.cell? ⟨w.heap.size + 1, 1, none⟩ = some (.int .i64 b) ∧ u.cell? ⟨w.heap.size + 1, 2, none⟩ = some (.int .i64 c) ∧ u.cell? ⟨w.heap.size + 1, 3, none⟩ = some (.int .i64 m)) (first | exact ⟨l0, e0, e1, e2, e3⟩ | exact le5 (HE11.out.below z.bel) | exact le5 (HE11.out.below z.drew.bel) | exact le5 (HE11.out.below (z.al _).bel) | exact le5 (HE11.out.below (z.al _).drew.bel) | exact le5 (HE11.out.below (z.drew.al _).bel) | exact le5 (HE11.out.below (HF.out _).bel) | exact le5 (HE11.out.below HF.out.bel)) ((first
            | (go_at_call 24; (first | with_reducible refine (zToL HZ11.out hn z).mono ?_ | with_reducible refine (zToL HZ11.out hn z.drew).mono ?_ | with_reducible refine (zToL HZ11.out hn (z.al _)).mono ?_ | with_reducible refine (zToL HZ11.out hn (z.al _).drew).mono ?_ | with_reducible refine (zToL HZ11.out hn (z.drew.al _)).mono ?_); rintro e v1 ⟨g1, rfl, z⟩)
            | (go_at_call 26; (first | with_reducible refine (zToE z).mono ?_ | with_reducible refine (zToE z.drew).mono ?_ | with_reducible refine (zToE (z.al _)).mono ?_ | with_reducible refine (zToE (z.al _).drew).mono ?_ | with_reducible refine (zToE (z.drew.al _)).mono ?_); rintro e v2 ⟨rfl, z⟩)
            | (go_at_call 13; (first | with_reducible refine (zPost z (HIP.out _ _ z.now.2)).mono ?_ | with_reducible refine (zPost z.drew (HIP.out _ _ z.drew.now.2)).mono ?_ | with_reducible refine (zPost (z.al _) (HIP.out _ _ (z.al _).now.2)).mono ?_ | with_reducible refine (zPost (z.al _).drew (HIP.out _ _ (z.al _).drew.now.2)).mono ?_ | with_reducible refine (zPost (z.drew.al _) (HIP.out _ _ (z.drew.al _).now.2)).mono ?_); rintro e v3 ⟨a3, k3, rfl, o3, z0, z⟩; (first | (have HF : Hid (∀ t, LB u11 L v3.heap.size a3 k3 (v3.alloc (.cells #[.slice a3 L.length k3] t))) := (fun t => LB.new o3 z0 z)) | (have HF : Hid _ := LB.set o3 z0 z; obtain ⟨_, _, n0, n1⟩ := z.box _ rfl)); clear o3 z0)))
          all_goals
            go_wp2_with fail
            go_meet
            first
              | exact ⟨_, _, _, rfl, rfl, HF.out _⟩
              | exact ⟨_, _, _, rfl, rfl, HF.out⟩
        case rest =>
          obtain ⟨B12, a12, k12, rfl, rfl, P12⟩ := hcut
          obtain ⟨u12, hu⟩ : ∃ x, x = wc := ⟨_, rfl⟩
          subst hu
          have HP12 : Hid (LC u11.heap.size L B12 a12 k12 u12) := P12.lc
          replace HP2 : Hid (LC u1.heap.size L B2 a2 k2 u12) := HP2.out.below P12.bel
          replace F10 : Hid (LinesAt u12 a4 (mkL 1 L.length)) := F10.out.below P12.bel
          replace HC10 : Hid (u12.cell? ⟨B4, 0, none⟩ = some (.slice a4 L.length k4)) := keep1 HC10.out P12.bel
          have q12 := next q11 P12.bel
          have c12 := P12.c0
          have c2 := HP2.out.c0
          clear P12 l0 e0 e1 e2 e3 z q11
          go_wp2_with fail
          refine (eqLedger_same _ _ _ _ _ _ HP12.out.lines HP2.out.lines (by omega)).mono ?_
          rintro e u13 ⟨rfl, b13⟩
          replace F10 : Hid (LinesAt u13 a4 (mkL 1 L.length)) := F10.out.below b13
          have c13 := keep1 HC10.out b13
          have q13 := next q12 b13
          clear b13 c12 c2 q12
          go_wp2_with fail
          refine (heldLedger_any _ _ _ 1 _ F10.out (by omega) (by omega)).mono ?_
          rintro e u14 ⟨rfl, b14⟩
          rw [HMM.out]
          have q14 := next q13 b14
          clear b14 q13
          go_wp2
          go_ret
          exact ⟨rfl, q14⟩

set_option maxRecDepth 100000 in
theorem lifted (os : Os) (started : os.Started) (H : Type) (enc : TypeId × Value → H) :
    ReturnsInHanded {} Try.checked os 7 .any (Rows.fnExactPostSpec.pre6 enc Try.prog Try.f7 Rows.fnExactPostRow.domain false) (Rows.fnExactPostSpec.post enc Try.prog Try.f7 false true false false) := by
  refine returnsInHanded_of_change (C := Try.checked) own started (by kernel_rfl) Try.func7
    (ChangeSpec.witness6 (enc := enc) (C := Try.checked) false ⟨#[], #[.agg #[.slice none 0 0], .agg #[.int .i64 0, .int .i64 0, .int .i64 0, .int .i64 0]], []⟩ 8 (by kernel_rfl) (by kernel_rfl) (by kernel_rfl) (by kernel_rfl)) ?_
  intro W base args ds gs before hval0 hW hcnd _
  have hval : ∀ (j : Nat) t v, Try.f7.params[j]? = some t → args[j]? = some v → Value.okWide Try.prog W .any base t v := hval0
  have hW' := hW
  obtain ⟨p, q, hA0, hV, rfl, hfz, hnd⟩ := hW
  have hA : DataW.TrodAll enc Try.prog W 0 (fun _ => true) true Try.f7.params.toList args.toList ds p := hA0
  rw [Try.params7] at hA hval
  obtain ⟨v0, vs0, d0, ds0, p0, q0, hargs, rfl, rfl, h0, r0⟩ := trodAll_cons hA
  obtain ⟨v1, vs1, d1, ds1, p1, q1, rfl, rfl, rfl, h1, r1⟩ := trodAll_cons r0
  obtain ⟨rfl, rfl, rfl⟩ := trodAll_nil r1
  obtain rfl : args = #[v0, v1] := by cases args; simp_all
  obtain ⟨rfl, rfl⟩ := trodVars_none hV
  have k0 := h0
  have lt0 : ∀ x ∈ p0, x.block < W.heap.size := by obtain ⟨m, hm⟩ := k0; exact DataW.trod_lt m _ _ _ hm
  obtain ⟨b0, cap0, ls0, rfl, w0⟩ := is_ledger Try.underlying42 (by kernel_rfl) rfl (by kernel_rfl) Try.underlying40 Try.underlying101 (by kernel_rfl) rfl rfl rfl (by kernel_rfl) (by kernel_rfl) (by kernel_rfl) Try.underlying3 Try.underlying3 Try.underlying3 (hval 0 42 v0 rfl rfl) h0
  have k1 := h1
  have lt1 : ∀ x ∈ p1, x.block < W.heap.size := by obtain ⟨m, hm⟩ := k1; exact DataW.trod_lt m _ _ _ hm
  obtain ⟨a1, b1, c1, m1, rfl, w1⟩ := is_entry Try.underlying46 (by kernel_rfl) rfl rfl rfl rfl (by kernel_rfl) (by kernel_rfl) (by kernel_rfl) (by kernel_rfl) Try.underlying3 Try.underlying3 Try.underlying3 Try.underlying3 (hval 1 46 v1 rfl rfl) h1
  clear hA0 hval0
  refine (walk b0 cap0 ls0 a1 b1 c1 m1 W w0 w1).mono fun e W' ⟨he, bel⟩ => ?_
  subst he
  exact ⟨_, rfl, _, _, _, [], _, [], hW', trodAll_mk1 (shut_bool Try.underlying4 _), (trodAll_cons_mk (Below.trod laidOut (by kernel_rfl) (of_decide_eq_true (by kernel_rfl)) k0 bel lt0) (trodAll_cons_mk (Below.trod laidOut (by kernel_rfl) (of_decide_eq_true (by kernel_rfl)) k1 bel lt1) trodAll_mk0)), rfl, bel.frame _, fun h => by cases h⟩

theorem proved : Rows.FnExactPostSaid :=
  OpenClaim.holds_of_wide 7 Try.f7 rfl rfl rfl rfl rfl rfl rfl ⟨rfl, rfl, rfl, rfl, rfl⟩ rfl rfl rfl rfl rfl (by kernel_rfl) Try.func7 (by kernel_rfl)
    (of_decide_eq_true (by kernel_rfl)) (by unfold Func.isWrapper; first | (rw [if_pos (by decide +kernel)]; kernel_rfl) | (rw [if_neg (by decide +kernel)]; exact ⟨rfl, rfl⟩))
    (fun os started H enc _ => lifted os started H enc)
end Go.Proofs.Ytcaepfomhcmfpaa.fnExactPost
