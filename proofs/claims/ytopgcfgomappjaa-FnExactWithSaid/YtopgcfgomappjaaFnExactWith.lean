/- Proved: at every message (of at most 1048576 fields and bytes of data together), every number and every text of at most 1048576 bytes (greater ones pass by the law's own first tests) the program's With answers as the specification's, every field and the flag; it leaves its argument as it was; its answer owns its memory, behind another call too. No other conditions. -/
import Derived.Test.YtopgcfgomappjaaBase
import Derived.Test.YtopgcfgomappjaaSWith
import Derived.Test.YtopgcfgomappjaaFWithY
import Derived.Test.YtopgcfgomappjaaMarkF
import Derived.Deep.DeepCutAuto
namespace Go.Proofs.Ytopgcfgomappjaa.fnExactWith
open Go.ChangeShapes Go.WideShapes Go.ChangeAt Go.RowKit
open Go.ChangeMaps (open_string shut_string)

theorem far2 {w u : World} {b : Nat} {x y : Value} {row : Option Nat} (h0 : w.cell? ⟨b, 0, none⟩ = some x) (h1 : w.cell? ⟨b, 1, none⟩ = some y) (k : w.grownBy u row) (hne : some b ≠ row) :
    u.cell? ⟨b, 0, none⟩ = some x ∧ u.cell? ⟨b, 1, none⟩ = some y :=
  have hb : b < w.heap.size := World.block_lt_of_cell? w _ h0
  ⟨(k.cell_far ⟨b, 0, none⟩ hb hne).trans h0, (k.cell_far ⟨b, 1, none⟩ hb hne).trans h1⟩
theorem flds_any {w : World} {base n : Nat} {t : TypeId} {ao : Option Addr} {cap : Nat} {fs : List Fld} (h : w.ownsRow base t 2 (.slice ao fs.length cap) n (fcells fs)) : FldsAt w ao fs := by
  obtain ⟨ao', cap', hv, hf, _⟩ := flds_of_own' h
  obtain ⟨rfl, _⟩ : ao = ao' ∧ cap = cap' := by simpa using hv
  exact hf
theorem flds_mark {w : World} {base n : Nat} {t : TypeId} {ao : Option Addr} {cap : Nat} (h : w.ownsRow base t 2 (.slice ao n cap) n (fcells (mkF 1 n))) : FldsAt w ao (mkF 1 n) := by
  obtain ⟨ao', cap', hv, hf, _⟩ := flds_of_own' h
  obtain ⟨rfl, _⟩ : ao = ao' ∧ n = (mkF 1 n).length ∧ cap = cap' := by simpa using hv
  exact hf
theorem ne_row {w : World} {base n G : Nat} {t : TypeId} {size : Nat} {v : Value} {xs : List Value} (h : w.ownsRow base t size v n xs) (hG : G < base) : ∀ x, v.ownBlock = some x → x ≠ G := by
  intro x hx
  have := (h.lt x hx).1
  omega

set_option maxRecDepth 100000 in
set_option maxHeartbeats 6400000 in
theorem walk (a0 : Int) (b0 : Option Addr) (cap0 : Nat) (fs : List Fld) (a1 : Int) (a2 : ByteArray) (w : World) (w0 : FldsAt w b0 fs ∧ FldsBd fs) (_w1 : (Lit.int .i64 a1).wf = true) (_w2 : a2.size ≤ maxLen) :
    Calls Try.prog 6 #[.agg #[.int .i64 a0, .slice b0 fs.length cap0], .int .i64 a1, .string a2] w fun e w' => e = .returned (.bool true) ∧ Below w.heap.size w w' := by
  obtain ⟨hz, hd⟩ := w0
  obtain ⟨d, rfl⟩ : ∃ l : List UInt8, a2 = ⟨l.toArray⟩ := ⟨_, ba_list a2⟩
  clear _w1 _w2
  have bel1 : Below w.heap.size w (w.alloc (.cells #[.int .i64 a0, .slice b0 fs.length cap0] 31)) := (Below.refl _ _).alloc (Nat.le_refl _) _
  by_cases hbig : (1048576 : Int) < (d.length : Int)
  · go_enter Try.func6, Try.ntmps6
    go_wp2
    go_ret
    exact ⟨rfl, bel1⟩
  have hz1 := hz.below bel1
  by_cases hneg : leftM fs 1048576 < 0
  · go_enter Try.func6, Try.ntmps6
    go_wp2_with fail
    refine (szMessage_any _ _ _ _ _ hz1 hd).mono ?_
    rintro e u1 ⟨rfl, b1⟩
    have bel := (box2 b1).2.2.1
    clear b1 hz1 bel1 hz hd
    generalize leftM fs 1048576 = r at hneg
    go_wp2
    go_ret
    exact ⟨rfl, bel⟩
  · have hsum := leftM_sum (show 0 ≤ leftM fs 1048576 by omega)
    have hn : fs.length ≤ 1048576 := by omega
    have hs : sumF fs ≤ 1048576 := by omega
    have hl : d.length ≤ 1099511627776 := by omega
    have hLL := withL_len a0 fs a1 d
    have hme := msgEq_self a0 (withL a0 fs a1 d)
    have hme2 := msgEq_self a0 fs
    clear hsum
    go_enter Try.func6, Try.ntmps6
    go_wp2_with fail
    refine (szMessage_any _ _ _ _ _ hz1 hd).mono ?_
    rintro e u1 ⟨rfl, b1⟩
    obtain ⟨c0, c1, q1, hlt1⟩ := box2 b1
    have z1 := hz.below q1
    clear b1 hz1 bel1 hd
    obtain ⟨r, hr⟩ : ∃ r, leftM fs 1048576 = r := ⟨_, rfl⟩
    rw [hr] at hneg ⊢
    clear hr
    go_wp2_with fail
    refine (toMessage_any _ _ _ _ _ z1 hn).mono ?_
    rintro e u2 ⟨g2, rfl, o2, b2⟩
    have tt := keep2 c0 c1 b2
    clear c0 c1
    obtain ⟨c0, c1⟩ := tt
    have q2 := next q1 b2
    clear b2 q1
    go_wp2_with fail
    refine (sWith_any _ _ _ _ _ _ _ _ (flds_of_own o2) hn hs hl).mono ?_
    rintro e u3 ⟨ao3, cap3, rfl, o3, b3⟩
    have tt := keep2 c0 c1 b3
    clear c0 c1
    obtain ⟨c0, c1⟩ := tt
    have q3 := next q2 b3
    have z3 := hz.below q3
    clear b3 o2 q2 z1
    have hs3 : w.heap.size < u3.heap.size := World.block_lt_of_cell? u3 _ c0
    obtain ⟨L, hLE⟩ : ∃ L, withL a0 fs a1 d = L := ⟨_, rfl⟩
    obtain ⟨ok, hOE⟩ : ∃ ok, withOk a0 fs a1 d = ok := ⟨_, rfl⟩
    rw [hLE] at o3 hLL hme ⊢
    rw [hOE]
    have HLE : Hid _ := hLE
    have HOE : Hid _ := hOE
    have HO3 : Hid (u3.ownsRow u2.heap.size 26 2 (.slice ao3 L.length cap3) L.length (fcells L)) := o3
    have H3B : Hid (∀ x, (Value.slice ao3 L.length cap3).ownBlock = some x → x < u3.heap.size) := fun x hx => (o3.lt x hx).2
    clear hLE hOE o3
    have bx3 : Below u3.heap.size u3 (u3.alloc (.cells #[.int .i64 a0, .slice ao3 L.length cap3] 36)) := by go_grown
    have cF0 := (bx3.cell (p := ⟨w.heap.size, 0, none⟩) hs3).trans c0
    have cF1 := (bx3.cell (p := ⟨w.heap.size, 1, none⟩) hs3).trans c1
    go_wp2_with fail
    refine (toMessage_any _ _ _ _ _ (z3.below bx3) hn).mono ?_
    rintro e u4 ⟨gx, rfl, o4, b4⟩
    obtain ⟨e0, e1, q34, hs4⟩ := box2 b4
    have tt := keep2 c0 c1 q34
    clear c0 c1
    obtain ⟨c0, c1⟩ := tt
    have q4 := next q3 q34
    have z4 := hz.below q4
    replace HO3 : Hid (u4.ownsRow u2.heap.size 26 2 (.slice ao3 L.length cap3) L.length (fcells L)) := keepRow HO3.out q34
    have hgx := o4.lt gx rfl
    simp only [World.size_alloc] at hgx o4
    have HO4 : Hid (u4.ownsRow (u3.heap.size + 1) 26 2 (.slice (some ⟨gx, 0, none⟩) fs.length fs.length) fs.length (fcells fs)) := o4
    clear b4 bx3 cF0 cF1 q34 q3 z3 o4
    have bx4 : Below u4.heap.size u4 (u4.alloc (.cells #[.int .i64 a0, .slice (some ⟨gx, 0, none⟩) fs.length fs.length] 36)) := by go_grown
    go_wp2_with fail
    refine (iWith_any _ _ _ _ _ _ _ ((flds_of_own HO4.out).below bx4) hn hs hl).mono ?_
    rintro e u5 ⟨ao5, cap5, rfl, o5, b5⟩
    rw [HLE.out] at o5 ⊢
    rw [HOE.out]
    obtain ⟨x0, x1, q45, hs5⟩ := box2 b5
    have tt := keep2 c0 c1 q45
    clear c0 c1
    obtain ⟨c0, c1⟩ := tt
    have tt := keep2 e0 e1 q45
    clear e0 e1
    obtain ⟨e0, e1⟩ := tt
    have q5 := next q4 q45
    replace HO3 : Hid (u5.ownsRow u2.heap.size 26 2 (.slice ao3 L.length cap3) L.length (fcells L)) := keepRow HO3.out q45
    replace HO4 : Hid (u5.ownsRow (u3.heap.size + 1) 26 2 (.slice (some ⟨gx, 0, none⟩) fs.length fs.length) fs.length (fcells fs)) := keepRow HO4.out q45
    simp only [World.size_alloc] at o5
    have HO5 : Hid (u5.ownsRow (u4.heap.size + 1) 26 2 (.slice ao5 L.length cap5) L.length (fcells L)) := o5
    have H5B : Hid (∀ x, (Value.slice ao5 L.length cap5).ownBlock = some x → u4.heap.size + 1 ≤ x ∧ x < u5.heap.size) := fun x hx => o5.lt x hx
    clear b5 bx4 q45 q4 z4 o5
    have bx5 : Below u5.heap.size u5 (u5.alloc (.cells #[.int .i64 a0, .slice ao5 L.length cap5] 36)) := by go_grown
    have eF0 := (bx5.cell (p := ⟨u3.heap.size, 0, none⟩) (World.block_lt_of_cell? u5 _ e0)).trans e0
    have eF1 := (bx5.cell (p := ⟨u3.heap.size, 1, none⟩) (World.block_lt_of_cell? u5 _ e1)).trans e1
    go_wp2_with fail
    refine (eqMessage_any _ _ _ _ _ _ _ _ _ ((flds_any HO5.out).below bx5) ((flds_any HO3.out).below bx5) (by omega) (by omega)).mono ?_
    rintro e u6 ⟨rfl, b6⟩
    rw [hme]
    obtain ⟨g0, g1, q56, hs6⟩ := box2 b6
    have tt := keep2 c0 c1 q56
    clear c0 c1
    obtain ⟨c0, c1⟩ := tt
    have tt := keep2 e0 e1 q56
    clear e0 e1
    obtain ⟨e0, e1⟩ := tt
    have tt := keep2 x0 x1 q56
    clear x0 x1
    obtain ⟨x0, x1⟩ := tt
    have q6 := next q5 q56
    replace HO3 : Hid (u6.ownsRow u2.heap.size 26 2 (.slice ao3 L.length cap3) L.length (fcells L)) := keepRow HO3.out q56
    replace HO4 : Hid (u6.ownsRow (u3.heap.size + 1) 26 2 (.slice (some ⟨gx, 0, none⟩) fs.length fs.length) fs.length (fcells fs)) := keepRow HO4.out q56
    replace HO5 : Hid (u6.ownsRow (u4.heap.size + 1) 26 2 (.slice ao5 L.length cap5) L.length (fcells L)) := keepRow HO5.out q56
    have z6 := hz.below q6
    have f6 := flds_of_own HO4.out
    clear b6 bx5 q56 q5 eF0 eF1
    go_upto_region 12 with fail
    go_cut [56] (fun v wc => v = .bool false ∧ Below u6.heap.size u6 wc)
    case first =>
      go_region_with (first
        | (go_at_call 13; refine (toMessage_any _ _ _ _ _ (z6.below ((Below.refl _ _).drew)) hn).mono ?_; rintro e u7 ⟨g7, rfl, o7, b7⟩; have q67 : Below u6.heap.size u6 u7 := ((Below.refl _ _).drew).trans b7; obtain ⟨j0, j1⟩ := keep2 x0 x1 q67)
        | (go_at_call 15; refine (eqMessage_any _ _ _ _ _ _ _ _ _ (f6.below q67) (flds_of_own o7) (by omega) (by omega)).mono ?_; rintro e u8 ⟨rfl, b8⟩; rw [hme2]))
      all_goals
        go_wp2_with fail
        go_meet
        exact ⟨rfl, next q67 b8⟩
    case rest =>
      obtain ⟨rfl, q68⟩ := hcut
      obtain ⟨u8, hu8⟩ : ∃ x, x = wc := ⟨_, rfl⟩
      subst hu8
      have tt := keep2 c0 c1 q68
      clear c0 c1
      obtain ⟨c0, c1⟩ := tt
      have tt := keep2 e0 e1 q68
      clear e0 e1
      obtain ⟨e0, e1⟩ := tt
      have tt := keep2 x0 x1 q68
      clear x0 x1
      obtain ⟨x0, x1⟩ := tt
      have tt := keep2 g0 g1 q68
      clear g0 g1
      obtain ⟨g0, g1⟩ := tt
      have q8 := next q6 q68
      replace HO3 : Hid (u8.ownsRow u2.heap.size 26 2 (.slice ao3 L.length cap3) L.length (fcells L)) := keepRow HO3.out q68
      replace HO4 : Hid (u8.ownsRow (u3.heap.size + 1) 26 2 (.slice (some ⟨gx, 0, none⟩) fs.length fs.length) fs.length (fcells fs)) := keepRow HO4.out q68
      replace HO5 : Hid (u8.ownsRow (u4.heap.size + 1) 26 2 (.slice ao5 L.length cap5) L.length (fcells L)) := keepRow HO5.out q68
      have hb4 : u4.heap.size < u8.heap.size := World.block_lt_of_cell? u8 _ x0
      have hb5 : u5.heap.size < u8.heap.size := World.block_lt_of_cell? u8 _ g0
      clear q68 q6 z6 f6
      go_wp2_with fail
      refine (markMessage_any a0 _ _ _ 1 _ _ HO4.out (by omega) (by omega)).mono ?_
      rintro e u9 ⟨rfl, o9, gr9⟩
      have gr9' : u8.grownBy u9 (some gx) := gr9
      have tt := far2 c0 c1 gr9' (by simp; omega)
      clear c0 c1
      obtain ⟨c0, c1⟩ := tt
      have tt := far2 e0 e1 gr9' (by simp; omega)
      clear e0 e1
      obtain ⟨e0, e1⟩ := tt
      have tt := far2 g0 g1 gr9' (by simp; omega)
      clear g0 g1
      obtain ⟨g0, g1⟩ := tt
      have q9 : Below w.heap.size w u9 := q8.grown gr9' q8.size (fun k hk => by simp at hk; omega)
      replace HO3 : Hid (u9.ownsRow u2.heap.size 26 2 (.slice ao3 L.length cap3) L.length (fcells L)) := by
        refine HO3.out.kept gr9' (.inr ?_)
        intro hh
        exact absurd (H3B.out gx hh) (by omega)
      replace HO5 : Hid (u9.ownsRow (u4.heap.size + 1) 26 2 (.slice ao5 L.length cap5) L.length (fcells L)) := by
        refine HO5.out.kept gr9' (.inr ?_)
        intro hh
        exact absurd rfl (ne_row HO5.out (by omega) gx hh)
      clear gr9 gr9' o9 q8 x0 x1 HO4
      go_wp2_with fail
      refine (eqMessage_any _ _ _ _ _ _ _ _ _ (flds_any HO5.out) (flds_any HO3.out) (by omega) (by omega)).mono ?_
      rintro e u10 ⟨rfl, b10⟩
      rw [hme]
      have tt := keep2 c0 c1 b10
      clear c0 c1
      obtain ⟨c0, c1⟩ := tt
      have tt := keep2 e0 e1 b10
      clear e0 e1
      obtain ⟨e0, e1⟩ := tt
      have tt := keep2 g0 g1 b10
      clear g0 g1
      obtain ⟨g0, g1⟩ := tt
      have q10 := next q9 b10
      replace HO3 : Hid (u10.ownsRow u2.heap.size 26 2 (.slice ao3 L.length cap3) L.length (fcells L)) := keepRow HO3.out b10
      replace HO5 : Hid (u10.ownsRow (u4.heap.size + 1) 26 2 (.slice ao5 L.length cap5) L.length (fcells L)) := keepRow HO5.out b10
      clear b10 q9
      go_wp2_with fail
      refine (markMessage_any a0 _ _ _ 1 _ _ HO5.out (by omega) (by omega)).mono ?_
      rintro e u11 ⟨rfl, o11, gr11⟩
      obtain ⟨mm, hmm⟩ : ∃ m, 1 + 2 * L.length = m := ⟨_, rfl⟩
      rw [hmm]
      have HMM : Hid _ := hmm
      clear hmm
      have hne5 : ∀ (bk : Nat), (bk < u4.heap.size + 1 ∨ u5.heap.size ≤ bk) → some bk ≠ (Value.slice ao5 L.length cap5).ownBlock := by
        intro bk hbk hh
        have := H5B.out bk hh.symm
        omega
      have tt := far2 c0 c1 gr11 (hne5 _ (by omega))
      clear c0 c1
      obtain ⟨c0, c1⟩ := tt
      have tt := far2 e0 e1 gr11 (hne5 _ (by omega))
      clear e0 e1
      obtain ⟨e0, e1⟩ := tt
      have tt := far2 g0 g1 gr11 (hne5 _ (by omega))
      clear g0 g1
      obtain ⟨g0, g1⟩ := tt
      have q11 : Below w.heap.size w u11 := q10.grown gr11 q10.size (fun k hk => by have := H5B.out k hk; omega)
      replace HO3 : Hid (u11.ownsRow u2.heap.size 26 2 (.slice ao3 L.length cap3) L.length (fcells L)) := by
        refine HO3.out.kept gr11 ?_
        by_cases hnn : (Value.slice ao3 L.length cap3).ownBlock = none
        · exact .inl hnn
        · right
          intro hh
          obtain ⟨x, hx⟩ := Option.ne_none_iff_exists'.1 hnn
          have h1 := H3B.out x hx
          have h2 := H5B.out x (hh ▸ hx)
          omega
      have F11 : Hid (FldsAt u11 ao5 (mkF 1 L.length)) := flds_mark o11
      clear gr11 o11 q10 HO5 hne5
      go_wp2_with fail
      refine (heldMessage_any a0 _ _ _ 1 _ F11.out (by omega) (by omega) (by omega)).mono ?_
      rintro e u12 ⟨rfl, b12⟩
      have tt := keep2 c0 c1 b12
      clear c0 c1
      obtain ⟨c0, c1⟩ := tt
      have tt := keep2 e0 e1 b12
      clear e0 e1
      obtain ⟨e0, e1⟩ := tt
      have tt := keep2 g0 g1 b12
      clear g0 g1
      obtain ⟨g0, g1⟩ := tt
      have q12 := next q11 b12
      replace HO3 : Hid (u12.ownsRow u2.heap.size 26 2 (.slice ao3 L.length cap3) L.length (fcells L)) := keepRow HO3.out b12
      replace F11 : Hid (FldsAt u12 ao5 (mkF 1 L.length)) := F11.out.below b12
      have z12 := hz.below q12
      clear b12 q11
      rw [HMM.out]
      go_wp2_with fail
      refine (toMessage_any _ _ _ _ _ z12 hn).mono ?_
      rintro e u13 ⟨g13, rfl, o13, b13⟩
      have tt := keep2 c0 c1 b13
      clear c0 c1
      obtain ⟨c0, c1⟩ := tt
      have tt := keep2 e0 e1 b13
      clear e0 e1
      obtain ⟨e0, e1⟩ := tt
      have tt := keep2 g0 g1 b13
      clear g0 g1
      obtain ⟨g0, g1⟩ := tt
      have q13 := next q12 b13
      replace HO3 : Hid (u13.ownsRow u2.heap.size 26 2 (.slice ao3 L.length cap3) L.length (fcells L)) := keepRow HO3.out b13
      replace F11 : Hid (FldsAt u13 ao5 (mkF 1 L.length)) := F11.out.below b13
      clear b13 q12 z12
      go_wp2_with fail
      refine (iWith_any _ _ _ _ _ _ _ (flds_of_own o13) hn hs hl).mono ?_
      rintro e u14 ⟨ao14, cap14, rfl, o14, b14⟩
      rw [HLE.out] at o14 ⊢
      rw [HOE.out]
      have tt := keep2 e0 e1 b14
      clear e0 e1
      obtain ⟨e0, e1⟩ := tt
      have tt := keep2 g0 g1 b14
      clear g0 g1
      obtain ⟨g0, g1⟩ := tt
      have q14 := next q13 b14
      replace HO3 : Hid (u14.ownsRow u2.heap.size 26 2 (.slice ao3 L.length cap3) L.length (fcells L)) := keepRow HO3.out b14
      replace F11 : Hid (FldsAt u14 ao5 (mkF 1 L.length)) := F11.out.below b14
      have bx14 : Below u14.heap.size u14 (u14.alloc (.cells #[.int .i64 a0, .slice ao14 L.length cap14] 36)) := by go_grown
      have eF0 := (bx14.cell (p := ⟨u3.heap.size, 0, none⟩) (World.block_lt_of_cell? u14 _ e0)).trans e0
      have eF1 := (bx14.cell (p := ⟨u3.heap.size, 1, none⟩) (World.block_lt_of_cell? u14 _ e1)).trans e1
      have HO14 : Hid (u14.ownsRow u13.heap.size 26 2 (.slice ao14 L.length cap14) L.length (fcells L)) := o14
      clear b14 q13 o13 c0 c1 o14
      go_wp2_with fail
      refine (eqMessage_any _ _ _ _ _ _ _ _ _ ((flds_any HO14.out).below bx14) ((flds_any HO3.out).below bx14) (by omega) (by omega)).mono ?_
      rintro e u15 ⟨rfl, b15⟩
      rw [hme]
      have q1415 : Below u14.heap.size u14 u15 := bx14.trans (b15.mono (by simp))
      have tt := keep2 g0 g1 q1415
      clear g0 g1
      obtain ⟨g0, g1⟩ := tt
      have q15 := next q14 q1415
      replace F11 : Hid (FldsAt u15 ao5 (mkF 1 L.length)) := F11.out.below q1415
      clear b15 q14 q1415 bx14 eF0 eF1 e0 e1 HO3 HO14
      go_wp2_with fail
      refine (heldMessage_any a0 _ _ _ 1 _ F11.out (by omega) (by omega) (by omega)).mono ?_
      rintro e u16 ⟨rfl, b16⟩
      rw [HMM.out]
      have q16 := next q15 b16
      clear b16 q15 F11 g0 g1
      go_wp2
      go_ret
      exact ⟨rfl, q16⟩

set_option maxRecDepth 100000 in
theorem lifted (os : Os) (started : os.Started) (H : Type) (enc : TypeId × Value → H) :
    ReturnsInHanded {} Try.checked os 6 .any (Rows.fnExactWithSpec.pre6 enc Try.prog Try.f6 Rows.fnExactWithRow.domain false) (Rows.fnExactWithSpec.post enc Try.prog Try.f6 false true false false) := by
  refine returnsInHanded_of_change (C := Try.checked) own started (by kernel_rfl) Try.func6
    (ChangeSpec.witness6 (enc := enc) (C := Try.checked) false ⟨#[], #[.agg #[.int .i64 0, .slice none 0 0], .int .i64 0, .string ByteArray.empty], []⟩ 8 (by kernel_rfl) (by kernel_rfl) (by kernel_rfl) (by kernel_rfl)) ?_
  intro W base args ds gs before hval0 hW hcnd _
  have hval : ∀ (j : Nat) t v, Try.f6.params[j]? = some t → args[j]? = some v → Value.okWide Try.prog W .any base t v := hval0
  have hW' := hW
  obtain ⟨p, q, hA0, hV, rfl, hfz, hnd⟩ := hW
  have hA : DataW.TrodAll enc Try.prog W 0 (fun _ => true) true Try.f6.params.toList args.toList ds p := hA0
  rw [Try.params6] at hA hval
  obtain ⟨v0, vs0, d0, ds0, p0, q0, hargs, rfl, rfl, h0, r0⟩ := trodAll_cons hA
  obtain ⟨v1, vs1, d1, ds1, p1, q1, rfl, rfl, rfl, h1, r1⟩ := trodAll_cons r0
  obtain ⟨v2, vs2, d2, ds2, p2, q2, rfl, rfl, rfl, h2, r2⟩ := trodAll_cons r1
  obtain ⟨rfl, rfl, rfl⟩ := trodAll_nil r2
  obtain rfl : args = #[v0, v1, v2] := by cases args; simp_all
  obtain ⟨rfl, rfl⟩ := trodVars_none hV
  have k0 := h0
  have lt0 : ∀ x ∈ p0, x.block < W.heap.size := by obtain ⟨m, hm⟩ := k0; exact DataW.trod_lt m _ _ _ hm
  obtain ⟨a0, b0, cap0, fs0, rfl, w0⟩ := is_message Try.underlying31 (by kernel_rfl) rfl rfl (by kernel_rfl) (by kernel_rfl) Try.underlying3 Try.underlying29 Try.underlying23 (by kernel_rfl) rfl rfl (by kernel_rfl) (by kernel_rfl) Try.underlying3 Try.underlying9 (hval 0 31 v0 rfl rfl) h0
  obtain ⟨a1, rfl, rfl, rfl, w1⟩ := open_int Try.underlying3 (hval 1 3 v1 rfl rfl) h1
  obtain ⟨a2, rfl, rfl, rfl, w2⟩ := open_string Try.underlying9 (hval 2 9 v2 rfl rfl) h2
  clear hA0 hval0
  refine (walk a0 b0 cap0 fs0 a1 a2 W w0 w1 w2).mono fun e W' ⟨he, bel⟩ => ?_
  subst he
  exact ⟨_, rfl, _, _, _, [], _, [], hW', trodAll_mk1 (shut_bool Try.underlying4 _), (trodAll_cons_mk (Below.trod laidOut (by kernel_rfl) (of_decide_eq_true (by kernel_rfl)) k0 bel lt0) (trodAll_cons_mk (shut_int Try.underlying3 w1) (trodAll_cons_mk (shut_string Try.underlying9 w2) trodAll_mk0))), rfl, bel.frame _, fun h => by cases h⟩

theorem proved : Rows.FnExactWithSaid :=
  OpenClaim.holds_of_wide 6 Try.f6 rfl rfl rfl rfl rfl rfl rfl ⟨rfl, rfl, rfl, rfl, rfl⟩ rfl rfl rfl rfl rfl (by kernel_rfl) Try.func6 (by kernel_rfl)
    (of_decide_eq_true (by kernel_rfl)) (by unfold Func.isWrapper; first | (rw [if_pos (by decide +kernel)]; kernel_rfl) | (rw [if_neg (by decide +kernel)]; exact ⟨rfl, rfl⟩))
    (fun os started H enc _ => lifted os started H enc)
end Go.Proofs.Ytopgcfgomappjaa.fnExactWith
