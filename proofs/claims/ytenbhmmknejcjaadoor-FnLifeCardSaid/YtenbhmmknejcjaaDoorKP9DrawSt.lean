/- What the laws on a case's life draw: the start of a case, acts, and days that pass ahead of each. -/
import Derived.Test.YtenbhmmknejcjaaDoorJP913a
import Derived.Test.YtenbhmmknejcjaaDoorJP93a
import Derived.Test.YtenbhmmknejcjaaDoorKP9CaseD
namespace Go.Proofs.YtenbhmmknejcjaaDoor
open Go.RowKit
set_option maxRecDepth 100000

/-- the start of a story -/
def StoC (c : Cs) : Prop := ∃ iss acq cur am day : Int, c = startC iss acq cur am day ∧ caseOk c = true ∧ wf64 cur ∧ (100 ≤ am ∧ am ≤ 5099) ∧ (9000 ≤ day ∧ day ≤ 9059)
def stepsL : List Int := [0, 1, 5, 20, 50]
def StD (w : World) (e : Ending) (w' : World) : Prop :=
  ∃ (c : Cs) (az : List Ln) (ds : List Int) (a1 a2 a3 : Option Addr) (k1 k2 k3 : Nat), e = .returned (.tuple #[cv c, .slice a1 az.length k1, .slice a2 ds.length k2, .slice a3 offS.length k3]) ∧
    StoC c ∧ ds.length = az.length ∧ az.length ≤ 10 ∧ (∀ x ∈ ds, x ∈ stepsL) ∧ LinesAt w' a1 az ∧ IntsAt w' a2 ds ∧ IntsAt w' a3 offS ∧ Below w.heap.size w w'

theorem story_ok {x2 x3 x4 x5 x1 : Int} (h2 : 0 ≤ x2 ∧ x2 < 3) (h3 : 0 ≤ x3 ∧ x3 < 3) (h4 : x4 = 840 ∨ x4 = 978 ∨ x4 = 392) (h5 : 0 ≤ x5 ∧ x5 < 5000) (h1 : 0 ≤ x1 ∧ x1 < 60) : caseOk (startC (1 + x2) (4 + x3) x4 (100 + x5) (9000 + x1)) = true := by
  refine caseOk_mk ⟨?_, ?_, ?_, ?_, ?_, ?_, ?_, ?_, ?_, ?_, ?_, ?_⟩ <;> simp only [startC]
  · simp [party, acctOk]; omega
  · simp [party, acctOk]; omega
  · omega
  · rcases h4 with rfl | rfl | rfl <;> decide
  · omega
  · omega
  · decide
  · omega
  · omega
  · omega
  · exact dOk_pos (by omega) (by omega)
  · simp
theorem infoAc : (Tryd.prog.info? 27).map (fun i => (i.zero, i.size, i.bytes)) = some (some (.agg #[.int .i64 0, .int .i64 0, .int .i64 0]), 3, 24) := by kernel_rfl
theorem one3 (x y z : Int) : ∀ u ∈ [Value.int .i64 x, .int .i64 y, .int .i64 z], u.oneCell' = true := by
  intro u hu
  simp at hu
  rcases hu with rfl | rfl | rfl <;> rfl

/-- what stands while a story is drawn: the answer's box, the start, the case now, the cursor, the holidays, the acts and the days -/
structure SS (B g : Nat) (w : World) (o h8 h13 : Nat) (c k : Cs) (v11 v12 : Value) (az : List Ln) (ds : List Int) (u : World) : Prop where
  rb : CB w.heap.size 0 zeroC u
  rz : FZ w.heap.size 0 u
  cb : CB h8 0 c u
  kb : NB h13 k u
  cur : Cursor B u g
  off : IntsAt u (some ⟨o, 0, none⟩) offS
  oa : u.ownsRow (h8 + 1) 27 3 v11 az.length (lcells az)
  od : u.ownsRow (h8 + 1) 3 1 v12 ds.length (ds.map (Value.int .i64))
  na : ∀ b, v11.ownBlock = some b → b ≠ h13
  nd : ∀ b, v12.ownBlock = some b → b ≠ h13
  nn : ∀ b, v11.ownBlock = some b → v12.ownBlock ≠ some b
  bel : Below w.heap.size w u
  l1 : w.heap.size < g
  l2 : g < o
  l3 : o < h8
  l4 : h8 < h13
  l5 : B ≤ h8
theorem SS.mv {B g : Nat} {w : World} {o h8 h13 : Nat} {c k : Cs} {v11 v12 : Value} {az : List Ln} {ds : List Int} {u u' : World} (q : SS B g w o h8 h13 c k v11 v12 az ds u) {row : Option Nat} (gr : u.grownBy u' row) (hr : ∀ b, row = some b → h8 < b ∧ b ≠ h13) {v11' v12' : Value} {az' : List Ln} {ds' : List Int}
    (oa : u'.ownsRow (h8 + 1) 27 3 v11' az'.length (lcells az')) (od : u'.ownsRow (h8 + 1) 3 1 v12' ds'.length (ds'.map (Value.int .i64))) (na : ∀ b, v11'.ownBlock = some b → b ≠ h13) (nd : ∀ b, v12'.ownBlock = some b → b ≠ h13) (nn : ∀ b, v11'.ownBlock = some b → v12'.ownBlock ≠ some b) :
    SS B g w o h8 h13 c k v11' v12' az' ds' u' := by
  have l1 := q.l1
  have l2 := q.l2
  have l3 := q.l3
  have l4 := q.l4
  have hb := q.bel.size
  have hB := (cursor_bd q.cur).2
  have l5 := q.l5
  have e : ∀ x, x ≤ h8 → some x ≠ row := fun x hx he => by have := (hr x he.symm).1; omega
  have e13 : some h13 ≠ row := fun he => (hr h13 he.symm).2 rfl
  refine ⟨q.rb.grown gr (e _ (by omega)), q.rz.grown q.rb.lt gr (e _ (by omega)), q.cb.grown gr (e _ (by omega)), ⟨q.kb.cb.grown gr e13, q.kb.fz.grown q.kb.cb.lt gr e13⟩, ?_, ?_, oa, od, na, nd, nn, q.bel.grown gr hb (fun j hj => by have := (hr j hj).1; omega), l1, l2, l3, l4, l5⟩
  · exact cursor_keep q.cur ((Below.refl _ _).grown gr hB (fun j hj => by have := (hr j hj).1; omega))
  · have ho := q.off
    rcases ho with h | ⟨b, of, h1, h2, h3⟩
    · exact .inl h
    · injection h1 with h1
      injection h1 with h1 h1'
      subst h1
      exact .inr ⟨o, of, by rw [h1'], Nat.lt_of_lt_of_le h2 gr.size, fun i hi => (gr.cell_far ⟨o, of + i, none⟩ h2 (e o (by omega))).trans (h3 i hi)⟩
theorem SS.call {B g : Nat} {w : World} {o h8 h13 : Nat} {c k : Cs} {v11 v12 : Value} {az : List Ln} {ds : List Int} {u u' : World} (q : SS B g w o h8 h13 c k v11 v12 az ds u) (hc : Cursor B u' g) (gr : u.grownBy u' (some g)) : SS B g w o h8 h13 c k v11 v12 az ds u' := by
  have l1 := q.l1
  have l2 := q.l2
  have l3 := q.l3
  have l4 := q.l4
  have hb := q.bel.size
  have e : ∀ x, x ≠ g → some x ≠ some g := fun x hx he => hx (by injection he)
  refine ⟨q.rb.grown gr (e _ (by omega)), q.rz.grown q.rb.lt gr (e _ (by omega)), q.cb.grown gr (e _ (by omega)), ⟨q.kb.cb.grown gr (e _ (by omega)), q.kb.fz.grown q.kb.cb.lt gr (e _ (by omega))⟩, hc, ints_far q.off gr (fun a ha => by injection ha with ha; subst ha; simp; omega), q.oa.kept gr (.inr fun h => by have := (q.oa.lt g h).1; omega), q.od.kept gr (.inr fun h => by have := (q.od.lt g h).1; omega), q.na, q.nd, q.nn, q.bel.grown gr hb (fun j hj => by injection hj with hj; omega), l1, l2, l3, l4, q.l5⟩
theorem SS.below {B g : Nat} {w : World} {o h8 h13 : Nat} {c k : Cs} {v11 v12 : Value} {az : List Ln} {ds : List Int} {u u' : World} (q : SS B g w o h8 h13 c k v11 v12 az ds u) (b : Below u.heap.size u u') : SS B g w o h8 h13 c k v11 v12 az ds u' := q.call (cursor_below q.cur b) (grown_ofK b _)
theorem SS.put {B g : Nat} {w : World} {o h8 h13 : Nat} {c k : Cs} {v11 v12 : Value} {az : List Ln} {ds : List Int} {u : World} (q : SS B g w o h8 h13 c k v11 v12 az ds u) (d : Cs) : SS B g w o h8 h13 c d v11 v12 az ds (put12 u h13 d) := by
  have gr := put12_grown u h13 d
  have nb : NB h13 d (put12 u h13 d) := NB.put q.kb
  have oa := q.oa.kept gr (.inr fun h => q.na h13 h rfl)
  have od := q.od.kept gr (.inr fun h => q.nd h13 h rfl)
  generalize put12 u h13 d = P at gr nb oa od ⊢
  have l1 := q.l1
  have l2 := q.l2
  have l3 := q.l3
  have l4 := q.l4
  have hb := q.bel.size
  have hB := (cursor_bd q.cur).2
  have l5 := q.l5
  have e : ∀ x, x ≠ h13 → some x ≠ some h13 := fun x hx he => hx (by injection he)
  exact ⟨q.rb.grown gr (e _ (by omega)), q.rz.grown q.rb.lt gr (e _ (by omega)), q.cb.grown gr (e _ (by omega)), nb, cursor_keep q.cur ((Below.refl _ _).grown gr hB (fun j hj => by injection hj with hj; omega)), ints_far q.off gr (fun a ha => by injection ha with ha; subst ha; simp; omega), oa, od, q.na, q.nd, q.nn, q.bel.grown gr hb (fun j hj => by injection hj with hj; omega), l1, l2, l3, l4, l5⟩

theorem SS.appA {B g : Nat} {w : World} {o h8 h13 : Nat} {c k : Cs} {v11 v12 : Value} {az : List Ln} {ds : List Int} {u u' : World} (q : SS B g w o h8 h13 c k v11 v12 az ds u) {v' : Value} {x y t : Int} (oa : u'.ownsRow (h8 + 1) 27 3 v' (az.length + 1) (lcells az ++ [.int .i64 x, .int .i64 y, .int .i64 t])) (gr : u.grownBy u' v11.ownBlock) (hob : v'.ownBlock = v11.ownBlock ∨ v'.ownBlock = some u.heap.size) :
    SS B g w o h8 h13 c k v' v12 (az ++ [(x, y, t)]) ds u' := by
  have l13 := q.kb.cb.lt
  refine q.mv gr (fun b hb => ⟨by have := (q.oa.lt b hb).1; omega, q.na b hb⟩) (by rw [List.length_append, lcells_append]; exact oa) (q.od.kept gr ?_) (fun b hb => ?_) q.nd (fun b hb => ?_)
  · cases hd : v12.ownBlock with
    | none => exact .inl rfl
    | some b => exact .inr fun h => q.nn b h.symm hd
  · rcases hob with h | h
    · exact q.na b (h ▸ hb)
    · rw [h] at hb; injection hb with hb; omega
  · rcases hob with h | h
    · exact q.nn b (h ▸ hb)
    · rw [h] at hb; injection hb with hb; intro hd; have := (q.od.lt b hd).2; omega
theorem SS.appD {B g : Nat} {w : World} {o h8 h13 : Nat} {c k : Cs} {v11 v12 : Value} {az : List Ln} {ds : List Int} {u u' : World} (q : SS B g w o h8 h13 c k v11 v12 az ds u) {v' : Value} {y : Int} (od : u'.ownsRow (h8 + 1) 3 1 v' (ds.length + 1) (ds.map (Value.int .i64) ++ [.int .i64 y])) (gr : u.grownBy u' v12.ownBlock) (hob : v'.ownBlock = v12.ownBlock ∨ v'.ownBlock = some u.heap.size) :
    SS B g w o h8 h13 c k v11 v' az (ds ++ [y]) u' := by
  have l13 := q.kb.cb.lt
  refine q.mv gr (fun b hb => ⟨by have := (q.od.lt b hb).1; omega, q.nd b hb⟩) (q.oa.kept gr ?_) (by rw [List.length_append, List.map_append]; exact od) q.na (fun b hb => ?_) (fun b hb => ?_)
  · cases hd : v11.ownBlock with
    | none => exact .inl rfl
    | some b => exact .inr fun h => q.nn b hd h.symm
  · rcases hob with h | h
    · exact q.nd b (h ▸ hb)
    · rw [h] at hb; injection hb with hb; omega
  · rcases hob with h | h
    · rw [h]; exact q.nn b hb
    · rw [h]; intro hd; injection hd with hd; have := (q.oa.lt b hb).2; omega
theorem SS.fin {B g : Nat} {w : World} {o h8 h13 : Nat} {c k : Cs} {v11 v12 : Value} {az : List Ln} {ds : List Int} {u : World} (q : SS B g w o h8 h13 c k v11 v12 az ds u) (d : Cs) : (put12 u w.heap.size d).ownsRow (h8 + 1) 27 3 v11 az.length (lcells az) ∧ (put12 u w.heap.size d).ownsRow (h8 + 1) 3 1 v12 ds.length (ds.map (Value.int .i64)) ∧ IntsAt (put12 u w.heap.size d) (some ⟨o, 0, none⟩) offS ∧ Below w.heap.size w (put12 u w.heap.size d) := by
  have gr := put12_grown u w.heap.size d
  have b : Below w.heap.size w (put12 u w.heap.size d) := put12_below d q.bel (Nat.le_refl _)
  generalize put12 u w.heap.size d = P at gr b ⊢
  have l1 := q.l1
  have l2 := q.l2
  have l3 := q.l3
  exact ⟨q.oa.kept gr (.inr fun h => by have := (q.oa.lt _ h).1; omega), q.od.kept gr (.inr fun h => by have := (q.od.lt _ h).1; omega), ints_far q.off gr (fun a ha => by injection ha with ha; subst ha; simp; omega), b⟩

set_option maxHeartbeats 40000000 in
theorem drawStory_any (a : Option Addr) (len cap : Nat) (zs : List Int) (w : World) (hr : IsRow .u8 w a len cap zs) (hn : len ≤ 1048576) : Calls Tryd.prog 16 #[.slice a len cap] w (StD w) := by
  obtain ⟨i3, hi3, hz30, hz31, hz32⟩ := info_parts info3
  obtain ⟨iA, hiA, hzA0, hzA1, hzA2⟩ := info_parts infoAc
  have HI3 : Hid (Tryd.prog.info? 3 = some i3 ∧ i3.zero = some (.int .i64 0) ∧ i3.size = 1 ∧ i3.bytes = 8) := ⟨hi3, hz30, hz31, hz32⟩
  have HIA : Hid (Tryd.prog.info? 27 = some iA ∧ iA.zero = some (.agg #[.int .i64 0, .int .i64 0, .int .i64 0]) ∧ iA.size = 3 ∧ iA.bytes = 24) := ⟨hiA, hzA0, hzA1, hzA2⟩
  clear hi3 hz30 hz31 hz32 hiA hzA0 hzA1 hzA2
  obtain ⟨W, hW⟩ : ∃ W, W = w.alloc (.cells #[.int .i64 0, .int .i64 0, .int .i64 0, .int .i64 0, .int .i64 0, .int .i64 0, .int .i64 0, .int .i64 0, .int .i64 0, .bool false, .int .i64 0, .int .i64 0] 25) := ⟨_, rfl⟩
  have bW : Below w.heap.size w W := by rw [hW]; go_grown
  have hWs : W.heap.size = w.heap.size + 1 := by rw [hW]; simp
  have HRB : Hid (CB w.heap.size 0 zeroC W) := by rw [Hid, hW]; exact CB.new w zeroC _
  have HRZ : Hid (FZ w.heap.size 0 W) := by rw [Hid, hW]; exact FZ.new w _ _
  have hr1 := row_below hr bW
  have HBW : Hid (Below w.heap.size w W) := bW
  have HWS : Hid (W.heap.size = w.heap.size + 1) := hWs
  clear bW hWs
  go_enter Tryd.func16, Tryd.ntmps16
  go_upto_region 1 with fail
  rw [← hW]
  clear hW
  go_wp2_with fail
  refine (new_any _ _ _ _ _ hr1 hn).mono ?_
  rintro e w1 ⟨rfl, c1, b1⟩
  have HB1 : Hid (Below W.heap.size W w1) := b1
  obtain ⟨g, hg⟩ : ∃ g, g = W.heap.size := ⟨_, rfl⟩
  rw [← hg] at c1 ⊢
  have HG : Hid (g = W.heap.size) := hg
  clear b1 hr1 hr hg
  have HO1 : Hid (IntsAt (w1.alloc (.cells #[.int .i64 9010, .int .i64 9020, .int .i64 9055, .int .i64 9100] 3)) (some ⟨w1.heap.size, 0, none⟩) offS) := .inr ⟨w1.heap.size, 0, rfl, by simp, fun i hi => by have := lit_cells w1 offS #[.int .i64 9010, .int .i64 9020, .int .i64 9055, .int .i64 9100] rfl i hi; simpa using this⟩
  have HS1 : Hid (g + 1 ≤ w1.heap.size) := (cursor_bd c1).2
  go_wp2_with fail
  refine (below_any _ _ _ (cursor_alloc c1 _) (by omega)).mono ?_
  rintro e w2 ⟨x2, rfl, x20, x21, c2, g2⟩
  have x22 := x21 (by omega)
  clear x21 c1
  go_wp2_with fail
  refine (below_any _ _ _ c2 (by omega)).mono ?_
  rintro e w3 ⟨x3, rfl, x30, x31, c3, g3⟩
  have x32 := x31 (by omega)
  replace g3 := g2.trans g3
  clear c2 g2 x31
  go_wp2_with fail
  refine (pickInt_any _ _ _ [840, 978, 392] _ (cursor_alloc c3 _) (cursor_ne c3) (lit_cells w3 [840, 978, 392] _ rfl) (by decide) (by decide)).mono ?_
  rintro e w4 ⟨x4, rfl, m4, c4, g4⟩
  replace g4 := (g3.trans (World.grownBy_alloc w3 _ _)).trans g4
  have HM4 : Hid _ := m4
  clear c3 g3 m4
  go_wp2_with fail
  refine (below_any _ _ _ c4 (by omega)).mono ?_
  rintro e w5 ⟨x5, rfl, x50, x51, c5, g5⟩
  have x52 := x51 (by omega)
  replace g5 := g4.trans g5
  clear c4 g4 x51
  go_wp2_with fail
  refine (below_any _ _ _ c5 (by omega)).mono ?_
  rintro e w5b ⟨x1, rfl, x10, x11, c5b, g5b⟩
  have x12 := x11 (by omega)
  replace g5b := g5.trans g5b
  clear c5 g5 x11
  go_wp2_with fail
  refine (sStart_any _ _ _ _ _ _).mono ?_
  rintro e w6 ⟨eo, ec, rfl, -, b6⟩
  have m4 : x4 = 840 ∨ x4 = 978 ∨ x4 = 392 := by have := HM4.out; simp at this; exact this
  have hko := story_ok ⟨x20, x22⟩ ⟨x30, x32⟩ m4 ⟨x50, x52⟩ ⟨x10, x12⟩
  have HST : Hid (StoC (startC (1 + x2) (4 + x3) x4 (100 + x5) (9000 + x1))) := ⟨_, _, _, _, _, rfl, hko, by rcases m4 with rfl | rfl | rfl <;> exact WalkArith.wf_i64 (by omega), by omega, by omega⟩
  have HSV : Hid (startV (1 + x2) (4 + x3) x4 (100 + x5) (9000 + x1) = startC (1 + x2) (4 + x3) x4 (100 + x5) (9000 + x1)) := if_pos hko
  rw [HSV.out]
  generalize startC (1 + x2) (4 + x3) x4 (100 + x5) (9000 + x1) = c0 at HST ⊢
  have c6 := cursor_below c5b b6
  have g6 := g5b.trans (grown_ofK b6 (some g))
  clear c5b g5b b6 m4 hko HSV HM4 x20 x22 x30 x32 x50 x52 x10 x12
  obtain ⟨iss, acq, cur, am, st, rsn, cl, bk, fee, cop, sta, due⟩ := c0
  unfold cv
  simp only
  have HC6 : Hid (Cursor (g + 1) w6 g) := c6
  have HG6 : Hid _ := g6
  clear c6 g6
  go_upto_region 5 with fail
  obtain ⟨X, hX⟩ : ∃ X, X = ((w6.alloc (.cells #[.int .i64 iss, .int .i64 acq, .int .i64 cur, .int .i64 am, .int .i64 st, .int .i64 rsn, .int .i64 cl, .int .i64 bk, .int .i64 fee, .bool cop, .int .i64 sta, .int .i64 due] 25)).alloc (.cells #[] 27)).alloc (.cells #[] 3) := ⟨_, rfl⟩
  have hXs : X.heap.size = w6.heap.size + 3 := by rw [hX]; simp
  have bX : Below w6.heap.size w6 X := by rw [hX]; go_grown
  have cX : CB w6.heap.size 0 ⟨iss, acq, cur, am, st, rsn, cl, bk, fee, cop, sta, due⟩ X := by
    rw [hX]
    exact ((CB.new w6 ⟨iss, acq, cur, am, st, rsn, cl, bk, fee, cop, sta, due⟩ _).below ((Below.refl _ _).alloc (Nat.le_refl _) _)).below ((Below.refl _ _).alloc (Nat.le_refl _) _)
  have oaX : X.ownsRow (w6.heap.size + 1) 27 3 (.slice (some ⟨w6.heap.size + 1, 0, none⟩) 0 0) 0 (lcells []) := by
    rw [hX]
    have h := World.ownsRow_lit (size := 3) (e := 27) (base := w6.heap.size + 1) (w6.alloc (.cells #[.int .i64 iss, .int .i64 acq, .int .i64 cur, .int .i64 am, .int .i64 st, .int .i64 rsn, .int .i64 cl, .int .i64 bk, .int .i64 fee, .bool cop, .int .i64 sta, .int .i64 due] 25)) #[] 0 (by simp) (by unfold maxLen; omega) rfl
    simp only [World.size_alloc] at h
    exact keepL h ((Below.refl _ _).alloc (Nat.le_refl _) _)
  have odX : X.ownsRow (w6.heap.size + 1) 3 1 (.slice (some ⟨w6.heap.size + 1 + 1, 0, none⟩) 0 0) 0 (([] : List Int).map (Value.int .i64)) := by
    rw [hX]
    have h := World.ownsRow_lit (size := 1) (e := 3) (base := w6.heap.size + 1) ((w6.alloc (.cells #[.int .i64 iss, .int .i64 acq, .int .i64 cur, .int .i64 am, .int .i64 st, .int .i64 rsn, .int .i64 cl, .int .i64 bk, .int .i64 fee, .bool cop, .int .i64 sta, .int .i64 due] 25)).alloc (.cells #[] 27)) #[] 0 (by simp) (by unfold maxLen; omega) rfl
    simp only [World.size_alloc] at h
    exact h
  have HS8 : Hid (∀ (u : World) (h13 : Nat), Below X.heap.size X u → X.heap.size ≤ h13 → NB h13 ⟨iss, acq, cur, am, st, rsn, cl, bk, fee, cop, sta, due⟩ u → SS (g + 1) g w w1.heap.size w6.heap.size h13 ⟨iss, acq, cur, am, st, rsn, cl, bk, fee, cop, sta, due⟩ ⟨iss, acq, cur, am, st, rsn, cl, bk, fee, cop, sta, due⟩ (.slice (some ⟨w6.heap.size + 1, 0, none⟩) 0 0) (.slice (some ⟨w6.heap.size + 1 + 1, 0, none⟩) 0 0) [] [] u) := by
    rw [Hid]
    intro u h13 bu hh nb
    have e1 := HG.out
    have e2 := HWS.out
    have e3 := HS1.out
    have s6 := HG6.out.size
    simp only [World.size_alloc] at s6
    have lW : Below g W w1 := e1 ▸ HB1.out
    have lA : Below g W (w1.alloc (.cells #[.int .i64 9010, .int .i64 9020, .int .i64 9055, .int .i64 9100] 3)) := lW.alloc (by omega) _
    have bw : Below w.heap.size w w6 := ((HBW.out.trans (lA.mono (by omega))).grown HG6.out (by simp; omega) (fun j hj => by injection hj with hj; omega))
    have r1 := HRB.out.under lA (by omega)
    have z1 := HRZ.out.under lA (by omega)
    have r6 := r1.grown HG6.out (by simp; omega)
    have z6 := z1.grown r1.lt HG6.out (by simp; omega)
    have b6 : Below w6.heap.size w6 u := bX.trans (bu.mono (by omega))
    have c6 : Cursor (g + 1) u g := cursor_below HC6.out b6
    exact ⟨r6.below b6, z6.below r6.lt b6, cX.below bu, nb, c6, (ints_far HO1.out HG6.out (fun a ha => by injection ha with ha; subst ha; simp; omega)).below b6, keepL oaX bu, keepL odX bu, (fun b hb => by simp [Value.ownBlock] at hb; omega), (fun b hb => by simp [Value.ownBlock] at hb; omega), (fun b hb => by simp [Value.ownBlock] at hb ⊢; omega), next bw b6, by omega, by omega, by omega, by omega, by omega⟩
  rw [← hX]
  obtain ⟨rg0, rg1, rg2, rg3, rg4, rg5, rg6, rg7, rg8, rg9, rg10, rg11⟩ := cX
  simp only [Nat.zero_add] at rg0 rg1 rg2 rg3 rg4 rg5 rg6 rg7 rg8 rg9 rg10 rg11
  have cA : ∀ o, CB w6.heap.size 0 ⟨iss, acq, cur, am, st, rsn, cl, bk, fee, cop, sta, due⟩ (X.alloc o) := fun o => CB.below ⟨by simpa using rg0, by simpa using rg1, by simpa using rg2, by simpa using rg3, by simpa using rg4, by simpa using rg5, by simpa using rg6, by simpa using rg7, by simpa using rg8, by simpa using rg9, by simpa using rg10, by simpa using rg11⟩ ((Below.refl _ _).alloc (Nat.le_refl _) o)
  have ra0 : ∀ o, (X.alloc o).cell? ⟨w6.heap.size, 0, none⟩ = some (.int .i64 iss) := fun o => by simpa using (cA o).f0
  have ra1 : ∀ o, (X.alloc o).cell? ⟨w6.heap.size, 1, none⟩ = some (.int .i64 acq) := fun o => by simpa using (cA o).f1
  have ra2 : ∀ o, (X.alloc o).cell? ⟨w6.heap.size, 2, none⟩ = some (.int .i64 cur) := fun o => by simpa using (cA o).f2
  have ra3 : ∀ o, (X.alloc o).cell? ⟨w6.heap.size, 3, none⟩ = some (.int .i64 am) := fun o => by simpa using (cA o).f3
  have ra4 : ∀ o, (X.alloc o).cell? ⟨w6.heap.size, 4, none⟩ = some (.int .i64 st) := fun o => by simpa using (cA o).f4
  have ra5 : ∀ o, (X.alloc o).cell? ⟨w6.heap.size, 5, none⟩ = some (.int .i64 rsn) := fun o => by simpa using (cA o).f5
  have ra6 : ∀ o, (X.alloc o).cell? ⟨w6.heap.size, 6, none⟩ = some (.int .i64 cl) := fun o => by simpa using (cA o).f6
  have ra7 : ∀ o, (X.alloc o).cell? ⟨w6.heap.size, 7, none⟩ = some (.int .i64 bk) := fun o => by simpa using (cA o).f7
  have ra8 : ∀ o, (X.alloc o).cell? ⟨w6.heap.size, 8, none⟩ = some (.int .i64 fee) := fun o => by simpa using (cA o).f8
  have ra9 : ∀ o, (X.alloc o).cell? ⟨w6.heap.size, 9, none⟩ = some (.bool cop) := fun o => by simpa using (cA o).f9
  have ra10 : ∀ o, (X.alloc o).cell? ⟨w6.heap.size, 10, none⟩ = some (.int .i64 sta) := fun o => by simpa using (cA o).f10
  have ra11 : ∀ o, (X.alloc o).cell? ⟨w6.heap.size, 11, none⟩ = some (.int .i64 due) := fun o => by simpa using (cA o).f11
  clear cA hX hXs bX oaX odX HG6 HC6 HO1 HRB HRZ HB1 HBW
  go_cut [13, 14] (fun v y wc => ∃ h13, v = .pointer (some ⟨h13, 0, none⟩) ∧ y = .int .i64 sta ∧ SS (g + 1) g w w1.heap.size w6.heap.size h13 ⟨iss, acq, cur, am, st, rsn, cl, bk, fee, cop, sta, due⟩ ⟨iss, acq, cur, am, st, rsn, cl, bk, fee, cop, sta, due⟩ (.slice (some ⟨w6.heap.size + 1, 0, none⟩) 0 0) (.slice (some ⟨w6.heap.size + 1 + 1, 0, none⟩) 0 0) [] [] wc)
  case first =>
    have HS8b : Hid _ := HS8
    go_region_with fail
    all_goals
      go_wp2_with fail
      go_meet
      first
        | exact ⟨_, rfl, rfl, HS8.out _ _ ((Below.refl _ _).alloc (Nat.le_refl _) _) (Nat.le_refl _) (one_box X ⟨iss, acq, cur, am, st, rsn, cl, bk, fee, cop, sta, due⟩ _).1⟩
        | exact ⟨_, rfl, rfl, HS8.out _ _ (((Below.refl _ _).alloc (Nat.le_refl _) _).drew) (Nat.le_refl _) ((one_box X ⟨iss, acq, cur, am, st, rsn, cl, bk, fee, cop, sta, due⟩ _).1.below ((Below.refl _ _).drew))⟩
  case rest =>
    clear HS8 rg0 rg1 rg2 rg3 rg4 rg5 rg6 rg7 rg8 rg9 rg10 rg11 ra0 ra1 ra2 ra3 ra4 ra5 ra6 ra7 ra8 ra9 ra10 ra11
    obtain ⟨h13, rfl, rfl, q⟩ := hcut
    obtain ⟨wk, hwk⟩ : ∃ x, x = wc := ⟨_, rfl⟩
    subst hwk
    generalize w1.heap.size = o at q HS1 ⊢
    generalize w6.heap.size = h8 at q ⊢
    go_wp2_with fail
    refine (below_any _ _ _ q.cur (by omega)).mono ?_
    rintro e w9 ⟨x9, rfl, x90, x91, c9, g9⟩
    have x92 := x91 (by omega)
    obtain ⟨m, rfl⟩ := Int.eq_ofNat_of_zero_le x90
    have HQ : Hid (SS (g + 1) g w o h8 h13 ⟨iss, acq, cur, am, st, rsn, cl, bk, fee, cop, sta, due⟩ ⟨iss, acq, cur, am, st, rsn, cl, bk, fee, cop, sta, due⟩ (.slice (some ⟨h8 + 1, 0, none⟩) 0 0) (.slice (some ⟨h8 + 1 + 1, 0, none⟩) 0 0) [] [] w9) := q.call c9 g9
    clear q c9 g9 x91 x90 HS1 HG HWS
    have HSD : Hid (∀ (k : Cs) (x y r t : Int) (u : World), IntsAt u (some ⟨o, 0, none⟩) offS → Calls Tryd.prog 11 #[cv k, .agg #[.int .i64 x, .int .i64 y, .int .i64 r], .int .i64 t, .slice (some ⟨o, 0, none⟩) 4 4] u (DoR u (doC k ⟨x, y, r⟩ t offS) (doE k ⟨x, y, r⟩ t offS) (doV k ⟨x, y, r⟩ t offS))) := fun k x y r t u hx => sDo_any k ⟨x, y, r⟩ t _ 4 offS u hx (by decide)
    go_upto_block 0 with fail
    go_cut [11, 12] (fun v y wc => ∃ (u11 u12 : Value) (k : Cs) (az : List Ln) (ds : List Int), u11 = v ∧ u12 = y ∧ ds.length = az.length ∧ az.length ≤ 10 ∧ (∀ x ∈ ds, x ∈ stepsL) ∧ SS (g + 1) g w o h8 h13 ⟨iss, acq, cur, am, st, rsn, cl, bk, fee, cop, sta, due⟩ k u11 u12 az ds wc)
    case first =>
      go_wp2_with fail
      go_loopw [11, 12, 14, 16] (fun v y dv i wr => ∃ (u11 u12 : Value) (n : Nat) (dy : Int) (k : Cs) (az : List Ln) (ds : List Int), u11 = v ∧ u12 = y ∧ n ≤ m + 1 ∧ dv = .int .i64 dy ∧ i = .int .i64 n ∧ az.length = n ∧ ds.length = n ∧ (∀ x ∈ ds, x ∈ stepsL) ∧ SS (g + 1) g w o h8 h13 ⟨iss, acq, cur, am, st, rsn, cl, bk, fee, cop, sta, due⟩ k u11 u12 az ds wr) (fun _ _ _ i _ => m + 1 - (intOf i).toNat)
      case atStart => exact ⟨_, _, 0, _, _, [], [], rfl, rfl, by omega, rfl, rfl, rfl, rfl, (fun x hx => by cases hx), HQ.out⟩
      case round =>
        clear HQ
        obtain ⟨v11, v12, n, dy, k, az, ds, hv1, hv2, hn2, rfl, rfl, ha, hd, hds, q⟩ := hrel
        subst hv1
        subst hv2
        have HDS : Hid (∀ x ∈ ds, x ∈ stepsL) := hds
        have HA : Hid (az.length = n) := ha
        have HD : Hid (ds.length = n) := hd
        clear hds ha hd
        by_cases hlt : n < m + 1
        · have hni : (n : Int) < 1 + (m : Int) := by omega
          go_wp2_with fail
          refine (pickInt_any _ _ _ [0, 1, 5, 20, 50] _ (cursor_alloc q.cur _) (cursor_ne q.cur) (lit_cells wr [0, 1, 5, 20, 50] _ rfl) (by decide) (by decide)).mono ?_
          rintro e wa ⟨y, rfl, hy, ca, ga⟩
          have qa := (q.below ((Below.refl _ _).alloc (Nat.le_refl _) _)).call ca ga
          have HY : Hid (y ∈ stepsL) := hy
          clear ca ga q hy
          obtain ⟨kiss, kacq, kcur, kam, kst, krsn, kcl, kbk, kfee, kcop, ksta, kdue⟩ := k
          obtain ⟨rg0, rg1, rg2, rg3, rg4, rg5, rg6, rg7, rg8, rg9, rg10, rg11⟩ := qa.kb.cb
          simp only [Nat.zero_add] at rg0 rg1 rg2 rg3 rg4 rg5 rg6 rg7 rg8 rg9 rg10 rg11
          go_wp2_with fail
          refine (act_any g ⟨kiss, kacq, kcur, kam, kst, krsn, kcl, kbk, kfee, kcop, ksta, kdue⟩ wa qa.cur).mono ?_
          rintro e wb ⟨⟨x, z, t⟩, rfl, cb, gb⟩
          unfold av
          simp only
          have qb0 := qa.call cb gb
          have hb1 : Below wb.heap.size wb (wb.alloc (.cells #[.int .i64 x, .int .i64 z, .int .i64 t] 27)) := (Below.refl _ _).alloc (Nat.le_refl _) _
          have qb := qb0.below hb1
          have ab := AB.new wb ⟨x, z, t⟩ 27
          simp only at ab
          have HSB : Hid (h13 < wb.heap.size) := qb0.kb.cb.lt
          clear rg0 rg1 rg2 rg3 rg4 rg5 rg6 rg7 rg8 rg9 rg10 rg11 qa cb gb qb0 hb1
          generalize hwc : wb.alloc (.cells #[.int .i64 x, .int .i64 z, .int .i64 t] 27) = wc at qb ab
          generalize hh18 : wb.heap.size = h18 at ab HSB
          go_upto_region 13 with fail
          try rw [hwc]
          try rw [hh18]
          clear hwc hh18
          generalize wrap64 (dy + y) = dz
          obtain ⟨rg0, rg1, rg2, rg3, rg4, rg5, rg6, rg7, rg8, rg9, rg10, rg11⟩ := qb.kb.cb
          simp only [Nat.zero_add] at rg0 rg1 rg2 rg3 rg4 rg5 rg6 rg7 rg8 rg9 rg10 rg11
          have s0 := ab.c0
          have s1 := ab.c1
          have s2 := ab.c2
          simp only at s0 s1 s2
          have hsd := HSD.out ⟨kiss, kacq, kcur, kam, kst, krsn, kcl, kbk, kfee, kcop, ksta, kdue⟩ x z t dz wc qb.off
          generalize doC ⟨kiss, kacq, kcur, kam, kst, krsn, kcl, kbk, kfee, kcop, ksta, kdue⟩ ⟨x, z, t⟩ dz offS = dd at hsd
          generalize doE ⟨kiss, kacq, kcur, kam, kst, krsn, kcl, kbk, kfee, kcop, ksta, kdue⟩ ⟨x, z, t⟩ dz offS = de at hsd
          generalize doV ⟨kiss, kacq, kcur, kam, kst, krsn, kcl, kbk, kfee, kcop, ksta, kdue⟩ ⟨x, z, t⟩ dz offS = dv at hsd
          unfold cv at hsd
          simp only at hsd
          go_wp2_with fail
          refine hsd.mono ?_
          rintro e wd ⟨eo1, ec1, rfl, -, bd⟩
          clear hsd rg0 rg1 rg2 rg3 rg4 rg5 rg6 rg7 rg8 rg9 rg10 rg11 s0 s1 s2
          obtain ⟨n0, n1, n2, n3, n4, n5, n6, n7, n8, n9, n10, n11⟩ := dd
          simp only [cv]
          have be : Below wd.heap.size wd (wd.alloc (.cells #[.int .i64 n0, .int .i64 n1, .int .i64 n2, .int .i64 n3, .int .i64 n4, .int .i64 n5, .int .i64 n6, .int .i64 n7, .int .i64 n8, .bool n9, .int .i64 n10, .int .i64 n11] 25)) := (Below.refl _ _).alloc (Nat.le_refl _) _
          have qe := (qb.below bd).below be
          have ae := (ab.below bd).below be
          have de1 := CB.new wd ⟨n0, n1, n2, n3, n4, n5, n6, n7, n8, n9, n10, n11⟩ 25
          simp only at de1
          clear bd be qb ab
          generalize hwe : wd.alloc (.cells #[.int .i64 n0, .int .i64 n1, .int .i64 n2, .int .i64 n3, .int .i64 n4, .int .i64 n5, .int .i64 n6, .int .i64 n7, .int .i64 n8, .bool n9, .int .i64 n10, .int .i64 n11] 25) = we at qe ae de1
          generalize hh19 : wd.heap.size = h19 at de1
          go_upto_region 14 with fail
          try rw [hwe]
          try rw [hh19]
          clear hwe hh19
          obtain ⟨bg0, bg1, bg2, bg3, bg4, bg5, bg6, bg7, bg8, bg9, bg10, bg11⟩ := de1
          simp only [Nat.zero_add] at bg0 bg1 bg2 bg3 bg4 bg5 bg6 bg7 bg8 bg9 bg10 bg11
          obtain ⟨hg0, hg1, hg2, hg3, hg4, hg5, hg6, hg7, hg8, hg9, hg10, hg11⟩ := qe.kb.cb
          simp only [Nat.zero_add] at hg0 hg1 hg2 hg3 hg4 hg5 hg6 hg7 hg8 hg9 hg10 hg11
          obtain ⟨hy0, hy1, hy2, hy3, hy4, hy5, hy6, hy7, hy8, hy9, hy10, hy11⟩ := qe.kb.fz
          simp only [Nat.zero_add] at hy0 hy1 hy2 hy3 hy4 hy5 hy6 hy7 hy8 hy9 hy10 hy11
          have HQE : Hid (SS (g + 1) g w o h8 h13 ⟨iss, acq, cur, am, st, rsn, cl, bk, fee, cop, sta, due⟩ ⟨n0, n1, n2, n3, n4, n5, n6, n7, n8, n9, n10, n11⟩ v11 v12 az ds (put12 we h13 ⟨n0, n1, n2, n3, n4, n5, n6, n7, n8, n9, n10, n11⟩)) := qe.put ⟨n0, n1, n2, n3, n4, n5, n6, n7, n8, n9, n10, n11⟩
          have HAE : Hid (AB h18 ⟨x, z, t⟩ (put12 we h13 ⟨n0, n1, n2, n3, n4, n5, n6, n7, n8, n9, n10, n11⟩)) := ae.grown (put12_grown we h13 ⟨n0, n1, n2, n3, n4, n5, n6, n7, n8, n9, n10, n11⟩) (by have := HSB.out; simp; omega)
          clear qe ae
          go_upto_region 15 with fail
          have hpe : put12 we h13 ⟨n0, n1, n2, n3, n4, n5, n6, n7, n8, n9, n10, n11⟩ = put12 we h13 ⟨n0, n1, n2, n3, n4, n5, n6, n7, n8, n9, n10, n11⟩ := rfl
          generalize hwf : put12 we h13 ⟨n0, n1, n2, n3, n4, n5, n6, n7, n8, n9, n10, n11⟩ = wf at HQE HAE
          unfold put12 at hwf
          simp only at hwf
          rw [hwf]
          clear hwf hpe bg0 hg0 hy0 bg1 hg1 hy1 bg2 hg2 hy2 bg3 hg3 hy3 bg4 hg4 hy4 bg5 hg5 hy5 bg6 hg6 hy6 bg7 hg7 hy7 bg8 hg8 hy8 bg9 hg9 hy9 bg10 hg10 hy10 bg11 hg11 hy11
          have s0 := HAE.out.c0
          have s1 := HAE.out.c1
          have s2 := HAE.out.c2
          simp only at s0 s1 s2
          have hal : az.length ≤ 10 := by have := HA.out; omega
          have hdl : ds.length ≤ 10 := by have := HD.out; omega
          have hsz : h8 + 1 ≤ wf.heap.size := by have := HQE.out.kb.cb.lt; have := HQE.out.l4; omega
          go_upto_region 16 with (at_builtin; refine wpList_append_own_at (w := _) rfl (.tmp 77) (.tmp 79) 39 rfl (h8 + 1) 27 iA _ 3 24 Tryd.underlying39 HIA.out.1 HIA.out.2.1 HIA.out.2.2.1 HIA.out.2.2.2 rfl (by decide) _ _ _ rfl (HQE.out.oa.alloc _) ⟨wf.heap.size, 0, none⟩ 1 1 [.int .i64 x, .int .i64 z, .int .i64 t] rfl rfl (World.news_of_block (heap_alloc_new wf _)) (one3 x z t) (by unfold maxLen; omega) (by omega) (by simp; omega) ?_; intro v11' wg oa' gg _ hob)
          have HQG : Hid (SS _ _ _ _ _ _ _ _ _ _ _ _ wg) := (HQE.out.below ((Below.refl _ _).alloc (Nat.le_refl _) _)).appA oa' gg hob
          clear HQE HAE s0 s1 s2 oa' gg hob hsz
          have hsz : h8 + 1 ≤ wg.heap.size := by have := HQG.out.kb.cb.lt; have := HQG.out.l4; omega
          go_wp2_with (at_builtin; refine wpList_append_own_at (w := _) rfl (.tmp 81) (.tmp 83) 28 rfl (h8 + 1) 3 i3 (.int .i64 0) 1 8 Tryd.underlying28 HI3.out.1 HI3.out.2.1 HI3.out.2.2.1 HI3.out.2.2.2 rfl (by decide) _ _ _ rfl (HQG.out.od.alloc _) ⟨wg.heap.size, 0, none⟩ 1 1 [.int .i64 y] rfl rfl (cell_one_new _ _ _) (ints_oneCell .i64 [y]) (by unfold maxLen; omega) (by omega) (by simp; omega) ?_; intro v12' wh od' gh _ hob)
          have HQH : Hid (SS _ _ _ _ _ _ _ _ _ _ _ _ wh) := (HQG.out.below ((Below.refl _ _).alloc (Nat.le_refl _) _)).appD od' gh hob
          clear HQG od' gh hob hsz hal hdl
          go_wp2
          go_roundw
          case rel => exact ⟨_, _, n + 1, _, _, az ++ [(x, z, t)], ds ++ [y], rfl, rfl, by omega, rfl, by go_num, by have := HA.out; simp; omega, by have := HD.out; simp; omega, (fun x hx => by
            rcases List.mem_append.1 hx with h | h
            · exact HDS.out x h
            · simp only [List.mem_singleton] at h; rw [h]; exact HY.out), HQH.out⟩
          case measure => simp [intOf]; omega
        · have hnm : n = m + 1 := by omega
          have hni : ¬ (n : Int) < 1 + (m : Int) := by omega
          go_wp2
          go_meet
          exact ⟨_, _, _, az, ds, rfl, rfl, by rw [HA.out, HD.out], by have := HA.out; omega, HDS.out, q⟩
    case rest =>
      clear HQ HSD
      obtain ⟨v11, v12, k, az, ds, rfl, rfl, h1, h2, h3, q⟩ := hcut
      obtain ⟨wl, hwl⟩ : ∃ x, x = wc := ⟨_, rfl⟩
      subst hwl
      obtain ⟨a1, k1, hv1, -, -⟩ := lines_of_own q.oa
      obtain ⟨a2, k2, hv2⟩ := own_shape q.od
      subst hv1
      subst hv2
      obtain ⟨rg0, rg1, rg2, rg3, rg4, rg5, rg6, rg7, rg8, rg9, rg10, rg11⟩ := q.cb
      simp only [Nat.zero_add] at rg0 rg1 rg2 rg3 rg4 rg5 rg6 rg7 rg8 rg9 rg10 rg11
      obtain ⟨tg0, tg1, tg2, tg3, tg4, tg5, tg6, tg7, tg8, tg9, tg10, tg11⟩ := q.rb
      simp only [Nat.zero_add] at tg0 tg1 tg2 tg3 tg4 tg5 tg6 tg7 tg8 tg9 tg10 tg11
      obtain ⟨ty0, ty1, ty2, ty3, ty4, ty5, ty6, ty7, ty8, ty9, ty10, ty11⟩ := q.rz
      simp only [Nat.zero_add] at ty0 ty1 ty2 ty3 ty4 ty5 ty6 ty7 ty8 ty9 ty10 ty11
      simp only [zeroC] at tg0 tg1 tg2 tg3 tg4 tg5 tg6 tg7 tg8 tg9 tg10 tg11
      obtain ⟨f1, f2, f3, f4⟩ := q.fin ⟨iss, acq, cur, am, st, rsn, cl, bk, fee, cop, sta, due⟩
      have HF1 : Hid (LinesAt (put12 wl w.heap.size ⟨iss, acq, cur, am, st, rsn, cl, bk, fee, cop, sta, due⟩) a1 az) := lines_any f1
      have HF2 : Hid (IntsAt (put12 wl w.heap.size ⟨iss, acq, cur, am, st, rsn, cl, bk, fee, cop, sta, due⟩) a2 ds) := ints_own f2
      have HF3 : Hid (IntsAt (put12 wl w.heap.size ⟨iss, acq, cur, am, st, rsn, cl, bk, fee, cop, sta, due⟩) (some ⟨o, 0, none⟩) offS) := f3
      have HF4 : Hid (Below w.heap.size w (put12 wl w.heap.size ⟨iss, acq, cur, am, st, rsn, cl, bk, fee, cop, sta, due⟩)) := f4
      have H1 : Hid (ds.length = az.length) := h1
      have H2 : Hid (az.length ≤ 10) := h2
      have H3 : Hid (∀ x ∈ ds, x ∈ stepsL) := h3
      clear f1 f2 f3 f4 q h1 h2 h3
      go_wp2
      refine bodyPost_ret (by simp [results, Tryd.results16, go_sem, tg0, tg1, tg2, tg3, tg4, tg5, tg6, tg7, tg8, tg9, tg10, tg11]; try rfl) rfl ?_
      exact ⟨⟨iss, acq, cur, am, st, rsn, cl, bk, fee, cop, sta, due⟩, az, ds, a1, a2, some ⟨o, 0, none⟩, k1, k2, 4, rfl, HST.out, H1.out, H2.out, H3.out, HF1.out, HF2.out, HF3.out, HF4.out⟩

end Go.Proofs.YtenbhmmknejcjaaDoor
