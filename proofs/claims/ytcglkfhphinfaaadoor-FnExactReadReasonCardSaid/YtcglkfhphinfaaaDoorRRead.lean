/- Chapter 8: ReadReason, the program's and the specification's; the table of the codes, as the row lists it, and behind a call. -/
import Derived.Test.YtcglkfhphinfaaaDoorCards
import Derived.Test.YtcglkfhphinfaaaDoorTie
import Derived.Test.YtcglkfhphinfaaaDoorBase
import Derived.Test.YtcglkfhphinfaaaDoorRReas
import Derived.LaidMore
import Derived.Deep.DeepHandedRow
import Derived.JoinedCond
import Derived.Lay
import Derived.SevenTiedAt
import Derived.Stop.Joined
import Derived.Stop.LaidErr
import Derived.Lib.LaidTab
import Derived.Lib.AppendIntMem
import Derived.ChangeVars
import Derived.Deep.DeepCutAuto
namespace Go.Proofs.YtcglkfhphinfaaaDoor
open Go.ChangeShapes Go.WideShapes Go.ChangeAt Go.RowKit
set_option maxRecDepth 100000

/-- the code of a text; -1 for another -/
def rdV (s : ByteArray) : Int := if txF.toList == s.toList then 4837 else if txN.toList == s.toList then 4855 else if txT.toList == s.toList then 4834 else if txA.toList == s.toList then 4831 else if txQ.toList == s.toList then 4853 else if txC.toList == s.toList then 4841 else -1

def CodeTab (w : World) : Prop := Lib.TabIs Tryd.prog w "loop.example/g00126/impl.reasonCodes" .i64 rL
theorem CodeTab.below {w w' : World} (h : CodeTab w) (hb : Below w.heap.size w w') : CodeTab w' := Lib.tabBelow_of_tabIs h w' hb
theorem CodeTab.cell {w : World} (h : CodeTab w) (i : Nat) (hi : i < 6) : w.cell? ⟨0, i, none⟩ = some (.int .i64 (rL.getD i 0)) :=
  Lib.TabIs.cell h (by kernel_rfl) i hi
theorem codeEq : (Rows.laid_loop_example_g00126_impl_reasonCodes : DataW Unit) = Lib.tabData .i64 rL := by kernel_rfl
theorem code_g : Tryd.prog.globalNamed "loop.example/g00126/impl.reasonCodes" = some 0 := by kernel_rfl
theorem code_t : (Tryd.prog.globals[0]?).map (·.type) = some 62 := by kernel_rfl
theorem code_head {rest : List (String × DataW Unit)} {w : World} (h : laidMet Tryd.prog (("loop.example/g00126/impl.reasonCodes", Rows.laid_loop_example_g00126_impl_reasonCodes) :: rest) w) : CodeTab w := by
  rw [codeEq] at h
  exact Lib.tabIs_of_head code_g code_t Tryd.underlying62 Tryd.underlying3 (by kernel_rfl) (by kernel_rfl) h
theorem code_keep {w w' : World} {n : String} {cs : Array Value} (h : w.var? Tryd.prog n = some cs) (hb : Below w.heap.size w w') : w'.var? Tryd.prog n = some cs := by
  unfold World.var? at *
  cases hg : Tryd.prog.globalNamed n with
  | none => simp [hg] at h
  | some g =>
    simp only [hg, Option.bind_some] at h ⊢
    have hlt : g < w.heap.size := by
      rcases Nat.lt_or_ge g w.heap.size with h' | h'
      · exact h'
      · rw [Array.getElem?_eq_none h'] at h; simp at h
    rw [hb.block g hlt]
    exact h
theorem code_vars {H : Type} {enc : TypeId × Value → H} {W W' : World} {gv : Nat} {tv : TypeId} {cs : Array Value} {fv : Nat} {dv : DataW H} {pv : List MemPlace}
    (hg : Tryd.prog.globalNamed "loop.example/g00126/impl.reasonCodes" = some gv) (ht : (Tryd.prog.globals[gv]?).map (·.type) = some tv) (hvar : W.var? Tryd.prog "loop.example/g00126/impl.reasonCodes" = some cs)
    (hd : DataW.trod enc Tryd.prog W 0 (fun _ => true) true fv tv cs.toList = some (dv, pv)) (hm : CodeTab W) (hb : Below W.heap.size W W') :
    DataW.TrodVars enc Tryd.prog W' (fun b => decide (b < W.heap.size)) ["loop.example/g00126/impl.reasonCodes"] [dv] (MemPlace.row ⟨gv, 0, none⟩ cs.size ++ pv) := by
  obtain rfl := Option.some.inj (code_g.symm.trans hg)
  obtain rfl := Option.some.inj (code_t.symm.trans ht)
  have hcs : cs = (rL.map fun z => Value.int .i64 z).toArray := by
    unfold CodeTab Lib.TabIs at hm
    rw [hm] at hvar
    injection hvar with h
    exact h.symm
  subst hcs
  have hlt : ∀ x ∈ pv, x.block < W.heap.size := DataW.trod_lt fv _ _ _ hd
  obtain ⟨f', hd'⟩ := Below.trod laidOut (by kernel_rfl) (of_decide_eq_true (by kernel_rfl)) (v := .agg (rL.map fun z => Value.int .i64 z).toArray)
    (⟨fv, by simpa [Value.cells, rL] using hd⟩ : DataW.Trod enc Tryd.prog W 0 (fun _ => true) true 62 (.agg (rL.map fun z => Value.int .i64 z).toArray) dv pv) hb hlt
  exact trodVars_mk1 hg ht (code_keep hvar hb) (by simpa [Value.cells, rL] using hd')

set_option maxHeartbeats 6400000 in
theorem iRead_any (s : ByteArray) (w : World) (ht : CodeTab w) :
    Calls Tryd.prog 12 #[.string s] w fun e w' => e = .returned (.int .i64 (rdV s)) ∧ Below w.heap.size w w' := by
  have c0 : w.cell? ⟨0, 0, none⟩ = some (.int .i64 4837) := ht.cell 0 (by decide)
  have c1 : w.cell? ⟨0, 1, none⟩ = some (.int .i64 4855) := ht.cell 1 (by decide)
  have c2 : w.cell? ⟨0, 2, none⟩ = some (.int .i64 4834) := ht.cell 2 (by decide)
  have c3 : w.cell? ⟨0, 3, none⟩ = some (.int .i64 4831) := ht.cell 3 (by decide)
  have c4 : w.cell? ⟨0, 4, none⟩ = some (.int .i64 4853) := ht.cell 4 (by decide)
  have c5 : w.cell? ⟨0, 5, none⟩ = some (.int .i64 4841) := ht.cell 5 (by decide)
  have x0 : ∀ V : World, (Instr.index 62 (.agg #[.int .i64 4837, .int .i64 4855, .int .i64 4834, .int .i64 4831, .int .i64 4853, .int .i64 4841]) (.int .i64 0)).run Tryd.prog V = .ok (.int .i64 4837) V := fun V => by kernel_rfl
  have x1 : ∀ V : World, (Instr.index 62 (.agg #[.int .i64 4837, .int .i64 4855, .int .i64 4834, .int .i64 4831, .int .i64 4853, .int .i64 4841]) (.int .i64 1)).run Tryd.prog V = .ok (.int .i64 4855) V := fun V => by kernel_rfl
  have x2 : ∀ V : World, (Instr.index 62 (.agg #[.int .i64 4837, .int .i64 4855, .int .i64 4834, .int .i64 4831, .int .i64 4853, .int .i64 4841]) (.int .i64 2)).run Tryd.prog V = .ok (.int .i64 4834) V := fun V => by kernel_rfl
  have x3 : ∀ V : World, (Instr.index 62 (.agg #[.int .i64 4837, .int .i64 4855, .int .i64 4834, .int .i64 4831, .int .i64 4853, .int .i64 4841]) (.int .i64 3)).run Tryd.prog V = .ok (.int .i64 4831) V := fun V => by kernel_rfl
  have x4 : ∀ V : World, (Instr.index 62 (.agg #[.int .i64 4837, .int .i64 4855, .int .i64 4834, .int .i64 4831, .int .i64 4853, .int .i64 4841]) (.int .i64 4)).run Tryd.prog V = .ok (.int .i64 4853) V := fun V => by kernel_rfl
  have x5 : ∀ V : World, (Instr.index 62 (.agg #[.int .i64 4837, .int .i64 4855, .int .i64 4834, .int .i64 4831, .int .i64 4853, .int .i64 4841]) (.int .i64 5)).run Tryd.prog V = .ok (.int .i64 4841) V := fun V => by kernel_rfl
  clear ht
  go_enter Tryd.func12, Tryd.ntmps12
  go_wp2
  refine wp_loop_rounds 7 ?_
  rw [rounds_succ]
  go_wp2_with fail
  refine (reasonOf_any 4837 _).mono ?_
  rintro e w1 ⟨rfl, b1⟩
  rw [show rTxt 4837 = txF from rfl]
  have HB1 : Hid (Below w.heap.size w w1) := b1
  clear b1
  obtain ⟨X0, hX0⟩ : ∃ X, txF = X := ⟨_, rfl⟩
  rw [hX0]
  cases h0 : (X0.toList == s.toList)
  rotate_left
  · have HP : Hid ((txF.toList == s.toList) = true) := by rw [Hid, hX0]; exact h0
    clear hX0
    go_wp2
    go_ret
    exact ⟨one_int (show rdV s = 4837 by rw [rdV, if_pos HP.out]).symm, HB1.out.alloc HB1.out.size _⟩
  have N0 : Hid ((txF.toList == s.toList) = false) := by rw [Hid, hX0]; exact h0
  clear hX0
  go_wp2
  rw [rounds_succ]
  go_wp2_with fail
  refine (reasonOf_any 4855 _).mono ?_
  rintro e w2 ⟨rfl, b2⟩
  rw [show rTxt 4855 = txN from rfl]
  have HB2 : Hid (Below w.heap.size w w2) := next (HB1.out.alloc HB1.out.size _) b2
  clear b2
  obtain ⟨X1, hX1⟩ : ∃ X, txN = X := ⟨_, rfl⟩
  rw [hX1]
  cases h1 : (X1.toList == s.toList)
  rotate_left
  · have HP : Hid ((txN.toList == s.toList) = true) := by rw [Hid, hX1]; exact h1
    clear hX1
    go_wp2
    go_ret
    exact ⟨one_int (show rdV s = 4855 by rw [rdV, if_neg (by rw [N0.out]; decide), if_pos HP.out]).symm, HB2.out.alloc HB2.out.size _⟩
  have N1 : Hid ((txN.toList == s.toList) = false) := by rw [Hid, hX1]; exact h1
  clear hX1
  go_wp2
  rw [rounds_succ]
  go_wp2_with fail
  refine (reasonOf_any 4834 _).mono ?_
  rintro e w3 ⟨rfl, b3⟩
  rw [show rTxt 4834 = txT from rfl]
  have HB3 : Hid (Below w.heap.size w w3) := next (HB2.out.alloc HB2.out.size _) b3
  clear b3
  obtain ⟨X2, hX2⟩ : ∃ X, txT = X := ⟨_, rfl⟩
  rw [hX2]
  cases h2 : (X2.toList == s.toList)
  rotate_left
  · have HP : Hid ((txT.toList == s.toList) = true) := by rw [Hid, hX2]; exact h2
    clear hX2
    go_wp2
    go_ret
    exact ⟨one_int (show rdV s = 4834 by rw [rdV, if_neg (by rw [N0.out]; decide), if_neg (by rw [N1.out]; decide), if_pos HP.out]).symm, HB3.out.alloc HB3.out.size _⟩
  have N2 : Hid ((txT.toList == s.toList) = false) := by rw [Hid, hX2]; exact h2
  clear hX2
  go_wp2
  rw [rounds_succ]
  go_wp2_with fail
  refine (reasonOf_any 4831 _).mono ?_
  rintro e w4 ⟨rfl, b4⟩
  rw [show rTxt 4831 = txA from rfl]
  have HB4 : Hid (Below w.heap.size w w4) := next (HB3.out.alloc HB3.out.size _) b4
  clear b4
  obtain ⟨X3, hX3⟩ : ∃ X, txA = X := ⟨_, rfl⟩
  rw [hX3]
  cases h3 : (X3.toList == s.toList)
  rotate_left
  · have HP : Hid ((txA.toList == s.toList) = true) := by rw [Hid, hX3]; exact h3
    clear hX3
    go_wp2
    go_ret
    exact ⟨one_int (show rdV s = 4831 by rw [rdV, if_neg (by rw [N0.out]; decide), if_neg (by rw [N1.out]; decide), if_neg (by rw [N2.out]; decide), if_pos HP.out]).symm, HB4.out.alloc HB4.out.size _⟩
  have N3 : Hid ((txA.toList == s.toList) = false) := by rw [Hid, hX3]; exact h3
  clear hX3
  go_wp2
  rw [rounds_succ]
  go_wp2_with fail
  refine (reasonOf_any 4853 _).mono ?_
  rintro e w5 ⟨rfl, b5⟩
  rw [show rTxt 4853 = txQ from rfl]
  have HB5 : Hid (Below w.heap.size w w5) := next (HB4.out.alloc HB4.out.size _) b5
  clear b5
  obtain ⟨X4, hX4⟩ : ∃ X, txQ = X := ⟨_, rfl⟩
  rw [hX4]
  cases h4 : (X4.toList == s.toList)
  rotate_left
  · have HP : Hid ((txQ.toList == s.toList) = true) := by rw [Hid, hX4]; exact h4
    clear hX4
    go_wp2
    go_ret
    exact ⟨one_int (show rdV s = 4853 by rw [rdV, if_neg (by rw [N0.out]; decide), if_neg (by rw [N1.out]; decide), if_neg (by rw [N2.out]; decide), if_neg (by rw [N3.out]; decide), if_pos HP.out]).symm, HB5.out.alloc HB5.out.size _⟩
  have N4 : Hid ((txQ.toList == s.toList) = false) := by rw [Hid, hX4]; exact h4
  clear hX4
  go_wp2
  rw [rounds_succ]
  go_wp2_with fail
  refine (reasonOf_any 4841 _).mono ?_
  rintro e w6 ⟨rfl, b6⟩
  rw [show rTxt 4841 = txC from rfl]
  have HB6 : Hid (Below w.heap.size w w6) := next (HB5.out.alloc HB5.out.size _) b6
  clear b6
  obtain ⟨X5, hX5⟩ : ∃ X, txC = X := ⟨_, rfl⟩
  rw [hX5]
  cases h5 : (X5.toList == s.toList)
  rotate_left
  · have HP : Hid ((txC.toList == s.toList) = true) := by rw [Hid, hX5]; exact h5
    clear hX5
    go_wp2
    go_ret
    exact ⟨one_int (show rdV s = 4841 by rw [rdV, if_neg (by rw [N0.out]; decide), if_neg (by rw [N1.out]; decide), if_neg (by rw [N2.out]; decide), if_neg (by rw [N3.out]; decide), if_neg (by rw [N4.out]; decide), if_pos HP.out]).symm, HB6.out.alloc HB6.out.size _⟩
  have N5 : Hid ((txC.toList == s.toList) = false) := by rw [Hid, hX5]; exact h5
  clear hX5
  go_wp2
  rw [rounds_succ]
  go_wp2
  go_ret
  exact ⟨one_int (show rdV s = -1 by rw [rdV, if_neg (by rw [N0.out]; decide), if_neg (by rw [N1.out]; decide), if_neg (by rw [N2.out]; decide), if_neg (by rw [N3.out]; decide), if_neg (by rw [N4.out]; decide), if_neg (by rw [N5.out]; decide)]).symm, HB6.out.alloc HB6.out.size _⟩

set_option maxHeartbeats 800000 in
theorem names_any (w : World) : Calls Tryd.prog 40 #[] w fun e w' => e = .returned (.slice (some ⟨w.heap.size, 0, none⟩) 6 6) ∧ w' = w.alloc (.cells #[.string txF, .string txN, .string txT, .string txA, .string txQ, .string txC] 9) := by
  go_enter Tryd.func40, Tryd.ntmps40
  go_wp2
  go_ret
  exact ⟨rfl, rfl⟩
set_option maxHeartbeats 6400000 in
theorem sRead_any (s : ByteArray) (w : World) :
    Calls Tryd.prog 11 #[.string s] w fun e w' => e = .returned (.int .i64 (rdV s)) ∧ Below w.heap.size w w' := by
  obtain ⟨W, hW⟩ : ∃ W, W = w.alloc (.cells #[.int .i64 4837, .int .i64 4855, .int .i64 4834, .int .i64 4831, .int .i64 4853, .int .i64 4841] 3) := ⟨_, rfl⟩
  have HW : Hid _ := hW
  have HB0 : Hid (Below w.heap.size w W) := by rw [Hid, hW]; exact (Below.refl _ _).alloc (Nat.le_refl _) _
  have HL : Hid (w.heap.size < W.heap.size) := by rw [Hid, hW]; simp
  have HC : Hid (∀ k, k < 6 → W.cell? ⟨w.heap.size, k, none⟩ = some (.int .i64 (rL.getD k 0))) := by
    intro k hk
    rw [hW]
    rcases (show k = 0 ∨ k = 1 ∨ k = 2 ∨ k = 3 ∨ k = 4 ∨ k = 5 by omega) with rfl | rfl | rfl | rfl | rfl | rfl <;> simp [rL]
  clear hW
  go_enter Tryd.func11, Tryd.ntmps11
  go_upto_region 2 with fail
  rw [← HW.out]
  clear HW
  go_wp2
  refine wp_loop_rounds 7 ?_
  rw [rounds_succ]
  go_wp2_with fail
  refine (names_any _).mono ?_
  rintro e v0 ⟨rfl, hv0⟩
  obtain ⟨X0, hX0⟩ : ∃ X, txF = X := ⟨_, rfl⟩
  have HT0 : Hid (Below W.heap.size W v0) := by rw [Hid, hv0]; exact (Below.refl _ _).alloc (Nat.le_refl _) _
  have q0 : v0.cell? ⟨W.heap.size, 0, none⟩ = some (.string X0) := by rw [hv0, ← hX0]; simp
  have p0 : v0.cell? ⟨w.heap.size, 0, none⟩ = some (.int .i64 4837) := (HT0.out.cell (p := ⟨w.heap.size, 0, none⟩) HL.out).trans (HC.out 0 (by decide))
  clear hv0
  cases h0 : (X0.toList == s.toList)
  rotate_left
  · have HP : Hid ((txF.toList == s.toList) = true) := by rw [Hid, hX0]; exact h0
    clear hX0
    go_wp2
    go_ret
    exact ⟨one_int (show rdV s = 4837 by rw [rdV, if_pos HP.out]).symm, next HB0.out HT0.out⟩
  have N0 : Hid ((txF.toList == s.toList) = false) := by rw [Hid, hX0]; exact h0
  clear hX0 p0
  go_wp2
  clear q0
  rw [rounds_succ]
  go_wp2_with fail
  refine (names_any _).mono ?_
  rintro e v1 ⟨rfl, hv1⟩
  obtain ⟨X1, hX1⟩ : ∃ X, txN = X := ⟨_, rfl⟩
  have HT1 : Hid (Below W.heap.size W v1) := by rw [Hid, hv1]; exact HT0.out.alloc HT0.out.size _
  have q1 : v1.cell? ⟨v0.heap.size, 1, none⟩ = some (.string X1) := by rw [hv1, ← hX1]; simp
  have p1 : v1.cell? ⟨w.heap.size, 1, none⟩ = some (.int .i64 4855) := (HT1.out.cell (p := ⟨w.heap.size, 1, none⟩) HL.out).trans (HC.out 1 (by decide))
  clear hv1
  cases h1 : (X1.toList == s.toList)
  rotate_left
  · have HP : Hid ((txN.toList == s.toList) = true) := by rw [Hid, hX1]; exact h1
    clear hX1
    go_wp2
    go_ret
    exact ⟨one_int (show rdV s = 4855 by rw [rdV, if_neg (by rw [N0.out]; decide), if_pos HP.out]).symm, next HB0.out HT1.out⟩
  have N1 : Hid ((txN.toList == s.toList) = false) := by rw [Hid, hX1]; exact h1
  clear hX1 p1
  go_wp2
  clear q1
  rw [rounds_succ]
  go_wp2_with fail
  refine (names_any _).mono ?_
  rintro e v2 ⟨rfl, hv2⟩
  obtain ⟨X2, hX2⟩ : ∃ X, txT = X := ⟨_, rfl⟩
  have HT2 : Hid (Below W.heap.size W v2) := by rw [Hid, hv2]; exact HT1.out.alloc HT1.out.size _
  have q2 : v2.cell? ⟨v1.heap.size, 2, none⟩ = some (.string X2) := by rw [hv2, ← hX2]; simp
  have p2 : v2.cell? ⟨w.heap.size, 2, none⟩ = some (.int .i64 4834) := (HT2.out.cell (p := ⟨w.heap.size, 2, none⟩) HL.out).trans (HC.out 2 (by decide))
  clear hv2
  cases h2 : (X2.toList == s.toList)
  rotate_left
  · have HP : Hid ((txT.toList == s.toList) = true) := by rw [Hid, hX2]; exact h2
    clear hX2
    go_wp2
    go_ret
    exact ⟨one_int (show rdV s = 4834 by rw [rdV, if_neg (by rw [N0.out]; decide), if_neg (by rw [N1.out]; decide), if_pos HP.out]).symm, next HB0.out HT2.out⟩
  have N2 : Hid ((txT.toList == s.toList) = false) := by rw [Hid, hX2]; exact h2
  clear hX2 p2
  go_wp2
  clear q2
  rw [rounds_succ]
  go_wp2_with fail
  refine (names_any _).mono ?_
  rintro e v3 ⟨rfl, hv3⟩
  obtain ⟨X3, hX3⟩ : ∃ X, txA = X := ⟨_, rfl⟩
  have HT3 : Hid (Below W.heap.size W v3) := by rw [Hid, hv3]; exact HT2.out.alloc HT2.out.size _
  have q3 : v3.cell? ⟨v2.heap.size, 3, none⟩ = some (.string X3) := by rw [hv3, ← hX3]; simp
  have p3 : v3.cell? ⟨w.heap.size, 3, none⟩ = some (.int .i64 4831) := (HT3.out.cell (p := ⟨w.heap.size, 3, none⟩) HL.out).trans (HC.out 3 (by decide))
  clear hv3
  cases h3 : (X3.toList == s.toList)
  rotate_left
  · have HP : Hid ((txA.toList == s.toList) = true) := by rw [Hid, hX3]; exact h3
    clear hX3
    go_wp2
    go_ret
    exact ⟨one_int (show rdV s = 4831 by rw [rdV, if_neg (by rw [N0.out]; decide), if_neg (by rw [N1.out]; decide), if_neg (by rw [N2.out]; decide), if_pos HP.out]).symm, next HB0.out HT3.out⟩
  have N3 : Hid ((txA.toList == s.toList) = false) := by rw [Hid, hX3]; exact h3
  clear hX3 p3
  go_wp2
  clear q3
  rw [rounds_succ]
  go_wp2_with fail
  refine (names_any _).mono ?_
  rintro e v4 ⟨rfl, hv4⟩
  obtain ⟨X4, hX4⟩ : ∃ X, txQ = X := ⟨_, rfl⟩
  have HT4 : Hid (Below W.heap.size W v4) := by rw [Hid, hv4]; exact HT3.out.alloc HT3.out.size _
  have q4 : v4.cell? ⟨v3.heap.size, 4, none⟩ = some (.string X4) := by rw [hv4, ← hX4]; simp
  have p4 : v4.cell? ⟨w.heap.size, 4, none⟩ = some (.int .i64 4853) := (HT4.out.cell (p := ⟨w.heap.size, 4, none⟩) HL.out).trans (HC.out 4 (by decide))
  clear hv4
  cases h4 : (X4.toList == s.toList)
  rotate_left
  · have HP : Hid ((txQ.toList == s.toList) = true) := by rw [Hid, hX4]; exact h4
    clear hX4
    go_wp2
    go_ret
    exact ⟨one_int (show rdV s = 4853 by rw [rdV, if_neg (by rw [N0.out]; decide), if_neg (by rw [N1.out]; decide), if_neg (by rw [N2.out]; decide), if_neg (by rw [N3.out]; decide), if_pos HP.out]).symm, next HB0.out HT4.out⟩
  have N4 : Hid ((txQ.toList == s.toList) = false) := by rw [Hid, hX4]; exact h4
  clear hX4 p4
  go_wp2
  clear q4
  rw [rounds_succ]
  go_wp2_with fail
  refine (names_any _).mono ?_
  rintro e v5 ⟨rfl, hv5⟩
  obtain ⟨X5, hX5⟩ : ∃ X, txC = X := ⟨_, rfl⟩
  have HT5 : Hid (Below W.heap.size W v5) := by rw [Hid, hv5]; exact HT4.out.alloc HT4.out.size _
  have q5 : v5.cell? ⟨v4.heap.size, 5, none⟩ = some (.string X5) := by rw [hv5, ← hX5]; simp
  have p5 : v5.cell? ⟨w.heap.size, 5, none⟩ = some (.int .i64 4841) := (HT5.out.cell (p := ⟨w.heap.size, 5, none⟩) HL.out).trans (HC.out 5 (by decide))
  clear hv5
  cases h5 : (X5.toList == s.toList)
  rotate_left
  · have HP : Hid ((txC.toList == s.toList) = true) := by rw [Hid, hX5]; exact h5
    clear hX5
    go_wp2
    go_ret
    exact ⟨one_int (show rdV s = 4841 by rw [rdV, if_neg (by rw [N0.out]; decide), if_neg (by rw [N1.out]; decide), if_neg (by rw [N2.out]; decide), if_neg (by rw [N3.out]; decide), if_neg (by rw [N4.out]; decide), if_pos HP.out]).symm, next HB0.out HT5.out⟩
  have N5 : Hid ((txC.toList == s.toList) = false) := by rw [Hid, hX5]; exact h5
  clear hX5 p5
  go_wp2
  clear q5
  rw [rounds_succ]
  go_wp2
  go_ret
  exact ⟨one_int (show rdV s = -1 by rw [rdV, if_neg (by rw [N0.out]; decide), if_neg (by rw [N1.out]; decide), if_neg (by rw [N2.out]; decide), if_neg (by rw [N3.out]; decide), if_neg (by rw [N4.out]; decide), if_neg (by rw [N5.out]; decide)]).symm, next HB0.out HT5.out⟩

end Go.Proofs.YtcglkfhphinfaaaDoor
