/- Proved: whatever the bytes of the draw, PackMessage, MessageText and UnpackMessage of the program answer as the specification's at what is drawn; a message that is packed comes back from its bytes, and with a byte behind them it is told as too much there; what is unpacked packs to the same bytes. What it takes: the listed tables of Go's library, and errors.errorType, hold what the library's text lays (the card ties that to the program). -/
import Derived.Test.YtbncdhfmhokgeaaGreatDoorJFnMessage7a
import Derived.Test.YtbncdhfmhokgeaaGreatDoorJFnMessage4a
import Derived.Test.YtbncdhfmhokgeaaGreatDoorKFnMessageSameM
import Derived.Test.YtbncdhfmhokgeaaGreatDoorKFnMessageSText
import Derived.Test.YtbncdhfmhokgeaaGreatDoorKFnMessageSUnp
import Derived.Test.YtbncdhfmhokgeaaGreatDoorJFnMessage3a
import Derived.Test.YtbncdhfmhokgeaaGreatDoorJFnMessage1a
import Derived.Test.YtbncdhfmhokgeaaGreatDoorJFnMessage0a
namespace Go.Proofs.YtbncdhfmhokgeaaGreatDoor.fnMessage
open Go.ChangeShapes Go.WideShapes Go.ChangeAt Go.RowKit
set_option maxRecDepth 100000

theorem fldsM_any {w : World} {base n : Nat} {t : TypeId} {ao : Option Addr} {cap : Nat} {fs : List Fld} (h : w.ownsRow base t 2 (.slice ao fs.length cap) n (fcells fs)) : FldsAt w ao fs := by
  obtain ⟨ao', cap', hv, hf, _⟩ := flds_of_own' h
  obtain ⟨rfl, _⟩ : ao = ao' ∧ cap = cap' := by simpa using hv
  exact hf
theorem ErrTyB {w w' : World} (h : ErrTy w) (hb : Below w.heap.size w w') : ErrTy w' := (hb.cell (World.block_lt_of_cell? w _ h)).trans h
theorem unpM_len (l : List UInt8) : (unp l).2.2.2.length ≤ 129 ∧ sumF (unp l).2.2.2 ≤ 1000000 := by
  by_cases h : (unp l).1 = 0
  · obtain ⟨h1, -⟩ := pack_unp h
    obtain ⟨-, hf⟩ := msgOk_parts h1
    have h2 : (unp l).2.2.2.length ≤ 93 := by rcases okF_len hf (by omega) with h | h
                                              · rw [h]; simp
                                              · omega
    refine ⟨by omega, ?_⟩
    have hd : ∀ f ∈ (unp l).2.2.2, f.2.length ≤ 999 := fun f hf' => by
      have := fieldOk_K (okF_mem hf f hf').1
      omega
    have h3 : ∀ gs : List Fld, (∀ f ∈ gs, f.2.length ≤ 999) → sumF gs ≤ 999 * gs.length := by
      intro gs
      induction gs with
      | nil => intro _; simp [sumF]
      | cons f r ih =>
        intro hg
        have h1 := hg f (List.mem_cons_self ..)
        have h2 := ih (fun x hx => hg x (List.mem_cons_of_mem _ hx))
        simp only [sumF, List.map_cons, List.sum_cons, List.length_cons] at h2 ⊢
        omega
    have := h3 _ hd
    omega
  · rw [unp_no h]; simp [sumF]
theorem box_keep {w u : World} {b : Nat} {x y : Value} (h : w.cell? ⟨b, 0, none⟩ = some x ∧ w.cell? ⟨b, 1, none⟩ = some y) (hb : Below w.heap.size w u) : u.cell? ⟨b, 0, none⟩ = some x ∧ u.cell? ⟨b, 1, none⟩ = some y :=
  ⟨(hb.cell (World.block_lt_of_cell? w _ h.1)).trans h.1, (hb.cell (World.block_lt_of_cell? w _ h.2)).trans h.2⟩

set_option maxHeartbeats 12800000 in
theorem walk (a : Option Addr) (len cap : Nat) (zs : List Int) (w : World) (hr : IsRow .u8 w a len cap zs) (hL : laidMetH Tryz.prog Rows.fnMessageRow.laid w) (hsh : w.ShapedOpen Tryz.prog) :
    Calls Tryz.prog 3 #[.slice a len cap] w fun e w' => e = .returned (.bool true) ∧ Below w.heap.size w w' := by
  have h' : laidMet Tryz.prog [("math/bits.deBruijn32tab", Rows.laid_math_bits_deBruijn32tab), ("math/bits.deBruijn64tab", Rows.laid_math_bits_deBruijn64tab), ("internal/strconv.uint64pow10", Rows.laid_internal_strconv_uint64pow10), ("unicode/utf8.acceptRanges", Rows.laid_unicode_utf8_acceptRanges), ("unicode/utf8.first", Rows.laid_unicode_utf8_first)] w ∧ handlesMet Tryz.prog [("errors.errorType", Rows.laid_errors_errorType)] w := hL
  have HT : Hid (Pow10 w) := pow10_head h'.1.tail.tail
  have HE : Hid (ErrTy w) := handle_of h'.2
  have HX : Hid (MaxL w) := Tryz.laysM155.s1_3 w hsh
  clear hL hsh h'
  by_cases hbig : (1048576 : Int) < (len : Int)
  · have hdec : decide ((1048576 : Int) < (len : Int)) = true := decide_eq_true hbig
    go_enter Tryz.func3, Tryz.ntmps3
    go_wp2_with fail
    refine (big_any _ _ _ _).mono ?_
    rintro e w1 ⟨rfl, hw1⟩
    rw [hw1, hdec]
    clear hw1
    go_wp2
    go_ret
    exact ⟨rfl, Below.refl _ _⟩
  have hn : len ≤ 1048576 := by omega
  have hdec : decide ((1048576 : Int) < (len : Int)) = false := decide_eq_false hbig
  go_enter Tryz.func3, Tryz.ntmps3
  go_wp2_with fail
  refine (big_any _ _ _ _).mono ?_
  rintro e w1 ⟨rfl, hw1⟩
  rw [hw1, hdec]
  clear hw1 w1 hdec hbig
  go_wp2_with fail
  refine (drawPM_any _ _ _ _ _ hr hn).mono ?_
  rintro e u2 ⟨kd, ao, c, fs, rfl, d1, d2, d3, q2⟩
  have hsum := sumM_le d1 d2
  have bA1 : Below u2.heap.size u2 (u2.alloc (.cells #[.int .i64 kd, .slice ao fs.length c] 26)) := by go_grown
  have q2a := next q2 bA1
  have d3a := d3.below bA1
  clear d2 d3
  go_wp2_with fail
  refine (iPack_any kd ao c fs _ d3a (by omega) (by omega) (HT.out.below q2a)).mono ?_
  rintro e u3 ⟨rfl, b3⟩
  have x3 : u3.cell? ⟨u2.heap.size, 0, none⟩ = some (.int .i64 kd) ∧ u3.cell? ⟨u2.heap.size, 1, none⟩ = some (.slice ao fs.length c) := ⟨(b3.cell (p := ⟨u2.heap.size, 0, none⟩) (by simp)).trans (by simp [go_sem]), (b3.cell (p := ⟨u2.heap.size, 1, none⟩) (by simp)).trans (by simp [go_sem])⟩
  have q3 := next q2a b3
  have f3 := d3a.below b3
  obtain ⟨x30, x31⟩ := x3
  clear b3 q2 q2a d3a bA1
  go_wp2_with fail
  refine (sPack_any kd ao c fs _ f3 (by omega) (by omega)).mono ?_
  rintro e u4 ⟨rfl, b4⟩
  obtain ⟨x40, x41⟩ := box_keep ⟨x30, x31⟩ b4
  have q4 := next q3 b4
  have f4 := f3.below b4
  clear b4 q3 f3 x30 x31
  have HBK : Hid (msgOk kd fs = true → unp (packL kd fs) = (0, 0, kd, fs) ∧ unp (packL kd fs ++ [120]) = (4, ((packL kd fs).length : Int), 0, [])) := fun h => by
    have h1 := unp_pack [] h
    have h2 := unp_pack [120] h
    rw [List.append_nil, if_pos rfl] at h1
    rw [if_neg (by simp)] at h2
    exact ⟨h1, h2⟩
  have hpb := packL_bd kd fs
  obtain ⟨S, hS⟩ : ∃ S, packL kd fs = S := ⟨_, rfl⟩
  rw [hS] at hpb HBK ⊢
  obtain ⟨T, hT⟩ : ∃ T, textL kd fs = T := ⟨_, rfl⟩
  have hss : (S == S) = true := by simp
  have htt : (T == T) = true := by simp
  have hne := over_ne u4
  have g0 := over_cell x40
  have g1 := over_cell x41
  have H1 : Hid (∀ z : Over u4, Calls Tryz.prog 11 #[.agg #[.int .i64 kd, .slice ao fs.length c]] z.x fun e w'' => e = .returned (.string ⟨T.toArray⟩) ∧ ∃ y : Over u4, w'' = y.x) := fun z => over_of (by rw [← hT]; exact iText_any kd ao c fs _ (f4.below z.h) (by omega) (by omega) (HT.out.below (next q4 z.h)) (HX.out.below (next q4 z.h)))
  have H2 : Hid (∀ z : Over u4, Calls Tryz.prog 12 #[.agg #[.int .i64 kd, .slice ao fs.length c]] z.x fun e w'' => e = .returned (.string ⟨T.toArray⟩) ∧ ∃ y : Over u4, w'' = y.x) := fun z => over_of (by rw [← hT]; exact sText_any kd ao c fs _ (f4.below z.h) (by omega) (by omega))
  clear hT hS
  obtain ⟨ok, hok⟩ : ∃ ok, msgOk kd fs = ok := ⟨_, rfl⟩
  rw [hok] at HBK ⊢
  clear hok
  go_wp2
  refine wp_region_over (by kernel_rfl) (by kernel_rfl) ?_
  repeat (go_big_quiet_step (first | with_reducible exact H1.out _ | with_reducible exact H2.out _))
  refine wpQuiet_nil ?_
  rintro u5 ⟨⟨wz, b5⟩, hw5⟩
  subst hw5
  obtain ⟨x50, x51⟩ := box_keep ⟨x40, x41⟩ b5
  have q5 := next q4 b5
  have f5 := f4.below b5
  clear b5 q4 f4 x40 x41 g0 g1 hne H1 H2
  cases ok
  · have QQ := q5
    clear HBK x50 x51 f5 q5
    have hr4 := row_below hr QQ
    go_wp2_with fail
    refine (drawUM_any _ _ _ _ _ hr4 hn).mono ?_
    rintro e v1 ⟨u, rfl, hul, bv1⟩
    have Q1 := next QQ bv1
    clear bv1 QQ hr4
    go_wp2_with fail
    refine (iUnpack_any u _ (by omega) (ErrTyB HE.out Q1)).mono ?_
    rintro e v2 ⟨bv2, a2, c2, rfl, o2⟩
    have Q2 := next Q1 bv2
    have f2 := fldsM_any o2
    obtain ⟨hul1, hul2⟩ := unpM_len u
    have HPU : Hid ((unp u).1 = 0 → msgOk (unp u).2.2.1 (unp u).2.2.2 = true ∧ packL (unp u).2.2.1 (unp u).2.2.2 = u) := fun h => pack_unp h
    obtain ⟨uk, huk⟩ : ∃ x, (unp u).2.2.1 = x := ⟨_, rfl⟩
    obtain ⟨uf, huf⟩ : ∃ x, (unp u).2.2.2 = x := ⟨_, rfl⟩
    obtain ⟨uc, huc⟩ : ∃ x, (unp u).1 = x := ⟨_, rfl⟩
    obtain ⟨ua, hua⟩ : ∃ x, (unp u).2.1 = x := ⟨_, rfl⟩
    rw [huf] at f2 hul1 hul2 HPU ⊢
    rw [huk] at HPU ⊢
    rw [huc] at HPU ⊢
    rw [hua]
    have HUC : Hid _ := And.intro huc hua
    clear bv2 Q1 o2 huk huf huc hua
    go_wp2_with fail
    refine (sUnpack_any u _ (by omega)).mono ?_
    rintro e v3 ⟨bv3, a3, c3, rfl, -⟩
    rw [HUC.out.1, HUC.out.2]
    have y3 : v3.cell? ⟨v2.heap.size, 0, none⟩ = some (.int .i64 uk) ∧ v3.cell? ⟨v2.heap.size, 1, none⟩ = some (.slice a2 uf.length c2) := ⟨(bv3.cell (p := ⟨v2.heap.size, 0, none⟩) (by simp)).trans (by simp [go_sem]), (bv3.cell (p := ⟨v2.heap.size, 1, none⟩) (by simp)).trans (by simp [go_sem])⟩
    have f3 := (f2.below (show Below v2.heap.size v2 (v2.alloc (.cells #[.int .i64 uk, .slice a2 uf.length c2] 26)) by go_grown)).below bv3
    have Q3 := next (next Q2 (show Below v2.heap.size v2 (v2.alloc (.cells #[.int .i64 uk, .slice a2 uf.length c2] 26)) by go_grown)) bv3
    obtain ⟨y30, y31⟩ := y3
    clear bv3 Q2 f2
    have hlt3 : v2.heap.size < v3.heap.size := World.block_lt_of_cell? v3 _ y30
    generalize (unp u).2.2.1 = sk
    generalize (unp u).2.2.2 = sf
    go_wp2_with fail
    refine (iPack_any uk a2 c2 uf _ (f3.below (by go_grown)) (by omega) (by omega) (HT.out.below (next Q3 (by go_grown)))).mono ?_
    rintro e v4 ⟨rfl, bv4⟩
    have Q4 := next (next Q3 (by go_grown)) bv4
    clear bv4 Q3 f3 y30 y31
    by_cases hz : uc = 0
    · subst hz
      obtain ⟨e1, e2⟩ := HPU.out rfl
      rw [e1, e2]
      have huu : (u == u) = true := by simp
      clear e1 e2 HPU HUC
      go_wp2
      go_ret
      exact ⟨one_bool (by first | rfl | simp), Q4⟩
    · have hzi : (uc == 0) = false := by simpa using hz
      generalize packL uk uf = X
      generalize msgOk uk uf = Y
      clear HPU HUC
      go_wp2
      go_ret
      exact ⟨one_bool (by first | rfl | simp), Q4⟩
  · obtain ⟨hb1, hb2⟩ := HBK.out rfl
    have HB1 : Hid _ := hb1
    have HB2 : Hid _ := hb2
    clear HBK hb1 hb2
    go_wp2_with fail
    refine (iUnpack_any S _ (by omega) (ErrTyB HE.out q5)).mono ?_
    rintro e u6 ⟨b6, a6, c6, rfl, o6⟩
    rw [HB1.out] at o6 ⊢
    have q6 := next q5 b6
    obtain ⟨x60, x61⟩ := box_keep ⟨x50, x51⟩ b6
    have f6 := f5.below b6
    have n6 := fldsM_any o6
    clear b6 q5 x50 x51 f5 o6
    simp only at n6 ⊢
    have bA6 : Below u6.heap.size u6 (u6.alloc (.cells #[.int .i64 kd, .slice a6 fs.length c6] 26)) := by go_grown
    have q6a := next q6 bA6
    have hbb : (⟨S.toArray⟩ ++ ⟨#[120]⟩ : ByteArray) = ⟨(S ++ [120]).toArray⟩ := by rw [show (⟨#[120]⟩ : ByteArray) = ⟨[120].toArray⟩ from rfl, ba_append]
    go_wp2_with fail
    first | rw [hbb] | skip
    refine (iUnpack_any (S ++ [120]) _ (by simp; omega) (ErrTyB HE.out q6a)).mono ?_
    rintro e u7 ⟨b7, a7, c7, rfl, -⟩
    rw [HB2.out]
    have q7 := next q6a b7
    obtain ⟨x70, x71⟩ := box_keep (box_keep ⟨x60, x61⟩ bA6) b7
    have m7 : u7.cell? ⟨u6.heap.size, 0, none⟩ = some (.int .i64 kd) ∧ u7.cell? ⟨u6.heap.size, 1, none⟩ = some (.slice a6 fs.length c6) := ⟨(b7.cell (p := ⟨u6.heap.size, 0, none⟩) (by simp)).trans (by simp [go_sem]), (b7.cell (p := ⟨u6.heap.size, 1, none⟩) (by simp)).trans (by simp [go_sem])⟩
    obtain ⟨m70, m71⟩ := m7
    have f7 := (f6.below bA6).below b7
    have n7 := (n6.below bA6).below b7
    have hlt6 : u6.heap.size < u7.heap.size := World.block_lt_of_cell? u7 _ m70
    have hlt2 : u2.heap.size < u7.heap.size := World.block_lt_of_cell? u7 _ x70
    clear b7 q6 q6a bA6 x60 x61 f6 n6 HB1 HB2
    simp only [List.length_nil]
    go_wp2_with fail
    refine (sameMessage_any kd kd a6 ao c6 c fs fs _ (n7.below (by go_grown)) (f7.below (by go_grown)) (by omega) (by omega)).mono ?_
    rintro e u8 ⟨rfl, b8⟩
    rw [sameM_self]
    have QQ := next (next q7 (by go_grown)) b8
    clear b8 q7 x70 x71 m70 m71 f7 n7
    have hr4 := row_below hr QQ
    go_wp2_with fail
    refine (drawUM_any _ _ _ _ _ hr4 hn).mono ?_
    rintro e v1 ⟨u, rfl, hul, bv1⟩
    have Q1 := next QQ bv1
    clear bv1 QQ hr4
    go_wp2_with fail
    refine (iUnpack_any u _ (by omega) (ErrTyB HE.out Q1)).mono ?_
    rintro e v2 ⟨bv2, a2, c2, rfl, o2⟩
    have Q2 := next Q1 bv2
    have f2 := fldsM_any o2
    obtain ⟨hul1, hul2⟩ := unpM_len u
    have HPU : Hid ((unp u).1 = 0 → msgOk (unp u).2.2.1 (unp u).2.2.2 = true ∧ packL (unp u).2.2.1 (unp u).2.2.2 = u) := fun h => pack_unp h
    obtain ⟨uk, huk⟩ : ∃ x, (unp u).2.2.1 = x := ⟨_, rfl⟩
    obtain ⟨uf, huf⟩ : ∃ x, (unp u).2.2.2 = x := ⟨_, rfl⟩
    obtain ⟨uc, huc⟩ : ∃ x, (unp u).1 = x := ⟨_, rfl⟩
    obtain ⟨ua, hua⟩ : ∃ x, (unp u).2.1 = x := ⟨_, rfl⟩
    rw [huf] at f2 hul1 hul2 HPU ⊢
    rw [huk] at HPU ⊢
    rw [huc] at HPU ⊢
    rw [hua]
    have HUC : Hid _ := And.intro huc hua
    clear bv2 Q1 o2 huk huf huc hua
    go_wp2_with fail
    refine (sUnpack_any u _ (by omega)).mono ?_
    rintro e v3 ⟨bv3, a3, c3, rfl, -⟩
    rw [HUC.out.1, HUC.out.2]
    have y3 : v3.cell? ⟨v2.heap.size, 0, none⟩ = some (.int .i64 uk) ∧ v3.cell? ⟨v2.heap.size, 1, none⟩ = some (.slice a2 uf.length c2) := ⟨(bv3.cell (p := ⟨v2.heap.size, 0, none⟩) (by simp)).trans (by simp [go_sem]), (bv3.cell (p := ⟨v2.heap.size, 1, none⟩) (by simp)).trans (by simp [go_sem])⟩
    have f3 := (f2.below (show Below v2.heap.size v2 (v2.alloc (.cells #[.int .i64 uk, .slice a2 uf.length c2] 26)) by go_grown)).below bv3
    have Q3 := next (next Q2 (show Below v2.heap.size v2 (v2.alloc (.cells #[.int .i64 uk, .slice a2 uf.length c2] 26)) by go_grown)) bv3
    obtain ⟨y30, y31⟩ := y3
    clear bv3 Q2 f2
    have hlt3 : v2.heap.size < v3.heap.size := World.block_lt_of_cell? v3 _ y30
    generalize (unp u).2.2.1 = sk
    generalize (unp u).2.2.2 = sf
    go_wp2_with fail
    refine (iPack_any uk a2 c2 uf _ (f3.below (by go_grown)) (by omega) (by omega) (HT.out.below (next Q3 (by go_grown)))).mono ?_
    rintro e v4 ⟨rfl, bv4⟩
    have Q4 := next (next Q3 (by go_grown)) bv4
    clear bv4 Q3 f3 y30 y31
    by_cases hz : uc = 0
    · subst hz
      obtain ⟨e1, e2⟩ := HPU.out rfl
      rw [e1, e2]
      have huu : (u == u) = true := by simp
      clear e1 e2 HPU HUC
      go_wp2
      go_ret
      exact ⟨one_bool (by first | rfl | simp), Q4⟩
    · have hzi : (uc == 0) = false := by simpa using hz
      generalize packL uk uf = X
      generalize msgOk uk uf = Y
      clear HPU HUC
      go_wp2
      go_ret
      exact ⟨one_bool (by first | rfl | simp), Q4⟩

set_option maxRecDepth 100000 in
theorem lifted (os : Os) (started : os.Started) (H : Type) (enc : TypeId × Value → H) (F : Stop.Interp) :
    ReturnsInHanded {} Tryz.checked os 3 .any ((OpenSpec.ofChange Rows.fnMessageSpec).preRow enc Tryz.prog Tryz.f3 Rows.fnMessageRow.domain false Rows.fnMessageRow.laid)
      (((OpenSpec.ofChange Rows.fnMessageSpec).at F).post enc Tryz.prog Tryz.f3 false true false false) := by
  refine returnsInHanded_of_row (C := Tryz.checked) (s := OpenSpec.ofChange Rows.fnMessageSpec) own started (by kernel_rfl) Tryz.func3
    (ChangeSpec.witness_shaped (enc := enc) (C := Tryz.checked) (os := os) (X := fun w _ => laidMetH Tryz.prog Rows.fnMessageRow.laid w) false (World.layVars Tryz.prog ({ World.holding Tryz.prog os ⟨#[], #[], []⟩ with heap := (World.holding Tryz.prog os ⟨#[], #[], []⟩).heap.modify 0 fun | .cells _ t frozen => .cells #[.iface 198 (.agg #[.pointer (some ⟨7, 124, none⟩)])] t frozen | o => o } : World) (Rows.fnMessageRow.laid.filter fun x => x.2.handleName?.isNone)) #[.slice none 0 0] 8 ((World.layVars_os _ _ _).trans rfl)
      (World.shaped_of_ZipB (by kernel_rfl) (by kernel_rfl)) (by kernel_rfl) (by kernel_rfl) (by kernel_rfl)
      (laidMetH_of_parts (laidMet_over _ (by kernel_rfl) (by kernel_rfl)) (by kernel_rfl))) ?_
  intro W base args ds gs before hval0 hW _ _ _ hL hsh _
  have hval : ∀ (j : Nat) t v, Tryz.f3.params[j]? = some t → args[j]? = some v → Value.okWide Tryz.prog W .any base t v := hval0
  have hW' := hW
  obtain ⟨p, q, hA0, hV, rfl, _, _⟩ := hW
  have hA : DataW.TrodAll enc Tryz.prog W 0 (fun _ => true) true Tryz.f3.params.toList args.toList ds p := hA0
  rw [Tryz.params3] at hA hval
  obtain ⟨v0, vs0, d0, ds0, p0, q0, hargs, rfl, rfl, h0, r0⟩ := trodAll_cons hA
  obtain ⟨rfl, rfl, rfl⟩ := trodAll_nil r0
  obtain rfl : args = #[v0] := by cases args; simp_all
  obtain ⟨rfl, rfl⟩ := trodVars_none hV
  obtain ⟨a0, len0, cap0, rfl⟩ := okWide_slice Tryz.underlying22 (hval 0 22 v0 rfl rfl)
  have k0 := h0
  have lt0 : ∀ x ∈ p0, x.block < W.heap.size := by obtain ⟨m, hm⟩ := k0; exact DataW.trod_lt m _ _ _ hm
  obtain ⟨z0, w0⟩ : ∃ zs, IsRow .u8 W a0 len0 cap0 zs := is_row Tryz.underlying22 Tryz.underlying5 (by kernel_rfl) h0
  clear hA0 hval0
  refine (walk a0 len0 cap0 z0 W w0 hL hsh).mono fun e W' ⟨he, bel⟩ => ?_
  subst he
  exact ⟨_, rfl, _, _, _, [], _, [], hW', trodAll_mk1 (shut_bool Tryz.underlying4 _), (trodAll_cons_mk (Below.trod laidOut (by kernel_rfl) (of_decide_eq_true (by kernel_rfl)) k0 bel lt0) trodAll_mk0), rfl, bel.frame _, fun h => by cases h⟩

theorem said : Rows.FnMessageSaid :=
  OpenClaim.holds_of_cond 3 Tryz.f3 rfl rfl rfl rfl rfl rfl rfl ⟨rfl, rfl, rfl, rfl, rfl⟩ rfl rfl rfl rfl rfl (by kernel_rfl) Tryz.func3 (by kernel_rfl)
    (of_decide_eq_true (by kernel_rfl)) (by unfold Func.isWrapper; first | (rw [if_pos (by decide +kernel)]; kernel_rfl) | (rw [if_neg (by decide +kernel)]; exact ⟨rfl, rfl⟩))
    (fun os started H enc _ F => by rw [OpenClaim.pre_eq_preRow]; exact lifted os started H enc F)

theorem proved : Rows.FnMessageCardSaid :=
  Claim7.holds_tied_plain_at .later [] _ _ _ _ said (fun _ h => by cases h) (by kernel_rfl) (fun _ h => by cases h) fnMessage_row_tie rfl ⟨rfl, rfl⟩ (by kernel_rfl) rfl
    (fun f fn hf hfn => by
      obtain rfl : f = 3 := Option.some.inj ((show Tryz.prog.funcNamed "loop.example/g00126/laws.FnMessage" = some 3 by kernel_rfl).symm.trans hf) |>.symm
      obtain rfl : fn = Tryz.f3 := (Option.some.inj (Tryz.func3.symm.trans hfn)).symm
      refine ⟨by kernel_rfl, fun j t ht => ?_⟩
      rw [Tryz.params3] at ht
      have hm : t ∈ [22] := by have := Array.mem_of_getElem? ht; simp at this ⊢; first | exact this | exact this.symm
      have hall : ([22].all fun u => !Tryz.prog.wantsStandIn u) = true := by kernel_rfl
      have h1 := List.all_eq_true.1 hall t hm
      have h2 : Tryz.prog.wantsStandIn t = false := by simpa using h1
      exact h2)
    (by kernel_rfl)
end Go.Proofs.YtbncdhfmhokgeaaGreatDoor.fnMessage
