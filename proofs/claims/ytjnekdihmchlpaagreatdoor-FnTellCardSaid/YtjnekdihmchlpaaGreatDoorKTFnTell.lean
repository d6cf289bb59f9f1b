/- Proved: whatever the bytes of the draw, the program's Tell answers as the specification's at what is drawn; what is told is a message that packs and comes back, and the bank's number, the state's text and the amount are read back out of it. What it takes: the listed tables and errors of Go's library, errors.errorType and the table of the states' texts hold what the program's text lays (the card ties that to the program). -/
import Derived.Test.YtjnekdihmchlpaaGreatDoorRows
import Derived.Test.YtjnekdihmchlpaaGreatDoorJT5a
import Derived.Test.YtjnekdihmchlpaaGreatDoorKTDrawTl
import Derived.Test.YtjnekdihmchlpaaGreatDoorJT4a
import Derived.Test.YtjnekdihmchlpaaGreatDoorJT0a
import Derived.Test.YtjnekdihmchlpaaGreatDoorJT1b
import Derived.Test.YtjnekdihmchlpaaGreatDoorKTTellI
import Derived.Test.YtjnekdihmchlpaaGreatDoorKTTellS
import Derived.Test.YtjnekdihmchlpaaGreatDoorJT1a
import Derived.Test.YtjnekdihmchlpaaGreatDoorJT2a
namespace Go.Proofs.YtjnekdihmchlpaaGreatDoor.fnTell
open Go.ChangeShapes Go.WideShapes Go.ChangeAt Go.RowKit
set_option maxRecDepth 100000

theorem star : "*" ++ "errors.errorString" = "*errors.errorString" := by decide
theorem rowErr (u : TypeId) (h : Tryz.prog.typeName? 3 u = some "*errors.errorString") : u = 229 :=
  typeName_ptr_named (nm := "errors.errorString") (by rw [star]; kernel_rfl) (by kernel_rfl) (by decide) u (by rw [star]; exact h)
theorem cellsErr : Tryz.prog.cellsOf 231 = 1 := by kernel_rfl
theorem cellsStr : Tryz.prog.cellsOf 9 = 1 := by kernel_rfl
theorem gSyn : Tryz.prog.globalNamed "strconv.ErrSyntax" = some 2 := by kernel_rfl
theorem gSynT : (Tryz.prog.globals[2]?).map (·.type) = some 75 := by kernel_rfl
theorem gRng : Tryz.prog.globalNamed "strconv.ErrRange" = some 3 := by kernel_rfl
theorem gRngT : (Tryz.prog.globals[3]?).map (·.type) = some 75 := by kernel_rfl

/-- what is listed, from the powers of ten on -/
abbrev tabs : List (String × DataW Unit) := ("internal/strconv.uint64pow10", Rows.laid_internal_strconv_uint64pow10) :: [("unicode/utf8.acceptRanges", Rows.laid_unicode_utf8_acceptRanges), ("strconv.ErrRange", Rows.laid_strconv_ErrRange), ("strconv.ErrSyntax", Rows.laid_strconv_ErrSyntax), ("loop.example/g00126/impl.stateTexts", Rows.laid_loop_example_g00126_impl_stateTexts), ("unicode/utf8.first", Rows.laid_unicode_utf8_first)]
theorem tab_parts {w : World} (h : laidMetH Tryz.prog Rows.fnTellRow.laid w) : laidMet Tryz.prog tabs w ∧ ErrTy w := by
  have h' : laidMet Tryz.prog (("math/bits.deBruijn32tab", Rows.laid_math_bits_deBruijn32tab) :: ("math/bits.deBruijn64tab", Rows.laid_math_bits_deBruijn64tab) :: tabs) w ∧ handlesMet Tryz.prog [("errors.errorType", Rows.laid_errors_errorType)] w := h
  exact ⟨h'.1.tail.tail, handle_of h'.2⟩
theorem varTab {w : World} (h : laidMetH Tryz.prog Rows.fnTellRow.laid w) : StateTab w := state_head (tab_parts h).1.tail.tail.tail.tail
theorem env_read {w : World} (h1 : laidMet Tryz.prog tabs w) (hsh : w.ShapedOpen Tryz.prog) : Mo.ReadEnv w := by
  have h2 : laidMet Tryz.prog (("strconv.ErrRange", Rows.laid_strconv_ErrRange) :: [("strconv.ErrSyntax", Rows.laid_strconv_ErrSyntax), ("loop.example/g00126/impl.stateTexts", Rows.laid_loop_example_g00126_impl_stateTexts), ("unicode/utf8.first", Rows.laid_unicode_utf8_first)]) w := h1.tail.tail
  have h3 : laidMet Tryz.prog (("strconv.ErrSyntax", Rows.laid_strconv_ErrSyntax) :: [("loop.example/g00126/impl.stateTexts", Rows.laid_loop_example_g00126_impl_stateTexts), ("unicode/utf8.first", Rows.laid_unicode_utf8_first)]) w := h2.tail
  obtain ⟨a, _, hr, _⟩ := laid_sentinel h2 gRng gRngT Tryz.underlying75 rowErr Tryz.underlying229 Tryz.underlying231 rfl rfl Tryz.underlying9 cellsErr cellsStr
  obtain ⟨b, _, hs, _⟩ := laid_sentinel h3 gSyn gSynT Tryz.underlying75 rowErr Tryz.underlying229 Tryz.underlying231 rfl rfl Tryz.underlying9 cellsErr cellsStr
  refine ⟨pow10_head h1, ?_, ⟨_, _, hs⟩, ⟨_, _, hr⟩⟩
  exact cell_of_shapedOpen_int (zero := #[.int .i64 0]) (t := 3) hsh (of_decide_eq_true (by kernel_rfl)) (by kernel_rfl) rfl (by kernel_rfl) (by kernel_rfl) Tryz.underlying3
theorem flds_any {w : World} {base n : Nat} {t : TypeId} {ao : Option Addr} {cap : Nat} {fs : List Fld} (h : w.ownsRow base t 2 (.slice ao fs.length cap) n (fcells fs)) : FldsAt w ao fs := by
  obtain ⟨ao', cap', hv, hf, _⟩ := flds_of_own' h
  obtain ⟨rfl, _⟩ : ao = ao' ∧ cap = cap' := by simpa using hv
  exact hf
theorem ErrTyB {w w' : World} (h : ErrTy w) (hb : Below w.heap.size w w') : ErrTy w' := (hb.cell (World.block_lt_of_cell? w _ h)).trans h
theorem tellF_small {c : Cs} {n : Int} (h : tellOk c n = true) : sumF (tellF c n) ≤ 4000 ∧ (Tg.putL (tellTags c n)).length ≤ 999 := by
  obtain ⟨-, hf⟩ := msgOk_parts (tell_msg h)
  have hd : ∀ f ∈ tellF c n, f.2.length ≤ 999 := fun f hf' => by
    have := fieldOk_K (okF_mem hf f hf').1
    omega
  have h1 := hd (4, Tg.padT c.bk 12) (by simp [tellF])
  have h2 := hd (24, [54, 57, 49]) (by simp [tellF])
  have h3 := hd (48, Tg.putL (tellTags c n)) (by simp [tellF])
  have h4 := hd (49, Tg.padT c.cur 3) (by simp [tellF])
  refine ⟨?_, h3⟩
  simp only [tellF, sumF, List.map_cons, List.map_nil, List.sum_cons, List.sum_nil] at h1 h2 h3 h4 ⊢
  omega
theorem packL_bd (kd : Int) (fs : List Fld) : (packL kd fs).length ≤ 100000 := by
  cases h : msgOk kd fs
  · rw [packL_no h]; simp
  · rw [packL_yes h]
    obtain ⟨-, hf⟩ := msgOk_parts h
    have h1 := padT_l kd 4
    have h2 : (setF fs).length ≤ 16 := putS_len _
    have h3 := bodyP_len (fs := fs) (fun f hf' => (okF_mem hf f hf').1)
    have h4 : fs.length ≤ 93 := by
      rcases okF_len hf (by omega) with rfl | h
      · simp
      · omega
    rw [List.length_append, List.length_append]
    omega

/-- the three boxes: the case, what the program told, what the specification told -/
structure B2 (g : Nat) (k : Int) (a : Option Addr) (n cp : Nat) (u : World) : Prop where
  c0 : u.cell? ⟨g, 0, none⟩ = some (.int .i64 k)
  c1 : u.cell? ⟨g, 1, none⟩ = some (.slice a n cp)
theorem B2.below {g : Nat} {k : Int} {a : Option Addr} {n cp : Nat} {u u' : World} (h : B2 g k a n cp u) (b : Below u.heap.size u u') : B2 g k a n cp u' :=
  have l := World.block_lt_of_cell? u _ h.c0
  ⟨(b.cell (p := ⟨g, 0, none⟩) l).trans h.c0, (b.cell (p := ⟨g, 1, none⟩) l).trans h.c1⟩
theorem B2.new (u : World) (k : Int) (a : Option Addr) (n cp : Nat) (t : TypeId) : B2 u.heap.size k a n cp (u.alloc (.cells #[.int .i64 k, .slice a n cp] t)) := ⟨by simp [go_sem], by simp [go_sem]⟩

set_option maxHeartbeats 12800000 in
theorem walk (a : Option Addr) (len cap : Nat) (zs : List Int) (w : World) (hr : IsRow .u8 w a len cap zs) (hL : laidMetH Tryz.prog Rows.fnTellRow.laid w) (hsh : w.ShapedOpen Tryz.prog) :
    Calls Tryz.prog 3 #[.slice a len cap] w fun e w' => e = .returned (.bool true) ∧ Below w.heap.size w w' := by
  have HST : Hid (StateTab w) := varTab hL
  have HRE : Hid (Mo.ReadEnv w) := env_read (tab_parts hL).1 hsh
  have HET : Hid (ErrTy w) := (tab_parts hL).2
  have HPT : Hid (Pow10 w) := HRE.out.1
  clear hL hsh
  by_cases hbig : (1048576 : Int) < (len : Int)
  · have hdec : decide ((1048576 : Int) < (len : Int)) = true := decide_eq_true hbig
    go_enter Tryz.func3, Tryz.ntmps3
    go_wp2_with fail
    refine (big_any _ _ _ _).mono ?_
    rintro e w1 ⟨rfl, hw1⟩
    rw [hw1, hdec]
    clear hw1
    go_wp2
    go_ret
    exact ⟨rfl, Below.refl _ _⟩
  have hn : len ≤ 1048576 := by omega
  have hdec : decide ((1048576 : Int) < (len : Int)) = false := decide_eq_false hbig
  go_enter Tryz.func3, Tryz.ntmps3
  go_wp2_with fail
  refine (big_any _ _ _ _).mono ?_
  rintro e w1 ⟨rfl, hw1⟩
  rw [hw1, hdec]
  clear hw1 w1 hdec hbig
  go_wp2_with fail
  refine (drawTell_any _ _ _ _ _ hr hn).mono ?_
  rintro e u2 ⟨c, n, rfl, hcu, hnn, q2⟩
  clear hr hn
  obtain ⟨U, hU⟩ : ∃ U, U = u2.alloc (.cells #[.int .i64 c.iss, .int .i64 c.acq, .int .i64 c.cur, .int .i64 c.am, .int .i64 c.st, .int .i64 c.rsn, .int .i64 c.cl, .int .i64 c.bk, .int .i64 c.fee, .bool c.cop, .int .i64 c.sta, .int .i64 c.due] 25) := ⟨_, rfl⟩
  have bU : Below u2.heap.size u2 U := by rw [hU]; exact (Below.refl _ _).alloc (Nat.le_refl _) _
  have k0 : CB u2.heap.size 0 c U := by rw [hU]; exact CB.new u2 c _
  have qU := next q2 bU
  have HU : Hid _ := hU
  have HK1 : Hid (tellOk c n = false → tellK c n = 0) := tellK_no
  obtain ⟨O, hO⟩ : ∃ x, tellOk c n = x := ⟨_, rfl⟩
  obtain ⟨K, hK⟩ : ∃ x, tellK c n = x := ⟨_, rfl⟩
  obtain ⟨L, hL⟩ : ∃ x, tellL c n = x := ⟨_, rfl⟩
  have HF : Hid (O = true → K = 1644 ∧ sumF L ≤ 4000 ∧ msgOk 1644 L = true ∧ unp (packL 1644 L) = (0, 0, 1644, L) ∧ ∃ (T : List UInt8) (TG : List Fld) (M B : List UInt8), fOf L 48 = some T ∧ fOf L 4 = some B ∧ T.length ≤ 999 ∧ Tg.gotT T = some TG ∧ TG.length = 3 ∧ (∀ f ∈ TG, f.2.length ≤ 1099511627776) ∧ Tg.fOf TG 2 = some (tellS c) ∧ Tg.fOf TG 3 = some M ∧ M.length ≤ 30 ∧ Mo.implRead M c.cur = some c.cl ∧ B.length = 12 ∧ numOf B = c.bk) := fun h => by
    subst h
    have e1 : L = tellF c n := by rw [← hL]; exact tellL_yes hO
    have e2 : K = 1644 := by rw [← hK]; exact tellK_yes hO
    subst e1
    exact ⟨e2, (tellF_small hO).1, tell_msg hO, tell_unp hO, _, _, _, _, tell_f48 c n, tell_f4 c n, (tellF_small hO).2, tell_tags hO, rfl, tag_small (tell_parts hO).2, tell_t2 c n, tell_t3 c n, Mo.moneyT_le, tell_money (tell_parts hO).1, (pad_bk (tell_parts hO).1).1, (pad_bk (tell_parts hO).1).2.1⟩
  have hl4 : L.length ≤ 4 := by rw [← hL]; exact tellL_len c n
  have HIA : Hid (Calls Tryz.prog 6 #[cv c, .int .i64 n] U (TeR U K L O)) := by
    have := iTell_any c n U hcu (Mo.Pow10.below HRE.out.1 qU) (StateTab.below HST.out qU)
    rwa [hK, hL, hO] at this
  have HSA : Hid (∀ u, Calls Tryz.prog 7 #[cv c, .int .i64 n] u (TeR u K L O)) := fun u => by
    have := sTell_any c n u
    rwa [hK, hL, hO] at this
  have HK : Hid (O = false → K = 0) := fun h => by rw [← hK]; exact HK1.out (hO.trans h)
  have HS : Hid ((⟨(tellS c).toArray⟩ : ByteArray) = stV c.st) := tellS_is c
  obtain ⟨S2, hS2⟩ : ∃ x, tellS c = x := ⟨_, rfl⟩
  have HQ : Hid (Below w.heap.size w U) := qU
  have HC : Hid (CB u2.heap.size 0 c U) := k0
  rw [hS2] at HF HS
  have hOO : (O != O) = false := by simp
  have HCU : Hid (wf64 c.cur) := hcu
  obtain ⟨X0, hX0⟩ : ∃ x, u2.heap.size = x := ⟨_, rfl⟩
  have HX0 : Hid _ := hX0
  clear hU q2 bU hnn hO hK hL hS2 HK1 hcu qU k0
  rw [hX0] at HC
  clear hX0
  obtain ⟨iss, acq, cur, am, st, rsn, cl, bk, fee, cop, sta, due⟩ := c
  unfold cv at HIA HSA ⊢
  simp only at HU HIA HSA HF HS HCU ⊢
  go_upto_region 4 with fail
  rw [← HU.out, HX0.out]
  clear HU HX0
  obtain ⟨f0, f1, f2, f3, f4, f5, f6, f7, f8, f9, f10, f11⟩ := HC.out
  simp only [Nat.zero_add] at f0 f1 f2 f3 f4 f5 f6 f7 f8 f9 f10 f11
  go_wp2_with fail
  refine Calls.mono HIA.out ?_
  rintro e u3 ⟨a3, k3, rfl, o3, b3⟩
  obtain ⟨V3, hV3⟩ : ∃ V, V = u3.alloc (.cells #[.int .i64 K, .slice a3 L.length k3] 30) := ⟨_, rfl⟩
  have bV3 : Below u3.heap.size u3 V3 := by rw [hV3]; exact (Below.refl _ _).alloc (Nat.le_refl _) _
  have HM3 : Hid (B2 u3.heap.size K a3 L.length k3 V3) := by rw [Hid, hV3]; exact B2.new _ _ _ _ _ _
  have HF3 : Hid (FldsAt V3 a3 L) := (flds_any o3).below bV3
  have HQ3 : Hid (Below w.heap.size w V3) := next (next HQ.out b3) bV3
  have HC3 : Hid _ := (HC.out.below b3).below bV3
  have HV3 : Hid _ := hV3
  obtain ⟨X1, hX1⟩ : ∃ x, u3.heap.size = x := ⟨_, rfl⟩
  have HX1 : Hid _ := hX1
  rw [hX1] at HM3
  clear o3 b3 bV3 hV3 hX1 HQ HC HIA f0 f1 f2 f3 f4 f5 f6 f7 f8 f9 f10 f11
  go_upto_region 5 with fail
  rw [← HV3.out, HX1.out]
  clear HV3 HX1
  obtain ⟨f0, f1, f2, f3, f4, f5, f6, f7, f8, f9, f10, f11⟩ := HC3.out
  simp only [Nat.zero_add] at f0 f1 f2 f3 f4 f5 f6 f7 f8 f9 f10 f11
  go_wp2_with fail
  refine Calls.mono (HSA.out _) ?_
  rintro e u4 ⟨a4, k4, rfl, o4, b4⟩
  obtain ⟨V4, hV4⟩ : ∃ V, V = u4.alloc (.cells #[.int .i64 K, .slice a4 L.length k4] 30) := ⟨_, rfl⟩
  have bV4 : Below u4.heap.size u4 V4 := by rw [hV4]; exact (Below.refl _ _).alloc (Nat.le_refl _) _
  have HM4 : Hid (B2 u4.heap.size K a4 L.length k4 V4) := by rw [Hid, hV4]; exact B2.new _ _ _ _ _ _
  have HF4 : Hid (FldsAt V4 a4 L) := (flds_any o4).below bV4
  have HQ4 : Hid (Below w.heap.size w V4) := next (next HQ3.out b4) bV4
  have HC4 : Hid _ := (HC3.out.below b4).below bV4
  have HM34 : Hid _ := (HM3.out.below b4).below bV4
  have HF34 : Hid (FldsAt V4 a3 L) := (HF3.out.below b4).below bV4
  have HV4 : Hid _ := hV4
  obtain ⟨X2, hX2⟩ : ∃ x, u4.heap.size = x := ⟨_, rfl⟩
  have HX2 : Hid _ := hX2
  rw [hX2] at HM4
  clear o4 b4 bV4 hV4 hX2 HQ3 HC3 HSA HM3 HF3 f0 f1 f2 f3 f4 f5 f6 f7 f8 f9 f10 f11
  go_upto_region 6 with fail
  rw [← HV4.out, HX2.out]
  clear HV4 HX2
  obtain ⟨p0, p1⟩ := HM34.out
  obtain ⟨q0, q1⟩ := HM4.out
  go_wp2_with fail
  refine (sameMessage_any K K a3 a4 k3 k4 L L _ HF34.out HF4.out (by omega) (by omega)).mono ?_
  rintro e u5 ⟨rfl, b5⟩
  rw [sameM_self]
  have HQ5 : Hid _ := next HQ4.out b5
  have HC5 : Hid _ := HC4.out.below b5
  have HM5 : Hid _ := HM34.out.below b5
  have HF5 : Hid (FldsAt u5 a3 L) := HF34.out.below b5
  clear HQ4 HC4 HM34 HF34 HM4 HF4 b5 p0 p1 q0 q1
  obtain ⟨p0, p1⟩ := HM5.out
  cases O
  · obtain rfl := HK.out rfl
    go_wp2
    go_ret
    exact ⟨one_bool (by first | rfl | simp), HQ5.out⟩
  obtain ⟨rfl, hsm, hmo, hun, T, TG, M, B, e48, e4, hT, hgot, hTG, htg, e2, e3, hM, hrd, hB, hnum⟩ := HF.out rfl
  clear HF HK hOO
  have HUN : Hid _ := hun
  have H48 : Hid _ := e48
  have H4 : Hid _ := e4
  have HGT : Hid _ := hgot
  have H2 : Hid _ := e2
  have H3 : Hid _ := e3
  have HRD : Hid _ := hrd
  have HNU : Hid _ := hnum
  have hTG' : TG.length ≤ 4194304 := by omega
  have hpb := packL_bd 1644 L
  obtain ⟨P, hP⟩ : ∃ x, packL 1644 L = x := ⟨_, rfl⟩
  rw [hP] at HUN hpb
  have HPK : Hid (∀ u, Below w.heap.size w u → FldsAt u a3 L → Calls Tryz.prog 9 #[.agg #[.int .i64 1644, .slice a3 L.length k3]] u fun e w' => e = .returned (.tuple #[.string ⟨P.toArray⟩, .bool true]) ∧ Below u.heap.size u w') := fun u hu hf => by
    have := iPack_any 1644 a3 k3 L u hf (by omega) (by omega) (HPT.out.below hu)
    rwa [hP, hmo] at this
  clear hun e48 e4 hgot e2 e3 hrd hnum hP hmo hTG
  go_wp2_with fail
  refine Calls.mono (HPK.out _ HQ5.out HF5.out) ?_
  rintro e u6 ⟨rfl, b6⟩
  have HQ6 : Hid _ := next HQ5.out b6
  have HC6 : Hid _ := HC5.out.below b6
  clear HQ5 HC5 HM5 HF5 HPK b6 p0 p1
  go_wp2_with fail
  refine (iUnpack_any P _ (by omega) (ErrTyB HET.out HQ6.out)).mono ?_
  rintro e u7 ⟨b7, a7, k7, rfl, o7⟩
  rw [HUN.out] at o7 ⊢
  have f7 := flds_any o7
  simp only at f7 ⊢
  obtain ⟨V7, hV7⟩ : ∃ V, V = u7.alloc (.cells #[.int .i64 1644, .slice a7 L.length k7] 30) := ⟨_, rfl⟩
  have bV7 : Below u7.heap.size u7 V7 := by rw [hV7]; exact (Below.refl _ _).alloc (Nat.le_refl _) _
  have HM7 : Hid (B2 u7.heap.size 1644 a7 L.length k7 V7) := by rw [Hid, hV7]; exact B2.new _ _ _ _ _ _
  have HF7 : Hid (FldsAt V7 a7 L) := f7.below bV7
  have HQ7 : Hid (Below w.heap.size w V7) := next (next HQ6.out b7) bV7
  have HC7 : Hid (CB X0 0 ⟨iss, acq, cur, am, st, rsn, cl, bk, fee, cop, sta, due⟩ V7) := (HC6.out.below b7).below bV7
  have HV7 : Hid _ := hV7
  obtain ⟨X3, hX3⟩ : ∃ x, u7.heap.size = x := ⟨_, rfl⟩
  have HX3 : Hid _ := hX3
  rw [hX3] at HM7
  clear o7 b7 bV7 hV7 hX3 f7 HQ6 HC6 hpb HUN
  go_upto_region 12 with fail
  rw [← HV7.out, HX3.out]
  clear HV7 HX3
  obtain ⟨p0, p1⟩ := HM7.out
  go_wp2_with fail
  refine (iFieldOf_any 1644 a7 k7 L 48 _ HF7.out (by omega) (by omega)).mono ?_
  rintro e u8 ⟨rfl, b8⟩
  rw [H48.out]
  simp only [Option.getD_some, Option.isSome_some]
  have HQ8 : Hid (Below w.heap.size w u8) := next HQ7.out b8
  have HC8 : Hid (CB X0 0 ⟨iss, acq, cur, am, st, rsn, cl, bk, fee, cop, sta, due⟩ u8) := HC7.out.below b8
  have HM8 : Hid (B2 X3 1644 a7 L.length k7 u8) := HM7.out.below b8
  have HF8 : Hid (FldsAt u8 a7 L) := HF7.out.below b8
  clear b8 HQ7 HC7 HM7 HF7 p0 p1 H48
  go_wp2_with fail
  refine (Tg.iGetTags_any T _ (by omega) (Tg.Pow10.below HRE.out.1 HQ8.out)).mono ?_
  rintro e u9 ⟨a9, k9, rfl, o9, b9⟩
  rw [HGT.out] at o9 ⊢
  simp only [Option.getD_some, Option.isSome_some] at o9 ⊢
  have HG9 : Hid (FldsAt u9 a9 TG) := flds_any o9
  have HQ9 : Hid (Below w.heap.size w u9) := next HQ8.out b9
  have HC9 : Hid (CB X0 0 ⟨iss, acq, cur, am, st, rsn, cl, bk, fee, cop, sta, due⟩ u9) := HC8.out.below b9
  have HM9 : Hid (B2 X3 1644 a7 L.length k7 u9) := HM8.out.below b9
  have HF9 : Hid (FldsAt u9 a7 L) := HF8.out.below b9
  clear b9 o9 HQ8 HC8 HM8 HF8 HGT
  go_wp2_with fail
  refine (Tg.iTagOf_any a9 k9 TG 2 _ HG9.out hTG' htg).mono ?_
  rintro e uA ⟨rfl, bA⟩
  rw [H2.out]
  simp only [Option.getD_some, Option.isSome_some]
  have HQA : Hid (Below w.heap.size w uA) := next HQ9.out bA
  have HCA : Hid (CB X0 0 ⟨iss, acq, cur, am, st, rsn, cl, bk, fee, cop, sta, due⟩ uA) := HC9.out.below bA
  have HMA : Hid (B2 X3 1644 a7 L.length k7 uA) := HM9.out.below bA
  have HFA : Hid (FldsAt uA a7 L) := HF9.out.below bA
  have HGA : Hid (FldsAt uA a9 TG) := HG9.out.below bA
  clear bA HQ9 HC9 HM9 HF9 HG9 H2
  go_wp2_with fail
  refine (Tg.iTagOf_any a9 k9 TG 3 _ HGA.out hTG' htg).mono ?_
  rintro e uB ⟨rfl, bB⟩
  rw [H3.out]
  simp only [Option.getD_some, Option.isSome_some]
  have HQB : Hid (Below w.heap.size w uB) := next HQA.out bB
  have HCB : Hid (CB X0 0 ⟨iss, acq, cur, am, st, rsn, cl, bk, fee, cop, sta, due⟩ uB) := HCA.out.below bB
  have HMB : Hid (B2 X3 1644 a7 L.length k7 uB) := HMA.out.below bB
  have HFB : Hid (FldsAt uB a7 L) := HFA.out.below bB
  clear bB HQA HCA HMA HFA HGA H3 htg hTG'
  go_upto_region 16 with fail
  obtain ⟨f0, f1, f2, f3, f4, f5, f6, f7, f8, f9, f10, f11⟩ := HCB.out
  simp only [Nat.zero_add] at f0 f1 f2 f3 f4 f5 f6 f7 f8 f9 f10 f11
  go_wp2_with fail
  refine (Mo.iRead_any M cur _ (by omega) HCU.out (Mo.ReadEnv.below HRE.out HQB.out)).mono ?_
  rintro e uC ⟨rfl, bC⟩
  rw [HRD.out]
  simp only [Option.getD_some, Option.isSome_some]
  have HQC : Hid (Below w.heap.size w uC) := next HQB.out bC
  have HCC : Hid (CB X0 0 ⟨iss, acq, cur, am, st, rsn, cl, bk, fee, cop, sta, due⟩ uC) := HCB.out.below bC
  have HMC : Hid (B2 X3 1644 a7 L.length k7 uC) := HMB.out.below bC
  have HFC : Hid (FldsAt uC a7 L) := HFB.out.below bC
  clear bC HQB HCB HMB HFB HRD f0 f1 f2 f3 f4 f5 f6 f7 f8 f9 f10 f11
  go_upto_region 17 with fail
  obtain ⟨p0, p1⟩ := HMC.out
  go_wp2_with fail
  refine (iFieldOf_any 1644 a7 k7 L 4 _ HFC.out (by omega) (by omega)).mono ?_
  rintro e uD ⟨rfl, bD⟩
  rw [H4.out]
  simp only [Option.getD_some, Option.isSome_some]
  have HQD : Hid (Below w.heap.size w uD) := next HQC.out bD
  have HCD : Hid (CB X0 0 ⟨iss, acq, cur, am, st, rsn, cl, bk, fee, cop, sta, due⟩ uD) := HCC.out.below bD
  clear bD HQC HCC HMC HFC H4 p0 p1 HPT HET HRE
  go_upto_region 18 with fail
  obtain ⟨f0, f1, f2, f3, f4, f5, f6, f7, f8, f9, f10, f11⟩ := HCD.out
  simp only [Nat.zero_add] at f0 f1 f2 f3 f4 f5 f6 f7 f8 f9 f10 f11
  have hne := over_ne uD
  have g4 := over_cell f4
  have g6 := over_cell f6
  have g7 := over_cell f7
  have hss : (S2 == S2) = true := by simp
  have hcc : (cl == cl) = true := by simp
  have hbb : (bk == bk) = true := by simp
  have H1 : Hid (∀ z : Over uD, Calls Tryz.prog 15 #[.int .i64 st] z.x fun e w'' => e = .returned (.string ⟨S2.toArray⟩) ∧ ∃ y : Over uD, w'' = y.x) := fun z => by
    rw [HS.out]
    exact over_of ((iState_any st z.x (StateTab.below HST.out (next HQD.out z.h))).mono fun _ _ ⟨he, hw⟩ => ⟨he, by rw [hw]; exact Below.refl _ _⟩)
  have H2 : Hid (∀ z : Over uD, Calls Tryz.prog 16 #[.string ⟨B.toArray⟩] z.x fun e w'' => e = .returned (.int .i64 bk) ∧ ∃ y : Over uD, w'' = y.x) := fun z => over_of (by
    have h := iNumOf_any B z.x (by omega)
    rw [HNU.out] at h
    exact h.mono fun _ _ ⟨he, hw⟩ => ⟨he, by rw [hw]; exact Below.refl _ _⟩)
  clear HCD HST HNU HS HCU f0 f1 f2 f3 f4 f5 f6 f7 f8 f9 f10 f11
  refine wp_region_over (by kernel_rfl) (by kernel_rfl) ?_
  repeat (go_big_quiet_step (first | with_reducible exact H1.out _ | with_reducible exact H2.out _))
  refine wpQuiet_nil ?_
  rintro uE ⟨⟨wz, bE⟩, hwE⟩
  subst hwE
  go_wp2
  go_ret
  exact ⟨one_bool (by first | rfl | simp), next HQD.out bE⟩

set_option maxRecDepth 100000 in
theorem lifted (os : Os) (started : os.Started) (H : Type) (enc : TypeId × Value → H) (F : Stop.Interp) :
    ReturnsInHanded {} Tryz.checked os 3 .any ((OpenSpec.ofChange Rows.fnTellSpec).preRow enc Tryz.prog Tryz.f3 Rows.fnTellRow.domain false Rows.fnTellRow.laid)
      (((OpenSpec.ofChange Rows.fnTellSpec).at F).post enc Tryz.prog Tryz.f3 false true false false) := by
  refine returnsInHanded_of_row (C := Tryz.checked) (s := OpenSpec.ofChange Rows.fnTellSpec) own started (by kernel_rfl) Tryz.func3
    (ChangeSpec.witness_shaped (enc := enc) (C := Tryz.checked) (os := os) (X := fun w _ => laidMetH Tryz.prog Rows.fnTellRow.laid w) false (World.layVars Tryz.prog ({ World.holding Tryz.prog os ⟨#[], #[], []⟩ with heap := (World.holding Tryz.prog os ⟨#[], #[], []⟩).heap.modify 1 fun | .cells _ t frozen => .cells #[.iface 198 (.agg #[.pointer (some ⟨10, 75, none⟩)])] t frozen | o => o } : World) (Rows.fnTellRow.laid.filter fun x => x.2.handleName?.isNone)) #[.slice none 0 0] 8 ((World.layVars_os _ _ _).trans rfl)
      (World.shaped_of_ZipB (by kernel_rfl) (by kernel_rfl)) (by kernel_rfl) (by kernel_rfl) (by kernel_rfl)
      (laidMetH_of_parts (laidMet_over _ (by kernel_rfl) (by kernel_rfl)) (by kernel_rfl))) ?_
  intro W base args ds gs before hval0 hW _ _ _ hL hsh _
  have hval : ∀ (j : Nat) t v, Tryz.f3.params[j]? = some t → args[j]? = some v → Value.okWide Tryz.prog W .any base t v := hval0
  have hW' := hW
  obtain ⟨p, q, hA0, hV0, rfl, _, _⟩ := hW
  have hV : DataW.TrodVars enc Tryz.prog W (fun _ => true) ["loop.example/g00126/impl.stateTexts"] gs q := hV0
  have hA : DataW.TrodAll enc Tryz.prog W 0 (fun _ => true) true Tryz.f3.params.toList args.toList ds p := hA0
  rw [Tryz.params3] at hA hval
  obtain ⟨v0, vs0, d0, ds0, p0, q0, hargs, rfl, rfl, h0, r0⟩ := trodAll_cons hA
  obtain ⟨rfl, rfl, rfl⟩ := trodAll_nil r0
  obtain rfl : args = #[v0] := by cases args; simp_all
  obtain ⟨gv, tv, cs, fv, dv, pv, rfl, hgv, htv, hvar, hdv, rfl⟩ := trodVars_one hV
  obtain ⟨a0, len0, cap0, rfl⟩ := okWide_slice Tryz.underlying22 (hval 0 22 v0 rfl rfl)
  have k0 := h0
  have lt0 : ∀ x ∈ p0, x.block < W.heap.size := by obtain ⟨m, hm⟩ := k0; exact DataW.trod_lt m _ _ _ hm
  obtain ⟨z0, w0⟩ : ∃ zs, IsRow .u8 W a0 len0 cap0 zs := is_row Tryz.underlying22 Tryz.underlying5 (by kernel_rfl) h0
  clear hA0 hval0
  have HM := varTab hL
  refine (walk a0 len0 cap0 z0 W w0 hL hsh).mono fun e W' ⟨he, bel⟩ => ?_
  subst he
  exact ⟨_, rfl, _, _, _, [], _, _, hW', trodAll_mk1 (shut_bool Tryz.underlying4 _), (trodAll_cons_mk (Below.trod laidOut (by kernel_rfl) (of_decide_eq_true (by kernel_rfl)) k0 bel lt0) trodAll_mk0), state_vars hgv htv hvar hdv HM bel, bel.frame _, fun h => by cases h⟩

theorem said : Rows.FnTellSaid :=
  OpenClaim.holds_of_cond 3 Tryz.f3 rfl rfl rfl rfl rfl rfl rfl ⟨rfl, rfl, rfl, rfl, rfl⟩ rfl rfl rfl rfl rfl (by kernel_rfl) Tryz.func3 (by kernel_rfl)
    (of_decide_eq_true (by kernel_rfl)) (by unfold Func.isWrapper; first | (rw [if_pos (by decide +kernel)]; kernel_rfl) | (rw [if_neg (by decide +kernel)]; exact ⟨rfl, rfl⟩))
    (fun os started H enc _ F => by rw [OpenClaim.pre_eq_preRow]; exact lifted os started H enc F)

theorem proved : Rows.FnTellCardSaid :=
  Claim7.holds_tied_plain_at .later [] _ _ _ _ said (fun _ h => by cases h) (by kernel_rfl) (fun _ h => by cases h) fnTell_row_tie rfl ⟨rfl, rfl⟩ (by kernel_rfl) rfl
    (fun f fn hf hfn => by
      obtain rfl : f = 3 := Option.some.inj ((show Tryz.prog.funcNamed "loop.example/g00126/laws.FnTell" = some 3 by kernel_rfl).symm.trans hf) |>.symm
      obtain rfl : fn = Tryz.f3 := (Option.some.inj (Tryz.func3.symm.trans hfn)).symm
      refine ⟨by kernel_rfl, fun j t ht => ?_⟩
      rw [Tryz.params3] at ht
      have hm : t ∈ [22] := by have := Array.mem_of_getElem? ht; simp at this ⊢; first | exact this | exact this.symm | omega | (rcases this with h | h | h | h <;> simp [h]) | (rcases this with h | h | h <;> simp [h]) | (rcases this with h | h <;> simp [h])
      have hall : ([22].all fun u => !Tryz.prog.wantsStandIn u) = true := by kernel_rfl
      have h1 := List.all_eq_true.1 hall t hm
      have h2 : Tryz.prog.wantsStandIn t = false := by simpa using h1
      exact h2)
    (by kernel_rfl)
end Go.Proofs.YtjnekdihmchlpaaGreatDoor.fnTell
