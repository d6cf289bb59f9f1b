/- Proved: at every int and every list of ints (up to 1048576; a longer one passes by the law's own first test) the program's BookStart answers as the specification's, every part of the book and the flag; it leaves the list as it was and keeps nothing of it; the book's list owns its memory, behind another call too. No conditions. -/
import Derived.Test.YtenbhmmknejcjaaBase
import Derived.Test.YtenbhmmknejcjaaBkBox
namespace Go.Proofs.Ytenbhmmknejcjaa.fnExactBookStart
open Go.ChangeShapes Go.WideShapes Go.ChangeAt Go.RowKit
set_option maxRecDepth 100000

set_option maxHeartbeats 12800000 in
theorem walk (t : Int) (a1 : Option Addr) (len1 cap1 : Nat) (z1 : List Int) (w : World) (_wt : (Lit.int .i64 t).wf = true) (w1 : IsRow .i64 w a1 len1 cap1 z1) :
    Calls Try.prog 4 #[.int .i64 t, .slice a1 len1 cap1] w fun e w' => e = .returned (.bool true) ∧ Below w.heap.size w w' := by
  obtain ⟨hl, hz⟩ := ints_of_row w1
  clear w1
  generalize z1.take len1 = zs at hl hz
  subst hl
  by_cases hbig : (1048576 : Int) < (zs.length : Int)
  · go_enter Try.func4, Try.ntmps4
    go_wp2
    go_ret
    exact ⟨rfl, Below.refl _ _⟩
  · have hn : zs.length ≤ 1048576 := by omega
    have HL : Hid ((bsL t zs).length ≤ zs.length) := by rw [Hid]; unfold bsL; split <;> simp
    obtain ⟨L, hL⟩ : ∃ L, bsL t zs = L := ⟨_, rfl⟩
    obtain ⟨T, hT⟩ : ∃ T, bsT t zs = T := ⟨_, rfl⟩
    obtain ⟨K, hK⟩ : ∃ K, bsOk t zs = K := ⟨_, rfl⟩
    rw [hL] at HL
    have hLn : L.length ≤ 1048576 := by have := HL.out; omega
    have HS : Hid (∀ (ao : Option Addr) (u : World), IntsAt u ao zs → Calls Try.prog 13 #[.int .i64 t, .slice ao zs.length zs.length] u fun e w' => ∃ a k, e = .returned (.tuple #[.agg #[.int .i64 T, .slice a L.length k, .slice none 0 0, .slice none 0 0, .slice none 0 0, .slice none 0 0], .bool K]) ∧ w'.ownsRow u.heap.size 3 1 (.slice a L.length k) L.length (L.map (Value.int .i64)) ∧ Below u.heap.size u w') := fun ao u hx => by have h := sBStart_any t ao zs.length zs u hx hn; unfold BsR at h; rw [hL, hT, hK] at h; exact h
    have HI : Hid (∀ (ao : Option Addr) (u : World), IntsAt u ao zs → Calls Try.prog 15 #[.int .i64 t, .slice ao zs.length zs.length] u fun e w' => ∃ a k, e = .returned (.tuple #[.agg #[.int .i64 T, .slice a L.length k, .slice none 0 0, .slice none 0 0, .slice none 0 0, .slice none 0 0], .bool K]) ∧ w'.ownsRow u.heap.size 3 1 (.slice a L.length k) L.length (L.map (Value.int .i64)) ∧ Below u.heap.size u w') := fun ao u hx => by have h := iBStart_any t ao zs.length zs u hx hn; unfold BsR at h; rw [hL, hT, hK] at h; exact h
    clear hL hT hK HL
    have HZ : Hid (IntsAt w a1 zs) := hz
    clear hz
    go_enter Try.func4, Try.ntmps4
    go_wp2_with fail
    refine (toIntS_any _ _ zs _ HZ.out hn).mono ?_
    rintro e u1 ⟨rfl, o1, b1⟩
    have x1 := ints_of_own o1
    go_wp2_with fail
    refine (HS.out _ _ x1).mono ?_
    rintro e u2 ⟨a2, k2, rfl, o2, b2⟩
    have B2 := next b1 b2
    clear o1 x1 b1
    obtain ⟨V, hV⟩ : ∃ V, u2.alloc (.cells #[.int .i64 T, .slice a2 L.length k2, .slice none 0 0, .slice none 0 0, .slice none 0 0, .slice none 0 0] 32) = V := ⟨_, rfl⟩
    have bV : Below u2.heap.size u2 V := by rw [← hV]; exact (Below.refl _ _).alloc (Nat.le_refl _) _
    have sV : SB u2.heap.size T a2 L.length k2 V := by rw [← hV]; exact SB.new u2 T a2 L.length k2 _
    have yV : IntsAt V a2 L := (ints_own o2).below bV
    have BV := next B2 bV
    obtain ⟨q5, hq5⟩ : ∃ q, u2.heap.size = q := ⟨_, rfl⟩
    rw [hq5] at sV
    have HBV : Hid (Below w.heap.size w V) := BV
    have HSV : Hid (SB q5 T a2 L.length k2 V) := sV
    have HYV : Hid (IntsAt V a2 L) := yV
    have HA2 : Hid (∀ b off, a2 = some ⟨b, off, none⟩ → b < q5) := by
      rw [Hid, ← hq5]
      intro b off h
      subst h
      exact (o2.lt b rfl).2
    have HEV : Hid _ := hV
    have HEQ5 : Hid (u2.heap.size = q5) := hq5
    clear o2 b2 B2 bV sV yV BV hV hq5
    go_upto_region 4 with fail
    rw [HEV.out, HEQ5.out]
    clear HEV HEQ5
    go_wp2_with fail
    refine (toIntS_any _ _ zs _ (HZ.out.below HBV.out) hn).mono ?_
    rintro e u3 ⟨rfl, o3, b3⟩
    have HO3 : Hid (u3.ownsRow V.heap.size 3 1 (.slice (some ⟨V.heap.size, 0, none⟩) zs.length zs.length) zs.length (zs.map (Value.int .i64))) := o3
    have HB3 : Hid (Below w.heap.size w u3) := next HBV.out b3
    have HS3 : Hid (SB q5 T a2 L.length k2 u3) := HSV.out.below b3
    have HY3 : Hid (IntsAt u3 a2 L) := HYV.out.below b3
    have HQ5 : Hid (q5 < V.heap.size) := HSV.out.lt
    have HWQ : Hid (w.heap.size ≤ V.heap.size) := HBV.out.size
    obtain ⟨q7, hq7⟩ : ∃ q, V.heap.size = q := ⟨_, rfl⟩
    rw [hq7] at HO3 HQ5 HWQ ⊢
    clear o3 b3 HBV HSV HYV hq7
    go_wp2_with fail
    refine (HI.out _ _ (ints_of_own HO3.out)).mono ?_
    rintro e u4 ⟨a8, k8, rfl, o4, b4⟩
    obtain ⟨V4, hV4⟩ : ∃ V, u4.alloc (.cells #[.int .i64 T, .slice a8 L.length k8, .slice none 0 0, .slice none 0 0, .slice none 0 0, .slice none 0 0] 32) = V := ⟨_, rfl⟩
    have bV : Below u4.heap.size u4 V4 := by rw [← hV4]; exact (Below.refl _ _).alloc (Nat.le_refl _) _
    have sV : SB u4.heap.size T a8 L.length k8 V4 := by rw [← hV4]; exact SB.new u4 T a8 L.length k8 _
    obtain ⟨q8, hq8⟩ : ∃ q, u4.heap.size = q := ⟨_, rfl⟩
    rw [hq8] at sV
    have HB4 : Hid (Below w.heap.size w V4) := next (next HB3.out b4) bV
    have HS4 : Hid (SB q5 T a2 L.length k2 V4) := (HS3.out.below b4).below bV
    have HY4 : Hid (IntsAt V4 a2 L) := (HY3.out.below b4).below bV
    have HT4 : Hid (SB q8 T a8 L.length k8 V4) := sV
    have HR4 : Hid (V4.ownsRow u3.heap.size 3 1 (.slice a8 L.length k8) L.length (L.map (Value.int .i64))) := own_below o4 bV
    have HO4 : Hid (V4.ownsRow q7 3 1 (.slice (some ⟨q7, 0, none⟩) zs.length zs.length) zs.length (zs.map (Value.int .i64))) := own_below (own_below HO3.out b4) bV
    have HQ7 : Hid (q7 < u3.heap.size) := (HO3.out.lt q7 rfl).2
    have HQ8 : Hid (u3.heap.size ≤ q8) := by rw [Hid, ← hq8]; exact b4.size
    have HQ9 : Hid (∀ g, (Value.slice a8 L.length k8).ownBlock = some g → g < q8) := by rw [Hid, ← hq8]; exact fun g hg => (o4.lt g hg).2
    have HEV : Hid _ := hV4
    have HEQ8 : Hid (u4.heap.size = q8) := hq8
    clear o4 b4 bV sV HB3 HS3 HY3 HO3 hV4 hq8
    go_upto_region 6 with fail
    rw [HEV.out, HEQ8.out]
    clear HEV HEQ8
    obtain ⟨c0, c1, c2, c3, c4, c5⟩ := HS4.out
    obtain ⟨d0, d1, d2, d3, d4, d5⟩ := HT4.out
    have HEQ : Hid (∀ (u : World) (a b : Option Addr) (k l : Nat), IntsAt u a L → IntsAt u b L → Calls Try.prog 16 #[.agg #[.int .i64 T, .slice a L.length k, .slice none 0 0, .slice none 0 0, .slice none 0 0, .slice none 0 0], .agg #[.int .i64 T, .slice b L.length l, .slice none 0 0, .slice none 0 0, .slice none 0 0, .slice none 0 0]] u fun e w' => e = .returned (.bool true) ∧ Below u.heap.size u w') := fun u a b k l h1 h2 => eqBook_bs T a b k l L u h1 h2 hLn
    have HMK : Hid (∀ (u : World) (a : Option Addr) (k base : Nat) (xs : List Value), u.ownsRow base 3 1 (.slice a L.length k) L.length xs → Calls Try.prog 19 #[.agg #[.int .i64 T, .slice a L.length k, .slice none 0 0, .slice none 0 0, .slice none 0 0, .slice none 0 0], .int .i64 1] u fun e w' => e = .returned (.int .i64 (1 + L.length)) ∧ w'.ownsRow base 3 1 (.slice a L.length k) L.length ((cnt 1 L.length).map (Value.int .i64)) ∧ u.grownBy w' (Value.slice a L.length k).ownBlock) := fun u a k base xs ho => markBook_bs T a L.length k base xs u ho hLn
    have HHD : Hid (∀ (u : World) (a : Option Addr) (k : Nat), IntsAt u a (cnt 1 L.length) → Calls Try.prog 20 #[.agg #[.int .i64 T, .slice a L.length k, .slice none 0 0, .slice none 0 0, .slice none 0 0, .slice none 0 0], .int .i64 1] u fun e w' => e = .returned (.int .i64 (1 + L.length)) ∧ Below u.heap.size u w') := fun u a k hz => heldBook_bs T a L.length k u hz hLn
    go_wp2_with fail
    refine (HEQ.out _ _ _ _ _ (ints_own HR4.out) HY4.out).mono ?_
    rintro e u5 ⟨rfl, b5⟩
    have HB5 : Hid (Below w.heap.size w u5) := next HB4.out b5
    have HS5 : Hid (SB q5 T a2 L.length k2 u5 ∧ SB q8 T a8 L.length k8 u5) := ⟨HS4.out.below b5, HT4.out.below b5⟩
    have HY5 : Hid (IntsAt u5 a2 L) := HY4.out.below b5
    have HR5 : Hid (u5.ownsRow u3.heap.size 3 1 (.slice a8 L.length k8) L.length (L.map (Value.int .i64))) := own_below HR4.out b5
    have HO5 : Hid (u5.ownsRow q7 3 1 (.slice (some ⟨q7, 0, none⟩) zs.length zs.length) zs.length (zs.map (Value.int .i64))) := own_below HO4.out b5
    clear b5 HB4 HS4 HT4 HY4 HR4 HO4 c0 c1 c2 c3 c4 c5 d0 d1 d2 d3 d4 d5
    go_wp2_with fail
    refine (toIntS_any _ _ zs _ (HZ.out.below HB5.out) hn).mono ?_
    rintro e u6 ⟨rfl, o6, b6⟩
    have y6 := ints_of_own o6
    go_wp2_with fail
    refine (eqIntS_any _ _ _ _ zs zs _ ((ints_of_own HO5.out).below b6) y6 (by omega) (by omega)).mono ?_
    rintro e u7 ⟨rfl, b7⟩
    have bb : Below u5.heap.size u5 u7 := next b6 b7
    have HB7 : Hid (Below w.heap.size w u7) := next HB5.out bb
    have HS7 : Hid (SB q5 T a2 L.length k2 u7 ∧ SB q8 T a8 L.length k8 u7) := ⟨HS5.out.1.below bb, HS5.out.2.below bb⟩
    have HY7 : Hid (IntsAt u7 a2 L) := HY5.out.below bb
    have HR7 : Hid (u7.ownsRow u3.heap.size 3 1 (.slice a8 L.length k8) L.length (L.map (Value.int .i64))) := own_below HR5.out bb
    have HO7 : Hid (u7.ownsRow q7 3 1 (.slice (some ⟨q7, 0, none⟩) zs.length zs.length) zs.length (zs.map (Value.int .i64))) := own_below HO5.out bb
    clear o6 y6 b6 b7 bb HB5 HS5 HY5 HR5 HO5
    go_wp2_with fail
    refine (markIntS_any _ _ _ q7 1 _ _ HO7.out (by omega) (by omega) (by omega)).mono ?_
    rintro e u8 ⟨rfl, -, g8⟩
    replace g8 : u7.grownBy u8 (some q7) := g8
    have HB8 : Hid (Below w.heap.size w u8) := HB7.out.grown g8 HB7.out.size (fun j hj => by injection hj with hj; have := HWQ.out; omega)
    have HS8 : Hid (SB q5 T a2 L.length k2 u8 ∧ SB q8 T a8 L.length k8 u8) := ⟨HS7.out.1.grown g8 (fun h => by injection h with h; have := HQ5.out; omega), HS7.out.2.grown g8 (fun h => by injection h with h; have := HQ7.out; have := HQ8.out; omega)⟩
    have HY8 : Hid (IntsAt u8 a2 L) := ints_farB (g := 0) HY7.out g8 (fun b off h he => by injection he with he; have := HA2.out b off h; have := HQ5.out; omega) rfl
    have HR8 : Hid (u8.ownsRow u3.heap.size 3 1 (.slice a8 L.length k8) L.length (L.map (Value.int .i64))) := HR7.out.kept g8 (.inr fun h => by have := (HR7.out.lt _ h).1; have := HQ7.out; omega)
    clear g8 HB7 HS7 HY7 HR7 HO7
    obtain ⟨c0, c1, c2, c3, c4, c5⟩ := HS8.out.1
    obtain ⟨d0, d1, d2, d3, d4, d5⟩ := HS8.out.2
    have hz8 : ¬ (1 + (zs.length : Int)) < 0 := by omega
    go_wp2_with fail
    refine (HEQ.out _ _ _ _ _ (ints_own HR8.out) HY8.out).mono ?_
    rintro e u9 ⟨rfl, b9⟩
    clear c0 c1 c2 c3 c4 c5 d0 d1 d2 d3 d4 d5 hz8
    have HB9 : Hid (Below w.heap.size w u9) := next HB8.out b9
    have HS9 : Hid (SB q5 T a2 L.length k2 u9 ∧ SB q8 T a8 L.length k8 u9) := ⟨HS8.out.1.below b9, HS8.out.2.below b9⟩
    have HY9 : Hid (IntsAt u9 a2 L) := HY8.out.below b9
    have HR9 : Hid (u9.ownsRow u3.heap.size 3 1 (.slice a8 L.length k8) L.length (L.map (Value.int .i64))) := own_below HR8.out b9
    clear b9 HB8 HS8 HY8 HR8
    obtain ⟨c0, c1, c2, c3, c4, c5⟩ := HS9.out.1
    obtain ⟨d0, d1, d2, d3, d4, d5⟩ := HS9.out.2
    go_wp2_with fail
    refine (HMK.out _ _ _ _ _ HR9.out).mono ?_
    rintro e u10 ⟨rfl, o10, g10⟩
    have hge : ∀ x, (Value.slice a8 L.length k8).ownBlock = some x → u3.heap.size ≤ x ∧ x < q8 := fun x hx => ⟨(HR9.out.lt x hx).1, HQ9.out x hx⟩
    have HB10 : Hid (Below w.heap.size w u10) := HB9.out.grown g10 HB9.out.size (fun j hj => by have := (hge j hj).1; have := HQ7.out; have := HWQ.out; omega)
    have HS10 : Hid (SB q5 T a2 L.length k2 u10 ∧ SB q8 T a8 L.length k8 u10) := ⟨HS9.out.1.grown g10 (fun h => by have := (hge _ h.symm).1; have := HQ7.out; have := HQ5.out; omega), HS9.out.2.grown g10 (fun h => by have := (hge _ h.symm).2; omega)⟩
    have HY10 : Hid (IntsAt u10 a2 L) := ints_farB (g := 0) HY9.out g10 (fun b off h he => by have := (hge _ he.symm).1; have := HA2.out b off h; have := HQ5.out; have := HQ7.out; omega) rfl
    have HR10 : Hid (u10.ownsRow u3.heap.size 3 1 (.slice a8 L.length k8) L.length ((cnt 1 L.length).map (Value.int .i64))) := o10
    clear o10 g10 hge HB9 HS9 HY9 HR9 c0 c1 c2 c3 c4 c5 d0 d1 d2 d3 d4 d5
    obtain ⟨c0, c1, c2, c3, c4, c5⟩ := HS10.out.1
    obtain ⟨d0, d1, d2, d3, d4, d5⟩ := HS10.out.2
    have hz9 : ¬ (1 + (L.length : Int)) < 0 := by omega
    go_wp2_with fail
    refine (HHD.out _ _ _ (ints_own HR10.out)).mono ?_
    rintro e u11 ⟨rfl, b11⟩
    clear c0 c1 c2 c3 c4 c5 d0 d1 d2 d3 d4 d5
    have HB11 : Hid (Below w.heap.size w u11) := next HB10.out b11
    have HS11 : Hid (SB q5 T a2 L.length k2 u11 ∧ SB q8 T a8 L.length k8 u11) := ⟨HS10.out.1.below b11, HS10.out.2.below b11⟩
    have HY11 : Hid (IntsAt u11 a2 L) := HY10.out.below b11
    have HR11 : Hid (u11.ownsRow u3.heap.size 3 1 (.slice a8 L.length k8) L.length ((cnt 1 L.length).map (Value.int .i64))) := own_below HR10.out b11
    clear b11 HB10 HS10 HY10 HR10
    go_wp2_with fail
    refine (toIntS_any _ _ zs _ (HZ.out.below HB11.out) hn).mono ?_
    rintro e u12 ⟨rfl, o12, b12⟩
    have x12 := ints_of_own o12
    have HB12 : Hid (Below w.heap.size w u12) := next HB11.out b12
    have HS12 : Hid (SB q5 T a2 L.length k2 u12 ∧ SB q8 T a8 L.length k8 u12) := ⟨HS11.out.1.below b12, HS11.out.2.below b12⟩
    have HY12 : Hid (IntsAt u12 a2 L) := HY11.out.below b12
    have HR12 : Hid (u12.ownsRow u3.heap.size 3 1 (.slice a8 L.length k8) L.length ((cnt 1 L.length).map (Value.int .i64))) := own_below HR11.out b12
    clear b12 HB11 HS11 HY11 HR11
    clear o12
    go_wp2_with fail
    refine (HI.out _ _ x12).mono ?_
    rintro e u13 ⟨a13, k13, rfl, o13, b13⟩
    have y13 := ints_own o13
    have HB13 : Hid (Below w.heap.size w u13) := next HB12.out b13
    have HS13 : Hid (SB q5 T a2 L.length k2 u13 ∧ SB q8 T a8 L.length k8 u13) := ⟨HS12.out.1.below b13, HS12.out.2.below b13⟩
    have HY13 : Hid (IntsAt u13 a2 L) := HY12.out.below b13
    have HR13 : Hid (u13.ownsRow u3.heap.size 3 1 (.slice a8 L.length k8) L.length ((cnt 1 L.length).map (Value.int .i64))) := own_below HR12.out b13
    clear b13 HB12 HS12 HY12 HR12
    obtain ⟨V13, hV13⟩ : ∃ V, u13.alloc (.cells #[.int .i64 T, .slice a13 L.length k13, .slice none 0 0, .slice none 0 0, .slice none 0 0, .slice none 0 0] 32) = V := ⟨_, rfl⟩
    have b14 : Below u13.heap.size u13 V13 := by rw [← hV13]; exact (Below.refl _ _).alloc (Nat.le_refl _) _
    have s13 : SB u13.heap.size T a13 L.length k13 V13 := by rw [← hV13]; exact SB.new u13 T a13 L.length k13 _
    obtain ⟨q13, hq13⟩ : ∃ q, u13.heap.size = q := ⟨_, rfl⟩
    rw [hq13] at s13
    have HB14 : Hid (Below w.heap.size w V13) := next HB13.out b14
    have HS14 : Hid (SB q5 T a2 L.length k2 V13 ∧ SB q8 T a8 L.length k8 V13) := ⟨HS13.out.1.below b14, HS13.out.2.below b14⟩
    have HY14 : Hid (IntsAt V13 a2 L) := HY13.out.below b14
    have HX14 : Hid (IntsAt V13 a13 L) := y13.below b14
    have HR14 : Hid (V13.ownsRow u3.heap.size 3 1 (.slice a8 L.length k8) L.length ((cnt 1 L.length).map (Value.int .i64))) := own_below HR13.out b14
    have HEV : Hid _ := hV13
    have HEQ13 : Hid (u13.heap.size = q13) := hq13
    have HS13b : Hid (SB q13 T a13 L.length k13 V13) := s13
    clear o13 y13 x12 b14 s13 hV13 hq13 HB13 HS13 HY13 HR13
    go_upto_region 23 with fail
    rw [HEV.out, HEQ13.out]
    clear HEV HEQ13
    obtain ⟨c0, c1, c2, c3, c4, c5⟩ := HS14.out.1
    obtain ⟨d0, d1, d2, d3, d4, d5⟩ := HS13b.out
    go_wp2_with fail
    refine (HEQ.out _ _ _ _ _ HX14.out HY14.out).mono ?_
    rintro e u15 ⟨rfl, b15⟩
    clear c0 c1 c2 c3 c4 c5 d0 d1 d2 d3 d4 d5
    have HB15 : Hid (Below w.heap.size w u15) := next HB14.out b15
    obtain ⟨d0, d1, d2, d3, d4, d5⟩ := HS14.out.2.below b15
    have HR15 : Hid (u15.ownsRow u3.heap.size 3 1 (.slice a8 L.length k8) L.length ((cnt 1 L.length).map (Value.int .i64))) := own_below HR14.out b15
    clear b15 HB14 HS14 HY14 HR14 HX14 HS13b
    go_wp2_with fail
    refine (HHD.out _ _ _ (ints_own HR15.out)).mono ?_
    rintro e u16 ⟨rfl, b16⟩
    have HB16 : Hid (Below w.heap.size w u16) := next HB15.out b16
    clear d0 d1 d2 d3 d4 d5 b16
    go_wp2
    go_ret
    exact ⟨rfl, HB16.out⟩

set_option maxRecDepth 100000 in
theorem lifted (os : Os) (started : os.Started) (H : Type) (enc : TypeId × Value → H) :
    ReturnsInHanded {} Try.checked os 4 .any (Rows.fnExactBookStartSpec.pre6 enc Try.prog Try.f4 Rows.fnExactBookStartRow.domain false) (Rows.fnExactBookStartSpec.post enc Try.prog Try.f4 false true false false) := by
  refine returnsInHanded_of_change (C := Try.checked) own started (by kernel_rfl) Try.func4
    (ChangeSpec.witness6 (enc := enc) (C := Try.checked) false ⟨#[], #[.int .i64 0, .slice none 0 0], []⟩ 8 (by kernel_rfl) (by kernel_rfl) (by kernel_rfl) (by kernel_rfl)) ?_
  intro W base args ds gs before hval0 hW hcnd _
  have hval : ∀ (j : Nat) t v, Try.f4.params[j]? = some t → args[j]? = some v → Value.okWide Try.prog W .any base t v := hval0
  have hW' := hW
  obtain ⟨p, q, hA0, hV, rfl, hfz, hnd⟩ := hW
  have hA : DataW.TrodAll enc Try.prog W 0 (fun _ => true) true Try.f4.params.toList args.toList ds p := hA0
  rw [Try.params4] at hA hval
  obtain ⟨v0, vs0, d0, ds0, p0, q0, hargs, rfl, rfl, h0, r0⟩ := trodAll_cons hA
  obtain ⟨v1, vs1, d1, ds1, p1, q1, rfl, rfl, rfl, h1, r1⟩ := trodAll_cons r0
  obtain ⟨rfl, rfl, rfl⟩ := trodAll_nil r1
  obtain rfl : args = #[v0, v1] := by cases args; simp_all
  obtain ⟨rfl, rfl⟩ := trodVars_none hV
  obtain ⟨a0, rfl, rfl, rfl, w0⟩ := open_int Try.underlying3 (hval 0 3 v0 rfl rfl) h0
  obtain ⟨a1, len1, cap1, rfl⟩ := okWide_slice Try.underlying24 (hval 1 24 v1 rfl rfl)
  have k1 := h1
  have lt1 : ∀ x ∈ p1, x.block < W.heap.size := by obtain ⟨m, hm⟩ := k1; exact DataW.trod_lt m _ _ _ hm
  obtain ⟨z1, w1⟩ : ∃ zs, IsRow .i64 W a1 len1 cap1 zs := is_row Try.underlying24 Try.underlying3 (by kernel_rfl) h1
  clear hA0 hval0
  refine (walk a0 a1 len1 cap1 z1 W w0 w1).mono fun e W' ⟨he, bel⟩ => ?_
  subst he
  exact ⟨_, rfl, _, _, _, [], _, [], hW', trodAll_mk1 (shut_bool Try.underlying4 _), (trodAll_cons_mk (shut_int Try.underlying3 w0) (trodAll_cons_mk (Below.trod laidOut (by kernel_rfl) (of_decide_eq_true (by kernel_rfl)) k1 bel lt1) trodAll_mk0)), rfl, bel.frame _, fun h => by cases h⟩

theorem proved : Rows.FnExactBookStartSaid :=
  OpenClaim.holds_of_wide 4 Try.f4 rfl rfl rfl rfl rfl rfl rfl ⟨rfl, rfl, rfl, rfl, rfl⟩ rfl rfl rfl rfl rfl (by kernel_rfl) Try.func4 (by kernel_rfl)
    (of_decide_eq_true (by kernel_rfl)) (by unfold Func.isWrapper; first | (rw [if_pos (by decide +kernel)]; kernel_rfl) | (rw [if_neg (by decide +kernel)]; exact ⟨rfl, rfl⟩))
    (fun os started H enc _ => lifted os started H enc)

end Go.Proofs.Ytenbhmmknejcjaa.fnExactBookStart
