/- The contract of the specification's copy of a book. -/
import Derived.Test.YtlonjjliochbhaaJE10a
import Derived.Test.YtlonjjliochbhaaKE1SPost
namespace Go.Proofs.Ytlonjjliochbhaa
open Go.RowKit
set_option maxRecDepth 100000

theorem any_shape {w : World} {base n sz : Nat} {t : TypeId} {v : Value} {xs : List Value} (h : w.ownsRow base t sz v n xs) : ∃ ao cap, v = .slice ao n cap := by
  rcases h.2 with ⟨rfl, rfl⟩ | ⟨g, c, cur, rfl, _⟩
  · exact ⟨none, 0, rfl⟩
  · exact ⟨_, c, rfl⟩
/-- what an append to a new empty slice leaves: a row of its own, and all that was there -/
theorem app_step {u w2 : World} {o : Obj} {g : Nat} (hg : g = u.heap.size) (h : (u.alloc o).grownBy w2 (some g)) : Below u.heap.size u w2 :=
  (((Below.refl u.heap.size u).alloc (Nat.le_refl _) o)).grown h (by simp) (fun k hk => by cases hk; omega)
/-- a list that lies ahead of a place -/
def Ahead (a : Option Addr) (n : Nat) : Prop := ∀ x, a = some x → x.block < n
def Fresh (a : Option Addr) (n : Nat) : Prop := ∀ x, a = some x → n ≤ x.block
theorem own_ahead {w : World} {base n cap sz m : Nat} {t : TypeId} {a : Option Addr} {xs : List Value} (h : w.ownsRow base t sz (.slice a n cap) n xs) (hm : w.heap.size ≤ m) : Ahead a m := by
  intro x hx
  subst hx
  have := (h.lt x.block rfl).2
  omega
theorem own_fresh {w : World} {base n cap sz : Nat} {t : TypeId} {a : Option Addr} {xs : List Value} (h : w.ownsRow base t sz (.slice a n cap) n xs) : Fresh a base := by
  intro x hx
  subst hx
  exact (h.lt x.block rfl).1
structure CpR (w : World) (b : Bk) (e : Ending) (w' : World) : Prop where
  res : ∃ q base, e = .returned (bkv b q) ∧ BookAt w' b q ∧ w'.ownsRow base 9 1 (.slice q.g b.log.length q.gc) b.log.length (scells b.log) ∧ w.heap.size ≤ base ∧ base ≤ w'.heap.size ∧ (Ahead q.o base ∧ Ahead q.a base ∧ Ahead q.c base ∧ Ahead q.l base) ∧ (Fresh q.o w.heap.size ∧ Fresh q.a w.heap.size ∧ Fresh q.c w.heap.size ∧ Fresh q.l w.heap.size ∧ Fresh q.g w.heap.size)
  bel : Below w.heap.size w w'

set_option maxHeartbeats 25600000 in
theorem sBkCopy_any (b : Bk) (p : Bp) (w : World) (hx : BookAt w b p) (hn : bkSm b) :
    Calls Try.prog 26 #[bkv b p] w (CpR w b) := by
  have HX : Hid (∀ u, Below w.heap.size w u → BookAt u b p) := fun u h => hx.below h
  have HN : Hid (bkSm b) := hn
  clear hx hn
  obtain ⟨td, fo, az, cs, ls, lg⟩ := b
  obtain ⟨o, oc, a, ac, c, cc, l, lc, g, gc⟩ := p
  unfold bkv
  simp only
  obtain ⟨u0, hu0⟩ : ∃ u, u = (w.alloc (.cells #[.int .i64 td, .slice o fo.length oc, .slice a az.length ac, .slice c cs.length cc, .slice l ls.length lc, .slice g lg.length gc] 32)).alloc (.cells #[.int .i64 0, .slice none 0 0, .slice none 0 0, .slice none 0 0, .slice none 0 0, .slice none 0 0] 32) := ⟨_, rfl⟩
  have HB0 : Hid (Below w.heap.size w u0) := by rw [Hid, hu0]; go_grown
  have HS0 : Hid (w.heap.size + 1 + 1 ≤ u0.heap.size) := by rw [Hid, hu0]; simp
  have HZ0 : Hid (Z6 w.heap.size (.int .i64 td) (.slice o fo.length oc) (.slice a az.length ac) (.slice c cs.length cc) (.slice l ls.length lc) (.slice g lg.length gc) u0) := by
    rw [Hid, hu0]
    exact (Z6.new w (.int .i64 td) (.slice o fo.length oc) (.slice a az.length ac) (.slice c cs.length cc) (.slice l ls.length lc) (.slice g lg.length gc) 32).below ((Below.refl _ _).alloc (Nat.le_refl _) _)
  have HR0 : Hid (Z6 (w.heap.size + 1) (.int .i64 0) (.slice none 0 0) (.slice none 0 0) (.slice none 0 0) (.slice none 0 0) (.slice none 0 0) u0) := by
    have h := Z6.new (w.alloc (.cells #[.int .i64 td, .slice o fo.length oc, .slice a az.length ac, .slice c cs.length cc, .slice l ls.length lc, .slice g lg.length gc] 32)) (.int .i64 0) (.slice none 0 0) (.slice none 0 0) (.slice none 0 0) (.slice none 0 0) (.slice none 0 0) 32
    rw [Hid, hu0]; simpa using h
  have HU0 : Hid _ := hu0
  clear hu0
  go_enter Try.func26, Try.ntmps26
  go_upto_region 1 with fail
  rw [← HU0.out]
  clear HU0
  have n1 : fo.length ≤ 1048576 := by have := HN.out.1; simpa using this
  have x1 := (HZ0.out.below ((Below.refl _ _).alloc (Nat.le_refl _) (.cells #[] 3))).c1
  have HE1 : Hid ((u0.alloc (.cells #[] 3)).ownsRow (w.heap.size + 1 + 1) 3 1 (.slice (some ⟨u0.heap.size, 0, none⟩) 0 0) 0 []) := by
    have h := World.ownsRow_lit (base := w.heap.size + 1 + 1) (e := 3) (size := 1) u0 #[] 0 HS0.out (by unfold maxLen; omega) rfl
    rw [Hid]; simpa using h
  have HI1 : Hid _ := (HX.out _ (HB0.out.alloc HB0.out.size (.cells #[] 3))).off
  simp only at HI1
  have HP1 : Hid (∀ v2 w2, w2.ownsRow (w.heap.size + 1 + 1) 3 1 v2 (0 + fo.length) ([] ++ (fo.map (Value.int .i64))) → (u0.alloc (.cells #[] 3)).grownBy w2 (some u0.heap.size) → ∃ a9 k9, v2 = .slice a9 fo.length k9 ∧ w2.ownsRow (w.heap.size + 1 + 1) 3 1 (.slice a9 fo.length k9) fo.length (fo.map (Value.int .i64)) ∧ Z6 w.heap.size (.int .i64 td) (.slice o fo.length oc) (.slice a az.length ac) (.slice c cs.length cc) (.slice l ls.length lc) (.slice g lg.length gc) w2 ∧ Below u0.heap.size u0 w2) := by
    intro v2 w2 o2 g2
    rw [Nat.zero_add, List.nil_append] at o2
    obtain ⟨a9, k9, hv⟩ := any_shape o2
    subst hv
    have b2 := app_step rfl g2
    exact ⟨a9, k9, rfl, o2, HZ0.out.below b2, b2⟩
  go_upto_region 2 with (at_builtin; refine wpList_append_intsAt _ rfl (.tmp 3) (.tmp 5) rfl (w.heap.size + 1 + 1) _ 0 [] rfl HE1.out o oc fo rfl HI1.out (by omega) (by have := HS0.out; simp; omega) ?_; intro v2 w2 o2 g2; obtain ⟨b1, k1, hv2, r1, zz, bb⟩ := HP1.out v2 w2 o2 g2; subst hv2; have y1 := zz.c1; have f1 := zz.z1; have HRW1 : Hid _ := r1; have HZW1 : Hid _ := zz; have HBB1 : Hid _ := bb; clear o2 g2 zz bb r1)
  clear HE1 HI1 HP1 x1
  obtain ⟨u1, hu1⟩ : ∃ u, u = w2.setCell ⟨w.heap.size, 1, none⟩ (.slice b1 fo.length k1) := ⟨_, rfl⟩
  have HZ1 : Hid (Z6 w.heap.size (.int .i64 td) (.slice b1 fo.length k1) (.slice a az.length ac) (.slice c cs.length cc) (.slice l ls.length lc) (.slice g lg.length gc) u1) := by rw [Hid, hu1]; exact HZW1.out.set1 _
  have HR1 : Hid (Z6 (w.heap.size + 1) (.int .i64 0) (.slice none 0 0) (.slice none 0 0) (.slice none 0 0) (.slice none 0 0) (.slice none 0 0) u1) := by rw [Hid, hu1]; exact (HR0.out.below HBB1.out).far (by omega)
  have HB1 : Hid (Below w.heap.size w u1) := by rw [Hid, hu1]; exact (next HB0.out HBB1.out).setCell (Nat.le_refl _) _
  have HS1 : Hid (w.heap.size + 1 + 1 ≤ u1.heap.size) := by rw [Hid, hu1]; have := HBB1.out.size; have := HS0.out; simp; omega
  have HO1_1 : Hid (u1.ownsRow (w.heap.size + 1 + 1) 3 1 (.slice b1 fo.length k1) fo.length (fo.map (Value.int .i64))) := by rw [Hid, hu1]; exact row_far (HRW1.out) (by omega)
  rw [← hu1]
  clear hu1 y1 f1 HZW1 HRW1 HBB1 HZ0 HR0 HB0 HS0 n1
  have n2 : az.length ≤ 1048576 := by have := HN.out.2.1; simpa using this
  have x2 := (HZ1.out.below ((Below.refl _ _).alloc (Nat.le_refl _) (.cells #[] 63))).c2
  have HE2 : Hid ((u1.alloc (.cells #[] 63)).ownsRow (w.heap.size + 1 + 1) 63 6 (.slice (some ⟨u1.heap.size, 0, none⟩) 0 0) 0 []) := by
    have h := World.ownsRow_lit (base := w.heap.size + 1 + 1) (e := 63) (size := 6) u1 #[] 0 HS1.out (by unfold maxLen; omega) rfl
    rw [Hid]; simpa using h
  have HI2 : Hid _ := (HX.out _ (HB1.out.alloc HB1.out.size (.cells #[] 63))).az
  simp only at HI2
  have HP2 : Hid (∀ v2 w2, w2.ownsRow (w.heap.size + 1 + 1) 63 6 v2 (0 + az.length) ([] ++ (acells az)) → (u1.alloc (.cells #[] 63)).grownBy w2 (some u1.heap.size) → ∃ a9 k9, v2 = .slice a9 az.length k9 ∧ w2.ownsRow (w.heap.size + 1 + 1) 63 6 (.slice a9 az.length k9) az.length (acells az) ∧ Z6 w.heap.size (.int .i64 td) (.slice b1 fo.length k1) (.slice a az.length ac) (.slice c cs.length cc) (.slice l ls.length lc) (.slice g lg.length gc) w2 ∧ Below u1.heap.size u1 w2) := by
    intro v2 w2 o2 g2
    rw [Nat.zero_add, List.nil_append] at o2
    obtain ⟨a9, k9, hv⟩ := any_shape o2
    subst hv
    have b2 := app_step rfl g2
    exact ⟨a9, k9, rfl, o2, HZ1.out.below b2, b2⟩
  go_upto_region 3 with (at_builtin; refine wpList_append_auths _ rfl (.tmp 8) (.tmp 10) rfl (w.heap.size + 1 + 1) _ 0 [] rfl HE2.out a ac az rfl HI2.out (by omega) (by have := HS1.out; simp; omega) ?_; intro v2 w2 o2 g2 _; obtain ⟨b2, k2, hv2, r2, zz, bb⟩ := HP2.out v2 w2 o2 g2; subst hv2; have y2 := zz.c2; have f2 := zz.z2; have HRW2 : Hid _ := r2; have HZW2 : Hid _ := zz; have HBB2 : Hid _ := bb; clear o2 g2 zz bb r2)
  clear HE2 HI2 HP2 x2
  obtain ⟨u2, hu2⟩ : ∃ u, u = w2.setCell ⟨w.heap.size, 2, none⟩ (.slice b2 az.length k2) := ⟨_, rfl⟩
  have HZ2 : Hid (Z6 w.heap.size (.int .i64 td) (.slice b1 fo.length k1) (.slice b2 az.length k2) (.slice c cs.length cc) (.slice l ls.length lc) (.slice g lg.length gc) u2) := by rw [Hid, hu2]; exact HZW2.out.set2 _
  have HR2 : Hid (Z6 (w.heap.size + 1) (.int .i64 0) (.slice none 0 0) (.slice none 0 0) (.slice none 0 0) (.slice none 0 0) (.slice none 0 0) u2) := by rw [Hid, hu2]; exact (HR1.out.below HBB2.out).far (by omega)
  have HB2 : Hid (Below w.heap.size w u2) := by rw [Hid, hu2]; exact (next HB1.out HBB2.out).setCell (Nat.le_refl _) _
  have HS2 : Hid (w.heap.size + 1 + 1 ≤ u2.heap.size) := by rw [Hid, hu2]; have := HBB2.out.size; have := HS1.out; simp; omega
  have HO1_2 : Hid (u2.ownsRow (w.heap.size + 1 + 1) 3 1 (.slice b1 fo.length k1) fo.length (fo.map (Value.int .i64))) := by rw [Hid, hu2]; exact row_far (keepL HO1_1.out HBB2.out) (by omega)
  have HO2_2 : Hid (u2.ownsRow (w.heap.size + 1 + 1) 63 6 (.slice b2 az.length k2) az.length (acells az)) := by rw [Hid, hu2]; exact row_far (HRW2.out) (by omega)
  rw [← hu2]
  clear hu2 y2 f2 HZW2 HRW2 HBB2 HZ1 HR1 HB1 HS1 n2 HO1_1
  have n3 : cs.length ≤ 1048576 := by have := HN.out.2.2.1; simpa using this
  have x3 := (HZ2.out.below ((Below.refl _ _).alloc (Nat.le_refl _) (.cells #[] 37))).c3
  have HE3 : Hid ((u2.alloc (.cells #[] 37)).ownsRow (w.heap.size + 1 + 1) 37 12 (.slice (some ⟨u2.heap.size, 0, none⟩) 0 0) 0 []) := by
    have h := World.ownsRow_lit (base := w.heap.size + 1 + 1) (e := 37) (size := 12) u2 #[] 0 HS2.out (by unfold maxLen; omega) rfl
    rw [Hid]; simpa using h
  have HI3 : Hid _ := (HX.out _ (HB2.out.alloc HB2.out.size (.cells #[] 37))).cs
  simp only at HI3
  have HP3 : Hid (∀ v2 w2, w2.ownsRow (w.heap.size + 1 + 1) 37 12 v2 (0 + cs.length) ([] ++ (cscells cs)) → (u2.alloc (.cells #[] 37)).grownBy w2 (some u2.heap.size) → ∃ a9 k9, v2 = .slice a9 cs.length k9 ∧ w2.ownsRow (w.heap.size + 1 + 1) 37 12 (.slice a9 cs.length k9) cs.length (cscells cs) ∧ Z6 w.heap.size (.int .i64 td) (.slice b1 fo.length k1) (.slice b2 az.length k2) (.slice c cs.length cc) (.slice l ls.length lc) (.slice g lg.length gc) w2 ∧ Below u2.heap.size u2 w2) := by
    intro v2 w2 o2 g2
    rw [Nat.zero_add, List.nil_append] at o2
    obtain ⟨a9, k9, hv⟩ := any_shape o2
    subst hv
    have b2 := app_step rfl g2
    exact ⟨a9, k9, rfl, o2, HZ2.out.below b2, b2⟩
  go_upto_region 4 with (at_builtin; refine wpList_append_cases _ rfl (.tmp 13) (.tmp 15) rfl (w.heap.size + 1 + 1) _ 0 [] rfl HE3.out c cc cs rfl HI3.out (by omega) (by have := HS2.out; simp; omega) ?_; intro v2 w2 o2 g2 _; obtain ⟨b3, k3, hv2, r3, zz, bb⟩ := HP3.out v2 w2 o2 g2; subst hv2; have y3 := zz.c3; have f3 := zz.z3; have HRW3 : Hid _ := r3; have HZW3 : Hid _ := zz; have HBB3 : Hid _ := bb; clear o2 g2 zz bb r3)
  clear HE3 HI3 HP3 x3
  obtain ⟨u3, hu3⟩ : ∃ u, u = w2.setCell ⟨w.heap.size, 3, none⟩ (.slice b3 cs.length k3) := ⟨_, rfl⟩
  have HZ3 : Hid (Z6 w.heap.size (.int .i64 td) (.slice b1 fo.length k1) (.slice b2 az.length k2) (.slice b3 cs.length k3) (.slice l ls.length lc) (.slice g lg.length gc) u3) := by rw [Hid, hu3]; exact HZW3.out.set3 _
  have HR3 : Hid (Z6 (w.heap.size + 1) (.int .i64 0) (.slice none 0 0) (.slice none 0 0) (.slice none 0 0) (.slice none 0 0) (.slice none 0 0) u3) := by rw [Hid, hu3]; exact (HR2.out.below HBB3.out).far (by omega)
  have HB3 : Hid (Below w.heap.size w u3) := by rw [Hid, hu3]; exact (next HB2.out HBB3.out).setCell (Nat.le_refl _) _
  have HS3 : Hid (w.heap.size + 1 + 1 ≤ u3.heap.size) := by rw [Hid, hu3]; have := HBB3.out.size; have := HS2.out; simp; omega
  have HO1_3 : Hid (u3.ownsRow (w.heap.size + 1 + 1) 3 1 (.slice b1 fo.length k1) fo.length (fo.map (Value.int .i64))) := by rw [Hid, hu3]; exact row_far (keepL HO1_2.out HBB3.out) (by omega)
  have HO2_3 : Hid (u3.ownsRow (w.heap.size + 1 + 1) 63 6 (.slice b2 az.length k2) az.length (acells az)) := by rw [Hid, hu3]; exact row_far (keepL HO2_2.out HBB3.out) (by omega)
  have HO3_3 : Hid (u3.ownsRow (w.heap.size + 1 + 1) 37 12 (.slice b3 cs.length k3) cs.length (cscells cs)) := by rw [Hid, hu3]; exact row_far (HRW3.out) (by omega)
  rw [← hu3]
  clear hu3 y3 f3 HZW3 HRW3 HBB3 HZ2 HR2 HB2 HS2 n3 HO1_2 HO2_2
  have n4 : ls.length ≤ 1048576 := by have := HN.out.2.2.2.1; simpa using this
  have x4 := HZ3.out.c4
  have zf4 := HZ3.out.z4
  go_wp2_with fail
  refine (sCopy_any _ _ ls _ (HX.out _ HB3.out).ls (by omega)).mono ?_
  rintro e w2 ⟨b4, k4, rfl, o4, bb⟩
  have HRW4 : Hid (w2.ownsRow (w.heap.size + 1 + 1) 115 3 (.slice b4 ls.length k4) ls.length (lcells ls)) := lowerL o4 HS3.out
  have HZW4 : Hid (Z6 w.heap.size (.int .i64 td) (.slice b1 fo.length k1) (.slice b2 az.length k2) (.slice b3 cs.length k3) (.slice l ls.length lc) (.slice g lg.length gc) w2) := HZ3.out.below bb
  have HBB4 : Hid _ := bb
  have y4 := HZW4.out.c4
  have f4 := HZW4.out.z4
  clear bb o4 x4 zf4
  go_upto_region 5 with fail
  obtain ⟨u4, hu4⟩ : ∃ u, u = w2.setCell ⟨w.heap.size, 4, none⟩ (.slice b4 ls.length k4) := ⟨_, rfl⟩
  have HZ4 : Hid (Z6 w.heap.size (.int .i64 td) (.slice b1 fo.length k1) (.slice b2 az.length k2) (.slice b3 cs.length k3) (.slice b4 ls.length k4) (.slice g lg.length gc) u4) := by rw [Hid, hu4]; exact HZW4.out.set4 _
  have HR4 : Hid (Z6 (w.heap.size + 1) (.int .i64 0) (.slice none 0 0) (.slice none 0 0) (.slice none 0 0) (.slice none 0 0) (.slice none 0 0) u4) := by rw [Hid, hu4]; exact (HR3.out.below HBB4.out).far (by omega)
  have HB4 : Hid (Below w.heap.size w u4) := by rw [Hid, hu4]; exact (next HB3.out HBB4.out).setCell (Nat.le_refl _) _
  have HS4 : Hid (w.heap.size + 1 + 1 ≤ u4.heap.size) := by rw [Hid, hu4]; have := HBB4.out.size; have := HS3.out; simp; omega
  have HO1_4 : Hid (u4.ownsRow (w.heap.size + 1 + 1) 3 1 (.slice b1 fo.length k1) fo.length (fo.map (Value.int .i64))) := by rw [Hid, hu4]; exact row_far (keepL HO1_3.out HBB4.out) (by omega)
  have HO2_4 : Hid (u4.ownsRow (w.heap.size + 1 + 1) 63 6 (.slice b2 az.length k2) az.length (acells az)) := by rw [Hid, hu4]; exact row_far (keepL HO2_3.out HBB4.out) (by omega)
  have HO3_4 : Hid (u4.ownsRow (w.heap.size + 1 + 1) 37 12 (.slice b3 cs.length k3) cs.length (cscells cs)) := by rw [Hid, hu4]; exact row_far (keepL HO3_3.out HBB4.out) (by omega)
  have HO4_4 : Hid (u4.ownsRow (w.heap.size + 1 + 1) 115 3 (.slice b4 ls.length k4) ls.length (lcells ls)) := by rw [Hid, hu4]; exact row_far (HRW4.out) (by omega)
  rw [← hu4]
  clear hu4 y4 f4 HZW4 HRW4 HBB4 HZ3 HR3 HB3 HS3 n4 HO1_3 HO2_3 HO3_3
  have n5 : lg.length ≤ 1048576 := by have := HN.out.2.2.2.2; simpa using this
  have x5 := (HZ4.out.below ((Below.refl _ _).alloc (Nat.le_refl _) (.cells #[] 9))).c5
  obtain ⟨BS5, hBS⟩ : ∃ n, n = u4.heap.size := ⟨_, rfl⟩
  have HBS : Hid (w.heap.size + 1 + 1 ≤ BS5 ∧ BS5 ≤ u4.heap.size) := by rw [Hid, hBS]; exact ⟨HS4.out, Nat.le_refl _⟩
  have HAH : Hid (Ahead b1 BS5 ∧ Ahead b2 BS5 ∧ Ahead b3 BS5 ∧ Ahead b4 BS5) := by
    rw [Hid, hBS]
    exact ⟨own_ahead HO1_4.out (Nat.le_refl _), own_ahead HO2_4.out (Nat.le_refl _), own_ahead HO3_4.out (Nat.le_refl _), own_ahead HO4_4.out (Nat.le_refl _)⟩
  clear hBS
  have HE5 : Hid ((u4.alloc (.cells #[] 9)).ownsRow BS5 9 1 (.slice (some ⟨u4.heap.size, 0, none⟩) 0 0) 0 []) := by
    have h := World.ownsRow_lit (base := BS5) (e := 9) (size := 1) u4 #[] 0 HBS.out.2 (by unfold maxLen; omega) rfl
    rw [Hid]; simpa using h
  have HI5 : Hid _ := (HX.out _ (HB4.out.alloc HB4.out.size (.cells #[] 9))).log
  simp only at HI5
  have HP5 : Hid (∀ v2 w2, w2.ownsRow BS5 9 1 v2 (0 + lg.length) ([] ++ (scells lg)) → (u4.alloc (.cells #[] 9)).grownBy w2 (some u4.heap.size) → ∃ a9 k9, v2 = .slice a9 lg.length k9 ∧ w2.ownsRow BS5 9 1 (.slice a9 lg.length k9) lg.length (scells lg) ∧ Z6 w.heap.size (.int .i64 td) (.slice b1 fo.length k1) (.slice b2 az.length k2) (.slice b3 cs.length k3) (.slice b4 ls.length k4) (.slice g lg.length gc) w2 ∧ Below u4.heap.size u4 w2) := by
    intro v2 w2 o2 g2
    rw [Nat.zero_add, List.nil_append] at o2
    obtain ⟨a9, k9, hv⟩ := any_shape o2
    subst hv
    have b2 := app_step rfl g2
    exact ⟨a9, k9, rfl, o2, HZ4.out.below b2, b2⟩
  go_upto_region 6 with (at_builtin; refine wpList_append_txtsAt _ rfl (.tmp 22) (.tmp 24) rfl BS5 _ 0 [] rfl HE5.out g gc lg rfl HI5.out (by omega) (by have := HBS.out; simp; omega) ?_; intro v2 w2 o2 g2; obtain ⟨b5, k5, hv2, r5, zz, bb⟩ := HP5.out v2 w2 o2 g2; subst hv2; have y5 := zz.c5; have f5 := zz.z5; have HRW5 : Hid _ := r5; have HZW5 : Hid _ := zz; have HBB5 : Hid _ := bb; clear o2 g2 zz bb r5)
  clear HE5 HI5 HP5 x5
  obtain ⟨u5, hu5⟩ : ∃ u, u = w2.setCell ⟨w.heap.size, 5, none⟩ (.slice b5 lg.length k5) := ⟨_, rfl⟩
  have HZ5 : Hid (Z6 w.heap.size (.int .i64 td) (.slice b1 fo.length k1) (.slice b2 az.length k2) (.slice b3 cs.length k3) (.slice b4 ls.length k4) (.slice b5 lg.length k5) u5) := by rw [Hid, hu5]; exact HZW5.out.set5 _
  have HR5 : Hid (Z6 (w.heap.size + 1) (.int .i64 0) (.slice none 0 0) (.slice none 0 0) (.slice none 0 0) (.slice none 0 0) (.slice none 0 0) u5) := by rw [Hid, hu5]; exact (HR4.out.below HBB5.out).far (by omega)
  have HB5S : Hid (BS5 ≤ u5.heap.size) := by rw [Hid, hu5]; have := HBB5.out.size; have := HBS.out; simp; omega
  have HB5 : Hid (Below w.heap.size w u5) := by rw [Hid, hu5]; exact (next HB4.out HBB5.out).setCell (Nat.le_refl _) _
  have HS5 : Hid (w.heap.size + 1 + 1 ≤ u5.heap.size) := by rw [Hid, hu5]; have := HBB5.out.size; have := HS4.out; simp; omega
  have HO1_5 : Hid (u5.ownsRow (w.heap.size + 1 + 1) 3 1 (.slice b1 fo.length k1) fo.length (fo.map (Value.int .i64))) := by rw [Hid, hu5]; exact row_far (keepL HO1_4.out HBB5.out) (by omega)
  have HO2_5 : Hid (u5.ownsRow (w.heap.size + 1 + 1) 63 6 (.slice b2 az.length k2) az.length (acells az)) := by rw [Hid, hu5]; exact row_far (keepL HO2_4.out HBB5.out) (by omega)
  have HO3_5 : Hid (u5.ownsRow (w.heap.size + 1 + 1) 37 12 (.slice b3 cs.length k3) cs.length (cscells cs)) := by rw [Hid, hu5]; exact row_far (keepL HO3_4.out HBB5.out) (by omega)
  have HO4_5 : Hid (u5.ownsRow (w.heap.size + 1 + 1) 115 3 (.slice b4 ls.length k4) ls.length (lcells ls)) := by rw [Hid, hu5]; exact row_far (keepL HO4_4.out HBB5.out) (by omega)
  have HO5_5 : Hid (u5.ownsRow BS5 9 1 (.slice b5 lg.length k5) lg.length (scells lg)) := by rw [Hid, hu5]; exact row_far (HRW5.out) (by have := HBS.out; omega)
  rw [← hu5]
  clear hu5 y5 f5 HZW5 HRW5 HBB5 HZ4 HR4 HB4 HS4 n5 HO1_4 HO2_4 HO3_4 HO4_4
  have HBZ : Hid (BS5 ≤ u5.heap.size) := HB5S.out
  obtain ⟨t0, t1, t2, t3, t4, t5, -, -, -, -, -, -⟩ := HZ5.out
  obtain ⟨q0, q1, q2, q3, q4, q5, p0, p1, p2, p3, p4, p5⟩ := HR5.out
  go_wp2
  refine bodyPost_ret (by simp [results, Try.results26, go_sem, q0, q1, q2, q3, q4, q5]; try rfl) rfl ?_
  have bel : ∀ (i : Nat) (x : Value) (u : World), Below w.heap.size w u → Below w.heap.size w (u.setCell ⟨w.heap.size + 1, i, none⟩ x) := fun i x u h => h.setCell (show w.heap.size ≤ w.heap.size + 1 by omega) x
  have hbs := HBS.out
  refine ⟨⟨⟨b1, k1, b2, k2, b3, k3, b4, k4, b5, k5⟩, BS5, rfl, ⟨ints_own (row_far (row_far (row_far (row_far (row_far (row_far (HO1_5.out) (by omega)) (by omega)) (by omega)) (by omega)) (by omega)) (by omega)), auths_any (row_far (row_far (row_far (row_far (row_far (row_far (HO2_5.out) (by omega)) (by omega)) (by omega)) (by omega)) (by omega)) (by omega)), cases_own (row_far (row_far (row_far (row_far (row_far (row_far (HO3_5.out) (by omega)) (by omega)) (by omega)) (by omega)) (by omega)) (by omega)), lines_any (row_far (row_far (row_far (row_far (row_far (row_far (HO4_5.out) (by omega)) (by omega)) (by omega)) (by omega)) (by omega)) (by omega)), txts_any (row_far (row_far (row_far (row_far (row_far (row_far (HO5_5.out) (by omega)) (by omega)) (by omega)) (by omega)) (by omega)) (by omega))⟩, (row_far (row_far (row_far (row_far (row_far (row_far (HO5_5.out) (by omega)) (by omega)) (by omega)) (by omega)) (by omega)) (by omega)), by omega, by simpa using HBZ.out, HAH.out, ⟨own_fresh (lowerL HO1_5.out (show w.heap.size ≤ _ by omega)), own_fresh (lowerL HO2_5.out (show w.heap.size ≤ _ by omega)), own_fresh (lowerL HO3_5.out (show w.heap.size ≤ _ by omega)), own_fresh (lowerL HO4_5.out (show w.heap.size ≤ _ by omega)), own_fresh (lowerL HO5_5.out (show w.heap.size ≤ _ by omega))⟩⟩, bel _ _ _ (bel _ _ _ (bel _ _ _ (bel _ _ _ (bel _ _ _ (bel _ _ _ HB5.out)))))⟩

end Go.Proofs.Ytlonjjliochbhaa
