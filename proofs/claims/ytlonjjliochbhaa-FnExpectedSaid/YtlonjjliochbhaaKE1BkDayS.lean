/- The contract of the specification's l11Day. -/
import Derived.Test.YtlonjjliochbhaaJE14a
namespace Go.Proofs.Ytlonjjliochbhaa
open Go.RowKit
set_option maxRecDepth 100000

def dayB (F : Fns) (b : Bk) (n : Int) : Bk × Int := if dOk n = true ∧ b.today < n then (⟨n, b.off, F.prune b.az n, b.cs, b.ls, b.log⟩, 0) else (b, 4)
theorem day_no1 (F : Fns) (b : Bk) {n : Int} (h : dOk n = false) : dayB F b n = (b, 4) := if_neg (by rw [h]; simp)
theorem day_no2 (F : Fns) {b : Bk} {n : Int} (h : ¬ b.today < n) : dayB F b n = (b, 4) := if_neg (fun e => h e.2)
theorem day_yes (F : Fns) {b : Bk} {n : Int} (h : dOk n = true) (g : b.today < n) : dayB F b n = (⟨n, b.off, F.prune b.az n, b.cs, b.ls, b.log⟩, 0) := if_pos ⟨h, g⟩

set_option maxHeartbeats 6400000 in
theorem sDay_any (F : Fns) (K : Known F) (b : Bk) (p : Bp) (n : Int) (w : World) (hx : BookAt w b p) (hn : bkSm b) :
    Calls Try.prog 38 #[bkv b p, .int .i64 n] w (BdR w p (dayB F b n).1 (dayB F b n).2) := by
  have HX : Hid (∀ u, Below w.heap.size w u → BookAt u b p) := fun u h => hx.below h
  have HN : Hid (bkSm b) := hn
  clear hx hn
  obtain ⟨td, fo, az, cs, ls, lg⟩ := b
  obtain ⟨o, oc, a, ac, c, cc, l, lc, g, gc⟩ := p
  unfold bkv
  simp only
  obtain ⟨u0, hu0⟩ : ∃ u, u = ((w.alloc (.cells #[.int .i64 td, .slice o fo.length oc, .slice a az.length ac, .slice c cs.length cc, .slice l ls.length lc, .slice g lg.length gc] 32))).alloc (.cells #[.int .i64 0, .slice none 0 0, .slice none 0 0, .slice none 0 0, .slice none 0 0, .slice none 0 0] 32) := ⟨_, rfl⟩
  have HB0 : Hid (Below w.heap.size w u0) := by rw [Hid, hu0]; go_grown
  have HS0 : Hid ((w.heap.size + 1) < u0.heap.size) := by rw [Hid, hu0]; simp
  have HZ0 : Hid (Z6 w.heap.size (.int .i64 td) (.slice o fo.length oc) (.slice a az.length ac) (.slice c cs.length cc) (.slice l ls.length lc) (.slice g lg.length gc) u0) := by
    rw [Hid, hu0]
    exact ((Z6.new w (.int .i64 td) (.slice o fo.length oc) (.slice a az.length ac) (.slice c cs.length cc) (.slice l ls.length lc) (.slice g lg.length gc) 32)).below ((Below.refl _ _).alloc (Nat.le_refl _) _)
  have HR0 : Hid (Z6 (w.heap.size + 1) (.int .i64 0) (.slice none 0 0) (.slice none 0 0) (.slice none 0 0) (.slice none 0 0) (.slice none 0 0) u0) := by
    have h := Z6.new ((w.alloc (.cells #[.int .i64 td, .slice o fo.length oc, .slice a az.length ac, .slice c cs.length cc, .slice l ls.length lc, .slice g lg.length gc] 32))) (.int .i64 0) (.slice none 0 0) (.slice none 0 0) (.slice none 0 0) (.slice none 0 0) (.slice none 0 0) 32
    rw [Hid, hu0]; simpa using h
  have HU0 : Hid _ := hu0
  clear hu0
  go_enter Try.func38, Try.ntmps38
  go_upto_region 1 with fail
  rw [← HU0.out]
  clear HU0
  obtain ⟨t0, t1, t2, t3, t4, t5, s0, s1, s2, s3, s4, s5⟩ := HZ0.out
  obtain ⟨q0, q1, q2, q3, q4, q5, p0, p1, p2, p3, p4, p5⟩ := HR0.out
  cases hd : dOk n
  · have HE : Hid _ := day_no1 F ⟨td, fo, az, cs, ls, lg⟩ hd
    go_wp2_with (go_at_call 24; refine (sDayOk_any _ _).mono ?_; rintro e w' ⟨rfl, hw'⟩; replace hw' := hw'.symm; subst hw'; rw [hd])
    refine bodyPost_ret (by simp [results, Try.results38, go_sem, q0, q1, q2, q3, q4, q5]; try rfl) rfl ?_
    rw [HE.out]
    have bel := put6_below (R := (w.heap.size + 1)) (by omega) HB0.out
    exact ⟨⟨o, oc, a, ac, c, cc, l, lc, g, gc⟩, rfl, HX.out _ (bel _ _ _ _ _ _), rfl, rfl, ⟨rfl, .inl rfl, .inl rfl, .inl rfl⟩, bel _ _ _ _ _ _⟩
  by_cases hlt : td < n
  case neg =>
    have hle : n ≤ td := by omega
    have HE : Hid _ := @day_no2 F ⟨td, fo, az, cs, ls, lg⟩ n hlt
    go_wp2_with (go_at_call 24; refine (sDayOk_any _ _).mono ?_; rintro e w' ⟨rfl, hw'⟩; replace hw' := hw'.symm; subst hw'; rw [hd])
    refine bodyPost_ret (by simp [results, Try.results38, go_sem, q0, q1, q2, q3, q4, q5]; try rfl) rfl ?_
    rw [HE.out]
    have bel := put6_below (R := (w.heap.size + 1)) (by omega) HB0.out
    exact ⟨⟨o, oc, a, ac, c, cc, l, lc, g, gc⟩, rfl, HX.out _ (bel _ _ _ _ _ _), rfl, rfl, ⟨rfl, .inl rfl, .inl rfl, .inl rfl⟩, bel _ _ _ _ _ _⟩
  have hle : ¬ n ≤ td := by omega
  have HE : Hid _ := @day_yes F ⟨td, fo, az, cs, ls, lg⟩ n hd hlt
  go_upto_region 4 with (go_at_call 24; refine (sDayOk_any _ _).mono ?_; rintro e w' ⟨rfl, hw'⟩; replace hw' := hw'.symm; subst hw'; rw [hd])
  obtain ⟨u1, hu1⟩ : ∃ u, u = u0.setCell ⟨w.heap.size, 0, none⟩ (.int .i64 n) := ⟨_, rfl⟩
  have HZ1 : Hid (Z6 w.heap.size (.int .i64 n) (.slice o fo.length oc) (.slice a az.length ac) (.slice c cs.length cc) (.slice l ls.length lc) (.slice g lg.length gc) u1) := by rw [Hid, hu1]; exact HZ0.out.set0 _
  have HR1 : Hid (Z6 (w.heap.size + 1) (.int .i64 0) (.slice none 0 0) (.slice none 0 0) (.slice none 0 0) (.slice none 0 0) (.slice none 0 0) u1) := by rw [Hid, hu1]; exact HR0.out.far (by omega)
  have HB1 : Hid (Below w.heap.size w u1) := by rw [Hid, hu1]; exact HB0.out.setCell (Nat.le_refl _) _
  have HS1 : Hid (w.heap.size + 1 < u1.heap.size) := by rw [Hid, hu1]; simpa using HS0.out
  rw [← hu1]
  clear hu1 HZ0 HR0 HB0 HS0 t0 t1 t2 t3 t4 t5 s0 s1 s2 s3 s4 s5 q0 q1 q2 q3 q4 q5 p0 p1 p2 p3 p4 p5
  obtain ⟨t0, t1, t2, t3, t4, t5, s0, s1, s2, s3, s4, s5⟩ := HZ1.out
  obtain ⟨q0, q1, q2, q3, q4, q5, p0, p1, p2, p3, p4, p5⟩ := HR1.out
  go_wp2_with fail
  refine (K.prune a ac az n _ (HX.out _ HB1.out).az (by have := HN.out.2.1; simpa using this)).mono ?_
  rintro e u2 ⟨b2, k2, rfl, o2, bb⟩
  have HZ2 : Hid _ := HZ1.out.below bb
  have HR2 : Hid _ := HR1.out.below bb
  have HB2 : Hid (Below w.heap.size w u2) := next HB1.out bb
  have HO2 : Hid _ := lowerL o2 HS1.out
  obtain ⟨L, hL⟩ : ∃ L, F.prune az n = L := ⟨_, rfl⟩
  rw [hL] at HO2 ⊢
  clear t0 t1 t2 t3 t4 t5 s0 s1 s2 s3 s4 s5 q0 q1 q2 q3 q4 q5 p0 p1 p2 p3 p4 p5 bb o2 HZ1 HR1 HB1
  obtain ⟨t0, t1, t2, t3, t4, t5, s0, s1, s2, s3, s4, s5⟩ := HZ2.out
  obtain ⟨q0, q1, q2, q3, q4, q5, p0, p1, p2, p3, p4, p5⟩ := HR2.out
  go_upto_region 5 with fail
  obtain ⟨u3, hu3⟩ : ∃ u, u = u2.setCell ⟨w.heap.size, 2, none⟩ (.slice b2 L.length k2) := ⟨_, rfl⟩
  have HZ3 : Hid (Z6 w.heap.size (.int .i64 n) (.slice o fo.length oc) (.slice b2 L.length k2) (.slice c cs.length cc) (.slice l ls.length lc) (.slice g lg.length gc) u3) := by rw [Hid, hu3]; exact HZ2.out.set2 _
  have HR3 : Hid (Z6 (w.heap.size + 1) (.int .i64 0) (.slice none 0 0) (.slice none 0 0) (.slice none 0 0) (.slice none 0 0) (.slice none 0 0) u3) := by rw [Hid, hu3]; exact HR2.out.far (by omega)
  have HB3 : Hid (Below w.heap.size w u3) := by rw [Hid, hu3]; exact HB2.out.setCell (Nat.le_refl _) _
  have HO3 : Hid (u3.ownsRow (w.heap.size + 2) 63 6 (.slice b2 L.length k2) L.length (acells L)) := by rw [Hid, hu3]; exact row_far HO2.out (by omega)
  rw [← hu3]
  clear hu3 HZ2 HR2 HB2 HO2 t0 t1 t2 t3 t4 t5 s0 s1 s2 s3 s4 s5 q0 q1 q2 q3 q4 q5 p0 p1 p2 p3 p4 p5
  obtain ⟨t0, t1, t2, t3, t4, t5, s0, s1, s2, s3, s4, s5⟩ := HZ3.out
  obtain ⟨q0, q1, q2, q3, q4, q5, p0, p1, p2, p3, p4, p5⟩ := HR3.out
  go_wp2
  refine bodyPost_ret (by simp [results, Try.results38, go_sem, q0, q1, q2, q3, q4, q5]; try rfl) rfl ?_
  rw [HE.out, hL]
  have bel := put6_below (R := w.heap.size + 1) (by omega) HB3.out
  have hX := HX.out _ (bel (.int .i64 n) (.slice o fo.length oc) (.slice b2 L.length k2) (.slice c cs.length cc) (.slice l ls.length lc) (.slice g lg.length gc))
  exact ⟨⟨o, oc, b2, k2, c, cc, l, lc, g, gc⟩, rfl, ⟨hX.off, auths_any (put6_row HO3.out (by omega) _ _ _ _ _ _), hX.cs, hX.ls, hX.log⟩, rfl, rfl, ⟨rfl, .inr (fun x hx => by have := own_fresh HO3.out x hx; omega), .inl rfl, .inl rfl⟩, bel _ _ _ _ _ _⟩

end Go.Proofs.Ytlonjjliochbhaa
