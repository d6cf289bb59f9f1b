/- The contract of the specification's l09Code. -/
import Derived.Test.YtenbhmmknejcjaaDoorKP9SDo3
namespace Go.Proofs.YtenbhmmknejcjaaDoor
open Go.RowKit
set_option maxRecDepth 100000

set_option maxHeartbeats 6400000 in
theorem sCode_any (c : Cs) (a : Ac) (t : Int) (ao : Option Addr) (cp : Nat) (zs : List Int) (w : World) (hx : IntsAt w ao zs) (hn : zs.length ≤ 1099511627776) (hk : 0 ≤ a.kind ∧ a.kind ≤ 9) :
    Calls Tryd.prog 35 #[cv c, av a, .int .i64 t, .slice ao zs.length cp] w fun e w' => e = .returned (.int .i64 (codeV c a t zs)) ∧ Below w.heap.size w w' := by
  obtain ⟨W, hW⟩ : ∃ W, W = (w.alloc (.cells #[.int .i64 c.iss, .int .i64 c.acq, .int .i64 c.cur, .int .i64 c.am, .int .i64 c.st, .int .i64 c.rsn, .int .i64 c.cl, .int .i64 c.bk, .int .i64 c.fee, .bool c.cop, .int .i64 c.sta, .int .i64 c.due] 25)).alloc (.cells #[.int .i64 a.kind, .int .i64 a.am, .int .i64 a.rsn] 27) := ⟨_, rfl⟩
  have HX : Hid (B2 w.heap.size c a W) := by rw [Hid, hW]; exact B2.new w c a _ _
  have HBW : Hid (Below w.heap.size w W) := by rw [Hid, hW]; go_grown
  have HW : Hid _ := hW
  have HCH : Hid (∀ u, Below W.heap.size W u → Calls Tryd.prog 69 #[cv c, av a, .int .i64 t, .slice ao zs.length cp] u fun e w' => e = .returned (.int .i64 (chargeV c a t zs)) ∧ Below u.heap.size u w') := fun u hu => sCharge_any c a t ao cp zs u ((hx.below HBW.out).below hu) hn
  obtain ⟨r, hr⟩ : ∃ r, codeV c a t zs = r := ⟨_, rfl⟩
  have HR : Hid _ := hr
  rw [hr]
  clear hx hW hr
  obtain ⟨k, m, q⟩ := a
  obtain ⟨iss, acq, cur, am, st, rsn, cl, bk, fee, cop, sta, due⟩ := c
  unfold cv av at HCH ⊢
  simp only at HW HCH hk ⊢
  go_enter Tryd.func35, Tryd.ntmps35
  go_upto_region 1 with fail
  rw [← HW.out]
  clear HW
  obtain ⟨⟨f0, f1, f2, f3, f4, f5, f6, f7, f8, f9, f10, f11⟩, k0, k1, k2⟩ := HX.out
  simp only [Nat.zero_add] at f0 f1 f2 f3 f4 f5 f6 f7 f8 f9 f10 f11 k0 k1 k2
  go_wp2_with fail
  refine (sLate_any t due _).mono ?_
  rintro e u1 ⟨rfl, hu⟩
  rw [hu]
  clear hu
  obtain ⟨l, hl⟩ : ∃ l, lateV t due = l := ⟨_, rfl⟩
  have HL : Hid _ := hl
  rw [hl]
  clear hl
  rcases (show k = 0 ∨ k = 1 ∨ k = 2 ∨ k = 3 ∨ k = 4 ∨ k = 5 ∨ k = 6 ∨ k = 7 ∨ k = 8 ∨ k = 9 by omega) with rfl | rfl | rfl | rfl | rfl | rfl | rfl | rfl | rfl | rfl

  · have HE : Hid (r = 0) := by rw [Hid, ← HR.out]; simp [codeV]
    clear HCH
    go_wp2
    go_ret
    exact ⟨one_int HE.out.symm, HBW.out⟩
  · have HE : Hid (r = if l = true then 4 else 0) := by rw [Hid, ← HR.out, ← HL.out]; simp [codeV]
    clear HCH
    cases l
    · go_wp2
      go_ret
      exact ⟨one_int (by rw [HE.out]; rfl), HBW.out⟩
    · go_wp2
      go_ret
      exact ⟨one_int (by rw [HE.out]; rfl), HBW.out⟩
  · have HE : Hid (chargeV ⟨iss, acq, cur, am, st, rsn, cl, bk, fee, cop, sta, due⟩ ⟨2, m, q⟩ t zs = r) := by rw [Hid, ← HR.out]; simp [codeV]
    go_wp2_with fail
    refine (HCH.out _ (Below.refl _ _)).mono ?_
    rintro e u2 ⟨rfl, b2⟩
    have HB2 : Hid (Below w.heap.size w u2) := next HBW.out b2
    clear b2
    rw [HE.out]
    go_wp2
    go_ret
    exact ⟨rfl, HB2.out⟩
  · have HE : Hid (r = if l = true then 4 else if 1 ≤ m ∧ m ≤ cl then 0 else 2) := by rw [Hid, ← HR.out, ← HL.out]; simp [codeV]
    clear HCH
    cases l
    · rw [if_neg (by decide)] at HE
      go_wp2_with fail
      cases h1 : inB m 1 cl
      · have g := inB_of h1
        have HE2 : Hid (r = 2) := by rw [Hid, HE.out, if_neg (of_decide_eq_false g)]
        refine (in_is h1 _).mono ?_
        rintro e v1 ⟨rfl, hv⟩
        rw [hv]
        clear hv h1 g
        go_wp2
        go_ret
        exact ⟨one_int HE2.out.symm, HBW.out⟩
      · have g := inB_of h1
        have HE2 : Hid (r = 0) := by rw [Hid, HE.out, if_pos (of_decide_eq_true g)]
        refine (in_is h1 _).mono ?_
        rintro e v1 ⟨rfl, hv⟩
        rw [hv]
        clear hv h1 g
        go_wp2
        go_ret
        exact ⟨one_int HE2.out.symm, HBW.out⟩
    · go_wp2
      go_ret
      exact ⟨one_int (by rw [HE.out]; rfl), HBW.out⟩
  · have HE : Hid (r = if l = true then 4 else if 1 ≤ m ∧ m ≤ cl then 0 else 2) := by rw [Hid, ← HR.out, ← HL.out]; simp [codeV]
    clear HCH
    cases l
    · rw [if_neg (by decide)] at HE
      go_wp2_with fail
      cases h1 : inB m 1 cl
      · have g := inB_of h1
        have HE2 : Hid (r = 2) := by rw [Hid, HE.out, if_neg (of_decide_eq_false g)]
        refine (in_is h1 _).mono ?_
        rintro e v1 ⟨rfl, hv⟩
        rw [hv]
        clear hv h1 g
        go_wp2
        go_ret
        exact ⟨one_int HE2.out.symm, HBW.out⟩
      · have g := inB_of h1
        have HE2 : Hid (r = 0) := by rw [Hid, HE.out, if_pos (of_decide_eq_true g)]
        refine (in_is h1 _).mono ?_
        rintro e v1 ⟨rfl, hv⟩
        rw [hv]
        clear hv h1 g
        go_wp2
        go_ret
        exact ⟨one_int HE2.out.symm, HBW.out⟩
    · go_wp2
      go_ret
      exact ⟨one_int (by rw [HE.out]; rfl), HBW.out⟩
  · have HE : Hid (r = 0) := by rw [Hid, ← HR.out]; simp [codeV]
    clear HCH
    go_wp2
    go_ret
    exact ⟨one_int HE.out.symm, HBW.out⟩
  · have HE : Hid (r = if l = true then 4 else 0) := by rw [Hid, ← HR.out, ← HL.out]; simp [codeV]
    clear HCH
    cases l
    · go_wp2
      go_ret
      exact ⟨one_int (by rw [HE.out]; rfl), HBW.out⟩
    · go_wp2
      go_ret
      exact ⟨one_int (by rw [HE.out]; rfl), HBW.out⟩
  · have HE : Hid (r = if 0 ≤ m ∧ m ≤ cl then 0 else 2) := by rw [Hid, ← HR.out]; simp [codeV]
    clear HCH
    go_wp2_with fail
    cases h1 : inB m 0 cl
    · have g := inB_of h1
      have HE2 : Hid (r = 2) := by rw [Hid, HE.out, if_neg (of_decide_eq_false g)]
      refine (in_is h1 _).mono ?_
      rintro e v1 ⟨rfl, hv⟩
      rw [hv]
      clear hv h1 g
      go_wp2
      go_ret
      exact ⟨one_int HE2.out.symm, HBW.out⟩
    · have g := inB_of h1
      have HE2 : Hid (r = 0) := by rw [Hid, HE.out, if_pos (of_decide_eq_true g)]
      refine (in_is h1 _).mono ?_
      rintro e v1 ⟨rfl, hv⟩
      rw [hv]
      clear hv h1 g
      go_wp2
      go_ret
      exact ⟨one_int HE2.out.symm, HBW.out⟩
  · have HE : Hid (r = if l = true then 0 else 4) := by rw [Hid, ← HR.out, ← HL.out]; simp [codeV]
    clear HCH
    cases l
    · go_wp2
      go_ret
      exact ⟨one_int (by rw [HE.out]; rfl), HBW.out⟩
    · go_wp2
      go_ret
      exact ⟨one_int (by rw [HE.out]; rfl), HBW.out⟩
  · have HE : Hid (r = 0) := by rw [Hid, ← HR.out]; simp [codeV]
    clear HCH
    go_wp2
    go_ret
    exact ⟨one_int HE.out.symm, HBW.out⟩


end Go.Proofs.YtenbhmmknejcjaaDoor
