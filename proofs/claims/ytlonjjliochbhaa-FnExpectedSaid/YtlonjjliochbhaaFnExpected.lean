/- Proved: for every list of bytes (of at most 1048576; a longer one passes by the law's own first test) the program's Expected at the drawn book answers as the specification's; what is expected of the accounts 1 to 8 of the drawn currency makes up nothing, and of the House the fees of its cases. -/
import Derived.Test.YtlonjjliochbhaaExSum
import Derived.Test.YtlonjjliochbhaaBkExG
import Derived.Test.YtlonjjliochbhaaJE10b
namespace Go.Proofs.Ytlonjjliochbhaa.fnExpected
open Go.ChangeShapes Go.WideShapes Go.ChangeAt Go.RowKit
set_option maxRecDepth 100000

set_option maxHeartbeats 6400000 in
theorem walk (a : Option Addr) (len cap : Nat) (zs : List Int) (w : World) (hr : IsRow .u8 w a len cap zs) :
    Calls Try.prog 3 #[.slice a len cap] w fun e w' => e = .returned (.bool true) ∧ Below w.heap.size w w' := by
  by_cases hbig : (1048576 : Int) < (len : Int)
  · have hdec : decide ((1048576 : Int) < (len : Int)) = true := decide_eq_true hbig
    go_enter Try.func3, Try.ntmps3
    go_wp2_with fail
    refine (big_any _ _ _ _).mono ?_
    rintro e w1 ⟨rfl, hw1⟩
    rw [hw1, hdec]
    clear hw1
    go_wp2
    go_ret
    exact ⟨rfl, Below.refl _ _⟩
  have hn : len ≤ 1048576 := by omega
  have hdec : decide ((1048576 : Int) < (len : Int)) = false := decide_eq_false hbig
  go_enter Try.func3, Try.ntmps3
  go_wp2_with fail
  refine (big_any _ _ _ _).mono ?_
  rintro e w1 ⟨rfl, hw1⟩
  rw [hw1, hdec]
  clear hw1 w1 hdec hbig
  go_wp2_with fail
  refine (exp_any _ _ _ _ _ hr hn).mono ?_
  rintro e ub ⟨b, p, ac, cur, rfl, hI, hb, q2⟩
  have hcn : b.cs.length ≤ 100 := hI.inv.cs
  have HS8 : Hid (pS (fun a => sumV (curP cur) (balV a) b.cs) 8 = 0) := sum8 hI.par cur
  have HHO : Hid (sumV (curP cur) (balV 9999) b.cs = sumV (curP cur) Cs.fee b.cs) := house hI.par cur
  have hsm : bkSm b := (pre_inv hI.inv (by omega)).1
  have bA : Below ub.heap.size ub (ub.alloc (.cells #[.int .i64 b.today, .slice p.o b.off.length p.oc, .slice p.a b.az.length p.ac, .slice p.c b.cs.length p.cc, .slice p.l b.ls.length p.lc, .slice p.g b.log.length p.gc] 32)) := (Below.refl _ _).alloc (Nat.le_refl _) _
  have z2 := Z6.new ub (.int .i64 b.today) (.slice p.o b.off.length p.oc) (.slice p.a b.az.length p.ac) (.slice p.c b.cs.length p.cc) (.slice p.l b.ls.length p.lc) (.slice p.g b.log.length p.gc) 32
  have hb2 := hb.below bA
  have q2a := next q2 bA
  unfold bkv
  clear hb q2 bA hr hI
  go_upto_region 4 with fail
  obtain ⟨V, hV⟩ : ∃ V, V = ub.alloc (.cells #[.int .i64 b.today, .slice p.o b.off.length p.oc, .slice p.a b.az.length p.ac, .slice p.c b.cs.length p.cc, .slice p.l b.ls.length p.lc, .slice p.g b.log.length p.gc] 32) := ⟨_, rfl⟩
  rw [← hV] at z2 hb2 q2a ⊢
  obtain ⟨T, hT⟩ : ∃ T, T = ub.heap.size := ⟨_, rfl⟩
  rw [← hT] at z2 ⊢
  obtain ⟨EA, hEA⟩ : ∃ E : Int → Int, E = fun a => sumV (curP cur) (balV a) b.cs := ⟨_, rfl⟩
  have HIA : Hid (∀ (u : World) (x : Int), Below V.heap.size V u → Calls Try.prog 6 #[.agg #[.int .i64 b.today, .slice p.o b.off.length p.oc, .slice p.a b.az.length p.ac, .slice p.c b.cs.length p.cc, .slice p.l b.ls.length p.lc, .slice p.g b.log.length p.gc], .int .i64 x, .int .i64 cur] u fun e w' => e = .returned (.int .i64 (EA x)) ∧ Below u.heap.size u w') := fun u x h => by
    rw [hEA]; exact iExpected_any b p x cur u (hb2.below h) hsm
  have HSA : Hid (∀ (u : World) (x : Int), Below V.heap.size V u → Calls Try.prog 7 #[.agg #[.int .i64 b.today, .slice p.o b.off.length p.oc, .slice p.a b.az.length p.ac, .slice p.c b.cs.length p.cc, .slice p.l b.ls.length p.lc, .slice p.g b.log.length p.gc], .int .i64 x, .int .i64 cur] u fun e w' => e = .returned (.int .i64 (EA x)) ∧ Below u.heap.size u w') := fun u x h => by
    rw [hEA]; exact sExpected_any b p x cur u (hb2.below h) hsm
  have HE8 : Hid (pS EA 8 = 0) := by rw [hEA]; exact HS8
  have HEH : Hid (EA 9999 = sumV (curP cur) Cs.fee b.cs) := by rw [hEA]; exact HHO
  have HZ : Hid (∀ u, Below V.heap.size V u → u.cell? ⟨T, 0, none⟩ = some (.int .i64 b.today) ∧ u.cell? ⟨T, 1, none⟩ = some (.slice p.o b.off.length p.oc) ∧ u.cell? ⟨T, 2, none⟩ = some (.slice p.a b.az.length p.ac) ∧ u.cell? ⟨T, 3, none⟩ = some (.slice p.c b.cs.length p.cc) ∧ u.cell? ⟨T, 4, none⟩ = some (.slice p.l b.ls.length p.lc) ∧ u.cell? ⟨T, 5, none⟩ = some (.slice p.g b.log.length p.gc)) := fun u h => by
    obtain ⟨t0, t1, t2, t3, t4, t5, -, -, -, -, -, -⟩ := z2.below h
    exact ⟨t0, t1, t2, t3, t4, t5⟩
  have HCS : Hid (∀ u, Below V.heap.size V u → CasesAt u p.c b.cs) := fun u h => (hb2.below h).cs
  have HQ : Hid (∀ u, Below V.heap.size V u → Below w.heap.size w u) := fun u h => next q2a h
  have k0 : Below V.heap.size V V := Below.refl _ _
  clear hV hT z2 hb2 q2a hEA HS8 HHO hsm
  go_region_held3 (fun u => u.cell? ⟨T, 0, none⟩ = some (.int .i64 b.today) ∧ u.cell? ⟨T, 1, none⟩ = some (.slice p.o b.off.length p.oc) ∧ u.cell? ⟨T, 2, none⟩ = some (.slice p.a b.az.length p.ac) ∧ u.cell? ⟨T, 3, none⟩ = some (.slice p.c b.cs.length p.cc) ∧ u.cell? ⟨T, 4, none⟩ = some (.slice p.l b.ls.length p.lc) ∧ u.cell? ⟨T, 5, none⟩ = some (.slice p.g b.log.length p.gc)) (first | with_reducible exact HZ.out _ k0 | with_reducible exact HZ.out _ k0.drew | with_reducible exact HZ.out _ k1 | with_reducible exact HZ.out _ k2) ((first
    | (go_at_call 6; (first | with_reducible refine Calls.mono (HIA.out _ ac k0) ?_ | with_reducible refine Calls.mono (HIA.out _ ac k0.drew) ?_); rintro e v1 ⟨rfl, b1⟩; have k1 : Below V.heap.size V v1 := (by first | exact b1 | exact (Below.trans (Below.refl V.heap.size V).drew b1)))
    | (go_at_call 7; (with_reducible refine Calls.mono (HSA.out _ ac k1) ?_); rintro e v2 ⟨rfl, b2⟩; have k2 : Below V.heap.size V v2 := next k1 b2)))
  all_goals
    have HK : Hid (Below V.heap.size V v2) := k2
    rename_i hheld
    clear hheld k0 k1 k2 b1 b2
    have hne : (EA ac != EA ac) = false := by simp
    go_wp2
    go_loopw [7, 6] (fun x s wr => ∃ j : Nat, j ≤ 8 ∧ x = .int .i64 ((j : Int) + 1) ∧ s = .int .i64 (pS EA j) ∧ Below V.heap.size V wr) (fun x _ _ => 9 - (intOf x).toNat)
    case atStart => exact ⟨0, by omega, by simp, rfl, HK.out⟩
    case round =>
      obtain ⟨j, hj, rfl, rfl, hbr⟩ := hrel
      obtain ⟨d0, d1, d2, d3, d4, d5⟩ := HZ.out _ hbr
      have HBR : Hid (Below V.heap.size V wr) := hbr
      clear hbr hne
      by_cases hlt : j < 8
      · have hji : (j : Int) + 1 ≤ 8 := by omega
        obtain ⟨sj, hsj⟩ : ∃ x, pS EA j = x := ⟨_, rfl⟩
        have HNX : Hid (pS EA (j + 1) = IntKind.i64.wrap (sj + EA ((j : Int) + 1))) := by rw [Hid, pS, hsj]
        rw [hsj]
        clear hsj
        go_wp2_with fail
        refine Calls.mono (HIA.out _ _ HBR.out) ?_
        rintro e v3 ⟨rfl, b3⟩
        have HB3 : Hid (Below V.heap.size V v3) := next HBR.out b3
        obtain ⟨ej, hej⟩ : ∃ x, EA ((j : Int) + 1) = x := ⟨_, rfl⟩
        rw [hej] at HNX ⊢
        clear b3 d0 d1 d2 d3 d4 d5 hej
        go_wp2
        go_roundw
        case rel => exact ⟨j + 1, by omega, by go_num, by rw [HNX.out, wrap_64], HB3.out⟩
        case measure => simp [intOf]; omega
      · have hje : j = 8 := by omega
        subst hje
        rw [HE8.out]
        clear hj hlt
        go_wp2
        go_loopw [9, 8] (fun i v wq => ∃ t : Nat, t ≤ b.cs.length ∧ i = .int .i64 t ∧ v = .int .i64 (sumV (curP cur) Cs.fee (b.cs.take t)) ∧ Below V.heap.size V wq) (fun i _ _ => b.cs.length - (intOf i).toNat)
        case atStart => exact ⟨0, Nat.zero_le _, rfl, rfl, HBR.out⟩
        case round =>
          obtain ⟨t, ht, rfl, rfl, hbq⟩ := hrel
          clear d0 d1 d2 d3 d4 d5
          obtain ⟨d0, d1, d2, d3, d4, d5⟩ := HZ.out _ hbq
          have HWQ : Hid (Below V.heap.size V wr) := hbq
          have hcs := HCS.out _ hbq
          clear hbq
          by_cases htl : t < b.cs.length
          · have hti : (t : Int) < (b.cs.length : Int) := by omega
            rcases hcs with hE | ⟨cb, off2, hpc, hcl, hcc⟩
            · rw [hE] at htl; simp at htl
            have e3 := d3
            rw [hpc] at e3
            obtain ⟨-, -, f2, -, -, -, -, -, f8, -, -, -⟩ := hcc t htl
            by_cases hcu : (csAt b.cs t).cur = cur
            · have HST : Hid _ := sumV_in (P := curP cur) (f := Cs.fee) htl (by simp [curP, hcu])
              obtain ⟨fe, hfe⟩ : ∃ y, (csAt b.cs t).fee = y := ⟨_, rfl⟩
              rw [hfe] at f8 HST
              rw [hcu] at f2
              obtain ⟨st, hst⟩ : ∃ y, sumV (curP cur) Cs.fee (b.cs.take t) = y := ⟨_, rfl⟩
              rw [hst] at HST ⊢
              clear hcc hcu hfe hst d3 d0 d1 d2 d4 d5
              go_wp2
              go_roundw
              case rel => exact ⟨t + 1, by omega, by go_num, (by rw [HST.out]; try rw [wrap_64]), HWQ.out⟩
              case measure => simp [intOf]; omega
            · have HST : Hid _ := sumV_out (P := curP cur) (f := Cs.fee) htl (by simp [curP, hcu])
              obtain ⟨cc, hcc2⟩ : ∃ y, (csAt b.cs t).cur = y := ⟨_, rfl⟩
              rw [hcc2] at f2 hcu
              have hcb : (cc == cur) = false := by simpa using hcu
              obtain ⟨st, hst⟩ : ∃ y, sumV (curP cur) Cs.fee (b.cs.take t) = y := ⟨_, rfl⟩
              rw [hst] at HST ⊢
              clear hcc hcu hcc2 hst d3 d0 d1 d2 d4 d5 f8
              go_wp2
              go_roundw
              case rel => exact ⟨t + 1, by omega, by go_num, (by rw [HST.out]; try rw [wrap_64]), HWQ.out⟩
              case measure => simp [intOf]; omega
          · have hti : ¬ (t : Int) < (b.cs.length : Int) := by omega
            have hte : t = b.cs.length := by omega
            subst hte
            rw [List.take_of_length_le (Nat.le_refl _)]
            obtain ⟨fs, hfs⟩ : ∃ y, sumV (curP cur) Cs.fee b.cs = y := ⟨_, rfl⟩
            have HEF : Hid (EA 9999 = fs) := HEH.out.trans hfs
            rw [hfs]
            clear hfs hcs
            go_wp2_with fail
            refine Calls.mono (HIA.out _ 9999 HWQ.out) ?_
            rintro e v4 ⟨rfl, b4⟩
            rw [HEF.out]
            have HEN : Hid (Below w.heap.size w v4) := HQ.out _ (next HWQ.out b4)
            clear b4 d0 d1 d2 d3 d4 d5
            go_wp2
            go_ret
            exact ⟨by simp, HEN.out⟩

set_option maxRecDepth 100000 in
theorem lifted (os : Os) (started : os.Started) (H : Type) (enc : TypeId × Value → H) :
    ReturnsInHanded {} Try.checked os 3 .any (Rows.fnExpectedSpec.pre6 enc Try.prog Try.f3 Rows.fnExpectedRow.domain false) (Rows.fnExpectedSpec.post enc Try.prog Try.f3 false true false false) := by
  refine returnsInHanded_of_change (C := Try.checked) own started (by kernel_rfl) Try.func3
    (ChangeSpec.witness6 (enc := enc) (C := Try.checked) false ⟨#[], #[.slice none 0 0], []⟩ 8 (by kernel_rfl) (by kernel_rfl) (by kernel_rfl) (by kernel_rfl)) ?_
  intro W base args ds gs before hval0 hW hcnd _
  have hval : ∀ (j : Nat) t v, Try.f3.params[j]? = some t → args[j]? = some v → Value.okWide Try.prog W .any base t v := hval0
  have hW' := hW
  obtain ⟨p, q, hA0, hV, rfl, hfz, hnd⟩ := hW
  have hA : DataW.TrodAll enc Try.prog W 0 (fun _ => true) true Try.f3.params.toList args.toList ds p := hA0
  rw [Try.params3] at hA hval
  obtain ⟨v0, vs0, d0, ds0, p0, q0, hargs, rfl, rfl, h0, r0⟩ := trodAll_cons hA
  obtain ⟨rfl, rfl, rfl⟩ := trodAll_nil r0
  obtain rfl : args = #[v0] := by cases args; simp_all
  obtain ⟨rfl, rfl⟩ := trodVars_none hV
  obtain ⟨a0, len0, cap0, rfl⟩ := okWide_slice Try.underlying22 (hval 0 22 v0 rfl rfl)
  have k0 := h0
  have lt0 : ∀ x ∈ p0, x.block < W.heap.size := by obtain ⟨m, hm⟩ := k0; exact DataW.trod_lt m _ _ _ hm
  obtain ⟨z0, w0⟩ : ∃ zs, IsRow .u8 W a0 len0 cap0 zs := is_row Try.underlying22 Try.underlying5 (by kernel_rfl) h0
  clear hA0 hval0
  refine (walk a0 len0 cap0 z0 W w0).mono fun e W' ⟨he, bel⟩ => ?_
  subst he
  exact ⟨_, rfl, _, _, _, [], _, [], hW', trodAll_mk1 (shut_bool Try.underlying4 _), (trodAll_cons_mk (Below.trod laidOut (by kernel_rfl) (of_decide_eq_true (by kernel_rfl)) k0 bel lt0) trodAll_mk0), rfl, bel.frame _, fun h => by cases h⟩

theorem proved : Rows.FnExpectedSaid :=
  OpenClaim.holds_of_wide 3 Try.f3 rfl rfl rfl rfl rfl rfl rfl ⟨rfl, rfl, rfl, rfl, rfl⟩ rfl rfl rfl rfl rfl (by kernel_rfl) Try.func3 (by kernel_rfl)
    (of_decide_eq_true (by kernel_rfl)) (by unfold Func.isWrapper; first | (rw [if_pos (by decide +kernel)]; kernel_rfl) | (rw [if_neg (by decide +kernel)]; exact ⟨rfl, rfl⟩))
    (fun os started H enc _ => lifted os started H enc)
end Go.Proofs.Ytlonjjliochbhaa.fnExpected
