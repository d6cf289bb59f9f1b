/- Proved: for every list of bytes (of at most 1048576; a longer one passes by the law's own first test) each account that the ledger of the drawn book has is the House's or the Issuer's or Acquirer's of one of its cases, and the program's Accounts answers as the specification's. -/
import Derived.Test.YtfeegkdkljkgpaaKNNFnNone0
import Derived.Test.YtfeegkdkljkgpaaJNN1a
import Derived.Test.YtfeegkdkljkgpaaJNN0a
import Derived.Test.YtfeegkdkljkgpaaKNNLnE
namespace Go.Proofs.Ytfeegkdkljkgpaa.fnNone
open Go.ChangeShapes Go.WideShapes Go.ChangeAt Go.RowKit
set_option maxRecDepth 100000

set_option maxHeartbeats 6400000 in
theorem walkL (HLN : LineKn) (a : Option Addr) (len cap : Nat) (zs : List Int) (w : World) (hr : IsRow .u8 w a len cap zs) :
    Calls Try.prog 4 #[.slice a len cap] w fun e w' => e = .returned (.bool true) ∧ Below w.heap.size w w' := by
  by_cases hbig : (1048576 : Int) < (len : Int)
  · have hdec : decide ((1048576 : Int) < (len : Int)) = true := decide_eq_true hbig
    go_enter Try.func4, Try.ntmps4
    go_wp2_with fail
    refine (big_any _ _ _ _).mono ?_
    rintro e w1 ⟨rfl, hw1⟩
    rw [hw1, hdec]
    clear hw1
    go_wp2
    go_ret
    exact ⟨rfl, Below.refl _ _⟩
  have hn : len ≤ 1048576 := by omega
  have hdec : decide ((1048576 : Int) < (len : Int)) = false := decide_eq_false hbig
  go_enter Try.func4, Try.ntmps4
  go_wp2_with fail
  refine (big_any _ _ _ _).mono ?_
  rintro e w1 ⟨rfl, hw1⟩
  rw [hw1, hdec]
  clear hw1 w1 hdec hbig
  go_wp2_with fail
  refine (exp_any HLN _ _ _ _ _ hr hn).mono ?_
  rintro e ub ⟨b, p, ac, cur, rfl, hI, hb, q2⟩
  have hcn : b.cs.length ≤ 100 := hI.cs
  have hln : b.ls.length ≤ 400 := hI.ls
  have HKN : Hid (∀ x, x ∈ acctsL b.ls → knA b.cs x b.cs.length = true) := fun x hx => knA_all hI hx
  have bA : Below ub.heap.size ub (ub.alloc (.cells #[.int .i64 b.today, .slice p.o b.off.length p.oc, .slice p.a b.az.length p.ac, .slice p.c b.cs.length p.cc, .slice p.l b.ls.length p.lc, .slice p.g b.log.length p.gc] 32)) := (Below.refl _ _).alloc (Nat.le_refl _) _
  have z2 := Z6.new ub (.int .i64 b.today) (.slice p.o b.off.length p.oc) (.slice p.a b.az.length p.ac) (.slice p.c b.cs.length p.cc) (.slice p.l b.ls.length p.lc) (.slice p.g b.log.length p.gc) 32
  have hb2 := hb.below bA
  have q2a := next q2 bA
  have hl2 := hb2.ls
  unfold bkv
  clear hb q2 bA hr hI
  go_wp2_with fail
  refine (iAccounts_own p.l p.lc b.ls _ hl2 (by omega)).mono ?_
  rintro e u3 ⟨bo, k, rfl, oo, b3⟩
  have HZ : Hid (Z6b ub.heap.size b p u3) := z2.below b3
  have HBK : Hid (BookAt u3 b p) := hb2.below b3
  have HQ : Hid (Below w.heap.size w u3) := next q2a b3
  have hal := acctsL_len b.ls
  have HNU : Hid (NumsAt u3 bo (acctsL b.ls)) := nums_own oo
  obtain ⟨az, has⟩ : ∃ x, acctsL b.ls = x := ⟨_, rfl⟩
  rw [has] at hal HNU ⊢
  have HKA : Hid (∀ x, x ∈ az → knA b.cs x b.cs.length = true) := by rw [Hid, ← has]; exact HKN.out
  clear z2 hb2 q2a hl2 oo b3 has HKN
  go_wp2
  go_loopw [22] (fun i wr => ∃ j : Nat, j ≤ az.length ∧ i = .int .i64 j ∧ Below u3.heap.size u3 wr) (fun i _ => az.length - (intOf i).toNat)
  case atStart => exact ⟨0, Nat.zero_le _, rfl, Below.refl _ _⟩
  case round =>
    obtain ⟨j, hj, rfl, hbr⟩ := hrel
    by_cases hlt : j < az.length
    · have hji : (j : Int) < (az.length : Int) := by omega
      rcases HNU.out.below hbr with hE | ⟨nb, off, hbo, hnl, hnc⟩
      · rw [hE] at hlt; simp at hlt
      have hav := hnc j hlt
      have hmem : az.getD j 0 ∈ az := by simp [List.getD_eq_getElem?_getD, hlt]
      have HK : Hid _ := HKA.out _ hmem
      obtain ⟨x, hx⟩ : ∃ x, az.getD j 0 = x := ⟨_, rfl⟩
      rw [hx] at hav HK
      subst hbo
      have HW : Hid (Below u3.heap.size u3 wr) := hbr
      have hk0 := knA_zero b.cs x
      clear hnc hmem hx hbr
      go_wp2
      go_loopw [9, 8] (fun i v wq => ∃ t : Nat, t ≤ b.cs.length ∧ i = .int .i64 t ∧ v = .bool (knA b.cs x t) ∧ Below u3.heap.size u3 wq) (fun i _ _ => b.cs.length - (intOf i).toNat)
      case atStart => exact ⟨0, Nat.zero_le _, rfl, by rw [hk0]; try rfl, HW.out⟩
      case round =>
        obtain ⟨t, ht, rfl, rfl, hbq⟩ := hrel
        clear hk0 hav
        have z3 := (Z6.below HZ.out hbq).c3
        have HWQ : Hid (Below u3.heap.size u3 wr) := hbq
        by_cases htl : t < b.cs.length
        · have hti : (t : Int) < (b.cs.length : Int) := by omega
          have hst := knA_step b.cs x t htl
          rcases HBK.out.cs.below hbq with hE | ⟨cb, off2, hpc, hcl, hcc⟩
          · rw [hE] at htl; simp at htl
          rw [hpc] at z3
          obtain ⟨f0, f1, -, -, -, -, -, -, -, -, -, -⟩ := hcc t htl
          obtain ⟨ci, hci⟩ : ∃ y, (csAt b.cs t).iss = y := ⟨_, rfl⟩
          obtain ⟨cq, hcq⟩ : ∃ y, (csAt b.cs t).acq = y := ⟨_, rfl⟩
          rw [hci] at f0 hst
          rw [hcq] at f1 hst
          have HST : Hid (knA b.cs x (t + 1) = (knA b.cs x t || (decide (ci = x) || decide (cq = x)))) := hst
          obtain ⟨kq, hkq⟩ : ∃ y, knA b.cs x t = y := ⟨_, rfl⟩
          rw [hkq] at HST ⊢
          clear hcc hst hci hcq hkq hbq
          have HNX : Hid (∀ v : Bool, v = (kq || (decide (ci = x) || decide (cq = x))) → v = knA b.cs x (t + 1)) := fun v h => h.trans HST.out.symm
          cases kq
          all_goals
            by_cases h1 : ci = x
            all_goals
              by_cases h2 : cq = x
              all_goals
                have e1 : (ci == x) = decide (ci = x) := by by_cases h : ci = x <;> simp [h]
                have e2 : (cq == x) = decide (cq = x) := by by_cases h : cq = x <;> simp [h]
                simp only [h1, h2, decide_true, decide_false] at e1 e2
                go_wp2
                go_roundw
                case rel => exact ⟨t + 1, by omega, by go_num, by rw [← HNX.out _ rfl]; simp [h1, h2], HWQ.out⟩
                case measure => simp [intOf]; omega
        · have hti : ¬ (t : Int) < (b.cs.length : Int) := by omega
          have hte : t = b.cs.length := by omega
          subst hte
          rw [HK.out]
          clear hbq
          go_wp2
          go_roundw
          case rel => exact ⟨j + 1, by omega, by go_num, HWQ.out⟩
          case measure => simp [intOf]; omega
    · have hji : ¬ (j : Int) < (az.length : Int) := by omega
      have z4 := (Z6.below HZ.out hbr).c4
      have hls := HBK.out.ls.below hbr
      have HIA : Hid (∀ u, Below wr.heap.size wr u → Calls Try.prog 9 #[.agg #[.slice p.l b.ls.length p.lc]] u (AcR u (acctsL b.ls))) := fun u h => iAccounts_own p.l p.lc b.ls u (hls.below h) (by omega)
      have HSA : Hid (∀ u, Below wr.heap.size wr u → Calls Try.prog 11 #[.agg #[.slice p.l b.ls.length p.lc]] u (AcR u (acctsL b.ls))) := fun u h => sAccounts_own p.l p.lc b.ls u (hls.below h) (by omega)
      have hZ4 : Hid (∀ u, Below wr.heap.size wr u → u.cell? ⟨ub.heap.size, 4, none⟩ = some (.slice p.l b.ls.length p.lc)) := fun u h => (Z6.below HZ.out (next hbr h)).c4
      have HQR : Hid (Below w.heap.size w wr) := next HQ.out hbr
      have k0 : Below wr.heap.size wr wr := Below.refl _ _
      have hal2 := acctsL_len b.ls
      clear hls hbr
      go_upto_region 15 with fail
      go_region_held3 (fun u => u.cell? ⟨ub.heap.size, 4, none⟩ = some (.slice p.l b.ls.length p.lc)) (first | with_reducible exact hZ4.out _ k0 | with_reducible exact hZ4.out _ k0.drew | with_reducible exact hZ4.out _ k1 | with_reducible exact hZ4.out _ k2 | with_reducible exact hZ4.out _ k3) ((first
        | (go_at_call 9; (first | with_reducible refine Calls.mono (HIA.out _ k0) ?_ | with_reducible refine Calls.mono (HIA.out _ k0.drew) ?_); rintro e v1 ⟨bo1, c1, rfl, o1, b1⟩; have k1 : Below wr.heap.size wr v1 := (by first | exact b1 | exact (Below.trans (Below.refl wr.heap.size wr).drew b1)))
        | (go_at_call 11; (with_reducible refine Calls.mono (HSA.out _ k1) ?_); rintro e v2 ⟨bo2, c2, rfl, o2, b2⟩; have k2 : Below wr.heap.size wr v2 := next k1 b2)
        | (go_at_call 10; (with_reducible refine Calls.mono (sameInts_any bo1 bo2 c1 c2 (acctsL b.ls) (acctsL b.ls) v2 ((ints_ofL o1).below b2) (ints_ofL o2) (by omega) (by omega)) ?_); rintro e v3 ⟨rfl, b3⟩; have k3 : Below wr.heap.size wr v3 := next k2 b3)))
      all_goals
        have HE : Hid (Below w.heap.size w v3) := next HQR.out k3
        clear k0 k1 k2 k3 o1 o2 b1 b2 b3
        go_wp2
        go_ret
        exact ⟨by simp, HE.out⟩

theorem walk (a : Option Addr) (len cap : Nat) (zs : List Int) (w : World) (hr : IsRow .u8 w a len cap zs) :
    Calls Try.prog 4 #[.slice a len cap] w fun e w' => e = .returned (.bool true) ∧ Below w.heap.size w w' :=
  walkL (fun g b p w h1 h2 h3 h4 => lineD_any g b p w h1 h2 h3 h4) a len cap zs w hr

set_option maxRecDepth 100000 in
theorem lifted (os : Os) (started : os.Started) (H : Type) (enc : TypeId × Value → H) :
    ReturnsInHanded {} Try.checked os 4 .any (Rows.fnNoneSpec.pre6 enc Try.prog Try.f4 Rows.fnNoneRow.domain false) (Rows.fnNoneSpec.post enc Try.prog Try.f4 false true false false) := by
  refine returnsInHanded_of_change (C := Try.checked) own started (by kernel_rfl) Try.func4
    (ChangeSpec.witness6 (enc := enc) (C := Try.checked) false ⟨#[], #[.slice none 0 0], []⟩ 8 (by kernel_rfl) (by kernel_rfl) (by kernel_rfl) (by kernel_rfl)) ?_
  intro W base args ds gs before hval0 hW hcnd _
  have hval : ∀ (j : Nat) t v, Try.f4.params[j]? = some t → args[j]? = some v → Value.okWide Try.prog W .any base t v := hval0
  have hW' := hW
  obtain ⟨p, q, hA0, hV, rfl, hfz, hnd⟩ := hW
  have hA : DataW.TrodAll enc Try.prog W 0 (fun _ => true) true Try.f4.params.toList args.toList ds p := hA0
  rw [Try.params4] at hA hval
  obtain ⟨v0, vs0, d0, ds0, p0, q0, hargs, rfl, rfl, h0, r0⟩ := trodAll_cons hA
  obtain ⟨rfl, rfl, rfl⟩ := trodAll_nil r0
  obtain rfl : args = #[v0] := by cases args; simp_all
  obtain ⟨rfl, rfl⟩ := trodVars_none hV
  obtain ⟨a0, len0, cap0, rfl⟩ := okWide_slice Try.underlying22 (hval 0 22 v0 rfl rfl)
  have k0 := h0
  have lt0 : ∀ x ∈ p0, x.block < W.heap.size := by obtain ⟨m, hm⟩ := k0; exact DataW.trod_lt m _ _ _ hm
  obtain ⟨z0, w0⟩ : ∃ zs, IsRow .u8 W a0 len0 cap0 zs := is_row Try.underlying22 Try.underlying5 (by kernel_rfl) h0
  clear hA0 hval0
  refine (walk a0 len0 cap0 z0 W w0).mono fun e W' ⟨he, bel⟩ => ?_
  subst he
  exact ⟨_, rfl, _, _, _, [], _, [], hW', trodAll_mk1 (shut_bool Try.underlying4 _), (trodAll_cons_mk (Below.trod laidOut (by kernel_rfl) (of_decide_eq_true (by kernel_rfl)) k0 bel lt0) trodAll_mk0), rfl, bel.frame _, fun h => by cases h⟩

theorem proved : Rows.FnNoneSaid :=
  OpenClaim.holds_of_wide 4 Try.f4 rfl rfl rfl rfl rfl rfl rfl ⟨rfl, rfl, rfl, rfl, rfl⟩ rfl rfl rfl rfl rfl (by kernel_rfl) Try.func4 (by kernel_rfl)
    (of_decide_eq_true (by kernel_rfl)) (by unfold Func.isWrapper; first | (rw [if_pos (by decide +kernel)]; kernel_rfl) | (rw [if_neg (by decide +kernel)]; exact ⟨rfl, rfl⟩))
    (fun os started H enc _ => lifted os started H enc)
end Go.Proofs.Ytfeegkdkljkgpaa.fnNone
