/- The contract of the program's Busiest. -/
import Derived.Test.YtkdodamdjajbiaaBsM
import Derived.Test.YtkdodamdjajbiaaBsS
namespace Go.Proofs.Ytkdodamdjajbiaa
open Go.RowKit Go.Maps
set_option maxRecDepth 100000

set_option maxHeartbeats 12800000 in
theorem iBusiest_any (b : Bk) (p : Bp) (w : World) (hx : BookAt w b p) (hn : bkSm b) :
    Calls Try.prog 22 #[bkv b p] w fun e w' => e = .returned (.int .i64 (bestV b.cs)) ∧ Below w.heap.size w w' := by
  have hmm := @run_makeMap Try.prog
  obtain ⟨W, hW⟩ : ∃ W, W = w.alloc (.cells #[.int .i64 b.today, .slice p.o b.off.length p.oc, .slice p.a b.az.length p.ac, .slice p.c b.cs.length p.cc, .slice p.l b.ls.length p.lc, .slice p.g b.log.length p.gc] 39) := ⟨_, rfl⟩
  have bW : Below w.heap.size w W := by rw [hW]; exact (Below.refl _ _).alloc (Nat.le_refl _) _
  have s6 : S6 w.heap.size b p W := by rw [hW]; exact S6.new w b p _
  have HX : Hid (CasesAt w p.c b.cs) := hx.cs
  have HWS : Hid (W.heap.size = w.heap.size + 1) := by rw [Hid, hW]; simp
  have hcn := hn.2.2.1
  have HW : Hid _ := hW
  have HBW : Hid (Below w.heap.size w W) := bW
  clear hx hn hW bW
  obtain ⟨td, fo, az, cs, ls, lg⟩ := b
  obtain ⟨o, oc, a, ac, c, cc, l, lc, g, gc⟩ := p
  unfold bkv
  simp only at HW HX hcn s6 ⊢
  obtain ⟨x0, x1, x2, x3, x4, x5⟩ := s6
  simp only at x0 x1 x2 x3 x4 x5
  go_enter Try.func22, Try.ntmps22
  go_upto_region 1 with fail
  rw [← HW.out]
  clear HW
  obtain ⟨W2, hW2⟩ : ∃ W2, W2 = W.alloc (.map #[] 0) := ⟨_, rfl⟩
  have HOWN0 : Hid (W2.ownsMap Try.prog 3 (plainElem (H := Unit) Try.prog 3) (w.heap.size + 1) 0 (.map [])) := by
    have h := World.ownsMap_made W Try.prog 3 (plainElem (H := Unit) Try.prog 3)
    rw [HWS.out] at h
    rw [Hid, hW2]; exact h
  have b2 : Below W.heap.size W W2 := by rw [hW2]; exact (Below.refl _ _).alloc (Nat.le_refl _) _
  have HB0 : Hid (Below w.heap.size w W2) := next HBW.out b2
  have s62 := S6.below (b := ⟨td, fo, az, cs, ls, lg⟩) (p := ⟨o, oc, a, ac, c, cc, l, lc, g, gc⟩) (B := w.heap.size) ⟨x0, x1, x2, x3, x4, x5⟩ b2
  have HW2 : Hid _ := hW2
  clear b2 hW2 x0 x1 x2 x3 x4 x5
  obtain ⟨x0, x1, x2, x3, x4, x5⟩ := s62
  simp only at x0 x1 x2 x3 x4 x5
  go_upto_region 2 with fail
  rw [HWS.out, ← HW2.out]
  clear HW2 hmm
  go_wp2_with fail
  go_loopw [15] (fun i wr => ∃ (k : Nat) (D : DataW Unit), k ≤ cs.length ∧ i = .int .i64 (k : Int) ∧ wr.ownsMap Try.prog 3 (plainElem (H := Unit) Try.prog 3) (w.heap.size + 1) (flatP (cs.take k)).length D ∧ MapL D (flatP (cs.take k)) ∧ Below w.heap.size w wr) (fun i _ => cs.length - (intOf i).toNat)
  case atStart => exact ⟨0, .map [], Nat.zero_le _, rfl, HOWN0.out, mapL_nil, HB0.out⟩
  case round =>
    obtain ⟨k, D, hk, rfl, hown, hml, hbr⟩ := hrel
    have HBR : Hid (Below w.heap.size w wr) := hbr
    have HOWN : Hid (wr.ownsMap Try.prog 3 (plainElem (H := Unit) Try.prog 3) (w.heap.size + 1) (flatP (cs.take k)).length D) := hown
    have HML : Hid (MapL D (flatP (cs.take k))) := hml
    by_cases hlt : k < cs.length
    · have hki : (k : Int) < (cs.length : Int) := by omega
      obtain ⟨cb, off, rfl, hb2, hcb⟩ := ((HX.out).below hbr).at hlt
      have HST : Hid _ := flatP_step cs k hlt
      have hfl : (flatP (cs.take k)).length ≤ 2097152 := by
        have := flatP_le (cs.take k)
        have e : (cs.take k).length ≤ 1048576 := by simp; omega
        omega
      obtain ⟨⟨iss, acq, cur, am, st, rsn, cl, bk, fee, cop, sta, due⟩, hc⟩ : ∃ f, csAt cs k = f := ⟨_, rfl⟩
      rw [hc] at hcb HST
      obtain ⟨y0, y1, y2, y3, y4, y5, y6, y7, y8, y9, y10, y11⟩ := hcb
      simp only at y0 y1 y2 y3 y4 y5 y6 y7 y8 y9 y10 y11
      obtain ⟨F, hF⟩ : ∃ F, flatP (cs.take k) = F := ⟨_, rfl⟩
      rw [hF] at HOWN HML HST hfl
      obtain ⟨U, hU⟩ : ∃ U, U = wr.alloc (.cells #[.int .i64 iss, .int .i64 acq, .int .i64 cur, .int .i64 am, .int .i64 st, .int .i64 rsn, .int .i64 cl, .int .i64 bk, .int .i64 fee, .bool cop, .int .i64 sta, .int .i64 due] 57) := ⟨_, rfl⟩
      have bU : Below wr.heap.size wr U := by rw [hU]; exact (Below.refl _ _).alloc (Nat.le_refl _) _
      have hcU : CB wr.heap.size 0 ⟨iss, acq, cur, am, st, rsn, cl, bk, fee, cop, sta, due⟩ U := by rw [hU]; exact CB.new wr ⟨iss, acq, cur, am, st, rsn, cl, bk, fee, cop, sta, due⟩ _
      have HB1 : Hid (Below w.heap.size w U) := next HBR.out bU
      have HOWN1 : Hid (U.ownsMap Try.prog 3 (plainElem (H := Unit) Try.prog 3) (w.heap.size + 1) F.length D) := map_below HOWN.out bU
      have HLU : Hid (w.heap.size + 1 < U.heap.size) := HOWN1.out.lt
      have HFN : Hid _ := parties_any ⟨iss, acq, cur, am, st, rsn, cl, bk, fee, cop, sta, due⟩ U
      have HPO : Hid (∀ x, x ∈ partyL ⟨iss, acq, cur, am, st, rsn, cl, bk, fee, cop, sta, due⟩ → acctOk x = true) := fun x h => party_ok h
      have hpl := party_le ⟨iss, acq, cur, am, st, rsn, cl, bk, fee, cop, sta, due⟩
      obtain ⟨Q, hQ⟩ : ∃ Q, partyL ⟨iss, acq, cur, am, st, rsn, cl, bk, fee, cop, sta, due⟩ = Q := ⟨_, rfl⟩
      rw [hQ] at HFN HST HPO hpl
      unfold cv at HFN
      simp only at HFN
      clear hc hown hml hbr hb2 hF hQ HOWN
      go_upto_region 5 with fail
      rw [← hU]
      clear hU bU HBR y0 y1 y2 y3 y4 y5 y6 y7 y8 y9 y10 y11
      obtain ⟨z0, z1, z2, z3, z4, z5, z6, z7, z8, z9, z10, z11⟩ := hcU
      simp only [Nat.zero_add] at z0 z1 z2 z3 z4 z5 z6 z7 z8 z9 z10 z11
      go_wp2_with fail
      refine Calls.mono HFN.out ?_
      rintro e w2 ⟨a2, c2, rfl, o2, b2⟩
      have HO2 : Hid (w2.ownsRow U.heap.size 3 1 (.slice a2 Q.length c2) Q.length (Q.map (Value.int .i64))) := o2
      have HB2 : Hid (Below w.heap.size w w2) := next HB1.out b2
      have HOWN2 : Hid (w2.ownsMap Try.prog 3 (plainElem (H := Unit) Try.prog 3) (w.heap.size + 1) F.length D) := map_below HOWN1.out b2
      clear o2 b2 HFN HOWN1 HB1 z0 z1 z2 z3 z4 z5 z6 z7 z8 z9 z10 z11
      obtain ⟨base, hbase⟩ : ∃ x, U.heap.size = x := ⟨_, rfl⟩
      rw [hbase] at HO2 HLU
      clear hbase
      go_wp2_with fail
      go_loopw [22] (fun i wq => ∃ (j : Nat) (E : DataW Unit), j ≤ Q.length ∧ i = .int .i64 (j : Int) ∧ wq.ownsMap Try.prog 3 (plainElem (H := Unit) Try.prog 3) (w.heap.size + 1) (F.length + j) E ∧ MapL E (F ++ Q.take j) ∧ wq.ownsRow base 3 1 (.slice a2 Q.length c2) Q.length (Q.map (Value.int .i64)) ∧ Below w.heap.size w wq) (fun i _ => Q.length - (intOf i).toNat)
      case atStart => exact ⟨0, D, Nat.zero_le _, rfl, HOWN2.out, by rw [List.take_zero, List.append_nil]; exact HML.out, HO2.out, HB2.out⟩
      case round =>
        obtain ⟨j, E, hj, rfl, hown, hml, hro, hbr⟩ := hrel
        have HBR : Hid (Below w.heap.size w wr) := hbr
        have HOWQ : Hid (wr.ownsMap Try.prog 3 (plainElem (H := Unit) Try.prog 3) (w.heap.size + 1) (F.length + j) E) := hown
        have HMQ : Hid (MapL E (F ++ Q.take j)) := hml
        have HRO : Hid (wr.ownsRow base 3 1 (.slice a2 Q.length c2) Q.length (Q.map (Value.int .i64))) := hro
        by_cases hjl : j < Q.length
        · have hji : (j : Int) < (Q.length : Int) := by omega
          obtain ⟨qb, qo, rfl, hq2, hqc⟩ := (ints_own hro).at hjl
          have HTK : Hid _ := take_int Q j hjl
          have hok := HPO.out (Q.getD j 0) (by rw [List.getD_eq_getElem?_getD, List.getElem?_eq_getElem hjl]; exact List.getElem_mem hjl)
          obtain ⟨x, hxx⟩ : ∃ x, Q.getD j 0 = x := ⟨_, rfl⟩
          rw [hxx] at hqc HTK hok
          have HWK : Hid (wf64 x) := ok_wf hok
          have hcl := List.count_le_length (a := x) (l := F ++ Q.take j)
          have hy : ∀ c : Int, E.atKey (.int .i64 x) (.lit (.int .i64 0)) = .lit (.int .i64 c) → c = ((F ++ Q.take j).count x : Int) ∧ IntKind.i64.wrap (c + 1) = c + 1 ∧ (Lit.int .i64 (c + 1)).wf = true := fun c h => by
            have e := h.symm.trans (HMQ.out.2 x)
            have hc : c = ((F ++ Q.take j).count x : Int) := by injection e with e1; injection e1
            have hl : (F ++ Q.take j).length ≤ 2097160 := by simp; omega
            refine ⟨hc, ?_, ?_⟩
            · rw [IntKind.wrap_i64]; omega
            · exact WalkArith.wf_i64 (by omega)
          have HY : Hid _ := hy
          have HKM : Hid (F.length + j < maxLen) := by unfold maxLen; rw [Hid]; omega
          have HNE : Hid ((Value.slice (some ⟨qb, qo, none⟩) Q.length c2).ownBlock = none ∨ (Value.slice (some ⟨qb, qo, none⟩) Q.length c2).ownBlock ≠ some (w.heap.size + 1)) := .inr fun e => by have := (HRO.out.lt _ e).1; have := HLU.out; omega
          clear hxx hok hy hown hml hro hbr hcl
          go_wp2_with (first
            | (at_lookup; refine wpList_lookup_own_int _ rfl _ _ 75 rfl 3 3 .i64 lawInt Try.underlying75 Try.underlying3 (zero3 _) (w.heap.size + 1) (F.length + j) E rfl HOWQ.out _ _ rfl (keyOf_int_mk Try.underlying3 HWK.out) ?_; intro c hat hwc; have HC : Hid (c = ((F ++ Q.take j).count x : Int)) := (HY.out c hat).1; have hwr := (HY.out c hat).2.1; have HWC : Hid ((Lit.int .i64 (c + 1)).wf = true) := (HY.out c hat).2.2; clear hat hwc)
            | (at_mapUpdate; refine wpList_mapUpdate_own _ rfl _ _ _ 75 rfl 3 3 lawInt Try.underlying75 _ (w.heap.size + 1) (F.length + j) E rfl HOWQ.out HKM.out _ _ _ rfl rfl (keyOf_int_mk Try.underlying3 HWK.out) _ [] (plainElem_int Try.underlying3 HWC.out) ?_; intro w1 hown1 hgrow1)
            | go_in)
          have HO1 : Hid (w1.ownsMap Try.prog 3 (plainElem (H := Unit) Try.prog 3) (w.heap.size + 1) (F.length + j + 1) (E.put (.int .i64 x) (.lit (.int .i64 (c + 1))))) := hown1
          have q1 : Below w.heap.size w w1 := HBR.out.grown hgrow1 HBR.out.size (fun y hy => by cases hy; omega)
          have HR1 : Hid (w1.ownsRow base 3 1 (.slice (some ⟨qb, qo, none⟩) Q.length c2) Q.length (Q.map (Value.int .i64))) := HRO.out.kept hgrow1 HNE.out
          clear hown1 hgrow1
          go_wp2
          go_roundw
          case rel => exact ⟨j + 1, _, by omega, by go_num, HO1.out, by rw [HTK.out, HC.out, ← List.append_assoc]; exact mapL_snoc HMQ.out HOWQ.out.isMap x, HR1.out, q1⟩
          case measure => simp [intOf]; omega
        · have hje : j = Q.length := by omega
          subst hje
          have hji : ¬ (Q.length : Int) < (Q.length : Int) := by omega
          rw [List.take_length] at HMQ
          have HOE : Hid (wr.ownsMap Try.prog 3 (plainElem (H := Unit) Try.prog 3) (w.heap.size + 1) (flatP (cs.take (k + 1))).length E) := by rw [Hid, HST.out, List.length_append]; exact HOWQ.out
          have HME : Hid (MapL E (flatP (cs.take (k + 1)))) := by rw [Hid, HST.out]; exact HMQ.out
          clear hown hml hro hbr
          go_wp2
          go_roundw
          case rel => exact ⟨k + 1, E, by omega, by go_num, HOE.out, HME.out, HBR.out⟩
          case measure => simp [intOf]; omega
    · have hke : k = cs.length := by omega
      subst hke
      have hki : ¬ (cs.length : Int) < (cs.length : Int) := by omega
      rw [List.take_length] at HOWN HML
      have hfl := flatP_le cs
      have HSR : Hid _ := sorted_any (w.heap.size + 1) _ D (plainElem (H := Unit) Try.prog 3) wr HOWN.out (Nat.le_trans (map_up HOWN.out) (by unfold maxLen; omega)) (by have := map_up HOWN.out; omega)
      have HKE : Hid (∀ x, x ∈ intKeys D ↔ x ∈ flatP cs) := fun x => by rw [keys_mem HOWN.out Try.underlying3 x, HML.out.1 x]; simp
      obtain ⟨F, hF⟩ : ∃ F, flatP cs = F := ⟨_, rfl⟩
      have HFE : Hid _ := hF
      have HFO : Hid (∀ x, x ∈ F → acctOk x = true) := fun x h => flat_ok (by rw [hF]; exact h)
      have HF0 : Hid (F.count 0 = 0) := by rw [Hid, ← hF]; exact flat_zero cs
      rw [hF] at HOWN HML HKE hfl
      clear hown hml hbr hF
      go_wp2_with fail
      refine (keys_any _ _).mono ?_
      rintro e w3 ⟨rfl, hw3⟩
      rw [hw3]
      clear hw3
      go_wp2_with fail
      refine Calls.mono HSR.out ?_
      rintro e w4 ⟨v4, ss, rfl, hperm, o4, hnil, b4⟩
      obtain ⟨L, hL⟩ : ∃ L : List Int, ss.mergeSort (fun x y => decide (x ≤ y)) = L := ⟨_, rfl⟩
      have hup : L.Pairwise (· ≤ ·) := by rw [← hL]; exact sort_up ss
      have hlen : ss.length = L.length := by rw [← hL, List.length_mergeSort]
      have HLM : Hid (∀ x, x ∈ L ↔ x ∈ F) := fun x => by rw [← hL, List.mem_mergeSort, hperm.mem_iff]; exact HKE.out x
      rw [hL, hlen] at o4
      have hLl : L.length ≤ 2097152 := by
        have h1 := hperm.length_eq
        have h2 := map_up HOWN.out
        have h3 : (intKeys D).length = Maps.size D := by cases D <;> simp [intKeys, Maps.size]
        omega
      obtain ⟨a4, k4, hv4⟩ := own_shape (m := L.length) (by exact o4)
      subst hv4
      have HI4 : Hid (IntsAt w4 a4 L) := ints_own o4
      have HB4 : Hid (Below w.heap.size w w4) := next HBR.out b4
      have HOWN4 : Hid (w4.ownsMap Try.prog 3 (plainElem (H := Unit) Try.prog 3) (w.heap.size + 1) F.length D) := map_below HOWN.out b4
      have HUP : Hid _ := hup
      clear o4 b4 hperm hnil hL hlen HSR HKE HOWN HBR hup
      go_wp2_with fail
      go_loopw [8, 36] (fun r i wq => ∃ (j : Nat) (rv : Int), j ≤ L.length ∧ r = .int .i64 rv ∧ i = .int .i64 (j : Int) ∧ Bst (fun a => (F.count a : Int)) (fun a => a ∈ L.take j) (F.count rv : Int) rv ∧ wq = w4) (fun _ i _ => L.length - (intOf i).toNat)
      case atStart => exact ⟨0, 0, Nat.zero_le _, rfl, rfl, by rw [HF0.out]; exact bst_none _ (fun a h => by simp at h), rfl⟩
      case round =>
        obtain ⟨j, rv, hj, rfl, rfl, hbst, hwq⟩ := hrel
        subst hwq
        have HBST : Hid (Bst (fun a => (F.count a : Int)) (fun a => a ∈ L.take j) (F.count rv : Int) rv) := hbst
        by_cases hjl : j < L.length
        · have hji : (j : Int) < (L.length : Int) := by omega
          obtain ⟨qb, qo, rfl, hq2, hqc⟩ := HI4.out.at hjl
          have HTM : Hid _ := take_memI hjl
          have HLE : Hid _ := sorted_take HUP.out hjl
          have hxm : L.getD j 0 ∈ F := (HLM.out _).1 (by rw [List.getD_eq_getElem?_getD, List.getElem?_eq_getElem hjl]; exact List.getElem_mem hjl)
          obtain ⟨x, hxx⟩ : ∃ x, L.getD j 0 = x := ⟨_, rfl⟩
          rw [hxx] at hqc HTM HLE hxm
          have HWX : Hid (wf64 x) := ok_wf (HFO.out x hxm)
          have HWR : Hid (wf64 rv) := by
            rcases hbst with ⟨rfl, -, -⟩ | ⟨hm, -, -, -⟩
            · exact wf_zero
            · exact ok_wf (HFO.out rv ((HLM.out rv).1 (List.mem_of_mem_take hm)))
          have HYX : Hid (∀ c : Int, D.atKey (.int .i64 x) (.lit (.int .i64 0)) = .lit (.int .i64 c) → c = (F.count x : Int)) := fun c h => by
            have e := h.symm.trans (HML.out.2 x); injection e with e1; injection e1
          have HYR : Hid (∀ c : Int, D.atKey (.int .i64 rv) (.lit (.int .i64 0)) = .lit (.int .i64 c) → c = (F.count rv : Int)) := fun c h => by
            have e := h.symm.trans (HML.out.2 rv); injection e with e1; injection e1
          have HIN : Hid ((F.count rv : Int) < (F.count x : Int) → Bst (fun a => (F.count a : Int)) (fun a => a ∈ L.take (j + 1)) (F.count x : Int) x) := fun h => bst_in HBST.out HLE.out HTM.out h
          have HOUT : Hid (¬ (F.count rv : Int) < (F.count x : Int) → Bst (fun a => (F.count a : Int)) (fun a => a ∈ L.take (j + 1)) (F.count rv : Int) rv) := fun h => bst_out HBST.out HLE.out HTM.out h
          obtain ⟨X, hX⟩ : ∃ X : Int, (F.count x : Int) = X := ⟨_, rfl⟩
          obtain ⟨R, hR⟩ : ∃ R : Int, (F.count rv : Int) = R := ⟨_, rfl⟩
          rw [hX, hR] at HIN HOUT
          rw [hX] at HYX
          rw [hR] at HYR
          have HXE : Hid _ := hX
          have HRE : Hid _ := hR
          clear hxx hxm hbst HTM HLE hX hR HBST
          by_cases hb : R < X
          · have HV : Hid _ := HIN.out hb
            clear HIN HOUT
            go_wp2_with (first
              | (at_lookup; refine wpList_lookup_own_int _ rfl _ _ 75 rfl 3 3 .i64 lawInt Try.underlying75 Try.underlying3 (zero3 _) (w.heap.size + 1) F.length D rfl HOWN4.out _ _ rfl (keyOf_int_mk Try.underlying3 HWX.out) ?_; intro cx hat hwc; obtain rfl := HYX.out cx hat; clear hat hwc)
              | (at_lookup; refine wpList_lookup_own_int _ rfl _ _ 75 rfl 3 3 .i64 lawInt Try.underlying75 Try.underlying3 (zero3 _) (w.heap.size + 1) F.length D rfl HOWN4.out _ _ rfl (keyOf_int_mk Try.underlying3 HWR.out) ?_; intro cr hat hwc; obtain rfl := HYR.out cr hat; clear hat hwc)
              | go_in)
            go_roundw
            case rel => exact ⟨j + 1, x, by omega, rfl, by go_num, by rw [HXE.out]; exact HV.out, trivial⟩
            case measure => simp [intOf]; omega
          · have HV : Hid _ := HOUT.out hb
            clear HIN HOUT
            go_wp2_with (first
              | (at_lookup; refine wpList_lookup_own_int _ rfl _ _ 75 rfl 3 3 .i64 lawInt Try.underlying75 Try.underlying3 (zero3 _) (w.heap.size + 1) F.length D rfl HOWN4.out _ _ rfl (keyOf_int_mk Try.underlying3 HWX.out) ?_; intro cx hat hwc; obtain rfl := HYX.out cx hat; clear hat hwc)
              | (at_lookup; refine wpList_lookup_own_int _ rfl _ _ 75 rfl 3 3 .i64 lawInt Try.underlying75 Try.underlying3 (zero3 _) (w.heap.size + 1) F.length D rfl HOWN4.out _ _ rfl (keyOf_int_mk Try.underlying3 HWR.out) ?_; intro cr hat hwc; obtain rfl := HYR.out cr hat; clear hat hwc)
              | go_in)
            go_roundw
            case rel => exact ⟨j + 1, rv, by omega, rfl, by go_num, by rw [HRE.out]; exact HV.out, trivial⟩
            case measure => simp [intOf]; omega
        · have hje : j = L.length := by omega
          subst hje
          have hji : ¬ (L.length : Int) < (L.length : Int) := by omega
          rw [List.take_length] at HBST
          have HBF : Hid (rv = bestV cs) := by
            have h := bst_iff HBST.out HLM.out
            rw [← HFE.out] at h
            exact bestV_flat (bst_some cs) h
          clear hbst HBST
          go_wp2
          go_ret
          exact ⟨one_int HBF.out, HB4.out⟩

end Go.Proofs.Ytkdodamdjajbiaa
