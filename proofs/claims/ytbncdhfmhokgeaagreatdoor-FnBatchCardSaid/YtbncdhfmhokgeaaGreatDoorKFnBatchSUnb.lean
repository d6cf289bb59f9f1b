/- The contract of the specification's Unblock. -/
import Derived.Test.YtbncdhfmhokgeaaGreatDoorKFnBatchFUnb
import Derived.Test.YtbncdhfmhokgeaaGreatDoorKFnBatchSBlock
import Derived.Test.YtbncdhfmhokgeaaGreatDoorJFnBatch0a
namespace Go.Proofs.YtbncdhfmhokgeaaGreatDoor
open Go.RowKit
set_option maxRecDepth 100000

/-- a text's byte, a text's piece, by one name each -/
theorem idx_at (s : List UInt8) {x : Int} (k : Nat) (hx : x = k) (hk : k < s.length) (W : World) : (Instr.index 9 (.string ⟨s.toArray⟩) (.int .i64 x)).run Tryz.prog W = .ok (.int .u8 ((s.getD k 0).toNat : Int)) W := by
  subst hx
  have h : (0 : Int) ≤ (k : Int) ∧ (k : Int) < ((⟨s.toArray⟩ : ByteArray).size : Int) := by rw [ba_size]; omega
  rw [run_index_string W _ _ _ _ Tryz.underlying9, dif_pos h, byte_at s k hk]
  rfl
theorem cut6_at (s : List UInt8) {x y : Int} (a b : Nat) (hx : x = a) (hy : y = b) (hab : a ≤ b) (hb : b ≤ s.length) (W : World) : (Instr.slice 9 (.string ⟨s.toArray⟩) (some (.int .i64 x)) (some (.int .i64 y)) none).run Tryz.prog W = .ok (.string ⟨((s.drop a).take (b - a)).toArray⟩) W := by
  subst hx; subst hy
  rw [run_slice_string W _ _ _ _ _ _ Tryz.underlying9 (by omega) (by omega) (by rw [ba_size]; omega), ba_extract]
  rfl
theorem app_own8 {w : World} {base n : Nat} {v : Value} {l : List UInt8} (h : w.ownsRow base 5 1 v n (l.map cell)) : n = l.length := by simpa using h.1.symm
theorem num4_lt (l : List UInt8) (a : Nat) : num4 l a < 4294967296 := by
  have := (l.getD a 0).toNat_lt
  have := (l.getD (a + 1) 0).toNat_lt
  have := (l.getD (a + 2) 0).toNat_lt
  have := (l.getD (a + 3) 0).toNat_lt
  unfold num4; omega
theorem litS (w : World) : (w.alloc (.cells #[] 9)).ownsRow w.heap.size 9 1 (.slice (some ⟨w.heap.size, 0, none⟩) 0 0) 0 [] := World.ownsRow_lit w #[] 0 (Nat.le_refl _) (by unfold maxLen; omega) rfl
theorem unbR_lit {w w' : World} {u : Recs × Nat} {k : Nat} (h : u = ([], k)) (hb : Below w.heap.size w w') (hl : Below (w.heap.size + 1) (w.alloc (.cells #[] 9)) w') : UnbR w u (.returned (.tuple #[.slice (some ⟨w.heap.size, 0, none⟩) 0 0, .int .i64 (k : Nat)])) w' := by
  subst h
  exact ⟨_, _, rfl, keepRowS (litS w) (hl.mono (by simp)), hb⟩

set_option maxRecDepth 100000 in
set_option maxHeartbeats 6400000 in
theorem sUnblock_any (s : List UInt8) (w : World) (hl : s.length ≤ 1099511627776) :
    Calls Tryz.prog 73 #[.string ⟨s.toArray⟩] w (UnbR w (unb s)) := by
  obtain ⟨i0, hi, hz0, hz1, hz2⟩ := info_parts info5
  obtain ⟨j0, ji, jz0, jz1, jz2⟩ := info_parts infoS
  have blit : Below (w.heap.size + 1) (w.alloc (.cells #[] 9)) (w.alloc (.cells #[] 9)) := Below.refl _ _
  have bw : Below w.heap.size w (w.alloc (.cells #[] 9)) := by go_grown
  by_cases h1 : s.length = 0 ∨ 60000 < s.length ∨ s.length % 1014 ≠ 0
  · have HN : Hid _ := unb_1 h1
    by_cases he : s.length = 0
    · have he2 : ((s.length : Int) == 0) = true := by rw [beq_iff_eq]; omega
      clear h1 he
      go_enter Tryz.func73, Tryz.ntmps73
      go_wp2
      go_ret2
      exact unbR_lit HN.out bw blit
    · have he2 : ((s.length : Int) == 0) = false := beq_eq_false_iff_ne.2 (by omega)
      by_cases h6 : (60000 : Int) < (s.length : Int)
      · clear h1 he
        go_enter Tryz.func73, Tryz.ntmps73
        go_wp2
        go_ret2
        exact unbR_lit HN.out bw blit
      · have hne : ((s.length : Int) % 1014 == 0) = false := beq_eq_false_iff_ne.2 (by omega)
        clear h1 he
        go_enter Tryz.func73, Tryz.ntmps73
        go_wp2
        go_ret2
        exact unbR_lit HN.out bw blit
  have he2 : ((s.length : Int) == 0) = false := beq_eq_false_iff_ne.2 (by omega)
  have h6 : ¬ (60000 : Int) < (s.length : Int) := by omega
  have hmod : (s.length : Int) % 1014 = 0 := by omega
  obtain ⟨m, hm⟩ : ∃ m, s.length = m * 1014 := ⟨s.length / 1014, by omega⟩
  have hdiv : s.length / 1014 = m := by omega
  have hm0 : 0 < m := by omega
  have hm6 : m ≤ 59 := by omega
  have H1 : Hid _ := h1
  have HST : Hid (streamOf s = streamM s m) := by rw [Hid, streamOf, hdiv]
  have HPD : Hid (padAll s = padM s m) := by rw [Hid, padAll, hdiv]
  have HLEN : Hid ((streamM s m).length = m * 1012) := streamM_len s m (by omega)
  have HSM : Hid (s.length = m * 1014) := hm
  have hsl : s.length ≤ 60000 := by omega
  clear h1 hdiv hm
  obtain ⟨wA, hwA⟩ : ∃ wA, wA = w.alloc (.cells #[] 9) := ⟨_, rfl⟩
  have own1 : ((w.alloc (.cells #[] 9)).alloc (.cells #[] 5)).ownsRow (w.heap.size + 1) 5 1 (.slice (some ⟨w.heap.size + 1, 0, none⟩) 0 0) 0 [] := by
    have := World.ownsRow_lit (e := 5) (size := 1) (base := w.heap.size + 1) (w.alloc (.cells #[] 9)) #[] 0 (by simp) (by unfold maxLen; omega) rfl
    simpa using this
  have HOWN1 : Hid (((w.alloc (.cells #[] 9)).alloc (.cells #[] 5)).ownsRow (w.heap.size + 1) 5 1 (.slice (some ⟨w.heap.size + 1, 0, none⟩) 0 0) 0 []) := own1
  have bl1 : Below (w.heap.size + 1) (w.alloc (.cells #[] 9)) ((w.alloc (.cells #[] 9)).alloc (.cells #[] 5)) := blit.alloc (by simp) _
  clear own1 blit hwA wA
  go_enter Tryz.func73, Tryz.ntmps73
  go_wp2
  go_loopw [5, 6] (fun x i wr => ∃ (v : Value) (k a : Nat), v = x ∧ k ≤ m ∧ i = .int .i64 (a : Nat) ∧ a = k * 1014 ∧ padM s k = true ∧ wr.ownsRow (w.heap.size + 1) 5 1 v (k * 1012) ((streamM s k).map cell) ∧ Below (w.heap.size + 1) (w.alloc (.cells #[] 9)) wr) (fun _ i _ => s.length - (intOf i).toNat)
  case atStart => exact ⟨_, 0, 0, rfl, Nat.zero_le _, rfl, rfl, rfl, HOWN1.out, bl1⟩
  case round =>
    obtain ⟨v, k, a, hvs, hk, rfl, ha, hpad, ho, hbr⟩ := hrel
    subst hvs
    have HAE : Hid (a = k * 1014) := ha
    have HO : Hid (wr.ownsRow (w.heap.size + 1) 5 1 v (k * 1012) ((streamM s k).map cell)) := ho
    have HLT : Hid (∀ j, v.ownBlock = some j → w.heap.size + 1 ≤ j) := fun j hj => (ho.lt j hj).1
    have hbs := hbr.size
    simp only [World.size_alloc] at hbs
    have hQ : Below w.heap.size w wr := bw.trans (hbr.mono (by omega))
    clear HOWN1 bl1 ho
    by_cases hlt : k < m
    · have hkm : a + 1014 ≤ s.length := by have : (k + 1) * 1014 ≤ m * 1014 := Nat.mul_le_mul_right _ hlt; have := HSM.out; omega
      have hki : (a : Int) < (s.length : Int) := by omega
      have hx1 := idx_at s (x := (a : Int) + 1014 - 2) (a + 1012) (by omega) (by omega)
      have hx2 := idx_at s (x := (a : Int) + 1014 - 1) (a + 1013) (by omega) (by omega)
      have heo : endOk s k = ((s.getD (a + 1012) 0 == 64) && (s.getD (a + 1013) 0 == 64)) := by rw [endOk, ha]
      obtain ⟨c1, hc1⟩ : ∃ c, s.getD (a + 1012) 0 = c := ⟨_, rfl⟩
      obtain ⟨c2, hc2⟩ : ∃ c, s.getD (a + 1013) 0 = c := ⟨_, rfl⟩
      rw [hc1] at hx1 heo
      rw [hc2] at hx2 heo
      clear hc1 hc2 ha
      by_cases e1 : c1 = 64
      · by_cases e2 : c2 = 64
        · have HPAD : Hid (padM s (k + 1) = true) := by rw [Hid, padM_succ, hpad, heo, e1, e2]; rfl
          subst e1
          subst e2
          have hsl2 := cut6_at s (x := (a : Int)) (y := (a : Int) + 1014 - 2) a (a + 1012) rfl (by omega) (by omega) (by omega)
          rw [Nat.add_sub_cancel_left] at hsl2
          obtain ⟨P, hP⟩ : ∃ P, (s.drop a).take 1012 = P := ⟨_, rfl⟩
          have hPe : pieceOf s k = P := by rw [pieceOf, ← HAE.out]; exact hP
          have hPl : P.length = 1012 := by rw [← hPe]; exact pieceOf_len s k (by have := HAE.out; omega)
          rw [hP] at hsl2
          have HSS : Hid (streamM s (k + 1) = streamM s k ++ P) := by rw [Hid, streamM_succ, hPe]
          have hcv := conv_run P
          rw [hPl] at hcv
          have HIN : Hid (∀ j u, (P.map cell)[j]? = some u → (convW P wr).cell? ((⟨wr.heap.size, 0, none⟩ : Addr).add j) = some u) := by
            intro j u hj
            rw [List.getElem?_map] at hj
            obtain ⟨y, hy, rfl⟩ := Option.map_eq_some_iff.1 hj
            exact inB_conv _ _ _ rfl j y hy
          have HPL : Hid ((P.map cell).length = 1012 * 1) := by rw [Hid, List.length_map, hPl]
          have HKO : Hid ((convW P wr).ownsRow (w.heap.size + 1) 5 1 v (k * 1012) ((streamM s k).map cell)) := keepRowS HO.out (convW_below P wr)
          obtain ⟨cc, hcc⟩ : ∃ cc, convC P wr = cc := ⟨_, rfl⟩
          have hcvr := hcv wr
          rw [hcc] at hcvr
          obtain ⟨W6, hW6⟩ : ∃ W6, convW P wr = W6 := ⟨_, rfl⟩
          clear heo hpad hP hPe
          have hsz := convW_size P wr
          have hbc : Below (w.heap.size + 1) (w.alloc (.cells #[] 9)) (convW P wr) := hbr.trans ((convW_below P wr).mono hbs)
          rw [hW6] at hcvr HIN HKO hsz hbc
          clear hcv hcc hW6
          go_wp2_with (at_builtin; refine wpList_append_own _ rfl (.tmp 51) (.tmp 57) 22 rfl (w.heap.size + 1) 5 i0 (.int .u8 0) 1 1 Tryz.underlying22 hi hz0 hz1 hz2 rfl (by decide) v (k * 1012) _ rfl HKO.out ⟨wr.heap.size, 0, none⟩ 1012 cc (P.map cell) rfl HPL.out HIN.out (map_cell_one P) (by unfold maxLen; omega) (by omega) (by omega) ?_; intro v7 w7 o7 g7 _)
          have q7 : Below (w.heap.size + 1) (w.alloc (.cells #[] 9)) w7 := hbc.grown g7 (by omega) HLT.out
          have HR7 : Hid (w7.ownsRow (w.heap.size + 1) 5 1 v7 ((k + 1) * 1012) ((streamM s (k + 1)).map cell)) := by
            rw [HSS.out, List.map_append, show (k + 1) * 1012 = k * 1012 + 1012 by omega]; exact o7
          clear o7 g7 HO HKO HIN
          go_wp2
          go_roundw
          case rel => exact ⟨_, k + 1, a + 1014, rfl, by omega, by go_num, by have := HAE.out; omega, HPAD.out, HR7.out, q7⟩
          case measure => simp [intOf]; omega
        · have HN : Hid (unb s = ([], 2)) := unb_2 H1.out (by rw [HPD.out]; exact padM_no hlt (by rw [heo, e1]; simp [e2]))
          subst e1
          have e2b : (c2.toNat : Int) ≠ 64 := fun h => e2 (UInt8.toNat_inj.1 (by show c2.toNat = 64; omega))
          have e2i : ((c2.toNat : Int) == 64) = false := beq_eq_false_iff_ne.2 e2b
          clear heo hpad e2 e2b
          go_wp2
          go_ret2
          exact unbR_lit HN.out hQ hbr
      · have HN : Hid (unb s = ([], 2)) := unb_2 H1.out (by rw [HPD.out]; exact padM_no hlt (by rw [heo]; simp [e1]))
        have e1b : (c1.toNat : Int) ≠ 64 := fun h => e1 (UInt8.toNat_inj.1 (by show c1.toNat = 64; omega))
        have e1i : ((c1.toNat : Int) == 64) = false := beq_eq_false_iff_ne.2 e1b
        clear heo hpad e1 e1b
        go_wp2
        go_ret2
        exact unbR_lit HN.out hQ hbr
    · have hkm : k = m := by omega
      subst hkm
      obtain ⟨W, hW⟩ : ∃ W, W = wr := ⟨wr, rfl⟩
      subst hW
      have HP : Hid (padAll s = true) := by rw [Hid, HPD.out, hpad]
      have hai : ¬ (a : Int) < (s.length : Int) := by have := HSM.out; omega
      have hlen := HLEN.out
      obtain ⟨S, hS⟩ : ∃ S, streamM s k = S := ⟨_, rfl⟩
      rw [hS] at HO HST hlen
      obtain ⟨ga, ca, hva, hrow, hca⟩ := own_row HO.out (by omega)
      subst hva
      obtain ⟨L, hL⟩ : ∃ L, k * 1012 = L := ⟨_, rfl⟩
      have hLb : L ≤ 59708 := by omega
      have hL1 : 1012 ≤ L := by omega
      rw [hL] at hlen hca ⊢
      have hca1 := hca.1
      have hca2 := hca.2
      unfold maxLen at hca2
      have HLE : Hid (S.length = L) := hlen
      have hgl := hrow.lt
      have HROW : Hid (Row W ga S) := hrow
      have HOL : Hid ((W.alloc (.cells #[] 9)).ownsRow W.heap.size 9 1 (.slice (some ⟨W.heap.size, 0, none⟩) 0 0) 0 []) := litS W
      obtain ⟨o, hoo⟩ : ∃ o, walkR S (S.length + 1) 0 [] = o := ⟨_, rfl⟩
      have HOO : Hid _ := hoo
      have H3 : Hid (o = none → unb s = ([], 3)) := fun h => unb_3 H1.out HP.out (by rw [HST.out, hoo, h])
      have HY : Hid (∀ out en, o = some (out, en) → blockOk out = true ∧ blockL out = s → unb s = (out, 0)) := fun out en h h2 => unb_0 H1.out HP.out (by rw [HST.out, hoo, h]) h2
      have HNO : Hid (∀ out en, o = some (out, en) → ¬ (blockOk out = true ∧ blockL out = s) → unb s = ([], 4)) := fun out en h h2 => unb_4 H1.out HP.out (by rw [HST.out, hoo, h]) h2
      rw [HLE.out] at HOO
      clear hpad hS hrow hca hlen hoo HO HLT hL ha HAE
      go_wp2
      go_loopw [8, 9] (fun x i wx => ∃ (v : Value) (f a : Nat) (acc : Recs), v = x ∧ a ≤ L ∧ i = .int .i64 (a : Nat) ∧ walkR S f a acc = o ∧ L < a + f ∧ acc.length ≤ 200 ∧ (∀ r ∈ acc, r.length ≤ 3000) ∧ wx.ownsRow W.heap.size 9 1 v acc.length (scells acc) ∧ Below W.heap.size W wx) (fun _ i _ => L - (intOf i).toNat)
      case atStart => exact ⟨_, L + 1, 0, [], rfl, Nat.zero_le _, rfl, HOO.out, by omega, by simp, (fun r hr => by cases hr), HOL.out, by go_grown⟩
      case round =>
        obtain ⟨v, f, a, acc, hvs, ha, rfl, hw, hf, hac, hacc, hown, hbx⟩ := hrel
        subst hvs
        have hbs2 := hbx.size
        obtain ⟨va, vc, hv, -, -⟩ := txts_of_own hown
        subst hv
        have HOW : Hid (wr.ownsRow W.heap.size 9 1 (.slice va acc.length vc) acc.length (scells acc)) := hown
        have HLT : Hid (∀ j, (Value.slice va acc.length vc).ownBlock = some j → W.heap.size ≤ j) := fun j hj => (hown.lt j hj).1
        have HRW : Hid (Row wr ga S) := HROW.out.keep hbx hgl
        have HAC : Hid (∀ r ∈ acc, r.length ≤ 3000) := hacc
        have hQ2 : Below w.heap.size w wr := hQ.trans (hbx.mono hQ.size)
        have hbl : Below (w.heap.size + 1) (w.alloc (.cells #[] 9)) wr := hbr.trans (hbx.mono hbs)
        clear hown HOL HOO hacc
        by_cases h4 : a + 4 ≤ L
        · have h4i : ¬ (L : Int) - (a : Int) < 4 := by omega
          obtain ⟨f', rfl⟩ : ∃ f', f = f' + 1 := ⟨f - 1, by omega⟩
          have hSL := HLE.out
          have d0 := HRW.out.at (k := a) (by omega)
          have d1 := HRW.out.at (k := a + 1) (by omega)
          have d2 := HRW.out.at (k := a + 2) (by omega)
          have d3 := HRW.out.at (k := a + 3) (by omega)
          have b0 := (S.getD a 0).toNat_lt
          have b1 := (S.getD (a + 1) 0).toNat_lt
          have b2 := (S.getD (a + 2) 0).toNat_lt
          have b3 := (S.getD (a + 3) 0).toNat_lt
          obtain ⟨N, hN⟩ : ∃ N, num4 S a = N := ⟨_, rfl⟩
          have hNi : ((S.getD a 0).toNat : Int) * 16777216 + ((S.getD (a + 1) 0).toNat : Int) * 65536 + ((S.getD (a + 2) 0).toNat : Int) * 256 + ((S.getD (a + 3) 0).toNat : Int) = (N : Int) := by rw [← hN, num4]; omega
          have hNb : N < 4294967296 := by rw [← hN]; exact num4_lt S a
          generalize (S.getD a 0).toNat = x0 at d0 b0 hNi
          generalize (S.getD (a + 1) 0).toNat = x1 at d1 b1 hNi
          generalize (S.getD (a + 2) 0).toNat = x2 at d2 b2 hNi
          generalize (S.getD (a + 3) 0).toNat = x3 at d3 b3 hNi
          have hne := over_ne wr
          have e0 := over_cell d0
          have e1 := over_cell d1
          have e2 := over_cell d2
          have e3 := over_cell d3
          have HNE : Hid (num4 S a = N) := hN
          have HW : Hid _ := hw
          clear hN hSL hw
          by_cases h0 : N = 0
          · have ho : o = some (acc, a + 4) := by rw [← HW.out, walkR_end (by rw [HLE.out]; omega) (by rw [HNE.out, h0])]
            have h0i : ((N : Int) == 0) = true := by rw [beq_iff_eq]; omega
            have HYY : Hid _ := HY.out acc (a + 4) ho
            have HNN : Hid _ := HNO.out acc (a + 4) ho
            clear ho HW h0 HNE
            go_wp2
            refine wp_region_over (by kernel_rfl) (by kernel_rfl) ?_
            repeat (go_big_quiet_step (fail))
            refine wpQuiet_nil ?_
            rintro w6 ⟨⟨wz, b6⟩, hw6⟩
            subst hw6
            have q6 := hQ2.trans (b6.mono hQ2.size)
            have l6 : Below (w.heap.size + 1) (w.alloc (.cells #[] 9)) w6 := hbl.trans (b6.mono (by omega))
            have f6 := (txts_any HOW.out).below b6
            have HO6 : Hid (w6.ownsRow W.heap.size 9 1 (.slice va acc.length vc) acc.length (scells acc)) := keepRowS HOW.out b6
            clear e0 e1 e2 e3 d0 d1 d2 d3 hne HOW
            go_wp2_with fail
            refine (sBlock_any va vc acc _ f6 (by omega) (fun r hr => by have := HAC.out r hr; omega)).mono ?_
            rintro e w7 ⟨rfl, b7⟩
            have q7 := q6.trans (b7.mono q6.size)
            have l7 : Below (w.heap.size + 1) (w.alloc (.cells #[] 9)) w7 := l6.trans (b7.mono (by have := l6.size; simp at this; omega))
            have HO7 : Hid (w7.ownsRow w.heap.size 9 1 (.slice va acc.length vc) acc.length (scells acc)) := lowerRowS (keepRowS HO6.out b7) hQ.size
            clear f6 HO6 b7 b6 q6 l6
            cases hbo : blockOk acc
            · have HF : Hid (unb s = ([], 4)) := HNN.out (fun h => by rw [hbo] at h; cases h.1)
              clear HYY HNN hbo
              generalize blockL acc = B
              go_wp2
              go_ret2
              exact unbR_lit HF.out q7 l7
            · by_cases heq : blockL acc = s
              · have HF : Hid (unb s = (acc, 0)) := HYY.out ⟨hbo, heq⟩
                have hss : (s == s) = true := by simp
                rw [heq]
                clear HYY HNN hbo heq
                go_wp2
                go_ret2
                rw [HF.out]
                exact ⟨va, vc, rfl, HO7.out, q7⟩
              · have HF : Hid (unb s = ([], 4)) := HNN.out (fun h => heq h.2)
                have hbs3 : (blockL acc == s) = false := by simpa using heq
                clear HYY HNN hbo heq
                generalize blockL acc = B at hbs3
                go_wp2
                go_ret2
                exact unbR_lit HF.out q7 l7
          · have h0i : ((N : Int) == 0) = false := beq_eq_false_iff_ne.2 (by omega)
            by_cases hbad : 3000 < N ∨ L < a + 4 + N ∨ 200 ≤ acc.length
            · have HF : Hid (unb s = ([], 3)) := H3.out (by rw [← HW.out]; exact walkR_bad (by rw [HLE.out]; omega) (by rw [HNE.out]; exact h0) (by rw [HNE.out, HLE.out]; exact hbad))
              clear HW
              by_cases h3 : (3000 : Int) < (N : Int)
              · clear hbad
                go_wp2
                refine wp_region_over (by kernel_rfl) (by kernel_rfl) ?_
                repeat (go_big_quiet_step (fail))
                refine wpQuiet_nil ?_
                rintro w6 ⟨⟨wz, b6⟩, hw6⟩
                subst hw6
                have q6 := hQ2.trans (b6.mono hQ2.size)
                have l6 : Below (w.heap.size + 1) (w.alloc (.cells #[] 9)) w6 := hbl.trans (b6.mono (by omega))
                clear e0 e1 e2 e3 d0 d1 d2 d3 hne
                go_wp2
                go_ret2
                exact unbR_lit HF.out q6 l6
              · by_cases h5 : (L : Int) - ((a : Int) + 4) < (N : Int)
                · clear hbad
                  go_wp2
                  refine wp_region_over (by kernel_rfl) (by kernel_rfl) ?_
                  repeat (go_big_quiet_step (fail))
                  refine wpQuiet_nil ?_
                  rintro w6 ⟨⟨wz, b6⟩, hw6⟩
                  subst hw6
                  have q6 := hQ2.trans (b6.mono hQ2.size)
                  have l6 : Below (w.heap.size + 1) (w.alloc (.cells #[] 9)) w6 := hbl.trans (b6.mono (by omega))
                  clear e0 e1 e2 e3 d0 d1 d2 d3 hne
                  go_wp2
                  go_ret2
                  exact unbR_lit HF.out q6 l6
                · have h2i : (200 : Int) ≤ (acc.length : Int) := by omega
                  clear hbad
                  go_wp2
                  refine wp_region_over (by kernel_rfl) (by kernel_rfl) ?_
                  repeat (go_big_quiet_step (fail))
                  refine wpQuiet_nil ?_
                  rintro w6 ⟨⟨wz, b6⟩, hw6⟩
                  subst hw6
                  have q6 := hQ2.trans (b6.mono hQ2.size)
                  have l6 : Below (w.heap.size + 1) (w.alloc (.cells #[] 9)) w6 := hbl.trans (b6.mono (by omega))
                  clear e0 e1 e2 e3 d0 d1 d2 d3 hne
                  go_wp2
                  go_ret2
                  exact unbR_lit HF.out q6 l6
            · have hN3 : ¬ (3000 : Int) < (N : Int) := by omega
              have hN5 : ¬ (L : Int) - ((a : Int) + 4) < (N : Int) := by omega
              have hacc2 : ¬ (200 : Int) ≤ (acc.length : Int) := by omega
              have hNl : a + 4 + N ≤ L := by omega
              obtain ⟨r, hr⟩ : ∃ r, (S.drop (a + 4)).take N = r := ⟨_, rfl⟩
              have hrl : r.length = N := by rw [← hr, List.length_take, List.length_drop, HLE.out]; omega
              have hs := fun W => sl_lh (g := ga) (o := 0) (n := L) (c := ca) (x := (a : Int) + 4) (y := (a : Int) + 4 + (N : Int)) (a + 4) (a + 4 + N) (by omega) (by omega) (by omega) (by omega) (by omega) W
              rw [Nat.zero_add, Nat.add_sub_cancel_left] at hs
              have HWN : Hid (walkR S f' (a + 4 + N) (acc ++ [r]) = o) := by
                rw [Hid, ← HW.out, walkR_go (by rw [HLE.out]; omega) (by rw [HNE.out]; exact h0) (by rw [HNE.out, HLE.out]; exact hbad), HNE.out, hr]
              have HTX : Hid (∀ W', Row W' ga S → ∀ (j : Nat) (x : UInt8), r[j]? = some x → W'.cell? ⟨ga, a + 4 + j, none⟩ = some (.int .u8 (x.toNat : Int))) := by
                intro W' hW' j x hx
                have hj := (List.getElem?_eq_some_iff.1 hx).1
                refine hW'.cell _ x ?_
                rw [← hr, List.getElem?_take, if_pos (by omega), List.getElem?_drop] at hx
                exact hx
              have hN1 : 1 ≤ N := by omega
              have HRL : Hid (r.length = N) := hrl
              clear hr hrl HW hbad h0 HNE
              go_wp2
              refine wp_region_over (by kernel_rfl) (by kernel_rfl) ?_
              repeat (go_big_quiet_step (fail))
              refine wpQuiet_nil ?_
              rintro w6 ⟨⟨wz, b6⟩, hw6⟩
              subst hw6
              have q6 := hQ2.trans (b6.mono hQ2.size)
              have l6 : Below (w.heap.size + 1) (w.alloc (.cells #[] 9)) w6 := hbl.trans (b6.mono (by omega))
              clear e0 e1 e2 e3 d0 d1 d2 d3 hne
              have ht := text_at (w := w6) (g := ga) (o := a + 4) (c := ca - (a + 4)) (l := r) (HTX.out _ (HRW.out.below b6))
              rw [HRL.out] at ht
              have HO6 : Hid (w6.ownsRow W.heap.size 9 1 (.slice va acc.length vc) acc.length (scells acc)) := keepRowS HOW.out b6
              have b6x := hbx.trans (b6.mono hbs2)
              have hs6 := b6x.size
              clear HOW
              go_wp2_with (at_builtin; refine wpList_append_own _ rfl (.tmp 115) (.tmp 123) 79 rfl W.heap.size 9 j0 (.string ⟨#[]⟩) 1 16 Tryz.underlying79 ji jz0 jz1 jz2 rfl (by decide) _ _ _ rfl (HO6.out.alloc _) ⟨w6.heap.size, 0, none⟩ 1 1 [.string ⟨r.toArray⟩] rfl rfl (one_txt (by simp [go_sem])) (one_oneS r) (by unfold maxLen; omega) (by omega) (by simp; omega) ?_; intro v8 w8 o8 g8 _)
              have q8 : Below W.heap.size W w8 := (b6x.alloc hs6 _).grown g8 (by simp; omega) HLT.out
              have HR8 : Hid (w8.ownsRow W.heap.size 9 1 v8 (acc ++ [r]).length (scells (acc ++ [r]))) := by rw [Hid, scells_append, List.length_append]; exact o8
              clear o8 g8 HO6
              go_wp2
              go_roundw
              case rel =>
                refine ⟨_, f', a + 4 + N, acc ++ [r], rfl, by omega, by go_num, HWN.out, by omega, by simp; omega, fun x hx => ?_, HR8.out, q8⟩
                rcases List.mem_append.1 hx with h | h
                · exact HAC.out x h
                · obtain rfl : x = r := by simpa using h
                  have := HRL.out
                  omega
              case measure => simp [intOf]; omega
        · have h4i : (L : Int) - (a : Int) < 4 := by omega
          have HN : Hid (unb s = ([], 3)) := H3.out (by rw [← hw]; exact walkR_short (by rw [HLE.out]; omega))
          go_wp2
          go_ret2
          exact unbR_lit HN.out hQ2 hbl

end Go.Proofs.YtbncdhfmhokgeaaGreatDoor
