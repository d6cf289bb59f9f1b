/- The program's SwitchLine: the sort, the five words, the line. -/
import Derived.Test.YtpenkpiffdbdmaaGreatDoorJS4a
import Derived.Test.YtpenkpiffdbdmaaGreatDoorKSSwM2
import Derived.Test.YtpenkpiffdbdmaaGreatDoorJS3a
namespace Go.Proofs.YtpenkpiffdbdmaaGreatDoor
open Go.RowKit
set_option maxRecDepth 100000

theorem wfI_of {n : Int} (h0 : -9223372036854775808 ≤ n) (h1 : n ≤ 9223372036854775807) : wfI n := by
  unfold wfI Lit.wf; simp [IntKind.min, IntKind.max, IntKind.signed, IntKind.bits]; omega
theorem swCode_wf {kd : Int} {fs : List Fld} : wfI (swCode kd fs) := by
  unfold swCode
  split
  · exact wfI_of (by omega) (by omega)
  · have := @sw_num (swD fs 24); unfold swN; exact wfI_of (by omega) (by omega)
theorem sw_itoa_len {n : Int} (h0 : -1 ≤ n) (h1 : n < 1000000000000000000) : (Lib.itoa n).length ≤ 1048576 := by
  have := Lib.itoa_length_le n (by omega) (by omega); omega
/-- the five words, and how long they are -/
theorem swOut_words {k : Nat} {fs tg : List Fld} (hd : sumF fs ≤ 1048576) (ht : ∀ f ∈ tg, f.2.length ≤ 1000) : ∃ a b c d f, (swOut k fs tg).1 = [a, b, c, d, f] ∧ a.length ≤ 1048576 ∧ b.length ≤ 1048576 ∧ c.length ≤ 1048576 ∧ d.length ≤ 1048576 ∧ f.length ≤ 1048576 := by
  have hN := fun n => sw_itoa_len (@sw_num (swD fs n)).1 (@sw_num (swD fs n)).2
  have hA := fun n => sw_itoa_len (@sw_num (Lib.trimLeftB (swD fs n) 48)).1 (@sw_num (Lib.trimLeftB (swD fs n) 48)).2
  have hC := sw_itoa_len (@sw_num (swT tg 1)).1 (@sw_num (swT tg 1)).2
  have hD : (swD fs 37).length ≤ 1048576 := sw_len hd
  have hW : (swW tg).length ≤ 1048576 := by
    unfold swW; split
    · have := sw_tlen (n := 2) ht; omega
    · simp
  unfold swOut
  split
  · exact ⟨_, _, _, _, _, rfl, by decide, hD, hA 2, hN 49, hN 4⟩
  · exact ⟨_, _, _, _, _, rfl, by decide, hA 2, hA 93, hN 49, hN 4⟩
  · exact ⟨_, _, _, _, _, rfl, by decide, hC, by decide, hN 4, by decide⟩
  · exact ⟨_, _, _, _, _, rfl, by decide, hC, by decide, hN 4, hN 25⟩
  · exact ⟨_, _, _, _, _, rfl, by decide, hC, by decide, hN 4, by decide⟩
  · exact ⟨_, _, _, _, _, rfl, by decide, hC, by decide, by decide, by decide⟩
  · exact ⟨_, _, _, _, _, rfl, by decide, hC, by decide, by decide, by decide⟩
  · exact ⟨_, _, _, _, _, rfl, by decide, hC, hW, hN 4, by decide⟩
/-- whatever the sort: the function of the sort reads the five words -/
theorem swWords_all {V : World} {kd : Int} {ao : Option Addr} {cap : Nat} {fs : List Fld} {tao : Option Addr} {tc : Nat} {tg : List Fld} (E : SwE V ao fs tao tg) {k : Nat} (hk : k < 8) {a b c d f : List UInt8} (ho : (swOut k fs tg).1 = [a, b, c, d, f]) (u : World) (R : SwR V kd ao cap fs tao tc tg false false u) :
    Calls Tryz.prog (swF k) #[.pointer (some ⟨V.heap.size, 0, none⟩)] u (SwW V kd ao cap fs tao tc tg (swOut k fs tg).2.1 (swOut k fs tg).2.2 a b c d f) := by
  rcases (show k = 0 ∨ k = 1 ∨ k = 2 ∨ k = 3 ∨ k = 4 ∨ k = 5 ∨ k = 6 ∨ k = 7 by omega) with rfl | rfl | rfl | rfl | rfl | rfl | rfl | rfl
  all_goals
    obtain ⟨rfl, rfl, rfl, rfl, rfl⟩ : _ = a ∧ _ = b ∧ _ = c ∧ _ = d ∧ _ = f := by simpa only [swOut, List.cons.injEq, and_true] using ho
  · exact (swAuth_any E u R).mono fun e u' h => h.flags (by simp [swOut]) (by simp [swOut])
  · exact (swPay_any E u R).mono fun e u' h => h.flags (by simp [swOut]) (by simp [swOut])
  · exact (swAnswer_any E u R).mono fun e u' h => h.flags (by simp [swOut]) (by simp [swOut])
  · exact (swCharge_any E u R).mono fun e u' h => h.flags (by simp [swOut]) (by simp [swOut])
  · exact (swSecond_any E u R).mono fun e u' h => h.flags (by simp [swOut]) (by simp [swOut])
  · exact (swAsk_any E u R).mono fun e u' h => h.flags (by simp [swOut]) (by simp [swOut])
  · exact (swGive_any E u R).mono fun e u' h => h.flags (by simp [swOut]) (by simp [swOut])
  · exact (swVerdict_any E u R).mono fun e u' h => h.flags (by simp [swOut]) (by simp [swOut])
theorem swJoin_len {a b c d f : List UInt8} (ha : a.length ≤ 1048576) (hb : b.length ≤ 1048576) (hc : c.length ≤ 1048576) (hd : d.length ≤ 1048576) (hf : f.length ≤ 1048576) : (swJoin [a, b, c, d, f]).length ≤ 140737488355328 := by
  unfold swJoin; rw [Lib.join_cons]; simp [Lib.joinTail]; omega
theorem sw_five {u : World} {g : Nat} {a b c d f : List UInt8} (h : u.cell? ⟨g, 0, none⟩ = some (.string ⟨a.toArray⟩) ∧ u.cell? ⟨g, 1, none⟩ = some (.string ⟨b.toArray⟩) ∧ u.cell? ⟨g, 2, none⟩ = some (.string ⟨c.toArray⟩) ∧ u.cell? ⟨g, 3, none⟩ = some (.string ⟨d.toArray⟩) ∧ u.cell? ⟨g, 4, none⟩ = some (.string ⟨f.toArray⟩)) :
    ∀ (j : Nat) x, ([⟨a.toArray⟩, ⟨b.toArray⟩, ⟨c.toArray⟩, ⟨d.toArray⟩, ⟨f.toArray⟩] : List ByteArray)[j]? = some x → u.cell? ⟨g, 0 + j, none⟩ = some (.string x) := by
  obtain ⟨h0, h1, h2, h3, h4⟩ := h
  intro j x hj
  rw [Nat.zero_add]
  match j, hj with
  | 0, hj => simp at hj; subst hj; exact h0
  | 1, hj => simp at hj; subst hj; exact h1
  | 2, hj => simp at hj; subst hj; exact h2
  | 3, hj => simp at hj; subst hj; exact h3
  | 4, hj => simp at hj; subst hj; exact h4
  | n + 5, hj => simp at hj

set_option maxHeartbeats 1600000 in
theorem iSwitchLine_any (kd : Int) (ao : Option Addr) (cap : Nat) (fs : List Fld) (w : World) (hk : wfI kd) (hz : FldsAt w ao fs) (hn : fs.length ≤ 1048576) (hd : sumF fs ≤ 1048576) (hT : Tg.Pow10 w)
    (hp : Lib.TabIs Tryz.prog w "internal/strconv.uint64pow10" .u64 Lib.pow10Tab) (hw : ∀ k, k < 10 → w.cell? ⟨0, k, none⟩ = some (.string ⟨(nthW k).toArray⟩)) :
    Calls Tryz.prog 7 #[.agg #[.int .i64 kd, .slice ao fs.length cap]] w fun e w' => e = .returned (.tuple #[.string ⟨(swAns kd fs).1.toArray⟩, .int .i64 (swAns kd fs).2]) ∧ Below w.heap.size w w' := by
  have bel1 : Below w.heap.size w (w.alloc (.cells #[.int .i64 kd, .slice ao fs.length cap] 30)) := (Below.refl _ _).alloc (Nat.le_refl _) _
  have HSO : Hid (Calls Tryz.prog 21 #[.agg #[.int .i64 kd, .slice ao fs.length cap]] (w.alloc (.cells #[.int .i64 kd, .slice ao fs.length cap] 30)) fun e w' => e = .returned (.agg #[.int .i64 kd, .int .i64 (swCode kd fs)]) ∧ Below (w.alloc (.cells #[.int .i64 kd, .slice ao fs.length cap] 30)).heap.size (w.alloc (.cells #[.int .i64 kd, .slice ao fs.length cap] 30)) w') := swSortOf_any kd ao cap fs _ (hz.below bel1) hn hd
  have HWO : Hid (∀ v, Calls Tryz.prog 20 #[.agg #[.int .i64 kd, .int .i64 (swCode kd fs)]] v fun e w' => ∃ x, e = .returned (.tuple #[x, .bool (swSort kd (swCode kd fs)).isSome]) ∧ (∀ k, swSort kd (swCode kd fs) = some k → x = .func (.func (swF k)) #[] #[]) ∧ Below v.heap.size v w') := fun v => swWords_any kd _ v hk swCode_wf
  have HMO : Hid (∀ v, Below w.heap.size w v → Calls Tryz.prog 22 #[.agg #[.int .i64 kd, .slice ao fs.length cap]] v fun e w' => e = .returned (.bool (msgOk kd fs)) ∧ Below v.heap.size v w') := fun v b => iMessageOk_any kd ao cap fs v (hz.below b) hn hd
  have HNR : Hid (∀ v, Below w.heap.size w v → Calls Tryz.prog 23 #[.agg #[.int .i64 kd, .slice ao fs.length cap]] v fun e w' => ∃ V tao tc, e = .returned (.pointer (some ⟨V.heap.size, 0, none⟩)) ∧ SwE V ao fs tao (swTg fs) ∧ SwR V kd ao cap fs tao tc (swTg fs) false false w' ∧ Below v.heap.size v V) := fun v b => swNew_any kd ao cap fs v (hz.below b) hn hd (hT.below b) (Lib.tabBelow_of_tabIs hp _ b) fun k hk => by rw [b.cell (p := ⟨0, k, none⟩) (World.block_lt_of_cell? w _ (hw k hk))]; exact hw k hk
  have HD : Hid (sumF fs ≤ 1048576) := hd
  have HAN : Hid (swAns kd fs = match swSort kd (swCode kd fs) with
    | none => ([], 1)
    | some k => if msgOk kd fs = true then (if (swOut k fs (swTg fs)).2.1 = true then ([], 2) else if (swOut k fs (swTg fs)).2.2 = true then ([], 3) else (swJoin (swOut k fs (swTg fs)).1, 0)) else ([], 1)) := rfl
  obtain ⟨A, hA⟩ : ∃ x, swAns kd fs = x := ⟨_, rfl⟩
  rw [hA] at HAN ⊢
  obtain ⟨S, hS⟩ : ∃ x, swSort kd (swCode kd fs) = x := ⟨_, rfl⟩
  rw [hS] at HAN HWO
  have HK8 : Hid (∀ k, S = some k → k < 8) := fun k h => (swSort_key (hS.trans h)).1
  obtain ⟨C, hC⟩ : ∃ x, swCode kd fs = x := ⟨_, rfl⟩
  rw [hC] at HSO HWO
  obtain ⟨M, hM⟩ : ∃ x, msgOk kd fs = x := ⟨_, rfl⟩
  rw [hM] at HMO HAN
  clear hA hS hC hM hk hz hn hd hT hp hw
  go_enter Tryz.func7, Tryz.ntmps7
  go_wp2_with fail
  refine HSO.out.mono ?_
  rintro e u1 ⟨rfl, b1⟩
  obtain ⟨c0, c1, q1, -⟩ := box2 b1
  have HB1 : Hid (Below w.heap.size w u1) := q1
  clear b1 q1 bel1
  go_wp2_with fail
  refine (HWO.out u1).mono ?_
  rintro e u2 ⟨x, rfl, hx, b2⟩
  obtain ⟨d0, d1⟩ := keep2 c0 c1 b2
  have HB2 : Hid (Below w.heap.size w u2) := next HB1.out b2
  have HX : Hid _ := hx
  clear c0 c1 b2 hx
  cases hs : S with
  | none =>
    have HE : Hid (A = ([], 1)) := by rw [Hid, HAN.out, hs]
    rw [show (none : Option Nat).isSome = false from rfl]
    clear HAN HX hs
    go_wp2
    go_ret2
    exact ⟨by rw [HE.out]; rfl, HB2.out⟩
  | some k =>
    have hk8 : k < 8 := HK8.out k hs
    have HXE := HX.out k hs
    subst HXE
    rw [hs] at HAN
    rw [show (some k : Option Nat).isSome = true from rfl]
    clear HX hs
    go_wp2_with fail
    refine (HMO.out u2 HB2.out).mono ?_
    rintro e u3 ⟨rfl, b3⟩
    obtain ⟨e0, e1⟩ := keep2 d0 d1 b3
    have HB3 : Hid (Below w.heap.size w u3) := next HB2.out b3
    clear d0 d1 b3
    cases M
    · have HE : Hid (A = ([], 1)) := by rw [Hid, HAN.out]; rfl
      clear HAN
      go_wp2
      go_ret2
      exact ⟨by rw [HE.out]; rfl, HB3.out⟩
    · have HE0 := HAN.out
      simp only [if_true] at HE0
      have HE : Hid _ := HE0
      clear HAN HE0
      go_wp2_with fail
      refine (HNR.out u3 HB3.out).mono ?_
      rintro e u4 ⟨V, tao, tc, rfl, hE, hR, hB⟩
      obtain ⟨a, b, c, d, f, ho, la, lb, lc, ld, lf⟩ := swOut_words (k := k) (fs := fs) (tg := swTg fs) HD.out hE.he
      have HJ : Hid ((swJoin [a, b, c, d, f]).length ≤ 140737488355328) := swJoin_len la lb lc ld lf
      have HWA : Hid (Calls Tryz.prog (swF k) #[.pointer (some ⟨V.heap.size, 0, none⟩)] u4 (SwW V kd ao cap fs tao tc (swTg fs) (swOut k fs (swTg fs)).2.1 (swOut k fs (swTg fs)).2.2 a b c d f)) := swWords_all hE hk8 ho u4 hR
      rw [ho] at HE
      obtain ⟨nf, hnf⟩ : ∃ x, (swOut k fs (swTg fs)).2.1 = x := ⟨_, rfl⟩
      obtain ⟨nt, hnt⟩ : ∃ x, (swOut k fs (swTg fs)).2.2 = x := ⟨_, rfl⟩
      rw [hnf, hnt] at HWA HE
      have HBV : Hid (Below w.heap.size w V) := next HB3.out hB
      obtain ⟨F, hF⟩ : ∃ x, swF k = x := ⟨_, rfl⟩
      rw [hF] at HWA ⊢
      clear la lb lc ld lf ho hnf hnt hE hR hB e0 e1
      have hF8 : F = 35 ∨ F = 36 ∨ F = 37 ∨ F = 38 ∨ F = 39 ∨ F = 40 ∨ F = 41 ∨ F = 42 := by
        rw [← hF]
        rcases (show k = 0 ∨ k = 1 ∨ k = 2 ∨ k = 3 ∨ k = 4 ∨ k = 5 ∨ k = 6 ∨ k = 7 by omega) with rfl | rfl | rfl | rfl | rfl | rfl | rfl | rfl <;> simp [swF]
      clear hF hk8
      rcases hF8 with rfl | rfl | rfl | rfl | rfl | rfl | rfl | rfl
      all_goals
        go_wp2_with fail
        refine HWA.out.mono ?_
        rintro e u5 ⟨g, rfl, h5, hR5⟩
        have HR5 : Hid (SwR V kd ao cap fs tao tc (swTg fs) nf nt u5) := hR5
        have hlt : g < u5.heap.size := World.block_lt_of_cell? u5 _ h5.1
        have HJO : Hid (Calls Tryz.prog 24 #[.slice (some ⟨g, 0, none⟩) 5 5, .string ⟨#[32]⟩] u5 fun e w' => e = .returned (.string ⟨(swJoin [a, b, c, d, f]).toArray⟩) ∧ Below u5.heap.size u5 w') := Tryz.strings_Join g 0 5 [⟨a.toArray⟩, ⟨b.toArray⟩, ⟨c.toArray⟩, ⟨d.toArray⟩, ⟨f.toArray⟩] ⟨#[32]⟩ u5 (sw_five h5) hlt (by simp) (by simp) HJ.out
        obtain ⟨J, hJ⟩ : ∃ x, swJoin [a, b, c, d, f] = x := ⟨_, rfl⟩
        rw [hJ] at HJO HE
        clear h5 hR5 hlt hJ
        go_wp2_with fail
        refine HJO.out.mono ?_
        rintro e u6 ⟨rfl, b6⟩
        have HR6 : Hid (SwR V kd ao cap fs tao tc (swTg fs) nf nt u6) := HR5.out.below b6
        clear b6
        go_wp2_with fail
        refine (swCode_any HR6.out).mono ?_
        rintro e u7 ⟨rfl, hu⟩
        subst hu
        have HBE : Hid (Below w.heap.size w u7) := HBV.out.trans (HR6.out.hb.mono HBV.out.size)
        cases nf
        · cases nt
          · go_wp2
            go_ret2
            exact ⟨by rw [HE.out]; rfl, HBE.out⟩
          · go_wp2
            go_ret2
            exact ⟨by rw [HE.out]; rfl, HBE.out⟩
        · go_wp2
          go_ret2
          exact ⟨by rw [HE.out]; rfl, HBE.out⟩

end Go.Proofs.YtpenkpiffdbdmaaGreatDoor
