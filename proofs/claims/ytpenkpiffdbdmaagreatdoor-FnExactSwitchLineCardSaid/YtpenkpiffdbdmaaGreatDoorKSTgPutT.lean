/- The contracts of PutTags, the program's and the specification's. -/
import Derived.Test.YtpenkpiffdbdmaaGreatDoorKSTgSTagsOk
namespace Go.Proofs.YtpenkpiffdbdmaaGreatDoor.Tg
open Go.RowKit

theorem iPad_is {x n : Int} {q : List UInt8} (hq : padT x n = q) (w : World) (ht : Pow10 w) :
    Calls Tryz.prog 96 #[.int .i64 x, .int .i64 n] w fun e w' => e = .returned (.string ⟨q.toArray⟩) ∧ Below w.heap.size w w' := by
  rw [← hq]; exact iPadNum_any x n w ht
theorem sPad_is {x n : Int} {q : List UInt8} (hq : padT x n = q) (w : World) :
    Calls Tryz.prog 86 #[.int .i64 x, .int .i64 n] w fun e w' => e = .returned (.string ⟨q.toArray⟩) ∧ Below w.heap.size w w' := by
  rw [← hq]; exact sPadNum_any x n w
theorem putTs_bd {fs : List Fld} (h : tagsOk fs = true) (k : Nat) : (putTs (fs.take k)).length ≤ 14160 := by
  obtain ⟨h1, h2⟩ := tagsOk_parts h
  have h3 := putTs_le (fs := fs.take k) (fun f hf => (tagOne_parts (okT_mem h2 f (List.mem_of_mem_take hf)).1).2.1)
  have h4 : (fs.take k).length ≤ 60 := by rw [List.length_take]; omega
  omega

set_option maxRecDepth 100000 in
set_option maxHeartbeats 1600000 in
theorem putTag_any (n : Int) (d : List UInt8) (w : World) (hl : d.length ≤ 1000000) (ht : Pow10 w) :
    Calls Tryz.prog 82 #[.agg #[.int .i64 n, .string ⟨d.toArray⟩]] w fun e w' => e = .returned (.string ⟨(putT (n, d)).toArray⟩) ∧ Below w.heap.size w w' := by
  obtain ⟨p, hp⟩ : ∃ p, padT n 4 = p := ⟨_, rfl⟩
  obtain ⟨q, hq⟩ : ∃ q, padT (d.length : Int) 3 = q := ⟨_, rfl⟩
  have hpl : p.length ≤ 18 := by rw [← hp]; exact padT_le _ _
  have hql : q.length ≤ 18 := by rw [← hq]; exact padT_le _ _
  have HE : Hid (putT (n, d) = p ++ q ++ d) := by unfold putT; simp only; rw [Hid, hp, hq]
  have HP : Hid _ := hp
  have HQ : Hid _ := hq
  have ht1 : Pow10 (w.alloc (.cells #[.int .i64 n, .string ⟨d.toArray⟩] 94)) := ht.below (by go_grown)
  have HT : Hid (∀ z : Over (w.alloc (.cells #[.int .i64 n, .string ⟨d.toArray⟩] 94)), Pow10 z.x) := fun z => ht1.below z.h
  have hne := over_ne (w.alloc (.cells #[.int .i64 n, .string ⟨d.toArray⟩] 94))
  have g1 := over_cell (W := w.alloc (.cells #[.int .i64 n, .string ⟨d.toArray⟩] 94)) (a := ⟨w.heap.size, 0, none⟩) (v := .int .i64 n) (by simp)
  have g2 := over_cell (W := w.alloc (.cells #[.int .i64 n, .string ⟨d.toArray⟩] 94)) (a := ⟨w.heap.size, 1, none⟩) (v := .string ⟨d.toArray⟩) (by simp)
  have H1 : Hid (∀ z : Over (w.alloc (.cells #[.int .i64 n, .string ⟨d.toArray⟩] 94)), Calls Tryz.prog 96 #[.int .i64 n, .int .i64 4] z.x fun e w'' => e = .returned (.string ⟨p.toArray⟩) ∧ ∃ y : Over (w.alloc (.cells #[.int .i64 n, .string ⟨d.toArray⟩] 94)), w'' = y.x) := fun z => over_of (iPad_is hp _ (HT.out z))
  have H2 : Hid (∀ z : Over (w.alloc (.cells #[.int .i64 n, .string ⟨d.toArray⟩] 94)), Calls Tryz.prog 96 #[.int .i64 d.length, .int .i64 3] z.x fun e w'' => e = .returned (.string ⟨q.toArray⟩) ∧ ∃ y : Over (w.alloc (.cells #[.int .i64 n, .string ⟨d.toArray⟩] 94)), w'' = y.x) := fun z => over_of (iPad_is hq _ (HT.out z))
  clear hp hq ht ht1 HP HQ HT
  go_enter Tryz.func82, Tryz.ntmps82
  go_wp2
  refine wp_region_over (by kernel_rfl) (by kernel_rfl) ?_
  repeat (go_big_quiet_step (first | with_reducible exact H1.out _ | with_reducible exact H2.out _))
  refine wpQuiet_nil ?_
  rintro _ ⟨⟨w2, b2⟩, hw2⟩
  subst hw2
  go_wp2
  go_ret
  exact ⟨one_str (by rw [HE.out, ba_append, ba_append]), Below.trans (by go_grown) (b2.mono (by simp))⟩

set_option maxRecDepth 100000 in
set_option maxHeartbeats 1600000 in
theorem iPutTags_any (ao : Option Addr) (cap : Nat) (fs : List Fld) (w : World) (hz : FldsAt w ao fs) (hn : fs.length ≤ 4194304) (hd : ∀ f ∈ fs, f.2.length ≤ 1099511627776) (ht : Pow10 w) :
    Calls Tryz.prog 67 #[.slice ao fs.length cap] w fun e w' => e = .returned (.tuple #[.string ⟨(putL fs).toArray⟩, .bool (putOk fs)]) ∧ Below w.heap.size w w' := by
  have HT : Hid (Pow10 w) := ht
  clear ht
  cases hok : tagsOk fs
  · have HN : Hid _ := putOk_no hok
    go_enter Tryz.func67, Tryz.ntmps67
    go_wp2_with fail
    refine (iTagsOk_any _ _ _ _ hz hn hd).mono ?_
    rintro e w1 ⟨rfl, b1⟩
    rw [hok]
    clear hok
    go_wp2
    go_ret2
    exact ⟨str_ok (by rw [putL_no HN.out]) HN.out.symm, b1⟩
  have HK : Hid _ := hok
  have HBD : Hid (∀ k, (putTs (fs.take k)).length ≤ 14160) := putTs_bd hok
  have HD : Hid (∀ f ∈ fs, f.2.length ≤ 200) := fun f hf => (tagOne_parts (okT_mem (tagsOk_parts hok).2 f hf).1).2.1
  have HFIN : Hid (∀ u : World, Below w.heap.size w u → ∀ e, e = Ending.returned (.tuple #[.string ⟨(putL fs).toArray⟩, .bool (putOk fs)]) → e = Ending.returned (.tuple #[.string ⟨(putL fs).toArray⟩, .bool (putOk fs)]) ∧ Below w.heap.size w u) := fun u hu e he => ⟨he, hu⟩
  go_enter Tryz.func67, Tryz.ntmps67
  go_wp2_with fail
  refine (iTagsOk_any _ _ _ _ hz hn hd).mono ?_
  rintro e w1 ⟨rfl, b1⟩
  rw [HK.out]
  have z1 := hz.below b1
  clear hok hz hd
  have HEND : Hid (∀ L : List UInt8, putTs fs = L → 999 < L.length → putL fs = [] ∧ putOk fs = false) := fun L hL h => by
    have := putOk_big (fs := fs) (by rw [hL]; omega)
    exact ⟨putL_no this, this⟩
  have HENY : Hid (∀ L : List UInt8, putTs fs = L → ¬ 999 < L.length → putL fs = L ∧ putOk fs = true) := fun L hL h => by
    have := putOk_yes HK.out (by rw [hL]; omega)
    exact ⟨by rw [putL_yes this, hL], this⟩
  rcases z1 with rfl | ⟨b, off, rfl, hb, hcell⟩
  · go_wp2
    refine wp_loop_rounds 1 ?_
    rw [rounds_succ]
    go_wp2
    go_ret2
    obtain ⟨e1, e2⟩ := HENY.out [] rfl (by simp)
    exact ⟨str_ok (by rw [e1]) e2.symm, b1⟩
  have HC : Hid (∀ i, i < fs.length → w1.cell? ⟨b, off + i * 2, none⟩ = some (.int .i64 (at0 fs i).1) ∧ w1.cell? ⟨b, off + i * 2 + 1, none⟩ = some (.string ⟨(at0 fs i).2.toArray⟩)) := hcell
  clear hcell
  go_wp2
  go_loopw [4, 12] (fun o i wr => ∃ k : Nat, k ≤ fs.length ∧ i = .int .i64 k ∧ o = .string ⟨(putTs (fs.take k)).toArray⟩ ∧ Below w1.heap.size w1 wr) (fun _ i _ => fs.length - (intOf i).toNat)
  case atStart => exact ⟨0, Nat.zero_le _, rfl, rfl, Below.refl _ _⟩
  case round =>
    obtain ⟨k, hk, rfl, rfl, hbr⟩ := hrel
    by_cases hlt : k < fs.length
    · have c1 : wr.cell? ⟨b, off + k * 2, none⟩ = some (.int .i64 (at0 fs k).1) := (hbr.cell (p := ⟨b, off + k * 2, none⟩) hb).trans (HC.out k hlt).1
      have c2 : wr.cell? ⟨b, off + k * 2 + 1, none⟩ = some (.string ⟨(at0 fs k).2.toArray⟩) := (hbr.cell (p := ⟨b, off + k * 2 + 1, none⟩) hb).trans (HC.out k hlt).2
      have hki : (k : Int) < (fs.length : Int) := by omega
      have hst := putTs_take fs k hlt
      have hl := HD.out _ (at0_mem hlt)
      have hbd := HBD.out k
      have hpw : Pow10 wr := HT.out.below (next b1 hbr)
      obtain ⟨⟨n, s⟩, hf⟩ : ∃ f, at0 fs k = f := ⟨_, rfl⟩
      rw [hf] at c1 c2 hst hl
      simp only at c1 c2 hl
      have hpl := putT_le (n, s)
      simp only at hpl
      have HST : Hid _ := hst
      have hpw2 : Pow10 (wr.alloc (.cells #[.int .i64 n, .string ⟨s.toArray⟩] 94)) := hpw.below (by go_grown)
      generalize putTs (fs.take k) = T at hbd HST
      have HPW : Hid _ := hpw2
      clear hf hst hpw hpw2
      go_wp2_with fail
      refine (putTag_any n s _ (by omega) HPW.out).mono ?_
      rintro e w2 ⟨rfl, b2⟩
      generalize putT (n, s) = U at hpl HST
      have bb : Below w1.heap.size w1 w2 := (hbr.alloc hbr.size _).trans (b2.mono (by have := hbr.size; simp; omega))
      clear b2 HPW
      go_wp2
      go_roundw
      case rel => exact ⟨k + 1, by omega, by go_num, by rw [HST.out, ba_append], bb⟩
      case measure => simp [intOf]; omega
    · have hke : k = fs.length := by omega
      subst hke
      have hbd := HBD.out fs.length
      have hbb := next b1 hbr
      rw [List.take_length] at hbd ⊢
      obtain ⟨L, hL⟩ : ∃ L, putTs fs = L := ⟨_, rfl⟩
      rw [hL] at hbd ⊢
      have HL : Hid _ := hL
      clear hL
      by_cases hbig : 999 < L.length
      · have hb9 : (999 : Int) < (L.length : Int) := by omega
        obtain ⟨e1, e2⟩ := HEND.out L HL.out hbig
        have E1 : Hid _ := e1
        have E2 : Hid _ := e2
        clear e1 e2
        go_wp2
        go_ret2
        exact ⟨str_ok (by rw [E1.out]) E2.out.symm, hbb⟩
      · have hb9 : ¬ (999 : Int) < (L.length : Int) := by omega
        obtain ⟨e1, e2⟩ := HENY.out L HL.out hbig
        have E1 : Hid _ := e1
        have E2 : Hid _ := e2
        clear e1 e2
        go_wp2
        go_ret2
        exact ⟨str_ok (by rw [E1.out]) E2.out.symm, hbb⟩

set_option maxRecDepth 100000 in
set_option maxHeartbeats 3200000 in
theorem sPutTags_any (ao : Option Addr) (cap : Nat) (fs : List Fld) (w : World) (hz : FldsAt w ao fs) (hn : fs.length ≤ 4194304) (hd : ∀ f ∈ fs, f.2.length ≤ 1099511627776) :
    Calls Tryz.prog 70 #[.slice ao fs.length cap] w fun e w' => e = .returned (.tuple #[.string ⟨(putL fs).toArray⟩, .bool (putOk fs)]) ∧ Below w.heap.size w w' := by
  cases hok : tagsOk fs
  · have HN : Hid _ := putOk_no hok
    go_enter Tryz.func70, Tryz.ntmps70
    go_wp2_with fail
    refine (sTagsOk_any _ _ _ _ hz hn hd).mono ?_
    rintro e w1 ⟨rfl, b1⟩
    rw [hok]
    clear hok
    go_wp2
    go_ret2
    exact ⟨str_ok (by rw [putL_no HN.out]) HN.out.symm, b1⟩
  have HK : Hid _ := hok
  have HBD : Hid (∀ k, (putTs (fs.take k)).length ≤ 14160) := putTs_bd hok
  have HD : Hid (∀ f ∈ fs, f.2.length ≤ 200) := fun f hf => (tagOne_parts (okT_mem (tagsOk_parts hok).2 f hf).1).2.1
  have HBIG : Hid (∀ k, 999 < (putTs (fs.take k)).length → putL fs = [] ∧ putOk fs = false) := fun k h => by
    have h2 := putTs_mono fs k
    have := putOk_big (fs := fs) (by omega)
    exact ⟨putL_no this, this⟩
  have HENY : Hid (∀ L : List UInt8, putTs fs = L → ¬ 999 < L.length → putL fs = L ∧ putOk fs = true) := fun L hL h => by
    have := putOk_yes hok (by rw [hL]; omega)
    exact ⟨by rw [putL_yes this, hL], this⟩
  go_enter Tryz.func70, Tryz.ntmps70
  go_wp2_with fail
  refine (sTagsOk_any _ _ _ _ hz hn hd).mono ?_
  rintro e w1 ⟨rfl, b1⟩
  rw [HK.out]
  have z1 := hz.below b1
  clear hok hz hd
  rcases z1 with rfl | ⟨b, off, rfl, hb, hcell⟩
  · go_wp2
    refine wp_loop_rounds 1 ?_
    rw [rounds_succ]
    go_wp2
    go_ret2
    obtain ⟨e1, e2⟩ := HENY.out [] rfl (by simp)
    exact ⟨str_ok (by rw [e1]) e2.symm, b1⟩
  have HC : Hid (∀ i, i < fs.length → w1.cell? ⟨b, off + i * 2, none⟩ = some (.int .i64 (at0 fs i).1) ∧ w1.cell? ⟨b, off + i * 2 + 1, none⟩ = some (.string ⟨(at0 fs i).2.toArray⟩)) := hcell
  clear hcell
  go_wp2
  go_loopw [4, 5] (fun o i wr => ∃ k : Nat, k ≤ fs.length ∧ i = .int .i64 k ∧ o = .string ⟨(putTs (fs.take k)).toArray⟩ ∧ ¬ 999 < (putTs (fs.take k)).length ∧ Below w1.heap.size w1 wr) (fun _ i _ => fs.length - (intOf i).toNat)
  case atStart => exact ⟨0, Nat.zero_le _, rfl, rfl, by simp [putTs], Below.refl _ _⟩
  case round =>
    obtain ⟨k, hk, rfl, rfl, hsm, hbr⟩ := hrel
    by_cases hlt : k < fs.length
    · have c1 : wr.cell? ⟨b, off + k * 2, none⟩ = some (.int .i64 (at0 fs k).1) := (hbr.cell (p := ⟨b, off + k * 2, none⟩) hb).trans (HC.out k hlt).1
      have c2 : wr.cell? ⟨b, off + k * 2 + 1, none⟩ = some (.string ⟨(at0 fs k).2.toArray⟩) := (hbr.cell (p := ⟨b, off + k * 2 + 1, none⟩) hb).trans (HC.out k hlt).2
      have hki : (k : Int) < (fs.length : Int) := by omega
      have hst := putTs_take fs k hlt
      have hl := HD.out _ (at0_mem hlt)
      have hbg := HBIG.out (k + 1)
      obtain ⟨⟨n, s⟩, hf⟩ : ∃ f, at0 fs k = f := ⟨_, rfl⟩
      rw [hf] at c1 c2 hst hl
      simp only at c1 c2 hl
      obtain ⟨p, hp⟩ : ∃ p, padT n 4 = p := ⟨_, rfl⟩
      obtain ⟨q, hq⟩ : ∃ q, padT (s.length : Int) 3 = q := ⟨_, rfl⟩
      have hpl : p.length ≤ 18 := by rw [← hp]; exact padT_le _ _
      have hql : q.length ≤ 18 := by rw [← hq]; exact padT_le _ _
      have hu : putT (n, s) = p ++ q ++ s := by unfold putT; simp only; rw [hp, hq]
      rw [hst, hu] at hbg
      have HST : Hid (putTs (fs.take (k + 1)) = putTs (fs.take k) ++ (p ++ q ++ s)) := by rw [Hid, hst, hu]
      have HP : Hid _ := hp
      have HQ : Hid _ := hq
      obtain ⟨T, hT⟩ : ∃ T, putTs (fs.take k) = T := ⟨_, rfl⟩
      rw [hT] at hsm hbg HST ⊢
      have hne := over_ne wr
      have g1 := over_cell c1
      have g2 := over_cell c2
      have H1 : Hid (∀ z : Over wr, Calls Tryz.prog 86 #[.int .i64 n, .int .i64 4] z.x fun e w'' => e = .returned (.string ⟨p.toArray⟩) ∧ ∃ y : Over wr, w'' = y.x) := fun z => over_of (sPad_is hp _)
      have H2 : Hid (∀ z : Over wr, Calls Tryz.prog 86 #[.int .i64 s.length, .int .i64 3] z.x fun e w'' => e = .returned (.string ⟨q.toArray⟩) ∧ ∃ y : Over wr, w'' = y.x) := fun z => over_of (sPad_is hq _)
      clear hf hst hp hq hu hT HP HQ
      by_cases hbig : 999 < (T ++ (p ++ q ++ s)).length
      · obtain ⟨e1, e2⟩ := hbg hbig
        have E1 : Hid _ := e1
        have E2 : Hid _ := e2
        have hb9 : (999 : Int) < (T.length : Int) + (p.length : Int) + (q.length : Int) + (s.length : Int) := by simp at hbig; omega
        clear e1 e2 hbg hbig
        go_wp2
        refine wp_region_over (by kernel_rfl) (by kernel_rfl) ?_
        repeat (go_big_quiet_step (first | with_reducible exact H1.out _ | with_reducible exact H2.out _))
        refine wpQuiet_nil ?_
        rintro _ ⟨⟨w2, b2⟩, hw2⟩
        subst hw2
        have bb := next b1 (next hbr b2)
        clear b2 g1 g2
        go_wp2
        go_ret2
        exact ⟨str_ok (by rw [E1.out]) E2.out.symm, bb⟩
      · have HSM : Hid (¬ 999 < (T ++ (p ++ q ++ s)).length) := hbig
        have hb9 : ¬ (999 : Int) < (T.length : Int) + (p.length : Int) + (q.length : Int) + (s.length : Int) := by simp at hbig; omega
        clear hbg hbig
        go_wp2
        refine wp_region_over (by kernel_rfl) (by kernel_rfl) ?_
        repeat (go_big_quiet_step (first | with_reducible exact H1.out _ | with_reducible exact H2.out _))
        refine wpQuiet_nil ?_
        rintro _ ⟨⟨w2, b2⟩, hw2⟩
        subst hw2
        have bb := next hbr b2
        clear b2 g1 g2
        go_wp2
        go_roundw
        case rel => exact ⟨k + 1, by omega, by go_num, by rw [HST.out, ba_append, ba_append, ba_append]; simp [List.append_assoc], by rw [HST.out]; exact HSM.out, bb⟩
        case measure => simp [intOf]; omega
    · have hke : k = fs.length := by omega
      subst hke
      have hbb := next b1 hbr
      rw [List.take_length] at hsm ⊢
      obtain ⟨L, hL⟩ : ∃ L, putTs fs = L := ⟨_, rfl⟩
      rw [hL] at hsm ⊢
      obtain ⟨e1, e2⟩ := HENY.out L hL hsm
      have E1 : Hid _ := e1
      have E2 : Hid _ := e2
      clear e1 e2 hL
      go_wp2
      go_ret2
      exact ⟨str_ok (by rw [E1.out]) E2.out.symm, hbb⟩

end Go.Proofs.YtpenkpiffdbdmaaGreatDoor.Tg
