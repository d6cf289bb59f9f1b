/- Joined: SPack, DrawUm. -/
import Derived.Test.YtbncdhfmhokgeaaGreatDoorKFnMessageSMsgOk
import Derived.Test.YtbncdhfmhokgeaaGreatDoorJFnMessage1a
import Derived.Test.YtbncdhfmhokgeaaGreatDoorKFnMessageSSet
import Derived.Test.YtbncdhfmhokgeaaGreatDoorJFnMessage3a
import Derived.Test.YtbncdhfmhokgeaaGreatDoorKFnMessageDrawMw
/- The contract of the specification's PackMessage. -/
namespace Go.Proofs.YtbncdhfmhokgeaaGreatDoor
open Go.RowKit

theorem sPutSet_F {ao : Option Addr} {cap : Nat} {fs : List Fld} {w : World} (hx : IntsAt w ao (numsF fs)) (hl : fs.length ≤ 1048576) :
    Calls Tryz.prog 41 #[.slice ao fs.length cap] w fun e w' => e = .returned (.tuple #[.string ⟨(setF fs).toArray⟩, .bool (putS (numsF fs)).isSome]) ∧ Below w.heap.size w w' := by
  have h := sPutSet_any ao cap (numsF fs) w hx (by rw [numsF_len]; exact hl)
  rwa [numsF_len] at h
theorem sMsg_is {kd : Int} {ao : Option Addr} {cap : Nat} {fs : List Fld} {w : World} {q : Bool} (hq : msgOk kd fs = q) (hz : FldsAt w ao fs) (hn : fs.length ≤ 1048576) (hd : sumF fs ≤ 1048576) :
    Calls Tryz.prog 39 #[.agg #[.int .i64 kd, .slice ao fs.length cap]] w fun e w' => e = .returned (.bool q) ∧ Below w.heap.size w w' := by
  rw [← hq]; exact sMessageOk_any kd ao cap fs w hz hn hd
theorem nums_step (fs : List Fld) (k : Nat) (h : k < fs.length) : numsF (fs.take (k + 1)) = numsF (fs.take k) ++ [(at0 fs k).1] := by
  have e : at0 fs k = fs[k] := by simp [at0, List.getD_eq_getElem?_getD, h]
  rw [List.take_succ_eq_append_getElem h, e, numsF, numsF, List.map_append]; rfl
theorem ints_any {w : World} {base n : Nat} {v : Value} {zs : List Int} (h : w.ownsRow base 3 1 v n (zs.map (Value.int .i64))) : ∃ ao cap, v = .slice ao zs.length cap ∧ IntsAt w ao zs := by
  have hn : n = zs.length := by have := h.1; simp at this; omega
  subst hn
  rcases h.2 with ⟨rfl, h0⟩ | ⟨g, cap, cur, rfl, _⟩
  · obtain rfl : zs = [] := List.eq_nil_of_length_eq_zero h0
    exact ⟨none, 0, rfl, .inl rfl⟩
  · exact ⟨_, cap, rfl, ints_of_own h⟩

set_option maxRecDepth 100000 in
set_option maxHeartbeats 1600000 in
theorem sPack_any (kd : Int) (ao : Option Addr) (cap : Nat) (fs : List Fld) (w : World) (hz : FldsAt w ao fs) (hn : fs.length ≤ 1048576) (hd : sumF fs ≤ 1048576) :
    Calls Tryz.prog 10 #[.agg #[.int .i64 kd, .slice ao fs.length cap]] w fun e w' => e = .returned (.tuple #[.string ⟨(packL kd fs).toArray⟩, .bool (msgOk kd fs)]) ∧ Below w.heap.size w w' := by
  obtain ⟨i3, hi3, hz30, hz31, hz32⟩ := info_parts info3
  have bel : Below w.heap.size w (w.alloc (.cells #[.int .i64 kd, .slice ao fs.length cap] 26)) := by go_grown
  cases hm : msgOk kd fs
  · have HN : Hid _ := packL_no hm
    have HM : Hid _ := hm
    clear hm
    go_enter Tryz.func10, Tryz.ntmps10
    go_wp2_with fail
    refine (sMsg_is HM.out (hz.below bel) hn hd).mono ?_
    rintro e w3 ⟨rfl, b3⟩
    have q3 := (box2 b3).2.2.1
    clear b3 bel
    go_wp2
    go_ret2
    exact ⟨str_ok (by rw [HN.out]) rfl, q3⟩
  · have HY : Hid _ := packL_yes hm
    have HM : Hid _ := hm
    have HOK : Hid _ := (msgOk_parts hm).2
    clear hm
    go_enter Tryz.func10, Tryz.ntmps10
    go_wp2_with fail
    refine (sMsg_is HM.out (hz.below bel) hn hd).mono ?_
    rintro e w4 ⟨rfl, b4⟩
    obtain ⟨d0, d1, q4, hs4⟩ := box2 b4
    have HC : Hid (∀ i, i < fs.length → ∃ b off, ao = some ⟨b, off, none⟩ ∧ b < w4.heap.size ∧ w4.cell? ⟨b, off + i * 2, none⟩ = some (.int .i64 (at0 fs i).1) ∧ w4.cell? ⟨b, off + i * 2 + 1, none⟩ = some (.string ⟨(at0 fs i).2.toArray⟩)) := by
      rcases hz.below q4 with rfl | ⟨b, off, rfl, hb, hcell⟩
      · intro i hi; simp at hi
      · exact fun i hi => ⟨b, off, rfl, hb, hcell i hi⟩
    have HQ : Hid _ := q4
    have HDD : Hid _ := And.intro d0 d1
    have ownE : (w4.alloc (.cells #[] 3)).ownsRow w4.heap.size 3 1 (.slice (some ⟨w4.heap.size, 0, none⟩) 0 0) 0 ((numsF (fs.take 0)).map (Value.int .i64)) := World.ownsRow_lit w4 #[] 0 (Nat.le_refl _) (by unfold maxLen; omega) rfl
    have HOE : Hid ((w4.alloc (.cells #[] 3)).ownsRow w4.heap.size 3 1 (.slice (some ⟨w4.heap.size, 0, none⟩) 0 0) 0 ((numsF (fs.take 0)).map (Value.int .i64))) := ownE
    clear b4 bel q4 hz ownE
    go_wp2
    go_loopw [4, 5, 6] (fun v s i wr => ∃ k : Nat, k ≤ fs.length ∧ i = .int .i64 k ∧ s = .string ⟨(bodyP (fs.take k)).toArray⟩ ∧ wr.ownsRow w4.heap.size 3 1 v k ((numsF (fs.take k)).map (Value.int .i64)) ∧ Below w4.heap.size w4 wr) (fun _ _ i _ => fs.length - (intOf i).toNat)
    case atStart => exact ⟨0, Nat.zero_le _, rfl, rfl, HOE.out, by go_grown⟩
    case round =>
      obtain ⟨k, hk, rfl, rfl, ho, hbr⟩ := hrel
      clear d0 d1
      have d1 := (hbr.cell (p := ⟨w.heap.size, 1, none⟩) hs4).trans HDD.out.2
      have hbd := body_bd HOK.out k
      have hbs := hbr.size
      by_cases hlt : k < fs.length
      · obtain ⟨b, off, rfl, hb, e1, e2⟩ := HC.out k hlt
        have c1 : wr.cell? ⟨b, off + k * 2, none⟩ = some (.int .i64 (at0 fs k).1) := (hbr.cell (p := ⟨b, off + k * 2, none⟩) hb).trans e1
        have hki : (k : Int) < (fs.length : Int) := by omega
        have HSTEP : Hid _ := body_step fs k hlt
        have HNS : Hid _ := nums_step fs k hlt
        have hfo : fieldOk (at0 fs k).1 (at0 fs k).2 = true := (okF_mem HOK.out _ (at0_mem hlt)).1
        obtain ⟨⟨n, dt⟩, hf⟩ : ∃ f, at0 fs k = f := ⟨_, rfl⟩
        rw [hf] at c1 HSTEP hfo e1 e2 HNS
        simp only at c1 HSTEP hfo e1 e2 HNS
        have HE12 : Hid _ := And.intro e1 e2
        have HF : Hid _ := hfo
        have hfl := putFld_len hfo
        have HO : Hid (wr.ownsRow w4.heap.size 3 1 _ k ((numsF (fs.take k)).map (Value.int .i64))) := ho
        obtain ⟨B, hB⟩ : ∃ B, bodyP (fs.take k) = B := ⟨_, rfl⟩
        have hBl : B.length ≤ 200000 := by rw [← hB]; omega
        rw [hB]
        have HB : Hid _ := hB
        clear hf hfo e1 e2 hB ho
        go_wp2_with (at_builtin; refine wpList_append_own _ rfl (.tmp 20) (.tmp 27) 55 rfl w4.heap.size 3 i3 (.int .i64 0) 1 8 Tryz.underlying55 hi3 hz30 hz31 hz32 rfl (by decide) _ _ _ rfl (HO.out.alloc _) ⟨wr.heap.size, 0, none⟩ 1 1 [.int .i64 n] rfl rfl (World.news_of_block (heap_alloc_new wr _)) (by intro u hu; simp at hu; subst hu; rfl) (by unfold maxLen; omega) (by omega) (by simp; omega) ?_; intro v5 w5 o5 g5 _; have hb5 : Below w4.heap.size w4 w5 := (hbr.alloc hbs _).grown g5 (by simp; omega) (fun j hj => (HO.out.lt j hj).1); have d15 := (hb5.cell (p := ⟨w.heap.size, 1, none⟩) hs4).trans HDD.out.2; have c15 := (hb5.cell (p := ⟨b, off + k * 2, none⟩) hb).trans HE12.out.1; have c25 := (hb5.cell (p := ⟨b, off + k * 2 + 1, none⟩) hb).trans HE12.out.2)
        refine (l04Put_any _ _ _ HF.out).mono ?_
        rintro e w6 ⟨rfl, b6⟩
        have HR : Hid (w6.ownsRow w4.heap.size 3 1 v5 (k + 1) ((numsF (fs.take (k + 1))).map (Value.int .i64))) := by
          rw [Hid, HNS.out, List.map_append]; exact keepRow o5 b6
        have bb := hb5.trans (b6.mono hb5.size)
        obtain ⟨pf, hpf⟩ : ∃ x, putFld n dt = x := ⟨_, rfl⟩
        rw [hpf] at hfl HSTEP ⊢
        clear hpf b6 o5 g5 HO HE12 d15 c15 c25
        go_wp2
        go_roundw
        case rel => exact ⟨k + 1, by omega, by go_num, by rw [ba_append, HSTEP.out, HB.out], HR.out, bb⟩
        case measure => simp [intOf]; omega
      · have hke : k = fs.length := by omega
        subst hke
        rw [List.take_of_length_le (Nat.le_refl _)] at hbd ho ⊢
        obtain ⟨ao5, cap5, hv5, hi5⟩ := ints_any ho
        rw [numsF_len] at hv5
        subst hv5
        have d0 := (hbr.cell (p := ⟨w.heap.size, 0, none⟩) hs4).trans HDD.out.1
        obtain ⟨B, hB⟩ : ∃ B, bodyP fs = B := ⟨_, rfl⟩
        rw [hB] at hbd HY ⊢
        clear hB ho
        go_wp2_with fail
        refine (sPutSet_F hi5 hn).mono ?_
        rintro e w6 ⟨rfl, b6⟩
        obtain ⟨f0, f1⟩ := keep2 d0 d1 b6
        have hsl := setF_len fs
        have bb := hbr.trans (b6.mono hbr.size)
        obtain ⟨s, hs⟩ : ∃ s, setF fs = s := ⟨_, rfl⟩
        rw [hs] at hsl HY ⊢
        generalize (putS (numsF fs)).isSome = ok
        clear hs b6 hi5 d0 d1
        go_wp2_with fail
        refine (sPadNum_any _ _ _).mono ?_
        rintro e w7 ⟨rfl, b7⟩
        have hpl := padT_l kd 4
        have bb2 := bb.trans (b7.mono bb.size)
        obtain ⟨p, hp⟩ : ∃ p, padT kd 4 = p := ⟨_, rfl⟩
        rw [hp] at hpl HY ⊢
        clear hp b7 bb
        go_wp2
        go_ret2
        exact ⟨str_ok (by rw [HY.out, ba_append, ba_append]) rfl, HQ.out.trans (bb2.mono HQ.out.size)⟩

end Go.Proofs.YtbncdhfmhokgeaaGreatDoor

/- What is drawn for the law of messages: a message; a text near a packed message's. Whatever the bytes. -/
namespace Go.Proofs.YtbncdhfmhokgeaaGreatDoor
open Go.RowKit
set_option maxRecDepth 100000

theorem flds_set {w : World} {ao : Option Addr} {fs : List Fld} {b k : Nat} {v : Value} (h : FldsAt w ao fs) (hb : ∀ x, ao = some x → x.block ≠ b) : FldsAt (w.setCell ⟨b, k, none⟩ v) ao fs := by
  rcases h with h | ⟨c, off, h1, h2, h3⟩
  · exact .inl h
  · have hne := hb _ h1
    simp only at hne
    refine .inr ⟨c, off, h1, by simpa using h2, fun i hi => ⟨?_, ?_⟩⟩
    · rw [World.cell?_setCell_other _ _ _ _ (by first | (simp; done) | (simp; omega))]; exact (h3 i hi).1
    · rw [World.cell?_setCell_other _ _ _ _ (by first | (simp; done) | (simp; omega))]; exact (h3 i hi).2
theorem sumM_le {fs : List Fld} (hn : fs.length ≤ 16) (hd : ∀ f ∈ fs, f.2.length ≤ 999) : sumF fs ≤ 20000 := by
  have h : ∀ gs : List Fld, (∀ f ∈ gs, f.2.length ≤ 999) → sumF gs ≤ 999 * gs.length := by
    intro gs
    induction gs with
    | nil => intro _; simp [sumF]
    | cons f r ih =>
      intro hg
      have h1 := hg f (List.mem_cons_self ..)
      have h2 := ih (fun x hx => hg x (List.mem_cons_of_mem _ hx))
      simp only [sumF, List.map_cons, List.sum_cons, List.length_cons] at h2 ⊢
      omega
  have := h fs hd
  omega
theorem packL_bd (kd : Int) (fs : List Fld) : (packL kd fs).length ≤ 100000 := by
  cases h : msgOk kd fs
  · rw [packL_no h]; simp
  · rw [packL_yes h]
    obtain ⟨-, hf⟩ := msgOk_parts h
    have h1 := padT_l kd 4
    have h2 : (setF fs).length ≤ 16 := putS_len _
    have h3 := bodyP_len (fs := fs) (fun f hf' => (okF_mem hf f hf').1)
    have h4 : fs.length ≤ 93 := by rcases okF_len hf (by omega) with rfl | h
                                   · simp
                                   · omega
    rw [List.length_append, List.length_append]
    omega
theorem end0' {X : World} {M : Nat} {o v1 : Value} (a0 : X.cell? ⟨M, 0, none⟩ = some o) (v0 : Value) : ((X.setCell ⟨M, 0, none⟩ v0).setCell ⟨M, 1, none⟩ v1).cell? ⟨M, 0, none⟩ = some v0 := end0 a0 v0

set_option maxHeartbeats 1600000 in
theorem drawPM_any (a : Option Addr) (len cap : Nat) (zs : List Int) (w : World) (hr : IsRow .u8 w a len cap zs) (hn : len ≤ 1048576) :
    Calls Tryz.prog 8 #[.slice a len cap] w fun e w' => ∃ (kd : Int) (ao : Option Addr) (c : Nat) (fs : List Fld), e = .returned (.agg #[.int .i64 kd, .slice ao fs.length c]) ∧ fs.length ≤ 16 ∧ (∀ f ∈ fs, f.2.length ≤ 999) ∧ FldsAt w' ao fs ∧ Below w.heap.size w w' := by
  have bel : Below w.heap.size w (w.alloc (.cells #[.int .i64 0, .slice none 0 0] 26)) := by go_grown
  have hr1 := row_below hr bel
  go_enter Tryz.func8, Tryz.ntmps8
  go_wp2_with fail
  refine (new_any _ _ _ _ _ hr1 hn).mono ?_
  rintro e w1 ⟨rfl, c1, b1⟩
  have x0 := (b1.cell (p := ⟨w.heap.size, 0, none⟩) (by simp)).trans (show _ = some (.int .i64 0) by simp)
  have x1 := (b1.cell (p := ⟨w.heap.size, 1, none⟩) (by simp)).trans (show _ = some (.slice none 0 0) by simp)
  have z0 := (b1.frozen (p := ⟨w.heap.size, 0, none⟩) (by simp)).trans (show _ = false by simp)
  have z1 := (b1.frozen (p := ⟨w.heap.size, 1, none⟩) (by simp)).trans (show _ = false by simp)
  have q1 := next bel b1
  simp only [World.size_alloc] at c1 b1 ⊢
  clear hr hr1 bel b1
  go_wp2_with fail
  refine (msgD_any _ _ c1).mono ?_
  rintro e w2 ⟨kd, ao, c, fs, rfl, h1, h2, h3, c2, g2, hb⟩
  have y0 := far_cell x0 g2 (by omega)
  have y1 := far_cell x1 g2 (by omega)
  have u0 := far_froz z0 (World.block_lt_of_cell? w1 _ x0) g2 (by omega)
  have u1 := far_froz z1 (World.block_lt_of_cell? w1 _ x0) g2 (by omega)
  have q2 : Below w.heap.size w w2 := q1.grown g2 q1.size (fun k hk => by cases hk; omega)
  have h4 := flds_set (k := 1) (v := .slice ao fs.length c) (flds_set (k := 0) (v := .int .i64 kd) h3 (b := w.heap.size) (fun x hx => by have := hb x hx; omega)) (b := w.heap.size) (fun x hx => by have := hb x hx; omega)
  have F0 : Hid _ := end0 (v1 := .slice ao fs.length c) y0 (.int .i64 kd)
  have F1 : Hid _ := end1 y1 (.int .i64 kd) (.slice ao fs.length c)
  have HQ : Hid _ := (q2.setCell (p := ⟨w.heap.size, 0, none⟩) (Nat.le_refl _) (.int .i64 kd)).setCell (p := ⟨w.heap.size, 1, none⟩) (Nat.le_refl _) (.slice ao fs.length c)
  have H4 : Hid _ := h4
  clear x0 x1 z0 z1 q1 q2 c1 c2 g2 h3 h4
  go_wp2
  have f0 := F0.out
  have f1 := F1.out
  refine bodyPost_ret (by simp [results, Tryz.results8, go_sem, f0, f1]; try rfl) rfl ?_
  exact ⟨kd, ao, c, fs, rfl, h1, h2, H4.out, HQ.out⟩

set_option maxHeartbeats 3200000 in
theorem drawUM_any (a : Option Addr) (len cap : Nat) (zs : List Int) (w : World) (hr : IsRow .u8 w a len cap zs) (hn : len ≤ 1048576) :
    Calls Tryz.prog 15 #[.slice a len cap] w fun e w' => ∃ l : List UInt8, e = .returned (.string ⟨l.toArray⟩) ∧ l.length ≤ 200000 ∧ Below w.heap.size w w' := by
  go_enter Tryz.func15, Tryz.ntmps15
  go_wp2_with fail
  refine (new_any _ _ _ _ _ hr hn).mono ?_
  rintro e w1 ⟨rfl, c1, b1⟩
  clear hr
  go_wp2_with fail
  refine (msgD_any _ _ c1).mono ?_
  rintro e w2 ⟨kd, ao, c, fs, rfl, h1, h2, h3, c2, g2, hb⟩
  have q2 := bel_grown b1 g2 (Nat.le_refl _)
  clear g2 c1 b1 hb
  go_wp2_with fail
  refine (sPack_any kd ao c fs _ h3 (by omega) (by have := sumM_le h1 h2; omega)).mono ?_
  rintro e w3 ⟨rfl, b3⟩
  have q3 := next q2 b3
  have c3 := cursor_below c2 b3
  have hpb := packL_bd kd fs
  generalize packL kd fs = S at hpb
  generalize msgOk kd fs = ok
  clear b3 h3 c2 q2 h1 h2
  go_wp2_with fail
  refine (below_any _ _ _ c3 (by omega)).mono ?_
  rintro e w4 ⟨x, rfl, x0, x1, c4, g4⟩
  have hxl := x1 (by omega)
  have q4 := bel_grown q3 g4 (Nat.le_refl _)
  obtain ⟨X, rfl⟩ := Int.eq_ofNat_of_zero_le x0
  clear x1 g4 c3 q3 x0
  go_wp2_with fail
  refine (below_any _ _ _ c4 (by omega)).mono ?_
  rintro e w5 ⟨z, rfl, z0, z1, c5, g5⟩
  have q5 := bel_grown q4 g5 (Nat.le_refl _)
  clear z1 g5 c4 q4
  by_cases k0 : z = 0
  · subst k0
    have hXS : X ≤ S.length := by omega
    have hsl : ∀ W, (Instr.slice 9 (.string ⟨S.toArray⟩) none (some (.int .i64 (X : Int))) none).run Tryz.prog W = .ok (.string ⟨(S.take X).toArray⟩) W := fun W => by
      have hc : (0 : Int) ≤ (X : Int) ∧ (X : Int) ≤ ((⟨S.toArray⟩ : ByteArray).size : Int) := by rw [ba_size]; omega
      rw [run_slice_string_to_if W _ _ _ _ Tryz.underlying9, if_pos hc, ba_extract]
      rfl
    have hll : (S.take X).length ≤ 200000 := by rw [List.length_take]; omega
    obtain ⟨l2, hl2⟩ : ∃ l2, S.take X = l2 := ⟨_, rfl⟩
    rw [hl2] at hsl hll
    clear hl2
    go_wp2
    go_ret
    exact ⟨l2, rfl, hll, q5⟩
  have k0' : (z == 0) = false := by simpa using k0
  by_cases k1 : z = 1
  · subst k1
    have hll : (S ++ [120]).length ≤ 200000 := by simp; omega
    go_wp2
    go_ret
    exact ⟨S ++ [120], one_str (by rw [show (⟨#[120]⟩ : ByteArray) = ⟨[120].toArray⟩ from rfl, ba_append]), hll, q5⟩
  have k1' : (z == 1) = false := by simpa using k1
  by_cases k2 : z = 2
  · subst k2
    by_cases hlt : X < S.length
    · have hlti : (X : Int) < (S.length : Int) := by omega
      have hcv := conv_run S w5
      have hrow := convW_row S w5
      have hW := convW_below S w5
      have hsz := convW_size S w5
      have cW : Cursor (w.heap.size + 1) (convW S w5) w.heap.size := cursor_below c5 hW
      have qW := next q5 hW
      obtain ⟨C, hC⟩ : ∃ C, convC S w5 = C := ⟨_, rfl⟩
      obtain ⟨W, hWe⟩ : ∃ W, convW S w5 = W := ⟨_, rfl⟩
      rw [hC] at hcv
      rw [hWe] at hcv hrow hsz cW qW
      have hq5 := q5.size
      have cb := cursor_bd c5
      clear hC hWe hW c5 q5
      go_wp2_with fail
      refine (below_any _ _ _ cW (by omega)).mono ?_
      rintro e w6 ⟨y, rfl, y0, y1, c6, g6⟩
      have hyb := y1 (by omega)
      have q6 := bel_grown qW g6 (Nat.le_refl _)
      obtain ⟨Y, rfl⟩ := Int.eq_ofNat_of_zero_le y0
      have d1 : ∃ v, w6.cell? ⟨w5.heap.size, X, none⟩ = some v := ⟨_, far_cell (hrow.at hlt) g6 (by omega)⟩
      obtain ⟨old, d1⟩ := d1
      have d2 := far_froz (hrow.free X hlt) hrow.lt g6 (by omega)
      have hYt : (UInt8.ofNat Y).toNat = Y := by rw [UInt8.toNat_ofNat']; omega
      have ht := text_at (w := w6.setCell ⟨w5.heap.size, X, none⟩ (.int .u8 (Y : Int))) (g := w5.heap.size) (o := 0) (c := C) (l := S.set X (UInt8.ofNat Y)) (fun j v hv => by
        rw [Nat.zero_add]
        have hj : j < S.length := by have := (List.getElem?_eq_some_iff.1 hv).1; rwa [List.length_set] at this
        by_cases hji : j = X
        · subst hji
          rw [World.cell?_setCell_same _ _ _ d1]
          rw [List.getElem?_set_self hj] at hv
          cases hv
          rw [hYt]
        · rw [World.cell?_setCell_other _ _ _ _ (by first | (simp; done) | (simp; omega))]
          rw [List.getElem?_set_ne (by omega)] at hv
          exact far_cell (hrow.cell j v hv) g6 (by omega))
      rw [List.length_set] at ht
      have hll : (S.set X (UInt8.ofNat Y)).length ≤ 200000 := by rw [List.length_set]; omega
      obtain ⟨l2, hl2⟩ : ∃ l2, S.set X (UInt8.ofNat Y) = l2 := ⟨_, rfl⟩
      rw [hl2] at ht hll
      have HQ : Hid (Below w.heap.size w (w6.setCell ⟨w5.heap.size, X, none⟩ (.int .u8 (Y : Int)))) := q6.setCell (by show w.heap.size ≤ w5.heap.size; omega) _
      clear hl2 hrow g6 cW qW q6 y1 hYt
      go_wp2
      go_ret
      exact ⟨l2, rfl, hll, HQ.out⟩
    · have hlti : ¬ (X : Int) < (S.length : Int) := by omega
      go_wp2
      go_ret
      exact ⟨S, rfl, by omega, q5⟩
  · have k2' : (z == 2) = false := by simpa using k2
    go_wp2
    go_ret
    exact ⟨S, rfl, by omega, q5⟩

end Go.Proofs.YtbncdhfmhokgeaaGreatDoor
