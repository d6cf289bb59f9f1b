/- Joined: SPack. -/
import Derived.Test.YtbncdhfmhokgeaaGreatDoorKFnBatchSMsgOk
import Derived.Test.YtbncdhfmhokgeaaGreatDoorJFnBatch1a
import Derived.Test.YtbncdhfmhokgeaaGreatDoorKFnBatchSSet
import Derived.Test.YtbncdhfmhokgeaaGreatDoorJFnBatch3a
/- The contract of the specification's PackMessage. -/
namespace Go.Proofs.YtbncdhfmhokgeaaGreatDoor
open Go.RowKit

theorem sPutSet_F {ao : Option Addr} {cap : Nat} {fs : List Fld} {w : World} (hx : IntsAt w ao (numsF fs)) (hl : fs.length ≤ 1048576) :
    Calls Tryz.prog 41 #[.slice ao fs.length cap] w fun e w' => e = .returned (.tuple #[.string ⟨(setF fs).toArray⟩, .bool (putS (numsF fs)).isSome]) ∧ Below w.heap.size w w' := by
  have h := sPutSet_any ao cap (numsF fs) w hx (by rw [numsF_len]; exact hl)
  rwa [numsF_len] at h
theorem sMsg_is {kd : Int} {ao : Option Addr} {cap : Nat} {fs : List Fld} {w : World} {q : Bool} (hq : msgOk kd fs = q) (hz : FldsAt w ao fs) (hn : fs.length ≤ 1048576) (hd : sumF fs ≤ 1048576) :
    Calls Tryz.prog 39 #[.agg #[.int .i64 kd, .slice ao fs.length cap]] w fun e w' => e = .returned (.bool q) ∧ Below w.heap.size w w' := by
  rw [← hq]; exact sMessageOk_any kd ao cap fs w hz hn hd
theorem nums_step (fs : List Fld) (k : Nat) (h : k < fs.length) : numsF (fs.take (k + 1)) = numsF (fs.take k) ++ [(at0 fs k).1] := by
  have e : at0 fs k = fs[k] := by simp [at0, List.getD_eq_getElem?_getD, h]
  rw [List.take_succ_eq_append_getElem h, e, numsF, numsF, List.map_append]; rfl
theorem ints_any {w : World} {base n : Nat} {v : Value} {zs : List Int} (h : w.ownsRow base 3 1 v n (zs.map (Value.int .i64))) : ∃ ao cap, v = .slice ao zs.length cap ∧ IntsAt w ao zs := by
  have hn : n = zs.length := by have := h.1; simp at this; omega
  subst hn
  rcases h.2 with ⟨rfl, h0⟩ | ⟨g, cap, cur, rfl, _⟩
  · obtain rfl : zs = [] := List.eq_nil_of_length_eq_zero h0
    exact ⟨none, 0, rfl, .inl rfl⟩
  · exact ⟨_, cap, rfl, ints_of_own h⟩

set_option maxRecDepth 100000 in
set_option maxHeartbeats 1600000 in
theorem sPack_any (kd : Int) (ao : Option Addr) (cap : Nat) (fs : List Fld) (w : World) (hz : FldsAt w ao fs) (hn : fs.length ≤ 1048576) (hd : sumF fs ≤ 1048576) :
    Calls Tryz.prog 10 #[.agg #[.int .i64 kd, .slice ao fs.length cap]] w fun e w' => e = .returned (.tuple #[.string ⟨(packL kd fs).toArray⟩, .bool (msgOk kd fs)]) ∧ Below w.heap.size w w' := by
  obtain ⟨i3, hi3, hz30, hz31, hz32⟩ := info_parts info3
  have bel : Below w.heap.size w (w.alloc (.cells #[.int .i64 kd, .slice ao fs.length cap] 26)) := by go_grown
  cases hm : msgOk kd fs
  · have HN : Hid _ := packL_no hm
    have HM : Hid _ := hm
    clear hm
    go_enter Tryz.func10, Tryz.ntmps10
    go_wp2_with fail
    refine (sMsg_is HM.out (hz.below bel) hn hd).mono ?_
    rintro e w3 ⟨rfl, b3⟩
    have q3 := (box2 b3).2.2.1
    clear b3 bel
    go_wp2
    go_ret2
    exact ⟨str_ok (by rw [HN.out]) rfl, q3⟩
  · have HY : Hid _ := packL_yes hm
    have HM : Hid _ := hm
    have HOK : Hid _ := (msgOk_parts hm).2
    clear hm
    go_enter Tryz.func10, Tryz.ntmps10
    go_wp2_with fail
    refine (sMsg_is HM.out (hz.below bel) hn hd).mono ?_
    rintro e w4 ⟨rfl, b4⟩
    obtain ⟨d0, d1, q4, hs4⟩ := box2 b4
    have HC : Hid (∀ i, i < fs.length → ∃ b off, ao = some ⟨b, off, none⟩ ∧ b < w4.heap.size ∧ w4.cell? ⟨b, off + i * 2, none⟩ = some (.int .i64 (at0 fs i).1) ∧ w4.cell? ⟨b, off + i * 2 + 1, none⟩ = some (.string ⟨(at0 fs i).2.toArray⟩)) := by
      rcases hz.below q4 with rfl | ⟨b, off, rfl, hb, hcell⟩
      · intro i hi; simp at hi
      · exact fun i hi => ⟨b, off, rfl, hb, hcell i hi⟩
    have HQ : Hid _ := q4
    have HDD : Hid _ := And.intro d0 d1
    have ownE : (w4.alloc (.cells #[] 3)).ownsRow w4.heap.size 3 1 (.slice (some ⟨w4.heap.size, 0, none⟩) 0 0) 0 ((numsF (fs.take 0)).map (Value.int .i64)) := World.ownsRow_lit w4 #[] 0 (Nat.le_refl _) (by unfold maxLen; omega) rfl
    have HOE : Hid ((w4.alloc (.cells #[] 3)).ownsRow w4.heap.size 3 1 (.slice (some ⟨w4.heap.size, 0, none⟩) 0 0) 0 ((numsF (fs.take 0)).map (Value.int .i64))) := ownE
    clear b4 bel q4 hz ownE
    go_wp2
    go_loopw [4, 5, 6] (fun v s i wr => ∃ k : Nat, k ≤ fs.length ∧ i = .int .i64 k ∧ s = .string ⟨(bodyP (fs.take k)).toArray⟩ ∧ wr.ownsRow w4.heap.size 3 1 v k ((numsF (fs.take k)).map (Value.int .i64)) ∧ Below w4.heap.size w4 wr) (fun _ _ i _ => fs.length - (intOf i).toNat)
    case atStart => exact ⟨0, Nat.zero_le _, rfl, rfl, HOE.out, by go_grown⟩
    case round =>
      obtain ⟨k, hk, rfl, rfl, ho, hbr⟩ := hrel
      clear d0 d1
      have d1 := (hbr.cell (p := ⟨w.heap.size, 1, none⟩) hs4).trans HDD.out.2
      have hbd := body_bd HOK.out k
      have hbs := hbr.size
      by_cases hlt : k < fs.length
      · obtain ⟨b, off, rfl, hb, e1, e2⟩ := HC.out k hlt
        have c1 : wr.cell? ⟨b, off + k * 2, none⟩ = some (.int .i64 (at0 fs k).1) := (hbr.cell (p := ⟨b, off + k * 2, none⟩) hb).trans e1
        have hki : (k : Int) < (fs.length : Int) := by omega
        have HSTEP : Hid _ := body_step fs k hlt
        have HNS : Hid _ := nums_step fs k hlt
        have hfo : fieldOk (at0 fs k).1 (at0 fs k).2 = true := (okF_mem HOK.out _ (at0_mem hlt)).1
        obtain ⟨⟨n, dt⟩, hf⟩ : ∃ f, at0 fs k = f := ⟨_, rfl⟩
        rw [hf] at c1 HSTEP hfo e1 e2 HNS
        simp only at c1 HSTEP hfo e1 e2 HNS
        have HE12 : Hid _ := And.intro e1 e2
        have HF : Hid _ := hfo
        have hfl := putFld_len hfo
        have HO : Hid (wr.ownsRow w4.heap.size 3 1 _ k ((numsF (fs.take k)).map (Value.int .i64))) := ho
        obtain ⟨B, hB⟩ : ∃ B, bodyP (fs.take k) = B := ⟨_, rfl⟩
        have hBl : B.length ≤ 200000 := by rw [← hB]; omega
        rw [hB]
        have HB : Hid _ := hB
        clear hf hfo e1 e2 hB ho
        go_wp2_with (at_builtin; refine wpList_append_own _ rfl (.tmp 20) (.tmp 27) 55 rfl w4.heap.size 3 i3 (.int .i64 0) 1 8 Tryz.underlying55 hi3 hz30 hz31 hz32 rfl (by decide) _ _ _ rfl (HO.out.alloc _) ⟨wr.heap.size, 0, none⟩ 1 1 [.int .i64 n] rfl rfl (World.news_of_block (heap_alloc_new wr _)) (by intro u hu; simp at hu; subst hu; rfl) (by unfold maxLen; omega) (by omega) (by simp; omega) ?_; intro v5 w5 o5 g5 _; have hb5 : Below w4.heap.size w4 w5 := (hbr.alloc hbs _).grown g5 (by simp; omega) (fun j hj => (HO.out.lt j hj).1); have d15 := (hb5.cell (p := ⟨w.heap.size, 1, none⟩) hs4).trans HDD.out.2; have c15 := (hb5.cell (p := ⟨b, off + k * 2, none⟩) hb).trans HE12.out.1; have c25 := (hb5.cell (p := ⟨b, off + k * 2 + 1, none⟩) hb).trans HE12.out.2)
        refine (l04Put_any _ _ _ HF.out).mono ?_
        rintro e w6 ⟨rfl, b6⟩
        have HR : Hid (w6.ownsRow w4.heap.size 3 1 v5 (k + 1) ((numsF (fs.take (k + 1))).map (Value.int .i64))) := by
          rw [Hid, HNS.out, List.map_append]; exact keepRow o5 b6
        have bb := hb5.trans (b6.mono hb5.size)
        obtain ⟨pf, hpf⟩ : ∃ x, putFld n dt = x := ⟨_, rfl⟩
        rw [hpf] at hfl HSTEP ⊢
        clear hpf b6 o5 g5 HO HE12 d15 c15 c25
        go_wp2
        go_roundw
        case rel => exact ⟨k + 1, by omega, by go_num, by rw [ba_append, HSTEP.out, HB.out], HR.out, bb⟩
        case measure => simp [intOf]; omega
      · have hke : k = fs.length := by omega
        subst hke
        rw [List.take_of_length_le (Nat.le_refl _)] at hbd ho ⊢
        obtain ⟨ao5, cap5, hv5, hi5⟩ := ints_any ho
        rw [numsF_len] at hv5
        subst hv5
        have d0 := (hbr.cell (p := ⟨w.heap.size, 0, none⟩) hs4).trans HDD.out.1
        obtain ⟨B, hB⟩ : ∃ B, bodyP fs = B := ⟨_, rfl⟩
        rw [hB] at hbd HY ⊢
        clear hB ho
        go_wp2_with fail
        refine (sPutSet_F hi5 hn).mono ?_
        rintro e w6 ⟨rfl, b6⟩
        obtain ⟨f0, f1⟩ := keep2 d0 d1 b6
        have hsl := setF_len fs
        have bb := hbr.trans (b6.mono hbr.size)
        obtain ⟨s, hs⟩ : ∃ s, setF fs = s := ⟨_, rfl⟩
        rw [hs] at hsl HY ⊢
        generalize (putS (numsF fs)).isSome = ok
        clear hs b6 hi5 d0 d1
        go_wp2_with fail
        refine (sPadNum_any _ _ _).mono ?_
        rintro e w7 ⟨rfl, b7⟩
        have hpl := padT_l kd 4
        have bb2 := bb.trans (b7.mono bb.size)
        obtain ⟨p, hp⟩ : ∃ p, padT kd 4 = p := ⟨_, rfl⟩
        rw [hp] at hpl HY ⊢
        clear hp b7 bb
        go_wp2
        go_ret2
        exact ⟨str_ok (by rw [HY.out, ba_append, ba_append]) rfl, HQ.out.trans (bb2.mono HQ.out.size)⟩

end Go.Proofs.YtbncdhfmhokgeaaGreatDoor
