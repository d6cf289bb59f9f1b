/- The contract of the program's PackMessage. -/
import Derived.Test.YtopgcfgomappjaaDoorFMsgOk
import Derived.Test.YtopgcfgomappjaaDoorFPutF
import Derived.Test.YtopgcfgomappjaaDoorFNums
import Derived.Test.YtopgcfgomappjaaDoorFSetP
namespace Go.Proofs.YtopgcfgomappjaaDoor
open Go.RowKit

theorem iPutSet_F {ao : Option Addr} {cap : Nat} {fs : List Fld} {w : World} (hx : IntsAt w ao (numsF fs)) (hl : fs.length ≤ 1048576) :
    Calls Tryd.prog 23 #[.slice ao fs.length cap] w fun e w' => e = .returned (.tuple #[.string ⟨(setF fs).toArray⟩, .bool (putS (numsF fs)).isSome]) ∧ Below w.heap.size w w' := by
  have h := iPutSet_any ao cap (numsF fs) w hx (by rw [numsF_len]; exact hl)
  rwa [numsF_len] at h
theorem iMsg_is {kd : Int} {ao : Option Addr} {cap : Nat} {fs : List Fld} {w : World} {q : Bool} (hq : msgOk kd fs = q) (hz : FldsAt w ao fs) (hn : fs.length ≤ 1048576) (hd : sumF fs ≤ 1048576) :
    Calls Tryd.prog 25 #[.agg #[.int .i64 kd, .slice ao fs.length cap]] w fun e w' => e = .returned (.bool q) ∧ Below w.heap.size w w' := by
  rw [← hq]; exact iMessageOk_any kd ao cap fs w hz hn hd
theorem setF_len (fs : List Fld) : (setF fs).length ≤ 16 := putS_len _
theorem okF_take {fs : List Fld} {p : Int} (h : okF p fs = true) (k : Nat) : ∀ f ∈ fs.take k, fieldOk f.1 f.2 = true := fun f hf => (okF_mem h f (List.mem_of_mem_take hf)).1
theorem body_bd {fs : List Fld} (h : okF 1 fs = true) (k : Nat) : (bodyP (fs.take k)).length ≤ 100000 := by
  have h1 := bodyP_len (okF_take h k)
  have h2 : (fs.take k).length ≤ fs.length := by rw [List.length_take]; omega
  rcases okF_len h (by omega) with h3 | h3
  · rw [h3] at h1 h2 ⊢; simp [bodyP]
  · omega
theorem body_step (fs : List Fld) (k : Nat) (h : k < fs.length) : bodyP (fs.take (k + 1)) = bodyP (fs.take k) ++ putFld (at0 fs k).1 (at0 fs k).2 := by
  have e : at0 fs k = fs[k] := by simp [at0, List.getD_eq_getElem?_getD, h]
  rw [List.take_succ_eq_append_getElem h, bodyP_append, e, bodyP_one]

set_option maxRecDepth 100000 in
set_option maxHeartbeats 1600000 in
theorem iPack_any (kd : Int) (ao : Option Addr) (cap : Nat) (fs : List Fld) (w : World) (hz : FldsAt w ao fs) (hn : fs.length ≤ 1048576) (hd : sumF fs ≤ 1048576) (ht : Pow10 w) :
    Calls Tryd.prog 9 #[.agg #[.int .i64 kd, .slice ao fs.length cap]] w fun e w' => e = .returned (.tuple #[.string ⟨(packL kd fs).toArray⟩, .bool (msgOk kd fs)]) ∧ Below w.heap.size w w' := by
  have bel : Below w.heap.size w (w.alloc (.cells #[.int .i64 kd, .slice ao fs.length cap] 30)) := by go_grown
  have HT : Hid (Pow10 w) := ht
  go_enter Tryd.func9, Tryd.ntmps9
  go_wp2_with fail
  refine (numsOf_any _ _ _ _ (hz.below bel) hn).mono ?_
  rintro e w1 ⟨rfl, o1, b1⟩
  obtain ⟨c0, c1, q1, hs1⟩ := box2 b1
  have i1 : IntsAt w1 (some ⟨(w.alloc (.cells #[.int .i64 kd, .slice ao fs.length cap] 30)).heap.size, 0, none⟩) (numsF fs) := ints_of_own o1
  clear b1 o1 bel ht
  go_wp2_with fail
  refine (iPutSet_F (by simpa using i1) hn).mono ?_
  rintro e w2 ⟨rfl, b2⟩
  have q2 := next q1 b2
  obtain ⟨d0, d1⟩ := keep2 c0 c1 b2
  have hsb := hs1
  clear i1 b2 q1 c0 c1
  cases hm : msgOk kd fs
  · have HN : Hid _ := packL_no hm
    have HM : Hid _ := hm
    clear hm
    cases hs : (putS (numsF fs)).isSome
    · go_wp2
      go_ret2
      exact ⟨str_ok (by rw [HN.out]) HM.out.symm, q2⟩
    · go_wp2_with fail
      refine (iMsg_is HM.out (hz.below q2) hn hd).mono ?_
      rintro e w3 ⟨rfl, b3⟩
      have q3 := next q2 b3
      clear b3 q2
      go_wp2
      go_ret2
      exact ⟨str_ok (by rw [HN.out]) HM.out.symm, q3⟩
  · have HY : Hid _ := packL_yes hm
    have HM : Hid _ := hm
    have HOK : Hid _ := (msgOk_parts hm).2
    rw [set_ok hm]
    clear hm
    go_wp2_with fail
    refine (iMsg_is HM.out (hz.below q2) hn hd).mono ?_
    rintro e w3 ⟨rfl, b3⟩
    have q3 := next q2 b3
    obtain ⟨c0, c1⟩ := keep2 d0 d1 b3
    clear b3 q2 d0 d1
    go_wp2_with fail
    refine (iPadNum_any _ _ _ (HT.out.below q3)).mono ?_
    rintro e w4 ⟨rfl, b4⟩
    have q4 := next q3 b4
    obtain ⟨d0, d1⟩ := keep2 c0 c1 b4
    have hpl := padT_l kd 4
    have hsl := setF_len fs
    have HT4 : Hid (Pow10 w4) := HT.out.below q4
    have HC : Hid (∀ i, i < fs.length → ∃ b off, ao = some ⟨b, off, none⟩ ∧ b < w4.heap.size ∧ w4.cell? ⟨b, off + i * 2, none⟩ = some (.int .i64 (at0 fs i).1) ∧ w4.cell? ⟨b, off + i * 2 + 1, none⟩ = some (.string ⟨(at0 fs i).2.toArray⟩)) := by
      rcases hz.below q4 with rfl | ⟨b, off, rfl, hb, hcell⟩
      · intro i hi; simp at hi
      · exact fun i hi => ⟨b, off, rfl, hb, hcell i hi⟩
    have HQ : Hid _ := q4
    clear b4 q3 c0 c1 q4 hz
    obtain ⟨p, hp⟩ : ∃ p, padT kd 4 = p := ⟨_, rfl⟩
    obtain ⟨s, hs⟩ : ∃ s, setF fs = s := ⟨_, rfl⟩
    rw [hp] at hpl HY ⊢
    rw [hs] at hsl HY ⊢
    clear hp hs
    go_wp2
    rw [ba_append]
    obtain ⟨H, hH⟩ : ∃ H, p ++ s = H := ⟨_, rfl⟩
    have hHl : H.length ≤ 34 := by rw [← hH, List.length_append]; omega
    rw [hH] at HY ⊢
    clear hH hpl hsl
    go_loopw [6, 33] (fun v i wr => ∃ k : Nat, k ≤ fs.length ∧ i = .int .i64 k ∧ v = .string ⟨(H ++ bodyP (fs.take k)).toArray⟩ ∧ Below w4.heap.size w4 wr) (fun _ i _ => fs.length - (intOf i).toNat)
    case atStart => exact ⟨0, Nat.zero_le _, rfl, by simp [bodyP], Below.refl _ _⟩
    case round =>
      obtain ⟨k, hk, rfl, rfl, hbr⟩ := hrel
      clear d0 d1
      have hbd := body_bd HOK.out k
      by_cases hlt : k < fs.length
      · obtain ⟨b, off, rfl, hb, e1, e2⟩ := HC.out k hlt
        have c1 : wr.cell? ⟨b, off + k * 2, none⟩ = some (.int .i64 (at0 fs k).1) := (hbr.cell (p := ⟨b, off + k * 2, none⟩) hb).trans e1
        have c2 : wr.cell? ⟨b, off + k * 2 + 1, none⟩ = some (.string ⟨(at0 fs k).2.toArray⟩) := (hbr.cell (p := ⟨b, off + k * 2 + 1, none⟩) hb).trans e2
        have hki : (k : Int) < (fs.length : Int) := by omega
        have HSTEP : Hid _ := body_step fs k hlt
        have hfo : fieldOk (at0 fs k).1 (at0 fs k).2 = true := (okF_mem HOK.out _ (at0_mem hlt)).1
        obtain ⟨⟨n, dt⟩, hf⟩ : ∃ f, at0 fs k = f := ⟨_, rfl⟩
        rw [hf] at c1 c2 HSTEP hfo
        simp only at c1 c2 HSTEP hfo
        have HF : Hid _ := hfo
        have hfl := putFld_len hfo
        have bx : Below w4.heap.size w4 (wr.alloc (.cells #[.int .i64 n, .string ⟨dt.toArray⟩] 43)) := hbr.alloc hbr.size _
        have HTr : Hid (Pow10 (wr.alloc (.cells #[.int .i64 n, .string ⟨dt.toArray⟩] 43))) := HT4.out.below bx
        obtain ⟨B, hB⟩ : ∃ B, H ++ bodyP (fs.take k) = B := ⟨_, rfl⟩
        have hBl : B.length ≤ 200000 := by rw [← hB, List.length_append]; omega
        rw [hB]
        have HB : Hid _ := hB
        clear hf hfo e1 e2 hB
        go_wp2_with fail
        refine (formOf_any _ _).mono ?_
        rintro e w5 ⟨rfl, hw5⟩
        subst hw5
        generalize knB n = kn
        go_wp2_with fail
        refine (putData_any _ _ _ HF.out HTr.out).mono ?_
        rintro e w6 ⟨rfl, b6⟩
        have bb : Below w4.heap.size w4 w6 := bx.trans (b6.mono (by have := hbr.size; simp; omega))
        obtain ⟨pf, hpf⟩ : ∃ x, putFld n dt = x := ⟨_, rfl⟩
        rw [hpf] at hfl HSTEP ⊢
        clear hpf b6 HTr bx
        generalize formV n = fv
        go_wp2
        go_roundw
        case rel => exact ⟨k + 1, by omega, by go_num, by rw [ba_append, HSTEP.out, ← HB.out, List.append_assoc], bb⟩
        case measure => simp [intOf]; omega
      · have hke : k = fs.length := by omega
        subst hke
        have HE : Hid (packL kd fs = H ++ bodyP (fs.take fs.length)) := by rw [Hid, HY.out, List.take_of_length_le (Nat.le_refl _)]
        obtain ⟨B, hB⟩ : ∃ B, H ++ bodyP (fs.take fs.length) = B := ⟨_, rfl⟩
        rw [hB] at HE ⊢
        clear hB
        go_wp2
        go_ret2
        exact ⟨str_ok (by rw [HE.out]) HM.out.symm, HQ.out.trans (hbr.mono HQ.out.size)⟩

end Go.Proofs.YtopgcfgomappjaaDoor
