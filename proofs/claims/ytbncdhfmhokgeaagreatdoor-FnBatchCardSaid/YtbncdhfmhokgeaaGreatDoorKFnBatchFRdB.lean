/- The contract of the program's ReadBatch. -/
import Derived.Test.YtbncdhfmhokgeaaGreatDoorJFnBatch7a
import Derived.Test.YtbncdhfmhokgeaaGreatDoorKFnBatchFBat
import Derived.Test.YtbncdhfmhokgeaaGreatDoorKFnBatchFUnb
import Derived.Test.YtbncdhfmhokgeaaGreatDoorJFnBatch0a
namespace Go.Proofs.YtbncdhfmhokgeaaGreatDoor
open Go.RowKit
set_option maxRecDepth 100000

/-- what ReadBatch answers: messages of one's own that lie in part of a block -/
def RdR (w : World) (r : List Msg × Nat) (e : Ending) (w' : World) : Prop :=
  Below w.heap.size w w' ∧ ∃ aL cap b off ys a, e = .returned (.tuple #[.slice aL r.1.length cap, .int .i64 (r.2 : Nat)]) ∧ (r.1.length = 0 ∨ aL = some ⟨b, off, none⟩) ∧ a + r.1.length ≤ ys.length ∧
    ((plainM ys).drop a).take r.1.length = r.1 ∧ (∀ y ∈ ys, y.fs.length ≤ 92) ∧
    MsO w' w.heap.size b off r.1.length (fun i => .slice (vAt ys (a + i)).ao (vAt ys (a + i)).fs.length (vAt ys (a + i)).cap) (fun i => (vAt ys (a + i)).fs.length) (fun i => (vAt ys (a + i)).kd) (fun i => (vAt ys (a + i)).fs)
theorem msO_none (w : World) (B b off : Nat) (sv : Nat → Value) (len : Nat → Nat) (kd : Nat → Int) (fs : Nat → List Fld) : MsO w B b off 0 sv len kd fs :=
  ⟨fun i hi => by omega, fun i hi => by omega, fun i hi => by omega, fun i hi => by omega, fun i hi => by omega, fun i hi => by omega, fun i j hi => by omega⟩
theorem rdR_none {w w' : World} {r : List Msg × Nat} {k : Nat} (h : r = ([], k)) (hb : Below w.heap.size w w') : RdR w r (.returned (.tuple #[.slice none 0 0, .int .i64 (k : Nat)])) w' := by
  subst h
  exact ⟨hb, none, 0, 0, 0, [], 0, rfl, .inl rfl, Nat.le_refl _, rfl, (fun y hy => by cases hy), msO_none _ _ _ _ _ _ _ _⟩
theorem vAt_part (ys : List MV) (a m k : Nat) (h : k < m) : vAt ((ys.drop a).take m) k = vAt ys (a + k) := by
  simp [vAt, List.getD_eq_getElem?_getD, h]
/-- a part of a row of messages reads as that part -/
theorem MsR.partAt {B : Nat} {w : World} {G cap : Nat} {ys : List MV} (h : MsR B w (.slice (some ⟨G, 0, none⟩) ys.length cap) ys) (a m : Nat) (ham : a + m ≤ ys.length) : MsgsAt w (some ⟨G, a * 2, none⟩) ((ys.drop a).take m) := by
  have hl : ((ys.drop a).take m).length = m := by simp; omega
  have O := h.part a m ham
  refine ⟨?_, fun x hx => flds_ofS (h.rows x (List.mem_of_mem_drop (List.mem_of_mem_take hx)))⟩
  by_cases h0 : m = 0
  · left; subst h0; simp
  · refine .inr ⟨G, a * 2, rfl, (h.row.lt G rfl).2, fun i hi => ?_⟩
    rw [hl] at hi
    rw [vAt_part ys a m i hi]
    exact ⟨O.c0 i hi, O.c1 i hi⟩
theorem elemMsg : Tryz.prog.elem 35 = 26 := by simp [Program.elem, Tryz.underlying35]
theorem underMsg : Tryz.prog.underlying 35 = some (.slice (Tryz.prog.elem 35)) := by rw [elemMsg]; exact Tryz.underlying35
theorem sizeMsg (w : World) : (sizeOf 26).run Tryz.prog w = .ok 2 w := by
  obtain ⟨i0, hi, hz0, hz1, hz2⟩ := info_parts infoM
  simp [sizeOf, typeInfo, hi, hz1]
/-- messages[1:last:last] -/
theorem sliceM3 {g n c : Nat} {y : Int} (m : Nat) (hy : y = (m + 1 : Nat)) (hm : m + 1 ≤ c) : ∃ aS : Option Addr, (m = 0 ∨ aS = some ⟨g, 2, none⟩) ∧
    ∀ W : World, (Instr.slice 35 (.slice (some ⟨g, 0, none⟩) n c) (some (.int .i64 1)) (some (.int .i64 y)) (some (.int .i64 y))).run Tryz.prog W = .ok (.slice aS m m) W := by
  subst hy
  by_cases h0 : m = 0
  · subst h0
    refine ⟨some ⟨g, 0, none⟩, .inl rfl, fun W => ?_⟩
    rw [run_slice_lhm W _ _ _ _ underMsg .i64 .i64 .i64 _ _ _ (by omega) (by omega) (by omega) (by omega), elemMsg, sizeMsg]
    simp [Result.andThen, sliced]
  · refine ⟨some ⟨g, 2, none⟩, .inr rfl, fun W => ?_⟩
    rw [run_slice_lhm W _ _ _ _ underMsg .i64 .i64 .i64 _ _ _ (by omega) (by omega) (by omega) (by omega), elemMsg, sizeMsg]
    simp [Result.andThen, sliced, add_at, h0]
/-- messages[1:last] -/
theorem sliceM2 {g n c : Nat} {y : Int} (m : Nat) (hy : y = (m + 1 : Nat)) (hm : m + 1 ≤ c) : ∃ aS : Option Addr, (m = 0 ∨ aS = some ⟨g, 2, none⟩) ∧
    ∀ W : World, (Instr.slice 35 (.slice (some ⟨g, 0, none⟩) n c) (some (.int .i64 1)) (some (.int .i64 y)) none).run Tryz.prog W = .ok (.slice aS m (c - 1)) W := by
  subst hy
  by_cases h0 : c = 1
  · refine ⟨some ⟨g, 0, none⟩, .inl (by omega), fun W => ?_⟩
    rw [run_slice_lh W _ _ _ _ underMsg .i64 .i64 _ _ (by omega) (by omega) (by omega), elemMsg, sizeMsg]
    simp [Result.andThen, sliced, h0]
  · refine ⟨some ⟨g, 2, none⟩, .inr rfl, fun W => ?_⟩
    rw [run_slice_lh W _ _ _ _ underMsg .i64 .i64 _ _ (by omega) (by omega) (by omega), elemMsg, sizeMsg]
    simp [Result.andThen, sliced, add_at, h0]
theorem txt_own {w : World} {base n : Nat} {t : TypeId} {v : Value} {rs : Recs} (h : w.ownsRow base t 1 v n (scells rs)) (hn : 0 < n) : ∃ g c, v = .slice (some ⟨g, 0, none⟩) n c ∧ w.cell? ⟨g, 0, none⟩ = some (.string ⟨(nth rs 0).toArray⟩) := by
  have hl : n = rs.length := by have := h.1; rw [scells_len] at this; omega
  rcases h.2 with ⟨_, h0⟩ | ⟨g, c, cur, rfl, _⟩
  · omega
  · refine ⟨g, c, rfl, ?_⟩
    rw [h.cellAt 0 (by omega)]
    exact scells_at rs 0 (by omega)
theorem msR_form {B : Nat} {w : World} {v : Value} {ys : List MV} (h : MsR B w v ys) (hn : 0 < ys.length) : ∃ g c, v = .slice (some ⟨g, 0, none⟩) ys.length c ∧ ys.length ≤ c ∧ c ≤ maxLen := by
  rcases h.row.2 with ⟨_, h0⟩ | ⟨g, c, cur, rfl, _, _, h1, h2, _⟩
  · omega
  · exact ⟨g, c, rfl, h1, h2⟩
theorem unp_small {rs : Recs} {ys : List MV} (h : allUnp rs = true) (hp : plainM ys = rs.map unpM) : ∀ y ∈ ys, y.fs.length ≤ 92 ∧ sumF y.fs ≤ 100000 := by
  intro y hy
  have := plainM_mem hy
  rw [hp] at this
  obtain ⟨r, hr, e⟩ := List.mem_map.1 this
  have h1 := (msgOk_parts (unpM_ok (allUnp_mem h r hr))).2
  rw [e] at h1
  exact small_ok h1
theorem inner_is {rs : Recs} {ys : List MV} (hp : plainM ys = rs.map unpM) : plainM ((ys.drop 1).take (rs.length - 2)) = innerM rs := by
  have e : plainM ((ys.drop 1).take (rs.length - 2)) = ((plainM ys).drop 1).take (rs.length - 2) := by simp [plainM, List.map_take]
  rw [e, hp]; rfl

set_option maxHeartbeats 3200000 in
theorem iReadBatch_any (s : List UInt8) (w : World) (hl : s.length ≤ 1099511627776) (ht : Pow10 w) (hg : ErrTy w) :
    Calls Tryz.prog 20 #[.string ⟨s.toArray⟩] w (RdR w (rdB s)) := by
  have HT : Hid (Pow10 w) := ht
  have HG : Hid (ErrTy w) := hg
  have hbd := unb_bd s
  have HBD : Hid _ := hbd.2
  have hn2 := hbd.1
  clear ht hg hbd
  go_enter Tryz.func20, Tryz.ntmps20
  go_wp2_with fail
  refine (iUnblock_any s _ hl).mono ?_
  rintro e w1 ⟨a1, c1, rfl, o1, b1⟩
  by_cases hc : (unb s).2 = 0
  · have HC0 : Hid _ := hc
    rw [hc]
    obtain ⟨rs, hrs⟩ : ∃ rs, (unb s).1 = rs := ⟨_, rfl⟩
    rw [hrs] at o1 hn2 HBD ⊢
    have HRS : Hid _ := hrs
    have HO1 : Hid (w1.ownsRow w.heap.size 9 1 (.slice a1 rs.length c1) rs.length (scells rs)) := o1
    have HCA : Hid (Calls Tryz.prog 65 #[.slice a1 rs.length c1] w1 (UnpA w1 rs)) := unpackAll_any a1 c1 rs w1 (txts_any o1) hn2 HBD.out (HG.out.below b1)
    clear hc hrs o1
    go_wp2_with fail
    refine HCA.out.mono ?_
    rintro e w2 ⟨b2, ⟨hA, rfl⟩ | ⟨hA, v, ys, rfl, hM, hP⟩⟩
    · have HR : Hid (rdB s = ([], 2)) := rdB_2 HC0.out (by rw [HRS.out]; exact hA)
      have q2 := next b1 b2
      clear hA b2 HCA
      go_wp2
      go_ret2
      exact rdR_none HR.out q2
    · have HA : Hid _ := hA
      have HP : Hid _ := hP
      have HM : Hid (MsR w1.heap.size w2 v ys) := hM
      have hyl : ys.length = rs.length := by have := congrArg List.length hP; rwa [plainM_len, List.length_map] at this
      have HYL : Hid _ := hyl
      clear hyl
      have q2 := next b1 b2
      have HO2 : Hid (w2.ownsRow w.heap.size 9 1 (.slice a1 rs.length c1) rs.length (scells rs)) := keepRow HO1.out b2
      clear hA hP hM HCA HO1 b2
      go_wp2_with fail
      refine (batchHead_any _).mono ?_
      rintro e w3 ⟨rfl, f3, b3⟩
      have q3 := next q2 b3
      have HC3 : Hid (Calls Tryz.prog 57 #[.agg #[.int .i64 1644, .slice (some ⟨w2.heap.size + 1, 0, none⟩) 1 1], .int .i64 1] w3 fun e w' => e = .returned (.tuple #[.string ⟨(packL 1644 head1).toArray⟩, .bool true]) ∧ Below w3.heap.size w3 w') := by
        have h5 := placed_any 1644 (some ⟨w2.heap.size + 1, 0, none⟩) 1 headF 1 1 w3 rfl (.inr ⟨_, _, rfl, (show headF.length ≤ 1 by decide), (show 1 ≤ 9223372036854775807 by decide)⟩) f3 (show headF.length ≤ 1048576 by decide) (show sumF headF ≤ 1048576 by decide) (by decide) (HT.out.below q3)
        rw [head_ok, placedL_yes head_ok, head_with] at h5; exact h5
      clear f3
      go_wp2_with fail
      refine HC3.out.mono ?_
      rintro e w4 ⟨rfl, b4⟩
      have q4 := next q3 b4
      have b34 := next b3 b4
      have HO4 : Hid (w4.ownsRow w.heap.size 9 1 (.slice a1 rs.length c1) rs.length (scells rs)) := keepRow HO2.out b34
      have HM4 : Hid (MsR w1.heap.size w4 v ys) := HM.out.below b34
      obtain ⟨H, hH⟩ : ∃ H, packL 1644 head1 = H := ⟨_, rfl⟩
      rw [hH]
      have HHE : Hid _ := hH
      have hs1 := b1.size
      clear HC3 b4 b3 HO2 HM q2 q3 b34 hH
      by_cases h2 : rs.length < 2
      · have h2i : (rs.length : Int) < 2 := by omega
        have HR : Hid (rdB s = ([], 3)) := rdB_3 HC0.out (by rw [HRS.out]; exact HA.out) (by rw [HRS.out]; exact .inl h2)
        go_wp2
        go_ret2
        exact rdR_none HR.out q4
      · have h2i : ¬ (rs.length : Int) < 2 := by omega
        obtain ⟨ga, ca, hva, hca⟩ := txt_own HO4.out (by omega)
        obtain ⟨rfl, rfl⟩ : a1 = some ⟨ga, 0, none⟩ ∧ c1 = ca := by simpa using hva
        have HN0 : Hid (nth (unb s).1 0 = nth rs 0) := by rw [Hid, HRS.out]
        obtain ⟨r0, hr0⟩ : ∃ r, nth rs 0 = r := ⟨_, rfl⟩
        rw [hr0] at hca HN0
        have h0n : (0 : Int) < (rs.length : Int) := by omega
        clear hva hr0 HO4
        cases hq : (r0 == H)
        · have hne : r0 ≠ H := by simpa using hq
          have HR : Hid (rdB s = ([], 3)) := rdB_3 HC0.out (by rw [HRS.out]; exact HA.out) (by rw [HN0.out, HHE.out]; exact .inr hne)
          clear hne
          go_wp2
          go_ret2
          exact rdR_none HR.out q4
        · have heq : r0 = H := by simpa using hq
          have H3 : Hid (¬ ((unb s).1.length < 2 ∨ nth (unb s).1 0 ≠ packL 1644 head1)) := by
            rw [Hid, HN0.out, HHE.out, HRS.out]
            rintro (h | h)
            · exact h2 h
            · exact h heq
          clear heq
          obtain ⟨gm, cm, hvm, hcm1, hcm2⟩ := msR_form HM4.out (by have := HYL.out; omega)
          rw [HYL.out] at hvm hcm1
          subst hvm
          unfold maxLen at hcm2
          have HM5 : Hid (MsR w1.heap.size w4 (.slice (some ⟨gm, 0, none⟩) ys.length cm) ys) := by rw [Hid, HYL.out]; exact HM4.out
          obtain ⟨q, hqe⟩ : ∃ q, rs.length - 2 = q := ⟨_, rfl⟩
          obtain ⟨aS, haS, hsl⟩ := sliceM3 (g := gm) (n := rs.length) (c := cm) (y := (rs.length : Int) - 1) q (by omega) (by omega)
          have hql : ((ys.drop 1).take q).length = q := by have := HYL.out; simp; omega
          have hsm := unp_small HA.out HP.out
          have HIN : Hid (plainM ((ys.drop 1).take q) = innerM rs) := by rw [Hid, ← hqe]; exact inner_is HP.out
          have HB : Hid (Calls Tryz.prog 18 #[.slice aS q q] w4 fun e w' => e = .returned (.tuple #[.string ⟨(batchL (innerM rs)).toArray⟩, .bool (batchOk (innerM rs))]) ∧ Below w4.heap.size w4 w') := by
            have hma : MsgsAt w4 aS ((ys.drop 1).take q) := by
              rcases haS with h | h
              · have e : (ys.drop 1).take q = [] := by rw [h]; rfl
                rw [e]; exact ⟨.inl rfl, fun x hx => by cases hx⟩
              · rw [h]; exact HM5.out.partAt 1 q (by have := HYL.out; omega)
            have hmem : ∀ x ∈ (ys.drop 1).take q, x ∈ ys := fun x hx => List.mem_of_mem_drop (List.mem_of_mem_take hx)
            have h5 := iBatch_any aS q ((ys.drop 1).take q) w4 hma (fun x hx => by have := hsm x (hmem x hx); omega) (fun x hx => good_own (HM5.out.rows x (hmem x hx))) (by omega) (HT.out.below q4)
            rw [hql, HIN.out] at h5; exact h5
          have HPART : Hid (MsO w4 w1.heap.size gm 2 q (fun i => .slice (vAt ys (1 + i)).ao (vAt ys (1 + i)).fs.length (vAt ys (1 + i)).cap) (fun i => (vAt ys (1 + i)).fs.length) (fun i => (vAt ys (1 + i)).kd) (fun i => (vAt ys (1 + i)).fs)) := HM5.out.part 1 q (by have := HYL.out; omega)
          have HSM : Hid (∀ y ∈ ys, y.fs.length ≤ 92) := fun y hy => (hsm y hy).1
          have HAS : Hid _ := haS
          have HIL : Hid ((innerM rs).length = q) := by rw [Hid, innerM_len, hqe]
          have HYP : Hid (((plainM ys).drop 1).take q = innerM rs) := by rw [Hid, HP.out, ← hqe]; rfl
          have HQ1 : Hid (q + 2 = ys.length) := by have := HYL.out; rw [Hid]; omega
          have HDK : Hid (batchOk (innerM (unb s).1) = batchOk (innerM rs) ∧ batchL (innerM (unb s).1) = batchL (innerM rs)) := by rw [HRS.out]; exact ⟨rfl, rfl⟩
          obtain ⟨L, hL⟩ : ∃ L, batchL (innerM rs) = L := ⟨_, rfl⟩
          obtain ⟨K, hK⟩ : ∃ K, batchOk (innerM rs) = K := ⟨_, rfl⟩
          rw [hL, hK] at HB HDK
          clear hsm haS hqe hql HIN HM4 HM5 hL hK hcm1
          go_wp2_with fail
          refine HB.out.mono ?_
          rintro e w5 ⟨rfl, b5⟩
          have q5 := next q4 b5
          have HP5 : Hid _ := HPART.out.below b5
          clear HB b5 HPART q4
          cases K
          · have HR : Hid (rdB s = ([], 4)) := rdB_4 HC0.out (by rw [HRS.out]; exact HA.out) H3.out (by rw [HDK.out.1]; rintro ⟨h, _⟩; cases h)
            go_wp2
            go_ret2
            exact rdR_none HR.out q5
          · cases hls : (L == s)
            · have hne : L ≠ s := by simpa using hls
              have HR : Hid (rdB s = ([], 4)) := rdB_4 HC0.out (by rw [HRS.out]; exact HA.out) H3.out (by rw [HDK.out.2]; rintro ⟨_, h⟩; exact hne h)
              clear hne
              go_wp2
              go_ret2
              exact rdR_none HR.out q5
            · have heq : L = s := by simpa using hls
              have HR : Hid (rdB s = (innerM rs, 0)) := by
                have := rdB_0 HC0.out (by rw [HRS.out]; exact HA.out) H3.out ⟨HDK.out.1, HDK.out.2.trans heq⟩
                rw [HRS.out] at this; exact this
              clear heq
              go_wp2
              go_ret2
              rw [HR.out]
              refine ⟨q5, aS, q, gm, 2, ys, 1, by simp only [HIL.out]; rfl, by simp only [HIL.out]; exact HAS.out, by simp only [HIL.out]; have := HQ1.out; omega, by simp only [HIL.out]; exact HYP.out, HSM.out, ?_⟩
              simp only [HIL.out]
              have O := HP5.out
              exact ⟨fun i hi => ⟨Nat.le_trans hs1 (O.lt i hi).1, (O.lt i hi).2⟩, O.c0, O.c1, O.fr, fun i hi => lowerRow (O.rows i hi) hs1, O.apart, O.pair⟩
  · have HR : Hid (rdB s = ([], 1)) := rdB_1 hc
    obtain ⟨cd, hcd⟩ : ∃ c, (unb s).2 = c := ⟨_, rfl⟩
    have hcb := unb_code s
    rw [hcd] at hc hcb ⊢
    have hci : ((cd : Int) != 0) = true := by simp; omega
    generalize (unb s).1.length = ln
    clear o1 hcd hc
    go_wp2
    go_ret2
    exact rdR_none HR.out b1

end Go.Proofs.YtbncdhfmhokgeaaGreatDoor
