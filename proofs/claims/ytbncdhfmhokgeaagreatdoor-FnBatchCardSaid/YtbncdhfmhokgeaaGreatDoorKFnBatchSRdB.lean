/- The contract of the specification's ReadBatch. -/
import Derived.Test.YtbncdhfmhokgeaaGreatDoorKFnBatchFRdB
import Derived.Test.YtbncdhfmhokgeaaGreatDoorKFnBatchSBat
import Derived.Test.YtbncdhfmhokgeaaGreatDoorKFnBatchSUnp
import Derived.Test.YtbncdhfmhokgeaaGreatDoorKFnBatchSUnb
namespace Go.Proofs.YtbncdhfmhokgeaaGreatDoor
open Go.RowKit
set_option maxRecDepth 100000

/-- what the specification's ReadBatch answers -/
def RdS (w : World) (r : List Msg × Nat) (e : Ending) (w' : World) : Prop :=
  Below w.heap.size w w' ∧ ∃ aL cap xs, e = .returned (.tuple #[.slice aL r.1.length cap, .int .i64 (r.2 : Nat)]) ∧ plainM xs = r.1 ∧ MsgsAt w' aL xs
theorem rdS_none {w w' : World} {r : List Msg × Nat} {k : Nat} {aL : Option Addr} {cap : Nat} (h : r = ([], k)) (hb : Below w.heap.size w w') : RdS w r (.returned (.tuple #[.slice aL 0 cap, .int .i64 (k : Nat)])) w' := by
  subst h
  exact ⟨hb, aL, cap, [], rfl, rfl, .inl rfl, fun x hx => by cases hx⟩
theorem litM (w : World) : (w.alloc (.cells #[] 26)).ownsRow w.heap.size 26 2 (.slice (some ⟨w.heap.size, 0, none⟩) 0 0) 0 (mcells []) := World.ownsRow_lit w #[] 0 (Nat.le_refl _) (by unfold maxLen; omega) rfl
theorem MsR.lit (w : World) : MsR w.heap.size (w.alloc (.cells #[] 26)) (.slice (some ⟨w.heap.size, 0, none⟩) 0 0) [] := ⟨litM w, (fun x hx => by cases hx), (fun x hx => by cases hx), List.Pairwise.nil⟩

set_option maxHeartbeats 3200000 in
theorem sReadBatch_any (s : List UInt8) (w : World) (hl : s.length ≤ 1099511627776) :
    Calls Tryz.prog 25 #[.string ⟨s.toArray⟩] w (RdS w (rdB s)) := by
  have hbd := unb_bd s
  have HBD : Hid _ := hbd.2
  have hn2 := hbd.1
  have bel0 : Below w.heap.size w (w.alloc (.cells #[] 26)) := by go_grown
  clear hbd
  go_enter Tryz.func25, Tryz.ntmps25
  go_wp2_with fail
  refine (sUnblock_any s _ hl).mono ?_
  rintro e w1 ⟨a1, c1, rfl, o1, b1⟩
  have q1 := bel0.trans (b1.mono bel0.size)
  by_cases hc : (unb s).2 = 0
  · have HC0 : Hid _ := hc
    rw [hc]
    obtain ⟨rs, hrs⟩ : ∃ rs, (unb s).1 = rs := ⟨_, rfl⟩
    rw [hrs] at o1 hn2 HBD ⊢
    have HRS : Hid _ := hrs
    have HO1 : Hid (w1.ownsRow w.heap.size 9 1 (.slice a1 rs.length c1) rs.length (scells rs)) := lowerRow o1 (by simp)
    have HZ : Hid (TxtsAt w1 a1 rs) := txts_any o1
    have HML : Hid (MsR w1.heap.size (w1.alloc (.cells #[] 26)) (.slice (some ⟨w1.heap.size, 0, none⟩) 0 0) []) := MsR.lit w1
    clear hc hrs o1 b1 bel0
    go_wp2
    go_loopw [7, 8] (fun s i wr => ∃ (v : Value) (k : Nat) (xs : List MV), v = s ∧ k ≤ rs.length ∧ i = .int .i64 k ∧ allUnp rs = allUnp (rs.drop k) ∧ plainM xs = (rs.take k).map unpM ∧ MsR w1.heap.size wr v xs ∧ Below w1.heap.size w1 wr) (fun _ i _ => rs.length - (intOf i).toNat)
    case atStart => exact ⟨_, 0, [], rfl, Nat.zero_le _, rfl, rfl, rfl, HML.out, by go_grown⟩
    case round =>
      obtain ⟨v, k, xs, hvs, hk, rfl, hok, hpl, hM, hbr⟩ := hrel
      subst hvs
      clear HML
      have hbs := hbr.size
      have HM : Hid (MsR w1.heap.size wr v xs) := hM
      have HOK : Hid _ := hok
      have HPL : Hid _ := hpl
      have hxl : xs.length = k := by
        have := congrArg List.length hpl
        rw [plainM_len, List.length_map, List.length_take] at this
        omega
      clear hM hok hpl
      by_cases hlt : k < rs.length
      · have hki : (k : Int) < (rs.length : Int) := by omega
        have hst := allUnp_step rs k hlt
        have HTK : Hid _ := map_take_nth rs k hlt
        have hrl := HBD.out _ (nth_mem hlt)
        rcases HZ.out.below hbr with h0 | ⟨b, off, rfl, hb, hcell⟩
        · rw [h0] at hlt; simp at hlt
        have c1 := hcell k hlt
        obtain ⟨l, hlE⟩ : ∃ l, nth rs k = l := ⟨_, rfl⟩
        rw [hlE] at c1 hst hrl HTK
        have HCU : Hid (Calls Tryz.prog 16 #[.string ⟨l.toArray⟩] wr fun e w' => UnpR wr l e w') := sUnpack_any l wr (by omega)
        clear hcell hlE
        cases hq : unpOk l
        · rw [hq, Bool.false_and] at hst
          have HBAD : Hid _ := HOK.out.trans hst
          have hcd : ¬ (unp l).1 = 0 := of_decide_eq_false hq
          have HR : Hid (rdB s = ([], 2)) := rdB_2 HC0.out (by rw [HRS.out]; exact HBAD.out)
          clear hst hq HBAD
          go_wp2_with fail
          refine HCU.out.mono ?_
          rintro e w2 ⟨b2, fa, fc, rfl, o2⟩
          have q2 := next (next q1 hbr) b2
          obtain ⟨cd, hcde⟩ : ∃ c, (unp l).1 = c := ⟨_, rfl⟩
          rw [hcde] at hcd ⊢
          generalize (unp l).2.2.1 = kd
          generalize (unp l).2.2.2.length = ln
          generalize (unp l).2.1 = at1
          have hcd2 : (cd != 0) = true := by simpa using hcd
          have Q : Hid (Below w.heap.size w (w2.alloc (.cells #[.int .i64 kd, .slice fa ln fc] 26))) := q2.alloc q2.size _
          clear HCU b2 o2 q2 hcde hcd
          go_wp2
          go_ret2
          exact rdS_none HR.out Q.out
        · rw [hq, Bool.true_and] at hst
          have HOK2 : Hid _ := HOK.out.trans hst
          have hcd : (unp l).1 = 0 := of_decide_eq_true hq
          have HUM : Hid (unpM l = ((unp l).2.2.1, (unp l).2.2.2)) := rfl
          clear hst hq HOK
          go_wp2_with fail
          refine HCU.out.mono ?_
          rintro e w2 ⟨b2, fa, fc, rfl, o2⟩
          have q2 := next hbr b2
          rw [hcd]
          obtain ⟨kd, hkd⟩ : ∃ x, (unp l).2.2.1 = x := ⟨_, rfl⟩
          obtain ⟨fs, hfs⟩ : ∃ x, (unp l).2.2.2 = x := ⟨_, rfl⟩
          rw [hkd, hfs] at HUM
          rw [hfs] at o2
          rw [hkd, hfs]
          generalize (unp l).2.1 = at1
          have bx : Below w2.heap.size w2 (w2.alloc (.cells #[.int .i64 kd, .slice fa fs.length fc] 26)) := by go_grown
          have b3 := next b2 bx
          have q3 := next q2 bx
          have HX : Hid ((w2.alloc (.cells #[.int .i64 kd, .slice fa fs.length fc] 26)).ownsRow wr.heap.size 60 2 (.slice fa fs.length fc) fs.length (fcells fs)) := keepRow o2 bx
          have hs3 := q3.size
          obtain ⟨W, hW⟩ : ∃ W, W = w2.alloc (.cells #[.int .i64 kd, .slice fa fs.length fc] 26) := ⟨_, rfl⟩
          have y0 : W.cell? ⟨w2.heap.size, 0, none⟩ = some (.int .i64 kd) := by rw [hW]; simp
          have y1 : W.cell? ⟨w2.heap.size, 1, none⟩ = some (.slice fa fs.length fc) := by rw [hW]; simp
          rw [← hW] at b3 q3 HX hs3
          have HR3 : Hid (W.ownsRow w1.heap.size 26 2 v xs.length (mcells xs)) := keepRow HM.out.row b3
          have HLT : Hid (∀ j, v.ownBlock = some j → w1.heap.size ≤ j) := fun j hj => (HM.out.row.lt j hj).1
          clear HCU b2 o2 q2 hcd hkd hfs bx
          go_upto_region 10 with fail
          rw [← hW]
          clear hW
          go_wp2_with (at_builtin; refine wpList_append_msg _ rfl (.tmp 45) (.tmp 47) rfl w1.heap.size v xs.length (mcells xs) rfl (HR3.out.alloc _) ⟨kd, fa, fc, fs⟩ ⟨W.heap.size, 0, none⟩ rfl (msg_new W ⟨kd, fa, fc, fs⟩ _) (by omega) (by simp; omega) ?_; intro v5 w5 o5 g5 hv5)
          have q5 : Below w1.heap.size w1 w5 := (q3.alloc hs3 _).grown g5 (by simp; omega) HLT.out
          have HM5 : Hid (MsR w1.heap.size w5 v5 (xs ++ [⟨kd, fa, fc, fs⟩])) := by
            have bW : Below W.heap.size W (W.alloc (.cells #[.int .i64 kd, .slice fa fs.length fc] 26)) := by go_grown
            refine HM.out.snoc (x := ⟨kd, fa, fc, fs⟩) (next b3 bW) (keepRow HX.out bW) hbs o5 g5 ?_
            rcases hv5 with h | h
            · exact .inl h
            · exact .inr ⟨_, h, Nat.le_refl _⟩
          have HP5 : Hid (plainM (xs ++ [⟨kd, fa, fc, fs⟩]) = (rs.take (k + 1)).map unpM) := by
            rw [Hid, HTK.out, ← HPL.out, HUM.out]; simp [plainM, MV.m]
          clear o5 g5 hv5 HR3 HX HM b3
          go_wp2
          go_roundw
          case rel => exact ⟨_, k + 1, _, rfl, by omega, by go_num, HOK2.out, HP5.out, HM5.out, q5⟩
          case measure => simp [intOf]; omega
      · have hke : k = rs.length := by omega
        subst hke
        have hki : ¬ (rs.length : Int) < (rs.length : Int) := by omega
        have HA : Hid (allUnp rs = true) := HOK.out.trans (allUnp_end rs)
        have HP : Hid (plainM xs = rs.map unpM) := by rw [Hid, HPL.out, List.take_length]
        have HYL : Hid _ := hxl
        have q2 := next q1 hbr
        obtain ⟨R, hR⟩ : ∃ R, R = wr := ⟨_, rfl⟩
        subst hR
        have HO2 : Hid (R.ownsRow w.heap.size 9 1 (.slice a1 rs.length c1) rs.length (scells rs)) := keepRow HO1.out hbr
        obtain ⟨va, vc, hv, -⟩ := HM.out.msgs
        rw [hxl] at hv
        subst hv
        clear hxl HPL HOK HO1 HZ
        go_wp2_with fail
        refine (l06Head_any _).mono ?_
        rintro e w3 ⟨rfl, f3, b3⟩
        have q3 := next q2 b3
        have HC3 : Hid (Calls Tryz.prog 10 #[.agg #[.int .i64 1644, .slice (some ⟨R.heap.size + 1, 0, none⟩) 2 2]] w3 fun e w' => e = .returned (.tuple #[.string ⟨(packL 1644 head1).toArray⟩, .bool true]) ∧ Below w3.heap.size w3 w') := by
          have h5 := sPack_any 1644 (some ⟨R.heap.size + 1, 0, none⟩) 2 head1 w3 f3 (by decide) (by decide)
          rw [head1_ok] at h5; exact h5
        clear f3
        go_wp2_with fail
        refine HC3.out.mono ?_
        rintro e w4 ⟨rfl, b4⟩
        have q4 := next q3 b4
        have b34 := next b3 b4
        have HO4 : Hid (w4.ownsRow w.heap.size 9 1 (.slice a1 rs.length c1) rs.length (scells rs)) := keepRow HO2.out b34
        have HM4 : Hid (MsR w1.heap.size w4 (.slice va rs.length vc) xs) := HM.out.below b34
        obtain ⟨H, hH⟩ : ∃ H, packL 1644 head1 = H := ⟨_, rfl⟩
        rw [hH]
        have HHE : Hid _ := hH
        clear HC3 b4 b3 HO2 HM q2 q3 b34 hH
        by_cases h2 : rs.length < 2
        · have h2i : (rs.length : Int) < 2 := by omega
          have HR : Hid (rdB s = ([], 3)) := rdB_3 HC0.out (by rw [HRS.out]; exact HA.out) (by rw [HRS.out]; exact .inl h2)
          go_wp2
          go_ret2
          exact rdS_none HR.out q4
        · have h2i : ¬ (rs.length : Int) < 2 := by omega
          obtain ⟨ga, ca, hva, hca⟩ := txt_own HO4.out (by omega)
          obtain ⟨rfl, rfl⟩ : a1 = some ⟨ga, 0, none⟩ ∧ c1 = ca := by simpa using hva
          have HN0 : Hid (nth (unb s).1 0 = nth rs 0) := by rw [Hid, HRS.out]
          obtain ⟨r0, hr0⟩ : ∃ r, nth rs 0 = r := ⟨_, rfl⟩
          rw [hr0] at hca HN0
          have h0n : (0 : Int) < (rs.length : Int) := by omega
          clear hva hr0 HO4
          cases hq : (r0 == H)
          · have hne : r0 ≠ H := by simpa using hq
            have HR : Hid (rdB s = ([], 3)) := rdB_3 HC0.out (by rw [HRS.out]; exact HA.out) (by rw [HN0.out, HHE.out]; exact .inr hne)
            clear hne
            go_wp2
            go_ret2
            exact rdS_none HR.out q4
          · have heq : r0 = H := by simpa using hq
            have H3 : Hid (¬ ((unb s).1.length < 2 ∨ nth (unb s).1 0 ≠ packL 1644 head1)) := by
              rw [Hid, HN0.out, HHE.out, HRS.out]
              rintro (h | h)
              · exact h2 h
              · exact h heq
            clear heq
            have HM5' : MsR w1.heap.size w4 (.slice va xs.length vc) xs := by rw [HYL.out]; exact HM4.out
            obtain ⟨gm, cm, hvm, hcm1, hcm2⟩ := msR_form HM5' (by have := HYL.out; omega)
            obtain ⟨rfl, rfl⟩ : va = some ⟨gm, 0, none⟩ ∧ vc = cm := by simpa using hvm
            rw [HYL.out] at hcm1
            unfold maxLen at hcm2
            have HM5 : Hid (MsR w1.heap.size w4 (.slice (some ⟨gm, 0, none⟩) xs.length vc) xs) := HM5'
            obtain ⟨q, hqe⟩ : ∃ q, rs.length - 2 = q := ⟨_, rfl⟩
            obtain ⟨aS, haS, hsl⟩ := sliceM2 (g := gm) (n := rs.length) (c := vc) (y := (rs.length : Int) - 1) q (by omega) (by omega)
            have hql : ((xs.drop 1).take q).length = q := by have := HYL.out; simp; omega
            have hsm := unp_small HA.out HP.out
            have HIN : Hid (plainM ((xs.drop 1).take q) = innerM rs) := by rw [Hid, ← hqe]; exact inner_is HP.out
            have HMA : Hid (MsgsAt w4 aS ((xs.drop 1).take q)) := by
              rcases haS with h | h
              · have e : (xs.drop 1).take q = [] := by rw [h]; rfl
                rw [e]; exact ⟨.inl rfl, fun x hx => by cases hx⟩
              · rw [h]; exact HM5.out.partAt 1 q (by have := HYL.out; omega)
            have HB : Hid (Calls Tryz.prog 19 #[.slice aS q (vc - 1)] w4 fun e w' => e = .returned (.tuple #[.string ⟨(batchL (innerM rs)).toArray⟩, .bool (batchOk (innerM rs))]) ∧ Below w4.heap.size w4 w') := by
              have hmem : ∀ x ∈ (xs.drop 1).take q, x ∈ xs := fun x hx => List.mem_of_mem_drop (List.mem_of_mem_take hx)
              have h5 := sBatch_any aS (vc - 1) ((xs.drop 1).take q) w4 HMA.out (fun x hx => by have := hsm x (hmem x hx); omega) (fun x hx => good_own (HM5.out.rows x (hmem x hx))) (by omega)
              rw [hql, HIN.out] at h5; exact h5
            have HIL : Hid ((innerM rs).length = q) := by rw [Hid, innerM_len, hqe]
            have HDK : Hid (batchOk (innerM (unb s).1) = batchOk (innerM rs) ∧ batchL (innerM (unb s).1) = batchL (innerM rs)) := by rw [HRS.out]; exact ⟨rfl, rfl⟩
            obtain ⟨L, hL⟩ : ∃ L, batchL (innerM rs) = L := ⟨_, rfl⟩
            obtain ⟨K, hK⟩ : ∃ K, batchOk (innerM rs) = K := ⟨_, rfl⟩
            rw [hL, hK] at HB HDK
            obtain ⟨X, hX⟩ : ∃ X, (xs.drop 1).take q = X := ⟨_, rfl⟩
            rw [hX] at HIN HMA hql
            have HXL : Hid _ := hql
            have hqb : q ≤ 200 := by omega
            clear hsm haS hqe hql HM4 HM5 HM5' hL hK hcm1 hvm hX
            go_wp2_with fail
            refine HB.out.mono ?_
            rintro e w5 ⟨rfl, b5⟩
            have q5 := next q4 b5
            have HMA5 : Hid (MsgsAt w5 aS X) := HMA.out.below b5
            clear HB b5 HMA q4
            cases K
            · have HR : Hid (rdB s = ([], 4)) := rdB_4 HC0.out (by rw [HRS.out]; exact HA.out) H3.out (by rw [HDK.out.1]; rintro ⟨h, _⟩; cases h)
              go_wp2
              go_ret2
              exact rdS_none HR.out q5
            · cases hls : (L == s)
              · have hne : L ≠ s := by simpa using hls
                have HR : Hid (rdB s = ([], 4)) := rdB_4 HC0.out (by rw [HRS.out]; exact HA.out) H3.out (by rw [HDK.out.2]; rintro ⟨_, h⟩; exact hne h)
                clear hne
                go_wp2
                go_ret2
                exact rdS_none HR.out q5
              · have heq : L = s := by simpa using hls
                have HR : Hid (rdB s = (innerM rs, 0)) := by
                  have := rdB_0 HC0.out (by rw [HRS.out]; exact HA.out) H3.out ⟨HDK.out.1, HDK.out.2.trans heq⟩
                  rw [HRS.out] at this; exact this
                have bL : Below w5.heap.size w5 (w5.alloc (.cells #[] 26)) := by go_grown
                have HM6 : Hid (MsgsAt (w5.alloc (.cells #[] 26)) aS X) := HMA5.out.below bL
                have HL6 : Hid ((w5.alloc (.cells #[] 26)).ownsRow w5.heap.size 26 2 (.slice (some ⟨w5.heap.size, 0, none⟩) 0 0) 0 []) := litM w5
                have HXF : Hid (∀ x ∈ X, FldsAt w5 x.ao x.fs) := HMA5.out.2
                have hXq : X.length = q := HXL.out
                clear heq HMA5 bL
                subst hXq
                go_wp2_with (at_builtin; refine wpList_append_msgs _ rfl (.tmp 83) (.tmp 84) rfl w5.heap.size _ 0 [] rfl HL6.out aS (vc - 1) X rfl HM6.out (by omega) (by simp) ?_; intro v7 w7 o7 g7 _)
                have q7 : Below w5.heap.size w5 w7 := Below.grown (by go_grown) g7 (by simp) (fun j hj => (HL6.out.lt j hj).1)
                obtain ⟨a7, c7, hv7, hm7, -⟩ := msgs_of_own (xs := X) (n := 0 + X.length) o7 (fun x hx => (HXF.out x hx).below q7)
                subst hv7
                have HM7 : Hid (MsgsAt w7 a7 X) := hm7
                have Q7 := next q5 q7
                clear o7 g7 hm7 q7
                go_wp2
                go_ret2
                rw [HR.out]
                exact ⟨Q7, a7, c7, X, by simp only [HIL.out]; rfl, HIN.out, HM7.out⟩
  · have HR : Hid (rdB s = ([], 1)) := rdB_1 hc
    obtain ⟨cd, hcd⟩ : ∃ c, (unb s).2 = c := ⟨_, rfl⟩
    have hcb := unb_code s
    rw [hcd] at hc hcb ⊢
    have hci : ((cd : Int) != 0) = true := by simp; omega
    generalize (unb s).1.length = ln
    clear o1 hcd hc
    go_wp2
    go_ret2
    exact rdS_none HR.out q1

end Go.Proofs.YtbncdhfmhokgeaaGreatDoor
