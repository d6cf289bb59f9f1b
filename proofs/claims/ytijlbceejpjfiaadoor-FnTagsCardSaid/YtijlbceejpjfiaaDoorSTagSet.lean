/- The contract of the specification's TagSet. -/
import Derived.Test.YtijlbceejpjfiaaDoorFTagCut
import Derived.Test.YtijlbceejpjfiaaDoorSTagsOk
import Derived.Deep.RegionLaw
namespace Go.Proofs.YtijlbceejpjfiaaDoor
open Go.RowKit

/-- what TagSet hands back: a list of its own and whether it was set; nothing else changed -/
def Sets (w : World) (L : List Fld) (ok : Bool) (e : Ending) (w' : World) : Prop :=
  ∃ g c, e = .returned (.tuple #[.slice (some ⟨g, 0, none⟩) L.length c, .bool ok]) ∧ w'.ownsRow w.heap.size 48 2 (.slice (some ⟨g, 0, none⟩) L.length c) L.length (fcells L) ∧ Below w.heap.size w w'


theorem lit_own2 (w : World) (n : Int) (d : List UInt8) : ((w.alloc (.cells #[.int .i64 n, .string ⟨d.toArray⟩] 48)).alloc (.cells #[] 48)).ownsRow w.heap.size 48 2 (.slice (some ⟨w.heap.size + 1, 0, none⟩) 0 0) 0 [] := by
  have h := lit_own (w.alloc (.cells #[.int .i64 n, .string ⟨d.toArray⟩] 48))
  simp only [World.size_alloc] at h
  exact lowerRow h (by omega)
theorem cut_two {w : World} {g c : Nat} {A B : List Fld} (h : FldsAt w (some ⟨g, 0, none⟩) (A ++ B)) (hc : A.length + B.length ≤ c) :
    FldsAt w (some ⟨g, 0, none⟩) A ∧ ∃ o, (if c = A.length then some (⟨g, 0, none⟩ : Addr) else some ⟨g, A.length * 2, none⟩) = some ⟨g, o, none⟩ ∧ FldsAt w (some ⟨g, o, none⟩) B := by
  have hA : FldsAt w (some ⟨g, 0, none⟩) A := by
    rcases h with h | ⟨b, off, hq, hb, hcl⟩
    · exact .inl (List.append_eq_nil_iff.1 h).1
    · refine .inr ⟨b, off, hq, hb, fun i hi => ?_⟩
      have := hcl i (by simp; omega)
      have e : at0 (A ++ B) i = at0 A i := by simp [at0, List.getD_eq_getElem?_getD, List.getElem?_append_left hi]
      rw [e] at this
      exact this
  refine ⟨hA, ?_⟩
  by_cases hcc : c = A.length
  · have : B = [] := List.eq_nil_of_length_eq_zero (by omega)
    exact ⟨0, by rw [if_pos hcc], .inl this⟩
  · refine ⟨A.length * 2, by rw [if_neg hcc], ?_⟩
    rcases h with h | ⟨b, off, hq, hb, hcl⟩
    · exact .inl (List.append_eq_nil_iff.1 h).2
    · obtain ⟨rfl, rfl⟩ : g = b ∧ 0 = off := by simpa using hq
      refine .inr ⟨g, A.length * 2, rfl, hb, fun i hi => ?_⟩
      have := hcl (A.length + i) (by simp; omega)
      have e : at0 (A ++ B) (A.length + i) = at0 B i := by simp [at0, List.getD_eq_getElem?_getD, List.getElem?_append_right]
      rw [e, Nat.add_mul, Nat.zero_add] at this
      exact this

set_option maxRecDepth 100000 in
set_option maxHeartbeats 3200000 in
theorem sTagSet_any (ao : Option Addr) (cap : Nat) (fs : List Fld) (num : Int) (d : List UInt8) (w : World) (hz : FldsAt w ao fs) (hn : fs.length ≤ 1048576) (hd : ∀ f ∈ fs, f.2.length ≤ 1099511627776) (hl : d.length ≤ 1099511627776) :
    Calls Tryd.prog 16 #[.slice ao fs.length cap, .int .i64 num, .string ⟨d.toArray⟩] w (Sets w (tsetL fs num d) (tsetOk fs num d)) := by
  cases hok : tagsOk fs
  · obtain ⟨e1, e2⟩ := tset_no1 (num := num) (d := d) hok
    rw [e1, e2]
    go_enter Tryd.func16, Tryd.ntmps16
    go_wp2_with fail
    refine (sTagsOk_any _ _ _ _ hz (by omega) hd).mono ?_
    rintro e w1 ⟨rfl, b1⟩
    rw [hok]
    have z1 := hz.below b1
    have HO1 : Hid ((w1.alloc (.cells #[] 48)).ownsRow w1.heap.size 48 2 (.slice (some ⟨w1.heap.size, 0, none⟩) 0 0) 0 []) := lit_own w1
    have HZ1 : Hid (FldsAt (w1.alloc (.cells #[] 48)) ao fs) := z1.below (by go_grown)
    have hs1 := b1.size
    clear e1 e2 hok z1
    go_wp2_with (at_builtin; refine wpList_append_flds _ rfl (.tmp 14) (.tmp 15) rfl w1.heap.size (.slice (some ⟨w1.heap.size, 0, none⟩) 0 0) 0 [] rfl HO1.out ao cap fs rfl HZ1.out (by omega) (by simp) ?_; intro v2 w2 o2 g2 n2)
    have q2 : Below w.heap.size w w2 := b1.trans ((((Below.refl _ _).alloc (Nat.le_refl _) _).grown g2 (by simp) (fun k hk => (HO1.out.lt k hk).1)).mono hs1)
    rw [Nat.zero_add, List.nil_append] at o2
    obtain ⟨g, c, hv⟩ := not_nil o2 (n2 (by simp))
    subst hv
    have HO : Hid _ := lowerRow o2 hs1
    clear o2 g2 n2 HO1 HZ1
    go_wp2
    go_ret2
    exact ⟨_, _, rfl, HO.out, q2⟩
  have HK : Hid _ := hok
  have hd2 : ∀ f ∈ tset fs num d, f.2.length ≤ 1099511627776 := fun f hf => by
    rcases tset_mem hf with h | h
    · exact hd f h
    · rw [h]; exact hl
  go_enter Tryd.func16, Tryd.ntmps16
  go_wp2_with fail
  refine (sTagsOk_any _ _ _ _ hz (by omega) hd).mono ?_
  rintro e w1 ⟨rfl, b1⟩
  rw [HK.out]
  have z1 := hz.below b1
  clear hok
  go_wp2_with fail
  refine (sTagCut_any _ _ _ _ _ z1 (by omega)).mono ?_
  rintro e w2 ⟨g2, c2, rfl, o2, b2⟩
  have q2 := next b1 b2
  have z2 := hz.below q2
  have f2 := flds_of_own o2
  have hrl := List.length_filter_le (neP num) fs
  have HTS : Hid _ := tset_is (num := num) (d := d) HK.out
  have hll := tset_len fs num d
  obtain ⟨rs, hrs⟩ : ∃ rs, fs.filter (neP num) = rs := ⟨_, rfl⟩
  rw [hrs] at o2 f2 hrl HTS ⊢
  have hcap : rs.length ≤ c2 := by
    rcases o2.2 with ⟨h, _⟩ | ⟨g, cp, cur, hv, _, _, hnc, _⟩
    · simp at h
    · obtain ⟨_, rfl⟩ : g2 = g ∧ c2 = cp := by simpa using hv
      exact hnc
  have hcm : c2 ≤ 9223372036854775807 := by
    rcases o2.2 with ⟨h, _⟩ | ⟨g, cp, cur, hv, _, _, _, hm, _⟩
    · simp at h
    · obtain ⟨_, rfl⟩ : g2 = g ∧ c2 = cp := by simpa using hv
      unfold maxLen at hm; omega
  have HC : Hid (∀ i, i < rs.length → w2.cell? ⟨g2, i * 2, none⟩ = some (.int .i64 (at0 rs i).1)) := by
    intro i hi
    rcases f2 with h | ⟨b, off, h, _, hc⟩
    · rw [h] at hi; simp at hi
    · obtain ⟨rfl, rfl⟩ : g2 = b ∧ 0 = off := by simpa using h
      have := (hc i hi).1
      simpa using this
  have HF2 : Hid _ := f2
  have hle := lead_le rs num
  clear b1 b2 z1 hrs o2 f2
  go_wp2
  go_loop [9] (fun i => ∃ k : Nat, k ≤ leadN rs num ∧ i = .int .i64 k) (fun i => rs.length - (intOf i).toNat)
  case atStart => exact ⟨0, Nat.zero_le _, rfl⟩
  case round =>
    obtain ⟨k, hk, rfl⟩ := hrel
    by_cases hlt : k < rs.length
    · have hki : (k : Int) < (rs.length : Int) := by omega
      have hkd : decide ((k : Int) < (rs.length : Int)) = true := decide_eq_true hki
      have hkn : decide (k < rs.length) = true := decide_eq_true hlt
      have c1 := HC.out k hlt
      have hiff := lead_iff rs num k hk hlt
      obtain ⟨n, hnn⟩ : ∃ n, (at0 rs k).1 = n := ⟨_, rfl⟩
      rw [hnn] at c1 hiff
      clear hnn
      by_cases hln : n < num
      · have hk1 := hiff.1 hln
        have hd1 : decide (n < num) = true := decide_eq_true hln
        clear hiff
        go_wp2
        go_round
        case rel => exact ⟨k + 1, by omega, by go_num⟩
        case measure => simp [intOf]; omega
      · have hk1 : k = leadN rs num := by
          have : ¬ k < leadN rs num := fun h => hln (hiff.2 h)
          omega
        have hd1 : decide (n < num) = false := decide_eq_false hln
        have HK1 : Hid _ := hk1
        clear hiff HC hk1
        go_wp2
        have hk1 := HK1.out
        clear hln hd1 hkd hkn hki c1 hlt HK1
        obtain ⟨A, B, hAB, hAl⟩ : ∃ A B, rs = A ++ B ∧ A.length = k := ⟨rs.take k, rs.drop k, (List.take_append_drop _ _).symm, by rw [List.length_take]; omega⟩
        have HR : Hid (A ++ [(num, d)] ++ B = tset fs num d) := by
          have h := HTS.out
          rw [← hk1, hAB, ← hAl, List.take_left, List.drop_left] at h
          exact h
        have hlen : rs.length = A.length + B.length := by rw [hAB, List.length_append]
        rw [hlen] at hcap hrl ⊢
        rw [hAB] at HF2
        subst hAl
        clear HTS hk1 hk hle hAB hlen
        obtain ⟨hA, oB, hif, hB⟩ := cut_two HF2.out hcap
        have HA : Hid (FldsAt w2 (some ⟨g2, 0, none⟩) A) := hA
        have HB : Hid (FldsAt w2 (some ⟨g2, oB, none⟩) B) := hB
        have hs2 := q2.size
        have l1 : (0 : Int) ≤ (A.length : Int) := by omega
        have l2 : (A.length : Int) ≤ (c2 : Int) := by omega
        have l3 : (A.length : Int) ≤ ((A.length + B.length : Nat) : Int) := by omega
        have l4 : A.length ≤ c2 := by omega
        have l7 : (A.length : Int) ≤ (A.length : Int) + (B.length : Int) := by omega
        have l5 : A.length + B.length ≤ 9223372036854775807 := by omega
        have l6 : A.length ≤ 9223372036854775807 := by omega
        clear hA hB HF2
        go_region_law (first
          | (refine step_append_flds rfl (.tmp 35) (.tmp 38) rfl w2.heap.size (.slice (some ⟨w2.heap.size, 0, none⟩) 0 0) 0 [] (by simp [Act.eval]) (keepRow (lit_own w2) (Below.refl _ _).drew) (some ⟨g2, 0, none⟩) c2 A (by simp [Act.eval]) (HA.out.below (by go_grown)) (by omega) (by simp; done) ?_
             intro v3 w3 o3 g3 n3
             rw [Nat.zero_add, List.nil_append] at o3
             obtain ⟨ga, ca, hva⟩ := not_nil o3 (n3 (by simp))
             subst hva
             have q3 : Below w2.heap.size w2 w3 := Below.grown (by go_grown) g3 (by simp; done) (fun k hk => by simp [Value.ownBlock] at hk; omega)
             have HO3 : Hid (w3.ownsRow w2.heap.size 48 2 (.slice (some ⟨ga, 0, none⟩) A.length ca) A.length (fcells A)) := o3
             have hs3 := q3.size
             clear o3 g3 n3)
          | (refine step_append_flds rfl (.tmp 35) (.tmp 38) rfl w2.heap.size (.slice (some ⟨w2.heap.size, 0, none⟩) 0 0) 0 [] (by simp [Act.eval]) (keepRow ((lit_own w2).alloc _) (Below.refl _ _).drew) (some ⟨g2, 0, none⟩) c2 A (by simp [Act.eval]) (HA.out.below (by go_grown)) (by omega) (by simp; omega) ?_
             intro v3 w3 o3 g3 n3
             rw [Nat.zero_add, List.nil_append] at o3
             obtain ⟨ga, ca, hva⟩ := not_nil o3 (n3 (by simp))
             subst hva
             have q3 : Below w2.heap.size w2 w3 := Below.grown (by go_grown) g3 (by simp; omega) (fun k hk => by simp [Value.ownBlock] at hk; omega)
             have C0 : Hid (FldsAt w3 (some ⟨w2.heap.size + 1, 0, none⟩) [(num, d)]) := one_at ((g3.cell_far ⟨w2.heap.size + 1, 0, none⟩ (by simp) (by simp [Value.ownBlock])).trans (by simp [go_sem])) ((g3.cell_far ⟨w2.heap.size + 1, 1, none⟩ (by simp) (by simp [Value.ownBlock])).trans (by simp [go_sem]))
             have HO3 : Hid (w3.ownsRow w2.heap.size 48 2 (.slice (some ⟨ga, 0, none⟩) A.length ca) A.length (fcells A)) := o3
             have hs3 := q3.size
             clear o3 g3 n3)
          | (refine step_append_flds rfl (.tmp 35) (.tmp 38) rfl w2.heap.size (.slice (some ⟨w2.heap.size + 1, 0, none⟩) 0 0) 0 [] (by simp [Act.eval]) (keepRow (lit_own2 w2 num d) (Below.refl _ _).drew) (some ⟨g2, 0, none⟩) c2 A (by simp [Act.eval]) (HA.out.below (by go_grown)) (by omega) (by simp; omega) ?_
             intro v3 w3 o3 g3 n3
             rw [Nat.zero_add, List.nil_append] at o3
             obtain ⟨ga, ca, hva⟩ := not_nil o3 (n3 (by simp))
             subst hva
             have q3 : Below w2.heap.size w2 w3 := Below.grown (by go_grown) g3 (by simp; omega) (fun k hk => by simp [Value.ownBlock] at hk; omega)
             have C0 : Hid (FldsAt w3 (some ⟨w2.heap.size, 0, none⟩) [(num, d)]) := one_at ((g3.cell_far ⟨w2.heap.size, 0, none⟩ (by simp; omega) (by simp [Value.ownBlock])).trans (by simp [go_sem])) ((g3.cell_far ⟨w2.heap.size, 1, none⟩ (by simp; omega) (by simp [Value.ownBlock])).trans (by simp [go_sem]))
             have HO3 : Hid (w3.ownsRow w2.heap.size 48 2 (.slice (some ⟨ga, 0, none⟩) A.length ca) A.length (fcells A)) := o3
             have hs3 := q3.size
             clear o3 g3 n3)
          | (refine step_append_flds rfl (.tmp 39) (.tmp 43) rfl w2.heap.size (.slice (some ⟨ga, 0, none⟩) A.length ca) A.length (fcells A) (by simp [Act.eval]) (keepRow HO3.out (by first | exact Below.refl _ _ | go_grown)) _ 1 [(num, d)] (by simp [Act.eval]; try rfl) (C0.out.below (by first | exact Below.refl _ _ | go_grown)) (by simp; omega) (by first | exact hs3 | (simp; omega)) ?_
             intro v4 w4 o4 g4 n4
             obtain ⟨gb, cb, hvb⟩ := not_nil o4 (n4 (by simp))
             subst hvb
             have q4 : Below w2.heap.size w2 w4 := Below.grown (q3.trans (Below.mono (by first | exact Below.refl _ _ | go_grown) hs3)) g4 (by first | exact hs3 | (simp; omega)) (fun k hk => (HO3.out.lt k hk).1)
             have HO4 : Hid (w4.ownsRow w2.heap.size 48 2 (.slice (some ⟨gb, 0, none⟩) (A.length + 1) cb) (A.length + 1) (fcells A ++ fcells [(num, d)])) := o4
             have hs4 := q4.size
             have HB4 : Hid (FldsAt w4 (some ⟨g2, oB, none⟩) B) := HB.out.below q4
             simp only [List.length_singleton]
             clear o4 g4 n4)
          | (refine step_append_flds rfl (.tmp 39) (.tmp 43) rfl w2.heap.size (.slice (some ⟨ga, 0, none⟩) A.length ca) A.length (fcells A) (by simp [Act.eval]) (keepRow HO3.out (by first | exact Below.refl _ _ | go_grown)) (some ⟨w3.heap.size, 0, none⟩) 1 [(num, d)] (by simp [Act.eval]; try rfl) (one_at (by simp [go_sem]) (by simp [go_sem])) (by simp; omega) (by simp; omega) ?_
             intro v4 w4 o4 g4 n4
             obtain ⟨gb, cb, hvb⟩ := not_nil o4 (n4 (by simp))
             subst hvb
             have q4 : Below w2.heap.size w2 w4 := Below.grown (q3.trans (Below.mono (by first | exact Below.refl _ _ | go_grown) hs3)) g4 (by simp; omega) (fun k hk => (HO3.out.lt k hk).1)
             have HO4 : Hid (w4.ownsRow w2.heap.size 48 2 (.slice (some ⟨gb, 0, none⟩) (A.length + 1) cb) (A.length + 1) (fcells A ++ fcells [(num, d)])) := o4
             have hs4 := q4.size
             have HB4 : Hid (FldsAt w4 (some ⟨g2, oB, none⟩) B) := HB.out.below q4
             simp only [List.length_singleton]
             clear o4 g4 n4)
          | (refine step_append_flds rfl (.tmp 44) (.tmp 47) rfl w2.heap.size (.slice (some ⟨gb, 0, none⟩) (A.length + 1) cb) (A.length + 1) (fcells A ++ fcells [(num, d)]) (by simp [Act.eval]) (keepRow HO4.out (by first | exact Below.refl _ _ | go_grown)) (some ⟨g2, oB, none⟩) (c2 - A.length) B (by simp [Act.eval]) (HB4.out.below (by first | exact Below.refl _ _ | go_grown)) (by omega) (by first | exact hs4 | (simp; omega)) ?_
             intro v5 w5 o5 g5 n5
             obtain ⟨gc, cc, hvc⟩ := not_nil o5 (n5 (by simp))
             subst hvc
             have q5 : Below w2.heap.size w2 w5 := Below.grown (q4.trans (Below.mono (by first | exact Below.refl _ _ | go_grown) hs4)) g5 (by first | exact hs4 | (simp; omega)) (fun k hk => (HO4.out.lt k hk).1)
             rw [← fcells_append, ← fcells_append, HR.out, show A.length + 1 + B.length = (tset fs num d).length by rw [← HR.out]; simp; omega] at o5
             have HO5 : Hid (w5.ownsRow w2.heap.size 48 2 (.slice (some ⟨gc, 0, none⟩) (tset fs num d).length cc) (tset fs num d).length (fcells (tset fs num d))) := o5
             rw [show A.length + 1 + B.length = (tset fs num d).length by rw [← HR.out]; simp; omega]
             clear o5 g5 n5 HO4 HB4 HO3))
        all_goals
          have q6 := next q2 q5
          cases hok2 : tagsOk (tset fs num d)
          · obtain ⟨e1, e2⟩ := tset_no2 hok2
            have E1 : Hid _ := e1
            have E2 : Hid _ := e2
            go_wp2_with fail
            refine (sTagsOk_any _ _ _ _ (flds_any HO5.out) (by omega) hd2).mono ?_
            rintro e w6 ⟨rfl, b6⟩
            rw [hok2]
            have q7 := next q6 b6
            have z7 := hz.below q7
            have HO1 : Hid ((w6.alloc (.cells #[] 48)).ownsRow w6.heap.size 48 2 (.slice (some ⟨w6.heap.size, 0, none⟩) 0 0) 0 []) := lit_own w6
            have HZ1 : Hid (FldsAt (w6.alloc (.cells #[] 48)) ao fs) := z7.below (by go_grown)
            have hs7 := q7.size
            clear e1 e2 hok2 z7 HO5 b6 q6 q5
            go_wp2_with (at_builtin; refine wpList_append_flds _ rfl (.tmp 52) (.tmp 53) rfl w6.heap.size (.slice (some ⟨w6.heap.size, 0, none⟩) 0 0) 0 [] rfl HO1.out ao cap fs rfl HZ1.out (by omega) (by simp) ?_; intro v8 w8 o8 g8 n8)
            have q8 : Below w.heap.size w w8 := q7.trans ((((Below.refl _ _).alloc (Nat.le_refl _) _).grown g8 (by simp) (fun k hk => (HO1.out.lt k hk).1)).mono hs7)
            rw [Nat.zero_add, List.nil_append] at o8
            obtain ⟨gz, cz, hvz⟩ := not_nil o8 (n8 (by simp))
            subst hvz
            have HO : Hid _ := lowerRow o8 hs7
            clear o8 g8 n8 HO1 HZ1
            go_wp2
            go_ret2
            rw [E1.out, E2.out]; exact ⟨_, _, rfl, HO.out, q8⟩
          · obtain ⟨e1, e2⟩ := tset_yes HK.out hok2
            have E1 : Hid _ := e1
            have E2 : Hid _ := e2
            go_wp2_with fail
            refine (sTagsOk_any _ _ _ _ (flds_any HO5.out) (by omega) hd2).mono ?_
            rintro e w6 ⟨rfl, b6⟩
            rw [hok2]
            have q7 := next q6 b6
            have HO : Hid _ := lowerRow (keepRow HO5.out b6) hs2
            clear e1 e2 hok2 HO5 b6 q6 q5
            go_wp2
            go_ret2
            rw [E1.out, E2.out]; exact ⟨_, _, rfl, HO.out, q7⟩
    · have hk1 : k = leadN rs num := by omega
      have hkd : decide ((k : Int) < (rs.length : Int)) = false := decide_eq_false (by omega)
      have HK1 : Hid _ := hk1
      clear HC hk1
      go_wp2
      have hk1 := HK1.out
      clear hlt hkd HK1
      obtain ⟨A, B, hAB, hAl⟩ : ∃ A B, rs = A ++ B ∧ A.length = k := ⟨rs.take k, rs.drop k, (List.take_append_drop _ _).symm, by rw [List.length_take]; omega⟩
      have HR : Hid (A ++ [(num, d)] ++ B = tset fs num d) := by
        have h := HTS.out
        rw [← hk1, hAB, ← hAl, List.take_left, List.drop_left] at h
        exact h
      have hlen : rs.length = A.length + B.length := by rw [hAB, List.length_append]
      rw [hlen] at hcap hrl ⊢
      rw [hAB] at HF2
      subst hAl
      clear HTS hk1 hk hle hAB hlen
      obtain ⟨hA, oB, hif, hB⟩ := cut_two HF2.out hcap
      have HA : Hid (FldsAt w2 (some ⟨g2, 0, none⟩) A) := hA
      have HB : Hid (FldsAt w2 (some ⟨g2, oB, none⟩) B) := hB
      have hs2 := q2.size
      have l1 : (0 : Int) ≤ (A.length : Int) := by omega
      have l2 : (A.length : Int) ≤ (c2 : Int) := by omega
      have l3 : (A.length : Int) ≤ ((A.length + B.length : Nat) : Int) := by omega
      have l4 : A.length ≤ c2 := by omega
      have l7 : (A.length : Int) ≤ (A.length : Int) + (B.length : Int) := by omega
      have l5 : A.length + B.length ≤ 9223372036854775807 := by omega
      have l6 : A.length ≤ 9223372036854775807 := by omega
      clear hA hB HF2
      go_region_law (first
        | (refine step_append_flds rfl (.tmp 35) (.tmp 38) rfl w2.heap.size (.slice (some ⟨w2.heap.size, 0, none⟩) 0 0) 0 [] (by simp [Act.eval]) (keepRow (lit_own w2) (Below.refl _ _).drew) (some ⟨g2, 0, none⟩) c2 A (by simp [Act.eval]) (HA.out.below (by go_grown)) (by omega) (by simp; done) ?_
           intro v3 w3 o3 g3 n3
           rw [Nat.zero_add, List.nil_append] at o3
           obtain ⟨ga, ca, hva⟩ := not_nil o3 (n3 (by simp))
           subst hva
           have q3 : Below w2.heap.size w2 w3 := Below.grown (by go_grown) g3 (by simp; done) (fun k hk => by simp [Value.ownBlock] at hk; omega)
           have HO3 : Hid (w3.ownsRow w2.heap.size 48 2 (.slice (some ⟨ga, 0, none⟩) A.length ca) A.length (fcells A)) := o3
           have hs3 := q3.size
           clear o3 g3 n3)
        | (refine step_append_flds rfl (.tmp 35) (.tmp 38) rfl w2.heap.size (.slice (some ⟨w2.heap.size, 0, none⟩) 0 0) 0 [] (by simp [Act.eval]) (keepRow ((lit_own w2).alloc _) (Below.refl _ _).drew) (some ⟨g2, 0, none⟩) c2 A (by simp [Act.eval]) (HA.out.below (by go_grown)) (by omega) (by simp; omega) ?_
           intro v3 w3 o3 g3 n3
           rw [Nat.zero_add, List.nil_append] at o3
           obtain ⟨ga, ca, hva⟩ := not_nil o3 (n3 (by simp))
           subst hva
           have q3 : Below w2.heap.size w2 w3 := Below.grown (by go_grown) g3 (by simp; omega) (fun k hk => by simp [Value.ownBlock] at hk; omega)
           have C0 : Hid (FldsAt w3 (some ⟨w2.heap.size + 1, 0, none⟩) [(num, d)]) := one_at ((g3.cell_far ⟨w2.heap.size + 1, 0, none⟩ (by simp) (by simp [Value.ownBlock])).trans (by simp [go_sem])) ((g3.cell_far ⟨w2.heap.size + 1, 1, none⟩ (by simp) (by simp [Value.ownBlock])).trans (by simp [go_sem]))
           have HO3 : Hid (w3.ownsRow w2.heap.size 48 2 (.slice (some ⟨ga, 0, none⟩) A.length ca) A.length (fcells A)) := o3
           have hs3 := q3.size
           clear o3 g3 n3)
        | (refine step_append_flds rfl (.tmp 35) (.tmp 38) rfl w2.heap.size (.slice (some ⟨w2.heap.size + 1, 0, none⟩) 0 0) 0 [] (by simp [Act.eval]) (keepRow (lit_own2 w2 num d) (Below.refl _ _).drew) (some ⟨g2, 0, none⟩) c2 A (by simp [Act.eval]) (HA.out.below (by go_grown)) (by omega) (by simp; omega) ?_
           intro v3 w3 o3 g3 n3
           rw [Nat.zero_add, List.nil_append] at o3
           obtain ⟨ga, ca, hva⟩ := not_nil o3 (n3 (by simp))
           subst hva
           have q3 : Below w2.heap.size w2 w3 := Below.grown (by go_grown) g3 (by simp; omega) (fun k hk => by simp [Value.ownBlock] at hk; omega)
           have C0 : Hid (FldsAt w3 (some ⟨w2.heap.size, 0, none⟩) [(num, d)]) := one_at ((g3.cell_far ⟨w2.heap.size, 0, none⟩ (by simp; omega) (by simp [Value.ownBlock])).trans (by simp [go_sem])) ((g3.cell_far ⟨w2.heap.size, 1, none⟩ (by simp; omega) (by simp [Value.ownBlock])).trans (by simp [go_sem]))
           have HO3 : Hid (w3.ownsRow w2.heap.size 48 2 (.slice (some ⟨ga, 0, none⟩) A.length ca) A.length (fcells A)) := o3
           have hs3 := q3.size
           clear o3 g3 n3)
        | (refine step_append_flds rfl (.tmp 39) (.tmp 43) rfl w2.heap.size (.slice (some ⟨ga, 0, none⟩) A.length ca) A.length (fcells A) (by simp [Act.eval]) (keepRow HO3.out (by first | exact Below.refl _ _ | go_grown)) _ 1 [(num, d)] (by simp [Act.eval]; try rfl) (C0.out.below (by first | exact Below.refl _ _ | go_grown)) (by simp; omega) (by first | exact hs3 | (simp; omega)) ?_
           intro v4 w4 o4 g4 n4
           obtain ⟨gb, cb, hvb⟩ := not_nil o4 (n4 (by simp))
           subst hvb
           have q4 : Below w2.heap.size w2 w4 := Below.grown (q3.trans (Below.mono (by first | exact Below.refl _ _ | go_grown) hs3)) g4 (by first | exact hs3 | (simp; omega)) (fun k hk => (HO3.out.lt k hk).1)
           have HO4 : Hid (w4.ownsRow w2.heap.size 48 2 (.slice (some ⟨gb, 0, none⟩) (A.length + 1) cb) (A.length + 1) (fcells A ++ fcells [(num, d)])) := o4
           have hs4 := q4.size
           have HB4 : Hid (FldsAt w4 (some ⟨g2, oB, none⟩) B) := HB.out.below q4
           simp only [List.length_singleton]
           clear o4 g4 n4)
        | (refine step_append_flds rfl (.tmp 39) (.tmp 43) rfl w2.heap.size (.slice (some ⟨ga, 0, none⟩) A.length ca) A.length (fcells A) (by simp [Act.eval]) (keepRow HO3.out (by first | exact Below.refl _ _ | go_grown)) (some ⟨w3.heap.size, 0, none⟩) 1 [(num, d)] (by simp [Act.eval]; try rfl) (one_at (by simp [go_sem]) (by simp [go_sem])) (by simp; omega) (by simp; omega) ?_
           intro v4 w4 o4 g4 n4
           obtain ⟨gb, cb, hvb⟩ := not_nil o4 (n4 (by simp))
           subst hvb
           have q4 : Below w2.heap.size w2 w4 := Below.grown (q3.trans (Below.mono (by first | exact Below.refl _ _ | go_grown) hs3)) g4 (by simp; omega) (fun k hk => (HO3.out.lt k hk).1)
           have HO4 : Hid (w4.ownsRow w2.heap.size 48 2 (.slice (some ⟨gb, 0, none⟩) (A.length + 1) cb) (A.length + 1) (fcells A ++ fcells [(num, d)])) := o4
           have hs4 := q4.size
           have HB4 : Hid (FldsAt w4 (some ⟨g2, oB, none⟩) B) := HB.out.below q4
           simp only [List.length_singleton]
           clear o4 g4 n4)
        | (refine step_append_flds rfl (.tmp 44) (.tmp 47) rfl w2.heap.size (.slice (some ⟨gb, 0, none⟩) (A.length + 1) cb) (A.length + 1) (fcells A ++ fcells [(num, d)]) (by simp [Act.eval]) (keepRow HO4.out (by first | exact Below.refl _ _ | go_grown)) (some ⟨g2, oB, none⟩) (c2 - A.length) B (by simp [Act.eval]) (HB4.out.below (by first | exact Below.refl _ _ | go_grown)) (by omega) (by first | exact hs4 | (simp; omega)) ?_
           intro v5 w5 o5 g5 n5
           obtain ⟨gc, cc, hvc⟩ := not_nil o5 (n5 (by simp))
           subst hvc
           have q5 : Below w2.heap.size w2 w5 := Below.grown (q4.trans (Below.mono (by first | exact Below.refl _ _ | go_grown) hs4)) g5 (by first | exact hs4 | (simp; omega)) (fun k hk => (HO4.out.lt k hk).1)
           rw [← fcells_append, ← fcells_append, HR.out, show A.length + 1 + B.length = (tset fs num d).length by rw [← HR.out]; simp; omega] at o5
           have HO5 : Hid (w5.ownsRow w2.heap.size 48 2 (.slice (some ⟨gc, 0, none⟩) (tset fs num d).length cc) (tset fs num d).length (fcells (tset fs num d))) := o5
           rw [show A.length + 1 + B.length = (tset fs num d).length by rw [← HR.out]; simp; omega]
           clear o5 g5 n5 HO4 HB4 HO3))
      all_goals
        have q6 := next q2 q5
        cases hok2 : tagsOk (tset fs num d)
        · obtain ⟨e1, e2⟩ := tset_no2 hok2
          have E1 : Hid _ := e1
          have E2 : Hid _ := e2
          go_wp2_with fail
          refine (sTagsOk_any _ _ _ _ (flds_any HO5.out) (by omega) hd2).mono ?_
          rintro e w6 ⟨rfl, b6⟩
          rw [hok2]
          have q7 := next q6 b6
          have z7 := hz.below q7
          have HO1 : Hid ((w6.alloc (.cells #[] 48)).ownsRow w6.heap.size 48 2 (.slice (some ⟨w6.heap.size, 0, none⟩) 0 0) 0 []) := lit_own w6
          have HZ1 : Hid (FldsAt (w6.alloc (.cells #[] 48)) ao fs) := z7.below (by go_grown)
          have hs7 := q7.size
          clear e1 e2 hok2 z7 HO5 b6 q6 q5
          go_wp2_with (at_builtin; refine wpList_append_flds _ rfl (.tmp 52) (.tmp 53) rfl w6.heap.size (.slice (some ⟨w6.heap.size, 0, none⟩) 0 0) 0 [] rfl HO1.out ao cap fs rfl HZ1.out (by omega) (by simp) ?_; intro v8 w8 o8 g8 n8)
          have q8 : Below w.heap.size w w8 := q7.trans ((((Below.refl _ _).alloc (Nat.le_refl _) _).grown g8 (by simp) (fun k hk => (HO1.out.lt k hk).1)).mono hs7)
          rw [Nat.zero_add, List.nil_append] at o8
          obtain ⟨gz, cz, hvz⟩ := not_nil o8 (n8 (by simp))
          subst hvz
          have HO : Hid _ := lowerRow o8 hs7
          clear o8 g8 n8 HO1 HZ1
          go_wp2
          go_ret2
          rw [E1.out, E2.out]; exact ⟨_, _, rfl, HO.out, q8⟩
        · obtain ⟨e1, e2⟩ := tset_yes HK.out hok2
          have E1 : Hid _ := e1
          have E2 : Hid _ := e2
          go_wp2_with fail
          refine (sTagsOk_any _ _ _ _ (flds_any HO5.out) (by omega) hd2).mono ?_
          rintro e w6 ⟨rfl, b6⟩
          rw [hok2]
          have q7 := next q6 b6
          have HO : Hid _ := lowerRow (keepRow HO5.out b6) hs2
          clear e1 e2 hok2 HO5 b6 q6 q5
          go_wp2
          go_ret2
          rw [E1.out, E2.out]; exact ⟨_, _, rfl, HO.out, q7⟩

end Go.Proofs.YtijlbceejpjfiaaDoor
