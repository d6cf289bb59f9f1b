/- The contract of the specification's With. -/
import Derived.Test.YtggaadbcifbdeaaSMsgOk
import Derived.Test.YtggaadbcifbdeaaFWith
import Derived.Deep.AppendLies
import Derived.Deep.DeepCutAuto
namespace Go.Proofs.Ytggaadbcifbdeaa
open Go.RowKit
set_option maxRecDepth 100000

theorem with_fin {kd : Int} {ao : Option Addr} {n cap : Nat} {w u : World} {ok : Bool} {gs fs : List Fld} {base : Nat} (hg : gs = fs) (hn : n = fs.length) (ho : u.ownsRow base 35 2 (.slice ao n cap) n (fcells fs)) (hb : Below w.heap.size w u) (hlt : w.heap.size + 1 < base) :
    Withs w kd gs ok (.returned (.tuple #[.agg #[.int .i64 kd, .slice ao n cap], .bool ok])) ((u.setCell ⟨w.heap.size + 1, 0, none⟩ (.int .i64 kd)).setCell ⟨w.heap.size + 1, 1, none⟩ (.slice ao n cap)) := by
  subst hg; subst hn
  have hne : ∀ (x : Nat), (Value.slice ao gs.length cap).ownBlock = some x → x ≠ w.heap.size + 1 := by
    intro x h
    have := (ho.lt x h).1
    omega
  exact ⟨_, _, rfl, lowerRow (keepSet (keepSet ho _ _ hne) _ _ hne) (by omega), (hb.setCell (by show w.heap.size ≤ w.heap.size + 1; omega) _).setCell (by show w.heap.size ≤ w.heap.size + 1; omega) _⟩

theorem sMessageOk_is {kd : Int} {ao : Option Addr} {cap : Nat} {fs : List Fld} {w : World} {q : Bool} (hq : msgOk kd fs = q) (hz : FldsAt w ao fs) (hn : fs.length ≤ 1048576) (hd : sumF fs ≤ 1048576) :
    Calls Try.prog 20 #[.agg #[.int .i64 kd, .slice ao fs.length cap]] w fun e w' => e = .returned (.bool q) ∧ Below w.heap.size w w' := by
  rw [← hq]; exact sMessageOk_any kd ao cap fs w hz hn hd

theorem one2 (n : Int) (s : List UInt8) : ∀ u ∈ [Value.int .i64 n, .string ⟨s.toArray⟩], u.oneCell' = true := by
  intro u hu
  simp at hu
  rcases hu with rfl | rfl <;> rfl

/-- what stands behind the specification's first copy, in whatever order it was made -/
structure Mid (w W : World) (kd : Int) (ao : Option Addr) (cap g1 cap1 B : Nat) (fs : List Fld) (w2 : World) : Prop where
  k0 : w2.cell? ⟨w.heap.size, 0, none⟩ = some (.int .i64 kd)
  k1 : w2.cell? ⟨w.heap.size, 1, none⟩ = some (.slice ao fs.length cap)
  u0 : w2.cell? ⟨B, 0, none⟩ = some (.int .i64 kd)
  u1 : w2.cell? ⟨B, 1, none⟩ = some (.slice (some ⟨g1, 0, none⟩) fs.length cap1)
  own : w2.ownsRow W.heap.size 35 2 (.slice (some ⟨g1, 0, none⟩) fs.length cap1) fs.length (fcells fs)
  bel : Below W.heap.size W w2

set_option maxHeartbeats 3200000 in
theorem sWith_any (kd : Int) (ao : Option Addr) (cap : Nat) (fs : List Fld) (num : Int) (d : List UInt8) (w : World) (hz : FldsAt w ao fs) (hn : fs.length ≤ 1048576) (hd : sumF fs ≤ 1048576) (hl : d.length ≤ 1099511627776) :
    Calls Try.prog 7 #[.agg #[.int .i64 kd, .slice ao fs.length cap], .int .i64 num, .string ⟨d.toArray⟩] w (Withs w kd (withL kd fs num d) (withOk kd fs num d)) := by
  obtain ⟨i0, hi, hz0, hz1, hz2⟩ := info_parts infoF
  obtain ⟨W, hW⟩ : ∃ W, W = (w.alloc (.cells #[.int .i64 kd, .slice ao fs.length cap] 26)).alloc (.cells #[.int .i64 0, .slice none 0 0] 26) := ⟨_, rfl⟩
  obtain ⟨x0, x1, x2, x3, f2, f3, bel, hsz⟩ := twobox (Below.refl _ ((w.alloc (.cells #[.int .i64 kd, .slice ao fs.length cap] 26)).alloc (.cells #[.int .i64 0, .slice none 0 0] 26)))
  rw [← hW] at x0 x1 x2 x3 f2 f3 bel hsz
  have hzW := hz.below bel
  have HWS : Hid (W.heap.size = w.heap.size + 2) := by rw [Hid, hW]; simp
  go_enter Try.func7, Try.ntmps7
  go_upto_region 1 with fail
  rw [← hW]
  have own1 : (W.alloc (.cells #[] 35)).ownsRow W.heap.size 35 2 (.slice (some ⟨W.heap.size, 0, none⟩) 0 0) 0 [] := World.ownsRow_lit W #[] 0 (Nat.le_refl _) (by unfold maxLen; omega) rfl
  have own3 : ((W.alloc (.cells #[.int .i64 0, .slice none 0 0] 26)).alloc (.cells #[] 35)).ownsRow W.heap.size 35 2 (.slice (some ⟨W.heap.size + 1, 0, none⟩) 0 0) 0 [] := by
    have h := World.ownsRow_lit (base := W.heap.size) (e := 35) (size := 2) (W.alloc (.cells #[.int .i64 0, .slice none 0 0] 26)) #[] 0 (by simp) (by unfold maxLen; omega) rfl
    simpa using h
  have HO1 : Hid ((W.alloc (.cells #[] 35)).ownsRow W.heap.size 35 2 (.slice (some ⟨W.heap.size, 0, none⟩) 0 0) 0 []) := own1
  have HO2 : Hid (((W.alloc (.cells #[] 35)).alloc (.cells #[.int .i64 0, .slice none 0 0] 26)).ownsRow W.heap.size 35 2 (.slice (some ⟨W.heap.size, 0, none⟩) 0 0) 0 []) := own1.alloc _
  have HO3 : Hid (((W.alloc (.cells #[.int .i64 0, .slice none 0 0] 26)).alloc (.cells #[] 35)).ownsRow W.heap.size 35 2 (.slice (some ⟨W.heap.size + 1, 0, none⟩) 0 0) 0 []) := own3
  have HN1 : Hid (FldsAt (W.alloc (.cells #[] 35)) ao fs) := hzW.below (by go_grown)
  have HN2 : Hid (FldsAt ((W.alloc (.cells #[] 35)).alloc (.cells #[.int .i64 0, .slice none 0 0] 26)) ao fs) := hzW.below (by go_grown)
  have HN3 : Hid (FldsAt ((W.alloc (.cells #[.int .i64 0, .slice none 0 0] 26)).alloc (.cells #[] 35)) ao fs) := hzW.below (by go_grown)
  have HXX : Hid _ := And.intro x2 (And.intro x3 (And.intro f2 f3))
  clear own1 own3 hW x2 x3 f2 f3
  have hwn1 : ¬ W.heap.size = w.heap.size := by omega
  have hwn2 : ¬ w.heap.size = W.heap.size := by omega
  have hwn3 : ¬ W.heap.size + 1 = w.heap.size := by omega
  have hwn4 : ¬ w.heap.size = W.heap.size + 1 := by omega
  go_cut [8] (fun v8 wc => ∃ B g1 cap1, v8 = .pointer (some ⟨B, 0, none⟩) ∧ Mid w W kd ao cap g1 cap1 B fs wc)
  case first =>
    go_region_held3 (fun w' => w'.cell? ⟨w.heap.size, 0, none⟩ = some (.int .i64 kd) ∧ w'.cell? ⟨w.heap.size, 1, none⟩ = some (.slice ao fs.length cap)) (first | exact ⟨x0, x1⟩ | go_keep | exact ⟨s0, s1⟩ | (simp [*, go_sem]; done)) ((first | (refine step_append_fl (by rfl) (.tmp 15) (.tmp 17) (by rfl) W.heap.size W.heap.size 0 0 [] (by rfl) HO1.out ao cap fs (by rfl) HN1.out (by omega) (by first | (simp; done) | (simp; omega)) ?_; intro g1 cap1 w1 o1 gr1 hat1; have q1 : Below W.heap.size W w1 := Below.grown (by go_grown) gr1 (by first | (simp; done) | (simp; omega)) (fun k hk => by simp at hk; omega); have s0 := (q1.cell (p := ⟨w.heap.size, 0, none⟩) (by show w.heap.size < W.heap.size; omega)).trans x0; have s1 := (q1.cell (p := ⟨w.heap.size, 1, none⟩) (by show w.heap.size < W.heap.size; omega)).trans x1) | (refine step_append_fl (by rfl) (.tmp 15) (.tmp 17) (by rfl) W.heap.size W.heap.size 0 0 [] (by rfl) HO2.out ao cap fs (by rfl) HN2.out (by omega) (by first | (simp; done) | (simp; omega)) ?_; intro g1 cap1 w1 o1 gr1 hat1; have q1 : Below W.heap.size W w1 := Below.grown (by go_grown) gr1 (by first | (simp; done) | (simp; omega)) (fun k hk => by simp at hk; omega); have s0 := (q1.cell (p := ⟨w.heap.size, 0, none⟩) (by show w.heap.size < W.heap.size; omega)).trans x0; have s1 := (q1.cell (p := ⟨w.heap.size, 1, none⟩) (by show w.heap.size < W.heap.size; omega)).trans x1; have t0 := (gr1.cell_far ⟨W.heap.size + 1, 0, none⟩ (by first | (simp; done) | (simp; omega)) (by first | (simp; done) | (simp; omega))).trans (show _ = some (.int .i64 0) by simp [go_sem]); have t1 := (gr1.cell_far ⟨W.heap.size + 1, 1, none⟩ (by first | (simp; done) | (simp; omega)) (by first | (simp; done) | (simp; omega))).trans (show _ = some (.slice none 0 0) by simp [go_sem]); have t2 := (gr1.frozen_far ⟨W.heap.size + 1, 0, none⟩ (by first | (simp; done) | (simp; omega)) (by first | (simp; done) | (simp; omega))).trans (show _ = false by simp [go_sem]); have t3 := (gr1.frozen_far ⟨W.heap.size + 1, 1, none⟩ (by first | (simp; done) | (simp; omega)) (by first | (simp; done) | (simp; omega))).trans (show _ = false by simp [go_sem])) | (refine step_append_fl (by rfl) (.tmp 15) (.tmp 17) (by rfl) W.heap.size (W.heap.size + 1) 0 0 [] (by rfl) HO3.out ao cap fs (by rfl) HN3.out (by omega) (by first | (simp; done) | (simp; omega)) ?_; intro g1 cap1 w1 o1 gr1 hat1; have q1 : Below W.heap.size W w1 := Below.grown (by go_grown) gr1 (by first | (simp; done) | (simp; omega)) (fun k hk => by simp at hk; omega); have s0 := (q1.cell (p := ⟨w.heap.size, 0, none⟩) (by show w.heap.size < W.heap.size; omega)).trans x0; have s1 := (q1.cell (p := ⟨w.heap.size, 1, none⟩) (by show w.heap.size < W.heap.size; omega)).trans x1; have t0 := (gr1.cell_far ⟨W.heap.size, 0, none⟩ (by first | (simp; done) | (simp; omega)) (by first | (simp; done) | (simp; omega))).trans (show _ = some (.int .i64 0) by simp [go_sem]); have t1 := (gr1.cell_far ⟨W.heap.size, 1, none⟩ (by first | (simp; done) | (simp; omega)) (by first | (simp; done) | (simp; omega))).trans (show _ = some (.slice none 0 0) by simp [go_sem]); have t2 := (gr1.frozen_far ⟨W.heap.size, 0, none⟩ (by first | (simp; done) | (simp; omega)) (by first | (simp; done) | (simp; omega))).trans (show _ = false by simp [go_sem]); have t3 := (gr1.frozen_far ⟨W.heap.size, 1, none⟩ (by first | (simp; done) | (simp; omega)) (by first | (simp; done) | (simp; omega))).trans (show _ = false by simp [go_sem]))))
    · have M : Mid w W kd ao cap g1 cap1 w1.heap.size fs (w1.alloc (.cells #[.int .i64 kd, .slice (some ⟨g1, 0, none⟩) fs.length cap1] 26)) := by
        have hl := q1.size
        refine ⟨?_, ?_, by simp, by simp, ?_, q1.alloc hl _⟩
        · rw [World.cell?_alloc_lt _ _ _ (by show w.heap.size < w1.heap.size; omega)]; exact s0
        · rw [World.cell?_alloc_lt _ _ _ (by show w.heap.size < w1.heap.size; omega)]; exact s1
        · have := o1.alloc (.cells #[.int .i64 kd, .slice (some ⟨g1, 0, none⟩) fs.length cap1] 26)
          simpa using this
      go_wp2_with fail
      go_meet
      exact ⟨_, _, _, rfl, M⟩
    · have hgB : g1 ≠ W.heap.size + 1 := by simp at hat1; omega
      have M : Mid w W kd ao cap g1 cap1 (W.heap.size + 1) fs ((w1.setCell ⟨W.heap.size + 1, 0, none⟩ (.int .i64 kd)).setCell ⟨W.heap.size + 1, 1, none⟩ (.slice (some ⟨g1, 0, none⟩) fs.length cap1)) := by
        refine ⟨?_, ?_, ?_, ?_, ?_, (q1.setCell (by show W.heap.size ≤ W.heap.size + 1; omega) _).setCell (by show W.heap.size ≤ W.heap.size + 1; omega) _⟩
        · simp [go_sem, *]
        · simp [go_sem, *]
        · simp [go_sem, *]
        · simp [go_sem, *]
        · have hne : ∀ (x : Nat), (Value.slice (some ⟨g1, 0, none⟩) fs.length cap1).ownBlock = some x → x ≠ W.heap.size + 1 := by
            intro x h; simp [Value.ownBlock] at h; omega
          have := keepSet (keepSet o1 ⟨W.heap.size + 1, 0, none⟩ (.int .i64 kd) (by simpa using hne)) ⟨W.heap.size + 1, 1, none⟩ (.slice (some ⟨g1, 0, none⟩) fs.length cap1) (by simpa using hne)
          simpa using this
      go_wp2_with fail
      go_meet
      exact ⟨_, _, _, rfl, M⟩
    · have hgB : g1 ≠ W.heap.size := by simp at hat1; omega
      have M : Mid w W kd ao cap g1 cap1 (W.heap.size) fs ((w1.setCell ⟨W.heap.size, 0, none⟩ (.int .i64 kd)).setCell ⟨W.heap.size, 1, none⟩ (.slice (some ⟨g1, 0, none⟩) fs.length cap1)) := by
        refine ⟨?_, ?_, ?_, ?_, ?_, (q1.setCell (by show W.heap.size ≤ W.heap.size; omega) _).setCell (by show W.heap.size ≤ W.heap.size; omega) _⟩
        · simp [go_sem, *]
        · simp [go_sem, *]
        · simp [go_sem, *]
        · simp [go_sem, *]
        · have hne : ∀ (x : Nat), (Value.slice (some ⟨g1, 0, none⟩) fs.length cap1).ownBlock = some x → x ≠ W.heap.size := by
            intro x h; simp [Value.ownBlock] at h; omega
          have := keepSet (keepSet o1 ⟨W.heap.size, 0, none⟩ (.int .i64 kd) (by simpa using hne)) ⟨W.heap.size, 1, none⟩ (.slice (some ⟨g1, 0, none⟩) fs.length cap1) (by simpa using hne)
          simpa using this
      go_wp2_with fail
      go_meet
      exact ⟨_, _, _, rfl, M⟩
  case rest =>
    obtain ⟨B, g1, cap1, rfl, M⟩ := hcut
    obtain ⟨w2, hw2⟩ : ∃ x, x = wc := ⟨_, rfl⟩
    subst hw2
    have hws := HWS.out
    have hB : B < w2.heap.size := World.block_lt_of_cell? w2 _ M.u0
    have hs2 := M.bel.size
    have bel2 : Below w.heap.size w w2 := bel.trans (M.bel.mono (by omega))
    have hz2' := hz.below bel2
    have y2 := (M.bel.cell (p := ⟨w.heap.size + 1, 0, none⟩) (by show w.heap.size + 1 < W.heap.size; omega)).trans HXX.out.1
    have y3 := (M.bel.cell (p := ⟨w.heap.size + 1, 1, none⟩) (by show w.heap.size + 1 < W.heap.size; omega)).trans HXX.out.2.1
    have z2 := (M.bel.frozen (p := ⟨w.heap.size + 1, 0, none⟩) (by show w.heap.size + 1 < W.heap.size; omega)).trans HXX.out.2.2.1
    have z3 := (M.bel.frozen (p := ⟨w.heap.size + 1, 1, none⟩) (by show w.heap.size + 1 < W.heap.size; omega)).trans HXX.out.2.2.2
    have k0 := M.k0
    have k1 := M.k1
    have u0 := M.u0
    have u1 := M.u1
    have HOWN : Hid _ := M.own
    have HSZ : Hid (w.heap.size + 1 < W.heap.size ∧ W.heap.size ≤ w2.heap.size) := ⟨by omega, hs2⟩
    have hsw : w.heap.size + 1 < w2.heap.size := by omega
    clear hws hs2 HWS M HXX HO1 HO2 HO3 HN1 HN2 HN3 x0 x1 hzW hsz bel hwn1 hwn2 hwn3 hwn4
    have bF : Below w2.heap.size w2 (w2.alloc (.cells #[.int .i64 num, .string ⟨d.toArray⟩] 35)) := by go_grown
    have kF0 := (bF.cell (p := ⟨w.heap.size, 0, none⟩) (by show w.heap.size < w2.heap.size; omega)).trans k0
    have kF1 := (bF.cell (p := ⟨w.heap.size, 1, none⟩) (by show w.heap.size < w2.heap.size; omega)).trans k1
    cases hm : msgOk kd fs
    · have HM : Hid _ := hm
      have hno : withOk kd fs num d = false := by rw [withOk, hm, Bool.and_false]
      have HL : Hid _ := withL_no hno
      have HNO : Hid _ := hno
      clear hm hno
      go_wp2_with fail
      refine (sMessageOk_is HM.out (hz2'.below bF) hn hd).mono ?_
      rintro e w3 ⟨rfl, b3⟩
      have q3 : Below w2.heap.size w2 w3 := bF.trans (b3.mono (by simp))
      have u0 := (q3.cell (p := ⟨B, 0, none⟩) hB).trans u0
      have u1 := (q3.cell (p := ⟨B, 1, none⟩) hB).trans u1
      have y2 := (q3.cell (p := ⟨w.heap.size + 1, 0, none⟩) hsw).trans y2
      have y3 := (q3.cell (p := ⟨w.heap.size + 1, 1, none⟩) hsw).trans y3
      have z2 := (q3.frozen (p := ⟨w.heap.size + 1, 0, none⟩) hsw).trans z2
      have z3 := (q3.frozen (p := ⟨w.heap.size + 1, 1, none⟩) hsw).trans z3
      have HE : Hid _ := with_fin (kd := kd) (ok := false) HL.out rfl (keepRow HOWN.out q3) (next bel2 q3) HSZ.out.1
      clear b3 q3 bF
      go_wp2
      refine bodyPost_ret (by simp [results, Try.results7, go_sem, y2, y3]; try rfl) rfl ?_
      rw [HNO.out]; exact HE.out
    · have HM : Hid _ := hm
      cases hf : fieldOk num d
      · have HF : Hid _ := hf
        have hno : withOk kd fs num d = false := by rw [withOk, hf, Bool.false_and]
        have HL : Hid _ := withL_no hno
        have HNO : Hid _ := hno
        clear hm hno hf
        go_wp2_with fail
        refine (sMessageOk_is HM.out (hz2'.below bF) hn hd).mono ?_
        rintro e w3 ⟨rfl, b3⟩
        have q3 : Below w2.heap.size w2 w3 := bF.trans (b3.mono (by simp))
        have v0 := (b3.cell (p := ⟨w2.heap.size, 0, none⟩) (by simp)).trans (show _ = some (.int .i64 num) by simp)
        have v1 := (b3.cell (p := ⟨w2.heap.size, 1, none⟩) (by simp)).trans (show _ = some (.string ⟨d.toArray⟩) by simp)
        have hs3 := q3.size
        clear b3
        go_wp2_with fail
        refine (sFieldOk_is HF.out _ hl).mono ?_
        rintro e w4 ⟨rfl, b4⟩
        have q4 := next q3 b4
        have u0 := (q4.cell (p := ⟨B, 0, none⟩) hB).trans u0
        have u1 := (q4.cell (p := ⟨B, 1, none⟩) hB).trans u1
        have y2 := (q4.cell (p := ⟨w.heap.size + 1, 0, none⟩) hsw).trans y2
        have y3 := (q4.cell (p := ⟨w.heap.size + 1, 1, none⟩) hsw).trans y3
        have z2 := (q4.frozen (p := ⟨w.heap.size + 1, 0, none⟩) hsw).trans z2
        have z3 := (q4.frozen (p := ⟨w.heap.size + 1, 1, none⟩) hsw).trans z3
        have HE : Hid _ := with_fin (kd := kd) (ok := false) HL.out rfl (keepRow HOWN.out q4) (next bel2 q4) HSZ.out.1
        clear q3 b4 q4 bF v0 v1
        go_wp2
        refine bodyPost_ret (by simp [results, Try.results7, go_sem, y2, y3]; try rfl) rfl ?_
        rw [HNO.out]; exact HE.out
      · have HF : Hid _ := hf
        have hok : withOk kd fs num d = true := by rw [withOk, hf, hm]; rfl
        have HL : Hid _ := withL_yes hok
        have HOK : Hid _ := hok
        have HP : Hid (okF 1 fs = true) := by have := hm; simp only [msgOk, Bool.and_eq_true] at this; exact this.2
        clear hm hok hf
        go_wp2_with fail
        refine (sMessageOk_is HM.out (hz2'.below bF) hn hd).mono ?_
        rintro e w3 ⟨rfl, b3⟩
        have q3 : Below w2.heap.size w2 w3 := bF.trans (b3.mono (by simp))
        have v0 := (b3.cell (p := ⟨w2.heap.size, 0, none⟩) (by simp)).trans (show _ = some (.int .i64 num) by simp)
        have v1 := (b3.cell (p := ⟨w2.heap.size, 1, none⟩) (by simp)).trans (show _ = some (.string ⟨d.toArray⟩) by simp)
        have hs3 : w2.heap.size < w3.heap.size := World.block_lt_of_cell? w3 _ v0
        clear b3
        go_wp2_with fail
        refine (sFieldOk_is HF.out _ hl).mono ?_
        rintro e w4 ⟨rfl, b4⟩
        have q4 := next q3 b4
        have v0 := (b4.cell (p := ⟨w2.heap.size, 0, none⟩) hs3).trans v0
        have v1 := (b4.cell (p := ⟨w2.heap.size, 1, none⟩) hs3).trans v1
        have hs4 : w2.heap.size < w4.heap.size := World.block_lt_of_cell? w4 _ v0
        have k0 := (q4.cell (p := ⟨w.heap.size, 0, none⟩) (by show w.heap.size < w2.heap.size; omega)).trans k0
        have k1 := (q4.cell (p := ⟨w.heap.size, 1, none⟩) (by show w.heap.size < w2.heap.size; omega)).trans k1
        have y2 := (q4.cell (p := ⟨w.heap.size + 1, 0, none⟩) hsw).trans y2
        have y3 := (q4.cell (p := ⟨w.heap.size + 1, 1, none⟩) hsw).trans y3
        have z2 := (q4.frozen (p := ⟨w.heap.size + 1, 0, none⟩) hsw).trans z2
        have z3 := (q4.frozen (p := ⟨w.heap.size + 1, 1, none⟩) hsw).trans z3
        have bel4 := next bel2 q4
        have hz4 := hz.below bel4
        have HC : Hid (∀ i, i < fs.length → ∃ b off, ao = some ⟨b, off, none⟩ ∧ b < w4.heap.size ∧ w4.cell? ⟨b, off + i * 2, none⟩ = some (.int .i64 (at0 fs i).1) ∧ w4.cell? ⟨b, off + i * 2 + 1, none⟩ = some (.string ⟨(at0 fs i).2.toArray⟩)) := by
          rcases hz4 with rfl | ⟨b, off, rfl, hb, hcell⟩
          · intro i hi; simp at hi
          · exact fun i hi => ⟨b, off, rfl, hb, hcell i hi⟩
        have HXY : Hid _ := And.intro k0 (And.intro k1 (And.intro y2 (And.intro y3 (And.intro z2 (And.intro z3 (And.intro v0 v1))))))
        have ownE : (w4.alloc (.cells #[] 35)).ownsRow w4.heap.size 35 2 (.slice (some ⟨w4.heap.size, 0, none⟩) 0 0) 0 (fcells (withK fs num d 0)) := World.ownsRow_lit w4 #[] 0 (Nat.le_refl _) (by unfold maxLen; omega) rfl
        have HOE : Hid ((w4.alloc (.cells #[] 35)).ownsRow w4.heap.size 35 2 (.slice (some ⟨w4.heap.size, 0, none⟩) 0 0) 0 (fcells (withK fs num d 0))) := ownE
        have HB4 : Hid _ := bel4
        have HS4 : Hid (w.heap.size + 1 < w4.heap.size) := by rw [Hid]; omega
        clear q3 b4 q4 bF hz2' hz4 HOWN ownE u0 u1 bel2
        go_wp2
        go_loopw [10, 11, 12] (fun v p i wr => ∃ k : Nat, k ≤ fs.length ∧ i = .int .i64 k ∧ p = .bool (putK fs num k) ∧ wr.ownsRow w4.heap.size 35 2 v (withK fs num d k).length (fcells (withK fs num d k)) ∧ Below w4.heap.size w4 wr) (fun _ _ i _ => fs.length - (intOf i).toNat)
        case atStart => exact ⟨0, Nat.zero_le _, rfl, rfl, HOE.out, by go_grown⟩
        case round =>
          obtain ⟨k, hk, rfl, rfl, ho, hbr⟩ := hrel
          clear k0 k1 y2 y3 z2 z3 v0 v1
          have hbs := hbr.size
          have k1 := (hbr.cell (p := ⟨w.heap.size, 1, none⟩) (by show w.heap.size < w4.heap.size; have := HS4.out; omega)).trans HXY.out.2.1
          by_cases hlt : k < fs.length
          · obtain ⟨b, off, rfl, hb, e1, e2⟩ := HC.out k hlt
            have c1 : wr.cell? ⟨b, off + k * 2, none⟩ = some (.int .i64 (at0 fs k).1) := (hbr.cell (p := ⟨b, off + k * 2, none⟩) hb).trans e1
            have c2 : wr.cell? ⟨b, off + k * 2 + 1, none⟩ = some (.string ⟨(at0 fs k).2.toArray⟩) := (hbr.cell (p := ⟨b, off + k * 2 + 1, none⟩) hb).trans e2
            have E1 : Hid _ := e1
            have E2 : Hid _ := e2
            clear e1 e2
            have hki : (k : Int) < (fs.length : Int) := by omega
            have hwl := withK_len fs num d k
            have HO : Hid (wr.ownsRow w4.heap.size 35 2 _ (withK fs num d k).length (fcells (withK fs num d k))) := ho
            obtain ⟨⟨n, s⟩, hf⟩ : ∃ f, at0 fs k = f := ⟨_, rfl⟩
            cases hp : putK fs num k
            · by_cases hnn : n < num
              · have hw := withK_low (d := d) hp hlt (by rw [hf]; exact hnn)
                rw [hf] at c1 c2 hw
                simp only at c1 c2
                have HW : Hid _ := hw.2
                have HPK : Hid _ := hw.1
                have hq1 : decide (num ≤ n) = false := by simp; omega
                have hq2 : (n != num) = true := by simp; omega
                clear hw hf ho hp
                go_wp2_with (at_builtin; refine wpList_append_own _ rfl (.tmp 64) (.tmp 70) 24 rfl w4.heap.size 35 i0 _ 2 24 Try.underlying24 hi hz0 hz1 hz2 rfl (by decide) _ _ _ rfl (HO.out.alloc _) ⟨wr.heap.size, 0, none⟩ 1 1 [.int .i64 n, .string ⟨s.toArray⟩] rfl rfl (World.news_of_block (heap_alloc_new wr _)) (one2 n s) (by unfold maxLen; omega) (by omega) (by simp; omega) ?_; intro v5 w5 o5 g5 _)
                have HR : Hid (w5.ownsRow w4.heap.size 35 2 v5 (withK fs num d (k + 1)).length (fcells (withK fs num d (k + 1)))) := by
                  rw [Hid, HW.out, List.length_append, fcells_append]; exact o5
                have hb5 : Below w4.heap.size w4 w5 := (hbr.alloc hbs _).grown g5 (by simp; omega) (fun j hj => (HO.out.lt j hj).1)
                clear o5 g5 HO
                go_wp2
                go_roundw
                case rel => exact ⟨k + 1, by omega, by go_num, by rw [HPK.out], HR.out, hb5⟩
                case measure => simp [intOf]; omega
              · have hw := withK_here (d := d) hp hlt (by rw [hf]; simp only; omega)
                rw [hf] at c1 c2 hw
                simp only at c1 c2 hw
                have HPK : Hid _ := hw.1
                have hq1 : decide (num ≤ n) = true := by simp; omega
                have v0 := (hbr.cell (p := ⟨w2.heap.size, 0, none⟩) hs4).trans HXY.out.2.2.2.2.2.2.1
                have v1 := (hbr.cell (p := ⟨w2.heap.size, 1, none⟩) hs4).trans HXY.out.2.2.2.2.2.2.2
                have CC : Hid (w4.cell? ⟨b, off + k * 2, none⟩ = some (.int .i64 n)) := by have := E1.out; rw [hf] at this; exact this
                have CD : Hid (w4.cell? ⟨b, off + k * 2 + 1, none⟩ = some (.string ⟨s.toArray⟩)) := by have := E2.out; rw [hf] at this; exact this
                by_cases hne' : n = num
                · have hq2 : (n != num) = false := by simpa using hne'
                  have HW : Hid (withK fs num d (k + 1) = withK fs num d k ++ [(num, d)]) := by rw [Hid, hw.2, if_neg (by simpa using hne')]; simp
                  clear hw hf ho hp hne'
                  go_wp2_with (at_builtin; refine wpList_append_own _ rfl (.tmp 52) (.tmp 54) 24 rfl w4.heap.size 35 i0 _ 2 24 Try.underlying24 hi hz0 hz1 hz2 rfl (by decide) _ _ _ rfl (HO.out.alloc _) ⟨wr.heap.size, 0, none⟩ 1 1 [.int .i64 num, .string ⟨d.toArray⟩] rfl rfl (World.news_of_block (heap_alloc_new wr _)) (one2 num d) (by unfold maxLen; omega) (by omega) (by simp; omega) ?_; intro v5 w5 o5 g5 _; have hb5 : Below w4.heap.size w4 w5 := (hbr.alloc hbs _).grown g5 (by simp; omega) (fun j hj => (HO.out.lt j hj).1); have k15 := (hb5.cell (p := ⟨w.heap.size, 1, none⟩) (by show w.heap.size < w4.heap.size; have := HS4.out; omega)).trans HXY.out.2.1; have c15 := (hb5.cell (p := ⟨b, off + k * 2, none⟩) hb).trans CC.out)
                  have HR : Hid (w5.ownsRow w4.heap.size 35 2 v5 (withK fs num d (k + 1)).length (fcells (withK fs num d (k + 1)))) := by
                    rw [Hid, HW.out, List.length_append, fcells_append]; exact o5
                  clear o5 g5 HO
                  go_wp2
                  go_roundw
                  case rel => exact ⟨k + 1, by omega, by go_num, by rw [HPK.out], HR.out, hb5⟩
                  case measure => simp [intOf]; omega
                · have hq2 : (n != num) = true := by simpa using hne'
                  have HW : Hid (withK fs num d (k + 1) = withK fs num d k ++ [(num, d)] ++ [(n, s)]) := by rw [Hid, hw.2, if_pos hne']
                  clear hw hf ho hp hne'
                  go_wp2_with (at_builtin; first | (refine wpList_append_own _ rfl (.tmp 52) (.tmp 54) 24 rfl w4.heap.size 35 i0 _ 2 24 Try.underlying24 hi hz0 hz1 hz2 rfl (by decide) _ _ _ rfl (HO.out.alloc _) ⟨wr.heap.size, 0, none⟩ 1 1 [.int .i64 num, .string ⟨d.toArray⟩] rfl rfl (World.news_of_block (heap_alloc_new wr _)) (one2 num d) (by unfold maxLen; omega) (by omega) (by simp; omega) ?_; intro v5 w5 o5 g5 _; have hb5 : Below w4.heap.size w4 w5 := (hbr.alloc hbs _).grown g5 (by simp; omega) (fun j hj => (HO.out.lt j hj).1); have k15 := (hb5.cell (p := ⟨w.heap.size, 1, none⟩) (by show w.heap.size < w4.heap.size; have := HS4.out; omega)).trans HXY.out.2.1; have c15 := (hb5.cell (p := ⟨b, off + k * 2, none⟩) hb).trans CC.out; have c25 := (hb5.cell (p := ⟨b, off + k * 2 + 1, none⟩) hb).trans CD.out; have HO5 : Hid (w5.ownsRow w4.heap.size 35 2 v5 ((withK fs num d k).length + 1) (fcells (withK fs num d k) ++ [.int .i64 num, .string ⟨d.toArray⟩])) := o5; have hbs5 := hb5.size; clear o5 g5) | (refine wpList_append_own _ rfl (.tmp 64) (.tmp 70) 24 rfl w4.heap.size 35 i0 _ 2 24 Try.underlying24 hi hz0 hz1 hz2 rfl (by decide) _ _ _ rfl (HO5.out.alloc _) ⟨w5.heap.size, 0, none⟩ 1 1 [.int .i64 n, .string ⟨s.toArray⟩] rfl rfl (World.news_of_block (heap_alloc_new w5 _)) (one2 n s) (by unfold maxLen; omega) (by omega) (by simp; omega) ?_; intro v6 w6 o6 g6 _))
                  have HR : Hid (w6.ownsRow w4.heap.size 35 2 v6 (withK fs num d (k + 1)).length (fcells (withK fs num d (k + 1)))) := by
                    rw [Hid, HW.out, List.length_append, List.length_append, fcells_append, fcells_append]; exact o6
                  have hb6 : Below w4.heap.size w4 w6 := (hb5.alloc hbs5 _).grown g6 (by simp; omega) (fun j hj => (HO5.out.lt j hj).1)
                  clear o6 g6 HO HO5
                  go_wp2
                  go_roundw
                  case rel => exact ⟨k + 1, by omega, by go_num, by rw [HPK.out], HR.out, hb6⟩
                  case measure => simp [intOf]; omega
            · have hw := withK_high (d := d) HP.out hp hlt
              rw [hf] at c1 c2 hw
              simp only at c1 c2 hw
              have hq2 : (n != num) = true := by have := hw.1; simp; omega
              have HW : Hid _ := hw.2.2
              have HPK : Hid _ := hw.2.1
              clear hw hf ho hp
              go_wp2_with (at_builtin; refine wpList_append_own _ rfl (.tmp 64) (.tmp 70) 24 rfl w4.heap.size 35 i0 _ 2 24 Try.underlying24 hi hz0 hz1 hz2 rfl (by decide) _ _ _ rfl (HO.out.alloc _) ⟨wr.heap.size, 0, none⟩ 1 1 [.int .i64 n, .string ⟨s.toArray⟩] rfl rfl (World.news_of_block (heap_alloc_new wr _)) (one2 n s) (by unfold maxLen; omega) (by omega) (by simp; omega) ?_; intro v5 w5 o5 g5 _)
              have HR : Hid (w5.ownsRow w4.heap.size 35 2 v5 (withK fs num d (k + 1)).length (fcells (withK fs num d (k + 1)))) := by
                rw [Hid, HW.out, List.length_append, fcells_append]; exact o5
              have hb5 : Below w4.heap.size w4 w5 := (hbr.alloc hbs _).grown g5 (by simp; omega) (fun j hj => (HO.out.lt j hj).1)
              clear o5 g5 HO
              go_wp2
              go_roundw
              case rel => exact ⟨k + 1, by omega, by go_num, by rw [HPK.out], HR.out, hb5⟩
              case measure => simp [intOf]; omega
          · have hke : k = fs.length := by omega
            subst hke
            have hend := withK_end fs num d
            have hwl := withK_len fs num d fs.length
            have hs4' := HS4.out
            have k0 := (hbr.cell (p := ⟨w.heap.size, 0, none⟩) (by show w.heap.size < w4.heap.size; omega)).trans HXY.out.1
            have y2 := (hbr.cell (p := ⟨w.heap.size + 1, 0, none⟩) hs4').trans HXY.out.2.2.1
            have y3 := (hbr.cell (p := ⟨w.heap.size + 1, 1, none⟩) hs4').trans HXY.out.2.2.2.1
            have z2 := (hbr.frozen (p := ⟨w.heap.size + 1, 0, none⟩) hs4').trans HXY.out.2.2.2.2.1
            have z3 := (hbr.frozen (p := ⟨w.heap.size + 1, 1, none⟩) hs4').trans HXY.out.2.2.2.2.2.1
            have hki : ¬ (fs.length : Int) < (fs.length : Int) := by omega
            cases hp : putK fs num fs.length
            · have v0 := (hbr.cell (p := ⟨w2.heap.size, 0, none⟩) hs4).trans HXY.out.2.2.2.2.2.2.1
              have v1 := (hbr.cell (p := ⟨w2.heap.size, 1, none⟩) hs4).trans HXY.out.2.2.2.2.2.2.2
              rw [hp, if_neg (by decide)] at hend
              have HED : Hid _ := hend
              have HO : Hid (wr.ownsRow w4.heap.size 35 2 _ (withK fs num d fs.length).length (fcells (withK fs num d fs.length))) := ho
              clear ho hend hp
              go_wp2_with (at_builtin; refine wpList_append_own _ rfl (.tmp 74) (.tmp 76) 24 rfl w4.heap.size 35 i0 _ 2 24 Try.underlying24 hi hz0 hz1 hz2 rfl (by decide) _ _ _ rfl (HO.out.alloc _) ⟨wr.heap.size, 0, none⟩ 1 1 [.int .i64 num, .string ⟨d.toArray⟩] rfl rfl (World.news_of_block (heap_alloc_new wr _)) (one2 num d) (by unfold maxLen; omega) (by omega) (by simp; omega) ?_; intro v5 w5 o5 g5 _; have hb5 : Below w4.heap.size w4 w5 := (hbr.alloc hbs _).grown g5 (by simp; omega) (fun j hj => (HO.out.lt j hj).1); have k05 := (hb5.cell (p := ⟨w.heap.size, 0, none⟩) (by show w.heap.size < w4.heap.size; omega)).trans HXY.out.1; have y25 := (hb5.cell (p := ⟨w.heap.size + 1, 0, none⟩) hs4').trans HXY.out.2.2.1; have y35 := (hb5.cell (p := ⟨w.heap.size + 1, 1, none⟩) hs4').trans HXY.out.2.2.2.1; have z25 := (hb5.frozen (p := ⟨w.heap.size + 1, 0, none⟩) hs4').trans HXY.out.2.2.2.2.1; have z35 := (hb5.frozen (p := ⟨w.heap.size + 1, 1, none⟩) hs4').trans HXY.out.2.2.2.2.2.1; obtain ⟨ao5, cap5, hv5, -, -⟩ := flds_of_own' (fs := withK fs num d fs.length ++ [(num, d)]) (show w5.ownsRow w4.heap.size 35 2 v5 _ (fcells (withK fs num d fs.length ++ [(num, d)])) by rw [fcells_append]; exact o5); subst hv5)
              have HE : Hid _ := with_fin (kd := kd) (ok := true) (gs := withL kd fs num d) (fs := withK fs num d fs.length ++ [(num, d)]) (HL.out.trans HED.out) rfl (by rw [fcells_append, List.length_append] at *; exact o5) (next HB4.out hb5) hs4'
              clear o5 g5 HO
              go_wp2
              refine bodyPost_ret (by simp [results, Try.results7, go_sem, y25, y35]; try rfl) rfl ?_
              have hfin := HE.out
              simp only [List.length_append, List.length_singleton] at hfin
              rw [HOK.out]; exact hfin
            · rw [hp, if_pos rfl] at hend
              obtain ⟨ao5, cap5, hv5, -, -⟩ := flds_of_own' ho
              subst hv5
              have HE : Hid _ := with_fin (kd := kd) (ok := true) (gs := withL kd fs num d) (fs := withK fs num d fs.length) (HL.out.trans hend) rfl ho (next HB4.out hbr) hs4'
              clear ho hend hp
              go_wp2
              refine bodyPost_ret (by simp [results, Try.results7, go_sem, y2, y3]; try rfl) rfl ?_
              rw [HOK.out]; exact HE.out

end Go.Proofs.Ytggaadbcifbdeaa
