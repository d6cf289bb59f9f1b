/- Proved: for every list of bytes (of at most 1048576; a longer one passes by the law's own first test) the program's With answers as the specification's at the message, number and text that the bytes draw; where it puts the field in, that field is there with its text, every field of another number is there as it was, the message is a right one, and it has one field more just when that number was not there; where it does not, the message is as it was. -/
import Derived.Test.YtggaadbcifbdeaaDrawWi
import Derived.Test.YtggaadbcifbdeaaWithQ
import Derived.Test.YtggaadbcifbdeaaSameM
import Derived.Test.YtggaadbcifbdeaaFMsgOk
namespace Go.Proofs.Ytggaadbcifbdeaa.fnWith
open Go.ChangeShapes Go.WideShapes Go.ChangeAt Go.RowKit
set_option maxRecDepth 100000

theorem fldsM_any {w : World} {base n : Nat} {t : TypeId} {ao : Option Addr} {cap : Nat} {fs : List Fld} (h : w.ownsRow base t 2 (.slice ao fs.length cap) n (fcells fs)) : FldsAt w ao fs := by
  obtain ⟨ao', cap', hv, hf, _⟩ := flds_of_own' h
  obtain ⟨rfl, _⟩ : ao = ao' ∧ cap = cap' := by simpa using hv
  exact hf
theorem box_keep {w u : World} {b : Nat} {x y : Value} (h : w.cell? ⟨b, 0, none⟩ = some x ∧ w.cell? ⟨b, 1, none⟩ = some y) (hb : Below w.heap.size w u) : u.cell? ⟨b, 0, none⟩ = some x ∧ u.cell? ⟨b, 1, none⟩ = some y :=
  ⟨(hb.cell (World.block_lt_of_cell? w _ h.1)).trans h.1, (hb.cell (World.block_lt_of_cell? w _ h.2)).trans h.2⟩
theorem box_new {w : World} {x y : Value} {t : TypeId} : (w.alloc (.cells #[x, y] t)).cell? ⟨w.heap.size, 0, none⟩ = some x ∧ (w.alloc (.cells #[x, y] t)).cell? ⟨w.heap.size, 1, none⟩ = some y := ⟨by simp, by simp⟩

set_option maxHeartbeats 6400000 in
theorem walk (a : Option Addr) (len cap : Nat) (zs : List Int) (w : World) (hr : IsRow .u8 w a len cap zs) :
    Calls Try.prog 3 #[.slice a len cap] w fun e w' => e = .returned (.bool true) ∧ Below w.heap.size w w' := by
  by_cases hbig : (1048576 : Int) < (len : Int)
  · have hdec : decide ((1048576 : Int) < (len : Int)) = true := decide_eq_true hbig
    go_enter Try.func3, Try.ntmps3
    go_wp2_with fail
    refine (big_any _ _ _ _).mono ?_
    rintro e w1 ⟨rfl, hw1⟩
    rw [hw1, hdec]
    clear hw1
    go_wp2
    go_ret
    exact ⟨rfl, Below.refl _ _⟩
  have hn : len ≤ 1048576 := by omega
  have hdec : decide ((1048576 : Int) < (len : Int)) = false := decide_eq_false hbig
  go_enter Try.func3, Try.ntmps3
  go_wp2_with fail
  refine (big_any _ _ _ _).mono ?_
  rintro e w1 ⟨rfl, hw1⟩
  rw [hw1, hdec]
  clear hw1 w1 hdec hbig
  go_wp2_with fail
  refine (drawW_any _ _ _ _ _ hr hn).mono ?_
  rintro e u2 ⟨kd, ao, c, fs, num, d, rfl, d1, d2, d3, dg, dd, q2⟩
  have hsum := sumM_le (by omega) d2
  have bA1 : Below u2.heap.size u2 (u2.alloc (.cells #[.int .i64 kd, .slice ao fs.length c] 26)) := by go_grown
  have f2 := d3.below bA1
  have q2a := next q2 bA1
  clear q2 d3 bA1 hr
  go_wp2_with fail
  refine (iWithM dg f2 (by omega) (by omega) (by omega)).mono ?_
  rintro e u3 ⟨ao3, c3, rfl, o3, b3⟩
  have HALL : Hid (withOk kd fs num d = true → fOf (withL kd fs num d) num = some d ∧ msgOk kd (withL kd fs num d) = true ∧ (withL kd fs num d).length = fs.length + (if (fOf fs num).isSome = true then 0 else 1) ∧
    ∀ i, i < fs.length → (fOf (withL kd fs num d) (at0 fs i).1).isSome = true ∧ ((at0 fs i).1 ≠ num → (fOf (withL kd fs num d) (at0 fs i).1).getD [] = (at0 fs i).2)) := fun h => by rw [withL_yes h]; exact with_all h
  have HNO : Hid (withOk kd fs num d = false → withL kd fs num d = fs) := fun h => withL_no h
  have hgl := withL_len kd fs num d
  have hgm : ∀ f ∈ withL kd fs num d, f.2.length ≤ 999 := fun f hf => by
    unfold withL at hf
    split at hf
    · rcases withF_mem hf with h | h
      · exact d2 f h
      · rw [h]; exact dd
    · exact d2 f hf
  have hgs := sumM_le (by omega) hgm
  obtain ⟨x30, x31⟩ := box_keep box_new b3
  have f3 := f2.below b3
  have q3 := next q2a b3
  have F3 := fldsM_any o3
  have bA2 : Below u3.heap.size u3 (u3.alloc (.cells #[.int .i64 kd, .slice ao3 (withL kd fs num d).length c3] 26)) := by go_grown
  obtain ⟨x35, x36⟩ := box_keep ⟨x30, x31⟩ bA2
  clear f2 q2a b3 o3 dg hgm
  go_wp2_with fail
  refine (sWith_any kd ao c fs num d _ (f3.below bA2) (by omega) (by omega) (by omega)).mono ?_
  rintro e u4 ⟨ao4, c4, rfl, o4, b4⟩
  obtain ⟨y40, y41⟩ := box_keep box_new b4
  have bb := next bA2 b4
  obtain ⟨x40, x41⟩ := box_keep ⟨x30, x31⟩ bb
  have f4 := f3.below bb
  have g4 := F3.below bb
  have h4 := fldsM_any o4
  have q4 := next q3 bb
  obtain ⟨gs, hge⟩ : ∃ g, withL kd fs num d = g := ⟨_, rfl⟩
  obtain ⟨ok, hok⟩ : ∃ g, withOk kd fs num d = g := ⟨_, rfl⟩
  rw [hge] at h4 g4 hgs hgl y41 HALL HNO ⊢
  rw [hok] at HALL HNO ⊢
  clear x30 x31 x35 x36 f3 F3 q3 bA2 bb b4 o4 hge hok d2
  have bA3 : Below u4.heap.size u4 (u4.alloc (.cells #[.int .i64 kd, .slice ao4 gs.length c4] 26)) := by go_grown
  have b5' := bA3
  obtain ⟨x0, x1⟩ := box_keep ⟨x40, x41⟩ bA3
  obtain ⟨y0, y1⟩ := box_keep ⟨y40, y41⟩ bA3
  have f5 := f4.below bA3
  have g5 := g4.below bA3
  have h5 := h4.below bA3
  have q5 := next q4 bA3
  clear x40 x41 y40 y41 f4 g4 h4 q4 bA3 b5'
  cases ok
  · have hg := HNO.out rfl
    subst hg
    clear HALL HNO
    go_wp2_with fail
    refine (sameMessage_any kd kd ao3 ao4 c3 c4 gs gs _ g5 h5 (by omega) (by omega)).mono ?_
    rintro e u6 ⟨rfl, b6⟩
    rw [sameM_self]
    obtain ⟨x0, x1⟩ := box_keep ⟨x0, x1⟩ b6
    obtain ⟨y0, y1⟩ := box_keep ⟨y0, y1⟩ b6
    have f6 := f5.below b6
    have g6 := g5.below b6
    have q6 := next q5 b6
    clear b6 f5 g5 h5 q5
    go_wp2_with fail
    refine (sameMessage_any kd kd ao3 ao c3 c gs gs _ g6 f6 (by omega) (by omega)).mono ?_
    rintro e u7 ⟨rfl, b7⟩
    rw [sameM_self]
    have q7 := next q6 b7
    clear b7
    go_wp2
    go_ret
    exact ⟨rfl, q7⟩
  · obtain ⟨A1, A2, A3, A4⟩ := HALL.out rfl
    have HA4 : Hid _ := A4
    have HA3 : Hid (gs.length = fs.length + (if (fOf fs num).isSome = true then 0 else 1)) := A3
    clear HNO HALL A4 A3
    go_wp2_with fail
    refine (sameMessage_any kd kd ao3 ao4 c3 c4 gs gs _ g5 h5 (by omega) (by omega)).mono ?_
    rintro e u6 ⟨rfl, b6⟩
    rw [sameM_self]
    obtain ⟨x0, x1⟩ := box_keep ⟨x0, x1⟩ b6
    obtain ⟨y0, y1⟩ := box_keep ⟨y0, y1⟩ b6
    have f6 := f5.below b6
    have g6 := g5.below b6
    have q6 := next q5 b6
    clear b6 f5 g5 h5 q5
    go_wp2_with fail
    refine (iFieldOf_any kd ao3 c3 gs num _ g6 (by omega) (by omega)).mono ?_
    rintro e u7 ⟨rfl, b7⟩
    rw [A1]
    simp only [Option.getD_some, Option.isSome_some]
    obtain ⟨x0, x1⟩ := box_keep ⟨x0, x1⟩ b7
    obtain ⟨y0, y1⟩ := box_keep ⟨y0, y1⟩ b7
    have f7 := f6.below b7
    have g7 := g6.below b7
    have q7 := next q6 b7
    clear b7 f6 g6 q6 A1
    go_wp2_with fail
    refine (iFieldOf_any kd ao c fs num _ f7 (by omega) (by omega)).mono ?_
    rintro e u8 ⟨rfl, b8⟩
    obtain ⟨x0, x1⟩ := box_keep ⟨x0, x1⟩ b8
    obtain ⟨y0, y1⟩ := box_keep ⟨y0, y1⟩ b8
    have f8 := f7.below b8
    have g8 := g7.below b8
    have q8 := next q7 b8
    clear b8 f7 g7 q7
    obtain ⟨had, hhad⟩ : ∃ x, (fOf fs num).isSome = x := ⟨_, rfl⟩
    obtain ⟨ht, hhe⟩ : ∃ x, (fOf fs num).getD [] = x := ⟨_, rfl⟩
    rw [hhad] at HA3 ⊢
    rw [hhe]
    clear hhad hhe
    have HX : Hid _ := And.intro x0 x1
    have HY : Hid _ := And.intro y0 y1
    have HF : Hid (FldsAt u8 ao fs) := f8
    have HGF : Hid (FldsAt u8 ao3 gs) := g8
    have HQ : Hid (Below w.heap.size w u8) := q8
    clear f8 g8 q8
    have hfl : fs.length ≤ 16 := d1
    go_wp2
    go_loopw [14] (fun i wr => ∃ k : Nat, k ≤ fs.length ∧ i = .int .i64 k ∧ Below u8.heap.size u8 wr) (fun i _ => fs.length - (intOf i).toNat)
    case atStart => exact ⟨0, Nat.zero_le _, rfl, Below.refl _ _⟩
    case round =>
      obtain ⟨k, hk, rfl, hbr⟩ := hrel
      clear x0 x1 y0 y1
      obtain ⟨x0, x1⟩ := box_keep HX.out hbr
      obtain ⟨y0, y1⟩ := box_keep HY.out hbr
      have G9 := HGF.out.below hbr
      have HBR : Hid (Below u8.heap.size u8 wr) := hbr
      have HQ9 : Hid (Below w.heap.size w wr) := next HQ.out hbr
      by_cases hlt : k < fs.length
      · have hki : (k : Int) < (fs.length : Int) := by omega
        obtain ⟨B1, B2⟩ := HA4.out k hlt
        rcases HF.out.below hbr with h | ⟨fb, off, hao, hfb, hcell⟩
        · subst h; simp at hlt
        · subst hao
          obtain ⟨e0, e1⟩ := hcell k hlt
          obtain ⟨⟨fn, ft⟩, hfe⟩ : ∃ f, at0 fs k = f := ⟨_, rfl⟩
          rw [hfe] at e0 e1 B1 B2
          simp only at e0 e1 B1 B2
          have HFO : Hid (∀ u, Below wr.heap.size wr u → Calls Try.prog 9 #[.agg #[.int .i64 kd, .slice ao3 gs.length c3], .int .i64 fn] u fun e w' => e = .returned (.tuple #[.string ⟨((fOf gs fn).getD []).toArray⟩, .bool (fOf gs fn).isSome]) ∧ Below u.heap.size u w') := fun u h => iFieldOf_any kd ao3 c3 gs fn u (G9.below h) (by omega) (by omega)
          obtain ⟨gt, hgt⟩ : ∃ x, (fOf gs fn).getD [] = x := ⟨_, rfl⟩
          rw [hgt] at HFO B2
          rw [B1] at HFO
          have HB2 : Hid (fn ≠ num → gt = ft) := B2
          have k0 : Below wr.heap.size wr wr := Below.refl _ _
          have hbs := hbr.size
          clear hcell B1 B2 hfe hgt G9 hbr
          go_upto_region 15 with fail
          go_cut [15, 16] (fun v15 v16 wz => v15 = .string ⟨gt.toArray⟩ ∧ v16 = .bool true ∧ Below wr.heap.size wr wz)
          case first =>
            go_region_with (go_at_call 9; refine (HFO.out _ (by first | exact k0 | exact k0.drew)).mono ?_; rintro e u9 ⟨rfl, b9'⟩; have b9 : Below wr.heap.size wr u9 := (by first | exact b9' | exact (k0.drew).trans b9'))
            all_goals
              go_wp2_with fail
              go_meet
              exact ⟨rfl, rfl, b9⟩
          case rest =>
            obtain ⟨rfl, rfl, b9⟩ := hcut
            obtain ⟨x0, x1⟩ := box_keep ⟨x0, x1⟩ b9
            have e0 := (b9.cell (World.block_lt_of_cell? wr _ e0)).trans e0
            have e1 := (b9.cell (World.block_lt_of_cell? wr _ e1)).trans e1
            have HBZ : Hid (Below u8.heap.size u8 wc) := next HBR.out b9
            clear b9 y0 y1
            by_cases hq : fn = num
            · have hq' : (fn == num) = true := by simpa using hq
              have hq2 : decide (fn = num) = true := decide_eq_true hq
              go_wp2
              all_goals
                go_roundw
                case rel => exact ⟨k + 1, by omega, by go_num, HBZ.out⟩
                case measure => simp [intOf]; omega
            · have hgf := HB2.out hq
              subst hgf
              have hq' : (fn == num) = false := by simpa using hq
              have hgg : (gt == gt) = true := by simp
              clear hq
              go_wp2
              all_goals
                go_roundw
                case rel => exact ⟨k + 1, by omega, by go_num, HBZ.out⟩
                case measure => simp [intOf]; omega
      · have hke : k = fs.length := by omega
        subst hke
        have A3 := HA3.out
        have hdd : (d == d) = true := by simp
        clear hbr
        cases had
        · have hlen : (gs.length : Int) = (fs.length : Int) + 1 := by simp at A3; omega
          clear A3
          go_wp2_with fail
          refine (iMessageOk_is A2 G9 (by omega) (by omega)).mono ?_
          rintro e uz ⟨rfl, bz⟩
          obtain ⟨y0, y1⟩ := box_keep ⟨y0, y1⟩ bz
          have QZ := next HQ9.out bz
          clear bz
          go_wp2
          go_ret
          exact ⟨by first | rfl | simp [hlen], QZ⟩
        · have hlen : (gs.length : Int) = (fs.length : Int) := by simp at A3; omega
          clear A3
          go_wp2_with fail
          refine (iMessageOk_is A2 G9 (by omega) (by omega)).mono ?_
          rintro e uz ⟨rfl, bz⟩
          obtain ⟨y0, y1⟩ := box_keep ⟨y0, y1⟩ bz
          have QZ := next HQ9.out bz
          clear bz
          go_wp2
          go_ret
          exact ⟨by first | rfl | simp [hlen], QZ⟩

set_option maxRecDepth 100000 in
theorem lifted (os : Os) (started : os.Started) (H : Type) (enc : TypeId × Value → H) :
    ReturnsInHanded {} Try.checked os 3 .any (Rows.fnWithSpec.pre6 enc Try.prog Try.f3 Rows.fnWithRow.domain false) (Rows.fnWithSpec.post enc Try.prog Try.f3 false true false false) := by
  refine returnsInHanded_of_change (C := Try.checked) own started (by kernel_rfl) Try.func3
    (ChangeSpec.witness6 (enc := enc) (C := Try.checked) false ⟨#[], #[.slice none 0 0], []⟩ 8 (by kernel_rfl) (by kernel_rfl) (by kernel_rfl) (by kernel_rfl)) ?_
  intro W base args ds gs before hval0 hW hcnd _
  have hval : ∀ (j : Nat) t v, Try.f3.params[j]? = some t → args[j]? = some v → Value.okWide Try.prog W .any base t v := hval0
  have hW' := hW
  obtain ⟨p, q, hA0, hV, rfl, hfz, hnd⟩ := hW
  have hA : DataW.TrodAll enc Try.prog W 0 (fun _ => true) true Try.f3.params.toList args.toList ds p := hA0
  rw [Try.params3] at hA hval
  obtain ⟨v0, vs0, d0, ds0, p0, q0, hargs, rfl, rfl, h0, r0⟩ := trodAll_cons hA
  obtain ⟨rfl, rfl, rfl⟩ := trodAll_nil r0
  obtain rfl : args = #[v0] := by cases args; simp_all
  obtain ⟨rfl, rfl⟩ := trodVars_none hV
  obtain ⟨a0, len0, cap0, rfl⟩ := okWide_slice Try.underlying22 (hval 0 22 v0 rfl rfl)
  have k0 := h0
  have lt0 : ∀ x ∈ p0, x.block < W.heap.size := by obtain ⟨m, hm⟩ := k0; exact DataW.trod_lt m _ _ _ hm
  obtain ⟨z0, w0⟩ : ∃ zs, IsRow .u8 W a0 len0 cap0 zs := is_row Try.underlying22 Try.underlying5 (by kernel_rfl) h0
  clear hA0 hval0
  refine (walk a0 len0 cap0 z0 W w0).mono fun e W' ⟨he, bel⟩ => ?_
  subst he
  exact ⟨_, rfl, _, _, _, [], _, [], hW', trodAll_mk1 (shut_bool Try.underlying4 _), (trodAll_cons_mk (Below.trod laidOut (by kernel_rfl) (of_decide_eq_true (by kernel_rfl)) k0 bel lt0) trodAll_mk0), rfl, bel.frame _, fun h => by cases h⟩

theorem proved : Rows.FnWithSaid :=
  OpenClaim.holds_of_wide 3 Try.f3 rfl rfl rfl rfl rfl rfl rfl ⟨rfl, rfl, rfl, rfl, rfl⟩ rfl rfl rfl rfl rfl (by kernel_rfl) Try.func3 (by kernel_rfl)
    (of_decide_eq_true (by kernel_rfl)) (by unfold Func.isWrapper; first | (rw [if_pos (by decide +kernel)]; kernel_rfl) | (rw [if_neg (by decide +kernel)]; exact ⟨rfl, rfl⟩))
    (fun os started H enc _ => lifted os started H enc)
end Go.Proofs.Ytggaadbcifbdeaa.fnWith
