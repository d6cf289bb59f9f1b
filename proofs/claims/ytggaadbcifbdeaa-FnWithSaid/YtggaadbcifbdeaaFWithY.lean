/- The contract of the program's With, where the field is put in. -/
import Derived.Test.YtggaadbcifbdeaaFWith
namespace Go.Proofs.Ytggaadbcifbdeaa
open Go.RowKit
set_option maxRecDepth 100000

theorem sliceFrom {w : World} {b off : Nat} {fs : List Fld} (h : FldsAt w (some ⟨b, off, none⟩) fs) (k : Nat) : FldsAt w (some ⟨b, off + k * 2, none⟩) (fs.drop k) := by
  rcases h with rfl | ⟨b', off', hq, hb, hc⟩
  · exact .inl (by simp)
  · obtain ⟨rfl, rfl⟩ : b = b' ∧ off = off' := by simpa using hq
    refine .inr ⟨b, off + k * 2, rfl, hb, fun i hi => ?_⟩
    have hi' : k + i < fs.length := by simp at hi; omega
    have e : at0 (fs.drop k) i = at0 fs (k + i) := by simp [at0, List.getD_eq_getElem?_getD]
    have := hc (k + i) hi'
    rw [e, show off + k * 2 + i * 2 = off + (k + i) * 2 by omega]
    exact this
theorem sliceTo {w : World} {b off : Nat} {fs : List Fld} (h : FldsAt w (some ⟨b, off, none⟩) fs) (k : Nat) : FldsAt w (some ⟨b, off, none⟩) (fs.take k) := by
  rcases h with rfl | ⟨b', off', hq, hb, hc⟩
  · exact .inl (by simp)
  · obtain ⟨rfl, rfl⟩ : b = b' ∧ off = off' := by simpa using hq
    refine .inr ⟨b, off, rfl, hb, fun i hi => ?_⟩
    have hi' : i < k ∧ i < fs.length := by simp at hi; omega
    have e : at0 (fs.take k) i = at0 fs i := by simp [at0, List.getD_eq_getElem?_getD, hi'.1]
    rw [e]
    exact hc i hi'.2

theorem three_mk {wr : World} {b off p q o3 cap : Nat} {num : Int} {d : List UInt8} {fs : List Fld} (hz : FldsAt wr (some ⟨b, off, none⟩) fs) (hp : p ≤ fs.length) (hc : fs.length ≤ cap) (ho3 : cap = q ∨ o3 = off + q * 2) :
    Three ((wr.alloc (.cells #[.int .i64 num, .string ⟨d.toArray⟩] 35)).alloc (.cells #[.slice (some ⟨b, off, none⟩) p cap, .slice (some ⟨wr.heap.size, 0, none⟩) 1 1, .slice (some ⟨b, o3, none⟩) (fs.length - q) (cap - q)] 24)).drew
      (wr.heap.size + 1) (some ⟨b, off, none⟩) cap (some ⟨wr.heap.size, 0, none⟩) 1 (some ⟨b, o3, none⟩) (cap - q) (fs.take p) [(num, d)] (fs.drop q) := by
  have bel : Below wr.heap.size wr ((wr.alloc (.cells #[.int .i64 num, .string ⟨d.toArray⟩] 35)).alloc (.cells #[.slice (some ⟨b, off, none⟩) p cap, .slice (some ⟨wr.heap.size, 0, none⟩) 1 1, .slice (some ⟨b, o3, none⟩) (fs.length - q) (cap - q)] 24)).drew := by go_grown
  have e1 : (fs.take p).length = p := by rw [List.length_take]; omega
  have e2 : (fs.drop q).length = fs.length - q := List.length_drop
  refine ⟨?_, ?_, ?_, (sliceTo hz p).below bel, ?_, ?_⟩
  · rw [e1]; simp [go_sem]
  · simp [go_sem]
  · rw [e2]; simp [go_sem]
  · refine .inr ⟨wr.heap.size, 0, rfl, by simp; omega, fun i hi => ?_⟩
    have hi0 : i = 0 := by simp at hi; omega
    subst hi0
    exact ⟨by simp [go_sem, at0], by simp [go_sem, at0]⟩
  · rcases ho3 with h | h
    · exact .inl (List.drop_of_length_le (by omega))
    · subst h; exact (sliceFrom hz q).below bel

theorem own_form {w : World} {base n : Nat} {t : TypeId} {v : Value} {xs : List Value} (h : w.ownsRow base t 2 v n xs) (hn : 0 < n) : ∃ g cap, v = .slice (some ⟨g, 0, none⟩) n cap := by
  rcases h.2 with ⟨_, h0⟩ | ⟨g, cap, cur, hv, _⟩
  · omega
  · exact ⟨g, cap, hv⟩

set_option maxHeartbeats 1600000 in
theorem iWith_yes (kd : Int) (b off cap : Nat) (fs : List Fld) (num : Int) (d : List UInt8) (w : World) (hz : FldsAt w (some ⟨b, off, none⟩) fs) (hn : fs.length ≤ 1048576) (hd : sumF fs ≤ 1048576) (hl : d.length ≤ 1099511627776) (hcl : fs.length ≤ cap) (hcm : cap ≤ 9223372036854775807) (hok : withOk kd fs num d = true) :
    Calls Try.prog 6 #[.agg #[.int .i64 kd, .slice (some ⟨b, off, none⟩) fs.length cap], .int .i64 num, .string ⟨d.toArray⟩] w (Withs w kd (withL kd fs num d) (withOk kd fs num d)) := by
  have HL : Hid _ := withL_yes hok
  have hds : ∀ f ∈ fs, f.2.length ≤ 1099511627776 := fun f hf => by have := sumF_mem hf; omega
  rw [hok]
  have hok' := hok
  simp only [withOk, Bool.and_eq_true] at hok'
  have HF : Hid _ := hok'.1
  have HM : Hid _ := hok'.2
  have HP : Hid (okF 1 fs = true) := by have := hok'.2; simp only [msgOk, Bool.and_eq_true] at this; exact this.2
  clear hok hok'
  go_enter Try.func6, Try.ntmps6
  go_wp2_with fail
  refine (iFieldOk_is HF.out _ hl).mono ?_
  rintro e w0 ⟨rfl, b1⟩
  obtain ⟨x0, x1, x2, x3, f2, f3, x4, x5, bel, hsz⟩ := threebox b1
  clear b1
  go_wp2_with fail
  refine (iMessageOk_is HM.out (hz.below bel) hn hd).mono ?_
  rintro e w1 ⟨rfl, b1⟩
  have x0 := (b1.cell (p := ⟨w.heap.size, 0, none⟩) (by show w.heap.size < w0.heap.size; omega)).trans x0
  have x1 := (b1.cell (p := ⟨w.heap.size, 1, none⟩) (by show w.heap.size < w0.heap.size; omega)).trans x1
  have x2 := (b1.cell (p := ⟨w.heap.size + 1, 0, none⟩) (by show w.heap.size + 1 < w0.heap.size; omega)).trans x2
  have x3 := (b1.cell (p := ⟨w.heap.size + 1, 1, none⟩) (by show w.heap.size + 1 < w0.heap.size; omega)).trans x3
  have x4 := (b1.cell (p := ⟨w.heap.size + 1 + 1, 0, none⟩) (by show w.heap.size + 1 + 1 < w0.heap.size; omega)).trans x4
  have x5 := (b1.cell (p := ⟨w.heap.size + 1 + 1, 1, none⟩) (by show w.heap.size + 1 + 1 < w0.heap.size; omega)).trans x5
  have f2 := (b1.frozen (p := ⟨w.heap.size + 1, 0, none⟩) (by show w.heap.size + 1 < w0.heap.size; omega)).trans f2
  have f3 := (b1.frozen (p := ⟨w.heap.size + 1, 1, none⟩) (by show w.heap.size + 1 < w0.heap.size; omega)).trans f3
  have bel := next bel b1
  have hsz' := b1.size
  have hz1 := hz.below bel
  have HZ : Hid (FldsAt w1 (some ⟨b, off, none⟩) fs) := hz1
  have HC : Hid (∀ i, i < fs.length → b < w1.heap.size ∧ w1.cell? ⟨b, off + i * 2, none⟩ = some (.int .i64 (at0 fs i).1) ∧ w1.cell? ⟨b, off + i * 2 + 1, none⟩ = some (.string ⟨(at0 fs i).2.toArray⟩)) := by
    rcases hz1 with rfl | ⟨b', off', hq, hb, hcell⟩
    · intro i hi; simp at hi
    · obtain ⟨rfl, rfl⟩ : b = b' ∧ off = off' := by simpa using hq
      exact fun i hi => ⟨hb, hcell i hi⟩
  have HX : Hid _ := And.intro x0 (And.intro x1 (And.intro x2 (And.intro x3 (And.intro x4 (And.intro x5 (And.intro f2 f3))))))
  clear b1 hz hz1
  go_wp2
  go_loopw [9, 10, 30] (fun a c i wr => ∃ k : Nat, k ≤ fs.length ∧ i = .int .i64 k ∧ a = .int .i64 (cL (fs.take k) num : Nat) ∧ c = .int .i64 (cLe (fs.take k) num : Nat) ∧ Below w1.heap.size w1 wr) (fun _ _ i _ => fs.length - (intOf i).toNat)
  case atStart => exact ⟨0, Nat.zero_le _, rfl, rfl, rfl, Below.refl _ _⟩
  case round =>
    obtain ⟨k, hk, rfl, rfl, rfl, hbr⟩ := hrel
    clear x0 x1 x2 x3 x4 x5 f2 f3
    by_cases hlt : k < fs.length
    · have hb := (HC.out k hlt).1
      have c1 : wr.cell? ⟨b, off + k * 2, none⟩ = some (.int .i64 (at0 fs k).1) := (hbr.cell (p := ⟨b, off + k * 2, none⟩) hb).trans (HC.out k hlt).2.1
      have c2 : wr.cell? ⟨b, off + k * 2 + 1, none⟩ = some (.string ⟨(at0 fs k).2.toArray⟩) := (hbr.cell (p := ⟨b, off + k * 2 + 1, none⟩) hb).trans (HC.out k hlt).2.2
      have hki : (k : Int) < (fs.length : Int) := by omega
      have h1 := cL_step fs num k hlt
      have h2 := cLe_step fs num k hlt
      have l1 := cL_le (fs.take k) num
      have l2 := cLe_le (fs.take k) num
      have l3 : (fs.take k).length ≤ fs.length := by rw [List.length_take]; omega
      obtain ⟨⟨n, s⟩, hf⟩ : ∃ f, at0 fs k = f := ⟨_, rfl⟩
      rw [hf] at c1 c2 h1 h2
      simp only at c1 c2 h1 h2
      obtain ⟨p, hp⟩ : ∃ p, cL (fs.take k) num = p := ⟨_, rfl⟩
      obtain ⟨q, hq⟩ : ∃ q, cLe (fs.take k) num = q := ⟨_, rfl⟩
      rw [hp] at h1 l1 ⊢
      rw [hq] at h2 l2 ⊢
      have hpb : p ≤ 1048576 := by omega
      have hqb : q ≤ 1048576 := by omega
      clear hf hp hq l1 l2 l3
      have hbrS := hbr.size
      by_cases hlt1 : n < num
      · have hle : n ≤ num := by omega
        rw [if_pos hlt1] at h1
        rw [if_pos hle] at h2
        have H1 : Hid _ := h1
        have H2 : Hid _ := h2
        clear h1 h2
        go_wp2
        go_roundw
        case rel => exact ⟨k + 1, by omega, by go_num, by rw [H1.out]; go_num, by rw [H2.out]; go_num, hbr.alloc hbr.size _⟩
        case measure => simp [intOf]; omega
      · rw [if_neg hlt1] at h1
        have H1 : Hid _ := h1
        by_cases hle : n ≤ num
        · rw [if_pos hle] at h2
          have H2 : Hid _ := h2
          clear h1 h2
          go_wp2
          go_roundw
          case rel => exact ⟨k + 1, by omega, by go_num, by rw [H1.out]; rfl, by rw [H2.out]; go_num, hbr.alloc hbr.size _⟩
          case measure => simp [intOf]; omega
        · rw [if_neg hle] at h2
          have H2 : Hid _ := h2
          clear h1 h2
          go_wp2
          go_roundw
          case rel => exact ⟨k + 1, by omega, by go_num, by rw [H1.out]; rfl, by rw [H2.out]; rfl, hbr.alloc hbr.size _⟩
          case measure => simp [intOf]; omega
    · have hke : k = fs.length := by omega
      subst hke
      rw [List.take_of_length_le (Nat.le_refl _)]
      have l1 := cL_le fs num
      have l2 := cLe_le fs num
      have HW : Hid _ := withF_parts (num := num) (d := d) HP.out
      obtain ⟨p, hp⟩ : ∃ p, cL fs num = p := ⟨_, rfl⟩
      obtain ⟨q, hq⟩ : ∃ q, cLe fs num = q := ⟨_, rfl⟩
      rw [hp] at l1 HW ⊢
      rw [hq] at l2 HW ⊢
      clear hp hq
      obtain ⟨x0, x1, x2, x3, x4, x5, f2, f3⟩ := HX.out
      have x0 := (hbr.cell (p := ⟨w.heap.size, 0, none⟩) (by show w.heap.size < w1.heap.size; omega)).trans x0
      have x1 := (hbr.cell (p := ⟨w.heap.size, 1, none⟩) (by show w.heap.size < w1.heap.size; omega)).trans x1
      have x2 := (hbr.cell (p := ⟨w.heap.size + 1, 0, none⟩) (by show w.heap.size + 1 < w1.heap.size; omega)).trans x2
      have x3 := (hbr.cell (p := ⟨w.heap.size + 1, 1, none⟩) (by show w.heap.size + 1 < w1.heap.size; omega)).trans x3
      have x4 := (hbr.cell (p := ⟨w.heap.size + 1 + 1, 0, none⟩) (by show w.heap.size + 1 + 1 < w1.heap.size; omega)).trans x4
      have x5 := (hbr.cell (p := ⟨w.heap.size + 1 + 1, 1, none⟩) (by show w.heap.size + 1 + 1 < w1.heap.size; omega)).trans x5
      have f2 := (hbr.frozen (p := ⟨w.heap.size + 1, 0, none⟩) (by show w.heap.size + 1 < w1.heap.size; omega)).trans f2
      have f3 := (hbr.frozen (p := ⟨w.heap.size + 1, 1, none⟩) (by show w.heap.size + 1 < w1.heap.size; omega)).trans f3
      have hwr : w.heap.size + 1 + 1 < wr.heap.size := by have := hbr.size; omega
      have HB : Hid (Below w.heap.size w wr) := bel.trans (hbr.mono bel.size)
      have HZ2 : Hid (FldsAt wr (some ⟨b, off, none⟩) fs) := HZ.out.below hbr
      have HY : Hid _ := And.intro x2 (And.intro x3 (And.intro f2 f3))
      clear HX HZ HC bel hbr x2 x3 f2 f3
      have i1 : (0 : Int) ≤ (p : Int) := by omega
      have i2 : (p : Int) ≤ (fs.length : Int) := by omega
      have i3 : (0 : Int) ≤ (q : Int) := by omega
      have i4 : (q : Int) ≤ (fs.length : Int) := by omega
      have i5 : (p : Int) ≤ (cap : Int) := by omega
      have i6 : (fs.length : Int) ≤ (cap : Int) := by omega
      have HQ : Hid (withF fs num d = fs.take p ++ [(num, d)] ++ fs.drop q) := HW.out.symm
      have hlw : (fs.take p ++ [(num, d)] ++ fs.drop q).length = (fs.take p).length + [(num, d)].length + (fs.drop q).length := by simp; omega
      have l4 : (fs.take p).length ≤ 1048576 := by rw [List.length_take]; omega
      have l5 : (fs.drop q).length ≤ 1048576 := by rw [List.length_drop]; omega
      have HN : Hid _ := hlw
      have hds2 : ∀ f ∈ fs.take p ++ [(num, d)] ++ fs.drop q, f.2.length ≤ 1099511627776 := by
        intro f hf
        rw [HW.out] at hf
        rcases withF_mem hf with h | h
        · exact hds f h
        · rw [h]; exact hl
      have HDS : Hid (∀ f ∈ fs.take p ++ [(num, d)] ++ fs.drop q, f.2.length ≤ 1099511627776) := hds2
      clear hds hds2 hlw HW
      obtain ⟨o3, ho3, hif⟩ : ∃ o3, (cap = q ∨ o3 = off + q * 2) ∧ (if cap = q then some (⟨b, off, none⟩ : Addr) else some ⟨b, off + q * 2, none⟩) = some ⟨b, o3, none⟩ := by
        by_cases h : cap = q
        · exact ⟨off, .inl h, by rw [if_pos h]⟩
        · exact ⟨off + q * 2, .inr rfl, by rw [if_neg h]⟩
      have HO3 : Hid _ := ho3
      clear ho3
      go_wp2
      go_region_held3 (fun w' => w'.cell? ⟨w.heap.size, 1, none⟩ = some (.slice (some ⟨b, off, none⟩) fs.length cap) ∧ w'.cell? ⟨w.heap.size + 1 + 1, 0, none⟩ = some (.int .i64 num) ∧ w'.cell? ⟨w.heap.size + 1 + 1, 1, none⟩ = some (.string ⟨d.toArray⟩)) (first | exact ⟨x1, x4, x5⟩ | go_keep | exact ⟨s1, s2, s3⟩) ((go_at_call 19; refine (concatF_any _ _ _ _ _ _ _ _ _ _ _ (three_mk HZ2.out l1 hcl HO3.out) (by simp) l4 (by simp) l5).mono ?_; rintro e w5 ⟨v5, rfl, o5, b5⟩; have q5 : Below wr.heap.size wr w5 := Below.trans (by go_grown) (b5.mono (by simp; omega)); have s1 := (q5.cell (p := ⟨w.heap.size, 1, none⟩) (by show w.heap.size < wr.heap.size; omega)).trans x1; have s2 := (q5.cell (p := ⟨w.heap.size + 1 + 1, 0, none⟩) hwr).trans x4; have s3 := (q5.cell (p := ⟨w.heap.size + 1 + 1, 1, none⟩) hwr).trans x5))
      obtain ⟨g5, c5, rfl⟩ := own_form o5 (by simp; omega)
      have F5 := flds_of_own o5
      rw [← HN.out]
      have hlen : (fs.take p ++ [(num, d)] ++ fs.drop q).length ≤ 4194304 := by rw [HN.out]; simp; omega
      have e0 := (q5.cell (p := ⟨w.heap.size, 0, none⟩) (by show w.heap.size < wr.heap.size; omega)).trans x0
      obtain ⟨y2, y3, z2, z3⟩ := HY.out
      have y2 := (q5.cell (p := ⟨w.heap.size + 1, 0, none⟩) (by show w.heap.size + 1 < wr.heap.size; omega)).trans y2
      have y3 := (q5.cell (p := ⟨w.heap.size + 1, 1, none⟩) (by show w.heap.size + 1 < wr.heap.size; omega)).trans y3
      have z2 := (q5.frozen (p := ⟨w.heap.size + 1, 0, none⟩) (by show w.heap.size + 1 < wr.heap.size; omega)).trans z2
      have z3 := (q5.frozen (p := ⟨w.heap.size + 1, 1, none⟩) (by show w.heap.size + 1 < wr.heap.size; omega)).trans z3
      have hs5 : w.heap.size + 1 + 1 < w5.heap.size := by have := q5.size; omega
      have HB5 : Hid (Below w.heap.size w w5) := HB.out.trans (q5.mono HB.out.size)
      generalize hgs : fs.take p ++ [(num, d)] ++ fs.drop q = gs at F5 hlen HDS HQ ⊢
      clear x0 x1 x4 x5 HY HZ2 HB HN s1 s2 s3 o5 b5 q5 HO3 hif hgs
      go_wp2_with fail
      refine (copyMessage_any _ _ _ _ _ F5 hlen HDS.out).mono ?_
      rintro e w6 ⟨g6, rfl, o6, b6⟩
      have v2 := (b6.cell (p := ⟨w.heap.size + 1, 0, none⟩) (by show w.heap.size + 1 < w5.heap.size; omega)).trans y2
      have v3 := (b6.cell (p := ⟨w.heap.size + 1, 1, none⟩) (by show w.heap.size + 1 < w5.heap.size; omega)).trans y3
      have v4 := (b6.frozen (p := ⟨w.heap.size + 1, 0, none⟩) (by show w.heap.size + 1 < w5.heap.size; omega)).trans z2
      have v5 := (b6.frozen (p := ⟨w.heap.size + 1, 1, none⟩) (by show w.heap.size + 1 < w5.heap.size; omega)).trans z3
      have hgl : w.heap.size + 1 < g6 := by have := (o6.lt g6 rfl).1; omega
      have HE : Hid _ := with_end (kd := kd) (ok := true) (HL.out.trans HQ.out) rfl (lowerRow o6 (by omega)) (next HB5.out b6) hgl
      clear y2 y3 z2 z3 o6 b6 F5 e0
      go_wp2
      refine bodyPost_ret (by simp [results, Try.results6, go_sem, v2, v3]; try rfl) rfl ?_
      exact HE.out

theorem three_nil {wr : World} {num : Int} {d : List UInt8} :
    Three ((wr.alloc (.cells #[.int .i64 num, .string ⟨d.toArray⟩] 35)).alloc (.cells #[.slice none 0 0, .slice (some ⟨wr.heap.size, 0, none⟩) 1 1, .slice none 0 0] 24)).drew
      (wr.heap.size + 1) none 0 (some ⟨wr.heap.size, 0, none⟩) 1 none 0 [] [(num, d)] [] := by
  refine ⟨by simp [go_sem], by simp [go_sem], by simp [go_sem], .inl rfl, ?_, .inl rfl⟩
  refine .inr ⟨wr.heap.size, 0, rfl, by simp; omega, fun i hi => ?_⟩
  have hi0 : i = 0 := by simp at hi; omega
  subst hi0
  exact ⟨by simp [go_sem, at0], by simp [go_sem, at0]⟩

set_option maxHeartbeats 1600000 in
theorem iWith_nil (kd : Int) (num : Int) (d : List UInt8) (w : World) (hl : d.length ≤ 1099511627776) (hok : withOk kd [] num d = true) :
    Calls Try.prog 6 #[.agg #[.int .i64 kd, .slice none 0 0], .int .i64 num, .string ⟨d.toArray⟩] w (Withs w kd (withL kd [] num d) (withOk kd [] num d)) := by
  have HL : Hid _ := withL_yes hok
  rw [hok]
  have hok' := hok
  simp only [withOk, Bool.and_eq_true] at hok'
  have HF : Hid _ := hok'.1
  have HM : Hid _ := hok'.2
  have HQ : Hid (withF [] num d = [(num, d)]) := rfl
  clear hok hok'
  go_enter Try.func6, Try.ntmps6
  go_wp2_with fail
  refine (iFieldOk_is HF.out _ hl).mono ?_
  rintro e w0 ⟨rfl, b1⟩
  obtain ⟨x0, x1, x2, x3, f2, f3, x4, x5, bel, hsz⟩ := threebox b1
  clear b1
  go_wp2_with fail
  refine (iMessageOk_is (fs := []) (cap := 0) (ao := none) HM.out (.inl rfl) (by simp) (by simp [sumF])).mono ?_
  rintro e wr ⟨rfl, b1⟩
  have x0 := (b1.cell (p := ⟨w.heap.size, 0, none⟩) (by show w.heap.size < w0.heap.size; omega)).trans x0
  have x1 := (b1.cell (p := ⟨w.heap.size, 1, none⟩) (by show w.heap.size < w0.heap.size; omega)).trans x1
  have x2 := (b1.cell (p := ⟨w.heap.size + 1, 0, none⟩) (by show w.heap.size + 1 < w0.heap.size; omega)).trans x2
  have x3 := (b1.cell (p := ⟨w.heap.size + 1, 1, none⟩) (by show w.heap.size + 1 < w0.heap.size; omega)).trans x3
  have x4 := (b1.cell (p := ⟨w.heap.size + 1 + 1, 0, none⟩) (by show w.heap.size + 1 + 1 < w0.heap.size; omega)).trans x4
  have x5 := (b1.cell (p := ⟨w.heap.size + 1 + 1, 1, none⟩) (by show w.heap.size + 1 + 1 < w0.heap.size; omega)).trans x5
  have f2 := (b1.frozen (p := ⟨w.heap.size + 1, 0, none⟩) (by show w.heap.size + 1 < w0.heap.size; omega)).trans f2
  have f3 := (b1.frozen (p := ⟨w.heap.size + 1, 1, none⟩) (by show w.heap.size + 1 < w0.heap.size; omega)).trans f3
  have bel := next bel b1
  have hwr : w.heap.size + 1 + 1 < wr.heap.size := by have := b1.size; omega
  have HB : Hid (Below w.heap.size w wr) := bel
  have HY : Hid _ := And.intro x2 (And.intro x3 (And.intro f2 f3))
  clear b1 bel hsz x2 x3 f2 f3
  go_wp2
  refine wp_loop_rounds 1 ?_
  rw [rounds_succ]
  go_wp2
  go_region_held3 (fun w' => w'.cell? ⟨w.heap.size, 1, none⟩ = some (.slice none 0 0) ∧ w'.cell? ⟨w.heap.size + 1 + 1, 0, none⟩ = some (.int .i64 num) ∧ w'.cell? ⟨w.heap.size + 1 + 1, 1, none⟩ = some (.string ⟨d.toArray⟩)) (first | exact ⟨x1, x4, x5⟩ | go_keep | exact ⟨s1, s2, s3⟩) ((go_at_call 19; refine (concatF_any _ _ _ _ _ _ _ _ _ _ _ three_nil (by simp) (by simp) (by simp) (by simp)).mono ?_; rintro e w5 ⟨v5, rfl, o5, b5⟩; have q5 : Below wr.heap.size wr w5 := Below.trans (by go_grown) (b5.mono (by simp; omega)); have s1 := (q5.cell (p := ⟨w.heap.size, 1, none⟩) (by show w.heap.size < wr.heap.size; omega)).trans x1; have s2 := (q5.cell (p := ⟨w.heap.size + 1 + 1, 0, none⟩) hwr).trans x4; have s3 := (q5.cell (p := ⟨w.heap.size + 1 + 1, 1, none⟩) hwr).trans x5))
  obtain ⟨g5, c5, rfl⟩ := own_form o5 (by simp)
  have F5 : FldsAt w5 (some ⟨g5, 0, none⟩) [(num, d)] := flds_of_own o5
  have e0 := (q5.cell (p := ⟨w.heap.size, 0, none⟩) (by show w.heap.size < wr.heap.size; omega)).trans x0
  obtain ⟨y2, y3, z2, z3⟩ := HY.out
  have y2 := (q5.cell (p := ⟨w.heap.size + 1, 0, none⟩) (by show w.heap.size + 1 < wr.heap.size; omega)).trans y2
  have y3 := (q5.cell (p := ⟨w.heap.size + 1, 1, none⟩) (by show w.heap.size + 1 < wr.heap.size; omega)).trans y3
  have z2 := (q5.frozen (p := ⟨w.heap.size + 1, 0, none⟩) (by show w.heap.size + 1 < wr.heap.size; omega)).trans z2
  have z3 := (q5.frozen (p := ⟨w.heap.size + 1, 1, none⟩) (by show w.heap.size + 1 < wr.heap.size; omega)).trans z3
  have hs5 : w.heap.size + 1 + 1 < w5.heap.size := by have := q5.size; omega
  have HB5 : Hid (Below w.heap.size w w5) := HB.out.trans (q5.mono HB.out.size)
  have HC : Hid (Calls Try.prog 18 #[.agg #[.int .i64 kd, .slice (some ⟨g5, 0, none⟩) 1 c5]] w5 fun e w' => ∃ g, e = .returned (.agg #[.int .i64 kd, .slice (some ⟨g, 0, none⟩) 1 1]) ∧
      w'.ownsRow w5.heap.size 35 2 (.slice (some ⟨g, 0, none⟩) 1 1) 1 (fcells [(num, d)]) ∧ Below w5.heap.size w5 w') := copyMessage_any kd (some ⟨g5, 0, none⟩) c5 [(num, d)] w5 F5 (by simp) (fun f hf => by rw [List.mem_singleton.1 hf]; exact hl)
  clear x0 x1 x4 x5 HY HB s1 s2 s3 o5 b5 q5 F5
  simp only [List.length_nil, List.length_singleton, Nat.zero_add, Nat.add_zero] at *
  go_wp2_with fail
  refine HC.out.mono ?_
  rintro e w6 ⟨g6, rfl, o6, b6⟩
  have v2 := (b6.cell (p := ⟨w.heap.size + 1, 0, none⟩) (by show w.heap.size + 1 < w5.heap.size; omega)).trans y2
  have v3 := (b6.cell (p := ⟨w.heap.size + 1, 1, none⟩) (by show w.heap.size + 1 < w5.heap.size; omega)).trans y3
  have v4 := (b6.frozen (p := ⟨w.heap.size + 1, 0, none⟩) (by show w.heap.size + 1 < w5.heap.size; omega)).trans z2
  have v5 := (b6.frozen (p := ⟨w.heap.size + 1, 1, none⟩) (by show w.heap.size + 1 < w5.heap.size; omega)).trans z3
  have hgl : w.heap.size + 1 < g6 := by have := (o6.lt g6 rfl).1; omega
  have HE : Hid _ := with_end (kd := kd) (ok := true) (gs := withL kd [] num d) (fs := [(num, d)]) (HL.out.trans HQ.out) rfl (lowerRow o6 (by omega)) (next HB5.out b6) hgl
  clear y2 y3 z2 z3 o6 b6 e0 HC
  go_wp2
  refine bodyPost_ret (by simp [results, Try.results6, go_sem, v2, v3]; try rfl) rfl ?_
  exact HE.out

theorem iWith_any (kd : Int) (b off cap : Nat) (fs : List Fld) (num : Int) (d : List UInt8) (w : World) (hz : FldsAt w (some ⟨b, off, none⟩) fs) (hn : fs.length ≤ 1048576) (hd : sumF fs ≤ 1048576) (hl : d.length ≤ 1099511627776) (hcl : fs.length ≤ cap) (hcm : cap ≤ 9223372036854775807) :
    Calls Try.prog 6 #[.agg #[.int .i64 kd, .slice (some ⟨b, off, none⟩) fs.length cap], .int .i64 num, .string ⟨d.toArray⟩] w (Withs w kd (withL kd fs num d) (withOk kd fs num d)) := by
  cases h : withOk kd fs num d
  · have := iWith_no kd (some ⟨b, off, none⟩) cap fs num d w hz hn hd hl h
    rwa [h] at this
  · have := iWith_yes kd b off cap fs num d w hz hn hd hl hcl hcm h
    rwa [h] at this
theorem iWith_none (kd : Int) (num : Int) (d : List UInt8) (w : World) (hl : d.length ≤ 1099511627776) :
    Calls Try.prog 6 #[.agg #[.int .i64 kd, .slice none 0 0], .int .i64 num, .string ⟨d.toArray⟩] w (Withs w kd (withL kd [] num d) (withOk kd [] num d)) := by
  cases h : withOk kd [] num d
  · have := iWith_no kd none 0 [] num d w (.inl rfl) (by simp) (by simp [sumF]) hl h
    rwa [h] at this
  · have := iWith_nil kd num d w hl h
    rwa [h] at this

end Go.Proofs.Ytggaadbcifbdeaa
