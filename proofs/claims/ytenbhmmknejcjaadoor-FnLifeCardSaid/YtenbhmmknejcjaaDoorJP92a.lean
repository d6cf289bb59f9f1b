/- Joined: IBet, SAdd, RDue. -/
import Derived.Test.YtenbhmmknejcjaaDoorKP9IAdd
/- WorkBetween, the program's: by the iterator over the working days. -/
namespace Go.Proofs.YtenbhmmknejcjaaDoor
open Go.RowKit Go.Shelf

theorem betV_no {a b : Int} {zs : List Int} (h : dOk a = false ∨ dOk b = false ∨ offOk zs = false) : betV a b zs = -1 := by
  unfold betV
  rw [if_neg]
  rintro ⟨x, y, z⟩
  rcases h with h | h | h
  · rw [x] at h; cases h
  · rw [y] at h; cases h
  · rw [z] at h; cases h
theorem betV_yes {a b : Int} {zs : List Int} (x : dOk a = true) (y : dOk b = true) (z : offOk zs = true) : betV a b zs = (upto zs (80000 - a).toNat b : Int) := by
  unfold betV; rw [if_pos ⟨x, y, z⟩]
theorem upto_all {zs : List Int} {f : Nat} {b : Int} (h : ∀ y ∈ wd zs f, y ≤ b) : upto zs f b = (wd zs f).length := by
  unfold upto; exact List.countP_eq_length.2 (fun y hy => by simpa using h y hy)
theorem upto_pre {zs : List Int} {f : Nat} {b x : Int} {p : List Int} (hp : p ++ [x] <+: wd zs f) (h1 : ∀ y ∈ p, y ≤ b) (h2 : b < x) : upto zs f b = p.length := by
  obtain ⟨t, ht⟩ := hp
  have hk : (wd zs f)[p.length]? = some x := by rw [← ht]; simp
  have hb := wd_mem (List.mem_of_getElem? hk)
  have hdrop := wd_drop hk
  have hte : t = wd zs (80000 - x).toNat := by rw [hdrop, ← ht]; simp
  have c1 : p.countP (fun y => decide (y ≤ b)) = p.length := List.countP_eq_length.2 (fun y hy => by simpa using h1 y hy)
  have c2 : t.countP (fun y => decide (y ≤ b)) = 0 := List.countP_eq_zero.2 (fun y hy => by
    rw [hte] at hy
    have := wd_mem hy
    simp; omega)
  unfold upto
  rw [← ht, List.countP_append, List.countP_append, c1, c2]
  simp; omega

theorem le_snoc {pre : List Int} {x b : Int} (h : ∀ y ∈ pre, y ≤ b) (hx : x ≤ b) : ∀ y ∈ pre ++ [x], y ≤ b := by
  intro y hy
  rcases List.mem_append.1 hy with e | e
  · exact h y e
  · have : y = x := by simpa using e
    omega

theorem one_cell (w : World) (x : Int) : (w.alloc (.cells #[.int .i64 x] 3)).cell? ⟨w.heap.size, 0, none⟩ = some (.int .i64 x) := (Cl.new w (.int .i64 x) 3).1
theorem one_below (w : World) (o : Obj) : Below w.heap.size w (w.alloc o) := (Below.refl _ w).alloc (Nat.le_refl _) _

set_option maxHeartbeats 1000000 in
theorem iBet_no (a b : Int) (ao : Option Addr) (c : Nat) (zs : List Int) (w : World) (hx : IntsAt w ao zs) (h1 : zs.length ≤ 1099511627776) (h : dOk a = false ∨ dOk b = false ∨ offOk zs = false) :
    Calls Tryd.prog 22 #[.int .i64 a, .int .i64 b, .slice ao zs.length c] w fun e w' => e = .returned (.int .i64 (-1)) ∧ Below w.heap.size w w' := by
  have HX : Hid (IntsAt w ao zs) := hx
  clear hx
  have tc := one_cell w b
  have HB : Hid _ := one_below w (.cells #[.int .i64 b] 3)
  cases ha : dOk a
  · go_enter Tryd.func22, Tryd.ntmps22
    go_wp2_with fail
    refine (iDayOk_any _ _).mono ?_
    rintro e w' ⟨rfl, hw⟩
    subst hw
    go_wp2
    go_ret
    exact ⟨rfl, HB.out⟩
  · cases hb : dOk b
    · go_enter Tryd.func22, Tryd.ntmps22
      go_wp2_with fail
      refine (iDayOk_any _ _).mono ?_
      rintro e w' ⟨rfl, hw⟩
      subst hw
      go_wp2_with fail
      refine (iDayOk_any _ _).mono ?_
      rintro e w' ⟨rfl, hw⟩
      subst hw
      go_wp2
      go_ret
      exact ⟨rfl, HB.out⟩
    · have ho : offOk zs = false := by
        rcases h with h | h | h
        · rw [ha] at h; cases h
        · rw [hb] at h; cases h
        · exact h
      clear h
      go_enter Tryd.func22, Tryd.ntmps22
      go_wp2_with fail
      refine (iDayOk_any _ _).mono ?_
      rintro e w' ⟨rfl, hw⟩
      subst hw
      go_wp2_with fail
      refine (iDayOk_any _ _).mono ?_
      rintro e w' ⟨rfl, hw⟩
      subst hw
      go_wp2_with fail
      refine (iOk_any _ _ zs _ (IntsAt.below HX.out HB.out) h1).mono ?_
      rintro e w' ⟨rfl, hw⟩
      subst hw
      go_wp2
      go_ret
      exact ⟨rfl, HB.out⟩

theorem four (w : World) (b : Int) (ao : Option Addr) (k c : Nat) (d : Int) : ∀ W0, W0 = ((((w.alloc (.cells #[.int .i64 b] 3)).alloc (.cells #[.int .i64 0] 3)).alloc (.cells #[.slice ao k c] 52)).alloc (.cells #[.int .i64 d] 3)) →
    W0.heap.size = w.heap.size + 4 ∧ Below w.heap.size w W0 ∧ Cl W0 w.heap.size (.int .i64 b) ∧ Cl W0 (w.heap.size + 1) (.int .i64 0) ∧ Cl W0 (w.heap.size + 1 + 1) (.slice ao k c) ∧ Cl W0 (w.heap.size + 1 + 1 + 1) (.int .i64 d) := by
  rintro _ rfl
  have z1 := World.size_alloc w (.cells #[.int .i64 b] 3)
  have z2 := World.size_alloc (w.alloc (.cells #[.int .i64 b] 3)) (.cells #[.int .i64 0] 3)
  have z3 := World.size_alloc ((w.alloc (.cells #[.int .i64 b] 3)).alloc (.cells #[.int .i64 0] 3)) (.cells #[.slice ao k c] 52)
  have k1 := Cl.new w (.int .i64 b) 3
  have k2 := Cl.new (w.alloc (.cells #[.int .i64 b] 3)) (.int .i64 0) 3
  have k3 := Cl.new ((w.alloc (.cells #[.int .i64 b] 3)).alloc (.cells #[.int .i64 0] 3)) (.slice ao k c) 52
  have k4 := Cl.new (((w.alloc (.cells #[.int .i64 b] 3)).alloc (.cells #[.int .i64 0] 3)).alloc (.cells #[.slice ao k c] 52)) (.int .i64 d) 3
  rw [z3, z2, z1] at k4
  rw [z2, z1] at k3
  rw [z1] at k2
  refine ⟨?_, ?_, ((k1.alloc _).alloc _).alloc _, (k2.alloc _).alloc _, k3.alloc _, k4⟩
  · rw [World.size_alloc, z3, z2, z1]
  · exact ((two_below w _ _).alloc (by rw [z2, z1]; omega) _).alloc (by rw [z3, z2, z1]; omega) _

set_option maxRecDepth 100000 in
set_option maxHeartbeats 2000000 in
theorem iBet_loop (a b : Int) (ao : Option Addr) (c : Nat) (zs : List Int) (w : World) (hx : IntsAt w ao zs) (h1 : zs.length ≤ 1099511627776) (ha : dOk a = true) (hb : dOk b = true) (ho : offOk zs = true) :
    CallsIn Fence.wide 6 Tryd.prog 22 #[.int .i64 a, .int .i64 b, .slice ao zs.length c] w fun e w' => e = .returned (.int .i64 (upto zs (80000 - a).toNat b)) ∧ Below w.heap.size w w' := by
  have HX : Hid (IntsAt w ao zs) := hx
  clear hx
  have tc := one_cell w b
  have hab := dOk_bd ha
  have hwl := wd_len zs (80000 - a).toNat
  refine callsIn_of_wp_marks Tryd.func22 rfl trivial ?_ rfl
  simp only [Tryd.ntmps22, List.size_toArray, List.length_cons, List.length_nil, Nat.reduceAdd, Nat.reduceSub, Array.replicate_succ, Array.replicate_zero, List.push_toArray, List.append_toArray, List.nil_append, List.cons_append]
  gi_wp2_with fail
  refine ⟨trivial, (callsIn_wide.2 (iDayOk_any _ _)).mono ?_⟩
  rintro e w1 ⟨rfl, hw1⟩
  subst hw1
  gi_wp2_with fail
  refine ⟨trivial, (callsIn_wide.2 (iDayOk_any _ _)).mono ?_⟩
  rintro e w1 ⟨rfl, hw1⟩
  subst hw1
  gi_wp2_with fail
  refine ⟨trivial, (callsIn_wide.2 (iOk_any _ _ zs _ (IntsAt.below HX.out (one_below w _)) h1)).mono ?_⟩
  rintro e w1 ⟨rfl, hw1⟩
  subst hw1
  gi_wp2_with fail
  refine ⟨trivial, (callsIn_wide.2 (workBehind_any _ _ _ _ _)).mono ?_⟩
  rintro e w1 ⟨rfl, hw1⟩
  subst hw1
  gi_wp2_with fail
  obtain ⟨W0, hW0⟩ : ∃ W0, ((((w.alloc (.cells #[.int .i64 b] 3)).alloc (.cells #[.int .i64 0] 3)).alloc (.cells #[.slice ao zs.length c] 52)).alloc (.cells #[.int .i64 a] 3)) = W0 := ⟨_, rfl⟩
  obtain ⟨hsz, hB0, k1, k2, k3, k4⟩ := four w b ao zs.length c a W0 hW0.symm
  rw [hW0]
  clear hW0 tc
  have HZ : IntsIn w.heap.size W0 ao zs := (IntsAt.in HX.out).keep hB0
  refine wpIn_rangeFunc_ownF (α := Int) rfl (by omega) (gf := 77) (lb := #[.pointer (some ⟨w.heap.size + 1 + 1 + 1, 0, none⟩), .pointer (some ⟨w.heap.size + 1 + 1, 0, none⟩)]) rfl trivial (enters_of Tryd.func77 (by kernel_rfl) rfl)
    (behind_stops 5 (by omega) (w.heap.size + 1 + 1 + 1) (w.heap.size + 1 + 1) w.heap.size c ao zs a W0 ha ho (by omega) (by omega) (by omega) k4.1 k3.1 HZ) keep_t (keep_b (by omega)) (Below.refl _ _) (fun _ => rfl)
    (fun pre W => ((∀ y ∈ pre, y ≤ b) ∧ Cl W (w.heap.size + 1) (.int .i64 (pre.length : Int)) ∧ Cl W w.heap.size (.int .i64 b)) ∧ Below w.heap.size w W)
    (fun cd pre W => (cd = .exit 0 ∧ ∃ (p : List Int) (x : Int), pre = p ++ [x] ∧ (∀ y ∈ p, y ≤ b) ∧ b < x ∧ Cl W (w.heap.size + 1) (.int .i64 (p.length : Int))) ∧ Below w.heap.size w W)
    (OwnFrom.and (Own.from (fun s A B row hs hg hr => ⟨hs.1, hs.2.1.kept hg hr, hs.2.2.kept hg hr⟩) _) (ownFrom_below (Nat.le_refl _) (by omega)))
    (fun cd => OwnFrom.and (Own.from (fun s A B row hs hg hr => by obtain ⟨e1, p, x, e2, e3, e4, e5⟩ := hs; exact ⟨e1, p, x, e2, e3, e4, e5.kept hg hr⟩) _) (ownFrom_below (Nat.le_refl _) (by omega)))
    ⟨⟨by simp, by simpa using k2, k1⟩, hB0⟩
    (fun x => { tmps := #[.int .i64 a, .int .i64 b, .slice ao zs.length c, undef, .pointer (some ⟨w.heap.size, 0, none⟩), undef, .int .i64 0, .slice ao zs.length c, .pointer (some ⟨w.heap.size + 1, 0, none⟩), .int .i64 x, .slice ao zs.length c, .int .i64 a, .bool true, .bool false, .bool false, .int .i64 b, .bool true, .bool false, .bool false, .bool false, .slice ao zs.length c, .bool true, .bool false, .bool false, .slice ao zs.length c, .int .i64 a, .func (.func 77) #[] #[.pointer (some ⟨w.heap.size + 1 + 1 + 1, 0, none⟩), .pointer (some ⟨w.heap.size + 1 + 1, 0, none⟩)], .int .i64 x, undef, undef, undef, undef, undef, undef], defers := [] }) ?assign ?body ?done ?stop
  case assign =>
    intro l x W K hK
    have hsm := Oper.semAt_some
    gi_wp2
    exact hK
  case body =>
    rintro l pre x W ⟨⟨hle, kl, kb⟩, hB⟩ hpl
    have hpl2 : (pre.length : Int) < 80000 := by omega
    have kl1 := kl.1
    have kl2 := kl.2
    have kb1 := kb.1
    by_cases hxb : b < x
    · have hsm := Oper.semAt_some
      gi_wp2
      exact ⟨KeepsOthers.refl _, ⟨rfl, pre, x, rfl, hle, hxb, kl⟩, hB⟩
    · have hxb' : x ≤ b := by omega
      have HLE : Hid (∀ y ∈ pre ++ [x], y ≤ b) := le_snoc hle hxb'
      clear hle
      have hsm := Oper.semAt_some
      gi_wp2
      exact ⟨KeepsOthers.setCell _ _ _, keep_set W _ (by omega) (by omega), ⟨HLE.out, by rw [show ((pre ++ [x]).length : Int) = (pre.length : Int) + 1 from by simp]; exact kl.same, kb.other (by omega)⟩, bel_set hB (by omega) _⟩
  case done =>
    rintro D ys W hD rfl ⟨⟨hle, kl, kb⟩, hB⟩ hK
    have HN : Hid _ := upto_all hle
    have kl1 := kl.1
    gi_wp2
    refine ⟨by simp, .inl ⟨_, _, rfl, run_takeDeferred hK, ?_⟩⟩
    refine ⟨_, results_tmp (t := 6) rfl _ _ _, ?_, hB.trans (belowK_b (w := w) (Nat.le_refl _) W D _ _ (by omega) hK rfl rfl)⟩
    exact one_int (by rw [HN.out])
  case stop =>
    rintro D cd pre W hD hpre ⟨⟨rfl, p, x, rfl, hle, hbx, kl⟩, hB⟩ hK
    have HN : Hid _ := upto_pre hpre hle hbx
    have kl1 := kl.1
    gi_wp2
    refine ⟨by simp, .inl ⟨_, _, rfl, run_takeDeferred hK, ?_⟩⟩
    refine ⟨_, results_tmp (t := 6) rfl _ _ _, ?_, hB.trans (belowK_b (w := w) (Nat.le_refl _) W D _ _ (by omega) hK rfl rfl)⟩
    exact one_int (by rw [HN.out])

theorem iBet_any (a b : Int) (ao : Option Addr) (c : Nat) (zs : List Int) (w : World) (hx : IntsAt w ao zs) (h1 : zs.length ≤ 1099511627776) :
    Calls Tryd.prog 22 #[.int .i64 a, .int .i64 b, .slice ao zs.length c] w fun e w' => e = .returned (.int .i64 (betV a b zs)) ∧ Below w.heap.size w w' := by
  by_cases h : dOk a = false ∨ dOk b = false ∨ offOk zs = false
  · rw [betV_no h]; exact iBet_no a b ao c zs w hx h1 h
  · have ha : dOk a = true := by cases e : dOk a; exact absurd (.inl e) h; rfl
    have hb : dOk b = true := by cases e : dOk b; exact absurd (.inr (.inl e)) h; rfl
    have ho : offOk zs = true := by cases e : offOk zs; exact absurd (.inr (.inr e)) h; rfl
    rw [betV_yes ha hb ho]
    exact callsIn_wide.1 (iBet_loop a b ao c zs w hx h1 ha hb ho)

end Go.Proofs.YtenbhmmknejcjaaDoor

/- AddWork and WorkBetween, the specification's. -/
namespace Go.Proofs.YtenbhmmknejcjaaDoor
open Go.RowKit

set_option maxHeartbeats 1000000 in
theorem sAdd_any (d n : Int) (ao : Option Addr) (c : Nat) (zs : List Int) (w : World) (hx : IntsAt w ao zs) (h1 : zs.length ≤ 1099511627776) :
    Calls Tryd.prog 70 #[.int .i64 d, .int .i64 n, .slice ao zs.length c] w fun e w' => e = .returned (.tuple #[.int .i64 ((addV d n zs).getD 0), .bool (addV d n zs).isSome]) ∧ Below w.heap.size w w' := by
  have HX : Hid (IntsAt w ao zs) := hx
  clear hx
  cases hd : dOk d
  · have HN : Hid _ := addV_no (n := n) (zs := zs) (.inl hd)
    go_enter Tryd.func70, Tryd.ntmps70
    go_wp2_with fail
    refine (sDayOk_any _ _).mono ?_
    rintro e w' ⟨rfl, hw⟩
    subst hw
    go_wp2
    go_ret2
    exact ⟨two_eq (by rw [HN.out]; rfl) (by rw [HN.out]; rfl), Below.refl _ _⟩
  · cases hn : inB n 0 400
    · have HN : Hid (addV d n zs = none) := by
        refine addV_no ?_
        by_cases h0 : n < 0
        · exact .inr (.inl h0)
        · by_cases h4 : 400 < n
          · exact .inr (.inr (.inl h4))
          · rw [inB_pos (by omega) (by omega)] at hn; cases hn
      go_enter Tryd.func70, Tryd.ntmps70
      go_wp2_with fail
      refine (sDayOk_any _ _).mono ?_
      rintro e w' ⟨rfl, hw⟩
      subst hw
      go_wp2_with fail
      refine (in_any _ _ _ _).mono ?_
      rintro e w' ⟨rfl, hw⟩
      subst hw
      go_wp2
      go_ret2
      exact ⟨two_eq (by rw [HN.out]; rfl) (by rw [HN.out]; rfl), Below.refl _ _⟩
    · have hnb : 0 ≤ n ∧ n ≤ 400 := by simpa [inB] using hn
      cases ho : offOk zs
      · have HN : Hid _ := addV_no (d := d) (n := n) (.inr (.inr (.inr ho)))
        go_enter Tryd.func70, Tryd.ntmps70
        go_wp2_with fail
        refine (sDayOk_any _ _).mono ?_
        rintro e w' ⟨rfl, hw⟩
        subst hw
        go_wp2_with fail
        refine (in_any _ _ _ _).mono ?_
        rintro e w' ⟨rfl, hw⟩
        subst hw
        go_wp2_with fail
        refine (sOff_any _ _ zs _ HX.out h1).mono ?_
        rintro e w1 ⟨rfl, b1⟩
        go_wp2
        go_ret2
        exact ⟨two_eq (by rw [HN.out]; rfl) (by rw [HN.out]; rfl), b1⟩
      · have HV : Hid _ := addV_yes hd hnb.1 hnb.2 ho
        have hdb := dOk_bd hd
        go_enter Tryd.func70, Tryd.ntmps70
        go_wp2_with fail
        refine (sDayOk_any _ _).mono ?_
        rintro e w' ⟨rfl, hw⟩
        subst hw
        go_wp2_with fail
        refine (in_any _ _ _ _).mono ?_
        rintro e w' ⟨rfl, hw⟩
        subst hw
        go_wp2_with fail
        refine (sOff_any _ _ zs _ HX.out h1).mono ?_
        rintro e w1 ⟨rfl, b1⟩
        have HX1 : Hid (IntsAt w1 ao zs) := IntsAt.below HX.out b1
        go_wp2
        go_loop [0, 1] (fun p q => ∃ (f m : Nat), f ≤ 80000 ∧ m ≤ 400 ∧ p = .int .i64 (80000 - f) ∧ q = .int .i64 m ∧ adv zs f m = adv zs (80000 - d).toNat n.toNat) (fun p _ => (80000 - intOf p).toNat)
        case atStart => exact ⟨(80000 - d).toNat, n.toNat, by omega, by omega, val_int (by omega), val_int (by omega), rfl⟩
        case round =>
          obtain ⟨f, m, hf, hm, rfl, rfl, ht⟩ := hrel
          have HT : Hid _ := ht
          clear ht
          obtain ⟨y, hy⟩ : ∃ y : Int, 80000 - (f : Int) = y := ⟨_, rfl⟩
          rw [hy]
          have hy1 : 0 ≤ y := by omega
          have hy2 : y ≤ 80000 := by omega
          have HY : Hid _ := hy
          cases m with
          | zero =>
            have HE : Hid (addV d n zs = some y) := by rw [Hid, HV.out, ← HT.out, adv_zero, hy]
            clear hy
            go_wp2
            go_ret2
            exact ⟨two_eq (by rw [HE.out]; rfl) (by rw [HE.out]; rfl), b1⟩
          | succ m =>
            have hmp : (0 : Int) < ((m + 1 : Nat) : Int) := by omega
            cases f with
            | zero =>
              have hye : y = 80000 := by omega
              have HE : Hid (addV d n zs = none) := by rw [Hid, HV.out, ← HT.out, adv_end]
              have hdk : dOk (y + 1) = false := dOk_neg (by omega)
              clear hy
              go_wp2_with fail
              refine (sDayOk_any _ _).mono ?_
              rintro e w' ⟨rfl, hw⟩
              subst hw
              go_wp2
              go_ret2
              exact ⟨two_eq (by rw [HE.out]; rfl) (by rw [HE.out]; rfl), b1⟩
            | succ f =>
              have HF : Hid (80000 - (f : Int) = y + 1) := by rw [Hid]; omega
              have hye : y ≤ 79999 := by omega
              have hdk : dOk (y + 1) = true := dOk_pos (by omega) (by omega)
              cases hw2 : wk zs (y + 1)
              · have HR : Hid (adv zs f (m + 1) = adv zs (80000 - d).toNat n.toNat) := by rw [Hid, ← HT.out, adv_no (by rw [HF.out]; exact hw2)]
                clear hy
                go_wp2_with fail
                refine (sDayOk_any _ _).mono ?_
                rintro e w' ⟨rfl, hw⟩
                subst hw
                go_wp2_with fail
                refine (sWorks2_any _ _ _ zs _ HX1.out h1 hdk).mono ?_
                rintro e w' ⟨rfl, hw⟩
                subst hw
                go_wp2
                go_round
                case rel => exact ⟨f, m + 1, by omega, hm, val_int HF.out.symm, rfl, HR.out⟩
                case measure => simp [intOf]; omega
              · have HR : Hid (adv zs f m = adv zs (80000 - d).toNat n.toNat) := by rw [Hid, ← HT.out, adv_yes (by rw [HF.out]; exact hw2)]
                clear hy
                go_wp2_with fail
                refine (sDayOk_any _ _).mono ?_
                rintro e w' ⟨rfl, hw⟩
                subst hw
                go_wp2_with fail
                refine (sWorks2_any _ _ _ zs _ HX1.out h1 hdk).mono ?_
                rintro e w' ⟨rfl, hw⟩
                subst hw
                go_wp2
                go_round
                case rel => exact ⟨f, m, by omega, by omega, val_int HF.out.symm, val_int (by omega), HR.out⟩
                case measure => simp [intOf]; omega

end Go.Proofs.YtenbhmmknejcjaaDoor

/- Chapter 8: Deadline, the program's and the specification's. -/
namespace Go.Proofs.YtenbhmmknejcjaaDoor
open Go.RowKit

/-- AddWork; -1 where there is none -/
def dueV (d n : Int) (zs : List Int) : Int := (addV d n zs).getD (-1)
theorem dueV_no {d n : Int} {zs : List Int} (h : addV d n zs = none) : dueV d n zs = -1 := by rw [dueV, h]; rfl
theorem dueV_yes {d n y : Int} {zs : List Int} (h : addV d n zs = some y) : dueV d n zs = y := by rw [dueV, h]; rfl

set_option maxHeartbeats 400000 in
theorem iDue_any (d n : Int) (ao : Option Addr) (c : Nat) (zs : List Int) (w : World) (hx : IntsAt w ao zs) (h1 : zs.length ≤ 1099511627776) :
    Calls Tryd.prog 19 #[.int .i64 d, .int .i64 n, .slice ao zs.length c] w fun e w' => e = .returned (.int .i64 (dueV d n zs)) ∧ Below w.heap.size w w' := by
  cases h : addV d n zs with
  | none =>
    have HV : Hid _ := dueV_no h
    have HC : Hid (Calls Tryd.prog 55 #[.int .i64 d, .int .i64 n, .slice ao zs.length c] w fun e w' => e = .returned (.tuple #[.int .i64 0, .bool false]) ∧ Below w.heap.size w w') := by
      have g := iAdd_any d n ao c zs w hx h1
      rw [h] at g
      exact g
    clear hx
    go_enter Tryd.func19, Tryd.ntmps19
    go_wp2_with fail
    refine Calls.mono HC.out ?_
    rintro e w1 ⟨rfl, b1⟩
    go_wp2
    go_ret
    exact ⟨one_int HV.out.symm, b1⟩
  | some y =>
    have HV : Hid _ := dueV_yes h
    have HC : Hid (Calls Tryd.prog 55 #[.int .i64 d, .int .i64 n, .slice ao zs.length c] w fun e w' => e = .returned (.tuple #[.int .i64 y, .bool true]) ∧ Below w.heap.size w w') := by
      have g := iAdd_any d n ao c zs w hx h1
      rw [h] at g
      exact g
    clear hx
    go_enter Tryd.func19, Tryd.ntmps19
    go_wp2_with fail
    refine Calls.mono HC.out ?_
    rintro e w1 ⟨rfl, b1⟩
    go_wp2
    go_ret
    exact ⟨one_int HV.out.symm, b1⟩

set_option maxHeartbeats 400000 in
theorem sDue_any (d n : Int) (ao : Option Addr) (c : Nat) (zs : List Int) (w : World) (hx : IntsAt w ao zs) (h1 : zs.length ≤ 1099511627776) :
    Calls Tryd.prog 36 #[.int .i64 d, .int .i64 n, .slice ao zs.length c] w fun e w' => e = .returned (.int .i64 (dueV d n zs)) ∧ Below w.heap.size w w' := by
  cases h : addV d n zs with
  | none =>
    have HV : Hid _ := dueV_no h
    have HC : Hid (Calls Tryd.prog 70 #[.int .i64 d, .int .i64 n, .slice ao zs.length c] w fun e w' => e = .returned (.tuple #[.int .i64 0, .bool false]) ∧ Below w.heap.size w w') := by
      have g := sAdd_any d n ao c zs w hx h1
      rw [h] at g
      exact g
    clear hx
    go_enter Tryd.func36, Tryd.ntmps36
    go_wp2_with fail
    refine Calls.mono HC.out ?_
    rintro e w1 ⟨rfl, b1⟩
    go_wp2
    go_ret
    exact ⟨one_int HV.out.symm, b1⟩
  | some y =>
    have HV : Hid _ := dueV_yes h
    have HC : Hid (Calls Tryd.prog 70 #[.int .i64 d, .int .i64 n, .slice ao zs.length c] w fun e w' => e = .returned (.tuple #[.int .i64 y, .bool true]) ∧ Below w.heap.size w w') := by
      have g := sAdd_any d n ao c zs w hx h1
      rw [h] at g
      exact g
    clear hx
    go_enter Tryd.func36, Tryd.ntmps36
    go_wp2_with fail
    refine Calls.mono HC.out ?_
    rintro e w1 ⟨rfl, b1⟩
    go_wp2
    go_ret
    exact ⟨one_int HV.out.symm, b1⟩

end Go.Proofs.YtenbhmmknejcjaaDoor
