/- The contract of UnpackMessage, the specification's. -/
import Derived.Test.YtbncdhfmhokgeaaGreatDoorJFnBatch7a
import Derived.Test.YtbncdhfmhokgeaaGreatDoorKFnBatchSGetF
import Derived.Test.YtbncdhfmhokgeaaGreatDoorKFnBatchSGSet
import Derived.Deep.RegionLaw
namespace Go.Proofs.YtbncdhfmhokgeaaGreatDoor
open Go.RowKit

theorem unpR_no {w w' : World} {l : List UInt8} {c a : Int} (h : unp l = (c, a, 0, [])) (hb : Below w.heap.size w w') :
    UnpR w l (.returned (.tuple #[.agg #[.int .i64 0, .slice none 0 0], .int .i64 c, .int .i64 a])) w' := by
  unfold UnpR; rw [h]; exact ⟨hb, none, 0, rfl, World.ownsRow_nil _ _ _ _⟩

theorem getSI_le {l : List UInt8} (h : 0 ≤ getSI l 4) : getSI l 4 ≤ l.length := by
  by_cases hc : (0 : Int) ≤ 4 ∧ (4 : Int) + 8 ≤ l.length ∧ (4 : Int) + szB (l.getD (4 : Int).toNat 0) ≤ l.length
  · cases ho : getSOk l 4
    · rw [(getS_no ho).2] at h; simp at h
    · rw [(getS_yes ho).2]; exact hc.2.2
  · rw [(getS_no (getS_out hc)).2] at h; simp at h

theorem step_append_own {P : Program} {ops : Array Oper} {o : Oper} {a : Act} {w : World} {K : Act → World → Prop} {Q : Exit → Act → World → Prop} {E : Prop}
    (hg : o.guard = none) (s x : Operand) (t : TypeId) (ho : o.op = Op.call { callee := Callee.builtin Builtin.append, args := #[s, x], argTypes := #[t, t] })
    (base : Nat) (e : TypeId) (i : TypeInfo) (z : Value) (size bytes : Nat) (ht : P.underlying t = some (.slice e)) (hi : P.info? e = some i) (hz : i.zero = some z)
    (hsize : i.size = size) (hby : i.bytes = bytes) (hzs : z.cells.size = size) (hsz : 0 < size)
    (v : Value) (n : Nat) (xs : List Value) (hs : a.eval s = v) (hown : w.ownsRow base e size v n xs)
    (ad : Addr) (m c : Nat) (news : List Value) (hx : a.eval x = .slice (some ad) m c) (hl : news.length = m * size) (hnews : ∀ j u, news[j]? = some u → w.cell? (ad.add j) = some u) (h1 : ∀ u ∈ news, u.oneCell' = true)
    (h63 : n + m ≤ maxLen) (hbytes : (n + m) * bytes ≤ 140737488355328) (hbase : base ≤ w.heap.size)
    (h : ∀ v' w', w'.ownsRow base e size v' (n + m) (xs ++ news) → w.grownBy w' v.ownBlock → (v' = .slice none 0 0 ↔ v = .slice none 0 0 ∧ m = 0) → K (a.put o.dst v') w') :
    if Region.wanted o (yielded ops a.tmps) = true then Oper.wp P o a w K Q else E := by
  rw [if_pos (by simp [Region.wanted, hg])]
  exact wp_append_own w s x t ho base e i z size bytes ht hi hz hsize hby hzs hsz v n xs hs hown ad m c news hx hl hnews h1 h63 hbytes hbase h

set_option maxRecDepth 100000 in
set_option maxHeartbeats 3200000 in
theorem sUnpack_any (l : List UInt8) (w : World) (hl : l.length ≤ 1048576) :
    Calls Tryz.prog 16 #[.string ⟨l.toArray⟩] w fun e w' => UnpR w l e w' := by
  obtain ⟨i0, hi, hz0, hz1, hz2⟩ := info_parts infoF
  obtain ⟨W1, hW1⟩ : ∃ W, (w.alloc (.cells #[.int .i64 0, .slice none 0 0] 26)).alloc (.cells #[.int .i64 0, .slice none 0 0] 26) = W := ⟨_, rfl⟩
  have x0 : W1.cell? ⟨w.heap.size, 0, none⟩ = some (.int .i64 0) := by rw [← hW1]; simp [go_sem]
  have x1 : W1.cell? ⟨w.heap.size, 1, none⟩ = some (.slice none 0 0) := by rw [← hW1]; simp [go_sem]
  have x2 : W1.cell? ⟨w.heap.size + 1, 0, none⟩ = some (.int .i64 0) := by rw [← hW1]; simp [go_sem]
  have x3 : W1.cell? ⟨w.heap.size + 1, 1, none⟩ = some (.slice none 0 0) := by rw [← hW1]; simp [go_sem]
  have f0 : W1.frozen? ⟨w.heap.size, 0, none⟩ = false := by rw [← hW1]; simp [go_sem]
  have f1 : W1.frozen? ⟨w.heap.size, 1, none⟩ = false := by rw [← hW1]; simp [go_sem]
  have hs1 : W1.heap.size = w.heap.size + 2 := by rw [← hW1]; simp
  have bel : Below w.heap.size w W1 := by rw [← hW1]; exact ((Below.refl _ _).alloc (Nat.le_refl _) _).alloc (by simp) _
  have HW1 : Hid _ := hW1
  clear hW1
  by_cases h4 : (l.length : Int) < 4
  · have HU : Hid (unp l = (1, 0, 0, [])) := by
      have : kindOk l = false := by simp [kindOk, hasB_neg (n := l.length) (i := 0) (size := 4) (by omega)]
      simp [Hid, unp, this]
    go_enter Tryz.func16, Tryz.ntmps16
    go_wp2
    refine bodyPost_ret (by simp [results, Tryz.results16, go_sem]; try rfl) rfl ?_
    refine unpR_no HU.out ?_
    go_grown
  have i4 : (4 : Int) ≤ (l.length : Int) := by omega
  have HP : Hid _ := four_eq l
  have hpl : (l.take 4).length ≤ 1099511627776 := by simp; omega
  clear h4
  cases hd : within 48 57 (l.take 4)
  · have HU : Hid (unp l = (1, 0, 0, [])) := by
      have : kindOk l = false := by simp [kindOk, hd]
      simp [Hid, unp, this]
    go_enter Tryz.func16, Tryz.ntmps16
    go_wp2_with fail
    rw [HP.out, HW1.out]
    refine (sDigits_any _ _ hpl).mono ?_
    rintro e w1 ⟨rfl, hw1⟩
    subst hw1
    rw [hd]
    go_wp2
    refine bodyPost_ret (by simp [results, Tryz.results16, go_sem, x0, x1]; try rfl) rfl ?_
    exact unpR_no HU.out ((bel.setCell (Nat.le_refl _) _).setCell (Nat.le_refl _) _)
  · have HK : Hid (kindOk l = true) := by simp [Hid, kindOk, hd, hasB_pos (n := l.length) (i := 0) (size := 4) (by omega) (by omega) (by omega)]
    go_enter Tryz.func16, Tryz.ntmps16
    go_wp2_with fail
    rw [HP.out, HW1.out]
    refine (sDigits_any _ _ hpl).mono ?_
    rintro e w1 ⟨rfl, hw1⟩
    subst hw1
    rw [hd]
    go_wp2_with fail
    refine (sGetSet_any _ _ _ hl).mono ?_
    rintro e w2 ⟨ao, cap, rfl, ho, b2⟩
    have hs2 := b2.size
    have y0 : w2.cell? ⟨w.heap.size, 0, none⟩ = some (.int .i64 0) := (b2.cell (p := ⟨w.heap.size, 0, none⟩) (by show w.heap.size < w1.heap.size; omega)).trans x0
    have y1 : w2.cell? ⟨w.heap.size, 1, none⟩ = some (.slice none 0 0) := (b2.cell (p := ⟨w.heap.size, 1, none⟩) (by show w.heap.size < w1.heap.size; omega)).trans x1
    have y2 : w2.cell? ⟨w.heap.size + 1, 0, none⟩ = some (.int .i64 0) := (b2.cell (p := ⟨w.heap.size + 1, 0, none⟩) (by show w.heap.size + 1 < w1.heap.size; omega)).trans x2
    have y3 : w2.cell? ⟨w.heap.size + 1, 1, none⟩ = some (.slice none 0 0) := (b2.cell (p := ⟨w.heap.size + 1, 1, none⟩) (by show w.heap.size + 1 < w1.heap.size; omega)).trans x3
    have g0 : w2.frozen? ⟨w.heap.size, 0, none⟩ = false := (b2.frozen (p := ⟨w.heap.size, 0, none⟩) (by show w.heap.size < w1.heap.size; omega)).trans f0
    have g1 : w2.frozen? ⟨w.heap.size, 1, none⟩ = false := (b2.frozen (p := ⟨w.heap.size, 1, none⟩) (by show w.heap.size < w1.heap.size; omega)).trans f1
    have bel2 : Below w.heap.size w w2 := bel.trans (b2.mono (by omega))
    have hs3 : w.heap.size + 2 ≤ w2.heap.size := by omega
    clear x0 x1 x2 x3 f0 f1 bel HW1
    by_cases hneg : getSI l 4 < 0
    · have HU : Hid (unp l = (2, 4, 0, [])) := by rw [Hid, unp, HK.out, if_neg (by decide), if_pos hneg]
      obtain ⟨p, hp⟩ : ∃ x, getSI l 4 = x := ⟨_, rfl⟩
      rw [hp] at hneg ⊢
      clear hp ho b2 hs2
      go_wp2
      refine bodyPost_ret (by simp [results, Tryz.results16, go_sem, y0, y1]; try rfl) rfl ?_
      exact unpR_no HU.out ((bel2.setCell (Nat.le_refl _) _).setCell (Nat.le_refl _) _)
    · obtain ⟨kd, hkd⟩ : ∃ x, numOf (l.take 4) = x := ⟨_, rfl⟩
      have HKD : Hid _ := hkd
      have HU : Hid (unp l = if (rdF l (getSL l 4) (getSI l 4) []).1 = 0 then (0, 0, kd, (rdF l (getSL l 4) (getSI l 4) []).2.2) else ((rdF l (getSL l 4) (getSI l 4) []).1, (rdF l (getSL l 4) (getSI l 4) []).2.1, 0, [])) := by rw [Hid, unp, HK.out, if_neg (by decide), if_neg hneg, hkd]
      have hpl4 := getSI_le (l := l) (by omega)
      have hnl := getSL_len l 4
      obtain ⟨ns, hns⟩ : ∃ x, getSL l 4 = x := ⟨_, rfl⟩
      obtain ⟨p, hp⟩ := Int.eq_ofNat_of_zero_le (show 0 ≤ getSI l 4 by omega)
      rw [hns] at ho hnl
      rw [hns, hp] at HU
      rw [hns, hp]
      rw [hp] at hpl4
      have HC : Hid (∀ i, i < ns.length → ∃ b off, ao = some ⟨b, off, none⟩ ∧ w.heap.size + 2 ≤ b ∧ b < w2.heap.size ∧ w2.cell? ⟨b, off + i, none⟩ = some (.int .i64 (ns.getD i 0))) := by
        intro i hin
        rcases ints_own ho with rfl | ⟨b, off, rfl, hb, hc⟩
        · simp at hin
        · have := (ho.lt b rfl).1
          exact ⟨b, off, rfl, by omega, hb, hc i hin⟩
      have HR : Hid _ := And.intro y0 (And.intro y1 (And.intro y2 (And.intro y3 (And.intro g0 g1))))
      clear ho b2 hs2 hns hp hneg hkd y0 y1 y2 y3 g0 g1
      go_wp2_with fail
      rw [HP.out]
      refine (sNumOf_any _ _ hpl).mono ?_
      rintro e w3 ⟨rfl, hw3⟩
      subst hw3
      rw [HKD.out]
      obtain ⟨W3, hW3⟩ : ∃ W, w3.alloc (.cells #[.int .i64 kd, .slice none 0 0] 26) = W := ⟨_, rfl⟩
      have z2 : W3.cell? ⟨w3.heap.size, 0, none⟩ = some (.int .i64 kd) := by rw [← hW3]; simp [go_sem]
      have z3 : W3.cell? ⟨w3.heap.size, 1, none⟩ = some (.slice none 0 0) := by rw [← hW3]; simp [go_sem]
      have g3 : W3.frozen? ⟨w3.heap.size, 1, none⟩ = false := by rw [← hW3]; simp [go_sem]
      have bel3 : Below w3.heap.size w3 W3 := by rw [← hW3]; exact (Below.refl _ _).alloc (Nat.le_refl _) _
      have HW3 : Hid _ := hW3
      clear hW3
      go_wp2
      rw [HW3.out]
      go_loopw [7, 9] (fun at_ i wr => ∃ (k a : Nat) (acc : List Fld) (v : Value), k ≤ ns.length ∧ i = .int .i64 k ∧ at_ = .int .i64 a ∧ a ≤ l.length ∧ acc.length = k ∧ rdF l ns p [] = rdF l (ns.drop k) a acc ∧ wr.ownsRow (w3.heap.size + 1) 60 2 v acc.length (fcells acc) ∧ wr.cell? ⟨w3.heap.size, 0, none⟩ = some (.int .i64 kd) ∧ wr.cell? ⟨w3.heap.size, 1, none⟩ = some v ∧ wr.frozen? ⟨w3.heap.size, 1, none⟩ = false ∧ Below w3.heap.size w3 wr) (fun _ i _ => ns.length - (intOf i).toNat)
      case atStart => exact ⟨0, p, [], _, Nat.zero_le _, rfl, rfl, by omega, rfl, rfl, World.ownsRow_nil _ _ _ _, z2, z3, g3, bel3⟩
      case round =>
        obtain ⟨k, a, acc, v, hk, rfl, rfl, hal, hac, hrd, ho, y2, y3, y4, hbr⟩ := hrel
        clear z2 z3 g3 bel3 HW3
        have hM : w3.heap.size < wr.heap.size := World.block_lt_of_cell? wr _ y2
        by_cases hlt : k < ns.length
        · obtain ⟨b, off, rfl, hb1, hb2, hc⟩ := HC.out k hlt
          have hnb1 : ¬ b = w.heap.size := by omega
          have hnb2 : ¬ w.heap.size = b := by omega
          have c1 : wr.cell? ⟨b, off + k, none⟩ = some (.int .i64 (ns.getD k 0)) := (hbr.cell (p := ⟨b, off + k, none⟩) hb2).trans hc
          have hki : (k : Int) < (ns.length : Int) := by omega
          rw [rdF_step l ns k a acc hlt] at hrd
          obtain ⟨n, hn⟩ : ∃ x, ns.getD k 0 = x := ⟨_, rfl⟩
          rw [hn] at c1 hrd
          have HO : Hid (wr.ownsRow (w3.heap.size + 1) 60 2 v acc.length (fcells acc)) := ho
          clear hn hc ho
          cases hf : fldAt l a n
          · rw [hf, if_neg (by decide)] at hrd
            have HE : Hid _ := getE_no hf
            rw [hrd] at HU
            clear hf hrd
            go_wp2_with fail
            refine (l04Get_any l a n _ hl hal).mono ?_
            rintro e w4 ⟨he, b4⟩
            rw [HE.out] at he
            subst he
            obtain ⟨r0, r1, r2, r3, r4, r5⟩ := HR.out
            have b34 : Below w3.heap.size w3 w4 := hbr.trans (b4.mono (by omega))
            have q0 := (b34.cell (p := ⟨w.heap.size, 0, none⟩) (by show w.heap.size < w3.heap.size; omega)).trans r0
            have q1 := (b34.cell (p := ⟨w.heap.size, 1, none⟩) (by show w.heap.size < w3.heap.size; omega)).trans r1
            have q2 := (b34.cell (p := ⟨w.heap.size + 1, 0, none⟩) (by show w.heap.size + 1 < w3.heap.size; omega)).trans r2
            have q3 := (b34.cell (p := ⟨w.heap.size + 1, 1, none⟩) (by show w.heap.size + 1 < w3.heap.size; omega)).trans r3
            have q4 := (b34.frozen (p := ⟨w.heap.size, 0, none⟩) (by show w.heap.size < w3.heap.size; omega)).trans r4
            have q5 := (b34.frozen (p := ⟨w.heap.size, 1, none⟩) (by show w.heap.size < w3.heap.size; omega)).trans r5
            have c2 : w4.cell? ⟨b, off + k, none⟩ = some (.int .i64 n) := (b4.cell (p := ⟨b, off + k, none⟩) (by show b < wr.heap.size; omega)).trans c1
            have HB4 : Hid (Below w.heap.size w w4) := bel2.trans (b34.mono (by omega))
            clear r0 r1 r2 r3 r4 r5 b34 b4 hbr c1 y2 y3 y4 HO bel2
            go_wp2
            go_region
            all_goals
              go_wp2
              refine bodyPost_ret (by simp [results, Tryz.results16, go_sem, q0, q1]; try rfl) rfl ?_
              exact unpR_no (HU.out.trans (if_neg (by show ¬ (3 : Int) = 0; decide))) (((HB4.out.drew).setCell (Nat.le_refl _) _).setCell (Nat.le_refl _) _)
          · rw [hf, if_pos rfl] at hrd
            have HE : Hid _ := getE_yes hf
            obtain ⟨q, hq⟩ : ∃ q : Nat, rawI l a n = q := Int.eq_ofNat_of_zero_le (by simp [fldAt] at hf; exact hf.1)
            have hql : q ≤ l.length := by
              have h1 : fieldOk n (rawL l a n) = true := by simp [fldAt] at hf; exact hf.2
              have := (rawI_le (l := l) (i := a) (n := n) (by omega) (known_K (ok_known h1)).2.1).2
              omega
            clear hf
            obtain ⟨r, hr⟩ : ∃ x, rawL l a n = x := ⟨_, rfl⟩
            rw [hr, hq] at hrd HE
            have HRD : Hid _ := hrd
            clear hrd hr hq
            go_wp2_with fail
            refine (l04Get_any l a n _ hl hal).mono ?_
            rintro e w4 ⟨he, b4⟩
            rw [HE.out] at he
            subst he
            have v2 : w4.cell? ⟨w3.heap.size, 0, none⟩ = some (.int .i64 kd) := (b4.cell (p := ⟨w3.heap.size, 0, none⟩) hM).trans y2
            have v3 : w4.cell? ⟨w3.heap.size, 1, none⟩ = some v := (b4.cell (p := ⟨w3.heap.size, 1, none⟩) hM).trans y3
            have v4 : w4.frozen? ⟨w3.heap.size, 1, none⟩ = false := (b4.frozen (p := ⟨w3.heap.size, 1, none⟩) hM).trans y4
            have c2 : w4.cell? ⟨b, off + k, none⟩ = some (.int .i64 n) := (b4.cell (p := ⟨b, off + k, none⟩) (by show b < wr.heap.size; omega)).trans c1
            have ho4 := keepRow HO.out b4
            have hs4 := b4.size
            have hnb3 : ¬ b = w4.heap.size := by omega
            have hnb4 : ¬ w4.heap.size = b := by omega
            have hnb5 : ¬ w3.heap.size = w4.heap.size := by omega
            have hnb6 : ¬ w4.heap.size = w3.heap.size := by omega
            have Y2 : Hid _ := y2
            have Y3 : Hid _ := y3
            have Y4 : Hid _ := y4
            have HAC : Hid _ := hac
            have t3 : (w4.alloc (.cells #[.int .i64 n, .string ⟨r.toArray⟩] 60)).cell? ⟨w3.heap.size, 1, none⟩ = some v := (World.cell?_alloc_lt _ _ ⟨w3.heap.size, 1, none⟩ (by show w3.heap.size < w4.heap.size; omega)).trans v3
            have t4 : (w4.drew.alloc (.cells #[.int .i64 n, .string ⟨r.toArray⟩] 60)).cell? ⟨w3.heap.size, 1, none⟩ = some v := (World.cell?_alloc_lt _ _ ⟨w3.heap.size, 1, none⟩ (by show w3.heap.size < w4.heap.size; omega)).trans v3
            clear y2 y3 y4 c1 HO
            go_wp2
            go_region_law (refine step_append_own rfl (.tmp 59) (.tmp 66) 24 rfl (w3.heap.size + 1) 60 i0 _ 2 24 Tryz.underlying24 hi hz0 hz1 hz2 rfl (by decide) v acc.length (fcells acc) (by simp [Act.eval]) ((keepRow ho4 ((Below.refl _ _).drew)).alloc _) ⟨w4.heap.size, 0, none⟩ 1 1 [.int .i64 n, .string ⟨r.toArray⟩] (by simp [Act.eval]) rfl (two_new _ _ _ _ _ rfl) (fcells_one [(n, r)]) (by unfold maxLen; omega) (by omega) (by simp; omega) ?_
                           intro v' w5 ho5 hg5 hn5
                           have b5 : Below (w3.heap.size + 1) wr w5 := ((((b4.mono (by omega)).drew).alloc (by simp; omega) _).grown hg5 (by simp; omega) (fun j hj => (ho4.lt j hj).1))
                           have u2 : w5.cell? ⟨w3.heap.size, 0, none⟩ = some (.int .i64 kd) := (b5.cell (p := ⟨w3.heap.size, 0, none⟩) (Nat.lt_succ_self _)).trans Y2.out
                           have u3 : w5.cell? ⟨w3.heap.size, 1, none⟩ = some v := (b5.cell (p := ⟨w3.heap.size, 1, none⟩) (Nat.lt_succ_self _)).trans Y3.out
                           have u4 : w5.frozen? ⟨w3.heap.size, 1, none⟩ = false := (b5.frozen (p := ⟨w3.heap.size, 1, none⟩) (Nat.lt_succ_self _)).trans Y4.out
                           have hr5 : w5.ownsRow (w3.heap.size + 1) 60 2 v' (acc ++ [(n, r)]).length (fcells (acc ++ [(n, r)])) := by rw [fcells_append, List.length_append]; exact ho5
                           obtain ⟨a5, c5, hv5, _, _⟩ := flds_of_own' hr5
                           subst hv5
                           have hlen5 : (acc ++ [(n, r)]).length = k + 1 := by rw [List.length_append, HAC.out]; rfl
                           have HL5 : Hid (∀ g, (Value.slice a5 (acc ++ [(n, r)]).length c5).ownBlock = some g → g ≠ w3.heap.size) := fun g hg => by have := (ho5.lt g hg).1; omega
                           have HR5 : Hid _ := hr5
                           have HB5 : Hid _ := b5
                           rw [hlen5] at HL5 HR5 ⊢
                           clear hg5 hn5 ho5 b5 hr5 hlen5)
            all_goals
              go_wp2
              go_roundw
              case rel =>
                refine ⟨k + 1, q, acc ++ [(n, r)], .slice a5 (k + 1) c5, by omega, by go_num, rfl, hql, by rw [List.length_append, HAC.out]; rfl, HRD.out, by rw [show (acc ++ [(n, r)]).length = k + 1 from by rw [List.length_append, HAC.out]; rfl]; exact keepSet HR5.out _ _ HL5.out, by simp [go_sem, u2], by simp [go_sem, u3], by simp [go_sem, u4], ?_⟩
                exact (hbr.trans (HB5.out.mono (Nat.le_succ _))).setCell (Nat.le_refl _) _
              case measure => simp [intOf]; omega
        · have hke : k = ns.length := by omega
          subst hke
          obtain ⟨r0, r1, r2, r3, r4, r5⟩ := HR.out
          have q0 := (hbr.cell (p := ⟨w.heap.size, 0, none⟩) (by show w.heap.size < w3.heap.size; omega)).trans r0
          have q1 := (hbr.cell (p := ⟨w.heap.size, 1, none⟩) (by show w.heap.size < w3.heap.size; omega)).trans r1
          have q2 := (hbr.cell (p := ⟨w.heap.size + 1, 0, none⟩) (by show w.heap.size + 1 < w3.heap.size; omega)).trans r2
          have q3 := (hbr.cell (p := ⟨w.heap.size + 1, 1, none⟩) (by show w.heap.size + 1 < w3.heap.size; omega)).trans r3
          have q4 := (hbr.frozen (p := ⟨w.heap.size, 0, none⟩) (by show w.heap.size < w3.heap.size; omega)).trans r4
          have q5 := (hbr.frozen (p := ⟨w.heap.size, 1, none⟩) (by show w.heap.size < w3.heap.size; omega)).trans r5
          have HBW : Hid (Below w.heap.size w wr) := bel2.trans (hbr.mono (by omega))
          rw [List.drop_length] at hrd
          clear r0 r1 r2 r3 r4 r5 HR HC hbr bel2
          by_cases hlt2 : (a : Int) < (l.length : Int)
          · have e1 : rdF l [] a acc = (4, (a : Int), []) := if_pos hlt2
            rw [hrd, e1] at HU
            clear hrd e1 ho
            go_wp2
            refine bodyPost_ret (by simp [results, Tryz.results16, go_sem, q0, q1]; try rfl) rfl ?_
            exact unpR_no (HU.out.trans (if_neg (by show ¬ (4 : Int) = 0; decide))) ((HBW.out.setCell (Nat.le_refl _) _).setCell (Nat.le_refl _) _)
          · have e1 : rdF l [] a acc = (0, 0, acc) := if_neg hlt2
            rw [hrd, e1] at HU
            have HU2 : Hid (unp l = (0, 0, kd, acc)) := HU.out.trans (if_pos rfl)
            have HO : Hid (wr.ownsRow (w3.heap.size + 1) 60 2 v acc.length (fcells acc)) := ho
            obtain ⟨ao', cap', rfl, _, _⟩ := flds_of_own' ho
            clear hrd e1 ho HU
            go_wp2
            refine bodyPost_ret (by simp [results, Tryz.results16, go_sem, q0, q1]; try rfl) rfl ?_
            unfold UnpR
            rw [← hac, HU2.out]
            refine ⟨(HBW.out.setCell (Nat.le_refl _) _).setCell (Nat.le_refl _) _, ao', cap', rfl, ?_⟩
            have hne : ∀ g, (Value.slice ao' acc.length cap').ownBlock = some g → g ≠ w.heap.size := fun g hg => by have := (World.ownsRow.lt HO.out g hg).1; omega
            exact lowerRow (keepSet (keepSet HO.out _ _ hne) _ _ hne) (by omega)

end Go.Proofs.YtbncdhfmhokgeaaGreatDoor
