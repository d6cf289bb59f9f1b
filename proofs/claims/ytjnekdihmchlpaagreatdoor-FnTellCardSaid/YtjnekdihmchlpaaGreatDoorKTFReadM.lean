/- The contract of the program's reader of a message: it answers, or it panics with a fault. -/
import Derived.Test.YtjnekdihmchlpaaGreatDoorKTFReadF
import Derived.Test.YtjnekdihmchlpaaGreatDoorJT1a
namespace Go.Proofs.YtjnekdihmchlpaaGreatDoor
open Go.RowKit

/-- a message of one's own, or a fault -/
def ReadM (w : World) (l : List UInt8) (e : Ending) (w' : World) : Prop :=
  Below w.heap.size w w' ∧ ((unp l).1 = 0 ∧ (∃ ao cap, e = .returned (.agg #[.int .i64 (unp l).2.2.1, .slice ao (unp l).2.2.2.length cap]) ∧ w'.ownsRow w.heap.size 57 2 (.slice ao (unp l).2.2.2.length cap) (unp l).2.2.2.length (fcells (unp l).2.2.2)) ∨
    (unp l).1 ≠ 0 ∧ e = faultE (unp l).1 (unp l).2.1)

theorem two_new (W : World) (x y : Value) (t : TypeId) (b : Nat) (hb : b = W.heap.size) : ∀ (j : Nat) (u : Value), [x, y][j]? = some u → (W.alloc (.cells #[x, y] t)).cell? ((⟨b, 0, none⟩ : Addr).add j) = some u := by
  subst hb
  intro j u h
  match j with
  | 0 => simp at h; subst h; simp [Addr.add, go_sem]
  | 1 => simp at h; subst h; simp [Addr.add, go_sem]
  | j + 2 => simp at h
theorem set_other {w : World} {p q : Addr} {u : Value} (h : q.block ≠ p.block) : (w.setCell p u).cell? q = w.cell? q := World.cell?_of_block (w := w) (Below.heap_setCell w p u q.block h)

set_option maxRecDepth 100000 in
set_option maxHeartbeats 1600000 in
theorem readMessage_any (l : List UInt8) (w : World) (hl : l.length ≤ 1048576) :
    Calls Tryz.prog 39 #[.string ⟨l.toArray⟩] w fun e w' => ReadM w l e w' := by
  obtain ⟨i0, hi, hz0, hz1, hz2⟩ := info_parts infoF
  cases hk : kindOk l
  · have HK : Hid _ := kindE_no hk
    have HU : Hid (unp l = (1, 0, 0, [])) := by simp [Hid, unp, hk]
    clear hk
    go_enter Tryz.func39, Tryz.ntmps39
    go_wp2_with fail
    refine (readKind_any _ _ hl).mono ?_
    rintro e w1 ⟨he, hw⟩
    rw [HK.out, faultE] at he
    subst he hw
    go_wp2
    exact ⟨rfl, by unfold ReadM; rw [HU.out]; exact ⟨(Below.refl _ _).alloc (Nat.le_refl _) _, .inr ⟨by decide, rfl⟩⟩⟩
  · have HK : Hid _ := kindE_yes hk
    have HKO : Hid _ := hk
    obtain ⟨kd, hkd⟩ : ∃ x, numOf (l.take 4) = x := ⟨_, rfl⟩
    rw [hkd] at HK
    clear hk
    go_enter Tryz.func39, Tryz.ntmps39
    go_wp2_with fail
    refine (readKind_any _ _ hl).mono ?_
    rintro e w1 ⟨he, hw⟩
    rw [HK.out] at he
    subst he hw
    go_wp2_with fail
    obtain ⟨W1, hW1⟩ : ∃ W, (w.alloc (.cells #[.int .i64 0, .slice none 0 0] 30)).alloc (.cells #[.int .i64 kd, .slice none 0 0] 30) = W := ⟨_, rfl⟩
    rw [hW1]
    have x0 : W1.cell? ⟨w.heap.size, 0, none⟩ = some (.int .i64 0) := by rw [← hW1]; simp [go_sem]
    have x1 : W1.cell? ⟨w.heap.size, 1, none⟩ = some (.slice none 0 0) := by rw [← hW1]; simp [go_sem]
    have x2 : W1.cell? ⟨w.heap.size + 1, 0, none⟩ = some (.int .i64 kd) := by rw [← hW1]; simp [go_sem]
    have x3 : W1.cell? ⟨w.heap.size + 1, 1, none⟩ = some (.slice none 0 0) := by rw [← hW1]; simp [go_sem]
    have f0 : W1.frozen? ⟨w.heap.size, 0, none⟩ = false := by rw [← hW1]; simp [go_sem]
    have f1 : W1.frozen? ⟨w.heap.size, 1, none⟩ = false := by rw [← hW1]; simp [go_sem]
    have f3 : W1.frozen? ⟨w.heap.size + 1, 1, none⟩ = false := by rw [← hW1]; simp [go_sem]
    have hs1 : W1.heap.size = w.heap.size + 2 := by rw [← hW1]; simp
    have bel : Below w.heap.size w W1 := by rw [← hW1]; exact ((Below.refl _ _).alloc (Nat.le_refl _) _).alloc (by simp) _
    clear hW1
    refine (readNums_any _ _ hl).mono ?_
    rintro e w2 hN
    unfold Nums at hN
    by_cases hneg : getSI l 4 < 0
    · rw [if_pos hneg] at hN
      obtain ⟨he, b2⟩ := hN
      rw [faultE] at he
      subst he
      have HU : Hid (unp l = (2, 4, 0, [])) := by rw [Hid, unp, HKO.out, if_neg (by decide), if_pos hneg]
      clear hneg x0 x1 x2 x3 f0 f1 f3
      go_wp2
      exact ⟨rfl, by unfold ReadM; rw [HU.out]; exact ⟨bel.trans (b2.mono (by omega)), .inr ⟨by decide, rfl⟩⟩⟩
    · rw [if_neg hneg] at hN
      obtain ⟨ao, cap, rfl, ho, b2⟩ := hN
      have HU : Hid (unp l = if (rdF l (getSL l 4) (getSI l 4) []).1 = 0 then (0, 0, kd, (rdF l (getSL l 4) (getSI l 4) []).2.2) else ((rdF l (getSL l 4) (getSI l 4) []).1, (rdF l (getSL l 4) (getSI l 4) []).2.1, 0, [])) := by rw [Hid, unp, HKO.out, if_neg (by decide), if_neg hneg, hkd]
      have hnl := getSL_len l 4
      obtain ⟨ns, hns⟩ : ∃ x, getSL l 4 = x := ⟨_, rfl⟩
      obtain ⟨p, hp⟩ := Int.eq_ofNat_of_zero_le (show 0 ≤ getSI l 4 by omega)
      rw [hns] at ho hnl
      rw [hns, hp] at HU
      rw [hns, hp]
      have hs2 := b2.size
      have HC : Hid (∀ i, i < ns.length → ∃ b off, ao = some ⟨b, off, none⟩ ∧ w.heap.size + 2 ≤ b ∧ b < w2.heap.size ∧ w2.cell? ⟨b, off + i, none⟩ = some (.int .i64 (ns.getD i 0))) := by
        intro i hin
        rcases ints_own ho with rfl | ⟨b, off, rfl, hb, hc⟩
        · simp at hin
        · have := (ho.lt b rfl).1
          exact ⟨b, off, rfl, by omega, hb, hc i hin⟩
      have z0 : w2.cell? ⟨w.heap.size, 0, none⟩ = some (.int .i64 0) := (b2.cell (p := ⟨w.heap.size, 0, none⟩) (by show w.heap.size < W1.heap.size; omega)).trans x0
      have z1 : w2.cell? ⟨w.heap.size, 1, none⟩ = some (.slice none 0 0) := (b2.cell (p := ⟨w.heap.size, 1, none⟩) (by show w.heap.size < W1.heap.size; omega)).trans x1
      have z2 : w2.cell? ⟨w.heap.size + 1, 0, none⟩ = some (.int .i64 kd) := (b2.cell (p := ⟨w.heap.size + 1, 0, none⟩) (by show w.heap.size + 1 < W1.heap.size; omega)).trans x2
      have z3 : w2.cell? ⟨w.heap.size + 1, 1, none⟩ = some (.slice none 0 0) := (b2.cell (p := ⟨w.heap.size + 1, 1, none⟩) (by show w.heap.size + 1 < W1.heap.size; omega)).trans x3
      have g0 : w2.frozen? ⟨w.heap.size, 0, none⟩ = false := (b2.frozen (p := ⟨w.heap.size, 0, none⟩) (by show w.heap.size < W1.heap.size; omega)).trans f0
      have g1 : w2.frozen? ⟨w.heap.size, 1, none⟩ = false := (b2.frozen (p := ⟨w.heap.size, 1, none⟩) (by show w.heap.size < W1.heap.size; omega)).trans f1
      have g3 : w2.frozen? ⟨w.heap.size + 1, 1, none⟩ = false := (b2.frozen (p := ⟨w.heap.size + 1, 1, none⟩) (by show w.heap.size + 1 < W1.heap.size; omega)).trans f3
      have bel2 : Below w.heap.size w w2 := bel.trans (b2.mono (by omega))
      have hs3 : w.heap.size + 2 ≤ w2.heap.size := by omega
      have HW : Hid _ := And.intro z0 (And.intro z1 (And.intro g0 g1))
      clear x0 x1 x2 x3 f0 f1 f3 ho b2 hs2 hs1 bel hns hp hneg HKO HK hkd W1 z0 z1 g0 g1
      go_wp2
      go_loopw [5, 20] (fun at_ i wr => ∃ (k a : Nat) (acc : List Fld) (v : Value), k ≤ ns.length ∧ i = .int .i64 k ∧ at_ = .int .i64 a ∧ acc.length = k ∧ rdF l ns p [] = rdF l (ns.drop k) a acc ∧ wr.ownsRow w2.heap.size 57 2 v acc.length (fcells acc) ∧ wr.cell? ⟨w.heap.size + 1, 0, none⟩ = some (.int .i64 kd) ∧ wr.cell? ⟨w.heap.size + 1, 1, none⟩ = some v ∧ wr.frozen? ⟨w.heap.size + 1, 1, none⟩ = false ∧ (∀ j, j < w2.heap.size → j ≠ w.heap.size + 1 → wr.heap[j]? = w2.heap[j]?) ∧ Below (w.heap.size + 1) w2 wr) (fun _ i _ => ns.length - (intOf i).toNat)
      case atStart => exact ⟨0, p, [], _, Nat.zero_le _, rfl, rfl, rfl, rfl, World.ownsRow_nil _ _ _ _, z2, z3, g3, fun _ _ _ => rfl, Below.refl _ _⟩
      case round =>
        obtain ⟨k, a, acc, v, hk, rfl, rfl, hac, hrd, ho, y2, y3, y4, hsame, hbr⟩ := hrel
        clear z2 z3 g3
        have hsz := hbr.size
        by_cases hlt : k < ns.length
        · obtain ⟨b, off, rfl, hb1, hb2, hc⟩ := HC.out k hlt
          have c1 : wr.cell? ⟨b, off + k, none⟩ = some (.int .i64 (ns.getD k 0)) := (World.cell?_of_block (w := w2) (hsame b hb2 (by omega))).trans hc
          have hki : (k : Int) < (ns.length : Int) := by omega
          rw [rdF_step l ns k a acc hlt] at hrd
          obtain ⟨n, hn⟩ : ∃ x, ns.getD k 0 = x := ⟨_, rfl⟩
          rw [hn] at c1 hrd
          have HO : Hid (wr.ownsRow w2.heap.size 57 2 v acc.length (fcells acc)) := ho
          have HS : Hid (∀ j, j < w2.heap.size → j ≠ w.heap.size + 1 → wr.heap[j]? = w2.heap[j]?) := hsame
          clear hn hc ho hsame
          cases hf : fldAt l a n
          · rw [hf, if_neg (by decide)] at hrd
            have HE : Hid _ := fieldE_no hf
            rw [hrd] at HU
            clear hf hrd
            go_wp2_with fail
            refine (readField_any l a n _ hl).mono ?_
            rintro e w3 ⟨he, b3⟩
            rw [HE.out, faultE] at he
            subst he
            have HB3 : Hid (Below w.heap.size w w3) := bel2.trans ((hbr.mono (by omega)).trans (b3.mono (by omega)))
            clear b3 hbr bel2
            go_wp2
            exact ⟨rfl, by unfold ReadM; rw [HU.out, if_neg (by show ¬ (3 : Int) = 0; decide)]; exact ⟨HB3.out, .inr ⟨by show (3 : Int) ≠ 0; decide, rfl⟩⟩⟩
          · rw [hf, if_pos rfl] at hrd
            have HE : Hid _ := fieldE_yes hf
            obtain ⟨q, hq⟩ : ∃ q : Nat, rawI l a n = q := Int.eq_ofNat_of_zero_le (by simp [fldAt] at hf; exact hf.1)
            clear hf
            obtain ⟨r, hr⟩ : ∃ x, rawL l a n = x := ⟨_, rfl⟩
            rw [hr, hq] at hrd HE
            have HR : Hid _ := hrd
            clear hrd hr hq
            go_wp2_with fail
            refine (readField_any l a n _ hl).mono ?_
            rintro e w3 ⟨he, b3⟩
            rw [HE.out] at he
            subst he
            have hM : w.heap.size + 1 < wr.heap.size := by omega
            have v2 : w3.cell? ⟨w.heap.size + 1, 0, none⟩ = some (.int .i64 kd) := (b3.cell (p := ⟨w.heap.size + 1, 0, none⟩) hM).trans y2
            have v3 : w3.cell? ⟨w.heap.size + 1, 1, none⟩ = some v := (b3.cell (p := ⟨w.heap.size + 1, 1, none⟩) hM).trans y3
            have v4 : w3.frozen? ⟨w.heap.size + 1, 1, none⟩ = false := (b3.frozen (p := ⟨w.heap.size + 1, 1, none⟩) hM).trans y4
            have ho3 := keepRow HO.out b3
            have hs3' := b3.size
            have hne1 : ¬ w3.heap.size = w.heap.size + 1 := by omega
            have hne2 : ¬ w.heap.size + 1 = w3.heap.size := by omega
            have hne3 : ¬ w3.heap.size + 1 = w.heap.size + 1 := by omega
            have hne4 : ¬ w.heap.size + 1 = w3.heap.size + 1 := by omega
            have t3 : (w3.alloc (.cells #[.int .i64 n, .string ⟨r.toArray⟩] 57)).cell? ⟨w.heap.size + 1, 1, none⟩ = some v := (World.cell?_alloc_lt _ _ ⟨w.heap.size + 1, 1, none⟩ (by show w.heap.size + 1 < w3.heap.size; omega)).trans v3
            have Y2 : Hid _ := y2
            have Y3 : Hid _ := y3
            have Y4 : Hid _ := y4
            clear y2 y3 y4 c1 HO
            go_wp2_with (at_builtin
                         refine wpList_append_own _ rfl (.tmp 32) (.tmp 34) 28 rfl w2.heap.size 57 i0 _ 2 24 Tryz.underlying28 hi hz0 hz1 hz2 rfl (by decide) _ _ _ rfl ((ho3.alloc _).alloc _) ⟨w3.heap.size + 1, 0, none⟩ 1 1 [.int .i64 n, .string ⟨r.toArray⟩] rfl rfl (two_new _ _ _ _ _ (by simp)) (fcells_one [(n, r)]) (by unfold maxLen; omega) (by omega) (by simp; omega) ?_
                         intro v' w4 ho4 hg4 hn4
                         have b4 : Below w2.heap.size wr w4 := (((b3.mono hsz).alloc (by omega) _).alloc (by simp; omega) _).grown hg4 (by simp; omega) (fun j hj => (ho3.lt j hj).1)
                         have u2 : w4.cell? ⟨w.heap.size + 1, 0, none⟩ = some (.int .i64 kd) := (b4.cell (p := ⟨w.heap.size + 1, 0, none⟩) (by show w.heap.size + 1 < w2.heap.size; omega)).trans Y2.out
                         have u3 : w4.cell? ⟨w.heap.size + 1, 1, none⟩ = some v := (b4.cell (p := ⟨w.heap.size + 1, 1, none⟩) (by show w.heap.size + 1 < w2.heap.size; omega)).trans Y3.out
                         have u4 : w4.frozen? ⟨w.heap.size + 1, 1, none⟩ = false := (b4.frozen (p := ⟨w.heap.size + 1, 1, none⟩) (by show w.heap.size + 1 < w2.heap.size; omega)).trans Y4.out
                         have hr4 : w4.ownsRow w2.heap.size 57 2 v' (acc ++ [(n, r)]).length (fcells (acc ++ [(n, r)])) := by rw [fcells_append, List.length_append]; exact ho4
                         obtain ⟨a4, c4, hv4, _, _⟩ := flds_of_own' hr4
                         subst hv4
                         have HL4 : Hid (∀ g, (Value.slice a4 (acc ++ [(n, r)]).length c4).ownBlock = some g → g ≠ w.heap.size + 1) := fun g hg => by have := (ho4.lt g hg).1; omega
                         have HR4 : Hid _ := hr4
                         have HB4 : Hid _ := b4
                         have hlen4 : (acc ++ [(n, r)]).length = k + 1 := by rw [List.length_append, hac]; rfl
                         rw [hlen4] at HL4 HR4 ⊢
                         clear hg4 hn4 ho4 ho3 b3 b4 hr4 v2 v3 v4 t3 hs3' hne1 hne2 hne3 hne4 hlen4)
            go_roundw
            case rel =>
              refine ⟨k + 1, q, acc ++ [(n, r)], .slice a4 (k + 1) c4, by omega, by go_num, rfl, by rw [List.length_append]; simp; omega, HR.out, by rw [show (acc ++ [(n, r)]).length = k + 1 from by rw [List.length_append, hac]; rfl]; exact keepSet HR4.out _ _ HL4.out, by simp [go_sem, u2], by simp [go_sem, u3], by simp [go_sem, u4], fun j h1 h2 => ?_, ?_⟩
              · exact ((Below.heap_setCell w4 ⟨w.heap.size + 1, 1, none⟩ _ j h2).trans (HB4.out.block j h1)).trans (HS.out j h1 h2)
              · exact (hbr.trans (HB4.out.mono (by omega))).setCell (Nat.le_refl _) _
            case measure => simp [intOf]; omega
        · have hke : k = ns.length := by omega
          subst hke
          obtain ⟨z0, z1, g0, g1⟩ := HW.out
          have q0 : wr.cell? ⟨w.heap.size, 0, none⟩ = some (.int .i64 0) := (hbr.cell (p := ⟨w.heap.size, 0, none⟩) (by show w.heap.size < w.heap.size + 1; omega)).trans z0
          have q1 : wr.cell? ⟨w.heap.size, 1, none⟩ = some (.slice none 0 0) := (hbr.cell (p := ⟨w.heap.size, 1, none⟩) (by show w.heap.size < w.heap.size + 1; omega)).trans z1
          have r0 : wr.frozen? ⟨w.heap.size, 0, none⟩ = false := (hbr.frozen (p := ⟨w.heap.size, 0, none⟩) (by show w.heap.size < w.heap.size + 1; omega)).trans g0
          have r1 : wr.frozen? ⟨w.heap.size, 1, none⟩ = false := (hbr.frozen (p := ⟨w.heap.size, 1, none⟩) (by show w.heap.size < w.heap.size + 1; omega)).trans g1
          have HBW : Hid (Below w.heap.size w wr) := bel2.trans (hbr.mono (by omega))
          rw [List.drop_length] at hrd
          clear z0 z1 g0 g1 HW HC hsame hbr bel2
          by_cases hlt2 : (a : Int) < (l.length : Int)
          · have e1 : rdF l [] a acc = (4, (a : Int), []) := if_pos hlt2
            rw [hrd, e1] at HU
            clear hrd e1 ho
            go_wp2
            exact ⟨rfl, by unfold ReadM; rw [HU.out, if_neg (by show ¬ (4 : Int) = 0; decide)]; exact ⟨HBW.out, .inr ⟨by show (4 : Int) ≠ 0; decide, rfl⟩⟩⟩
          · have e1 : rdF l [] a acc = (0, 0, acc) := if_neg hlt2
            rw [hrd, e1] at HU
            have HO : Hid (wr.ownsRow w2.heap.size 57 2 v acc.length (fcells acc)) := ho
            obtain ⟨ao', cap', rfl, _, _⟩ := flds_of_own' ho
            have HU2 : Hid (unp l = (0, 0, kd, acc)) := HU.out.trans (if_pos rfl)
            clear hrd e1 ho HU
            go_wp2
            refine bodyPost_ret (by simp [results, Tryz.results39, go_sem, q0, q1]; try rfl) rfl ?_
            unfold ReadM
            rw [← hac, HU2.out]
            refine ⟨(HBW.out.setCell (Nat.le_refl _) _).setCell (Nat.le_refl _) _, .inl ⟨rfl, ao', cap', rfl, ?_⟩⟩
            have hne : ∀ g, (Value.slice ao' acc.length cap').ownBlock = some g → g ≠ w.heap.size := fun g hg => by have := (HO.out.lt g hg).1; omega
            exact lowerRow (keepSet (keepSet HO.out _ _ hne) _ _ hne) (by omega)

end Go.Proofs.YtjnekdihmchlpaaGreatDoor
