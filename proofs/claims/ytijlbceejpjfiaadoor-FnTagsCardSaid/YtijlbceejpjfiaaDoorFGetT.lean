/- The contract of the program's GetTags. -/
import Derived.Test.YtijlbceejpjfiaaDoorFPutT
import Derived.Test.YtijlbceejpjfiaaDoorFVar
import Derived.Test.YtijlbceejpjfiaaDoorFNum
import Derived.Deep.AppendLies
namespace Go.Proofs.YtijlbceejpjfiaaDoor
open Go.RowKit

theorem oneG (n : Int) (s : List UInt8) : ∀ u ∈ [Value.int .i64 n, .string ⟨s.toArray⟩], u.oneCell' = true := by
  intro u hu
  simp at hu
  rcases hu with rfl | rfl <;> rfl

theorem two_new (W : World) (x y : Value) (t : TypeId) (b : Nat) (hb : b = W.heap.size) : ∀ (j : Nat) (u : Value), [x, y][j]? = some u → (W.alloc (.cells #[x, y] t)).cell? ((⟨b, 0, none⟩ : Addr).add j) = some u := by
  subst hb
  intro j u h
  match j with
  | 0 => simp at h; subst h; simp [Addr.add, go_sem]
  | 1 => simp at h; subst h; simp [Addr.add, go_sem]
  | j + 2 => simp at h
/-- what GetTags hands back: a list of its own and whether there is one -/
def Gets (w : World) (o : Option (List Fld)) (e : Ending) (w' : World) : Prop :=
  ∃ a c, e = .returned (.tuple #[.slice a (o.getD []).length c, .bool o.isSome]) ∧ w'.ownsRow w.heap.size 48 2 (.slice a (o.getD []).length c) (o.getD []).length (fcells (o.getD [])) ∧ Below w.heap.size w w'

theorem tagI_no {l : List UInt8} {a : Nat} (h : hasB l.length a 4 = false) : tagI l a = (0, []) ∧ endI l a = -1 := ⟨if_neg (by rw [h]; decide), if_neg (by rw [h]; decide)⟩
theorem tagI_yes {l : List UInt8} {a : Nat} (h : hasB l.length a 4 = true) : tagI l a = (numOf ((l.drop a).take 4), varL l (a + 4) 3) ∧ endI l a = varI l (a + 4) 3 := ⟨if_pos h, if_pos h⟩
theorem varL_le (l : List UInt8) (i n : Int) : (varL l i n).length ≤ l.length := by
  unfold varL; split
  · rw [List.length_take, List.length_drop]; omega
  · simp
theorem endI_le {l : List UInt8} {a : Nat} (h : ¬ endI l a < 0) : a + 7 ≤ (endI l a).toNat ∧ (endI l a).toNat ≤ l.length := by
  cases hb : hasB l.length a 4
  · rw [(tagI_no hb).2] at h; omega
  · rw [(tagI_yes hb).2] at h ⊢
    cases hv : varOk l (a + 4) 3
    · rw [(var_no hv).2] at h; omega
    · rw [(var_yes hv).2] at h ⊢
      unfold varOk at hv
      simp at hv
      omega

set_option maxHeartbeats 1600000 in
theorem getTag_any (l : List UInt8) (a : Nat) (w : World) (hl : l.length ≤ 999) (_ha : a < l.length) :
    Calls Tryd.prog 32 #[.string ⟨l.toArray⟩, .int .i64 a] w fun e w' => e = .returned (.tuple #[.agg #[.int .i64 (tagI l a).1, .string ⟨(tagI l a).2.toArray⟩], .int .i64 (endI l a)]) ∧ Below w.heap.size w w' := by
  have bel1 : Below w.heap.size w (w.alloc (.cells #[.int .i64 0, .string ⟨#[]⟩] 48)) := by go_grown
  cases hb : hasB l.length a 4
  · obtain ⟨e1, e2⟩ := tagI_no hb
    rw [e1, e2]
    go_enter Tryd.func32, Tryd.ntmps32
    go_wp2_with fail
    refine (hasBytes_any l _ _ _ (by omega)).mono ?_
    rintro e w1 ⟨rfl, hw1⟩
    subst hw1
    rw [hb]
    clear e1 e2 hb
    go_wp2
    refine bodyPost_ret (by simp [results, Tryd.results32, go_sem]; try rfl) rfl ?_
    exact ⟨rfl, by go_grown⟩
  · obtain ⟨e1, e2⟩ := tagI_yes hb
    have hin := hasB_in hb
    have hvl := varL_le l (a + 4) 3
    rw [e1, e2]
    clear e1 e2
    have HB : Hid _ := hb
    have hpc := piece_eq l a 4
    obtain ⟨P, hP⟩ : ∃ P, (l.drop a).take 4 = P := ⟨_, rfl⟩
    have hPl : P.length ≤ 4 := by rw [← hP, List.length_take]; omega
    rw [hP] at hpc ⊢
    have h4 : a + 4 ≤ l.length := by omega
    clear hb hP
    go_enter Tryd.func32, Tryd.ntmps32
    go_wp2_with fail
    refine (hasBytes_any l _ _ _ (by omega)).mono ?_
    rintro e w1 ⟨rfl, hw1⟩
    subst hw1
    rw [HB.out]
    go_wp2_with fail
    refine (iGetVar_any l _ _ _ (by omega)).mono ?_
    rintro e w2 ⟨rfl, b2⟩
    obtain ⟨V, hV⟩ : ∃ V, varL l (a + 4) 3 = V := ⟨_, rfl⟩
    obtain ⟨I, hI⟩ : ∃ I, varI l (a + 4) 3 = I := ⟨_, rfl⟩
    rw [hV] at hvl ⊢
    rw [hI]
    have HV : Hid _ := hV
    have HI : Hid _ := hI
    clear hV hI
    have x0 := (b2.cell (p := ⟨w.heap.size, 0, none⟩) (by simp)).trans (show _ = some (.int .i64 0) by simp)
    have x1 := (b2.cell (p := ⟨w.heap.size, 1, none⟩) (by simp)).trans (show _ = some (.string ⟨#[]⟩) by simp)
    have y0 := (b2.frozen (p := ⟨w.heap.size, 0, none⟩) (by simp)).trans (show _ = false by simp)
    have y1 := (b2.frozen (p := ⟨w.heap.size, 1, none⟩) (by simp)).trans (show _ = false by simp)
    have q2 := next bel1 b2
    clear b2 bel1
    go_wp2_with fail
    rw [hpc]
    refine (iNumOf_any P _ (by omega)).mono ?_
    rintro e w3 ⟨rfl, hw3⟩
    subst hw3
    have HX : Hid _ := q2
    clear hpc q2
    go_wp2
    refine bodyPost_ret (by simp [results, Tryd.results32, go_sem, x0, x1]; try rfl) rfl ?_
    rw [HV.out, HI.out]
    exact ⟨rfl, (HX.out.setCell (Nat.le_refl _) _).setCell (Nat.le_refl _) _⟩

theorem gets_none (w w' : World) (l : List UInt8) (h : gotT l = none) (hb : Below w.heap.size w w') : Gets w (gotT l) (.returned (.tuple #[.slice none 0 0, .bool false])) w' := by
  rw [h]; exact ⟨none, 0, rfl, World.ownsRow_nil _ _ _ _, hb⟩

set_option maxRecDepth 100000 in
set_option maxHeartbeats 3200000 in
theorem iGetTags_any (l : List UInt8) (w : World) (hl : l.length ≤ 1048576) (ht : Pow10 w) :
    Calls Tryd.prog 11 #[.string ⟨l.toArray⟩] w (Gets w (gotT l)) := by
  obtain ⟨i0, hi, hz0, hz1, hz2⟩ := info_parts infoF
  have HT : Hid (Pow10 w) := ht
  clear ht
  by_cases hbig : 999 < l.length
  · have hb9 : (999 : Int) < (l.length : Int) := by omega
    have HN : Hid _ := got_big hbig
    go_enter Tryd.func11, Tryd.ntmps11
    go_wp2
    go_ret2
    exact gets_none _ _ _ HN.out (Below.refl _ _)
  have hb9 : ¬ (999 : Int) < (l.length : Int) := by omega
  have hl9 : l.length ≤ 999 := by omega
  clear hl hbig
  go_enter Tryd.func11, Tryd.ntmps11
  go_wp2
  go_loopw [4, 5] (fun v i wr => ∃ (f a : Nat) (acc : List Fld), a ≤ l.length ∧ i = .int .i64 a ∧ rdI l (l.length + 1) 0 [] = rdI l f a acc ∧ l.length < a + f ∧ acc.length * 7 ≤ a ∧ (∀ g ∈ acc, g.2.length ≤ 999) ∧ wr.ownsRow w.heap.size 48 2 v acc.length (fcells acc) ∧ Below w.heap.size w wr) (fun _ i _ => l.length - (intOf i).toNat)
  case atStart => exact ⟨l.length + 1, 0, [], Nat.zero_le _, rfl, rfl, by omega, by simp, (fun g hg => by cases hg), World.ownsRow_nil _ _ _ _, Below.refl _ _⟩
  case round =>
    obtain ⟨f, a, acc, ha, rfl, hrd, hf, hal, hmem, ho, hbr⟩ := hrel
    obtain ⟨va, vc, hv, -, -⟩ := flds_of_own' ho
    subst hv
    have HO : Hid (wr.ownsRow w.heap.size 48 2 (.slice va acc.length vc) acc.length (fcells acc)) := ho
    have HM : Hid (∀ g ∈ acc, g.2.length ≤ 999) := hmem
    clear ho hmem
    by_cases hlt : a < l.length
    · have hai : (a : Int) < (l.length : Int) := by omega
      by_cases hneg : endI l a < 0
      · have HN : Hid (gotT l = none) := by unfold gotT; rw [Hid, hrd, rdI_no hlt hneg]; rfl
        clear hrd
        go_wp2_with fail
        refine (getTag_any l a _ hl9 hlt).mono ?_
        rintro e w1 ⟨rfl, b1⟩
        have bb := next hbr b1
        obtain ⟨E, hE⟩ : ∃ E, endI l a = E := ⟨_, rfl⟩
        obtain ⟨⟨n, s⟩, hT⟩ : ∃ t, tagI l a = t := ⟨_, rfl⟩
        rw [hE] at hneg ⊢
        rw [hT]
        clear hE hT b1
        go_wp2
        go_ret2
        exact gets_none _ _ _ HN.out (bb.alloc bb.size _)
      · obtain ⟨g, rfl⟩ : ∃ g, f = g + 1 := ⟨f - 1, by omega⟩
        have hle := endI_le hneg
        have hst : rdI l (l.length + 1) 0 [] = rdI l g (endI l a).toNat (acc ++ [tagI l a]) := by rw [hrd, rdI_go hlt hneg]
        have hvl : (tagI l a).2.length ≤ 999 := by
          have := varL_le l (a + 4) 3
          unfold tagI; split
          · simp only; omega
          · simp
        clear hrd
        go_wp2_with fail
        refine (getTag_any l a _ hl9 hlt).mono ?_
        rintro e w1 ⟨rfl, b1⟩
        have bb := next hbr b1
        obtain ⟨q, hq⟩ : ∃ q : Nat, endI l a = q := ⟨_, (Int.toNat_of_nonneg (by omega)).symm⟩
        obtain ⟨⟨n, s⟩, hT⟩ : ∃ t, tagI l a = t := ⟨_, rfl⟩
        rw [hq] at hst hle ⊢
        rw [hT] at hst hvl ⊢
        simp only [Int.toNat_natCast] at hst hle hvl
        have hqn : ¬ (q : Int) < 0 := by omega
        have HST : Hid _ := hst
        have HO1 : Hid (w1.ownsRow w.heap.size 48 2 (.slice va acc.length vc) acc.length (fcells acc)) := keepRow HO.out b1
        have hbs := bb.size
        clear hq hT hst b1 HO hneg
        go_wp2_with (at_builtin; refine wpList_append_own _ rfl (.tmp 25) (.tmp 27) 24 rfl w.heap.size 48 i0 _ 2 24 Tryd.underlying24 hi hz0 hz1 hz2 rfl (by decide) _ _ _ rfl ((HO1.out.alloc _).alloc _) ⟨w1.heap.size + 1, 0, none⟩ 1 1 [.int .i64 n, .string ⟨s.toArray⟩] rfl rfl (two_new _ _ _ _ _ (by simp)) (oneG n s) (by unfold maxLen <;> omega) (by omega) (by simp <;> omega) ?_; intro v5 w5 o5 g5 _)
        have hb5 : Below w.heap.size w w5 := ((bb.alloc hbs _).alloc (by simp; omega) _).grown g5 (by simp; omega) (fun j hj => (HO1.out.lt j hj).1)
        have HR : Hid (w5.ownsRow w.heap.size 48 2 v5 (acc ++ [(n, s)]).length (fcells (acc ++ [(n, s)]))) := by rw [Hid, fcells_append, List.length_append]; exact o5
        clear o5 g5 HO1
        go_wp2
        go_roundw
        case rel =>
          refine ⟨g, q, acc ++ [(n, s)], by omega, rfl, HST.out, by omega, by simp; omega, fun x hx => ?_, HR.out, hb5⟩
          rcases List.mem_append.1 hx with h | h
          · exact HM.out x h
          · obtain rfl : x = (n, s) := by simpa using h
            exact hvl
        case measure => simp [intOf]; omega
    · have hal2 : a = l.length := by omega
      subst hal2
      have hgt : gotT l = onlyT l (some acc) := by unfold gotT; rw [hrd, rdI_end (by omega) (by omega)]
      have hpw : Pow10 wr := HT.out.below hbr
      have hfl : FldsAt wr va acc := by
        obtain ⟨a', c', hv, hf', -⟩ := flds_of_own' HO.out
        obtain ⟨rfl, _⟩ : va = a' ∧ vc = c' := by simpa using hv
        exact hf'
      clear hrd
      cases hpo : putOk acc
      · have HN : Hid (gotT l = none) := by rw [Hid, hgt]; exact only_no (fun h => by rw [hpo] at h; exact absurd h.1 (by decide))
        go_wp2_with fail
        refine (iPutTags_any _ _ _ _ hfl (by omega) (fun g hg => by have := HM.out g hg; omega) hpw).mono ?_
        rintro e w1 ⟨rfl, b1⟩
        rw [hpo]
        have bb := next hbr b1
        generalize putL acc = pl
        clear hpo hgt b1
        go_wp2
        go_ret2
        exact gets_none _ _ _ HN.out bb
      · by_cases heq : putTs acc = l
        · have HY : Hid (gotT l = some acc) := by rw [Hid, hgt]; exact only_of hpo heq
          have HP : Hid (putL acc = l) := by rw [Hid, putL_yes hpo, heq]
          go_wp2_with fail
          refine (iPutTags_any _ _ _ _ hfl (by omega) (fun g hg => by have := HM.out g hg; omega) hpw).mono ?_
          rintro e w1 ⟨rfl, b1⟩
          rw [hpo, HP.out]
          have bb := next hbr b1
          have HO1 : Hid (w1.ownsRow w.heap.size 48 2 (.slice va acc.length vc) acc.length (fcells acc)) := keepRow HO.out b1
          have hll : (l == l) = true := by simp
          clear hpo hgt b1 heq
          go_wp2
          go_ret2
          rw [HY.out]
          exact ⟨_, _, rfl, HO1.out, bb⟩
        · have HN : Hid (gotT l = none) := by rw [Hid, hgt]; exact only_no (fun h => heq h.2)
          have hne : (putL acc == l) = false := by rw [putL_yes hpo]; simpa using heq
          go_wp2_with fail
          refine (iPutTags_any _ _ _ _ hfl (by omega) (fun g hg => by have := HM.out g hg; omega) hpw).mono ?_
          rintro e w1 ⟨rfl, b1⟩
          rw [hpo]
          have bb := next hbr b1
          generalize putL acc = pl at hne
          clear hpo hgt b1 heq
          go_wp2
          go_ret2
          exact gets_none _ _ _ HN.out bb

end Go.Proofs.YtijlbceejpjfiaaDoor
