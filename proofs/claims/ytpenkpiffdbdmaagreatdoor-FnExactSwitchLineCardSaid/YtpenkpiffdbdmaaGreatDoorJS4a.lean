import Derived.Test.YtpenkpiffdbdmaaGreatDoorKSTgPutT
import Derived.Test.YtpenkpiffdbdmaaGreatDoorJS2a
/- The contract of the program's GetTags. -/
namespace Go.Proofs.YtpenkpiffdbdmaaGreatDoor.Tg
open Go.RowKit
theorem infoF : (Tryz.prog.info? 94).map (fun i => (i.zero, i.size, i.bytes)) = some (some (.agg #[.int .i64 0, .string ⟨#[]⟩]), 2, 24) := by kernel_rfl
theorem oneG (n : Int) (s : List UInt8) : ∀ u ∈ [Value.int .i64 n, .string ⟨s.toArray⟩], u.oneCell' = true := by
  intro u hu
  simp at hu
  rcases hu with rfl | rfl <;> rfl
theorem two_new (W : World) (x y : Value) (t : TypeId) (b : Nat) (hb : b = W.heap.size) : ∀ (j : Nat) (u : Value), [x, y][j]? = some u → (W.alloc (.cells #[x, y] t)).cell? ((⟨b, 0, none⟩ : Addr).add j) = some u := by
  subst hb
  intro j u h
  match j with
  | 0 => simp at h; subst h; simp [Addr.add, go_sem]
  | 1 => simp at h; subst h; simp [Addr.add, go_sem]
  | j + 2 => simp at h
/-- what GetTags hands back: a list of its own and whether there is one -/
def Gets (w : World) (o : Option (List Fld)) (e : Ending) (w' : World) : Prop :=
  ∃ a c, e = .returned (.tuple #[.slice a (o.getD []).length c, .bool o.isSome]) ∧ w'.ownsRow w.heap.size 94 2 (.slice a (o.getD []).length c) (o.getD []).length (fcells (o.getD [])) ∧ Below w.heap.size w w'
theorem tagI_no {l : List UInt8} {a : Nat} (h : hasB l.length a 4 = false) : tagI l a = (0, []) ∧ endI l a = -1 := ⟨if_neg (by rw [h]; decide), if_neg (by rw [h]; decide)⟩
theorem tagI_yes {l : List UInt8} {a : Nat} (h : hasB l.length a 4 = true) : tagI l a = (numOf ((l.drop a).take 4), varL l (a + 4) 3) ∧ endI l a = varI l (a + 4) 3 := ⟨if_pos h, if_pos h⟩
theorem varL_le (l : List UInt8) (i n : Int) : (varL l i n).length ≤ l.length := by
  unfold varL; split
  · rw [List.length_take, List.length_drop]; omega
  · simp
theorem endI_le {l : List UInt8} {a : Nat} (h : ¬ endI l a < 0) : a + 7 ≤ (endI l a).toNat ∧ (endI l a).toNat ≤ l.length := by
  cases hb : hasB l.length a 4
  · rw [(tagI_no hb).2] at h; omega
  · rw [(tagI_yes hb).2] at h ⊢
    cases hv : varOk l (a + 4) 3
    · rw [(var_no hv).2] at h; omega
    · rw [(var_yes hv).2] at h ⊢
      unfold varOk at hv
      simp at hv
      omega
set_option maxHeartbeats 1600000 in
theorem getTag_any (l : List UInt8) (a : Nat) (w : World) (hl : l.length ≤ 999) (_ha : a < l.length) :
    Calls Tryz.prog 66 #[.string ⟨l.toArray⟩, .int .i64 a] w fun e w' => e = .returned (.tuple #[.agg #[.int .i64 (tagI l a).1, .string ⟨(tagI l a).2.toArray⟩], .int .i64 (endI l a)]) ∧ Below w.heap.size w w' := by
  have bel1 : Below w.heap.size w (w.alloc (.cells #[.int .i64 0, .string ⟨#[]⟩] 94)) := by go_grown
  cases hb : hasB l.length a 4
  · obtain ⟨e1, e2⟩ := tagI_no hb
    rw [e1, e2]
    go_enter Tryz.func66, Tryz.ntmps66
    go_wp2_with fail
    refine (hasBytes_any l _ _ _ (by omega)).mono ?_
    rintro e w1 ⟨rfl, hw1⟩
    subst hw1
    rw [hb]
    clear e1 e2 hb
    go_wp2
    refine bodyPost_ret (by simp [results, Tryz.results66, go_sem]; try rfl) rfl ?_
    exact ⟨rfl, by go_grown⟩
  · obtain ⟨e1, e2⟩ := tagI_yes hb
    have hin := hasB_in hb
    have hvl := varL_le l (a + 4) 3
    rw [e1, e2]
    clear e1 e2
    have HB : Hid _ := hb
    have hpc := piece_eq l a 4
    obtain ⟨P, hP⟩ : ∃ P, (l.drop a).take 4 = P := ⟨_, rfl⟩
    have hPl : P.length ≤ 4 := by rw [← hP, List.length_take]; omega
    rw [hP] at hpc ⊢
    have h4 : a + 4 ≤ l.length := by omega
    clear hb hP
    go_enter Tryz.func66, Tryz.ntmps66
    go_wp2_with fail
    refine (hasBytes_any l _ _ _ (by omega)).mono ?_
    rintro e w1 ⟨rfl, hw1⟩
    subst hw1
    rw [HB.out]
    go_wp2_with fail
    refine (iGetVar_any l _ _ _ (by omega)).mono ?_
    rintro e w2 ⟨rfl, b2⟩
    obtain ⟨V, hV⟩ : ∃ V, varL l (a + 4) 3 = V := ⟨_, rfl⟩
    obtain ⟨I, hI⟩ : ∃ I, varI l (a + 4) 3 = I := ⟨_, rfl⟩
    rw [hV] at hvl ⊢
    rw [hI]
    have HV : Hid _ := hV
    have HI : Hid _ := hI
    clear hV hI
    have x0 := (b2.cell (p := ⟨w.heap.size, 0, none⟩) (by simp)).trans (show _ = some (.int .i64 0) by simp)
    have x1 := (b2.cell (p := ⟨w.heap.size, 1, none⟩) (by simp)).trans (show _ = some (.string ⟨#[]⟩) by simp)
    have y0 := (b2.frozen (p := ⟨w.heap.size, 0, none⟩) (by simp)).trans (show _ = false by simp)
    have y1 := (b2.frozen (p := ⟨w.heap.size, 1, none⟩) (by simp)).trans (show _ = false by simp)
    have q2 := next bel1 b2
    clear b2 bel1
    go_wp2_with fail
    rw [hpc]
    refine (iNumOf_any P _ (by omega)).mono ?_
    rintro e w3 ⟨rfl, hw3⟩
    subst hw3
    have HX : Hid _ := q2
    clear hpc q2
    go_wp2
    refine bodyPost_ret (by simp [results, Tryz.results66, go_sem, x0, x1]; try rfl) rfl ?_
    rw [HV.out, HI.out]
    exact ⟨rfl, (HX.out.setCell (Nat.le_refl _) _).setCell (Nat.le_refl _) _⟩
theorem gets_none (w w' : World) (l : List UInt8) (h : gotT l = none) (hb : Below w.heap.size w w') : Gets w (gotT l) (.returned (.tuple #[.slice none 0 0, .bool false])) w' := by
  rw [h]; exact ⟨none, 0, rfl, World.ownsRow_nil _ _ _ _, hb⟩
set_option maxRecDepth 100000 in
set_option maxHeartbeats 3200000 in
theorem iGetTags_any (l : List UInt8) (w : World) (hl : l.length ≤ 1048576) (ht : Pow10 w) :
    Calls Tryz.prog 47 #[.string ⟨l.toArray⟩] w (Gets w (gotT l)) := by
  obtain ⟨i0, hi, hz0, hz1, hz2⟩ := info_parts infoF
  have HT : Hid (Pow10 w) := ht
  clear ht
  by_cases hbig : 999 < l.length
  · have hb9 : (999 : Int) < (l.length : Int) := by omega
    have HN : Hid _ := got_big hbig
    go_enter Tryz.func47, Tryz.ntmps47
    go_wp2
    go_ret2
    exact gets_none _ _ _ HN.out (Below.refl _ _)
  have hb9 : ¬ (999 : Int) < (l.length : Int) := by omega
  have hl9 : l.length ≤ 999 := by omega
  clear hl hbig
  go_enter Tryz.func47, Tryz.ntmps47
  go_wp2
  go_loopw [4, 5] (fun v i wr => ∃ (f a : Nat) (acc : List Fld), a ≤ l.length ∧ i = .int .i64 a ∧ rdI l (l.length + 1) 0 [] = rdI l f a acc ∧ l.length < a + f ∧ acc.length * 7 ≤ a ∧ (∀ g ∈ acc, g.2.length ≤ 999) ∧ wr.ownsRow w.heap.size 94 2 v acc.length (fcells acc) ∧ Below w.heap.size w wr) (fun _ i _ => l.length - (intOf i).toNat)
  case atStart => exact ⟨l.length + 1, 0, [], Nat.zero_le _, rfl, rfl, by omega, by simp, (fun g hg => by cases hg), World.ownsRow_nil _ _ _ _, Below.refl _ _⟩
  case round =>
    obtain ⟨f, a, acc, ha, rfl, hrd, hf, hal, hmem, ho, hbr⟩ := hrel
    obtain ⟨va, vc, hv, -, -⟩ := flds_of_own' ho
    subst hv
    have HO : Hid (wr.ownsRow w.heap.size 94 2 (.slice va acc.length vc) acc.length (fcells acc)) := ho
    have HM : Hid (∀ g ∈ acc, g.2.length ≤ 999) := hmem
    clear ho hmem
    by_cases hlt : a < l.length
    · have hai : (a : Int) < (l.length : Int) := by omega
      by_cases hneg : endI l a < 0
      · have HN : Hid (gotT l = none) := by unfold gotT; rw [Hid, hrd, rdI_no hlt hneg]; rfl
        clear hrd
        go_wp2_with fail
        refine (getTag_any l a _ hl9 hlt).mono ?_
        rintro e w1 ⟨rfl, b1⟩
        have bb := next hbr b1
        obtain ⟨E, hE⟩ : ∃ E, endI l a = E := ⟨_, rfl⟩
        obtain ⟨⟨n, s⟩, hT⟩ : ∃ t, tagI l a = t := ⟨_, rfl⟩
        rw [hE] at hneg ⊢
        rw [hT]
        clear hE hT b1
        go_wp2
        go_ret2
        exact gets_none _ _ _ HN.out (bb.alloc bb.size _)
      · obtain ⟨g, rfl⟩ : ∃ g, f = g + 1 := ⟨f - 1, by omega⟩
        have hle := endI_le hneg
        have hst : rdI l (l.length + 1) 0 [] = rdI l g (endI l a).toNat (acc ++ [tagI l a]) := by rw [hrd, rdI_go hlt hneg]
        have hvl : (tagI l a).2.length ≤ 999 := by
          have := varL_le l (a + 4) 3
          unfold tagI; split
          · simp only; omega
          · simp
        clear hrd
        go_wp2_with fail
        refine (getTag_any l a _ hl9 hlt).mono ?_
        rintro e w1 ⟨rfl, b1⟩
        have bb := next hbr b1
        obtain ⟨q, hq⟩ : ∃ q : Nat, endI l a = q := ⟨_, (Int.toNat_of_nonneg (by omega)).symm⟩
        obtain ⟨⟨n, s⟩, hT⟩ : ∃ t, tagI l a = t := ⟨_, rfl⟩
        rw [hq] at hst hle ⊢
        rw [hT] at hst hvl ⊢
        simp only [Int.toNat_natCast] at hst hle hvl
        have hqn : ¬ (q : Int) < 0 := by omega
        have HST : Hid _ := hst
        have HO1 : Hid (w1.ownsRow w.heap.size 94 2 (.slice va acc.length vc) acc.length (fcells acc)) := keepRow HO.out b1
        have hbs := bb.size
        clear hq hT hst b1 HO hneg
        go_wp2_with (at_builtin; refine wpList_append_own _ rfl (.tmp 25) (.tmp 27) 67 rfl w.heap.size 94 i0 _ 2 24 Tryz.underlying67 hi hz0 hz1 hz2 rfl (by decide) _ _ _ rfl ((HO1.out.alloc _).alloc _) ⟨w1.heap.size + 1, 0, none⟩ 1 1 [.int .i64 n, .string ⟨s.toArray⟩] rfl rfl (two_new _ _ _ _ _ (by simp)) (oneG n s) (by unfold maxLen <;> omega) (by omega) (by simp <;> omega) ?_; intro v5 w5 o5 g5 _)
        have hb5 : Below w.heap.size w w5 := ((bb.alloc hbs _).alloc (by simp; omega) _).grown g5 (by simp; omega) (fun j hj => (HO1.out.lt j hj).1)
        have HR : Hid (w5.ownsRow w.heap.size 94 2 v5 (acc ++ [(n, s)]).length (fcells (acc ++ [(n, s)]))) := by rw [Hid, fcells_append, List.length_append]; exact o5
        clear o5 g5 HO1
        go_wp2
        go_roundw
        case rel =>
          refine ⟨g, q, acc ++ [(n, s)], by omega, rfl, HST.out, by omega, by simp; omega, fun x hx => ?_, HR.out, hb5⟩
          rcases List.mem_append.1 hx with h | h
          · exact HM.out x h
          · obtain rfl : x = (n, s) := by simpa using h
            exact hvl
        case measure => simp [intOf]; omega
    · have hal2 : a = l.length := by omega
      subst hal2
      have hgt : gotT l = onlyT l (some acc) := by unfold gotT; rw [hrd, rdI_end (by omega) (by omega)]
      have hpw : Pow10 wr := HT.out.below hbr
      have hfl : FldsAt wr va acc := by
        obtain ⟨a', c', hv, hf', -⟩ := flds_of_own' HO.out
        obtain ⟨rfl, _⟩ : va = a' ∧ vc = c' := by simpa using hv
        exact hf'
      clear hrd
      cases hpo : putOk acc
      · have HN : Hid (gotT l = none) := by rw [Hid, hgt]; exact only_no (fun h => by rw [hpo] at h; exact absurd h.1 (by decide))
        go_wp2_with fail
        refine (iPutTags_any _ _ _ _ hfl (by omega) (fun g hg => by have := HM.out g hg; omega) hpw).mono ?_
        rintro e w1 ⟨rfl, b1⟩
        rw [hpo]
        have bb := next hbr b1
        generalize putL acc = pl
        clear hpo hgt b1
        go_wp2
        go_ret2
        exact gets_none _ _ _ HN.out bb
      · by_cases heq : putTs acc = l
        · have HY : Hid (gotT l = some acc) := by rw [Hid, hgt]; exact only_of hpo heq
          have HP : Hid (putL acc = l) := by rw [Hid, putL_yes hpo, heq]
          go_wp2_with fail
          refine (iPutTags_any _ _ _ _ hfl (by omega) (fun g hg => by have := HM.out g hg; omega) hpw).mono ?_
          rintro e w1 ⟨rfl, b1⟩
          rw [hpo, HP.out]
          have bb := next hbr b1
          have HO1 : Hid (w1.ownsRow w.heap.size 94 2 (.slice va acc.length vc) acc.length (fcells acc)) := keepRow HO.out b1
          have hll : (l == l) = true := by simp
          clear hpo hgt b1 heq
          go_wp2
          go_ret2
          rw [HY.out]
          exact ⟨_, _, rfl, HO1.out, bb⟩
        · have HN : Hid (gotT l = none) := by rw [Hid, hgt]; exact only_no (fun h => heq h.2)
          have hne : (putL acc == l) = false := by rw [putL_yes hpo]; simpa using heq
          go_wp2_with fail
          refine (iPutTags_any _ _ _ _ hfl (by omega) (fun g hg => by have := HM.out g hg; omega) hpw).mono ?_
          rintro e w1 ⟨rfl, b1⟩
          rw [hpo]
          have bb := next hbr b1
          generalize putL acc = pl at hne
          clear hpo hgt b1 heq
          go_wp2
          go_ret2
          exact gets_none _ _ _ HN.out bb
end Go.Proofs.YtpenkpiffdbdmaaGreatDoor.Tg
/- append onto a row of one's own, of whatever list of tags, one that is nil too. -/
namespace Go.Proofs.YtpenkpiffdbdmaaGreatDoor.Tg
open Go.RowKit
theorem flds_news {w : World} {b off : Nat} {xs : List Fld} (h : FldsAt w (some ⟨b, off, none⟩) xs) : ∀ j u, (fcells xs)[j]? = some u → w.cell? ((⟨b, off, none⟩ : Addr).add j) = some u := by
  intro j u hj
  have hlt : j < xs.length * 2 := by
    rw [← fcells_len]
    exact (List.getElem?_eq_some_iff.1 hj).1
  rcases h with rfl | ⟨b', off', hq, hb, hc⟩
  · simp at hlt
  · obtain ⟨rfl, rfl⟩ : b = b' ∧ off = off' := by simpa using hq
    have e : ((⟨b, off, none⟩ : Addr).add j) = ⟨b, off + j, none⟩ := by unfold Addr.add; split <;> simp_all
    have hk := hc (j / 2) (by omega)
    have hf := fcells_at xs (j / 2) (by omega)
    rw [e]
    rcases Nat.mod_two_eq_zero_or_one j with m | m
    · have hj' : j = j / 2 * 2 := by omega
      rw [hj', hf.1] at hj
      rw [hj', hk.1]; exact hj
    · have hj' : j = j / 2 * 2 + 1 := by omega
      rw [hj', hf.2] at hj
      rw [hj', ← Nat.add_assoc, hk.2]; exact hj
theorem flds_any {w : World} {base n : Nat} {t : TypeId} {ao : Option Addr} {cap : Nat} {fs : List Fld} (h : w.ownsRow base t 2 (.slice ao fs.length cap) n (fcells fs)) : FldsAt w ao fs := by
  obtain ⟨ao', cap', hv, hf, _⟩ := flds_of_own' h
  obtain ⟨rfl, _⟩ : ao = ao' ∧ cap = cap' := by simpa using hv
  exact hf
theorem run_append_flds (w : World) (base : Nat) (ty : TypeId) (v : Value) (n : Nat) (xs : List Value) (hown : w.ownsRow base 94 2 v n xs) (ao : Option Addr) (c : Nat) (fs : List Fld) (hz : FldsAt w ao fs)
    (hn : n + fs.length ≤ 5000000) (hbase : base ≤ w.heap.size) :
    ∃ v' w', (Builtin.append_ #[67, 67] ty #[v, .slice ao fs.length c]).run Tryz.prog w = .ok v' w' ∧ w'.ownsRow base 94 2 v' (n + fs.length) (xs ++ fcells fs) ∧ w.grownBy w' v.ownBlock ∧
      (v ≠ .slice none 0 0 → v' ≠ .slice none 0 0) := by
  obtain ⟨i0, hi, hz0, hz1, hz2⟩ := info_parts infoF
  cases ao with
  | none =>
    have hf : fs = [] := by
      rcases hz with h | ⟨b, off, h, _⟩
      · exact h
      · cases h
    subst hf
    refine ⟨v, w, ?_, by simpa [fcells] using hown, ⟨rfl, rfl, rfl, Nat.le_refl _, fun _ _ _ => rfl⟩, id⟩
    have hu := Tryz.underlying67
    rcases hown.2 with ⟨rfl, rfl⟩ | ⟨g, cap, cur, rfl, hbg, hg, hnc, hcm, hcs, htake⟩
    · simp [Builtin.append_, run_underlying hu, sizeOf, typeInfo, hi, Builtin.lenOf, Builtin.firstCells]
    · simp [Builtin.append_, run_underlying hu, sizeOf, typeInfo, hi, Builtin.lenOf, Builtin.firstCells, loadCells, hnc, storeCells]
  | some a =>
    have hnews : ∀ j u, (fcells fs)[j]? = some u → w.cell? (a.add j) = some u := by
      rcases hz with rfl | ⟨b, off, hq, hb, hc⟩
      · intro j u hj; simp [fcells] at hj
      · obtain rfl : a = ⟨b, off, none⟩ := by simpa using hq
        exact flds_news (.inr ⟨b, off, rfl, hb, hc⟩)
    obtain ⟨v', w', h1, h2, h3, h4, _⟩ := run_append_own_at (P := Tryz.prog) w base 67 ty 94 i0 _ 2 24 Tryz.underlying67 hi hz0 hz1 hz2 rfl (by decide) v n xs hown a fs.length c (fcells fs) (fcells_len fs) hnews (fcells_one fs) (by unfold maxLen; omega) (by omega) hbase
    exact ⟨v', w', h1, h2, h3, fun hne h => hne (h4.1 h).1⟩
theorem wpList_append_flds {ops : Array Oper} {rest : List Oper} {o : Oper} {a : Act} {Q : Exit → Act → World → Prop} (w : World) (hgd : o.guard = none) (s x : Operand)
    (ho : o.op = .call { callee := .builtin .append, args := #[s, x], argTypes := #[67, 67] }) (base : Nat) (v : Value) (n : Nat) (xs : List Value) (hs : a.eval s = v) (hown : w.ownsRow base 94 2 v n xs)
    (ao : Option Addr) (c : Nat) (fs : List Fld) (hx : a.eval x = .slice ao fs.length c) (hz : FldsAt w ao fs) (hn : n + fs.length ≤ 5000000) (hbase : base ≤ w.heap.size)
    (h : ∀ v' w', w'.ownsRow base 94 2 v' (n + fs.length) (xs ++ fcells fs) → w.grownBy w' v.ownBlock → (v ≠ .slice none 0 0 → v' ≠ .slice none 0 0) → wpList Tryz.prog ops Q rest (a.put o.dst v') w') : wpList Tryz.prog ops Q (o :: rest) a w := by
  obtain ⟨v', w', hr, h1, h2, h3⟩ := run_append_flds w base o.type v n xs hown ao c fs hz hn hbase
  exact Lib.wpList_append_run w hgd s x _ _ ho _ _ hs hx v' w' hr (h v' w' h1 h2 h3)
theorem step_append_flds {ops : Array Oper} {o : Oper} {a : Act} {w : World} {K : Act → World → Prop} {Q : Exit → Act → World → Prop} {E : Prop} (hgd : o.guard = none) (s x : Operand)
    (ho : o.op = .call { callee := .builtin .append, args := #[s, x], argTypes := #[67, 67] }) (base : Nat) (v : Value) (n : Nat) (xs : List Value) (hs : a.eval s = v) (hown : w.ownsRow base 94 2 v n xs)
    (ao : Option Addr) (c : Nat) (fs : List Fld) (hx : a.eval x = .slice ao fs.length c) (hz : FldsAt w ao fs) (hn : n + fs.length ≤ 5000000) (hbase : base ≤ w.heap.size)
    (h : ∀ v' w', w'.ownsRow base 94 2 v' (n + fs.length) (xs ++ fcells fs) → w.grownBy w' v.ownBlock → (v ≠ .slice none 0 0 → v' ≠ .slice none 0 0) → K (a.put o.dst v') w') :
    if Region.wanted o (yielded ops a.tmps) = true then Oper.wp Tryz.prog o a w K Q else E := by
  have hw : Region.wanted o (yielded ops a.tmps) = true := by simp [Region.wanted, hgd]
  rw [if_pos hw]
  obtain ⟨v', w', hr, h1, h2, h3⟩ := run_append_flds w base o.type v n xs hown ao c fs hz hn hbase
  unfold Oper.wp execOp
  simp only [ho, resolve, invoke, builtin, Sem.run_bind, Sem.run_pure, Result.andThen_ok, List.map_toArray, List.map_cons, List.map_nil, hs, hx, hr]
  exact h v' w' h1 h2 h3
theorem not_nil {w : World} {base n : Nat} {v : Value} {xs : List Value} (h : w.ownsRow base 94 2 v n xs) (hv : v ≠ .slice none 0 0) : ∃ g c, v = .slice (some ⟨g, 0, none⟩) n c := by
  rcases h.2 with ⟨h, _⟩ | ⟨g, c, cur, h, _⟩
  · exact absurd h hv
  · exact ⟨g, c, h⟩
theorem lit_own (w : World) : (w.alloc (.cells #[] 94)).ownsRow w.heap.size 94 2 (.slice (some ⟨w.heap.size, 0, none⟩) 0 0) 0 [] := World.ownsRow_lit w #[] 0 (Nat.le_refl _) (by unfold maxLen; omega) rfl
theorem one_at {w : World} {g : Nat} {n : Int} {s : List UInt8} (h0 : w.cell? ⟨g, 0, none⟩ = some (.int .i64 n)) (h1 : w.cell? ⟨g, 1, none⟩ = some (.string ⟨s.toArray⟩)) : FldsAt w (some ⟨g, 0, none⟩) [(n, s)] :=
  .inr ⟨g, 0, rfl, World.block_lt_of_cell? w _ h0, fun i hi => by
    obtain rfl : i = 0 := by simpa using hi
    exact ⟨h0, h1⟩⟩
end Go.Proofs.YtpenkpiffdbdmaaGreatDoor.Tg
/- The sort of a message, the reading of a message, and its code. -/
namespace Go.Proofs.YtpenkpiffdbdmaaGreatDoor
open Go.RowKit
set_option maxRecDepth 100000
theorem swSort_no1 {kd : Int} {fs : List Fld} (h : swH fs 24 = false) : swCode kd fs = -1 := if_pos (.inl h)
theorem swSort_no2 {kd : Int} {fs : List Fld} (h : kd = 1100) : swCode kd fs = -1 := if_pos (.inr h)
theorem swSort_yes {kd : Int} {fs : List Fld} (h : swH fs 24 = true) (g : kd ≠ 1100) : swCode kd fs = numOf (swD fs 24) := if_neg (by rw [h]; simp [g])
theorem sw_pair {a b c : Int} (h : b = c) : Ending.returned (.agg #[.int .i64 a, .int .i64 b]) = .returned (.agg #[.int .i64 a, .int .i64 c]) := by rw [h]
set_option maxHeartbeats 1600000 in
theorem swSortOf_any (kd : Int) (ao : Option Addr) (cap : Nat) (fs : List Fld) (w : World) (hz : FldsAt w ao fs) (hn : fs.length ≤ 1048576) (hd : sumF fs ≤ 1048576) :
    Calls Tryz.prog 21 #[.agg #[.int .i64 kd, .slice ao fs.length cap]] w fun e w' => e = .returned (.agg #[.int .i64 kd, .int .i64 (swCode kd fs)]) ∧ Below w.heap.size w w' := by
  obtain ⟨V, hV⟩ : ∃ V, V = (w.alloc (.cells #[.int .i64 kd, .slice ao fs.length cap] 30)).alloc (.cells #[.int .i64 0, .int .i64 0] 49) := ⟨_, rfl⟩
  have belV : Below w.heap.size w V := by rw [hV]; exact ((Below.refl _ _).alloc (Nat.le_refl _) _).alloc (by simp) _
  have HSZ : Hid (V.heap.size = w.heap.size + 2) := by rw [hV]; simp [Hid]
  have v0 : V.cell? ⟨w.heap.size, 0, none⟩ = some (.int .i64 kd) := by rw [hV]; simp [go_sem]
  have v1 : V.cell? ⟨w.heap.size, 1, none⟩ = some (.slice ao fs.length cap) := by rw [hV]; simp [go_sem]
  have r0 : V.cell? ⟨w.heap.size + 1, 0, none⟩ = some (.int .i64 0) := by rw [hV]; simp [go_sem]
  have r1 : V.cell? ⟨w.heap.size + 1, 1, none⟩ = some (.int .i64 0) := by rw [hV]; simp [go_sem]
  have f0 : V.frozen? ⟨w.heap.size + 1, 0, none⟩ = false := by rw [hV]; simp [go_sem]
  have f1 : V.frozen? ⟨w.heap.size + 1, 1, none⟩ = false := by rw [hV]; simp [go_sem]
  have HF : Hid (Calls Tryz.prog 43 #[.agg #[.int .i64 kd, .slice ao fs.length cap], .int .i64 24] V fun e w' => e = .returned (.tuple #[.string ⟨(swD fs 24).toArray⟩, .bool (swH fs 24)]) ∧ Below V.heap.size V w') := iFieldOf_any kd ao cap fs 24 _ (hz.below belV) hn hd
  have HC1 : Hid (swH fs 24 = false → swCode kd fs = -1) := swSort_no1
  have HC2 : Hid (kd = 1100 → swCode kd fs = -1) := swSort_no2
  have HC3 : Hid (swH fs 24 = true → kd ≠ 1100 → swCode kd fs = numOf (swD fs 24)) := swSort_yes
  have hl : (swD fs 24).length ≤ 1099511627776 := by have := sw_len (n := 24) hd; omega
  obtain ⟨S, hS⟩ : ∃ x, swCode kd fs = x := ⟨_, rfl⟩
  obtain ⟨D, hD⟩ : ∃ x, swD fs 24 = x := ⟨_, rfl⟩
  obtain ⟨H, hH⟩ : ∃ x, swH fs 24 = x := ⟨_, rfl⟩
  rw [hD, hH] at HF
  rw [hS, hH] at HC1
  rw [hS] at HC2 ⊢
  rw [hS, hH, hD] at HC3
  rw [hD] at hl
  have HBV : Hid (Below w.heap.size w V) := belV
  clear hS hD hH hz hd hn belV
  go_enter Tryz.func21, Tryz.ntmps21
  go_wp2_with fail
  rw [← hV]
  refine HF.out.mono ?_
  rintro e u1 ⟨rfl, b1⟩
  have h0 : w.heap.size < V.heap.size := by have := HSZ.out; omega
  have h1 : w.heap.size + 1 < V.heap.size := by have := HSZ.out; omega
  have c0 : u1.cell? ⟨w.heap.size, 0, none⟩ = some (.int .i64 kd) := (b1.cell (p := ⟨w.heap.size, 0, none⟩) h0).trans v0
  have q0 : u1.cell? ⟨w.heap.size + 1, 0, none⟩ = some (.int .i64 0) := (b1.cell (p := ⟨w.heap.size + 1, 0, none⟩) h1).trans r0
  have q1 : u1.cell? ⟨w.heap.size + 1, 1, none⟩ = some (.int .i64 0) := (b1.cell (p := ⟨w.heap.size + 1, 1, none⟩) h1).trans r1
  have g0 : u1.frozen? ⟨w.heap.size + 1, 0, none⟩ = false := (b1.frozen (p := ⟨w.heap.size + 1, 0, none⟩) h1).trans f0
  have g1 : u1.frozen? ⟨w.heap.size + 1, 1, none⟩ = false := (b1.frozen (p := ⟨w.heap.size + 1, 1, none⟩) h1).trans f1
  have HB : Hid (Below w.heap.size w u1) := next HBV.out (b1.mono (Nat.le_refl _)) 
  clear b1 v0 v1 r0 r1 f0 f1 h0 h1 hV
  cases H
  · have HE : Hid (S = -1) := HC1.out rfl
    go_wp2
    refine bodyPost_ret (by simp [results, Tryz.results21, go_sem, q0, q1]; try rfl) rfl ?_
    exact ⟨sw_pair HE.out.symm, (HB.out.setCell (by simp) _).setCell (by simp) _⟩
  · by_cases hk : kd = 1100
    · have HE : Hid (S = -1) := HC2.out hk
      subst hk
      go_wp2
      refine bodyPost_ret (by simp [results, Tryz.results21, go_sem, q0, q1]; try rfl) rfl ?_
      exact ⟨sw_pair HE.out.symm, (HB.out.setCell (by simp) _).setCell (by simp) _⟩
    · have HE : Hid (S = numOf D) := HC3.out rfl hk
      have hk' : (kd == 1100) = false := by simpa using hk
      clear hk
      go_wp2
      go_region_with (go_at_call 44; refine (iNumOf_any _ _ hl).mono ?_; rintro e u2 ⟨rfl, hu⟩; subst hu)
      all_goals
        go_wp2
        refine bodyPost_ret (by simp [results, Tryz.results21, go_sem, q0, q1]; try rfl) rfl ?_
        exact ⟨sw_pair HE.out.symm, (HB.out.drew.setCell (by simp) _).setCell (by simp) _⟩
theorem swCode_any {V : World} {kd : Int} {ao : Option Addr} {cap : Nat} {fs : List Fld} {tao : Option Addr} {tc : Nat} {tg : List Fld} {nf nt : Bool} {u : World} (R : SwR V kd ao cap fs tao tc tg nf nt u) :
    Calls Tryz.prog 25 #[.pointer (some ⟨V.heap.size, 0, none⟩)] u fun e u' => e = .returned (.int .i64 (if nf = true then 2 else if nt = true then 3 else 0)) ∧ u' = u := by
  have m3 := R.m3
  have m4 := R.m4
  clear R
  cases nf
  · cases nt
    · go_enter Tryz.func25, Tryz.ntmps25
      go_wp2
      go_ret
      exact ⟨rfl, rfl⟩
    · go_enter Tryz.func25, Tryz.ntmps25
      go_wp2
      go_ret
      exact ⟨rfl, rfl⟩
  · go_enter Tryz.func25, Tryz.ntmps25
    go_wp2
    go_ret
    exact ⟨rfl, rfl⟩
set_option maxHeartbeats 1600000 in
theorem swNew_any (kd : Int) (ao : Option Addr) (cap : Nat) (fs : List Fld) (w : World) (hz : FldsAt w ao fs) (hn : fs.length ≤ 1048576) (hd : sumF fs ≤ 1048576) (hT : Tg.Pow10 w)
    (hp : Lib.TabIs Tryz.prog w "internal/strconv.uint64pow10" .u64 Lib.pow10Tab) (hw : ∀ k, k < 10 → w.cell? ⟨0, k, none⟩ = some (.string ⟨(nthW k).toArray⟩)) :
    Calls Tryz.prog 23 #[.agg #[.int .i64 kd, .slice ao fs.length cap]] w fun e w' => ∃ V tao tc, e = .returned (.pointer (some ⟨V.heap.size, 0, none⟩)) ∧ SwE V ao fs tao (swTg fs) ∧ SwR V kd ao cap fs tao tc (swTg fs) false false w' ∧ Below w.heap.size w V := by
  have bel1 : Below w.heap.size w (w.alloc (.cells #[.int .i64 kd, .slice ao fs.length cap] 30)) := (Below.refl _ _).alloc (Nat.le_refl _) _
  have HF : Hid (Calls Tryz.prog 43 #[.agg #[.int .i64 kd, .slice ao fs.length cap], .int .i64 48] (w.alloc (.cells #[.int .i64 kd, .slice ao fs.length cap] 30)) fun e w' => e = .returned (.tuple #[.string ⟨(swD fs 48).toArray⟩, .bool (swH fs 48)]) ∧ Below (w.alloc (.cells #[.int .i64 kd, .slice ao fs.length cap] 30)).heap.size (w.alloc (.cells #[.int .i64 kd, .slice ao fs.length cap] 30)) w') := iFieldOf_any kd ao cap fs 48 _ (hz.below bel1) hn hd
  have hl : (swD fs 48).length ≤ 1048576 := sw_len (n := 48) hd
  have HTG : Hid ((Tg.gotT (swD fs 48)).getD [] = swTg fs) := rfl
  have HGL := tgot_len (swD fs 48)
  rw [HTG.out] at HGL
  have HGLH : Hid _ := HGL
  have HZ : Hid (FldsAt w ao fs) := hz
  have HND : Hid (fs.length ≤ 1048576 ∧ sumF fs ≤ 1048576) := ⟨hn, hd⟩
  have HT : Hid (Tg.Pow10 w) := hT
  have HP : Hid _ := hp
  have HW : Hid (∀ k, k < 10 → w.cell? ⟨0, k, none⟩ = some (.string ⟨(nthW k).toArray⟩)) := hw
  obtain ⟨T, hTT⟩ : ∃ x, swTg fs = x := ⟨_, rfl⟩
  rw [hTT] at HTG HGLH ⊢
  obtain ⟨D, hD⟩ : ∃ x, swD fs 48 = x := ⟨_, rfl⟩
  obtain ⟨H, hH⟩ : ∃ x, swH fs 48 = x := ⟨_, rfl⟩
  rw [hD, hH] at HF
  rw [hD] at hl HTG
  clear hTT hD hH hz hd hn bel1 hT hp hw HGL
  go_enter Tryz.func23, Tryz.ntmps23
  go_wp2_with fail
  refine HF.out.mono ?_
  rintro e u1 ⟨rfl, b1⟩
  obtain ⟨c0, c1, q1, -⟩ := box2 b1
  have HB1 : Hid (Below w.heap.size w u1) := q1
  clear b1 q1
  have HG : Hid (Calls Tryz.prog 47 #[.string ⟨D.toArray⟩] u1 (Tg.Gets u1 (Tg.gotT D))) := Tg.iGetTags_any D u1 hl (HT.out.below HB1.out)
  go_wp2_with fail
  refine HG.out.mono ?_
  rintro e u2 ⟨a, c, rfl, ho, b2⟩
  rw [HTG.out] at ho ⊢
  obtain ⟨d0, d1⟩ := keep2 c0 c1 b2
  have HB2 : Hid (Below w.heap.size w u2) := next HB1.out b2
  have HO : Hid (FldsAt u2 a T) := Tg.flds_any ho
  clear c0 c1 b2 ho hl
  go_wp2
  go_ret
  refine ⟨u2, a, c, rfl, ⟨HZ.out.below HB2.out, HND.out.1, HND.out.2, HO.out, by have := HGLH.out.1; omega, fun f hf => by have := HGLH.out.2 f hf; omega, Lib.tabBelow_of_tabIs HP.out _ HB2.out, fun k hk => ?_⟩, ⟨by simp [go_sem], by simp [go_sem], by simp [go_sem], by simp [go_sem], by simp [go_sem], by simp [go_sem], by simp [go_sem], (Below.refl _ _).alloc (Nat.le_refl _) _⟩, HB2.out⟩
  have h := HW.out k hk
  rw [HB2.out.cell (p := ⟨0, k, none⟩) (World.block_lt_of_cell? w _ h)]
  exact h
end Go.Proofs.YtpenkpiffdbdmaaGreatDoor
/- The contract of the specification's GetTags. -/
namespace Go.Proofs.YtpenkpiffdbdmaaGreatDoor.Tg
open Go.RowKit
theorem wrapI {x : Int} (h0 : 0 ≤ x) (h1 : x ≤ 1000000000) : IntKind.i64.wrap x = x := by
  simp [IntKind.wrap, IntKind.bits, IntKind.signed]; omega
theorem seen_len {l : List UInt8} {a : Nat} (h7 : a + 7 ≤ l.length) (hw : within 48 57 ((l.drop a).take 7) = true) : numOf ((l.drop (a + 4)).take 3) = (lenS l a : Int) ∧ lenS l a < 1000 := by
  have hs : (l.drop (a + 4)).take 3 = (((l.drop a).take 7).drop 4) := by rw [List.drop_take, List.drop_drop]
  have hw2 : within 48 57 ((l.drop (a + 4)).take 3) = true := by
    rw [hs]
    exact within_of fun c hc => within_mem hw c (List.mem_of_mem_drop hc)
  have hl3 : ((l.drop (a + 4)).take 3).length = 3 := by rw [List.length_take, List.length_drop]; omega
  have hb := val_bound _ hw2 3 (by omega)
  rw [List.take_of_length_le (by omega)] at hb
  have hn := numOf_yes (l := (l.drop (a + 4)).take 3) (by omega) hw2
  have hn2 : (numOf ((l.drop (a + 4)).take 3)).toNat = val 0 ((l.drop (a + 4)).take 3) := by rw [hn, Int.toNat_natCast]
  unfold lenS
  rw [hn2, hn]
  exact ⟨rfl, by omega⟩
theorem seen_no1 {l : List UInt8} {a : Nat} (h : ¬ a + 7 ≤ l.length) : seenS l a = false := by unfold seenS; rw [decide_eq_false h, Bool.false_and]
theorem seen_no2 {l : List UInt8} {a : Nat} (h : within 48 57 ((l.drop a).take 7) = false) : seenS l a = false := by unfold seenS; rw [h, Bool.false_and, Bool.and_false]
theorem seen_no3 {l : List UInt8} {a : Nat} (h : ¬ numOf ((l.drop (a + 4)).take 3) ≤ (l.length : Int) - a - 7) : seenS l a = false := by unfold seenS; rw [decide_eq_false h, Bool.and_false, Bool.and_false]
theorem seen_yes {l : List UInt8} {a : Nat} (h1 : a + 7 ≤ l.length) (h2 : within 48 57 ((l.drop a).take 7) = true) (h3 : numOf ((l.drop (a + 4)).take 3) ≤ (l.length : Int) - a - 7) : seenS l a = true := by
  unfold seenS; rw [decide_eq_true h1, h2, decide_eq_true h3]; rfl
theorem rdS_none {l : List UInt8} {f a : Nat} {acc : List Fld} (hrd : rdS l (l.length + 1) 0 [] = rdS l f a acc) (h : a < l.length) (he : seenS l a = false) : gotT l = none := by
  rw [got_S, hrd, rdS_no h he]; rfl
theorem gets_empty (w w' : World) (l : List UInt8) (h : gotT l = none) (g : Nat) (ho : w'.ownsRow w.heap.size 94 2 (.slice (some ⟨g, 0, none⟩) 0 0) 0 []) (hb : Below w.heap.size w w') : Gets w (gotT l) (.returned (.tuple #[.slice (some ⟨g, 0, none⟩) 0 0, .bool false])) w' := by
  rw [h]; exact ⟨_, _, rfl, ho, hb⟩
theorem lit_low {w w' : World} (hb : Below w.heap.size w w') : (w'.alloc (.cells #[] 94)).ownsRow w.heap.size 94 2 (.slice (some ⟨w'.heap.size, 0, none⟩) 0 0) 0 [] := lowerRow (lit_own w') hb.size
set_option maxRecDepth 100000 in
set_option maxHeartbeats 3200000 in
theorem sGetTags_any (l : List UInt8) (w : World) (hl : l.length ≤ 1048576) :
    Calls Tryz.prog 55 #[.string ⟨l.toArray⟩] w (Gets w (gotT l)) := by
  obtain ⟨i0, hi, hz0, hz1, hz2⟩ := info_parts infoF
  have HO0 : Hid ((w.alloc (.cells #[] 94)).ownsRow w.heap.size 94 2 (.slice (some ⟨w.heap.size, 0, none⟩) 0 0) 0 []) := lit_own w
  go_enter Tryz.func55, Tryz.ntmps55
  go_wp2
  go_loopw [4, 5] (fun v i wr => ∃ (f a : Nat) (acc : List Fld), a ≤ l.length ∧ i = .int .i64 a ∧ rdS l (l.length + 1) 0 [] = rdS l f a acc ∧ l.length < a + f ∧ acc.length * 7 ≤ a ∧ (∀ g ∈ acc, g.2.length ≤ 1048576) ∧ wr.ownsRow w.heap.size 94 2 v acc.length (fcells acc) ∧ Below w.heap.size w wr) (fun _ i _ => l.length - (intOf i).toNat)
  case atStart => exact ⟨l.length + 1, 0, [], Nat.zero_le _, rfl, rfl, by omega, by simp, (fun g hg => by cases hg), HO0.out, by go_grown⟩
  case round =>
    obtain ⟨f, a, acc, ha, rfl, hrd, hf, hal, hmem, ho, hbr⟩ := hrel
    obtain ⟨va, vc, hv, -, -⟩ := flds_of_own' ho
    subst hv
    have HO : Hid (wr.ownsRow w.heap.size 94 2 (.slice va acc.length vc) acc.length (fcells acc)) := ho
    have HM : Hid (∀ g ∈ acc, g.2.length ≤ 1048576) := hmem
    have HLL : Hid ((wr.alloc (.cells #[] 94)).ownsRow w.heap.size 94 2 (.slice (some ⟨wr.heap.size, 0, none⟩) 0 0) 0 []) := lit_low hbr
    have hba : Below w.heap.size w (wr.alloc (.cells #[] 94)) := hbr.alloc hbr.size _
    clear ho hmem HO0
    by_cases hlt : a < l.length
    · have hai : (a : Int) < (l.length : Int) := by omega
      by_cases h7 : a + 7 ≤ l.length
      · have h7d : decide ((l.length : Int) - (a : Int) < 7) = false := decide_eq_false (by omega)
        have hpc := piece_eq l a 7
        obtain ⟨P, hP⟩ : ∃ P, (l.drop a).take 7 = P := ⟨_, rfl⟩
        have hPl : P.length ≤ 7 := by rw [← hP, List.length_take]; omega
        cases hw : within 48 57 P
        · have HN : Hid (gotT l = none) := rdS_none hrd hlt (seen_no2 (by rw [hP]; exact hw))
          rw [hP] at hpc
          have HW : Hid _ := hw
          clear hrd hP hw
          go_wp2_with fail
          refine (sAllDig_any P _ (by omega)).mono ?_
          rintro e w1 ⟨rfl, hw1⟩
          subst hw1
          rw [HW.out]
          go_wp2
          go_ret2
          exact gets_empty _ _ _ HN.out _ HLL.out hba
        · obtain ⟨hn3, hn9⟩ := seen_len h7 (by rw [hP]; exact hw)
          have hpc3 : (⟨l.toArray⟩ : ByteArray).extract (a + 4) (a + 7) = ⟨((l.drop (a + 4)).take 3).toArray⟩ := piece_eq l (a + 4) 3
          have hpc4 := piece_eq l a 4
          obtain ⟨P3, hP3⟩ : ∃ P, (l.drop (a + 4)).take 3 = P := ⟨_, rfl⟩
          have hP3l : P3.length ≤ 3 := by rw [← hP3, List.length_take]; omega
          have hno := seen_no3 (l := l) (a := a)
          have hyes := seen_yes h7 (by rw [hP]; exact hw)
          have hts : tagS l a = (numOf ((l.drop a).take 4), (l.drop (a + 7)).take (lenS l a)) := rfl
          have hpc5 := piece_eq l (a + 7) (lenS l a)
          rw [hP] at hpc
          rw [hP3] at hpc3 hno hyes hn3
          obtain ⟨K, hK⟩ : ∃ K, lenS l a = K := ⟨_, rfl⟩
          rw [hK] at hn3 hn9 hts hpc5
          by_cases hbig : (l.length : Int) - (a : Int) - 7 < (K : Int)
          · have HN : Hid (gotT l = none) := rdS_none hrd hlt (hno (by rw [hn3]; omega))
            have HW : Hid _ := hw
            have HN3 : Hid _ := hn3
            clear hrd hP hw hno hyes hts hpc4 hpc5 hK hP3 hn3
            go_wp2_with fail
            refine (sAllDig_any P _ (by omega)).mono ?_
            rintro e w1 ⟨rfl, hw1⟩
            subst hw1
            rw [HW.out]
            go_wp2_with fail
            refine (sNumOf_any P3 _ (by omega)).mono ?_
            rintro e w1 ⟨rfl, hw1⟩
            subst hw1
            rw [HN3.out]
            go_wp2
            go_ret2
            exact gets_empty _ _ _ HN.out _ HLL.out hba
          · have hse := hyes (by rw [hn3]; omega)
            obtain ⟨g, rfl⟩ : ∃ g, f = g + 1 := ⟨f - 1, by omega⟩
            have hst : rdS l (l.length + 1) 0 [] = rdS l g (a + 7 + K) (acc ++ [tagS l a]) := by rw [hrd, rdS_go hlt hse, hK]
            obtain ⟨P4, hP4⟩ : ∃ P, (l.drop a).take 4 = P := ⟨_, rfl⟩
            obtain ⟨D, hD⟩ : ∃ D, (l.drop (a + 7)).take K = D := ⟨_, rfl⟩
            have hP4l : P4.length ≤ 4 := by rw [← hP4, List.length_take]; omega
            have hDl : D.length ≤ 1048576 := by rw [← hD, List.length_take, List.length_drop]; omega
            rw [hP4] at hpc4 hts
            rw [hD] at hpc5 hts
            obtain ⟨N, hN⟩ : ∃ N, numOf P4 = N := ⟨_, rfl⟩
            rw [hN] at hts
            rw [hts] at hst
            have HW : Hid _ := hw
            have HN3 : Hid _ := hn3
            have HN4 : Hid _ := hN
            have HST : Hid _ := hst
            have hkl : a + 7 + K ≤ l.length := by omega
            have hbs := hbr.size
            clear hrd hP hw hno hyes hts hK hP3 hn3 hP4 hD hN hst hse HLL hba
            go_wp2_with fail
            refine (sAllDig_any P _ (by omega)).mono ?_
            rintro e w1 ⟨rfl, hw1⟩
            subst hw1
            rw [HW.out]
            go_wp2_with fail
            refine (sNumOf_any P3 _ (by omega)).mono ?_
            rintro e w1 ⟨rfl, hw1⟩
            subst hw1
            rw [HN3.out]
            go_wp2
            have m1 : (0 : Int) ≤ (a : Int) := by omega
            have m2 : (a : Int) ≤ (a : Int) + 4 := by omega
            have m3 : (a : Int) + 4 ≤ (l.length : Int) := by omega
            have m4 : (0 : Int) ≤ (a : Int) + 7 := by omega
            have m5 : (a : Int) + 7 ≤ (a : Int) + 7 + (K : Int) := by omega
            have m6 : (a : Int) + 7 + (K : Int) ≤ (l.length : Int) := by omega
            have r1 : IntKind.i64.wrap ((a : Int) + 4) = (a : Int) + 4 := wrapI (by omega) (by omega)
            have r2 : IntKind.i64.wrap ((a : Int) + 7) = (a : Int) + 7 := wrapI (by omega) (by omega)
            have r3 : IntKind.i64.wrap ((a : Int) + 7 + (K : Int)) = (a : Int) + 7 + (K : Int) := wrapI (by omega) (by omega)
            have t1 : ((a : Int) + 4).toNat = a + 4 := by omega
            have t2 : ((a : Int) + 7).toNat = a + 7 := by omega
            have t3 : ((a : Int) + 7 + (K : Int)).toNat = a + 7 + K := by omega
            go_region_held3 (fun _ => True) (trivial) ((first | (go_at_call 30; refine (sNumOf_any P4 _ (by omega)).mono ?_; rintro e wz ⟨rfl, hwz⟩; subst hwz; rw [HN4.out]) | (refine step_append_flds rfl (.tmp 44) (.tmp 60) rfl w.heap.size (.slice va acc.length vc) acc.length (fcells acc) (by rfl) (keepRow HO.out (by go_grown)) (some ⟨w1.heap.size, 0, none⟩) 1 [(N, D)] (by rfl) (one_at (by simp [go_sem]) (by simp [go_sem])) (by simp <;> omega) (by simp <;> omega) ?_; intro v5 w5 o5 g5 _)))
            all_goals
              have hb5 : Below w.heap.size w w5 := Below.grown (hbr.trans (Below.mono (by go_grown) hbs)) g5 (by simp <;> omega) (fun j hj => (HO.out.lt j hj).1)
              have HR : Hid (w5.ownsRow w.heap.size 94 2 v5 (acc ++ [(N, D)]).length (fcells (acc ++ [(N, D)]))) := by rw [Hid, fcells_append, List.length_append]; exact o5
              clear o5 g5 HO
              go_wp2
              go_roundw
              case rel =>
                refine ⟨g, a + 7 + K, acc ++ [(N, D)], by omega, by go_num, HST.out, by omega, by simp; omega, fun x hx => ?_, HR.out, hb5⟩
                rcases List.mem_append.1 hx with h | h
                · exact HM.out x h
                · obtain rfl : x = (N, D) := by simpa using h
                  exact hDl
              case measure => simp [intOf]; omega
      · have h7d : decide ((l.length : Int) - (a : Int) < 7) = true := decide_eq_true (by omega)
        have HN : Hid (gotT l = none) := rdS_none hrd hlt (seen_no1 h7)
        clear hrd
        go_wp2
        go_ret2
        exact gets_empty _ _ _ HN.out _ HLL.out hba
    · have hal2 : a = l.length := by omega
      subst hal2
      have hgt : gotT l = onlyT l (some acc) := by rw [got_S, hrd, rdS_end (by omega) (by omega)]
      have hfl : FldsAt wr va acc := flds_any HO.out
      clear hrd HLL hba
      cases hpo : putOk acc
      · have HN : Hid (gotT l = none) := by rw [Hid, hgt]; exact only_no (fun h => by rw [hpo] at h; exact absurd h.1 (by decide))
        go_wp2_with fail
        refine (sPutTags_any _ _ _ _ hfl (by omega) (fun g hg => by have := HM.out g hg; omega)).mono ?_
        rintro e w1 ⟨rfl, b1⟩
        rw [hpo]
        have bb := next hbr b1
        have HL1 : Hid ((w1.alloc (.cells #[] 94)).ownsRow w.heap.size 94 2 (.slice (some ⟨w1.heap.size, 0, none⟩) 0 0) 0 []) := lit_low bb
        generalize putL acc = pl
        clear hpo hgt b1
        go_wp2
        go_ret2
        exact gets_empty _ _ _ HN.out _ HL1.out (bb.alloc bb.size _)
      · by_cases heq : putTs acc = l
        · have HY : Hid (gotT l = some acc) := by rw [Hid, hgt]; exact only_of hpo heq
          have HP : Hid (putL acc = l) := by rw [Hid, putL_yes hpo, heq]
          go_wp2_with fail
          refine (sPutTags_any _ _ _ _ hfl (by omega) (fun g hg => by have := HM.out g hg; omega)).mono ?_
          rintro e w1 ⟨rfl, b1⟩
          rw [hpo, HP.out]
          have bb := next hbr b1
          have HO1 : Hid (w1.ownsRow w.heap.size 94 2 (.slice va acc.length vc) acc.length (fcells acc)) := keepRow HO.out b1
          have hll : (l == l) = true := by simp
          clear hpo hgt b1 heq
          go_wp2
          go_ret2
          rw [HY.out]
          exact ⟨_, _, rfl, HO1.out, bb⟩
        · have HN : Hid (gotT l = none) := by rw [Hid, hgt]; exact only_no (fun h => heq h.2)
          have hne : (putL acc == l) = false := by rw [putL_yes hpo]; simpa using heq
          go_wp2_with fail
          refine (sPutTags_any _ _ _ _ hfl (by omega) (fun g hg => by have := HM.out g hg; omega)).mono ?_
          rintro e w1 ⟨rfl, b1⟩
          rw [hpo]
          have bb := next hbr b1
          have HL1 : Hid ((w1.alloc (.cells #[] 94)).ownsRow w.heap.size 94 2 (.slice (some ⟨w1.heap.size, 0, none⟩) 0 0) 0 []) := lit_low bb
          generalize putL acc = pl at hne
          clear hpo hgt b1 heq
          go_wp2
          go_ret2
          exact gets_empty _ _ _ HN.out _ HL1.out (bb.alloc bb.size _)
end Go.Proofs.YtpenkpiffdbdmaaGreatDoor.Tg
/- What the specification's small readings of a message answer. -/
namespace Go.Proofs.YtpenkpiffdbdmaaGreatDoor
open Go.RowKit
set_option maxRecDepth 100000
theorem sq_bel {w : World} {x y : Value} {t : TypeId} : Below w.heap.size w (w.alloc (.cells #[x, y] t)) := (Below.refl _ _).alloc (Nat.le_refl _) _
theorem sqTag_len {fs : List Fld} {n : Int} : (sqTag fs n).length ≤ 1000 := by
  unfold sqTag
  split
  · exact sw_tlen fun f hf => by have := (tgot_len (swD fs 48)).2 f hf; omega
  · simp
theorem sCode_any (l : List UInt8) (w : World) (hl : l.length ≤ 1099511627776) :
    Calls Tryz.prog 12 #[.string ⟨l.toArray⟩] w fun e w' => e = .returned (.int .i64 (sqCode l)) ∧ w' = w := by
  have HS : Hid (sqCode l = if l = [] then 9999 else numOf l) := rfl
  obtain ⟨S, hS⟩ : ∃ x, sqCode l = x := ⟨_, rfl⟩
  rw [hS] at HS ⊢
  clear hS
  by_cases h : l = []
  · subst h
    have HS1 : Hid (S = 9999) := HS.out
    clear HS
    go_enter Tryz.func12, Tryz.ntmps12
    go_wp2
    go_ret
    exact ⟨one_int HS1.out.symm, rfl⟩
  · have HS1 : Hid (S = numOf l) := by rw [Hid, HS.out, if_neg h]
    have h' : (l == []) = false := by simp [h]
    clear HS h
    go_enter Tryz.func12, Tryz.ntmps12
    go_wp2_with fail
    refine (sNumOf_any _ _ hl).mono ?_
    rintro e u1 ⟨rfl, hu⟩
    subst hu
    go_wp2
    go_ret
    exact ⟨one_int HS1.out.symm, rfl⟩
theorem sWhole_any (l : List UInt8) (w : World) (hl : l.length ≤ 1099511627776) :
    Calls Tryz.prog 31 #[.string ⟨l.toArray⟩] w fun e w' => e = .returned (.int .i64 (swWhole l)) ∧ w' = w := by
  have HS : Hid (swWhole l = if l = [] then -1 else numOf l) := rfl
  obtain ⟨S, hS⟩ : ∃ x, swWhole l = x := ⟨_, rfl⟩
  rw [hS] at HS ⊢
  clear hS
  by_cases h : l = []
  · subst h
    have HS1 : Hid (S = -1) := HS.out
    clear HS
    go_enter Tryz.func31, Tryz.ntmps31
    go_wp2
    go_ret
    exact ⟨one_int HS1.out.symm, rfl⟩
  · have HS1 : Hid (S = numOf l) := by rw [Hid, HS.out, if_neg h]
    have h' : (l == []) = false := by simp [h]
    clear HS h
    go_enter Tryz.func31, Tryz.ntmps31
    go_wp2_with fail
    refine (sNumOf_any _ _ hl).mono ?_
    rintro e u1 ⟨rfl, hu⟩
    subst hu
    go_wp2
    go_ret
    exact ⟨one_int HS1.out.symm, rfl⟩
set_option maxHeartbeats 1600000 in
theorem sNum12_any (kd : Int) (ao : Option Addr) (cap : Nat) (fs : List Fld) (n : Int) (w : World) (hz : FldsAt w ao fs) (hn : fs.length ≤ 1048576) (hd : sumF fs ≤ 1048576) :
    Calls Tryz.prog 14 #[.agg #[.int .i64 kd, .slice ao fs.length cap], .int .i64 n] w fun e w' => e = .returned (.int .i64 (sqNum fs n)) ∧ Below w.heap.size w w' := by
  have HF : Hid (Calls Tryz.prog 11 #[.agg #[.int .i64 kd, .slice ao fs.length cap], .int .i64 n] (w.alloc (.cells #[.int .i64 kd, .slice ao fs.length cap] 30)) fun e w' => e = .returned (.tuple #[.string ⟨(swD fs n).toArray⟩, .bool (swH fs n)]) ∧ Below (w.alloc (.cells #[.int .i64 kd, .slice ao fs.length cap] 30)).heap.size (w.alloc (.cells #[.int .i64 kd, .slice ao fs.length cap] 30)) w') := sFieldOf_any kd ao cap fs n _ (hz.below sq_bel) hn
  have hl : (swD fs n).length ≤ 1099511627776 := by have := sw_len (n := n) hd; omega
  have HS : Hid (sqNum fs n = if swH fs n = false ∨ swD fs n = [] ∨ 18 < (swD fs n).length then -1 else numOf (swD fs n)) := rfl
  obtain ⟨S, hS⟩ : ∃ x, sqNum fs n = x := ⟨_, rfl⟩
  rw [hS] at HS ⊢
  obtain ⟨D, hD⟩ : ∃ x, swD fs n = x := ⟨_, rfl⟩
  obtain ⟨H, hH⟩ : ∃ x, swH fs n = x := ⟨_, rfl⟩
  rw [hD, hH] at HF HS
  rw [hD] at hl
  clear hS hD hH hz hd hn
  by_cases hbad : H = false ∨ D = [] ∨ 18 < D.length
  · have HS1 : Hid (S = -1) := by rw [Hid, HS.out, if_pos hbad]
    clear HS
    cases H
    · clear hbad
      go_enter Tryz.func14, Tryz.ntmps14
      go_wp2_with fail
      refine HF.out.mono ?_
      rintro e u1 ⟨rfl, b1⟩
      have HB : Hid (Below w.heap.size w u1) := (box2 b1).2.2.1
      clear b1
      go_wp2
      go_ret
      exact ⟨one_int HS1.out.symm, HB.out⟩
    · by_cases h1 : D = []
      · subst h1
        clear hbad
        go_enter Tryz.func14, Tryz.ntmps14
        go_wp2_with fail
        refine HF.out.mono ?_
        rintro e u1 ⟨rfl, b1⟩
        have HB : Hid (Below w.heap.size w u1) := (box2 b1).2.2.1
        clear b1
        go_wp2
        go_ret
        exact ⟨one_int HS1.out.symm, HB.out⟩
      · have h2 : (18 : Int) < (D.length : Int) := by
          rcases hbad with h | h | h
          · cases h
          · exact absurd h h1
          · omega
        have h' : (D == []) = false := by simp [h1]
        clear hbad h1
        go_enter Tryz.func14, Tryz.ntmps14
        go_wp2_with fail
        refine HF.out.mono ?_
        rintro e u1 ⟨rfl, b1⟩
        have HB : Hid (Below w.heap.size w u1) := (box2 b1).2.2.1
        clear b1
        go_wp2
        go_ret
        exact ⟨one_int HS1.out.symm, HB.out⟩
  · have HS1 : Hid (S = numOf D) := by rw [Hid, HS.out, if_neg hbad]
    have hH : H = true := by cases H; exact absurd (Or.inl rfl) hbad; rfl
    subst hH
    have h1 : (D == []) = false := by simp; exact fun h => hbad (.inr (.inl h))
    have h2 : ¬ (18 : Int) < (D.length : Int) := fun h => hbad (.inr (.inr (by omega)))
    clear HS hbad
    go_enter Tryz.func14, Tryz.ntmps14
    go_wp2_with fail
    refine HF.out.mono ?_
    rintro e u1 ⟨rfl, b1⟩
    have HB : Hid (Below w.heap.size w u1) := (box2 b1).2.2.1
    clear b1
    go_wp2_with fail
    refine (sNumOf_any _ _ hl).mono ?_
    rintro e u2 ⟨rfl, hu⟩
    subst hu
    go_wp2
    go_ret
    exact ⟨one_int HS1.out.symm, HB.out⟩
set_option maxHeartbeats 1600000 in
theorem sTag12_any (kd : Int) (ao : Option Addr) (cap : Nat) (fs : List Fld) (n : Int) (w : World) (hz : FldsAt w ao fs) (hn : fs.length ≤ 1048576) (hd : sumF fs ≤ 1048576) :
    Calls Tryz.prog 33 #[.agg #[.int .i64 kd, .slice ao fs.length cap], .int .i64 n] w fun e w' => e = .returned (.tuple #[.string ⟨(sqTag fs n).toArray⟩, .bool (sqTagH fs n)]) ∧ Below w.heap.size w w' := by
  have HF : Hid (Calls Tryz.prog 11 #[.agg #[.int .i64 kd, .slice ao fs.length cap], .int .i64 48] (w.alloc (.cells #[.int .i64 kd, .slice ao fs.length cap] 30)) fun e w' => e = .returned (.tuple #[.string ⟨(swD fs 48).toArray⟩, .bool (swH fs 48)]) ∧ Below (w.alloc (.cells #[.int .i64 kd, .slice ao fs.length cap] 30)).heap.size (w.alloc (.cells #[.int .i64 kd, .slice ao fs.length cap] 30)) w') := sFieldOf_any kd ao cap fs 48 _ (hz.below sq_bel) hn
  have hl : (swD fs 48).length ≤ 1048576 := sw_len (n := 48) hd
  have HT : Hid (sqTag fs n = (if (swH fs 48 && (Tg.gotT (swD fs 48)).isSome) = true then (Tg.fOf ((Tg.gotT (swD fs 48)).getD []) n).getD [] else [])) := rfl
  have HH : Hid (sqTagH fs n = ((swH fs 48 && (Tg.gotT (swD fs 48)).isSome) && (Tg.fOf ((Tg.gotT (swD fs 48)).getD []) n).isSome)) := rfl
  obtain ⟨S, hS⟩ : ∃ x, sqTag fs n = x := ⟨_, rfl⟩
  obtain ⟨Q, hQ⟩ : ∃ x, sqTagH fs n = x := ⟨_, rfl⟩
  rw [hS] at HT ⊢
  rw [hQ] at HH ⊢
  obtain ⟨D, hD⟩ : ∃ x, swD fs 48 = x := ⟨_, rfl⟩
  obtain ⟨H, hH⟩ : ∃ x, swH fs 48 = x := ⟨_, rfl⟩
  rw [hD, hH] at HF HT HH
  rw [hD] at hl
  have HG : Hid (∀ v, Calls Tryz.prog 55 #[.string ⟨D.toArray⟩] v (Tg.Gets v (Tg.gotT D))) := fun v => Tg.sGetTags_any D v hl
  have hk : ((Tg.gotT D).getD []).length ≤ 4194304 := by have := (tgot_len D).1; omega
  obtain ⟨G, hG⟩ : ∃ x, Tg.gotT D = x := ⟨_, rfl⟩
  rw [hG] at HG HT HH hk
  have HQ : Hid (∀ v a c, FldsAt v a (G.getD []) → Calls Tryz.prog 56 #[.slice a (G.getD []).length c, .int .i64 n] v fun e w' => e = .returned (.tuple #[.string ⟨((Tg.fOf (G.getD []) n).getD []).toArray⟩, .bool (Tg.fOf (G.getD []) n).isSome]) ∧ Below v.heap.size v w') := fun v a c hf => Tg.sTagOf_any a c _ n v hf hk
  obtain ⟨R, hR⟩ : ∃ x, (Tg.fOf (G.getD []) n).getD [] = x := ⟨_, rfl⟩
  obtain ⟨P, hP⟩ : ∃ x, (Tg.fOf (G.getD []) n).isSome = x := ⟨_, rfl⟩
  obtain ⟨V, hV⟩ : ∃ x, G.isSome = x := ⟨_, rfl⟩
  rw [hR, hP] at HQ
  rw [hR, hV] at HT
  rw [hP, hV] at HH
  obtain ⟨LL, hLL⟩ : ∃ x, (G.getD []).length = x := ⟨_, rfl⟩
  have HGV : Hid (G.isSome = V ∧ (G.getD []).length = LL) := ⟨hV, hLL⟩
  rw [hLL] at HQ
  clear hS hD hH hz hd hn hl hG hR hP hV hQ hk hLL
  go_enter Tryz.func33, Tryz.ntmps33
  go_wp2_with fail
  refine HF.out.mono ?_
  rintro e u1 ⟨rfl, b1⟩
  have HB1 : Hid (Below w.heap.size w u1) := (box2 b1).2.2.1
  clear b1
  go_wp2_with fail
  refine (HG.out u1).mono ?_
  rintro e u2 ⟨a, c, rfl, ho, b2⟩
  rw [HGV.out.1]
  have HO : Hid (FldsAt u2 a (G.getD [])) := Tg.flds_any ho
  rw [HGV.out.2]
  have HB2 : Hid (Below w.heap.size w u2) := next HB1.out b2
  clear ho b2
  cases H
  · have e1 : S = [] := HT.out
    have e2 : Q = false := HH.out
    subst e1 e2
    clear HT HH
    go_wp2
    go_ret2
    exact ⟨rfl, HB2.out⟩
  · cases V
    · have e1 : S = [] := HT.out
      have e2 : Q = false := HH.out
      subst e1 e2
      clear HT HH
      go_wp2
      go_ret2
      exact ⟨rfl, HB2.out⟩
    · have e1 : S = R := HT.out
      have e2 : Q = P := HH.out
      subst e1 e2
      clear HT HH
      go_wp2_with fail
      refine (HQ.out _ _ _ HO.out).mono ?_
      rintro e u3 ⟨rfl, b3⟩
      have HB3 : Hid (Below w.heap.size w u3) := next HB2.out b3
      clear b3
      go_wp2
      go_ret2
      exact ⟨rfl, HB3.out⟩
set_option maxHeartbeats 1600000 in
theorem sCase12_any (kd : Int) (ao : Option Addr) (cap : Nat) (fs : List Fld) (w : World) (hz : FldsAt w ao fs) (hn : fs.length ≤ 1048576) (hd : sumF fs ≤ 1048576) :
    Calls Tryz.prog 32 #[.agg #[.int .i64 kd, .slice ao fs.length cap]] w fun e w' => e = .returned (.int .i64 (sqCase fs)) ∧ Below w.heap.size w w' := by
  have HF : Hid (Calls Tryz.prog 33 #[.agg #[.int .i64 kd, .slice ao fs.length cap], .int .i64 1] (w.alloc (.cells #[.int .i64 kd, .slice ao fs.length cap] 30)) fun e w' => e = .returned (.tuple #[.string ⟨(sqTag fs 1).toArray⟩, .bool (sqTagH fs 1)]) ∧ Below (w.alloc (.cells #[.int .i64 kd, .slice ao fs.length cap] 30)).heap.size (w.alloc (.cells #[.int .i64 kd, .slice ao fs.length cap] 30)) w') := sTag12_any kd ao cap fs 1 _ (hz.below sq_bel) hn hd
  have hl : (sqTag fs 1).length ≤ 1099511627776 := by have := @sqTag_len fs 1; omega
  have HS : Hid (sqCase fs = if sqTagH fs 1 = false ∨ 9 < (sqTag fs 1).length then -1 else swWhole (sqTag fs 1)) := rfl
  obtain ⟨S, hS⟩ : ∃ x, sqCase fs = x := ⟨_, rfl⟩
  rw [hS] at HS ⊢
  obtain ⟨D, hD⟩ : ∃ x, sqTag fs 1 = x := ⟨_, rfl⟩
  obtain ⟨H, hH⟩ : ∃ x, sqTagH fs 1 = x := ⟨_, rfl⟩
  rw [hD, hH] at HF HS
  rw [hD] at hl
  clear hS hD hH hz hd hn
  cases H
  · have HS1 : Hid (S = -1) := by rw [Hid, HS.out, if_pos (Or.inl rfl)]
    clear HS
    go_enter Tryz.func32, Tryz.ntmps32
    go_wp2_with fail
    refine HF.out.mono ?_
    rintro e u1 ⟨rfl, b1⟩
    have HB : Hid (Below w.heap.size w u1) := (box2 b1).2.2.1
    clear b1
    go_wp2
    go_ret
    exact ⟨one_int HS1.out.symm, HB.out⟩
  · by_cases h9 : 9 < D.length
    · have HS1 : Hid (S = -1) := by rw [Hid, HS.out, if_pos (Or.inr h9)]
      have h2 : (9 : Int) < (D.length : Int) := by omega
      clear HS h9
      go_enter Tryz.func32, Tryz.ntmps32
      go_wp2_with fail
      refine HF.out.mono ?_
      rintro e u1 ⟨rfl, b1⟩
      have HB : Hid (Below w.heap.size w u1) := (box2 b1).2.2.1
      clear b1
      go_wp2
      go_ret
      exact ⟨one_int HS1.out.symm, HB.out⟩
    · have HS1 : Hid (S = swWhole D) := by rw [Hid, HS.out, if_neg (by simp [h9])]
      have h2 : ¬ (9 : Int) < (D.length : Int) := by omega
      clear HS h9
      go_enter Tryz.func32, Tryz.ntmps32
      go_wp2_with fail
      refine HF.out.mono ?_
      rintro e u1 ⟨rfl, b1⟩
      have HB : Hid (Below w.heap.size w u1) := (box2 b1).2.2.1
      clear b1
      go_wp2_with fail
      refine (sWhole_any _ _ hl).mono ?_
      rintro e u2 ⟨rfl, hu⟩
      subst hu
      go_wp2
      go_ret
      exact ⟨one_int HS1.out.symm, HB.out⟩
end Go.Proofs.YtpenkpiffdbdmaaGreatDoor
/- What the specification's readings of an account, an act and the end of a case answer. -/
namespace Go.Proofs.YtpenkpiffdbdmaaGreatDoor
open Go.RowKit
set_option maxRecDepth 100000
def swLen : Value → Nat
  | .string b => b.size
  | _ => 0
theorem sw_cat (x y : List UInt8) (h : x.length + y.length ≤ 1099511627776) : ∀ W : World, (Op.stringOp .add ⟨x.toArray⟩ ⟨y.toArray⟩).run Tryz.prog W = .ok (.string ⟨(x ++ y).toArray⟩) W := fun W =>
  (run_string_add_sum W ⟨x.toArray⟩ ⟨y.toArray⟩ (by rw [ba_size, ba_size]; omega)).trans (by rw [ba_append])
theorem sq_itoa_len {n : Int} (h0 : -1 ≤ n) (h1 : n < 1000000000000000000) : (Lib.itoa n).length ≤ 1048576 := by
  have := Lib.itoa_length_le n (by omega) (by omega); omega
theorem sw_head (a : UInt8) (r : List UInt8) (W : World) : (Instr.index 9 (.string ⟨(a :: r).toArray⟩) (.int .i64 0)).run Tryz.prog W = .ok (.int .u8 a.toNat) W := by
  have h := byte_at (a :: r) 0 (by simp)
  have hs : 0 < (⟨(a :: r).toArray⟩ : ByteArray).size := by rw [ba_size]; simp
  simp [go_sem, Tryz.underlying9]
  rw [← h]
  rfl
theorem swIn_is (x : Int) : inB x 1 9999 = swIn x := by unfold inB swIn; rw [Bool.decide_and]
theorem sDec12_any (n : Int) (w : World) (h0 : 0 ≤ n) (h1 : n < 1000000000000000000) :
    Calls Tryz.prog 16 #[.int .i64 n] w fun e w' => e = .returned (.string ⟨(Lib.itoa n).toArray⟩) ∧ w' = w := by
  obtain ⟨a, rfl⟩ : ∃ a : Nat, n = (a : Int) := ⟨n.toNat, by omega⟩
  have h := Tg.dec_up a w (by omega)
  have e : Lib.itoa (a : Int) = Lib.decDigits a := by simp [Lib.itoa, show ¬ (a : Int) < 0 from by omega]
  rw [e]; exact h
theorem stripZ_stop {l : List UInt8} (h : ¬ 1 < l.length ∨ l.head? ≠ some 48) : stripZ l = l := by
  unfold stripZ
  split
  · rfl
  · rfl
  · rename_i a b r
    rw [if_neg]
    rcases h with h | h
    · simp at h
    · simpa using h
theorem stripZ_go (r : List UInt8) (h : 0 < r.length) : stripZ (48 :: r) = stripZ r := by
  cases r with
  | nil => simp at h
  | cons b r => rw [stripZ]; simp
set_option maxHeartbeats 3200000 in
theorem sAcct12_any (kd : Int) (ao : Option Addr) (cap : Nat) (fs : List Fld) (n : Int) (w : World) (hz : FldsAt w ao fs) (hn : fs.length ≤ 1048576) (hd : sumF fs ≤ 1048576) :
    Calls Tryz.prog 13 #[.agg #[.int .i64 kd, .slice ao fs.length cap], .int .i64 n] w fun e w' => e = .returned (.int .i64 (sqAcct fs n)) ∧ Below w.heap.size w w' := by
  have HF : Hid (Calls Tryz.prog 11 #[.agg #[.int .i64 kd, .slice ao fs.length cap], .int .i64 n] (w.alloc (.cells #[.int .i64 kd, .slice ao fs.length cap] 30)) fun e w' => e = .returned (.tuple #[.string ⟨(swD fs n).toArray⟩, .bool (swH fs n)]) ∧ Below (w.alloc (.cells #[.int .i64 kd, .slice ao fs.length cap] 30)).heap.size (w.alloc (.cells #[.int .i64 kd, .slice ao fs.length cap] 30)) w') := sFieldOf_any kd ao cap fs n _ (hz.below sq_bel) hn
  have hl : (swD fs n).length ≤ 1048576 := sw_len (n := n) hd
  have HS : Hid (sqAcct fs n = if swH fs n = false ∨ 4 < (stripZ (swD fs n)).length ∨ swIn (swWhole (stripZ (swD fs n))) = false then -1 else numOf (stripZ (swD fs n))) := rfl
  obtain ⟨S, hS⟩ : ∃ x, sqAcct fs n = x := ⟨_, rfl⟩
  rw [hS] at HS ⊢
  obtain ⟨D, hD⟩ : ∃ x, swD fs n = x := ⟨_, rfl⟩
  obtain ⟨H, hH⟩ : ∃ x, swH fs n = x := ⟨_, rfl⟩
  rw [hD, hH] at HF HS
  rw [hD] at hl
  have HL : Hid (D.length ≤ 1048576) := hl
  obtain ⟨Z, hZ⟩ : ∃ x, stripZ D = x := ⟨_, rfl⟩
  rw [hZ] at HS
  have HLZ : Hid (Z.length ≤ 1048576) := by rw [Hid, ← hZ]; have := stripZ_len D; omega
  clear hS hD hH hz hd hn hl
  go_enter Tryz.func13, Tryz.ntmps13
  go_wp2_with fail
  refine HF.out.mono ?_
  rintro e u1 ⟨rfl, b1⟩
  have HB : Hid (Below w.heap.size w u1) := (box2 b1).2.2.1
  clear b1
  go_wp2
  go_loopw [5] (fun s wr => ∃ l : List UInt8, .string ⟨l.toArray⟩ = s ∧ stripZ l = Z ∧ l.length ≤ D.length ∧ wr = u1) (fun s _ => swLen s)
  case atStart => exact ⟨D, rfl, hZ, Nat.le_refl _, rfl⟩
  case round =>
    obtain ⟨l, rfl, hst, hle, hw⟩ := hrel
    subst hw
    by_cases hgo : 1 < l.length ∧ l.head? = some 48
    · obtain ⟨r, rfl⟩ : ∃ r, l = 48 :: r := by
        cases l with
        | nil => simp at hgo
        | cons a r => simp at hgo; exact ⟨r, by rw [hgo.2]⟩
      have hr : 0 < r.length := by have := hgo.1; simp at this; omega
      have HST : Hid (stripZ r = Z) := by rw [Hid, ← stripZ_go r hr]; exact hst
      have h1 : (1 : Int) < ((48 :: r).length : Int) := by have := hgo.1; omega
      have HLE : Hid (r.length ≤ D.length) := by rw [Hid]; simp at hle; omega
      have hsl : ∀ W : World, (Instr.slice 9 (.string ⟨(48 :: r).toArray⟩) (some (.int .i64 1)) none none).run Tryz.prog W = .ok (.string ⟨r.toArray⟩) W := fun W => by
        rw [run_slice_string_from_if W 9 ⟨(48 :: r).toArray⟩ .i64 1 Tryz.underlying9, if_pos ⟨by omega, by rw [ba_size]; simp; omega⟩, ba_size]
        have := ba_extract (48 :: r) 1 (48 :: r).length
        simp at this ⊢
        exact this
      have HSZ : Hid (swLen (.string ⟨r.toArray⟩) < swLen (.string ⟨(48 :: r).toArray⟩)) := by rw [Hid]; simp only [swLen, ba_size]; simp
      have hix : ∀ W : World, (Instr.index 9 (.string ⟨(48 :: r).toArray⟩) (.int .i64 0)).run Tryz.prog W = .ok (.int .u8 48) W := fun W => sw_head 48 r W
      clear hgo hst hle hr HF
      obtain ⟨B, hBB⟩ : ∃ x : ByteArray, x = ⟨(48 :: r).toArray⟩ := ⟨_, rfl⟩
      have hsz : (B.size : Int) = ((48 :: r).length : Int) := by rw [hBB, ba_size]
      rw [← hBB] at hsl HSZ hix ⊢
      rw [← hsz] at h1
      clear hBB hsz
      go_wp2
      go_roundw
      case rel => exact ⟨r, rfl, HST.out, HLE.out, trivial⟩
      case measure => exact HSZ.out
    · have hzl : l = Z := by
        rw [← hst, stripZ_stop]
        by_cases h : 1 < l.length
        · exact .inr fun g => hgo ⟨h, g⟩
        · exact .inl h
      subst hzl
      have HWH : Hid (∀ v, Calls Tryz.prog 31 #[.string ⟨l.toArray⟩] v fun e w' => e = .returned (.int .i64 (swWhole l)) ∧ w' = v) := fun v => sWhole_any l v (by have := HLZ.out; omega)
      have HNU : Hid (∀ v, Calls Tryz.prog 30 #[.string ⟨l.toArray⟩] v fun e w' => e = .returned (.int .i64 (numOf l)) ∧ w' = v) := fun v => sNumOf_any l v (by have := HLZ.out; omega)
      have HIN : Hid (∀ v, Calls Tryz.prog 29 #[.int .i64 (swWhole l), .int .i64 1, .int .i64 9999] v fun e w' => e = .returned (.bool (swIn (swWhole l))) ∧ w' = v) := fun v => by rw [← swIn_is]; exact in_any _ 1 9999 v
      have hx : (¬ (1 : Int) < ((⟨l.toArray⟩ : ByteArray).size : Int)) ∨ ((1 : Int) < ((⟨l.toArray⟩ : ByteArray).size : Int) ∧ ∃ c : Int, (c == 48) = false ∧ ∀ W : World, (Instr.index 9 (.string ⟨l.toArray⟩) (.int .i64 0)).run Tryz.prog W = .ok (.int .u8 c) W) := by
        rw [ba_size]
        by_cases h : 1 < l.length
        · refine .inr ⟨by omega, ?_⟩
          cases l with
          | nil => simp at h
          | cons a r =>
            refine ⟨a.toNat, ?_, sw_head a r⟩
            have hne : a ≠ 48 := fun e => hgo ⟨h, by rw [e]; rfl⟩
            simp only [beq_eq_false_iff_ne, ne_eq]
            intro e
            exact hne (UInt8.toNat_inj.1 (by show a.toNat = 48; omega))
        · exact .inl (by omega)
      have h4 : ((⟨l.toArray⟩ : ByteArray).size : Int) = (l.length : Int) := by rw [ba_size]
      obtain ⟨wh, hwh⟩ : ∃ x, swWhole l = x := ⟨_, rfl⟩
      obtain ⟨nu, hnu⟩ : ∃ x, numOf l = x := ⟨_, rfl⟩
      obtain ⟨ln, hln⟩ : ∃ x, l.length = x := ⟨_, rfl⟩
      obtain ⟨iw, hiw⟩ : ∃ x, swIn wh = x := ⟨_, rfl⟩
      rw [hwh, hln, hnu, hiw] at HS
      rw [hwh] at HWH
      rw [hwh, hiw] at HIN
      rw [hnu] at HNU
      rw [hln] at h4
      obtain ⟨B, hBB⟩ : ∃ x : ByteArray, (⟨l.toArray⟩ : ByteArray) = x := ⟨_, rfl⟩
      rw [hBB] at HWH HNU hx h4 ⊢
      clear hwh hnu hln hiw hBB hst hle hgo HF HL
      rcases hx with hx | ⟨hx, c, hc, hix⟩
      all_goals
        cases H
        · have HS1 : Hid (S = -1) := by rw [Hid, HS.out, if_pos (Or.inl rfl)]
          clear HS HWH HNU HIN h4
          go_wp2
          go_ret
          exact ⟨one_int HS1.out.symm, HB.out⟩
        · by_cases h5 : 4 < ln
          · have HS1 : Hid (S = -1) := by rw [Hid, HS.out, if_pos (Or.inr (Or.inl h5))]
            have h6 : (4 : Int) < (B.size : Int) := by omega
            clear HS HWH HNU HIN h4 h5
            go_wp2
            go_ret
            exact ⟨one_int HS1.out.symm, HB.out⟩
          · have h6 : ¬ (4 : Int) < (B.size : Int) := by omega
            cases iw
            · have HS1 : Hid (S = -1) := by rw [Hid, HS.out, if_pos (Or.inr (Or.inr rfl))]
              clear HS HNU h4 h5
              go_wp2_with fail
              refine (HWH.out _).mono ?_
              rintro e u2 ⟨rfl, hu⟩
              subst hu
              go_wp2_with fail
              refine (HIN.out _).mono ?_
              rintro e u3 ⟨rfl, hu⟩
              subst hu
              go_wp2
              go_ret
              exact ⟨one_int HS1.out.symm, HB.out⟩
            · have HS1 : Hid (S = nu) := by rw [Hid, HS.out, if_neg (by simp [h5])]
              clear HS h4 h5
              go_wp2_with fail
              refine (HWH.out _).mono ?_
              rintro e u2 ⟨rfl, hu⟩
              subst hu
              go_wp2_with fail
              refine (HIN.out _).mono ?_
              rintro e u3 ⟨rfl, hu⟩
              subst hu
              go_wp2_with fail
              refine (HNU.out _).mono ?_
              rintro e u4 ⟨rfl, hu⟩
              subst hu
              go_wp2
              go_ret
              exact ⟨one_int HS1.out.symm, HB.out⟩
end Go.Proofs.YtpenkpiffdbdmaaGreatDoor
/- What the specification's act and end of a case answer. -/
namespace Go.Proofs.YtpenkpiffdbdmaaGreatDoor
open Go.RowKit
set_option maxRecDepth 100000
set_option maxHeartbeats 3200000 in
theorem sAct12_any (kd : Int) (ao : Option Addr) (cap : Nat) (fs : List Fld) (wd : List UInt8) (am rs : Int) (w : World) (hz : FldsAt w ao fs) (hn : fs.length ≤ 1048576) (hd : sumF fs ≤ 1048576) (hwl : wd.length ≤ 1000) (ha : am < 1000000000000000000) (hr : rs < 1000000000000000000) :
    Calls Tryz.prog 17 #[.agg #[.int .i64 kd, .slice ao fs.length cap], .string ⟨wd.toArray⟩, .int .i64 am, .int .i64 rs] w fun e w' => e = .returned (.tuple #[.string ⟨(sqAct fs wd am rs).1.toArray⟩, .int .i64 (sqAct fs wd am rs).2]) ∧ Below w.heap.size w w' := by
  have bel1 : Below w.heap.size w (w.alloc (.cells #[.int .i64 kd, .slice ao fs.length cap] 30)) := sq_bel
  have HC : Hid (Calls Tryz.prog 32 #[.agg #[.int .i64 kd, .slice ao fs.length cap]] (w.alloc (.cells #[.int .i64 kd, .slice ao fs.length cap] 30)) fun e w' => e = .returned (.int .i64 (sqCase fs)) ∧ Below (w.alloc (.cells #[.int .i64 kd, .slice ao fs.length cap] 30)).heap.size (w.alloc (.cells #[.int .i64 kd, .slice ao fs.length cap] 30)) w') := sCase12_any kd ao cap fs _ (hz.below sq_bel) hn hd
  have hcb := @sqCase_bd fs
  have HS : Hid (sqAct fs wd am rs = if am < 0 ∨ rs < 0 then ([], 2) else if sqCase fs < 0 ∨ wd = [] then ([], 3) else (sqLn [97, 99, 116] (Lib.itoa (sqCase fs)) wd (Lib.itoa am) (Lib.itoa rs), 0)) := rfl
  obtain ⟨S, hS⟩ : ∃ x, sqAct fs wd am rs = x := ⟨_, rfl⟩
  rw [hS] at HS ⊢
  obtain ⟨N, hN⟩ : ∃ x, sqCase fs = x := ⟨_, rfl⟩
  rw [hN] at HC HS hcb
  have HBL : Hid (Below w.heap.size w (w.alloc (.cells #[.int .i64 kd, .slice ao fs.length cap] 30))) := bel1
  clear hS hN hz hn hd bel1
  by_cases h0 : am < 0
  · have HE : Hid (S = ([], 2)) := by rw [Hid, HS.out, if_pos (Or.inl h0)]
    clear HS
    go_enter Tryz.func17, Tryz.ntmps17
    go_wp2
    go_ret2
    exact ⟨by rw [HE.out]; rfl, HBL.out⟩
  by_cases h1 : rs < 0
  · have HE : Hid (S = ([], 2)) := by rw [Hid, HS.out, if_pos (Or.inr h1)]
    clear HS
    go_enter Tryz.func17, Tryz.ntmps17
    go_wp2
    go_ret2
    exact ⟨by rw [HE.out]; rfl, HBL.out⟩
  rw [if_neg (show ¬ (am < 0 ∨ rs < 0) by omega)] at HS
  by_cases h2 : N < 0
  · have HE : Hid (S = ([], 3)) := by rw [Hid, HS.out, if_pos (Or.inl h2)]
    clear HS
    go_enter Tryz.func17, Tryz.ntmps17
    go_wp2_with fail
    refine HC.out.mono ?_
    rintro e u1 ⟨rfl, b1⟩
    have HB : Hid (Below w.heap.size w u1) := (box2 b1).2.2.1
    clear b1
    go_wp2
    go_ret2
    exact ⟨by rw [HE.out]; rfl, HB.out⟩
  by_cases h3 : wd = []
  · have HE : Hid (S = ([], 3)) := by rw [Hid, HS.out, if_pos (Or.inr h3)]
    subst h3
    clear HS
    go_enter Tryz.func17, Tryz.ntmps17
    go_wp2_with fail
    refine HC.out.mono ?_
    rintro e u1 ⟨rfl, b1⟩
    have HB : Hid (Below w.heap.size w u1) := (box2 b1).2.2.1
    clear b1
    go_wp2
    go_ret2
    exact ⟨by rw [HE.out]; rfl, HB.out⟩
  have h3' : (wd == []) = false := by simp [h3]
  have HE : Hid (S = (sqLn [97, 99, 116] (Lib.itoa N) wd (Lib.itoa am) (Lib.itoa rs), 0)) := by rw [Hid, HS.out, if_neg (by simp [h2, h3])]
  have hA := sq_itoa_len (n := N) (by omega) hcb.2
  have hB := sq_itoa_len (n := am) (by omega) ha
  have hC := sq_itoa_len (n := rs) (by omega) hr
  have HDA : Hid (∀ v, Calls Tryz.prog 16 #[.int .i64 N] v fun e w' => e = .returned (.string ⟨(Lib.itoa N).toArray⟩) ∧ w' = v) := fun v => sDec12_any N v (by omega) hcb.2
  have HDB : Hid (∀ v, Calls Tryz.prog 16 #[.int .i64 am] v fun e w' => e = .returned (.string ⟨(Lib.itoa am).toArray⟩) ∧ w' = v) := fun v => sDec12_any am v (by omega) ha
  have HDC : Hid (∀ v, Calls Tryz.prog 16 #[.int .i64 rs] v fun e w' => e = .returned (.string ⟨(Lib.itoa rs).toArray⟩) ∧ w' = v) := fun v => sDec12_any rs v (by omega) hr
  obtain ⟨A, hAe⟩ : ∃ x, Lib.itoa N = x := ⟨_, rfl⟩
  obtain ⟨B, hBe⟩ : ∃ x, Lib.itoa am = x := ⟨_, rfl⟩
  obtain ⟨C, hCe⟩ : ∃ x, Lib.itoa rs = x := ⟨_, rfl⟩
  rw [hAe] at hA HDA HE
  rw [hBe] at hB HDB HE
  rw [hCe] at hC HDC HE
  obtain ⟨L1, hL1⟩ : ∃ x, [97, 99, 116, 32] ++ A = x := ⟨_, rfl⟩
  have gL1 := sw_cat [97, 99, 116, 32] A (by (try simp only [List.length_cons, List.length_nil]); omega)
  rw [hL1] at gL1
  have zL1 : L1.length ≤ 4194304 := by rw [← hL1, List.length_append]; (try simp only [List.length_cons, List.length_nil]); omega
  obtain ⟨L2, hL2⟩ : ∃ x, L1 ++ [32] = x := ⟨_, rfl⟩
  have gL2 := sw_cat L1 [32] (by (try simp only [List.length_cons, List.length_nil]); omega)
  rw [hL2] at gL2
  have zL2 : L2.length ≤ 6291456 := by rw [← hL2, List.length_append]; (try simp only [List.length_cons, List.length_nil]); omega
  obtain ⟨L3, hL3⟩ : ∃ x, L2 ++ wd = x := ⟨_, rfl⟩
  have gL3 := sw_cat L2 wd (by (try simp only [List.length_cons, List.length_nil]); omega)
  rw [hL3] at gL3
  have zL3 : L3.length ≤ 8388608 := by rw [← hL3, List.length_append]; (try simp only [List.length_cons, List.length_nil]); omega
  obtain ⟨L4, hL4⟩ : ∃ x, L3 ++ [32] = x := ⟨_, rfl⟩
  have gL4 := sw_cat L3 [32] (by (try simp only [List.length_cons, List.length_nil]); omega)
  rw [hL4] at gL4
  have zL4 : L4.length ≤ 10485760 := by rw [← hL4, List.length_append]; (try simp only [List.length_cons, List.length_nil]); omega
  obtain ⟨L5, hL5⟩ : ∃ x, L4 ++ B = x := ⟨_, rfl⟩
  have gL5 := sw_cat L4 B (by (try simp only [List.length_cons, List.length_nil]); omega)
  rw [hL5] at gL5
  have zL5 : L5.length ≤ 12582912 := by rw [← hL5, List.length_append]; (try simp only [List.length_cons, List.length_nil]); omega
  obtain ⟨L6, hL6⟩ : ∃ x, L5 ++ [32] = x := ⟨_, rfl⟩
  have gL6 := sw_cat L5 [32] (by (try simp only [List.length_cons, List.length_nil]); omega)
  rw [hL6] at gL6
  have zL6 : L6.length ≤ 14680064 := by rw [← hL6, List.length_append]; (try simp only [List.length_cons, List.length_nil]); omega
  obtain ⟨L7, hL7⟩ : ∃ x, L6 ++ C = x := ⟨_, rfl⟩
  have gL7 := sw_cat L6 C (by (try simp only [List.length_cons, List.length_nil]); omega)
  rw [hL7] at gL7
  have zL7 : L7.length ≤ 16777216 := by rw [← hL7, List.length_append]; (try simp only [List.length_cons, List.length_nil]); omega
  have HEL : Hid (S = (L7, 0)) := by rw [Hid, HE.out, ← hL7, ← hL6, ← hL5, ← hL4, ← hL3, ← hL2, ← hL1]; rfl
  clear HS HE zL1 hL1 zL2 hL2 zL3 hL3 zL4 hL4 zL5 hL5 zL6 hL6 zL7 hL7 hA hB hC hAe hBe hCe h3
  go_enter Tryz.func17, Tryz.ntmps17
  go_wp2_with fail
  refine HC.out.mono ?_
  rintro e u1 ⟨rfl, b1⟩
  have HB : Hid (Below w.heap.size w u1) := (box2 b1).2.2.1
  clear b1
  go_wp2_with fail
  refine (HDA.out _).mono ?_
  rintro e u2 ⟨rfl, hu⟩
  subst hu
  go_wp2_with fail
  refine (HDB.out _).mono ?_
  rintro e u3 ⟨rfl, hu⟩
  subst hu
  go_wp2_with fail
  refine (HDC.out _).mono ?_
  rintro e u4 ⟨rfl, hu⟩
  subst hu
  go_wp2
  go_ret2
  exact ⟨by rw [HEL.out]; rfl, HB.out⟩
set_option maxHeartbeats 3200000 in
theorem sEnd12_any (kd : Int) (ao : Option Addr) (cap : Nat) (fs : List Fld) (w : World) (hz : FldsAt w ao fs) (hn : fs.length ≤ 1048576) (hd : sumF fs ≤ 1048576) :
    Calls Tryz.prog 18 #[.agg #[.int .i64 kd, .slice ao fs.length cap]] w fun e w' => e = .returned (.tuple #[.string ⟨(sqEnd fs).1.toArray⟩, .int .i64 (sqEnd fs).2]) ∧ Below w.heap.size w w' := by
  have HF : Hid (Calls Tryz.prog 11 #[.agg #[.int .i64 kd, .slice ao fs.length cap], .int .i64 4] (w.alloc (.cells #[.int .i64 kd, .slice ao fs.length cap] 30)) fun e w' => e = .returned (.tuple #[.string ⟨(swD fs 4).toArray⟩, .bool (swH fs 4)]) ∧ Below (w.alloc (.cells #[.int .i64 kd, .slice ao fs.length cap] 30)).heap.size (w.alloc (.cells #[.int .i64 kd, .slice ao fs.length cap] 30)) w') := sFieldOf_any kd ao cap fs 4 _ (hz.below sq_bel) hn
  have HN : Hid (∀ v, Below w.heap.size w v → Calls Tryz.prog 14 #[.agg #[.int .i64 kd, .slice ao fs.length cap], .int .i64 4] v fun e w' => e = .returned (.int .i64 (sqNum fs 4)) ∧ Below v.heap.size v w') := fun v b => sNum12_any kd ao cap fs 4 v (hz.below b) hn hd
  have HT : Hid (∀ v, Below w.heap.size w v → Calls Tryz.prog 33 #[.agg #[.int .i64 kd, .slice ao fs.length cap], .int .i64 2] v fun e w' => e = .returned (.tuple #[.string ⟨(sqTag fs 2).toArray⟩, .bool (sqTagH fs 2)]) ∧ Below v.heap.size v w') := fun v b => sTag12_any kd ao cap fs 2 v (hz.below b) hn hd
  have HA : Hid (∀ v wd am, Below w.heap.size w v → wd.length ≤ 1000 → am < 1000000000000000000 → Calls Tryz.prog 17 #[.agg #[.int .i64 kd, .slice ao fs.length cap], .string ⟨wd.toArray⟩, .int .i64 am, .int .i64 0] v fun e w' => e = .returned (.tuple #[.string ⟨(sqAct fs wd am 0).1.toArray⟩, .int .i64 (sqAct fs wd am 0).2]) ∧ Below v.heap.size v w') := fun v wd am b h g => sAct12_any kd ao cap fs wd am 0 v (hz.below b) hn hd h g (by omega)
  have hnb : (if swH fs 4 = true then sqNum fs 4 else 0) < 1000000000000000000 := by
    have := @sqNum_bd fs 4; split <;> omega
  have HTL : Hid ((sqTag fs 2).length ≤ 1000) := sqTag_len
  have HE : Hid (sqEnd fs = sqAct fs (if swWok (sqTag fs 2) = true then sqTag fs 2 else []) (if swH fs 4 = true then sqNum fs 4 else 0) 0) := rfl
  have HO : Hid (swWok (sqTag fs 2) = ((sqTag fs 2 == [97, 99, 99, 101, 112, 116]) || ((sqTag fs 2 == [114, 101, 102, 117, 115, 101]) || ((sqTag fs 2 == [114, 117, 108, 101]) || (sqTag fs 2 == [99, 108, 111, 115, 101]))))) := rfl
  obtain ⟨S, hS⟩ : ∃ x, sqEnd fs = x := ⟨_, rfl⟩
  rw [hS] at HE ⊢
  obtain ⟨D4, hD4⟩ : ∃ x, swD fs 4 = x := ⟨_, rfl⟩
  obtain ⟨H, hH⟩ : ∃ x, swH fs 4 = x := ⟨_, rfl⟩
  rw [hD4, hH] at HF
  rw [hH] at HE hnb
  obtain ⟨AM, hAM⟩ : ∃ x, (if H = true then sqNum fs 4 else 0) = x := ⟨_, rfl⟩
  rw [hAM] at HE hnb
  obtain ⟨D, hD⟩ : ∃ x, sqTag fs 2 = x := ⟨_, rfl⟩
  obtain ⟨G, hG⟩ : ∃ x, sqTagH fs 2 = x := ⟨_, rfl⟩
  rw [hD, hG] at HT
  rw [hD] at HTL HE HO
  obtain ⟨WK, hWK⟩ : ∃ x, swWok D = x := ⟨_, rfl⟩
  rw [hWK] at HE HO
  have HAM : Hid ((if H = true then sqNum fs 4 else 0) = AM) := hAM
  obtain ⟨NN, hNN⟩ : ∃ x, sqNum fs 4 = x := ⟨_, rfl⟩
  rw [hNN] at HN HAM
  have HNB : Hid (AM < 1000000000000000000) := hnb
  clear hS hD4 hH hD hG hWK hNN hAM hz hn hd hnb
  go_enter Tryz.func18, Tryz.ntmps18
  go_wp2_with fail
  refine HF.out.mono ?_
  rintro e u1 ⟨rfl, b1⟩
  obtain ⟨c0, c1, q1, -⟩ := box2 b1
  have HB1 : Hid (Below w.heap.size w u1) := q1
  clear b1 q1
  go_upto_if 14 with fail
  go_cut [4] (fun s wc => s = .int .i64 AM ∧ Below u1.heap.size u1 wc)
  case first =>
    cases H
    · have HA0 : Hid (AM = 0) := HAM.out.symm
      go_wp2_with fail
      go_meet
      exact ⟨by rw [HA0.out], Below.refl _ _⟩
    · have HA0 : Hid (AM = NN) := HAM.out.symm
      go_wp2_with fail
      refine (HN.out _ HB1.out).mono ?_
      rintro e u2 ⟨rfl, b2⟩
      go_wp2_with fail
      go_meet
      exact ⟨by rw [HA0.out], b2⟩
  case rest =>
    obtain ⟨rfl, bc⟩ := hcut
    obtain ⟨d0, d1⟩ := keep2 c0 c1 bc
    have HB2 : Hid (Below w.heap.size w wc) := next HB1.out bc
    clear bc c0 c1 HAM HB1
    go_wp2_with fail
    refine (HT.out _ HB2.out).mono ?_
    rintro e u3 ⟨rfl, b3⟩
    obtain ⟨e0, e1⟩ := keep2 d0 d1 b3
    have HB3 : Hid (Below w.heap.size w u3) := next HB2.out b3
    clear b3 d0 d1
    by_cases h5 : D = [97, 99, 99, 101, 112, 116]
    · subst h5
      have hBt : WK = true := HO.out
      subst hBt
      have HE2 : Hid (S = sqAct fs [97, 99, 99, 101, 112, 116] AM 0) := HE.out
      clear HO HE
      go_wp2_with fail
      refine (HA.out _ [97, 99, 99, 101, 112, 116] AM HB3.out (by decide) HNB.out).mono ?_
      rintro e u4 ⟨rfl, b4⟩
      rw [← HE2.out]
      have HB4 : Hid (Below w.heap.size w u4) := next HB3.out b4
      clear b4
      go_wp2
      go_ret2
      exact ⟨rfl, HB4.out⟩
    by_cases h6 : D = [114, 101, 102, 117, 115, 101]
    · subst h6
      have hBt : WK = true := HO.out
      subst hBt
      have HE2 : Hid (S = sqAct fs [114, 101, 102, 117, 115, 101] AM 0) := HE.out
      clear HO HE
      go_wp2_with fail
      refine (HA.out _ [114, 101, 102, 117, 115, 101] AM HB3.out (by decide) HNB.out).mono ?_
      rintro e u4 ⟨rfl, b4⟩
      rw [← HE2.out]
      have HB4 : Hid (Below w.heap.size w u4) := next HB3.out b4
      clear b4
      go_wp2
      go_ret2
      exact ⟨rfl, HB4.out⟩
    by_cases h7 : D = [114, 117, 108, 101]
    · subst h7
      have hBt : WK = true := HO.out
      subst hBt
      have HE2 : Hid (S = sqAct fs [114, 117, 108, 101] AM 0) := HE.out
      clear HO HE
      go_wp2_with fail
      refine (HA.out _ [114, 117, 108, 101] AM HB3.out (by decide) HNB.out).mono ?_
      rintro e u4 ⟨rfl, b4⟩
      rw [← HE2.out]
      have HB4 : Hid (Below w.heap.size w u4) := next HB3.out b4
      clear b4
      go_wp2
      go_ret2
      exact ⟨rfl, HB4.out⟩
    by_cases h9 : D = [99, 108, 111, 115, 101]
    · subst h9
      have hBt : WK = true := HO.out
      subst hBt
      have HE2 : Hid (S = sqAct fs [99, 108, 111, 115, 101] AM 0) := HE.out
      clear HO HE
      go_wp2_with fail
      refine (HA.out _ [99, 108, 111, 115, 101] AM HB3.out (by decide) HNB.out).mono ?_
      rintro e u4 ⟨rfl, b4⟩
      rw [← HE2.out]
      have HB4 : Hid (Below w.heap.size w u4) := next HB3.out b4
      clear b4
      go_wp2
      go_ret2
      exact ⟨rfl, HB4.out⟩
    have d5 : (D == [97, 99, 99, 101, 112, 116]) = false := by simpa using h5
    have d6 : (D == [114, 101, 102, 117, 115, 101]) = false := by simpa using h6
    have d7 : (D == [114, 117, 108, 101]) = false := by simpa using h7
    have d9 : (D == [99, 108, 111, 115, 101]) = false := by simpa using h9
    have hBt : WK = false := by rw [HO.out, d5, d6, d7, d9]; rfl
    subst hBt
    have HE2 : Hid (S = sqAct fs [] AM 0) := HE.out
    clear HO HE h5 h6 h7 h9
    go_wp2_with fail
    refine (HA.out _ [] AM HB3.out (by decide) HNB.out).mono ?_
    rintro e u4 ⟨rfl, b4⟩
    rw [← HE2.out]
    have HB4 : Hid (Below w.heap.size w u4) := next HB3.out b4
    clear b4
    go_wp2
    go_ret2
    exact ⟨rfl, HB4.out⟩
end Go.Proofs.YtpenkpiffdbdmaaGreatDoor
