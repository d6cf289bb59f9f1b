/- The contracts of Digits: the program's map of currencies, the specification's list. -/
import Derived.Test.YtjnekdihmchlpaaGreatDoorJT0a
import Derived.Maps.OwnSet
import Derived.Maps.OwnOps
import Derived.Outline
namespace Go.Proofs.YtjnekdihmchlpaaGreatDoor
open Go.RowKit Go.Maps

/-- an entry of a map literal, at the operation -/
theorem wpList_insert_own {H : Type} {P : Program} (w : World) {ops : Array Oper} {rest : List Oper} {o : Oper} {a : Act} {Q : Exit → Act → World → Prop}
    (hg : o.guard = none) (m x v : Operand) (t : TypeId) (hop : o.op = Op.insert t m x v)
    (k e : TypeId) (K : Keyed P k) (ht : P.underlying t = some (.map k e)) (R : Value → Option (DataW H × List MemPlace)) (b n : Nat) (D : DataW H)
    (hm : a.eval m = .map (some b)) (hown : w.ownsMap P k R b n D) (hn : n < maxLen) (key val : Value) (kl : Lit) (hx : a.eval x = key) (hv : a.eval v = val) (hkey : keyOf P k key = some kl)
    (d : DataW H) (ps : List MemPlace) (hval : R val = some (d, ps))
    (hK : ∀ w', w'.ownsMap P k R b (n + 1) (D.put kl d) → w.grownBy w' (some b) → wpList P ops Q rest (a.put o.dst undef) w') :
    wpList P ops Q (o :: rest) a w := by
  refine wpList_plain hg fun K' hK' => ?_
  obtain ⟨w', hrun, r1, r2⟩ := hown.update K ht hn hkey hval
  unfold Oper.wp
  simp [execOp, hop, hm, hx, hv, hrun, Result.andThen]
  exact hK' _ _ (hK w' r1 r2)

theorem lawInt : Keyed Tryz.prog 3 := int_keyed Tryz.underlying3

/-- what the program's map of currencies reads as -/
def curD : DataW Unit := (((((((((DataW.map (H := Unit) []).put (.int .i64 36) (.lit (.int .i64 2))).put (.int .i64 392) (.lit (.int .i64 0))).put (.int .i64 756) (.lit (.int .i64 2))).put (.int .i64 826) (.lit (.int .i64 2))).put (.int .i64 840) (.lit (.int .i64 2))).put (.int .i64 978) (.lit (.int .i64 2))).put (.int .i64 48) (.lit (.int .i64 3))).put (.int .i64 414) (.lit (.int .i64 3)))

set_option maxHeartbeats 800000 in
theorem currencies_any (w : World) :
    Calls Tryz.prog 100 #[] w fun e w' => e = .returned (.map (some w.heap.size)) ∧ w'.ownsMap Tryz.prog 3 (plainElem (H := Unit) Tryz.prog 3) w.heap.size 8 curD ∧ Below w.heap.size w w' := by
  have hmm := @run_makeMap Tryz.prog
  have hown0 := World.ownsMap_made w Tryz.prog 3 (plainElem (H := Unit) Tryz.prog 3)
  have hb0 := (Below.refl w.heap.size w).alloc (Nat.le_refl _) (.map #[] 0)
  go_enter Tryz.func100, Tryz.ntmps100
  go_wp2_with (first | (refine wpList_insert_own _ rfl (.tmp 1) (.const (.int .i64 36)) (.const (.int .i64 2)) 142 rfl 3 3 lawInt Tryz.underlying142 _ _ _ _ rfl hown0 (by decide) _ _ _ rfl rfl (keyOf_int_mk Tryz.underlying3 (by decide)) _ [] (plainElem_int Tryz.underlying3 (by decide)) ?_; intro w1 hown1 hg1) | (refine wpList_insert_own _ rfl (.tmp 1) (.const (.int .i64 392)) (.const (.int .i64 0)) 142 rfl 3 3 lawInt Tryz.underlying142 _ _ _ _ rfl hown1 (by decide) _ _ _ rfl rfl (keyOf_int_mk Tryz.underlying3 (by decide)) _ [] (plainElem_int Tryz.underlying3 (by decide)) ?_; intro w2 hown2 hg2) | (refine wpList_insert_own _ rfl (.tmp 1) (.const (.int .i64 756)) (.const (.int .i64 2)) 142 rfl 3 3 lawInt Tryz.underlying142 _ _ _ _ rfl hown2 (by decide) _ _ _ rfl rfl (keyOf_int_mk Tryz.underlying3 (by decide)) _ [] (plainElem_int Tryz.underlying3 (by decide)) ?_; intro w3 hown3 hg3) | (refine wpList_insert_own _ rfl (.tmp 1) (.const (.int .i64 826)) (.const (.int .i64 2)) 142 rfl 3 3 lawInt Tryz.underlying142 _ _ _ _ rfl hown3 (by decide) _ _ _ rfl rfl (keyOf_int_mk Tryz.underlying3 (by decide)) _ [] (plainElem_int Tryz.underlying3 (by decide)) ?_; intro w4 hown4 hg4) | (refine wpList_insert_own _ rfl (.tmp 1) (.const (.int .i64 840)) (.const (.int .i64 2)) 142 rfl 3 3 lawInt Tryz.underlying142 _ _ _ _ rfl hown4 (by decide) _ _ _ rfl rfl (keyOf_int_mk Tryz.underlying3 (by decide)) _ [] (plainElem_int Tryz.underlying3 (by decide)) ?_; intro w5 hown5 hg5) | (refine wpList_insert_own _ rfl (.tmp 1) (.const (.int .i64 978)) (.const (.int .i64 2)) 142 rfl 3 3 lawInt Tryz.underlying142 _ _ _ _ rfl hown5 (by decide) _ _ _ rfl rfl (keyOf_int_mk Tryz.underlying3 (by decide)) _ [] (plainElem_int Tryz.underlying3 (by decide)) ?_; intro w6 hown6 hg6) | (refine wpList_insert_own _ rfl (.tmp 1) (.const (.int .i64 48)) (.const (.int .i64 3)) 142 rfl 3 3 lawInt Tryz.underlying142 _ _ _ _ rfl hown6 (by decide) _ _ _ rfl rfl (keyOf_int_mk Tryz.underlying3 (by decide)) _ [] (plainElem_int Tryz.underlying3 (by decide)) ?_; intro w7 hown7 hg7) | (refine wpList_insert_own _ rfl (.tmp 1) (.const (.int .i64 414)) (.const (.int .i64 3)) 142 rfl 3 3 lawInt Tryz.underlying142 _ _ _ _ rfl hown7 (by decide) _ _ _ rfl rfl (keyOf_int_mk Tryz.underlying3 (by decide)) _ [] (plainElem_int Tryz.underlying3 (by decide)) ?_; intro w8 hown8 hg8))
  go_ret
  refine ⟨rfl, hown8, ?_⟩
  have gr : ∀ {a b : World}, Below w.heap.size w a → a.grownBy b (some w.heap.size) → Below w.heap.size w b := fun h g => h.grown g h.size (fun k hk => by cases hk; exact Nat.le_refl _)
  exact gr (gr (gr (gr (gr (gr (gr (gr hb0 hg1) hg2) hg3) hg4) hg5) hg6) hg7) hg8

/-- how many digits a currency has behind the point; -1 for no currency -/
def digs (cur : Int) : Int := if cur = 36 then 2 else if cur = 392 then 0 else if cur = 756 then 2 else if cur = 826 then 2 else if cur = 840 then 2 else if cur = 978 then 2 else if cur = 48 then 3 else if cur = 414 then 3 else -1
def isCur (cur : Int) : Bool := cur == 36 || cur == 392 || cur == 756 || cur == 826 || cur == 840 || cur == 978 || cur == 48 || cur == 414

theorem cur_cases {cur : Int} (h : isCur cur = true) : cur = 36 ∨ cur = 392 ∨ cur = 756 ∨ cur = 826 ∨ cur = 840 ∨ cur = 978 ∨ cur = 48 ∨ cur = 414 := by
  simp [isCur] at h; omega
theorem cur_none {cur : Int} (h : isCur cur = false) : cur ≠ 36 ∧ cur ≠ 392 ∧ cur ≠ 756 ∧ cur ≠ 826 ∧ cur ≠ 840 ∧ cur ≠ 978 ∧ cur ≠ 48 ∧ cur ≠ 414 := by
  simp [isCur] at h; omega
theorem digs_none {cur : Int} (h : isCur cur = false) : digs cur = -1 := by
  have := cur_none h; simp [digs, this]
theorem digs_bd (cur : Int) : -1 ≤ digs cur ∧ digs cur ≤ 3 := by
  unfold digs; repeat' split
  all_goals omega
theorem digs_cur {cur : Int} (h : isCur cur = true) : 0 ≤ digs cur := by
  rcases cur_cases h with rfl | rfl | rfl | rfl | rfl | rfl | rfl | rfl <;> decide
theorem isCur_iff (cur : Int) : isCur cur = decide (0 ≤ digs cur) := by
  cases h : isCur cur
  · simp [digs_none h]
  · simp [digs_cur h]

theorem curD_has_yes {cur : Int} (h : isCur cur = true) : Maps.has curD (.int .i64 cur) = true := by
  rcases cur_cases h with rfl | rfl | rfl | rfl | rfl | rfl | rfl | rfl <;> decide
theorem curD_at {cur : Int} (h : isCur cur = true) : curD.atKey (.int .i64 cur) (.lit (.int .i64 0)) = .lit (.int .i64 (digs cur)) := by
  rcases cur_cases h with rfl | rfl | rfl | rfl | rfl | rfl | rfl | rfl <;> rfl
theorem lit_ne {a b : Int} (h : a ≠ b) : Lit.int .i64 a ≠ Lit.int .i64 b := fun e => h (by injection e)
theorem curD_has_no {cur : Int} (h : isCur cur = false) : Maps.has curD (.int .i64 cur) = false := by
  have g := cur_none h
  unfold curD
  rw [Maps.has_put_other (lit_ne (by omega)), Maps.has_put_other (lit_ne (by omega)), Maps.has_put_other (lit_ne (by omega)), Maps.has_put_other (lit_ne (by omega)),
    Maps.has_put_other (lit_ne (by omega)), Maps.has_put_other (lit_ne (by omega)), Maps.has_put_other (lit_ne (by omega)), Maps.has_put_other (lit_ne (by omega))]
  rfl

theorem zero3 (w : World) : (zeroValue 3).run Tryz.prog w = .ok (.int .i64 0) w := by kernel_rfl

set_option maxHeartbeats 800000 in
theorem iDigits_any (cur : Int) (w : World) (hw : (Lit.int .i64 cur).wf = true) :
    Calls Tryz.prog 51 #[.int .i64 cur] w fun e w' => e = .returned (.int .i64 (digs cur)) ∧ Below w.heap.size w w' := by
  cases h : isCur cur
  · have hh := curD_has_no h
    have D : Hid (digs cur = -1) := digs_none h
    clear h
    go_enter Tryz.func51, Tryz.ntmps51
    go_wp2_with (first | (go_at_call 100; refine (currencies_any _).mono ?_; rintro e w1 ⟨rfl, hown, hb⟩) | (at_lookup; refine wpList_lookup_own_ok_int _ rfl _ _ 142 rfl 3 3 .i64 lawInt Tryz.underlying142 Tryz.underlying3 (zero3 _) _ 8 curD rfl hown _ _ rfl (keyOf_int_mk Tryz.underlying3 hw) ?_; intro c hat hwc))
    go_ret
    exact ⟨one_int D.out.symm, hb⟩
  · have hh := curD_has_yes h
    have D : Hid (curD.atKey (.int .i64 cur) (.lit (.int .i64 0)) = .lit (.int .i64 (digs cur))) := curD_at h
    clear h
    go_enter Tryz.func51, Tryz.ntmps51
    go_wp2_with (first | (go_at_call 100; refine (currencies_any _).mono ?_; rintro e w1 ⟨rfl, hown, hb⟩) | (at_lookup; refine wpList_lookup_own_ok_int _ rfl _ _ 142 rfl 3 3 .i64 lawInt Tryz.underlying142 Tryz.underlying3 (zero3 _) _ 8 curD rfl hown _ _ rfl (keyOf_int_mk Tryz.underlying3 hw) ?_; intro c hat hwc; have HC : Hid (curD.atKey (.int .i64 cur) (.lit (.int .i64 0)) = .lit (.int .i64 c)) := hat; clear hat))
    go_ret
    refine ⟨one_int ?_, hb⟩
    have e := HC.out.symm.trans D.out
    injection e with e1
    injection e1

/-- the specification's lists -/
def curL : List Int := [36, 392, 756, 826, 840, 978, 48, 414]
def digL : List Int := [2, 0, 2, 2, 2, 2, 3, 3]

theorem below8 {k : Nat} (h : k < 8) : k = 0 ∨ k = 1 ∨ k = 2 ∨ k = 3 ∨ k = 4 ∨ k = 5 ∨ k = 6 ∨ k = 7 := by omega
theorem digL_at {cur : Int} {k : Nat} (hk : k < 8) (h : curL.getD k 0 = cur) : digL.getD k 0 = digs cur := by
  subst h
  rcases below8 hk with rfl | rfl | rfl | rfl | rfl | rfl | rfl | rfl <;> decide
theorem digL_none {cur : Int} (h : ∀ j, j < 8 → curL.getD j 0 ≠ cur) : digs cur = -1 := by
  have h0 := h 0 (by omega); have h1 := h 1 (by omega); have h2 := h 2 (by omega); have h3 := h 3 (by omega)
  have h4 := h 4 (by omega); have h5 := h 5 (by omega); have h6 := h 6 (by omega); have h7 := h 7 (by omega)
  simp [curL] at h0 h1 h2 h3 h4 h5 h6 h7
  simp [digs]; omega

set_option maxHeartbeats 400000 in
theorem sCurrencies_any (w : World) :
    Calls Tryz.prog 109 #[] w fun e w' => e = .returned (.slice (some ⟨w.heap.size, 0, none⟩) 8 8) ∧ w' = w.alloc (.cells #[.int .i64 36, .int .i64 392, .int .i64 756, .int .i64 826, .int .i64 840, .int .i64 978, .int .i64 48, .int .i64 414] 3) := by
  go_enter Tryz.func109, Tryz.ntmps109
  go_wp2
  go_ret
  exact ⟨rfl, rfl⟩

set_option maxHeartbeats 800000 in
theorem sDigits_any (cur : Int) (w : World) :
    Calls Tryz.prog 62 #[.int .i64 cur] w fun e w' => e = .returned (.int .i64 (digs cur)) ∧ Below w.heap.size w w' := by
  have hcA : ∀ k, k < 8 → ((w.alloc (.cells #[.int .i64 2, .int .i64 0, .int .i64 2, .int .i64 2, .int .i64 2, .int .i64 2, .int .i64 3, .int .i64 3] 3)).alloc (.cells #[.int .i64 36, .int .i64 392, .int .i64 756, .int .i64 826, .int .i64 840, .int .i64 978, .int .i64 48, .int .i64 414] 3)).cell? ⟨w.heap.size + 1, k, none⟩ = some (.int .i64 (curL.getD k 0)) := by
    intro k hk
    rcases below8 hk with rfl | rfl | rfl | rfl | rfl | rfl | rfl | rfl <;> simp [curL]
  have hcB : ∀ k, k < 8 → ((w.alloc (.cells #[.int .i64 2, .int .i64 0, .int .i64 2, .int .i64 2, .int .i64 2, .int .i64 2, .int .i64 3, .int .i64 3] 3)).alloc (.cells #[.int .i64 36, .int .i64 392, .int .i64 756, .int .i64 826, .int .i64 840, .int .i64 978, .int .i64 48, .int .i64 414] 3)).cell? ⟨w.heap.size, k, none⟩ = some (.int .i64 (digL.getD k 0)) := by
    intro k hk
    rcases below8 hk with rfl | rfl | rfl | rfl | rfl | rfl | rfl | rfl <;> simp [digL]
  have hbel : Below w.heap.size w ((w.alloc (.cells #[.int .i64 2, .int .i64 0, .int .i64 2, .int .i64 2, .int .i64 2, .int .i64 2, .int .i64 3, .int .i64 3] 3)).alloc (.cells #[.int .i64 36, .int .i64 392, .int .i64 756, .int .i64 826, .int .i64 840, .int .i64 978, .int .i64 48, .int .i64 414] 3)) := ((Below.refl _ _).alloc (Nat.le_refl _) _).alloc (by simp) _
  go_enter Tryz.func62, Tryz.ntmps62
  go_wp2_with (go_at_call 109; refine (sCurrencies_any _).mono ?_; rintro e w' ⟨rfl, rfl⟩)
  go_loop [5] (fun i => ∃ k : Nat, k ≤ 8 ∧ i = .int .i64 k ∧ ∀ j, j < k → curL.getD j 0 ≠ cur) (fun i => 8 - (intOf i).toNat)
  case atStart => exact ⟨0, by omega, rfl, fun j hj => by omega⟩
  case round =>
    obtain ⟨k, hk, rfl, hno⟩ := hrel
    have HN : Hid (∀ j, j < k → curL.getD j 0 ≠ cur) := hno
    clear hno
    by_cases hlt : k < 8
    · have a1 := hcA k hlt
      have a2 := hcB k hlt
      clear hcA hcB
      obtain ⟨c, hc⟩ : ∃ c, curL.getD k 0 = c := ⟨_, rfl⟩
      obtain ⟨d, hd⟩ : ∃ d, digL.getD k 0 = d := ⟨_, rfl⟩
      rw [hc] at a1
      rw [hd] at a2
      have HC : Hid (curL.getD k 0 = c) := hc
      have HD : Hid (digL.getD k 0 = d) := hd
      clear hc hd
      cases he : (c == cur)
      · have HE : Hid (curL.getD k 0 ≠ cur) := by rw [HC.out]; simpa [Hid] using he
        go_wp2
        go_round
        case rel => exact ⟨k + 1, by omega, by go_num, fun j hj => by rcases (show j < k ∨ j = k from by omega) with h | rfl; exact HN.out j h; exact HE.out⟩
        case measure => simp [intOf]; omega
      · have HE : Hid (curL.getD k 0 = cur) := by rw [HC.out]; simpa [Hid] using he
        go_wp2
        go_ret
        exact ⟨one_int (HD.out.symm.trans (digL_at hlt HE.out)), hbel⟩
    · have : k = 8 := by omega
      subst this
      clear hcA hcB
      go_wp2
      go_ret
      exact ⟨one_int (digL_none HN.out).symm, hbel⟩

end Go.Proofs.YtjnekdihmchlpaaGreatDoor
