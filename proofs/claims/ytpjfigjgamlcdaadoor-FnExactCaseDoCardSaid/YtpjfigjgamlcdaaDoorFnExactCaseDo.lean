/- Proved: at every case, every act, every int and every list of ints (of at most 1048576; a longer one passes by the law's own first test) the program's CaseDo answers as the specification's, all three results; it leaves its arguments as they were and keeps nothing of them; its entries own their memory, behind another call too; and it leaves the table of the steps' days as it was. What it takes: that table holds what the program's text lays into it (the card ties that to the program). -/
import Derived.Test.YtpjfigjgamlcdaaDoorJFnExactCaseDo0a
import Derived.Test.YtpjfigjgamlcdaaDoorKFnExactCaseDoDoReg3
import Derived.Test.YtpjfigjgamlcdaaDoorKFnExactCaseDoDoReg5
import Derived.Test.YtpjfigjgamlcdaaDoorKFnExactCaseDoDoReg22
import Derived.Test.YtpjfigjgamlcdaaDoorJFnExactCaseDo10a
import Derived.Test.YtpjfigjgamlcdaaDoorJFnExactCaseDo1a
import Derived.Test.YtpjfigjgamlcdaaDoorKFnExactCaseDoSDo6
import Derived.Test.YtpjfigjgamlcdaaDoorKFnExactCaseDoICaseDo
import Derived.Test.YtpjfigjgamlcdaaDoorKFnExactCaseDoCLaw
namespace Go.Proofs.YtpjfigjgamlcdaaDoor
open Go.RowKit
set_option maxRecDepth 100000

end Go.Proofs.YtpjfigjgamlcdaaDoor


namespace Go.Proofs.YtpjfigjgamlcdaaDoor
open Go.RowKit

/-- the first j places hold f, the others what they held -/
def fillTo (f : Nat → Int) (xs : List Value) (j : Nat) : List Value := ((List.range j).map fun i => Value.int .i64 (f i)) ++ xs.drop j
theorem fillTo_zero (f : Nat → Int) (xs : List Value) : fillTo f xs 0 = xs := by simp [fillTo]
theorem fillTo_all (f : Nat → Int) (xs : List Value) : fillTo f xs xs.length = (List.range xs.length).map fun i => Value.int .i64 (f i) := by simp [fillTo]
theorem fillTo_at (f : Nat → Int) (xs : List Value) (j : Nat) : (fillTo f xs j)[j]? = xs[j]? := by simp [fillTo, List.getElem?_append]
theorem fillTo_succ (f : Nat → Int) (xs : List Value) (j : Nat) (h : j < xs.length) : fillTo f xs (j + 1) = (fillTo f xs j).set j (.int .i64 (f j)) := by
  unfold fillTo
  rw [List.range_succ, List.map_append, List.set_append_right _ _ (by simp)]
  simp
  rw [List.drop_eq_getElem_cons h, List.set_cons_zero]

/-- the numbers from k on -/
def cnt (k : Int) (n : Nat) : List Int := (List.range n).map fun i : Nat => k + (i : Int)
theorem cnt_len (k : Int) (n : Nat) : (cnt k n).length = n := by simp [cnt]
theorem cnt_at (k : Int) (n i : Nat) (h : i < n) : (cnt k n).getD i 0 = k + (i : Int) := by simp [cnt, List.getD_eq_getElem?_getD, h]

theorem fill_cnt (k : Int) (xs : List Value) (n : Nat) (h : xs.length = n) : fillTo (fun i : Nat => k + (i : Int)) xs n = (cnt k n).map (Value.int .i64) := by
  subst h; rw [fillTo_all]; simp [cnt]

theorem own_below {w w' : World} {base n : Nat} {v : Value} {xs : List Value} (h : w.ownsRow base 3 1 v n xs) (hb : Below w.heap.size w w') : w'.ownsRow base 3 1 v n xs := by
  obtain ⟨h1, h2⟩ := h
  refine ⟨h1, ?_⟩
  rcases h2 with h2 | ⟨g, cap, cur, a, b, c, d⟩
  · exact .inl h2
  · have hlt : g < w.heap.size := by
      by_cases e : g < w.heap.size
      · exact e
      · rw [Array.getElem?_eq_none (by omega)] at c; cases c
    exact .inr ⟨g, cap, cur, a, b, (hb.block g hlt).trans c, d⟩
set_option maxHeartbeats 800000 in
theorem markIntS_any (ao : Option Addr) (cap n base : Nat) (k : Int) (xs : List Value) (w : World) (ho : w.ownsRow base 3 1 (.slice ao n cap) n xs) (hn : n ≤ 1099511627776) (k1 : 0 ≤ k) (k2 : k ≤ 1099511627776) :
    Calls Tryd.prog 32 #[.slice ao n cap, .int .i64 k] w fun e w' => e = .returned (.int .i64 (k + n)) ∧
      w'.ownsRow base 3 1 (.slice ao n cap) n ((cnt k n).map (Value.int .i64)) ∧ w.grownBy w' (Value.slice ao n cap).ownBlock := by
  have hxl : xs.length = n := by simpa using ho.1
  rcases ho.2 with ⟨hv, h0⟩ | ⟨g, cap', cur, hv, hrest⟩
  · obtain ⟨rfl, rfl, rfl⟩ : ao = none ∧ n = 0 ∧ cap = 0 := by simpa using hv
    clear hv h0
    go_enter Tryd.func32, Tryd.ntmps32
    go_wp2
    refine wp_loop_rounds 1 ?_
    rw [rounds_succ]
    go_wp2
    go_ret
    exact ⟨one_int (by simp), World.ownsRow_nil _ _ _ _, World.grownBy.refl _ _⟩
  · obtain ⟨rfl, rfl⟩ : ao = some ⟨g, 0, none⟩ ∧ cap = cap' := by simpa using hv
    clear hv hrest
    go_enter Tryd.func32, Tryd.ntmps32
    go_wp2
    go_loopw [1, 5] (fun c i wr => ∃ j : Nat, j ≤ n ∧ i = .int .i64 j ∧ c = .int .i64 (k + j) ∧ wr.ownsRow base 3 1 (.slice (some ⟨g, 0, none⟩) n cap) n (fillTo (fun i : Nat => k + (i : Int)) xs j) ∧ w.grownBy wr (some g)) (fun _ i _ => n - (intOf i).toNat)
    case atStart => exact ⟨0, Nat.zero_le _, rfl, by simp, by rw [fillTo_zero]; exact ho, World.grownBy.refl _ _⟩
    case round =>
      obtain ⟨j, hj, rfl, rfl, hor, hgr⟩ := hrel
      clear ho
      by_cases hlt : j < n
      · have hji : (j : Int) < (n : Int) := by omega
        have c2 : ∃ v, wr.cell? ⟨g, j, none⟩ = some v := by rw [hor.cellAt j (by omega), fillTo_at]; exact ⟨_, List.getElem?_eq_getElem (by omega)⟩
        obtain ⟨old, c2⟩ := c2
        have c3 : wr.frozen? ⟨g, j, none⟩ = false := hor.frozenAt j
        have R := hor.stored j (.int .i64 (k + j))
        rw [show (fillTo (fun i : Nat => k + (i : Int)) xs j).set j (.int .i64 (k + (j : Int))) = fillTo (fun i : Nat => k + (i : Int)) xs (j + 1) from (fillTo_succ _ _ j (by omega)).symm] at R
        have HR : Hid _ := R.1
        have HG : Hid (w.grownBy (wr.setCell ⟨g, j, none⟩ (.int .i64 (k + j))) (some g)) := hgr.trans R.2
        clear R hor hgr
        go_wp2
        go_roundw
        case rel => exact ⟨j + 1, by omega, by go_num, by congr 1; omega, HR.out, HG.out⟩
        case measure => simp [intOf]; omega
      · have hjn : j = n := by omega
        subst hjn
        rw [fill_cnt k xs j hxl] at hor
        have HO : Hid _ := hor
        clear hor
        go_wp2
        go_ret
        exact ⟨rfl, HO.out, hgr⟩


end Go.Proofs.YtpjfigjgamlcdaaDoor

namespace Go.Proofs.YtpjfigjgamlcdaaDoor.fnExactCaseDo
open Go.ChangeShapes Go.WideShapes Go.ChangeAt Go.RowKit
set_option maxRecDepth 100000

theorem varTab {w : World} (h : laidMet Tryd.prog Rows.fnExactCaseDoRow.laid w) : StepTab w := step_head h
theorem tab_lt {w : World} (h : StepTab w) : 0 < w.heap.size := World.block_lt_of_cell? w _ (h.cell 0 (by decide))
theorem nextE_len (c : Cs) (a : Ac) : (nextE c a).length ≤ 2 := by
  have h1 : ∀ c x, (toIss c x).length ≤ 1 := fun c x => by unfold toIss; split <;> simp
  have h2 : ∀ c x, (fromIss c x).length ≤ 1 := fun c x => by unfold fromIss; split <;> simp
  have h3 : ∀ c x, (ruleE c x).length ≤ 2 := fun c x => by unfold ruleE; have := h1 c x; simp; omega
  unfold nextE
  repeat' split
  · have := h1 c a.am; omega
  · have := h2 c a.am; omega
  · have := h1 c c.cl; omega
  · exact h3 _ _
  · unfold expireE
    repeat' split
    · simp
    · have := h1 c c.cl; omega
    · exact h3 _ _
    · simp
  · simp
theorem act3 {p0 p1 p2 p3 p4 p5 p6 p7 p8 p9 p10 p11 q0 q1 q2 : Prop} (h : p0 ∧ p1 ∧ p2 ∧ p3 ∧ p4 ∧ p5 ∧ p6 ∧ p7 ∧ p8 ∧ p9 ∧ p10 ∧ p11 ∧ q0 ∧ q1 ∧ q2) : q0 ∧ q1 ∧ q2 := by obtain ⟨-, -, -, -, -, -, -, -, -, -, -, -, h⟩ := h; exact h
theorem doE_len (c : Cs) (a : Ac) (t : Int) (zs : List Int) : (doE c a t zs).length ≤ 2 := by
  unfold doE
  split
  · exact nextE_len c a
  · simp

set_option maxHeartbeats 25600000 in
theorem walk (c : Cs) (a : Ac) (t : Int) (a3 : Option Addr) (len3 cap3 : Nat) (z3 : List Int) (w : World) (w0 : csBd c) (_w1 : acBd a) (_w2 : (Lit.int .i64 t).wf = true) (w3 : IsRow .i64 w a3 len3 cap3 z3) (hL : laidMet Tryd.prog Rows.fnExactCaseDoRow.laid w) (_hsh : w.ShapedOpen Tryd.prog) :
    Calls Tryd.prog 8 #[cv c, av a, .int .i64 t, .slice a3 len3 cap3] w fun e w' => e = .returned (.bool true) ∧ Below w.heap.size w w' := by
  have HT : Hid (StepTab w) := varTab hL
  obtain ⟨hl, hz⟩ := ints_of_row w3
  clear w3 hL
  generalize z3.take len3 = zs at hl hz
  subst hl
  have HTC : Hid (∀ u, Calls Tryd.prog 26 #[cv c] u fun e w' => e = .returned (cv c) ∧ Below u.heap.size u w') := fun u => toCase_any c u
  have HTA : Hid (∀ u, Calls Tryd.prog 27 #[av a] u fun e w' => e = .returned (av a) ∧ Below u.heap.size u w') := fun u => toAct_any a u
  by_cases hbig : (1048576 : Int) < (zs.length : Int)
  · obtain ⟨k, m, r⟩ := a
    obtain ⟨iss, acq, cur, am, st, rsn, cl, bk, fee, cop, sta, due⟩ := c
    unfold cv av
    clear HTC HTA HT
    go_enter Tryd.func8, Tryd.ntmps8
    go_wp2
    go_ret
    exact ⟨rfl, by go_grown⟩
  have hn : zs.length ≤ 1048576 := by omega
  have HSD : Hid (∀ (u : World) (g : Nat), IntsAt u (some ⟨g, 0, none⟩) zs → Calls Tryd.prog 13 #[cv c, av a, .int .i64 t, .slice (some ⟨g, 0, none⟩) zs.length zs.length] u (DoR u (doC c a t zs) (doE c a t zs) (doV c a t zs))) := fun u g h => sDo_any c a t _ _ zs u h (by omega)
  have HID : Hid (∀ (u : World) (g : Nat), IntsAt u (some ⟨g, 0, none⟩) zs → StepTab u → Calls Tryd.prog 12 #[cv c, av a, .int .i64 t, .slice (some ⟨g, 0, none⟩) zs.length zs.length] u (DoR u (doC c a t zs) (doE c a t zs) (doV c a t zs))) := fun u g h ht => iDo_any c a t _ _ zs u h (by omega) ht (tab_lt ht) w0.2.2.1
  have HEL : Hid ((doE c a t zs).length ≤ 2) := doE_len c a t zs
  obtain ⟨n, hn1⟩ : ∃ n, doC c a t zs = n := ⟨_, rfl⟩
  obtain ⟨E, hE1⟩ : ∃ E, doE c a t zs = E := ⟨_, rfl⟩
  obtain ⟨rr, hr1⟩ : ∃ rr, doV c a t zs = rr := ⟨_, rfl⟩
  rw [hn1, hE1, hr1] at HSD HID
  rw [hE1] at HEL
  have HQ : Hid (∀ u, Calls Tryd.prog 29 #[cv n, cv n] u fun e w' => e = .returned (.bool true) ∧ Below u.heap.size u w') := fun u => eqCase_same n u
  obtain ⟨W, hW⟩ : ∃ W, W = (w.alloc (.cells #[.int .i64 c.iss, .int .i64 c.acq, .int .i64 c.cur, .int .i64 c.am, .int .i64 c.st, .int .i64 c.rsn, .int .i64 c.cl, .int .i64 c.bk, .int .i64 c.fee, .bool c.cop, .int .i64 c.sta, .int .i64 c.due] 46)).alloc (.cells #[.int .i64 a.kind, .int .i64 a.am, .int .i64 a.rsn] 47) := ⟨_, rfl⟩
  have HLA : Hid (LA w.heap.size c a W) := by rw [Hid, hW]; exact ⟨(CB.new w c _).below ((Below.refl _ _).alloc (Nat.le_refl _) _), by simp [go_sem], by simp [go_sem], by simp [go_sem]⟩
  have HBW : Hid (Below w.heap.size w W) := by rw [Hid, hW]; go_grown
  have HZ : Hid (IntsAt W a3 zs) := hz.below HBW.out
  have HTW : Hid (StepTab W) := HT.out.below HBW.out
  have HSW : Hid (W.heap.size = w.heap.size + 1 + 1) := by rw [Hid, hW]; simp
  clear hn1 hE1 hr1 w0 hz HT
  obtain ⟨n0, n1, n2, n3, n4, n5, n6, n7, n8, n9, n10, n11⟩ := n
  obtain ⟨k, m, r⟩ := a
  obtain ⟨iss, acq, cur, am, st, rsn, cl, bk, fee, cop, sta, due⟩ := c
  unfold cv at HTC HSD HID HQ ⊢
  unfold av at HTA HSD HID ⊢
  simp only at hW HTC HTA HSD HID HQ ⊢
  have HW : Hid _ := hW
  clear hW
  go_enter Tryd.func8, Tryd.ntmps8
  go_upto_region 3 with fail
  rw [← HW.out]
  clear HW
  have HALL : Hid (∀ u, Below W.heap.size W u → u.cell? ⟨w.heap.size, 0, none⟩ = some (.int .i64 iss) ∧ u.cell? ⟨w.heap.size, 1, none⟩ = some (.int .i64 acq) ∧ u.cell? ⟨w.heap.size, 2, none⟩ = some (.int .i64 cur) ∧ u.cell? ⟨w.heap.size, 3, none⟩ = some (.int .i64 am) ∧ u.cell? ⟨w.heap.size, 4, none⟩ = some (.int .i64 st) ∧ u.cell? ⟨w.heap.size, 5, none⟩ = some (.int .i64 rsn) ∧ u.cell? ⟨w.heap.size, 6, none⟩ = some (.int .i64 cl) ∧ u.cell? ⟨w.heap.size, 7, none⟩ = some (.int .i64 bk) ∧ u.cell? ⟨w.heap.size, 8, none⟩ = some (.int .i64 fee) ∧ u.cell? ⟨w.heap.size, 9, none⟩ = some (.bool cop) ∧ u.cell? ⟨w.heap.size, 10, none⟩ = some (.int .i64 sta) ∧ u.cell? ⟨w.heap.size, 11, none⟩ = some (.int .i64 due) ∧ u.cell? ⟨w.heap.size + 1, 0, none⟩ = some (.int .i64 k) ∧ u.cell? ⟨w.heap.size + 1, 1, none⟩ = some (.int .i64 m) ∧ u.cell? ⟨w.heap.size + 1, 2, none⟩ = some (.int .i64 r)) := fun u hu => LA.all (HLA.out.below hu)
  have b0 : Below W.heap.size W W := Below.refl _ _
  have z : ZC W W none (fun _ => True) := ZC.start (fun _ _ => trivial)
  go_cut [9, 10, 11] (fun v6 v7 v8 wc => ∃ B ao k, v6 = .pointer (some ⟨B, 0, none⟩) ∧ v7 = .slice ao E.length k ∧ v8 = .int .i64 rr ∧ LX W ⟨n0, n1, n2, n3, n4, n5, n6, n7, n8, n9, n10, n11⟩ E B ao k wc)
  case first => exact rDoReg3 hn HTC HTA HZ HSD HALL b0 z _ _ ‹_› ‹_›
  case rest =>
    obtain ⟨B2, a2, k2, rfl, rfl, rfl, P2⟩ := hcut
    obtain ⟨u2, hu⟩ : ∃ x, x = wc := ⟨_, rfl⟩
    subst hu
    have HP2 : Hid (LY W.heap.size ⟨n0, n1, n2, n3, n4, n5, n6, n7, n8, n9, n10, n11⟩ E B2 a2 k2 u2) := P2.ly
    have HX2 : Hid (∀ x, (Value.slice a2 E.length k2).ownBlock = some x → x < u2.heap.size) := fun x hx => (P2.own.lt x hx).2
    have HBB : Hid (B2 < u2.heap.size) := P2.cb.lt
    have HB : Hid (Below w.heap.size w u2) := next HBW.out P2.bel
    have HW2 : Hid (Below W.heap.size W u2) := P2.bel
    clear P2 z
    go_wp2_with fail
    refine (toIntS_any _ _ zs _ (HZ.out.below HW2.out) hn).mono ?_
    rintro e u3 ⟨rfl, o3, b3⟩
    obtain ⟨g3, hg3⟩ : ∃ g, g = u2.heap.size := ⟨_, rfl⟩
    rw [← hg3] at o3 ⊢
    have HO3 : Hid (u3.ownsRow g3 3 1 (.slice (some ⟨g3, 0, none⟩) zs.length zs.length) zs.length (zs.map (Value.int .i64))) := o3
    have HG3 : Hid (g3 < u3.heap.size) := (o3.lt g3 rfl).2
    have HX2' : Hid (∀ x, (Value.slice a2 E.length k2).ownBlock = some x → x < g3) := by rw [hg3]; exact HX2.out
    have HBB' : Hid (B2 < g3) := by rw [hg3]; exact HBB.out
    have HGW : Hid (W.heap.size ≤ g3) := by have := HW2.out.size; rw [Hid, hg3]; exact this
    have HG0 : Hid (w.heap.size + 1 < g3) := by have := HSW.out; have := HW2.out.size; rw [Hid, hg3]; omega
    replace HP2 : Hid (LY W.heap.size ⟨n0, n1, n2, n3, n4, n5, n6, n7, n8, n9, n10, n11⟩ E B2 a2 k2 u3) := HP2.out.below b3
    replace HB : Hid (Below w.heap.size w u3) := next HB.out b3
    replace HW2 : Hid (Below W.heap.size W u3) := next HW2.out b3
    have HLA3 : Hid (LA w.heap.size ⟨iss, acq, cur, am, st, rsn, cl, bk, fee, cop, sta, due⟩ ⟨k, m, r⟩ u3) := HLA.out.below HW2.out
    clear o3 b3 hg3 HX2 HBB
    go_upto_region 5 with fail
    have HALL3 : Hid (∀ u, Below u3.heap.size u3 u → u.cell? ⟨w.heap.size, 0, none⟩ = some (.int .i64 iss) ∧ u.cell? ⟨w.heap.size, 1, none⟩ = some (.int .i64 acq) ∧ u.cell? ⟨w.heap.size, 2, none⟩ = some (.int .i64 cur) ∧ u.cell? ⟨w.heap.size, 3, none⟩ = some (.int .i64 am) ∧ u.cell? ⟨w.heap.size, 4, none⟩ = some (.int .i64 st) ∧ u.cell? ⟨w.heap.size, 5, none⟩ = some (.int .i64 rsn) ∧ u.cell? ⟨w.heap.size, 6, none⟩ = some (.int .i64 cl) ∧ u.cell? ⟨w.heap.size, 7, none⟩ = some (.int .i64 bk) ∧ u.cell? ⟨w.heap.size, 8, none⟩ = some (.int .i64 fee) ∧ u.cell? ⟨w.heap.size, 9, none⟩ = some (.bool cop) ∧ u.cell? ⟨w.heap.size, 10, none⟩ = some (.int .i64 sta) ∧ u.cell? ⟨w.heap.size, 11, none⟩ = some (.int .i64 due) ∧ u.cell? ⟨w.heap.size + 1, 0, none⟩ = some (.int .i64 k) ∧ u.cell? ⟨w.heap.size + 1, 1, none⟩ = some (.int .i64 m) ∧ u.cell? ⟨w.heap.size + 1, 2, none⟩ = some (.int .i64 r)) := fun u hu => LA.all (HLA3.out.below hu)
    have b0 : Below u3.heap.size u3 u3 := Below.refl _ _
    have z : ZC u3 u3 none (fun v => IntsAt v (some ⟨g3, 0, none⟩) zs) := ZC.start (fun v hv => (ints_of_own HO3.out).below hv)
    go_cut [13, 14, 15] (fun v6 v7 v8 wc => ∃ B ao k, v6 = .pointer (some ⟨B, 0, none⟩) ∧ v7 = .slice ao E.length k ∧ v8 = .int .i64 rr ∧ LX u3 ⟨n0, n1, n2, n3, n4, n5, n6, n7, n8, n9, n10, n11⟩ E B ao k wc)
    case first => exact rDoReg5 HTC HTA HTW HW2 HID HALL3 b0 z _ _ ‹_› ‹_›
    case rest =>
      obtain ⟨B4, a4, k4, rfl, rfl, rfl, P4⟩ := hcut
      obtain ⟨u4, hu⟩ : ∃ x, x = wc := ⟨_, rfl⟩
      subst hu
      have HP4 : Hid (LY u3.heap.size ⟨n0, n1, n2, n3, n4, n5, n6, n7, n8, n9, n10, n11⟩ E B4 a4 k4 u4) := P4.ly
      have HX4 : Hid (∀ x, (Value.slice a4 E.length k4).ownBlock = some x → u3.heap.size ≤ x) := fun x hx => (P4.own.lt x hx).1
      have HB4 : Hid (u3.heap.size ≤ B4) := P4.ge
      replace HP2 : Hid (LY W.heap.size ⟨n0, n1, n2, n3, n4, n5, n6, n7, n8, n9, n10, n11⟩ E B2 a2 k2 u4) := HP2.out.below P4.bel
      replace HO3 : Hid (u4.ownsRow g3 3 1 (.slice (some ⟨g3, 0, none⟩) zs.length zs.length) zs.length (zs.map (Value.int .i64))) := keepL HO3.out P4.bel
      replace HW2 : Hid (Below W.heap.size W u4) := next HW2.out P4.bel
      have nr : (rr != rr) = false := by simp
      clear P4 z b0 HB HLA3 HALL3
      obtain ⟨ff0, ff1, ff2, ff3, ff4, ff5, ff6, ff7, ff8, ff9, ff10, ff11⟩ := HP4.out.cb
      obtain ⟨gg0, gg1, gg2, gg3, gg4, gg5, gg6, gg7, gg8, gg9, gg10, gg11⟩ := HP2.out.cb
      simp only [Nat.zero_add] at ff0 ff1 ff2 ff3 ff4 ff5 ff6 ff7 ff8 ff9 ff10 ff11 gg0 gg1 gg2 gg3 gg4 gg5 gg6 gg7 gg8 gg9 gg10 gg11
      go_wp2_with fail
      refine (HQ.out _).mono ?_
      rintro e u5 ⟨rfl, b5⟩
      replace HP4 : Hid (LY u3.heap.size ⟨n0, n1, n2, n3, n4, n5, n6, n7, n8, n9, n10, n11⟩ E B4 a4 k4 u5) := HP4.out.below b5
      replace HP2 : Hid (LY W.heap.size ⟨n0, n1, n2, n3, n4, n5, n6, n7, n8, n9, n10, n11⟩ E B2 a2 k2 u5) := HP2.out.below b5
      replace HO3 : Hid (u5.ownsRow g3 3 1 (.slice (some ⟨g3, 0, none⟩) zs.length zs.length) zs.length (zs.map (Value.int .i64))) := keepL HO3.out b5
      replace HW2 : Hid (Below W.heap.size W u5) := next HW2.out b5
      clear b5 ff0 ff1 ff2 ff3 ff4 ff5 ff6 ff7 ff8 ff9 ff10 ff11 gg0 gg1 gg2 gg3 gg4 gg5 gg6 gg7 gg8 gg9 gg10 gg11
      go_wp2_with fail
      refine (eqEntryS_same a4 a2 k4 k2 E _ HP4.out.ents HP2.out.ents (by have := HEL.out; omega)).mono ?_
      rintro e u6 ⟨rfl, b6⟩
      replace HP4 : Hid (LY u3.heap.size ⟨n0, n1, n2, n3, n4, n5, n6, n7, n8, n9, n10, n11⟩ E B4 a4 k4 u6) := HP4.out.below b6
      replace HP2 : Hid (LY W.heap.size ⟨n0, n1, n2, n3, n4, n5, n6, n7, n8, n9, n10, n11⟩ E B2 a2 k2 u6) := HP2.out.below b6
      replace HO3 : Hid (u6.ownsRow g3 3 1 (.slice (some ⟨g3, 0, none⟩) zs.length zs.length) zs.length (zs.map (Value.int .i64))) := keepL HO3.out b6
      replace HW2 : Hid (Below W.heap.size W u6) := next HW2.out b6
      clear b6
      go_wp2_with fail
      refine (toIntS_any _ _ zs _ (HZ.out.below HW2.out) hn).mono ?_
      rintro e u7 ⟨rfl, o7, b7⟩
      have HI7 : Hid (IntsAt u7 (some ⟨u6.heap.size, 0, none⟩) zs) := ints_of_own o7
      replace HP4 : Hid (LY u3.heap.size ⟨n0, n1, n2, n3, n4, n5, n6, n7, n8, n9, n10, n11⟩ E B4 a4 k4 u7) := HP4.out.below b7
      replace HP2 : Hid (LY W.heap.size ⟨n0, n1, n2, n3, n4, n5, n6, n7, n8, n9, n10, n11⟩ E B2 a2 k2 u7) := HP2.out.below b7
      replace HO3 : Hid (u7.ownsRow g3 3 1 (.slice (some ⟨g3, 0, none⟩) zs.length zs.length) zs.length (zs.map (Value.int .i64))) := keepL HO3.out b7
      replace HW2 : Hid (Below W.heap.size W u7) := next HW2.out b7
      clear b7 o7
      go_wp2_with fail
      refine (eqIntS_any _ _ _ _ zs zs _ (ints_of_own HO3.out) HI7.out (by omega) (by omega)).mono ?_
      rintro e u8 ⟨rfl, b8⟩
      rw [decide_eq_true (rfl : zs = zs)]
      replace HP4 : Hid (LY u3.heap.size ⟨n0, n1, n2, n3, n4, n5, n6, n7, n8, n9, n10, n11⟩ E B4 a4 k4 u8) := HP4.out.below b8
      replace HP2 : Hid (LY W.heap.size ⟨n0, n1, n2, n3, n4, n5, n6, n7, n8, n9, n10, n11⟩ E B2 a2 k2 u8) := HP2.out.below b8
      replace HO3 : Hid (u8.ownsRow g3 3 1 (.slice (some ⟨g3, 0, none⟩) zs.length zs.length) zs.length (zs.map (Value.int .i64))) := keepL HO3.out b8
      replace HW2 : Hid (Below W.heap.size W u8) := next HW2.out b8
      clear b8 HI7
      go_wp2_with fail
      refine (markIntS_any _ _ _ g3 1 _ _ HO3.out (by omega) (by omega) (by omega)).mono ?_
      rintro e u9 ⟨rfl, -, gr9'⟩
      have gr9 : u8.grownBy u9 (some g3) := gr9'
      clear gr9'
      replace HP4 : Hid (LY u3.heap.size ⟨n0, n1, n2, n3, n4, n5, n6, n7, n8, n9, n10, n11⟩ E B4 a4 k4 u9) := HP4.out.grown gr9 (fun e => by injection e with e; have := HB4.out; have := HG3.out; omega) (fun x hx e => by injection e with e; have := HX4.out x hx; have := HG3.out; omega)
      replace HP2 : Hid (LY W.heap.size ⟨n0, n1, n2, n3, n4, n5, n6, n7, n8, n9, n10, n11⟩ E B2 a2 k2 u9) := HP2.out.grown gr9 (fun e => by injection e with e; have := HBB'.out; omega) (fun x hx e => by injection e with e; have := HX2'.out x hx; omega)
      replace HW2 : Hid (Below W.heap.size W u9) := below_mark HW2.out gr9 (fun x hx => by injection hx with hx; have := HGW.out; omega)
      clear gr9 HO3
      obtain ⟨mm, hmm⟩ : ∃ mm : Int, 1 + (zs.length : Int) = mm := ⟨_, rfl⟩
      have hm0 : 0 ≤ mm := by omega
      rw [hmm]
      clear hmm
      obtain ⟨ff0, ff1, ff2, ff3, ff4, ff5, ff6, ff7, ff8, ff9, ff10, ff11⟩ := HP4.out.cb
      obtain ⟨gg0, gg1, gg2, gg3, gg4, gg5, gg6, gg7, gg8, gg9, gg10, gg11⟩ := HP2.out.cb
      simp only [Nat.zero_add] at ff0 ff1 ff2 ff3 ff4 ff5 ff6 ff7 ff8 ff9 ff10 ff11 gg0 gg1 gg2 gg3 gg4 gg5 gg6 gg7 gg8 gg9 gg10 gg11
      go_wp2_with fail
      refine (HQ.out _).mono ?_
      rintro e u10 ⟨rfl, b10⟩
      replace HP4 : Hid (LY u3.heap.size ⟨n0, n1, n2, n3, n4, n5, n6, n7, n8, n9, n10, n11⟩ E B4 a4 k4 u10) := HP4.out.below b10
      replace HP2 : Hid (LY W.heap.size ⟨n0, n1, n2, n3, n4, n5, n6, n7, n8, n9, n10, n11⟩ E B2 a2 k2 u10) := HP2.out.below b10
      replace HW2 : Hid (Below W.heap.size W u10) := next HW2.out b10
      clear b10 ff0 ff1 ff2 ff3 ff4 ff5 ff6 ff7 ff8 ff9 ff10 ff11 gg0 gg1 gg2 gg3 gg4 gg5 gg6 gg7 gg8 gg9 gg10 gg11
      go_wp2_with fail
      refine (eqEntryS_same a4 a2 k4 k2 E _ HP4.out.ents HP2.out.ents (by have := HEL.out; omega)).mono ?_
      rintro e u11 ⟨rfl, b11⟩
      replace HP4 : Hid (LY u3.heap.size ⟨n0, n1, n2, n3, n4, n5, n6, n7, n8, n9, n10, n11⟩ E B4 a4 k4 u11) := HP4.out.below b11
      replace HP2 : Hid (LY W.heap.size ⟨n0, n1, n2, n3, n4, n5, n6, n7, n8, n9, n10, n11⟩ E B2 a2 k2 u11) := HP2.out.below b11
      replace HW2 : Hid (Below W.heap.size W u11) := next HW2.out b11
      clear b11
      go_wp2_with fail
      refine (markE_any a4 k4 u3.heap.size 1 E _ HP4.out.own (by have := HEL.out; omega) (by omega)).mono ?_
      rintro e u12 ⟨rfl, o12, gr12⟩
      replace HP2 : Hid (LY W.heap.size ⟨n0, n1, n2, n3, n4, n5, n6, n7, n8, n9, n10, n11⟩ E B2 a2 k2 u12) := HP2.out.grown gr12 (fun e => by have h2 := HX4.out _ e.symm; have := HBB'.out; have := HG3.out; omega) (fun x hx e => by have h2 := HX4.out _ e.symm; have := HX2'.out x hx; have := HG3.out; omega)
      have HK4 : Hid (u12.ownsRow u3.heap.size 36 4 (.slice a4 E.length k4) E.length (ecells (mkE 1 E.length))) := o12
      replace HW2 : Hid (Below W.heap.size W u12) := below_mark HW2.out gr12 (fun x hx => by have := HX4.out x hx; have := HGW.out; have := HG3.out; omega)
      clear gr12 o12 HP4
      obtain ⟨mk, hmk⟩ : ∃ mk : Int, ((1 + 4 * E.length : Nat) : Int) = mk := ⟨_, rfl⟩
      have HMK : Hid _ := hmk
      have hk0 : 0 ≤ mk := by omega
      have nk : (mk != mk) = false := by simp
      rw [hmk]
      clear hmk
      go_wp2_with fail
      refine (heldE_any a4 k4 E.length 1 _ (ents_mark HK4.out) (by have := HEL.out; omega) (by omega)).mono ?_
      rintro e u13 ⟨rfl, b13⟩
      rw [HMK.out]
      replace HP2 : Hid (LY W.heap.size ⟨n0, n1, n2, n3, n4, n5, n6, n7, n8, n9, n10, n11⟩ E B2 a2 k2 u13) := HP2.out.below b13
      replace HK4 : Hid (u13.ownsRow u3.heap.size 36 4 (.slice a4 E.length k4) E.length (ecells (mkE 1 E.length))) := keepL HK4.out b13
      replace HW2 : Hid (Below W.heap.size W u13) := next HW2.out b13
      clear b13
      go_upto_region 22 with fail
      have HLA13 : Hid (LA w.heap.size ⟨iss, acq, cur, am, st, rsn, cl, bk, fee, cop, sta, due⟩ ⟨k, m, r⟩ u13) := HLA.out.below HW2.out
      have HALL13 : Hid (∀ u, Below u13.heap.size u13 u → u.cell? ⟨w.heap.size, 0, none⟩ = some (.int .i64 iss) ∧ u.cell? ⟨w.heap.size, 1, none⟩ = some (.int .i64 acq) ∧ u.cell? ⟨w.heap.size, 2, none⟩ = some (.int .i64 cur) ∧ u.cell? ⟨w.heap.size, 3, none⟩ = some (.int .i64 am) ∧ u.cell? ⟨w.heap.size, 4, none⟩ = some (.int .i64 st) ∧ u.cell? ⟨w.heap.size, 5, none⟩ = some (.int .i64 rsn) ∧ u.cell? ⟨w.heap.size, 6, none⟩ = some (.int .i64 cl) ∧ u.cell? ⟨w.heap.size, 7, none⟩ = some (.int .i64 bk) ∧ u.cell? ⟨w.heap.size, 8, none⟩ = some (.int .i64 fee) ∧ u.cell? ⟨w.heap.size, 9, none⟩ = some (.bool cop) ∧ u.cell? ⟨w.heap.size, 10, none⟩ = some (.int .i64 sta) ∧ u.cell? ⟨w.heap.size, 11, none⟩ = some (.int .i64 due) ∧ u.cell? ⟨w.heap.size + 1, 0, none⟩ = some (.int .i64 k) ∧ u.cell? ⟨w.heap.size + 1, 1, none⟩ = some (.int .i64 m) ∧ u.cell? ⟨w.heap.size + 1, 2, none⟩ = some (.int .i64 r)) := fun u hu => LA.all (HLA13.out.below hu)
      have HZ13 : Hid (IntsAt u13 a3 zs) := HZ.out.below HW2.out
      have b0 : Below u13.heap.size u13 u13 := Below.refl _ _
      have z : ZC u13 u13 none (fun _ => True) := ZC.start (fun _ _ => trivial)
      go_cut [19, 20, 21] (fun v6 v7 v8 wc => ∃ B ao k, v6 = .pointer (some ⟨B, 0, none⟩) ∧ v7 = .slice ao E.length k ∧ v8 = .int .i64 rr ∧ LX u13 ⟨n0, n1, n2, n3, n4, n5, n6, n7, n8, n9, n10, n11⟩ E B ao k wc)
      case first => exact rDoReg22 hn HTC HTA HTW HW2 HZ13 HID HALL13 b0 z _ _ ‹_› ‹_›
      case rest =>
        obtain ⟨B7, a7, k7, rfl, rfl, rfl, P7⟩ := hcut
        obtain ⟨u14, hu⟩ : ∃ x, x = wc := ⟨_, rfl⟩
        subst hu
        have HP7 : Hid (LY u13.heap.size ⟨n0, n1, n2, n3, n4, n5, n6, n7, n8, n9, n10, n11⟩ E B7 a7 k7 u14) := P7.ly
        replace HP2 : Hid (LY W.heap.size ⟨n0, n1, n2, n3, n4, n5, n6, n7, n8, n9, n10, n11⟩ E B2 a2 k2 u14) := HP2.out.below P7.bel
        replace HK4 : Hid (u14.ownsRow u3.heap.size 36 4 (.slice a4 E.length k4) E.length (ecells (mkE 1 E.length))) := keepL HK4.out P7.bel
        replace HW2 : Hid (Below W.heap.size W u14) := next HW2.out P7.bel
        clear P7 z b0 HLA13 HALL13
        obtain ⟨ff0, ff1, ff2, ff3, ff4, ff5, ff6, ff7, ff8, ff9, ff10, ff11⟩ := HP7.out.cb
        obtain ⟨gg0, gg1, gg2, gg3, gg4, gg5, gg6, gg7, gg8, gg9, gg10, gg11⟩ := HP2.out.cb
        simp only [Nat.zero_add] at ff0 ff1 ff2 ff3 ff4 ff5 ff6 ff7 ff8 ff9 ff10 ff11 gg0 gg1 gg2 gg3 gg4 gg5 gg6 gg7 gg8 gg9 gg10 gg11
        go_wp2_with fail
        refine (HQ.out _).mono ?_
        rintro e u15 ⟨rfl, b15⟩
        replace HP7 : Hid (LY u13.heap.size ⟨n0, n1, n2, n3, n4, n5, n6, n7, n8, n9, n10, n11⟩ E B7 a7 k7 u15) := HP7.out.below b15
        replace HP2 : Hid (LY W.heap.size ⟨n0, n1, n2, n3, n4, n5, n6, n7, n8, n9, n10, n11⟩ E B2 a2 k2 u15) := HP2.out.below b15
        replace HK4 : Hid (u15.ownsRow u3.heap.size 36 4 (.slice a4 E.length k4) E.length (ecells (mkE 1 E.length))) := keepL HK4.out b15
        replace HW2 : Hid (Below W.heap.size W u15) := next HW2.out b15
        clear b15 ff0 ff1 ff2 ff3 ff4 ff5 ff6 ff7 ff8 ff9 ff10 ff11 gg0 gg1 gg2 gg3 gg4 gg5 gg6 gg7 gg8 gg9 gg10 gg11
        go_wp2_with fail
        refine (eqEntryS_same a7 a2 k7 k2 E _ HP7.out.ents HP2.out.ents (by have := HEL.out; omega)).mono ?_
        rintro e u16 ⟨rfl, b16⟩
        replace HK4 : Hid (u16.ownsRow u3.heap.size 36 4 (.slice a4 E.length k4) E.length (ecells (mkE 1 E.length))) := keepL HK4.out b16
        replace HW2 : Hid (Below W.heap.size W u16) := next HW2.out b16
        clear b16
        go_wp2_with fail
        refine (heldE_any a4 k4 E.length 1 _ (ents_mark HK4.out) (by have := HEL.out; omega) (by omega)).mono ?_
        rintro e u17 ⟨rfl, b17⟩
        rw [HMK.out]
        have HWE : Hid (Below w.heap.size w u17) := next HBW.out (next HW2.out b17)
        clear b17
        go_wp2
        go_ret
        exact ⟨rfl, HWE.out⟩

set_option maxRecDepth 100000 in
theorem lifted (os : Os) (started : os.Started) (H : Type) (enc : TypeId × Value → H) (F : Stop.Interp) :
    ReturnsInHanded {} Tryd.checked os 8 .any ((OpenSpec.ofChange Rows.fnExactCaseDoSpec).preRow enc Tryd.prog Tryd.f8 Rows.fnExactCaseDoRow.domain false Rows.fnExactCaseDoRow.laid)
      (((OpenSpec.ofChange Rows.fnExactCaseDoSpec).at F).post enc Tryd.prog Tryd.f8 false true false false) := by
  refine returnsInHanded_of_row (C := Tryd.checked) (s := OpenSpec.ofChange Rows.fnExactCaseDoSpec) own started (by kernel_rfl) Tryd.func8
    (ChangeSpec.witness_shaped (enc := enc) (C := Tryd.checked) (os := os) (X := fun w _ => laidMetH Tryd.prog Rows.fnExactCaseDoRow.laid w) false (World.laidAll Tryd.prog os Rows.fnExactCaseDoRow.laid) #[.agg #[.int .i64 0, .int .i64 0, .int .i64 0, .int .i64 0, .int .i64 0, .int .i64 0, .int .i64 0, .int .i64 0, .int .i64 0, .bool false, .int .i64 0, .int .i64 0], .agg #[.int .i64 0, .int .i64 0, .int .i64 0], .int .i64 0, .slice none 0 0] 8 (World.laidAll_os _ _ _)
      (World.shaped_of_ZipB (by kernel_rfl) (by kernel_rfl)) (by kernel_rfl) (by kernel_rfl) (by kernel_rfl)
      (by rw [MakeChecks.laidMetH_plain _ _ _ (by kernel_rfl)]; exact laidMet_laidAll _ (by kernel_rfl) (by kernel_rfl))) ?_
  intro W base args ds gs before hval0 hW _ _ _ hL hsh _
  have hval : ∀ (j : Nat) t v, Tryd.f8.params[j]? = some t → args[j]? = some v → Value.okWide Tryd.prog W .any base t v := hval0
  have hW' := hW
  obtain ⟨p, q, hA0, hV0, rfl, _, _⟩ := hW
  have hV : DataW.TrodVars enc Tryd.prog W (fun _ => true) ["loop.example/g00126/impl.stepDays"] gs q := hV0
  have hA : DataW.TrodAll enc Tryd.prog W 0 (fun _ => true) true Tryd.f8.params.toList args.toList ds p := hA0
  rw [Tryd.params8] at hA hval
  obtain ⟨v0, vs0, d0, ds0, p0, q0, hargs, rfl, rfl, h0, r0⟩ := trodAll_cons hA
  obtain ⟨v1, vs1, d1, ds1, p1, q1, rfl, rfl, rfl, h1, r1⟩ := trodAll_cons r0
  obtain ⟨v2, vs2, d2, ds2, p2, q2, rfl, rfl, rfl, h2, r2⟩ := trodAll_cons r1
  obtain ⟨v3, vs3, d3, ds3, p3, q3, rfl, rfl, rfl, h3, r3⟩ := trodAll_cons r2
  obtain ⟨rfl, rfl, rfl⟩ := trodAll_nil r3
  obtain rfl : args = #[v0, v1, v2, v3] := by cases args; simp_all
  obtain ⟨gv, tv, cs, fv, dv, pv, rfl, hgv, htv, hvar, hdv, rfl⟩ := trodVars_one hV
  have k0 := h0
  have lt0 : ∀ x ∈ p0, x.block < W.heap.size := by obtain ⟨m, hm⟩ := k0; exact DataW.trod_lt m _ _ _ hm
  obtain ⟨c0, rfl, w0⟩ := is_case Tryd.underlying46 (by kernel_rfl) rfl rfl rfl rfl rfl rfl rfl rfl rfl rfl rfl rfl (by kernel_rfl) (by kernel_rfl) (by kernel_rfl) (by kernel_rfl) (by kernel_rfl) (by kernel_rfl) (by kernel_rfl) (by kernel_rfl) (by kernel_rfl) (by kernel_rfl) (by kernel_rfl) (by kernel_rfl) Tryd.underlying3 Tryd.underlying3 Tryd.underlying3 Tryd.underlying3 Tryd.underlying3 Tryd.underlying3 Tryd.underlying3 Tryd.underlying3 Tryd.underlying3 Tryd.underlying4 Tryd.underlying3 Tryd.underlying3 (hval 0 46 v0 rfl rfl) h0
  have k1 := h1
  have lt1 : ∀ x ∈ p1, x.block < W.heap.size := by obtain ⟨m, hm⟩ := k1; exact DataW.trod_lt m _ _ _ hm
  obtain ⟨c1, rfl, w1⟩ := is_act Tryd.underlying47 (by kernel_rfl) rfl rfl rfl (by kernel_rfl) (by kernel_rfl) (by kernel_rfl) Tryd.underlying3 Tryd.underlying3 Tryd.underlying3 (hval 1 47 v1 rfl rfl) h1
  obtain ⟨a2, rfl, rfl, rfl, w2⟩ := open_int Tryd.underlying3 (hval 2 3 v2 rfl rfl) h2
  obtain ⟨a3, len3, cap3, rfl⟩ := okWide_slice Tryd.underlying28 (hval 3 28 v3 rfl rfl)
  have k3 := h3
  have lt3 : ∀ x ∈ p3, x.block < W.heap.size := by obtain ⟨m, hm⟩ := k3; exact DataW.trod_lt m _ _ _ hm
  obtain ⟨z3, w3⟩ : ∃ zs, IsRow .i64 W a3 len3 cap3 zs := is_row Tryd.underlying28 Tryd.underlying3 (by kernel_rfl) h3
  clear hA0 hval0
  rw [MakeChecks.laidMetH_plain _ _ _ (by kernel_rfl)] at hL
  have HM := varTab hL
  refine (walk c0 c1 a2 a3 len3 cap3 z3 W w0 w1 w2 w3 hL hsh).mono fun e W' ⟨he, bel⟩ => ?_
  subst he
  exact ⟨_, rfl, _, _, _, [], _, _, hW', trodAll_mk1 (shut_bool Tryd.underlying4 _), (trodAll_cons_mk (Below.trod laidOut (by kernel_rfl) (of_decide_eq_true (by kernel_rfl)) k0 bel lt0) (trodAll_cons_mk (Below.trod laidOut (by kernel_rfl) (of_decide_eq_true (by kernel_rfl)) k1 bel lt1) (trodAll_cons_mk (shut_int Tryd.underlying3 w2) (trodAll_cons_mk (Below.trod laidOut (by kernel_rfl) (of_decide_eq_true (by kernel_rfl)) k3 bel lt3) trodAll_mk0)))), step_vars hgv htv hvar hdv HM bel, bel.frame _, fun h => by cases h⟩

theorem said : Rows.FnExactCaseDoSaid :=
  OpenClaim.holds_of_cond 8 Tryd.f8 rfl rfl rfl rfl rfl rfl rfl ⟨rfl, rfl, rfl, rfl, rfl⟩ rfl rfl rfl rfl rfl (by kernel_rfl) Tryd.func8 (by kernel_rfl)
    (of_decide_eq_true (by kernel_rfl)) (by unfold Func.isWrapper; first | (rw [if_pos (by decide +kernel)]; kernel_rfl) | (rw [if_neg (by decide +kernel)]; exact ⟨rfl, rfl⟩))
    (fun os started H enc _ F => by rw [OpenClaim.pre_eq_preRow]; exact lifted os started H enc F)

theorem proved : Rows.FnExactCaseDoCardSaid :=
  Claim7.holds_tied_plain_at .later [] _ _ _ _ said (fun _ h => by cases h) (by kernel_rfl) (fun _ h => by cases h) fnExactCaseDo_row_tie rfl ⟨rfl, rfl⟩ (by kernel_rfl) rfl
    (fun f fn hf hfn => by
      obtain rfl : f = 8 := Option.some.inj ((show Tryd.prog.funcNamed "loop.example/g00126/laws.FnExactCaseDo" = some 8 by kernel_rfl).symm.trans hf) |>.symm
      obtain rfl : fn = Tryd.f8 := (Option.some.inj (Tryd.func8.symm.trans hfn)).symm
      refine ⟨by kernel_rfl, fun j t ht => ?_⟩
      rw [Tryd.params8] at ht
      have hm : t ∈ [3, 28, 46, 47] := by have := Array.mem_of_getElem? ht; simp at this ⊢; first | exact this | exact this.symm | omega | (rcases this with h | h | h | h <;> simp [h])
      have hall : ([3, 28, 46, 47].all fun u => !Tryd.prog.wantsStandIn u) = true := by kernel_rfl
      have h1 := List.all_eq_true.1 hall t hm
      have h2 : Tryd.prog.wantsStandIn t = false := by simpa using h1
      exact h2)
    (by kernel_rfl)
end Go.Proofs.YtpjfigjgamlcdaaDoor.fnExactCaseDo

