/- Joined: FUnp, MHand, FUnpAll. -/
import Derived.Test.YtbncdhfmhokgeaaGreatDoorKFnBatchFCatch
import Derived.Tactics2
import Derived.Laws.Pointers
import Derived.Test.YtbncdhfmhokgeaaGreatDoorJFnBatch1a
import Derived.LaidHandle
import Derived.LaidLaws
import Derived.Test.YtbncdhfmhokgeaaGreatDoorJFnBatch5a
/- The contract of UnpackMessage, the program's. -/
namespace Go.Proofs.YtbncdhfmhokgeaaGreatDoor
open Go.RowKit

theorem unp_ok {l : List UInt8} (h : (unp l).1 = 0) : (unp l).2.1 = 0 := by
  unfold unp at h ⊢
  split at h
  · simp at h
  · rename_i h1; rw [if_neg h1]
    split at h
    · simp at h
    · rename_i h2; rw [if_neg h2]
      split at h
      · rename_i h3; rw [if_pos h3]
      · rename_i h3; exact absurd h h3
theorem unp_no {l : List UInt8} (h : (unp l).1 ≠ 0) : (unp l).2.2 = (0, []) := by
  unfold unp at h ⊢
  split at h
  · rename_i h1; rw [if_pos h1]
  · rename_i h1; rw [if_neg h1]
    split at h
    · rename_i h2; rw [if_pos h2]
    · rename_i h2; rw [if_neg h2]
      split at h
      · simp at h
      · rename_i h3; rw [if_neg h3]

/-- what UnpackMessage answers: a message of one's own, a code, a place -/
def UnpR (w : World) (l : List UInt8) (e : Ending) (w' : World) : Prop :=
  Below w.heap.size w w' ∧ ∃ ao cap, e = .returned (.tuple #[.agg #[.int .i64 (unp l).2.2.1, .slice ao (unp l).2.2.2.length cap], .int .i64 (unp l).1, .int .i64 (unp l).2.1]) ∧
    w'.ownsRow w.heap.size 60 2 (.slice ao (unp l).2.2.2.length cap) (unp l).2.2.2.length (fcells (unp l).2.2.2)

set_option maxRecDepth 100000 in
set_option maxHeartbeats 1600000 in
theorem iUnpack_any (l : List UInt8) (w : World) (hl : l.length ≤ 1048576) (hg : ErrTy w) :
    Calls Tryz.prog 13 #[.string ⟨l.toArray⟩] w fun e w' => UnpR w l e w' := by
  have hmf : ∀ (fn : Fn) (first cap : Array Value) (w : World), (Instr.makeFunc fn first cap).run Tryz.prog w = .ok (.func fn first cap) w := fun _ _ _ _ => rfl
  obtain ⟨W, hW⟩ : ∃ W, ((w.alloc (.cells #[.int .i64 0, .slice none 0 0] 26)).alloc (.cells #[.int .i64 0] 3)).alloc (.cells #[.int .i64 0] 3) = W := ⟨_, rfl⟩
  have x0 : W.cell? ⟨w.heap.size, 0, none⟩ = some (.int .i64 0) := by rw [← hW]; simp [go_sem]
  have x1 : W.cell? ⟨w.heap.size, 1, none⟩ = some (.slice none 0 0) := by rw [← hW]; simp [go_sem]
  have x2 : W.cell? ⟨w.heap.size + 1, 0, none⟩ = some (.int .i64 0) := by rw [← hW]; simp [go_sem]
  have x3 : W.cell? ⟨w.heap.size + 1 + 1, 0, none⟩ = some (.int .i64 0) := by rw [← hW]; simp [go_sem]
  have f0 : W.frozen? ⟨w.heap.size, 0, none⟩ = false := by rw [← hW]; simp [go_sem]
  have f1 : W.frozen? ⟨w.heap.size, 1, none⟩ = false := by rw [← hW]; simp [go_sem]
  have f2 : W.frozen? ⟨w.heap.size + 1, 0, none⟩ = false := by rw [← hW]; simp [go_sem]
  have f3 : W.frozen? ⟨w.heap.size + 1 + 1, 0, none⟩ = false := by rw [← hW]; simp [go_sem]
  have hs : W.heap.size = w.heap.size + 3 := by rw [← hW]; simp
  have bel : Below w.heap.size w W := by rw [← hW]; exact (((Below.refl _ _).alloc (Nat.le_refl _) _).alloc (by simp) _).alloc (by simp; omega) _
  have HW : Hid _ := hW
  clear hW
  go_enter_defers Tryz.func13, Tryz.ntmps13
  go_wp2_with fail
  rw [HW.out]
  refine (readMessage_any l _ hl).mono ?_
  rintro e w1 ⟨b1, hcase⟩
  have y0 := (b1.cell (p := ⟨w.heap.size, 0, none⟩) (by show w.heap.size < W.heap.size; omega)).trans x0
  have y1 := (b1.cell (p := ⟨w.heap.size, 1, none⟩) (by show w.heap.size < W.heap.size; omega)).trans x1
  have y2 := (b1.cell (p := ⟨w.heap.size + 1, 0, none⟩) (by show w.heap.size + 1 < W.heap.size; omega)).trans x2
  have y3 := (b1.cell (p := ⟨w.heap.size + 1 + 1, 0, none⟩) (by show w.heap.size + 1 + 1 < W.heap.size; omega)).trans x3
  have g0 := (b1.frozen (p := ⟨w.heap.size, 0, none⟩) (by show w.heap.size < W.heap.size; omega)).trans f0
  have g1 := (b1.frozen (p := ⟨w.heap.size, 1, none⟩) (by show w.heap.size < W.heap.size; omega)).trans f1
  have g2 := (b1.frozen (p := ⟨w.heap.size + 1, 0, none⟩) (by show w.heap.size + 1 < W.heap.size; omega)).trans f2
  have g3 := (b1.frozen (p := ⟨w.heap.size + 1 + 1, 0, none⟩) (by show w.heap.size + 1 + 1 < W.heap.size; omega)).trans f3
  have B1 : Below w.heap.size w w1 := bel.trans (b1.mono (by omega))
  clear x0 x1 x2 x3 f0 f1 f2 f3 HW
  rcases hcase with ⟨h0, ao, cap, rfl, ho⟩ | ⟨h1, he⟩
  · have HZ : Hid _ := unp_ok h0
    have H0 : Hid _ := h0
    obtain ⟨n, hn⟩ : ∃ n, (unp l).2.2.2.length = n := ⟨_, rfl⟩
    obtain ⟨kd, hkd⟩ : ∃ n, (unp l).2.2.1 = n := ⟨_, rfl⟩
    rw [hn] at ho
    rw [hn, hkd]
    have HO : Hid (w1.ownsRow W.heap.size 60 2 (.slice ao n cap) n (fcells (unp l).2.2.2)) := ho
    have HN : Hid _ := hn
    have HK : Hid _ := hkd
    clear hn hkd h0 ho
    go_wp2
    refine leaves_cons (f := 46) (args := #[.pointer (some ⟨w.heap.size, 0, none⟩), .pointer (some ⟨w.heap.size + 1, 0, none⟩), .pointer (some ⟨w.heap.size + 1 + 1, 0, none⟩)]) (by simp) (by simp [go_sem]) ?_
    refine (catch_idle _ _ _ _).mono ?_
    rintro e u' w'' ⟨rfl, rfl, rfl⟩
    simp [Leaves, settle, results, Tryz.results13, go_sem, y0, y1, y2, y3]
    unfold UnpR
    rw [HN.out, HK.out, H0.out, HZ.out]
    have hne : ∀ g, (Value.slice ao n cap).ownBlock = some g → W.heap.size ≤ g := fun g hg => (World.ownsRow.lt HO.out g hg).1
    refine ⟨(((B1.setCell (Nat.le_refl _) _).setCell (Nat.le_refl _) _).setCell (Nat.le_succ _) _).setCell (by show w.heap.size ≤ w.heap.size + 1 + 1; omega) _, ao, cap, rfl, lowerRow (keepSet (keepSet (keepSet (keepSet HO.out _ _ ?_) _ _ ?_) _ _ ?_) _ _ ?_) (by omega)⟩
    · intro g hg; have := hne g hg; show g ≠ w.heap.size; omega
    · intro g hg; have := hne g hg; show g ≠ w.heap.size; omega
    · intro g hg; have := hne g hg; show g ≠ w.heap.size + 1; omega
    · intro g hg; have := hne g hg; show g ≠ w.heap.size + 1 + 1; omega
  · rw [faultE] at he
    subst he
    have HZ : Hid _ := unp_no h1
    obtain ⟨c, hc⟩ : ∃ n, (unp l).1 = n := ⟨_, rfl⟩
    obtain ⟨a, ha⟩ : ∃ n, (unp l).2.1 = n := ⟨_, rfl⟩
    rw [hc, ha]
    have HC : Hid _ := hc
    have HA : Hid _ := ha
    clear hc ha h1
    go_wp2
    refine leaves_cons (f := 46) (args := #[.pointer (some ⟨w.heap.size, 0, none⟩), .pointer (some ⟨w.heap.size + 1, 0, none⟩), .pointer (some ⟨w.heap.size + 1 + 1, 0, none⟩)]) (by simp) (by simp [go_sem]) ?_
    refine (catch_fault w.heap.size c a [] _ _ _ _ _ (hg.below B1) y0 y1 y2 y3 g0 g1 g2 g3).mono ?_
    rintro e u' w'' ⟨rfl, rfl, b2, z0, z1, z2, z3⟩
    simp [Leaves, settle, results, Tryz.results13, go_sem, z0, z1, z2, z3]
    unfold UnpR
    rw [HZ.out, HC.out, HA.out]
    exact ⟨B1.trans b2, none, 0, rfl, World.ownsRow_nil _ _ _ _⟩

end Go.Proofs.YtbncdhfmhokgeaaGreatDoor

/- From what a row lists of Go's library's tables, a type's handle among them, to what the contracts ask of them. -/
namespace Go.Proofs.YtbncdhfmhokgeaaGreatDoor
open Go.ChangeShapes Go.WideShapes Go.ChangeAt Go.RowKit

theorem etM : Tryz.prog.globalNamed "errors.errorType" = some 0 := by kernel_rfl
theorem rtM : (Tryz.prog.cutTypes.find? (·.1 == "internal/reflectlite.rtype")).map (·.2) = some 198 := by kernel_rfl
theorem oneRowM : ((List.range 255).filter fun t => Tryz.prog.rowNamed t [101, 114, 114, 111, 114]) = [124] := by kernel_rfl
theorem sizeM : Tryz.prog.types.size = 255 := by kernel_rfl
theorem handle_of {W : World} (h : handlesMet Tryz.prog [("errors.errorType", Rows.laid_errors_errorType)] W) : ErrTy W := by
  obtain ⟨name, u, ty, e1, e2, e3, e4, e5⟩ := h _ (List.mem_singleton.2 rfl)
  have en : name = [101, 114, 114, 111, 114] := (Option.some.inj e1).symm
  subst en
  obtain rfl := Option.some.inj (rtM.symm.trans e2)
  have hm : ty ∈ (List.range 255).filter fun t => Tryz.prog.rowNamed t [101, 114, 114, 111, 114] := List.mem_filter.2 ⟨List.mem_range.2 (by rw [← sizeM]; exact e3), e4⟩
  rw [oneRowM] at hm
  obtain rfl := List.mem_singleton.1 hm
  have hh : typeHandle Tryz.prog 124 = .pointer (some ⟨7, 124, none⟩) := by kernel_rfl
  rw [hh] at e5
  unfold ErrTy
  simpa using World.var?_cell etM e5 0
/-- tables laid over a world of one's own -/
theorem laidMet_over {P : Program} {w0 : World} {laid : List (String × DataW Unit)} (args : Array Value) (hf : w0.layFits P laid [] = true) (hi : w0.layIfaces P laid (w0.layVars P laid) = true) :
    laidMet P laid ((w0.layVars P laid).forCall (fun _ _ => 0) ⟨#[], args, []⟩).memory := by
  have e1 : (laid.filter fun x => (laid.map (·.1)).contains x.1) = laid := List.filter_eq_self.2 fun x hx => List.contains_iff_mem.2 (List.mem_map.2 ⟨x, hx, rfl⟩)
  have e2 : (laid.filter fun x => !(laid.map (·.1)).contains x.1) = [] := List.filter_eq_nil_iff.2 fun x hx => by rw [List.contains_iff_mem.2 (List.mem_map.2 ⟨x, hx, rfl⟩)]; simp
  have h : laidMet P laid (w0.layVars P laid) := laidMet_layVars (w0 := w0) (laid.map (·.1)) [] (by rw [e1]) (by rw [e1]; exact hf) (by rw [e1]; exact hi) (by rw [e2]; exact LaidIn.none)
  exact h.of_heap (by simp [World.memory, World.forCall, Input.heap])

end Go.Proofs.YtbncdhfmhokgeaaGreatDoor

/- The contract of the program's unpackAll. -/
namespace Go.Proofs.YtbncdhfmhokgeaaGreatDoor
open Go.RowKit
set_option maxRecDepth 100000

/-- what unpackAll answers -/
def UnpA (w : World) (rs : Recs) (e : Ending) (w' : World) : Prop :=
  Below w.heap.size w w' ∧ ((allUnp rs = false ∧ e = .returned (.tuple #[.slice none 0 0, .bool false])) ∨
    (allUnp rs = true ∧ ∃ v xs, e = .returned (.tuple #[v, .bool true]) ∧ MsR w.heap.size w' v xs ∧ plainM xs = rs.map unpM))
theorem map_take_nth (rs : Recs) (k : Nat) (h : k < rs.length) : (rs.take (k + 1)).map unpM = (rs.take k).map unpM ++ [unpM (nth rs k)] := by rw [take_nth rs k h, List.map_append]; rfl
theorem msg_new (w : World) (x : MV) (t : TypeId) : ∀ (j : Nat) (u : Value), (mcells [x])[j]? = some u → (w.alloc (.cells #[.int .i64 x.kd, .slice x.ao x.fs.length x.cap] t)).cell? ((⟨w.heap.size, 0, none⟩ : Addr).add j) = some u :=
  World.news_of_block (heap_alloc_new w (.cells #[.int .i64 x.kd, .slice x.ao x.fs.length x.cap] t))

set_option maxHeartbeats 1600000 in
theorem unpackAll_any (ao : Option Addr) (cap : Nat) (rs : Recs) (w : World) (hz : TxtsAt w ao rs) (hn : rs.length ≤ 200) (hd : ∀ r ∈ rs, r.length ≤ 3000) (hg : ErrTy w) :
    Calls Tryz.prog 65 #[.slice ao rs.length cap] w (UnpA w rs) := by
  obtain ⟨i0, hi, hz0, hz1, hz2⟩ := info_parts infoM
  have HZ : Hid (TxtsAt w ao rs) := hz
  have HD : Hid (∀ r ∈ rs, r.length ≤ 3000) := hd
  have HG : Hid (ErrTy w) := hg
  clear hz hd hg
  go_enter Tryz.func65, Tryz.ntmps65
  go_wp2
  go_loopw [4, 12] (fun s i wr => ∃ (v : Value) (k : Nat) (xs : List MV), v = s ∧ k ≤ rs.length ∧ i = .int .i64 k ∧ allUnp rs = allUnp (rs.drop k) ∧ plainM xs = (rs.take k).map unpM ∧ MsR w.heap.size wr v xs ∧ Below w.heap.size w wr) (fun _ i _ => rs.length - (intOf i).toNat)
  case atStart => exact ⟨_, 0, [], rfl, Nat.zero_le _, rfl, rfl, rfl, MsR.nil _ _, Below.refl _ _⟩
  case round =>
    obtain ⟨v, k, xs, hvs, hk, rfl, hok, hpl, hM, hbr⟩ := hrel
    subst hvs
    have hbs := hbr.size
    have HM : Hid (MsR w.heap.size wr v xs) := hM
    have HOK : Hid _ := hok
    have HPL : Hid _ := hpl
    have hxl : xs.length = k := by
      have := congrArg List.length hpl
      rw [plainM_len, List.length_map, List.length_take] at this
      omega
    clear hM hok hpl
    by_cases hlt : k < rs.length
    · have hki : (k : Int) < (rs.length : Int) := by omega
      have hst := allUnp_step rs k hlt
      have HTK : Hid _ := map_take_nth rs k hlt
      have hrl := HD.out _ (nth_mem hlt)
      rcases HZ.out.below hbr with h0 | ⟨b, off, rfl, hb, hcell⟩
      · rw [h0] at hlt; simp at hlt
      have c1 := hcell k hlt
      obtain ⟨l, hl⟩ : ∃ l, nth rs k = l := ⟨_, rfl⟩
      rw [hl] at c1 hst hrl HTK
      have HCU : Hid (Calls Tryz.prog 13 #[.string ⟨l.toArray⟩] wr fun e w' => UnpR wr l e w') := iUnpack_any l wr (by omega) (HG.out.below hbr)
      clear hcell hl
      cases hq : unpOk l
      · rw [hq, Bool.false_and] at hst
        have HBAD : Hid _ := HOK.out.trans hst
        have hcd : ¬ (unp l).1 = 0 := of_decide_eq_false hq
        clear hst hq
        go_wp2_with fail
        refine HCU.out.mono ?_
        rintro e w2 ⟨b2, fa, fc, rfl, o2⟩
        have q2 := next hbr b2
        obtain ⟨cd, hcde⟩ : ∃ c, (unp l).1 = c := ⟨_, rfl⟩
        rw [hcde] at hcd ⊢
        generalize (unp l).2.2.1 = kd
        generalize (unp l).2.2.2.length = ln
        generalize (unp l).2.1 = at1
        have hcd2 : (cd != 0) = true := by simpa using hcd
        have Q : Hid (Below w.heap.size w (w2.alloc (.cells #[.int .i64 kd, .slice fa ln fc] 26))) := q2.alloc q2.size _
        clear HCU b2 o2 q2 hcde hcd
        go_wp2
        go_ret2
        exact ⟨Q.out, .inl ⟨HBAD.out, rfl⟩⟩
      · rw [hq, Bool.true_and] at hst
        have HOK2 : Hid _ := HOK.out.trans hst
        have hcd : (unp l).1 = 0 := of_decide_eq_true hq
        have HUM : Hid (unpM l = ((unp l).2.2.1, (unp l).2.2.2)) := rfl
        clear hst hq HOK
        go_wp2_with fail
        refine HCU.out.mono ?_
        rintro e w2 ⟨b2, fa, fc, rfl, o2⟩
        have q2 := next hbr b2
        rw [hcd]
        obtain ⟨kd, hkd⟩ : ∃ x, (unp l).2.2.1 = x := ⟨_, rfl⟩
        obtain ⟨fs, hfs⟩ : ∃ x, (unp l).2.2.2 = x := ⟨_, rfl⟩
        rw [hkd, hfs] at HUM
        rw [hfs] at o2
        rw [hkd, hfs]
        generalize (unp l).2.1 = at1
        have bx : Below w2.heap.size w2 (w2.alloc (.cells #[.int .i64 kd, .slice fa fs.length fc] 26)) := by go_grown
        have b3 := next b2 bx
        have q3 := next q2 bx
        have HX : Hid ((w2.alloc (.cells #[.int .i64 kd, .slice fa fs.length fc] 26)).ownsRow wr.heap.size 60 2 (.slice fa fs.length fc) fs.length (fcells fs)) := keepRow o2 bx
        have hs3 := q3.size
        obtain ⟨W, hW⟩ : ∃ W, W = w2.alloc (.cells #[.int .i64 kd, .slice fa fs.length fc] 26) := ⟨_, rfl⟩
        have y0 : W.cell? ⟨w2.heap.size, 0, none⟩ = some (.int .i64 kd) := by rw [hW]; simp
        have y1 : W.cell? ⟨w2.heap.size, 1, none⟩ = some (.slice fa fs.length fc) := by rw [hW]; simp
        rw [← hW] at b3 q3 HX hs3
        have HR3 : Hid (W.ownsRow w.heap.size 26 2 v xs.length (mcells xs)) := keepRow HM.out.row b3
        have HLT : Hid (∀ j, v.ownBlock = some j → w.heap.size ≤ j) := fun j hj => (HM.out.row.lt j hj).1
        clear HCU b2 o2 q2 hcd hkd hfs bx
        go_upto_region 6 with fail
        rw [← hW]
        clear hW
        go_wp2_with (at_builtin; refine wpList_append_msg _ rfl (.tmp 24) (.tmp 26) rfl w.heap.size v xs.length (mcells xs) rfl (HR3.out.alloc _) ⟨kd, fa, fc, fs⟩ ⟨W.heap.size, 0, none⟩ rfl (msg_new W ⟨kd, fa, fc, fs⟩ _) (by omega) (by simp; omega) ?_; intro v5 w5 o5 g5 hv5)
        have q5 : Below w.heap.size w w5 := (q3.alloc hs3 _).grown g5 (by simp; omega) HLT.out
        have HM5 : Hid (MsR w.heap.size w5 v5 (xs ++ [⟨kd, fa, fc, fs⟩])) := by
          have bW : Below W.heap.size W (W.alloc (.cells #[.int .i64 kd, .slice fa fs.length fc] 26)) := by go_grown
          refine HM.out.snoc (x := ⟨kd, fa, fc, fs⟩) (next b3 bW) (keepRow HX.out bW) hbs o5 g5 ?_
          rcases hv5 with h | h
          · exact .inl h
          · exact .inr ⟨_, h, Nat.le_refl _⟩
        have HP5 : Hid (plainM (xs ++ [⟨kd, fa, fc, fs⟩]) = (rs.take (k + 1)).map unpM) := by
          rw [Hid, HTK.out, ← HPL.out, HUM.out]; simp [plainM, MV.m]
        clear o5 g5 hv5 HR3 HX HM b3
        go_wp2
        go_roundw
        case rel => exact ⟨_, k + 1, _, rfl, by omega, by go_num, HOK2.out, HP5.out, HM5.out, q5⟩
        case measure => simp [intOf]; omega
    · have hke : k = rs.length := by omega
      subst hke
      have HALL : Hid (allUnp rs = true) := HOK.out.trans (allUnp_end rs)
      have HPP : Hid (plainM xs = rs.map unpM) := by rw [Hid, HPL.out, List.take_length]
      go_wp2
      go_ret2
      exact ⟨hbr, .inr ⟨HALL.out, v, xs, rfl, HM.out, HPP.out⟩⟩

end Go.Proofs.YtbncdhfmhokgeaaGreatDoor
