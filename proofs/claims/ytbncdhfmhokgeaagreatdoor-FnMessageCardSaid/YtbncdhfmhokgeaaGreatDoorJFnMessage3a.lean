/- Joined: DrawMs, FPack, FText. -/
import Derived.Test.YtbncdhfmhokgeaaGreatDoorKFnMessageDrawMd
import Derived.Test.YtbncdhfmhokgeaaGreatDoorJFnMessage1a
import Derived.Deep.AppendLies
import Derived.Deep.RegionLaw
import Derived.Test.YtbncdhfmhokgeaaGreatDoorKFnMessageFMsgOk
import Derived.Test.YtbncdhfmhokgeaaGreatDoorJFnMessage0a
/- What is drawn as a message, whatever the bytes. -/
namespace Go.Proofs.YtbncdhfmhokgeaaGreatDoor
open Go.RowKit

theorem step_app_own {P : Program} {ops : Array Oper} {o : Oper} {a : Act} {w : World} {K : Act → World → Prop} {Q : Exit → Act → World → Prop} {E : Prop}
    (hg : o.guard = none) (s x : Operand) (t : TypeId) (ho : o.op = Op.call { callee := Callee.builtin Builtin.append, args := #[s, x], argTypes := #[t, t] })
    (base : Nat) (e : TypeId) (i : TypeInfo) (z : Value) (size bytes : Nat) (ht : P.underlying t = some (.slice e)) (hi : P.info? e = some i) (hz : i.zero = some z)
    (hsize : i.size = size) (hby : i.bytes = bytes) (hzs : z.cells.size = size) (hsz : 0 < size)
    (v : Value) (n : Nat) (xs : List Value) (hs : a.eval s = v) (hown : w.ownsRow base e size v n xs)
    (ad : Addr) (m c : Nat) (news : List Value) (hx : a.eval x = .slice (some ad) m c) (hl : news.length = m * size) (hnews : ∀ j u, news[j]? = some u → w.cell? (ad.add j) = some u) (h1 : ∀ u ∈ news, u.oneCell' = true)
    (h63 : n + m ≤ maxLen) (hbytes : (n + m) * bytes ≤ 140737488355328) (hbase : base ≤ w.heap.size)
    (h : ∀ v' w', w'.ownsRow base e size v' (n + m) (xs ++ news) → w.grownBy w' v.ownBlock → (v' = .slice none 0 0 ↔ v = .slice none 0 0 ∧ m = 0) → K (a.put o.dst v') w') :
    if Region.wanted o (yielded ops a.tmps) = true then Oper.wp P o a w K Q else E := by
  rw [if_pos (by simp [Region.wanted, hg])]
  exact wp_append_own w s x t ho base e i z size bytes ht hi hz hsize hby hzs hsz v n xs hs hown ad m c news hx hl hnews h1 h63 hbytes hbase h
theorem curM_app {B : Nat} {g : Nat} {w w4 : World} {o : Obj} {row : Option Nat} (c3 : Cursor B w g) (hg4 : (w.alloc o).grownBy w4 row) (h : ∀ j, row = some j → B ≤ j) : Cursor B w4 g :=
  cursor_keep c3 (((Below.refl _ w).alloc (cursor_bd c3).2 _).grown hg4 (by have := (cursor_bd c3).2; simp; omega) h)
theorem ownM_ne {w : World} {base g n : Nat} {v : Value} {xs : List Value} (h : w.ownsRow base 60 2 v n xs) (hg : g < base) : v.ownBlock = none ∨ v.ownBlock ≠ some g := by
  right; intro e; have := (h.lt g e).1; omega
theorem oneM (n : Int) (s : List UInt8) : ∀ u ∈ [Value.int .i64 n, .string ⟨s.toArray⟩], u.oneCell' = true := by
  intro u hu
  simp at hu
  rcases hu with rfl | rfl <;> rfl
theorem mem_snocM {fs : List Fld} {x : Fld} {m : Nat} (h : ∀ f ∈ fs, f.2.length ≤ m) (hx : x.2.length ≤ m) : ∀ f ∈ fs ++ [x], f.2.length ≤ m := by
  intro f hf
  rcases List.mem_append.1 hf with h1 | h1
  · exact h f h1
  · obtain rfl : f = x := by simpa using h1
    exact hx
/-- a block's cells under a draw that moves only the cursor -/
theorem far_cell {w w' : World} {g b o : Nat} {v : Value} (h : w.cell? ⟨b, o, none⟩ = some v) (hg : w.grownBy w' (some g)) (hb : b ≠ g) : w'.cell? ⟨b, o, none⟩ = some v := hg.cell (a := ⟨b, o, none⟩) h (by simpa using hb)
theorem far_froz {w w' : World} {g b o : Nat} (h : w.frozen? ⟨b, o, none⟩ = false) (hl : b < w.heap.size) (hg : w.grownBy w' (some g)) (hb : b ≠ g) : w'.frozen? ⟨b, o, none⟩ = false := (hg.frozen_far ⟨b, o, none⟩ hl (by simpa using hb)).trans h

set_option maxRecDepth 100000 in
set_option maxHeartbeats 800000 in
theorem numsM_any (w : World) :
    Calls Tryz.prog 80 #[] w fun e w' => e = .returned (.slice (some ⟨w.heap.size, 0, none⟩) 15 15) ∧ (∀ i, i < 15 → w'.cell? ⟨w.heap.size, i, none⟩ = some (.int .i64 (knowns.getD i 0))) ∧ Below w.heap.size w w' ∧ w'.heap.size = w.heap.size + 1 ∧ w.grownBy w' none := by
  have hz := lit_cells w knowns #[.int .i64 2, .int .i64 3, .int .i64 4, .int .i64 12, .int .i64 24, .int .i64 25, .int .i64 31, .int .i64 37, .int .i64 38, .int .i64 42, .int .i64 48, .int .i64 49, .int .i64 71, .int .i64 72, .int .i64 93] rfl
  go_enter Tryz.func80, Tryz.ntmps80
  go_wp2
  go_ret
  exact ⟨rfl, fun i hi => hz i hi, by go_grown, by simp, grown_alloc _ _ _⟩

/-- what such a draw hands back -/
def DrewM (B g : Nat) (w : World) (e : Ending) (w' : World) : Prop :=
  ∃ (kd : Int) (ao : Option Addr) (c : Nat) (fs : List Fld), e = .returned (.agg #[.int .i64 kd, .slice ao fs.length c]) ∧ fs.length ≤ 16 ∧ (∀ f ∈ fs, f.2.length ≤ 999) ∧ FldsAt w' ao fs ∧ Cursor B w' g ∧ w.grownBy w' (some g) ∧ ∀ x, ao = some x → g < x.block

theorem two_cells {W : World} {x y : Value} {b : Nat} (h0 : W.cell? ⟨b, 0, none⟩ = some x) (h1 : W.cell? ⟨b, 1, none⟩ = some y) : ∀ (j : Nat) (u : Value), [x, y][j]? = some u → W.cell? ((⟨b, 0, none⟩ : Addr).add j) = some u := by
  intro j u h
  match j with
  | 0 => simp at h; subst h; simpa [Addr.add] using h0
  | 1 => simp at h; subst h; simpa [Addr.add] using h1
  | j + 2 => simp at h
/-- what stands while a message is drawn: the result's box M, the message's box T, the numbers L, the fields in a row of their own, the cursor -/
structure MI (B g M T L base : Nat) (w : World) (kd : Int) (va : Option Addr) (vc : Nat) (fs : List Fld) (wr : World) : Prop where
  a0 : wr.cell? ⟨M, 0, none⟩ = some (.int .i64 0)
  a1 : wr.cell? ⟨M, 1, none⟩ = some (.slice none 0 0)
  z0 : wr.frozen? ⟨M, 0, none⟩ = false
  z1 : wr.frozen? ⟨M, 1, none⟩ = false
  t0 : wr.cell? ⟨T, 0, none⟩ = some (.int .i64 kd)
  t1 : wr.cell? ⟨T, 1, none⟩ = some (.slice va fs.length vc)
  y0 : wr.frozen? ⟨T, 0, none⟩ = false
  y1 : wr.frozen? ⟨T, 1, none⟩ = false
  ls : ∀ i, i < 15 → wr.cell? ⟨L, i, none⟩ = some (.int .i64 (knowns.getD i 0))
  ow : wr.ownsRow base 60 2 (.slice va fs.length vc) fs.length (fcells fs)
  cu : Cursor B wr g
  gr : w.grownBy wr (some g)
  sz : base ≤ wr.heap.size
theorem MI.draw {B g M T L base : Nat} {w : World} {kd : Int} {va : Option Addr} {vc : Nat} {fs : List Fld} {wr w5 : World} (h : MI B g M T L base w kd va vc fs wr) (hM : g < M) (hT : g < T) (hL : g < L) (hb : g < base) (hg : wr.grownBy w5 (some g)) (hc : Cursor B w5 g) : MI B g M T L base w kd va vc fs w5 :=
  ⟨far_cell h.a0 hg (by omega), far_cell h.a1 hg (by omega), far_froz h.z0 (World.block_lt_of_cell? wr _ h.a0) hg (by omega), far_froz h.z1 (World.block_lt_of_cell? wr _ h.a0) hg (by omega), far_cell h.t0 hg (by omega), far_cell h.t1 hg (by omega),
    far_froz h.y0 (World.block_lt_of_cell? wr _ h.t0) hg (by omega), far_froz h.y1 (World.block_lt_of_cell? wr _ h.t0) hg (by omega), fun i hi => far_cell (h.ls i hi) hg (by omega), h.ow.kept hg (ownM_ne h.ow hb), hc, h.gr.trans hg, Nat.le_trans h.sz hg.size⟩
end Go.Proofs.YtbncdhfmhokgeaaGreatDoor

/- The contract of the program's PackMessage. -/
namespace Go.Proofs.YtbncdhfmhokgeaaGreatDoor
open Go.RowKit

theorem iPutSet_F {ao : Option Addr} {cap : Nat} {fs : List Fld} {w : World} (hx : IntsAt w ao (numsF fs)) (hl : fs.length ≤ 1048576) :
    Calls Tryz.prog 33 #[.slice ao fs.length cap] w fun e w' => e = .returned (.tuple #[.string ⟨(setF fs).toArray⟩, .bool (putS (numsF fs)).isSome]) ∧ Below w.heap.size w w' := by
  have h := iPutSet_any ao cap (numsF fs) w hx (by rw [numsF_len]; exact hl)
  rwa [numsF_len] at h
theorem iMsg_is {kd : Int} {ao : Option Addr} {cap : Nat} {fs : List Fld} {w : World} {q : Bool} (hq : msgOk kd fs = q) (hz : FldsAt w ao fs) (hn : fs.length ≤ 1048576) (hd : sumF fs ≤ 1048576) :
    Calls Tryz.prog 35 #[.agg #[.int .i64 kd, .slice ao fs.length cap]] w fun e w' => e = .returned (.bool q) ∧ Below w.heap.size w w' := by
  rw [← hq]; exact iMessageOk_any kd ao cap fs w hz hn hd
theorem setF_len (fs : List Fld) : (setF fs).length ≤ 16 := putS_len _
theorem okF_take {fs : List Fld} {p : Int} (h : okF p fs = true) (k : Nat) : ∀ f ∈ fs.take k, fieldOk f.1 f.2 = true := fun f hf => (okF_mem h f (List.mem_of_mem_take hf)).1
theorem body_bd {fs : List Fld} (h : okF 1 fs = true) (k : Nat) : (bodyP (fs.take k)).length ≤ 100000 := by
  have h1 := bodyP_len (okF_take h k)
  have h2 : (fs.take k).length ≤ fs.length := by rw [List.length_take]; omega
  rcases okF_len h (by omega) with h3 | h3
  · rw [h3] at h1 h2 ⊢; simp [bodyP]
  · omega
theorem body_step (fs : List Fld) (k : Nat) (h : k < fs.length) : bodyP (fs.take (k + 1)) = bodyP (fs.take k) ++ putFld (at0 fs k).1 (at0 fs k).2 := by
  have e : at0 fs k = fs[k] := by simp [at0, List.getD_eq_getElem?_getD, h]
  rw [List.take_succ_eq_append_getElem h, bodyP_append, e, bodyP_one]

set_option maxRecDepth 100000 in
set_option maxHeartbeats 1600000 in
theorem iPack_any (kd : Int) (ao : Option Addr) (cap : Nat) (fs : List Fld) (w : World) (hz : FldsAt w ao fs) (hn : fs.length ≤ 1048576) (hd : sumF fs ≤ 1048576) (ht : Pow10 w) :
    Calls Tryz.prog 9 #[.agg #[.int .i64 kd, .slice ao fs.length cap]] w fun e w' => e = .returned (.tuple #[.string ⟨(packL kd fs).toArray⟩, .bool (msgOk kd fs)]) ∧ Below w.heap.size w w' := by
  have bel : Below w.heap.size w (w.alloc (.cells #[.int .i64 kd, .slice ao fs.length cap] 26)) := by go_grown
  have HT : Hid (Pow10 w) := ht
  go_enter Tryz.func9, Tryz.ntmps9
  go_wp2_with fail
  refine (numsOf_any _ _ _ _ (hz.below bel) hn).mono ?_
  rintro e w1 ⟨rfl, o1, b1⟩
  obtain ⟨c0, c1, q1, hs1⟩ := box2 b1
  have i1 : IntsAt w1 (some ⟨(w.alloc (.cells #[.int .i64 kd, .slice ao fs.length cap] 26)).heap.size, 0, none⟩) (numsF fs) := ints_of_own o1
  clear b1 o1 bel ht
  go_wp2_with fail
  refine (iPutSet_F (by simpa using i1) hn).mono ?_
  rintro e w2 ⟨rfl, b2⟩
  have q2 := next q1 b2
  obtain ⟨d0, d1⟩ := keep2 c0 c1 b2
  have hsb := hs1
  clear i1 b2 q1 c0 c1
  cases hm : msgOk kd fs
  · have HN : Hid _ := packL_no hm
    have HM : Hid _ := hm
    clear hm
    cases hs : (putS (numsF fs)).isSome
    · go_wp2
      go_ret2
      exact ⟨str_ok (by rw [HN.out]) HM.out.symm, q2⟩
    · go_wp2_with fail
      refine (iMsg_is HM.out (hz.below q2) hn hd).mono ?_
      rintro e w3 ⟨rfl, b3⟩
      have q3 := next q2 b3
      clear b3 q2
      go_wp2
      go_ret2
      exact ⟨str_ok (by rw [HN.out]) HM.out.symm, q3⟩
  · have HY : Hid _ := packL_yes hm
    have HM : Hid _ := hm
    have HOK : Hid _ := (msgOk_parts hm).2
    rw [set_ok hm]
    clear hm
    go_wp2_with fail
    refine (iMsg_is HM.out (hz.below q2) hn hd).mono ?_
    rintro e w3 ⟨rfl, b3⟩
    have q3 := next q2 b3
    obtain ⟨c0, c1⟩ := keep2 d0 d1 b3
    clear b3 q2 d0 d1
    go_wp2_with fail
    refine (iPadNum_any _ _ _ (HT.out.below q3)).mono ?_
    rintro e w4 ⟨rfl, b4⟩
    have q4 := next q3 b4
    obtain ⟨d0, d1⟩ := keep2 c0 c1 b4
    have hpl := padT_l kd 4
    have hsl := setF_len fs
    have HT4 : Hid (Pow10 w4) := HT.out.below q4
    have HC : Hid (∀ i, i < fs.length → ∃ b off, ao = some ⟨b, off, none⟩ ∧ b < w4.heap.size ∧ w4.cell? ⟨b, off + i * 2, none⟩ = some (.int .i64 (at0 fs i).1) ∧ w4.cell? ⟨b, off + i * 2 + 1, none⟩ = some (.string ⟨(at0 fs i).2.toArray⟩)) := by
      rcases hz.below q4 with rfl | ⟨b, off, rfl, hb, hcell⟩
      · intro i hi; simp at hi
      · exact fun i hi => ⟨b, off, rfl, hb, hcell i hi⟩
    have HQ : Hid _ := q4
    clear b4 q3 c0 c1 q4 hz
    obtain ⟨p, hp⟩ : ∃ p, padT kd 4 = p := ⟨_, rfl⟩
    obtain ⟨s, hs⟩ : ∃ s, setF fs = s := ⟨_, rfl⟩
    rw [hp] at hpl HY ⊢
    rw [hs] at hsl HY ⊢
    clear hp hs
    go_wp2
    rw [ba_append]
    obtain ⟨H, hH⟩ : ∃ H, p ++ s = H := ⟨_, rfl⟩
    have hHl : H.length ≤ 34 := by rw [← hH, List.length_append]; omega
    rw [hH] at HY ⊢
    clear hH hpl hsl
    go_loopw [6, 33] (fun v i wr => ∃ k : Nat, k ≤ fs.length ∧ i = .int .i64 k ∧ v = .string ⟨(H ++ bodyP (fs.take k)).toArray⟩ ∧ Below w4.heap.size w4 wr) (fun _ i _ => fs.length - (intOf i).toNat)
    case atStart => exact ⟨0, Nat.zero_le _, rfl, by simp [bodyP], Below.refl _ _⟩
    case round =>
      obtain ⟨k, hk, rfl, rfl, hbr⟩ := hrel
      clear d0 d1
      have hbd := body_bd HOK.out k
      by_cases hlt : k < fs.length
      · obtain ⟨b, off, rfl, hb, e1, e2⟩ := HC.out k hlt
        have c1 : wr.cell? ⟨b, off + k * 2, none⟩ = some (.int .i64 (at0 fs k).1) := (hbr.cell (p := ⟨b, off + k * 2, none⟩) hb).trans e1
        have c2 : wr.cell? ⟨b, off + k * 2 + 1, none⟩ = some (.string ⟨(at0 fs k).2.toArray⟩) := (hbr.cell (p := ⟨b, off + k * 2 + 1, none⟩) hb).trans e2
        have hki : (k : Int) < (fs.length : Int) := by omega
        have HSTEP : Hid _ := body_step fs k hlt
        have hfo : fieldOk (at0 fs k).1 (at0 fs k).2 = true := (okF_mem HOK.out _ (at0_mem hlt)).1
        obtain ⟨⟨n, dt⟩, hf⟩ : ∃ f, at0 fs k = f := ⟨_, rfl⟩
        rw [hf] at c1 c2 HSTEP hfo
        simp only at c1 c2 HSTEP hfo
        have HF : Hid _ := hfo
        have hfl := putFld_len hfo
        have bx : Below w4.heap.size w4 (wr.alloc (.cells #[.int .i64 n, .string ⟨dt.toArray⟩] 60)) := hbr.alloc hbr.size _
        have HTr : Hid (Pow10 (wr.alloc (.cells #[.int .i64 n, .string ⟨dt.toArray⟩] 60))) := HT4.out.below bx
        obtain ⟨B, hB⟩ : ∃ B, H ++ bodyP (fs.take k) = B := ⟨_, rfl⟩
        have hBl : B.length ≤ 200000 := by rw [← hB, List.length_append]; omega
        rw [hB]
        have HB : Hid _ := hB
        clear hf hfo e1 e2 hB
        go_wp2_with fail
        refine (formOf_any _ _).mono ?_
        rintro e w5 ⟨rfl, hw5⟩
        subst hw5
        generalize knB n = kn
        go_wp2_with fail
        refine (putData_any _ _ _ HF.out HTr.out).mono ?_
        rintro e w6 ⟨rfl, b6⟩
        have bb : Below w4.heap.size w4 w6 := bx.trans (b6.mono (by have := hbr.size; simp; omega))
        obtain ⟨pf, hpf⟩ : ∃ x, putFld n dt = x := ⟨_, rfl⟩
        rw [hpf] at hfl HSTEP ⊢
        clear hpf b6 HTr bx
        generalize formV n = fv
        go_wp2
        go_roundw
        case rel => exact ⟨k + 1, by omega, by go_num, by rw [ba_append, HSTEP.out, ← HB.out, List.append_assoc], bb⟩
        case measure => simp [intOf]; omega
      · have hke : k = fs.length := by omega
        subst hke
        have HE : Hid (packL kd fs = H ++ bodyP (fs.take fs.length)) := by rw [Hid, HY.out, List.take_of_length_le (Nat.le_refl _)]
        obtain ⟨B, hB⟩ : ∃ B, H ++ bodyP (fs.take fs.length) = B := ⟨_, rfl⟩
        rw [hB] at HE ⊢
        clear hB
        go_wp2
        go_ret2
        exact ⟨str_ok (by rw [HE.out]) HM.out.symm, HQ.out.trans (hbr.mono HQ.out.size)⟩

end Go.Proofs.YtbncdhfmhokgeaaGreatDoor

/- The contract of the program's MessageText. -/
namespace Go.Proofs.YtbncdhfmhokgeaaGreatDoor
open Go.RowKit

/-- the library's own bound lies in its variable -/
def MaxL (w : World) : Prop := ∃ m, w.cell? ⟨2, 0, none⟩ = some (.int .i64 m)
theorem MaxL.below {w w' : World} (h : MaxL w) (hb : Below w.heap.size w w') : MaxL w' := by
  obtain ⟨m, hm⟩ := h
  exact ⟨m, (hb.cell (p := ⟨2, 0, none⟩) (World.block_lt_of_cell? w _ hm)).trans hm⟩
theorem itoa_is {n : Int} {w : World} (h0 : 2 ≤ n) (h1 : n ≤ 93) (ht : Pow10 w) :
    Calls Tryz.prog 43 #[.int .i64 n] w fun e w' => e = .returned (.string ⟨(Lib.decDigits n.toNat).toArray⟩) ∧ Below w.heap.size w w' := by
  obtain ⟨a, rfl⟩ := Int.eq_ofNat_of_zero_le (show 0 ≤ n by omega)
  refine (Tryz.strconv_Itoa _ (by omega) (by omega) _ ht).mono ?_
  rintro e w1 ⟨rfl, k, os, rfl⟩
  exact ⟨one_str (by rw [Int.toNat_natCast, Lib.itoa, if_neg (by omega)]; rfl), Lib.below_grow _ _ (Nat.le_refl _) _ _⟩
theorem replace_is {d : List UInt8} {w : World} (hl : d.length ≤ 999) (hm : MaxL w) :
    Calls Tryz.prog 44 #[.string ⟨d.toArray⟩, .string ⟨#[32]⟩, .string ⟨#[95]⟩] w fun e w' => e = .returned (.string ⟨(blank d).toArray⟩) ∧ Below w.heap.size w w' := by
  obtain ⟨m, hm⟩ := hm
  have hc : Lib.countB ⟨d.toArray⟩ ⟨#[32]⟩ ≤ d.length := by
    have := Lib.countB_le ⟨#[32]⟩ (by decide) d.length ⟨d.toArray⟩ (by rw [ba_size]; omega)
    rwa [ba_size] at this
  have h := Tryz.strings_ReplaceAll ⟨d.toArray⟩ ⟨#[32]⟩ ⟨#[95]⟩ m w (by rw [ba_size]; omega) hm (by decide) (by rw [ba_size]; have : (⟨#[95]⟩ : ByteArray).size = 1 := rfl; rw [this]; omega)
  have e : Lib.replaceAll (⟨d.toArray⟩ : ByteArray).data.toList (⟨#[32]⟩ : ByteArray).data.toList (⟨#[95]⟩ : ByteArray).data.toList = blank d := by
    show Lib.replaceAll d [32] [95] = blank d
    exact replace_blank d
  rw [e] at h
  exact h

set_option maxRecDepth 100000 in
set_option maxHeartbeats 1600000 in
theorem iText_any (kd : Int) (ao : Option Addr) (cap : Nat) (fs : List Fld) (w : World) (hz : FldsAt w ao fs) (hn : fs.length ≤ 1048576) (hd : sumF fs ≤ 1048576) (ht : Pow10 w) (hm : MaxL w) :
    Calls Tryz.prog 11 #[.agg #[.int .i64 kd, .slice ao fs.length cap]] w fun e w' => e = .returned (.string ⟨(textL kd fs).toArray⟩) ∧ Below w.heap.size w w' := by
  have bel : Below w.heap.size w (w.alloc (.cells #[.int .i64 kd, .slice ao fs.length cap] 26)) := by go_grown
  have HT : Hid (Pow10 w) := ht
  have HX : Hid (MaxL w) := hm
  clear hm ht
  cases hm : msgOk kd fs
  · have HN : Hid _ := textL_no hm
    have HM : Hid _ := hm
    clear hm
    go_enter Tryz.func11, Tryz.ntmps11
    go_wp2_with fail
    refine (iMsg_is HM.out (hz.below bel) hn hd).mono ?_
    rintro e w3 ⟨rfl, b3⟩
    have q3 := (box2 b3).2.2.1
    clear b3 bel
    go_wp2
    go_ret
    exact ⟨one_str (by rw [HN.out]), q3⟩
  · have HY : Hid _ := textL_yes hm
    have HM : Hid _ := hm
    have HOK : Hid _ := (msgOk_parts hm).2
    clear hm
    go_enter Tryz.func11, Tryz.ntmps11
    go_wp2_with fail
    refine (iMsg_is HM.out (hz.below bel) hn hd).mono ?_
    rintro e w3 ⟨rfl, b3⟩
    obtain ⟨c0, c1, q3, hs3⟩ := box2 b3
    clear b3 bel
    go_wp2_with fail
    refine (iPadNum_any _ _ _ (HT.out.below q3)).mono ?_
    rintro e w4 ⟨rfl, b4⟩
    have q4 := next q3 b4
    obtain ⟨d0, d1⟩ := keep2 c0 c1 b4
    have hpl := padT_l kd 4
    have HT4 : Hid (Pow10 w4) := HT.out.below q4
    have HX4 : Hid (MaxL w4) := HX.out.below q4
    have HC : Hid (∀ i, i < fs.length → ∃ b off, ao = some ⟨b, off, none⟩ ∧ b < w4.heap.size ∧ w4.cell? ⟨b, off + i * 2, none⟩ = some (.int .i64 (at0 fs i).1) ∧ w4.cell? ⟨b, off + i * 2 + 1, none⟩ = some (.string ⟨(at0 fs i).2.toArray⟩)) := by
      rcases hz.below q4 with rfl | ⟨b, off, rfl, hb, hcell⟩
      · intro i hi; simp at hi
      · exact fun i hi => ⟨b, off, rfl, hb, hcell i hi⟩
    have HQ : Hid _ := q4
    clear b4 q3 c0 c1 q4 hz
    obtain ⟨H, hH⟩ : ∃ p, padT kd 4 = p := ⟨_, rfl⟩
    rw [hH] at hpl HY ⊢
    clear hH
    go_wp2
    go_loopw [3, 15] (fun v i wr => ∃ k : Nat, k ≤ fs.length ∧ i = .int .i64 k ∧ v = .string ⟨(H ++ txtB (fs.take k)).toArray⟩ ∧ Below w4.heap.size w4 wr) (fun _ i _ => fs.length - (intOf i).toNat)
    case atStart => exact ⟨0, Nat.zero_le _, rfl, by simp [txtB], Below.refl _ _⟩
    case round =>
      obtain ⟨k, hk, rfl, rfl, hbr⟩ := hrel
      clear d0 d1
      have hbd := txtB_bd HOK.out k
      by_cases hlt : k < fs.length
      · obtain ⟨b, off, rfl, hb, e1, e2⟩ := HC.out k hlt
        have c1 : wr.cell? ⟨b, off + k * 2, none⟩ = some (.int .i64 (at0 fs k).1) := (hbr.cell (p := ⟨b, off + k * 2, none⟩) hb).trans e1
        have c2 : wr.cell? ⟨b, off + k * 2 + 1, none⟩ = some (.string ⟨(at0 fs k).2.toArray⟩) := (hbr.cell (p := ⟨b, off + k * 2 + 1, none⟩) hb).trans e2
        have hki : (k : Int) < (fs.length : Int) := by omega
        have HSTEP : Hid _ := txtB_step fs k hlt
        have hfo : fieldOk (at0 fs k).1 (at0 fs k).2 = true := (okF_mem HOK.out _ (at0_mem hlt)).1
        obtain ⟨⟨n, dt⟩, hf⟩ : ∃ f, at0 fs k = f := ⟨_, rfl⟩
        rw [hf] at c1 c2 HSTEP hfo
        simp only at c1 c2 HSTEP hfo
        have hkn := known_K (ok_known hfo)
        have HN1 : Hid (2 ≤ n ∧ n ≤ 93) := ⟨by omega, by omega⟩
        have hdl : dt.length ≤ 999 := by rcases fieldOk_K hfo with h | h | h | h | h <;> omega
        have HTL : Hid ((Lib.decDigits n.toNat).length ≤ 3) := dec_len_pow 3 n.toNat (by omega) (by omega)
        have bx : Below w4.heap.size w4 (wr.alloc (.cells #[.int .i64 n, .string ⟨dt.toArray⟩] 60)) := hbr.alloc hbr.size _
        have HTr : Hid (Pow10 (wr.alloc (.cells #[.int .i64 n, .string ⟨dt.toArray⟩] 60))) := HT4.out.below bx
        have HXr : Hid (MaxL (wr.alloc (.cells #[.int .i64 n, .string ⟨dt.toArray⟩] 60))) := HX4.out.below bx
        obtain ⟨B, hB⟩ : ∃ B, H ++ txtB (fs.take k) = B := ⟨_, rfl⟩
        have hBl : B.length ≤ 200000 := by rw [← hB, List.length_append]; omega
        rw [hB]
        have HB : Hid _ := hB
        have hne := over_ne (wr.alloc (.cells #[.int .i64 n, .string ⟨dt.toArray⟩] 60))
        have g1 := over_cell (W := wr.alloc (.cells #[.int .i64 n, .string ⟨dt.toArray⟩] 60)) (a := ⟨wr.heap.size, 0, none⟩) (v := .int .i64 n) (by simp)
        have g2 := over_cell (W := wr.alloc (.cells #[.int .i64 n, .string ⟨dt.toArray⟩] 60)) (a := ⟨wr.heap.size, 1, none⟩) (v := .string ⟨dt.toArray⟩) (by simp)
        obtain ⟨ds, hds⟩ : ∃ x, Lib.decDigits n.toNat = x := ⟨_, rfl⟩
        obtain ⟨bk, hbk⟩ : ∃ x, blank dt = x := ⟨_, rfl⟩
        have hdsl : ds.length ≤ 3 := by rw [← hds]; exact HTL.out
        have hbkl : bk.length ≤ 999 := by rw [← hbk, blank_len]; exact hdl
        have HI : Hid (∀ z : Over (wr.alloc (.cells #[.int .i64 n, .string ⟨dt.toArray⟩] 60)), Calls Tryz.prog 43 #[.int .i64 n] z.x fun e w' => e = .returned (.string ⟨ds.toArray⟩) ∧ Below z.x.heap.size z.x w') := by
          intro z; rw [← hds]; exact itoa_is HN1.out.1 HN1.out.2 (HTr.out.below z.h)
        have HR : Hid (∀ z : Over (wr.alloc (.cells #[.int .i64 n, .string ⟨dt.toArray⟩] 60)), Calls Tryz.prog 44 #[.string ⟨dt.toArray⟩, .string ⟨#[32]⟩, .string ⟨#[95]⟩] z.x fun e w' => e = .returned (.string ⟨bk.toArray⟩) ∧ Below z.x.heap.size z.x w') := by
          intro z; rw [← hbk]; exact replace_is hdl (HXr.out.below z.h)
        have HTF : Hid (txtF n dt = [32] ++ ds ++ [61] ++ bk) := by rw [Hid, txtF, hds, hbk]
        clear hf hfo e1 e2 hB hkn hds hbk HTr HXr HTL
        go_wp2
        refine wp_region_over (by kernel_rfl) (by kernel_rfl) ?_
        repeat (go_big_quiet_step (first | exact over_of (HI.out _) | exact over_of (HR.out _)))
        refine wpQuiet_nil ?_
        rintro _ ⟨⟨w6, b6⟩, hw6⟩
        subst hw6
        have bb := bx.trans (b6.mono (by have := hbr.size; simp; omega))
        clear b6 bx g1 g2 HI HR hne
        go_wp2
        go_roundw
        case rel => exact ⟨k + 1, by omega, by go_num, by rw [HSTEP.out, HTF.out, ← List.append_assoc H, HB.out, show (⟨#[32]⟩ : ByteArray) = ⟨[32].toArray⟩ from rfl, show (⟨#[61]⟩ : ByteArray) = ⟨[61].toArray⟩ from rfl, ba_append, ba_append, ba_append, ba_append], bb⟩
        case measure => simp [intOf]; omega
      · have hke : k = fs.length := by omega
        subst hke
        have HE : Hid (textL kd fs = H ++ txtB (fs.take fs.length)) := by rw [Hid, HY.out, List.take_of_length_le (Nat.le_refl _)]
        obtain ⟨B, hB⟩ : ∃ B, H ++ txtB (fs.take fs.length) = B := ⟨_, rfl⟩
        rw [hB] at HE ⊢
        clear hB
        go_wp2
        go_ret
        exact ⟨one_str (by rw [HE.out]), HQ.out.trans (hbr.mono HQ.out.size)⟩

end Go.Proofs.YtbncdhfmhokgeaaGreatDoor
