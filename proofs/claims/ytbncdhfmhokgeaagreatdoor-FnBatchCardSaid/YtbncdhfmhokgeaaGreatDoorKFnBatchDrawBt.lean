/- What is drawn for the law of batches: a list of messages; a text near a batch's. Whatever the bytes. -/
import Derived.Test.YtbncdhfmhokgeaaGreatDoorKFnBatchDrawMw
import Derived.Test.YtbncdhfmhokgeaaGreatDoorJFnBatch3a
import Derived.Test.YtbncdhfmhokgeaaGreatDoorKFnBatchSBat
import Derived.Test.YtbncdhfmhokgeaaGreatDoorJFnBatch5a
namespace Go.Proofs.YtbncdhfmhokgeaaGreatDoor
open Go.RowKit
set_option maxRecDepth 100000

theorem MsR.grown {B g : Nat} {w w' : World} {v : Value} {xs : List MV} (h : MsR B w v xs) (hg : w.grownBy w' (some g)) (hb : g < B) : MsR B w' v xs :=
  ⟨keepG h.row hg (fun x hx e => by have := (h.row.lt x hx).1; cases e; omega), fun x hx => keepG (h.rows x hx) hg (fun y hy e => by have := ((h.rows x hx).lt y hy).1; cases e; omega), h.apart, h.pair⟩
theorem MsR.snoc2 {B N : Nat} {w1 w2 : World} {v v' : Value} {xs : List MV} {x : MV} (h : MsR B w1 v xs) (hv0 : ∀ g, v.ownBlock = some g → g < N) (hx0 : ∀ y ∈ xs, ∀ g, (slv y).ownBlock = some g → g < N) (hx : w1.ownsRow N 60 2 (slv x) x.fs.length (fcells x.fs)) (hB : B ≤ N)
    (ho : w2.ownsRow B 26 2 v' (xs.length + 1) (mcells xs ++ mcells [x])) (hg : w1.grownBy w2 v.ownBlock) (hv : v'.ownBlock = v.ownBlock ∨ ∃ g, v'.ownBlock = some g ∧ w1.heap.size ≤ g) : MsR B w2 v' (xs ++ [x]) := by
  have r1 : ∀ y ∈ xs, w2.ownsRow B 60 2 (slv y) y.fs.length (fcells y.fs) := fun y hy => keepG (h.rows y hy) hg (fun g hg => h.apart y hy g hg)
  have r2 : w2.ownsRow B 60 2 (slv x) x.fs.length (fcells x.fs) := lowerRow (keepG hx hg (fun g hgx e => by
    have := hv0 g e
    have := (hx.lt g hgx).1
    omega)) hB
  refine ⟨by rw [mcells_append, List.length_append]; exact ho, fun y hy => ?_, fun y hy g hgy e => ?_, ?_⟩
  · rcases List.mem_append.1 hy with hy | hy
    · exact r1 y hy
    · obtain rfl : y = x := by simpa using hy
      exact r2
  · rcases hv with hv | ⟨g', hv, hge⟩
    · rw [hv] at e
      rcases List.mem_append.1 hy with hy | hy
      · exact h.apart y hy g hgy e
      · obtain rfl : y = x := by simpa using hy
        have := hv0 g e
        have := (hx.lt g hgy).1
        omega
    · obtain rfl : g' = g := by rw [hv] at e; simpa using e
      rcases List.mem_append.1 hy with hy | hy
      · have := (h.rows y hy).lt g' hgy
        omega
      · obtain rfl : y = x := by simpa using hy
        have := hx.lt g' hgy
        omega
  · refine List.pairwise_append.2 ⟨h.pair, List.pairwise_singleton _ _, fun a ha b hb2 g hga e => ?_⟩
    obtain rfl : b = x := by simpa using hb2
    have h1 := hx0 a ha g hga
    have h2 := (hx.lt g e).1
    omega
/-- what such a draw hands back -/
def DrewB (B g : Nat) (w : World) (e : Ending) (w' : World) : Prop :=
  ∃ (ao : Option Addr) (c : Nat) (xs : List MV), e = .returned (.slice ao xs.length c) ∧ xs.length ≤ 5 ∧ SmallM xs ∧ GoodMs xs ∧ MsgsAt w' ao xs ∧ Cursor B w' g ∧ w.grownBy w' (some g)
theorem drewB_end {B g base : Nat} {w w' : World} {v : Value} {xs : List MV} (h : MsR base w' v xs) (hn : xs.length ≤ 5) (hs : SmallM xs) (hc : Cursor B w' g) (hg : w.grownBy w' (some g)) : DrewB B g w (.returned v) w' := by
  obtain ⟨ao, c, hv, hm⟩ := h.msgs
  subst hv
  exact ⟨ao, c, xs, rfl, hn, hs, fun x hx => good_own (h.rows x hx), hm, hc, hg⟩
theorem sumB_le {fs : List Fld} (hn : fs.length ≤ 16) (hd : ∀ f ∈ fs, f.2.length ≤ 999) : sumF fs ≤ 20000 := by
  have h : ∀ gs : List Fld, (∀ f ∈ gs, f.2.length ≤ 999) → sumF gs ≤ 999 * gs.length := by
    intro gs
    induction gs with
    | nil => intro _; simp [sumF]
    | cons f r ih =>
      intro hg
      have h1 := hg f (List.mem_cons_self ..)
      have h2 := ih (fun x hx => hg x (List.mem_cons_of_mem _ hx))
      simp only [sumF, List.map_cons, List.sum_cons, List.length_cons] at h2 ⊢
      omega
  have := h fs hd
  omega
theorem small_snoc {xs : List MV} {x : MV} (h : SmallM xs) (hx : x.fs.length ≤ 1048576 ∧ sumF x.fs ≤ 1048576) : SmallM (xs ++ [x]) := by
  intro y hy
  rcases List.mem_append.1 hy with h1 | h1
  · exact h y h1
  · obtain rfl : y = x := by simpa using h1
    exact hx
theorem msg_newB (w : World) (x : MV) (t : TypeId) : ∀ (j : Nat) (u : Value), (mcells [x])[j]? = some u → (w.alloc (.cells #[.int .i64 x.kd, .slice x.ao x.fs.length x.cap] t)).cell? ((⟨w.heap.size, 0, none⟩ : Addr).add j) = some u :=
  World.news_of_block (heap_alloc_new w (.cells #[.int .i64 x.kd, .slice x.ao x.fs.length x.cap] t))
theorem litB (w : World) : MsR w.heap.size (w.alloc (.cells #[] 26)) (.slice (some ⟨w.heap.size, 0, none⟩) 0 0) [] := ⟨World.ownsRow_lit w #[] 0 (Nat.le_refl _) (by unfold maxLen; omega) rfl, (fun x hx => by cases hx), (fun x hx => by cases hx), List.Pairwise.nil⟩

set_option maxHeartbeats 3200000 in
theorem batD_any {B : Nat} (g : Nat) (w : World) (hc : Cursor B w g) :
    Calls Tryz.prog 54 #[.pointer (some ⟨g, 0, none⟩)] w (DrewB B g w) := by
  have cb := cursor_bd hc
  have c0 := cursor_alloc hc (.cells #[] 26)
  have m00 := litB w
  go_enter Tryz.func54, Tryz.ntmps54
  go_wp2_with fail
  refine (below_any _ _ _ c0 (by omega)).mono ?_
  rintro e w1 ⟨m, rfl, m0, m1, c1, g1⟩
  have hm5 := m1 (by omega)
  have o1 : MsR w.heap.size w1 (.slice (some ⟨w.heap.size, 0, none⟩) 0 0) [] := m00.grown g1 (by omega)
  have b1 : w.grownBy w1 (some g) := (grown_alloc w _ _).trans g1
  obtain ⟨M, rfl⟩ := Int.eq_ofNat_of_zero_le m0
  have HO1 : Hid (MsR w.heap.size w1 (.slice (some ⟨w.heap.size, 0, none⟩) 0 0) []) := o1
  clear m00 c0 hc g1 m1 o1
  go_wp2
  go_loopw [3, 5] (fun s i wr => ∃ (v : Value) (k : Nat) (xs : List MV), v = s ∧ k ≤ M ∧ i = .int .i64 k ∧ xs.length ≤ k ∧ SmallM xs ∧ MsR w.heap.size wr v xs ∧ Cursor B wr g ∧ w.grownBy wr (some g)) (fun _ i _ => M - (intOf i).toNat)
  case atStart => exact ⟨_, 0, [], rfl, Nat.zero_le _, rfl, Nat.le_refl _, (fun f hf => by cases hf), HO1.out, c1, b1⟩
  case round =>
    obtain ⟨v, k, xs, hvs, hk, rfl, hxl, hsm, hM, hc, hbr⟩ := hrel
    subst hvs
    have HSM : Hid (SmallM xs) := hsm
    have HM : Hid (MsR w.heap.size wr v xs) := hM
    have hws : w.heap.size ≤ wr.heap.size := hbr.size
    clear HO1 c1 b1 hsm hM
    by_cases hlt : k < M
    · have hki : (k : Int) < (M : Int) := by omega
      go_wp2_with fail
      refine (msgD_any _ _ hc).mono ?_
      rintro e w2 ⟨kd, fa, fc, fs, rfl, h1, h2, h3, c2, g2, -, o2⟩
      have hs2 := g2.size
      have HM2 : Hid (MsR w.heap.size w2 v xs) := HM.out.grown g2 (by omega)
      have HO2 : Hid (w2.ownsRow wr.heap.size 60 2 (.slice fa fs.length fc) fs.length (fcells fs)) := o2
      have b2 := hbr.trans g2
      have hsf := sumB_le h1 h2
      have HS2 : Hid (SmallM (xs ++ [⟨kd, fa, fc, fs⟩])) := small_snoc HSM.out ⟨by simp only; omega, by simp only; omega⟩
      clear g2 o2 h3 hc h2 hbr HSM
      go_wp2_with (at_builtin; refine wpList_append_msg _ rfl (.tmp 14) (.tmp 17) rfl w.heap.size v xs.length (mcells xs) rfl (HM2.out.row.alloc _) ⟨kd, fa, fc, fs⟩ ⟨w2.heap.size, 0, none⟩ rfl (msg_newB w2 ⟨kd, fa, fc, fs⟩ _) (by omega) (by simp; omega) ?_; intro v5 w5 o5 g5 hv5)
      have hb5 : w.grownBy w5 (some g) := grown_far (b2.trans (grown_alloc w2 _ _)) g5 (fun j hj => (HM2.out.row.lt j hj).1)
      have hc5 : Cursor B w5 g := curM_app c2 g5 (fun j hj => by have := (HM2.out.row.lt j hj).1; omega)
      have HM5 : Hid (MsR w.heap.size w5 v5 (xs ++ [⟨kd, fa, fc, fs⟩])) := by
        have bW : Below w2.heap.size w2 (w2.alloc (.cells #[.int .i64 kd, .slice fa fs.length fc] 26)) := by go_grown
        refine (HM2.out.below bW).snoc2 (N := wr.heap.size) (x := ⟨kd, fa, fc, fs⟩) (fun j hj => (HM.out.row.lt j hj).2) (fun y hy j hj => ((HM.out.rows y hy).lt j hj).2) (keepRow HO2.out bW) hws o5 g5 ?_
        rcases hv5 with h | h
        · exact .inl h
        · exact .inr ⟨_, h, Nat.le_refl _⟩
      clear o5 g5 hv5 HM HM2 HO2 c2 b2
      go_wp2
      go_roundw
      case rel => exact ⟨_, k + 1, _, rfl, by omega, by go_num, by simp; omega, HS2.out, HM5.out, hc5, hb5⟩
      case measure => simp [intOf]; omega
    · have hki : ¬ (k : Int) < (M : Int) := by omega
      go_wp2
      go_ret
      exact drewB_end HM.out (by omega) HSM.out hc hbr

set_option maxHeartbeats 800000 in
theorem drawBt_any (a : Option Addr) (len cap : Nat) (zs : List Int) (w : World) (hr : IsRow .u8 w a len cap zs) (hn : len ≤ 1048576) :
    Calls Tryz.prog 17 #[.slice a len cap] w fun e w' => ∃ (ao : Option Addr) (c : Nat) (xs : List MV), e = .returned (.slice ao xs.length c) ∧ xs.length ≤ 5 ∧ SmallM xs ∧ GoodMs xs ∧ MsgsAt w' ao xs ∧ Below w.heap.size w w' := by
  go_enter Tryz.func17, Tryz.ntmps17
  go_wp2_with fail
  refine (new_any _ _ _ _ _ hr hn).mono ?_
  rintro e w1 ⟨rfl, c1, b1⟩
  clear hr
  go_wp2_with fail
  refine (batD_any _ _ c1).mono ?_
  rintro e w2 ⟨ao, c, xs, rfl, h1, h2, h3, h4, c2, g2⟩
  have q2 := bel_grown b1 g2 (Nat.le_refl _)
  clear g2 c1 b1 c2
  go_wp2
  go_ret
  exact ⟨ao, c, xs, rfl, h1, h2, h3, h4, q2⟩

theorem txts2 (w : World) (p q : List UInt8) (t : TypeId) : TxtsAt (w.alloc (.cells #[.string ⟨p.toArray⟩, .string ⟨q.toArray⟩] t)) (some ⟨w.heap.size, 0, none⟩) [p, q] := by
  refine .inr ⟨w.heap.size, 0, rfl, by simp, fun i hi => ?_⟩
  have hi2 : i < 2 := by simpa using hi
  rcases (show i = 0 ∨ i = 1 by omega) with rfl | rfl
  · simp [go_sem, nth]
  · simp [go_sem, nth]
theorem block_sizesB (rs : Recs) : ((blockL rs).length = 0 ∨ 1014 ≤ (blockL rs).length) ∧ (blockL rs).length ≤ 60000 := by
  cases h : blockOk rs
  · rw [blockL_no h]; simp
  · have h1 := blockL_shape h
    omega
theorem flds1 (w : World) (a : Int) (s : List UInt8) (ty : TypeId) : FldsAt (w.alloc (.cells #[.int .i64 a, .string ⟨s.toArray⟩] ty)) (some ⟨w.heap.size, 0, none⟩) [(a, s)] := by
  refine .inr ⟨w.heap.size, 0, rfl, by simp, fun i hi => ?_⟩
  obtain rfl : i = 0 := by simpa using hi
  exact ⟨by simp [go_sem, at0], by simp [go_sem, at0]⟩
theorem packs_bd (kd : Int) (fs : List Fld) : ∀ r ∈ [packL kd fs, packL kd fs], r.length ≤ 1099511627776 := by
  intro r hr
  have := packL_len kd fs
  simp at hr
  subst hr
  omega

set_option maxHeartbeats 6400000 in
theorem drawRB_any (a : Option Addr) (len cap : Nat) (zs : List Int) (w : World) (hr : IsRow .u8 w a len cap zs) (hn : len ≤ 1048576) :
    Calls Tryz.prog 24 #[.slice a len cap] w fun e w' => ∃ l : List UInt8, e = .returned (.string ⟨l.toArray⟩) ∧ l.length ≤ 100000 ∧ Below w.heap.size w w' := by
  go_enter Tryz.func24, Tryz.ntmps24
  go_wp2_with fail
  refine (new_any _ _ _ _ _ hr hn).mono ?_
  rintro e w1 ⟨rfl, c1, b1⟩
  clear hr
  go_wp2_with fail
  refine (batD_any _ _ c1).mono ?_
  rintro e w2 ⟨ao, c, xs, rfl, h1, h2, h3, h4, c2, g2⟩
  have q2 := bel_grown b1 g2 (Nat.le_refl _)
  have HC : Hid (Calls Tryz.prog 19 #[.slice ao xs.length c] w2 fun e w' => e = .returned (.tuple #[.string ⟨(batchL (plainM xs)).toArray⟩, .bool (batchOk (plainM xs))]) ∧ Below w2.heap.size w2 w') := sBatch_any ao c xs w2 h4 h2 h3 (by omega)
  obtain ⟨hb1, hb2⟩ := batchL_sizes (plainM xs)
  obtain ⟨S, hS⟩ : ∃ S, batchL (plainM xs) = S := ⟨_, rfl⟩
  obtain ⟨K, hK⟩ : ∃ K, batchOk (plainM xs) = K := ⟨_, rfl⟩
  rw [hS] at hb1 hb2 HC
  rw [hK] at HC
  clear g2 c1 b1 h2 h3 h4 hS hK
  go_wp2_with fail
  refine HC.out.mono ?_
  rintro e W4 ⟨rfl, b3⟩
  have q4 := next q2 b3
  have c4 := cursor_below c2 b3
  clear HC b3 q2 c2
  cases K
  · clear hb1 hb2
    have HC2 : Hid (Calls Tryz.prog 19 #[.slice (some ⟨W4.heap.size, 0, none⟩) 1 1] (W4.alloc (.cells #[.int .i64 1240, .slice none 0 0] 26)) fun e w' => e = .returned (.tuple #[.string ⟨(batchL [(1240, [])]).toArray⟩, .bool (batchOk [(1240, [])])]) ∧ Below (W4.alloc (.cells #[.int .i64 1240, .slice none 0 0] 26)).heap.size (W4.alloc (.cells #[.int .i64 1240, .slice none 0 0] 26)) w') :=
      sBatch_any (some ⟨W4.heap.size, 0, none⟩) 1 [⟨1240, none, 0, []⟩] (W4.alloc (.cells #[.int .i64 1240, .slice none 0 0] 26)) (one_msg (by simp) (by simp) (.inl rfl))
        (fun x hx => by rw [List.mem_singleton.1 hx]; exact ⟨by simp, by simp [sumF]⟩) (fun x hx => by rw [List.mem_singleton.1 hx]; exact .inl ⟨rfl, rfl, rfl⟩) (by simp)
    obtain ⟨hb1, hb2⟩ := batchL_sizes [(1240, [])]
    obtain ⟨S2, hS⟩ : ∃ S, batchL [(1240, [])] = S := ⟨_, rfl⟩
    obtain ⟨K, hK⟩ : ∃ K, batchOk [(1240, [])] = K := ⟨_, rfl⟩
    rw [hS] at hb1 hb2 HC2
    rw [hK] at HC2
    have bW : Below W4.heap.size W4 (W4.alloc (.cells #[.int .i64 1240, .slice none 0 0] 26)) := by go_grown
    clear hS hK
    go_wp2_with fail
    refine HC2.out.mono ?_
    rintro e W5 ⟨rfl, b5⟩
    have b45 := next bW b5
    replace q4 := next q4 b45
    replace c4 := cursor_below c4 b45
    clear HC2 b5 bW b45
    obtain ⟨X, hX⟩ : ∃ X, X = S2 := ⟨_, rfl⟩
    subst hX
    obtain ⟨V, hV⟩ : ∃ V, V = W5 := ⟨_, rfl⟩
    subst hV
    go_wp2_with fail
    refine (below_any _ 6 _ c4 (by omega)).mono ?_
    rintro e w5 ⟨z, rfl, z0, z1, c5, g5⟩
    have hz6 := z1 (by omega)
    have q5 := bel_grown q4 g5 (Nat.le_refl _)
    clear g5 c4 q4 z1
    by_cases k0 : z = 0
    · subst k0
      go_wp2_with fail
      refine (recsD_any _ _ c5).mono ?_
      rintro e w6 ⟨ro, rc, rs, rfl, r1, r2, r3, c6, g6⟩
      have q6 := bel_grown q5 g6 (Nat.le_refl _)
      have HD : Hid (∀ r ∈ rs, r.length ≤ 1099511627776) := fun r hr => by have := r2 r hr; omega
      clear g6 c5 q5 r2
      go_wp2_with fail
      refine (sBlock_any ro rc rs _ r3 (by omega) HD.out).mono ?_
      rintro e w7 ⟨rfl, b7⟩
      have q7 := next q6 b7
      have c7 := cursor_below c6 b7
      obtain ⟨d1, d2⟩ := block_sizesB rs
      obtain ⟨D, hD⟩ : ∃ D, blockL rs = D := ⟨_, rfl⟩
      rw [hD] at d1 d2 ⊢
      generalize blockOk rs = dk
      clear b7 q6 c6 r3 hD HD
      go_wp2_with fail
      refine (spoilD_any _ D _ c7 d1 d2).mono ?_
      rintro e w8 ⟨l, rfl, hl, c8, g8⟩
      have q8 := bel_grown q7 g8 (Nat.le_refl _)
      clear g8 c7 c8 q7
      go_wp2
      go_ret
      exact ⟨l, rfl, hl, q8⟩
    have k0' : (z == 0) = false := by simpa using k0
    by_cases k1 : z = 1
    · subst k1
      have HP : Hid (Calls Tryz.prog 10 #[.agg #[.int .i64 1644, .slice (some ⟨w5.heap.size, 0, none⟩) 1 1]] (w5.alloc (.cells #[.int .i64 24, .string ⟨#[54, 57, 55]⟩] 60)) fun e w' => e = .returned (.tuple #[.string ⟨(packL 1644 headF).toArray⟩, .bool true]) ∧ Below (w5.alloc (.cells #[.int .i64 24, .string ⟨#[54, 57, 55]⟩] 60)).heap.size (w5.alloc (.cells #[.int .i64 24, .string ⟨#[54, 57, 55]⟩] 60)) w') := by
        have h5 := sPack_any 1644 (some ⟨w5.heap.size, 0, none⟩) 1 headF (w5.alloc (.cells #[.int .i64 24, .string ⟨#[54, 57, 55]⟩] 60)) (flds1 w5 24 [54, 57, 55] _) (by decide) (by decide)
        rw [head_ok] at h5; exact h5
      have bx : Below w5.heap.size w5 (w5.alloc (.cells #[.int .i64 24, .string ⟨#[54, 57, 55]⟩] 60)) := by go_grown
      go_wp2_with fail
      refine HP.out.mono ?_
      rintro e w6 ⟨rfl, b6⟩
      have b56 := next bx b6
      have q6 := next q5 b56
      have c6 := cursor_below c5 b56
      have HPB : Hid _ := packs_bd 1644 headF
      obtain ⟨P, hP⟩ : ∃ P, packL 1644 headF = P := ⟨_, rfl⟩
      rw [hP] at HPB ⊢
      have by6 : Below w6.heap.size w6 (w6.alloc (.cells #[.string ⟨P.toArray⟩, .string ⟨P.toArray⟩] 9)) := by go_grown
      have HB : Hid (Calls Tryz.prog 63 #[.slice (some ⟨w6.heap.size, 0, none⟩) 2 2] (w6.alloc (.cells #[.string ⟨P.toArray⟩, .string ⟨P.toArray⟩] 9)) fun e w' => e = .returned (.tuple #[.string ⟨(blockL [P, P]).toArray⟩, .bool (blockOk [P, P])]) ∧ Below (w6.alloc (.cells #[.string ⟨P.toArray⟩, .string ⟨P.toArray⟩] 9)).heap.size (w6.alloc (.cells #[.string ⟨P.toArray⟩, .string ⟨P.toArray⟩] 9)) w') :=
        sBlock_any (some ⟨w6.heap.size, 0, none⟩) 2 [P, P] _ (txts2 w6 P P _) (by simp) HPB.out
      obtain ⟨d1, d2⟩ := block_sizesB [P, P]
      obtain ⟨D, hD⟩ : ∃ D, blockL [P, P] = D := ⟨_, rfl⟩
      obtain ⟨dk, hdk⟩ : ∃ dk, blockOk [P, P] = dk := ⟨_, rfl⟩
      rw [hD] at d1 d2 HB
      rw [hdk] at HB
      clear HP b6 bx b56 q5 c5 hP HPB hD hdk
      go_wp2_with fail
      refine HB.out.mono ?_
      rintro e w7 ⟨rfl, b7⟩
      have b67 := next by6 b7
      have q7 := next q6 b67
      have c7 := cursor_below c6 b67
      clear b7 by6 b67 q6 c6 HB
      go_wp2_with fail
      refine (spoilD_any _ D _ c7 d1 d2).mono ?_
      rintro e w8 ⟨l, rfl, hl, c8, g8⟩
      have q8 := bel_grown q7 g8 (Nat.le_refl _)
      clear g8 c7 c8 q7
      go_wp2
      go_ret
      exact ⟨l, rfl, hl, q8⟩
    have k1' : (z == 1) = false := by simpa using k1
    by_cases k2 : z = 2
    · subst k2
      go_wp2_with fail
      refine (l06Head_any _).mono ?_
      rintro e w55 ⟨rfl, f5, bx⟩
      have HP : Hid (Calls Tryz.prog 10 #[.agg #[.int .i64 1644, .slice (some ⟨w5.heap.size + 1, 0, none⟩) 2 2]] w55 fun e w' => e = .returned (.tuple #[.string ⟨(packL 1644 head1).toArray⟩, .bool true]) ∧ Below w55.heap.size w55 w') := by
        have h5 := sPack_any 1644 (some ⟨w5.heap.size + 1, 0, none⟩) 2 head1 w55 f5 (by decide) (by decide)
        rw [head1_ok] at h5; exact h5
      clear f5
      go_wp2_with fail
      refine HP.out.mono ?_
      rintro e w6 ⟨rfl, b6⟩
      have b56 := next bx b6
      have q6 := next q5 b56
      have c6 := cursor_below c5 b56
      have HPB : Hid _ := packs_bd 1644 head1
      obtain ⟨P, hP⟩ : ∃ P, packL 1644 head1 = P := ⟨_, rfl⟩
      rw [hP] at HPB ⊢
      have by6 : Below w6.heap.size w6 (w6.alloc (.cells #[.string ⟨P.toArray⟩, .string ⟨P.toArray⟩] 9)) := by go_grown
      have HB : Hid (Calls Tryz.prog 63 #[.slice (some ⟨w6.heap.size, 0, none⟩) 2 2] (w6.alloc (.cells #[.string ⟨P.toArray⟩, .string ⟨P.toArray⟩] 9)) fun e w' => e = .returned (.tuple #[.string ⟨(blockL [P, P]).toArray⟩, .bool (blockOk [P, P])]) ∧ Below (w6.alloc (.cells #[.string ⟨P.toArray⟩, .string ⟨P.toArray⟩] 9)).heap.size (w6.alloc (.cells #[.string ⟨P.toArray⟩, .string ⟨P.toArray⟩] 9)) w') :=
        sBlock_any (some ⟨w6.heap.size, 0, none⟩) 2 [P, P] _ (txts2 w6 P P _) (by simp) HPB.out
      obtain ⟨d1, d2⟩ := block_sizesB [P, P]
      obtain ⟨D, hD⟩ : ∃ D, blockL [P, P] = D := ⟨_, rfl⟩
      obtain ⟨dk, hdk⟩ : ∃ dk, blockOk [P, P] = dk := ⟨_, rfl⟩
      rw [hD] at d1 d2 HB
      rw [hdk] at HB
      clear HP b6 bx b56 q5 c5 hP HPB hD hdk
      go_wp2_with fail
      refine HB.out.mono ?_
      rintro e w7 ⟨rfl, b7⟩
      have b67 := next by6 b7
      have q7 := next q6 b67
      have c7 := cursor_below c6 b67
      clear b7 by6 b67 q6 c6 HB
      go_wp2_with fail
      refine (spoilD_any _ D _ c7 d1 d2).mono ?_
      rintro e w8 ⟨l, rfl, hl, c8, g8⟩
      have q8 := bel_grown q7 g8 (Nat.le_refl _)
      clear g8 c7 c8 q7
      go_wp2
      go_ret
      exact ⟨l, rfl, hl, q8⟩
    have k2' : (z == 2) = false := by simpa using k2
    go_wp2_with fail
    refine (spoilD_any _ X _ c5 hb1 hb2).mono ?_
    rintro e w8 ⟨l, rfl, hl, c8, g8⟩
    have q8 := bel_grown q5 g8 (Nat.le_refl _)
    clear g8 c5 c8 q5
    go_wp2
    go_ret
    exact ⟨l, rfl, hl, q8⟩
  · obtain ⟨X, hX⟩ : ∃ X, X = S := ⟨_, rfl⟩
    subst hX
    obtain ⟨V, hV⟩ : ∃ V, V = W4 := ⟨_, rfl⟩
    subst hV
    go_wp2_with fail
    refine (below_any _ 6 _ c4 (by omega)).mono ?_
    rintro e w5 ⟨z, rfl, z0, z1, c5, g5⟩
    have hz6 := z1 (by omega)
    have q5 := bel_grown q4 g5 (Nat.le_refl _)
    clear g5 c4 q4 z1
    by_cases k0 : z = 0
    · subst k0
      go_wp2_with fail
      refine (recsD_any _ _ c5).mono ?_
      rintro e w6 ⟨ro, rc, rs, rfl, r1, r2, r3, c6, g6⟩
      have q6 := bel_grown q5 g6 (Nat.le_refl _)
      have HD : Hid (∀ r ∈ rs, r.length ≤ 1099511627776) := fun r hr => by have := r2 r hr; omega
      clear g6 c5 q5 r2
      go_wp2_with fail
      refine (sBlock_any ro rc rs _ r3 (by omega) HD.out).mono ?_
      rintro e w7 ⟨rfl, b7⟩
      have q7 := next q6 b7
      have c7 := cursor_below c6 b7
      obtain ⟨d1, d2⟩ := block_sizesB rs
      obtain ⟨D, hD⟩ : ∃ D, blockL rs = D := ⟨_, rfl⟩
      rw [hD] at d1 d2 ⊢
      generalize blockOk rs = dk
      clear b7 q6 c6 r3 hD HD
      go_wp2_with fail
      refine (spoilD_any _ D _ c7 d1 d2).mono ?_
      rintro e w8 ⟨l, rfl, hl, c8, g8⟩
      have q8 := bel_grown q7 g8 (Nat.le_refl _)
      clear g8 c7 c8 q7
      go_wp2
      go_ret
      exact ⟨l, rfl, hl, q8⟩
    have k0' : (z == 0) = false := by simpa using k0
    by_cases k1 : z = 1
    · subst k1
      have HP : Hid (Calls Tryz.prog 10 #[.agg #[.int .i64 1644, .slice (some ⟨w5.heap.size, 0, none⟩) 1 1]] (w5.alloc (.cells #[.int .i64 24, .string ⟨#[54, 57, 55]⟩] 60)) fun e w' => e = .returned (.tuple #[.string ⟨(packL 1644 headF).toArray⟩, .bool true]) ∧ Below (w5.alloc (.cells #[.int .i64 24, .string ⟨#[54, 57, 55]⟩] 60)).heap.size (w5.alloc (.cells #[.int .i64 24, .string ⟨#[54, 57, 55]⟩] 60)) w') := by
        have h5 := sPack_any 1644 (some ⟨w5.heap.size, 0, none⟩) 1 headF (w5.alloc (.cells #[.int .i64 24, .string ⟨#[54, 57, 55]⟩] 60)) (flds1 w5 24 [54, 57, 55] _) (by decide) (by decide)
        rw [head_ok] at h5; exact h5
      have bx : Below w5.heap.size w5 (w5.alloc (.cells #[.int .i64 24, .string ⟨#[54, 57, 55]⟩] 60)) := by go_grown
      go_wp2_with fail
      refine HP.out.mono ?_
      rintro e w6 ⟨rfl, b6⟩
      have b56 := next bx b6
      have q6 := next q5 b56
      have c6 := cursor_below c5 b56
      have HPB : Hid _ := packs_bd 1644 headF
      obtain ⟨P, hP⟩ : ∃ P, packL 1644 headF = P := ⟨_, rfl⟩
      rw [hP] at HPB ⊢
      have by6 : Below w6.heap.size w6 (w6.alloc (.cells #[.string ⟨P.toArray⟩, .string ⟨P.toArray⟩] 9)) := by go_grown
      have HB : Hid (Calls Tryz.prog 63 #[.slice (some ⟨w6.heap.size, 0, none⟩) 2 2] (w6.alloc (.cells #[.string ⟨P.toArray⟩, .string ⟨P.toArray⟩] 9)) fun e w' => e = .returned (.tuple #[.string ⟨(blockL [P, P]).toArray⟩, .bool (blockOk [P, P])]) ∧ Below (w6.alloc (.cells #[.string ⟨P.toArray⟩, .string ⟨P.toArray⟩] 9)).heap.size (w6.alloc (.cells #[.string ⟨P.toArray⟩, .string ⟨P.toArray⟩] 9)) w') :=
        sBlock_any (some ⟨w6.heap.size, 0, none⟩) 2 [P, P] _ (txts2 w6 P P _) (by simp) HPB.out
      obtain ⟨d1, d2⟩ := block_sizesB [P, P]
      obtain ⟨D, hD⟩ : ∃ D, blockL [P, P] = D := ⟨_, rfl⟩
      obtain ⟨dk, hdk⟩ : ∃ dk, blockOk [P, P] = dk := ⟨_, rfl⟩
      rw [hD] at d1 d2 HB
      rw [hdk] at HB
      clear HP b6 bx b56 q5 c5 hP HPB hD hdk
      go_wp2_with fail
      refine HB.out.mono ?_
      rintro e w7 ⟨rfl, b7⟩
      have b67 := next by6 b7
      have q7 := next q6 b67
      have c7 := cursor_below c6 b67
      clear b7 by6 b67 q6 c6 HB
      go_wp2_with fail
      refine (spoilD_any _ D _ c7 d1 d2).mono ?_
      rintro e w8 ⟨l, rfl, hl, c8, g8⟩
      have q8 := bel_grown q7 g8 (Nat.le_refl _)
      clear g8 c7 c8 q7
      go_wp2
      go_ret
      exact ⟨l, rfl, hl, q8⟩
    have k1' : (z == 1) = false := by simpa using k1
    by_cases k2 : z = 2
    · subst k2
      go_wp2_with fail
      refine (l06Head_any _).mono ?_
      rintro e w55 ⟨rfl, f5, bx⟩
      have HP : Hid (Calls Tryz.prog 10 #[.agg #[.int .i64 1644, .slice (some ⟨w5.heap.size + 1, 0, none⟩) 2 2]] w55 fun e w' => e = .returned (.tuple #[.string ⟨(packL 1644 head1).toArray⟩, .bool true]) ∧ Below w55.heap.size w55 w') := by
        have h5 := sPack_any 1644 (some ⟨w5.heap.size + 1, 0, none⟩) 2 head1 w55 f5 (by decide) (by decide)
        rw [head1_ok] at h5; exact h5
      clear f5
      go_wp2_with fail
      refine HP.out.mono ?_
      rintro e w6 ⟨rfl, b6⟩
      have b56 := next bx b6
      have q6 := next q5 b56
      have c6 := cursor_below c5 b56
      have HPB : Hid _ := packs_bd 1644 head1
      obtain ⟨P, hP⟩ : ∃ P, packL 1644 head1 = P := ⟨_, rfl⟩
      rw [hP] at HPB ⊢
      have by6 : Below w6.heap.size w6 (w6.alloc (.cells #[.string ⟨P.toArray⟩, .string ⟨P.toArray⟩] 9)) := by go_grown
      have HB : Hid (Calls Tryz.prog 63 #[.slice (some ⟨w6.heap.size, 0, none⟩) 2 2] (w6.alloc (.cells #[.string ⟨P.toArray⟩, .string ⟨P.toArray⟩] 9)) fun e w' => e = .returned (.tuple #[.string ⟨(blockL [P, P]).toArray⟩, .bool (blockOk [P, P])]) ∧ Below (w6.alloc (.cells #[.string ⟨P.toArray⟩, .string ⟨P.toArray⟩] 9)).heap.size (w6.alloc (.cells #[.string ⟨P.toArray⟩, .string ⟨P.toArray⟩] 9)) w') :=
        sBlock_any (some ⟨w6.heap.size, 0, none⟩) 2 [P, P] _ (txts2 w6 P P _) (by simp) HPB.out
      obtain ⟨d1, d2⟩ := block_sizesB [P, P]
      obtain ⟨D, hD⟩ : ∃ D, blockL [P, P] = D := ⟨_, rfl⟩
      obtain ⟨dk, hdk⟩ : ∃ dk, blockOk [P, P] = dk := ⟨_, rfl⟩
      rw [hD] at d1 d2 HB
      rw [hdk] at HB
      clear HP b6 bx b56 q5 c5 hP HPB hD hdk
      go_wp2_with fail
      refine HB.out.mono ?_
      rintro e w7 ⟨rfl, b7⟩
      have b67 := next by6 b7
      have q7 := next q6 b67
      have c7 := cursor_below c6 b67
      clear b7 by6 b67 q6 c6 HB
      go_wp2_with fail
      refine (spoilD_any _ D _ c7 d1 d2).mono ?_
      rintro e w8 ⟨l, rfl, hl, c8, g8⟩
      have q8 := bel_grown q7 g8 (Nat.le_refl _)
      clear g8 c7 c8 q7
      go_wp2
      go_ret
      exact ⟨l, rfl, hl, q8⟩
    have k2' : (z == 2) = false := by simpa using k2
    go_wp2_with fail
    refine (spoilD_any _ X _ c5 hb1 hb2).mono ?_
    rintro e w8 ⟨l, rfl, hl, c8, g8⟩
    have q8 := bel_grown q5 g8 (Nat.le_refl _)
    clear g8 c5 c8 q5
    go_wp2
    go_ret
    exact ⟨l, rfl, hl, q8⟩

end Go.Proofs.YtbncdhfmhokgeaaGreatDoor
