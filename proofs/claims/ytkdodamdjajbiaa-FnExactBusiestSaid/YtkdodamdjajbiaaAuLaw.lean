/- The laws' own small functions over authorizations: how much they take, their copies, whether two lists are the same. -/
import Derived.Test.YtkdodamdjajbiaaAuOwn
import Derived.Deep.RegionWith
namespace Go.Proofs.Ytkdodamdjajbiaa
open Go.RowKit
set_option maxRecDepth 100000

def leftA (l : List UInt8) (left : Int) : Int := if left - (l.length : Int) < 0 then -1 else left - (l.length : Int)

set_option maxHeartbeats 400000 in
theorem szAuth_any (a : Au) (left : Int) (w : World) (hl : left ≤ 1048576 ∧ 0 ≤ left) (hm : a.ref.length ≤ 9223372036854775807) :
    Calls Try.prog 54 #[auv a, .int .i64 left] w fun e w' => e = .returned (.int .i64 (leftA a.ref left)) ∧ Below w.heap.size w w' := by
  obtain ⟨r, i, c, m, d, u⟩ := a
  simp only [auv] at hm ⊢
  by_cases h : left - (r.length : Int) < 0
  · have HE : Hid (leftA r left = -1) := if_pos h
    go_enter Try.func54, Try.ntmps54
    go_wp2
    go_ret
    exact ⟨one_int HE.out.symm, (Below.refl _ _).alloc (Nat.le_refl _) _⟩
  · have HE : Hid (leftA r left = left - (r.length : Int)) := if_neg h
    go_enter Try.func54, Try.ntmps54
    go_wp2
    go_ret
    exact ⟨one_int HE.out.symm, (Below.refl _ _).alloc (Nat.le_refl _) _⟩

set_option maxHeartbeats 1600000 in
theorem toAuth_any (a : Au) (w : World) :
    Calls Try.prog 56 #[auv a] w fun e w' => e = .returned (auv a) ∧ Below w.heap.size w w' := by
  obtain ⟨r, i, c, m, d, u⟩ := a
  simp only [auv]
  go_enter Try.func56, Try.ntmps56
  go_wp2
  go_returns
  refine ⟨rfl, ?_⟩
  go_grown

/-- what is left behind the texts of all -/
def leftAs : List Au → Int → Int
  | [], left => left
  | a :: r, left => if left - (a.ref.length : Int) < 0 then -1 else leftAs r (left - (a.ref.length : Int))
def leftAL (az : List Au) (left : Int) : Int := if left - (az.length : Int) < 0 then -1 else leftAs az (left - (az.length : Int))
theorem leftAs_step (az : List Au) (k : Nat) (left : Int) (h : k < az.length) : leftAs (az.drop k) left = if left - ((auAt az k).ref.length : Int) < 0 then -1 else leftAs (az.drop (k + 1)) (left - ((auAt az k).ref.length : Int)) := by
  rw [List.drop_eq_getElem_cons h, auAt_is h]; rfl
def sumR (az : List Au) : Nat := (az.map fun a => a.ref.length).sum
theorem leftAs_sum (az : List Au) : ∀ left, 0 ≤ leftAs az left → 0 ≤ left → (sumR az : Int) ≤ left ∧ leftAs az left ≤ left := by
  induction az with
  | nil => intro left _ h; exact ⟨by simpa [sumR] using h, Int.le_refl _⟩
  | cons f r ih =>
    intro left h hl
    simp only [leftAs] at h ⊢
    split at h
    · omega
    · rename_i hh
      rw [if_neg hh]
      have := ih _ h (by omega)
      simp only [sumR, List.map_cons, List.sum_cons] at this ⊢
      omega
theorem leftAL_sum {az : List Au} {left : Int} (h : 0 ≤ leftAL az left) : (az.length : Int) + sumR az ≤ left ∧ leftAL az left ≤ left := by
  unfold leftAL at h ⊢
  split at h
  · omega
  · rename_i hh
    rw [if_neg hh]
    have := leftAs_sum az _ h (by omega)
    omega
theorem sumR_mem {az : List Au} {a : Au} (h : a ∈ az) : a.ref.length ≤ sumR az := by
  induction az with
  | nil => cases h
  | cons g r ih =>
    simp only [sumR, List.map_cons, List.sum_cons] at ih ⊢
    rcases List.mem_cons.1 h with rfl | hr
    · omega
    · have := ih hr; omega

set_option maxHeartbeats 1600000 in
theorem szAuthS_gen (ao : Option Addr) (cap : Nat) (az : List Au) (left : Int) (w : World) (hz : AuthsAt w ao az) (hd : AuthsBd az) (hl0 : 0 ≤ left) (hl1 : left ≤ 1048576) :
    Calls Try.prog 26 #[.slice ao az.length cap, .int .i64 left] w fun e w' => e = .returned (.int .i64 (leftAL az left)) ∧ Below w.heap.size w w' := by
  have hn : az.length ≤ 9223372036854775807 := by have := hd.1; unfold maxLen at this; omega
  have HD : Hid (∀ k, k < az.length → (auAt az k).ref.length ≤ 9223372036854775807) := by
    intro k hk; have := (hd.2 _ (auAt_mem hk)).1; unfold maxLen at this; omega
  clear hd
  by_cases hneg : left - (az.length : Int) < 0
  · have HE : Hid (leftAL az left = -1) := if_pos hneg
    go_enter Try.func26, Try.ntmps26
    go_wp2
    go_ret
    exact ⟨one_int HE.out.symm, Below.refl _ _⟩
  · have HE : Hid (leftAL az left = leftAs az (left - (az.length : Int))) := if_neg hneg
    rcases hz with rfl | ⟨b, off, rfl, hb, hcell⟩
    · go_enter Try.func26, Try.ntmps26
      go_wp2
      refine wp_loop_rounds 1 ?_
      rw [rounds_succ]
      go_wp2
      go_ret
      exact ⟨one_int (by rw [HE.out]; simp [leftAs]), Below.refl _ _⟩
    · have HC : Hid (∀ i, i < az.length → w.cell? ⟨b, off + i * 6, none⟩ = some (.string ⟨(auAt az i).ref.toArray⟩) ∧ w.cell? ⟨b, off + i * 6 + 1, none⟩ = some (.int .i64 (auAt az i).iss) ∧ w.cell? ⟨b, off + i * 6 + 2, none⟩ = some (.int .i64 (auAt az i).cur) ∧ w.cell? ⟨b, off + i * 6 + 3, none⟩ = some (.int .i64 (auAt az i).am) ∧ w.cell? ⟨b, off + i * 6 + 4, none⟩ = some (.int .i64 (auAt az i).day) ∧ w.cell? ⟨b, off + i * 6 + 5, none⟩ = some (.bool (auAt az i).used)) := hcell
      clear hcell
      go_enter Try.func26, Try.ntmps26
      go_wp2
      go_loopw [1, 5] (fun v i wr => ∃ (k : Nat) (l : Int), k ≤ az.length ∧ i = .int .i64 k ∧ v = .int .i64 l ∧ 0 ≤ l ∧ l ≤ 1048576 ∧ leftAL az left = leftAs (az.drop k) l ∧ Below w.heap.size w wr) (fun _ i _ => az.length - (intOf i).toNat)
      case atStart => exact ⟨0, _, Nat.zero_le _, rfl, rfl, by omega, by omega, HE.out, Below.refl _ _⟩
      case round =>
        obtain ⟨k, l, hk, rfl, rfl, h0, h1, hleft, hbr⟩ := hrel
        by_cases hlt : k < az.length
        · have x0 : wr.cell? ⟨b, off + k * 6, none⟩ = some (.string ⟨(auAt az k).ref.toArray⟩) := (hbr.cell (p := ⟨b, off + k * 6, none⟩) hb).trans (HC.out k hlt).1
          have x1 : wr.cell? ⟨b, off + k * 6 + 1, none⟩ = some (.int .i64 (auAt az k).iss) := (hbr.cell (p := ⟨b, off + k * 6 + 1, none⟩) hb).trans (HC.out k hlt).2.1
          have x2 : wr.cell? ⟨b, off + k * 6 + 2, none⟩ = some (.int .i64 (auAt az k).cur) := (hbr.cell (p := ⟨b, off + k * 6 + 2, none⟩) hb).trans (HC.out k hlt).2.2.1
          have x3 : wr.cell? ⟨b, off + k * 6 + 3, none⟩ = some (.int .i64 (auAt az k).am) := (hbr.cell (p := ⟨b, off + k * 6 + 3, none⟩) hb).trans (HC.out k hlt).2.2.2.1
          have x4 : wr.cell? ⟨b, off + k * 6 + 4, none⟩ = some (.int .i64 (auAt az k).day) := (hbr.cell (p := ⟨b, off + k * 6 + 4, none⟩) hb).trans (HC.out k hlt).2.2.2.2.1
          have x5 : wr.cell? ⟨b, off + k * 6 + 5, none⟩ = some (.bool (auAt az k).used) := (hbr.cell (p := ⟨b, off + k * 6 + 5, none⟩) hb).trans (HC.out k hlt).2.2.2.2.2
          have hki : (k : Int) < (az.length : Int) := by omega
          have hst := leftAs_step az k l hlt
          have hdk := HD.out k hlt
          obtain ⟨⟨r, i, c, m, d, u⟩, hf⟩ : ∃ f, auAt az k = f := ⟨_, rfl⟩
          rw [hf] at x0 x1 x2 x3 x4 x5 hst hdk
          simp only at x0 x1 x2 x3 x4 x5 hst hdk
          by_cases hng : l - (r.length : Int) < 0
          · have HN : Hid (leftAL az left = -1) := by rw [Hid, hleft, hst, if_pos hng]
            have HF : Hid (leftA r l = -1) := if_pos hng
            clear hst hf hleft
            go_wp2_with fail
            refine (szAuth_any ⟨r, i, c, m, d, u⟩ _ _ ⟨h1, h0⟩ hdk).mono ?_
            rintro e w1 ⟨rfl, b1⟩
            simp only
            rw [HF.out]
            go_wp2
            go_ret
            exact ⟨one_int HN.out.symm, hbr.trans (b1.mono hbr.size)⟩
          · have HN : Hid (leftAL az left = leftAs (az.drop (k + 1)) (l - (r.length : Int))) := by rw [Hid, hleft, hst, if_neg hng]
            have HF : Hid (leftA r l = l - (r.length : Int)) := if_neg hng
            clear hst hf hleft
            go_wp2_with fail
            refine (szAuth_any ⟨r, i, c, m, d, u⟩ _ _ ⟨h1, h0⟩ hdk).mono ?_
            rintro e w1 ⟨rfl, b1⟩
            simp only
            rw [HF.out]
            go_wp2
            go_roundw
            case rel => exact ⟨k + 1, l - (r.length : Int), by omega, by go_num, rfl, by omega, by omega, HN.out, hbr.trans (b1.mono hbr.size)⟩
            case measure => simp [intOf]; omega
        · have HE2 : Hid (leftAL az left = l) := by rw [Hid, hleft, List.drop_of_length_le (by omega)]; rfl
          clear hleft
          go_wp2
          go_ret
          exact ⟨one_int HE2.out.symm, hbr⟩
theorem szAuthS_any (ao : Option Addr) (cap : Nat) (az : List Au) (w : World) (hz : AuthsAt w ao az) (hd : AuthsBd az) :
    Calls Try.prog 26 #[.slice ao az.length cap, .int .i64 1048576] w fun e w' => e = .returned (.int .i64 (leftAL az 1048576)) ∧ Below w.heap.size w w' := szAuthS_gen ao cap az 1048576 w hz hd (by omega) (by omega)

set_option maxHeartbeats 3200000 in
theorem toAuthS_any (ao : Option Addr) (cap : Nat) (az : List Au) (w : World) (hz : AuthsAt w ao az) (hn : az.length ≤ 1048576) :
    Calls Try.prog 32 #[.slice ao az.length cap] w fun e w' => e = .returned (.slice (some ⟨w.heap.size, 0, none⟩) az.length az.length) ∧
      w'.ownsRow w.heap.size 87 6 (.slice (some ⟨w.heap.size, 0, none⟩) az.length az.length) az.length (acells az) ∧ Below w.heap.size w w' := by
  obtain ⟨i0, hi, hz0, hz1, hz2⟩ := info_parts infoA
  have hm0 := cells_repA az.length
  rcases hz with rfl | ⟨b, off, rfl, hb, hcell⟩
  · go_enter Try.func32, Try.ntmps32
    go_wp2_with (refine wpList_make_full _ rfl (.tmp 6) (.tmp 6) 33 rfl w.heap.size 87 i0 _ 6 Try.underlying33 hi hz0 hz1 .i64 .i64 _ _ 0 rfl rfl rfl rfl (by rw [hz2]; omega) (by unfold maxLen; omega) (Nat.le_refl _) ?_; intro w1 hown hg)
    refine wp_loop_rounds 1 ?_
    rw [rounds_succ]
    go_wp2
    go_ret
    exact ⟨rfl, by simpa [madeCells, acells] using hown, (Below.refl _ _).grown hg (Nat.le_refl _) (fun k hk => by cases hk)⟩
  · have HC : Hid (∀ i, i < az.length → w.cell? ⟨b, off + i * 6, none⟩ = some (.string ⟨(auAt az i).ref.toArray⟩) ∧ w.cell? ⟨b, off + i * 6 + 1, none⟩ = some (.int .i64 (auAt az i).iss) ∧ w.cell? ⟨b, off + i * 6 + 2, none⟩ = some (.int .i64 (auAt az i).cur) ∧ w.cell? ⟨b, off + i * 6 + 3, none⟩ = some (.int .i64 (auAt az i).am) ∧ w.cell? ⟨b, off + i * 6 + 4, none⟩ = some (.int .i64 (auAt az i).day) ∧ w.cell? ⟨b, off + i * 6 + 5, none⟩ = some (.bool (auAt az i).used)) := hcell
    clear hcell
    go_enter Try.func32, Try.ntmps32
    go_wp2_with (refine wpList_make_full _ rfl (.tmp 6) (.tmp 6) 33 rfl w.heap.size 87 i0 _ 6 Try.underlying33 hi hz0 hz1 .i64 .i64 _ _ az.length rfl rfl rfl rfl (by rw [hz2]; omega) (by unfold maxLen; omega) (Nat.le_refl _) ?_; intro w1 hown hg)
    rw [hm0, ← halfA_zero az] at hown
    have hb1 : Below w.heap.size w w1 := (Below.refl _ _).grown hg (Nat.le_refl _) (fun k hk => by cases hk)
    clear hm0 hg
    go_loopw [4] (fun i wr => ∃ k : Nat, k ≤ az.length ∧ i = .int .i64 k ∧ wr.ownsRow w.heap.size 87 6 (.slice (some ⟨w.heap.size, 0, none⟩) az.length az.length) az.length (acells (halfA az k)) ∧ Below w.heap.size w wr) (fun i _ => az.length - (intOf i).toNat)
    case atStart => exact ⟨0, Nat.zero_le _, rfl, hown, hb1⟩
    case round =>
      obtain ⟨k, hk, rfl, ho, hbr⟩ := hrel
      clear hown hb1
      by_cases hlt : k < az.length
      · have x0 : wr.cell? ⟨b, off + k * 6, none⟩ = some (.string ⟨(auAt az k).ref.toArray⟩) := (hbr.cell (p := ⟨b, off + k * 6, none⟩) hb).trans (HC.out k hlt).1
        have x1 : wr.cell? ⟨b, off + k * 6 + 1, none⟩ = some (.int .i64 (auAt az k).iss) := (hbr.cell (p := ⟨b, off + k * 6 + 1, none⟩) hb).trans (HC.out k hlt).2.1
        have x2 : wr.cell? ⟨b, off + k * 6 + 2, none⟩ = some (.int .i64 (auAt az k).cur) := (hbr.cell (p := ⟨b, off + k * 6 + 2, none⟩) hb).trans (HC.out k hlt).2.2.1
        have x3 : wr.cell? ⟨b, off + k * 6 + 3, none⟩ = some (.int .i64 (auAt az k).am) := (hbr.cell (p := ⟨b, off + k * 6 + 3, none⟩) hb).trans (HC.out k hlt).2.2.2.1
        have x4 : wr.cell? ⟨b, off + k * 6 + 4, none⟩ = some (.int .i64 (auAt az k).day) := (hbr.cell (p := ⟨b, off + k * 6 + 4, none⟩) hb).trans (HC.out k hlt).2.2.2.2.1
        have x5 : wr.cell? ⟨b, off + k * 6 + 5, none⟩ = some (.bool (auAt az k).used) := (hbr.cell (p := ⟨b, off + k * 6 + 5, none⟩) hb).trans (HC.out k hlt).2.2.2.2.2
        have hki : (k : Int) < (az.length : Int) := by omega
        have HS : Hid _ := halfA_succ az k hlt
        have HT : Hid _ := acells_set (halfA az k) (auAt az k) k (by rw [halfA_len az k hk]; exact hlt)
        obtain ⟨⟨r, i, c, m, d, u⟩, hf⟩ : ∃ f, auAt az k = f := ⟨_, rfl⟩
        rw [hf] at x0 x1 x2 x3 x4 x5 HS HT
        simp only at x0 x1 x2 x3 x4 x5 HT
        have HO : Hid (wr.ownsRow w.heap.size 87 6 (.slice (some ⟨w.heap.size, 0, none⟩) az.length az.length) az.length (acells (halfA az k))) := ho
        have HA : Hid _ := halfA_at az k hlt
        clear hf ho
        go_wp2_with fail
        refine (toAuth_any ⟨r, i, c, m, d, u⟩ _).mono ?_
        rintro e w2 ⟨rfl, b2⟩
        simp only [auv]
        have ho := keepA HO.out b2
        have hat := acells_at (halfA az k) k (by rw [halfA_len az k hk]; exact hlt)
        rw [HA.out] at hat
        have y0 : w2.cell? ⟨w.heap.size, k * 6, none⟩ = some (.string ⟨#[]⟩) := by rw [ho.cellAt (k * 6) (by omega)]; exact hat.1
        have z0 : w2.frozen? ⟨w.heap.size, k * 6, none⟩ = false := ho.frozenAt _
        have y1 : w2.cell? ⟨w.heap.size, k * 6 + 1, none⟩ = some (.int .i64 0) := by rw [ho.cellAt (k * 6 + 1) (by omega)]; exact hat.2.1
        have z1 : w2.frozen? ⟨w.heap.size, k * 6 + 1, none⟩ = false := ho.frozenAt _
        have y2 : w2.cell? ⟨w.heap.size, k * 6 + 2, none⟩ = some (.int .i64 0) := by rw [ho.cellAt (k * 6 + 2) (by omega)]; exact hat.2.2.1
        have z2 : w2.frozen? ⟨w.heap.size, k * 6 + 2, none⟩ = false := ho.frozenAt _
        have y3 : w2.cell? ⟨w.heap.size, k * 6 + 3, none⟩ = some (.int .i64 0) := by rw [ho.cellAt (k * 6 + 3) (by omega)]; exact hat.2.2.2.1
        have z3 : w2.frozen? ⟨w.heap.size, k * 6 + 3, none⟩ = false := ho.frozenAt _
        have y4 : w2.cell? ⟨w.heap.size, k * 6 + 4, none⟩ = some (.int .i64 0) := by rw [ho.cellAt (k * 6 + 4) (by omega)]; exact hat.2.2.2.2.1
        have z4 : w2.frozen? ⟨w.heap.size, k * 6 + 4, none⟩ = false := ho.frozenAt _
        have y5 : w2.cell? ⟨w.heap.size, k * 6 + 5, none⟩ = some (.bool false) := by rw [ho.cellAt (k * 6 + 5) (by omega)]; exact hat.2.2.2.2.2
        have z5 : w2.frozen? ⟨w.heap.size, k * 6 + 5, none⟩ = false := ho.frozenAt _
        have HR : Hid ((((((((w2.setCell ⟨w.heap.size, k * 6, none⟩ (.string ⟨r.toArray⟩)).setCell ⟨w.heap.size, k * 6 + 1, none⟩ (.int .i64 i)).setCell ⟨w.heap.size, k * 6 + 2, none⟩ (.int .i64 c)).setCell ⟨w.heap.size, k * 6 + 3, none⟩ (.int .i64 m)).setCell ⟨w.heap.size, k * 6 + 4, none⟩ (.int .i64 d)).setCell ⟨w.heap.size, k * 6 + 5, none⟩ (.bool u))).ownsRow w.heap.size 87 6 (.slice (some ⟨w.heap.size, 0, none⟩) az.length az.length) az.length (acells (halfA az (k + 1)))) := by
          have R := (((((((ho.stored (k * 6) (.string ⟨r.toArray⟩)).1.stored (k * 6 + 1) (.int .i64 i)).1.stored (k * 6 + 2) (.int .i64 c)).1.stored (k * 6 + 3) (.int .i64 m)).1.stored (k * 6 + 4) (.int .i64 d)).1.stored (k * 6 + 5) (.bool u))).1
          rw [HT.out, HS.out] at R
          exact R
        clear ho hat
        go_wp2
        go_roundw
        case rel => exact ⟨k + 1, by omega, by go_num, HR.out, (((((((hbr.trans (b2.mono hbr.size)).setCell (Nat.le_refl _) _).setCell (Nat.le_refl _) _).setCell (Nat.le_refl _) _).setCell (Nat.le_refl _) _).setCell (Nat.le_refl _) _).setCell (Nat.le_refl _) _)⟩
        case measure => simp [intOf]; omega
      · have : k = az.length := by omega
        subst this
        rw [halfA_all] at ho
        go_wp2
        go_ret
        exact ⟨rfl, ho, hbr⟩

set_option maxHeartbeats 800000 in
theorem eqAuth_same (a : Au) (w : World) :
    Calls Try.prog 60 #[auv a, auv a] w fun e w' => e = .returned (.bool true) ∧ Below w.heap.size w w' := by
  obtain ⟨r, i, c, m, d, u⟩ := a
  simp only [auv]
  have n0 : (r == r) = true := by simp
  have n1 : (i != i) = false := by simp
  have n2 : (c != c) = false := by simp
  have n3 : (m != m) = false := by simp
  have n4 : (d != d) = false := by simp
  cases u
  · go_enter Try.func60, Try.ntmps60
    go_wp2
    go_ret
    exact ⟨rfl, by go_grown⟩
  · go_enter Try.func60, Try.ntmps60
    go_wp2
    go_ret
    exact ⟨rfl, by go_grown⟩

set_option maxHeartbeats 1600000 in
theorem eqAuthS_same (ao bo : Option Addr) (c1 c2 : Nat) (az : List Au) (w : World) (hx : AuthsAt w ao az) (hy : AuthsAt w bo az) (h1 : az.length ≤ 1099511627776) :
    Calls Try.prog 40 #[.slice ao az.length c1, .slice bo az.length c2] w fun e w' => e = .returned (.bool true) ∧ Below w.heap.size w w' := by
  rcases hx with rfl | ⟨b, off, rfl, hb, hcx⟩
  · go_enter Try.func40, Try.ntmps40
    go_wp2
    refine wp_loop_rounds 1 ?_
    rw [rounds_succ]
    go_wp2
    go_ret
    exact ⟨rfl, Below.refl _ _⟩
  rcases hy with rfl | ⟨d, off2, rfl, hd, hcy⟩
  · go_enter Try.func40, Try.ntmps40
    go_wp2
    refine wp_loop_rounds 1 ?_
    rw [rounds_succ]
    go_wp2
    go_ret
    exact ⟨rfl, Below.refl _ _⟩
  have HCX : Hid (∀ i, i < az.length → w.cell? ⟨b, off + i * 6, none⟩ = some (.string ⟨(auAt az i).ref.toArray⟩) ∧ w.cell? ⟨b, off + i * 6 + 1, none⟩ = some (.int .i64 (auAt az i).iss) ∧ w.cell? ⟨b, off + i * 6 + 2, none⟩ = some (.int .i64 (auAt az i).cur) ∧ w.cell? ⟨b, off + i * 6 + 3, none⟩ = some (.int .i64 (auAt az i).am) ∧ w.cell? ⟨b, off + i * 6 + 4, none⟩ = some (.int .i64 (auAt az i).day) ∧ w.cell? ⟨b, off + i * 6 + 5, none⟩ = some (.bool (auAt az i).used)) := hcx
  have HCY : Hid (∀ i, i < az.length → w.cell? ⟨d, off2 + i * 6, none⟩ = some (.string ⟨(auAt az i).ref.toArray⟩) ∧ w.cell? ⟨d, off2 + i * 6 + 1, none⟩ = some (.int .i64 (auAt az i).iss) ∧ w.cell? ⟨d, off2 + i * 6 + 2, none⟩ = some (.int .i64 (auAt az i).cur) ∧ w.cell? ⟨d, off2 + i * 6 + 3, none⟩ = some (.int .i64 (auAt az i).am) ∧ w.cell? ⟨d, off2 + i * 6 + 4, none⟩ = some (.int .i64 (auAt az i).day) ∧ w.cell? ⟨d, off2 + i * 6 + 5, none⟩ = some (.bool (auAt az i).used)) := hcy
  clear hcx hcy
  have nn : ((az.length : Int) != (az.length : Int)) = false := by simp
  obtain ⟨n, hn⟩ : ∃ n, az.length = n := ⟨_, rfl⟩
  rw [hn] at h1 nn HCX HCY ⊢
  clear hn
  go_enter Try.func40, Try.ntmps40
  go_wp2
  go_loopw [5] (fun i wr => ∃ k : Nat, k ≤ n ∧ i = .int .i64 k ∧ Below w.heap.size w wr) (fun i _ => n - (intOf i).toNat)
  case atStart => exact ⟨0, Nat.zero_le _, rfl, Below.refl _ _⟩
  case round =>
    obtain ⟨k, hk, rfl, hbr⟩ := hrel
    by_cases hlt : k < n
    · have x0 : wr.cell? ⟨b, off + k * 6, none⟩ = some (.string ⟨(auAt az k).ref.toArray⟩) := (hbr.cell (p := ⟨b, off + k * 6, none⟩) hb).trans (HCX.out k hlt).1
      have x1 : wr.cell? ⟨b, off + k * 6 + 1, none⟩ = some (.int .i64 (auAt az k).iss) := (hbr.cell (p := ⟨b, off + k * 6 + 1, none⟩) hb).trans (HCX.out k hlt).2.1
      have x2 : wr.cell? ⟨b, off + k * 6 + 2, none⟩ = some (.int .i64 (auAt az k).cur) := (hbr.cell (p := ⟨b, off + k * 6 + 2, none⟩) hb).trans (HCX.out k hlt).2.2.1
      have x3 : wr.cell? ⟨b, off + k * 6 + 3, none⟩ = some (.int .i64 (auAt az k).am) := (hbr.cell (p := ⟨b, off + k * 6 + 3, none⟩) hb).trans (HCX.out k hlt).2.2.2.1
      have x4 : wr.cell? ⟨b, off + k * 6 + 4, none⟩ = some (.int .i64 (auAt az k).day) := (hbr.cell (p := ⟨b, off + k * 6 + 4, none⟩) hb).trans (HCX.out k hlt).2.2.2.2.1
      have x5 : wr.cell? ⟨b, off + k * 6 + 5, none⟩ = some (.bool (auAt az k).used) := (hbr.cell (p := ⟨b, off + k * 6 + 5, none⟩) hb).trans (HCX.out k hlt).2.2.2.2.2
      have y0 : wr.cell? ⟨d, off2 + k * 6, none⟩ = some (.string ⟨(auAt az k).ref.toArray⟩) := (hbr.cell (p := ⟨d, off2 + k * 6, none⟩) hd).trans (HCY.out k hlt).1
      have y1 : wr.cell? ⟨d, off2 + k * 6 + 1, none⟩ = some (.int .i64 (auAt az k).iss) := (hbr.cell (p := ⟨d, off2 + k * 6 + 1, none⟩) hd).trans (HCY.out k hlt).2.1
      have y2 : wr.cell? ⟨d, off2 + k * 6 + 2, none⟩ = some (.int .i64 (auAt az k).cur) := (hbr.cell (p := ⟨d, off2 + k * 6 + 2, none⟩) hd).trans (HCY.out k hlt).2.2.1
      have y3 : wr.cell? ⟨d, off2 + k * 6 + 3, none⟩ = some (.int .i64 (auAt az k).am) := (hbr.cell (p := ⟨d, off2 + k * 6 + 3, none⟩) hd).trans (HCY.out k hlt).2.2.2.1
      have y4 : wr.cell? ⟨d, off2 + k * 6 + 4, none⟩ = some (.int .i64 (auAt az k).day) := (hbr.cell (p := ⟨d, off2 + k * 6 + 4, none⟩) hd).trans (HCY.out k hlt).2.2.2.2.1
      have y5 : wr.cell? ⟨d, off2 + k * 6 + 5, none⟩ = some (.bool (auAt az k).used) := (hbr.cell (p := ⟨d, off2 + k * 6 + 5, none⟩) hd).trans (HCY.out k hlt).2.2.2.2.2
      have hki : (k : Int) < (n : Int) := by omega
      obtain ⟨⟨r, i, c, m, e, u⟩, hf⟩ : ∃ f, auAt az k = f := ⟨_, rfl⟩
      rw [hf] at x0 x1 x2 x3 x4 x5 y0 y1 y2 y3 y4 y5
      simp only at x0 x1 x2 x3 x4 x5 y0 y1 y2 y3 y4 y5
      have HQ : Hid (∀ v, Calls Try.prog 60 #[.agg #[.string ⟨r.toArray⟩, .int .i64 i, .int .i64 c, .int .i64 m, .int .i64 e, .bool u], .agg #[.string ⟨r.toArray⟩, .int .i64 i, .int .i64 c, .int .i64 m, .int .i64 e, .bool u]] v fun e v' => e = .returned (.bool true) ∧ Below v.heap.size v v') := fun v => eqAuth_same ⟨r, i, c, m, e, u⟩ v
      clear hf
      go_wp2
      go_region_with (refine (HQ.out _).mono ?_; rintro e w2 ⟨rfl, b2⟩)
      all_goals
        go_wp2
        go_roundw
        case rel => exact ⟨k + 1, by omega, by go_num, (below_drewN hbr _).trans (b2.mono hbr.size)⟩
        case measure => simp [intOf]; omega
    · go_wp2
      go_ret
      exact ⟨rfl, hbr⟩

end Go.Proofs.Ytkdodamdjajbiaa
