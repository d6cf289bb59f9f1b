/- Marks in one's own authorizations, found again. -/
import Derived.Test.YtlhdpbbgmjfbkaaAuLaw
import Derived.Test.YtlhdpbbgmjfbkaaMarkT
import Derived.Test.YtlhdpbbgmjfbkaaOver
import Derived.Test.YtlhdpbbgmjfbkaaFBytes
namespace Go.Proofs.Ytlhdpbbgmjfbkaa
open Go.RowKit
set_option maxRecDepth 100000

def mkA1 (n : Nat) : Au := ⟨mtx (n), ((n + 1 : Nat) : Int), ((n + 2 : Nat) : Int), ((n + 3 : Nat) : Int), ((n + 4 : Nat) : Int), ((n + 5 : Nat) : Int) % 3 == 0⟩
/-- the marks of n authorizations, from k on -/
def mkA (k n : Nat) : List Au := (List.range n).map fun i => mkA1 (k + 6 * i)
theorem mkA_len (k n : Nat) : (mkA k n).length = n := by simp [mkA]
theorem mkA_at (k n i : Nat) (h : i < n) : auAt (mkA k n) i = mkA1 (k + 6 * i) := by simp [auAt, mkA, List.getD_eq_getElem?_getD, h]
def fillA (az : List Au) (k j : Nat) : List Au := mkA k j ++ az.drop j
theorem fillA_len (az : List Au) (k j : Nat) (h : j ≤ az.length) : (fillA az k j).length = az.length := by simp [fillA, mkA_len]; omega
theorem fillA_zero (az : List Au) (k : Nat) : fillA az k 0 = az := by simp [fillA, mkA]
theorem fillA_all (az : List Au) (k : Nat) : fillA az k az.length = mkA k az.length := by simp [fillA]
theorem fillA_succ (az : List Au) (k j : Nat) (h : j < az.length) : (fillA az k j).set j (mkA1 (k + 6 * j)) = fillA az k (j + 1) := by
  unfold fillA
  rw [List.set_append, if_neg (by rw [mkA_len]; omega), mkA_len, Nat.sub_self, List.drop_eq_getElem_cons h, List.set_cons_zero]
  simp [mkA, List.range_succ]
theorem grown_ofA {w w' : World} (h : Below w.heap.size w w') (r : Option Nat) : w.grownBy w' r := ⟨h.os, h.tape, h.output, h.size, fun k hk _ => h.block k hk⟩

set_option maxHeartbeats 3200000 in
theorem markAuthS_any (ao : Option Addr) (cap base k : Nat) (az : List Au) (w : World) (ho : w.ownsRow base 88 6 (.slice ao az.length cap) az.length (acells az)) (hn : az.length ≤ 1099511627) (k1 : 0 < k) (k2 : k ≤ 1099511627) :
    Calls Try.prog 41 #[.slice ao az.length cap, .int .i64 k] w fun e w' => e = .returned (.int .i64 (k + 6 * az.length : Nat)) ∧
      w'.ownsRow base 88 6 (.slice ao az.length cap) az.length (acells (mkA k az.length)) ∧ w.grownBy w' (Value.slice ao az.length cap).ownBlock := by
  rcases ho.2 with ⟨hv, h0⟩ | ⟨g, cap', cur, hv, hrest⟩
  · obtain rfl : az = [] := List.eq_nil_of_length_eq_zero h0
    obtain ⟨rfl, rfl⟩ : ao = none ∧ cap = 0 := by simpa using hv
    clear hv h0
    go_enter Try.func41, Try.ntmps41
    go_wp2
    refine wp_loop_rounds 1 ?_
    rw [rounds_succ]
    go_wp2
    go_ret
    exact ⟨one_int (by simp), World.ownsRow_nil _ _ _ _, World.grownBy.refl _ _⟩
  · obtain ⟨rfl, rfl⟩ : ao = some ⟨g, 0, none⟩ ∧ cap = cap' := by simpa using hv
    clear hv hrest
    go_enter Try.func41, Try.ntmps41
    go_wp2
    go_loopw [1, 5] (fun c i wr => ∃ j : Nat, j ≤ az.length ∧ i = .int .i64 j ∧ c = .int .i64 (k + 6 * j : Nat) ∧ wr.ownsRow base 88 6 (.slice (some ⟨g, 0, none⟩) az.length cap) az.length (acells (fillA az k j)) ∧ w.grownBy wr (some g)) (fun _ i _ => az.length - (intOf i).toNat)
    case atStart => exact ⟨0, Nat.zero_le _, rfl, rfl, by rw [fillA_zero]; exact ho, World.grownBy.refl _ _⟩
    case round =>
      obtain ⟨j, hj, rfl, rfl, hor, hgr⟩ := hrel
      clear ho
      by_cases hlt : j < az.length
      · have hji : (j : Int) < (az.length : Int) := by omega
        have HFL : Hid (j < (fillA az k j).length) := by rw [Hid, fillA_len az k j hj]; exact hlt
        have HSU : Hid ((fillA az k j).set j (mkA1 (k + 6 * j)) = fillA az k (j + 1)) := fillA_succ az k j hlt
        obtain ⟨fs, hfs⟩ : ∃ x, fillA az k j = x := ⟨_, rfl⟩
        obtain ⟨gs, hgs⟩ : ∃ x, fillA az k (j + 1) = x := ⟨_, rfl⟩
        have HGS : Hid _ := hgs
        rw [hfs] at hor HFL HSU
        rw [hgs] at HSU
        obtain ⟨m, hm⟩ : ∃ m : Nat, k + 6 * j = m := ⟨_, rfl⟩
        rw [hm] at HSU ⊢
        have hmb : m ≤ 7696581390 := by omega
        have hm0 : 0 < m := by omega
        have HM : Hid (k + 6 * (j + 1) = m + 1 + 1 + 1 + 1 + 1 + 1) := by rw [Hid]; omega
        have HO : Hid (wr.ownsRow base 88 6 (.slice (some ⟨g, 0, none⟩) az.length cap) az.length (acells fs)) := hor
        have HG : Hid (w.grownBy wr (some g)) := hgr
        clear hor hgr hm hfs hgs
        go_wp2_with fail
        refine (markText_any m _ hm0 (by omega)).mono ?_
        rintro e w2 ⟨rfl, b2⟩
        have ho := keepA HO.out b2
        have hat := acells_at fs j HFL.out
        have HS := acells_set fs (mkA1 m) j HFL.out
        rw [HSU.out] at HS
        simp only [mkA1] at HS
        have y0 : w2.cell? ⟨g, j * 6, none⟩ = some (.string ⟨(auAt fs j).ref.toArray⟩) := by rw [ho.cellAt (j * 6) (by omega)]; exact hat.1
        have z0 : w2.frozen? ⟨g, j * 6, none⟩ = false := ho.frozenAt _
        have y1 : w2.cell? ⟨g, j * 6 + 1, none⟩ = some (.int .i64 (auAt fs j).iss) := by rw [ho.cellAt (j * 6 + 1) (by omega)]; exact hat.2.1
        have z1 : w2.frozen? ⟨g, j * 6 + 1, none⟩ = false := ho.frozenAt _
        have y2 : w2.cell? ⟨g, j * 6 + 2, none⟩ = some (.int .i64 (auAt fs j).cur) := by rw [ho.cellAt (j * 6 + 2) (by omega)]; exact hat.2.2.1
        have z2 : w2.frozen? ⟨g, j * 6 + 2, none⟩ = false := ho.frozenAt _
        have y3 : w2.cell? ⟨g, j * 6 + 3, none⟩ = some (.int .i64 (auAt fs j).am) := by rw [ho.cellAt (j * 6 + 3) (by omega)]; exact hat.2.2.2.1
        have z3 : w2.frozen? ⟨g, j * 6 + 3, none⟩ = false := ho.frozenAt _
        have y4 : w2.cell? ⟨g, j * 6 + 4, none⟩ = some (.int .i64 (auAt fs j).day) := by rw [ho.cellAt (j * 6 + 4) (by omega)]; exact hat.2.2.2.2.1
        have z4 : w2.frozen? ⟨g, j * 6 + 4, none⟩ = false := ho.frozenAt _
        have y5 : w2.cell? ⟨g, j * 6 + 5, none⟩ = some (.bool (auAt fs j).used) := by rw [ho.cellAt (j * 6 + 5) (by omega)]; exact hat.2.2.2.2.2
        have z5 : w2.frozen? ⟨g, j * 6 + 5, none⟩ = false := ho.frozenAt _
        have R0 := ho.stored (j * 6) (.string ⟨(mtx m).toArray⟩)
        have R1 := R0.1.stored (j * 6 + 1) (.int .i64 ((m + 1 : Nat) : Int))
        have R2 := R1.1.stored (j * 6 + 2) (.int .i64 ((m + 2 : Nat) : Int))
        have R3 := R2.1.stored (j * 6 + 3) (.int .i64 ((m + 3 : Nat) : Int))
        have R4 := R3.1.stored (j * 6 + 4) (.int .i64 ((m + 4 : Nat) : Int))
        have R5 := R4.1.stored (j * 6 + 5) (.bool (((m + 5 : Nat) : Int) % 3 == 0))
        have R := R5.1
        rw [HS] at R
        have G := (((((((HG.out.trans (grown_ofA b2 (some g))).trans R0.2).trans R1.2).trans R2.2).trans R3.2).trans R4.2).trans R5.2)
        rw [show ((m + 1 : Nat) : Int) = (m : Int) + 1 by omega, show ((m + 2 : Nat) : Int) = (m : Int) + 1 + 1 by omega, show ((m + 3 : Nat) : Int) = (m : Int) + 1 + 1 + 1 by omega, show ((m + 4 : Nat) : Int) = (m : Int) + 1 + 1 + 1 + 1 by omega, show ((m + 5 : Nat) : Int) = (m : Int) + 1 + 1 + 1 + 1 + 1 by omega] at R G
        have HR : Hid _ := R
        have HGG : Hid _ := G
        obtain ⟨⟨r, i, c, q, d, u⟩, hold⟩ : ∃ x, auAt fs j = x := ⟨_, rfl⟩
        rw [hold] at y0 y1 y2 y3 y4 y5
        simp only at y0 y1 y2 y3 y4 y5
        obtain ⟨tx, htx⟩ : ∃ x, mtx m = x := ⟨_, rfl⟩
        rw [htx] at HR HGG ⊢
        clear R0 R1 R2 R3 R4 R5 R G hat HS HSU ho hold htx HO HG b2 HFL
        go_wp2
        go_roundw
        case rel => exact ⟨j + 1, by omega, by go_num, by rw [HM.out]; go_num, by rw [HGS.out]; exact HR.out, HGG.out⟩
        case measure => simp [intOf]; omega
      · have hjn : j = az.length := by omega
        subst hjn
        rw [fillA_all] at hor
        have HO : Hid _ := hor
        clear hor
        go_wp2
        go_ret
        exact ⟨rfl, HO.out, hgr⟩

theorem markText_isA (n : Nat) (x : Int) (hx : x = (n : Int)) (w : World) (h0 : 0 < n) (hn : n ≤ 1099511627776) :
    Calls Try.prog 64 #[.int .i64 x] w fun e w' => e = .returned (.string ⟨(mtx n).toArray⟩) ∧ Below w.heap.size w w' := by
  rw [hx]; exact markText_any n w h0 hn

theorem keepAg {w w' : World} {base n size : Nat} {t : TypeId} {v : Value} {xs : List Value} {row : Option Nat} (h : w.ownsRow base t size v n xs) (hg : w.grownBy w' row) (hne : ∀ g, v.ownBlock = some g → some g ≠ row) : w'.ownsRow base t size v n xs := by
  obtain ⟨h1, h2⟩ := h
  refine ⟨h1, ?_⟩
  rcases h2 with h | ⟨g, cap, cur, hv, hg', hh, a1, a2, a3, a4⟩
  · exact .inl h
  · have hlt : g < w.heap.size := (Array.getElem?_eq_some_iff.1 hh).1
    exact .inr ⟨g, cap, cur, hv, hg', (hg.block g hlt (hne g (by rw [hv]; rfl))).trans hh, a1, a2, a3, a4⟩
theorem auths_mark {w : World} {base n : Nat} {t : TypeId} {ao : Option Addr} {cap : Nat} (h : w.ownsRow base t 6 (.slice ao n cap) n (acells (mkA 1 n))) : AuthsAt w ao (mkA 1 n) := by
  obtain ⟨ao', cap', hv, hf, _⟩ := auths_of_own' h
  obtain ⟨rfl, _⟩ : ao = ao' ∧ n = (mkA 1 n).length ∧ cap = cap' := by simpa using hv
  exact hf

end Go.Proofs.Ytlhdpbbgmjfbkaa
