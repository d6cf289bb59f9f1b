/- The contracts of AuthUse, the program's and the specification's. -/
import Derived.Test.YtpjfigjgamlcdaaFACopy
import Derived.Test.YtpjfigjgamlcdaaAuApp
import Derived.Test.YtpjfigjgamlcdaaSAuOk
namespace Go.Proofs.Ytpjfigjgamlcdaa
open Go.RowKit
set_option maxRecDepth 100000

def useOk (az : List Au) (i : Int) : Bool := decide (0 ≤ i ∧ i < az.length) && !(auAt az i.toNat).used
def usedAu (a : Au) : Au := ⟨a.ref, a.iss, a.cur, a.am, a.day, true⟩
def useL (az : List Au) (i : Int) : List Au := if useOk az i = true then az.set i.toNat (usedAu (auAt az i.toNat)) else az
theorem useL_len (az : List Au) (i : Int) : (useL az i).length = az.length := by unfold useL; split <;> simp
theorem useL_no {az : List Au} {i : Int} (h : useOk az i = false) : useL az i = az := by rw [useL, if_neg (by rw [h]; decide)]

set_option maxHeartbeats 1600000 in
theorem iUse_any (ao : Option Addr) (cap : Nat) (az : List Au) (i : Int) (w : World) (hz : AuthsAt w ao az) (hn : az.length ≤ 4194304) (hd : ∀ a ∈ az, a.ref.length ≤ 1099511627776) :
    Calls Try.prog 19 #[.slice ao az.length cap, .int .i64 i] w (AuR2 w (useL az i) (useOk az i)) := by
  by_cases h0 : i < 0
  · have HQ : Hid (useOk az i = false) := by rw [Hid, useOk, decide_eq_false (by omega)]; rfl
    go_enter Try.func19, Try.ntmps19
    go_wp2_with fail
    refine (copyAuths_any _ _ _ _ hz hn hd).mono ?_
    rintro e w1 ⟨rfl, o1, b1⟩
    have HO : Hid _ := And.intro o1 b1
    clear o1 b1 hz
    go_wp2
    go_ret2
    rw [HQ.out, useL_no HQ.out]
    exact ⟨_, _, rfl, HO.out.1, HO.out.2⟩
  by_cases h1 : (az.length : Int) ≤ i
  · have HQ : Hid (useOk az i = false) := by rw [Hid, useOk, decide_eq_false (by omega)]; rfl
    go_enter Try.func19, Try.ntmps19
    go_wp2_with fail
    refine (copyAuths_any _ _ _ _ hz hn hd).mono ?_
    rintro e w1 ⟨rfl, o1, b1⟩
    have HO : Hid _ := And.intro o1 b1
    clear o1 b1 hz
    go_wp2
    go_ret2
    rw [HQ.out, useL_no HQ.out]
    exact ⟨_, _, rfl, HO.out.1, HO.out.2⟩
  obtain ⟨k, rfl⟩ := Int.eq_ofNat_of_zero_le (show 0 ≤ i by omega)
  have hk : k < az.length := by omega
  have hlt : (k : Int) < (az.length : Int) := by omega
  have HAT : Hid ((acells az)[k * 6 + 5]? = some (.bool (auAt az k).used)) := (acells_at az k hk).2.2.2.2.2
  have HST : Hid ((acells az).set (k * 6 + 5) (.bool true) = acells (az.set k (usedAu (auAt az k)))) := acells_set5 az true k hk
  have HU : Hid (useOk az (k : Int) = !(auAt az k).used) := by rw [Hid, useOk, decide_eq_true (show 0 ≤ (k : Int) ∧ (k : Int) < az.length by omega), Bool.true_and, Int.toNat_natCast]
  have HUL : Hid (useOk az (k : Int) = true → useL az (k : Int) = az.set k (usedAu (auAt az k))) := fun h => by rw [useL, if_pos h, Int.toNat_natCast]
  obtain ⟨us, hus⟩ : ∃ us, (auAt az k).used = us := ⟨_, rfl⟩
  rw [hus] at HAT HU
  clear hus
  go_enter Try.func19, Try.ntmps19
  go_wp2_with fail
  refine (copyAuths_any _ _ _ _ hz hn hd).mono ?_
  rintro e w1 ⟨rfl, o1, b1⟩
  have y5 : w1.cell? ⟨w.heap.size, k * 6 + 5, none⟩ = some (.bool us) := by rw [o1.cellAt (k * 6 + 5) (by omega)]; exact HAT.out
  have z5 : w1.frozen? ⟨w.heap.size, k * 6 + 5, none⟩ = false := o1.frozenAt _
  have HO : Hid _ := And.intro o1 b1
  clear o1 b1 hz
  cases us
  · have HQ : Hid (useOk az (k : Int) = true) := HU.out
    have HR : Hid ((w1.setCell ⟨w.heap.size, k * 6 + 5, none⟩ (.bool true)).ownsRow w.heap.size 30 6 (.slice (some ⟨w.heap.size, 0, none⟩) az.length az.length) az.length (acells (az.set k (usedAu (auAt az k))))) := by
      have R := (HO.out.1.stored (k * 6 + 5) (.bool true)).1
      rw [HST.out] at R
      exact R
    go_wp2
    go_ret2
    rw [HQ.out, HUL.out HQ.out]
    exact ⟨some ⟨w.heap.size, 0, none⟩, az.length, by rw [List.length_set]; rfl, by rw [List.length_set]; exact HR.out, HO.out.2.setCell (Nat.le_refl _) _⟩
  · have HQ : Hid (useOk az (k : Int) = false) := HU.out
    go_wp2
    go_ret2
    rw [HQ.out, useL_no HQ.out]
    exact ⟨_, _, rfl, HO.out.1, HO.out.2⟩

set_option maxHeartbeats 1600000 in
theorem sUse_any (ao : Option Addr) (cap : Nat) (az : List Au) (i : Int) (w : World) (hz : AuthsAt w ao az) (hn : az.length ≤ 4194304) :
    Calls Try.prog 30 #[.slice ao az.length cap, .int .i64 i] w (AuR2 w (useL az i) (useOk az i)) := by
  have bA : Below w.heap.size w (w.alloc (.cells #[] 30)) := (Below.refl _ _).alloc (Nat.le_refl _) _
  have HZ1 : Hid (AuthsAt (w.alloc (.cells #[] 30)) ao az) := hz.below bA
  have HO1 := auLit w
  have HIN : Hid (∀ u, Calls Try.prog 48 #[.int .i64 i, .int .i64 0, .int .i64 ((az.length : Int) - 1)] u fun e w' => e = .returned (.bool (decide (0 ≤ i ∧ i < az.length))) ∧ w' = u) := fun u => by
    have := in_any i 0 ((az.length : Int) - 1) u
    rwa [show inB i 0 ((az.length : Int) - 1) = decide (0 ≤ i ∧ i < az.length) by unfold inB; exact decide_eq_decide.2 (by omega)] at this
  by_cases hin : 0 ≤ i ∧ i < az.length
  · obtain ⟨k, rfl⟩ := Int.eq_ofNat_of_zero_le hin.1
    have hk : k < az.length := by omega
    have hlt : (k : Int) < (az.length : Int) := by omega
    rw [decide_eq_true hin] at HIN
    have HAT : Hid ((acells az)[k * 6 + 5]? = some (.bool (auAt az k).used)) := (acells_at az k hk).2.2.2.2.2
    have HST : Hid ((acells az).set (k * 6 + 5) (.bool true) = acells (az.set k (usedAu (auAt az k)))) := acells_set5 az true k hk
    have HU : Hid (useOk az (k : Int) = !(auAt az k).used) := by rw [Hid, useOk, decide_eq_true (show 0 ≤ (k : Int) ∧ (k : Int) < az.length by omega), Bool.true_and, Int.toNat_natCast]
    have HUL : Hid (useOk az (k : Int) = true → useL az (k : Int) = az.set k (usedAu (auAt az k))) := fun h => by rw [useL, if_pos h, Int.toNat_natCast]
    rcases hz with rfl | ⟨b, off, rfl, hb, hcell⟩
    · simp at hk
    have HC5 : Hid (w.cell? ⟨b, off + k * 6 + 5, none⟩ = some (.bool (auAt az k).used)) := (hcell k hk).2.2.2.2.2
    obtain ⟨us, hus⟩ : ∃ us, (auAt az k).used = us := ⟨_, rfl⟩
    rw [hus] at HAT HU HC5
    clear hus hcell hin
    go_enter Try.func30, Try.ntmps30
    go_wp2_with (at_builtin; refine wpList_append_auths _ rfl (.tmp 7) (.tmp 8) rfl w.heap.size (.slice (some ⟨w.heap.size, 0, none⟩) 0 0) 0 [] rfl HO1 _ cap az rfl HZ1.out (by omega) (by simp) ?_; intro v2 w2 o2 g2 n2)
    obtain ⟨g, cc, rfl⟩ := au_notnil o2 (n2 (by simp))
    simp only [Nat.zero_add, List.nil_append] at o2 ⊢
    have b2 : Below w.heap.size w w2 := bA.grown g2 (by simp) (fun j hj => by cases hj; exact Nat.le_refl _)
    have y5 : w2.cell? ⟨g, k * 6 + 5, none⟩ = some (.bool us) := by rw [o2.cellAt (k * 6 + 5) (by omega)]; exact HAT.out
    have z5 : w2.frozen? ⟨g, k * 6 + 5, none⟩ = false := o2.frozenAt _
    have x5 : w2.cell? ⟨b, off + k * 6 + 5, none⟩ = some (.bool us) := (b2.cell (p := ⟨b, off + k * 6 + 5, none⟩) hb).trans HC5.out
    have HB : Hid (Below w.heap.size w w2) := b2
    have HO : Hid (w2.ownsRow w.heap.size 30 6 (.slice (some ⟨g, 0, none⟩) az.length cc) az.length (acells az)) := o2
    have hgw := (o2.lt g rfl).1
    clear o2 b2 g2 n2 HO1 bA
    go_wp2_with fail
    refine (HIN.out _).mono ?_
    rintro e w3 ⟨rfl, hw3⟩
    subst hw3
    cases us
    · have HQ : Hid (useOk az (k : Int) = true) := HU.out
      have HR : Hid ((w3.setCell ⟨g, k * 6 + 5, none⟩ (.bool true)).ownsRow w.heap.size 30 6 (.slice (some ⟨g, 0, none⟩) az.length cc) az.length (acells (az.set k (usedAu (auAt az k))))) := by
        have R := (HO.out.stored (k * 6 + 5) (.bool true)).1
        rw [HST.out] at R
        exact R
      go_wp2
      go_ret2
      rw [HQ.out, HUL.out HQ.out]
      exact ⟨some ⟨g, 0, none⟩, cc, by rw [List.length_set]; rfl, by rw [List.length_set]; exact HR.out, HB.out.setCell hgw _⟩
    · have HQ : Hid (useOk az (k : Int) = false) := HU.out
      go_wp2
      go_ret2
      rw [HQ.out, useL_no HQ.out]
      exact ⟨_, _, rfl, HO.out, HB.out⟩
  · have HQ : Hid (useOk az i = false) := by rw [Hid, useOk, decide_eq_false hin]; rfl
    rw [decide_eq_false hin] at HIN
    clear hin
    go_enter Try.func30, Try.ntmps30
    go_wp2_with (at_builtin; refine wpList_append_auths _ rfl (.tmp 7) (.tmp 8) rfl w.heap.size (.slice (some ⟨w.heap.size, 0, none⟩) 0 0) 0 [] rfl HO1 ao cap az rfl HZ1.out (by omega) (by simp) ?_; intro v2 w2 o2 g2 n2)
    obtain ⟨g, cc, rfl⟩ := au_notnil o2 (n2 (by simp))
    simp only [Nat.zero_add, List.nil_append] at o2 ⊢
    have b2 : Below w.heap.size w w2 := bA.grown g2 (by simp) (fun j hj => by cases hj; exact Nat.le_refl _)
    have HB : Hid (Below w.heap.size w w2) := b2
    have HO : Hid (w2.ownsRow w.heap.size 30 6 (.slice (some ⟨g, 0, none⟩) az.length cc) az.length (acells az)) := o2
    clear o2 b2 g2 n2 HO1 bA hz
    go_wp2_with fail
    refine (HIN.out _).mono ?_
    rintro e w3 ⟨rfl, hw3⟩
    subst hw3
    go_wp2
    go_ret2
    rw [HQ.out, useL_no HQ.out]
    exact ⟨_, _, rfl, HO.out, HB.out⟩

end Go.Proofs.Ytpjfigjgamlcdaa
