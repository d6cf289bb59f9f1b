/- The contract of the specification's AuthAdd. -/
import Derived.Test.YtlonjjliochbhaaKE1AuAdd
import Derived.Test.YtlonjjliochbhaaJE10b
namespace Go.Proofs.Ytlonjjliochbhaa
open Go.RowKit
set_option maxRecDepth 100000

set_option maxHeartbeats 3200000 in
theorem sAdd10_any (ao : Option Addr) (cap : Nat) (az : List Au) (a : Au) (w : World) (hz : AuthsAt w ao az) (hn : az.length ≤ 1048576) (hl : a.ref.length ≤ 1099511627776) :
    Calls Try.prog 40 #[.slice ao az.length cap, auv a] w (AuR2 w (addA az a) (addOk az a)) := by
  have HV : Hid (addOk az a = (auOk a && (!az.any (refP a.ref) && decide (az.length < 100)))) := rfl
  have HN : Hid (addOk az a = false → addA az a = az) := addA_no
  have HY : Hid (addOk az a = true → addA az a = az ++ [a]) := addA_yes
  have HZ : Hid (AuthsAt w ao az) := hz
  obtain ⟨q, hq⟩ : ∃ q, auOk a = q := ⟨_, rfl⟩
  have HO : Hid (∀ u, Calls Try.prog 48 #[auv a] u fun e w' => e = .returned (.bool q) ∧ Below u.heap.size u w') := fun u => by rw [← hq]; exact sAuthOk_any a u hl
  obtain ⟨W, hW⟩ : ∃ W, W = w.alloc (.cells #[.string ⟨a.ref.toArray⟩, .int .i64 a.iss, .int .i64 a.cur, .int .i64 a.am, .int .i64 a.day, .bool a.used] 63) := ⟨_, rfl⟩
  have B : AuB w.heap.size a W := by rw [hW]; exact AuB.new w a _
  have HBB : Hid (AuB w.heap.size a W) := B
  have bW : Below w.heap.size w W := by rw [hW]; exact (Below.refl _ _).alloc (Nat.le_refl _) _
  have HBW : Hid (Below w.heap.size w W) := bW
  have bA : Below W.heap.size W (W.alloc (.cells #[] 63)) := (Below.refl _ _).alloc (Nat.le_refl _) _
  have HZ1 : Hid (AuthsAt (W.alloc (.cells #[] 63)) ao az) := (hz.below bW).below bA
  have HO1 := auLit W
  rw [hq] at HV
  obtain ⟨A, hA⟩ : ∃ A, a = A := ⟨_, rfl⟩
  rw [hA] at HV HN HY HBB ⊢
  have HAR : Hid (A.ref = a.ref) := by rw [hA]; exact rfl
  have HAA : Hid (A = ⟨a.ref, a.iss, a.cur, a.am, a.day, a.used⟩) := by rw [hA]; exact rfl
  have e0 : auv A = auv a := by rw [hA]
  rw [e0]
  clear bW hl hq hz e0 hA
  obtain ⟨r, i, c, m, d, u⟩ := a
  unfold auv at HO ⊢
  simp only at hW HO HAR HAA ⊢
  rw [HAR.out] at HV
  have HW : Hid _ := hW
  clear hW B
  go_enter Try.func40, Try.ntmps40
  go_upto_region 1 with fail
  rw [← HW.out]
  go_upto_region 2 with (at_builtin; refine wpList_append_auths _ rfl (.tmp 8) (.tmp 9) rfl W.heap.size (.slice (some ⟨W.heap.size, 0, none⟩) 0 0) 0 [] rfl HO1 ao cap az rfl HZ1.out (by omega) (by simp) ?_; intro v2 w2 o2 g2 n2)
  obtain ⟨g, cc, rfl⟩ := au_notnil o2 (n2 (by simp))
  simp only [Nat.zero_add, List.nil_append] at o2 ⊢
  have b2 : Below W.heap.size W w2 := bA.grown g2 (by simp) (fun j hj => by cases hj; exact Nat.le_refl _)
  have B2 := HBB.out.below b2
  rw [HAA.out] at B2
  have HB2 : Hid (Below w.heap.size w w2) := next HBW.out b2
  have HBX2 : Hid (AuB w.heap.size ⟨r, i, c, m, d, u⟩ w2) := B2
  have HR : Hid (w2.ownsRow w.heap.size 63 6 (.slice (some ⟨g, 0, none⟩) az.length cc) az.length (acells az)) := lowerA o2 HBW.out.size
  have HG : Hid (W.heap.size ≤ g) := (o2.lt g rfl).1
  clear o2 b2 g2 n2 HO1 bA HZ1
  obtain ⟨f0, f1, f2, f3, f4, f5⟩ := B2
  simp only at f0 f1 f2 f3 f4 f5
  cases q
  · have HQ : Hid (addOk az A = false) := HV.out
    have HL : Hid (addA az A = az) := HN.out HQ.out
    clear HV HN HY HAA HAR
    go_wp2_with fail
    refine (HO.out _).mono ?_
    rintro e u1 ⟨rfl, b1⟩
    have HB3 : Hid (Below w.heap.size w u1) := next HB2.out b1
    have HR3 : Hid _ := keepA HR.out b1
    clear b1 f0 f1 f2 f3 f4 f5
    go_wp2
    go_ret2
    rw [HQ.out, HL.out]
    exact ⟨_, _, rfl, HR3.out, HB3.out⟩
  by_cases h100 : az.length < 100
  · have h100' : (az.length : Int) < 100 := by omega
    have HV2 : Hid (addOk az A = !az.any (refP r)) := by rw [Hid, HV.out, decide_eq_true h100, Bool.and_true, Bool.true_and]
    clear HV
    go_wp2_with fail
    refine (HO.out _).mono ?_
    rintro e u1 ⟨rfl, b1⟩
    have HB3 : Hid (Below w.heap.size w u1) := next HB2.out b1
    have HR3 : Hid (u1.ownsRow w.heap.size 63 6 (.slice (some ⟨g, 0, none⟩) az.length cc) az.length (acells az)) := keepA HR.out b1
    have HBX3 : Hid (AuB w.heap.size ⟨r, i, c, m, d, u⟩ u1) := HBX2.out.below b1
    have HZ3 : Hid (AuthsAt u1 ao az) := HZ.out.below HB3.out
    clear b1 f0 f1 f2 f3 f4 f5 HR HBX2 HB2 HO HZ HBB
    go_wp2
    go_loopw [7] (fun i wr => ∃ k : Nat, k ≤ az.length ∧ i = .int .i64 k ∧ az.any (refP r) = (az.drop k).any (refP r) ∧ Below u1.heap.size u1 wr) (fun i _ => az.length - (intOf i).toNat)
    case atStart => exact ⟨0, Nat.zero_le _, rfl, rfl, Below.refl _ _⟩
    case round =>
      obtain ⟨k, hk, rfl, hany, hbr⟩ := hrel
      obtain ⟨f0, f1, f2, f3, f4, f5⟩ := HBX3.out.below hbr
      simp only at f0 f1 f2 f3 f4 f5
      by_cases hlt : k < az.length
      · have hki : (k : Int) < (az.length : Int) := by omega
        have HST : Hid _ := hany.trans (any_step (refP r) az k hlt)
        rcases HZ3.out with h0 | ⟨b, off, rfl, hb, hcell⟩
        · rw [h0] at hlt; simp at hlt
        have x0 : wr.cell? ⟨b, off + k * 6, none⟩ = some (.string ⟨(auAt az k).ref.toArray⟩) := (hbr.cell (p := ⟨b, off + k * 6, none⟩) hb).trans (hcell k hlt).1
        have HPQ : Hid (refP r (auAt az k) = ((auAt az k).ref == r)) := rfl
        obtain ⟨l, hlx⟩ : ∃ l, (auAt az k).ref = l := ⟨_, rfl⟩
        rw [hlx] at x0 HPQ
        have HB4 : Hid (Below u1.heap.size u1 wr) := hbr
        have HWR : Hid (Below w.heap.size w wr) := next HB3.out hbr
        have HR4 : Hid _ := keepA HR3.out hbr
        clear hlx hany hcell hbr
        cases hq : (l == r)
        · have HE : Hid (az.any (refP r) = (az.drop (k + 1)).any (refP r)) := by rw [Hid, HST.out, HPQ.out, hq]; rfl
          clear HST HPQ
          go_wp2
          go_quiet (fail)
          go_wp2
          go_roundw
          case rel => exact ⟨k + 1, by omega, by go_num, HE.out, below_drewN HB4.out _⟩
          case measure => simp [intOf]; omega
        · have HE : Hid (az.any (refP r) = true) := by rw [Hid, HST.out, HPQ.out, hq]; rfl
          have HQ : Hid (addOk az A = false) := by rw [Hid, HV2.out, HE.out]; rfl
          have HL : Hid (addA az A = az) := HN.out HQ.out
          clear HST HPQ
          go_wp2
          go_quiet (fail)
          go_wp2
          go_ret2
          rw [HQ.out, HL.out]
          exact ⟨_, _, rfl, keepA HR4.out (below_drewN (Below.refl _ _) _), below_drewN HWR.out _⟩
      · have HE : Hid (az.any (refP r) = false) := by rw [Hid, hany, List.drop_of_length_le (by omega)]; rfl
        have HQ : Hid (addOk az A = true) := by rw [Hid, HV2.out, HE.out]; rfl
        have HL : Hid (addA az A = az ++ [⟨r, i, c, m, d, u⟩]) := by rw [Hid, HY.out HQ.out, HAA.out]
        have HWR : Hid (Below w.heap.size w wr) := next HB3.out hbr
        have HR4 : Hid (wr.ownsRow w.heap.size 63 6 (.slice (some ⟨g, 0, none⟩) az.length cc) az.length (acells az)) := keepA HR3.out hbr
        have HON : Hid (AuthsAt (wr.alloc (.cells #[.string ⟨r.toArray⟩, .int .i64 i, .int .i64 c, .int .i64 m, .int .i64 d, .bool u] 63)) (some ⟨wr.heap.size, 0, none⟩) [⟨r, i, c, m, d, u⟩]) := au_oneA (AuB.new wr ⟨r, i, c, m, d, u⟩ _)
        have HOA : Hid ((wr.alloc (.cells #[.string ⟨r.toArray⟩, .int .i64 i, .int .i64 c, .int .i64 m, .int .i64 d, .bool u] 63)).ownsRow w.heap.size 63 6 (.slice (some ⟨g, 0, none⟩) az.length cc) az.length (acells az)) := keepA HR4.out ((Below.refl _ _).alloc (Nat.le_refl _) _)
        have hwz : w.heap.size ≤ wr.heap.size := HWR.out.size
        clear HE hany hbr HN HY HV2
        go_wp2_with (at_builtin; refine wpList_append_auths _ rfl (.tmp 35) (.tmp 37) rfl w.heap.size (.slice (some ⟨g, 0, none⟩) az.length cc) az.length (acells az) rfl HOA.out (some ⟨wr.heap.size, 0, none⟩) 1 [⟨r, i, c, m, d, u⟩] rfl HON.out (by simp; omega) (by simp; omega) ?_; intro v3 w3 o3 g3 n3)
        obtain ⟨a3, c3, rfl⟩ := auShape o3
        have HO3 : Hid (w3.ownsRow w.heap.size 63 6 (.slice a3 (az ++ ([⟨r, i, c, m, d, u⟩] : List Au)).length c3) (az ++ ([⟨r, i, c, m, d, u⟩] : List Au)).length (acells (az ++ [⟨r, i, c, m, d, u⟩]))) := by rw [Hid, List.length_append, acells_append]; exact o3
        have HB5 : Hid (Below w.heap.size w w3) := (HWR.out.alloc HWR.out.size _).grown g3 (by simp; omega) (fun j hj => (HOA.out.lt j hj).1)
        clear o3 g3 n3 HOA HON
        go_wp2
        go_ret2
        rw [HQ.out, HL.out]
        exact ⟨a3, c3, by rw [List.length_append]; rfl, HO3.out, HB5.out⟩
  · have h100' : 100 ≤ (az.length : Int) := by omega
    have HQ : Hid (addOk az A = false) := by rw [Hid, HV.out, decide_eq_false h100, Bool.and_false]; rfl
    have HL : Hid (addA az A = az) := HN.out HQ.out
    clear HV HN HY HAA HAR
    go_wp2_with fail
    refine (HO.out _).mono ?_
    rintro e u1 ⟨rfl, b1⟩
    have HB3 : Hid (Below w.heap.size w u1) := next HB2.out b1
    have HR3 : Hid _ := keepA HR.out b1
    clear b1 f0 f1 f2 f3 f4 f5
    go_wp2
    go_ret2
    rw [HQ.out, HL.out]
    exact ⟨_, _, rfl, HR3.out, HB3.out⟩

end Go.Proofs.Ytlonjjliochbhaa
