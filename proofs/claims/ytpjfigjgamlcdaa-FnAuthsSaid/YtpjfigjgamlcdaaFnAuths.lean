/- Proved: for every list of bytes (of at most 1048576; a longer one passes by the law's own first test), with the list and the authorization that they draw: the program's AuthAdd takes it just when the specification's does, and else leaves the list; one that is taken is not taken twice, is used once, and is gone from what is pruned on its day, where the program's AuthPrune answers as the specification's and keeps none that is used. No other conditions. -/
import Derived.Test.YtpjfigjgamlcdaaBase
import Derived.Test.YtpjfigjgamlcdaaDrawAd
import Derived.Test.YtpjfigjgamlcdaaAuUse
import Derived.Test.YtpjfigjgamlcdaaAuPrune
import Derived.Test.YtpjfigjgamlcdaaSAuAdd
import Derived.Test.YtpjfigjgamlcdaaOver
namespace Go.Proofs.Ytpjfigjgamlcdaa.fnAuths
open Go.ChangeShapes Go.WideShapes Go.ChangeAt Go.RowKit
set_option maxRecDepth 100000

theorem add_parts {az : List Au} {a : Au} (h : addOk az a = true) : az.any (refP a.ref) = false ∧ az.length < 100 := by
  simp [addOk] at h
  refine ⟨?_, h.2.2⟩
  cases hq : az.any (refP a.ref)
  · rfl
  · simp at hq
    obtain ⟨x, hx, hp⟩ := hq
    have := h.2.1 x hx
    rw [hp] at this; cases this
theorem twice_no (az : List Au) (a : Au) : addOk (az ++ [a]) a = false := by
  have : (az ++ [a]).any (refP a.ref) = true := by simp [refP]
  rw [addOk, this]; simp
theorem at_last (az : List Au) (a : Au) : auAt (az ++ [a]) az.length = a := by rw [auAt_is (by simp)]; simp
theorem use_last (az : List Au) (a : Au) : useOk (az ++ [a]) (az.length : Int) = !a.used := by
  rw [useOk, Int.toNat_natCast, at_last, decide_eq_true (show 0 ≤ (az.length : Int) ∧ (az.length : Int) < (az ++ [a]).length by simp; omega), Bool.true_and]
theorem useL_last (az : List Au) (a : Au) : useL (az ++ [a]) (az.length : Int) = az ++ [usedAu a] := by
  cases hu : a.used
  · have h := use_last az a
    rw [hu, Bool.not_false] at h
    rw [useL, if_pos h, Int.toNat_natCast, at_last, List.set_append_right _ _ (Nat.le_refl _), Nat.sub_self]
    rfl
  · have h := use_last az a
    rw [hu, Bool.not_true] at h
    rw [useL_no h]
    obtain ⟨r, i, c, m, d, u⟩ := a
    simp only at hu
    rw [hu]; rfl
theorem again_no (az : List Au) (a : Au) : useOk (az ++ [usedAu a]) (az.length : Int) = false := by rw [use_last]; rfl
theorem prune_good {az : List Au} {a : Au} (h : az.any (refP a.ref) = false) (t : Int) : ∀ p ∈ pruneL (az ++ [usedAu a]) t, p.used = false ∧ (p.ref == a.ref) = false := by
  intro p hp
  unfold pruneL at hp
  split at hp
  · rw [List.mem_filter] at hp
    obtain ⟨hm, hk⟩ := hp
    have hu : p.used = false := by
      unfold keepP at hk
      cases hq : p.used
      · rfl
      · rw [hq] at hk; simp at hk
    refine ⟨hu, ?_⟩
    rcases List.mem_append.1 hm with h1 | h1
    · cases hq : (p.ref == a.ref)
      · rfl
      · have : az.any (refP a.ref) = true := List.any_eq_true.2 ⟨p, h1, hq⟩
        rw [h] at this; cases this
    · have e : p = usedAu a := by simpa using h1
      rw [e] at hu; cases hu
  · cases hp

set_option maxHeartbeats 12800000 in
theorem walk (b0 : Option Addr) (len0 cap0 : Nat) (z0 : List Int) (w : World) (w0 : IsRow .u8 w b0 len0 cap0 z0) :
    Calls Try.prog 4 #[.slice b0 len0 cap0] w fun e w' => e = .returned (.bool true) ∧ Below w.heap.size w w' := by
  by_cases hbig : (1048576 : Int) < (len0 : Int)
  · go_enter Try.func4, Try.ntmps4
    go_wp2_with fail
    refine (big_any _ _ _ _).mono ?_
    rintro e w1 ⟨rfl, hw⟩
    rw [hw, decide_eq_true hbig]
    clear hw w1
    go_wp2
    go_ret
    exact ⟨rfl, Below.refl _ _⟩
  have hlen : len0 ≤ 1048576 := by omega
  have HDB : Hid (decide ((1048576 : Int) < (len0 : Int)) = false) := decide_eq_false hbig
  clear hbig
  go_enter Try.func4, Try.ntmps4
  go_wp2_with fail
  refine (big_any _ _ _ _).mono ?_
  rintro e w1 ⟨rfl, hw⟩
  rw [hw, HDB.out]
  clear hw w1
  go_wp2_with fail
  refine (drawAdd10_any _ _ _ _ _ w0 hlen).mono ?_
  rintro e w1 ⟨ao, c, az, aa, rfl, hal, hz, hg, hga, bw1⟩
  have HD : Hid (∀ a ∈ az, a.ref.length ≤ 1099511627776) := fun a ha => by have := (hg a ha).ref; omega
  have HDA : Hid (aa.ref.length ≤ 1099511627776) := by have := hga.ref; rw [Hid]; omega
  have HCA : Hid (wf64 aa.cur) := hga.cur
  obtain ⟨W, hW⟩ : ∃ W, w1.alloc (.cells #[.string ⟨aa.ref.toArray⟩, .int .i64 aa.iss, .int .i64 aa.cur, .int .i64 aa.am, .int .i64 aa.day, .bool aa.used] 30) = W := ⟨_, rfl⟩
  have b1W : Below w1.heap.size w1 W := hW ▸ (Below.refl _ _).alloc (Nat.le_refl _) _
  have HBB : Hid (AuB w1.heap.size aa W) := hW ▸ AuB.new w1 aa _
  have HBW : Hid (Below w.heap.size w W) := bw1.trans (b1W.mono bw1.size)
  have HZ : Hid (AuthsAt W ao az) := hz.below b1W
  obtain ⟨Q, hQ⟩ : ∃ Q, addOk az aa = Q := ⟨_, rfl⟩
  obtain ⟨L1, hL1⟩ : ∃ L, addA az aa = L := ⟨_, rfl⟩
  have HI1 : Hid (∀ u, AuthsAt u ao az → Calls Try.prog 17 #[.slice ao az.length c, auv aa] u (AuR2 u L1 Q)) := fun u hu => by rw [← hQ, ← hL1]; exact iAdd10_any ao c az aa u hu (by omega) HD.out HDA.out HCA.out
  have HS1 : Hid (∀ u, AuthsAt u ao az → Calls Try.prog 18 #[.slice ao az.length c, auv aa] u (AuR2 u L1 Q)) := fun u hu => by rw [← hQ, ← hL1]; exact sAdd10_any ao c az aa u hu (by omega) HDA.out
  have HNO : Hid (Q = false → L1 = az) := fun h => by rw [← hL1]; exact addA_no (hQ.trans h)
  have HYE : Hid (Q = true → L1 = az ++ [aa] ∧ az.any (refP aa.ref) = false ∧ az.length < 100) := fun h => ⟨by rw [← hL1]; exact addA_yes (hQ.trans h), add_parts (hQ.trans h)⟩
  have HTW : Hid (∀ (u : World) (bo : Option Addr) (k : Nat), AuthsAt u bo (az ++ [aa]) → Calls Try.prog 17 #[.slice bo (az ++ [aa]).length k, auv aa] u (AuR2 u (az ++ [aa]) false)) := fun u bo k hu => by
    have := iAdd10_any bo k (az ++ [aa]) aa u hu (by simp; omega) (fun x hx => by
      rcases List.mem_append.1 hx with h | h
      · exact HD.out x h
      · have e : x = aa := by simpa using h
        rw [e]; exact HDA.out) HDA.out HCA.out
    rwa [twice_no, addA_no (twice_no az aa)] at this
  have HU1 : Hid (∀ (u : World) (bo : Option Addr) (k : Nat), AuthsAt u bo (az ++ [aa]) → Calls Try.prog 19 #[.slice bo (az ++ [aa]).length k, .int .i64 az.length] u (AuR2 u (az ++ [usedAu aa]) (!aa.used))) := fun u bo k hu => by
    have := iUse_any bo k (az ++ [aa]) az.length u hu (by simp; omega) (fun x hx => by
      rcases List.mem_append.1 hx with h | h
      · exact HD.out x h
      · have e : x = aa := by simpa using h
        rw [e]; exact HDA.out)
    rwa [use_last, useL_last] at this
  have HDU : Hid (∀ x ∈ az ++ [usedAu aa], x.ref.length ≤ 1099511627776) := fun x hx => by
    rcases List.mem_append.1 hx with h | h
    · exact HD.out x h
    · have e : x = usedAu aa := by simpa using h
      rw [e]; exact HDA.out
  have HU2 : Hid (∀ (u : World) (bo : Option Addr) (k : Nat), AuthsAt u bo (az ++ [usedAu aa]) → Calls Try.prog 19 #[.slice bo (az ++ [usedAu aa]).length k, .int .i64 az.length] u (AuR2 u (az ++ [usedAu aa]) false)) := fun u bo k hu => by
    have := iUse_any bo k (az ++ [usedAu aa]) az.length u hu (by simp; omega) HDU.out
    rwa [again_no, useL_no (again_no az aa)] at this
  have HPI : Hid (∀ (u : World) (bo : Option Addr) (k : Nat), AuthsAt u bo (az ++ [usedAu aa]) → Calls Try.prog 20 #[.slice bo (az ++ [usedAu aa]).length k, .int .i64 aa.day] u (AuR1 u (pruneL (az ++ [usedAu aa]) aa.day))) := fun u bo k hu => iPrune_any bo k _ aa.day u hu (by simp; omega) HDU.out
  have HPS : Hid (∀ (u : World) (bo : Option Addr) (k : Nat), AuthsAt u bo (az ++ [usedAu aa]) → Calls Try.prog 21 #[.slice bo (az ++ [usedAu aa]).length k, .int .i64 aa.day] u (AuR1 u (pruneL (az ++ [usedAu aa]) aa.day))) := fun u bo k hu => sPrune_any bo k _ aa.day u hu (by simp; omega)
  have HGD : Hid (az.any (refP aa.ref) = false → ∀ p ∈ pruneL (az ++ [usedAu aa]) aa.day, p.used = false ∧ (p.ref == aa.ref) = false) := fun h => prune_good h aa.day
  have HPL : Hid ((pruneL (az ++ [usedAu aa]) aa.day).length ≤ 102) := by have := pruneL_len (az ++ [usedAu aa]) aa.day; simp at this; rw [Hid]; omega
  have HL2 : Hid ((az ++ [usedAu aa]).length = az.length + 1 ∧ (az ++ [aa]).length = az.length + 1) := by rw [Hid]; simp
  obtain ⟨L2, hL2⟩ : ∃ L, az ++ [usedAu aa] = L := ⟨_, rfl⟩
  obtain ⟨LA, hLA⟩ : ∃ L, az ++ [aa] = L := ⟨_, rfl⟩
  rw [hL2] at HU1 HU2 HPI HPS HGD HPL HL2
  rw [hLA] at HYE HTW HU1 HL2
  obtain ⟨PL, hPL⟩ : ∃ L, pruneL L2 aa.day = L := ⟨_, rfl⟩
  rw [hPL] at HPI HPS HGD HPL
  clear hQ hL1 hz hg hga bw1 b1W w0 HD HDA HCA HDU hL2 hLA hPL
  obtain ⟨xr, xi, xc, xm, xd, xu⟩ := aa
  unfold auv at HI1 HS1 HTW ⊢
  simp only at hW HI1 HS1 HTW HU1 HPI HPS HGD HYE ⊢
  have HW : Hid _ := hW
  clear hW
  go_upto_region 4 with fail
  rw [HW.out]
  clear HW
  obtain ⟨t, ht⟩ : ∃ t, w1.heap.size = t := ⟨_, rfl⟩
  rw [ht] at HBB ⊢
  clear ht
  obtain ⟨f0, f1, f2, f3, f4, f5⟩ := HBB.out
  simp only at f0 f1 f2 f3 f4 f5
  go_wp2_with fail
  refine (HI1.out _ HZ.out).mono ?_
  rintro e u1 ⟨a1, k1, rfl, o1, b1⟩
  have q1 : Below W.heap.size W u1 := b1
  have HO1 : Hid (u1.ownsRow W.heap.size 30 6 (.slice a1 L1.length k1) L1.length (acells L1)) := o1
  clear o1 b1 f0 f1 f2 f3 f4 f5
  obtain ⟨f0, f1, f2, f3, f4, f5⟩ := HBB.out.below q1
  simp only at f0 f1 f2 f3 f4 f5
  go_wp2_with fail
  refine (HS1.out _ (HZ.out.below q1)).mono ?_
  rintro e u2 ⟨a2, k2, rfl, -, b2⟩
  have q2 : Below W.heap.size W u2 := next q1 b2
  replace HO1 : Hid (u2.ownsRow W.heap.size 30 6 (.slice a1 L1.length k1) L1.length (acells L1)) := keepA HO1.out b2
  have HQ2 : Hid (Below W.heap.size W u2) := q2
  clear b2 f0 f1 f2 f3 f4 f5 q1 q2
  cases Q
  · have HE : Hid (L1 = az) := HNO.out rfl
    rw [HE.out]
    have hb : ((az.length : Int) == (az.length : Int)) = true := by simp
    have HF : Hid (Below w.heap.size w u2) := next HBW.out HQ2.out
    clear HO1
    go_wp2
    go_ret
    exact ⟨rfl, HF.out⟩
  obtain ⟨hE, hany, h100⟩ := HYE.out rfl
  subst hE
  have HGP := HGD.out hany
  have HZ1 : Hid (AuthsAt u2 a1 L1) := auths_any HO1.out
  clear HO1 HNO HYE HGD hany
  obtain ⟨f0, f1, f2, f3, f4, f5⟩ := HBB.out.below HQ2.out
  simp only at f0 f1 f2 f3 f4 f5
  go_wp2_with fail
  refine (HTW.out _ _ _ HZ1.out).mono ?_
  rintro e u3 ⟨a3, k3, rfl, -, b3⟩
  replace HZ1 : Hid (AuthsAt u3 a1 L1) := HZ1.out.below b3
  have HQ3 : Hid (Below W.heap.size W u3) := next HQ2.out b3
  clear b3 f0 f1 f2 f3 f4 f5
  go_wp2_with fail
  refine (HU1.out _ _ _ HZ1.out).mono ?_
  rintro e u4 ⟨a4, k4, rfl, o4, b4⟩
  have HZ4 : Hid (AuthsAt u4 a4 L2) := auths_any o4
  have HQ4 : Hid (Below W.heap.size W u4) := next HQ3.out b4
  clear b4 o4
  go_wp2_with fail
  refine (HU2.out _ _ _ HZ4.out).mono ?_
  rintro e u5 ⟨a5, k5, rfl, -, b5⟩
  replace HZ4 : Hid (AuthsAt u5 a4 L2) := HZ4.out.below b5
  have HQ5 : Hid (Below W.heap.size W u5) := next HQ4.out b5
  clear b5
  obtain ⟨f0, f1, f2, f3, f4, f5⟩ := HBB.out.below HQ5.out
  simp only at f0 f1 f2 f3 f4 f5
  have hl1 : ((L1.length : Int) != (az.length : Int) + 1) = false := by have := HL2.out.2; simp; omega
  have nb : ((!xu) == xu) = false := by cases xu <;> rfl
  have HXU : Hid (xu = true ∨ xu = false) := by cases xu <;> simp [Hid]
  cases xu
  all_goals
    go_wp2_with fail
    refine (HPI.out _ _ _ HZ4.out).mono ?_
    rintro e u6 ⟨a6, k6, rfl, o6, b6⟩
    have HZ6 : Hid (AuthsAt u6 a6 PL) := auths_any o6
    replace HZ4 : Hid (AuthsAt u6 a4 L2) := HZ4.out.below b6
    have HQ6 : Hid (Below W.heap.size W u6) := next HQ5.out b6
    clear b6 o6 f0 f1 f2 f3 f4 f5
    obtain ⟨f0, f1, f2, f3, f4, f5⟩ := HBB.out.below HQ6.out
    simp only at f0 f1 f2 f3 f4 f5
    go_wp2_with fail
    refine (HPS.out _ _ _ HZ4.out).mono ?_
    rintro e u7 ⟨a7, k7, rfl, o7, b7⟩
    have HZ7 : Hid (AuthsAt u7 a7 PL) := auths_any o7
    replace HZ6 : Hid (AuthsAt u7 a6 PL) := HZ6.out.below b7
    have HQ7 : Hid (Below W.heap.size W u7) := next HQ6.out b7
    have hpn : ((PL.length : Int) != (PL.length : Int)) = false := by simp
    have hpl := HPL.out
    clear b7 o7 f0 f1 f2 f3 f4 f5
    go_wp2
    go_loopw [17] (fun i wr => ∃ k : Nat, k ≤ PL.length ∧ i = .int .i64 k ∧ Below u7.heap.size u7 wr) (fun i _ => PL.length - (intOf i).toNat)
    case atStart => exact ⟨0, Nat.zero_le _, rfl, Below.refl _ _⟩
    case round =>
      obtain ⟨k, hk, rfl, hbr⟩ := hrel
      by_cases hlt : k < PL.length
      · rcases HZ6.out with h0 | ⟨b, off, rfl, hbz, hcell⟩
        · rw [h0] at hlt; simp at hlt
        rcases HZ7.out with h0 | ⟨b9, off9, rfl, hbz9, hcell9⟩
        · rw [h0] at hlt; simp at hlt
        have HCL : Hid (∀ i, i < PL.length → u7.cell? ⟨b, off + i * 6, none⟩ = some (.string ⟨(auAt PL i).ref.toArray⟩) ∧ u7.cell? ⟨b, off + i * 6 + 1, none⟩ = some (.int .i64 (auAt PL i).iss) ∧ u7.cell? ⟨b, off + i * 6 + 2, none⟩ = some (.int .i64 (auAt PL i).cur) ∧ u7.cell? ⟨b, off + i * 6 + 3, none⟩ = some (.int .i64 (auAt PL i).am) ∧ u7.cell? ⟨b, off + i * 6 + 4, none⟩ = some (.int .i64 (auAt PL i).day) ∧ u7.cell? ⟨b, off + i * 6 + 5, none⟩ = some (.bool (auAt PL i).used)) := hcell
        have HC9 : Hid (∀ i, i < PL.length → u7.cell? ⟨b9, off9 + i * 6, none⟩ = some (.string ⟨(auAt PL i).ref.toArray⟩) ∧ u7.cell? ⟨b9, off9 + i * 6 + 1, none⟩ = some (.int .i64 (auAt PL i).iss) ∧ u7.cell? ⟨b9, off9 + i * 6 + 2, none⟩ = some (.int .i64 (auAt PL i).cur) ∧ u7.cell? ⟨b9, off9 + i * 6 + 3, none⟩ = some (.int .i64 (auAt PL i).am) ∧ u7.cell? ⟨b9, off9 + i * 6 + 4, none⟩ = some (.int .i64 (auAt PL i).day) ∧ u7.cell? ⟨b9, off9 + i * 6 + 5, none⟩ = some (.bool (auAt PL i).used)) := hcell9
        have x0 : wr.cell? ⟨b, off + k * 6, none⟩ = some (.string ⟨(auAt PL k).ref.toArray⟩) := (hbr.cell (p := ⟨b, off + k * 6, none⟩) hbz).trans (HCL.out k hlt).1
        have x1 : wr.cell? ⟨b, off + k * 6 + 1, none⟩ = some (.int .i64 (auAt PL k).iss) := (hbr.cell (p := ⟨b, off + k * 6 + 1, none⟩) hbz).trans (HCL.out k hlt).2.1
        have x2 : wr.cell? ⟨b, off + k * 6 + 2, none⟩ = some (.int .i64 (auAt PL k).cur) := (hbr.cell (p := ⟨b, off + k * 6 + 2, none⟩) hbz).trans (HCL.out k hlt).2.2.1
        have x3 : wr.cell? ⟨b, off + k * 6 + 3, none⟩ = some (.int .i64 (auAt PL k).am) := (hbr.cell (p := ⟨b, off + k * 6 + 3, none⟩) hbz).trans (HCL.out k hlt).2.2.2.1
        have x4 : wr.cell? ⟨b, off + k * 6 + 4, none⟩ = some (.int .i64 (auAt PL k).day) := (hbr.cell (p := ⟨b, off + k * 6 + 4, none⟩) hbz).trans (HCL.out k hlt).2.2.2.2.1
        have x5 : wr.cell? ⟨b, off + k * 6 + 5, none⟩ = some (.bool (auAt PL k).used) := (hbr.cell (p := ⟨b, off + k * 6 + 5, none⟩) hbz).trans (HCL.out k hlt).2.2.2.2.2
        have y0 : wr.cell? ⟨b9, off9 + k * 6, none⟩ = some (.string ⟨(auAt PL k).ref.toArray⟩) := (hbr.cell (p := ⟨b9, off9 + k * 6, none⟩) hbz9).trans (HC9.out k hlt).1
        have y1 : wr.cell? ⟨b9, off9 + k * 6 + 1, none⟩ = some (.int .i64 (auAt PL k).iss) := (hbr.cell (p := ⟨b9, off9 + k * 6 + 1, none⟩) hbz9).trans (HC9.out k hlt).2.1
        have y2 : wr.cell? ⟨b9, off9 + k * 6 + 2, none⟩ = some (.int .i64 (auAt PL k).cur) := (hbr.cell (p := ⟨b9, off9 + k * 6 + 2, none⟩) hbz9).trans (HC9.out k hlt).2.2.1
        have y3 : wr.cell? ⟨b9, off9 + k * 6 + 3, none⟩ = some (.int .i64 (auAt PL k).am) := (hbr.cell (p := ⟨b9, off9 + k * 6 + 3, none⟩) hbz9).trans (HC9.out k hlt).2.2.2.1
        have y4 : wr.cell? ⟨b9, off9 + k * 6 + 4, none⟩ = some (.int .i64 (auAt PL k).day) := (hbr.cell (p := ⟨b9, off9 + k * 6 + 4, none⟩) hbz9).trans (HC9.out k hlt).2.2.2.2.1
        have y5 : wr.cell? ⟨b9, off9 + k * 6 + 5, none⟩ = some (.bool (auAt PL k).used) := (hbr.cell (p := ⟨b9, off9 + k * 6 + 5, none⟩) hbz9).trans (HC9.out k hlt).2.2.2.2.2
        have hki : (k : Int) < (PL.length : Int) := by omega
        have hgp := HGP _ (auAt_mem hlt)
        obtain ⟨⟨r, i, c2, m, d, u⟩, hf⟩ : ∃ a, auAt PL k = a := ⟨_, rfl⟩
        rw [hf] at x0 x1 x2 x3 x4 x5 y0 y1 y2 y3 y4 y5 hgp
        simp only at x0 x1 x2 x3 x4 x5 y0 y1 y2 y3 y4 y5 hgp
        obtain ⟨rfl, hrr⟩ := hgp
        obtain ⟨f0, f1, f2, f3, f4, f5⟩ := HBB.out.below (next HQ7.out hbr)
        simp only at f0 f1 f2 f3 f4 f5
        clear hf hcell hcell9 f1 f2 f3 f4 f5
        have hne := over_ne wr
        have g0 := over_cell x0
        have g1 := over_cell x1
        have g2 := over_cell x2
        have g3 := over_cell x3
        have g4 := over_cell x4
        have g5 := over_cell x5
        have j0 := over_cell y0
        have j1 := over_cell y1
        have j2 := over_cell y2
        have j3 := over_cell y3
        have j4 := over_cell y4
        have j5 := over_cell y5
        have l0 := over_cell f0
        go_wp2
        refine wp_region_over (by kernel_rfl) (by kernel_rfl) ?_
        repeat (go_big_quiet_step (fail))
        refine wpQuiet_nil ?_
        rintro w9 ⟨⟨wz, b9'⟩, hw9⟩
        subst hw9
        have HB9 : Hid (Below u7.heap.size u7 w9) := next hbr b9'
        clear g0 g1 g2 g3 g4 g5 j0 j1 j2 j3 j4 j5 l0 x0 x1 x2 x3 x4 x5 y0 y1 y2 y3 y4 y5 f0 b9' hne
        go_wp2
        go_roundw
        case rel => exact ⟨k + 1, by omega, by go_num, HB9.out⟩
        case measure => simp [intOf]; omega
      · have HF : Hid (Below w.heap.size w wr) := next HBW.out (next HQ7.out hbr)
        go_wp2
        go_ret
        exact ⟨rfl, HF.out⟩

set_option maxRecDepth 100000 in
theorem lifted (os : Os) (started : os.Started) (H : Type) (enc : TypeId × Value → H) :
    ReturnsInHanded {} Try.checked os 4 .any (Rows.fnAuthsSpec.pre6 enc Try.prog Try.f4 Rows.fnAuthsRow.domain false) (Rows.fnAuthsSpec.post enc Try.prog Try.f4 false true false false) := by
  refine returnsInHanded_of_change (C := Try.checked) own started (by kernel_rfl) Try.func4
    (ChangeSpec.witness6 (enc := enc) (C := Try.checked) false ⟨#[], #[.slice none 0 0], []⟩ 8 (by kernel_rfl) (by kernel_rfl) (by kernel_rfl) (by kernel_rfl)) ?_
  intro W base args ds gs before hval0 hW hcnd _
  have hval : ∀ (j : Nat) t v, Try.f4.params[j]? = some t → args[j]? = some v → Value.okWide Try.prog W .any base t v := hval0
  have hW' := hW
  obtain ⟨p, q, hA0, hV, rfl, hfz, hnd⟩ := hW
  have hA : DataW.TrodAll enc Try.prog W 0 (fun _ => true) true Try.f4.params.toList args.toList ds p := hA0
  rw [Try.params4] at hA hval
  obtain ⟨v0, vs0, d0, ds0, p0, q0, hargs, rfl, rfl, h0, r0⟩ := trodAll_cons hA
  obtain ⟨rfl, rfl, rfl⟩ := trodAll_nil r0
  obtain rfl : args = #[v0] := by cases args; simp_all
  obtain ⟨rfl, rfl⟩ := trodVars_none hV
  obtain ⟨a0, len0, cap0, rfl⟩ := okWide_slice Try.underlying22 (hval 0 22 v0 rfl rfl)
  have k0 := h0
  have lt0 : ∀ x ∈ p0, x.block < W.heap.size := by obtain ⟨m, hm⟩ := k0; exact DataW.trod_lt m _ _ _ hm
  obtain ⟨z0, w0⟩ : ∃ zs, IsRow .u8 W a0 len0 cap0 zs := is_row Try.underlying22 Try.underlying5 (by kernel_rfl) h0
  clear hA0 hval0
  refine (walk a0 len0 cap0 z0 W w0).mono fun e W' ⟨he, bel⟩ => ?_
  subst he
  exact ⟨_, rfl, _, _, _, [], _, [], hW', trodAll_mk1 (shut_bool Try.underlying4 _), (trodAll_cons_mk (Below.trod laidOut (by kernel_rfl) (of_decide_eq_true (by kernel_rfl)) k0 bel lt0) trodAll_mk0), rfl, bel.frame _, fun h => by cases h⟩

theorem proved : Rows.FnAuthsSaid :=
  OpenClaim.holds_of_wide 4 Try.f4 rfl rfl rfl rfl rfl rfl rfl ⟨rfl, rfl, rfl, rfl, rfl⟩ rfl rfl rfl rfl rfl (by kernel_rfl) Try.func4 (by kernel_rfl)
    (of_decide_eq_true (by kernel_rfl)) (by unfold Func.isWrapper; first | (rw [if_pos (by decide +kernel)]; kernel_rfl) | (rw [if_neg (by decide +kernel)]; exact ⟨rfl, rfl⟩))
    (fun os started H enc _ => lifted os started H enc)
end Go.Proofs.Ytpjfigjgamlcdaa.fnAuths
