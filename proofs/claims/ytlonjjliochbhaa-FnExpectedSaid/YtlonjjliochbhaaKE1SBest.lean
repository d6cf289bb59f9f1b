/- The contract of the specification's MatchBest. -/
import Derived.Test.YtlonjjliochbhaaJE10b
namespace Go.Proofs.Ytlonjjliochbhaa
open Go.RowKit
set_option maxRecDepth 100000

set_option maxHeartbeats 3200000 in
theorem sBest_any (ao : Option Addr) (cap : Nat) (az : List Au) (iss cur am day : Int) (w : World) (hz : AuthsAt w ao az) (hn : az.length ≤ 1048576) (hd : ∀ a ∈ az, a.ref.length ≤ 1099511627776) (w3 : (Lit.int .i64 am).wf = true) (w4 : (Lit.int .i64 day).wf = true) :
    Calls Try.prog 49 #[.slice ao az.length cap, .int .i64 iss, .int .i64 cur, .int .i64 am, .int .i64 day] w fun e w' => ∃ x, e = .returned (.int .i64 x) ∧ BestAt az iss cur am day x ∧ Below w.heap.size w w' := by
  by_cases hb : 100 < az.length
  · have hb' : (100 : Int) < (az.length : Int) := by omega
    have h0 : (0 : Int) < (az.length : Int) := by omega
    go_enter Try.func49, Try.ntmps49
    go_wp2
    refine wp_loop_rounds 1 ?_
    rw [rounds_succ]
    go_wp2
    go_ret
    exact ⟨_, rfl, .inr ⟨hb, rfl⟩, Below.refl _ _⟩
  have hb' : (az.length : Int) ≤ 100 := by omega
  have HSC : Hid (∀ k, k < az.length → ∀ u, Calls Try.prog 57 #[auv (auAt az k), .int .i64 iss, .int .i64 cur, .int .i64 am, .int .i64 day] u fun e w' => e = .returned (.int .i64 (scA az iss cur am day k)) ∧ Below u.heap.size u w') := fun k hk u => sScore_any _ iss cur am day u (hd _ (auAt_mem hk)) w3 w4
  obtain ⟨sc, hsc⟩ : ∃ f, scA az iss cur am day = f := ⟨_, rfl⟩
  have HBA : Hid (∀ x, Best sc az.length x → BestAt az iss cur am day x) := fun x hx => .inl ⟨by omega, by rw [hsc]; exact hx⟩
  rw [hsc] at HSC
  clear hsc hd w3 w4
  go_enter Try.func49, Try.ntmps49
  go_wp2
  go_loopw [11, 12, 13, 14] (fun b t i _ wr => ∃ (k : Nat) (x y : Int), k ≤ az.length ∧ i = .int .i64 k ∧ t = .int .i64 x ∧ b = .int .i64 y ∧ Best sc k x ∧ (x = -1 ∨ ∃ j : Nat, x = (j : Int) ∧ y = sc j) ∧ Below w.heap.size w wr) (fun _ _ i _ _ => az.length - (intOf i).toNat)
  case atStart => exact ⟨0, -1, -1, Nat.zero_le _, rfl, rfl, rfl, .inl ⟨rfl, fun k hk => by omega⟩, .inl rfl, Below.refl _ _⟩
  case round =>
    obtain ⟨k, x, y, hk, rfl, rfl, rfl, hbest, hxy, hbr⟩ := hrel
    have HBE : Hid (Best sc k x) := hbest
    have HB : Hid (Below w.heap.size w wr) := hbr
    have HXY : Hid (x = -1 ∨ ∃ j : Nat, x = (j : Int) ∧ y = sc j) := hxy
    clear hbest hxy
    by_cases hlt : k < az.length
    · rcases hz with h0 | ⟨b, off, rfl, hbz, hcell⟩
      · rw [h0] at hlt; simp at hlt
      have HCL : Hid (∀ i, i < az.length → w.cell? ⟨b, off + i * 6, none⟩ = some (.string ⟨(auAt az i).ref.toArray⟩) ∧ w.cell? ⟨b, off + i * 6 + 1, none⟩ = some (.int .i64 (auAt az i).iss) ∧ w.cell? ⟨b, off + i * 6 + 2, none⟩ = some (.int .i64 (auAt az i).cur) ∧ w.cell? ⟨b, off + i * 6 + 3, none⟩ = some (.int .i64 (auAt az i).am) ∧ w.cell? ⟨b, off + i * 6 + 4, none⟩ = some (.int .i64 (auAt az i).day) ∧ w.cell? ⟨b, off + i * 6 + 5, none⟩ = some (.bool (auAt az i).used)) := hcell
      have x0 : wr.cell? ⟨b, off + k * 6, none⟩ = some (.string ⟨(auAt az k).ref.toArray⟩) := (hbr.cell (p := ⟨b, off + k * 6, none⟩) hbz).trans (HCL.out k hlt).1
      have x1 : wr.cell? ⟨b, off + k * 6 + 1, none⟩ = some (.int .i64 (auAt az k).iss) := (hbr.cell (p := ⟨b, off + k * 6 + 1, none⟩) hbz).trans (HCL.out k hlt).2.1
      have x2 : wr.cell? ⟨b, off + k * 6 + 2, none⟩ = some (.int .i64 (auAt az k).cur) := (hbr.cell (p := ⟨b, off + k * 6 + 2, none⟩) hbz).trans (HCL.out k hlt).2.2.1
      have x3 : wr.cell? ⟨b, off + k * 6 + 3, none⟩ = some (.int .i64 (auAt az k).am) := (hbr.cell (p := ⟨b, off + k * 6 + 3, none⟩) hbz).trans (HCL.out k hlt).2.2.2.1
      have x4 : wr.cell? ⟨b, off + k * 6 + 4, none⟩ = some (.int .i64 (auAt az k).day) := (hbr.cell (p := ⟨b, off + k * 6 + 4, none⟩) hbz).trans (HCL.out k hlt).2.2.2.2.1
      have x5 : wr.cell? ⟨b, off + k * 6 + 5, none⟩ = some (.bool (auAt az k).used) := (hbr.cell (p := ⟨b, off + k * 6 + 5, none⟩) hbz).trans (HCL.out k hlt).2.2.2.2.2
      have hki : (k : Int) < (az.length : Int) := by omega
      have HSK : Hid (∀ u, Calls Try.prog 57 #[auv (auAt az k), .int .i64 iss, .int .i64 cur, .int .i64 am, .int .i64 day] u fun e w' => e = .returned (.int .i64 (sc k)) ∧ Below u.heap.size u w') := HSC.out k hlt
      obtain ⟨⟨r, i, c, m, d, u⟩, hf⟩ : ∃ a, auAt az k = a := ⟨_, rfl⟩
      rw [hf] at x0 x1 x2 x3 x4 x5 HSK
      unfold auv at HSK
      simp only at x0 x1 x2 x3 x4 x5 HSK
      clear hf hcell hbr
      go_wp2_with fail
      refine (HSK.out _).mono ?_
      rintro e u2 ⟨rfl, b2⟩
      have HB2 : Hid (Below w.heap.size w u2) := HB.out.trans (b2.mono HB.out.size)
      clear b2 x0 x1 x2 x3 x4 x5 HSK
      by_cases hs : 0 ≤ sc k
      · rcases HXY.out with hx | ⟨j, hx, hy⟩
        · subst hx
          have HN : Hid (Best sc (k + 1) (k : Int)) := best_first HBE.out hs
          have HSE : Hid (∃ j : Nat, (k : Int) = (j : Int) ∧ sc k = sc j) := ⟨k, rfl, rfl⟩
          generalize sc k = s at hs HSE
          go_wp2
          go_roundw
          case rel => exact ⟨k + 1, k, s, by omega, by go_num, rfl, rfl, HN.out, .inr HSE.out, HB2.out⟩
          case measure => simp [intOf]; omega
        · subst hx
          have hj0 : ¬ (j : Int) < 0 := by omega
          by_cases hl : sc k < y
          · have HN : Hid (Best sc (k + 1) (k : Int)) := best_new HBE.out hs (by rw [← hy]; exact hl)
            have HSE : Hid (∃ j : Nat, (k : Int) = (j : Int) ∧ sc k = sc j) := ⟨k, rfl, rfl⟩
            clear hy
            generalize sc k = s at hs HSE hl
            go_wp2
            go_roundw
            case rel => exact ⟨k + 1, k, s, by omega, by go_num, rfl, rfl, HN.out, .inr HSE.out, HB2.out⟩
            case measure => simp [intOf]; omega
          · have HN : Hid (Best sc (k + 1) (j : Int)) := best_old HBE.out (by rw [← hy]; exact hl)
            have HSE : Hid (∃ i : Nat, (j : Int) = (i : Int) ∧ y = sc i) := ⟨j, rfl, hy⟩
            clear hy
            generalize sc k = s at hs hl
            go_wp2
            go_roundw
            case rel => exact ⟨k + 1, j, y, by omega, by go_num, rfl, rfl, HN.out, .inr HSE.out, HB2.out⟩
            case measure => simp [intOf]; omega
      · have HN : Hid (Best sc (k + 1) x) := best_step HBE.out (by omega)
        generalize sc k = s at hs
        go_wp2
        go_roundw
        case rel => exact ⟨k + 1, x, y, by omega, by go_num, rfl, rfl, HN.out, HXY.out, HB2.out⟩
        case measure => simp [intOf]; omega
    · have hke : k = az.length := by omega
      subst hke
      have HR : Hid (BestAt az iss cur am day x) := HBA.out _ HBE.out
      go_wp2
      go_ret
      exact ⟨_, rfl, HR.out, HB.out⟩

end Go.Proofs.Ytlonjjliochbhaa
