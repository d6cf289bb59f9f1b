/- The contracts of MatchBest, the program's and the specification's: the place of the best one. -/
import Derived.Test.YtpjfigjgamlcdaaHpBest
import Derived.Test.YtpjfigjgamlcdaaFScore
import Derived.Test.YtpjfigjgamlcdaaSScore
namespace Go.Proofs.Ytpjfigjgamlcdaa
open Go.RowKit
set_option maxRecDepth 100000

def scA (az : List Au) (iss cur am day : Int) (k : Nat) : Int := scoreV (auAt az k) iss cur am day
def BestAt (az : List Au) (iss cur am day x : Int) : Prop := (az.length ≤ 100 ∧ Best (scA az iss cur am day) az.length x) ∨ (100 < az.length ∧ x = -1)
theorem bestAt_one {az : List Au} {iss cur am day x y : Int} (h : BestAt az iss cur am day x) (g : BestAt az iss cur am day y) : x = y := by
  rcases h with ⟨h1, h⟩ | ⟨h1, rfl⟩
  · rcases g with ⟨_, g⟩ | ⟨g1, _⟩
    · exact best_one h g
    · omega
  · rcases g with ⟨g1, _⟩ | ⟨_, rfl⟩
    · omega
    · rfl

set_option maxHeartbeats 6400000 in
theorem iBest_any (ao : Option Addr) (cap : Nat) (az : List Au) (iss cur am day : Int) (w : World) (hz : AuthsAt w ao az) (hn : az.length ≤ 1048576) (hd : ∀ a ∈ az, a.ref.length ≤ 1099511627776) (hc : ∀ a ∈ az, wf64 a.cur) (w3 : (Lit.int .i64 am).wf = true) (w4 : (Lit.int .i64 day).wf = true) :
    Calls Try.prog 13 #[.slice ao az.length cap, .int .i64 iss, .int .i64 cur, .int .i64 am, .int .i64 day] w fun e w' => ∃ x, e = .returned (.int .i64 x) ∧ BestAt az iss cur am day x ∧ Below w.heap.size w w' := by
  by_cases hb : 100 < az.length
  · have hb' : (100 : Int) < (az.length : Int) := by omega
    go_enter Try.func13, Try.ntmps13
    go_wp2
    go_ret
    exact ⟨_, rfl, .inr ⟨hb, rfl⟩, Below.refl _ _⟩
  have hb' : (az.length : Int) ≤ 100 := by omega
  have HSC : Hid (∀ k, k < az.length → ∀ u, Calls Try.prog 15 #[auv (auAt az k), .int .i64 iss, .int .i64 cur, .int .i64 am, .int .i64 day] u fun e w' => e = .returned (.int .i64 (scA az iss cur am day k)) ∧ Below u.heap.size u w') := fun k hk u => iScore_any _ iss cur am day u (hd _ (auAt_mem hk)) (hc _ (auAt_mem hk)) w3 w4
  have HP0 : Hid (HP none w [] none 0 (w.alloc (.cells #[.slice none 0 0] 58))) :=
    ⟨(Below.refl _ _).alloc (Nat.le_refl _) _, by simp, by simp [go_sem], World.ownsRow_nil _ _ _ _, fun _ _ e => by cases e⟩
  obtain ⟨sc, hsc⟩ : ∃ f, scA az iss cur am day = f := ⟨_, rfl⟩
  have HBA : Hid (∀ x, Best sc az.length x → BestAt az iss cur am day x) := fun x hx => .inl ⟨by omega, by rw [hsc]; exact hx⟩
  rw [hsc] at HSC
  clear hsc hd hc w3 w4
  go_enter Try.func13, Try.ntmps13
  go_wp2
  go_loopw [12, 13, 14, 22] (fun _ _ _ i wr => ∃ (k : Nat) (H : List Cd) (a : Option Addr) (c : Nat), k ≤ az.length ∧ i = .int .i64 k ∧ Cands sc k H ∧ HP none w H a c wr) (fun _ _ _ i _ => az.length - (intOf i).toNat)
  case atStart => exact ⟨0, [], none, 0, Nat.zero_le _, rfl, Cands.start sc, HP0.out⟩
  case round =>
    obtain ⟨k, H, ao2, cc, hk, rfl, hcd, hp⟩ := hrel
    have HCD : Hid (Cands sc k H) := hcd
    have HPR : Hid (HP none w H ao2 cc wr) := hp
    have HLE : Hid (H.length ≤ 900) := by have := hcd.le; rw [Hid]; omega
    clear hcd hp HP0
    by_cases hlt : k < az.length
    · rcases hz with h0 | ⟨b, off, rfl, hbz, hcell⟩
      · rw [h0] at hlt; simp at hlt
      have hbr : Below w.heap.size w wr := HPR.out.bel
      have HCL : Hid (∀ i, i < az.length → w.cell? ⟨b, off + i * 6, none⟩ = some (.string ⟨(auAt az i).ref.toArray⟩) ∧ w.cell? ⟨b, off + i * 6 + 1, none⟩ = some (.int .i64 (auAt az i).iss) ∧ w.cell? ⟨b, off + i * 6 + 2, none⟩ = some (.int .i64 (auAt az i).cur) ∧ w.cell? ⟨b, off + i * 6 + 3, none⟩ = some (.int .i64 (auAt az i).am) ∧ w.cell? ⟨b, off + i * 6 + 4, none⟩ = some (.int .i64 (auAt az i).day) ∧ w.cell? ⟨b, off + i * 6 + 5, none⟩ = some (.bool (auAt az i).used)) := hcell
      have x0 : wr.cell? ⟨b, off + k * 6, none⟩ = some (.string ⟨(auAt az k).ref.toArray⟩) := (hbr.cell (p := ⟨b, off + k * 6, none⟩) hbz).trans (HCL.out k hlt).1
      have x1 : wr.cell? ⟨b, off + k * 6 + 1, none⟩ = some (.int .i64 (auAt az k).iss) := (hbr.cell (p := ⟨b, off + k * 6 + 1, none⟩) hbz).trans (HCL.out k hlt).2.1
      have x2 : wr.cell? ⟨b, off + k * 6 + 2, none⟩ = some (.int .i64 (auAt az k).cur) := (hbr.cell (p := ⟨b, off + k * 6 + 2, none⟩) hbz).trans (HCL.out k hlt).2.2.1
      have x3 : wr.cell? ⟨b, off + k * 6 + 3, none⟩ = some (.int .i64 (auAt az k).am) := (hbr.cell (p := ⟨b, off + k * 6 + 3, none⟩) hbz).trans (HCL.out k hlt).2.2.2.1
      have x4 : wr.cell? ⟨b, off + k * 6 + 4, none⟩ = some (.int .i64 (auAt az k).day) := (hbr.cell (p := ⟨b, off + k * 6 + 4, none⟩) hbz).trans (HCL.out k hlt).2.2.2.2.1
      have x5 : wr.cell? ⟨b, off + k * 6 + 5, none⟩ = some (.bool (auAt az k).used) := (hbr.cell (p := ⟨b, off + k * 6 + 5, none⟩) hbz).trans (HCL.out k hlt).2.2.2.2.2
      have hki : (k : Int) < (az.length : Int) := by omega
      have HSK : Hid (∀ u, Calls Try.prog 15 #[auv (auAt az k), .int .i64 iss, .int .i64 cur, .int .i64 am, .int .i64 day] u fun e w' => e = .returned (.int .i64 (sc k)) ∧ Below u.heap.size u w') := HSC.out k hlt
      obtain ⟨⟨r, i, c, m, d, u⟩, hf⟩ : ∃ a, auAt az k = a := ⟨_, rfl⟩
      rw [hf] at x0 x1 x2 x3 x4 x5 HSK
      unfold auv at HSK
      simp only at x0 x1 x2 x3 x4 x5 HSK
      clear hf hcell hbr
      go_upto_region 7 with fail
      clear x0 x1 x2 x3 x4 x5
      obtain ⟨W, hW⟩ : ∃ W, wr.alloc (.cells #[.string ⟨r.toArray⟩, .int .i64 i, .int .i64 c, .int .i64 m, .int .i64 d, .bool u] 30) = W := ⟨_, rfl⟩
      have bW : Below wr.heap.size wr W := hW ▸ (Below.refl _ _).alloc (Nat.le_refl _) _
      have BX : AuB wr.heap.size ⟨r, i, c, m, d, u⟩ W := hW ▸ AuB.new wr ⟨r, i, c, m, d, u⟩ _
      rw [hW]
      clear hW
      have HPW : Hid (HP none w H ao2 cc W) := HPR.out.below bW
      obtain ⟨q0, q1, q2, q3, q4, q5⟩ := BX
      simp only at q0 q1 q2 q3 q4 q5
      clear bW HPR
      go_wp2_with fail
      refine (HSK.out _).mono ?_
      rintro e u2 ⟨rfl, b2⟩
      have HP2 : Hid (HP none w H ao2 cc u2) := HPW.out.below b2
      clear b2 q0 q1 q2 q3 q4 q5 HPW HSK
      by_cases hs : 0 ≤ sc k
      · have HAD : Hid (Calls Try.prog 37 #[.pointer (some ⟨w.heap.size, 0, none⟩), .int .i64 (sc k), .int .i64 k] u2 fun e u' => e = .returned (.tuple #[]) ∧ ∃ g c G, HP none w G (some ⟨g, 0, none⟩) c u' ∧ IsHeap G ∧ SameC (H ++ [(sc k, (k : Int))]) G) := add10_any HP2.out HCD.out.heap (sc k) k HLE.out
        have HPU : Hid (∀ G, IsHeap G → SameC (H ++ [(sc k, (k : Int))]) G → Cands sc (k + 1) G) := fun G h1 h2 => HCD.out.push hs h1 h2
        generalize sc k = s at hs HAD HPU
        go_wp2_with fail
        refine Calls.mono HAD.out ?_
        rintro e u3 ⟨rfl, g3, c3, G, hp3, hG, hS⟩
        have HP3 : Hid (HP none w G (some ⟨g3, 0, none⟩) c3 u3) := hp3
        have HC3 : Hid (Cands sc (k + 1) G) := HPU.out G hG hS
        clear hp3 hG hS
        go_wp2
        go_roundw
        case rel => exact ⟨k + 1, G, _, _, by omega, by go_num, HC3.out, HP3.out⟩
        case measure => simp [intOf]; omega
      · have HC3 : Hid (Cands sc (k + 1) H) := HCD.out.skip (by omega)
        generalize sc k = s at hs
        go_wp2
        go_roundw
        case rel => exact ⟨k + 1, H, _, _, by omega, by go_num, HC3.out, HP2.out⟩
        case measure => simp [intOf]; omega
    · have hke : k = az.length := by omega
      subst hke
      by_cases h0 : 0 < H.length
      · have HNY : Hid (Calls Try.prog 38 #[.pointer (some ⟨w.heap.size, 0, none⟩)] wr fun e u' => e = .returned (.tuple #[.agg #[.int .i64 (cdAt H 0).1, .int .i64 (cdAt H 0).2], .bool true]) ∧ Below w.heap.size w u') := nearest_yes HPR.out HLE.out h0
        have HBR : Hid (BestAt az iss cur am day (cdAt H 0).2) := HBA.out _ (best_root HCD.out h0)
        obtain ⟨⟨s, p⟩, hsp⟩ : ∃ x, cdAt H 0 = x := ⟨_, rfl⟩
        rw [hsp] at HNY HBR
        simp only at HNY HBR
        clear hsp h0 hz
        go_wp2_with fail
        refine Calls.mono HNY.out ?_
        rintro e u3 ⟨rfl, b3⟩
        have HB3 : Hid _ := b3
        clear b3
        go_wp2
        go_ret
        exact ⟨_, rfl, HBR.out, HB3.out.alloc HB3.out.size _⟩
      · have HNN : Hid (Calls Try.prog 38 #[.pointer (some ⟨w.heap.size, 0, none⟩)] wr fun e u' => e = .returned (.tuple #[.agg #[.int .i64 0, .int .i64 0], .bool false]) ∧ Below w.heap.size w u') := nearest_no HPR.out (by omega)
        have HBR : Hid (BestAt az iss cur am day (-1)) := HBA.out _ (best_none HCD.out (by omega))
        clear h0 hz
        go_wp2_with fail
        refine Calls.mono HNN.out ?_
        rintro e u3 ⟨rfl, b3⟩
        have HB3 : Hid _ := b3
        clear b3
        go_wp2
        go_ret
        exact ⟨_, rfl, HBR.out, HB3.out.alloc HB3.out.size _⟩

end Go.Proofs.Ytpjfigjgamlcdaa
