/- What is drawn for MatchBest: a list and four numbers, whatever the bytes. -/
import Derived.Test.YtpjfigjgamlcdaaDrawAl
namespace Go.Proofs.Ytpjfigjgamlcdaa
open Go.RowKit
set_option maxRecDepth 100000

set_option maxHeartbeats 1600000 in
theorem drawMatch_any (a : Option Addr) (len cap : Nat) (zs : List Int) (w : World) (hr : IsRow .u8 w a len cap zs) (hn : len ≤ 1048576) :
    Calls Try.prog 12 #[.slice a len cap] w fun e w' => ∃ (ao : Option Addr) (c : Nat) (az : List Au) (is cu am da : Int), e = .returned (.tuple #[.slice ao az.length c, .int .i64 is, .int .i64 cu, .int .i64 am, .int .i64 da]) ∧ az.length ≤ 101 ∧ AuthsAt w' ao az ∧ (∀ a ∈ az, AuG a) ∧ (0 ≤ am ∧ am ≤ 1000) ∧ (0 ≤ da ∧ da ≤ 10000) ∧ Below w.heap.size w w' := by
  go_enter Try.func12, Try.ntmps12
  go_wp2_with fail
  refine (new_any _ _ _ _ _ hr hn).mono ?_
  rintro e w1 ⟨rfl, c1, b1⟩
  have hs1 : w.heap.size + 1 ≤ w1.heap.size := (cursor_bd c1).2
  go_wp2_with fail
  refine (aulist_any _ _ c1).mono ?_
  rintro e w2 ⟨ao, c, az, rfl, hal, hL, c2, g2⟩
  have HL : Hid (AuL w1 az ao c w2) := hL
  have HB : Hid (Below w.heap.size w w2) := bel_grown b1 g2 (Nat.le_refl _)
  clear hL c1 b1 g2
  go_wp2_with fail
  refine (below_any _ _ _ c2 (by omega)).mono ?_
  rintro e w3 ⟨x3, rfl, -, -, c3, g3⟩
  replace HL : Hid (AuL w1 az ao c w3) := ⟨keepAg HL.out.own g3 (fun x hx e => by have := (HL.out.own.lt x hx).1; injection e with e; omega), HL.out.good⟩
  replace HB : Hid (Below w.heap.size w w3) := bel_grown HB.out g3 (Nat.le_refl _)
  clear c2 g3
  go_wp2_with fail
  refine (pickInt_any _ _ _ [840, 978] _ (cursor_alloc c3 _) (cursor_ne c3) (lit_cells w3 [840, 978] _ rfl) (by decide) (by decide)).mono ?_
  rintro e w4 ⟨x4, rfl, -, c4, g4⟩
  replace HL : Hid (AuL w1 az ao c w4) := ⟨keepAg (keepA HL.out.own ((Below.refl _ _).alloc (Nat.le_refl _) _)) g4 (fun x hx e => by have := (HL.out.own.lt x hx).1; injection e with e; omega), HL.out.good⟩
  replace HB : Hid (Below w.heap.size w w4) := bel_grown (HB.out.alloc HB.out.size _) g4 (Nat.le_refl _)
  clear c3 g4
  go_wp2_with fail
  refine (below_any _ _ _ c4 (by omega)).mono ?_
  rintro e w5 ⟨x5, rfl, p5, q5, c5, g5⟩
  have r5 := q5 (by omega)
  replace HL : Hid (AuL w1 az ao c w5) := ⟨keepAg HL.out.own g5 (fun x hx e => by have := (HL.out.own.lt x hx).1; injection e with e; omega), HL.out.good⟩
  replace HB : Hid (Below w.heap.size w w5) := bel_grown HB.out g5 (Nat.le_refl _)
  clear c4 g5 q5
  go_wp2_with fail
  refine (below_any _ _ _ c5 (by omega)).mono ?_
  rintro e w6 ⟨x6, rfl, p6, q6, c6, g6⟩
  have r6 := q6 (by omega)
  replace HL : Hid (AuL w1 az ao c w6) := ⟨keepAg HL.out.own g6 (fun x hx e => by have := (HL.out.own.lt x hx).1; injection e with e; omega), HL.out.good⟩
  replace HB : Hid (Below w.heap.size w w6) := bel_grown HB.out g6 (Nat.le_refl _)
  clear c5 g6 q6 c6
  go_wp2
  refine bodyPost_ret (by simp [results, Try.results12, go_sem]; try rfl) rfl ?_
  exact ⟨ao, c, az, _, _, _, _, rfl, hal, auths_any HL.out.own, HL.out.good, by omega, by omega, HB.out⟩

end Go.Proofs.Ytpjfigjgamlcdaa
