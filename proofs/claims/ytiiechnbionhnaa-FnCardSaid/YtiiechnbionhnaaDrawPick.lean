/- What is drawn from a list of ints, and what fits an int. -/
import Derived.Test.YtiiechnbionhnaaDraw
namespace Go.Proofs.Ytiiechnbionhnaa
open Go.RowKit

theorem lit_cells (w : World) (zs : List Int) (arr : Array Value) (h : arr = (zs.map (Value.int .i64)).toArray) :
    ∀ i, i < zs.length → (w.alloc (.cells arr 3)).cell? ⟨w.heap.size, i, none⟩ = some (.int .i64 (zs.getD i 0)) := by
  intro i hi
  subst h
  simp [List.getD_eq_getElem?_getD, hi]

theorem cursor_ne {B : Nat} {w : World} {g : Nat} (hc : Cursor B w g) : w.heap.size ≠ g := by
  have := cursor_bd hc; omega
theorem cursor_alloc {B : Nat} {w : World} {g : Nat} (hc : Cursor B w g) (o : Obj) : Cursor B (w.alloc o) g := cursor_below hc ((Below.refl _ _).alloc (Nat.le_refl _) _)
theorem grown_alloc (w : World) (o : Obj) (row : Option Nat) : w.grownBy (w.alloc o) row := World.grownBy_alloc w o row

set_option maxHeartbeats 800000 in
theorem pickInt_any {B : Nat} (g b cap : Nat) (zs : List Int) (w : World) (hc : Cursor B w g) (hbg : b ≠ g) (hz : ∀ i, i < zs.length → w.cell? ⟨b, i, none⟩ = some (.int .i64 (zs.getD i 0))) (h1 : 1 ≤ zs.length) (h2 : zs.length ≤ 1000) :
    Calls Try.prog 46 #[.pointer (some ⟨g, 0, none⟩), .slice (some ⟨b, 0, none⟩) zs.length cap] w fun e w' => ∃ x : Int, e = .returned (.int .i64 x) ∧ x ∈ zs ∧ Cursor B w' g ∧ w.grownBy w' (some g) := by
  go_enter Try.func46, Try.ntmps46
  go_wp2_with fail
  refine (below_any _ _ _ hc (by omega)).mono ?_
  rintro e w1 ⟨x, rfl, x0, x1, c1, g1⟩
  have hx := x1 (by omega)
  obtain ⟨k, rfl⟩ := Int.eq_ofNat_of_zero_le x0
  have hk : k < zs.length := by omega
  have cb : w1.cell? ⟨b, k, none⟩ = some (.int .i64 (zs.getD k 0)) := g1.cell (a := ⟨b, k, none⟩) (hz k hk) (by simpa using hbg)
  have hm : zs.getD k 0 ∈ zs := by simp [List.getD_eq_getElem?_getD, hk]
  generalize zs.getD k 0 = z at cb hm
  clear hz x1
  go_wp2
  go_ret
  exact ⟨z, rfl, hm, c1, g1⟩

/-- what is drawn as an int fits 64 bits -/
def Fits (x : Int) : Prop := -9223372036854775808 ≤ x ∧ x ≤ 9223372036854775807
theorem fits_wf {x : Int} (h : Fits x) : (Lit.int .i64 x).wf = true := by
  simp [Lit.wf, IntKind.min, IntKind.max, IntKind.signed, IntKind.bits]; exact h
theorem fits_small {x : Int} (h1 : -1000000000000 ≤ x) (h2 : x ≤ 1000000000000) : Fits x := ⟨by omega, by omega⟩

end Go.Proofs.Ytiiechnbionhnaa
