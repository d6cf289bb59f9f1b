/- A line that is drawn for a book, whatever the bytes: some text, and not a long one. -/
import Derived.Test.YtlonjjliochbhaaJE15a
import Derived.Test.YtlonjjliochbhaaKE1DrawAt
namespace Go.Proofs.Ytlonjjliochbhaa
open Go.RowKit
set_option maxRecDepth 100000

def pickS : Recs := [[], [119, 104, 97, 116], [100, 97, 121], [100, 97, 121, 32, 120], [97, 117, 116, 104, 32, 97], [112, 97, 121, 32, 49, 32, 49, 32, 56, 52, 48, 32, 53], [97, 99, 116, 32, 48, 32, 97, 115, 107, 32, 48], [97, 99, 116, 32, 48, 32, 100, 97, 110, 99, 101, 32, 48, 32, 48], [97, 99, 116, 32, 57, 57, 57, 32, 97, 115, 107, 32, 48, 32, 48], [112, 97, 121, 32, 48, 49, 32, 52, 32, 56, 52, 48, 32, 53], [97, 117, 116, 104, 32, 48, 48, 48, 48, 48, 48, 48, 48, 48, 48, 48, 49, 32, 49, 32, 56, 52, 48, 32, 48]]
def pickA : Array Value := #[.string ⟨#[]⟩, .string ⟨#[119, 104, 97, 116]⟩, .string ⟨#[100, 97, 121]⟩, .string ⟨#[100, 97, 121, 32, 120]⟩, .string ⟨#[97, 117, 116, 104, 32, 97]⟩, .string ⟨#[112, 97, 121, 32, 49, 32, 49, 32, 56, 52, 48, 32, 53]⟩, .string ⟨#[97, 99, 116, 32, 48, 32, 97, 115, 107, 32, 48]⟩, .string ⟨#[97, 99, 116, 32, 48, 32, 100, 97, 110, 99, 101, 32, 48, 32, 48]⟩, .string ⟨#[97, 99, 116, 32, 57, 57, 57, 32, 97, 115, 107, 32, 48, 32, 48]⟩, .string ⟨#[112, 97, 121, 32, 48, 49, 32, 52, 32, 56, 52, 48, 32, 53]⟩, .string ⟨#[97, 117, 116, 104, 32, 48, 48, 48, 48, 48, 48, 48, 48, 48, 48, 48, 49, 32, 49, 32, 56, 52, 48, 32, 48]⟩]
theorem pickA_at (u : World) (t : TypeId) (k : Nat) (h : k < 11) : (u.alloc (.cells pickA t)).cell? ⟨u.heap.size, k, none⟩ = some (.string ⟨(nth pickS k).toArray⟩) := by
  rcases (show k = 0 ∨ k = 1 ∨ k = 2 ∨ k = 3 ∨ k = 4 ∨ k = 5 ∨ k = 6 ∨ k = 7 ∨ k = 8 ∨ k = 9 ∨ k = 10 by omega) with rfl | rfl | rfl | rfl | rfl | rfl | rfl | rfl | rfl | rfl | rfl <;> simp [pickA, pickS, nth, go_sem]
theorem pickS_len (k : Nat) : (nth pickS k).length ≤ 30 := by
  by_cases h : k < 11
  · rcases (show k = 0 ∨ k = 1 ∨ k = 2 ∨ k = 3 ∨ k = 4 ∨ k = 5 ∨ k = 6 ∨ k = 7 ∨ k = 8 ∨ k = 9 ∨ k = 10 by omega) with rfl | rfl | rfl | rfl | rfl | rfl | rfl | rfl | rfl | rfl | rfl <;> decide
  · have : nth pickS k = [] := by simp [nth, pickS, List.getD_eq_getElem?_getD]; rw [List.getElem?_eq_none (by simp; omega)]; rfl
    rw [this]; simp
set_option maxHeartbeats 800000 in
theorem qPickS {B g : Nat} {w : World} {b : Bk} {p : Bp} {u : World} (q : LS B g w b p u) (t : TypeId) :
    Calls Try.prog 31 #[.pointer (some ⟨g, 0, none⟩), .slice (some ⟨u.heap.size, 0, none⟩) 11 11] (u.alloc (.cells pickA t)) fun e u' => ∃ l : List UInt8, e = .returned (.string ⟨l.toArray⟩) ∧ l.length ≤ 30 ∧ LS B g w b p u' := by
  have qa := q.alloc (.cells pickA t)
  have hne := cursor_ne q.cu
  have hcl := pickA_at u t
  obtain ⟨U, hU⟩ : ∃ U, u.alloc (.cells pickA t) = U := ⟨_, rfl⟩
  rw [hU] at qa hcl ⊢
  obtain ⟨T, hT⟩ : ∃ T, u.heap.size = T := ⟨_, rfl⟩
  rw [hT] at hcl hne ⊢
  clear hU hT q
  go_enter Try.func31, Try.ntmps31
  go_wp2_with fail
  refine (below_any g 11 U qa.cu (by omega)).mono ?_
  rintro e u1 ⟨x, rfl, x0, x1, c1, g1⟩
  have hx := x1 (by omega)
  obtain ⟨k, rfl⟩ := Int.eq_ofNat_of_zero_le x0
  have hk : k < 11 := by omega
  have cb : u1.cell? ⟨T, k, none⟩ = some (.string ⟨(nth pickS k).toArray⟩) := g1.cell (a := ⟨T, k, none⟩) (hcl k hk) (by simpa using hne)
  have q1 := qa.call c1 g1
  have hl := pickS_len k
  obtain ⟨s, hs⟩ : ∃ s, nth pickS k = s := ⟨_, rfl⟩
  rw [hs] at cb hl
  clear hcl hs c1 g1 x1 x0 qa
  go_wp2
  go_ret
  exact ⟨s, rfl, hl, q1⟩
theorem qAct {B g : Nat} {w : World} {b : Bk} {p : Bp} {u : World} (q : LS B g w b p u) (k : Cs) :
    Calls Try.prog 32 #[.pointer (some ⟨g, 0, none⟩), cv k] u fun e u' => ∃ a : Ac, e = .returned (av a) ∧ LS B g w b p u' :=
  (act_any g k u q.cu).mono (by rintro e u' ⟨a, h1, c, r⟩; exact ⟨a, h1, q.call c r⟩)

end Go.Proofs.Ytlonjjliochbhaa
