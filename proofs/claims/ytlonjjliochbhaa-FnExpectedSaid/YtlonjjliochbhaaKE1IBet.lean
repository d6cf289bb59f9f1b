/- WorkBetween, the program's: by the iterator over the working days. -/
import Derived.Test.YtlonjjliochbhaaKE1IAdd
namespace Go.Proofs.Ytlonjjliochbhaa
open Go.RowKit Go.Shelf

theorem betV_no {a b : Int} {zs : List Int} (h : dOk a = false ∨ dOk b = false ∨ offOk zs = false) : betV a b zs = -1 := by
  unfold betV
  rw [if_neg]
  rintro ⟨x, y, z⟩
  rcases h with h | h | h
  · rw [x] at h; cases h
  · rw [y] at h; cases h
  · rw [z] at h; cases h
theorem betV_yes {a b : Int} {zs : List Int} (x : dOk a = true) (y : dOk b = true) (z : offOk zs = true) : betV a b zs = (upto zs (80000 - a).toNat b : Int) := by
  unfold betV; rw [if_pos ⟨x, y, z⟩]
theorem upto_all {zs : List Int} {f : Nat} {b : Int} (h : ∀ y ∈ wd zs f, y ≤ b) : upto zs f b = (wd zs f).length := by
  unfold upto; exact List.countP_eq_length.2 (fun y hy => by simpa using h y hy)
theorem upto_pre {zs : List Int} {f : Nat} {b x : Int} {p : List Int} (hp : p ++ [x] <+: wd zs f) (h1 : ∀ y ∈ p, y ≤ b) (h2 : b < x) : upto zs f b = p.length := by
  obtain ⟨t, ht⟩ := hp
  have hk : (wd zs f)[p.length]? = some x := by rw [← ht]; simp
  have hb := wd_mem (List.mem_of_getElem? hk)
  have hdrop := wd_drop hk
  have hte : t = wd zs (80000 - x).toNat := by rw [hdrop, ← ht]; simp
  have c1 : p.countP (fun y => decide (y ≤ b)) = p.length := List.countP_eq_length.2 (fun y hy => by simpa using h1 y hy)
  have c2 : t.countP (fun y => decide (y ≤ b)) = 0 := List.countP_eq_zero.2 (fun y hy => by
    rw [hte] at hy
    have := wd_mem hy
    simp; omega)
  unfold upto
  rw [← ht, List.countP_append, List.countP_append, c1, c2]
  simp; omega

theorem le_snoc {pre : List Int} {x b : Int} (h : ∀ y ∈ pre, y ≤ b) (hx : x ≤ b) : ∀ y ∈ pre ++ [x], y ≤ b := by
  intro y hy
  rcases List.mem_append.1 hy with e | e
  · exact h y e
  · have : y = x := by simpa using e
    omega

theorem one_cell (w : World) (x : Int) : (w.alloc (.cells #[.int .i64 x] 3)).cell? ⟨w.heap.size, 0, none⟩ = some (.int .i64 x) := (Cl.new w (.int .i64 x) 3).1
theorem one_below (w : World) (o : Obj) : Below w.heap.size w (w.alloc o) := (Below.refl _ w).alloc (Nat.le_refl _) _


end Go.Proofs.Ytlonjjliochbhaa
