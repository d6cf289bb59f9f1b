/- Joined: BkKn2. -/
import Derived.Test.YtlonjjliochbhaaKE1BkLineS
import Derived.Test.YtlonjjliochbhaaJE16a
import Derived.Test.YtlonjjliochbhaaKE1BkDoF
/- BookDo of the specification, known. -/
namespace Go.Proofs.Ytlonjjliochbhaa
open Go.RowKit
set_option maxRecDepth 100000

def Pre0 (b : Bk) : Prop := bkSm b ∧ (∀ a ∈ b.az, a.ref.length ≤ 1048576) ∧ (Lit.int .i64 b.today).wf = true
theorem wf_sm18 {x : Int} (h1 : -1 ≤ x) (h2 : x ≤ 1000000000000000000) : (Lit.int .i64 x).wf = true := by
  simp [Lit.wf, IntKind.min, IntKind.max, IntKind.signed, IntKind.bits]; omega
theorem steps0 : Steps Pre0 Pay0 (actB F0) where
  pay := fun b p g k n0 n1 n2 n3 w hx _ hp c0 c1 c2 c3 h1 h2 => (sPay_any F0 known0 b p g k n0 n1 n2 n3 w hx hp.1 hp.2.1 hp.2.2 (wf_sm18 h2 (by omega)) c0 c1 c2 c3).mono (by
    rintro e w' ⟨x, hx, h⟩
    exact ⟨_, ⟨x, hx, rfl⟩, h⟩)
  act := fun b p i x w hx _ hp => sAct_any F0 known0 b p i x w hx hp.1
theorem rel_log (b : Bk) (l : List UInt8) (r : Bk × Int) (h : Rel0 b l r) : r.1.log = b.log := by
  unfold Rel0 LineRel at h
  split at h
  · rw [h]; unfold dayB; split <;> rfl
  split at h
  · split at h
    · rw [h]; unfold authB; split <;> rfl
    · rw [h]
  split at h
  · split at h
    · obtain ⟨x, -, rfl⟩ := h
      unfold payB
      split
      · rfl
      split
      · rfl
      split
      · rfl
      split <;> rfl
    · rw [h]
  split at h
  · split at h
    · rw [h]; unfold actB
      split
      · rfl
      split
      · rfl
      split <;> rfl
    · rw [h]
  · rw [h]
theorem doKnown0 : DoKnown Pre0 Rel0 where
  log := rel_log
  small := fun _ h => h.1
  calls := fun b p line w hx hah hp hl => sLine_any F0 known0 (fun _ h => h.1) steps0 b p line w hx hah hp hl
theorem pre_inv {k : Nat} {b : Bk} (h : Inv k b) (hk : k ≤ 1000) : Pre0 b := by
  have hd := dOk_bd h.day
  refine ⟨⟨by have := h.off; omega, by have := h.az; omega, by have := h.cs; omega, by have := h.ls; omega, by have := h.log; omega⟩, fun a ha => by have := h.ref a ha; omega, wf_sm18 (by omega) (by omega)⟩
/-- BookDo at a book that lines have led to -/
theorem sDo0 {k : Nat} {b : Bk} (h : Inv k b) (hk : k ≤ 1000) (p : Bp) (line : List UInt8) (w : World) (hx : BookAt w b p) (hl : line.length ≤ 1000) :
    Calls Try.prog 21 #[bkv b p, .string ⟨line.toArray⟩] w fun e w' => ∃ b' q code, e = .returned (.tuple #[bkv b' q, .int .i64 code]) ∧ Inv (k + 1) b' ∧ BookAt w' b' q ∧ Below w.heap.size w w' ∧ FrB q w.heap.size :=
  (sBookDoF_any doKnown0 b p line w hx (pre_inv h hk) (by omega)).mono (by
    rintro e w' ⟨r, q, hr, he, hb, hw, hf⟩
    exact ⟨r.1, q, r.2, he, inv_do h hl hr, hb, hw, hf⟩)

end Go.Proofs.Ytlonjjliochbhaa
