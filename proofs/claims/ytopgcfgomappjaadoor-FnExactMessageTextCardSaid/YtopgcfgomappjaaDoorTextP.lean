/- A message's text, plainly. No Go in sight. -/
import Derived.Test.YtopgcfgomappjaaDoorPackP
import Derived.Lib.Replace
import Derived.Lib.IndexBytes
namespace Go.Proofs.YtopgcfgomappjaaDoor

def bl (c : UInt8) : UInt8 := if c = 32 then 95 else c
def blank (d : List UInt8) : List UInt8 := d.map bl
theorem blank_len (d : List UInt8) : (blank d).length = d.length := by simp [blank]
theorem idx_eq (l : List UInt8) : Lib.index (32 :: l) [32] = 0 := by simp [Lib.index, List.isPrefixOf]
theorem idx_ne {b : UInt8} (h : b ≠ 32) (l : List UInt8) : Lib.index (b :: l) [32] = if Lib.index l [32] == -1 then -1 else Lib.index l [32] + 1 := by
  have : ([32] : List UInt8).isPrefixOf (b :: l) = false := by simp [List.isPrefixOf]; exact fun e => h e.symm
  rw [Lib.index, this]; rfl
theorem replaceK_blank (s : List UInt8) : Lib.replaceK [32] [95] (Lib.count s [32]) s = blank s := by
  induction s with
  | nil => rfl
  | cons b l ih =>
    by_cases hb : b = 32
    · subst hb
      rw [Lib.count_cons_eq, Nat.add_comm, Lib.replaceK_hit _ _ _ _ 0 (idx_eq l)]
      simp [blank, bl] at ih ⊢
      exact ih
    · rw [Lib.count_cons_ne _ _ _ hb]
      have e : blank (b :: l) = b :: blank l := by simp [blank, bl, hb]
      rw [e, ← ih]
      cases hc : Lib.count l [32] with
      | zero => rfl
      | succ k =>
        obtain ⟨i, hi⟩ := Lib.index_of_count (s := l) (old := [32]) (by omega)
        have hj : Lib.index (b :: l) [32] = ((i + 1 : Nat) : Int) := by
          rw [idx_ne hb, hi, if_neg (by simp)]; omega
        rw [Lib.replaceK_hit _ _ _ _ _ hj, Lib.replaceK_hit _ _ _ _ _ hi]
        simp
theorem replace_blank (s : List UInt8) : Lib.replaceAll s [32] [95] = blank s := by
  have : Lib.replaceNum s [32] (-1) = Lib.count s [32] := by unfold Lib.replaceNum; rw [if_pos (.inl (by omega))]
  rw [Lib.replaceAll, Lib.replace, if_neg (by decide), this, replaceK_blank]

/-- one field told -/
def txtF (n : Int) (d : List UInt8) : List UInt8 := [32] ++ Lib.decDigits n.toNat ++ [61] ++ blank d
def txtB (fs : List Fld) : List UInt8 := fs.flatMap fun f => txtF f.1 f.2
def textL (kd : Int) (fs : List Fld) : List UInt8 := if msgOk kd fs = true then padT kd 4 ++ txtB fs else []
theorem textL_no {kd : Int} {fs : List Fld} (h : msgOk kd fs = false) : textL kd fs = [] := if_neg (by rw [h]; decide)
theorem textL_yes {kd : Int} {fs : List Fld} (h : msgOk kd fs = true) : textL kd fs = padT kd 4 ++ txtB fs := if_pos h
theorem txtB_step (fs : List Fld) (k : Nat) (h : k < fs.length) : txtB (fs.take (k + 1)) = txtB (fs.take k) ++ txtF (at0 fs k).1 (at0 fs k).2 := by
  have e : at0 fs k = fs[k] := by simp [at0, List.getD_eq_getElem?_getD, h]
  rw [List.take_succ_eq_append_getElem h, e, txtB, txtB, List.flatMap_append]; simp
theorem txtF_len {n : Int} {d : List UInt8} (h : fieldOk n d = true) : (txtF n d).length ≤ 1010 := by
  have hd : d.length ≤ 999 := by rcases fieldOk_K h with h | h | h | h | h <;> omega
  have hk := known_K (ok_known h)
  have h1 := dec_len_pow 3 n.toNat (by omega) (by omega)
  simp only [txtF, List.length_append, blank_len, List.length_cons, List.length_nil]
  omega
theorem txtB_bd {fs : List Fld} (h : okF 1 fs = true) (k : Nat) : (txtB (fs.take k)).length ≤ 100000 := by
  have h1 : ∀ gs : List Fld, (∀ f ∈ gs, fieldOk f.1 f.2 = true) → (txtB gs).length ≤ 1010 * gs.length := by
    intro gs
    induction gs with
    | nil => intro _; simp [txtB]
    | cons f r ih =>
      intro hh
      have a := txtF_len (hh f (List.mem_cons_self ..))
      have b := ih (fun g hg => hh g (List.mem_cons_of_mem _ hg))
      have e : txtB (f :: r) = txtF f.1 f.2 ++ txtB r := by simp [txtB]
      rw [e, List.length_append, List.length_cons]; omega
  have h2 := h1 (fs.take k) (fun f hf => (okF_mem h f (List.mem_of_mem_take hf)).1)
  have h3 : (fs.take k).length ≤ fs.length := by rw [List.length_take]; omega
  rcases okF_len h (by omega) with h4 | h4
  · rw [h4]; simp [txtB]
  · omega

end Go.Proofs.YtopgcfgomappjaaDoor
