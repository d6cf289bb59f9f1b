/- A message out of bytes, plainly. No Go in sight. -/
import Derived.Test.YtopgcfgomappjaaDoorMsgP
import Derived.Test.YtopgcfgomappjaaDoorFVar
import Derived.Test.YtopgcfgomappjaaDoorGSetP
import Derived.Test.YtopgcfgomappjaaDoorDig
namespace Go.Proofs.YtopgcfgomappjaaDoor

/-- what stands at place i by a field's form, and the place behind it -/
def rawL (l : List UInt8) (i n : Int) : List UInt8 :=
  if fK n = 1 then getL l i (fS n)
  else if fK n = 2 then (if hasB l.length i 2 = true then getL l (i + 2) (numOf ((l.drop i.toNat).take 2)) else [])
  else if fK n = 3 then (if hasB l.length i (fS n) = true then (l.drop i.toNat).take (fS n).toNat else [])
  else if fK n = 4 then varL l i 2 else if fK n = 5 then varL l i 3 else []
def rawI (l : List UInt8) (i n : Int) : Int :=
  if fK n = 1 then getI l i (fS n)
  else if fK n = 2 then (if hasB l.length i 2 = true then getI l (i + 2) (numOf ((l.drop i.toNat).take 2)) else -1)
  else if fK n = 3 then (if hasB l.length i (fS n) = true then i + fS n else -1)
  else if fK n = 4 then varI l i 2 else if fK n = 5 then varI l i 3 else -1
theorem raw1 {l : List UInt8} {i n : Int} (h : fK n = 1) : rawL l i n = getL l i (fS n) ∧ rawI l i n = getI l i (fS n) := ⟨if_pos h, if_pos h⟩
theorem raw2 {l : List UInt8} {i n : Int} (h : fK n = 2) : rawL l i n = (if hasB l.length i 2 = true then getL l (i + 2) (numOf ((l.drop i.toNat).take 2)) else []) ∧ rawI l i n = (if hasB l.length i 2 = true then getI l (i + 2) (numOf ((l.drop i.toNat).take 2)) else -1) := by
  unfold rawL rawI; simp [h]
theorem raw3 {l : List UInt8} {i n : Int} (h : fK n = 3) : rawL l i n = (if hasB l.length i (fS n) = true then (l.drop i.toNat).take (fS n).toNat else []) ∧ rawI l i n = (if hasB l.length i (fS n) = true then i + fS n else -1) := by
  unfold rawL rawI; simp [h]
theorem raw4 {l : List UInt8} {i n : Int} (h : fK n = 4) : rawL l i n = varL l i 2 ∧ rawI l i n = varI l i 2 := by
  unfold rawL rawI; simp [h]
theorem raw5 {l : List UInt8} {i n : Int} (h : fK n = 5) : rawL l i n = varL l i 3 ∧ rawI l i n = varI l i 3 := by
  unfold rawL rawI; simp [h]
theorem raw0 {l : List UInt8} {i n : Int} (h : fK n = 0) : rawL l i n = [] ∧ rawI l i n = -1 := by
  unfold rawL rawI; simp [h]
def fldAt (l : List UInt8) (i n : Int) : Bool := decide (0 ≤ rawI l i n) && fieldOk n (rawL l i n)

theorem getL_len (l : List UInt8) (i n : Int) : (getL l i n).length ≤ 100 := by
  unfold getL; split
  · rename_i h
    rw [unL_len]
    unfold getOk at h
    simp at h; omega
  · simp
theorem varL_len (l : List UInt8) (i n : Int) : (varL l i n).length ≤ l.length := by
  unfold varL; split
  · rw [List.length_take, List.length_drop]; omega
  · simp
theorem rawL_len (l : List UInt8) (i n : Int) (hl : l.length ≤ 1048576) : (rawL l i n).length ≤ 1099511627776 := by
  have h1 := getL_len l i (fS n)
  have h2 := getL_len l (i + 2) (numOf ((l.drop i.toNat).take 2))
  have h3 := varL_len l i 2
  have h4 := varL_len l i 3
  unfold rawL
  split
  · omega
  · split
    · split
      · omega
      · simp
    · split
      · split
        · rw [List.length_take, List.length_drop]; omega
        · simp
      · split
        · omega
        · split
          · omega
          · simp
theorem getI_le {l : List UInt8} {i n : Int} (h : 0 ≤ getI l i n) : i ≤ getI l i n ∧ getI l i n ≤ l.length := by
  unfold getI at h ⊢
  split at h
  · rename_i ho
    rw [if_pos ho]
    unfold getOk at ho
    simp at ho; omega
  · omega
theorem varI_le {l : List UInt8} {i n : Int} (h : 0 ≤ varI l i n) : i ≤ varI l i n ∧ varI l i n ≤ l.length := by
  unfold varI at h ⊢
  split at h
  · rename_i ho
    rw [if_pos ho]
    unfold varOk at ho
    simp at ho
    have := wOk_is ho.1
    omega
  · omega
theorem rawI_le {l : List UInt8} {i n : Int} (h : 0 ≤ rawI l i n) (hs : 0 ≤ fS n) : i ≤ rawI l i n ∧ rawI l i n ≤ l.length := by
  unfold rawI at h ⊢
  split at h
  · rename_i e; rw [if_pos e]; exact getI_le h
  · rename_i e; rw [if_neg e]
    split at h
    · rename_i e2; rw [if_pos e2]
      split at h
      · rename_i e3; rw [if_pos e3]; have := getI_le h; omega
      · omega
    · rename_i e2; rw [if_neg e2]
      split at h
      · rename_i e3; rw [if_pos e3]
        split at h
        · rename_i e4; rw [if_pos e4]; have := hasB_in e4; omega
        · omega
      · rename_i e3; rw [if_neg e3]
        split at h
        · rename_i e4; rw [if_pos e4]; exact varI_le h
        · rename_i e4; rw [if_neg e4]
          split at h
          · rename_i e5; rw [if_pos e5]; exact varI_le h
          · omega

/-- the fields one by one: the code, the place, the fields -/
def rdF (l : List UInt8) : List Int → Int → List Fld → Int × Int × List Fld
  | [], a, acc => if a < (l.length : Int) then (4, a, []) else (0, 0, acc)
  | n :: r, a, acc => if fldAt l a n = true then rdF l r (rawI l a n) (acc ++ [(n, rawL l a n)]) else (3, n, [])
theorem rdF_step (l : List UInt8) (ns : List Int) (k : Nat) (a : Int) (acc : List Fld) (h : k < ns.length) :
    rdF l (ns.drop k) a acc = if fldAt l a (ns.getD k 0) = true then rdF l (ns.drop (k + 1)) (rawI l a (ns.getD k 0)) (acc ++ [(ns.getD k 0, rawL l a (ns.getD k 0))]) else (3, ns.getD k 0, []) := by
  have e : ns.getD k 0 = ns[k] := by simp [List.getD_eq_getElem?_getD, h]
  rw [List.drop_eq_getElem_cons h, e]; rfl
def kindOk (l : List UInt8) : Bool := hasB l.length 0 4 && within 48 57 (l.take 4)
/-- the code, the place, the kind, the fields -/
def unp (l : List UInt8) : Int × Int × Int × List Fld :=
  if kindOk l = false then (1, 0, 0, [])
  else if getSI l 4 < 0 then (2, 4, 0, [])
  else if (rdF l (getSL l 4) (getSI l 4) []).1 = 0 then (0, 0, numOf (l.take 4), (rdF l (getSL l 4) (getSI l 4) []).2.2)
  else ((rdF l (getSL l 4) (getSI l 4) []).1, (rdF l (getSL l 4) (getSI l 4) []).2.1, 0, [])

end Go.Proofs.YtopgcfgomappjaaDoor
