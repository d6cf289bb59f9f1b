/- Joined: BkKn, BkInv. -/
import Derived.Test.YtlonjjliochbhaaJE14a
import Derived.Test.YtlonjjliochbhaaJE13a
import Derived.Test.YtlonjjliochbhaaKE1SBest
import Derived.Test.YtlonjjliochbhaaKE1SAuAdd
import Derived.Test.YtlonjjliochbhaaJE10b
import Derived.Test.YtlonjjliochbhaaKE1CStart
import Derived.Test.YtlonjjliochbhaaKE1SDo6
import Derived.Test.YtlonjjliochbhaaKE1SPAll
import Derived.Test.YtlonjjliochbhaaKE1BkLiB
import Derived.Test.YtlonjjliochbhaaKE1BkDoS
import Derived.Test.YtlonjjliochbhaaKE1BkActS
import Derived.Test.YtlonjjliochbhaaKE1BkPayS
/- What the chapters ahead are, in a book's line: Known is met. -/
namespace Go.Proofs.Ytlonjjliochbhaa
open Go.RowKit
set_option maxRecDepth 100000

def F0 : Fns where
  prune := pruneL
  use := useL
  useOk := useOk
  add := addA
  addOk := addOk
  best := BestAt
  stC := startV
  stE := startE
  stOk := fun iss acq cur am day => caseOk (startC iss acq cur am day)
  doC := doC
  doE := doE
  doV := doV
  all := allL
  allOk := allOk
theorem startE_len (iss acq cur am day : Int) : (startE iss acq cur am day).length ≤ 1 := by unfold startE; split <;> simp
theorem known0 : Known F0 where
  prune := fun ao cap az t w h hn => sPrune_any ao cap az t w h (by omega)
  use := fun ao cap az i w h hn => sUse_any ao cap az i w h (by omega)
  add := fun ao cap az a w h hn hl => sAdd10_any ao cap az a w h hn (by omega)
  best := fun ao cap az iss cur am day w h hn hd w3 w4 => sBest_any ao cap az iss cur am day w h hn (fun a ha => by have := hd a ha; omega) w3 w4
  start := fun iss acq cur am day w => sStart_any iss acq cur am day w
  small := fun iss acq cur am day => by have := startE_len iss acq cur am day; show (startE iss acq cur am day).length ≤ 1048576; omega
  act := fun c a t ao cp zs w h hn => sDo_any c a t ao cp zs w h (by omega)
  few := fun c a t zs => by have := doE_len c a t zs; show (doE c a t zs).length ≤ 1048576; omega
  code := fun c a t zs => by have := doV_bd c a t zs; show 0 ≤ doV c a t zs ∧ doV c a t zs ≤ 1000; omega
  post := fun ao cap ls eo ec es w h hn hy hm => sPostAll_any ao cap ls eo ec es w h hn hy hm

end Go.Proofs.Ytlonjjliochbhaa

/- What stands in a book that lines have led to, plainly: how much it has, whose accounts its ledger has. -/
namespace Go.Proofs.Ytlonjjliochbhaa
open Go.RowKit
set_option maxRecDepth 100000

theorem addL_memA {ls : List Ln} {a c m : Int} {x : Ln} (h : x ∈ addL ls a c m) : x.1 = a ∨ ∃ y ∈ ls, y.1 = x.1 := by
  induction ls with
  | nil => simp [addL] at h; subst h; exact .inl rfl
  | cons y r ih =>
    unfold addL at h
    split at h
    · split at h
      · split at h
        · rcases List.mem_cons.1 h with rfl | h
          · exact .inl rfl
          · exact .inr ⟨x, List.mem_cons_of_mem _ h, rfl⟩
        · exact .inr ⟨x, List.mem_cons_of_mem _ h, rfl⟩
      · rcases List.mem_cons.1 h with rfl | h
        · exact .inl rfl
        · exact .inr ⟨x, h, rfl⟩
    · rcases List.mem_cons.1 h with rfl | h
      · exact .inr ⟨x, List.mem_cons_self .., rfl⟩
      · rcases ih h with h | ⟨z, hz, hx⟩
        · exact .inl h
        · exact .inr ⟨z, List.mem_cons_of_mem _ hz, hx⟩
theorem addL_lenA (ls : List Ln) (a c m : Int) : (addL ls a c m).length ≤ ls.length + 1 := by
  induction ls with
  | nil => simp [addL]
  | cons y r ih =>
    unfold addL
    split
    · split
      · split
        · simp
        · simp; omega
      · simp
    · simp; omega
theorem postTry_mem {ls : List Ln} {e : En} {x : Ln} (h : x ∈ postTry ls e) : x.1 = e.1 ∨ x.1 = e.2.1 ∨ ∃ y ∈ ls, y.1 = x.1 := by
  unfold postTry at h
  rcases addL_memA h with h | ⟨y, hy, hx⟩
  · exact .inr (.inl h)
  · rcases addL_memA hy with h | ⟨z, hz, hx'⟩
    · exact .inl (hx ▸ h)
    · exact .inr (.inr ⟨z, hz, hx'.trans hx⟩)
theorem postTry_len (ls : List Ln) (e : En) : (postTry ls e).length ≤ ls.length + 2 := by
  unfold postTry
  have h1 := addL_lenA (addL ls e.1 e.2.2.1 (-e.2.2.2)) e.2.1 e.2.2.1 e.2.2.2
  have h2 := addL_lenA ls e.1 e.2.2.1 (-e.2.2.2)
  omega
theorem postsL_mem {es : List En} : ∀ {ls gs : List Ln}, postsL ls es = some gs → ∀ x ∈ gs, (∃ e ∈ es, x.1 = e.1 ∨ x.1 = e.2.1) ∨ ∃ y ∈ ls, y.1 = x.1 := by
  induction es with
  | nil => intro ls gs h x hx; simp [postsL] at h; subst h; exact .inr ⟨x, hx, rfl⟩
  | cons e r ih =>
    intro ls gs h x hx
    simp only [postsL] at h
    split at h
    · rcases ih h x hx with ⟨e', he', hx'⟩ | ⟨y, hy, hx'⟩
      · exact .inl ⟨e', List.mem_cons_of_mem _ he', hx'⟩
      · rcases postTry_mem hy with h1 | h1 | ⟨z, hz, h1⟩
        · exact .inl ⟨e, List.mem_cons_self .., .inl (hx' ▸ h1)⟩
        · exact .inl ⟨e, List.mem_cons_self .., .inr (hx' ▸ h1)⟩
        · exact .inr ⟨z, hz, h1.trans hx'⟩
    · cases h
theorem postsL_len {es : List En} : ∀ {ls gs : List Ln}, postsL ls es = some gs → gs.length ≤ ls.length + 2 * es.length := by
  induction es with
  | nil => intro ls gs h; simp [postsL] at h; subst h; simp
  | cons e r ih =>
    intro ls gs h
    simp only [postsL] at h
    split at h
    · have h1 := ih h
      have h2 := postTry_len ls e
      simp; omega
    · cases h
theorem allL_mem {ls : List Ln} {es : List En} : ∀ x ∈ allL ls es, (∃ e ∈ es, x.1 = e.1 ∨ x.1 = e.2.1) ∨ ∃ y ∈ ls, y.1 = x.1 := by
  intro x hx
  unfold allL at hx
  cases h : postsL ls es with
  | none => rw [h] at hx; exact .inr ⟨x, hx, rfl⟩
  | some gs => rw [h] at hx; exact postsL_mem h x hx
theorem allL_len (ls : List Ln) (es : List En) : (allL ls es).length ≤ ls.length + 2 * es.length := by
  unfold allL
  cases h : postsL ls es with
  | none => simp
  | some gs => simpa using postsL_len h

/-- what stands in a book behind k lines -/
structure Inv (k : Nat) (b : Bk) : Prop where
  off : b.off.length ≤ 10
  az : b.az.length ≤ k
  cs : b.cs.length ≤ k
  ls : b.ls.length ≤ 4 * k
  log : b.log.length ≤ k
  ref : ∀ a ∈ b.az, a.ref.length ≤ 1000
  day : dOk b.today = true
  own : ∀ l ∈ b.ls, l.1 = 9999 ∨ ∃ c ∈ b.cs, c.iss = l.1 ∨ c.acq = l.1
theorem Inv.mono {k n : Nat} {b : Bk} (h : Inv k b) (hk : k ≤ n) : Inv n b := ⟨h.off, by have := h.az; omega, by have := h.cs; omega, by have := h.ls; omega, by have := h.log; omega, h.ref, h.day, h.own⟩

def Pay0 (b : Bk) (n0 n1 n2 n3 : Int) (r : Bk × Int) : Prop := ∃ x, BestAt b.az n0 n2 n3 b.today x ∧ r = payB F0 b n0 n1 n2 n3 x
def Rel0 : Bk → List UInt8 → Bk × Int → Prop := LineRel F0 Pay0 (actB F0)

theorem inv_day {k : Nat} {b : Bk} (h : Inv k b) (n : Int) : Inv k (dayB F0 b n).1 := by
  unfold dayB
  split
  · rename_i hd
    refine ⟨h.off, Nat.le_trans (pruneL_len b.az n) h.az, h.cs, h.ls, h.log, fun a ha => ?_, hd.1, h.own⟩
    have ha' : a ∈ pruneL b.az n := ha
    unfold pruneL at ha'
    split at ha'
    · exact h.ref a (List.mem_filter.1 ha').1
    · cases ha'
  · exact h
theorem inv_auth {k : Nat} {b : Bk} (h : Inv k b) {ref : List UInt8} (hr : ref.length ≤ 1000) (n0 n1 n2 : Int) : Inv (k + 1) (authB F0 b ref n0 n1 n2).1 := by
  unfold authB
  split
  · have hl := addA_len b.az ⟨ref, n0, n1, n2, b.today, false⟩
    refine ⟨h.off, Nat.le_trans hl (by have := h.az; omega), by have := h.cs; show b.cs.length ≤ _; omega, by have := h.ls; show b.ls.length ≤ _; omega, by have := h.log; show b.log.length ≤ _; omega, fun a ha => ?_, h.day, h.own⟩
    have ha' : a ∈ addA b.az ⟨ref, n0, n1, n2, b.today, false⟩ := ha
    unfold addA at ha'
    split at ha'
    · rcases List.mem_append.1 ha' with ha' | ha'
      · exact h.ref a ha'
      · simp at ha'; subst ha'; exact hr
    · exact h.ref a ha'
  · exact h.mono (by omega)
theorem useL_mem {az : List Au} {x : Int} {a : Au} (h : a ∈ useL az x) : ∃ b ∈ az, b.ref = a.ref := by
  unfold useL at h
  split at h
  · rename_i hu
    have hi : x.toNat < az.length := by
      simp [useOk] at hu; omega
    rcases List.mem_or_eq_of_mem_set h with h | h
    · exact ⟨a, h, rfl⟩
    · subst h
      exact ⟨auAt az x.toNat, by rw [auAt_is hi]; exact List.getElem_mem hi, rfl⟩
  · exact ⟨a, h, rfl⟩
theorem inv_pay {k : Nat} {b : Bk} (h : Inv k b) {n0 n1 n2 n3 : Int} {r : Bk × Int} (hp : Pay0 b n0 n1 n2 n3 r) : Inv (k + 1) r.1 := by
  obtain ⟨x, -, rfl⟩ := hp
  unfold payB
  split
  · exact h.mono (by omega)
  split
  · exact h.mono (by omega)
  split
  · exact h.mono (by omega)
  rename_i hok
  split
  · exact h.mono (by omega)
  have hok' : caseOk (startC n0 n1 n2 n3 b.today) = true := by
    have h1 : F0.stOk n0 n1 n2 n3 b.today = true := by simpa using hok
    exact h1
  have e1 : startV n0 n1 n2 n3 b.today = startC n0 n1 n2 n3 b.today := if_pos hok'
  have e2 : startE n0 n1 n2 n3 b.today = [(n0, n1, n2, n3)] := if_pos hok'
  have hl := allL_len b.ls (startE n0 n1 n2 n3 b.today)
  have hl2 := startE_len n0 n1 n2 n3 b.today
  refine ⟨h.off, ?_, ?_, ?_, by have := h.log; show b.log.length ≤ _; omega, fun a ha => ?_, h.day, fun l hl => ?_⟩
  · show (useL b.az x).length ≤ k + 1
    rw [useL_len]; have := h.az; omega
  · show (b.cs ++ [_]).length ≤ k + 1
    have := h.cs; simp; omega
  · show (allL b.ls (startE n0 n1 n2 n3 b.today)).length ≤ 4 * (k + 1)
    have := h.ls; omega
  · obtain ⟨y, hy, e⟩ := useL_mem (x := x) (az := b.az) ha
    rw [← e]; exact h.ref y hy
  · show l.1 = 9999 ∨ ∃ c ∈ b.cs ++ [startV n0 n1 n2 n3 b.today], c.iss = l.1 ∨ c.acq = l.1
    rcases allL_mem l hl with ⟨e, he, hx⟩ | ⟨y, hy, hx⟩
    · have he' : e ∈ startE n0 n1 n2 n3 b.today := he
      rw [e2] at he'
      simp at he'; subst he'
      refine .inr ⟨startV n0 n1 n2 n3 b.today, by simp, ?_⟩
      rw [e1]
      rcases hx with hx | hx
      · exact .inl hx.symm
      · exact .inr hx.symm
    · rcases h.own y hy with h1 | ⟨c, hc, h1⟩
      · exact .inl (hx ▸ h1)
      · exact .inr ⟨c, by simp [hc], hx ▸ h1⟩
theorem set_parties {cs : List Cs} {i : Nat} {d : Cs} (hi : i < cs.length) (h1 : d.iss = (csAt cs i).iss) (h2 : d.acq = (csAt cs i).acq) {a : Int} (h : ∃ c ∈ cs, c.iss = a ∨ c.acq = a) : ∃ c ∈ cs.set i d, c.iss = a ∨ c.acq = a := by
  obtain ⟨c, hc, hx⟩ := h
  obtain ⟨j, hj, rfl⟩ := List.getElem_of_mem hc
  by_cases e : i = j
  · subst e
    rw [csAt_is hi] at h1 h2
    refine ⟨d, ?_, by rw [h1, h2]; exact hx⟩
    exact List.mem_iff_getElem.2 ⟨i, by simpa using hi, by simp⟩
  · refine ⟨cs[j], ?_, hx⟩
    exact List.mem_iff_getElem.2 ⟨j, by simpa using hj, by simp [e]⟩
theorem inv_act {k : Nat} {b : Bk} (h : Inv k b) (i : Int) (x : Ac) : Inv (k + 1) (actB F0 b i x).1 := by
  unfold actB
  split
  · exact h.mono (by omega)
  rename_i hi
  split
  · exact h.mono (by omega)
  split
  · exact h.mono (by omega)
  have hi' : i.toNat < b.cs.length := by
    have : 0 ≤ i ∧ i ≤ (b.cs.length : Int) - 1 := Classical.not_not.1 hi
    omega
  have hl := allL_len b.ls (doE (csAt b.cs i.toNat) x b.today b.off)
  have hl2 := doE_len (csAt b.cs i.toNat) x b.today b.off
  obtain ⟨p1, p2⟩ := doC_of (csAt b.cs i.toNat) x b.today b.off
  refine ⟨h.off, by have := h.az; show b.az.length ≤ _; omega, ?_, ?_, by have := h.log; show b.log.length ≤ _; omega, h.ref, h.day, fun l hl => ?_⟩
  · show (b.cs.set _ _).length ≤ k + 1
    have := h.cs; simp; omega
  · show (allL b.ls (doE (csAt b.cs i.toNat) x b.today b.off)).length ≤ 4 * (k + 1)
    have := h.ls; omega
  · show l.1 = 9999 ∨ ∃ c ∈ b.cs.set i.toNat (doC (csAt b.cs i.toNat) x b.today b.off), c.iss = l.1 ∨ c.acq = l.1
    have key : l.1 = 9999 ∨ ∃ c ∈ b.cs, c.iss = l.1 ∨ c.acq = l.1 := by
      rcases allL_mem l hl with ⟨e, he, hx⟩ | ⟨y, hy, hx⟩
      · obtain ⟨o1, o2⟩ := doE_of he
        have : ofC (csAt b.cs i.toNat) l.1 := by rcases hx with hx | hx <;> rw [hx] <;> assumption
        rcases this with h1 | h1 | h1
        · exact .inr ⟨_, csAt_mem hi', .inl h1.symm⟩
        · exact .inr ⟨_, csAt_mem hi', .inr h1.symm⟩
        · exact .inl h1
      · rcases h.own y hy with h1 | ⟨c, hc, h1⟩
        · exact .inl (hx ▸ h1)
        · exact .inr ⟨c, hc, hx ▸ h1⟩
    rcases key with h1 | h1
    · exact .inl h1
    · exact .inr (set_parties hi' p1 p2 h1)
theorem inv_line {k : Nat} {b : Bk} (h : Inv k b) {line : List UInt8} (hl : line.length ≤ 1000) {r : Bk × Int} (hr : Rel0 b line r) : Inv (k + 1) r.1 := by
  unfold Rel0 LineRel at hr
  have hb : r = (b, 1) → Inv (k + 1) r.1 := fun e => by rw [e]; exact h.mono (by omega)
  split at hr
  · rw [hr]; exact (inv_day h _).mono (by omega)
  split at hr
  · rename_i ha
    split at hr
    · rw [hr]
      refine inv_auth h ?_ _ _ _
      have h5 : (wordsW line).length = 5 := by simp [isAuth] at ha; exact ha.2
      have := wordsW_short line _ (nth_mem (rs := wordsW line) (k := 1) (by omega))
      omega
    · exact hb hr
  split at hr
  · split at hr
    · exact inv_pay h hr
    · exact hb hr
  split at hr
  · split at hr
    · rw [hr]; exact inv_act h _ _
    · exact hb hr
  · exact hb hr
theorem inv_do {k : Nat} {b : Bk} (h : Inv k b) {line : List UInt8} (hl : line.length ≤ 1000) {r : Bk × Int} (hr : BkRel Rel0 b line r) : Inv (k + 1) r.1 := by
  rcases hr with ⟨-, rfl⟩ | ⟨-, s, hs, ⟨-, rfl⟩ | ⟨-, rfl⟩⟩
  · exact h.mono (by omega)
  · exact h.mono (by omega)
  · have := inv_line h hl hs
    exact ⟨this.off, this.az, this.cs, this.ls, by have := h.log; simp; omega, this.ref, this.day, this.own⟩

end Go.Proofs.Ytlonjjliochbhaa
