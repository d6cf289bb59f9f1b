/- What lines whose parties are small numbers lead to, plainly. -/
import Derived.Test.YtlonjjliochbhaaJE18a
import Derived.Test.YtlonjjliochbhaaGdW
namespace Go.Proofs.Ytlonjjliochbhaa
open Go.RowKit
set_option maxRecDepth 100000

theorem useL_iss {az : List Au} {x : Int} {a : Au} (h : a ∈ useL az x) : ∃ b ∈ az, b.iss = a.iss := by
  unfold useL at h
  split at h
  · rename_i hu
    have hi : x.toNat < az.length := by
      simp [useOk] at hu; omega
    rcases List.mem_or_eq_of_mem_set h with h | h
    · exact ⟨a, h, rfl⟩
    · subst h
      exact ⟨auAt az x.toNat, by rw [auAt_is hi]; exact List.getElem_mem hi, rfl⟩
  · exact ⟨a, h, rfl⟩

theorem prune_mem {az : List Au} {t : Int} {a : Au} (h : a ∈ pruneL az t) : a ∈ az := by
  unfold pruneL at h
  split at h
  · exact (List.mem_filter.1 h).1
  · cases h
theorem par_day {b : Bk} (h : Par b) (n : Int) : Par (dayB F0 b n).1 := by
  unfold dayB
  split
  · exact ⟨fun a ha => h.ia a (prune_mem (t := n) ha), h.pc⟩
  · exact h
theorem party_1 {x : Int} (h : party x = true) : 1 ≤ x := by
  simp [party, acctOk] at h; omega
theorem acct_1 {x : Int} (h : acctOk x = true) : 1 ≤ x := by
  simp [acctOk] at h; omega
theorem par_auth {b : Bk} (h : Par b) {ref : List UInt8} {n0 n1 n2 : Int} (hn : n0 ≤ 8) : Par (authB F0 b ref n0 n1 n2).1 := by
  unfold authB
  split
  · rename_i hok
    refine ⟨fun a ha => ?_, h.pc⟩
    have ha' : a ∈ addA b.az ⟨ref, n0, n1, n2, b.today, false⟩ := ha
    have hok' : addOk b.az ⟨ref, n0, n1, n2, b.today, false⟩ = true := hok
    rw [addA_yes hok'] at ha'
    rcases List.mem_append.1 ha' with ha' | ha'
    · exact h.ia a ha'
    · simp at ha'; subst ha'
      have h1 : auOk ⟨ref, n0, n1, n2, b.today, false⟩ = true := by
        unfold addOk at hok'
        rw [Bool.and_eq_true] at hok'
        exact hok'.1
      exact ⟨acct_1 (auOk_parts h1).2.1, hn⟩
  · exact h
theorem par_pay {b : Bk} (h : Par b) {n0 n1 n2 n3 : Int} {r : Bk × Int} (hp : Pay0 b n0 n1 n2 n3 r) (h0 : n0 ≤ 8) (h1 : n1 ≤ 8) : Par r.1 := by
  obtain ⟨x, -, rfl⟩ := hp
  unfold payB
  split
  · exact h
  split
  · exact h
  split
  · exact h
  rename_i hok
  split
  · exact h
  have hok' : caseOk (startC n0 n1 n2 n3 b.today) = true := by
    have h1 : F0.stOk n0 n1 n2 n3 b.today = true := by simpa using hok
    exact h1
  have e1 : startV n0 n1 n2 n3 b.today = startC n0 n1 n2 n3 b.today := if_pos hok'
  obtain ⟨p1, p2, -⟩ := caseOk_parts hok'
  refine ⟨fun a ha => ?_, fun c hc => ?_⟩
  · obtain ⟨y, hy, e⟩ := useL_iss (x := x) (az := b.az) ha
    rw [← e]; exact h.ia y hy
  · have hc' : c ∈ b.cs ++ [startV n0 n1 n2 n3 b.today] := hc
    rcases List.mem_append.1 hc' with hc' | hc'
    · exact h.pc c hc'
    · rw [e1] at hc'
      simp at hc'; subst hc'
      exact ⟨⟨party_1 p1, h0⟩, ⟨party_1 p2, h1⟩⟩
theorem par_act {b : Bk} (h : Par b) (i : Int) (x : Ac) : Par (actB F0 b i x).1 := by
  unfold actB
  split
  · exact h
  rename_i hi
  split
  · exact h
  split
  · exact h
  have hi' : i.toNat < b.cs.length := by
    have : 0 ≤ i ∧ i ≤ (b.cs.length : Int) - 1 := Classical.not_not.1 hi
    omega
  obtain ⟨p1, p2⟩ := doC_of (csAt b.cs i.toNat) x b.today b.off
  refine ⟨h.ia, fun c hc => ?_⟩
  have hc' : c ∈ b.cs.set i.toNat (doC (csAt b.cs i.toNat) x b.today b.off) := hc
  rcases List.mem_or_eq_of_mem_set hc' with hc' | hc'
  · exact h.pc c hc'
  · rw [hc', p1, p2]
    exact h.pc _ (csAt_mem hi')
theorem par_line {b : Bk} (h : Par b) {line : List UInt8} (hg : GoodL line) {r : Bk × Int} (hr : Rel0 b line r) : Par r.1 := by
  unfold Rel0 LineRel at hr
  have hb : r = (b, 1) → Par r.1 := fun e => by rw [e]; exact h
  split at hr
  · rw [hr]; exact par_day h _
  split at hr
  · rename_i ha
    split at hr
    · rw [hr]; exact par_auth h (hg.1 ha)
    · exact hb hr
  split at hr
  · rename_i ha
    split at hr
    · exact par_pay h hr (hg.2 ha).1 (hg.2 ha).2
    · exact hb hr
  split at hr
  · split at hr
    · rw [hr]; exact par_act h _ _
    · exact hb hr
  · exact hb hr
theorem par_do {b : Bk} (h : Par b) {line : List UInt8} (hg : GoodL line) {r : Bk × Int} (hr : BkRel Rel0 b line r) : Par r.1 := by
  rcases hr with ⟨-, rfl⟩ | ⟨-, s, hs, ⟨-, rfl⟩ | ⟨-, rfl⟩⟩
  · exact h
  · exact h
  · have := par_line h hg hs
    exact ⟨this.ia, this.pc⟩
/-- what stands in a book behind k good lines -/
structure InvP (k : Nat) (b : Bk) : Prop where
  inv : Inv k b
  par : Par b
theorem InvP.mono {k n : Nat} {b : Bk} (h : InvP k b) (hk : k ≤ n) : InvP n b := ⟨h.inv.mono hk, h.par⟩
theorem doG0 {k : Nat} {b : Bk} (h : InvP k b) (hk : k ≤ 1000) (p : Bp) (line : List UInt8) (w : World) (hx : BookAt w b p) (hl : line.length ≤ 1000) (hg : GoodL line) :
    Calls Try.prog 21 #[bkv b p, .string ⟨line.toArray⟩] w fun e w' => ∃ b' q code, e = .returned (.tuple #[bkv b' q, .int .i64 code]) ∧ InvP (k + 1) b' ∧ BookAt w' b' q ∧ Below w.heap.size w w' ∧ FrB q w.heap.size :=
  (sBookDoF_any doKnown0 b p line w hx (pre_inv h.inv hk) (by omega)).mono (by
    rintro e w' ⟨r, q, hr, he, hb, hw, hf⟩
    exact ⟨r.1, q, r.2, he, ⟨inv_do h.inv hl hr, par_do h.par hg hr⟩, hb, hw, hf⟩)

end Go.Proofs.Ytlonjjliochbhaa
