/- What is expected of the accounts 1 to 8 makes up nothing where the parties are small numbers, and of the House the fees: plainly. -/
import Derived.Test.YtlonjjliochbhaaGdW
import Derived.Test.YtlonjjliochbhaaJE10b
namespace Go.Proofs.Ytlonjjliochbhaa
open Go.RowKit
set_option maxRecDepth 100000

def pS (E : Int → Int) : Nat → Int
  | 0 => 0
  | n + 1 => IntKind.i64.wrap (pS E n + E ((n : Int) + 1))
def pT (E : Int → Int) : Nat → Int
  | 0 => 0
  | n + 1 => pT E n + E ((n : Int) + 1)
theorem wrap_ex (x : Int) : ∃ k : Int, IntKind.i64.wrap x = x + k * 18446744073709551616 := by
  rw [IntKind.wrap_i64]
  exact ⟨-((x + 9223372036854775808) / 18446744073709551616), by omega⟩
theorem wrap64_ex (x : Int) : ∃ k : Int, wrap64 x = x + k * 18446744073709551616 := by
  unfold wrap64
  exact ⟨-((x + 9223372036854775808) / 18446744073709551616), by omega⟩
theorem wrap_64 (x : Int) : wrap64 x = IntKind.i64.wrap x := by rw [IntKind.wrap_i64]; unfold wrap64; omega
theorem pS_ex (E : Int → Int) : ∀ n, ∃ k : Int, pS E n = pT E n + k * 18446744073709551616
  | 0 => ⟨0, by simp [pS, pT]⟩
  | n + 1 => by
    obtain ⟨k, hk⟩ := pS_ex E n
    obtain ⟨j, hj⟩ := wrap_ex (pS E n + E ((n : Int) + 1))
    exact ⟨k + j, by rw [pS, hj, pT, hk]; omega⟩
theorem pT_ex {E G : Int → Int} (h : ∀ a, ∃ k : Int, E a = G a + k * 18446744073709551616) : ∀ n, ∃ k : Int, pT E n = pT G n + k * 18446744073709551616
  | 0 => ⟨0, by simp [pT]⟩
  | n + 1 => by
    obtain ⟨k, hk⟩ := pT_ex h n
    obtain ⟨j, hj⟩ := h ((n : Int) + 1)
    exact ⟨k + j, by rw [pT, pT, hj, hk]; omega⟩
def tot (P : Cs → Bool) (f : Cs → Int) : List Cs → Int
  | [] => 0
  | c :: r => (if P c = true then f c else 0) + tot P f r
theorem sumV_ex (P : Cs → Bool) (f : Cs → Int) (cs : List Cs) : ∃ k : Int, sumV P f cs = tot P f cs + k * 18446744073709551616 := by
  unfold sumV
  suffices h : ∀ s : Int, ∃ k : Int, cs.foldl (sumS P f) s = s + tot P f cs + k * 18446744073709551616 by
    obtain ⟨k, hk⟩ := h 0
    exact ⟨k, by rw [hk]; omega⟩
  induction cs with
  | nil => intro s; exact ⟨0, by simp [tot]⟩
  | cons c r ih =>
    intro s
    rw [List.foldl_cons, tot]
    obtain ⟨k, hk⟩ := ih (sumS P f s c)
    rw [hk]
    unfold sumS
    split
    · obtain ⟨j, hj⟩ := wrap_ex (s + f c)
      exact ⟨k + j, by rw [hj]; omega⟩
    · exact ⟨k, by omega⟩
theorem tot_zero (P : Cs → Bool) (cs : List Cs) : tot P (fun _ => 0) cs = 0 := by
  induction cs with
  | nil => rfl
  | cons c r ih => rw [tot, ih]; split <;> rfl
theorem tot_add (P : Cs → Bool) (f g : Cs → Int) (cs : List Cs) : tot P (fun c => f c + g c) cs = tot P f cs + tot P g cs := by
  induction cs with
  | nil => rfl
  | cons c r ih =>
    rw [tot, tot, tot, ih]
    split <;> omega
theorem pT_tot (P : Cs → Bool) (f : Int → Cs → Int) (cs : List Cs) : ∀ n, pT (fun a => tot P (f a) cs) n = tot P (fun c => pT (fun a => f a c) n) cs
  | 0 => (tot_zero P cs).symm
  | n + 1 => by
    rw [pT, pT_tot P f cs n, ← tot_add]
    rfl
theorem tot_ex {P : Cs → Bool} {f : Cs → Int} {cs : List Cs} (h : ∀ c ∈ cs, ∃ k : Int, f c = k * 18446744073709551616) : ∃ k : Int, tot P f cs = k * 18446744073709551616 := by
  induction cs with
  | nil => exact ⟨0, rfl⟩
  | cons c r ih =>
    obtain ⟨k, hk⟩ := ih (fun c hc => h c (List.mem_cons_of_mem _ hc))
    obtain ⟨j, hj⟩ := h c (List.mem_cons_self ..)
    rw [tot, hk, hj]
    split
    · exact ⟨j + k, by omega⟩
    · exact ⟨k, by omega⟩
theorem balV_ex (a : Int) (c : Cs) (h : a ≠ 9999) : ∃ k : Int, balV a c = (if a = c.acq then netC c else 0) - (if a = c.iss then netC c else 0) + k * 18446744073709551616 := by
  unfold balV
  rw [if_neg h]
  generalize netC c = n
  by_cases h1 : a = c.iss
  · by_cases h2 : a = c.acq
    · rw [if_pos h1, if_pos h2, if_pos h1, if_pos h2]
      obtain ⟨i, hi⟩ := wrap64_ex (0 - n)
      obtain ⟨j, hj⟩ := wrap64_ex (wrap64 (0 - n) + n)
      exact ⟨i + j, by rw [hj, hi]; omega⟩
    · rw [if_pos h1, if_neg h2, if_pos h1, if_neg h2]
      obtain ⟨i, hi⟩ := wrap64_ex (0 - n)
      exact ⟨i, by rw [hi]⟩
  · by_cases h2 : a = c.acq
    · rw [if_neg h1, if_pos h2, if_neg h1, if_pos h2]
      obtain ⟨j, hj⟩ := wrap64_ex (0 + n)
      exact ⟨j, by rw [hj]; omega⟩
    · rw [if_neg h1, if_neg h2, if_neg h1, if_neg h2]
      exact ⟨0, by omega⟩
theorem ind8 (q n : Int) (h : 1 ≤ q ∧ q ≤ 8) : pT (fun a => if a = q then n else 0) 8 = n := by
  rcases (show q = 1 ∨ q = 2 ∨ q = 3 ∨ q = 4 ∨ q = 5 ∨ q = 6 ∨ q = 7 ∨ q = 8 from by omega) with rfl | rfl | rfl | rfl | rfl | rfl | rfl | rfl <;> simp [pT]
theorem pT_sub (E G : Int → Int) : ∀ n, pT (fun a => E a - G a) n = pT E n - pT G n
  | 0 => rfl
  | n + 1 => by rw [pT, pT, pT, pT_sub E G n]; omega
theorem pT_ex8 {E G : Int → Int} (h : ∀ a, a ≠ 9999 → ∃ k : Int, E a = G a + k * 18446744073709551616) : ∀ n, n ≤ 8 → ∃ k : Int, pT E n = pT G n + k * 18446744073709551616
  | 0, _ => ⟨0, by simp [pT]⟩
  | n + 1, hn => by
    obtain ⟨k, hk⟩ := pT_ex8 h n (by omega)
    obtain ⟨j, hj⟩ := h ((n : Int) + 1) (by omega)
    exact ⟨k + j, by rw [pT, pT, hj, hk]; omega⟩
theorem bal_ex (c : Cs) (h1 : 1 ≤ c.iss ∧ c.iss ≤ 8) (h2 : 1 ≤ c.acq ∧ c.acq ≤ 8) : ∃ k : Int, pT (fun a => balV a c) 8 = k * 18446744073709551616 := by
  obtain ⟨k, hk⟩ := pT_ex8 (E := fun a => balV a c) (G := fun a => (if a = c.acq then netC c else 0) - (if a = c.iss then netC c else 0)) (fun a ha => balV_ex a c ha) 8 (by omega)
  rw [pT_sub, ind8 _ _ h1, ind8 _ _ h2] at hk
  exact ⟨k, by rw [hk]; omega⟩
theorem sum8 {b : Bk} (h : Par b) (cur : Int) : pS (fun a => sumV (curP cur) (balV a) b.cs) 8 = 0 := by
  obtain ⟨i, hi⟩ := pS_ex (fun a => sumV (curP cur) (balV a) b.cs) 8
  obtain ⟨j, hj⟩ := pT_ex (E := fun a => sumV (curP cur) (balV a) b.cs) (G := fun a => tot (curP cur) (balV a) b.cs) (fun a => sumV_ex _ _ _) 8
  rw [pT_tot] at hj
  obtain ⟨k, hk⟩ := tot_ex (P := curP cur) (f := fun c => pT (fun a => balV a c) 8) (cs := b.cs) (fun c hc => bal_ex c (h.pc c hc).1 (h.pc c hc).2)
  rw [hj, hk] at hi
  have hb : -9223372036854775808 ≤ pS (fun a => sumV (curP cur) (balV a) b.cs) 8 ∧ pS (fun a => sumV (curP cur) (balV a) b.cs) 8 ≤ 9223372036854775807 := by
    rw [pS]; exact wrap_bd _
  generalize pS (fun a => sumV (curP cur) (balV a) b.cs) 8 = x at *
  omega
theorem fold_congr {P : Cs → Bool} {f g : Cs → Int} {cs : List Cs} (h : ∀ c ∈ cs, ∀ s : Int, IntKind.i64.wrap (s + f c) = IntKind.i64.wrap (s + g c)) : ∀ s : Int, cs.foldl (sumS P f) s = cs.foldl (sumS P g) s := by
  induction cs with
  | nil => intro s; rfl
  | cons c r ih =>
    intro s
    rw [List.foldl_cons, List.foldl_cons]
    have e : sumS P f s c = sumS P g s c := by
      unfold sumS
      rw [h c (List.mem_cons_self ..) s]
    rw [e]
    exact ih (fun c hc => h c (List.mem_cons_of_mem _ hc)) _
theorem house {b : Bk} (h : Par b) (cur : Int) : sumV (curP cur) (balV 9999) b.cs = sumV (curP cur) Cs.fee b.cs := by
  unfold sumV
  refine fold_congr (fun c hc s => ?_) 0
  obtain ⟨h1, h2⟩ := h.pc c hc
  have e : balV 9999 c = wrap64 (0 + c.fee) := by
    unfold balV
    rw [if_pos rfl, if_neg (by omega), if_neg (by omega)]
  rw [e, IntKind.wrap_i64, IntKind.wrap_i64]
  unfold wrap64
  omega

end Go.Proofs.Ytlonjjliochbhaa
