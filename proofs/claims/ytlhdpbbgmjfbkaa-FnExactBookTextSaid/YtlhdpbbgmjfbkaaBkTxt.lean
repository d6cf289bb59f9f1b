/- The contract of the program's BookText. -/
import Derived.Test.YtlhdpbbgmjfbkaaBkTxtS
import Derived.Test.YtlhdpbbgmjfbkaaTxtApp
import Derived.Test.YtlhdpbbgmjfbkaaShelf
namespace Go.Proofs.Ytlhdpbbgmjfbkaa
open Go.RowKit
set_option maxRecDepth 100000

def rbytes (rs : Recs) : List ByteArray := rs.map fun r => ⟨r.toArray⟩
theorem rbytes_len (rs : Recs) : (rbytes rs).length = rs.length := by simp [rbytes]
theorem rbytes_join (rs : Recs) (sep : List UInt8) : Lib.join ((rbytes rs).map (·.data.toList)) sep = Lib.join rs sep := by
  rw [rbytes, List.map_map]
  congr 1
  induction rs with
  | nil => rfl
  | cons x r ih => rw [List.map_cons, ih]; simp
theorem rjoin_own {w : World} {base : Nat} {t : TypeId} {v : Value} {rs : Recs} (h : w.ownsRow base t 1 v rs.length (scells rs)) (h0 : rs ≠ []) :
    ∃ g cap, v = .slice (some ⟨g, 0, none⟩) (rbytes rs).length cap ∧ g < w.heap.size ∧ (rbytes rs).length ≤ cap ∧ ∀ (j : Nat) x, (rbytes rs)[j]? = some x → w.cell? ⟨g, 0 + j, none⟩ = some (.string x) := by
  have hlen := rbytes_len rs
  rcases h.2 with ⟨_, hn⟩ | ⟨g, cap, cur, rfl, hg, hh, a1, a2, a3, a4⟩
  · exact absurd (List.eq_nil_of_length_eq_zero hn) h0
  · refine ⟨g, cap, by rw [hlen], (h.lt g rfl).2, by rw [hlen]; omega, fun j x hj => ?_⟩
    have hjl : j < rs.length := by rw [← hlen]; exact (List.getElem?_eq_some_iff.1 hj).1
    rw [Nat.zero_add, h.cellAt j (by omega), scells_at rs j hjl]
    rw [rbytes, List.getElem?_map, List.getElem?_eq_getElem hjl] at hj
    simp at hj
    rw [← hj]
    simp [nth, List.getD_eq_getElem?_getD, hjl]

set_option maxHeartbeats 6400000 in
theorem iBookText_any (b : Bk) (p : Bp) (w : World) (hx : BookAt w b p) (hn : bkLg b) :
    Calls Try.prog 19 #[bkv b p] w fun e w' => e = .returned (.string ⟨(bookT b.log).toArray⟩) ∧ Below w.heap.size w w' := by
  obtain ⟨V, hV⟩ : ∃ V, V = w.alloc (.cells #[.int .i64 b.today, .slice p.o b.off.length p.oc, .slice p.a b.az.length p.ac, .slice p.c b.cs.length p.cc, .slice p.l b.ls.length p.lc, .slice p.g b.log.length p.gc] 39) := ⟨_, rfl⟩
  have bV : Below w.heap.size w V := by rw [hV]; exact (Below.refl _ _).alloc (Nat.le_refl _) _
  have HSV : Hid (S6 w.heap.size b p V) := by rw [Hid, hV]; exact S6.new w b p _
  have hVs : V.heap.size = w.heap.size + 1 := by rw [hV]; simp
  obtain ⟨W, hW⟩ : ∃ W, W = (V.alloc (.cells #[.string ⟨#[]⟩] 9)).alloc (.cells #[.slice p.g b.log.length p.gc, .slice (some ⟨V.heap.size, 0, none⟩) 1 1] 28) := ⟨_, rfl⟩
  have bW : Below V.heap.size V W := by rw [hW]; go_grown
  have b1 := next bV bW
  have k0 : W.cell? ⟨w.heap.size + 1 + 1, 0, none⟩ = some (.slice p.g b.log.length p.gc) := by rw [hW, ← hVs]; simp [go_sem]
  have k1 : W.cell? ⟨w.heap.size + 1 + 1, 1, none⟩ = some (.slice (some ⟨V.heap.size, 0, none⟩) 1 1) := by rw [hW, ← hVs]; simp [go_sem]
  have k2 : W.cell? ⟨V.heap.size, 0, none⟩ = some (.string ⟨#[]⟩) := by rw [hW]; simp [go_sem]
  have hy : TxtsAt W (some ⟨V.heap.size, 0, none⟩) [[]] := .inr ⟨V.heap.size, 0, rfl, World.block_lt_of_cell? W _ k2, fun i hi => by
    obtain rfl : i = 0 := by simpa using hi
    exact k2⟩
  have HJ : Hid _ := joinS2_any (w.heap.size + 1 + 1) p.g (some ⟨V.heap.size, 0, none⟩) p.gc 1 b.log [[]] W k0 k1 ((hx.below b1).log) hy (by have := hn.1.2.2.2.2; simp; omega)
  have HL : Hid ((bookT b.log).length ≤ 1048576) := by rw [Hid]; have := bookT_len b.log; have := hn.2; omega
  have HC : Hid (b.log.length ≤ 1048576) := hn.1.2.2.2.2
  have HB1 : Hid (Below w.heap.size w W) := b1
  have HV : Hid _ := hV
  have HW : Hid _ := hW
  have HVS : Hid _ := hVs
  clear hx hn bV hV hW bW b1 k0 k1 k2 hy hVs
  obtain ⟨td, fo, az, cs, ls, lg⟩ := b
  obtain ⟨o, oc, a, ac, c, cc, l, lc, g, gc⟩ := p
  unfold bkv
  simp only at HV HW HJ HL HC ⊢
  obtain ⟨x0, x1, x2, x3, x4, x5⟩ := HSV.out
  simp only at x0 x1 x2 x3 x4 x5
  go_enter Try.func19, Try.ntmps19
  go_upto_region 1 with fail
  rw [← HV.out]
  go_wp2_with fail
  simp only [HVS.out] at HW HJ
  try simp only [HVS.out]
  rw [← HW.out]
  refine Calls.mono HJ.out ?_
  rintro e w2 ⟨a2, c2, rfl, o2, b2⟩
  have hne : lg ++ [[]] ≠ [] := by simp
  have hjl := join_last lg
  have hll : (lg ++ [[]]).length ≤ 1048577 := by have := HC.out; simp; omega
  obtain ⟨L, hL⟩ : ∃ L : Recs, lg ++ [[]] = L := ⟨_, rfl⟩
  rw [hL] at o2 hne hjl hll ⊢
  obtain ⟨g2, cp2, hv, hg2, hcp, hcells⟩ := rjoin_own o2 hne
  have HB2 : Hid (Below w.heap.size w w2) := next HB1.out b2
  have hrl := rbytes_len L
  have hrj := rbytes_join L [10]
  rw [hjl] at hrj
  have hl := HL.out
  have HS : Hid (Calls Try.prog 48 #[.slice a2 L.length c2, .string ⟨#[10]⟩] w2 fun e w' => e = .returned (.string ⟨(bookT lg).toArray⟩) ∧ Below w2.heap.size w2 w') := by
    rw [Hid, hv, ← hrj]
    exact Try.strings_Join g2 0 cp2 (rbytes L) ⟨#[10]⟩ w2 hcells hg2 (by rw [hrl]; omega) hcp (by show (Lib.join ((rbytes L).map (·.data.toList)) [10]).length ≤ _; rw [hrj]; omega)
  clear hL hne hjl hll hrl hrj hl
  clear o2 b2 hv hg2 hcp hcells HV HW HJ
  go_wp2_with fail
  refine Calls.mono HS.out ?_
  rintro e w3 ⟨rfl, b3⟩
  have HB3 : Hid (Below w.heap.size w w3) := next HB2.out b3
  clear b3 HS
  go_wp2
  go_ret
  exact ⟨rfl, HB3.out⟩

end Go.Proofs.Ytlhdpbbgmjfbkaa
