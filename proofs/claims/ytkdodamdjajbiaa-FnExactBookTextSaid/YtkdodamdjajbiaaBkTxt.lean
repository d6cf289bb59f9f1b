/- The contract of the program's BookText. -/
import Derived.Test.YtkdodamdjajbiaaBkTxtS
import Derived.Test.YtkdodamdjajbiaaTxtApp
import Derived.Test.YtkdodamdjajbiaaShelf
namespace Go.Proofs.Ytkdodamdjajbiaa
open Go.RowKit
set_option maxRecDepth 100000

def rbytes (rs : Recs) : List ByteArray := rs.map fun r => ⟨r.toArray⟩
theorem rbytes_len (rs : Recs) : (rbytes rs).length = rs.length := by simp [rbytes]
theorem rbytes_join (rs : Recs) (sep : List UInt8) : Lib.join ((rbytes rs).map (·.data.toList)) sep = Lib.join rs sep := by
  rw [rbytes, List.map_map]
  congr 1
  induction rs with
  | nil => rfl
  | cons x r ih => rw [List.map_cons, ih]; simp
theorem rjoin_own {w : World} {base : Nat} {t : TypeId} {v : Value} {rs : Recs} (h : w.ownsRow base t 1 v rs.length (scells rs)) (h0 : rs ≠ []) :
    ∃ g cap, v = .slice (some ⟨g, 0, none⟩) (rbytes rs).length cap ∧ g < w.heap.size ∧ (rbytes rs).length ≤ cap ∧ ∀ (j : Nat) x, (rbytes rs)[j]? = some x → w.cell? ⟨g, 0 + j, none⟩ = some (.string x) := by
  have hlen := rbytes_len rs
  rcases h.2 with ⟨_, hn⟩ | ⟨g, cap, cur, rfl, hg, hh, a1, a2, a3, a4⟩
  · exact absurd (List.eq_nil_of_length_eq_zero hn) h0
  · refine ⟨g, cap, by rw [hlen], (h.lt g rfl).2, by rw [hlen]; omega, fun j x hj => ?_⟩
    have hjl : j < rs.length := by rw [← hlen]; exact (List.getElem?_eq_some_iff.1 hj).1
    rw [Nat.zero_add, h.cellAt j (by omega), scells_at rs j hjl]
    rw [rbytes, List.getElem?_map, List.getElem?_eq_getElem hjl] at hj
    simp at hj
    rw [← hj]
    simp [nth, List.getD_eq_getElem?_getD, hjl]

set_option maxHeartbeats 6400000 in
theorem iTextOf_any (g : Option Addr) (gc : Nat) (lg : Recs) (w : World) (hz : TxtsAt w g lg) (hn : lg.length ≤ 1048576) (hl : (bookT lg).length ≤ 1099511627776) :
    Calls Try.prog 53 #[.slice g lg.length gc] w fun e w' => e = .returned (.string ⟨(bookT lg).toArray⟩) ∧ Below w.heap.size w w' := by
  obtain ⟨W, hW⟩ : ∃ W, W = (w.alloc (.cells #[.string ⟨#[]⟩] 9)).alloc (.cells #[.slice g lg.length gc, .slice (some ⟨w.heap.size, 0, none⟩) 1 1] 28) := ⟨_, rfl⟩
  have b1 : Below w.heap.size w W := by rw [hW]; go_grown
  have k0 : W.cell? ⟨w.heap.size + 1, 0, none⟩ = some (.slice g lg.length gc) := by rw [hW]; simp [go_sem]
  have k1 : W.cell? ⟨w.heap.size + 1, 1, none⟩ = some (.slice (some ⟨w.heap.size, 0, none⟩) 1 1) := by rw [hW]; simp [go_sem]
  have k2 : W.cell? ⟨w.heap.size, 0, none⟩ = some (.string ⟨#[]⟩) := by rw [hW]; simp [go_sem]
  have hy : TxtsAt W (some ⟨w.heap.size, 0, none⟩) [[]] := .inr ⟨w.heap.size, 0, rfl, World.block_lt_of_cell? W _ k2, fun i hi => by
    obtain rfl : i = 0 := by simpa using hi
    exact k2⟩
  have HJ : Hid _ := joinS2_any (w.heap.size + 1) g (some ⟨w.heap.size, 0, none⟩) gc 1 lg [[]] W k0 k1 (hz.below b1) hy (by simp; omega)
  have HL : Hid ((bookT lg).length ≤ 1099511627776) := hl
  have HC : Hid (lg.length ≤ 1048576) := hn
  have HB1 : Hid (Below w.heap.size w W) := b1
  have HW : Hid _ := hW
  clear hz hn hl hW b1 k0 k1 k2 hy
  go_enter Try.func53, Try.ntmps53
  go_wp2_with fail
  rw [← HW.out]
  refine Calls.mono HJ.out ?_
  rintro e w2 ⟨a2, c2, rfl, o2, b2⟩
  have hne : lg ++ [[]] ≠ [] := by simp
  have hjl := join_last lg
  have hll : (lg ++ [[]]).length ≤ 1048577 := by have := HC.out; simp; omega
  obtain ⟨L, hL⟩ : ∃ L : Recs, lg ++ [[]] = L := ⟨_, rfl⟩
  rw [hL] at o2 hne hjl hll ⊢
  obtain ⟨g2, cp2, hv, hg2, hcp, hcells⟩ := rjoin_own o2 hne
  have HB2 : Hid (Below w.heap.size w w2) := next HB1.out b2
  have hrl := rbytes_len L
  have hrj := rbytes_join L [10]
  rw [hjl] at hrj
  have hl := HL.out
  have HS : Hid (Calls Try.prog 69 #[.slice a2 L.length c2, .string ⟨#[10]⟩] w2 fun e w' => e = .returned (.string ⟨(bookT lg).toArray⟩) ∧ Below w2.heap.size w2 w') := by
    rw [Hid, hv, ← hrj]
    exact Try.strings_Join g2 0 cp2 (rbytes L) ⟨#[10]⟩ w2 hcells hg2 (by rw [hrl]; omega) hcp (by show (Lib.join ((rbytes L).map (·.data.toList)) [10]).length ≤ _; rw [hrj]; omega)
  clear hL hne hjl hll hrl hrj hl
  clear o2 b2 hv hg2 hcp hcells HW HJ
  go_wp2_with fail
  refine Calls.mono HS.out ?_
  rintro e w3 ⟨rfl, b3⟩
  have HB3 : Hid (Below w.heap.size w w3) := next HB2.out b3
  clear b3 HS
  go_wp2
  go_ret
  exact ⟨rfl, HB3.out⟩
set_option maxHeartbeats 1600000 in
theorem iBookText_any (b : Bk) (p : Bp) (w : World) (hx : BookAt w b p) (hn : bkLg b) :
    Calls Try.prog 24 #[bkv b p] w fun e w' => e = .returned (.string ⟨(bookT b.log).toArray⟩) ∧ Below w.heap.size w w' := by
  obtain ⟨W, hW⟩ : ∃ W, W = w.alloc (.cells #[.int .i64 b.today, .slice p.o b.off.length p.oc, .slice p.a b.az.length p.ac, .slice p.c b.cs.length p.cc, .slice p.l b.ls.length p.lc, .slice p.g b.log.length p.gc] 39) := ⟨_, rfl⟩
  have bW : Below w.heap.size w W := by rw [hW]; exact (Below.refl _ _).alloc (Nat.le_refl _) _
  have s6 : S6 w.heap.size b p W := by rw [hW]; exact S6.new w b p _
  have HX : Hid (TxtsAt W p.g b.log) := (hx.below bW).log
  have HC : Hid (b.log.length ≤ 1048576) := hn.1.2.2.2.2
  have HL : Hid ((bookT b.log).length ≤ 1099511627776) := by rw [Hid]; have := bookT_len b.log; have := hn.2; omega
  have HW : Hid _ := hW
  have HBW : Hid (Below w.heap.size w W) := bW
  clear hx hn hW bW
  obtain ⟨td, fo, az, cs, ls, lg⟩ := b
  obtain ⟨o, oc, a, ac, c, cc, l, lc, g, gc⟩ := p
  unfold bkv
  simp only at HW HX HL HC s6 ⊢
  obtain ⟨x0, x1, x2, x3, x4, x5⟩ := s6
  simp only at x0 x1 x2 x3 x4 x5
  go_enter Try.func24, Try.ntmps24
  go_upto_region 1 with fail
  rw [← HW.out]
  clear HW
  go_wp2_with fail
  refine (iTextOf_any _ _ _ _ HX.out HC.out HL.out).mono ?_
  rintro e w1 ⟨rfl, b1⟩
  have HB1 : Hid (Below w.heap.size w w1) := next HBW.out b1
  clear b1 x0 x1 x2 x3 x4 x5
  go_wp2
  go_ret
  exact ⟨rfl, HB1.out⟩

end Go.Proofs.Ytkdodamdjajbiaa
