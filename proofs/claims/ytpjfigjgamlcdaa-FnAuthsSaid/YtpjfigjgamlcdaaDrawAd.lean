/- What is drawn for AuthAdd: a list and an authorization, whatever the bytes. -/
import Derived.Test.YtpjfigjgamlcdaaDrawAl
namespace Go.Proofs.Ytpjfigjgamlcdaa
open Go.RowKit
set_option maxRecDepth 100000

theorem keepSetA {w : World} {base n size : Nat} {t : TypeId} {v : Value} {xs : List Value} (h : w.ownsRow base t size v n xs) (p : Addr) (u : Value) (hp : ∀ g, v.ownBlock = some g → g ≠ p.block) : (w.setCell p u).ownsRow base t size v n xs := by
  obtain ⟨h1, h2⟩ := h
  refine ⟨h1, ?_⟩
  rcases h2 with h | ⟨g, cap, cur, hv, hg, hh, a1, a2, a3, a4⟩
  · exact .inl h
  · exact .inr ⟨g, cap, cur, hv, hg, (Below.heap_setCell w p u g (hp g (by rw [hv]; rfl))).trans hh, a1, a2, a3, a4⟩

set_option maxHeartbeats 1600000 in
theorem drawAdd10_any (a : Option Addr) (len cap : Nat) (zs : List Int) (w : World) (hr : IsRow .u8 w a len cap zs) (hn : len ≤ 1048576) :
    Calls Try.prog 16 #[.slice a len cap] w fun e w' => ∃ (ao : Option Addr) (c : Nat) (az : List Au) (x : Au), e = .returned (.tuple #[.slice ao az.length c, auv x]) ∧ az.length ≤ 101 ∧ AuthsAt w' ao az ∧ (∀ a ∈ az, AuG a) ∧ AuG x ∧ Below w.heap.size w w' := by
  obtain ⟨W, hW⟩ : ∃ W, w.alloc (.cells #[.string ⟨#[]⟩, .int .i64 0, .int .i64 0, .int .i64 0, .int .i64 0, .bool false] 30) = W := ⟨_, rfl⟩
  have HR : Hid (AuW w.heap.size zeroAu W) := hW ▸ AuW.new w zeroAu _
  have bW : Below w.heap.size w W := hW ▸ (Below.refl _ _).alloc (Nat.le_refl _) _
  have hrW : IsRow .u8 W a len cap zs := row_below hr bW
  have hsW : W.heap.size = w.heap.size + 1 := by rw [← hW]; simp
  have HW : Hid _ := hW
  clear hW hr
  go_enter Try.func16, Try.ntmps16
  go_upto_region 1 with fail
  rw [HW.out]
  clear HW
  go_wp2_with fail
  refine (new_any _ _ _ _ _ hrW hn).mono ?_
  rintro e w1 ⟨rfl, c1, b1⟩
  have hs1 : W.heap.size + 1 ≤ w1.heap.size := (cursor_bd c1).2
  replace HR : Hid (AuW w.heap.size zeroAu w1) := HR.out.grown (grown_ofA b1 none) (by simp)
  have HB1 : Hid (Below w.heap.size w w1) := bW.trans (b1.mono bW.size)
  obtain ⟨g, hg⟩ : ∃ g, W.heap.size = g := ⟨_, rfl⟩
  rw [hg] at c1 hs1 hsW ⊢
  have hgR : w.heap.size < g := by omega
  clear hg b1 bW hrW hsW
  go_wp2_with fail
  refine (aulist_any _ _ c1).mono ?_
  rintro e w2 ⟨ao, c, az, rfl, hal, hL, c2, g2⟩
  have HL : Hid (AuL w1 az ao c w2) := hL
  replace HR : Hid (AuW w.heap.size zeroAu w2) := HR.out.grown g2 (by simp; omega)
  have HB2 : Hid (Below w.heap.size w w2) := HB1.out.grown g2 HB1.out.size (fun k hk => by cases hk; omega)
  clear hL c1 g2 HB1
  go_wp2_with fail
  refine (auth_any _ _ c2).mono ?_
  rintro e w3 ⟨⟨r, i, cc, m, d, u⟩, rfl, hx, c3, g3⟩
  simp only [auv]
  replace HL : Hid (AuL w1 az ao c w3) := ⟨keepAg HL.out.own g3 (fun x hx e => by have := (HL.out.own.lt x hx).1; injection e with e; omega), HL.out.good⟩
  replace HR : Hid (AuW w.heap.size zeroAu w3) := HR.out.grown g3 (by simp; omega)
  have HB3 : Hid (Below w.heap.size w w3) := HB2.out.grown g3 HB2.out.size (fun k hk => by cases hk; omega)
  have HAP : Hid (∀ y, (Value.slice ao az.length c).ownBlock = some y → y ≠ w.heap.size) := fun y hy => by have := (HL.out.own.lt y hy).1; omega
  clear c2 g3 HB2 c3
  have K0 : (w3.setCell ⟨w.heap.size, 0, none⟩ (.string ⟨r.toArray⟩)).ownsRow w1.heap.size 30 6 (.slice ao az.length c) az.length (acells az) := keepSetA HL.out.own ⟨w.heap.size, 0, none⟩ _ HAP.out
  have K1 : ((w3.setCell ⟨w.heap.size, 0, none⟩ (.string ⟨r.toArray⟩)).setCell ⟨w.heap.size, 1, none⟩ (.int .i64 i)).ownsRow w1.heap.size 30 6 (.slice ao az.length c) az.length (acells az) := keepSetA K0 ⟨w.heap.size, 1, none⟩ _ HAP.out
  have K2 : (((w3.setCell ⟨w.heap.size, 0, none⟩ (.string ⟨r.toArray⟩)).setCell ⟨w.heap.size, 1, none⟩ (.int .i64 i)).setCell ⟨w.heap.size, 2, none⟩ (.int .i64 cc)).ownsRow w1.heap.size 30 6 (.slice ao az.length c) az.length (acells az) := keepSetA K1 ⟨w.heap.size, 2, none⟩ _ HAP.out
  have K3 : ((((w3.setCell ⟨w.heap.size, 0, none⟩ (.string ⟨r.toArray⟩)).setCell ⟨w.heap.size, 1, none⟩ (.int .i64 i)).setCell ⟨w.heap.size, 2, none⟩ (.int .i64 cc)).setCell ⟨w.heap.size, 3, none⟩ (.int .i64 m)).ownsRow w1.heap.size 30 6 (.slice ao az.length c) az.length (acells az) := keepSetA K2 ⟨w.heap.size, 3, none⟩ _ HAP.out
  have K4 : (((((w3.setCell ⟨w.heap.size, 0, none⟩ (.string ⟨r.toArray⟩)).setCell ⟨w.heap.size, 1, none⟩ (.int .i64 i)).setCell ⟨w.heap.size, 2, none⟩ (.int .i64 cc)).setCell ⟨w.heap.size, 3, none⟩ (.int .i64 m)).setCell ⟨w.heap.size, 4, none⟩ (.int .i64 d)).ownsRow w1.heap.size 30 6 (.slice ao az.length c) az.length (acells az) := keepSetA K3 ⟨w.heap.size, 4, none⟩ _ HAP.out
  have K5 : ((((((w3.setCell ⟨w.heap.size, 0, none⟩ (.string ⟨r.toArray⟩)).setCell ⟨w.heap.size, 1, none⟩ (.int .i64 i)).setCell ⟨w.heap.size, 2, none⟩ (.int .i64 cc)).setCell ⟨w.heap.size, 3, none⟩ (.int .i64 m)).setCell ⟨w.heap.size, 4, none⟩ (.int .i64 d)).setCell ⟨w.heap.size, 5, none⟩ (.bool u)).ownsRow w1.heap.size 30 6 (.slice ao az.length c) az.length (acells az) := keepSetA K4 ⟨w.heap.size, 5, none⟩ _ HAP.out
  have HZF : Hid (AuthsAt (((((((w3.setCell ⟨w.heap.size, 0, none⟩ (.string ⟨r.toArray⟩)).setCell ⟨w.heap.size, 1, none⟩ (.int .i64 i)).setCell ⟨w.heap.size, 2, none⟩ (.int .i64 cc)).setCell ⟨w.heap.size, 3, none⟩ (.int .i64 m)).setCell ⟨w.heap.size, 4, none⟩ (.int .i64 d)).setCell ⟨w.heap.size, 5, none⟩ (.bool u))) ao az) := auths_any K5
  have HBF : Hid (Below w.heap.size w (((((((w3.setCell ⟨w.heap.size, 0, none⟩ (.string ⟨r.toArray⟩)).setCell ⟨w.heap.size, 1, none⟩ (.int .i64 i)).setCell ⟨w.heap.size, 2, none⟩ (.int .i64 cc)).setCell ⟨w.heap.size, 3, none⟩ (.int .i64 m)).setCell ⟨w.heap.size, 4, none⟩ (.int .i64 d)).setCell ⟨w.heap.size, 5, none⟩ (.bool u)))) := ((((((HB3.out.setCell (Nat.le_refl _) _).setCell (Nat.le_refl _) _).setCell (Nat.le_refl _) _).setCell (Nat.le_refl _) _).setCell (Nat.le_refl _) _).setCell (Nat.le_refl _) _)
  have HGL : Hid (∀ a ∈ az, AuG a) := HL.out.good
  clear K0 K1 K2 K3 K4 K5
  obtain ⟨y0, y1, y2, y3, y4, y5, k0, k1, k2, k3, k4, k5⟩ := HR.out
  simp only [zeroAu] at y0 y1 y2 y3 y4 y5
  clear HR HL HB3 HAP
  go_wp2
  refine bodyPost_ret (by simp [results, Try.results16, go_sem, y0, y1, y2, y3, y4, y5]; try rfl) rfl ?_
  exact ⟨ao, c, az, ⟨r, i, cc, m, d, u⟩, rfl, hal, HZF.out, HGL.out, hx, HBF.out⟩

end Go.Proofs.Ytpjfigjgamlcdaa
