/- The library's heap over candidates: a push keeps the heap, a pop hands the first one out. -/
import Derived.Test.YtpjfigjgamlcdaaHpOps2
namespace Go.Proofs.Ytpjfigjgamlcdaa
open Go.RowKit
set_option maxRecDepth 100000

def hpV (w : World) : Value := .iface 82 (.pointer (some ⟨w.heap.size, 0, none⟩))

set_option maxHeartbeats 800000 in
theorem lenm_any (ao : Option Addr) (n cap : Nat) (u : World) : Calls Try.prog 60 #[.slice ao n cap] u fun e u' => e = .returned (.int .i64 n) ∧ u' = u := by
  go_enter Try.func60, Try.ntmps60
  go_wp2
  go_ret
  exact ⟨rfl, rfl⟩

theorem near_list {H : List Cd} {j : Nat} (h : Near H j) (h0 : 0 < j) (hj : j < H.length) (hl : ltC (cdAt H j) (cdAt H (par j)) = true) : Near (swapL H (par j) j) (par j) := by
  unfold Near
  have hp := par_lt h0
  rw [swapL_fun (show par j < H.length by omega) hj, swapL_len]
  exact near_swap h h0 hj hl

set_option maxHeartbeats 3200000 in
theorem up_any {w u : World} {H : List Cd} {g cap : Nat} (h : HP none w H (some ⟨g, 0, none⟩) cap u) (j : Nat) (hj : j < H.length) (hn : H.length ≤ 1000) (hnear : Near H j) :
    Calls Try.prog 72 #[hpV w, .int .i64 j] u fun e u' => e = .returned (.tuple #[]) ∧ ∃ G, HP none w G (some ⟨g, 0, none⟩) cap u' ∧ IsHeap G ∧ SameC H G := by
  have HH : Hid (HP none w H (some ⟨g, 0, none⟩) cap u) := h
  have HN : Hid (Near H j) := hnear
  clear h hnear
  unfold hpV
  go_enter Try.func72, Try.ntmps72
  go_wp2
  go_loopw [1, 4] (fun v _ wr => ∃ (k : Nat) (G : List Cd), k ≤ j ∧ v = .int .i64 k ∧ HP none w G (some ⟨g, 0, none⟩) cap wr ∧ Near G k ∧ SameC H G) (fun v _ _ => (intOf v).toNat)
  case atStart => exact ⟨j, H, Nat.le_refl _, rfl, HH.out, HN.out, SameC.refl H⟩
  case round =>
    obtain ⟨k, G, hk, rfl, hp, hne, hs⟩ := hrel
    have HGL : Hid (G.length = H.length) := hs.1
    have hkG : k < G.length := by have := HGL.out; omega
    have HP0 : Hid (HP none w G (some ⟨g, 0, none⟩) cap wr) := hp
    have HNE : Hid (Near G k) := hne
    have HS : Hid (SameC H G) := hs
    have hbox := hp.box
    have hml := methLess hbox
    have hms := methSwap hbox
    clear HH HN hp hne hs
    by_cases hk0 : k = 0
    · subst hk0
      have hq : (-1 : Int).tdiv 2 = 0 := by decide
      go_wp2
      go_end0
      exact ⟨rfl, G, HP0.out, near_done HNE.out (.inl rfl), HS.out⟩
    · have hq : ((k : Int) - 1).tdiv 2 = ((par k : Nat) : Int) := by
        unfold par
        rw [Int.tdiv_eq_ediv_of_nonneg (by omega)]
        omega
      have hpk := par_lt (show 0 < k by omega)
      obtain ⟨p, hpe⟩ : ∃ p, par k = p := ⟨_, rfl⟩
      have HSW : Hid (ltC (cdAt G k) (cdAt G (par k)) = true → Near (swapL G (par k) k) (par k)) := fun hl => near_list HNE.out (by omega) hkG hl
      have HDN : Hid (ltC (cdAt G k) (cdAt G (par k)) = false → IsHeap G) := fun hl => near_done HNE.out (.inr hl)
      rw [hpe] at hq hpk HSW HDN
      have hneq : ((p : Int) == (k : Int)) = false := by simp; omega
      have hkk : (0 : Int) < (k : Int) := by omega
      clear hpe
      cases hl : ltC (cdAt G k) (cdAt G p)
      · have HL : Hid (∀ v, HP none w G (some ⟨g, 0, none⟩) cap v → Calls Try.prog 101 #[.slice (some ⟨g, 0, none⟩) G.length cap, .int .i64 k, .int .i64 p] v fun e u' => e = .returned (.bool false) ∧ Below v.heap.size v u') := fun v hv => by rw [← hl]; exact less_any hv k p hkG (by omega)
        have HIS : Hid (IsHeap G) := HDN.out hl
        go_wp2_with fail
        refine (HL.out _ HP0.out).mono ?_
        rintro e u2 ⟨rfl, b2⟩
        have HP2 : Hid (HP none w G (some ⟨g, 0, none⟩) cap u2) := HP0.out.below b2
        clear b2
        go_wp2
        go_end0
        exact ⟨rfl, G, HP2.out, HIS.out, HS.out⟩
      · have HL : Hid (∀ v, HP none w G (some ⟨g, 0, none⟩) cap v → Calls Try.prog 101 #[.slice (some ⟨g, 0, none⟩) G.length cap, .int .i64 k, .int .i64 p] v fun e u' => e = .returned (.bool true) ∧ Below v.heap.size v u') := fun v hv => by rw [← hl]; exact less_any hv k p hkG (by omega)
        have HSG : Hid (Near (swapL G p k) p) := HSW.out hl
        have HSS : Hid (SameC H (swapL G p k)) := HS.out.trans (same_swap (by omega) hkG)
        go_wp2_with fail
        refine (HL.out _ HP0.out).mono ?_
        rintro e u2 ⟨rfl, b2⟩
        have hp2 := HP0.out.below b2
        have HP2 : Hid (HP none w G (some ⟨g, 0, none⟩) cap u2) := hp2
        have hms2 := methSwap hp2.box
        clear b2 hms hml hp2
        go_wp2_with fail
        refine (swap_any HP2.out p k hpk hkG).mono ?_
        rintro e u3 ⟨rfl, hp3⟩
        have HP3 : Hid (HP none w (swapL G p k) (some ⟨g, 0, none⟩) cap u3) := hp3
        clear hp3
        go_wp2
        go_roundw
        case rel => exact ⟨p, swapL G p k, by omega, rfl, HP3.out, HSG.out, HSS.out⟩
        case measure => simp [intOf]; omega

end Go.Proofs.Ytpjfigjgamlcdaa
