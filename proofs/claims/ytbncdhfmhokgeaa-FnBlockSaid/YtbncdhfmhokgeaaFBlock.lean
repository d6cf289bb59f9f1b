/- The contract of the program's Block. -/
import Derived.Test.YtbncdhfmhokgeaaFPiece
namespace Go.Proofs.Ytbncdhfmhokgeaa
open Go.RowKit
set_option maxRecDepth 100000

set_option maxRecDepth 100000 in
set_option maxHeartbeats 1600000 in
theorem iBlock_any (ao : Option Addr) (cap : Nat) (rs : Recs) (w : World) (hz : TxtsAt w ao rs) (hn : rs.length ≤ 1099511627776) (hd : ∀ r ∈ rs, r.length ≤ 1099511627776) :
    Calls Try.prog 8 #[.slice ao rs.length cap] w fun e w' => e = .returned (.tuple #[.string ⟨(blockL rs).toArray⟩, .bool (blockOk rs)]) ∧ Below w.heap.size w w' := by
  by_cases h200 : (200 : Int) < (rs.length : Int)
  · have HN : Hid _ := blockOk_no1 (rs := rs) (by omega)
    go_enter Try.func8, Try.ntmps8
    go_wp2
    go_ret2
    exact ⟨str_ok (by rw [blockL_no HN.out]) HN.out.symm, Below.refl _ _⟩
  have h2 : rs.length ≤ 200 := by omega
  have HZ : Hid (TxtsAt w ao rs) := hz
  have HD : Hid (∀ r ∈ rs, r.length ≤ 1099511627776) := hd
  have HRR : Hid (recsOk rs = true → Calls Try.prog 22 #[.slice ao rs.length cap] w (LaidR w (laid rs))) := fun hok =>
    layRecords_any ao cap rs w hz h2 (fun r hr => (recsOk_mem hok r hr).2)
  have HLB : Hid (recsOk rs = true → (laid rs).length ≤ 600804) := fun hok => by
    have h1 := layR_bd (rs := rs) (fun r hr => (recsOk_mem hok r hr).2)
    rw [laid_len]; omega
  have HL0 : Hid (0 < (laid rs).length) := by rw [Hid, laid_len]; omega
  have HY : Hid (recsOk rs = true → nBlk (laid rs).length * 1014 ≤ 60000 → blockOk rs = true ∧ blockL rs = fileOf (laid rs)) := fun a b => by
    have := blockOk_of h2 a b
    exact ⟨this, blockL_yes this⟩
  have HB3 : Hid (60000 < nBlk (laid rs).length * 1014 → blockOk rs = false ∧ blockL rs = []) := fun h => by
    have := blockOk_no3 h
    exact ⟨this, blockL_no this⟩
  clear hz hd
  go_enter Try.func8, Try.ntmps8
  go_wp2
  go_loopw [12] (fun i wr => ∃ k : Nat, k ≤ rs.length ∧ i = .int .i64 k ∧ recsOk rs = recsOk (rs.drop k) ∧ w = wr) (fun i _ => rs.length - (intOf i).toNat)
  case atStart => exact ⟨0, Nat.zero_le _, rfl, rfl, rfl⟩
  case round =>
    obtain ⟨k, hk, rfl, hok, rfl⟩ := hrel
    by_cases hlt : k < rs.length
    · rcases HZ.out with h | ⟨b, off, rfl, hb, hcell⟩
      · rw [h] at hlt; simp at hlt
      have c1 := hcell k hlt
      have hki : (k : Int) < (rs.length : Int) := by omega
      have hst := recsOk_step rs k hlt
      have hrl := HD.out _ (nth_mem hlt)
      obtain ⟨r, hr⟩ : ∃ r, nth rs k = r := ⟨_, rfl⟩
      rw [hr] at c1 hst hrl
      cases hro : recOk r
      · have HN : Hid (blockOk rs = false) := blockOk_no2 (by rw [hok, hst, hro]; rfl)
        have HRO : Hid _ := hro
        clear hcell hok hst hr hro
        go_wp2_with fail
        refine (recordOk_any r _ (by omega)).mono ?_
        rintro e w2 ⟨rfl, hw2⟩
        rw [hw2, HRO.out]
        clear hw2
        go_wp2
        go_ret2
        exact ⟨str_ok (by rw [blockL_no HN.out]) HN.out.symm, Below.refl _ _⟩
      · have HN : Hid (recsOk rs = recsOk (rs.drop (k + 1))) := by rw [Hid, hok, hst, hro]; rfl
        have HRO : Hid _ := hro
        clear hcell hok hst hr hro
        go_wp2_with fail
        refine (recordOk_any r _ (by omega)).mono ?_
        rintro e w2 ⟨rfl, hw2⟩
        rw [hw2, HRO.out]
        clear hw2
        go_wp2
        go_roundw
        case rel => exact ⟨k + 1, by omega, by go_num, HN.out, by first | trivial | rfl⟩
        case measure => simp [intOf]; omega
    · have hke : k = rs.length := by omega
      subst hke
      have hok2 : recsOk rs = true := by rw [hok]; exact recsOk_end rs
      have hlb := HLB.out hok2
      have hl0 := HL0.out
      have HCALL : Hid (Calls Try.prog 22 #[.slice ao rs.length cap] w (LaidR w (laid rs))) := HRR.out hok2
      have HYY : Hid _ := HY.out hok2
      obtain ⟨L, hL⟩ : ∃ L, laid rs = L := ⟨_, rfl⟩
      rw [hL] at hlb hl0 HCALL HYY HB3
      clear hok hok2 HRR HY HLB HL0 hL
      go_wp2_with fail
      refine HCALL.out.mono ?_
      rintro e w2 ⟨g, c, rfl, o2, q2⟩
      have hcap : L.length ≤ c ∧ c ≤ maxLen := by
        rcases o2.2 with ⟨h, _⟩ | ⟨g', c', cur, hv, _, _, h1, h2, _⟩
        · cases h
        · obtain ⟨rfl, rfl⟩ : g = g' ∧ c = c' := by simpa using hv
          exact ⟨h1, h2⟩
      have hrow := row_of_own o2
      have HROW : Hid _ := hrow
      clear o2 hrow HCALL
      go_wp2_with fail
      refine (blocksFor_any L.length _ (by omega)).mono ?_
      rintro e w3 ⟨rfl, hw3⟩
      rw [hw3]
      clear hw3
      obtain ⟨M, hM⟩ : ∃ M, nBlk L.length = M := ⟨_, rfl⟩
      have hMb : M ≤ 700 := by rw [← hM]; unfold nBlk; omega
      rw [hM] at HYY HB3 ⊢
      clear hM
      by_cases h6 : (60000 : Int) < (M : Int) * 1014
      · obtain ⟨e1, e2⟩ := HB3.out (by omega)
        have E1 : Hid _ := e1
        have E2 : Hid _ := e2
        clear e1 e2
        go_wp2
        go_ret2
        exact ⟨str_ok (by rw [E2.out]) E1.out.symm, q2⟩
      · obtain ⟨e1, e2⟩ := HYY.out (by omega)
        have E1 : Hid _ := e1
        have E2 : Hid _ := e2
        clear e1 e2
        go_wp2_with fail
        refine (putPieces_any g c L _ HROW.out hl0 (by omega) hcap.1 hcap.2).mono ?_
        rintro e w4 ⟨rfl, b4⟩
        have q4 := next q2 b4
        clear b4
        obtain ⟨F, hF⟩ : ∃ F, fileOf L = F := ⟨_, rfl⟩
        rw [hF] at E2 ⊢
        clear hF
        go_wp2
        go_ret2
        exact ⟨str_ok (by rw [E2.out]) E1.out.symm, q4⟩

end Go.Proofs.Ytbncdhfmhokgeaa
