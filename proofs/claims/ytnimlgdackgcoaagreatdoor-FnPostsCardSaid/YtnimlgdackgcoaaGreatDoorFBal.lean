/- The contract of the program's balancesOf. -/
import Derived.Test.YtnimlgdackgcoaaGreatDoorFAdd
import Derived.Test.YtnimlgdackgcoaaGreatDoorFLed
namespace Go.Proofs.YtnimlgdackgcoaaGreatDoor
open Go.RowKit Go.Maps
set_option maxRecDepth 100000

theorem mapF_made (w : World) : MapF (w.alloc (.map #[] 0)) w.heap.size 0 (look []) :=
  ⟨.map [], World.ownsMap_made w Tryz.prog 56 (plainElem (H := Unit) Tryz.prog 3), fun _ _ _ _ => ⟨rfl, rfl⟩, fun _ _ h => absurd rfl h⟩
theorem look_bd {ls : List Ln} (h : ∀ x ∈ ls, -1000000000000 ≤ x.2.2 ∧ x.2.2 ≤ 1000000000000) (a c : Int) : -1000000000000 ≤ (look ls a c).getD 0 ∧ (look ls a c).getD 0 ≤ 1000000000000 := by
  cases hl : look ls a c with
  | none => simp
  | some v => have := h _ (look_mem hl); simpa using this

set_option maxHeartbeats 1600000 in
theorem balances_any (ao : Option Addr) (cap : Nat) (ls : List Ln) (w : World) (hz : LinesAt w ao ls) (hn : ls.length ≤ 400) (hs : Srt ls) (hnz : NZ ls) (hbd : ∀ x ∈ ls, -1000000000000 ≤ x.2.2 ∧ x.2.2 ≤ 1000000000000) (hwf : ∀ x ∈ ls, lnBd x) :
    Calls Tryz.prog 25 #[.agg #[.slice ao ls.length cap]] w fun e w' => ∃ g, e = .returned (.map (some g)) ∧ w.heap.size ≤ g ∧ MapF w' g ls.length (look ls) ∧ Below w.heap.size w w' := by
  have hmm := @run_makeMap Tryz.prog
  obtain ⟨W, hW⟩ : ∃ W, W = (w.alloc (.cells #[.slice ao ls.length cap] 26)).alloc (.map #[] 0) := ⟨_, rfl⟩
  have bW : Below w.heap.size w W := by rw [hW]; go_grown
  have hWs : W.heap.size = w.heap.size + 2 := by rw [hW]; simp
  have k0 : W.cell? ⟨w.heap.size, 0, none⟩ = some (.slice ao ls.length cap) := by rw [hW]; simp [go_sem]
  have M0 : MapF W (w.heap.size + 1) 0 (look []) := by
    have := mapF_made (w.alloc (.cells #[.slice ao ls.length cap] 26))
    rw [hW]; simpa using this
  have HZ : Hid (LinesAt w ao ls) := hz
  have HS : Hid (Srt ls) := hs
  have HNZ : Hid (NZ ls) := hnz
  have HBD : Hid (∀ x ∈ ls, -1000000000000 ≤ x.2.2 ∧ x.2.2 ≤ 1000000000000) := hbd
  have HWF : Hid (∀ x ∈ ls, lnBd x) := hwf
  have HWB : Hid (Below w.heap.size w W) := bW
  have HM0 : Hid _ := M0
  clear hz hs hnz hbd hwf bW M0
  go_enter Tryz.func25, Tryz.ntmps25
  go_wp2
  rw [← hW]
  clear hW
  go_loopw [10] (fun i wr => ∃ k : Nat, k ≤ ls.length ∧ i = .int .i64 k ∧ MapF wr (w.heap.size + 1) k (look (ls.take k)) ∧ Below w.heap.size w wr) (fun i _ => ls.length - (intOf i).toNat)
  case atStart => exact ⟨0, Nat.zero_le _, rfl, HM0.out, HWB.out⟩
  case round =>
    obtain ⟨k, hk, rfl, hM, hbr⟩ := hrel
    have HM : Hid (MapF wr (w.heap.size + 1) k (look (ls.take k))) := hM
    have hsz : w.heap.size ≤ wr.heap.size := hbr.size
    have hMl : w.heap.size + 1 < wr.heap.size := hM.lt
    clear hM HM0
    by_cases hlt : k < ls.length
    · have hki : (k : Int) < (ls.length : Int) := by omega
      obtain ⟨b, off, rfl, hb2, c1, c2, c3⟩ := (HZ.out.below hbr).at hlt
      have hLT := look_take HS.out HNZ.out hlt
      have hbk := HBD.out _ (lnAt_mem hlt)
      have hwk := HWF.out _ (lnAt_mem hlt)
      obtain ⟨⟨x, y, z⟩, hx⟩ : ∃ x, lnAt ls k = x := ⟨_, rfl⟩
      rw [hx] at c1 c2 c3 hLT hbk hwk
      simp only at c1 c2 c3 hLT hbk
      have hlb := look_bd (ls := ls.take k) (fun q hq => HBD.out q (List.mem_of_mem_take hq)) x y
      have HLT : Hid _ := hLT
      have HWK : Hid (wf64 x ∧ wf64 y ∧ wf64 z) := hwk
      obtain ⟨V, hV⟩ : ∃ V, V = wr.alloc (.cells #[.int .i64 x, .int .i64 y, .int .i64 z] 49) := ⟨_, rfl⟩
      have bV : Below w.heap.size w V := by rw [hV]; exact hbr.alloc hsz _
      have hVs : V.heap.size = wr.heap.size + 1 := by rw [hV]; simp
      have MV : MapF V (w.heap.size + 1) k (look (ls.take k)) := by rw [hV]; exact HM.out.kept (World.grownBy_alloc wr _ none) (by simp)
      have v0 : V.cell? ⟨wr.heap.size, 0, none⟩ = some (.int .i64 x) := by rw [hV]; simp
      have v1 : V.cell? ⟨wr.heap.size, 1, none⟩ = some (.int .i64 y) := by rw [hV]; simp
      have v2 : V.cell? ⟨wr.heap.size, 2, none⟩ = some (.int .i64 z) := by rw [hV]; simp
      obtain ⟨t, ht⟩ : ∃ t, (look (ls.take k) x y).getD 0 = t := ⟨_, rfl⟩
      rw [ht] at hlb
      have HT : Hid _ := ht
      have HBV : Hid (Below w.heap.size w V) := bV
      have HMV : Hid (MapF V (w.heap.size + 1) k (look (ls.take k))) := MV
      have HVW : Hid (w.heap.size ≤ V.heap.size) := bV.size
      have HKP : Hid (∀ u, Below V.heap.size V u → u.cell? ⟨wr.heap.size, 0, none⟩ = some (.int .i64 x) ∧ u.cell? ⟨wr.heap.size, 1, none⟩ = some (.int .i64 y) ∧ u.cell? ⟨wr.heap.size, 2, none⟩ = some (.int .i64 z)) := fun u hu =>
        ⟨(hu.cell (p := ⟨wr.heap.size, 0, none⟩) (by show wr.heap.size < V.heap.size; omega)).trans v0, (hu.cell (p := ⟨wr.heap.size, 1, none⟩) (by show wr.heap.size < V.heap.size; omega)).trans v1, (hu.cell (p := ⟨wr.heap.size, 2, none⟩) (by show wr.heap.size < V.heap.size; omega)).trans v2⟩
      have HADD : Hid (∀ u, Below V.heap.size V u → Calls Tryz.prog 26 #[.map (some (w.heap.size + 1)), .agg #[.int .i64 x, .int .i64 y], .int .i64 z] u fun e u' => e = .returned (.tuple #[]) ∧ MapF u' (w.heap.size + 1) (k + 1) (look (ls.take (k + 1))) ∧ u.grownBy u' (some (w.heap.size + 1))) := fun u hu => by
        rw [HLT.out]
        exact add_any (w.heap.size + 1) k _ x y z t u (HMV.out.below hu) HWK.out.1 HWK.out.2.1 HT.out ⟨by omega, by omega⟩ (by unfold maxLen; omega)
      clear hLT hx ht hwk hbk MV bV hbr hlb
      go_upto_region 5 with fail
      rw [← hV]
      clear hV c1 c2 c3
      go_region_held3 (fun u => u.cell? ⟨wr.heap.size, 0, none⟩ = some (.int .i64 x) ∧ u.cell? ⟨wr.heap.size, 1, none⟩ = some (.int .i64 y) ∧ u.cell? ⟨wr.heap.size, 2, none⟩ = some (.int .i64 z)) (first | exact ⟨v0, v1, v2⟩ | exact HKP.out _ q1 | exact HKP2.out) ((first
        | (go_at_call 35; refine (iKey_any _ _ _ _).mono ?_; rintro e u1 ⟨rfl, b1⟩; have q1 : Below V.heap.size V u1 := (Below.refl _ _).drew.trans b1)
        | (go_at_call 26; refine (HADD.out _ q1).mono ?_; rintro e u2 ⟨rfl, m2, g2⟩; have HKP2 : Hid (u2.cell? ⟨wr.heap.size, 0, none⟩ = some (.int .i64 x) ∧ u2.cell? ⟨wr.heap.size, 1, none⟩ = some (.int .i64 y) ∧ u2.cell? ⟨wr.heap.size, 2, none⟩ = some (.int .i64 z)) := ⟨(g2.cell_far ⟨wr.heap.size, 0, none⟩ (by have := q1.size; show wr.heap.size < u1.heap.size; omega) (by simp; omega)).trans (HKP.out _ q1).1, (g2.cell_far ⟨wr.heap.size, 1, none⟩ (by have := q1.size; show wr.heap.size < u1.heap.size; omega) (by simp; omega)).trans (HKP.out _ q1).2.1, (g2.cell_far ⟨wr.heap.size, 2, none⟩ (by have := q1.size; show wr.heap.size < u1.heap.size; omega) (by simp; omega)).trans (HKP.out _ q1).2.2⟩)))
      all_goals
        have HM2 : Hid _ := m2
        have q2 : Below w.heap.size w u2 := (HBV.out.trans (q1.mono HVW.out)).grown g2 (HBV.out.trans (q1.mono HVW.out)).size (fun j hj => by cases hj; omega)
        clear m2 g2 q1 b1 HKP HADD HKP2
        go_wp2
        go_roundw
        case rel => exact ⟨k + 1, by omega, by go_num, HM2.out, q2⟩
        case measure => simp [intOf]; omega
    · have hke : k = ls.length := by omega
      subst hke
      have hki : ¬ (ls.length : Int) < (ls.length : Int) := by omega
      rw [List.take_length] at HM
      go_wp2
      go_ret
      exact ⟨w.heap.size + 1, rfl, by omega, HM.out, hbr⟩

end Go.Proofs.YtnimlgdackgcoaaGreatDoor
