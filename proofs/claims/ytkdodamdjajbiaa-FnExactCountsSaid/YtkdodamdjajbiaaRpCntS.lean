/- Counts: the specification's. -/
import Derived.Test.YtkdodamdjajbiaaRpCnt
namespace Go.Proofs.Ytkdodamdjajbiaa
open Go.RowKit
set_option maxRecDepth 100000

set_option maxHeartbeats 12800000 in
theorem sCounts_any (b : Bk) (p : Bp) (w : World) (hx : BookAt w b p) (hn : bkSm b) :
    Calls Try.prog 14 #[bkv b p] w fun e w' => e = .returned (cnt8 b.cs) ∧ Below w.heap.size w w' := by
  obtain ⟨W, hW⟩ : ∃ W, W = ((w.alloc (.cells #[.int .i64 b.today, .slice p.o b.off.length p.oc, .slice p.a b.az.length p.ac, .slice p.c b.cs.length p.cc, .slice p.l b.ls.length p.lc, .slice p.g b.log.length p.gc] 39)).alloc (.cells #[.int .i64 0, .int .i64 0, .int .i64 0, .int .i64 0, .int .i64 0, .int .i64 0, .int .i64 0, .int .i64 0] 43)).alloc (.cells #[.int .i64 0, .int .i64 0, .int .i64 0, .int .i64 0, .int .i64 0, .int .i64 0, .int .i64 0, .int .i64 0] 43) := ⟨_, rfl⟩
  have hs1 : (w.alloc (.cells #[.int .i64 b.today, .slice p.o b.off.length p.oc, .slice p.a b.az.length p.ac, .slice p.c b.cs.length p.cc, .slice p.l b.ls.length p.lc, .slice p.g b.log.length p.gc] 39)).heap.size = w.heap.size + 1 := by simp
  have hs2 : ((w.alloc (.cells #[.int .i64 b.today, .slice p.o b.off.length p.oc, .slice p.a b.az.length p.ac, .slice p.c b.cs.length p.cc, .slice p.l b.ls.length p.lc, .slice p.g b.log.length p.gc] 39)).alloc (.cells #[.int .i64 0, .int .i64 0, .int .i64 0, .int .i64 0, .int .i64 0, .int .i64 0, .int .i64 0, .int .i64 0] 43)).heap.size = w.heap.size + 1 + 1 := by simp
  have bW : Below w.heap.size w W := by rw [hW]; go_grown
  have HS : Hid (S6 w.heap.size b p W) := by rw [Hid, hW]; exact ((S6.new w b p _).below ((Below.refl _ _).alloc (Nat.le_refl _) _)).below ((Below.refl _ _).alloc (Nat.le_refl _) _)
  have HA1 : Hid (A8 (w.heap.size + 1) (fun _ => 0) W) := by
    rw [Hid, hW, ← hs1]; exact (A8.new _ _).below ((Below.refl _ _).alloc (Nat.le_refl _) _)
  have HA2 : Hid (A8 (w.heap.size + 1 + 1) (fun _ => 0) W) := by
    rw [Hid, hW, ← hs2]; exact A8.new _ _
  have HX : Hid (CasesAt w p.c b.cs) := hx.cs
  have hcn := hn.2.2.1
  have HW : Hid _ := hW
  have HBW : Hid (Below w.heap.size w W) := bW
  clear hx hn hW bW hs1 hs2
  obtain ⟨td, fo, az, cs, ls, lg⟩ := b
  obtain ⟨o, oc, a, ac, c, cc, l, lc, g, gc⟩ := p
  unfold bkv
  simp only at HW HX hcn HS ⊢
  obtain ⟨x0, x1, x2, x3, x4, x5⟩ := HS.out
  simp only at x0 x1 x2 x3 x4 x5
  go_enter Try.func14, Try.ntmps14
  go_upto_region 2 with fail
  rw [← HW.out]
  clear HW
  go_wp2_with fail
  go_loopw [4] (fun i wr => ∃ k : Nat, k ≤ cs.length ∧ i = .int .i64 (k : Int) ∧ S6 w.heap.size ⟨td, fo, az, cs, ls, lg⟩ ⟨o, oc, a, ac, c, cc, l, lc, g, gc⟩ wr ∧ A8 (w.heap.size + 1) (fun _ => 0) wr ∧ A8 (w.heap.size + 1 + 1) (cntF (cs.take k)) wr ∧ Below w.heap.size w wr) (fun i _ => cs.length - (intOf i).toNat)
  case atStart => exact ⟨0, Nat.zero_le _, rfl, HS.out, HA1.out, HA2.out, HBW.out⟩
  case round =>
    obtain ⟨k, hk, rfl, hs6, ha1, ha2, hbr⟩ := hrel
    have HBR : Hid (Below w.heap.size w wr) := hbr
    have HS6 : Hid _ := hs6
    have H1 : Hid _ := ha1
    have H2 : Hid (A8 (w.heap.size + 1 + 1) (cntF (cs.take k)) wr) := ha2
    clear x0 x1 x2 x3 x4 x5
    obtain ⟨x0, x1, x2, x3, x4, x5⟩ := hs6
    simp only at x0 x1 x2 x3 x4 x5
    by_cases hlt : k < cs.length
    · have hki : (k : Int) < (cs.length : Int) := by omega
      obtain ⟨cb, off, rfl, hb2, hcb⟩ := (HX.out.below hbr).at hlt
      have HIN : Hid _ := @cntF_in cs k hlt
      have HOUT : Hid _ := @cntF_out cs k hlt
      obtain ⟨⟨iss, acq, cur, am, st, rsn, cl, bk, fee, cop, sta, due⟩, hc⟩ : ∃ f, csAt cs k = f := ⟨_, rfl⟩
      rw [hc] at hcb HIN HOUT
      obtain ⟨y0, y1, y2, y3, y4, y5, y6, y7, y8, y9, y10, y11⟩ := hcb
      simp only at y0 y1 y2 y3 y4 y5 y6 y7 y8 y9 y10 y11 HIN HOUT
      have hbd : ∀ j, 0 ≤ cntF (cs.take k) j ∧ cntF (cs.take k) j ≤ 1048576 := fun j => by
        have := cntF_bd (cs.take k) j
        have e : (cs.take k).length ≤ 1048576 := by simp; omega
        omega
      clear hc hbr hb2 ha1 ha2
      by_cases hin : 0 ≤ st ∧ st ≤ 7
      · have hst : st = 0 ∨ st = 1 ∨ st = 2 ∨ st = 3 ∨ st = 4 ∨ st = 5 ∨ st = 6 ∨ st = 7 := by omega
        obtain ⟨t0, t1⟩ := hin
        obtain ⟨j, rfl⟩ : ∃ j : Nat, st = (j : Int) := ⟨st.toNat, by omega⟩
        have hj7 : j ≤ 7 := by omega
        have HR : Hid _ := HIN.out j rfl
        obtain ⟨n, hn⟩ : ∃ n, cntF (cs.take k) j = n := ⟨_, rfl⟩
        have hnb := hbd j
        obtain ⟨hcj, hzj⟩ := H2.out.at j hj7
        rw [hn] at HR hnb hcj
        have hok : stOk (j : Int) = true := by simp [stOk]; omega
        have hwr : IntKind.i64.wrap (n + 1) = n + 1 := by rw [IntKind.wrap_i64]; omega
        have HQ2 : Hid (A8 (w.heap.size + 1 + 1) (cntF (cs.take (k + 1))) (wr.setCell ⟨w.heap.size + 1 + 1, j, none⟩ (.int .i64 (n + 1)))) := by
          rw [Hid, HR.out]; exact H2.out.set j hj7 (n + 1)
        have HQ1 : Hid (A8 (w.heap.size + 1) (fun _ => 0) (wr.setCell ⟨w.heap.size + 1 + 1, j, none⟩ (.int .i64 (n + 1)))) := H1.out.under (Below.setCell (p := ⟨w.heap.size + 1 + 1, j, none⟩) (Below.refl (w.heap.size + 1 + 1) wr) (Nat.le_refl _) _) (by omega)
        have HQS : Hid _ := @S6.set _ (w.heap.size + 1 + 1) j _ _ _ HS6.out (by omega) (.int .i64 (n + 1))
        have HQB : Hid (Below w.heap.size w (wr.setCell ⟨w.heap.size + 1 + 1, j, none⟩ (.int .i64 (n + 1)))) := Below.setCell (p := ⟨w.heap.size + 1 + 1, j, none⟩) HBR.out (by simp; omega) _
        clear hn hbd HIN HOUT hst HR H1 H2 HS6 HBR
        go_wp2_with (go_at_call 44; refine (sIn7_any _ _).mono ?_; rintro e w' ⟨rfl, rfl⟩; rw [hok])
        clear y0 y1 y2 y3 y5 y6 y7 y8 y9 y10 y11 x0 x1 x2 x4 x5 hok
        go_region_with (fail)
        all_goals
          go_wp2
          go_roundw
          case rel => exact ⟨k + 1, by omega, by go_num, HQS.out.below ((Below.refl _ _).drew), HQ1.out.below ((Below.refl _ _).drew), HQ2.out.below ((Below.refl _ _).drew), next HQB.out ((Below.refl _ _).drew)⟩
          case measure => simp [intOf]; omega
      · have HR : Hid _ := fun i => HOUT.out (by omega) i
        have hok : stOk st = false := by simp [stOk]; omega
        have HQ2 : Hid (A8 (w.heap.size + 1 + 1) (cntF (cs.take (k + 1))) wr) := H2.out.same HR.out
        clear hbd HIN HOUT
        go_wp2_with (go_at_call 44; refine (sIn7_any _ _).mono ?_; rintro e w' ⟨rfl, rfl⟩; rw [hok])
        go_roundw
        case rel => exact ⟨k + 1, by omega, by go_num, HS6.out, H1.out, HQ2.out, HBR.out⟩
        case measure => simp [intOf]; omega
    · have hke : k = cs.length := by omega
      subst hke
      have hki : ¬ (cs.length : Int) < (cs.length : Int) := by omega
      rw [List.take_length] at ha2
      obtain ⟨a0, a1, a2, a3, a4, a5, a6, a7, q0, q1, q2, q3, q4, q5, q6, q7⟩ := ha1
      obtain ⟨c0, c1, c2, c3, c4, c5, c6, c7, z0, z1, z2, z3, z4, z5, z6, z7⟩ := ha2
      clear hbr H1 H2 HS6
      go_wp2
      refine bodyPost_ret (by simp [results, Try.results14, go_sem, a0, a1, a2, a3, a4, a5, a6, a7]; try rfl) rfl ?_
      exact ⟨rfl, (((((((HBR.out.setCell (by simp) _).setCell (by simp) _).setCell (by simp) _).setCell (by simp) _).setCell (by simp) _).setCell (by simp) _).setCell (by simp) _).setCell (by simp) _⟩

end Go.Proofs.Ytkdodamdjajbiaa
