/- The contract of the specification's Busiest. -/
import Derived.Test.YtkdodamdjajbiaaBsP
import Derived.Test.YtkdodamdjajbiaaBkTo
import Derived.Deep.DeepCutAuto
namespace Go.Proofs.Ytkdodamdjajbiaa
open Go.RowKit
set_option maxRecDepth 100000

theorem one_intB {a b : Int} (h : a = b) : Value.int .i64 a = Value.int .i64 b := by rw [h]
set_option maxHeartbeats 12800000 in
theorem sBusiest_any (b : Bk) (p : Bp) (w : World) (hx : BookAt w b p) (hn : bkSm b) :
    Calls Try.prog 21 #[bkv b p] w fun e w' => ∃ bv rv : Int, e = .returned (.int .i64 rv) ∧ Bst (cntA b.cs) (fun x => 1 ≤ x ∧ x < 10000) bv rv ∧ Below w.heap.size w w' := by
  obtain ⟨W, hW⟩ : ∃ W, W = w.alloc (.cells #[.int .i64 b.today, .slice p.o b.off.length p.oc, .slice p.a b.az.length p.ac, .slice p.c b.cs.length p.cc, .slice p.l b.ls.length p.lc, .slice p.g b.log.length p.gc] 39) := ⟨_, rfl⟩
  have bW : Below w.heap.size w W := by rw [hW]; exact (Below.refl _ _).alloc (Nat.le_refl _) _
  have s6 : S6 w.heap.size b p W := by rw [hW]; exact S6.new w b p _
  have HX : Hid (CasesAt W p.c b.cs) := hx.cs.below bW
  have hcn := hn.2.2.1
  have HW : Hid _ := hW
  have HBW : Hid (Below w.heap.size w W) := bW
  clear hx hn hW bW
  obtain ⟨td, fo, az, cs, ls, lg⟩ := b
  obtain ⟨o, oc, a, ac, c, cc, l, lc, g, gc⟩ := p
  unfold bkv
  simp only at HW HX hcn s6 ⊢
  obtain ⟨x0, x1, x2, x3, x4, x5⟩ := s6
  simp only at x0 x1 x2 x3 x4 x5
  go_enter Try.func21, Try.ntmps21
  go_upto_region 1 with fail
  rw [← HW.out]
  clear HW
  go_wp2_with fail
  go_loopw [3, 4, 5] (fun bs r i wr => ∃ (k : Nat) (bv rv : Int), k ≤ 9999 ∧ bs = .int .i64 bv ∧ r = .int .i64 rv ∧ i = .int .i64 ((k : Int) + 1) ∧ Bst (cntA cs) (fun x => 1 ≤ x ∧ x < (k : Int) + 1) bv rv ∧ wr = W) (fun _ _ i _ => 10000 - (intOf i).toNat)
  case atStart => exact ⟨0, 0, 0, by omega, rfl, rfl, rfl, bst_none _ (fun a h => by omega), rfl⟩
  case round =>
    obtain ⟨k, bv, rv, hk, rfl, rfl, rfl, hbst, hwr⟩ := hrel
    subst hwr
    have HBST : Hid _ := hbst
    clear hbst
    by_cases hlt : k < 9999
    · have hki : (k : Int) + 1 ≤ 9999 := by omega
      obtain ⟨A, hA⟩ : ∃ A : Int, (k : Int) + 1 = A := ⟨_, rfl⟩
      have HAE : Hid _ := hA
      rw [hA] at hki ⊢
      have hA1 : 1 ≤ A := by omega
      rw [hA] at HBST
      clear hA
      go_upto_region 6 with fail
      go_wp2_with fail
      have HT : Hid (∀ x : Int, (1 ≤ x ∧ x < (k : Int) + 1 + 1) ↔ (1 ≤ x ∧ x < A) ∨ x = A) := fun x => by have := HAE.out; omega
      have HX1 : Hid (∀ x : Int, (1 ≤ x ∧ x < A) → x ≤ A) := fun x h => by omega
      have HBIN : Hid (bv < cntA cs A → Bst (cntA cs) (fun x => 1 ≤ x ∧ x < (k : Int) + 1 + 1) (cntA cs A) A) := fun h => bst_in HBST.out HX1.out HT.out h
      have HBOUT : Hid (¬ bv < cntA cs A → Bst (cntA cs) (fun x => 1 ≤ x ∧ x < (k : Int) + 1 + 1) bv rv) := fun h => bst_out HBST.out HX1.out HT.out h
      clear HT HX1 HBST
      go_loopw [6, 7] (fun n i wq => ∃ j : Nat, j ≤ cs.length ∧ n = .int .i64 (cntA (cs.take j) A) ∧ i = .int .i64 (j : Int) ∧ wq = wr) (fun _ i _ => cs.length - (intOf i).toNat)
      case atStart => exact ⟨0, Nat.zero_le _, rfl, rfl, rfl⟩
      case round =>
        obtain ⟨j, hj, rfl, rfl, hwq⟩ := hrel
        subst hwq
        by_cases hjl : j < cs.length
        · have hji : (j : Int) < (cs.length : Int) := by omega
          obtain ⟨cb, off, rfl, hb2, hcb⟩ := HX.out.at hjl
          have HIN : Hid _ := @cntA_in cs A j hjl
          have HOUT : Hid _ := @cntA_out cs A j hjl
          have hbd : 0 ≤ cntA (cs.take j) A ∧ cntA (cs.take j) A ≤ 1048576 := by
            have := cntA_bd (cs.take j) A
            have e : (cs.take j).length ≤ 1048576 := by simp; omega
            omega
          obtain ⟨⟨iss, acq, cur, am, st, rsn, cl, bk, fee, cop, sta, due⟩, hc⟩ : ∃ f, csAt cs j = f := ⟨_, rfl⟩
          rw [hc] at hcb HIN HOUT
          obtain ⟨y0, y1, y2, y3, y4, y5, y6, y7, y8, y9, y10, y11⟩ := hcb
          simp only at y0 y1 y2 y3 y4 y5 y6 y7 y8 y9 y10 y11 HIN HOUT
          obtain ⟨n, hn⟩ : ∃ n, cntA (cs.take j) A = n := ⟨_, rfl⟩
          rw [hn] at HIN HOUT hbd ⊢
          have hwr : IntKind.i64.wrap (n + 1) = n + 1 := by rw [IntKind.wrap_i64]; omega
          clear hc hn hb2
          by_cases h1 : iss = A
          · have h1' : (iss == A) = true := by simpa using h1
            have HV : Hid _ := HIN.out (.inl h1)
            clear HIN HOUT h1
            go_wp2
            go_roundw
            case rel => exact ⟨j + 1, by omega, by rw [HV.out], by go_num, trivial⟩
            case measure => simp [intOf]; omega
          · have h1' : (iss == A) = false := by simpa using h1
            by_cases h2 : acq = A
            · have h2' : (acq == A) = true := by simpa using h2
              have HV : Hid _ := HIN.out (.inr h2)
              clear HIN HOUT h1 h2
              go_wp2
              go_roundw
              case rel => exact ⟨j + 1, by omega, by rw [HV.out], by go_num, trivial⟩
              case measure => simp [intOf]; omega
            · have h2' : (acq == A) = false := by simpa using h2
              have HV : Hid _ := HOUT.out h1 h2
              clear HIN HOUT h1 h2
              go_wp2
              go_roundw
              case rel => exact ⟨j + 1, by omega, by rw [HV.out], by go_num, trivial⟩
              case measure => simp [intOf]; omega
        · have hje : j = cs.length := by omega
          subst hje
          have hji : ¬ (cs.length : Int) < (cs.length : Int) := by omega
          rw [List.take_length]
          obtain ⟨n, hn⟩ : ∃ n, cntA cs A = n := ⟨_, rfl⟩
          rw [hn] at HBIN HBOUT ⊢
          clear hn
          have hwr : IntKind.i64.wrap (A + 1) = A + 1 := by rw [IntKind.wrap_i64]; omega
          by_cases hb : bv < n
          · have HV : Hid _ := HBIN.out hb
            clear HBIN HBOUT
            go_wp2
            go_roundw
            case rel => exact ⟨k + 1, n, A, by omega, rfl, rfl, by have := HAE.out; go_num, by rw [Int.natCast_add]; exact HV.out, trivial⟩
            case measure => have := HAE.out; simp [intOf]; omega
          · have HV : Hid _ := HBOUT.out hb
            clear HBIN HBOUT
            go_wp2
            go_roundw
            case rel => exact ⟨k + 1, bv, rv, by omega, rfl, rfl, by have := HAE.out; go_num, by rw [Int.natCast_add]; exact HV.out, trivial⟩
            case measure => have := HAE.out; simp [intOf]; omega
    · have hke : k = 9999 := by omega
      subst hke
      go_wp2
      go_ret
      exact ⟨bv, rv, rfl, HBST.out, HBW.out⟩

end Go.Proofs.Ytkdodamdjajbiaa
