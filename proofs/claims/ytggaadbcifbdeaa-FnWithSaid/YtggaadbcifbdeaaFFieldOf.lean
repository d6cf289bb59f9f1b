/- The contracts of FieldOf, the program's and the specification's. -/
import Derived.Test.YtggaadbcifbdeaaMsgEq
import Derived.Test.YtggaadbcifbdeaaFClone
import Derived.Test.YtggaadbcifbdeaaFBytes
namespace Go.Proofs.Ytggaadbcifbdeaa
open Go.RowKit

def fOf : List Fld → Int → Option (List UInt8)
  | [], _ => none
  | f :: r, n => if f.1 = n then some f.2 else fOf r n
theorem fOf_step (fs : List Fld) (k : Nat) (n : Int) (h : k < fs.length) : fOf (fs.drop k) n = if (at0 fs k).1 = n then some (at0 fs k).2 else fOf (fs.drop (k + 1)) n := by
  have e : at0 fs k = fs[k] := by simp [at0, List.getD_eq_getElem?_getD, h]
  rw [List.drop_eq_getElem_cons h, e]; rfl

set_option maxHeartbeats 800000 in
theorem iFieldOf_any (kd : Int) (ao : Option Addr) (cap : Nat) (fs : List Fld) (num : Int) (w : World) (hz : FldsAt w ao fs) (hn : fs.length ≤ 1048576) (hd : sumF fs ≤ 1048576) :
    Calls Try.prog 9 #[.agg #[.int .i64 kd, .slice ao fs.length cap], .int .i64 num] w fun e w' => e = .returned (.tuple #[.string ⟨((fOf fs num).getD []).toArray⟩, .bool (fOf fs num).isSome]) ∧ Below w.heap.size w w' := by
  rcases hz with rfl | ⟨b, off, rfl, hb, hcell⟩
  · go_enter Try.func9, Try.ntmps9
    go_wp2
    refine wp_loop_rounds 1 ?_
    rw [rounds_succ]
    go_wp2
    go_ret2
    exact ⟨rfl, by go_grown⟩
  · have HC : Hid (∀ i, i < fs.length → w.cell? ⟨b, off + i * 2, none⟩ = some (.int .i64 (at0 fs i).1) ∧ w.cell? ⟨b, off + i * 2 + 1, none⟩ = some (.string ⟨(at0 fs i).2.toArray⟩)) := hcell
    clear hcell
    go_enter Try.func9, Try.ntmps9
    go_wp2
    go_loopw [11] (fun i wr => ∃ k : Nat, k ≤ fs.length ∧ i = .int .i64 k ∧ fOf fs num = fOf (fs.drop k) num ∧ Below w.heap.size w wr) (fun i _ => fs.length - (intOf i).toNat)
    case atStart => exact ⟨0, Nat.zero_le _, rfl, rfl, by go_grown⟩
    case round =>
      obtain ⟨k, hk, rfl, hok, hbr⟩ := hrel
      by_cases hlt : k < fs.length
      · have c1 : wr.cell? ⟨b, off + k * 2, none⟩ = some (.int .i64 (at0 fs k).1) := (hbr.cell (p := ⟨b, off + k * 2, none⟩) hb).trans (HC.out k hlt).1
        have c2 : wr.cell? ⟨b, off + k * 2 + 1, none⟩ = some (.string ⟨(at0 fs k).2.toArray⟩) := (hbr.cell (p := ⟨b, off + k * 2 + 1, none⟩) hb).trans (HC.out k hlt).2
        have hki : (k : Int) < (fs.length : Int) := by omega
        have hst := fOf_step fs k num hlt
        have hdk := at0_le hlt hd
        obtain ⟨⟨n, s⟩, hf⟩ : ∃ f, at0 fs k = f := ⟨_, rfl⟩
        rw [hf] at c1 c2 hst hdk
        simp only at c1 c2 hst hdk
        clear hf
        have hl : s.length ≤ 1099511627776 := by omega
        by_cases hq : n = num
        · have HN : Hid (fOf fs num = some s) := by rw [Hid, hok, hst, if_pos hq]
          have hq' : (n == num) = true := by simpa using hq
          clear hst hok hq
          go_wp2_with fail
          refine (clone_any s _ hl).mono ?_
          rintro e w2 ⟨rfl, b2⟩
          have bb := (hbr.alloc hbr.size (.cells #[.int .i64 n, .string ⟨s.toArray⟩] 35)).trans (b2.mono (by have := hbr.size; simp; omega))
          clear b2
          go_wp2
          go_ret2
          exact ⟨str_ok (by rw [HN.out]; rfl) (by rw [HN.out]; rfl), bb⟩
        · have HN : Hid (fOf fs num = fOf (fs.drop (k + 1)) num) := by rw [Hid, hok, hst, if_neg hq]
          have hq' : (n == num) = false := by simpa using hq
          clear hst hok hq
          go_wp2
          go_roundw
          case rel => exact ⟨k + 1, by omega, by go_num, HN.out, hbr.alloc hbr.size _⟩
          case measure => simp [intOf]; omega
      · have hke : k = fs.length := by omega
        subst hke
        have HN : Hid (fOf fs num = none) := by rw [Hid, hok, List.drop_of_length_le (Nat.le_refl _)]; rfl
        clear hok
        go_wp2
        go_ret2
        exact ⟨str_ok (by rw [HN.out]; rfl) (by rw [HN.out]; rfl), hbr⟩


end Go.Proofs.Ytggaadbcifbdeaa
