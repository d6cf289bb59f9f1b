/- Proved: at every text (up to 1048576 bytes; a longer one passes by the law's own first test) the program's CardField answers as the specification's. No other conditions. -/
import Derived.Test.YtiiechnbionhnaaBase
import Derived.Test.YtiiechnbionhnaaFCard3
namespace Go.Proofs.Ytiiechnbionhnaa.fnExactCardField
open Go.ChangeShapes Go.WideShapes Go.ChangeAt Go.RowKit
open Go.ChangeMaps (open_string shut_string)

set_option maxHeartbeats 400000 in
theorem eqF_self (n : Int) (d : List UInt8) (w : World) :
    Calls Try.prog 23 #[.agg #[.int .i64 n, .string ⟨d.toArray⟩], .agg #[.int .i64 n, .string ⟨d.toArray⟩]] w fun e w' => e = .returned (.bool true) ∧ Below w.heap.size w w' := by
  go_enter Try.func23, Try.ntmps23
  go_wp2
  go_ret
  exact ⟨rfl, ((Below.refl _ _).alloc (Nat.le_refl _) _).alloc (by simp) _⟩

set_option maxHeartbeats 1600000 in
theorem walk (a0 : ByteArray) (w : World) (_w0 : a0.size ≤ maxLen) :
    Calls Try.prog 8 #[.string a0] w fun e w' => e = .returned (.bool true) ∧ Below w.heap.size w w' := by
  obtain ⟨l, rfl⟩ : ∃ l : List UInt8, a0 = ⟨l.toArray⟩ := ⟨_, ba_list a0⟩
  clear _w0
  by_cases hbig : (1048576 : Int) < (l.length : Int)
  · go_enter Try.func8, Try.ntmps8
    go_wp2
    go_ret
    exact ⟨rfl, Below.refl _ _⟩
  · have hl : l.length ≤ 1099511627776 := by omega
    go_enter Try.func8, Try.ntmps8
    obtain ⟨n, hn⟩ : ∃ n, cfNum l = n := ⟨_, rfl⟩
    obtain ⟨d, hd⟩ : ∃ d, cfData l = d := ⟨_, rfl⟩
    obtain ⟨o, ho⟩ : ∃ o, cardOk l = o := ⟨_, rfl⟩
    go_wp2_with fail
    refine (sCardField_any l _ hl).mono ?_
    rw [hn, hd, ho]
    rintro e u1 ⟨rfl, b1⟩
    have HB1 : Hid (Below w.heap.size w u1) := b1
    clear b1
    go_wp2_with fail
    refine (iCardField_any l _ hl).mono ?_
    rw [hn, hd, ho]
    clear hn hd ho
    rintro e u2 ⟨rfl, b2⟩
    obtain ⟨⟨d0, d1⟩, _, hb⟩ := boxF b2
    have HB2 : Hid (Below w.heap.size w u2) := next HB1.out hb
    have hlt : u1.heap.size < u2.heap.size := World.block_lt_of_cell? u2 _ d0
    have bx : Below u2.heap.size u2 (u2.alloc (.cells #[.int .i64 n, .string ⟨d.toArray⟩] 28)) := (Below.refl _ _).alloc (Nat.le_refl _) _
    have e0 := (bx.cell (p := ⟨u1.heap.size, 0, none⟩) hlt).trans d0
    have e1 := (bx.cell (p := ⟨u1.heap.size, 1, none⟩) hlt).trans d1
    have HBx : Hid _ := bx
    clear b2 hb bx
    go_wp2_with fail
    refine (eqF_self n d _).mono ?_
    rintro e u3 ⟨rfl, b3⟩
    go_wp2
    go_ret
    exact ⟨rfl, next (next HB2.out HBx.out) b3⟩

set_option maxRecDepth 100000 in
theorem lifted (os : Os) (started : os.Started) (H : Type) (enc : TypeId × Value → H) :
    ReturnsInHanded {} Try.checked os 8 .any (Rows.fnExactCardFieldSpec.pre6 enc Try.prog Try.f8 Rows.fnExactCardFieldRow.domain false) (Rows.fnExactCardFieldSpec.post enc Try.prog Try.f8 false true false false) := by
  refine returnsInHanded_of_change (C := Try.checked) own started (by kernel_rfl) Try.func8
    (ChangeSpec.witness6 (enc := enc) (C := Try.checked) false ⟨#[], #[.string ByteArray.empty], []⟩ 8 (by kernel_rfl) (by kernel_rfl) (by kernel_rfl) (by kernel_rfl)) ?_
  intro W base args ds gs before hval0 hW hcnd _
  have hval : ∀ (j : Nat) t v, Try.f8.params[j]? = some t → args[j]? = some v → Value.okWide Try.prog W .any base t v := hval0
  have hW' := hW
  obtain ⟨p, q, hA0, hV, rfl, hfz, hnd⟩ := hW
  have hA : DataW.TrodAll enc Try.prog W 0 (fun _ => true) true Try.f8.params.toList args.toList ds p := hA0
  rw [Try.params8] at hA hval
  obtain ⟨v0, vs0, d0, ds0, p0, q0, hargs, rfl, rfl, h0, r0⟩ := trodAll_cons hA
  obtain ⟨rfl, rfl, rfl⟩ := trodAll_nil r0
  obtain rfl : args = #[v0] := by cases args; simp_all
  obtain ⟨rfl, rfl⟩ := trodVars_none hV
  obtain ⟨a0, rfl, rfl, rfl, w0⟩ := open_string Try.underlying9 (hval 0 9 v0 rfl rfl) h0
  clear hA0 hval0
  refine (walk a0 W w0).mono fun e W' ⟨he, bel⟩ => ?_
  subst he
  exact ⟨_, rfl, _, _, _, [], _, [], hW', trodAll_mk1 (shut_bool Try.underlying4 _), (trodAll_cons_mk (shut_string Try.underlying9 w0) trodAll_mk0), rfl, bel.frame _, fun h => by cases h⟩

theorem proved : Rows.FnExactCardFieldSaid :=
  OpenClaim.holds_of_wide 8 Try.f8 rfl rfl rfl rfl rfl rfl rfl ⟨rfl, rfl, rfl, rfl, rfl⟩ rfl rfl rfl rfl rfl (by kernel_rfl) Try.func8 (by kernel_rfl)
    (of_decide_eq_true (by kernel_rfl)) (by unfold Func.isWrapper; first | (rw [if_pos (by decide +kernel)]; kernel_rfl) | (rw [if_neg (by decide +kernel)]; exact ⟨rfl, rfl⟩))
    (fun os started H enc _ => lifted os started H enc)
end Go.Proofs.Ytiiechnbionhnaa.fnExactCardField
