/- The contract of the program's walkRecords. -/
import Derived.Test.YtbncdhfmhokgeaaGreatDoorJFnBatch0a
import Derived.Test.YtbncdhfmhokgeaaGreatDoorJFnBatch1a
import Derived.WalkMore
namespace Go.Proofs.YtbncdhfmhokgeaaGreatDoor
open Go.RowKit
set_option maxRecDepth 100000

theorem callsH {P : Program} {f : FuncId} {args : Array Value} {w : World} {Q : Ending → World → Prop} (h : Hid (Calls P f args w Q)) : Calls P f args w Q := h.out
/-- what walkRecords hands back -/
def WalkR (w : World) (o : Option (Recs × Nat)) (e : Ending) (w' : World) : Prop :=
  match o with
  | some p => ∃ a c, e = .returned (.tuple #[.slice a p.1.length c, .int .i64 (p.2 : Nat)]) ∧ w'.ownsRow w.heap.size 9 1 (.slice a p.1.length c) p.1.length (scells p.1) ∧ Below w.heap.size w w'
  | none => ∃ v, e = .returned (.tuple #[v, .int .i64 (-1)]) ∧ Below w.heap.size w w'

set_option maxRecDepth 100000 in
set_option maxHeartbeats 3200000 in
theorem walkRecords_any (g c : Nat) (l : List UInt8) (w : World) (hr : Row w g l) (hl : l.length ≤ 100000) (hc : l.length ≤ c) (hc2 : c ≤ maxLen) :
    Calls Tryz.prog 110 #[.slice (some ⟨g, 0, none⟩) l.length c] w (WalkR w (walkR l (l.length + 1) 0 [])) := by
  unfold maxLen at hc2
  obtain ⟨i0, hi, hz0, hz1, hz2⟩ := info_parts infoS
  have hblt := hr.lt
  have HR : Hid (Row w g l) := hr
  obtain ⟨o, ho⟩ : ∃ o, walkR l (l.length + 1) 0 [] = o := ⟨_, rfl⟩
  rw [ho]
  have HO : Hid _ := ho
  clear hr ho
  go_enter Tryz.func110, Tryz.ntmps110
  go_wp2
  go_step3
  go_wp2
  go_step3
  go_wp2
  go_loopw [4, 5, 6] (fun s i n wr => ∃ (v : Value) (f a : Nat) (acc : Recs), v = s ∧ n = .int .i64 (-1) ∧ a ≤ l.length ∧ i = .int .i64 a ∧ walkR l f a acc = o ∧ l.length < a + f ∧ acc.length ≤ 200 ∧ wr.ownsRow w.heap.size 9 1 v acc.length (scells acc) ∧ Below w.heap.size w wr) (fun _ i _ _ => l.length - (intOf i).toNat)
  case atStart => exact ⟨_, l.length + 1, 0, [], rfl, rfl, Nat.zero_le _, rfl, HO.out, by omega, by simp, World.ownsRow_nil _ _ _ _, Below.refl _ _⟩
  case round =>
    obtain ⟨v, f, a, acc, hvs, rfl, ha, rfl, hw, hf, hac, hown, hbr⟩ := hrel
    subst hvs
    have hbs := hbr.size
    obtain ⟨va, vc, hv, -, -⟩ := txts_of_own hown
    subst hv
    have HOW : Hid (wr.ownsRow w.heap.size 9 1 (.slice va acc.length vc) acc.length (scells acc)) := hown
    have HLT : Hid (∀ j, (Value.slice va acc.length vc).ownBlock = some j → w.heap.size ≤ j) := fun j hj => (hown.lt j hj).1
    have HRW : Hid (Row wr g l) := HR.out.keep hbr hblt
    clear hown HO
    by_cases h4 : a + 4 ≤ l.length
    · have h4i : (a : Int) + 4 ≤ (l.length : Int) := by omega
      obtain ⟨f', rfl⟩ : ∃ f', f = f' + 1 := ⟨f - 1, by omega⟩
      obtain ⟨N, hN⟩ : ∃ N, num4 l a = N := ⟨_, rfl⟩
      have hNb : N < 4294967296 := by
        rw [← hN, num4]
        have := (l.getD a 0).toNat_lt
        have := (l.getD (a + 1) 0).toNat_lt
        have := (l.getD (a + 2) 0).toNat_lt
        have := (l.getD (a + 3) 0).toNat_lt
        omega
      have HCALL : Hid (Calls Tryz.prog 144 #[.slice (some ⟨g, 0, none⟩) l.length c, .int .i64 a] wr fun e w' => e = .returned (.int .i64 (N : Nat)) ∧ w' = wr) := by
        rw [← hN]; exact lengthAt_any g c a l wr HRW.out h4 hl hc
      by_cases h0 : N = 0
      · subst h0
        rw [walkR_end (by omega) hN] at hw
        subst hw
        clear hN
        go_wp2_with fail
        refine (callsH HCALL).mono ?_
        rintro e w2 ⟨rfl, hw2⟩
        rw [hw2]
        clear hw2 HCALL
        go_wp2
        (try rw [Exit.noGoto_ret])
        go_ret2
        exact ⟨va, vc, rfl, HOW.out, hbr⟩
      · have h0i : ((N : Int) == 0) = false := beq_eq_false_iff_ne.2 (by omega)
        by_cases hbad : 3000 < num4 l a ∨ l.length < a + 4 + num4 l a ∨ 200 ≤ acc.length
        · rw [walkR_bad (by omega) (by omega) hbad] at hw
          subst hw
          rw [hN] at hbad
          clear hN
          have walk3 := HCALL.out
          have HW3 : Hid (Calls Tryz.prog 144 #[.slice (some ⟨g, 0, none⟩) l.length c, .int .i64 a] wr fun e w' => e = .returned (.int .i64 (N : Nat)) ∧ w' = wr) := walk3
          clear walk3 HCALL
          by_cases h3 : (3000 : Int) < (N : Int)
          · clear hbad
            go_wp2_with fail
            refine (callsH HW3).mono ?_
            rintro e w2 ⟨rfl, hw2⟩
            rw [hw2]
            clear hw2 HW3
            go_wp2
            (try rw [Exit.noGoto_ret])
            go_ret2
            exact ⟨_, rfl, hbr⟩
          · by_cases h5 : (l.length : Int) - ((a : Int) + 4) < (N : Int)
            · clear hbad
              go_wp2_with fail
              refine (callsH HW3).mono ?_
              rintro e w2 ⟨rfl, hw2⟩
              rw [hw2]
              clear hw2 HW3
              go_wp2
              (try rw [Exit.noGoto_ret])
              go_ret2
              exact ⟨_, rfl, hbr⟩
            · have h200 : acc.length = 200 := by omega
              have h2i : ((acc.length : Int) == 200) = true := by rw [beq_iff_eq]; omega
              clear hbad
              go_wp2_with fail
              refine (callsH HW3).mono ?_
              rintro e w2 ⟨rfl, hw2⟩
              rw [hw2]
              clear hw2 HW3
              go_wp2
              (try rw [Exit.noGoto_ret])
              go_ret2
              exact ⟨_, rfl, hbr⟩
        · rw [walkR_go (by omega) (by omega) hbad] at hw
          rw [hN] at hbad hw
          have HW3 : Hid (Calls Tryz.prog 144 #[.slice (some ⟨g, 0, none⟩) l.length c, .int .i64 a] wr fun e w' => e = .returned (.int .i64 (N : Nat)) ∧ w' = wr) := HCALL.out
          have hN3 : ¬ (3000 : Int) < (N : Int) := by omega
          have hN5 : ¬ (l.length : Int) - ((a : Int) + 4) < (N : Int) := by omega
          have hacc : acc.length < 200 := by omega
          have hNl : a + 4 + N ≤ l.length := by omega
          have h2i : ((acc.length : Int) == 200) = false := beq_eq_false_iff_ne.2 (by omega)
          obtain ⟨r, hr⟩ : ∃ r, (l.drop (a + 4)).take N = r := ⟨_, rfl⟩
          have hrl : r.length = N := by rw [← hr, List.length_take, List.length_drop]; omega
          have hs := fun W => sl_lh (g := g) (o := 0) (n := l.length) (c := c) (x := (a : Int) + 4) (y := (a : Int) + 4 + (N : Int)) (a + 4) (a + 4 + N) (by omega) (by omega) (by omega) (by omega) (by omega) W
          rw [Nat.zero_add, Nat.add_sub_cancel_left] at hs
          have ht := text_at (w := wr) (g := g) (o := a + 4) (c := c - (a + 4)) (l := r) (fun j x hx => by
            have hj := (List.getElem?_eq_some_iff.1 hx).1
            refine HRW.out.cell _ x ?_
            rw [← hr, List.getElem?_take, if_pos (by omega), List.getElem?_drop] at hx
            exact hx)
          rw [hrl] at ht
          rw [hr] at hw
          have HWN : Hid _ := hw
          have hN1 : 1 ≤ N := by omega
          clear hr hrl hw hbad hN HCALL h0
          go_wp2_with fail
          refine (callsH HW3).mono ?_
          rintro e w2 ⟨rfl, hw2⟩
          rw [hw2]
          clear hw2 HW3
          go_wp2_with (at_builtin; refine wpList_append_own _ rfl (.tmp 38) (.tmp 46) 79 rfl w.heap.size 9 i0 (.string ⟨#[]⟩) 1 16 Tryz.underlying79 hi hz0 hz1 hz2 rfl (by decide) _ _ _ rfl (HOW.out.alloc _) ⟨wr.heap.size, 0, none⟩ 1 1 [.string ⟨r.toArray⟩] rfl rfl (one_txt (by simp [go_sem])) (one_oneS r) (by unfold maxLen; omega) (by omega) (by simp; omega) ?_; intro v5 w5 o5 g5 _)
          have q5 : Below w.heap.size w w5 := (hbr.alloc hbs _).grown g5 (by simp; omega) HLT.out
          have HR5 : Hid (w5.ownsRow w.heap.size 9 1 v5 (acc ++ [r]).length (scells (acc ++ [r]))) := by rw [Hid, scells_append, List.length_append]; exact o5
          clear o5 g5 HOW
          go_wp2
          go_roundw
          case rel => exact ⟨_, f', a + 4 + N, acc ++ [r], rfl, rfl, by omega, by go_num, HWN.out, by omega, by simp; omega, HR5.out, q5⟩
          case measure => simp [intOf]; omega
    · have h4i : ¬ (a : Int) + 4 ≤ (l.length : Int) := by omega
      rw [walkR_short (by omega)] at hw
      subst hw
      go_wp2
      (try rw [Exit.noGoto_ret])
      go_ret2
      exact ⟨_, rfl, hbr⟩

end Go.Proofs.YtbncdhfmhokgeaaGreatDoor
