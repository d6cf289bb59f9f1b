/- What is drawn as a list of records, whatever the bytes. -/
import Derived.Test.YtbncdhfmhokgeaaGreatDoorJFnBatch2a
import Derived.Test.YtbncdhfmhokgeaaGreatDoorJFnBatch1a
namespace Go.Proofs.YtbncdhfmhokgeaaGreatDoor
open Go.RowKit
set_option maxRecDepth 100000

theorem curS_app {B : Nat} {g : Nat} {w w4 : World} {o : Obj} {row : Option Nat} (c3 : Cursor B w g) (hg4 : (w.alloc o).grownBy w4 row) (h : ∀ j, row = some j → B ≤ j) : Cursor B w4 g :=
  cursor_keep c3 (((Below.refl _ w).alloc (cursor_bd c3).2 _).grown hg4 (by have := (cursor_bd c3).2; simp; omega) h)
theorem ownS_ne {w : World} {base g n : Nat} {v : Value} {xs : List Value} (h : w.ownsRow base 9 1 v n xs) (hg : g < base) : v.ownBlock = none ∨ v.ownBlock ≠ some g := by
  right; intro e; have := (h.lt g e).1; omega
theorem memS_snoc {rs : Recs} {x : List UInt8} {m : Nat} (h : ∀ f ∈ rs, f.length ≤ m) (hx : x.length ≤ m) : ∀ f ∈ rs ++ [x], f.length ≤ m := by
  intro f hf
  rcases List.mem_append.1 hf with h1 | h1
  · exact h f h1
  · obtain rfl : f = x := by simpa using h1
    exact hx
def lenS : Value → Nat
  | .slice _ n _ => n
  | _ => 0
/-- what such a draw hands back -/
def DrewS (B g : Nat) (w : World) (e : Ending) (w' : World) : Prop :=
  ∃ (ao : Option Addr) (c : Nat) (rs : Recs), e = .returned (.slice ao rs.length c) ∧ rs.length ≤ 210 ∧ (∀ r ∈ rs, r.length ≤ 3001) ∧ TxtsAt w' ao rs ∧ Cursor B w' g ∧ w.grownBy w' (some g)
theorem drewS_end {B g base : Nat} {w w' : World} {v : Value} {rs : Recs} (ho : w'.ownsRow base 9 1 v rs.length (scells rs)) (hn : rs.length ≤ 210) (hd : ∀ f ∈ rs, f.length ≤ 3001) (hc : Cursor B w' g) (hg : w.grownBy w' (some g)) : DrewS B g w (.returned v) w' := by
  obtain ⟨ao, c, hv, hf, -⟩ := txts_of_own ho
  subst hv
  exact ⟨ao, c, rs, rfl, hn, hd, hf, hc, hg⟩

set_option maxHeartbeats 6400000 in
theorem recsD_any {B : Nat} (g : Nat) (w : World) (hc : Cursor B w g) :
    Calls Tryz.prog 71 #[.pointer (some ⟨g, 0, none⟩)] w (DrewS B g w) := by
  obtain ⟨i0, hi, hz0, hz1, hz2⟩ := info_parts infoS
  have cb := cursor_bd hc
  have own0 : (w.alloc (.cells #[] 9)).ownsRow w.heap.size 9 1 (.slice (some ⟨w.heap.size, 0, none⟩) 0 0) 0 [] := World.ownsRow_lit w #[] 0 (Nat.le_refl _) (by unfold maxLen; omega) rfl
  have c0 := cursor_alloc hc (.cells #[] 9)
  go_enter Tryz.func71, Tryz.ntmps71
  go_wp2_with fail
  refine (below_any _ _ _ c0 (by omega)).mono ?_
  rintro e w1 ⟨m, rfl, m0, m1, c1, g1⟩
  have hm5 := m1 (by omega)
  have o1 := own0.kept g1 (ownS_ne own0 (by omega))
  have b1 : w.grownBy w1 (some g) := (grown_alloc w _ _).trans g1
  obtain ⟨M, rfl⟩ := Int.eq_ofNat_of_zero_le m0
  clear own0 c0 hc g1 m1
  go_wp2
  go_loopw [3, 5] (fun s i wr => ∃ (v : Value) (k : Nat) (rs : Recs), v = s ∧ k ≤ M ∧ i = .int .i64 k ∧ rs.length ≤ k ∧ (∀ f ∈ rs, f.length ≤ 3001) ∧ wr.ownsRow w.heap.size 9 1 v rs.length (scells rs) ∧ Cursor B wr g ∧ w.grownBy wr (some g)) (fun _ i _ => M - (intOf i).toNat)
  case atStart => exact ⟨_, 0, [], rfl, Nat.zero_le _, rfl, Nat.le_refl _, (fun f hf => by cases hf), o1, c1, b1⟩
  case round =>
    obtain ⟨v, k, rs, hvs, hk, rfl, hfl, hmem, ho, hc, hbr⟩ := hrel
    subst hvs
    obtain ⟨va, vc, hv, -, -⟩ := txts_of_own ho
    subst hv
    have HM : Hid (∀ f ∈ rs, f.length ≤ 3001) := hmem
    clear o1 c1 b1 hmem
    by_cases hlt : k < M
    · have hki : (k : Int) < (M : Int) := by omega
      go_wp2_with fail
      refine (below_any _ _ _ hc (by omega)).mono ?_
      rintro e w3 ⟨z, rfl, z0, z1, c3, g3⟩
      have hz4 := z1 (by omega)
      have o3 := ho.kept g3 (ownS_ne ho (by omega))
      have b3 := hbr.trans g3
      clear ho hc hbr g3 z1
      go_wp2_with fail
      refine (once_any _ _ _ c3 (by omega)).mono ?_
      rintro e w4 ⟨q1, rfl, c4, g4⟩
      have o4 := o3.kept g4 (ownS_ne o3 (by omega))
      have b4 := b3.trans g4
      obtain ⟨Z, hZ⟩ := Int.eq_ofNat_of_zero_le z0
      subst hZ
      have hZb : Z < 40 := by omega
      clear o3 c3 b3 g4 z0 hz4
      cases q1
      · go_wp2_with fail
        refine (once_any _ _ _ c4 (by omega)).mono ?_
        rintro e w6 ⟨q2, rfl, c6, g6⟩
        have o6 := o4.kept g6 (ownS_ne o4 (by omega))
        have b6 := b4.trans g6
        clear o4 c4 b4 g6
        cases q2
        · go_wp2_with fail
          rw [show (1 : Int) + (Z : Int) = ((1 + Z : Nat) : Int) by omega]
          refine (textG_any _ (1 + Z) _ c6 (by omega)).mono ?_
          rintro e w8 ⟨s, rfl, hsl, c8, g8⟩
          have o8 := o6.kept g8 (ownS_ne o6 (by omega))
          have b8 := b6.trans g8
          have hs3 : s.length ≤ 3001 := by omega
          have hbs : w.heap.size ≤ w8.heap.size := b8.size
          clear o6 c6 b6 g8 hsl
          go_wp2_with (at_builtin; refine wpList_append_own _ rfl (.tmp 28) (.tmp 32) 79 rfl w.heap.size 9 i0 (.string ⟨#[]⟩) 1 16 Tryz.underlying79 hi hz0 hz1 hz2 rfl (by decide) _ _ _ rfl (o8.alloc _) ⟨w8.heap.size, 0, none⟩ 1 1 [.string ⟨s.toArray⟩] rfl rfl (World.news_of_block (heap_alloc_new w8 _)) (one_oneS s) (by unfold maxLen; omega) (by omega) (by simp; omega) ?_; intro v9 w9 o9 g9 _)
          have HR : Hid (w9.ownsRow w.heap.size 9 1 v9 (rs ++ [s]).length (scells (rs ++ [s]))) := by rw [Hid, scells_append, List.length_append]; exact o9
          have hb9 : w.grownBy w9 (some g) := grown_new (b8.trans (grown_alloc w8 _ _)) g9 (fun j hj => (o8.lt j hj).1)
          have hc9 : Cursor B w9 g := curS_app c8 g9 (fun j hj => by have := (o8.lt j hj).1; omega)
          clear o9 g9 o8 c8 b8
          go_wp2
          go_roundw
          case rel => exact ⟨_, k + 1, rs ++ [s], rfl, by omega, by go_num, by simp; omega, memS_snoc HM.out hs3, HR.out, hc9, hb9⟩
          case measure => simp [intOf]; omega
        · go_wp2_with fail
          refine (pickInt_any _ _ _ [0, 3001] _ (cursor_alloc c6 _) (cursor_ne c6) (lit_cells w6 [0, 3001] _ rfl) (by decide) (by decide)).mono ?_
          rintro e w7 ⟨y, rfl, hy, c7, g7⟩
          have hyb : 0 ≤ y ∧ y ≤ 3001 := by simp at hy; omega
          have oa := o6.alloc (.cells #[.int .i64 0, .int .i64 3001] 3)
          have o7 := oa.kept g7 (ownS_ne oa (by omega))
          have b7 := (b6.trans (grown_alloc w6 _ _)).trans g7
          obtain ⟨Y, hY⟩ := Int.eq_ofNat_of_zero_le hyb.1
          rw [hY] at hyb ⊢
          have hYb : Y ≤ 3001 := by omega
          clear oa o6 c6 b6 g7 hy hY hyb
          go_wp2_with fail
          refine (textG_any _ Y _ c7 (by omega)).mono ?_
          rintro e w8 ⟨s, rfl, hsl, c8, g8⟩
          have o8 := o7.kept g8 (ownS_ne o7 (by omega))
          have b8 := b7.trans g8
          have hs3 : s.length ≤ 3001 := by omega
          have hbs : w.heap.size ≤ w8.heap.size := b8.size
          clear o7 c7 b7 g8 hsl
          go_wp2_with (at_builtin; refine wpList_append_own _ rfl (.tmp 28) (.tmp 32) 79 rfl w.heap.size 9 i0 (.string ⟨#[]⟩) 1 16 Tryz.underlying79 hi hz0 hz1 hz2 rfl (by decide) _ _ _ rfl (o8.alloc _) ⟨w8.heap.size, 0, none⟩ 1 1 [.string ⟨s.toArray⟩] rfl rfl (World.news_of_block (heap_alloc_new w8 _)) (one_oneS s) (by unfold maxLen; omega) (by omega) (by simp; omega) ?_; intro v9 w9 o9 g9 _)
          have HR : Hid (w9.ownsRow w.heap.size 9 1 v9 (rs ++ [s]).length (scells (rs ++ [s]))) := by rw [Hid, scells_append, List.length_append]; exact o9
          have hb9 : w.grownBy w9 (some g) := grown_new (b8.trans (grown_alloc w8 _ _)) g9 (fun j hj => (o8.lt j hj).1)
          have hc9 : Cursor B w9 g := curS_app c8 g9 (fun j hj => by have := (o8.lt j hj).1; omega)
          clear o9 g9 o8 c8 b8
          go_wp2
          go_roundw
          case rel => exact ⟨_, k + 1, rs ++ [s], rfl, by omega, by go_num, by simp; omega, memS_snoc HM.out hs3, HR.out, hc9, hb9⟩
          case measure => simp [intOf]; omega
      · go_wp2_with fail
        refine (pickInt_any _ _ _ [1000, 1004, 1008, 1009, 2020, 3000] _ (cursor_alloc c4 _) (cursor_ne c4) (lit_cells w4 [1000, 1004, 1008, 1009, 2020, 3000] _ rfl) (by decide) (by decide)).mono ?_
        rintro e w5 ⟨y, rfl, hy, c5, g5⟩
        have hyb : 0 ≤ y ∧ y ≤ 3001 := by simp at hy; omega
        have oa := o4.alloc (.cells #[.int .i64 1000, .int .i64 1004, .int .i64 1008, .int .i64 1009, .int .i64 2020, .int .i64 3000] 3)
        have o5 := oa.kept g5 (ownS_ne oa (by omega))
        have b5 := (b4.trans (grown_alloc w4 _ _)).trans g5
        obtain ⟨X, hX⟩ := Int.eq_ofNat_of_zero_le hyb.1
        rw [hX] at hyb ⊢
        have hXb : X ≤ 3001 := by omega
        clear oa o4 c4 b4 g5 hy hX hyb
        go_wp2_with fail
        refine (once_any _ _ _ c5 (by omega)).mono ?_
        rintro e w6 ⟨q2, rfl, c6, g6⟩
        have o6 := o5.kept g6 (ownS_ne o5 (by omega))
        have b6 := b5.trans g6
        clear o5 c5 b5 g6
        cases q2
        · go_wp2_with fail
          refine (textG_any _ X _ c6 (by omega)).mono ?_
          rintro e w8 ⟨s, rfl, hsl, c8, g8⟩
          have o8 := o6.kept g8 (ownS_ne o6 (by omega))
          have b8 := b6.trans g8
          have hs3 : s.length ≤ 3001 := by omega
          have hbs : w.heap.size ≤ w8.heap.size := b8.size
          clear o6 c6 b6 g8 hsl
          go_wp2_with (at_builtin; refine wpList_append_own _ rfl (.tmp 28) (.tmp 32) 79 rfl w.heap.size 9 i0 (.string ⟨#[]⟩) 1 16 Tryz.underlying79 hi hz0 hz1 hz2 rfl (by decide) _ _ _ rfl (o8.alloc _) ⟨w8.heap.size, 0, none⟩ 1 1 [.string ⟨s.toArray⟩] rfl rfl (World.news_of_block (heap_alloc_new w8 _)) (one_oneS s) (by unfold maxLen; omega) (by omega) (by simp; omega) ?_; intro v9 w9 o9 g9 _)
          have HR : Hid (w9.ownsRow w.heap.size 9 1 v9 (rs ++ [s]).length (scells (rs ++ [s]))) := by rw [Hid, scells_append, List.length_append]; exact o9
          have hb9 : w.grownBy w9 (some g) := grown_new (b8.trans (grown_alloc w8 _ _)) g9 (fun j hj => (o8.lt j hj).1)
          have hc9 : Cursor B w9 g := curS_app c8 g9 (fun j hj => by have := (o8.lt j hj).1; omega)
          clear o9 g9 o8 c8 b8
          go_wp2
          go_roundw
          case rel => exact ⟨_, k + 1, rs ++ [s], rfl, by omega, by go_num, by simp; omega, memS_snoc HM.out hs3, HR.out, hc9, hb9⟩
          case measure => simp [intOf]; omega
        · go_wp2_with fail
          refine (pickInt_any _ _ _ [0, 3001] _ (cursor_alloc c6 _) (cursor_ne c6) (lit_cells w6 [0, 3001] _ rfl) (by decide) (by decide)).mono ?_
          rintro e w7 ⟨y, rfl, hy, c7, g7⟩
          have hyb : 0 ≤ y ∧ y ≤ 3001 := by simp at hy; omega
          have oa := o6.alloc (.cells #[.int .i64 0, .int .i64 3001] 3)
          have o7 := oa.kept g7 (ownS_ne oa (by omega))
          have b7 := (b6.trans (grown_alloc w6 _ _)).trans g7
          obtain ⟨Y, hY⟩ := Int.eq_ofNat_of_zero_le hyb.1
          rw [hY] at hyb ⊢
          have hYb : Y ≤ 3001 := by omega
          clear oa o6 c6 b6 g7 hy hY hyb
          go_wp2_with fail
          refine (textG_any _ Y _ c7 (by omega)).mono ?_
          rintro e w8 ⟨s, rfl, hsl, c8, g8⟩
          have o8 := o7.kept g8 (ownS_ne o7 (by omega))
          have b8 := b7.trans g8
          have hs3 : s.length ≤ 3001 := by omega
          have hbs : w.heap.size ≤ w8.heap.size := b8.size
          clear o7 c7 b7 g8 hsl
          go_wp2_with (at_builtin; refine wpList_append_own _ rfl (.tmp 28) (.tmp 32) 79 rfl w.heap.size 9 i0 (.string ⟨#[]⟩) 1 16 Tryz.underlying79 hi hz0 hz1 hz2 rfl (by decide) _ _ _ rfl (o8.alloc _) ⟨w8.heap.size, 0, none⟩ 1 1 [.string ⟨s.toArray⟩] rfl rfl (World.news_of_block (heap_alloc_new w8 _)) (one_oneS s) (by unfold maxLen; omega) (by omega) (by simp; omega) ?_; intro v9 w9 o9 g9 _)
          have HR : Hid (w9.ownsRow w.heap.size 9 1 v9 (rs ++ [s]).length (scells (rs ++ [s]))) := by rw [Hid, scells_append, List.length_append]; exact o9
          have hb9 : w.grownBy w9 (some g) := grown_new (b8.trans (grown_alloc w8 _ _)) g9 (fun j hj => (o8.lt j hj).1)
          have hc9 : Cursor B w9 g := curS_app c8 g9 (fun j hj => by have := (o8.lt j hj).1; omega)
          clear o9 g9 o8 c8 b8
          go_wp2
          go_roundw
          case rel => exact ⟨_, k + 1, rs ++ [s], rfl, by omega, by go_num, by simp; omega, memS_snoc HM.out hs3, HR.out, hc9, hb9⟩
          case measure => simp [intOf]; omega
    · have hke : k = M := by omega
      subst hke
      have hki : ¬ (k : Int) < (k : Int) := by omega
      go_wp2_with fail
      refine (once_any _ _ _ hc (by omega)).mono ?_
      rintro e w3 ⟨q, rfl, c3, g3⟩
      have o3 := ho.kept g3 (ownS_ne ho (by omega))
      have b3 := hbr.trans g3
      have HO : Hid (w3.ownsRow w.heap.size 9 1 (.slice va rs.length vc) rs.length (scells rs)) := o3
      clear ho hc hbr g3 o3
      cases q
      · go_wp2
        go_ret
        exact drewS_end HO.out (by omega) HM.out c3 b3
      · go_wp2
        go_loopw [3] (fun s wr => ∃ (v : Value) (gs : Recs), v = s ∧ gs.length ≤ 201 ∧ (∀ f ∈ gs, f.length ≤ 3001) ∧ wr.ownsRow w.heap.size 9 1 v gs.length (scells gs) ∧ Cursor B wr g ∧ w.grownBy wr (some g)) (fun v _ => 300 - lenS v)
        case atStart => exact ⟨_, rs, rfl, by omega, HM.out, HO.out, c3, b3⟩
        case round =>
          obtain ⟨v, gs, hvs, hgl, hgm, ho, hc, hbr⟩ := hrel
          subst hvs
          obtain ⟨ga, gc, hv, -, -⟩ := txts_of_own ho
          subst hv
          have HG : Hid (∀ f ∈ gs, f.length ≤ 3001) := hgm
          obtain ⟨W, hW⟩ : ∃ W, W = wr := ⟨wr, rfl⟩
          subst hW
          clear c3 b3 HO hgm
          go_wp2_with fail
          refine (below_any _ _ _ hc (by omega)).mono ?_
          rintro e w4 ⟨x, rfl, x0, x1, c4, g4⟩
          have hx9 := x1 (by omega)
          have o4 := ho.kept g4 (ownS_ne ho (by omega))
          have b4 := hbr.trans g4
          have hbs : w.heap.size ≤ w4.heap.size := b4.size
          clear ho hc hbr g4 x1
          by_cases hgo : (gs.length : Int) < 200 + x
          · go_wp2_with (at_builtin; refine wpList_append_own _ rfl (.tmp 42) (.tmp 43) 79 rfl w.heap.size 9 i0 (.string ⟨#[]⟩) 1 16 Tryz.underlying79 hi hz0 hz1 hz2 rfl (by decide) _ _ _ rfl (o4.alloc _) ⟨w4.heap.size, 0, none⟩ 1 1 [.string ⟨#[122]⟩] rfl rfl (World.news_of_block (heap_alloc_new w4 _)) (one_oneS [122]) (by unfold maxLen; omega) (by omega) (by simp; omega) ?_; intro v6 w6 o6 g6 _)
            have HR : w6.ownsRow w.heap.size 9 1 v6 (gs ++ [[122]]).length (scells (gs ++ [[122]])) := by rw [scells_append, List.length_append]; exact o6
            have hb6 : w.grownBy w6 (some g) := grown_new (b4.trans (grown_alloc w4 _ _)) g6 (fun j hj => (o4.lt j hj).1)
            have hc6 : Cursor B w6 g := curS_app c4 g6 (fun j hj => by have := (o4.lt j hj).1; omega)
            obtain ⟨ga6, gc6, hv6, -, -⟩ := txts_of_own HR
            subst hv6
            have HRR : Hid (w6.ownsRow w.heap.size 9 1 (.slice ga6 (gs ++ [[122]]).length gc6) (gs ++ [[122]]).length (scells (gs ++ [[122]]))) := HR
            clear o6 g6 o4 c4 b4 HR
            go_wp2
            go_roundw
            case rel => exact ⟨_, gs ++ [[122]], rfl, by simp; omega, memS_snoc HG.out (by simp), HRR.out, hc6, hb6⟩
            case measure => simp [lenS]; omega
          · have HR : Hid (w4.ownsRow w.heap.size 9 1 (.slice ga gs.length gc) gs.length (scells gs)) := o4
            clear o4
            go_wp2
            go_ret
            exact drewS_end HR.out (by omega) HG.out c4 b4

end Go.Proofs.YtbncdhfmhokgeaaGreatDoor
