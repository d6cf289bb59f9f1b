/- What is drawn as a list of tags, whatever the bytes. -/
import Derived.Test.YtijlbceejpjfiaaDoorDrawTx
import Derived.Test.YtijlbceejpjfiaaDoorTagOwn
import Derived.Deep.AppendLies
namespace Go.Proofs.YtijlbceejpjfiaaDoor
open Go.RowKit

theorem curT_app {B : Nat} {g : Nat} {w w4 : World} {o : Obj} {row : Option Nat} (c3 : Cursor B w g) (hg4 : (w.alloc o).grownBy w4 row) (h : ∀ j, row = some j → B ≤ j) : Cursor B w4 g :=
  cursor_keep c3 (((Below.refl _ w).alloc (cursor_bd c3).2 _).grown hg4 (by have := (cursor_bd c3).2; simp; omega) h)
theorem ownT_ne {w : World} {base g n : Nat} {v : Value} {xs : List Value} (h : w.ownsRow base 48 2 v n xs) (hg : g < base) : v.ownBlock = none ∨ v.ownBlock ≠ some g := by
  right; intro e; have := (h.lt g e).1; omega
theorem oneD (n : Int) (s : List UInt8) : ∀ u ∈ [Value.int .i64 n, .string ⟨s.toArray⟩], u.oneCell' = true := by
  intro u hu
  simp at hu
  rcases hu with rfl | rfl <;> rfl
def lenV : Value → Nat
  | .slice _ n _ => n
  | _ => 0
/-- a list of tags that was drawn -/
def DrawnT (w' : World) (ao : Option Addr) (fs : List Fld) : Prop := fs.length ≤ 100 ∧ (∀ f ∈ fs, f.2.length ≤ 300) ∧ FldsAt w' ao fs
/-- what such a draw hands back -/
def DrewT (B g : Nat) (w : World) (e : Ending) (w' : World) : Prop :=
  ∃ (ao : Option Addr) (c : Nat) (fs : List Fld), e = .returned (.slice ao fs.length c) ∧ DrawnT w' ao fs ∧ Cursor B w' g ∧ w.grownBy w' (some g) ∧ ∀ x, ao = some x → g < x.block
theorem drew_end {B g base : Nat} {w w' : World} {v : Value} {fs : List Fld} (ho : w'.ownsRow base 48 2 v fs.length (fcells fs)) (hn : fs.length ≤ 100) (hd : ∀ f ∈ fs, f.2.length ≤ 300) (hc : Cursor B w' g) (hg : w.grownBy w' (some g)) (hgb : g < base) : DrewT B g w (.returned v) w' := by
  obtain ⟨ao, c, hv, hf, -⟩ := flds_of_own' ho
  subst hv
  refine ⟨ao, c, fs, rfl, ⟨hn, hd, hf⟩, hc, hg, fun x hx => ?_⟩
  subst hx
  have := (ho.lt x.block (by simp [Value.ownBlock])).1
  omega
theorem mem_snoc {fs : List Fld} {x : Fld} {m : Nat} (h : ∀ f ∈ fs, f.2.length ≤ m) (hx : x.2.length ≤ m) : ∀ f ∈ fs ++ [x], f.2.length ≤ m := by
  intro f hf
  rcases List.mem_append.1 hf with h1 | h1
  · exact h f h1
  · obtain rfl : f = x := by simpa using h1
    exact hx

set_option maxRecDepth 100000 in
set_option maxHeartbeats 3200000 in
theorem tagsD_any {B : Nat} (g : Nat) (w : World) (hc : Cursor B w g) :
    Calls Tryd.prog 25 #[.pointer (some ⟨g, 0, none⟩)] w (DrewT B g w) := by
  obtain ⟨i0, hi, hz0, hz1, hz2⟩ := info_parts infoF
  have cb := cursor_bd hc
  have own0 : (w.alloc (.cells #[] 48)).ownsRow w.heap.size 48 2 (.slice (some ⟨w.heap.size, 0, none⟩) 0 0) 0 [] := World.ownsRow_lit w #[] 0 (Nat.le_refl _) (by unfold maxLen; omega) rfl
  have c0 := cursor_alloc hc (.cells #[] 48)
  go_enter Tryd.func25, Tryd.ntmps25
  go_wp2_with fail
  refine (below_any _ _ _ c0 (by omega)).mono ?_
  rintro e w1 ⟨m, rfl, m0, m1, c1, g1⟩
  have hm5 := m1 (by omega)
  have o1 := own0.kept g1 (ownT_ne own0 (by omega))
  have b1 : w.grownBy w1 (some g) := (grown_alloc w _ _).trans g1
  obtain ⟨M, rfl⟩ := Int.eq_ofNat_of_zero_le m0
  clear own0 c0 hc g1 m1
  go_wp2
  go_loopw [3, 4, 6] (fun v p i wr => ∃ (k : Nat) (y : Int) (fs : List Fld), k ≤ M ∧ i = .int .i64 k ∧ p = .int .i64 y ∧ (0 ≤ y ∧ y ≤ 401 * k) ∧ fs.length ≤ k ∧ (∀ f ∈ fs, f.2.length ≤ 300) ∧ wr.ownsRow w.heap.size 48 2 v fs.length (fcells fs) ∧ Cursor B wr g ∧ w.grownBy wr (some g)) (fun _ _ i _ => M - (intOf i).toNat)
  case atStart => exact ⟨0, 0, [], Nat.zero_le _, rfl, rfl, by omega, Nat.le_refl _, (fun f hf => by cases hf), o1, c1, b1⟩
  case round =>
    obtain ⟨k, y, fs, hk, rfl, rfl, hy, hfl, hmem, ho, hc, hbr⟩ := hrel
    obtain ⟨va, vc, hv, -, -⟩ := flds_of_own' ho
    subst hv
    have HM : Hid (∀ f ∈ fs, f.2.length ≤ 300) := hmem
    clear o1 c1 b1 hmem
    by_cases hlt : k < M
    · have hki : (k : Int) < (M : Int) := by omega
      go_wp2_with fail
      refine (below_any _ _ _ hc (by omega)).mono ?_
      rintro e w3 ⟨z, rfl, z0, z1, c3, g3⟩
      have hz4 := z1 (by omega)
      have o3 := ho.kept g3 (ownT_ne ho (by omega))
      have b3 := hbr.trans g3
      clear ho hc hbr g3 z1
      go_wp2_with fail
      refine (below_any _ _ _ c3 (by omega)).mono ?_
      rintro e w4 ⟨x, rfl, x0, x1, c4, g4⟩
      have hx9 := x1 (by omega)
      have o4 := o3.kept g4 (ownT_ne o3 (by omega))
      have b4 := b3.trans g4
      obtain ⟨X, rfl⟩ := Int.eq_ofNat_of_zero_le x0
      clear o3 c3 b3 g4 x1
      go_wp2_with fail
      refine (textG_any _ X _ c4 (by omega)).mono ?_
      rintro e w5 ⟨s, rfl, hsl, c5, g5⟩
      have o5 := o4.kept g5 (ownT_ne o4 (by omega))
      have b5 := b4.trans g5
      have hs300 : s.length ≤ 300 := by omega
      have hbs : w.heap.size ≤ w5.heap.size := b5.size
      clear o4 c4 b4 g5 hsl
      go_wp2_with (at_builtin; refine wpList_append_own _ rfl (.tmp 20) (.tmp 27) 24 rfl w.heap.size 48 i0 _ 2 24 Tryd.underlying24 hi hz0 hz1 hz2 rfl (by decide) _ _ _ rfl (o5.alloc _) ⟨w5.heap.size, 0, none⟩ 1 1 [.int .i64 (y + 1 + z), .string ⟨s.toArray⟩] rfl rfl (World.news_of_block (heap_alloc_new w5 _)) (oneD _ s) (by unfold maxLen; omega) (by omega) (by simp; omega) ?_; intro v6 w6 o6 g6 _)
      have HR : Hid (w6.ownsRow w.heap.size 48 2 v6 (fs ++ [(y + 1 + z, s)]).length (fcells (fs ++ [(y + 1 + z, s)]))) := by rw [Hid, fcells_append, List.length_append]; exact o6
      have hb6 : w.grownBy w6 (some g) := grown_new (b5.trans (grown_alloc w5 _ _)) g6 (fun j hj => (o5.lt j hj).1)
      have hc6 : Cursor B w6 g := curT_app c5 g6 (fun j hj => by have := (o5.lt j hj).1; omega)
      clear o6 g6 o5 c5 b5
      go_wp2
      go_roundw
      case rel => exact ⟨k + 1, y + 1 + z, fs ++ [(y + 1 + z, s)], by omega, by go_num, rfl, by omega, by simp; omega, mem_snoc HM.out hs300, HR.out, hc6, hb6⟩
      case measure => simp [intOf]; omega
    · have hke : k = M := by omega
      subst hke
      have hki : ¬ (k : Int) < (k : Int) := by omega
      go_wp2_with fail
      refine (below_any _ _ _ hc (by omega)).mono ?_
      rintro e w3 ⟨z, rfl, z0, z1, c3, g3⟩
      have o3 := ho.kept g3 (ownT_ne ho (by omega))
      have b3 := hbr.trans g3
      clear ho hc hbr g3 z1
      by_cases h0 : z = 0
      · subst h0
        go_wp2_with fail
        refine (pickInt_any _ _ _ [0, 10000, 1, 9999] _ (cursor_alloc c3 _) (cursor_ne c3) (lit_cells w3 [0, 10000, 1, 9999] _ rfl) (by decide) (by decide)).mono ?_
        rintro e w4 ⟨t, rfl, _, c4, g4⟩
        have oa := o3.alloc (.cells #[.int .i64 0, .int .i64 10000, .int .i64 1, .int .i64 9999] 3)
        have o4 := oa.kept g4 (ownT_ne oa (by omega))
        have b4 := (b3.trans (grown_alloc w3 _ _)).trans g4
        have hbs : w.heap.size ≤ w4.heap.size := b4.size
        clear oa o3 c3 b3 g4
        go_wp2_with (at_builtin; refine wpList_append_own _ rfl (.tmp 33) (.tmp 38) 24 rfl w.heap.size 48 i0 _ 2 24 Tryd.underlying24 hi hz0 hz1 hz2 rfl (by decide) _ _ _ rfl (o4.alloc _) ⟨w4.heap.size, 0, none⟩ 1 1 [.int .i64 t, .string ⟨#[]⟩] rfl rfl (World.news_of_block (heap_alloc_new w4 _)) (oneD t []) (by unfold maxLen; omega) (by omega) (by simp; omega) ?_; intro v6 w6 o6 g6 _)
        have HR : Hid (w6.ownsRow w.heap.size 48 2 v6 (fs ++ [(t, [])]).length (fcells (fs ++ [(t, [])]))) := by rw [Hid, fcells_append, List.length_append]; exact o6
        have hb6 : w.grownBy w6 (some g) := grown_new (b4.trans (grown_alloc w4 _ _)) g6 (fun j hj => (o4.lt j hj).1)
        have hc6 : Cursor B w6 g := curT_app c4 g6 (fun j hj => by have := (o4.lt j hj).1; omega)
        clear o6 g6 o4 c4 b4
        go_wp2
        go_ret
        exact drew_end HR.out (by simp; omega) (mem_snoc HM.out (by simp)) hc6 hb6 (by omega)
      have h0' : (z == 0) = false := by simpa using h0
      by_cases h1 : z = 1
      · subst h1
        go_wp2_with fail
        refine (below_any _ _ _ c3 (by omega)).mono ?_
        rintro e w4 ⟨x, rfl, x0, x1, c4, g4⟩
        have hx9 := x1 (by omega)
        have o4 := o3.kept g4 (ownT_ne o3 (by omega))
        have b4 := b3.trans g4
        obtain ⟨X, rfl⟩ := Int.eq_ofNat_of_zero_le x0
        clear o3 c3 b3 g4 x1
        go_wp2_with fail
        rw [show (200 : Int) + (X : Int) = ((200 + X : Nat) : Int) by omega]
        refine (textG_any _ (200 + X) _ c4 (by omega)).mono ?_
        rintro e w5 ⟨s, rfl, hsl, c5, g5⟩
        have o5 := o4.kept g5 (ownT_ne o4 (by omega))
        have b5 := b4.trans g5
        have hs300 : s.length ≤ 300 := by omega
        have hbs : w.heap.size ≤ w5.heap.size := b5.size
        clear o4 c4 b4 g5 hsl
        go_wp2_with (at_builtin; refine wpList_append_own _ rfl (.tmp 42) (.tmp 49) 24 rfl w.heap.size 48 i0 _ 2 24 Tryd.underlying24 hi hz0 hz1 hz2 rfl (by decide) _ _ _ rfl (o5.alloc _) ⟨w5.heap.size, 0, none⟩ 1 1 [.int .i64 9000, .string ⟨s.toArray⟩] rfl rfl (World.news_of_block (heap_alloc_new w5 _)) (oneD _ s) (by unfold maxLen; omega) (by omega) (by simp; omega) ?_; intro v6 w6 o6 g6 _)
        have HR : Hid (w6.ownsRow w.heap.size 48 2 v6 (fs ++ [(9000, s)]).length (fcells (fs ++ [(9000, s)]))) := by rw [Hid, fcells_append, List.length_append]; exact o6
        have hb6 : w.grownBy w6 (some g) := grown_new (b5.trans (grown_alloc w5 _ _)) g6 (fun j hj => (o5.lt j hj).1)
        have hc6 : Cursor B w6 g := curT_app c5 g6 (fun j hj => by have := (o5.lt j hj).1; omega)
        clear o6 g6 o5 c5 b5
        go_wp2
        go_ret
        exact drew_end HR.out (by simp; omega) (mem_snoc HM.out hs300) hc6 hb6 (by omega)
      have h1' : (z == 1) = false := by simpa using h1
      by_cases h2 : z = 2
      · subst h2
        have HO : Hid (w3.ownsRow w.heap.size 48 2 (.slice va fs.length vc) fs.length (fcells fs)) := o3
        clear o3
        go_wp2
        go_loopw [3] (fun v wr => ∃ (gs : List Fld), v = .slice (match v with | .slice a _ _ => a | _ => none) gs.length (match v with | .slice _ _ c => c | _ => 0) ∧ gs.length ≤ 61 ∧ (∀ f ∈ gs, f.2.length ≤ 300) ∧ wr.ownsRow w.heap.size 48 2 v gs.length (fcells gs) ∧ Cursor B wr g ∧ w.grownBy wr (some g)) (fun v _ => 100 - lenV v)
        case atStart => exact ⟨fs, rfl, by omega, HM.out, HO.out, c3, b3⟩
        case round =>
          obtain ⟨gs, -, hgl, hgm, ho, hc, hbr⟩ := hrel
          obtain ⟨ga, gc, hv, -, -⟩ := flds_of_own' ho
          subst hv
          have HG : Hid (∀ f ∈ gs, f.2.length ≤ 300) := hgm
          obtain ⟨W, hW⟩ : ∃ W, W = wr := ⟨wr, rfl⟩
          subst hW
          clear c3 b3 HO hgm
          go_wp2_with fail
          refine (below_any _ _ _ hc (by omega)).mono ?_
          rintro e w4 ⟨x, rfl, x0, x1, c4, g4⟩
          have hx9 := x1 (by omega)
          have o4 := ho.kept g4 (ownT_ne ho (by omega))
          have b4 := hbr.trans g4
          have hbs : w.heap.size ≤ w4.heap.size := b4.size
          clear ho hc hbr g4 x1
          by_cases hgo : (gs.length : Int) < 60 + x
          · go_wp2_with (at_builtin; refine wpList_append_own _ rfl (.tmp 59) (.tmp 64) 24 rfl w.heap.size 48 i0 _ 2 24 Tryd.underlying24 hi hz0 hz1 hz2 rfl (by decide) _ _ _ rfl (o4.alloc _) ⟨w4.heap.size, 0, none⟩ 1 1 [.int .i64 (5000 + (gs.length : Int)), .string ⟨#[]⟩] rfl rfl (World.news_of_block (heap_alloc_new w4 _)) (oneD _ []) (by unfold maxLen; omega) (by omega) (by simp; omega) ?_; intro v6 w6 o6 g6 _)
            have HR : w6.ownsRow w.heap.size 48 2 v6 (gs ++ [(5000 + (gs.length : Int), [])]).length (fcells (gs ++ [(5000 + (gs.length : Int), [])])) := by rw [fcells_append, List.length_append]; exact o6
            have hb6 : w.grownBy w6 (some g) := grown_new (b4.trans (grown_alloc w4 _ _)) g6 (fun j hj => (o4.lt j hj).1)
            have hc6 : Cursor B w6 g := curT_app c4 g6 (fun j hj => by have := (o4.lt j hj).1; omega)
            obtain ⟨ga6, gc6, hv6, -, -⟩ := flds_of_own' HR
            subst hv6
            have HRR : Hid (w6.ownsRow w.heap.size 48 2 (.slice ga6 (gs ++ [(5000 + (gs.length : Int), [])]).length gc6) (gs ++ [(5000 + (gs.length : Int), [])]).length (fcells (gs ++ [(5000 + (gs.length : Int), [])]))) := HR
            clear o6 g6 o4 c4 b4 HR
            go_wp2
            go_roundw
            case rel => exact ⟨gs ++ [(5000 + (gs.length : Int), [])], rfl, by simp; omega, mem_snoc HG.out (by simp), HRR.out, hc6, hb6⟩
            case measure => simp [lenV]; omega
          · have HR : Hid (w4.ownsRow w.heap.size 48 2 (.slice ga gs.length gc) gs.length (fcells gs)) := o4
            clear o4
            go_wp2
            go_ret
            exact drew_end HR.out (by omega) HG.out c4 b4 (by omega)
      · have h2' : (z == 2) = false := by simpa using h2
        have HO : Hid (w3.ownsRow w.heap.size 48 2 (.slice va fs.length vc) fs.length (fcells fs)) := o3
        clear o3
        go_wp2
        go_ret
        exact drew_end HO.out (by omega) HM.out c3 b3 (by omega)

end Go.Proofs.YtijlbceejpjfiaaDoor
