/- Drawn lists of authorizations, and what is drawn for MatchBest and AuthAdd. -/
import Derived.Test.YtpjfigjgamlcdaaDrawAu
import Derived.Test.YtpjfigjgamlcdaaAuApp
namespace Go.Proofs.Ytpjfigjgamlcdaa
open Go.RowKit
set_option maxRecDepth 100000

/-- a drawn list: a row of one's own -/
structure AuL (w : World) (az : List Au) (ao : Option Addr) (cap : Nat) (u : World) : Prop where
  own : u.ownsRow w.heap.size 30 6 (.slice ao az.length cap) az.length (acells az)
  good : ∀ a ∈ az, AuG a
theorem cursor_row {B g : Nat} {u u' : World} {row : Option Nat} (h : Cursor B u g) (gr : u.grownBy u' row) (hr : ∀ j, row = some j → B ≤ j) : Cursor B u' g :=
  cursor_keep h ((Below.refl B u).grown gr (cursor_bd h).2 hr)
theorem grown_row {w u u' : World} {g : Nat} {row : Option Nat} (h : w.grownBy u (some g)) (h2 : u.grownBy u' row) (hr : ∀ j, row = some j → w.heap.size ≤ j) : w.grownBy u' (some g) :=
  ⟨h2.os.trans h.os, h2.tape.trans h.tape, h2.output.trans h.output, Nat.le_trans h.size h2.size, fun j hj hne => (h2.block j (Nat.lt_of_lt_of_le hj h.size) (fun e => by have := hr j e.symm; omega)).trans (h.block j hj hne)⟩

set_option maxHeartbeats 6400000 in
theorem aulist_any {B : Nat} (g : Nat) (w : World) (hc : Cursor B w g) :
    Calls Try.prog 34 #[.pointer (some ⟨g, 0, none⟩)] w fun e w' => ∃ ao cap az, e = .returned (.slice ao (List.length az) cap) ∧ az.length ≤ 101 ∧ AuL w az ao cap w' ∧ Cursor B w' g ∧ w.grownBy w' (some g) := by
  have hbd := cursor_bd hc
  have hB : B ≤ w.heap.size := hbd.2
  have hgl : g < w.heap.size := by omega
  have o0 := auLit w
  go_enter Try.func34, Try.ntmps34
  go_wp2_with fail
  refine (below_any _ _ _ (cursor_alloc hc _) (by omega)).mono ?_
  rintro e w2 ⟨n, rfl, n0, n1, c2, g2⟩
  have hn8 := n1 (by omega)
  obtain ⟨q, rfl⟩ := Int.eq_ofNat_of_zero_le n0
  have hq8 : q < 8 := by omega
  have o2 := keepAg o0 g2 (fun x hx e => by have e1 : w.heap.size = x := Option.some.inj hx; have e2 : x = g := Option.some.inj e; omega)
  have gg2 : w.grownBy w2 (some g) := (World.grownBy_alloc w _ _).trans g2
  have HO2 : Hid (AuL w [] (some ⟨w.heap.size, 0, none⟩) 0 w2) := ⟨o2, fun a ha => by cases ha⟩
  have HC2 : Hid (Cursor B w2 g) := c2
  have HG2 : Hid (w.grownBy w2 (some g)) := gg2
  clear o0 o2 n1 g2 c2 gg2 hc hbd n0 hn8
  go_wp2
  go_loopw [3, 5] (fun v i wr => ∃ (k : Nat) (ao : Option Addr) (cap : Nat) (az : List Au), k ≤ q ∧ i = .int .i64 k ∧ v = .slice ao az.length cap ∧ az.length = k ∧ AuL w az ao cap wr ∧ Cursor B wr g ∧ w.grownBy wr (some g)) (fun _ i _ => q - (intOf i).toNat)
  case atStart => exact ⟨0, _, _, [], Nat.zero_le _, rfl, rfl, rfl, HO2.out, HC2.out, HG2.out⟩
  case round =>
    obtain ⟨k, ao, cap, az, hk, rfl, rfl, hl, hL, hcr, hgr⟩ := hrel
    have HL : Hid (AuL w az ao cap wr) := hL
    have HG : Hid (w.grownBy wr (some g)) := hgr
    have HAL : Hid (az.length = k) := hl
    have hal : az.length < 8 := by omega
    clear HO2 HC2 HG2 hL hl
    by_cases hlt : k < q
    · have hki : (k : Int) < (q : Int) := by omega
      go_wp2_with fail
      refine (auth_any _ _ hcr).mono ?_
      rintro e w3 ⟨⟨r, i, c, m, d, u⟩, rfl, hag, c3, g3⟩
      simp only [auv]
      have HG3 : Hid (w.grownBy w3 (some g)) := HG.out.trans g3
      have hs3 : w.heap.size ≤ w3.heap.size := HG3.out.size
      have o3 : w3.ownsRow w.heap.size 30 6 (.slice ao az.length cap) az.length (acells az) := keepAg HL.out.own g3 (fun x hx e => by have := (HL.out.own.lt x hx).1; injection e with e; omega)
      have HON : Hid (AuthsAt (w3.alloc (.cells #[.string ⟨r.toArray⟩, .int .i64 i, .int .i64 c, .int .i64 m, .int .i64 d, .bool u] 30)) (some ⟨w3.heap.size, 0, none⟩) [⟨r, i, c, m, d, u⟩]) := .inr ⟨w3.heap.size, 0, rfl, by simp, fun j hj => by
        obtain rfl : j = 0 := by simpa using hj
        exact ⟨by simp [auAt], by simp [auAt], by simp [auAt], by simp [auAt], by simp [auAt], by simp [auAt]⟩⟩
      have HOA : Hid ((w3.alloc (.cells #[.string ⟨r.toArray⟩, .int .i64 i, .int .i64 c, .int .i64 m, .int .i64 d, .bool u] 30)).ownsRow w.heap.size 30 6 (.slice ao az.length cap) az.length (acells az)) := keepA o3 ((Below.refl _ _).alloc (Nat.le_refl _) _)
      have cA : Cursor B (w3.alloc (.cells #[.string ⟨r.toArray⟩, .int .i64 i, .int .i64 c, .int .i64 m, .int .i64 d, .bool u] 30)) g := cursor_alloc c3 _
      have HGA : Hid (w.grownBy (w3.alloc (.cells #[.string ⟨r.toArray⟩, .int .i64 i, .int .i64 c, .int .i64 m, .int .i64 d, .bool u] 30)) (some g)) := HG3.out.trans (World.grownBy_alloc w3 _ _)
      clear o3 g3
      go_wp2_with (at_builtin; refine wpList_append_auths _ rfl (.tmp 14) (.tmp 17) rfl w.heap.size (.slice ao az.length cap) az.length (acells az) rfl HOA.out (some ⟨w3.heap.size, 0, none⟩) 1 [⟨r, i, c, m, d, u⟩] rfl HON.out (by simp; omega) (by simp; omega) ?_; intro v4 w4 o4 g4 n4)
      obtain ⟨a4, c4, rfl⟩ := auShape o4
      have HO4 : Hid (AuL w (az ++ [⟨r, i, c, m, d, u⟩]) a4 c4 w4) := ⟨by rw [List.length_append, acells_append]; exact o4, fun x hx => by
        rcases List.mem_append.1 hx with h | h
        · exact HL.out.good x h
        · have e : x = ⟨r, i, c, m, d, u⟩ := by simpa using h
          rw [e]; exact hag⟩
      have hr4 : ∀ j, (Value.slice ao az.length cap).ownBlock = some j → w.heap.size ≤ j := fun j hj => (HOA.out.lt j hj).1
      have HC4 : Hid (Cursor B w4 g) := cursor_row cA g4 (fun j hj => Nat.le_trans hB (hr4 j hj))
      have HG4 : Hid (w.grownBy w4 (some g)) := grown_row HGA.out g4 hr4
      clear o4 g4 n4 hr4 cA HOA HON
      go_wp2
      go_roundw
      case rel => exact ⟨k + 1, a4, c4, az ++ [⟨r, i, c, m, d, u⟩], by omega, by go_num, by rw [List.length_append], by rw [List.length_append, HAL.out]; rfl, HO4.out, HC4.out, HG4.out⟩
      case measure => simp [intOf]; omega
    · have hki : ¬ (k : Int) < (q : Int) := by omega
      go_wp2_with fail
      refine (once_any _ _ _ hcr (by omega)).mono ?_
      rintro e w3 ⟨z, rfl, c3, g3⟩
      have HG3 : Hid (w.grownBy w3 (some g)) := HG.out.trans g3
      have HL3 : Hid (AuL w az ao cap w3) := ⟨keepAg HL.out.own g3 (fun x hx e => by have := (HL.out.own.lt x hx).1; injection e with e; omega), HL.out.good⟩
      have HC3 : Hid (Cursor B w3 g) := c3
      have HSL : Hid (az.length ≤ 101) := by rw [Hid]; omega
      clear c3 g3 hcr hgr
      cases z
      · go_wp2
        go_ret
        exact ⟨_, _, az, rfl, HSL.out, HL3.out, HC3.out, HG3.out⟩
      · clear HAL hal HL HG hk hlt hki
        obtain ⟨U, hU⟩ : ∃ U, U = w3 := ⟨_, rfl⟩
        subst hU
        go_wp2
        go_loopw [3] (fun v wr => ∃ (ao : Option Addr) (cap : Nat) (bz : List Au), v = .slice ao bz.length cap ∧ bz.length ≤ 101 ∧ AuL w bz ao cap wr ∧ Cursor B wr g ∧ w.grownBy wr (some g)) (fun v _ => 101 - (match v with | .slice _ n _ => n | _ => 0))
        case atStart => exact ⟨ao, cap, az, rfl, HSL.out, HL3.out, HC3.out, HG3.out⟩
        case round =>
          obtain ⟨bo, bc, bz, rfl, hbl, hL, hcr, hgr⟩ := hrel
          have HLb : Hid (AuL w bz bo bc wr) := hL
          clear hL HL3 HC3 HG3 HSL
          go_wp2_with fail
          refine (below_any _ _ _ hcr (by omega)).mono ?_
          rintro e w5 ⟨x, rfl, x0, x1, c5, g5⟩
          have hx := x1 (by omega)
          have HG5 : Hid (w.grownBy w5 (some g)) := hgr.trans g5
          have HL5 : Hid (AuL w bz bo bc w5) := ⟨keepAg HLb.out.own g5 (fun y hy e => by have := (HLb.out.own.lt y hy).1; injection e with e; omega), HLb.out.good⟩
          have HC5 : Hid (Cursor B w5 g) := c5
          clear x1 g5 hcr hgr HLb
          by_cases hlx : (bz.length : Int) < 100 + x
          · have hb2 : bz.length < 101 := by omega
            clear c5
            go_wp2_with fail
            refine (sPadNum_any (1000 + (bz.length : Int)) 12 _).mono ?_
            rintro e w6 ⟨rfl, b6⟩
            have HG6 : Hid (w.grownBy w6 (some g)) := HG5.out.trans (grown_ofA b6 _)
            have hs6 : w.heap.size ≤ w6.heap.size := HG6.out.size
            have c6 := cursor_below HC5.out b6
            have o6 := keepA HL5.out.own b6
            have hrl := pad_len (1000 + (bz.length : Int)) 12
            generalize padT (1000 + (bz.length : Int)) 12 = r at hrl
            have HON : Hid (AuthsAt (w6.alloc (.cells #[.string ⟨r.toArray⟩, .int .i64 1, .int .i64 840, .int .i64 100, .int .i64 9000, .bool false] 30)) (some ⟨w6.heap.size, 0, none⟩) [⟨r, 1, 840, 100, 9000, false⟩]) := .inr ⟨w6.heap.size, 0, rfl, by simp, fun j hj => by
              obtain rfl : j = 0 := by simpa using hj
              exact ⟨by simp [auAt], by simp [auAt], by simp [auAt], by simp [auAt], by simp [auAt], by simp [auAt]⟩⟩
            have HOA : Hid ((w6.alloc (.cells #[.string ⟨r.toArray⟩, .int .i64 1, .int .i64 840, .int .i64 100, .int .i64 9000, .bool false] 30)).ownsRow w.heap.size 30 6 (.slice bo bz.length bc) bz.length (acells bz)) := keepA o6 ((Below.refl _ _).alloc (Nat.le_refl _) _)
            have cA : Cursor B (w6.alloc (.cells #[.string ⟨r.toArray⟩, .int .i64 1, .int .i64 840, .int .i64 100, .int .i64 9000, .bool false] 30)) g := cursor_alloc c6 _
            have HGA : Hid (w.grownBy (w6.alloc (.cells #[.string ⟨r.toArray⟩, .int .i64 1, .int .i64 840, .int .i64 100, .int .i64 9000, .bool false] 30)) (some g)) := HG6.out.trans (World.grownBy_alloc w6 _ _)
            clear b6 c6 o6
            go_wp2_with (at_builtin; refine wpList_append_auths _ rfl (.tmp 27) (.tmp 33) rfl w.heap.size (.slice bo bz.length bc) bz.length (acells bz) rfl HOA.out (some ⟨w6.heap.size, 0, none⟩) 1 [⟨r, 1, 840, 100, 9000, false⟩] rfl HON.out (by simp; omega) (by simp; omega) ?_; intro v7 w7 o7 g7 n7)
            obtain ⟨a7, c7, rfl⟩ := auShape o7
            have HO7 : Hid (AuL w (bz ++ [⟨r, 1, 840, 100, 9000, false⟩]) a7 c7 w7) := ⟨by rw [List.length_append, acells_append]; exact o7, fun y hy => by
              rcases List.mem_append.1 hy with h | h
              · exact HL5.out.good y h
              · have e : y = ⟨r, 1, 840, 100, 9000, false⟩ := by simpa using h
                rw [e]; exact ⟨hrl, cur_wf (by simp)⟩⟩
            have hr7 : ∀ j, (Value.slice bo bz.length bc).ownBlock = some j → w.heap.size ≤ j := fun j hj => (HOA.out.lt j hj).1
            have HC7 : Hid (Cursor B w7 g) := cursor_row cA g7 (fun j hj => Nat.le_trans hB (hr7 j hj))
            have HG7 : Hid (w.grownBy w7 (some g)) := grown_row HGA.out g7 hr7
            clear o7 g7 n7 hr7 cA HOA HON
            go_wp2
            go_roundw
            case rel => exact ⟨a7, c7, bz ++ [⟨r, 1, 840, 100, 9000, false⟩], by rw [List.length_append], by rw [List.length_append]; simp; omega, HO7.out, HC7.out, HG7.out⟩
            case measure => simp; omega
          · go_wp2
            go_ret
            exact ⟨_, _, bz, rfl, hbl, HL5.out, HC5.out, HG5.out⟩

end Go.Proofs.Ytpjfigjgamlcdaa
