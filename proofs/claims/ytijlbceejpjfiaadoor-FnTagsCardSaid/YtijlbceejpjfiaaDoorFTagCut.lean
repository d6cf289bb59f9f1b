/- The contracts of TagCut, the program's and the specification's. -/
import Derived.Test.YtijlbceejpjfiaaDoorFKeep
import Derived.Test.YtijlbceejpjfiaaDoorTagApp
namespace Go.Proofs.YtijlbceejpjfiaaDoor
open Go.RowKit

/-- what such a function hands back: a list of its own, nothing else changed -/
def Cuts (w : World) (L : List Fld) (e : Ending) (w' : World) : Prop :=
  ∃ g c, e = .returned (.slice (some ⟨g, 0, none⟩) L.length c) ∧ w'.ownsRow w.heap.size 48 2 (.slice (some ⟨g, 0, none⟩) L.length c) L.length (fcells L) ∧ Below w.heap.size w w'

set_option maxRecDepth 100000 in
set_option maxHeartbeats 1600000 in
theorem iTagCut_any (ao : Option Addr) (cap : Nat) (fs : List Fld) (num : Int) (w : World) (hz : FldsAt w ao fs) (hn : fs.length ≤ 4194304) (hd : ∀ f ∈ fs, f.2.length ≤ 1099511627776) :
    Calls Tryd.prog 18 #[.slice ao fs.length cap, .int .i64 num] w (Cuts w (fs.filter (neP num))) := by
  have hmf : ∀ (fn : Fn) (first cap : Array Value) (w : World), (Instr.makeFunc fn first cap).run Tryd.prog w = .ok (.func fn first cap) w := fun _ _ _ _ => rfl
  have bel1 : Below w.heap.size w (w.alloc (.cells #[.int .i64 num] 3)) := by go_grown
  have hz1 := hz.below bel1
  have hc1 : (w.alloc (.cells #[.int .i64 num] 3)).cell? ⟨w.heap.size, 0, none⟩ = some (.int .i64 num) := by simp
  have hfl := List.length_filter_le (neP num) fs
  go_enter Tryd.func18, Tryd.ntmps18
  go_wp2_with fail
  refine (keep_neP _ _ _ num w.heap.size _ hz1 hn hc1).mono ?_
  rintro e w1 ⟨a, c, rfl, o1, b1⟩
  have q1 := next bel1 b1
  have f1 := flds_any o1
  clear o1 b1 hz1 bel1 hc1
  go_wp2_with fail
  refine (copyTags_any _ _ _ _ f1 (by omega) (fun f hf => hd f (cut_mem hf))).mono ?_
  rintro e w2 ⟨g, rfl, o2, b2⟩
  have q2 := next q1 b2
  have HO : Hid _ := lowerRow o2 q1.size
  clear o2 b2 f1 q1
  go_wp2
  go_ret
  exact ⟨_, _, rfl, HO.out, q2⟩

set_option maxRecDepth 100000 in
set_option maxHeartbeats 1600000 in
theorem sTagCut_any (ao : Option Addr) (cap : Nat) (fs : List Fld) (num : Int) (w : World) (hz : FldsAt w ao fs) (hn : fs.length ≤ 4194304) :
    Calls Tryd.prog 42 #[.slice ao fs.length cap, .int .i64 num] w (Cuts w (fs.filter (neP num))) := by
  obtain ⟨i0, hi, hz0, hz1, hz2⟩ := info_parts infoF
  have own1 : (w.alloc (.cells #[] 48)).ownsRow w.heap.size 48 2 (.slice (some ⟨w.heap.size, 0, none⟩) 0 0) 0 [] := World.ownsRow_lit w #[] 0 (Nat.le_refl _) (by unfold maxLen; omega) rfl
  have HO1 : Hid ((w.alloc (.cells #[] 48)).ownsRow w.heap.size 48 2 (.slice (some ⟨w.heap.size, 0, none⟩) 0 0) 0 []) := own1
  clear own1
  rcases hz with rfl | ⟨b, off, rfl, hb, hcell⟩
  · go_enter Tryd.func42, Tryd.ntmps42
    go_wp2
    refine wp_loop_rounds 1 ?_
    rw [rounds_succ]
    go_wp2
    go_ret
    exact ⟨_, _, rfl, HO1.out, by go_grown⟩
  have HC : Hid (∀ i, i < fs.length → w.cell? ⟨b, off + i * 2, none⟩ = some (.int .i64 (at0 fs i).1) ∧ w.cell? ⟨b, off + i * 2 + 1, none⟩ = some (.string ⟨(at0 fs i).2.toArray⟩)) := hcell
  clear hcell
  go_enter Tryd.func42, Tryd.ntmps42
  go_wp2
  go_loopw [5, 6] (fun v i wr => ∃ (k g c : Nat), k ≤ fs.length ∧ i = .int .i64 k ∧ v = .slice (some ⟨g, 0, none⟩) ((fs.take k).filter (neP num)).length c ∧ wr.ownsRow w.heap.size 48 2 (.slice (some ⟨g, 0, none⟩) ((fs.take k).filter (neP num)).length c) ((fs.take k).filter (neP num)).length (fcells ((fs.take k).filter (neP num))) ∧ Below w.heap.size w wr) (fun _ i _ => fs.length - (intOf i).toNat)
  case atStart => exact ⟨0, _, _, Nat.zero_le _, rfl, rfl, HO1.out, by go_grown⟩
  case round =>
    obtain ⟨k, g, c, hk, rfl, rfl, ho, hbr⟩ := hrel
    clear HO1
    by_cases hlt : k < fs.length
    · have c1 : wr.cell? ⟨b, off + k * 2, none⟩ = some (.int .i64 (at0 fs k).1) := (hbr.cell (p := ⟨b, off + k * 2, none⟩) hb).trans (HC.out k hlt).1
      have c2 : wr.cell? ⟨b, off + k * 2 + 1, none⟩ = some (.string ⟨(at0 fs k).2.toArray⟩) := (hbr.cell (p := ⟨b, off + k * 2 + 1, none⟩) hb).trans (HC.out k hlt).2
      have hki : (k : Int) < (fs.length : Int) := by omega
      have hst := take_filter fs (neP num) k hlt
      have hfl := filter_le fs (neP num) k
      have hbs := hbr.size
      obtain ⟨⟨n, s⟩, hf⟩ : ∃ f, at0 fs k = f := ⟨_, rfl⟩
      rw [hf] at c1 c2 hst
      simp only at c1 c2
      have HO : Hid (wr.ownsRow w.heap.size 48 2 (.slice (some ⟨g, 0, none⟩) ((fs.take k).filter (neP num)).length c) ((fs.take k).filter (neP num)).length (fcells ((fs.take k).filter (neP num)))) := ho
      clear hf ho
      cases hp : neP num (n, s)
      · rw [hp, if_neg (by decide)] at hst
        have hq : (n != num) = false := hp
        have HST : Hid _ := hst
        clear hp hst
        go_wp2
        go_roundw
        case rel => exact ⟨k + 1, g, c, by omega, by go_num, by rw [HST.out], by rw [HST.out]; exact HO.out, hbr⟩
        case measure => simp [intOf]; omega
      · rw [hp, if_pos rfl] at hst
        have hq : (n != num) = true := hp
        have HST : Hid _ := hst
        clear hp hst
        go_wp2_with (at_builtin; refine wpList_append_own _ rfl (.tmp 21) (.tmp 26) 24 rfl w.heap.size 48 i0 _ 2 24 Tryd.underlying24 hi hz0 hz1 hz2 rfl (by decide) _ _ _ rfl (HO.out.alloc _) ⟨wr.heap.size, 0, none⟩ 1 1 [.int .i64 n, .string ⟨s.toArray⟩] rfl rfl (World.news_of_block (heap_alloc_new wr _)) (one2 n s) (by unfold maxLen; omega) (by omega) (by simp; omega) ?_; intro v5 w5 o5 g5 n5)
        have HR : Hid (w5.ownsRow w.heap.size 48 2 v5 ((fs.take (k + 1)).filter (neP num)).length (fcells ((fs.take (k + 1)).filter (neP num)))) := by
          rw [Hid, HST.out, List.length_append, fcells_append]; exact o5
        have hb5 : Below w.heap.size w w5 := (hbr.alloc hbs _).grown g5 (by simp; omega) (fun j hj => (HO.out.lt j hj).1)
        obtain ⟨g', c', hv5⟩ : ∃ g' c', v5 = .slice (some ⟨g', 0, none⟩) ((fs.take (k + 1)).filter (neP num)).length c' := by
          rcases HR.out.2 with ⟨hv, _⟩ | ⟨g', cap', cur, hv, _⟩
          · have := n5.1 hv; simp at this
          · exact ⟨g', cap', hv⟩
        subst hv5
        clear o5 g5 HO n5
        go_wp2
        go_roundw
        case rel => exact ⟨k + 1, g', c', by omega, by go_num, rfl, HR.out, hb5⟩
        case measure => simp [intOf]; omega
    · have hke : k = fs.length := by omega
      subst hke
      simp only [List.take_length] at ho ⊢
      have HO : Hid _ := ho
      clear ho
      go_wp2
      go_ret
      exact ⟨_, _, rfl, HO.out, hbr⟩

end Go.Proofs.YtijlbceejpjfiaaDoor
