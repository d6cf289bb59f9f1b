/- The contract of the program's TagSet. -/
import Derived.Test.YtijlbceejpjfiaaDoorFTagCut
import Derived.Test.YtijlbceejpjfiaaDoorSTagSet
import Derived.Test.YtijlbceejpjfiaaDoorFJoin
import Derived.Test.YtijlbceejpjfiaaDoorFTagsOk
namespace Go.Proofs.YtijlbceejpjfiaaDoor
open Go.RowKit

theorem lens3 (fs : List Fld) (num : Int) (d : List UInt8) : (fs.filter (ltP num)).length + [(num, d)].length + (fs.filter (gtP num)).length = (tset fs num d).length := by
  unfold tset; simp only [List.length_append]

set_option maxRecDepth 100000 in
set_option maxHeartbeats 3200000 in
theorem iTagSet_any (ao : Option Addr) (cap : Nat) (fs : List Fld) (num : Int) (d : List UInt8) (w : World) (hz : FldsAt w ao fs) (hn : fs.length ≤ 1048576) (hd : ∀ f ∈ fs, f.2.length ≤ 1099511627776) (hl : d.length ≤ 1099511627776) :
    Calls Tryd.prog 15 #[.slice ao fs.length cap, .int .i64 num, .string ⟨d.toArray⟩] w (Sets w (tsetL fs num d) (tsetOk fs num d)) := by
  have hmf : ∀ (fn : Fn) (first cap : Array Value) (w : World), (Instr.makeFunc fn first cap).run Tryd.prog w = .ok (.func fn first cap) w := fun _ _ _ _ => rfl
  have bel1 : Below w.heap.size w (w.alloc (.cells #[.int .i64 num] 3)) := by go_grown
  have hz1 := hz.below bel1
  have hc1 : (w.alloc (.cells #[.int .i64 num] 3)).cell? ⟨w.heap.size, 0, none⟩ = some (.int .i64 num) := by simp
  cases hok : tagsOk fs
  · obtain ⟨e1, e2⟩ := tset_no1 (num := num) (d := d) hok
    rw [e1, e2]
    go_enter Tryd.func15, Tryd.ntmps15
    go_wp2_with fail
    refine (iTagsOk_any _ _ _ _ hz1 (by omega) hd).mono ?_
    rintro e w1 ⟨rfl, b1⟩
    rw [hok]
    have q1 := next bel1 b1
    have z1 := hz.below q1
    clear b1 bel1 hz1 hc1 e1 e2 hok
    go_wp2_with fail
    refine (copyTags_any _ _ _ _ z1 (by omega) hd).mono ?_
    rintro e w2 ⟨g, rfl, o2, b2⟩
    have q2 := next q1 b2
    have HO : Hid _ := lowerRow o2 q1.size
    clear o2 b2 z1 q1
    go_wp2
    go_ret2
    exact ⟨_, _, rfl, HO.out, q2⟩
  have HK : Hid _ := hok
  have hf1 := List.length_filter_le (ltP num) fs
  have hf2 := List.length_filter_le (gtP num) fs
  have hll := tset_len fs num d
  have HL3 : Hid _ := lens3 fs num d
  go_enter Tryd.func15, Tryd.ntmps15
  go_wp2_with fail
  refine (iTagsOk_any _ _ _ _ hz1 (by omega) hd).mono ?_
  rintro e w1 ⟨rfl, b1⟩
  rw [HK.out]
  have q1 := next bel1 b1
  have z1 := hz.below q1
  have hc2 := (b1.cell (p := ⟨w.heap.size, 0, none⟩) (by simp)).trans hc1
  clear b1 bel1 hz1 hc1 hok
  go_wp2_with fail
  refine (keep_ltP _ _ _ num w.heap.size _ z1 (by omega) hc2).mono ?_
  rintro e w2 ⟨a2, c2, rfl, o2, b2⟩
  have q2 := next q1 b2
  have z2 := hz.below q2
  have hb2 : w.heap.size < w1.heap.size := World.block_lt_of_cell? w1 _ hc2
  have hc3 := (b2.cell (p := ⟨w.heap.size, 0, none⟩) hb2).trans hc2
  have f2 := flds_any o2
  clear b2 o2 q1 z1 hc2
  go_wp2_with fail
  refine (keep_gtP _ _ _ num w.heap.size _ z2 (by omega) hc3).mono ?_
  rintro e w3 ⟨a3, c3, rfl, o3, b3⟩
  have q3 := next q2 b3
  have hb3 : w.heap.size < w2.heap.size := World.block_lt_of_cell? w2 _ hc3
  have hc4 := (b3.cell (p := ⟨w.heap.size, 0, none⟩) hb3).trans hc3
  have f23 := f2.below b3
  have f3 := flds_any o3
  have hb4 : w.heap.size < w3.heap.size := World.block_lt_of_cell? w3 _ hc4
  clear b3 o3 q2 z2 hc3 f2
  have HF2 : Hid (FldsAt w3 a2 (fs.filter (ltP num))) := f23
  have HF3 : Hid (FldsAt w3 a3 (fs.filter (gtP num))) := f3
  clear f23 f3
  go_wp2_with fail
  have HT : Three ((w3.alloc (.cells #[.int .i64 num, .string ⟨d.toArray⟩] 48)).alloc (.cells #[.slice a2 (fs.filter (ltP num)).length c2, .slice (some ⟨w3.heap.size, 0, none⟩) 1 1, .slice a3 (fs.filter (gtP num)).length c3] 24)) (w3.heap.size + 1) a2 c2 (some ⟨w3.heap.size, 0, none⟩) 1 a3 c3 (fs.filter (ltP num)) [(num, d)] (fs.filter (gtP num)) := by
    refine ⟨by simp [go_sem], by simp [go_sem], by simp [go_sem], HF2.out.below (by go_grown), one_at (by simp [go_sem]) (by simp [go_sem]), HF3.out.below (by go_grown)⟩
  refine (join_any _ _ _ _ _ _ _ _ _ _ _ HT (by omega) (by simp) (by omega)).mono ?_
  rintro e w4 ⟨v4, rfl, o4, b4⟩
  rw [HL3.out] at o4
  have o4' : w4.ownsRow _ 48 2 v4 (tset fs num d).length (fcells (tset fs num d)) := o4
  obtain ⟨a4, c4, hv4, f4, -⟩ := flds_of_own' o4'
  subst hv4
  have q4 : Below w.heap.size w w4 := q3.trans (Below.trans (by go_grown) (b4.mono (by simp; omega)))
  have z4 := hz.below q4
  clear HT o4 o4' b4 q3 HF2 HF3 hc4
  have hd2 : ∀ f ∈ tset fs num d, f.2.length ≤ 1099511627776 := fun f hf => by
    rcases tset_mem hf with h | h
    · exact hd f h
    · rw [h]; exact hl
  cases hok2 : tagsOk (tset fs num d)
  · obtain ⟨e1, e2⟩ := tset_no2 hok2
    have E1 : Hid _ := e1
    have E2 : Hid _ := e2
    go_wp2_with fail
    refine (iTagsOk_any _ _ _ _ f4 (by omega) hd2).mono ?_
    rintro e w5 ⟨rfl, b5⟩
    rw [hok2]
    have q5 := next q4 b5
    have z5 := hz.below q5
    clear b5 q4 z4 e1 e2 hok2 f4
    go_wp2_with fail
    refine (copyTags_any _ _ _ _ z5 (by omega) hd).mono ?_
    rintro e w6 ⟨g, rfl, o6, b6⟩
    have q6 := next q5 b6
    have HO : Hid _ := lowerRow o6 q5.size
    clear o6 b6 z5 q5
    go_wp2
    go_ret2
    rw [E1.out, E2.out]; exact ⟨_, _, rfl, HO.out, q6⟩
  · obtain ⟨e1, e2⟩ := tset_yes HK.out hok2
    have E1 : Hid _ := e1
    have E2 : Hid _ := e2
    go_wp2_with fail
    refine (iTagsOk_any _ _ _ _ f4 (by omega) hd2).mono ?_
    rintro e w5 ⟨rfl, b5⟩
    rw [hok2]
    have q5 := next q4 b5
    have f5 := f4.below b5
    clear b5 q4 z4 e1 e2 hok2 f4
    go_wp2_with fail
    refine (copyTags_any _ _ _ _ f5 (by omega) hd2).mono ?_
    rintro e w6 ⟨g, rfl, o6, b6⟩
    have q6 := next q5 b6
    have HO : Hid _ := lowerRow o6 q5.size
    clear o6 b6 f5 q5
    go_wp2
    go_ret2
    rw [E1.out, E2.out]; exact ⟨_, _, rfl, HO.out, q6⟩

end Go.Proofs.YtijlbceejpjfiaaDoor
