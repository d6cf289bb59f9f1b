/- The contracts of the functions that lay a right field's bytes, the program's and the specification's. -/
import Derived.Test.YtopgcfgomappjaaDoorFForm
import Derived.Test.YtopgcfgomappjaaDoorFPut
import Derived.Test.YtopgcfgomappjaaDoorFPad
import Derived.Test.YtopgcfgomappjaaDoorPackP
import Derived.Handy
namespace Go.Proofs.YtopgcfgomappjaaDoor
open Go.RowKit

theorem formV1 {n : Int} (hk : fK n = 1) : formV n = .iface 84 (.agg #[.int .i64 (fS n)]) := by rw [formV, if_pos hk]
theorem formV2 {n : Int} (hk : fK n = 2) : formV n = .iface 82 (.agg #[.int .i64 (fS n)]) := by rw [formV, if_neg (by rw [hk]; decide), if_pos hk]
theorem formV3 {n : Int} (hk : fK n = 3) : formV n = .iface 87 (.agg #[.int .i64 (fS n)]) := by rw [formV, if_neg (by rw [hk]; decide), if_neg (by rw [hk]; decide), if_pos hk]
theorem formV4 {n : Int} (hk : fK n = 4) : formV n = .iface 86 (.agg #[.int .i64 (fS n), .int .i64 2]) := by rw [formV, if_neg (by rw [hk]; decide), if_neg (by rw [hk]; decide), if_neg (by rw [hk]; decide), if_pos hk]
theorem formV5 {n : Int} (hk : fK n = 5) : formV n = .iface 86 (.agg #[.int .i64 (fS n), .int .i64 3]) := by rw [formV, if_neg (by rw [hk]; decide), if_neg (by rw [hk]; decide), if_neg (by rw [hk]; decide), if_neg (by rw [hk]; decide), if_pos hk]
theorem put1 {n : Int} {d : List UInt8} (hk : fK n = 1) : putFld n d = pkD d := if_pos hk
theorem put2 {n : Int} {d : List UInt8} (hk : fK n = 2) : putFld n d = padT d.length 2 ++ pkD d := by rw [putFld, if_neg (by rw [hk]; decide), if_pos hk]
theorem put3 {n : Int} {d : List UInt8} (hk : fK n = 3) : putFld n d = d := by rw [putFld, if_neg (by rw [hk]; decide), if_neg (by rw [hk]; decide), if_neg (by rw [hk]; decide), if_neg (by rw [hk]; decide)]
theorem put4 {n : Int} {d : List UInt8} (hk : fK n = 4) : putFld n d = padT d.length 2 ++ d := by rw [putFld, if_neg (by rw [hk]; decide), if_neg (by rw [hk]; decide), if_pos hk]
theorem put5 {n : Int} {d : List UInt8} (hk : fK n = 5) : putFld n d = padT d.length 3 ++ d := by rw [putFld, if_neg (by rw [hk]; decide), if_neg (by rw [hk]; decide), if_neg (by rw [hk]; decide), if_pos hk]

theorem ta11 (s : Int) (w : World) : (Instr.typeAssert (.iface 84 (.agg #[.int .i64 s])) 50 84 true).run Tryd.prog w = .ok (.tuple #[.agg #[.int .i64 s], .bool true]) w := by kernel_rfl
theorem ta21 (s : Int) (w : World) : (Instr.typeAssert (.iface 82 (.agg #[.int .i64 s])) 50 84 true).run Tryd.prog w = .ok (.tuple #[.agg #[.int .i64 0], .bool false]) w := by kernel_rfl
theorem ta22 (s : Int) (w : World) : (Instr.typeAssert (.iface 82 (.agg #[.int .i64 s])) 50 82 true).run Tryd.prog w = .ok (.tuple #[.agg #[.int .i64 s], .bool true]) w := by kernel_rfl
theorem ta31 (s : Int) (w : World) : (Instr.typeAssert (.iface 87 (.agg #[.int .i64 s])) 50 84 true).run Tryd.prog w = .ok (.tuple #[.agg #[.int .i64 0], .bool false]) w := by kernel_rfl
theorem ta32 (s : Int) (w : World) : (Instr.typeAssert (.iface 87 (.agg #[.int .i64 s])) 50 82 true).run Tryd.prog w = .ok (.tuple #[.agg #[.int .i64 0], .bool false]) w := by kernel_rfl
theorem ta33 (s : Int) (w : World) : (Instr.typeAssert (.iface 87 (.agg #[.int .i64 s])) 50 87 true).run Tryd.prog w = .ok (.tuple #[.agg #[.int .i64 s], .bool true]) w := by kernel_rfl
theorem ta41 (s q : Int) (w : World) : (Instr.typeAssert (.iface 86 (.agg #[.int .i64 s, .int .i64 q])) 50 84 true).run Tryd.prog w = .ok (.tuple #[.agg #[.int .i64 0], .bool false]) w := by kernel_rfl
theorem ta42 (s q : Int) (w : World) : (Instr.typeAssert (.iface 86 (.agg #[.int .i64 s, .int .i64 q])) 50 82 true).run Tryd.prog w = .ok (.tuple #[.agg #[.int .i64 0], .bool false]) w := by kernel_rfl
theorem ta43 (s q : Int) (w : World) : (Instr.typeAssert (.iface 86 (.agg #[.int .i64 s, .int .i64 q])) 50 87 true).run Tryd.prog w = .ok (.tuple #[.agg #[.int .i64 0], .bool false]) w := by kernel_rfl
theorem ta44 (s q : Int) (w : World) : (Instr.typeAssert (.iface 86 (.agg #[.int .i64 s, .int .i64 q])) 50 86 true).run Tryd.prog w = .ok (.tuple #[.agg #[.int .i64 s, .int .i64 q], .bool true]) w := by kernel_rfl

set_option maxRecDepth 100000 in
set_option maxHeartbeats 1600000 in
theorem putData_any (n : Int) (d : List UInt8) (w : World) (hok : fieldOk n d = true) (ht : Pow10 w) :
    Calls Tryd.prog 28 #[formV n, .string ⟨d.toArray⟩] w fun e w' => e = .returned (.string ⟨(putFld n d).toArray⟩) ∧ Below w.heap.size w w' := by
  rcases fieldOk_K hok with ⟨hk, _, hw, hl⟩ | ⟨hk, _, hw, hl⟩ | ⟨hk, _, hw, hl⟩ | ⟨hk, _, hw, hl⟩ | ⟨hk, _, hw, hl⟩
  · rw [formV1 hk, put1 hk]
    have h1 := ta11 (fS n)
    clear hok hk ht
    go_enter Tryd.func28, Tryd.ntmps28
    go_wp2_with fail
    refine (packDigits_any d _ (by omega) hw).mono ?_
    rintro e w1 ⟨rfl, b1⟩
    go_wp2
    go_ret
    exact ⟨rfl, Below.trans (by go_grown) (b1.mono (by simp))⟩
  · rw [formV2 hk, put2 hk]
    have h1 := ta21 (fS n)
    have h2 := ta22 (fS n)
    have bel : Below w.heap.size w (w.alloc (.cells #[.int .i64 (fS n)] 82)) := by go_grown
    have ht1 := ht.below bel
    have HB : Hid _ := bel
    clear hok hk ht bel
    go_enter Tryd.func28, Tryd.ntmps28
    go_wp2_with fail
    refine (iPadNum_any _ _ _ ht1).mono ?_
    rintro e w1 ⟨rfl, b1⟩
    go_wp2_with fail
    refine (packDigits_any d _ (by omega) hw).mono ?_
    rintro e w2 ⟨rfl, b2⟩
    have hpl := padT_l d.length 2
    have hkl := pkD_len d
    have HQ : Hid (pkL (padE d) ((d.length + 1) / 2) = pkD d) := rfl
    rw [HQ.out]
    have bb := next (HB.out.trans (b1.mono HB.out.size)) b2
    clear b1 b2 ht1
    obtain ⟨p, hp⟩ : ∃ p, padT (↑d.length) 2 = p := ⟨_, rfl⟩
    rw [hp] at hpl ⊢
    have HP : Hid _ := hp
    clear hp
    obtain ⟨q, hq⟩ : ∃ q, pkD d = q := ⟨_, rfl⟩
    rw [hq] at hkl ⊢
    have hql : q.length ≤ 100 := by omega
    have HQ2 : Hid _ := hq
    clear hq hkl HQ
    go_wp2
    go_ret
    exact ⟨one_str (by rw [HP.out, HQ2.out]; exact ba_append p q), bb⟩
  · rw [formV3 hk, put3 hk]
    have h1 := ta31 (fS n)
    have h2 := ta32 (fS n)
    have h3 := ta33 (fS n)
    clear hok hk ht
    go_enter Tryd.func28, Tryd.ntmps28
    go_wp2
    go_ret
    exact ⟨rfl, by go_grown⟩
  · rw [formV4 hk, put4 hk]
    have h1 := ta41 (fS n) 2
    have h2 := ta42 (fS n) 2
    have h3 := ta43 (fS n) 2
    have h4 := ta44 (fS n) 2
    have bel : Below w.heap.size w (w.alloc (.cells #[.int .i64 (fS n), .int .i64 2] 86)) := by go_grown
    have ht1 := ht.below bel
    have HB : Hid _ := bel
    clear hok hk ht bel
    go_enter Tryd.func28, Tryd.ntmps28
    go_wp2_with fail
    refine (iPadNum_any _ _ _ ht1).mono ?_
    rintro e w1 ⟨rfl, b1⟩
    have hpl := padT_l d.length 2
    have bb := HB.out.trans (b1.mono HB.out.size)
    clear b1 ht1
    obtain ⟨p, hp⟩ : ∃ p, padT (↑d.length) 2 = p := ⟨_, rfl⟩
    rw [hp] at hpl ⊢
    have HP : Hid _ := hp
    clear hp
    go_wp2
    go_ret
    exact ⟨one_str (by rw [HP.out]; exact ba_append p d), bb⟩
  · rw [formV5 hk, put5 hk]
    have h1 := ta41 (fS n) 3
    have h2 := ta42 (fS n) 3
    have h3 := ta43 (fS n) 3
    have h4 := ta44 (fS n) 3
    have bel : Below w.heap.size w (w.alloc (.cells #[.int .i64 (fS n), .int .i64 3] 86)) := by go_grown
    have ht1 := ht.below bel
    have HB : Hid _ := bel
    clear hok hk ht bel
    go_enter Tryd.func28, Tryd.ntmps28
    go_wp2_with fail
    refine (iPadNum_any _ _ _ ht1).mono ?_
    rintro e w1 ⟨rfl, b1⟩
    have hpl := padT_l d.length 3
    have bb := HB.out.trans (b1.mono HB.out.size)
    clear b1 ht1
    obtain ⟨p, hp⟩ : ∃ p, padT (↑d.length) 3 = p := ⟨_, rfl⟩
    rw [hp] at hpl ⊢
    have HP : Hid _ := hp
    clear hp
    go_wp2
    go_ret
    exact ⟨one_str (by rw [HP.out]; exact ba_append p d), bb⟩

end Go.Proofs.YtopgcfgomappjaaDoor
