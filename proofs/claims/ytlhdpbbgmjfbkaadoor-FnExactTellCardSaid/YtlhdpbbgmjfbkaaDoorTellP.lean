/- What is told about a case, plainly, and how the answer lies. -/
import Derived.Test.YtlhdpbbgmjfbkaaDoorRState
import Derived.Test.YtlhdpbbgmjfbkaaDoorXLen
import Derived.Test.YtlhdpbbgmjfbkaaDoorTgPutT
import Derived.Test.YtlhdpbbgmjfbkaaDoorMarkF
import Derived.Test.YtlhdpbbgmjfbkaaDoorCLaw
import Derived.Sort.Grow
import Derived.Deep.RegionHeld3
import Derived.Deep.DeepCutAuto
namespace Go.Proofs.YtlhdpbbgmjfbkaaDoor
open Go.RowKit
set_option maxRecDepth 100000

def decI (n : Int) : List UInt8 := Lib.decDigits n.toNat
def tellS (c : Cs) : List UInt8 := (stV c.st).data.toList
theorem tellS_is (c : Cs) : (⟨(tellS c).toArray⟩ : ByteArray) = stV c.st := by simp [tellS]
def tellTags (c : Cs) (n : Int) : List Fld := [(1, decI n), (2, tellS c), (3, Mo.moneyT c.cl c.cur)]
def tellF (c : Cs) (n : Int) : List Fld := [(4, Tg.padT c.bk 12), (24, [54, 57, 49]), (48, Tg.putL (tellTags c n)), (49, Tg.padT c.cur 3)]
def tellOk (c : Cs) (n : Int) : Bool := caseOk c && decide (0 ≤ n ∧ n ≤ 9999)
def tellK (c : Cs) (n : Int) : Int := if tellOk c n = true then 1644 else 0
def tellL (c : Cs) (n : Int) : List Fld := if tellOk c n = true then tellF c n else []
theorem tell_no1 {c : Cs} (n : Int) (h : caseOk c = false) : tellOk c n = false := by simp [tellOk, h]
theorem tell_no2 (c : Cs) {n : Int} (h : ¬ (0 ≤ n ∧ n ≤ 9999)) : tellOk c n = false := by simp [tellOk]; omega
theorem tell_yes {c : Cs} {n : Int} (h : caseOk c = true) (g : 0 ≤ n ∧ n ≤ 9999) : tellOk c n = true := by simp [tellOk, h, g]
theorem tellK_no {c : Cs} {n : Int} (h : tellOk c n = false) : tellK c n = 0 := if_neg (by rw [h]; decide)
theorem tellL_no {c : Cs} {n : Int} (h : tellOk c n = false) : tellL c n = [] := if_neg (by rw [h]; decide)
theorem tellK_yes {c : Cs} {n : Int} (h : tellOk c n = true) : tellK c n = 1644 := if_pos h
theorem tellL_yes {c : Cs} {n : Int} (h : tellOk c n = true) : tellL c n = tellF c n := if_pos h
theorem tellL_len (c : Cs) (n : Int) : (tellL c n).length ≤ 4 := by
  unfold tellL
  split <;> simp [tellF]
/-- the answer: a message, its fields in a row of its own -/
def TeR (w : World) (kd : Int) (fs : List Fld) (ok : Bool) (e : Ending) (w' : World) : Prop :=
  ∃ ao cap, e = .returned (.tuple #[.agg #[.int .i64 kd, .slice ao fs.length cap], .bool ok]) ∧ w'.ownsRow w.heap.size 43 2 (.slice ao fs.length cap) fs.length (fcells fs) ∧ Below w.heap.size w w'
theorem tags_three {v : World} {bk : Nat} {a b c : Int} {A B C : List UInt8} (h0 : v.cell? ⟨bk, 0, none⟩ = some (.int .i64 a)) (h1 : v.cell? ⟨bk, 1, none⟩ = some (.string ⟨A.toArray⟩)) (h2 : v.cell? ⟨bk, 2, none⟩ = some (.int .i64 b)) (h3 : v.cell? ⟨bk, 3, none⟩ = some (.string ⟨B.toArray⟩)) (h4 : v.cell? ⟨bk, 4, none⟩ = some (.int .i64 c)) (h5 : v.cell? ⟨bk, 5, none⟩ = some (.string ⟨C.toArray⟩)) :
    FldsAt v (some ⟨bk, 0, none⟩) [(a, A), (b, B), (c, C)] := by
  refine .inr ⟨bk, 0, rfl, World.block_lt_of_cell? v _ h0, fun i hi => ?_⟩
  have hi' : i < 3 := by simpa using hi
  rcases (show i = 0 ∨ i = 1 ∨ i = 2 by omega) with rfl | rfl | rfl
  · exact ⟨h0, h1⟩
  · exact ⟨h2, h3⟩
  · exact ⟨h4, h5⟩
theorem tag_small {c : Cs} {n : Int} (hn : 0 ≤ n ∧ n ≤ 9999) : ∀ f ∈ tellTags c n, f.2.length ≤ 1099511627776 := by
  intro f hf
  simp only [tellTags, List.mem_cons, List.not_mem_nil, or_false] at hf
  rcases hf with rfl | rfl | rfl
  · have : (decI n).length ≤ 21 := Mo.dec_len _ (by omega)
    show (decI n).length ≤ _
    omega
  · show (tellS c).length ≤ _
    have h : (tellS c).length ≤ 100 := by
      unfold tellS stV
      split
      · rename_i h
        have h8 : c.st.toNat < 8 := by simp [stOk] at h; omega
        rcases below8 h8 with e | e | e | e | e | e | e | e <;> rw [e] <;> decide
      · simp
    omega
  · have : (Mo.moneyT c.cl c.cur).length ≤ 30 := Mo.moneyT_le
    show (Mo.moneyT c.cl c.cur).length ≤ _
    omega
theorem grow_below (w : World) (q : Nat) (os : Array Obj) : Below w.heap.size w (Go.Sort.grow (w.drewN q) os) :=
  ⟨rfl, rfl, rfl, by simp [Go.Sort.grow, World.drewN], fun k hk => by simp [Go.Sort.grow, World.drewN, Array.getElem?_append, hk]⟩
theorem itoaI {n : Int} {w : World} (h0 : 0 ≤ n) (h1 : n ≤ 1000000000000) (ht : Mo.Pow10 w) :
    Calls Tryd.prog 19 #[.int .i64 n] w fun e w' => e = .returned (.string ⟨(decI n).toArray⟩) ∧ Below w.heap.size w w' := by
  refine (Tryd.strconv_Itoa n (by omega) (by omega) w ht).mono ?_
  rintro e w' ⟨rfl, k, os, rfl⟩
  exact ⟨by rw [Lib.itoa, if_neg (by omega)]; rfl, grow_below w k os⟩
theorem decII {n : Int} (w : World) (h0 : 0 ≤ n) (h1 : n ≤ 1000000000000) :
    Calls Tryd.prog 13 #[.int .i64 n] w fun e w' => e = .returned (.string ⟨(decI n).toArray⟩) ∧ Below w.heap.size w w' := by
  obtain ⟨m, rfl⟩ := Int.eq_ofNat_of_zero_le h0
  refine (Mo.dec_up m w (by omega)).mono ?_
  rintro e w' ⟨rfl, rfl⟩
  exact ⟨rfl, Below.refl _ _⟩

end Go.Proofs.YtlhdpbbgmjfbkaaDoor
