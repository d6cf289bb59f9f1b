/- The contract of the specification's l11Do, over those of its steps. -/
import Derived.Test.YtlonjjliochbhaaKE1BkDayS
import Derived.Test.YtlonjjliochbhaaKE1BkDoS
import Derived.Test.YtlonjjliochbhaaKE1BkNumW
namespace Go.Proofs.Ytlonjjliochbhaa
open Go.RowKit
set_option maxRecDepth 100000

def dayT : List UInt8 := [100, 97, 121]
def authW : List UInt8 := [97, 117, 116, 104]
def payT : List UInt8 := [112, 97, 121]
def actT : List UInt8 := [97, 99, 116]
def isDay (ws : Recs) : Bool := decide (nth ws 0 = dayT) && (decide (ws.length = 2) && decide (0 ≤ numW (nth ws 1)))
def isAuth (ws : Recs) : Bool := decide (nth ws 0 = authW) && decide (ws.length = 5)
def isPay (ws : Recs) : Bool := decide (nth ws 0 = payT) && decide (ws.length = 5)
def isAct (ws : Recs) : Bool := decide (nth ws 0 = actT) && (decide (ws.length = 5) && decide (0 ≤ kindW (nth ws 2)))
def authB (F : Fns) (b : Bk) (ref : List UInt8) (n0 n1 n2 : Int) : Bk × Int :=
  if F.addOk b.az ⟨ref, n0, n1, n2, b.today, false⟩ = true then (⟨b.today, b.off, F.add b.az ⟨ref, n0, n1, n2, b.today, false⟩, b.cs, b.ls, b.log⟩, 0) else (b, 3)
/-- what a line does to a book; 'Pay' and 'Act': its two great steps -/
def LineRel (F : Fns) (Pay : Bk → Int → Int → Int → Int → Bk × Int → Prop) (Act : Bk → Int → Ac → Bk × Int) (b : Bk) (line : List UInt8) (r : Bk × Int) : Prop :=
  if isDay (wordsW line) = true then r = dayB F b (numW (nth (wordsW line) 1))
  else if isAuth (wordsW line) = true then (if numsOk ((wordsW line).drop 2) = true then r = authB F b (nth (wordsW line) 1) (numW (nth (wordsW line) 2)) (numW (nth (wordsW line) 3)) (numW (nth (wordsW line) 4)) else r = (b, 1))
  else if isPay (wordsW line) = true then (if numsOk ((wordsW line).drop 1) = true then Pay b (numW (nth (wordsW line) 1)) (numW (nth (wordsW line) 2)) (numW (nth (wordsW line) 3)) (numW (nth (wordsW line) 4)) r else r = (b, 1))
  else if isAct (wordsW line) = true then (if numsOk [nth (wordsW line) 1, nth (wordsW line) 3, nth (wordsW line) 4] = true then r = Act b (numW (nth (wordsW line) 1)) ⟨kindW (nth (wordsW line) 2), numW (nth (wordsW line) 3), numW (nth (wordsW line) 4)⟩ else r = (b, 1))
  else r = (b, 1)
structure Steps (Pre : Bk → Prop) (Pay : Bk → Int → Int → Int → Int → Bk × Int → Prop) (Act : Bk → Int → Ac → Bk × Int) : Prop where
  pay : ∀ (b : Bk) (p : Bp) (g k : Nat) (n0 n1 n2 n3 : Int) (w : World), BookAt w b p → AhB p w.heap.size → Pre b → w.cell? ⟨g, 0, none⟩ = some (.int .i64 n0) → w.cell? ⟨g, 1, none⟩ = some (.int .i64 n1) → w.cell? ⟨g, 2, none⟩ = some (.int .i64 n2) → w.cell? ⟨g, 3, none⟩ = some (.int .i64 n3) → n3 < 1000000000000000000 → -1 ≤ n3 →
    Calls Try.prog 41 #[bkv b p, .slice (some ⟨g, 0, none⟩) 4 k] w fun e w' => ∃ r, Pay b n0 n1 n2 n3 r ∧ BdR w p r.1 r.2 e w'
  act : ∀ (b : Bk) (p : Bp) (i : Int) (x : Ac) (w : World), BookAt w b p → AhB p w.heap.size → Pre b → Calls Try.prog 43 #[bkv b p, .int .i64 i, av x] w (BdR w p (Act b i x).1 (Act b i x).2)

theorem Fresh.mono {a : Option Addr} {n m : Nat} (h : Fresh a n) (hm : m ≤ n) : Fresh a m := fun x hx => by have := h x hx; omega
theorem AhB.mono {p : Bp} {n m : Nat} (h : AhB p n) (hm : n ≤ m) : AhB p m := ⟨h.o.mono hm, h.a.mono hm, h.c.mono hm, h.l.mono hm, h.g.mono hm⟩
theorem cell_put6 {u : World} {R : Nat} {p : Addr} {v : Value} (h : u.cell? p = some v) (hne : p.block ≠ R) (x0 x1 x2 x3 x4 x5 : Value) :
    ((((((u.setCell ⟨R, 0, none⟩ x0).setCell ⟨R, 1, none⟩ x1).setCell ⟨R, 2, none⟩ x2).setCell ⟨R, 3, none⟩ x3).setCell ⟨R, 4, none⟩ x4).setCell ⟨R, 5, none⟩ x5).cell? p = some v := by
  have s : ∀ (y : World) (i : Nat) (x : Value), y.cell? p = some v → (y.setCell ⟨R, i, none⟩ x).cell? p = some v := fun y i x hy => ((set_grown y R i x).cell_far p (World.block_lt_of_cell? y _ hy) (by simp; exact hne)).trans hy
  exact s _ _ _ (s _ _ _ (s _ _ _ (s _ _ _ (s _ _ _ (s _ _ _ h)))))
/-- a step's answer, handed on -/
theorem bd_end {w u u4 : World} {p q : Bp} {b' : Bk} {code : Int} {R : Nat} (hah : AhB p w.heap.size) (hwu : Below w.heap.size w u) (hR : w.heap.size ≤ R) (hRu : R < u.heap.size) (hb : BookAt u4 b' q) (hg : q.g = p.g) (hgc : q.gc = p.gc)
    (hpt : q.o = p.o ∧ (q.a = p.a ∨ Fresh q.a u.heap.size) ∧ (q.c = p.c ∨ Fresh q.c u.heap.size) ∧ (q.l = p.l ∨ Fresh q.l u.heap.size)) (b4 : Below u.heap.size u u4) (x0 x1 x2 x3 x4 x5 : Value) :
    BdR w p b' code (.returned (.tuple #[bkv b' q, .int .i64 code])) ((((((u4.setCell ⟨R, 0, none⟩ x0).setCell ⟨R, 1, none⟩ x1).setCell ⟨R, 2, none⟩ x2).setCell ⟨R, 3, none⟩ x3).setCell ⟨R, 4, none⟩ x4).setCell ⟨R, 5, none⟩ x5) :=
  ⟨q, rfl, hb.put6 (offB_of hah hg hpt hR hRu) _ _ _ _ _ _, hg, hgc, ⟨hpt.1, hpt.2.1.imp id (fun h => h.mono hwu.size), hpt.2.2.1.imp id (fun h => h.mono hwu.size), hpt.2.2.2.imp id (fun h => h.mono hwu.size)⟩, put6_below hR (next hwu b4) _ _ _ _ _ _⟩

end Go.Proofs.Ytlonjjliochbhaa
