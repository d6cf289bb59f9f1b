/- Joined: FDis. -/
import Derived.Test.YtpjfigjgamlcdaaDoorJFnExactCaseDo0a
import Derived.Test.YtpjfigjgamlcdaaDoorKFnExactCaseDoCLaw
import Derived.Test.YtpjfigjgamlcdaaDoorKFnExactCaseDoCaseQ
import Derived.Test.YtpjfigjgamlcdaaDoorJFnExactCaseDo1a
/- A dispute as it lies in a block: a case, an act, a day, a list of holidays, entries; what stays of it, what is written into it. -/
namespace Go.Proofs.YtpjfigjgamlcdaaDoor
open Go.RowKit
set_option maxRecDepth 100000

structure DB (b : Nat) (c : Cs) (a : Ac) (t : Int) (o e : Value) (u : World) : Prop where
  cb : CB b 0 c u
  a0 : u.cell? ⟨b, 12, none⟩ = some (.int .i64 a.kind)
  a1 : u.cell? ⟨b, 13, none⟩ = some (.int .i64 a.am)
  a2 : u.cell? ⟨b, 14, none⟩ = some (.int .i64 a.rsn)
  td : u.cell? ⟨b, 15, none⟩ = some (.int .i64 t)
  ho : u.cell? ⟨b, 16, none⟩ = some o
  he : u.cell? ⟨b, 17, none⟩ = some e
  fz : FZ b 0 u
  fe : u.frozen? ⟨b, 17, none⟩ = false
theorem DB.below {b : Nat} {c : Cs} {a : Ac} {t : Int} {o e : Value} {u u' : World} (h : DB b c a t o e u) (k : Below u.heap.size u u') : DB b c a t o e u' := by
  have l := h.cb.lt
  exact ⟨h.cb.below k, (k.cell (p := ⟨b, 12, none⟩) l).trans h.a0, (k.cell (p := ⟨b, 13, none⟩) l).trans h.a1, (k.cell (p := ⟨b, 14, none⟩) l).trans h.a2, (k.cell (p := ⟨b, 15, none⟩) l).trans h.td, (k.cell (p := ⟨b, 16, none⟩) l).trans h.ho, (k.cell (p := ⟨b, 17, none⟩) l).trans h.he, h.fz.below l k, (k.frozen (p := ⟨b, 17, none⟩) l).trans h.fe⟩
theorem DB.grown {b : Nat} {c : Cs} {a : Ac} {t : Int} {o e : Value} {u u' : World} {row : Option Nat} (h : DB b c a t o e u) (g : u.grownBy u' row) (hr : some b ≠ row) : DB b c a t o e u' := by
  have l := h.cb.lt
  exact ⟨h.cb.grown g hr, (g.cell_far ⟨b, 12, none⟩ l hr).trans h.a0, (g.cell_far ⟨b, 13, none⟩ l hr).trans h.a1, (g.cell_far ⟨b, 14, none⟩ l hr).trans h.a2, (g.cell_far ⟨b, 15, none⟩ l hr).trans h.td, (g.cell_far ⟨b, 16, none⟩ l hr).trans h.ho, (g.cell_far ⟨b, 17, none⟩ l hr).trans h.he, h.fz.grown l g hr, (g.frozen_far ⟨b, 17, none⟩ l hr).trans h.fe⟩
theorem DB.set4 {b : Nat} {c : Cs} {a : Ac} {t : Int} {o e : Value} {u : World} (h : DB b c a t o e u) (x : Int) : DB b ⟨c.iss, c.acq, c.cur, c.am, x, c.rsn, c.cl, c.bk, c.fee, c.cop, c.sta, c.due⟩ a t o e (u.setCell ⟨b, 4, none⟩ (.int .i64 x)) := by
  obtain ⟨⟨f0, f1, f2, f3, f4, f5, f6, f7, f8, f9, f10, f11⟩, a0, a1, a2, td, ho, he, ⟨z0, z1, z2, z3, z4, z5, z6, z7, z8, z9, z10, z11⟩, fe⟩ := h
  simp only [Nat.zero_add] at f0 f1 f2 f3 f4 f5 f6 f7 f8 f9 f10 f11 z0 z1 z2 z3 z4 z5 z6 z7 z8 z9 z10 z11
  exact ⟨⟨by simp [go_sem, f0], by simp [go_sem, f1], by simp [go_sem, f2], by simp [go_sem, f3], by simp [go_sem, f4], by simp [go_sem, f5], by simp [go_sem, f6], by simp [go_sem, f7], by simp [go_sem, f8], by simp [go_sem, f9], by simp [go_sem, f10], by simp [go_sem, f11]⟩, by simp [go_sem, a0], by simp [go_sem, a1], by simp [go_sem, a2], by simp [go_sem, td], by simp [go_sem, ho], by simp [go_sem, he], ⟨by simp [go_sem, z0], by simp [go_sem, z1], by simp [go_sem, z2], by simp [go_sem, z3], by simp [go_sem, z4], by simp [go_sem, z5], by simp [go_sem, z6], by simp [go_sem, z7], by simp [go_sem, z8], by simp [go_sem, z9], by simp [go_sem, z10], by simp [go_sem, z11]⟩, by simp [go_sem, fe]⟩
theorem DB.set5 {b : Nat} {c : Cs} {a : Ac} {t : Int} {o e : Value} {u : World} (h : DB b c a t o e u) (x : Int) : DB b ⟨c.iss, c.acq, c.cur, c.am, c.st, x, c.cl, c.bk, c.fee, c.cop, c.sta, c.due⟩ a t o e (u.setCell ⟨b, 5, none⟩ (.int .i64 x)) := by
  obtain ⟨⟨f0, f1, f2, f3, f4, f5, f6, f7, f8, f9, f10, f11⟩, a0, a1, a2, td, ho, he, ⟨z0, z1, z2, z3, z4, z5, z6, z7, z8, z9, z10, z11⟩, fe⟩ := h
  simp only [Nat.zero_add] at f0 f1 f2 f3 f4 f5 f6 f7 f8 f9 f10 f11 z0 z1 z2 z3 z4 z5 z6 z7 z8 z9 z10 z11
  exact ⟨⟨by simp [go_sem, f0], by simp [go_sem, f1], by simp [go_sem, f2], by simp [go_sem, f3], by simp [go_sem, f4], by simp [go_sem, f5], by simp [go_sem, f6], by simp [go_sem, f7], by simp [go_sem, f8], by simp [go_sem, f9], by simp [go_sem, f10], by simp [go_sem, f11]⟩, by simp [go_sem, a0], by simp [go_sem, a1], by simp [go_sem, a2], by simp [go_sem, td], by simp [go_sem, ho], by simp [go_sem, he], ⟨by simp [go_sem, z0], by simp [go_sem, z1], by simp [go_sem, z2], by simp [go_sem, z3], by simp [go_sem, z4], by simp [go_sem, z5], by simp [go_sem, z6], by simp [go_sem, z7], by simp [go_sem, z8], by simp [go_sem, z9], by simp [go_sem, z10], by simp [go_sem, z11]⟩, by simp [go_sem, fe]⟩
theorem DB.set6 {b : Nat} {c : Cs} {a : Ac} {t : Int} {o e : Value} {u : World} (h : DB b c a t o e u) (x : Int) : DB b ⟨c.iss, c.acq, c.cur, c.am, c.st, c.rsn, x, c.bk, c.fee, c.cop, c.sta, c.due⟩ a t o e (u.setCell ⟨b, 6, none⟩ (.int .i64 x)) := by
  obtain ⟨⟨f0, f1, f2, f3, f4, f5, f6, f7, f8, f9, f10, f11⟩, a0, a1, a2, td, ho, he, ⟨z0, z1, z2, z3, z4, z5, z6, z7, z8, z9, z10, z11⟩, fe⟩ := h
  simp only [Nat.zero_add] at f0 f1 f2 f3 f4 f5 f6 f7 f8 f9 f10 f11 z0 z1 z2 z3 z4 z5 z6 z7 z8 z9 z10 z11
  exact ⟨⟨by simp [go_sem, f0], by simp [go_sem, f1], by simp [go_sem, f2], by simp [go_sem, f3], by simp [go_sem, f4], by simp [go_sem, f5], by simp [go_sem, f6], by simp [go_sem, f7], by simp [go_sem, f8], by simp [go_sem, f9], by simp [go_sem, f10], by simp [go_sem, f11]⟩, by simp [go_sem, a0], by simp [go_sem, a1], by simp [go_sem, a2], by simp [go_sem, td], by simp [go_sem, ho], by simp [go_sem, he], ⟨by simp [go_sem, z0], by simp [go_sem, z1], by simp [go_sem, z2], by simp [go_sem, z3], by simp [go_sem, z4], by simp [go_sem, z5], by simp [go_sem, z6], by simp [go_sem, z7], by simp [go_sem, z8], by simp [go_sem, z9], by simp [go_sem, z10], by simp [go_sem, z11]⟩, by simp [go_sem, fe]⟩
theorem DB.set7 {b : Nat} {c : Cs} {a : Ac} {t : Int} {o e : Value} {u : World} (h : DB b c a t o e u) (x : Int) : DB b ⟨c.iss, c.acq, c.cur, c.am, c.st, c.rsn, c.cl, x, c.fee, c.cop, c.sta, c.due⟩ a t o e (u.setCell ⟨b, 7, none⟩ (.int .i64 x)) := by
  obtain ⟨⟨f0, f1, f2, f3, f4, f5, f6, f7, f8, f9, f10, f11⟩, a0, a1, a2, td, ho, he, ⟨z0, z1, z2, z3, z4, z5, z6, z7, z8, z9, z10, z11⟩, fe⟩ := h
  simp only [Nat.zero_add] at f0 f1 f2 f3 f4 f5 f6 f7 f8 f9 f10 f11 z0 z1 z2 z3 z4 z5 z6 z7 z8 z9 z10 z11
  exact ⟨⟨by simp [go_sem, f0], by simp [go_sem, f1], by simp [go_sem, f2], by simp [go_sem, f3], by simp [go_sem, f4], by simp [go_sem, f5], by simp [go_sem, f6], by simp [go_sem, f7], by simp [go_sem, f8], by simp [go_sem, f9], by simp [go_sem, f10], by simp [go_sem, f11]⟩, by simp [go_sem, a0], by simp [go_sem, a1], by simp [go_sem, a2], by simp [go_sem, td], by simp [go_sem, ho], by simp [go_sem, he], ⟨by simp [go_sem, z0], by simp [go_sem, z1], by simp [go_sem, z2], by simp [go_sem, z3], by simp [go_sem, z4], by simp [go_sem, z5], by simp [go_sem, z6], by simp [go_sem, z7], by simp [go_sem, z8], by simp [go_sem, z9], by simp [go_sem, z10], by simp [go_sem, z11]⟩, by simp [go_sem, fe]⟩
theorem DB.set8 {b : Nat} {c : Cs} {a : Ac} {t : Int} {o e : Value} {u : World} (h : DB b c a t o e u) (x : Int) : DB b ⟨c.iss, c.acq, c.cur, c.am, c.st, c.rsn, c.cl, c.bk, x, c.cop, c.sta, c.due⟩ a t o e (u.setCell ⟨b, 8, none⟩ (.int .i64 x)) := by
  obtain ⟨⟨f0, f1, f2, f3, f4, f5, f6, f7, f8, f9, f10, f11⟩, a0, a1, a2, td, ho, he, ⟨z0, z1, z2, z3, z4, z5, z6, z7, z8, z9, z10, z11⟩, fe⟩ := h
  simp only [Nat.zero_add] at f0 f1 f2 f3 f4 f5 f6 f7 f8 f9 f10 f11 z0 z1 z2 z3 z4 z5 z6 z7 z8 z9 z10 z11
  exact ⟨⟨by simp [go_sem, f0], by simp [go_sem, f1], by simp [go_sem, f2], by simp [go_sem, f3], by simp [go_sem, f4], by simp [go_sem, f5], by simp [go_sem, f6], by simp [go_sem, f7], by simp [go_sem, f8], by simp [go_sem, f9], by simp [go_sem, f10], by simp [go_sem, f11]⟩, by simp [go_sem, a0], by simp [go_sem, a1], by simp [go_sem, a2], by simp [go_sem, td], by simp [go_sem, ho], by simp [go_sem, he], ⟨by simp [go_sem, z0], by simp [go_sem, z1], by simp [go_sem, z2], by simp [go_sem, z3], by simp [go_sem, z4], by simp [go_sem, z5], by simp [go_sem, z6], by simp [go_sem, z7], by simp [go_sem, z8], by simp [go_sem, z9], by simp [go_sem, z10], by simp [go_sem, z11]⟩, by simp [go_sem, fe]⟩
theorem DB.set11 {b : Nat} {c : Cs} {a : Ac} {t : Int} {o e : Value} {u : World} (h : DB b c a t o e u) (x : Int) : DB b ⟨c.iss, c.acq, c.cur, c.am, c.st, c.rsn, c.cl, c.bk, c.fee, c.cop, c.sta, x⟩ a t o e (u.setCell ⟨b, 11, none⟩ (.int .i64 x)) := by
  obtain ⟨⟨f0, f1, f2, f3, f4, f5, f6, f7, f8, f9, f10, f11⟩, a0, a1, a2, td, ho, he, ⟨z0, z1, z2, z3, z4, z5, z6, z7, z8, z9, z10, z11⟩, fe⟩ := h
  simp only [Nat.zero_add] at f0 f1 f2 f3 f4 f5 f6 f7 f8 f9 f10 f11 z0 z1 z2 z3 z4 z5 z6 z7 z8 z9 z10 z11
  exact ⟨⟨by simp [go_sem, f0], by simp [go_sem, f1], by simp [go_sem, f2], by simp [go_sem, f3], by simp [go_sem, f4], by simp [go_sem, f5], by simp [go_sem, f6], by simp [go_sem, f7], by simp [go_sem, f8], by simp [go_sem, f9], by simp [go_sem, f10], by simp [go_sem, f11]⟩, by simp [go_sem, a0], by simp [go_sem, a1], by simp [go_sem, a2], by simp [go_sem, td], by simp [go_sem, ho], by simp [go_sem, he], ⟨by simp [go_sem, z0], by simp [go_sem, z1], by simp [go_sem, z2], by simp [go_sem, z3], by simp [go_sem, z4], by simp [go_sem, z5], by simp [go_sem, z6], by simp [go_sem, z7], by simp [go_sem, z8], by simp [go_sem, z9], by simp [go_sem, z10], by simp [go_sem, z11]⟩, by simp [go_sem, fe]⟩
theorem DB.set9 {b : Nat} {c : Cs} {a : Ac} {t : Int} {o e : Value} {u : World} (h : DB b c a t o e u) (x : Bool) : DB b ⟨c.iss, c.acq, c.cur, c.am, c.st, c.rsn, c.cl, c.bk, c.fee, x, c.sta, c.due⟩ a t o e (u.setCell ⟨b, 9, none⟩ (.bool x)) := by
  obtain ⟨⟨f0, f1, f2, f3, f4, f5, f6, f7, f8, f9, f10, f11⟩, a0, a1, a2, td, ho, he, ⟨z0, z1, z2, z3, z4, z5, z6, z7, z8, z9, z10, z11⟩, fe⟩ := h
  simp only [Nat.zero_add] at f0 f1 f2 f3 f4 f5 f6 f7 f8 f9 f10 f11 z0 z1 z2 z3 z4 z5 z6 z7 z8 z9 z10 z11
  exact ⟨⟨by simp [go_sem, f0], by simp [go_sem, f1], by simp [go_sem, f2], by simp [go_sem, f3], by simp [go_sem, f4], by simp [go_sem, f5], by simp [go_sem, f6], by simp [go_sem, f7], by simp [go_sem, f8], by simp [go_sem, f9], by simp [go_sem, f10], by simp [go_sem, f11]⟩, by simp [go_sem, a0], by simp [go_sem, a1], by simp [go_sem, a2], by simp [go_sem, td], by simp [go_sem, ho], by simp [go_sem, he], ⟨by simp [go_sem, z0], by simp [go_sem, z1], by simp [go_sem, z2], by simp [go_sem, z3], by simp [go_sem, z4], by simp [go_sem, z5], by simp [go_sem, z6], by simp [go_sem, z7], by simp [go_sem, z8], by simp [go_sem, z9], by simp [go_sem, z10], by simp [go_sem, z11]⟩, by simp [go_sem, fe]⟩
theorem DB.set17 {b : Nat} {c : Cs} {a : Ac} {t : Int} {o e : Value} {u : World} (h : DB b c a t o e u) (x : Value) : DB b c a t o x (u.setCell ⟨b, 17, none⟩ x) := by
  obtain ⟨⟨f0, f1, f2, f3, f4, f5, f6, f7, f8, f9, f10, f11⟩, a0, a1, a2, td, ho, he, ⟨z0, z1, z2, z3, z4, z5, z6, z7, z8, z9, z10, z11⟩, fe⟩ := h
  simp only [Nat.zero_add] at f0 f1 f2 f3 f4 f5 f6 f7 f8 f9 f10 f11 z0 z1 z2 z3 z4 z5 z6 z7 z8 z9 z10 z11
  exact ⟨⟨by simp [go_sem, f0], by simp [go_sem, f1], by simp [go_sem, f2], by simp [go_sem, f3], by simp [go_sem, f4], by simp [go_sem, f5], by simp [go_sem, f6], by simp [go_sem, f7], by simp [go_sem, f8], by simp [go_sem, f9], by simp [go_sem, f10], by simp [go_sem, f11]⟩, by simp [go_sem, a0], by simp [go_sem, a1], by simp [go_sem, a2], by simp [go_sem, td], by simp [go_sem, ho], by simp [go_sem, he], ⟨by simp [go_sem, z0], by simp [go_sem, z1], by simp [go_sem, z2], by simp [go_sem, z3], by simp [go_sem, z4], by simp [go_sem, z5], by simp [go_sem, z6], by simp [go_sem, z7], by simp [go_sem, z8], by simp [go_sem, z9], by simp [go_sem, z10], by simp [go_sem, z11]⟩, by simp [go_sem, fe]⟩

/-- what stands ahead of a dispute's block: the holidays, the table of the steps' days -/
structure Env (b : Nat) (ao : Option Addr) (zs : List Int) (u : World) : Prop where
  offs : IntsIn b u ao zs
  tab : StepTab u
  gb : 0 < b
theorem StepTab.under {b : Nat} {w w' : World} (h : StepTab w) (hb : Below b w w') (hg : 0 < b) : StepTab w' := by
  have e : Tryd.prog.globalNamed "loop.example/g00126/impl.stepDays" = some 0 := by kernel_rfl
  unfold StepTab Lib.TabIs World.var? at *
  rw [e] at h ⊢
  simp only [Option.bind_some] at h ⊢
  rw [hb.block _ hg]
  exact h
theorem Env.keep {b : Nat} {ao : Option Addr} {zs : List Int} {u u' : World} (h : Env b ao zs u) (k : Below b u u') : Env b ao zs u' := ⟨h.offs.keep k, h.tab.under k h.gb, h.gb⟩
/-- a dispute: its case, its entries (one's own), what stands ahead of it -/
structure DS (b : Nat) (ao : Option Addr) (cp : Nat) (zs : List Int) (a : Ac) (t : Int) (c : Cs) (es : List En) (v : Value) (u : World) : Prop where
  db : DB b c a t (.slice ao zs.length cp) v u
  own : u.ownsRow (b + 1) 36 4 v es.length (ecells es)
  env : Env b ao zs u
theorem DS.lt {b : Nat} {ao : Option Addr} {cp : Nat} {zs : List Int} {a : Ac} {t : Int} {c : Cs} {es : List En} {v : Value} {u : World} (h : DS b ao cp zs a t c es v u) : b < u.heap.size := h.db.cb.lt
theorem DS.below {b : Nat} {ao : Option Addr} {cp : Nat} {zs : List Int} {a : Ac} {t : Int} {c : Cs} {es : List En} {v : Value} {u u' : World} (h : DS b ao cp zs a t c es v u) (k : Below u.heap.size u u') : DS b ao cp zs a t c es v u' :=
  ⟨h.db.below k, keepL h.own k, h.env.keep (k.mono (Nat.le_of_lt h.lt))⟩
theorem DS.offs {b : Nat} {ao : Option Addr} {cp : Nat} {zs : List Int} {a : Ac} {t : Int} {c : Cs} {es : List En} {v : Value} {u : World} (h : DS b ao cp zs a t c es v u) : IntsAt u ao zs := h.env.offs.at (Nat.le_of_lt h.lt)
theorem bel_at (u : World) (b i : Nat) (x : Value) : Below b u (u.setCell ⟨b, i, none⟩ x) := Below.setCell (Below.refl b u) (show b ≤ b from Nat.le_refl b) x
theorem own_ne {b n : Nat} {t : TypeId} {v : Value} {xs : List Value} {u : World} (h : u.ownsRow (b + 1) t 4 v n xs) : ∀ g, v.ownBlock = some g → g ≠ b := fun g hg => by have := (h.lt g hg).1; omega
theorem DS.set4 {b : Nat} {ao : Option Addr} {cp : Nat} {zs : List Int} {a : Ac} {t : Int} {c : Cs} {es : List En} {v : Value} {u : World} (h : DS b ao cp zs a t c es v u) (x : Int) : DS b ao cp zs a t ⟨c.iss, c.acq, c.cur, c.am, x, c.rsn, c.cl, c.bk, c.fee, c.cop, c.sta, c.due⟩ es v (u.setCell ⟨b, 4, none⟩ (.int .i64 x)) :=
  ⟨h.db.set4 x, keepSetL h.own _ _ (own_ne h.own), h.env.keep (bel_at _ _ _ _)⟩
theorem DS.set5 {b : Nat} {ao : Option Addr} {cp : Nat} {zs : List Int} {a : Ac} {t : Int} {c : Cs} {es : List En} {v : Value} {u : World} (h : DS b ao cp zs a t c es v u) (x : Int) : DS b ao cp zs a t ⟨c.iss, c.acq, c.cur, c.am, c.st, x, c.cl, c.bk, c.fee, c.cop, c.sta, c.due⟩ es v (u.setCell ⟨b, 5, none⟩ (.int .i64 x)) :=
  ⟨h.db.set5 x, keepSetL h.own _ _ (own_ne h.own), h.env.keep (bel_at _ _ _ _)⟩
theorem DS.set6 {b : Nat} {ao : Option Addr} {cp : Nat} {zs : List Int} {a : Ac} {t : Int} {c : Cs} {es : List En} {v : Value} {u : World} (h : DS b ao cp zs a t c es v u) (x : Int) : DS b ao cp zs a t ⟨c.iss, c.acq, c.cur, c.am, c.st, c.rsn, x, c.bk, c.fee, c.cop, c.sta, c.due⟩ es v (u.setCell ⟨b, 6, none⟩ (.int .i64 x)) :=
  ⟨h.db.set6 x, keepSetL h.own _ _ (own_ne h.own), h.env.keep (bel_at _ _ _ _)⟩
theorem DS.set7 {b : Nat} {ao : Option Addr} {cp : Nat} {zs : List Int} {a : Ac} {t : Int} {c : Cs} {es : List En} {v : Value} {u : World} (h : DS b ao cp zs a t c es v u) (x : Int) : DS b ao cp zs a t ⟨c.iss, c.acq, c.cur, c.am, c.st, c.rsn, c.cl, x, c.fee, c.cop, c.sta, c.due⟩ es v (u.setCell ⟨b, 7, none⟩ (.int .i64 x)) :=
  ⟨h.db.set7 x, keepSetL h.own _ _ (own_ne h.own), h.env.keep (bel_at _ _ _ _)⟩
theorem DS.set8 {b : Nat} {ao : Option Addr} {cp : Nat} {zs : List Int} {a : Ac} {t : Int} {c : Cs} {es : List En} {v : Value} {u : World} (h : DS b ao cp zs a t c es v u) (x : Int) : DS b ao cp zs a t ⟨c.iss, c.acq, c.cur, c.am, c.st, c.rsn, c.cl, c.bk, x, c.cop, c.sta, c.due⟩ es v (u.setCell ⟨b, 8, none⟩ (.int .i64 x)) :=
  ⟨h.db.set8 x, keepSetL h.own _ _ (own_ne h.own), h.env.keep (bel_at _ _ _ _)⟩
theorem DS.set11 {b : Nat} {ao : Option Addr} {cp : Nat} {zs : List Int} {a : Ac} {t : Int} {c : Cs} {es : List En} {v : Value} {u : World} (h : DS b ao cp zs a t c es v u) (x : Int) : DS b ao cp zs a t ⟨c.iss, c.acq, c.cur, c.am, c.st, c.rsn, c.cl, c.bk, c.fee, c.cop, c.sta, x⟩ es v (u.setCell ⟨b, 11, none⟩ (.int .i64 x)) :=
  ⟨h.db.set11 x, keepSetL h.own _ _ (own_ne h.own), h.env.keep (bel_at _ _ _ _)⟩
theorem DS.set9 {b : Nat} {ao : Option Addr} {cp : Nat} {zs : List Int} {a : Ac} {t : Int} {c : Cs} {es : List En} {v : Value} {u : World} (h : DS b ao cp zs a t c es v u) (x : Bool) : DS b ao cp zs a t ⟨c.iss, c.acq, c.cur, c.am, c.st, c.rsn, c.cl, c.bk, c.fee, x, c.sta, c.due⟩ es v (u.setCell ⟨b, 9, none⟩ (.bool x)) :=
  ⟨h.db.set9 x, keepSetL h.own _ _ (own_ne h.own), h.env.keep (bel_at _ _ _ _)⟩

/-- what a step of a dispute leaves -/
def DR (b : Nat) (ao : Option Addr) (cp : Nat) (zs : List Int) (a : Ac) (t : Int) (w : World) (r : Value) (c : Cs) (es : List En) (e : Ending) (w' : World) : Prop :=
  e = .returned r ∧ (∃ v, DS b ao cp zs a t c es v w') ∧ Below b w w'

end Go.Proofs.YtpjfigjgamlcdaaDoor
