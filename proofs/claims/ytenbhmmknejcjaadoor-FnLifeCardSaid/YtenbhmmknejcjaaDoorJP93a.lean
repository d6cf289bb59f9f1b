/- Joined: FDis, CaseI, CaseT, CaseU, CaseE. -/
import Derived.Test.YtenbhmmknejcjaaDoorJP90a
import Derived.Test.YtenbhmmknejcjaaDoorKP9CaseQ
import Derived.Test.YtenbhmmknejcjaaDoorJP91a
/- A dispute as it lies in a block: a case, an act, a day, a list of holidays, entries; what stays of it, what is written into it. -/
namespace Go.Proofs.YtenbhmmknejcjaaDoor
open Go.RowKit
set_option maxRecDepth 100000

structure DB (b : Nat) (c : Cs) (a : Ac) (t : Int) (o e : Value) (u : World) : Prop where
  cb : CB b 0 c u
  a0 : u.cell? ⟨b, 12, none⟩ = some (.int .i64 a.kind)
  a1 : u.cell? ⟨b, 13, none⟩ = some (.int .i64 a.am)
  a2 : u.cell? ⟨b, 14, none⟩ = some (.int .i64 a.rsn)
  td : u.cell? ⟨b, 15, none⟩ = some (.int .i64 t)
  ho : u.cell? ⟨b, 16, none⟩ = some o
  he : u.cell? ⟨b, 17, none⟩ = some e
  fz : FZ b 0 u
  fe : u.frozen? ⟨b, 17, none⟩ = false
theorem DB.below {b : Nat} {c : Cs} {a : Ac} {t : Int} {o e : Value} {u u' : World} (h : DB b c a t o e u) (k : Below u.heap.size u u') : DB b c a t o e u' := by
  have l := h.cb.lt
  exact ⟨h.cb.below k, (k.cell (p := ⟨b, 12, none⟩) l).trans h.a0, (k.cell (p := ⟨b, 13, none⟩) l).trans h.a1, (k.cell (p := ⟨b, 14, none⟩) l).trans h.a2, (k.cell (p := ⟨b, 15, none⟩) l).trans h.td, (k.cell (p := ⟨b, 16, none⟩) l).trans h.ho, (k.cell (p := ⟨b, 17, none⟩) l).trans h.he, h.fz.below l k, (k.frozen (p := ⟨b, 17, none⟩) l).trans h.fe⟩
theorem DB.grown {b : Nat} {c : Cs} {a : Ac} {t : Int} {o e : Value} {u u' : World} {row : Option Nat} (h : DB b c a t o e u) (g : u.grownBy u' row) (hr : some b ≠ row) : DB b c a t o e u' := by
  have l := h.cb.lt
  exact ⟨h.cb.grown g hr, (g.cell_far ⟨b, 12, none⟩ l hr).trans h.a0, (g.cell_far ⟨b, 13, none⟩ l hr).trans h.a1, (g.cell_far ⟨b, 14, none⟩ l hr).trans h.a2, (g.cell_far ⟨b, 15, none⟩ l hr).trans h.td, (g.cell_far ⟨b, 16, none⟩ l hr).trans h.ho, (g.cell_far ⟨b, 17, none⟩ l hr).trans h.he, h.fz.grown l g hr, (g.frozen_far ⟨b, 17, none⟩ l hr).trans h.fe⟩
theorem DB.set4 {b : Nat} {c : Cs} {a : Ac} {t : Int} {o e : Value} {u : World} (h : DB b c a t o e u) (x : Int) : DB b ⟨c.iss, c.acq, c.cur, c.am, x, c.rsn, c.cl, c.bk, c.fee, c.cop, c.sta, c.due⟩ a t o e (u.setCell ⟨b, 4, none⟩ (.int .i64 x)) := by
  obtain ⟨⟨f0, f1, f2, f3, f4, f5, f6, f7, f8, f9, f10, f11⟩, a0, a1, a2, td, ho, he, ⟨z0, z1, z2, z3, z4, z5, z6, z7, z8, z9, z10, z11⟩, fe⟩ := h
  simp only [Nat.zero_add] at f0 f1 f2 f3 f4 f5 f6 f7 f8 f9 f10 f11 z0 z1 z2 z3 z4 z5 z6 z7 z8 z9 z10 z11
  exact ⟨⟨by simp [go_sem, f0], by simp [go_sem, f1], by simp [go_sem, f2], by simp [go_sem, f3], by simp [go_sem, f4], by simp [go_sem, f5], by simp [go_sem, f6], by simp [go_sem, f7], by simp [go_sem, f8], by simp [go_sem, f9], by simp [go_sem, f10], by simp [go_sem, f11]⟩, by simp [go_sem, a0], by simp [go_sem, a1], by simp [go_sem, a2], by simp [go_sem, td], by simp [go_sem, ho], by simp [go_sem, he], ⟨by simp [go_sem, z0], by simp [go_sem, z1], by simp [go_sem, z2], by simp [go_sem, z3], by simp [go_sem, z4], by simp [go_sem, z5], by simp [go_sem, z6], by simp [go_sem, z7], by simp [go_sem, z8], by simp [go_sem, z9], by simp [go_sem, z10], by simp [go_sem, z11]⟩, by simp [go_sem, fe]⟩
theorem DB.set5 {b : Nat} {c : Cs} {a : Ac} {t : Int} {o e : Value} {u : World} (h : DB b c a t o e u) (x : Int) : DB b ⟨c.iss, c.acq, c.cur, c.am, c.st, x, c.cl, c.bk, c.fee, c.cop, c.sta, c.due⟩ a t o e (u.setCell ⟨b, 5, none⟩ (.int .i64 x)) := by
  obtain ⟨⟨f0, f1, f2, f3, f4, f5, f6, f7, f8, f9, f10, f11⟩, a0, a1, a2, td, ho, he, ⟨z0, z1, z2, z3, z4, z5, z6, z7, z8, z9, z10, z11⟩, fe⟩ := h
  simp only [Nat.zero_add] at f0 f1 f2 f3 f4 f5 f6 f7 f8 f9 f10 f11 z0 z1 z2 z3 z4 z5 z6 z7 z8 z9 z10 z11
  exact ⟨⟨by simp [go_sem, f0], by simp [go_sem, f1], by simp [go_sem, f2], by simp [go_sem, f3], by simp [go_sem, f4], by simp [go_sem, f5], by simp [go_sem, f6], by simp [go_sem, f7], by simp [go_sem, f8], by simp [go_sem, f9], by simp [go_sem, f10], by simp [go_sem, f11]⟩, by simp [go_sem, a0], by simp [go_sem, a1], by simp [go_sem, a2], by simp [go_sem, td], by simp [go_sem, ho], by simp [go_sem, he], ⟨by simp [go_sem, z0], by simp [go_sem, z1], by simp [go_sem, z2], by simp [go_sem, z3], by simp [go_sem, z4], by simp [go_sem, z5], by simp [go_sem, z6], by simp [go_sem, z7], by simp [go_sem, z8], by simp [go_sem, z9], by simp [go_sem, z10], by simp [go_sem, z11]⟩, by simp [go_sem, fe]⟩
theorem DB.set6 {b : Nat} {c : Cs} {a : Ac} {t : Int} {o e : Value} {u : World} (h : DB b c a t o e u) (x : Int) : DB b ⟨c.iss, c.acq, c.cur, c.am, c.st, c.rsn, x, c.bk, c.fee, c.cop, c.sta, c.due⟩ a t o e (u.setCell ⟨b, 6, none⟩ (.int .i64 x)) := by
  obtain ⟨⟨f0, f1, f2, f3, f4, f5, f6, f7, f8, f9, f10, f11⟩, a0, a1, a2, td, ho, he, ⟨z0, z1, z2, z3, z4, z5, z6, z7, z8, z9, z10, z11⟩, fe⟩ := h
  simp only [Nat.zero_add] at f0 f1 f2 f3 f4 f5 f6 f7 f8 f9 f10 f11 z0 z1 z2 z3 z4 z5 z6 z7 z8 z9 z10 z11
  exact ⟨⟨by simp [go_sem, f0], by simp [go_sem, f1], by simp [go_sem, f2], by simp [go_sem, f3], by simp [go_sem, f4], by simp [go_sem, f5], by simp [go_sem, f6], by simp [go_sem, f7], by simp [go_sem, f8], by simp [go_sem, f9], by simp [go_sem, f10], by simp [go_sem, f11]⟩, by simp [go_sem, a0], by simp [go_sem, a1], by simp [go_sem, a2], by simp [go_sem, td], by simp [go_sem, ho], by simp [go_sem, he], ⟨by simp [go_sem, z0], by simp [go_sem, z1], by simp [go_sem, z2], by simp [go_sem, z3], by simp [go_sem, z4], by simp [go_sem, z5], by simp [go_sem, z6], by simp [go_sem, z7], by simp [go_sem, z8], by simp [go_sem, z9], by simp [go_sem, z10], by simp [go_sem, z11]⟩, by simp [go_sem, fe]⟩
theorem DB.set7 {b : Nat} {c : Cs} {a : Ac} {t : Int} {o e : Value} {u : World} (h : DB b c a t o e u) (x : Int) : DB b ⟨c.iss, c.acq, c.cur, c.am, c.st, c.rsn, c.cl, x, c.fee, c.cop, c.sta, c.due⟩ a t o e (u.setCell ⟨b, 7, none⟩ (.int .i64 x)) := by
  obtain ⟨⟨f0, f1, f2, f3, f4, f5, f6, f7, f8, f9, f10, f11⟩, a0, a1, a2, td, ho, he, ⟨z0, z1, z2, z3, z4, z5, z6, z7, z8, z9, z10, z11⟩, fe⟩ := h
  simp only [Nat.zero_add] at f0 f1 f2 f3 f4 f5 f6 f7 f8 f9 f10 f11 z0 z1 z2 z3 z4 z5 z6 z7 z8 z9 z10 z11
  exact ⟨⟨by simp [go_sem, f0], by simp [go_sem, f1], by simp [go_sem, f2], by simp [go_sem, f3], by simp [go_sem, f4], by simp [go_sem, f5], by simp [go_sem, f6], by simp [go_sem, f7], by simp [go_sem, f8], by simp [go_sem, f9], by simp [go_sem, f10], by simp [go_sem, f11]⟩, by simp [go_sem, a0], by simp [go_sem, a1], by simp [go_sem, a2], by simp [go_sem, td], by simp [go_sem, ho], by simp [go_sem, he], ⟨by simp [go_sem, z0], by simp [go_sem, z1], by simp [go_sem, z2], by simp [go_sem, z3], by simp [go_sem, z4], by simp [go_sem, z5], by simp [go_sem, z6], by simp [go_sem, z7], by simp [go_sem, z8], by simp [go_sem, z9], by simp [go_sem, z10], by simp [go_sem, z11]⟩, by simp [go_sem, fe]⟩
theorem DB.set8 {b : Nat} {c : Cs} {a : Ac} {t : Int} {o e : Value} {u : World} (h : DB b c a t o e u) (x : Int) : DB b ⟨c.iss, c.acq, c.cur, c.am, c.st, c.rsn, c.cl, c.bk, x, c.cop, c.sta, c.due⟩ a t o e (u.setCell ⟨b, 8, none⟩ (.int .i64 x)) := by
  obtain ⟨⟨f0, f1, f2, f3, f4, f5, f6, f7, f8, f9, f10, f11⟩, a0, a1, a2, td, ho, he, ⟨z0, z1, z2, z3, z4, z5, z6, z7, z8, z9, z10, z11⟩, fe⟩ := h
  simp only [Nat.zero_add] at f0 f1 f2 f3 f4 f5 f6 f7 f8 f9 f10 f11 z0 z1 z2 z3 z4 z5 z6 z7 z8 z9 z10 z11
  exact ⟨⟨by simp [go_sem, f0], by simp [go_sem, f1], by simp [go_sem, f2], by simp [go_sem, f3], by simp [go_sem, f4], by simp [go_sem, f5], by simp [go_sem, f6], by simp [go_sem, f7], by simp [go_sem, f8], by simp [go_sem, f9], by simp [go_sem, f10], by simp [go_sem, f11]⟩, by simp [go_sem, a0], by simp [go_sem, a1], by simp [go_sem, a2], by simp [go_sem, td], by simp [go_sem, ho], by simp [go_sem, he], ⟨by simp [go_sem, z0], by simp [go_sem, z1], by simp [go_sem, z2], by simp [go_sem, z3], by simp [go_sem, z4], by simp [go_sem, z5], by simp [go_sem, z6], by simp [go_sem, z7], by simp [go_sem, z8], by simp [go_sem, z9], by simp [go_sem, z10], by simp [go_sem, z11]⟩, by simp [go_sem, fe]⟩
theorem DB.set11 {b : Nat} {c : Cs} {a : Ac} {t : Int} {o e : Value} {u : World} (h : DB b c a t o e u) (x : Int) : DB b ⟨c.iss, c.acq, c.cur, c.am, c.st, c.rsn, c.cl, c.bk, c.fee, c.cop, c.sta, x⟩ a t o e (u.setCell ⟨b, 11, none⟩ (.int .i64 x)) := by
  obtain ⟨⟨f0, f1, f2, f3, f4, f5, f6, f7, f8, f9, f10, f11⟩, a0, a1, a2, td, ho, he, ⟨z0, z1, z2, z3, z4, z5, z6, z7, z8, z9, z10, z11⟩, fe⟩ := h
  simp only [Nat.zero_add] at f0 f1 f2 f3 f4 f5 f6 f7 f8 f9 f10 f11 z0 z1 z2 z3 z4 z5 z6 z7 z8 z9 z10 z11
  exact ⟨⟨by simp [go_sem, f0], by simp [go_sem, f1], by simp [go_sem, f2], by simp [go_sem, f3], by simp [go_sem, f4], by simp [go_sem, f5], by simp [go_sem, f6], by simp [go_sem, f7], by simp [go_sem, f8], by simp [go_sem, f9], by simp [go_sem, f10], by simp [go_sem, f11]⟩, by simp [go_sem, a0], by simp [go_sem, a1], by simp [go_sem, a2], by simp [go_sem, td], by simp [go_sem, ho], by simp [go_sem, he], ⟨by simp [go_sem, z0], by simp [go_sem, z1], by simp [go_sem, z2], by simp [go_sem, z3], by simp [go_sem, z4], by simp [go_sem, z5], by simp [go_sem, z6], by simp [go_sem, z7], by simp [go_sem, z8], by simp [go_sem, z9], by simp [go_sem, z10], by simp [go_sem, z11]⟩, by simp [go_sem, fe]⟩
theorem DB.set9 {b : Nat} {c : Cs} {a : Ac} {t : Int} {o e : Value} {u : World} (h : DB b c a t o e u) (x : Bool) : DB b ⟨c.iss, c.acq, c.cur, c.am, c.st, c.rsn, c.cl, c.bk, c.fee, x, c.sta, c.due⟩ a t o e (u.setCell ⟨b, 9, none⟩ (.bool x)) := by
  obtain ⟨⟨f0, f1, f2, f3, f4, f5, f6, f7, f8, f9, f10, f11⟩, a0, a1, a2, td, ho, he, ⟨z0, z1, z2, z3, z4, z5, z6, z7, z8, z9, z10, z11⟩, fe⟩ := h
  simp only [Nat.zero_add] at f0 f1 f2 f3 f4 f5 f6 f7 f8 f9 f10 f11 z0 z1 z2 z3 z4 z5 z6 z7 z8 z9 z10 z11
  exact ⟨⟨by simp [go_sem, f0], by simp [go_sem, f1], by simp [go_sem, f2], by simp [go_sem, f3], by simp [go_sem, f4], by simp [go_sem, f5], by simp [go_sem, f6], by simp [go_sem, f7], by simp [go_sem, f8], by simp [go_sem, f9], by simp [go_sem, f10], by simp [go_sem, f11]⟩, by simp [go_sem, a0], by simp [go_sem, a1], by simp [go_sem, a2], by simp [go_sem, td], by simp [go_sem, ho], by simp [go_sem, he], ⟨by simp [go_sem, z0], by simp [go_sem, z1], by simp [go_sem, z2], by simp [go_sem, z3], by simp [go_sem, z4], by simp [go_sem, z5], by simp [go_sem, z6], by simp [go_sem, z7], by simp [go_sem, z8], by simp [go_sem, z9], by simp [go_sem, z10], by simp [go_sem, z11]⟩, by simp [go_sem, fe]⟩
theorem DB.set17 {b : Nat} {c : Cs} {a : Ac} {t : Int} {o e : Value} {u : World} (h : DB b c a t o e u) (x : Value) : DB b c a t o x (u.setCell ⟨b, 17, none⟩ x) := by
  obtain ⟨⟨f0, f1, f2, f3, f4, f5, f6, f7, f8, f9, f10, f11⟩, a0, a1, a2, td, ho, he, ⟨z0, z1, z2, z3, z4, z5, z6, z7, z8, z9, z10, z11⟩, fe⟩ := h
  simp only [Nat.zero_add] at f0 f1 f2 f3 f4 f5 f6 f7 f8 f9 f10 f11 z0 z1 z2 z3 z4 z5 z6 z7 z8 z9 z10 z11
  exact ⟨⟨by simp [go_sem, f0], by simp [go_sem, f1], by simp [go_sem, f2], by simp [go_sem, f3], by simp [go_sem, f4], by simp [go_sem, f5], by simp [go_sem, f6], by simp [go_sem, f7], by simp [go_sem, f8], by simp [go_sem, f9], by simp [go_sem, f10], by simp [go_sem, f11]⟩, by simp [go_sem, a0], by simp [go_sem, a1], by simp [go_sem, a2], by simp [go_sem, td], by simp [go_sem, ho], by simp [go_sem, he], ⟨by simp [go_sem, z0], by simp [go_sem, z1], by simp [go_sem, z2], by simp [go_sem, z3], by simp [go_sem, z4], by simp [go_sem, z5], by simp [go_sem, z6], by simp [go_sem, z7], by simp [go_sem, z8], by simp [go_sem, z9], by simp [go_sem, z10], by simp [go_sem, z11]⟩, by simp [go_sem, fe]⟩

/-- what stands ahead of a dispute's block: the holidays, the table of the steps' days -/
structure Env (b : Nat) (ao : Option Addr) (zs : List Int) (u : World) : Prop where
  offs : IntsIn b u ao zs
  tab : StepTab u
  gb : 0 < b
theorem StepTab.under {b : Nat} {w w' : World} (h : StepTab w) (hb : Below b w w') (hg : 0 < b) : StepTab w' := by
  have e : Tryd.prog.globalNamed "loop.example/g00126/impl.stepDays" = some 0 := by kernel_rfl
  unfold StepTab Lib.TabIs World.var? at *
  rw [e] at h ⊢
  simp only [Option.bind_some] at h ⊢
  rw [hb.block _ hg]
  exact h
theorem Env.keep {b : Nat} {ao : Option Addr} {zs : List Int} {u u' : World} (h : Env b ao zs u) (k : Below b u u') : Env b ao zs u' := ⟨h.offs.keep k, h.tab.under k h.gb, h.gb⟩
/-- a dispute: its case, its entries (one's own), what stands ahead of it -/
structure DS (b : Nat) (ao : Option Addr) (cp : Nat) (zs : List Int) (a : Ac) (t : Int) (c : Cs) (es : List En) (v : Value) (u : World) : Prop where
  db : DB b c a t (.slice ao zs.length cp) v u
  own : u.ownsRow (b + 1) 36 4 v es.length (ecells es)
  env : Env b ao zs u
theorem DS.lt {b : Nat} {ao : Option Addr} {cp : Nat} {zs : List Int} {a : Ac} {t : Int} {c : Cs} {es : List En} {v : Value} {u : World} (h : DS b ao cp zs a t c es v u) : b < u.heap.size := h.db.cb.lt
theorem DS.below {b : Nat} {ao : Option Addr} {cp : Nat} {zs : List Int} {a : Ac} {t : Int} {c : Cs} {es : List En} {v : Value} {u u' : World} (h : DS b ao cp zs a t c es v u) (k : Below u.heap.size u u') : DS b ao cp zs a t c es v u' :=
  ⟨h.db.below k, keepL h.own k, h.env.keep (k.mono (Nat.le_of_lt h.lt))⟩
theorem DS.offs {b : Nat} {ao : Option Addr} {cp : Nat} {zs : List Int} {a : Ac} {t : Int} {c : Cs} {es : List En} {v : Value} {u : World} (h : DS b ao cp zs a t c es v u) : IntsAt u ao zs := h.env.offs.at (Nat.le_of_lt h.lt)
theorem bel_at (u : World) (b i : Nat) (x : Value) : Below b u (u.setCell ⟨b, i, none⟩ x) := Below.setCell (Below.refl b u) (show b ≤ b from Nat.le_refl b) x
theorem own_ne {b n : Nat} {t : TypeId} {v : Value} {xs : List Value} {u : World} (h : u.ownsRow (b + 1) t 4 v n xs) : ∀ g, v.ownBlock = some g → g ≠ b := fun g hg => by have := (h.lt g hg).1; omega
theorem DS.set4 {b : Nat} {ao : Option Addr} {cp : Nat} {zs : List Int} {a : Ac} {t : Int} {c : Cs} {es : List En} {v : Value} {u : World} (h : DS b ao cp zs a t c es v u) (x : Int) : DS b ao cp zs a t ⟨c.iss, c.acq, c.cur, c.am, x, c.rsn, c.cl, c.bk, c.fee, c.cop, c.sta, c.due⟩ es v (u.setCell ⟨b, 4, none⟩ (.int .i64 x)) :=
  ⟨h.db.set4 x, keepSetL h.own _ _ (own_ne h.own), h.env.keep (bel_at _ _ _ _)⟩
theorem DS.set5 {b : Nat} {ao : Option Addr} {cp : Nat} {zs : List Int} {a : Ac} {t : Int} {c : Cs} {es : List En} {v : Value} {u : World} (h : DS b ao cp zs a t c es v u) (x : Int) : DS b ao cp zs a t ⟨c.iss, c.acq, c.cur, c.am, c.st, x, c.cl, c.bk, c.fee, c.cop, c.sta, c.due⟩ es v (u.setCell ⟨b, 5, none⟩ (.int .i64 x)) :=
  ⟨h.db.set5 x, keepSetL h.own _ _ (own_ne h.own), h.env.keep (bel_at _ _ _ _)⟩
theorem DS.set6 {b : Nat} {ao : Option Addr} {cp : Nat} {zs : List Int} {a : Ac} {t : Int} {c : Cs} {es : List En} {v : Value} {u : World} (h : DS b ao cp zs a t c es v u) (x : Int) : DS b ao cp zs a t ⟨c.iss, c.acq, c.cur, c.am, c.st, c.rsn, x, c.bk, c.fee, c.cop, c.sta, c.due⟩ es v (u.setCell ⟨b, 6, none⟩ (.int .i64 x)) :=
  ⟨h.db.set6 x, keepSetL h.own _ _ (own_ne h.own), h.env.keep (bel_at _ _ _ _)⟩
theorem DS.set7 {b : Nat} {ao : Option Addr} {cp : Nat} {zs : List Int} {a : Ac} {t : Int} {c : Cs} {es : List En} {v : Value} {u : World} (h : DS b ao cp zs a t c es v u) (x : Int) : DS b ao cp zs a t ⟨c.iss, c.acq, c.cur, c.am, c.st, c.rsn, c.cl, x, c.fee, c.cop, c.sta, c.due⟩ es v (u.setCell ⟨b, 7, none⟩ (.int .i64 x)) :=
  ⟨h.db.set7 x, keepSetL h.own _ _ (own_ne h.own), h.env.keep (bel_at _ _ _ _)⟩
theorem DS.set8 {b : Nat} {ao : Option Addr} {cp : Nat} {zs : List Int} {a : Ac} {t : Int} {c : Cs} {es : List En} {v : Value} {u : World} (h : DS b ao cp zs a t c es v u) (x : Int) : DS b ao cp zs a t ⟨c.iss, c.acq, c.cur, c.am, c.st, c.rsn, c.cl, c.bk, x, c.cop, c.sta, c.due⟩ es v (u.setCell ⟨b, 8, none⟩ (.int .i64 x)) :=
  ⟨h.db.set8 x, keepSetL h.own _ _ (own_ne h.own), h.env.keep (bel_at _ _ _ _)⟩
theorem DS.set11 {b : Nat} {ao : Option Addr} {cp : Nat} {zs : List Int} {a : Ac} {t : Int} {c : Cs} {es : List En} {v : Value} {u : World} (h : DS b ao cp zs a t c es v u) (x : Int) : DS b ao cp zs a t ⟨c.iss, c.acq, c.cur, c.am, c.st, c.rsn, c.cl, c.bk, c.fee, c.cop, c.sta, x⟩ es v (u.setCell ⟨b, 11, none⟩ (.int .i64 x)) :=
  ⟨h.db.set11 x, keepSetL h.own _ _ (own_ne h.own), h.env.keep (bel_at _ _ _ _)⟩
theorem DS.set9 {b : Nat} {ao : Option Addr} {cp : Nat} {zs : List Int} {a : Ac} {t : Int} {c : Cs} {es : List En} {v : Value} {u : World} (h : DS b ao cp zs a t c es v u) (x : Bool) : DS b ao cp zs a t ⟨c.iss, c.acq, c.cur, c.am, c.st, c.rsn, c.cl, c.bk, c.fee, x, c.sta, c.due⟩ es v (u.setCell ⟨b, 9, none⟩ (.bool x)) :=
  ⟨h.db.set9 x, keepSetL h.own _ _ (own_ne h.own), h.env.keep (bel_at _ _ _ _)⟩

/-- what a step of a dispute leaves -/
def DR (b : Nat) (ao : Option Addr) (cp : Nat) (zs : List Int) (a : Ac) (t : Int) (w : World) (r : Value) (c : Cs) (es : List En) (e : Ending) (w' : World) : Prop :=
  e = .returned r ∧ (∃ v, DS b ao cp zs a t c es v w') ∧ Below b w w'

end Go.Proofs.YtenbhmmknejcjaaDoor

/- What holds of a case over its whole life, plainly. No Go in sight. -/
namespace Go.Proofs.YtenbhmmknejcjaaDoor

/-- what stands in a case, by its state, from its start on; n rulings were passed -/
def Inv (c : Cs) (n : Int) : Prop :=
  caseOk c = true ∧ (c.st = 0 ∨ c.st = 1 ∨ c.st = 2 → c.cl = 0 ∧ c.bk = 0) ∧ (c.st = 3 → 1 ≤ c.cl ∧ c.bk = c.cl) ∧
  (c.st = 4 ∨ c.st = 5 ∨ c.st = 6 → 1 ≤ c.cl ∧ c.bk + c.cl ≤ c.am) ∧ (c.st = 7 → c.cl = 0 ∧ c.due = -1) ∧
  c.fee = 50000 * n ∧ 0 ≤ n ∧ n ≤ 1 ∧ (c.st ≠ 7 → n = 0)

theorem inv_start {iss acq cur am day : Int} (h : caseOk (startC iss acq cur am day) = true) : Inv (startC iss acq cur am day) 0 := by
  refine ⟨h, fun _ => ⟨rfl, rfl⟩, ?_, ?_, ?_, rfl, by omega, by omega, fun _ => rfl⟩
  all_goals intro g; simp [startC] at g

theorem do_done {c : Cs} {a : Ac} {t : Int} {zs : List Int} (h : doV c a t zs = 0) : dayOkAt c t zs = true ∧ ofSt c.st a.kind = true ∧ codeV c a t zs = 0 ∧ caseOk (nextC c a t zs) = true := by
  unfold doV at h
  split at h
  · cases h
  · rename_i h1
    split at h
    · cases h
    · rename_i h2
      split at h
      · rename_i h3; exact absurd h h3
      · rename_i h3
        split at h
        · rename_i h4
          exact ⟨by simpa using h1, by simpa using h2, by simpa using h3, h4⟩
        · cases h
theorem doC_no {c : Cs} {a : Ac} {t : Int} {zs : List Int} (h : doV c a t zs ≠ 0) : doC c a t zs = c := if_neg h
theorem doC_yes {c : Cs} {a : Ac} {t : Int} {zs : List Int} (h : doV c a t zs = 0) : doC c a t zs = nextC c a t zs := if_pos h

/-- once a case is closed nothing can be done -/
theorem closed_no {c : Cs} {a : Ac} {t : Int} {zs : List Int} (h : c.st = 7) : doV c a t zs ≠ 0 := fun e => by
  have := of_cases (do_done e).2.1
  omega

theorem code2 {c : Cs} {a : Ac} {t : Int} {zs : List Int} (h : codeV c a t zs = 0) (hk : a.kind = 2) : 1 ≤ a.am ∧ a.am ≤ c.am := by
  have e : codeV c a t zs = chargeV c a t zs := by simp [codeV, hk]
  rw [e] at h
  unfold chargeV at h
  split at h
  · cases h
  · split at h
    · cases h
    · rename_i g
      exact Decidable.byContradiction fun k => g (.inl k)
theorem code34 {c : Cs} {a : Ac} {t : Int} {zs : List Int} (h : codeV c a t zs = 0) (hk : a.kind = 3 ∨ a.kind = 4) : 1 ≤ a.am ∧ a.am ≤ c.cl := by
  have e : codeV c a t zs = if lateV t c.due = true then 4 else if 1 ≤ a.am ∧ a.am ≤ c.cl then 0 else 2 := by rcases hk with hk | hk <;> simp [codeV, hk]
  rw [e] at h
  split at h
  · cases h
  · split at h
    · assumption
    · cases h
theorem codeRule {c : Cs} {a : Ac} {t : Int} {zs : List Int} (h : codeV c a t zs = 0) (hk : a.kind = 7) : 0 ≤ a.am ∧ a.am ≤ c.cl := by
  have e : codeV c a t zs = if 0 ≤ a.am ∧ a.am ≤ c.cl then 0 else 2 := by simp [codeV, hk]
  rw [e] at h
  split at h
  · assumption
  · cases h

/-- how many rulings an act that is done adds -/
def ruled (c : Cs) (a : Ac) : Int := if a.kind = 7 ∨ (a.kind = 8 ∧ c.st = 6) then 1 else 0
theorem inv_next {c : Cs} {a : Ac} {t n : Int} {zs : List Int} (h : Inv c n) (hv : doV c a t zs = 0) : Inv (nextC c a t zs) (n + ruled c a) := by
  obtain ⟨_, ho, hc, hn⟩ := do_done hv
  obtain ⟨h0, h1, h2, h3, h4, h5, h6, h7, h8⟩ := h
  obtain ⟨_, _, _, _, p1, _, _, p2, p3, p4, _, _⟩ := caseOk_parts h0
  rcases of_cases ho with ⟨hk, hs⟩ | ⟨hk, hs⟩ | ⟨hk, hs⟩ | ⟨hk, hs⟩ | ⟨hk, hs⟩ | ⟨hk, hs⟩ | ⟨hk, hs⟩ | ⟨hk, hs⟩ | ⟨hk, hs⟩ | ⟨hk, hs⟩
  · have e : nextC c a t zs = ⟨c.iss, c.acq, c.cur, c.am, 1, c.rsn, c.cl, c.bk, c.fee, c.cop, c.sta, dueV t 20 zs⟩ := by simp [nextC, hk]
    have er : ruled c a = 0 := by simp [ruled, hk]
    rw [e] at hn ⊢
    refine ⟨hn, ?_, ?_, ?_, ?_, ?_, ?_, ?_, ?_⟩ <;> simp [er] <;> omega
  · have e : nextC c a t zs = givenC c := by simp [nextC, hk]
    have er : ruled c a = 0 := by simp [ruled, hk]
    rw [e] at hn ⊢
    refine ⟨hn, ?_, ?_, ?_, ?_, ?_, ?_, ?_, ?_⟩ <;> simp [er, givenC] <;> omega
  · have e : nextC c a t zs = ⟨c.iss, c.acq, c.cur, c.am, 3, a.rsn, a.am, a.am, c.fee, c.cop, c.sta, dueV t 30 zs⟩ := by simp [nextC, hk]
    have er : ruled c a = 0 := by simp [ruled, hk]
    have q := code2 hc hk
    rw [e] at hn ⊢
    refine ⟨hn, ?_, ?_, ?_, ?_, ?_, ?_, ?_, ?_⟩ <;> simp [er] <;> omega
  · have e : nextC c a t zs = ⟨c.iss, c.acq, c.cur, c.am, 4, c.rsn, a.am, c.bk - a.am, c.fee, c.cop, c.sta, dueV t 30 zs⟩ := by simp [nextC, hk]
    have er : ruled c a = 0 := by simp [ruled, hk]
    have q := code34 hc (.inl hk)
    rw [e] at hn ⊢
    refine ⟨hn, ?_, ?_, ?_, ?_, ?_, ?_, ?_, ?_⟩ <;> simp [er] <;> omega
  · have e : nextC c a t zs = ⟨c.iss, c.acq, c.cur, c.am, 5, c.rsn, a.am, c.bk, c.fee, c.cop, c.sta, dueV t 15 zs⟩ := by simp [nextC, hk]
    have er : ruled c a = 0 := by simp [ruled, hk]
    have q := code34 hc (.inr hk)
    rw [e] at hn ⊢
    refine ⟨hn, ?_, ?_, ?_, ?_, ?_, ?_, ?_, ?_⟩ <;> simp [er] <;> omega
  · have e : nextC c a t zs = endC c c.cl := by simp [nextC, hk]
    have er : ruled c a = 0 := by simp [ruled, hk]
    rw [e] at hn ⊢
    refine ⟨hn, ?_, ?_, ?_, ?_, ?_, ?_, ?_, ?_⟩ <;> simp [er, endC] <;> omega
  · have e : nextC c a t zs = ⟨c.iss, c.acq, c.cur, c.am, 6, c.rsn, c.cl, c.bk, c.fee, c.cop, c.sta, dueV t 60 zs⟩ := by simp [nextC, hk]
    have er : ruled c a = 0 := by simp [ruled, hk]
    rw [e] at hn ⊢
    refine ⟨hn, ?_, ?_, ?_, ?_, ?_, ?_, ?_, ?_⟩ <;> simp [er] <;> omega
  · have e : nextC c a t zs = ruleC c a.am := by simp [nextC, hk]
    have er : ruled c a = 1 := by simp [ruled, hk]
    rw [e] at hn ⊢
    refine ⟨hn, ?_, ?_, ?_, ?_, ?_, ?_, ?_, ?_⟩ <;> simp [er, ruleC] <;> omega
  · have e : nextC c a t zs = expireC c := by simp [nextC, hk]
    rw [e] at hn ⊢
    rcases hs with hs | hs | hs | hs | hs
    · have e2 : expireC c = givenC c := by simp [expireC, hs]
      have er : ruled c a = 0 := by simp [ruled, hk, hs]
      rw [e2] at hn ⊢
      refine ⟨hn, ?_, ?_, ?_, ?_, ?_, ?_, ?_, ?_⟩ <;> simp [er, givenC] <;> omega
    · have e2 : expireC c = endC c 0 := by simp [expireC, hs]
      have er : ruled c a = 0 := by simp [ruled, hk, hs]
      rw [e2] at hn ⊢
      refine ⟨hn, ?_, ?_, ?_, ?_, ?_, ?_, ?_, ?_⟩ <;> simp [er, endC] <;> omega
    · have e2 : expireC c = endC c 0 := by simp [expireC, hs]
      have er : ruled c a = 0 := by simp [ruled, hk, hs]
      rw [e2] at hn ⊢
      refine ⟨hn, ?_, ?_, ?_, ?_, ?_, ?_, ?_, ?_⟩ <;> simp [er, endC] <;> omega
    · have e2 : expireC c = endC c c.cl := by simp [expireC, hs]
      have er : ruled c a = 0 := by simp [ruled, hk, hs]
      rw [e2] at hn ⊢
      refine ⟨hn, ?_, ?_, ?_, ?_, ?_, ?_, ?_, ?_⟩ <;> simp [er, endC] <;> omega
    · have e2 : expireC c = ruleC c (c.cl / 2) := by simp [expireC, hs]
      have er : ruled c a = 1 := by simp [ruled, hk, hs]
      rw [e2] at hn ⊢
      refine ⟨hn, ?_, ?_, ?_, ?_, ?_, ?_, ?_, ?_⟩ <;> simp [er, ruleC] <;> omega
  · have e : nextC c a t zs = ⟨c.iss, c.acq, c.cur, c.am, 7, c.rsn, c.cl, c.bk, c.fee, c.cop, c.sta, -1⟩ := by simp [nextC, hk]
    have er : ruled c a = 0 := by simp [ruled, hk]
    rw [e] at hn ⊢
    refine ⟨hn, ?_, ?_, ?_, ?_, ?_, ?_, ?_, ?_⟩ <;> simp [er] <;> omega

end Go.Proofs.YtenbhmmknejcjaaDoor

/- Deadlines over a case's life, plainly: what is due, what runs out, what is taken on the last day. No Go in sight. -/
namespace Go.Proofs.YtenbhmmknejcjaaDoor

theorem dueV_bd (d n : Int) (zs : List Int) : dueV d n zs = -1 ∨ (d ≤ dueV d n zs ∧ dueV d n zs ≤ 80000) := by
  cases h : addV d n zs with
  | none => exact .inl (dueV_no h)
  | some y =>
    rw [dueV_yes h]
    unfold addV at h
    split at h
    · rename_i g
      have hd := dOk_bd g.1
      have := adv_bd (by omega) h
      exact .inr ⟨by omega, this.2.1⟩
    · cases h

theorem caseOk_mk {c : Cs} (h : party c.iss = true ∧ party c.acq = true ∧ c.iss ≠ c.acq ∧ 0 ≤ digs c.cur ∧ (1 ≤ c.am ∧ c.am ≤ 100000000000) ∧ (0 ≤ c.st ∧ c.st ≤ 7) ∧ reasonOkAt c.rsn c.st = true ∧
    (0 ≤ c.cl ∧ c.cl ≤ c.am) ∧ (0 ≤ c.bk ∧ c.bk ≤ c.am) ∧ (0 ≤ c.fee ∧ c.fee ≤ 500000) ∧ dOk c.sta = true ∧ (dOk c.due = true ∨ c.due = -1)) : caseOk c = true := by
  simpa [caseOk] using h
theorem reason_early {r s s' : Int} (h : reasonOkAt r s = true) (e : early s' = true) : reasonOkAt r s' = true := by
  simp only [reasonOkAt, Bool.or_eq_true, Bool.and_eq_true] at h ⊢
  rcases h with h | ⟨h, _⟩
  · exact .inl h
  · exact .inr ⟨h, e⟩
theorem reason_late {r s s' : Int} (h : reasonOkAt r s = true) (e : early s = false) : reasonOkAt r s' = true := by
  simp only [reasonOkAt, Bool.or_eq_true, Bool.and_eq_true] at h ⊢
  rcases h with h | ⟨_, h⟩
  · exact .inl h
  · rw [e] at h; cases h

def DueI (c : Cs) : Prop := (c.st = 0 ∨ c.st = 2 ∨ c.st = 7 → c.due = -1) ∧ (c.due = -1 ∨ (c.sta ≤ c.due ∧ c.due ≤ 80000))
theorem due_start (iss acq cur am day : Int) : DueI (startC iss acq cur am day) := ⟨fun _ => rfl, .inl rfl⟩
theorem due_next {c : Cs} {a : Ac} {t : Int} {zs : List Int} (h : DueI c) (hv : doV c a t zs = 0) : DueI (nextC c a t zs) := by
  obtain ⟨hd, ho, _, _⟩ := do_done hv
  have ht : c.sta ≤ t := by simp [dayOkAt] at hd; exact hd.2.2.1
  have b1 := dueV_bd t 20 zs
  have b2 := dueV_bd t 30 zs
  have b3 := dueV_bd t 15 zs
  have b4 := dueV_bd t 60 zs
  obtain ⟨h1, h2⟩ := h
  rcases of_cases ho with ⟨hk, hs⟩ | ⟨hk, hs⟩ | ⟨hk, hs⟩ | ⟨hk, hs⟩ | ⟨hk, hs⟩ | ⟨hk, hs⟩ | ⟨hk, hs⟩ | ⟨hk, hs⟩ | ⟨hk, hs⟩ | ⟨hk, hs⟩
  · simp [nextC, hk, DueI] <;> omega
  · simp [nextC, hk, DueI, givenC] <;> omega
  · simp [nextC, hk, DueI] <;> omega
  · simp [nextC, hk, DueI] <;> omega
  · simp [nextC, hk, DueI] <;> omega
  · simp [nextC, hk, DueI, endC] <;> omega
  · simp [nextC, hk, DueI] <;> omega
  · simp [nextC, hk, DueI, ruleC] <;> omega
  · have e : nextC c a t zs = expireC c := by simp [nextC, hk]
    rw [e]
    rcases hs with hs | hs | hs | hs | hs <;> simp [expireC, hs, DueI, givenC, endC, ruleC]
  · simp [nextC, hk, DueI] <;> omega

/-- what ran out is taken behind its last day and not sooner -/
theorem times_expire {c : Cs} {n : Int} {zs : List Int} (hI : Inv c n) (hD : DueI c) (hs : c.st ≠ 7) (h0 : 0 ≤ c.due) (h1 : c.due + 1 ≤ 80000) (hz : offOk zs = true) (m r : Int) :
    doV c ⟨8, m, r⟩ c.due zs = 4 ∧ doV c ⟨8, m, r⟩ (c.due + 1) zs = 0 := by
  obtain ⟨k0, k1, k2, k3, k4, k5, k6, k7, k8⟩ := hI
  obtain ⟨p0, p1, p2, p3, p4, p5, p6, p7, p8, p9, p10, p11⟩ := caseOk_parts k0
  obtain ⟨d1, d2⟩ := hD
  have hst : c.st = 1 ∨ c.st = 3 ∨ c.st = 4 ∨ c.st = 5 ∨ c.st = 6 := by omega
  have hn := k8 hs
  have hsta : c.sta ≤ c.due := by omega
  have ho : ofSt c.st 8 = true := by rcases hst with h | h | h | h | h <;> simp [ofSt, h]
  have hdue : dOk c.due = true := dOk_pos h0 (by omega)
  have hdue1 : dOk (c.due + 1) = true := dOk_pos (by omega) h1
  have l1 : lateV c.due c.due = false := by simp [lateV]
  have l2 : lateV (c.due + 1) c.due = true := by simp [lateV, hdue, hdue1]; omega
  have g1 : dayOkAt c c.due zs = true := by simp [dayOkAt, k0, hdue, hsta, hz]
  have g2 : dayOkAt c (c.due + 1) zs = true := by simp [dayOkAt, k0, hdue1, hz]; omega
  have c1 : codeV c ⟨8, m, r⟩ c.due zs = 4 := by simp [codeV, l1]
  have c2 : codeV c ⟨8, m, r⟩ (c.due + 1) zs = 0 := by simp [codeV, l2]
  have hN : caseOk (nextC c ⟨8, m, r⟩ (c.due + 1) zs) = true := by
    have e : nextC c ⟨8, m, r⟩ (c.due + 1) zs = expireC c := by simp [nextC]
    rw [e]
    rcases hst with h | h | h | h | h
    · have e2 : expireC c = givenC c := by simp [expireC, h]
      rw [e2]
      exact caseOk_mk ⟨p0, p1, p2, p3, p4, by simp [givenC], reason_early p6 rfl, p7, p8, p9, p10, .inr rfl⟩
    · have e2 : expireC c = endC c 0 := by simp [expireC, h]
      rw [e2]
      exact caseOk_mk ⟨p0, p1, p2, p3, p4, by simp [endC], reason_early p6 rfl, by simp [endC]; omega, by simp [endC]; omega, p9, p10, .inr rfl⟩
    · have e2 : expireC c = endC c 0 := by simp [expireC, h]
      rw [e2]
      exact caseOk_mk ⟨p0, p1, p2, p3, p4, by simp [endC], reason_early p6 rfl, by simp [endC]; omega, by simp [endC]; omega, p9, p10, .inr rfl⟩
    · have e2 : expireC c = endC c c.cl := by simp [expireC, h]
      have q := k3 (by omega)
      rw [e2]
      exact caseOk_mk ⟨p0, p1, p2, p3, p4, by simp [endC], reason_early p6 rfl, by simp [endC]; omega, by simp [endC]; omega, p9, p10, .inr rfl⟩
    · have e2 : expireC c = ruleC c (c.cl / 2) := by simp [expireC, h]
      have q := k3 (by omega)
      rw [e2]
      exact caseOk_mk ⟨p0, p1, p2, p3, p4, by simp [ruleC], reason_early p6 rfl, by simp [ruleC]; omega, by simp [ruleC]; omega, by simp [ruleC]; omega, p10, .inr rfl⟩
  constructor
  · rw [doV, if_neg (by rw [g1]; decide), if_neg (by rw [ho]; decide), if_pos (by rw [c1]; decide), c1]
  · rw [doV, if_neg (by rw [g2]; decide), if_neg (by rw [ho]; decide), if_neg (by rw [c2]; decide), if_pos hN]

end Go.Proofs.YtenbhmmknejcjaaDoor

/- Claims and steps over a case's life, plainly. No Go in sight. -/
namespace Go.Proofs.YtenbhmmknejcjaaDoor

/-- what is argued about never grows behind the first asking: the greatest claim that may stand yet -/
def ClI (c : Cs) (m : Int) : Prop := 0 ≤ m ∧ (c.st ≤ 2 → m = c.am) ∧ (3 ≤ c.st ∧ c.st ≤ 6 → m = c.cl)
theorem cl_start {iss acq cur am day : Int} (h : 0 ≤ am) : ClI (startC iss acq cur am day) am := ⟨h, fun _ => rfl, fun g => by simp [startC] at g⟩
theorem cl_le {c : Cs} {n m : Int} (h : Inv c n) (g : ClI c m) : c.cl ≤ m := by
  obtain ⟨k0, k1, k2, k3, k4, _⟩ := h
  obtain ⟨_, _, _, _, p4, p5, _, p7, _⟩ := caseOk_parts k0
  obtain ⟨g0, g1, g2⟩ := g
  omega
/-- the claim behind an act that is done -/
def clNext (d : Cs) (m : Int) : Int := if 3 ≤ d.st ∧ d.st < 7 then d.cl else m
theorem cl_next {c : Cs} {a : Ac} {t n m : Int} {zs : List Int} (h : Inv c n) (g : ClI c m) (hv : doV c a t zs = 0) : (nextC c a t zs).cl ≤ m ∧ ClI (nextC c a t zs) (clNext (nextC c a t zs) m) := by
  have hle := cl_le h g
  obtain ⟨_, ho, hc, _⟩ := do_done hv
  obtain ⟨k0, k1, k2, k3, k4, _⟩ := h
  obtain ⟨_, _, _, _, p4, p5, _, p7, _⟩ := caseOk_parts k0
  obtain ⟨g0, g1, g2⟩ := g
  rcases of_cases ho with ⟨hk, hs⟩ | ⟨hk, hs⟩ | ⟨hk, hs⟩ | ⟨hk, hs⟩ | ⟨hk, hs⟩ | ⟨hk, hs⟩ | ⟨hk, hs⟩ | ⟨hk, hs⟩ | ⟨hk, hs⟩ | ⟨hk, hs⟩
  · simp [nextC, hk, ClI, clNext]; omega
  · simp [nextC, hk, ClI, clNext, givenC]; omega
  · have q := code2 hc hk
    simp [nextC, hk, ClI, clNext]; omega
  · have q := code34 hc (.inl hk)
    simp [nextC, hk, ClI, clNext]; omega
  · have q := code34 hc (.inr hk)
    simp [nextC, hk, ClI, clNext]; omega
  · simp [nextC, hk, ClI, clNext, endC]; omega
  · simp [nextC, hk, ClI, clNext]; omega
  · simp [nextC, hk, ClI, clNext, ruleC]; omega
  · have e : nextC c a t zs = expireC c := by simp [nextC, hk]
    rw [e]
    rcases hs with hs | hs | hs | hs | hs <;> simp [expireC, hs, ClI, clNext, givenC, endC, ruleC] <;> omega
  · simp [nextC, hk, ClI, clNext]; omega

/-- the act that answers in a state -/
def stepKind (s : Int) : Int := if s = 1 then 1 else if s = 5 then 6 else if s = 4 then 4 else 3
theorem due_ok {t n : Int} {zs : List Int} (h : 0 ≤ t) : dOk (dueV t n zs) = true ∨ dueV t n zs = -1 := by
  rcases dueV_bd t n zs with g | g
  · exact .inr g
  · exact .inl (dOk_pos (by omega) g.2)
/-- an answer is taken until its last day and not behind it -/
theorem times_step {c : Cs} {n : Int} {zs : List Int} (hI : Inv c n) (hD : DueI c) (_hs : c.st ≠ 7) (h6 : c.st ≠ 6) (h0 : 0 ≤ c.due) (h1 : c.due + 1 ≤ 80000) (hz : offOk zs = true) (r : Int) :
    doV c ⟨stepKind c.st, c.cl, r⟩ c.due zs = 0 ∧ doV c ⟨stepKind c.st, c.cl, r⟩ (c.due + 1) zs = 4 := by
  obtain ⟨k0, k1, k2, k3, k4, k5, k6, k7, k8⟩ := hI
  obtain ⟨p0, p1, p2, p3, p4, p5, p6, p7, p8, p9, p10, p11⟩ := caseOk_parts k0
  obtain ⟨d1, d2⟩ := hD
  have hst : c.st = 1 ∨ c.st = 3 ∨ c.st = 4 ∨ c.st = 5 := by omega
  have hsta : c.sta ≤ c.due := by omega
  have hdue : dOk c.due = true := dOk_pos h0 (by omega)
  have hdue1 : dOk (c.due + 1) = true := dOk_pos (by omega) h1
  have l1 : lateV c.due c.due = false := by simp [lateV]
  have l2 : lateV (c.due + 1) c.due = true := by simp [lateV, hdue, hdue1]; omega
  have g1 : dayOkAt c c.due zs = true := by simp [dayOkAt, k0, hdue, hsta, hz]
  have g2 : dayOkAt c (c.due + 1) zs = true := by simp [dayOkAt, k0, hdue1, hz]; omega
  have ho : ofSt c.st (stepKind c.st) = true := by rcases hst with h | h | h | h <;> simp [ofSt, stepKind, h]
  have c1 : codeV c ⟨stepKind c.st, c.cl, r⟩ c.due zs = 0 := by
    rcases hst with h | h | h | h
    · simp [codeV, stepKind, h, l1]
    · have := k2 h; simp [codeV, stepKind, h, l1]; omega
    · have := k3 (by omega); simp [codeV, stepKind, h, l1]; omega
    · simp [codeV, stepKind, h, l1]
  have c2 : codeV c ⟨stepKind c.st, c.cl, r⟩ (c.due + 1) zs = 4 := by
    rcases hst with h | h | h | h <;> simp [codeV, stepKind, h, l2]
  have hN : caseOk (nextC c ⟨stepKind c.st, c.cl, r⟩ c.due zs) = true := by
    rcases hst with h | h | h | h
    · have e : nextC c ⟨stepKind c.st, c.cl, r⟩ c.due zs = givenC c := by simp [nextC, stepKind, h]
      rw [e]
      exact caseOk_mk ⟨p0, p1, p2, p3, p4, by simp [givenC], reason_early p6 rfl, p7, p8, p9, p10, .inr rfl⟩
    · have e : nextC c ⟨stepKind c.st, c.cl, r⟩ c.due zs = ⟨c.iss, c.acq, c.cur, c.am, 4, c.rsn, c.cl, c.bk - c.cl, c.fee, c.cop, c.sta, dueV c.due 30 zs⟩ := by simp [nextC, stepKind, h]
      have q := k2 h
      rw [e]
      exact caseOk_mk ⟨p0, p1, p2, p3, p4, by simp, reason_late p6 (by rw [h]; rfl), p7, by simp; omega, p9, p10, due_ok h0⟩
    · have e : nextC c ⟨stepKind c.st, c.cl, r⟩ c.due zs = ⟨c.iss, c.acq, c.cur, c.am, 5, c.rsn, c.cl, c.bk, c.fee, c.cop, c.sta, dueV c.due 15 zs⟩ := by simp [nextC, stepKind, h]
      rw [e]
      exact caseOk_mk ⟨p0, p1, p2, p3, p4, by simp, reason_late p6 (by rw [h]; rfl), p7, p8, p9, p10, due_ok h0⟩
    · have e : nextC c ⟨stepKind c.st, c.cl, r⟩ c.due zs = ⟨c.iss, c.acq, c.cur, c.am, 6, c.rsn, c.cl, c.bk, c.fee, c.cop, c.sta, dueV c.due 60 zs⟩ := by simp [nextC, stepKind, h]
      rw [e]
      exact caseOk_mk ⟨p0, p1, p2, p3, p4, by simp, reason_late p6 (by rw [h]; rfl), p7, p8, p9, p10, due_ok h0⟩
  constructor
  · rw [doV, if_neg (by rw [g1]; decide), if_neg (by rw [ho]; decide), if_neg (by rw [c1]; decide), if_pos hN]
  · rw [doV, if_neg (by rw [g2]; decide), if_neg (by rw [ho]; decide), if_pos (by rw [c2]; decide), c2]

end Go.Proofs.YtenbhmmknejcjaaDoor

/- The entries of an act, plainly: each is one, and what they move is what the case has more. No Go in sight. -/
namespace Go.Proofs.YtenbhmmknejcjaaDoor

/-- an entry of a case: between its two parties, or of a fee -/
def kindE (c : Cs) (e : En) : Prop := entryOk e = true ∧ e.2.2.1 = c.cur ∧ (e.2.1 = 9999 ∨ (e.2.1 = c.iss ∧ e.1 = c.acq) ∨ (e.1 = c.iss ∧ e.2.1 = c.acq))
/-- what an entry moves to the issuer, and to the house -/
def bkOf (c : Cs) (e : En) : Int := if e.2.1 = 9999 then 0 else if e.2.1 = c.iss ∧ e.1 = c.acq then e.2.2.2 else -e.2.2.2
def feeOf (e : En) : Int := if e.2.1 = 9999 then e.2.2.2 else 0
def bkSum (c : Cs) (es : List En) : Int := (es.map (bkOf c)).sum
def feeSum (es : List En) : Int := (es.map feeOf).sum

theorem party_parts {a : Int} (h : party a = true) : acctOk a = true ∧ a ≠ 9999 := by simpa [party] using h
theorem toIss_is {c : Cs} {x : Int} (h : caseOk c = true) (hx : 0 ≤ x ∧ x ≤ 100000000000) : (∀ e ∈ toIss c x, kindE c e) ∧ bkSum c (toIss c x) = x ∧ feeSum (toIss c x) = 0 := by
  obtain ⟨p0, p1, p2, p3, _⟩ := caseOk_parts h
  obtain ⟨i1, i2⟩ := party_parts p0
  obtain ⟨a1, a2⟩ := party_parts p1
  unfold toIss
  by_cases h0 : x = 0
  · rw [if_pos h0]; exact ⟨fun e he => (by cases he), by simp [bkSum, h0], rfl⟩
  · rw [if_neg h0]
    refine ⟨fun e he => ?_, by simp [bkSum, bkOf, i2], by simp [feeSum, feeOf, i2]⟩
    simp only [List.mem_singleton] at he
    subst he
    exact ⟨by simp [entryOk, i1, a1, p3, Ne.symm p2]; omega, rfl, .inr (.inl ⟨rfl, rfl⟩)⟩
theorem fromIss_is {c : Cs} {x : Int} (h : caseOk c = true) (hx : 0 ≤ x ∧ x ≤ 100000000000) : (∀ e ∈ fromIss c x, kindE c e) ∧ bkSum c (fromIss c x) = -x ∧ feeSum (fromIss c x) = 0 := by
  obtain ⟨p0, p1, p2, p3, _⟩ := caseOk_parts h
  obtain ⟨i1, i2⟩ := party_parts p0
  obtain ⟨a1, a2⟩ := party_parts p1
  unfold fromIss
  by_cases h0 : x = 0
  · rw [if_pos h0]; exact ⟨fun e he => (by cases he), by simp [bkSum, h0], rfl⟩
  · rw [if_neg h0]
    refine ⟨fun e he => ?_, by simp [bkSum, bkOf, a2, p2], by simp [feeSum, feeOf, a2]⟩
    simp only [List.mem_singleton] at he
    subst he
    exact ⟨by simp [entryOk, i1, a1, p3, p2]; omega, rfl, .inr (.inr ⟨rfl, rfl⟩)⟩
theorem ruleE_is {c : Cs} {x : Int} (h : caseOk c = true) (hx : 0 ≤ x ∧ x ≤ 100000000000) : (∀ e ∈ ruleE c x, kindE c e) ∧ bkSum c (ruleE c x) = x ∧ feeSum (ruleE c x) = 50000 := by
  obtain ⟨t1, t2, t3⟩ := toIss_is h hx
  obtain ⟨p0, p1, p2, p3, _⟩ := caseOk_parts h
  obtain ⟨i1, i2⟩ := party_parts p0
  obtain ⟨a1, a2⟩ := party_parts p1
  unfold ruleE
  have hl : acctOk (loser c x) = true ∧ loser c x ≠ 9999 := by unfold loser; split; exact ⟨a1, a2⟩; exact ⟨i1, i2⟩
  refine ⟨fun e he => ?_, ?_, ?_⟩
  · rcases List.mem_append.1 he with he | he
    · exact t1 e he
    · simp only [List.mem_singleton] at he
      subst he
      exact ⟨by simp [entryOk, hl.1, hl.2, p3]; rfl, rfl, .inl rfl⟩
  · unfold bkSum at t2 ⊢
    rw [List.map_append, List.sum_append, t2]
    simp [bkOf]
  · unfold feeSum at t3 ⊢
    rw [List.map_append, List.sum_append, t3]
    simp [feeOf]

theorem ents_is {c : Cs} {a : Ac} {t : Int} {zs : List Int} (hv : doV c a t zs = 0) : (∀ e ∈ nextE c a, kindE c e) ∧ ((a.kind = 2 ∧ 0 < c.bk) ∨ bkSum c (nextE c a) = (nextC c a t zs).bk - c.bk) ∧ feeSum (nextE c a) = (nextC c a t zs).fee - c.fee := by
  obtain ⟨hd, ho, hc, _⟩ := do_done hv
  have k0 : caseOk c = true := by simp [dayOkAt] at hd; exact hd.1
  obtain ⟨_, _, _, _, p4, p5, _, p7, p8, _⟩ := caseOk_parts k0
  rcases of_cases ho with ⟨hk, hs⟩ | ⟨hk, hs⟩ | ⟨hk, hs⟩ | ⟨hk, hs⟩ | ⟨hk, hs⟩ | ⟨hk, hs⟩ | ⟨hk, hs⟩ | ⟨hk, hs⟩ | ⟨hk, hs⟩ | ⟨hk, hs⟩
  · simp [nextE, nextC, hk, bkSum, feeSum]
  · simp [nextE, nextC, hk, bkSum, feeSum, givenC]
  · have q := code2 hc hk
    obtain ⟨t1, t2, t3⟩ := toIss_is k0 (x := a.am) (by omega)
    simp only [nextE, nextC, hk]
    simp [t2, t3]
    exact ⟨fun _ _ _ _ he => t1 _ he, by omega⟩
  · have q := code34 hc (.inl hk)
    obtain ⟨t1, t2, t3⟩ := fromIss_is k0 (x := a.am) (by omega)
    simp only [nextE, nextC, hk]
    simp [t2, t3]
    exact ⟨fun _ _ _ _ he => t1 _ he, by omega⟩
  · simp [nextE, nextC, hk, bkSum, feeSum]
  · obtain ⟨t1, t2, t3⟩ := toIss_is k0 (x := c.cl) (by omega)
    simp only [nextE, nextC, hk]
    simp [t2, t3, endC]
    exact ⟨fun _ _ _ _ he => t1 _ he, by omega⟩
  · simp [nextE, nextC, hk, bkSum, feeSum]
  · have q := codeRule hc hk
    obtain ⟨t1, t2, t3⟩ := ruleE_is k0 (x := a.am) (by omega)
    simp only [nextE, nextC, hk]
    simp [t2, t3, ruleC]
    exact ⟨fun _ _ _ _ he => t1 _ he, by omega, by omega⟩
  · have e : nextC c a t zs = expireC c := by simp [nextC, hk]
    have e2 : nextE c a = expireE c := by simp [nextE, hk]
    rw [e, e2]
    obtain ⟨t1, t2, t3⟩ := toIss_is k0 (x := c.cl) (by omega)
    obtain ⟨r1, r2, r3⟩ := ruleE_is k0 (x := c.cl / 2) (by omega)
    rcases hs with hs | hs | hs | hs | hs
    · simp [expireC, expireE, hs, bkSum, feeSum, givenC]
    · simp [expireC, expireE, hs, bkSum, feeSum, endC]
    · simp [expireC, expireE, hs, bkSum, feeSum, endC]
    · simp only [expireC, expireE, hs]
      simp [t2, t3, endC]
      exact ⟨fun _ _ _ _ he => t1 _ he, by omega⟩
    · simp only [expireC, expireE, hs]
      simp [r2, r3, ruleC]
      exact ⟨fun _ _ _ _ he => r1 _ he, by omega, by omega⟩
  · simp [nextE, nextC, hk, bkSum, feeSum]

end Go.Proofs.YtenbhmmknejcjaaDoor
