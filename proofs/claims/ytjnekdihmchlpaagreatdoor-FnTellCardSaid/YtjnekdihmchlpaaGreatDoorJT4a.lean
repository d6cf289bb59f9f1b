import Derived.Test.YtjnekdihmchlpaaGreatDoorKTCStart
import Derived.Test.YtjnekdihmchlpaaGreatDoorKTCaseQ
import Derived.Test.YtjnekdihmchlpaaGreatDoorKTCLaw
import Derived.Test.YtjnekdihmchlpaaGreatDoorKTOff
import Derived.Test.YtjnekdihmchlpaaGreatDoorJT1a
import Derived.Deep.DeepCutAuto
import Derived.Deep.RegionHeld3
import Derived.Deep.RegionLaw
import Derived.Deep.RegionWith
import Derived.Test.YtjnekdihmchlpaaGreatDoorJT3a
import Derived.Test.YtjnekdihmchlpaaGreatDoorJT2a
import Derived.Sort.Grow
import Derived.Test.YtjnekdihmchlpaaGreatDoorJT1b
/- Entries, boxes and answers that both sides' CaseDo share. -/
namespace Go.Proofs.YtjnekdihmchlpaaGreatDoor
open Go.RowKit
set_option maxRecDepth 100000
theorem infoE_parts : ∃ i, Tryz.prog.info? 134 = some i ∧ i.zero = some (.agg #[.int .i64 0, .int .i64 0, .int .i64 0, .int .i64 0]) ∧ i.size = 4 ∧ i.bytes = 32 := by
  obtain ⟨i, h1, h2⟩ := Option.map_eq_some_iff.1 infoE
  simp only [Prod.mk.injEq] at h2
  exact ⟨i, h1, h2.1, h2.2.1, h2.2.2⟩
theorem four_one (x y z t : Int) : ∀ u ∈ [Value.int .i64 x, .int .i64 y, .int .i64 z, .int .i64 t], u.oneCell' = true := by
  intro u hu
  simp at hu
  rcases hu with rfl | rfl | rfl | rfl <;> rfl
theorem step_app_own {P : Program} {ops : Array Oper} {o : Oper} {a : Act} {w : World} {K : Act → World → Prop} {Q : Exit → Act → World → Prop} {E : Prop}
    (hg : o.guard = none) (s x : Operand) (t : TypeId) (ho : o.op = Op.call { callee := Callee.builtin Builtin.append, args := #[s, x], argTypes := #[t, t] })
    (base : Nat) (e : TypeId) (i : TypeInfo) (z : Value) (size bytes : Nat) (ht : P.underlying t = some (.slice e)) (hi : P.info? e = some i) (hz : i.zero = some z)
    (hsize : i.size = size) (hby : i.bytes = bytes) (hzs : z.cells.size = size) (hsz : 0 < size)
    (v : Value) (n : Nat) (xs : List Value) (hs : a.eval s = v) (hown : w.ownsRow base e size v n xs)
    (ad : Addr) (m c : Nat) (news : List Value) (hx : a.eval x = .slice (some ad) m c) (hl : news.length = m * size) (hnews : ∀ j u, news[j]? = some u → w.cell? (ad.add j) = some u) (h1 : ∀ u ∈ news, u.oneCell' = true)
    (h63 : n + m ≤ maxLen) (hbytes : (n + m) * bytes ≤ 140737488355328) (hbase : base ≤ w.heap.size)
    (h : ∀ v' w', w'.ownsRow base e size v' (n + m) (xs ++ news) → w.grownBy w' v.ownBlock → (v' = .slice none 0 0 ↔ v = .slice none 0 0 ∧ m = 0) → K (a.put o.dst v') w') :
    if Region.wanted o (yielded ops a.tmps) = true then Oper.wp P o a w K Q else E := by
  rw [if_pos (by simp [Region.wanted, hg])]
  exact wp_append_own w s x t ho base e i z size bytes ht hi hz hsize hby hzs hsz v n xs hs hown ad m c news hx hl hnews h1 h63 hbytes hbase h
theorem ecells_app (a b : List En) : ecells (a ++ b) = ecells a ++ ecells b := by simp [ecells]
/-- an amount more among the entries; nothing for what is not above 0 -/
def moved (c : Cs) (es : List En) (f g s : Int) : List En := if 0 < s then es ++ [(f, g, c.cur, s)] else es
theorem chargeV_is {c : Cs} {a : Ac} {t : Int} {zs : List Int} {p q l : Bool} (h1 : (!rOk a.rsn || (rProof a.rsn && !copied c t)) = p) (h2 : (decide (a.am < 1) || (decide (c.am < a.am) || (decide (a.am < c.am) && !rPart a.rsn))) = q) (h3 : lateV t (dueV c.sta (rDays a.rsn) zs) = l) :
    chargeV c a t zs = if p = true then 3 else if q = true then 2 else if l = true then 4 else 0 := by
  unfold chargeV
  rw [h3]
  have e1 : (rOk a.rsn = false ∨ (rProof a.rsn = true ∧ copied c t = false)) ↔ p = true := by rw [← h1]; simp
  have e2 : (¬ (1 ≤ a.am ∧ a.am ≤ c.am) ∨ (a.am < c.am ∧ rPart a.rsn = false)) ↔ q = true := by
    rw [← h2]
    cases rPart a.rsn
    · simp; omega
    · simp; omega
  simp only [e1, e2]
theorem bel_at (u : World) (b i : Nat) (x : Value) : Below b u (u.setCell ⟨b, i, none⟩ x) := Below.setCell (Below.refl b u) (show b ≤ b from Nat.le_refl b) x
def replyV (c : Cs) (a : Ac) (t : Int) : Int := if lateV t c.due = true then 4 else if 1 ≤ a.am ∧ a.am ≤ c.cl then 0 else 2
theorem reply_pos {c : Cs} {a : Ac} {t : Int} (h : replyV c a t = 0) : 1 ≤ a.am ∧ a.am ≤ c.cl := by
  unfold replyV at h
  split at h
  · cases h
  · split at h
    · assumption
    · cases h
theorem CB.under {s o B : Nat} {c : Cs} {u u' : World} (h : CB s o c u) (b : Below B u u') (l : s < B) : CB s o c u' :=
  ⟨(b.cell (p := ⟨s, o, none⟩) l).trans h.f0, (b.cell (p := ⟨s, o + 1, none⟩) l).trans h.f1, (b.cell (p := ⟨s, o + 2, none⟩) l).trans h.f2, (b.cell (p := ⟨s, o + 3, none⟩) l).trans h.f3, (b.cell (p := ⟨s, o + 4, none⟩) l).trans h.f4, (b.cell (p := ⟨s, o + 5, none⟩) l).trans h.f5, (b.cell (p := ⟨s, o + 6, none⟩) l).trans h.f6, (b.cell (p := ⟨s, o + 7, none⟩) l).trans h.f7, (b.cell (p := ⟨s, o + 8, none⟩) l).trans h.f8, (b.cell (p := ⟨s, o + 9, none⟩) l).trans h.f9, (b.cell (p := ⟨s, o + 10, none⟩) l).trans h.f10, (b.cell (p := ⟨s, o + 11, none⟩) l).trans h.f11⟩
theorem FZ.under {s o B : Nat} {u u' : World} (h : FZ s o u) (b : Below B u u') (l : s < B) : FZ s o u' :=
  ⟨(b.frozen (p := ⟨s, o, none⟩) l).trans h.z0, (b.frozen (p := ⟨s, o + 1, none⟩) l).trans h.z1, (b.frozen (p := ⟨s, o + 2, none⟩) l).trans h.z2, (b.frozen (p := ⟨s, o + 3, none⟩) l).trans h.z3, (b.frozen (p := ⟨s, o + 4, none⟩) l).trans h.z4, (b.frozen (p := ⟨s, o + 5, none⟩) l).trans h.z5, (b.frozen (p := ⟨s, o + 6, none⟩) l).trans h.z6, (b.frozen (p := ⟨s, o + 7, none⟩) l).trans h.z7, (b.frozen (p := ⟨s, o + 8, none⟩) l).trans h.z8, (b.frozen (p := ⟨s, o + 9, none⟩) l).trans h.z9, (b.frozen (p := ⟨s, o + 10, none⟩) l).trans h.z10, (b.frozen (p := ⟨s, o + 11, none⟩) l).trans h.z11⟩
/-- the boxes of CaseDo: the case, the act, the answer (empty yet) -/
structure BX (s : Nat) (c : Cs) (a : Ac) (u : World) : Prop where
  cb : CB s 0 c u
  a0 : u.cell? ⟨s + 1, 0, none⟩ = some (.int .i64 a.kind)
  a1 : u.cell? ⟨s + 1, 1, none⟩ = some (.int .i64 a.am)
  a2 : u.cell? ⟨s + 1, 2, none⟩ = some (.int .i64 a.rsn)
  rb : CB (s + 1 + 1) 0 zeroC u
  rz : FZ (s + 1 + 1) 0 u
theorem BX.under {s B : Nat} {c : Cs} {a : Ac} {u u' : World} (h : BX s c a u) (b : Below B u u') (l : s + 1 + 1 < B) : BX s c a u' :=
  ⟨h.cb.under b (by omega), (b.cell (p := ⟨s + 1, 0, none⟩) (by show s + 1 < B; omega)).trans h.a0, (b.cell (p := ⟨s + 1, 1, none⟩) (by show s + 1 < B; omega)).trans h.a1, (b.cell (p := ⟨s + 1, 2, none⟩) (by show s + 1 < B; omega)).trans h.a2, h.rb.under b l, h.rz.under b l⟩
theorem BX.below {s : Nat} {c : Cs} {a : Ac} {u u' : World} (h : BX s c a u) (b : Below u.heap.size u u') : BX s c a u' := h.under b h.rb.lt
theorem BX.new (w : World) (c : Cs) (a : Ac) (t1 t2 t3 : TypeId) : BX w.heap.size c a (((w.alloc (.cells #[.int .i64 c.iss, .int .i64 c.acq, .int .i64 c.cur, .int .i64 c.am, .int .i64 c.st, .int .i64 c.rsn, .int .i64 c.cl, .int .i64 c.bk, .int .i64 c.fee, .bool c.cop, .int .i64 c.sta, .int .i64 c.due] t1)).alloc (.cells #[.int .i64 a.kind, .int .i64 a.am, .int .i64 a.rsn] t2)).alloc (.cells #[.int .i64 0, .int .i64 0, .int .i64 0, .int .i64 0, .int .i64 0, .int .i64 0, .int .i64 0, .int .i64 0, .int .i64 0, .bool false, .int .i64 0, .int .i64 0] t3)) := by
  have h1 := CB.new w c t1
  have b1 : ∀ (u : World) (o : Obj), Below u.heap.size u (u.alloc o) := fun u o => (Below.refl _ _).alloc (Nat.le_refl _) _
  have e2 : ((w.alloc (.cells #[.int .i64 c.iss, .int .i64 c.acq, .int .i64 c.cur, .int .i64 c.am, .int .i64 c.st, .int .i64 c.rsn, .int .i64 c.cl, .int .i64 c.bk, .int .i64 c.fee, .bool c.cop, .int .i64 c.sta, .int .i64 c.due] t1)).alloc (.cells #[.int .i64 a.kind, .int .i64 a.am, .int .i64 a.rsn] t2)).heap.size = w.heap.size + 1 + 1 := by simp
  refine ⟨(h1.below (b1 _ _)).below (b1 _ _), by simp [go_sem], by simp [go_sem], by simp [go_sem], ?_, ?_⟩
  · have h3 := CB.new ((w.alloc (.cells #[.int .i64 c.iss, .int .i64 c.acq, .int .i64 c.cur, .int .i64 c.am, .int .i64 c.st, .int .i64 c.rsn, .int .i64 c.cl, .int .i64 c.bk, .int .i64 c.fee, .bool c.cop, .int .i64 c.sta, .int .i64 c.due] t1)).alloc (.cells #[.int .i64 a.kind, .int .i64 a.am, .int .i64 a.rsn] t2)) zeroC t3
    rw [e2] at h3
    exact h3
  · have h3 := FZ.new ((w.alloc (.cells #[.int .i64 c.iss, .int .i64 c.acq, .int .i64 c.cur, .int .i64 c.am, .int .i64 c.st, .int .i64 c.rsn, .int .i64 c.cl, .int .i64 c.bk, .int .i64 c.fee, .bool c.cop, .int .i64 c.sta, .int .i64 c.due] t1)).alloc (.cells #[.int .i64 a.kind, .int .i64 a.am, .int .i64 a.rsn] t2)) #[.int .i64 0, .int .i64 0, .int .i64 0, .int .i64 0, .int .i64 0, .int .i64 0, .int .i64 0, .int .i64 0, .int .i64 0, .bool false, .int .i64 0, .int .i64 0] t3
    rw [e2] at h3
    exact h3
theorem nextC_cur (c : Cs) (a : Ac) (t : Int) (zs : List Int) : (nextC c a t zs).cur = c.cur := by
  unfold nextC
  repeat' split
  all_goals first | rfl | (unfold expireC; repeat' split) 
  all_goals rfl
/-- a case, entries of one's own, and a code -/
def DoR (w : World) (c : Cs) (es : List En) (r : Int) (e : Ending) (w' : World) : Prop :=
  ∃ ao cap, e = .returned (.tuple #[cv c, .slice ao es.length cap, .int .i64 r]) ∧ w'.ownsRow w.heap.size 134 4 (.slice ao es.length cap) es.length (ecells es) ∧ Below w.heap.size w w'
theorem do_end {w u : World} {c : Cs} {es : List En} {r : Int} {ao : Option Addr} {cap base : Nat} (hb : w.heap.size + 1 + 1 < base) (ho : u.ownsRow base 134 4 (.slice ao es.length cap) es.length (ecells es)) (bel : Below w.heap.size w u) :
    DoR w c es r (.returned (.tuple #[cv c, .slice ao es.length cap, .int .i64 r])) (put12 u (w.heap.size + 1 + 1) c) :=
  ⟨ao, cap, rfl, lowerL (own_put12 c ho (fun g hg => by have := (ho.lt g hg).1; omega)) (by omega), put12_below c bel (by omega)⟩
theorem do_drew {w u : World} {c : Cs} {es : List En} {r : Int} {e : Ending} (h : DoR w c es r e u) : DoR w c es r e u.drew := by
  obtain ⟨ao, cap, he, ho, hb⟩ := h
  exact ⟨ao, cap, he, keepL ho ((Below.refl _ _).drew), hb.drew⟩
end Go.Proofs.YtjnekdihmchlpaaGreatDoor
/- What is told about a case, plainly, and how the answer lies. -/
namespace Go.Proofs.YtjnekdihmchlpaaGreatDoor
open Go.RowKit
set_option maxRecDepth 100000
def decI (n : Int) : List UInt8 := Lib.decDigits n.toNat
def tellS (c : Cs) : List UInt8 := (stV c.st).data.toList
theorem tellS_is (c : Cs) : (⟨(tellS c).toArray⟩ : ByteArray) = stV c.st := by simp [tellS]
def tellTags (c : Cs) (n : Int) : List Fld := [(1, decI n), (2, tellS c), (3, Mo.moneyT c.cl c.cur)]
def tellF (c : Cs) (n : Int) : List Fld := [(4, Tg.padT c.bk 12), (24, [54, 57, 49]), (48, Tg.putL (tellTags c n)), (49, Tg.padT c.cur 3)]
def tellOk (c : Cs) (n : Int) : Bool := caseOk c && decide (0 ≤ n ∧ n ≤ 9999)
def tellK (c : Cs) (n : Int) : Int := if tellOk c n = true then 1644 else 0
def tellL (c : Cs) (n : Int) : List Fld := if tellOk c n = true then tellF c n else []
theorem tell_no1 {c : Cs} (n : Int) (h : caseOk c = false) : tellOk c n = false := by simp [tellOk, h]
theorem tell_no2 (c : Cs) {n : Int} (h : ¬ (0 ≤ n ∧ n ≤ 9999)) : tellOk c n = false := by simp [tellOk]; omega
theorem tell_yes {c : Cs} {n : Int} (h : caseOk c = true) (g : 0 ≤ n ∧ n ≤ 9999) : tellOk c n = true := by simp [tellOk, h, g]
theorem tellK_no {c : Cs} {n : Int} (h : tellOk c n = false) : tellK c n = 0 := if_neg (by rw [h]; decide)
theorem tellL_no {c : Cs} {n : Int} (h : tellOk c n = false) : tellL c n = [] := if_neg (by rw [h]; decide)
theorem tellK_yes {c : Cs} {n : Int} (h : tellOk c n = true) : tellK c n = 1644 := if_pos h
theorem tellL_yes {c : Cs} {n : Int} (h : tellOk c n = true) : tellL c n = tellF c n := if_pos h
theorem tellL_len (c : Cs) (n : Int) : (tellL c n).length ≤ 4 := by
  unfold tellL
  split <;> simp [tellF]
/-- the answer: a message, its fields in a row of its own -/
def TeR (w : World) (kd : Int) (fs : List Fld) (ok : Bool) (e : Ending) (w' : World) : Prop :=
  ∃ ao cap, e = .returned (.tuple #[.agg #[.int .i64 kd, .slice ao fs.length cap], .bool ok]) ∧ w'.ownsRow w.heap.size 57 2 (.slice ao fs.length cap) fs.length (fcells fs) ∧ Below w.heap.size w w'
theorem tags_three {v : World} {bk : Nat} {a b c : Int} {A B C : List UInt8} (h0 : v.cell? ⟨bk, 0, none⟩ = some (.int .i64 a)) (h1 : v.cell? ⟨bk, 1, none⟩ = some (.string ⟨A.toArray⟩)) (h2 : v.cell? ⟨bk, 2, none⟩ = some (.int .i64 b)) (h3 : v.cell? ⟨bk, 3, none⟩ = some (.string ⟨B.toArray⟩)) (h4 : v.cell? ⟨bk, 4, none⟩ = some (.int .i64 c)) (h5 : v.cell? ⟨bk, 5, none⟩ = some (.string ⟨C.toArray⟩)) :
    FldsAt v (some ⟨bk, 0, none⟩) [(a, A), (b, B), (c, C)] := by
  refine .inr ⟨bk, 0, rfl, World.block_lt_of_cell? v _ h0, fun i hi => ?_⟩
  have hi' : i < 3 := by simpa using hi
  rcases (show i = 0 ∨ i = 1 ∨ i = 2 by omega) with rfl | rfl | rfl
  · exact ⟨h0, h1⟩
  · exact ⟨h2, h3⟩
  · exact ⟨h4, h5⟩
theorem tag_small {c : Cs} {n : Int} (hn : 0 ≤ n ∧ n ≤ 9999) : ∀ f ∈ tellTags c n, f.2.length ≤ 1099511627776 := by
  intro f hf
  simp only [tellTags, List.mem_cons, List.not_mem_nil, or_false] at hf
  rcases hf with rfl | rfl | rfl
  · have : (decI n).length ≤ 21 := Mo.dec_len _ (by omega)
    show (decI n).length ≤ _
    omega
  · show (tellS c).length ≤ _
    have h : (tellS c).length ≤ 100 := by
      unfold tellS stV
      split
      · rename_i h
        have h8 : c.st.toNat < 8 := by simp [stOk] at h; omega
        rcases below8 h8 with e | e | e | e | e | e | e | e <;> rw [e] <;> decide
      · simp
    omega
  · have : (Mo.moneyT c.cl c.cur).length ≤ 30 := Mo.moneyT_le
    show (Mo.moneyT c.cl c.cur).length ≤ _
    omega
theorem grow_below (w : World) (q : Nat) (os : Array Obj) : Below w.heap.size w (Go.Sort.grow (w.drewN q) os) :=
  ⟨rfl, rfl, rfl, by simp [Go.Sort.grow, World.drewN], fun k hk => by simp [Go.Sort.grow, World.drewN, Array.getElem?_append, hk]⟩
theorem itoaI {n : Int} {w : World} (h0 : 0 ≤ n) (h1 : n ≤ 1000000000000) (ht : Mo.Pow10 w) :
    Calls Tryz.prog 22 #[.int .i64 n] w fun e w' => e = .returned (.string ⟨(decI n).toArray⟩) ∧ Below w.heap.size w w' := by
  refine (Tryz.strconv_Itoa n (by omega) (by omega) w ht).mono ?_
  rintro e w' ⟨rfl, k, os, rfl⟩
  exact ⟨by rw [Lib.itoa, if_neg (by omega)]; rfl, grow_below w k os⟩
theorem decII {n : Int} (w : World) (h0 : 0 ≤ n) (h1 : n ≤ 1000000000000) :
    Calls Tryz.prog 28 #[.int .i64 n] w fun e w' => e = .returned (.string ⟨(decI n).toArray⟩) ∧ Below w.heap.size w w' := by
  obtain ⟨m, rfl⟩ := Int.eq_ofNat_of_zero_le h0
  refine (Mo.dec_up m w (by omega)).mono ?_
  rintro e w' ⟨rfl, rfl⟩
  exact ⟨rfl, Below.refl _ _⟩
end Go.Proofs.YtjnekdihmchlpaaGreatDoor
/- The message that tells a case, plainly: it packs, it comes back, and so do its tags and amounts. -/
namespace Go.Proofs.YtjnekdihmchlpaaGreatDoor
open Go.RowKit
set_option maxRecDepth 100000
theorem money_back {v cur : Int} (h : Mo.moneyT v cur ≠ []) : Mo.implRead (Mo.moneyT v cur) cur = some v := by
  obtain ⟨hb, d, hd, hm⟩ := Mo.moneyT_ne h
  unfold Mo.implRead
  rw [hm, Mo.parse_mtxt v d hb.1 hb.2]
  simp only
  rw [if_pos hm]
theorem money_short (x cur : Int) : (Mo.moneyT x cur).length ≤ 20 := by
  by_cases h : Mo.moneyT x cur = []
  · rw [h]; exact Nat.zero_le _
  · obtain ⟨hb, d, hd, hm⟩ := Mo.moneyT_ne h
    rw [hm]; exact (Mo.mtxt_len x d hb.1 hb.2 hd).1
theorem dig_in {c : UInt8} (h : Mo.isDig c) : 32 ≤ c.toNat ∧ c.toNat ≤ 126 := by unfold Mo.isDig at h; omega
theorem dec_in (n : Nat) : within 32 126 (Lib.decDigits n) = true := within_of fun c hc => dig_in ((Mo.dec_props n).1 c hc)
theorem pointed_in (d n : Nat) : ∀ c ∈ Mo.pointed d (Lib.decDigits n), 32 ≤ c.toNat ∧ c.toNat ≤ 126 := by
  intro c hc
  obtain ⟨a, b, hab, h⟩ := Mo.pointed_parts d n
  have hd : ∀ c ∈ a ++ b, Mo.isDig c := by rw [hab]; exact (Mo.pad_props d n).1
  rcases h with h | ⟨_, h⟩
  · rw [h] at hc
    rcases List.mem_append.1 hc with hc | hc
    · exact dig_in (hd c (List.mem_append_left _ hc))
    · rcases List.mem_cons.1 hc with rfl | hc
      · decide
      · exact dig_in (hd c (List.mem_append_right _ hc))
  · rw [h] at hc
    exact dig_in (hd c (List.mem_append_left _ hc))
theorem money_in (x cur : Int) : within 32 126 (Mo.moneyT x cur) = true := by
  by_cases h : Mo.moneyT x cur = []
  · rw [h]; rfl
  · obtain ⟨hb, d, hd, hm⟩ := Mo.moneyT_ne h
    rw [hm]
    refine within_of fun c hc => ?_
    unfold Mo.mtxt at hc
    rcases List.mem_append.1 hc with hc | hc
    · split at hc
      · rw [List.mem_singleton] at hc; subst hc; decide
      · cases hc
    · exact pointed_in _ _ c hc
theorem state_in (c : Cs) : within 32 126 (tellS c) = true ∧ (tellS c).length ≤ 10 := by
  unfold tellS stV
  by_cases h : stOk c.st = true
  · rw [if_pos h]
    have h2 : c.st.toNat = 0 ∨ c.st.toNat = 1 ∨ c.st.toNat = 2 ∨ c.st.toNat = 3 ∨ c.st.toNat = 4 ∨ c.st.toNat = 5 ∨ c.st.toNat = 6 ∨ c.st.toNat = 7 := by
      simp [stOk] at h; omega
    rcases h2 with e | e | e | e | e | e | e | e <;> rw [e] <;> decide
  · rw [if_neg h]; decide
theorem within_app {a b : Nat} {x y : List UInt8} (h : within a b x = true) (g : within a b y = true) : within a b (x ++ y) = true := by
  unfold within at *; rw [List.all_append, h, g]; rfl
theorem within_up {x : List UInt8} (h : within 48 57 x = true) : within 32 126 x = true := within_of fun c hc => by have := within_mem h c hc; omega
theorem tag_in {f : Fld} (h : Tg.tagOne f.1 f.2 = true) : within 32 126 (Tg.putT f) = true := by
  obtain ⟨p, q, e, -, -, -, -, hp, hq⟩ := Tg.put_parts h
  rw [e]
  simp only [Tg.tagOne, Bool.and_eq_true] at h
  exact within_app (within_app (within_up hp) (within_up hq)) h.2.2
theorem tags_one (c : Cs) {n : Int} (hn : 0 ≤ n ∧ n ≤ 9999) : ∀ f ∈ tellTags c n, Tg.tagOne f.1 f.2 = true := by
  intro f hf
  have h1 := dec_in n.toNat
  have h2 := state_in c
  have h3 := money_in c.cl c.cur
  have h4 := money_short c.cl c.cur
  have h5 : (decI n).length ≤ 200 := Nat.le_trans (Tg.dec_len n.toNat (by omega)) (by omega)
  simp only [tellTags, List.mem_cons, List.not_mem_nil, or_false] at hf
  rcases hf with rfl | rfl | rfl
  · simp only [Tg.tagOne, Bool.and_eq_true, decide_eq_true_eq]; exact ⟨by omega, h5, h1⟩
  · simp only [Tg.tagOne, Bool.and_eq_true, decide_eq_true_eq]; exact ⟨by omega, by omega, h2.1⟩
  · simp only [Tg.tagOne, Bool.and_eq_true, decide_eq_true_eq]; exact ⟨by omega, by omega, h3⟩
theorem tags_ok (c : Cs) {n : Int} (hn : 0 ≤ n ∧ n ≤ 9999) : Tg.putOk (tellTags c n) = true := by
  have h := tags_one c hn
  have h1 := h (1, decI n) (by simp [tellTags])
  have h2 := h (2, tellS c) (by simp [tellTags])
  have h3 := h (3, Mo.moneyT c.cl c.cur) (by simp [tellTags])
  refine Tg.putOk_yes ?_ ?_
  · simp only at h1 h2 h3
    simp [Tg.tagsOk, Tg.okT, tellTags, h1, h2, h3]
  · have := Tg.putTs_le (fs := tellTags c n) (fun f hf => by
      have := h f hf
      simp only [Tg.tagOne, Bool.and_eq_true, decide_eq_true_eq] at this
      exact this.2.1)
    have hl : (tellTags c n).length = 3 := rfl
    omega
theorem tags_in (c : Cs) {n : Int} (hn : 0 ≤ n ∧ n ≤ 9999) : within 32 126 (Tg.putTs (tellTags c n)) = true := by
  have h := tags_one c hn
  have e : Tg.putTs (tellTags c n) = Tg.putT (1, decI n) ++ (Tg.putT (2, tellS c) ++ Tg.putT (3, Mo.moneyT c.cl c.cur)) := by simp [Tg.putTs, tellTags]
  rw [e]
  exact within_app (tag_in (h (1, decI n) (by simp [tellTags]))) (within_app (tag_in (h (2, tellS c) (by simp [tellTags]))) (tag_in (h (3, Mo.moneyT c.cl c.cur) (by simp [tellTags]))))
theorem tell_parts {c : Cs} {n : Int} (h : tellOk c n = true) : caseOk c = true ∧ 0 ≤ n ∧ n ≤ 9999 := by simpa [tellOk] using h
theorem tell_tags {c : Cs} {n : Int} (h : tellOk c n = true) : Tg.gotT (Tg.putL (tellTags c n)) = some (tellTags c n) := by
  have hp := tags_ok c (tell_parts h).2
  rw [Tg.putL_yes hp]
  exact Tg.got_put hp
theorem pad_bk {c : Cs} (h : caseOk c = true) : (Tg.padT c.bk 12).length = 12 ∧ numOf (Tg.padT c.bk 12) = c.bk ∧ within 48 57 (Tg.padT c.bk 12) = true := by
  obtain ⟨-, -, -, -, h1, -, -, -, h2, -, -, -⟩ := caseOk_parts h
  obtain ⟨m, hm⟩ := Int.eq_ofNat_of_zero_le h2.1
  rw [hm] at h2 ⊢
  exact Tg.pad_it (m := m) (wd := 12) (by omega) (by omega) (by omega)
theorem pad_cur {c : Cs} (h : caseOk c = true) : (Tg.padT c.cur 3).length = 3 ∧ within 48 57 (Tg.padT c.cur 3) = true := by
  obtain ⟨-, -, -, h1, -⟩ := caseOk_parts h
  have hm := cur_mem h1
  have hb : 0 ≤ c.cur ∧ c.cur < 1000 := by simp [curL] at hm; omega
  obtain ⟨m, hm⟩ := Int.eq_ofNat_of_zero_le hb.1
  rw [hm] at hb ⊢
  obtain ⟨e1, -, e2⟩ := Tg.pad_it (m := m) (wd := 3) (by omega) (by omega) (by omega)
  exact ⟨e1, e2⟩
theorem tell_msg {c : Cs} {n : Int} (h : tellOk c n = true) : msgOk 1644 (tellF c n) = true := by
  obtain ⟨hc, hn⟩ := tell_parts h
  have hp := tags_ok c hn
  have b := pad_bk hc
  have u := pad_cur hc
  have t := tags_in c hn
  have tl := (Tg.putOk_parts hp).2
  have f4 : fieldOk 4 (Tg.padT c.bk 12) = true := by
    have : fieldOk 4 (Tg.padT c.bk 12) = (decide (((Tg.padT c.bk 12).length : Int) = 12) && within 48 57 (Tg.padT c.bk 12)) := rfl
    rw [this, b.1, b.2.2]; rfl
  have f49 : fieldOk 49 (Tg.padT c.cur 3) = true := by
    have : fieldOk 49 (Tg.padT c.cur 3) = (decide (((Tg.padT c.cur 3).length : Int) = 3) && within 48 57 (Tg.padT c.cur 3)) := rfl
    rw [this, u.1, u.2]; rfl
  have f48 : fieldOk 48 (Tg.putL (tellTags c n)) = true := by
    rw [Tg.putL_yes hp]
    have : fieldOk 48 (Tg.putTs (tellTags c n)) = (decide (((Tg.putTs (tellTags c n)).length : Int) ≤ 999) && within 32 126 (Tg.putTs (tellTags c n))) := rfl
    rw [this, t, Bool.and_true]
    exact decide_eq_true (by omega)
  have f24 : fieldOk 24 [54, 57, 49] = true := by decide
  simp [msgOk, okF, tellF, f4, f24, f48, f49]
theorem tell_unp {c : Cs} {n : Int} (h : tellOk c n = true) : unp (packL 1644 (tellF c n)) = (0, 0, 1644, tellF c n) := by
  have e := unp_pack [] (tell_msg h)
  rw [List.append_nil] at e
  rw [e, if_pos rfl]
theorem tell_f48 (c : Cs) (n : Int) : fOf (tellF c n) 48 = some (Tg.putL (tellTags c n)) := by simp [fOf, tellF]
theorem tell_f4 (c : Cs) (n : Int) : fOf (tellF c n) 4 = some (Tg.padT c.bk 12) := by simp [fOf, tellF]
theorem tell_t2 (c : Cs) (n : Int) : Tg.fOf (tellTags c n) 2 = some (tellS c) := by simp [Tg.fOf, tellTags]
theorem tell_t3 (c : Cs) (n : Int) : Tg.fOf (tellTags c n) 3 = some (Mo.moneyT c.cl c.cur) := by simp [Tg.fOf, tellTags]
theorem tell_money {c : Cs} (h : caseOk c = true) : Mo.implRead (Mo.moneyT c.cl c.cur) c.cur = some c.cl := by
  refine money_back ?_
  obtain ⟨-, -, -, h1, h2, -, -, h3, -⟩ := caseOk_parts h
  have ht : Mo.textOk c.cl c.cur = true := by
    have : mOk c.cl = true := by simp [mOk]; omega
    simp [Mo.textOk, this, h1]
  rw [Mo.moneyT, if_pos ht]
  exact (Mo.mtxt_len c.cl _ (by omega) (by omega) (by have := digs_bd c.cur; omega)).2
end Go.Proofs.YtjnekdihmchlpaaGreatDoor
