import Derived.Test.YtjnekdihmchlpaaGreatDoorJT0a
import Derived.Test.YtjnekdihmchlpaaGreatDoorJT1a
import Derived.Lib.Replace
import Derived.Lib.ParseIntB
import Derived.Lib.IndexBytes
import Derived.Lib.SplitLaws
import Derived.Lib.AtoiErrMem
import Derived.Lib.ConvBytes
/- Tags read from a text, plainly. -/
namespace Go.Proofs.YtjnekdihmchlpaaGreatDoor.Tg
open Go.RowKit
set_option maxRecDepth 100000
/-- the tag that stands at place a, and the place behind it: as the program reads it -/
def tagI (l : List UInt8) (a : Nat) : Fld := if hasB l.length a 4 = true then (numOf ((l.drop a).take 4), varL l (a + 4) 3) else (0, [])
def endI (l : List UInt8) (a : Nat) : Int := if hasB l.length a 4 = true then varI l (a + 4) 3 else -1
def rdI (l : List UInt8) : Nat → Nat → List Fld → Option (List Fld)
  | 0, _, _ => none
  | f + 1, a, acc => if a < l.length then (if endI l a < 0 then none else rdI l f (endI l a).toNat (acc ++ [tagI l a])) else some acc
/-- as the specification reads it -/
def seenS (l : List UInt8) (a : Nat) : Bool := decide (a + 7 ≤ l.length) && (within 48 57 ((l.drop a).take 7) && decide (numOf ((l.drop (a + 4)).take 3) ≤ (l.length : Int) - a - 7))
def lenS (l : List UInt8) (a : Nat) : Nat := (numOf ((l.drop (a + 4)).take 3)).toNat
def tagS (l : List UInt8) (a : Nat) : Fld := (numOf ((l.drop a).take 4), (l.drop (a + 7)).take (lenS l a))
def rdS (l : List UInt8) : Nat → Nat → List Fld → Option (List Fld)
  | 0, _, _ => none
  | f + 1, a, acc => if a < l.length then (if seenS l a = false then none else rdS l f (a + 7 + lenS l a) (acc ++ [tagS l a])) else some acc
theorem rdI_end {l : List UInt8} {f a : Nat} {acc : List Fld} (h : ¬ a < l.length) (hf : 0 < f) : rdI l f a acc = some acc := by
  obtain ⟨f, rfl⟩ : ∃ g, f = g + 1 := ⟨f - 1, by omega⟩
  show (if a < l.length then _ else _) = _
  rw [if_neg h]
theorem rdI_no {l : List UInt8} {f a : Nat} {acc : List Fld} (h : a < l.length) (he : endI l a < 0) : rdI l f a acc = none := by
  cases f with
  | zero => rfl
  | succ f => show (if a < l.length then _ else _) = _; rw [if_pos h, if_pos he]
theorem rdI_go {l : List UInt8} {f a : Nat} {acc : List Fld} (h : a < l.length) (he : ¬ endI l a < 0) : rdI l (f + 1) a acc = rdI l f (endI l a).toNat (acc ++ [tagI l a]) := by
  show (if a < l.length then _ else _) = _; rw [if_pos h, if_neg he]
theorem rdS_end {l : List UInt8} {f a : Nat} {acc : List Fld} (h : ¬ a < l.length) (hf : 0 < f) : rdS l f a acc = some acc := by
  obtain ⟨f, rfl⟩ : ∃ g, f = g + 1 := ⟨f - 1, by omega⟩
  show (if a < l.length then _ else _) = _
  rw [if_neg h]
theorem rdS_no {l : List UInt8} {f a : Nat} {acc : List Fld} (h : a < l.length) (he : seenS l a = false) : rdS l f a acc = none := by
  cases f with
  | zero => rfl
  | succ f => show (if a < l.length then _ else _) = _; rw [if_pos h, if_pos he]
theorem rdS_go {l : List UInt8} {f a : Nat} {acc : List Fld} (h : a < l.length) (he : seenS l a = true) : rdS l (f + 1) a acc = rdS l f (a + 7 + lenS l a) (acc ++ [tagS l a]) := by
  show (if a < l.length then _ else _) = _; rw [if_pos h, if_neg (by rw [he]; decide)]
/-- only what would be put just so again is taken -/
def onlyT (l : List UInt8) (o : Option (List Fld)) : Option (List Fld) := o.filter fun fs => putOk fs && decide (putTs fs = l)
def gotT (l : List UInt8) : Option (List Fld) := onlyT l (rdI l (l.length + 1) 0 [])
theorem pad_it {m wd : Nat} (h1 : 1 ≤ wd) (h2 : wd ≤ 18) (h3 : m < 10 ^ wd) : (padT m wd).length = wd ∧ numOf (padT m wd) = (m : Int) ∧ within 48 57 (padT m wd) = true := by
  rw [padT_yes h1 h2 h3]
  exact ⟨padN_len h1 h3, padN_num h1 h2 h3, padN_dig _ _⟩
theorem put_parts {f : Fld} (h : tagOne f.1 f.2 = true) : ∃ p q : List UInt8, putT f = p ++ q ++ f.2 ∧ p.length = 4 ∧ q.length = 3 ∧ numOf p = f.1 ∧ numOf q = (f.2.length : Int) ∧ within 48 57 p = true ∧ within 48 57 q = true := by
  obtain ⟨h1, h2, _⟩ := tagOne_parts h
  obtain ⟨n, d⟩ := f
  obtain ⟨m, rfl⟩ := Int.eq_ofNat_of_zero_le (show 0 ≤ n by simp only at h1; omega)
  simp only at h1 h2
  obtain ⟨a1, a2, a3⟩ := pad_it (m := m) (wd := 4) (by omega) (by omega) (by omega)
  obtain ⟨b1, b2, b3⟩ := pad_it (m := d.length) (wd := 3) (by omega) (by omega) (by omega)
  exact ⟨padT (m : Int) 4, padT (d.length : Int) 3, rfl, a1, b1, a2, b2, a3, b3⟩
theorem at_I (pre post : List UInt8) {f : Fld} (h : tagOne f.1 f.2 = true) : tagI (pre ++ putT f ++ post) pre.length = f ∧ endI (pre ++ putT f ++ post) pre.length = ((pre ++ putT f).length : Int) := by
  obtain ⟨p, q, e, hp, hq, np, nq, wp, wq⟩ := put_parts h
  rw [e]
  have hb : hasB (pre ++ (p ++ q ++ f.2) ++ post).length (pre.length : Nat) 4 = true := hasB_pos (by omega) (by simp; omega) (by simp; omega)
  have e1 : ((pre ++ (p ++ q ++ f.2) ++ post).drop pre.length).take 4 = p := by rw [← hp]; simp
  have e2 : ((pre ++ (p ++ q ++ f.2) ++ post).drop (pre.length + 4)).take 3 = q := by
    rw [← hp, ← hq, show pre ++ (p ++ q ++ f.2) ++ post = (pre ++ p) ++ (q ++ (f.2 ++ post)) by simp, ← List.length_append, List.drop_left, List.take_left]
  have e3 : ((pre ++ (p ++ q ++ f.2) ++ post).drop (pre.length + 4 + 3)).take f.2.length = f.2 := by
    rw [← hp, ← hq, show pre ++ (p ++ q ++ f.2) ++ post = (pre ++ p ++ q) ++ (f.2 ++ post) by simp, ← List.length_append, ← List.length_append, List.drop_left, List.take_left]
  have hv : vNum (pre ++ (p ++ q ++ f.2) ++ post) ((pre.length : Nat) + 4 : Int) 3 = (f.2.length : Int) := by
    unfold vNum
    rw [show ((pre.length : Nat) + 4 : Int).toNat = pre.length + 4 by omega, show (3 : Int).toNat = 3 from rfl, e2, nq]
  have hok : varOk (pre ++ (p ++ q ++ f.2) ++ post) ((pre.length : Nat) + 4 : Int) 3 = true := varOk_yes rfl (by rw [hv]; simp; omega)
  have hy := var_yes hok
  rw [hv] at hy
  refine ⟨?_, ?_⟩
  · unfold tagI
    rw [if_pos hb, e1, np, hy.1, show ((pre.length : Nat) + 4 + 3 : Int).toNat = pre.length + 4 + 3 by omega, Int.toNat_natCast, e3]
  · unfold endI
    rw [if_pos hb, hy.2]; simp; omega
theorem at_S (pre post : List UInt8) {f : Fld} (h : tagOne f.1 f.2 = true) : tagS (pre ++ putT f ++ post) pre.length = f ∧ pre.length + 7 + lenS (pre ++ putT f ++ post) pre.length = (pre ++ putT f).length ∧ seenS (pre ++ putT f ++ post) pre.length = true := by
  obtain ⟨p, q, e, hp, hq, np, nq, wp, wq⟩ := put_parts h
  rw [e]
  have e1 : ((pre ++ (p ++ q ++ f.2) ++ post).drop pre.length).take 4 = p := by rw [← hp]; simp
  have e2 : ((pre ++ (p ++ q ++ f.2) ++ post).drop (pre.length + 4)).take 3 = q := by
    rw [← hp, ← hq, show pre ++ (p ++ q ++ f.2) ++ post = (pre ++ p) ++ (q ++ (f.2 ++ post)) by simp, ← List.length_append, List.drop_left, List.take_left]
  have e3 : ((pre ++ (p ++ q ++ f.2) ++ post).drop (pre.length + 7)).take f.2.length = f.2 := by
    rw [show pre.length + 7 = (pre ++ p ++ q).length by simp; omega, show pre ++ (p ++ q ++ f.2) ++ post = (pre ++ p ++ q) ++ (f.2 ++ post) by simp, List.drop_left, List.take_left]
  have e4 : ((pre ++ (p ++ q ++ f.2) ++ post).drop pre.length).take 7 = p ++ q := by
    rw [show 7 = (p ++ q).length by simp; omega, show pre ++ (p ++ q ++ f.2) ++ post = pre ++ ((p ++ q) ++ (f.2 ++ post)) by simp, List.drop_left, List.take_left]
  have hl : lenS (pre ++ (p ++ q ++ f.2) ++ post) pre.length = f.2.length := by unfold lenS; rw [e2, nq, Int.toNat_natCast]
  refine ⟨?_, ?_, ?_⟩
  · unfold tagS; rw [hl, e1, np, e3]
  · rw [hl]; simp; omega
  · unfold seenS
    have hw : within 48 57 (p ++ q) = true := within_of fun c hc => by
      rcases List.mem_append.1 hc with hc | hc
      · exact within_mem wp c hc
      · exact within_mem wq c hc
    rw [e4, e2, nq, hw, decide_eq_true (by simp; omega), decide_eq_true (by simp; omega)]; rfl
theorem putT_pos {f : Fld} (h : tagOne f.1 f.2 = true) : 7 ≤ (putT f).length := by
  obtain ⟨p, q, e, hp, hq, _⟩ := put_parts h
  rw [e]; simp; omega
theorem rdI_back (fs : List Fld) : ∀ (pre : List UInt8) (acc : List Fld) (n : Nat), (∀ f ∈ fs, tagOne f.1 f.2 = true) → (putTs fs).length < n → rdI (pre ++ putTs fs) n pre.length acc = some (acc ++ fs) := by
  induction fs with
  | nil => intro pre acc n _ hn; rw [rdI_end (by simp [putTs]) (by omega)]; simp
  | cons f r ih =>
    intro pre acc n hok hn
    have hf := hok f (by simp)
    have h7 := putT_pos hf
    obtain ⟨a1, a2⟩ := at_I pre (putTs r) hf
    have e : pre ++ putTs (f :: r) = pre ++ putT f ++ putTs r := by rw [putTs_cons]; simp
    rw [putTs_cons, List.length_append] at hn
    obtain ⟨n, rfl⟩ : ∃ m, n = m + 1 := ⟨n - 1, by omega⟩
    rw [e, rdI_go (by simp; omega) (by rw [a2]; omega), a1, a2, Int.toNat_natCast, ih (pre ++ putT f) (acc ++ [f]) n (fun g hg => hok g (by simp [hg])) (by omega)]
    simp
theorem rdS_back (fs : List Fld) : ∀ (pre : List UInt8) (acc : List Fld) (n : Nat), (∀ f ∈ fs, tagOne f.1 f.2 = true) → (putTs fs).length < n → rdS (pre ++ putTs fs) n pre.length acc = some (acc ++ fs) := by
  induction fs with
  | nil => intro pre acc n _ hn; rw [rdS_end (by simp [putTs]) (by omega)]; simp
  | cons f r ih =>
    intro pre acc n hok hn
    have hf := hok f (by simp)
    have h7 := putT_pos hf
    obtain ⟨a1, a2, a3⟩ := at_S pre (putTs r) hf
    have e : pre ++ putTs (f :: r) = pre ++ putT f ++ putTs r := by rw [putTs_cons]; simp
    rw [putTs_cons, List.length_append] at hn
    obtain ⟨n, rfl⟩ : ∃ m, n = m + 1 := ⟨n - 1, by omega⟩
    rw [e, rdS_go (by simp; omega) a3, a1, a2, ih (pre ++ putT f) (acc ++ [f]) n (fun g hg => hok g (by simp [hg])) (by omega)]
    simp
theorem only_is {l : List UInt8} {o : Option (List Fld)} {fs : List Fld} (h : onlyT l o = some fs) : o = some fs ∧ putOk fs = true ∧ putTs fs = l := by
  unfold onlyT at h
  rw [Option.filter_eq_some_iff] at h
  simpa using h
theorem only_of {l : List UInt8} {fs : List Fld} (h1 : putOk fs = true) (h2 : putTs fs = l) : onlyT l (some fs) = some fs := by
  unfold onlyT
  rw [Option.filter_eq_some_iff]
  simp [h1, h2]
theorem only_no {l : List UInt8} {fs : List Fld} (h : ¬ (putOk fs = true ∧ putTs fs = l)) : onlyT l (some fs) = none := by
  cases e : onlyT l (some fs)
  · rfl
  · rename_i gs
    obtain ⟨e1, e2, e3⟩ := only_is e
    obtain rfl : fs = gs := Option.some.inj e1
    exact absurd ⟨e2, e3⟩ h
theorem put_all {fs : List Fld} (h : putOk fs = true) : ∀ f ∈ fs, tagOne f.1 f.2 = true := fun f hf => (okT_mem (tagsOk_parts (putOk_parts h).1).2 f hf).1
/-- tags come back from their text -/
theorem got_put {fs : List Fld} (h : putOk fs = true) : gotT (putTs fs) = some fs := by
  have := rdI_back fs [] [] ((putTs fs).length + 1) (put_all h) (by omega)
  unfold gotT
  rw [show rdI (putTs fs) ((putTs fs).length + 1) 0 [] = some fs from this]
  exact only_of h rfl
theorem got_is {l : List UInt8} {fs : List Fld} (h : gotT l = some fs) : putOk fs = true ∧ putTs fs = l := (only_is h).2
/-- both ways of reading take the same -/
theorem got_S (l : List UInt8) : gotT l = onlyT l (rdS l (l.length + 1) 0 []) := by
  cases e : gotT l
  · cases e2 : onlyT l (rdS l (l.length + 1) 0 [])
    · rfl
    · rename_i fs
      obtain ⟨_, h1, h2⟩ := only_is e2
      have := got_put h1
      rw [h2, e] at this
      cases this
  · rename_i fs
    obtain ⟨h1, h2⟩ := got_is e
    have := rdS_back fs [] [] ((putTs fs).length + 1) (put_all h1) (by omega)
    rw [← h2, show rdS (putTs fs) ((putTs fs).length + 1) 0 [] = some fs from this, only_of h1 rfl]
theorem got_big {l : List UInt8} (h : 999 < l.length) : gotT l = none := by
  cases e : gotT l
  · rfl
  · rename_i fs
    obtain ⟨h1, h2⟩ := got_is e
    have := (putOk_parts h1).2
    rw [h2] at this; omega
end Go.Proofs.YtjnekdihmchlpaaGreatDoor.Tg
/- The contracts of TagOf, the program's and the specification's. -/
namespace Go.Proofs.YtjnekdihmchlpaaGreatDoor.Tg
open Go.RowKit
def fOf : List Fld → Int → Option (List UInt8)
  | [], _ => none
  | f :: r, n => if f.1 = n then some f.2 else fOf r n
theorem fOf_step (fs : List Fld) (k : Nat) (n : Int) (h : k < fs.length) : fOf (fs.drop k) n = if (at0 fs k).1 = n then some (at0 fs k).2 else fOf (fs.drop (k + 1)) n := by
  have e : at0 fs k = fs[k] := by simp [at0, List.getD_eq_getElem?_getD, h]
  rw [List.drop_eq_getElem_cons h, e]; rfl
set_option maxRecDepth 100000 in
set_option maxHeartbeats 800000 in
theorem iTagOf_any (ao : Option Addr) (cap : Nat) (fs : List Fld) (num : Int) (w : World) (hz : FldsAt w ao fs) (hn : fs.length ≤ 4194304) (hd : ∀ f ∈ fs, f.2.length ≤ 1099511627776) :
    Calls Tryz.prog 13 #[.slice ao fs.length cap, .int .i64 num] w fun e w' => e = .returned (.tuple #[.string ⟨((fOf fs num).getD []).toArray⟩, .bool (fOf fs num).isSome]) ∧ Below w.heap.size w w' := by
  rcases hz with rfl | ⟨b, off, rfl, hb, hcell⟩
  · go_enter Tryz.func13, Tryz.ntmps13
    go_wp2
    refine wp_loop_rounds 1 ?_
    rw [rounds_succ]
    go_wp2
    go_ret2
    exact ⟨rfl, Below.refl _ _⟩
  · have HC : Hid (∀ i, i < fs.length → w.cell? ⟨b, off + i * 2, none⟩ = some (.int .i64 (at0 fs i).1) ∧ w.cell? ⟨b, off + i * 2 + 1, none⟩ = some (.string ⟨(at0 fs i).2.toArray⟩)) := hcell
    clear hcell
    go_enter Tryz.func13, Tryz.ntmps13
    go_wp2
    go_loopw [10] (fun i wr => ∃ k : Nat, k ≤ fs.length ∧ i = .int .i64 k ∧ fOf fs num = fOf (fs.drop k) num ∧ Below w.heap.size w wr) (fun i _ => fs.length - (intOf i).toNat)
    case atStart => exact ⟨0, Nat.zero_le _, rfl, rfl, Below.refl _ _⟩
    case round =>
      obtain ⟨k, hk, rfl, hok, hbr⟩ := hrel
      by_cases hlt : k < fs.length
      · have c1 : wr.cell? ⟨b, off + k * 2, none⟩ = some (.int .i64 (at0 fs k).1) := (hbr.cell (p := ⟨b, off + k * 2, none⟩) hb).trans (HC.out k hlt).1
        have c2 : wr.cell? ⟨b, off + k * 2 + 1, none⟩ = some (.string ⟨(at0 fs k).2.toArray⟩) := (hbr.cell (p := ⟨b, off + k * 2 + 1, none⟩) hb).trans (HC.out k hlt).2
        have hki : (k : Int) < (fs.length : Int) := by omega
        have hst := fOf_step fs k num hlt
        have hdk := hd _ (at0_mem hlt)
        obtain ⟨⟨n, s⟩, hf⟩ : ∃ f, at0 fs k = f := ⟨_, rfl⟩
        rw [hf] at c1 c2 hst hdk
        simp only at c1 c2 hst hdk
        clear hf
        have hl : s.length ≤ 1099511627776 := by omega
        by_cases hq : n = num
        · have HN : Hid (fOf fs num = some s) := by rw [Hid, hok, hst, if_pos hq]
          have hq' : (n == num) = true := by simpa using hq
          clear hst hok hq
          go_wp2_with fail
          refine (clone_any s _ hl).mono ?_
          rintro e w2 ⟨rfl, b2⟩
          have bb := (hbr.alloc hbr.size (.cells #[.int .i64 n, .string ⟨s.toArray⟩] 55)).trans (b2.mono (by have := hbr.size; simp; omega))
          clear b2
          go_wp2
          go_ret2
          exact ⟨str_ok (by rw [HN.out]; rfl) (by rw [HN.out]; rfl), bb⟩
        · have HN : Hid (fOf fs num = fOf (fs.drop (k + 1)) num) := by rw [Hid, hok, hst, if_neg hq]
          have hq' : (n == num) = false := by simpa using hq
          clear hst hok hq
          go_wp2
          go_roundw
          case rel => exact ⟨k + 1, by omega, by go_num, HN.out, hbr.alloc hbr.size _⟩
          case measure => simp [intOf]; omega
      · have hke : k = fs.length := by omega
        subst hke
        have HN : Hid (fOf fs num = none) := by rw [Hid, hok, List.drop_of_length_le (Nat.le_refl _)]; rfl
        clear hok
        go_wp2
        go_ret2
        exact ⟨str_ok (by rw [HN.out]; rfl) (by rw [HN.out]; rfl), hbr⟩
end Go.Proofs.YtjnekdihmchlpaaGreatDoor.Tg
/- Plain lists of bytes: an amount comes back from its text, by the program's way and by the specification's. -/
namespace Go.Proofs.YtjnekdihmchlpaaGreatDoor.Mo
def isDig (c : UInt8) : Prop := 48 ≤ c.toNat ∧ c.toNat ≤ 57
/-- the number that digits spell, from a on -/
def val (a : Nat) (l : List UInt8) : Nat := l.foldl (fun a c => a * 10 + (c.toNat - 48)) a
theorem val_cons (a : Nat) (c : UInt8) (l : List UInt8) : val a (c :: l) = val (a * 10 + (c.toNat - 48)) l := by simp only [val, List.foldl_cons]
theorem val_append (a : Nat) (l r : List UInt8) : val a (l ++ r) = val (val a l) r := by simp [val]
theorem val_le (l : List UInt8) : ∀ a, a ≤ val a l := by
  induction l with
  | nil => intro a; exact Nat.le_refl _
  | cons c l ih => intro a; rw [val_cons]; have := ih (a * 10 + (c.toNat - 48)); omega
theorem val_zeros (k : Nat) (l : List UInt8) : val 0 (List.replicate k 48 ++ l) = val 0 l := by
  induction k with
  | zero => rfl
  | succ k ih => rw [List.replicate_succ, List.cons_append, val_cons]; exact ih
theorem ofNat_dig (d : Nat) (h : d < 10) : (UInt8.ofNat (48 + d)).toNat = 48 + d := by
  rw [UInt8.toNat_ofNat']; omega
theorem dec_props (n : Nat) : (∀ c ∈ Lib.decDigits n, isDig c) ∧ val 0 (Lib.decDigits n) = n := by
  induction n using Nat.strongRecOn with
  | _ n ih =>
    rw [Lib.decDigits]
    by_cases h : n < 10
    · rw [dif_pos h]
      refine ⟨fun c hc => ?_, ?_⟩
      · obtain rfl : c = UInt8.ofNat (48 + n) := by simpa using hc
        unfold isDig; rw [ofNat_dig n h]; omega
      · simp only [val, List.foldl_cons, List.foldl_nil]
        rw [ofNat_dig n h]; omega
    · rw [dif_neg h]
      obtain ⟨i1, i2⟩ := ih (n / 10) (by omega)
      refine ⟨fun c hc => ?_, ?_⟩
      · rcases List.mem_append.1 hc with hc | hc
        · exact i1 c hc
        · obtain rfl : c = UInt8.ofNat (48 + n % 10) := by simpa using hc
          unfold isDig; rw [ofNat_dig _ (by omega)]; omega
      · rw [val_append, i2]
        simp only [val, List.foldl_cons, List.foldl_nil]
        rw [ofNat_dig _ (by omega)]; omega
theorem dec_len_pow (k n : Nat) (hk : 1 ≤ k) (h : n < 10 ^ k) : (Lib.decDigits n).length ≤ k := by
  induction k generalizing n with
  | zero => omega
  | succ k ih =>
    rw [Lib.decDigits]
    by_cases h1 : n < 10
    · rw [dif_pos h1]; simp
    · rw [dif_neg h1]
      have hk1 : 1 ≤ k := by
        rcases Nat.eq_zero_or_pos k with rfl | hp
        · simp at h; omega
        · exact hp
      have := ih (n / 10) hk1 (by rw [Nat.pow_succ] at h; omega)
      simp; omega
theorem pad_props (d n : Nat) : (∀ c ∈ pad d (Lib.decDigits n), isDig c) ∧ val 0 (pad d (Lib.decDigits n)) = n := by
  obtain ⟨h1, h2⟩ := dec_props n
  refine ⟨fun c hc => ?_, by rw [pad, val_zeros, h2]⟩
  rcases List.mem_append.1 hc with hc | hc
  · rw [(List.mem_replicate.1 hc).2]; unfold isDig; decide
  · exact h1 c hc
/-- what stands behind the sign, the point struck -/
theorem pointed_parts (d n : Nat) : ∃ a b, a ++ b = pad d (Lib.decDigits n) ∧ ((pointed d (Lib.decDigits n) = a ++ 46 :: b) ∨ (b = [] ∧ pointed d (Lib.decDigits n) = a)) := by
  by_cases h : d = 0
  · subst h
    refine ⟨Lib.decDigits n, [], ?_, .inr ⟨rfl, ?_⟩⟩
    · rw [List.append_nil, pad_id (by have := dec_pos n; omega)]
    · rw [pointed, if_pos rfl]
  · exact ⟨_, _, List.take_append_drop _ _, .inl (pointed_pos h)⟩
/-! ### the program's way: the first point struck, then ParseInt -/
theorem dig_ne_point {c : UInt8} (h : isDig c) : c ≠ 46 := fun e => by subst e; exact absurd h (by unfold isDig; decide)
theorem index_point (a b : List UInt8) (h : ∀ c ∈ a, c ≠ 46) : Lib.index (a ++ 46 :: b) [46] = a.length := by
  induction a with
  | nil => simp [Lib.index, List.isPrefixOf]
  | cons x a ih =>
    have hx : x ≠ 46 := h x (by simp)
    have := ih (fun c hc => h c (by simp [hc]))
    have hp : ((46 : UInt8) == x) = false := by simp; exact fun e => hx e.symm
    simp only [List.cons_append, Lib.index, List.isPrefixOf, hp, Bool.false_and, this]
    rw [if_neg (by simp), if_neg (by simp)]
    simp
theorem replace_point (a b : List UInt8) (h : ∀ c ∈ a, c ≠ 46) : Lib.replace (a ++ 46 :: b) [46] [] 1 = a ++ b := by
  have hi := index_point a b h
  have hc : 0 < Lib.count (a ++ 46 :: b) [46] := by rw [Lib.count_one]; simp; omega
  have hn : Lib.replaceNum (a ++ 46 :: b) [46] 1 = 1 := by unfold Lib.replaceNum; rw [if_neg (by omega)]; rfl
  unfold Lib.replace
  rw [if_neg (by decide), hn, Lib.replaceK_hit _ _ _ _ _ hi]
  simp [Lib.replaceK]
theorem replace_none (s : List UInt8) (h : ∀ c ∈ s, c ≠ 46) : Lib.replace s [46] [] 1 = s := by
  have hc : Lib.count s [46] = 0 := by rw [Lib.count_one]; exact List.count_eq_zero.2 (fun hm => h 46 hm rfl)
  unfold Lib.replace
  rw [if_neg (by decide)]
  unfold Lib.replaceNum
  rw [hc, if_pos (by omega)]
  rfl
theorem parseM_digits (M : Nat) (hM : M ≤ 1844674407370955161) (l : List UInt8) : ∀ a, (∀ c ∈ l, isDig c) → val a l ≤ M → Lib.parseUintM M a l = .ok (val a l) := by
  induction l with
  | nil => intro a _ _; rfl
  | cons c l ih =>
    intro a hd hv
    have hc : isDig c := hd c (by simp)
    have h1 := val_le l (a * 10 + (c.toNat - 48))
    rw [val_cons] at hv ⊢
    unfold Lib.parseUintM
    unfold isDig at hc
    rw [if_pos hc, if_neg (by omega), if_neg (by omega)]
    exact ih _ (fun x hx => hd x (by simp [hx])) hv
theorem parseM_mono (M M' : Nat) (hM : M ≤ M') (l : List UInt8) : ∀ a u, Lib.parseUintM M a l = .ok u → Lib.parseUintM M' a l = .ok u := by
  induction l with
  | nil => intro a u h; exact h
  | cons c l ih =>
    intro a u h
    unfold Lib.parseUintM at h ⊢
    split at h
    · rename_i h1
      rw [if_pos h1]
      split at h
      · cases h
      · rename_i h2
        rw [if_neg h2]
        split at h
        · cases h
        · rename_i h3
          rw [if_neg (by omega)]
          exact ih _ _ h
    · cases h
theorem parseU_digits (p : List UInt8) (hne : p ≠ []) (hd : ∀ c ∈ p, isDig c) (hv : val 0 p ≤ 1000000000000) : Lib.parseUintB 64 p = .ok (val 0 p) := by
  unfold Lib.parseUintB
  rw [if_neg hne]
  exact parseM_mono 1844674407370955161 _ (by decide) p 0 _ (parseM_digits _ (Nat.le_refl _) p 0 hd (by omega))
theorem parse_plus (p : List UInt8) (hne : p ≠ []) (hd : ∀ c ∈ p, isDig c) (hv : val 0 p ≤ 1000000000000) : Lib.parseIntB 64 p = .ok (val 0 p : Int) := by
  have hp := parseU_digits p hne hd hv
  cases p with
  | nil => exact absurd rfl hne
  | cons c r =>
    have hc : isDig c := hd c (by simp)
    unfold isDig at hc
    unfold Lib.parseIntB
    simp only
    rw [if_neg (by omega), hp]
    simp only
    rw [if_neg (by have : (2 : Nat) ^ (64 - 1) = 9223372036854775808 := by decide
                   omega), if_neg (by omega), if_neg (by omega)]
theorem parse_minus (p : List UInt8) (hne : p ≠ []) (hd : ∀ c ∈ p, isDig c) (hv : val 0 p ≤ 1000000000000) : Lib.parseIntB 64 (45 :: p) = .ok (-(val 0 p : Int)) := by
  have hp := parseU_digits p hne hd hv
  unfold Lib.parseIntB
  have h45 : (45 : UInt8).toNat = 45 := by decide
  simp only [h45]
  rw [if_pos (by simp), hp]
  simp only
  rw [if_neg (by simp), if_neg (by have : (2 : Nat) ^ (64 - 1) = 9223372036854775808 := by decide
                                   omega), if_pos trivial]
theorem point_sign : ∀ c ∈ ([45] : List UInt8), c ≠ 46 := by decide
/-- an amount comes back from its text by the program's way -/
theorem parse_mtxt (y : Int) (d : Nat) (h1 : -1000000000000 ≤ y) (h2 : y ≤ 1000000000000) : Lib.parseIntB 64 (Lib.replace (mtxt y d) [46] [] 1) = .ok y := by
  obtain ⟨pd, pv⟩ := pad_props d y.natAbs
  obtain ⟨a, b, hab, hp⟩ := pointed_parts d y.natAbs
  rw [← hab] at pd pv
  have hne : a ++ b ≠ [] := by
    rw [hab]; intro e
    have := pad_len d (Lib.decDigits y.natAbs)
    rw [e] at this; simp at this; omega
  have hda : ∀ c ∈ a, c ≠ 46 := fun c hc => dig_ne_point (pd c (by simp [hc]))
  have hdab : ∀ c ∈ a ++ b, c ≠ 46 := fun c hc => dig_ne_point (pd c hc)
  have hr : ∀ sg : List UInt8, (∀ c ∈ sg, c ≠ 46) → Lib.replace (sg ++ pointed d (Lib.decDigits y.natAbs)) [46] [] 1 = sg ++ (a ++ b) := by
    intro sg hsg
    rcases hp with hp | ⟨hb, hp⟩
    · rw [hp, ← List.append_assoc, replace_point (sg ++ a) b (fun c hc => by rcases List.mem_append.1 hc with h | h; exact hsg c h; exact hda c h), List.append_assoc]
    · subst hb
      rw [List.append_nil] at hdab ⊢
      rw [hp, replace_none _ (fun c hc => by rcases List.mem_append.1 hc with h | h; exact hsg c h; exact hdab c h)]
  unfold mtxt
  by_cases hy : y < 0
  · rw [if_pos hy, hr [45] point_sign]
    rw [List.singleton_append, parse_minus (a ++ b) hne pd (by omega), pv]
    congr 1; omega
  · rw [if_neg hy, hr [] (by simp)]
    rw [List.nil_append, parse_plus (a ++ b) hne pd (by omega), pv]
    congr 1; omega
/-! ### the specification's way: the digits alone, then the sign -/
def scanStep (x : Nat) (c : UInt8) : Nat := if 48 ≤ c.toNat ∧ c.toNat ≤ 57 then x * 10 + (c.toNat - 48) else x
/-- none where what was read passes the greatest amount -/
def scan (x : Nat) : List UInt8 → Option Nat
  | [] => some x
  | c :: r => if scanStep x c ≤ 1000000000000 then scan (scanStep x c) r else none
theorem scan_skip (x : Nat) (c : UInt8) (r : List UInt8) (hx : x ≤ 1000000000000) (hc : ¬ (48 ≤ c.toNat ∧ c.toNat ≤ 57)) : scan x (c :: r) = scan x r := by
  have : scanStep x c = x := by simp only [scanStep]; rw [if_neg hc]
  rw [scan, this, if_pos hx]
theorem scan_digits (l : List UInt8) : ∀ (x : Nat) (r : List UInt8), (∀ c ∈ l, isDig c) → val x l ≤ 1000000000000 → scan x (l ++ r) = scan (val x l) r := by
  induction l with
  | nil => intro x r _ _; rfl
  | cons c l ih =>
    intro x r hd hv
    have hc : isDig c := hd c (by simp)
    have hs : scanStep x c = x * 10 + (c.toNat - 48) := by simp only [scanStep]; rw [if_pos (show 48 ≤ c.toNat ∧ c.toNat ≤ 57 from hc)]
    have h1 := val_le l (x * 10 + (c.toNat - 48))
    rw [val_cons] at hv
    rw [List.cons_append, scan, hs, if_pos (by omega), ih _ _ (fun y hy => hd y (by simp [hy])) hv, val_cons]
theorem scan_mtxt (y : Int) (d : Nat) (h1 : -1000000000000 ≤ y) (h2 : y ≤ 1000000000000) : scan 0 (mtxt y d) = some y.natAbs := by
  obtain ⟨pd, pv⟩ := pad_props d y.natAbs
  obtain ⟨a, b, hab, hp⟩ := pointed_parts d y.natAbs
  rw [← hab] at pd pv
  have hb := val_le b (val 0 a)
  rw [val_append] at pv
  have ha : val 0 a ≤ 1000000000000 := by omega
  have hs : scan 0 (pointed d (Lib.decDigits y.natAbs)) = some y.natAbs := by
    rcases hp with hp | ⟨hb0, hp⟩
    · rw [hp, scan_digits a 0 _ (fun c hc => pd c (by simp [hc])) ha, scan_skip _ _ _ ha (by decide)]
      have := scan_digits b (val 0 a) [] (fun c hc => pd c (by simp [hc])) (by omega)
      rw [List.append_nil] at this
      rw [this, pv]; rfl
    · subst hb0
      have := scan_digits a 0 [] (fun c hc => pd c (by simp [hc])) ha
      rw [List.append_nil] at this
      rw [hp, this]
      simp only [val, List.foldl_nil] at pv
      simp only [scan, val, pv]
  unfold mtxt
  by_cases hy : y < 0
  · rw [if_pos hy, List.singleton_append, scan_skip _ _ _ (by omega) (by decide), hs]
  · rw [if_neg hy, List.nil_append, hs]
theorem mtxt_head (y : Int) (d : Nat) : ((mtxt y d).head? = some 45) ↔ y < 0 := by
  unfold mtxt
  by_cases hy : y < 0
  · simp [hy]
  · rw [if_neg hy, List.nil_append]
    simp only [hy, iff_false]
    obtain ⟨pd, _⟩ := pad_props d y.natAbs
    obtain ⟨a, b, hab, hp⟩ := pointed_parts d y.natAbs
    rw [← hab] at pd
    intro e
    rcases hp with hp | ⟨_, hp⟩
    · rw [hp] at e
      cases a with
      | nil => simp at e
      | cons c a =>
        obtain rfl : c = 45 := by simpa using e
        exact absurd (pd 45 (by simp)) (by unfold isDig; decide)
    · rw [hp] at e
      cases a with
      | nil => simp at e
      | cons c a =>
        obtain rfl : c = 45 := by simpa using e
        exact absurd (pd 45 (by simp)) (by unfold isDig; decide)
theorem mtxt_len (y : Int) (d : Nat) (h1 : -1000000000000 ≤ y) (h2 : y ≤ 1000000000000) (hd : d ≤ 3) : (mtxt y d).length ≤ 20 ∧ mtxt y d ≠ [] := by
  have hl := dec_len_pow 13 y.natAbs (by omega) (by omega)
  have hpl := pad_len d (Lib.decDigits y.natAbs)
  obtain ⟨a, b, hab, hp⟩ := pointed_parts d y.natAbs
  have hlen : a.length + b.length = max (d + 1) (Lib.decDigits y.natAbs).length := by rw [← hpl, ← hab]; simp
  have hq : (pointed d (Lib.decDigits y.natAbs)).length ≤ a.length + b.length + 1 ∧ 1 ≤ (pointed d (Lib.decDigits y.natAbs)).length := by
    rcases hp with hp | ⟨hb, hp⟩
    · rw [hp]; simp; omega
    · rw [hp]; subst hb; simp at hlen ⊢; omega
  have hm : (mtxt y d).length ≤ (pointed d (Lib.decDigits y.natAbs)).length + 1 ∧ 1 ≤ (mtxt y d).length := by
    unfold mtxt; split <;> simp <;> omega
  refine ⟨by omega, fun e => ?_⟩
  rw [e] at hm; simp at hm
/-- the two answers -/
def implRead (l : List UInt8) (cur : Int) : Option Int :=
  match Lib.parseIntB 64 (Lib.replace l [46] [] 1) with
  | .ok v => if moneyT v cur = l then some v else none
  | _ => none
def signed (l : List UInt8) (x : Nat) : Int := if l.head? = some 45 then -(x : Int) else x
def specRead (l : List UInt8) (cur : Int) : Option Int :=
  if 20 < l.length then none
  else match scan 0 l with
  | none => none
  | some x => if l = [] ∨ moneyT (signed l x) cur ≠ l then none else some (signed l x)
theorem moneyT_ne {v cur : Int} (h : moneyT v cur ≠ []) : (-1000000000000 ≤ v ∧ v ≤ 1000000000000) ∧ ∃ d : Nat, d ≤ 3 ∧ moneyT v cur = mtxt v d := by
  by_cases ht : textOk v cur = true
  · have hv : moneyT v cur = mtxt v (digs cur).toNat := by rw [moneyT, if_pos ht]
    simp [textOk] at ht
    have := digs_bd cur
    exact ⟨mOk_bd ht.1, (digs cur).toNat, by omega, hv⟩
  · exact absurd (by rw [moneyT, if_neg ht]) h
theorem read_same (l : List UInt8) (cur : Int) : implRead l cur = specRead l cur := by
  have hspec : ∀ v, l ≠ [] → moneyT v cur = l → specRead l cur = some v ∧ implRead l cur = some v := by
    intro v hne hl
    obtain ⟨hb, d, hd, hm⟩ := moneyT_ne (v := v) (cur := cur) (by rw [hl]; exact hne)
    have hml : mtxt v d = l := by rw [← hm, hl]
    have hlen := mtxt_len v d hb.1 hb.2 hd
    have hsc := scan_mtxt v d hb.1 hb.2
    have hsg : signed l v.natAbs = v := by
      unfold signed
      have := mtxt_head v d
      rw [hml] at this
      by_cases hv : v < 0
      · rw [if_pos (this.2 hv)]; omega
      · rw [if_neg (fun e => hv (this.1 e))]; omega
    rw [hml] at hlen hsc
    constructor
    · unfold specRead
      rw [if_neg (by omega), hsc]
      simp only
      rw [hsg, if_neg (by rintro (h | h); exact hne h; exact h hl)]
    · unfold implRead
      have := parse_mtxt v d hb.1 hb.2
      rw [hml] at this
      rw [this]
      simp only
      rw [if_pos hl]
  cases hi : implRead l cur with
  | some v =>
    have hl : moneyT v cur = l := by
      unfold implRead at hi
      split at hi
      · split at hi
        · rename_i h; cases hi; exact h
        · cases hi
      · cases hi
    have hne : l ≠ [] := by
      intro e; subst e
      have : implRead [] cur = none := by
        unfold implRead
        rw [replace_none [] (by simp)]
        rfl
      rw [this] at hi; cases hi
    exact (hspec v hne hl).1.symm
  | none =>
    cases hs : specRead l cur with
    | none => rfl
    | some x =>
      unfold specRead at hs
      split at hs
      · cases hs
      · split at hs
        · cases hs
        · rename_i y hy
          split at hs
          · cases hs
          · rename_i hc
            cases hs
            have hne : l ≠ [] := fun e => hc (.inl e)
            have hl : moneyT (signed l y) cur = l := by
              by_cases e : moneyT (signed l y) cur = l
              · exact e
              · exact absurd (.inr e) hc
            rw [(hspec _ hne hl).2] at hi; cases hi
end Go.Proofs.YtjnekdihmchlpaaGreatDoor.Mo
/- The books, plainly: even lines; how one line stands to another. -/
namespace Go.Proofs.YtjnekdihmchlpaaGreatDoor
theorem cur_mem {c : Int} (h : 0 ≤ digs c) : c ∈ curL := by
  unfold digs at h
  simp only [curL, List.mem_cons, List.not_mem_nil, or_false]
  repeat' split at h
  all_goals omega
theorem sumC_none {c : Int} {ls : List Ln} (h : ∀ x ∈ ls, x.2.1 ≠ c) : sumC c ls = 0 := by
  induction ls with
  | nil => rfl
  | cons y r ih =>
    have h1 := h y (List.mem_cons_self ..)
    have h2 := ih fun x hx => h x (List.mem_cons_of_mem _ hx)
    simp only [sumC, List.map_cons, List.sum_cons] at h2 ⊢
    rw [if_neg h1, h2]; rfl
theorem evenL_iff {ls : List Ln} (h : ∀ x ∈ ls, 0 ≤ digs x.2.1) : evenL ls = true ↔ ∀ x ∈ ls, sumC x.2.1 ls = 0 := by
  unfold evenL
  rw [List.all_eq_true]
  constructor
  · intro ha x hx
    simpa using ha _ (cur_mem (h x hx))
  · intro ha c _
    by_cases hc : ∃ x ∈ ls, x.2.1 = c
    · obtain ⟨x, hx, rfl⟩ := hc
      simpa using ha x hx
    · have := sumC_none (c := c) (ls := ls) fun x hx e => hc ⟨x, hx, e⟩
      simp [this]
/-- how one line stands to another: below 0 ahead of it, 0 at its place, above 0 behind it -/
def cmpI (a b : Int) : Int := if a < b then -1 else if b < a then 1 else 0
def orI (x y : Int) : Int := if x ≠ 0 then x else y
def cmpL (x y : Ln) : Int := orI (cmpI x.1 y.1) (cmpI x.2.1 y.2.1)
theorem cmpL_lt (x y : Ln) : cmpL x y < 0 ↔ lnLt x y = true := by
  simp only [cmpL, orI, cmpI, lnLt, decide_eq_true_eq]
  repeat' split
  all_goals omega
end Go.Proofs.YtjnekdihmchlpaaGreatDoor
/- The law's own comparison of two messages. -/
namespace Go.Proofs.YtjnekdihmchlpaaGreatDoor
open Go.RowKit
def sameM (k1 k2 : Int) (xs ys : List Fld) : Bool := decide (k1 = k2 ∧ xs = ys)
theorem sameM_self (k : Int) (xs : List Fld) : sameM k k xs xs = true := decide_eq_true ⟨rfl, rfl⟩
set_option maxRecDepth 100000 in
set_option maxHeartbeats 3200000 in
theorem sameMessage_any (k1 k2 : Int) (ao bo : Option Addr) (c1 c2 : Nat) (xs ys : List Fld) (w : World) (hx : FldsAt w ao xs) (hy : FldsAt w bo ys) (h1 : xs.length ≤ 1099511627776) (_h2 : ys.length ≤ 1099511627776) :
    Calls Tryz.prog 8 #[.agg #[.int .i64 k1, .slice ao xs.length c1], .agg #[.int .i64 k2, .slice bo ys.length c2]] w fun e w' => e = .returned (.bool (sameM k1 k2 xs ys)) ∧ Below w.heap.size w w' := by
  by_cases hk : k1 = k2
  · have hk' : (k1 != k2) = false := by simpa using hk
    have HM : Hid (sameM k1 k2 xs ys = decide (xs = ys)) := by rw [Hid, sameM]; by_cases h : xs = ys <;> simp [h, hk]
    by_cases hl : xs.length = ys.length
    · obtain ⟨n, hn⟩ : ∃ n, xs.length = n := ⟨_, rfl⟩
      have hn2 : ys.length = n := by omega
      have HX : Hid (xs.length = n) := hn
      have HY : Hid (ys.length = n) := hn2
      have hn0 : n ≤ 1099511627776 := by omega
      have HCX : Hid (∀ i, i < n → ∃ b off, ao = some ⟨b, off, none⟩ ∧ b < w.heap.size ∧ w.cell? ⟨b, off + i * 2, none⟩ = some (.int .i64 (at0 xs i).1) ∧ w.cell? ⟨b, off + i * 2 + 1, none⟩ = some (.string ⟨(at0 xs i).2.toArray⟩)) := by
        intro i hi
        rcases hx with h | ⟨b, off, e, hb, hc⟩
        · rw [h] at hn; simp at hn; omega
        · exact ⟨b, off, e, hb, hc i (by omega)⟩
      have HCY : Hid (∀ i, i < n → ∃ b off, bo = some ⟨b, off, none⟩ ∧ b < w.heap.size ∧ w.cell? ⟨b, off + i * 2, none⟩ = some (.int .i64 (at0 ys i).1) ∧ w.cell? ⟨b, off + i * 2 + 1, none⟩ = some (.string ⟨(at0 ys i).2.toArray⟩)) := by
        intro i hi
        rcases hy with h | ⟨b, off, e, hb, hc⟩
        · rw [h] at hn2; simp at hn2; omega
        · exact ⟨b, off, e, hb, hc i (by omega)⟩
      rw [hn, hn2]
      clear hl hn hn2 hx hy h1 hk
      go_enter Tryz.func8, Tryz.ntmps8
      go_wp2
      go_loopw [5] (fun i wr => ∃ k : Nat, k ≤ n ∧ i = .int .i64 k ∧ (∀ j, j < k → at0 xs j = at0 ys j) ∧ wr.cell? ⟨w.heap.size, 1, none⟩ = some (.slice ao n c1) ∧ wr.cell? ⟨w.heap.size + 1, 1, none⟩ = some (.slice bo n c2) ∧ Below w.heap.size w wr) (fun i _ => n - (intOf i).toNat)
      case atStart => exact ⟨0, Nat.zero_le _, rfl, fun j hj => by omega, by simp [go_sem], by simp [go_sem], by go_grown⟩
      case round =>
        obtain ⟨k, hkn, rfl, hsame, x1, y1, hbr⟩ := hrel
        have HS : Hid (∀ j, j < k → at0 xs j = at0 ys j) := hsame
        clear hsame
        by_cases hlt : k < n
        · obtain ⟨b, off, rfl, hb, hcx1, hcx2⟩ := HCX.out k hlt
          obtain ⟨d, off2, rfl, hd, hcy1, hcy2⟩ := HCY.out k hlt
          have e1 : wr.cell? ⟨b, off + k * 2, none⟩ = some (.int .i64 (at0 xs k).1) := (hbr.cell (p := ⟨b, off + k * 2, none⟩) hb).trans hcx1
          have e2 : wr.cell? ⟨b, off + k * 2 + 1, none⟩ = some (.string ⟨(at0 xs k).2.toArray⟩) := (hbr.cell (p := ⟨b, off + k * 2 + 1, none⟩) hb).trans hcx2
          have e3 : wr.cell? ⟨d, off2 + k * 2, none⟩ = some (.int .i64 (at0 ys k).1) := (hbr.cell (p := ⟨d, off2 + k * 2, none⟩) hd).trans hcy1
          have e4 : wr.cell? ⟨d, off2 + k * 2 + 1, none⟩ = some (.string ⟨(at0 ys k).2.toArray⟩) := (hbr.cell (p := ⟨d, off2 + k * 2 + 1, none⟩) hd).trans hcy2
          have hki : (k : Int) < (n : Int) := by omega
          have HNE : Hid (at0 xs k ≠ at0 ys k → ¬ xs = ys) := fun h e => h (by rw [e])
          obtain ⟨⟨x, s⟩, hxk⟩ : ∃ x, at0 xs k = x := ⟨_, rfl⟩
          obtain ⟨⟨y, t⟩, hyk⟩ : ∃ y, at0 ys k = y := ⟨_, rfl⟩
          rw [hxk] at e1 e2
          rw [hyk] at e3 e4
          simp only at e1 e2 e3 e4
          have HXK : Hid (at0 xs k = (x, s)) := hxk
          have HYK : Hid (at0 ys k = (y, t)) := hyk
          have hne := over_ne wr
          have g1 := over_cell e1
          have g2 := over_cell e2
          have g3 := over_cell e3
          have g4 := over_cell e4
          have g5 := over_cell x1
          have g6 := over_cell y1
          have hx0 : w.heap.size < wr.heap.size := World.block_lt_of_cell? wr _ x1
          have hy0 : w.heap.size + 1 < wr.heap.size := World.block_lt_of_cell? wr _ y1
          clear hxk hyk hcx1 hcx2 hcy1 hcy2
          by_cases hx1 : x = y
          · subst hx1
            by_cases hs1 : s = t
            · subst hs1
              have HY2 : Hid (at0 xs k = at0 ys k) := by rw [Hid, HXK.out, HYK.out]
              clear HNE
              go_wp2
              refine wp_region_over (by kernel_rfl) (by kernel_rfl) ?_
              repeat (go_big_quiet_step (fail))
              refine wpQuiet_nil ?_
              rintro _ ⟨⟨w2, b2⟩, hw2⟩
              subst hw2
              go_wp2
              go_roundw
              case rel => exact ⟨k + 1, by omega, by go_num, (fun j hj => by rcases (show j < k ∨ j = k from by omega) with h | rfl; exact HS.out j h; exact HY2.out), (b2.cell (p := ⟨w.heap.size, 1, none⟩) hx0).trans x1, (b2.cell (p := ⟨w.heap.size + 1, 1, none⟩) hy0).trans y1, hbr.trans (b2.mono hbr.size)⟩
              case measure => simp [intOf]; omega
            · have hs2 : (s == t) = false := by simpa using hs1
              have HN : Hid (¬ xs = ys) := HNE.out (by rw [HXK.out, HYK.out]; intro h; exact hs1 (Prod.mk.inj h).2)
              clear HNE hs1
              go_wp2
              refine wp_region_over (by kernel_rfl) (by kernel_rfl) ?_
              repeat (go_big_quiet_step (fail))
              refine wpQuiet_nil ?_
              rintro _ ⟨⟨w2, b2⟩, hw2⟩
              subst hw2
              go_wp2
              go_ret
              exact ⟨one_bool (by rw [HM.out, decide_eq_false HN.out]), hbr.trans (b2.mono hbr.size)⟩
          · have hx2 : (x == y) = false := by simpa using hx1
            have HN : Hid (¬ xs = ys) := HNE.out (by rw [HXK.out, HYK.out]; intro h; exact hx1 (Prod.mk.inj h).1)
            clear HNE hx1
            go_wp2
            refine wp_region_over (by kernel_rfl) (by kernel_rfl) ?_
            repeat (go_big_quiet_step (fail))
            refine wpQuiet_nil ?_
            rintro _ ⟨⟨w2, b2⟩, hw2⟩
            subst hw2
            go_wp2
            go_ret
            exact ⟨one_bool (by rw [HM.out, decide_eq_false HN.out]), hbr.trans (b2.mono hbr.size)⟩
        · have HE : Hid (xs = ys) := by
            apply List.ext_getElem (by rw [HX.out, HY.out])
            intro i g1 g2
            have := HS.out i (by rw [HX.out] at g1; omega)
            simpa [at0, List.getD_eq_getElem?_getD, g1, g2] using this
          go_wp2
          go_ret
          exact ⟨one_bool (by rw [HM.out, decide_eq_true HE.out]), hbr⟩
    · have hne : ((xs.length : Int) != (ys.length : Int)) = true := by simp; omega
      have HE : Hid (¬ xs = ys) := fun e => hl (by rw [e])
      clear hk
      go_enter Tryz.func8, Tryz.ntmps8
      go_wp2
      go_ret
      exact ⟨one_bool (by rw [HM.out, decide_eq_false HE.out]), by go_grown⟩
  · have hk' : (k1 != k2) = true := by simpa using hk
    have HM : Hid (sameM k1 k2 xs ys = false) := decide_eq_false (fun e => hk e.1)
    clear hk
    go_enter Tryz.func8, Tryz.ntmps8
    go_wp2
    go_ret
    exact ⟨one_bool HM.out.symm, by go_grown⟩
end Go.Proofs.YtjnekdihmchlpaaGreatDoor
/- The contracts of the functions that lay a message's parts: its fields' numbers; a field's bytes, the program's. -/
namespace Go.Proofs.YtjnekdihmchlpaaGreatDoor
open Go.RowKit
theorem numsF_len (fs : List Fld) : (numsF fs).length = fs.length := by simp [numsF]
theorem numsF_at (fs : List Fld) (k : Nat) (h : k < fs.length) : (numsF fs).getD k 0 = (at0 fs k).1 := by
  simp [numsF, at0, List.getD_eq_getElem?_getD, h]
set_option maxRecDepth 100000 in
set_option maxHeartbeats 800000 in
theorem numsOf_any (ao : Option Addr) (cap : Nat) (fs : List Fld) (w : World) (hz : FldsAt w ao fs) (hn : fs.length ≤ 1048576) :
    Calls Tryz.prog 33 #[.slice ao fs.length cap] w fun e w' => e = .returned (.slice (some ⟨w.heap.size, 0, none⟩) fs.length fs.length) ∧
      w'.ownsRow w.heap.size 3 1 (.slice (some ⟨w.heap.size, 0, none⟩) fs.length fs.length) fs.length ((numsF fs).map (Value.int .i64)) ∧ Below w.heap.size w w' := by
  obtain ⟨i0, hi, hz0, hz1, hz2⟩ := info_parts info3
  have hnl := numsF_len fs
  have hm0 : (madeCells (Value.int .i64 0).cells (fs.length * 1)).toList = half (numsF fs) 0 := by
    rw [half_zero, Nat.mul_one, hnl]; exact toList_madeCells_one _ _
  have HC : Hid (∀ i, i < fs.length → ∃ b off, ao = some ⟨b, off, none⟩ ∧ b < w.heap.size ∧ w.cell? ⟨b, off + i * 2, none⟩ = some (.int .i64 (at0 fs i).1) ∧ w.cell? ⟨b, off + i * 2 + 1, none⟩ = some (.string ⟨(at0 fs i).2.toArray⟩)) := by
    rcases hz with rfl | ⟨b, off, rfl, hb, hcell⟩
    · intro i hi; simp at hi
    · exact fun i hi => ⟨b, off, rfl, hb, hcell i hi⟩
  clear hz
  go_enter Tryz.func33, Tryz.ntmps33
  go_wp2_with (refine wpList_make_full _ rfl (.tmp 7) (.tmp 7) 50 rfl w.heap.size 3 i0 (.int .i64 0) 1 Tryz.underlying50 hi hz0 hz1 .i64 .i64 _ _ fs.length rfl rfl rfl rfl (by rw [hz2]; omega) (by unfold maxLen; omega) (Nat.le_refl _) ?_; intro w1 hown hg)
  rw [hm0] at hown
  have hb1 : Below w.heap.size w w1 := (Below.refl _ _).grown hg (Nat.le_refl _) (fun k hk => by cases hk)
  have HNL : Hid _ := hnl
  clear hm0 hg hnl
  go_loopw [11] (fun i wr => ∃ k : Nat, k ≤ fs.length ∧ i = .int .i64 k ∧ wr.ownsRow w.heap.size 3 1 (.slice (some ⟨w.heap.size, 0, none⟩) fs.length fs.length) fs.length (half (numsF fs) k) ∧ Below w.heap.size w wr) (fun i _ => fs.length - (intOf i).toNat)
  case atStart => exact ⟨0, Nat.zero_le _, rfl, hown, hb1⟩
  case round =>
    obtain ⟨k, hk, rfl, ho, hbr⟩ := hrel
    clear hown hb1
    by_cases hlt : k < fs.length
    · obtain ⟨b, off, rfl, hb, d1, d2⟩ := HC.out k hlt
      have c1 : wr.cell? ⟨b, off + k * 2, none⟩ = some (.int .i64 (at0 fs k).1) := (hbr.cell (p := ⟨b, off + k * 2, none⟩) hb).trans d1
      have c2 : wr.cell? ⟨b, off + k * 2 + 1, none⟩ = some (.string ⟨(at0 fs k).2.toArray⟩) := (hbr.cell (p := ⟨b, off + k * 2 + 1, none⟩) hb).trans d2
      have hki : (k : Int) < (fs.length : Int) := by omega
      have hlt' : k < (numsF fs).length := by rw [HNL.out]; exact hlt
      have c3 : wr.cell? ⟨w.heap.size, k, none⟩ = some (.int .i64 0) := by rw [ho.cellAt k (by omega), half_at _ k hlt']
      have c4 : wr.frozen? ⟨w.heap.size, k, none⟩ = false := ho.frozenAt k
      have hws : w.heap.size < wr.heap.size := World.block_lt_of_cell? wr _ c3
      have hna := numsF_at fs k hlt
      obtain ⟨⟨n, s⟩, hf⟩ : ∃ f, at0 fs k = f := ⟨_, rfl⟩
      rw [hf] at c1 c2 hna
      simp only at c1 c2 hna
      have HR : Hid (((wr.setCell ⟨w.heap.size, k, none⟩ (.int .i64 n)).alloc (.cells #[.int .i64 n, .string ⟨s.toArray⟩] 57)).ownsRow w.heap.size 3 1 (.slice (some ⟨w.heap.size, 0, none⟩) fs.length fs.length) fs.length (half (numsF fs) (k + 1))) := by
        have R := ((ho.stored k (.int .i64 n)).1).alloc (.cells #[.int .i64 n, .string ⟨s.toArray⟩] 57)
        rw [half_succ _ k hlt', hna]
        exact R
      have HBB : Hid (Below w.heap.size w ((wr.setCell ⟨w.heap.size, k, none⟩ (.int .i64 n)).alloc (.cells #[.int .i64 n, .string ⟨s.toArray⟩] 57))) := (hbr.setCell (Nat.le_refl _) _).alloc (by simp; exact hbr.size) _
      have hne1 : ¬ wr.heap.size = w.heap.size := by omega
      have hne2 : ¬ w.heap.size = wr.heap.size := by omega
      clear hf hna ho d1 d2
      go_wp2
      go_roundw
      case rel => exact ⟨k + 1, by omega, by go_num, HR.out, HBB.out⟩
      case measure => simp [intOf]; omega
    · have hke : k = fs.length := by omega
      subst hke
      rw [show half (numsF fs) fs.length = (numsF fs).map (Value.int .i64) from by rw [← HNL.out]; exact half_all _] at ho
      go_wp2
      go_ret
      exact ⟨rfl, ho, hbr⟩
end Go.Proofs.YtjnekdihmchlpaaGreatDoor
/- The contracts of ReadMoney. -/
namespace Go.Proofs.YtjnekdihmchlpaaGreatDoor.Mo
open Go.RowKit
theorem var_keep {w w' : World} {n : String} {cs : Array Value} (h : w.var? Tryz.prog n = some cs) (hb : Below w.heap.size w w') : w'.var? Tryz.prog n = some cs := by
  unfold World.var? at *
  cases hg : Tryz.prog.globalNamed n with
  | none => simp [hg] at h
  | some g =>
    simp only [hg, Option.bind_some] at h ⊢
    have hlt : g < w.heap.size := by
      rcases Nat.lt_or_ge g w.heap.size with h' | h'
      · exact h'
      · rw [Array.getElem?_eq_none h'] at h; simp at h
    rw [hb.block g hlt]
    exact h
/-- what the library's variables hold, as far as ReadMoney asks -/
def ReadEnv (w : World) : Prop := Pow10 w ∧ (∃ m, w.cell? ⟨4, 0, none⟩ = some (.int .i64 m)) ∧
  (∃ tp p, w.var? Tryz.prog "strconv.ErrSyntax" = some #[.iface tp p]) ∧ (∃ tp p, w.var? Tryz.prog "strconv.ErrRange" = some #[.iface tp p])
theorem ReadEnv.below {w w' : World} (h : ReadEnv w) (hb : Below w.heap.size w w') : ReadEnv w' := by
  obtain ⟨h1, ⟨m, h2⟩, ⟨t, p, h3⟩, ⟨t2, p2, h4⟩⟩ := h
  exact ⟨h1.below hb, ⟨m, (hb.cell (World.block_lt_of_cell? w _ h2)).trans h2⟩, ⟨t, p, var_keep h3 hb⟩, ⟨t2, p2, var_keep h4 hb⟩⟩
theorem read_two {v w : Int} {b c : Bool} (h : v = w) (g : b = c) : Ending.returned (.tuple #[.int .i64 v, .bool b]) = .returned (.tuple #[.int .i64 w, .bool c]) := by rw [h, g]
theorem replace_len (l : List UInt8) : (Lib.replace l [46] [] 1).length ≤ l.length := by
  unfold Lib.replace
  rw [if_neg (by decide)]
  have hn : Lib.replaceNum l [46] 1 = 0 ∨ Lib.replaceNum l [46] 1 = 1 := by
    unfold Lib.replaceNum
    by_cases h : (1 : Int) < 0 ∨ (Lib.count l [46] : Int) < 1
    · rw [if_pos h]; omega
    · rw [if_neg h]; exact .inr rfl
  rcases hn with h | h
  · rw [h]; exact Nat.le_refl _
  · rw [h]
    simp only [Lib.replaceK]
    split
    · exact Nat.le_refl _
    · simp; omega
theorem iread_ok {l : List UInt8} {cur v : Int} (h : Lib.parseIntB 64 (Lib.replace l [46] [] 1) = .ok v) : implRead l cur = if moneyT v cur = l then some v else none := by
  unfold implRead; rw [h]
theorem iread_syn {l : List UInt8} {cur : Int} (h : Lib.parseIntB 64 (Lib.replace l [46] [] 1) = .«syntax») : implRead l cur = none := by
  unfold implRead; rw [h]
theorem iread_rng {l : List UInt8} {cur : Int} (h : Lib.parseIntB 64 (Lib.replace l [46] [] 1) = .range) : implRead l cur = none := by
  unfold implRead; rw [h]
set_option maxHeartbeats 1000000 in
theorem iRead_any (l : List UInt8) (cur : Int) (w : World) (hl : l.length ≤ 1048576) (hw : (Lit.int .i64 cur).wf = true) (he : ReadEnv w) :
    Calls Tryz.prog 14 #[.string ⟨l.toArray⟩, .int .i64 cur] w fun e w' => e = .returned (.tuple #[.int .i64 ((implRead l cur).getD 0), .bool (implRead l cur).isSome]) ∧ Below w.heap.size w w' := by
  have HE : Hid (ReadEnv w) := he
  obtain ⟨_, ⟨m, hm⟩, _, _⟩ := he
  obtain ⟨r, hr⟩ : ∃ r, Lib.replace l [46] [] 1 = r := ⟨_, rfl⟩
  have hrl : r.length ≤ l.length := hr ▸ replace_len l
  have hsz : (⟨l.toArray⟩ : ByteArray).size = l.length := ba_size l
  have hsr : (⟨r.toArray⟩ : ByteArray).size = r.length := ba_size r
  have HQ : Hid (Lib.replace l [46] [] 1 = r) := hr
  have HSZ : Hid _ := hsz
  have HSR : Hid _ := hsr
  clear hr hsz hsr
  go_enter Tryz.func14, Tryz.ntmps14
  go_wp2_with fail
  refine (Tryz.strings_Replace ⟨l.toArray⟩ ⟨#[46]⟩ ⟨#[]⟩ 1 m _ (by rw [HSZ.out]; omega) hm (by decide) (by rw [HSZ.out]; show l.length + _ * 0 ≤ _; omega)).mono ?_
  rintro e w1 ⟨rfl, b1⟩
  rw [show Lib.replace (⟨l.toArray⟩ : ByteArray).data.toList (⟨#[46]⟩ : ByteArray).data.toList (⟨#[]⟩ : ByteArray).data.toList 1 = r from HQ.out]
  have he1 := HE.out.below b1
  have HE1 : Hid (ReadEnv w1) := he1
  obtain ⟨_, _, ⟨tp, p, hv1⟩, ⟨tp2, p2, hv2⟩⟩ := he1
  clear hm
  cases hpar : Lib.parseIntB 64 r with
  | ok v =>
    go_wp2_with fail
    refine (Tryz.strconv_ParseInt_10_at64_ok ⟨r.toArray⟩ (by rw [HSR.out]; omega) v hpar _).mono ?_
    rintro e w2 ⟨rfl, hw2⟩
    have b2 : Below w1.heap.size w1 w2 := by
      rcases hw2 with rfl | ⟨t, rfl⟩
      · exact Below.refl _ _
      · exact Lib.bytesWorld_below _ _ _
    have HT := Pow10.below HE1.out.1 b2
    have HT2 : Hid _ := HT
    clear hw2 hv1 hv2 HT
    have HI : Hid (implRead l cur = if moneyT v cur = l then some v else none) := iread_ok (by rw [HQ.out, hpar])
    clear hpar
    go_wp2_with fail
    refine (iMoneyText_any v cur _ hw HT2.out).mono ?_
    rintro e w3 ⟨rfl, b3⟩
    have B3 := next (next b1 b2) b3
    clear b1 b2 b3
    by_cases hm : moneyT v cur = l
    · have HN : Hid (implRead l cur = some v) := by rw [Hid, HI.out, if_pos hm]
      rw [hm]
      clear hm HI
      go_wp2
      go_ret2
      exact ⟨read_two (by rw [HN.out]; rfl) (by rw [HN.out]; rfl), B3⟩
    · have HN : Hid (implRead l cur = none) := by rw [Hid, HI.out, if_neg hm]
      generalize moneyT v cur = t at hm
      have hm' : (t == l) = false := by simpa using hm
      clear HI hm
      go_wp2
      go_ret2
      exact ⟨read_two (by rw [HN.out]; rfl) (by rw [HN.out]; rfl), B3⟩
  | «syntax» =>
    have HN : Hid (implRead l cur = none) := iread_syn (by rw [HQ.out, hpar])
    go_wp2_with fail
    refine (Tryz.strconv_ParseInt_10_at64_syntax_var ⟨r.toArray⟩ (by rw [HSR.out]; omega) hpar tp p _ hv1).mono ?_
    rintro e w2 ⟨N, rfl, _, _, b2⟩
    clear hv1 hv2
    go_wp2
    go_ret2
    exact ⟨read_two (by rw [HN.out]; rfl) (by rw [HN.out]; rfl), next b1 b2⟩
  | range =>
    have HN : Hid (implRead l cur = none) := iread_rng (by rw [HQ.out, hpar])
    go_wp2_with fail
    refine (Tryz.strconv_ParseInt_10_at64_range_var ⟨r.toArray⟩ (by rw [HSR.out]; omega) hpar tp2 p2 _ hv2).mono ?_
    rintro e w2 ⟨N, rfl, _, _, b2⟩
    clear hv1 hv2
    go_wp2
    go_ret2
    exact ⟨read_two (by rw [HN.out]; rfl) (by rw [HN.out]; rfl), next b1 b2⟩
theorem sread_long {l : List UInt8} {cur : Int} (h : 20 < l.length) : specRead l cur = none := by unfold specRead; rw [if_pos h]
theorem sread_none {l : List UInt8} {cur : Int} (h : scan 0 l = none) : specRead l cur = none := by
  unfold specRead; split
  · rfl
  · rw [h]
theorem sread_some {l : List UInt8} {cur : Int} {x : Nat} (h : ¬ 20 < l.length) (hs : scan 0 l = some x) : specRead l cur = if l = [] ∨ moneyT (signed l x) cur ≠ l then none else some (signed l x) := by
  unfold specRead; rw [if_neg h, hs]
theorem scan_drop (l : List UInt8) (k x : Nat) (h : k < l.length) (hs : scan 0 l = scan x (l.drop k)) : scan 0 l = if scanStep x (l.getD k 0) ≤ 1000000000000 then scan (scanStep x (l.getD k 0)) (l.drop (k + 1)) else none := by
  rw [hs, List.drop_eq_getElem_cons h, scan]
  simp [List.getD_eq_getElem?_getD, h]
theorem byte_at (l : List UInt8) (k : Nat) (h : k < l.length) : l.getD k 0 = (⟨l.toArray⟩ : ByteArray)[k]'(by rw [ba_size]; exact h) := by
  rw [List.getD_eq_getElem?_getD, List.getElem?_eq_getElem h]
  rfl
theorem wrap_byte (c : UInt8) : wrap64 ((c.toNat : Nat) : Int) = (c.toNat : Int) := by
  have := c.toNat_lt
  unfold wrap64; omega
end Go.Proofs.YtjnekdihmchlpaaGreatDoor.Mo
