/- Joined: SAdd, RDue, CaseQ, CaseK, SDo1, EntA, SDo3, SDo4. -/
import Derived.Test.YtlonjjliochbhaaKE1IBet
import Derived.Test.YtlonjjliochbhaaKE1IAdd
import Derived.Test.YtlonjjliochbhaaJE10a
import Derived.Test.YtlonjjliochbhaaJE10b
import Derived.Test.YtlonjjliochbhaaKE1CStart
import Derived.Deep.DeepCutAuto
import Derived.Deep.RegionHeld3
import Derived.Deep.RegionLaw
import Derived.Deep.RegionWith
/- AddWork and WorkBetween, the specification's. -/
namespace Go.Proofs.Ytlonjjliochbhaa
open Go.RowKit

set_option maxHeartbeats 1000000 in
theorem sAdd_any (d n : Int) (ao : Option Addr) (c : Nat) (zs : List Int) (w : World) (hx : IntsAt w ao zs) (h1 : zs.length ≤ 1099511627776) :
    Calls Try.prog 74 #[.int .i64 d, .int .i64 n, .slice ao zs.length c] w fun e w' => e = .returned (.tuple #[.int .i64 ((addV d n zs).getD 0), .bool (addV d n zs).isSome]) ∧ Below w.heap.size w w' := by
  have HX : Hid (IntsAt w ao zs) := hx
  clear hx
  cases hd : dOk d
  · have HN : Hid _ := addV_no (n := n) (zs := zs) (.inl hd)
    go_enter Try.func74, Try.ntmps74
    go_wp2_with fail
    refine (sDayOk_any _ _).mono ?_
    rintro e w' ⟨rfl, hw⟩
    subst hw
    go_wp2
    go_ret2
    exact ⟨two_eq (by rw [HN.out]; rfl) (by rw [HN.out]; rfl), Below.refl _ _⟩
  · cases hn : inB n 0 400
    · have HN : Hid (addV d n zs = none) := by
        refine addV_no ?_
        by_cases h0 : n < 0
        · exact .inr (.inl h0)
        · by_cases h4 : 400 < n
          · exact .inr (.inr (.inl h4))
          · rw [inB_pos (by omega) (by omega)] at hn; cases hn
      go_enter Try.func74, Try.ntmps74
      go_wp2_with fail
      refine (sDayOk_any _ _).mono ?_
      rintro e w' ⟨rfl, hw⟩
      subst hw
      go_wp2_with fail
      refine (in_any _ _ _ _).mono ?_
      rintro e w' ⟨rfl, hw⟩
      subst hw
      go_wp2
      go_ret2
      exact ⟨two_eq (by rw [HN.out]; rfl) (by rw [HN.out]; rfl), Below.refl _ _⟩
    · have hnb : 0 ≤ n ∧ n ≤ 400 := by simpa [inB] using hn
      cases ho : offOk zs
      · have HN : Hid _ := addV_no (d := d) (n := n) (.inr (.inr (.inr ho)))
        go_enter Try.func74, Try.ntmps74
        go_wp2_with fail
        refine (sDayOk_any _ _).mono ?_
        rintro e w' ⟨rfl, hw⟩
        subst hw
        go_wp2_with fail
        refine (in_any _ _ _ _).mono ?_
        rintro e w' ⟨rfl, hw⟩
        subst hw
        go_wp2_with fail
        refine (sOff_any _ _ zs _ HX.out h1).mono ?_
        rintro e w1 ⟨rfl, b1⟩
        go_wp2
        go_ret2
        exact ⟨two_eq (by rw [HN.out]; rfl) (by rw [HN.out]; rfl), b1⟩
      · have HV : Hid _ := addV_yes hd hnb.1 hnb.2 ho
        have hdb := dOk_bd hd
        go_enter Try.func74, Try.ntmps74
        go_wp2_with fail
        refine (sDayOk_any _ _).mono ?_
        rintro e w' ⟨rfl, hw⟩
        subst hw
        go_wp2_with fail
        refine (in_any _ _ _ _).mono ?_
        rintro e w' ⟨rfl, hw⟩
        subst hw
        go_wp2_with fail
        refine (sOff_any _ _ zs _ HX.out h1).mono ?_
        rintro e w1 ⟨rfl, b1⟩
        have HX1 : Hid (IntsAt w1 ao zs) := IntsAt.below HX.out b1
        go_wp2
        go_loop [0, 1] (fun p q => ∃ (f m : Nat), f ≤ 80000 ∧ m ≤ 400 ∧ p = .int .i64 (80000 - f) ∧ q = .int .i64 m ∧ adv zs f m = adv zs (80000 - d).toNat n.toNat) (fun p _ => (80000 - intOf p).toNat)
        case atStart => exact ⟨(80000 - d).toNat, n.toNat, by omega, by omega, val_int (by omega), val_int (by omega), rfl⟩
        case round =>
          obtain ⟨f, m, hf, hm, rfl, rfl, ht⟩ := hrel
          have HT : Hid _ := ht
          clear ht
          obtain ⟨y, hy⟩ : ∃ y : Int, 80000 - (f : Int) = y := ⟨_, rfl⟩
          rw [hy]
          have hy1 : 0 ≤ y := by omega
          have hy2 : y ≤ 80000 := by omega
          have HY : Hid _ := hy
          cases m with
          | zero =>
            have HE : Hid (addV d n zs = some y) := by rw [Hid, HV.out, ← HT.out, adv_zero, hy]
            clear hy
            go_wp2
            go_ret2
            exact ⟨two_eq (by rw [HE.out]; rfl) (by rw [HE.out]; rfl), b1⟩
          | succ m =>
            have hmp : (0 : Int) < ((m + 1 : Nat) : Int) := by omega
            cases f with
            | zero =>
              have hye : y = 80000 := by omega
              have HE : Hid (addV d n zs = none) := by rw [Hid, HV.out, ← HT.out, adv_end]
              have hdk : dOk (y + 1) = false := dOk_neg (by omega)
              clear hy
              go_wp2_with fail
              refine (sDayOk_any _ _).mono ?_
              rintro e w' ⟨rfl, hw⟩
              subst hw
              go_wp2
              go_ret2
              exact ⟨two_eq (by rw [HE.out]; rfl) (by rw [HE.out]; rfl), b1⟩
            | succ f =>
              have HF : Hid (80000 - (f : Int) = y + 1) := by rw [Hid]; omega
              have hye : y ≤ 79999 := by omega
              have hdk : dOk (y + 1) = true := dOk_pos (by omega) (by omega)
              cases hw2 : wk zs (y + 1)
              · have HR : Hid (adv zs f (m + 1) = adv zs (80000 - d).toNat n.toNat) := by rw [Hid, ← HT.out, adv_no (by rw [HF.out]; exact hw2)]
                clear hy
                go_wp2_with fail
                refine (sDayOk_any _ _).mono ?_
                rintro e w' ⟨rfl, hw⟩
                subst hw
                go_wp2_with fail
                refine (sWorks2_any _ _ _ zs _ HX1.out h1 hdk).mono ?_
                rintro e w' ⟨rfl, hw⟩
                subst hw
                go_wp2
                go_round
                case rel => exact ⟨f, m + 1, by omega, hm, val_int HF.out.symm, rfl, HR.out⟩
                case measure => simp [intOf]; omega
              · have HR : Hid (adv zs f m = adv zs (80000 - d).toNat n.toNat) := by rw [Hid, ← HT.out, adv_yes (by rw [HF.out]; exact hw2)]
                clear hy
                go_wp2_with fail
                refine (sDayOk_any _ _).mono ?_
                rintro e w' ⟨rfl, hw⟩
                subst hw
                go_wp2_with fail
                refine (sWorks2_any _ _ _ zs _ HX1.out h1 hdk).mono ?_
                rintro e w' ⟨rfl, hw⟩
                subst hw
                go_wp2
                go_round
                case rel => exact ⟨f, m, by omega, by omega, val_int HF.out.symm, val_int (by omega), HR.out⟩
                case measure => simp [intOf]; omega

end Go.Proofs.Ytlonjjliochbhaa

/- Chapter 8: Deadline, the program's and the specification's. -/
namespace Go.Proofs.Ytlonjjliochbhaa
open Go.RowKit

/-- AddWork; -1 where there is none -/
def dueV (d n : Int) (zs : List Int) : Int := (addV d n zs).getD (-1)
theorem dueV_no {d n : Int} {zs : List Int} (h : addV d n zs = none) : dueV d n zs = -1 := by rw [dueV, h]; rfl
theorem dueV_yes {d n y : Int} {zs : List Int} (h : addV d n zs = some y) : dueV d n zs = y := by rw [dueV, h]; rfl


set_option maxHeartbeats 400000 in
theorem sDue_any (d n : Int) (ao : Option Addr) (c : Nat) (zs : List Int) (w : World) (hx : IntsAt w ao zs) (h1 : zs.length ≤ 1099511627776) :
    Calls Try.prog 61 #[.int .i64 d, .int .i64 n, .slice ao zs.length c] w fun e w' => e = .returned (.int .i64 (dueV d n zs)) ∧ Below w.heap.size w w' := by
  cases h : addV d n zs with
  | none =>
    have HV : Hid _ := dueV_no h
    have HC : Hid (Calls Try.prog 74 #[.int .i64 d, .int .i64 n, .slice ao zs.length c] w fun e w' => e = .returned (.tuple #[.int .i64 0, .bool false]) ∧ Below w.heap.size w w') := by
      have g := sAdd_any d n ao c zs w hx h1
      rw [h] at g
      exact g
    clear hx
    go_enter Try.func61, Try.ntmps61
    go_wp2_with fail
    refine Calls.mono HC.out ?_
    rintro e w1 ⟨rfl, b1⟩
    go_wp2
    go_ret
    exact ⟨one_int HV.out.symm, b1⟩
  | some y =>
    have HV : Hid _ := dueV_yes h
    have HC : Hid (Calls Try.prog 74 #[.int .i64 d, .int .i64 n, .slice ao zs.length c] w fun e w' => e = .returned (.tuple #[.int .i64 y, .bool true]) ∧ Below w.heap.size w w') := by
      have g := sAdd_any d n ao c zs w hx h1
      rw [h] at g
      exact g
    clear hx
    go_enter Try.func61, Try.ntmps61
    go_wp2_with fail
    refine Calls.mono HC.out ?_
    rintro e w1 ⟨rfl, b1⟩
    go_wp2
    go_ret
    exact ⟨one_int HV.out.symm, b1⟩

end Go.Proofs.Ytlonjjliochbhaa

/- Cases, plainly: what an act makes of a case on a day. No Go in sight. -/
namespace Go.Proofs.Ytlonjjliochbhaa

/-- an amount to the issuer, or from it; nothing for 0 -/
def toIss (c : Cs) (x : Int) : List En := if x = 0 then [] else [(c.acq, c.iss, c.cur, x)]
def fromIss (c : Cs) (x : Int) : List En := if x = 0 then [] else [(c.iss, c.acq, c.cur, x)]
def endC (c : Cs) (x : Int) : Cs := ⟨c.iss, c.acq, c.cur, c.am, 7, c.rsn, 0, c.bk + x, c.fee, c.cop, c.sta, -1⟩
def loser (c : Cs) (x : Int) : Int := if c.cl ≤ 2 * x then c.acq else c.iss
def ruleC (c : Cs) (x : Int) : Cs := ⟨c.iss, c.acq, c.cur, c.am, 7, c.rsn, 0, c.bk + x, c.fee + 50000, c.cop, c.sta, -1⟩
def ruleE (c : Cs) (x : Int) : List En := toIss c x ++ [(loser c x, 9999, c.cur, 50000)]
def givenC (c : Cs) : Cs := ⟨c.iss, c.acq, c.cur, c.am, 2, c.rsn, c.cl, c.bk, c.fee, true, c.sta, -1⟩

/-- whether an act is of a state -/
def ofSt (st k : Int) : Bool :=
  if k = 0 then decide (st = 0) else if k = 1 then decide (st = 1) else if k = 2 then decide (0 ≤ st ∧ st ≤ 2) else if k = 3 then decide (st = 3) else if k = 4 then decide (st = 4)
  else if k = 5 then decide (st = 5) else if k = 6 then decide (st = 5) else if k = 7 then decide (st = 6) else if k = 8 then decide (st = 1 ∨ 3 ≤ st ∧ st ≤ 6) else if k = 9 then decide (st = 0 ∨ st = 2) else false
theorem of_cases {st k : Int} (h : ofSt st k = true) : (k = 0 ∧ st = 0) ∨ (k = 1 ∧ st = 1) ∨ (k = 2 ∧ (st = 0 ∨ st = 1 ∨ st = 2)) ∨ (k = 3 ∧ st = 3) ∨ (k = 4 ∧ st = 4) ∨ (k = 5 ∧ st = 5) ∨ (k = 6 ∧ st = 5) ∨ (k = 7 ∧ st = 6) ∨ (k = 8 ∧ (st = 1 ∨ st = 3 ∨ st = 4 ∨ st = 5 ∨ st = 6)) ∨ (k = 9 ∧ (st = 0 ∨ st = 2)) := by
  unfold ofSt at h
  repeat' split at h
  all_goals simp at h
  all_goals omega

def copied (c : Cs) (t : Int) : Bool := c.cop || (decide (c.st = 1) && lateV t c.due)
/-- the code of asking money back -/
def chargeV (c : Cs) (a : Ac) (t : Int) (zs : List Int) : Int :=
  if rOk a.rsn = false ∨ (rProof a.rsn = true ∧ copied c t = false) then 3
  else if ¬ (1 ≤ a.am ∧ a.am ≤ c.am) ∨ (a.am < c.am ∧ rPart a.rsn = false) then 2
  else if lateV t (dueV c.sta (rDays a.rsn) zs) = true then 4 else 0
/-- whether an act of the state can be done -/
def codeV (c : Cs) (a : Ac) (t : Int) (zs : List Int) : Int :=
  if a.kind = 2 then chargeV c a t zs
  else if a.kind = 1 ∨ a.kind = 6 then (if lateV t c.due = true then 4 else 0)
  else if a.kind = 3 ∨ a.kind = 4 then (if lateV t c.due = true then 4 else if 1 ≤ a.am ∧ a.am ≤ c.cl then 0 else 2)
  else if a.kind = 7 then (if 0 ≤ a.am ∧ a.am ≤ c.cl then 0 else 2)
  else if a.kind = 8 then (if lateV t c.due = true then 0 else 4) else 0
def expireC (c : Cs) : Cs := if c.st = 1 then givenC c else if c.st = 5 then endC c c.cl else if c.st = 6 then ruleC c (c.cl / 2) else endC c 0
def expireE (c : Cs) : List En := if c.st = 1 then [] else if c.st = 5 then toIss c c.cl else if c.st = 6 then ruleE c (c.cl / 2) else []
/-- what an act that can be done makes of a case -/
def nextC (c : Cs) (a : Ac) (t : Int) (zs : List Int) : Cs :=
  if a.kind = 0 then ⟨c.iss, c.acq, c.cur, c.am, 1, c.rsn, c.cl, c.bk, c.fee, c.cop, c.sta, dueV t 20 zs⟩
  else if a.kind = 1 then givenC c
  else if a.kind = 2 then ⟨c.iss, c.acq, c.cur, c.am, 3, a.rsn, a.am, a.am, c.fee, c.cop, c.sta, dueV t 30 zs⟩
  else if a.kind = 3 then ⟨c.iss, c.acq, c.cur, c.am, 4, c.rsn, a.am, c.bk - a.am, c.fee, c.cop, c.sta, dueV t 30 zs⟩
  else if a.kind = 4 then ⟨c.iss, c.acq, c.cur, c.am, 5, c.rsn, a.am, c.bk, c.fee, c.cop, c.sta, dueV t 15 zs⟩
  else if a.kind = 5 then endC c c.cl
  else if a.kind = 6 then ⟨c.iss, c.acq, c.cur, c.am, 6, c.rsn, c.cl, c.bk, c.fee, c.cop, c.sta, dueV t 60 zs⟩
  else if a.kind = 7 then ruleC c a.am
  else if a.kind = 8 then expireC c
  else ⟨c.iss, c.acq, c.cur, c.am, 7, c.rsn, c.cl, c.bk, c.fee, c.cop, c.sta, -1⟩
def nextE (c : Cs) (a : Ac) : List En :=
  if a.kind = 2 then toIss c a.am else if a.kind = 3 then fromIss c a.am else if a.kind = 5 then toIss c c.cl else if a.kind = 7 then ruleE c a.am else if a.kind = 8 then expireE c else []
def dayOkAt (c : Cs) (t : Int) (zs : List Int) : Bool := caseOk c && (dOk t && (decide (c.sta ≤ t) && offOk zs))
/-- the code of an act -/
def doV (c : Cs) (a : Ac) (t : Int) (zs : List Int) : Int :=
  if dayOkAt c t zs = false then 5 else if ofSt c.st a.kind = false then 1 else if codeV c a t zs ≠ 0 then codeV c a t zs else if caseOk (nextC c a t zs) = true then 0 else 1
def doC (c : Cs) (a : Ac) (t : Int) (zs : List Int) : Cs := if doV c a t zs = 0 then nextC c a t zs else c
def doE (c : Cs) (a : Ac) (t : Int) (zs : List Int) : List En := if doV c a t zs = 0 then nextE c a else []

end Go.Proofs.Ytlonjjliochbhaa

/- What an act's entries and its case are made of, plainly: parties, how many, codes. No Go in sight. -/
namespace Go.Proofs.Ytlonjjliochbhaa

theorem toIss_len (c : Cs) (n : Int) : (toIss c n).length ≤ 1 := by unfold toIss; split <;> simp
theorem fromIss_len (c : Cs) (n : Int) : (fromIss c n).length ≤ 1 := by unfold fromIss; split <;> simp
theorem ruleE_len (c : Cs) (n : Int) : (ruleE c n).length ≤ 2 := by
  have := toIss_len c n
  unfold ruleE; simp; omega
theorem expireE_len (c : Cs) : (expireE c).length ≤ 2 := by
  have h1 := toIss_len c c.cl
  have h2 := ruleE_len c (c.cl / 2)
  unfold expireE
  split
  · simp
  · split
    · omega
    · split
      · omega
      · simp
theorem nextE_len (c : Cs) (a : Ac) : (nextE c a).length ≤ 2 := by
  have h1 := toIss_len c a.am
  have h2 := fromIss_len c a.am
  have h3 := toIss_len c c.cl
  have h4 := ruleE_len c a.am
  have h5 := expireE_len c
  unfold nextE
  split
  · omega
  · split
    · omega
    · split
      · omega
      · split
        · omega
        · split
          · omega
          · simp
theorem doE_len (c : Cs) (a : Ac) (t : Int) (zs : List Int) : (doE c a t zs).length ≤ 2 := by
  unfold doE; split
  · exact nextE_len c a
  · simp
/-- whether an account is the house's or of a case's parties -/
def ofC (c : Cs) (x : Int) : Prop := x = c.iss ∨ x = c.acq ∨ x = 9999
theorem toIss_of {c : Cs} {n : Int} {e : En} (h : e ∈ toIss c n) : ofC c e.1 ∧ ofC c e.2.1 := by
  unfold toIss at h
  split at h
  · cases h
  · simp at h; subst h; exact ⟨.inr (.inl rfl), .inl rfl⟩
theorem fromIss_of {c : Cs} {n : Int} {e : En} (h : e ∈ fromIss c n) : ofC c e.1 ∧ ofC c e.2.1 := by
  unfold fromIss at h
  split at h
  · cases h
  · simp at h; subst h; exact ⟨.inl rfl, .inr (.inl rfl)⟩
theorem ruleE_of {c : Cs} {n : Int} {e : En} (h : e ∈ ruleE c n) : ofC c e.1 ∧ ofC c e.2.1 := by
  unfold ruleE at h
  rcases List.mem_append.1 h with h | h
  · exact toIss_of h
  · simp at h; subst h
    refine ⟨?_, .inr (.inr rfl)⟩
    show ofC c (loser c n)
    unfold loser; split
    · exact .inr (.inl rfl)
    · exact .inl rfl
theorem expireE_of {c : Cs} {e : En} (h : e ∈ expireE c) : ofC c e.1 ∧ ofC c e.2.1 := by
  unfold expireE at h
  split at h
  · cases h
  · split at h
    · exact toIss_of h
    · split at h
      · exact ruleE_of h
      · cases h
theorem doE_of {c : Cs} {a : Ac} {t : Int} {zs : List Int} {e : En} (h : e ∈ doE c a t zs) : ofC c e.1 ∧ ofC c e.2.1 := by
  unfold doE at h
  split at h
  · unfold nextE at h
    split at h
    · exact toIss_of h
    · split at h
      · exact fromIss_of h
      · split at h
        · exact toIss_of h
        · split at h
          · exact ruleE_of h
          · split at h
            · exact expireE_of h
            · cases h
  · cases h
theorem expireC_of (c : Cs) : (expireC c).iss = c.iss ∧ (expireC c).acq = c.acq := by
  unfold expireC
  split
  · exact ⟨rfl, rfl⟩
  · split
    · exact ⟨rfl, rfl⟩
    · split <;> exact ⟨rfl, rfl⟩
theorem doC_of (c : Cs) (a : Ac) (t : Int) (zs : List Int) : (doC c a t zs).iss = c.iss ∧ (doC c a t zs).acq = c.acq := by
  unfold doC
  split
  · unfold nextC
    by_cases h0 : a.kind = 0
    · rw [if_pos h0]; exact ⟨rfl, rfl⟩
    rw [if_neg h0]
    by_cases h1 : a.kind = 1
    · rw [if_pos h1]; exact ⟨rfl, rfl⟩
    rw [if_neg h1]
    by_cases h2 : a.kind = 2
    · rw [if_pos h2]; exact ⟨rfl, rfl⟩
    rw [if_neg h2]
    by_cases h3 : a.kind = 3
    · rw [if_pos h3]; exact ⟨rfl, rfl⟩
    rw [if_neg h3]
    by_cases h4 : a.kind = 4
    · rw [if_pos h4]; exact ⟨rfl, rfl⟩
    rw [if_neg h4]
    by_cases h5 : a.kind = 5
    · rw [if_pos h5]; exact ⟨rfl, rfl⟩
    rw [if_neg h5]
    by_cases h6 : a.kind = 6
    · rw [if_pos h6]; exact ⟨rfl, rfl⟩
    rw [if_neg h6]
    by_cases h7 : a.kind = 7
    · rw [if_pos h7]; exact ⟨rfl, rfl⟩
    rw [if_neg h7]
    by_cases h8 : a.kind = 8
    · rw [if_pos h8]; exact expireC_of c
    rw [if_neg h8]
    exact ⟨rfl, rfl⟩
  · exact ⟨rfl, rfl⟩
theorem chargeV_bd (c : Cs) (a : Ac) (t : Int) (zs : List Int) : 0 ≤ chargeV c a t zs ∧ chargeV c a t zs ≤ 4 := by
  unfold chargeV
  split
  · omega
  · split
    · omega
    · split <;> omega
theorem codeV_bd (c : Cs) (a : Ac) (t : Int) (zs : List Int) : 0 ≤ codeV c a t zs ∧ codeV c a t zs ≤ 4 := by
  have h := chargeV_bd c a t zs
  unfold codeV
  split
  · exact h
  · split
    · split <;> omega
    · split
      · split
        · omega
        · split <;> omega
      · split
        · split <;> omega
        · split
          · split <;> omega
          · omega
theorem doV_bd (c : Cs) (a : Ac) (t : Int) (zs : List Int) : 0 ≤ doV c a t zs ∧ doV c a t zs ≤ 5 := by
  have h := codeV_bd c a t zs
  unfold doV
  split
  · omega
  · split
    · omega
    · split
      · omega
      · split <;> omega

end Go.Proofs.Ytlonjjliochbhaa

/- The contracts of the specification's l09To and l09End. -/
namespace Go.Proofs.Ytlonjjliochbhaa
open Go.RowKit
set_option maxRecDepth 100000

/-- entries of one's own -/
def ListR (w : World) (es : List En) (e : Ending) (w' : World) : Prop :=
  ∃ ao cap, e = .returned (.slice ao es.length cap) ∧ w'.ownsRow w.heap.size 99 4 (.slice ao es.length cap) es.length (ecells es) ∧ Below w.heap.size w w'
/-- a case and entries of one's own -/
def PairR (w : World) (c : Cs) (es : List En) (e : Ending) (w' : World) : Prop :=
  ∃ ao cap, e = .returned (.tuple #[cv c, .slice ao es.length cap]) ∧ w'.ownsRow w.heap.size 99 4 (.slice ao es.length cap) es.length (ecells es) ∧ Below w.heap.size w w'
theorem pair_end {w u : World} {c : Cs} {es : List En} {ao : Option Addr} {cap h base : Nat} (hh : w.heap.size ≤ h) (hb : h < base) (ho : u.ownsRow base 99 4 (.slice ao es.length cap) es.length (ecells es)) (bel : Below w.heap.size w u) :
    PairR w c es (.returned (.tuple #[cv c, .slice ao es.length cap])) (put12 u h c) :=
  ⟨ao, cap, rfl, lowerL (own_put12 c ho (fun g hg => by have := (ho.lt g hg).1; omega)) (by omega), put12_below c bel hh⟩

theorem own_none' (w : World) (b g : Nat) (hg : g = w.heap.size) (hb : b ≤ w.heap.size) : (w.alloc (.cells #[] 99)).ownsRow b 99 4 (.slice (some ⟨g, 0, none⟩) 0 0) 0 [] := by subst hg; exact own_none w b hb
theorem own_one' (w : World) (b g : Nat) (x : En) (hg : g = w.heap.size) (hb : b ≤ w.heap.size) : (w.alloc (.cells #[.int .i64 x.1, .int .i64 x.2.1, .int .i64 x.2.2.1, .int .i64 x.2.2.2] 99)).ownsRow b 99 4 (.slice (some ⟨g, 0, none⟩) 1 1) 1 (ecells [x]) := by subst hg; exact own_one w b x hb
set_option maxHeartbeats 1600000 in
theorem sTo_iss (c : Cs) (x : Int) (w : World) : Calls Try.prog 63 #[cv c, .int .i64 x, .bool true] w (ListR w (toIss c x)) := by
  obtain ⟨iss, acq, cur, am, st, rsn, cl, bk, fee, cop, sta, due⟩ := c
  unfold cv
  by_cases h0 : x = 0
  · have HE : Hid (toIss ⟨iss, acq, cur, am, st, rsn, cl, bk, fee, cop, sta, due⟩ x = []) := if_pos h0
    have h0' : (x == 0) = true := by simpa using h0
    clear h0
    go_enter Try.func63, Try.ntmps63
    go_wp2
    go_ret
    rw [HE.out]
    exact ⟨_, _, rfl, own_none' _ _ _ (by simp) (by simp <;> omega), by go_grown⟩
  · have HE : Hid (toIss ⟨iss, acq, cur, am, st, rsn, cl, bk, fee, cop, sta, due⟩ x = [(acq, iss, cur, x)]) := if_neg h0
    have h0' := beq_no h0
    clear h0
    go_enter Try.func63, Try.ntmps63
    go_wp2
    go_ret
    rw [HE.out]
    exact ⟨_, _, rfl, own_one' _ _ _ (acq, iss, cur, x) (by simp) (by simp <;> omega), by go_grown⟩
set_option maxHeartbeats 1600000 in
theorem sTo_from (c : Cs) (x : Int) (w : World) : Calls Try.prog 63 #[cv c, .int .i64 x, .bool false] w (ListR w (fromIss c x)) := by
  obtain ⟨iss, acq, cur, am, st, rsn, cl, bk, fee, cop, sta, due⟩ := c
  unfold cv
  obtain ⟨W, hW⟩ : ∃ W, W = (w.alloc (.cells #[.int .i64 iss, .int .i64 acq, .int .i64 cur, .int .i64 am, .int .i64 st, .int .i64 rsn, .int .i64 cl, .int .i64 bk, .int .i64 fee, .bool cop, .int .i64 sta, .int .i64 due] 37)).alloc (.cells #[.int .i64 acq, .int .i64 iss, .int .i64 cur, .int .i64 x] 99) := ⟨_, rfl⟩
  have HW : Hid _ := hW
  have HBW : Hid (Below w.heap.size w W) := by rw [Hid, hW]; go_grown
  have HK : Hid (W.cell? ⟨w.heap.size + 1, 0, none⟩ = some (.int .i64 acq) ∧ W.cell? ⟨w.heap.size + 1, 1, none⟩ = some (.int .i64 iss) ∧ W.cell? ⟨w.heap.size + 1, 2, none⟩ = some (.int .i64 cur) ∧ W.cell? ⟨w.heap.size + 1, 3, none⟩ = some (.int .i64 x)) := by
    rw [Hid, hW]; exact ⟨by simp [go_sem], by simp [go_sem], by simp [go_sem], by simp [go_sem]⟩
  have HF : Hid (W.frozen? ⟨w.heap.size + 1, 0, none⟩ = false ∧ W.frozen? ⟨w.heap.size + 1, 1, none⟩ = false ∧ W.frozen? ⟨w.heap.size + 1, 2, none⟩ = false ∧ W.frozen? ⟨w.heap.size + 1, 3, none⟩ = false) := by
    rw [Hid, hW]; exact ⟨by simp [go_sem], by simp [go_sem], by simp [go_sem], by simp [go_sem]⟩
  have HS : Hid (w.heap.size + 1 < W.heap.size) := by rw [Hid, hW]; simp
  clear hW
  go_enter Try.func63, Try.ntmps63
  go_upto_region 2 with fail
  rw [← HW.out]
  clear HW
  obtain ⟨k0, k1, k2, k3⟩ := HK.out
  go_wp2_with fail
  refine (sBack_any acq iss cur x _).mono ?_
  rintro e u ⟨rfl, b⟩
  have HB : Hid (Below w.heap.size w u) := next HBW.out b
  have HSU : Hid (w.heap.size + 1 < u.heap.size) := Nat.lt_of_lt_of_le HS.out b.size
  have q0 := (b.cell (p := ⟨w.heap.size + 1, 0, none⟩) HS.out).trans k0
  have q1 := (b.cell (p := ⟨w.heap.size + 1, 1, none⟩) HS.out).trans k1
  have q2 := (b.cell (p := ⟨w.heap.size + 1, 2, none⟩) HS.out).trans k2
  have q3 := (b.cell (p := ⟨w.heap.size + 1, 3, none⟩) HS.out).trans k3
  have z0 := (b.frozen (p := ⟨w.heap.size + 1, 0, none⟩) HS.out).trans HF.out.1
  have z1 := (b.frozen (p := ⟨w.heap.size + 1, 1, none⟩) HS.out).trans HF.out.2.1
  have z2 := (b.frozen (p := ⟨w.heap.size + 1, 2, none⟩) HS.out).trans HF.out.2.2.1
  have z3 := (b.frozen (p := ⟨w.heap.size + 1, 3, none⟩) HS.out).trans HF.out.2.2.2
  clear b k0 k1 k2 k3
  have HX : Hid (Below w.heap.size w ((((u.setCell ⟨w.heap.size + 1, 0, none⟩ (.int .i64 iss)).setCell ⟨w.heap.size + 1, 1, none⟩ (.int .i64 acq)).setCell ⟨w.heap.size + 1, 2, none⟩ (.int .i64 cur)).setCell ⟨w.heap.size + 1, 3, none⟩ (.int .i64 x))) :=
    (((HB.out.setCell (show w.heap.size ≤ w.heap.size + 1 by omega) _).setCell (show w.heap.size ≤ w.heap.size + 1 by omega) _).setCell (show w.heap.size ≤ w.heap.size + 1 by omega) _).setCell (show w.heap.size ≤ w.heap.size + 1 by omega) _
  by_cases h0 : x = 0
  · have HE : Hid (fromIss ⟨iss, acq, cur, am, st, rsn, cl, bk, fee, cop, sta, due⟩ x = []) := if_pos h0
    have h0' : (x == 0) = true := by simpa using h0
    clear h0
    go_wp2
    go_ret
    rw [HE.out]
    exact ⟨_, _, rfl, own_none' _ _ _ (by simp) HX.out.size, HX.out.alloc HX.out.size _⟩
  · have HE : Hid (fromIss ⟨iss, acq, cur, am, st, rsn, cl, bk, fee, cop, sta, due⟩ x = [(iss, acq, cur, x)]) := if_neg h0
    have h0' := beq_no h0
    clear h0
    go_wp2
    go_ret
    rw [HE.out]
    exact ⟨_, _, rfl, own_one' _ _ _ (iss, acq, cur, x) (by simp) HX.out.size, HX.out.alloc HX.out.size _⟩

set_option maxHeartbeats 6400000 in
theorem sEnd_any (c : Cs) (x : Int) (w : World) (hb : 0 ≤ c.bk ∧ c.bk ≤ 1000000000000) (hx : 0 ≤ x ∧ x ≤ 1000000000000) : Calls Try.prog 64 #[cv c, .int .i64 x] w (PairR w (endC c x) (toIss c x)) := by
  have HT : Hid (∀ u, Calls Try.prog 63 #[cv c, .int .i64 x, .bool true] u (ListR u (toIss c x))) := fun u => sTo_iss c x u
  obtain ⟨W, hW⟩ : ∃ W, W = (w.alloc (.cells #[.int .i64 c.iss, .int .i64 c.acq, .int .i64 c.cur, .int .i64 c.am, .int .i64 c.st, .int .i64 c.rsn, .int .i64 c.cl, .int .i64 c.bk, .int .i64 c.fee, .bool c.cop, .int .i64 c.sta, .int .i64 c.due] 37)).alloc (.cells #[.int .i64 0, .int .i64 0, .int .i64 0, .int .i64 0, .int .i64 0, .int .i64 0, .int .i64 0, .int .i64 0, .int .i64 0, .bool false, .int .i64 0, .int .i64 0] 37) := ⟨_, rfl⟩
  have b1 : Below (w.alloc (.cells #[.int .i64 c.iss, .int .i64 c.acq, .int .i64 c.cur, .int .i64 c.am, .int .i64 c.st, .int .i64 c.rsn, .int .i64 c.cl, .int .i64 c.bk, .int .i64 c.fee, .bool c.cop, .int .i64 c.sta, .int .i64 c.due] 37)).heap.size (w.alloc (.cells #[.int .i64 c.iss, .int .i64 c.acq, .int .i64 c.cur, .int .i64 c.am, .int .i64 c.st, .int .i64 c.rsn, .int .i64 c.cl, .int .i64 c.bk, .int .i64 c.fee, .bool c.cop, .int .i64 c.sta, .int .i64 c.due] 37)) W := by rw [hW]; exact (Below.refl _ _).alloc (Nat.le_refl _) _
  have e1 : (w.alloc (.cells #[.int .i64 c.iss, .int .i64 c.acq, .int .i64 c.cur, .int .i64 c.am, .int .i64 c.st, .int .i64 c.rsn, .int .i64 c.cl, .int .i64 c.bk, .int .i64 c.fee, .bool c.cop, .int .i64 c.sta, .int .i64 c.due] 37)).heap.size = w.heap.size + 1 := by simp
  have HC1 : Hid (CB w.heap.size 0 c W) := (CB.new w c _).below b1
  have HF1 : Hid (FZ w.heap.size 0 W) := (FZ.new w _ _).below (by simp) b1
  have HC2 : Hid (CB (w.heap.size + 1) 0 zeroC W) := by
    have h := CB.new (w.alloc (.cells #[.int .i64 c.iss, .int .i64 c.acq, .int .i64 c.cur, .int .i64 c.am, .int .i64 c.st, .int .i64 c.rsn, .int .i64 c.cl, .int .i64 c.bk, .int .i64 c.fee, .bool c.cop, .int .i64 c.sta, .int .i64 c.due] 37)) zeroC 37
    rw [e1] at h
    rw [Hid, hW]; exact h
  have HF2 : Hid (FZ (w.heap.size + 1) 0 W) := by
    have h := FZ.new (w.alloc (.cells #[.int .i64 c.iss, .int .i64 c.acq, .int .i64 c.cur, .int .i64 c.am, .int .i64 c.st, .int .i64 c.rsn, .int .i64 c.cl, .int .i64 c.bk, .int .i64 c.fee, .bool c.cop, .int .i64 c.sta, .int .i64 c.due] 37)) #[.int .i64 0, .int .i64 0, .int .i64 0, .int .i64 0, .int .i64 0, .int .i64 0, .int .i64 0, .int .i64 0, .int .i64 0, .bool false, .int .i64 0, .int .i64 0] 37
    rw [e1] at h
    rw [Hid, hW]; exact h
  have HBW : Hid (Below w.heap.size w W) := by rw [Hid, hW]; go_grown
  have HW : Hid _ := hW
  have HS : Hid (W.heap.size = w.heap.size + 1 + 1) := by rw [Hid, hW]; simp
  clear b1 e1 hW
  obtain ⟨iss, acq, cur, am, st, rsn, cl, bk, fee, cop, sta, due⟩ := c
  unfold cv at HT ⊢
  simp only at HT HW hb ⊢
  go_enter Try.func64, Try.ntmps64
  go_upto_region 1 with fail
  rw [← HW.out]
  clear HW
  obtain ⟨f0, f1, f2, f3, f4, f5, f6, f7, f8, f9, f10, f11⟩ := HC1.out
  simp only [Nat.zero_add] at f0 f1 f2 f3 f4 f5 f6 f7 f8 f9 f10 f11
  go_wp2_with fail
  refine (HT.out _).mono ?_
  rintro e u ⟨ae, ke, rfl, oe, b⟩
  have HO : Hid (u.ownsRow W.heap.size 99 4 (.slice ae (toIss ⟨iss, acq, cur, am, st, rsn, cl, bk, fee, cop, sta, due⟩ x).length ke) (toIss ⟨iss, acq, cur, am, st, rsn, cl, bk, fee, cop, sta, due⟩ x).length (ecells (toIss ⟨iss, acq, cur, am, st, rsn, cl, bk, fee, cop, sta, due⟩ x))) := oe
  have HB : Hid (Below w.heap.size w u) := next HBW.out b
  have HU1 : Hid (CB w.heap.size 0 ⟨iss, acq, cur, am, st, rsn, cl, bk, fee, cop, sta, due⟩ u) := HC1.out.below b
  have HV1 : Hid (FZ w.heap.size 0 u) := HF1.out.below HC1.out.lt b
  have HU2 : Hid (CB (w.heap.size + 1) 0 zeroC u) := HC2.out.below b
  have HV2 : Hid (FZ (w.heap.size + 1) 0 u) := HF2.out.below HC2.out.lt b
  clear b oe f0 f1 f2 f3 f4 f5 f6 f7 f8 f9 f10 f11
  obtain ⟨f0, f1, f2, f3, f4, f5, f6, f7, f8, f9, f10, f11⟩ := HU1.out
  obtain ⟨g0, g1, g2, g3, g4, g5, g6, g7, g8, g9, g10, g11⟩ := HU2.out
  obtain ⟨y0, y1, y2, y3, y4, y5, y6, y7, y8, y9, y10, y11⟩ := HV1.out
  obtain ⟨z0, z1, z2, z3, z4, z5, z6, z7, z8, z9, z10, z11⟩ := HV2.out
  simp only [Nat.zero_add, zeroC] at f0 f1 f2 f3 f4 f5 f6 f7 f8 f9 f10 f11 g0 g1 g2 g3 g4 g5 g6 g7 g8 g9 g10 g11 y0 y1 y2 y3 y4 y5 y6 y7 y8 y9 y10 y11 z0 z1 z2 z3 z4 z5 z6 z7 z8 z9 z10 z11
  clear y0 y1 y2 y3 y5 y8 y9 y10
  obtain ⟨N, hN⟩ : ∃ N, (toIss ⟨iss, acq, cur, am, st, rsn, cl, bk, fee, cop, sta, due⟩ x).length = N := ⟨_, rfl⟩
  have HNN : Hid _ := hN
  rw [hN]
  clear hN
  go_wp2
  refine bodyPost_ret (by simp [results, Try.results64, go_sem, g0, g1, g2, g3, g4, g5, g6, g7, g8, g9, g10, g11]; try rfl) rfl ?_
  rw [← HNN.out]
  refine pair_end (c := endC ⟨iss, acq, cur, am, st, rsn, cl, bk, fee, cop, sta, due⟩ x) (h := w.heap.size + 1) (base := W.heap.size) (by omega) (by have := HS.out; omega) ?_ ?_
  · have hne : ∀ g, (Value.slice ae (toIss ⟨iss, acq, cur, am, st, rsn, cl, bk, fee, cop, sta, due⟩ x).length ke).ownBlock = some g → g ≠ w.heap.size := fun g hg => by have := (HO.out.lt g hg).1; have := HS.out; omega
    exact keepSetL (keepSetL (keepSetL (keepSetL HO.out _ _ hne) _ _ hne) _ _ hne) _ _ hne
  · exact (((HB.out.setCell (Nat.le_refl _) _).setCell (Nat.le_refl _) _).setCell (Nat.le_refl _) _).setCell (Nat.le_refl _) _


end Go.Proofs.Ytlonjjliochbhaa

/- Entries, boxes and answers that both sides' CaseDo share. -/
namespace Go.Proofs.Ytlonjjliochbhaa
open Go.RowKit
set_option maxRecDepth 100000

theorem infoE_parts : ∃ i, Try.prog.info? 99 = some i ∧ i.zero = some (.agg #[.int .i64 0, .int .i64 0, .int .i64 0, .int .i64 0]) ∧ i.size = 4 ∧ i.bytes = 32 := by
  obtain ⟨i, h1, h2⟩ := Option.map_eq_some_iff.1 infoE
  simp only [Prod.mk.injEq] at h2
  exact ⟨i, h1, h2.1, h2.2.1, h2.2.2⟩
theorem four_one (x y z t : Int) : ∀ u ∈ [Value.int .i64 x, .int .i64 y, .int .i64 z, .int .i64 t], u.oneCell' = true := by
  intro u hu
  simp at hu
  rcases hu with rfl | rfl | rfl | rfl <;> rfl
theorem step_app_own {P : Program} {ops : Array Oper} {o : Oper} {a : Act} {w : World} {K : Act → World → Prop} {Q : Exit → Act → World → Prop} {E : Prop}
    (hg : o.guard = none) (s x : Operand) (t : TypeId) (ho : o.op = Op.call { callee := Callee.builtin Builtin.append, args := #[s, x], argTypes := #[t, t] })
    (base : Nat) (e : TypeId) (i : TypeInfo) (z : Value) (size bytes : Nat) (ht : P.underlying t = some (.slice e)) (hi : P.info? e = some i) (hz : i.zero = some z)
    (hsize : i.size = size) (hby : i.bytes = bytes) (hzs : z.cells.size = size) (hsz : 0 < size)
    (v : Value) (n : Nat) (xs : List Value) (hs : a.eval s = v) (hown : w.ownsRow base e size v n xs)
    (ad : Addr) (m c : Nat) (news : List Value) (hx : a.eval x = .slice (some ad) m c) (hl : news.length = m * size) (hnews : ∀ j u, news[j]? = some u → w.cell? (ad.add j) = some u) (h1 : ∀ u ∈ news, u.oneCell' = true)
    (h63 : n + m ≤ maxLen) (hbytes : (n + m) * bytes ≤ 140737488355328) (hbase : base ≤ w.heap.size)
    (h : ∀ v' w', w'.ownsRow base e size v' (n + m) (xs ++ news) → w.grownBy w' v.ownBlock → (v' = .slice none 0 0 ↔ v = .slice none 0 0 ∧ m = 0) → K (a.put o.dst v') w') :
    if Region.wanted o (yielded ops a.tmps) = true then Oper.wp P o a w K Q else E := by
  rw [if_pos (by simp [Region.wanted, hg])]
  exact wp_append_own w s x t ho base e i z size bytes ht hi hz hsize hby hzs hsz v n xs hs hown ad m c news hx hl hnews h1 h63 hbytes hbase h
theorem ecells_app (a b : List En) : ecells (a ++ b) = ecells a ++ ecells b := by simp [ecells]

/-- an amount more among the entries; nothing for what is not above 0 -/
def moved (c : Cs) (es : List En) (f g s : Int) : List En := if 0 < s then es ++ [(f, g, c.cur, s)] else es

theorem chargeV_is {c : Cs} {a : Ac} {t : Int} {zs : List Int} {p q l : Bool} (h1 : (!rOk a.rsn || (rProof a.rsn && !copied c t)) = p) (h2 : (decide (a.am < 1) || (decide (c.am < a.am) || (decide (a.am < c.am) && !rPart a.rsn))) = q) (h3 : lateV t (dueV c.sta (rDays a.rsn) zs) = l) :
    chargeV c a t zs = if p = true then 3 else if q = true then 2 else if l = true then 4 else 0 := by
  unfold chargeV
  rw [h3]
  have e1 : (rOk a.rsn = false ∨ (rProof a.rsn = true ∧ copied c t = false)) ↔ p = true := by rw [← h1]; simp
  have e2 : (¬ (1 ≤ a.am ∧ a.am ≤ c.am) ∨ (a.am < c.am ∧ rPart a.rsn = false)) ↔ q = true := by
    rw [← h2]
    cases rPart a.rsn
    · simp; omega
    · simp; omega
  simp only [e1, e2]

theorem bel_at (u : World) (b i : Nat) (x : Value) : Below b u (u.setCell ⟨b, i, none⟩ x) := Below.setCell (Below.refl b u) (show b ≤ b from Nat.le_refl b) x
def replyV (c : Cs) (a : Ac) (t : Int) : Int := if lateV t c.due = true then 4 else if 1 ≤ a.am ∧ a.am ≤ c.cl then 0 else 2
theorem reply_pos {c : Cs} {a : Ac} {t : Int} (h : replyV c a t = 0) : 1 ≤ a.am ∧ a.am ≤ c.cl := by
  unfold replyV at h
  split at h
  · cases h
  · split at h
    · assumption
    · cases h
theorem CB.under {s o B : Nat} {c : Cs} {u u' : World} (h : CB s o c u) (b : Below B u u') (l : s < B) : CB s o c u' :=
  ⟨(b.cell (p := ⟨s, o, none⟩) l).trans h.f0, (b.cell (p := ⟨s, o + 1, none⟩) l).trans h.f1, (b.cell (p := ⟨s, o + 2, none⟩) l).trans h.f2, (b.cell (p := ⟨s, o + 3, none⟩) l).trans h.f3, (b.cell (p := ⟨s, o + 4, none⟩) l).trans h.f4, (b.cell (p := ⟨s, o + 5, none⟩) l).trans h.f5, (b.cell (p := ⟨s, o + 6, none⟩) l).trans h.f6, (b.cell (p := ⟨s, o + 7, none⟩) l).trans h.f7, (b.cell (p := ⟨s, o + 8, none⟩) l).trans h.f8, (b.cell (p := ⟨s, o + 9, none⟩) l).trans h.f9, (b.cell (p := ⟨s, o + 10, none⟩) l).trans h.f10, (b.cell (p := ⟨s, o + 11, none⟩) l).trans h.f11⟩
theorem FZ.under {s o B : Nat} {u u' : World} (h : FZ s o u) (b : Below B u u') (l : s < B) : FZ s o u' :=
  ⟨(b.frozen (p := ⟨s, o, none⟩) l).trans h.z0, (b.frozen (p := ⟨s, o + 1, none⟩) l).trans h.z1, (b.frozen (p := ⟨s, o + 2, none⟩) l).trans h.z2, (b.frozen (p := ⟨s, o + 3, none⟩) l).trans h.z3, (b.frozen (p := ⟨s, o + 4, none⟩) l).trans h.z4, (b.frozen (p := ⟨s, o + 5, none⟩) l).trans h.z5, (b.frozen (p := ⟨s, o + 6, none⟩) l).trans h.z6, (b.frozen (p := ⟨s, o + 7, none⟩) l).trans h.z7, (b.frozen (p := ⟨s, o + 8, none⟩) l).trans h.z8, (b.frozen (p := ⟨s, o + 9, none⟩) l).trans h.z9, (b.frozen (p := ⟨s, o + 10, none⟩) l).trans h.z10, (b.frozen (p := ⟨s, o + 11, none⟩) l).trans h.z11⟩
/-- the boxes of CaseDo: the case, the act, the answer (empty yet) -/
structure BX (s : Nat) (c : Cs) (a : Ac) (u : World) : Prop where
  cb : CB s 0 c u
  a0 : u.cell? ⟨s + 1, 0, none⟩ = some (.int .i64 a.kind)
  a1 : u.cell? ⟨s + 1, 1, none⟩ = some (.int .i64 a.am)
  a2 : u.cell? ⟨s + 1, 2, none⟩ = some (.int .i64 a.rsn)
  rb : CB (s + 1 + 1) 0 zeroC u
  rz : FZ (s + 1 + 1) 0 u
theorem BX.under {s B : Nat} {c : Cs} {a : Ac} {u u' : World} (h : BX s c a u) (b : Below B u u') (l : s + 1 + 1 < B) : BX s c a u' :=
  ⟨h.cb.under b (by omega), (b.cell (p := ⟨s + 1, 0, none⟩) (by show s + 1 < B; omega)).trans h.a0, (b.cell (p := ⟨s + 1, 1, none⟩) (by show s + 1 < B; omega)).trans h.a1, (b.cell (p := ⟨s + 1, 2, none⟩) (by show s + 1 < B; omega)).trans h.a2, h.rb.under b l, h.rz.under b l⟩
theorem BX.below {s : Nat} {c : Cs} {a : Ac} {u u' : World} (h : BX s c a u) (b : Below u.heap.size u u') : BX s c a u' := h.under b h.rb.lt
theorem BX.new (w : World) (c : Cs) (a : Ac) (t1 t2 t3 : TypeId) : BX w.heap.size c a (((w.alloc (.cells #[.int .i64 c.iss, .int .i64 c.acq, .int .i64 c.cur, .int .i64 c.am, .int .i64 c.st, .int .i64 c.rsn, .int .i64 c.cl, .int .i64 c.bk, .int .i64 c.fee, .bool c.cop, .int .i64 c.sta, .int .i64 c.due] t1)).alloc (.cells #[.int .i64 a.kind, .int .i64 a.am, .int .i64 a.rsn] t2)).alloc (.cells #[.int .i64 0, .int .i64 0, .int .i64 0, .int .i64 0, .int .i64 0, .int .i64 0, .int .i64 0, .int .i64 0, .int .i64 0, .bool false, .int .i64 0, .int .i64 0] t3)) := by
  have h1 := CB.new w c t1
  have b1 : ∀ (u : World) (o : Obj), Below u.heap.size u (u.alloc o) := fun u o => (Below.refl _ _).alloc (Nat.le_refl _) _
  have e2 : ((w.alloc (.cells #[.int .i64 c.iss, .int .i64 c.acq, .int .i64 c.cur, .int .i64 c.am, .int .i64 c.st, .int .i64 c.rsn, .int .i64 c.cl, .int .i64 c.bk, .int .i64 c.fee, .bool c.cop, .int .i64 c.sta, .int .i64 c.due] t1)).alloc (.cells #[.int .i64 a.kind, .int .i64 a.am, .int .i64 a.rsn] t2)).heap.size = w.heap.size + 1 + 1 := by simp
  refine ⟨(h1.below (b1 _ _)).below (b1 _ _), by simp [go_sem], by simp [go_sem], by simp [go_sem], ?_, ?_⟩
  · have h3 := CB.new ((w.alloc (.cells #[.int .i64 c.iss, .int .i64 c.acq, .int .i64 c.cur, .int .i64 c.am, .int .i64 c.st, .int .i64 c.rsn, .int .i64 c.cl, .int .i64 c.bk, .int .i64 c.fee, .bool c.cop, .int .i64 c.sta, .int .i64 c.due] t1)).alloc (.cells #[.int .i64 a.kind, .int .i64 a.am, .int .i64 a.rsn] t2)) zeroC t3
    rw [e2] at h3
    exact h3
  · have h3 := FZ.new ((w.alloc (.cells #[.int .i64 c.iss, .int .i64 c.acq, .int .i64 c.cur, .int .i64 c.am, .int .i64 c.st, .int .i64 c.rsn, .int .i64 c.cl, .int .i64 c.bk, .int .i64 c.fee, .bool c.cop, .int .i64 c.sta, .int .i64 c.due] t1)).alloc (.cells #[.int .i64 a.kind, .int .i64 a.am, .int .i64 a.rsn] t2)) #[.int .i64 0, .int .i64 0, .int .i64 0, .int .i64 0, .int .i64 0, .int .i64 0, .int .i64 0, .int .i64 0, .int .i64 0, .bool false, .int .i64 0, .int .i64 0] t3
    rw [e2] at h3
    exact h3

theorem nextC_cur (c : Cs) (a : Ac) (t : Int) (zs : List Int) : (nextC c a t zs).cur = c.cur := by
  unfold nextC
  repeat' split
  all_goals first | rfl | (unfold expireC; repeat' split) 
  all_goals rfl

/-- a case, entries of one's own, and a code -/
def DoR (w : World) (c : Cs) (es : List En) (r : Int) (e : Ending) (w' : World) : Prop :=
  ∃ ao cap, e = .returned (.tuple #[cv c, .slice ao es.length cap, .int .i64 r]) ∧ w'.ownsRow w.heap.size 99 4 (.slice ao es.length cap) es.length (ecells es) ∧ Below w.heap.size w w'
theorem do_end {w u : World} {c : Cs} {es : List En} {r : Int} {ao : Option Addr} {cap base : Nat} (hb : w.heap.size + 1 + 1 < base) (ho : u.ownsRow base 99 4 (.slice ao es.length cap) es.length (ecells es)) (bel : Below w.heap.size w u) :
    DoR w c es r (.returned (.tuple #[cv c, .slice ao es.length cap, .int .i64 r])) (put12 u (w.heap.size + 1 + 1) c) :=
  ⟨ao, cap, rfl, lowerL (own_put12 c ho (fun g hg => by have := (ho.lt g hg).1; omega)) (by omega), put12_below c bel (by omega)⟩
theorem do_drew {w u : World} {c : Cs} {es : List En} {r : Int} {e : Ending} (h : DoR w c es r e u) : DoR w c es r e u.drew := by
  obtain ⟨ao, cap, he, ho, hb⟩ := h
  exact ⟨ao, cap, he, keepL ho ((Below.refl _ _).drew), hb.drew⟩

end Go.Proofs.Ytlonjjliochbhaa

/- The contracts of the specification's l09Of, l09Charge and l09Code. -/
namespace Go.Proofs.Ytlonjjliochbhaa
open Go.RowKit
set_option maxRecDepth 100000

set_option maxHeartbeats 3200000 in
theorem sOf_any (st k : Int) (w : World) : Calls Try.prog 45 #[.int .i64 st, .int .i64 k] w fun e w' => e = .returned (.bool (ofSt st k)) ∧ w' = w := by
  by_cases hk : k < 0 ∨ 9 < k
  · have HE : Hid (ofSt st k = false) := by
      cases e : ofSt st k
      · rfl
      · have := of_cases e; omega
    have g0 : (k == 0) = false := beq_no (by omega)
    have g1 : (k == 1) = false := beq_no (by omega)
    have g2 : (k == 2) = false := beq_no (by omega)
    have g3 : (k == 3) = false := beq_no (by omega)
    have g4 : (k == 4) = false := beq_no (by omega)
    have g5 : (k == 5) = false := beq_no (by omega)
    have g6 : (k == 6) = false := beq_no (by omega)
    have g7 : (k == 7) = false := beq_no (by omega)
    have g8 : (k == 8) = false := beq_no (by omega)
    have g9 : (k == 9) = false := beq_no (by omega)
    clear hk
    go_enter Try.func45, Try.ntmps45
    go_wp2
    go_ret
    exact ⟨one_bool HE.out.symm, rfl⟩
  · rcases (show k = 0 ∨ k = 1 ∨ k = 2 ∨ k = 3 ∨ k = 4 ∨ k = 5 ∨ k = 6 ∨ k = 7 ∨ k = 8 ∨ k = 9 by omega) with rfl | rfl | rfl | rfl | rfl | rfl | rfl | rfl | rfl | rfl
    · have HE : Hid (ofSt st 0 = (st == 0)) := by
        by_cases h : st = 0 <;> simp [Hid, ofSt, h]
      clear hk
      go_enter Try.func45, Try.ntmps45
      go_wp2
      go_ret
      exact ⟨one_bool HE.out.symm, rfl⟩
    · have HE : Hid (ofSt st 1 = (st == 1)) := by
        by_cases h : st = 1 <;> simp [Hid, ofSt, h]
      clear hk
      go_enter Try.func45, Try.ntmps45
      go_wp2
      go_ret
      exact ⟨one_bool HE.out.symm, rfl⟩
    · clear hk
      go_enter Try.func45, Try.ntmps45
      go_wp2_with (go_at_call 33; refine (in_any _ _ _ _).mono ?_; rintro e w' ⟨rfl, rfl⟩)
      go_ret
      exact ⟨rfl, rfl⟩
    · have HE : Hid (ofSt st 3 = (st == 3)) := by
        by_cases h : st = 3 <;> simp [Hid, ofSt, h]
      clear hk
      go_enter Try.func45, Try.ntmps45
      go_wp2
      go_ret
      exact ⟨one_bool HE.out.symm, rfl⟩
    · have HE : Hid (ofSt st 4 = (st == 4)) := by
        by_cases h : st = 4 <;> simp [Hid, ofSt, h]
      clear hk
      go_enter Try.func45, Try.ntmps45
      go_wp2
      go_ret
      exact ⟨one_bool HE.out.symm, rfl⟩
    · have HE : Hid (ofSt st 5 = (st == 5)) := by
        by_cases h : st = 5 <;> simp [Hid, ofSt, h]
      clear hk
      go_enter Try.func45, Try.ntmps45
      go_wp2
      go_ret
      exact ⟨one_bool HE.out.symm, rfl⟩
    · have HE : Hid (ofSt st 6 = (st == 5)) := by
        by_cases h : st = 5 <;> simp [Hid, ofSt, h]
      clear hk
      go_enter Try.func45, Try.ntmps45
      go_wp2
      go_ret
      exact ⟨one_bool HE.out.symm, rfl⟩
    · have HE : Hid (ofSt st 7 = (st == 6)) := by
        by_cases h : st = 6 <;> simp [Hid, ofSt, h]
      clear hk
      go_enter Try.func45, Try.ntmps45
      go_wp2
      go_ret
      exact ⟨one_bool HE.out.symm, rfl⟩
    · by_cases h1 : st = 1
      · have HE : Hid (ofSt st 8 = true) := by simp [Hid, ofSt, h1]
        have h1' : (st == 1) = true := by simpa using h1
        clear hk h1
        go_enter Try.func45, Try.ntmps45
        go_wp2
        go_ret
        exact ⟨one_bool HE.out.symm, rfl⟩
      · have HE : Hid (ofSt st 8 = inB st 3 6) := by simp [Hid, ofSt, h1, inB]
        have h1' := beq_no h1
        clear hk h1
        go_enter Try.func45, Try.ntmps45
        go_wp2_with (go_at_call 33; refine (in_any _ _ _ _).mono ?_; rintro e w' ⟨rfl, rfl⟩)
        go_ret
        exact ⟨one_bool HE.out.symm, rfl⟩
    · by_cases h1 : st = 0
      · have HE : Hid (ofSt st 9 = true) := by simp [Hid, ofSt, h1]
        have h1' : (st == 0) = true := by simpa using h1
        clear hk h1
        go_enter Try.func45, Try.ntmps45
        go_wp2
        go_ret
        exact ⟨one_bool HE.out.symm, rfl⟩
      · have HE : Hid (ofSt st 9 = (st == 2)) := by
          by_cases h : st = 2 <;> simp [Hid, ofSt, h1, h]
        have h1' := beq_no h1
        clear hk h1
        go_enter Try.func45, Try.ntmps45
        go_wp2
        go_ret
        exact ⟨one_bool HE.out.symm, rfl⟩

/-- two boxes: a case, an act -/
structure B2 (s : Nat) (c : Cs) (a : Ac) (u : World) : Prop where
  cb : CB s 0 c u
  a0 : u.cell? ⟨s + 1, 0, none⟩ = some (.int .i64 a.kind)
  a1 : u.cell? ⟨s + 1, 1, none⟩ = some (.int .i64 a.am)
  a2 : u.cell? ⟨s + 1, 2, none⟩ = some (.int .i64 a.rsn)
theorem B2.below {s : Nat} {c : Cs} {a : Ac} {u u' : World} (h : B2 s c a u) (b : Below u.heap.size u u') : B2 s c a u' := by
  have l : s + 1 < u.heap.size := World.block_lt_of_cell? u _ h.a0
  exact ⟨h.cb.below b, (b.cell (p := ⟨s + 1, 0, none⟩) l).trans h.a0, (b.cell (p := ⟨s + 1, 1, none⟩) l).trans h.a1, (b.cell (p := ⟨s + 1, 2, none⟩) l).trans h.a2⟩
theorem B2.new (w : World) (c : Cs) (a : Ac) (t1 t2 : TypeId) : B2 w.heap.size c a ((w.alloc (.cells #[.int .i64 c.iss, .int .i64 c.acq, .int .i64 c.cur, .int .i64 c.am, .int .i64 c.st, .int .i64 c.rsn, .int .i64 c.cl, .int .i64 c.bk, .int .i64 c.fee, .bool c.cop, .int .i64 c.sta, .int .i64 c.due] t1)).alloc (.cells #[.int .i64 a.kind, .int .i64 a.am, .int .i64 a.rsn] t2)) :=
  ⟨(CB.new w c t1).below ((Below.refl _ _).alloc (Nat.le_refl _) _), by simp [go_sem], by simp [go_sem], by simp [go_sem]⟩

set_option maxHeartbeats 6400000 in
theorem sCharge_any (c : Cs) (a : Ac) (t : Int) (ao : Option Addr) (cp : Nat) (zs : List Int) (w : World) (hx : IntsAt w ao zs) (hn : zs.length ≤ 1099511627776) :
    Calls Try.prog 73 #[cv c, av a, .int .i64 t, .slice ao zs.length cp] w fun e w' => e = .returned (.int .i64 (chargeV c a t zs)) ∧ Below w.heap.size w w' := by
  obtain ⟨W, hW⟩ : ∃ W, W = (w.alloc (.cells #[.int .i64 c.iss, .int .i64 c.acq, .int .i64 c.cur, .int .i64 c.am, .int .i64 c.st, .int .i64 c.rsn, .int .i64 c.cl, .int .i64 c.bk, .int .i64 c.fee, .bool c.cop, .int .i64 c.sta, .int .i64 c.due] 37)).alloc (.cells #[.int .i64 a.kind, .int .i64 a.am, .int .i64 a.rsn] 67) := ⟨_, rfl⟩
  have HX : Hid (B2 w.heap.size c a W) := by rw [Hid, hW]; exact B2.new w c a _ _
  have HBW : Hid (Below w.heap.size w W) := by rw [Hid, hW]; go_grown
  have HW : Hid _ := hW
  have HI : Hid (IntsAt W ao zs) := hx.below HBW.out
  obtain ⟨p, hp⟩ : ∃ p, (!rOk a.rsn || (rProof a.rsn && !copied c t)) = p := ⟨_, rfl⟩
  obtain ⟨q, hq⟩ : ∃ q, (decide (a.am < 1) || (decide (c.am < a.am) || (decide (a.am < c.am) && !rPart a.rsn))) = q := ⟨_, rfl⟩
  obtain ⟨l, hl⟩ : ∃ l, lateV t (dueV c.sta (rDays a.rsn) zs) = l := ⟨_, rfl⟩
  have HV : Hid _ := chargeV_is hp hq hl
  have HPP : Hid _ := hp
  have HQQ : Hid _ := hq
  have HLL : Hid _ := hl
  have hcop : copied c t = (c.cop || (decide (c.st = 1) && lateV t c.due)) := rfl
  obtain ⟨cc, hcc⟩ : ∃ cc, copied c t = cc := ⟨_, rfl⟩
  have HCC : Hid (cc = (c.cop || (decide (c.st = 1) && lateV t c.due))) := by rw [Hid, ← hcc, hcop]
  rw [hcc] at HPP
  clear hp hq hl hx hW hcop hcc
  obtain ⟨k, m, r⟩ := a
  obtain ⟨iss, acq, cur, am, st, rsn, cl, bk, fee, cop, sta, due⟩ := c
  unfold cv av
  simp only at HW HPP HQQ HLL HCC ⊢
  have HDU : Hid (∀ u, Below W.heap.size W u → Calls Try.prog 61 #[.int .i64 sta, .int .i64 (rDays r), .slice ao zs.length cp] u fun e w' => e = .returned (.int .i64 (dueV sta (rDays r) zs)) ∧ Below u.heap.size u w') := fun u hu => sDue_any sta (rDays r) ao cp zs u (HI.out.below hu) hn
  go_enter Try.func73, Try.ntmps73
  go_upto_region 1 with fail
  rw [← HW.out]
  clear HW
  obtain ⟨⟨f0, f1, f2, f3, f4, f5, f6, f7, f8, f9, f10, f11⟩, k0, k1, k2⟩ := HX.out
  simp only [Nat.zero_add] at f0 f1 f2 f3 f4 f5 f6 f7 f8 f9 f10 f11 k0 k1 k2
  clear f0 f1 f2 f5 f6 f7 f8
  go_cut [9] (fun v wc => v = .bool cc ∧ wc = W)
  case first =>
    cases cop
    · by_cases h1 : st = 1
      · have HE : Hid (cc = lateV t due) := by rw [Hid, HCC.out, decide_eq_true h1, Bool.false_or, Bool.true_and]
        have h1' : (st == 1) = true := by simpa using h1
        clear h1
        go_wp2_with (go_at_call 72; refine (sLate_any _ _ _).mono ?_; rintro e w' ⟨rfl, rfl⟩)
        go_meet
        exact ⟨by rw [HE.out], rfl⟩
      · have HE : Hid (cc = false) := by rw [Hid, HCC.out, decide_eq_false h1, Bool.false_or, Bool.false_and]
        have h1' := beq_no h1
        clear h1
        go_wp2
        go_meet
        exact ⟨by rw [HE.out], rfl⟩
    · have HE : Hid (cc = true) := by rw [Hid, HCC.out, Bool.true_or]
      go_wp2
      go_meet
      exact ⟨by rw [HE.out], rfl⟩
  case rest =>
    obtain ⟨rfl, hwc⟩ := hcut
    rw [hwc]
    clear hwc
    go_upto_region 2 with fail
    go_cut [23] (fun v wc => v = .bool p ∧ Below W.heap.size W wc)
    case first =>
      go_wp2_with fail
      refine (sROk_any r _).mono ?_
      rintro e u1 ⟨rfl, b1⟩
      have HB1 : Hid (Below W.heap.size W u1) := b1
      have j2 := (HX.out.below b1).a2
      simp only at j2
      clear b1
      cases h1 : rOk r
      · have HE : Hid (p = true) := by rw [Hid, ← HPP.out, h1]; rfl
        clear h1
        go_wp2
        go_meet
        exact ⟨by rw [HE.out], HB1.out⟩
      go_wp2_with fail
      refine (sRProof_any r _).mono ?_
      rintro e u2 ⟨rfl, hw2⟩
      rw [hw2]
      clear hw2
      cases h2 : rProof r
      · have HE : Hid (p = false) := by rw [Hid, ← HPP.out, h1, h2]; rfl
        clear h1 h2
        go_wp2
        go_meet
        exact ⟨by rw [HE.out], HB1.out⟩
      have HE : Hid (p = !cc) := by rw [Hid, ← HPP.out, h1, h2]; rfl
      clear h1 h2
      go_wp2
      go_meet
      exact ⟨by rw [HE.out], HB1.out⟩
    case rest =>
      obtain ⟨rfl, b4⟩ := hcut
      obtain ⟨u4, hu4⟩ : ∃ x, x = wc := ⟨_, rfl⟩
      subst hu4
      have HB4 : Hid (Below W.heap.size W u4) := b4
      have HX4 : Hid (B2 w.heap.size ⟨iss, acq, cur, am, st, rsn, cl, bk, fee, cop, sta, due⟩ ⟨k, m, r⟩ u4) := HX.out.below b4
      clear b4 f3 f4 f9 f10 f11 k0 k1 k2
      cases p
      rotate_left
      · have HE : Hid (chargeV ⟨iss, acq, cur, am, st, rsn, cl, bk, fee, cop, sta, due⟩ ⟨k, m, r⟩ t zs = 3) := by rw [Hid, HV.out, if_pos rfl]
        go_wp2
        go_ret
        exact ⟨one_int HE.out.symm, next HBW.out HB4.out⟩
      have HV1 : Hid (chargeV ⟨iss, acq, cur, am, st, rsn, cl, bk, fee, cop, sta, due⟩ ⟨k, m, r⟩ t zs = if q = true then 2 else if l = true then 4 else 0) := by rw [Hid, HV.out, if_neg (by decide)]
      obtain ⟨⟨f0, f1, f2, f3, f4, f5, f6, f7, f8, f9, f10, f11⟩, k0, k1, k2⟩ := HX4.out
      simp only [Nat.zero_add] at f0 f1 f2 f3 f4 f5 f6 f7 f8 f9 f10 f11 k0 k1 k2
      clear HV f0 f1 f2 f4 f5 f6 f7 f8 f9 f10 f11
      go_upto_region 4 with fail
      go_cut [37] (fun v wc => v = .bool q ∧ wc = u4)
      case first =>
        go_wp2_with fail
        cases h1 : inB m 1 am
        · have HE : Hid (q = true) := by
            have := inB_of h1
            have g : m < 1 ∨ am < m := by simp at this; omega
            rw [Hid, ← HQQ.out]
            rcases g with g | g <;> simp [g]
          refine (in_is h1 _).mono ?_
          rintro e v1 ⟨rfl, hv⟩
          rw [hv]
          clear hv h1
          go_wp2
          go_meet
          exact ⟨by rw [HE.out], rfl⟩
        have g1 : ¬ m < 1 ∧ ¬ am < m := by have := inB_of h1; simp at this; omega
        refine (in_is h1 _).mono ?_
        rintro e v1 ⟨rfl, hv⟩
        rw [hv]
        clear hv h1
        by_cases h3 : m < am
        · have HE : Hid (q = !rPart r) := by rw [Hid, ← HQQ.out, decide_eq_false g1.1, decide_eq_false g1.2, decide_eq_true h3]; rfl
          clear g1
          go_wp2_with fail
          refine (sRPart_any r _).mono ?_
          rintro e v2 ⟨rfl, hv⟩
          rw [hv]
          clear hv
          go_wp2
          go_meet
          exact ⟨by rw [HE.out], rfl⟩
        · have HE : Hid (q = false) := by rw [Hid, ← HQQ.out, decide_eq_false g1.1, decide_eq_false g1.2, decide_eq_false h3]; rfl
          clear g1
          go_wp2
          go_meet
          exact ⟨by rw [HE.out], rfl⟩
      case rest =>
        obtain ⟨rfl, hwc⟩ := hcut
        rw [hwc]
        clear hwc f3 k0 k1 k2
        cases q
        rotate_left
        · have HE : Hid (chargeV ⟨iss, acq, cur, am, st, rsn, cl, bk, fee, cop, sta, due⟩ ⟨k, m, r⟩ t zs = 2) := by rw [Hid, HV1.out, if_pos rfl]
          go_wp2
          go_ret
          exact ⟨one_int HE.out.symm, next HBW.out HB4.out⟩
        have HV2 : Hid (chargeV ⟨iss, acq, cur, am, st, rsn, cl, bk, fee, cop, sta, due⟩ ⟨k, m, r⟩ t zs = if l = true then 4 else 0) := by rw [Hid, HV1.out, if_neg (by decide)]
        clear HV1
        have HAT : Hid (∀ u, Below W.heap.size W u → u.cell? ⟨w.heap.size, 10, none⟩ = some (.int .i64 sta) ∧ u.cell? ⟨w.heap.size + 1, 2, none⟩ = some (.int .i64 r)) := fun u hu => by
          have g := HX.out.below hu
          have g10 := g.cb.f10
          simp only [Nat.zero_add] at g10
          exact ⟨g10, g.a2⟩
        obtain ⟨k10, k2⟩ := HAT.out u4 HB4.out
        obtain ⟨n, hn'⟩ : ∃ n, rDays r = n := ⟨_, rfl⟩
        have HRD : Hid (∀ u, Calls Try.prog 80 #[.int .i64 r] u fun e w' => e = .returned (.int .i64 n) ∧ Below u.heap.size u w') := fun u => by rw [← hn']; exact sRDays_any r u
        rw [hn'] at HDU HLL
        obtain ⟨dd, hdd⟩ : ∃ dd, dueV sta n zs = dd := ⟨_, rfl⟩
        rw [hdd] at HDU HLL
        have HLT : Hid (∀ u, Calls Try.prog 72 #[.int .i64 t, .int .i64 dd] u fun e w' => e = .returned (.bool l) ∧ w' = u) := fun u => by rw [← HLL.out]; exact sLate_any t dd u
        clear hn' hdd
        have d5 : Below W.heap.size W u4.drew := HB4.out.drew
        go_upto_region 6 with fail
        go_cut [57] (fun v wc => v = .bool l ∧ Below W.heap.size W wc)
        case first =>
          go_region_held3 (fun u => u.cell? ⟨w.heap.size, 10, none⟩ = some (.int .i64 sta) ∧ u.cell? ⟨w.heap.size + 1, 2, none⟩ = some (.int .i64 r)) (first | exact ⟨k10, k2⟩ | exact HAT.out _ HB4.out | exact HAT.out _ d5 | exact HAT.out _ HB6.out | exact HAT.out _ HB7.out) ((first
            | (go_at_call 80; refine (HRD.out _).mono ?_; rintro e u6 ⟨rfl, b6⟩; (first | (have HB6 : Hid (Below W.heap.size W u6) := next d5 b6) | (have HB6 : Hid (Below W.heap.size W u6) := next HB4.out b6)); clear b6)
            | (go_at_call 61; refine (HDU.out _ HB6.out).mono ?_; rintro e u7 ⟨rfl, b7⟩; (have HB7 : Hid (Below W.heap.size W u7) := next HB6.out b7); clear b7)
            | (go_at_call 72; refine (HLT.out _).mono ?_; rintro e u8 ⟨rfl, hu8⟩; rw [hu8]; clear hu8)))
          all_goals
            go_wp2_with fail
            go_meet
            exact ⟨rfl, HB7.out⟩
        case rest =>
          obtain ⟨rfl, b8⟩ := hcut
          clear k10 k2
          cases l
          · have HE : Hid (chargeV ⟨iss, acq, cur, am, st, rsn, cl, bk, fee, cop, sta, due⟩ ⟨k, m, r⟩ t zs = 0) := by rw [Hid, HV2.out, if_neg (by decide)]
            go_wp2
            go_ret
            exact ⟨one_int HE.out.symm, next HBW.out b8⟩
          · have HE : Hid (chargeV ⟨iss, acq, cur, am, st, rsn, cl, bk, fee, cop, sta, due⟩ ⟨k, m, r⟩ t zs = 4) := by rw [Hid, HV2.out, if_pos rfl]
            go_wp2
            go_ret
            exact ⟨one_int HE.out.symm, next HBW.out b8⟩


end Go.Proofs.Ytlonjjliochbhaa

/- The contract of the specification's l09Code. -/
namespace Go.Proofs.Ytlonjjliochbhaa
open Go.RowKit
set_option maxRecDepth 100000

set_option maxHeartbeats 6400000 in
theorem sCode_any (c : Cs) (a : Ac) (t : Int) (ao : Option Addr) (cp : Nat) (zs : List Int) (w : World) (hx : IntsAt w ao zs) (hn : zs.length ≤ 1099511627776) (hk : 0 ≤ a.kind ∧ a.kind ≤ 9) :
    Calls Try.prog 60 #[cv c, av a, .int .i64 t, .slice ao zs.length cp] w fun e w' => e = .returned (.int .i64 (codeV c a t zs)) ∧ Below w.heap.size w w' := by
  obtain ⟨W, hW⟩ : ∃ W, W = (w.alloc (.cells #[.int .i64 c.iss, .int .i64 c.acq, .int .i64 c.cur, .int .i64 c.am, .int .i64 c.st, .int .i64 c.rsn, .int .i64 c.cl, .int .i64 c.bk, .int .i64 c.fee, .bool c.cop, .int .i64 c.sta, .int .i64 c.due] 37)).alloc (.cells #[.int .i64 a.kind, .int .i64 a.am, .int .i64 a.rsn] 67) := ⟨_, rfl⟩
  have HX : Hid (B2 w.heap.size c a W) := by rw [Hid, hW]; exact B2.new w c a _ _
  have HBW : Hid (Below w.heap.size w W) := by rw [Hid, hW]; go_grown
  have HW : Hid _ := hW
  have HCH : Hid (∀ u, Below W.heap.size W u → Calls Try.prog 73 #[cv c, av a, .int .i64 t, .slice ao zs.length cp] u fun e w' => e = .returned (.int .i64 (chargeV c a t zs)) ∧ Below u.heap.size u w') := fun u hu => sCharge_any c a t ao cp zs u ((hx.below HBW.out).below hu) hn
  obtain ⟨r, hr⟩ : ∃ r, codeV c a t zs = r := ⟨_, rfl⟩
  have HR : Hid _ := hr
  rw [hr]
  clear hx hW hr
  obtain ⟨k, m, q⟩ := a
  obtain ⟨iss, acq, cur, am, st, rsn, cl, bk, fee, cop, sta, due⟩ := c
  unfold cv av at HCH ⊢
  simp only at HW HCH hk ⊢
  go_enter Try.func60, Try.ntmps60
  go_upto_region 1 with fail
  rw [← HW.out]
  clear HW
  obtain ⟨⟨f0, f1, f2, f3, f4, f5, f6, f7, f8, f9, f10, f11⟩, k0, k1, k2⟩ := HX.out
  simp only [Nat.zero_add] at f0 f1 f2 f3 f4 f5 f6 f7 f8 f9 f10 f11 k0 k1 k2
  go_wp2_with fail
  refine (sLate_any t due _).mono ?_
  rintro e u1 ⟨rfl, hu⟩
  rw [hu]
  clear hu
  obtain ⟨l, hl⟩ : ∃ l, lateV t due = l := ⟨_, rfl⟩
  have HL : Hid _ := hl
  rw [hl]
  clear hl
  rcases (show k = 0 ∨ k = 1 ∨ k = 2 ∨ k = 3 ∨ k = 4 ∨ k = 5 ∨ k = 6 ∨ k = 7 ∨ k = 8 ∨ k = 9 by omega) with rfl | rfl | rfl | rfl | rfl | rfl | rfl | rfl | rfl | rfl

  · have HE : Hid (r = 0) := by rw [Hid, ← HR.out]; simp [codeV]
    clear HCH
    go_wp2
    go_ret
    exact ⟨one_int HE.out.symm, HBW.out⟩
  · have HE : Hid (r = if l = true then 4 else 0) := by rw [Hid, ← HR.out, ← HL.out]; simp [codeV]
    clear HCH
    cases l
    · go_wp2
      go_ret
      exact ⟨one_int (by rw [HE.out]; rfl), HBW.out⟩
    · go_wp2
      go_ret
      exact ⟨one_int (by rw [HE.out]; rfl), HBW.out⟩
  · have HE : Hid (chargeV ⟨iss, acq, cur, am, st, rsn, cl, bk, fee, cop, sta, due⟩ ⟨2, m, q⟩ t zs = r) := by rw [Hid, ← HR.out]; simp [codeV]
    go_wp2_with fail
    refine (HCH.out _ (Below.refl _ _)).mono ?_
    rintro e u2 ⟨rfl, b2⟩
    have HB2 : Hid (Below w.heap.size w u2) := next HBW.out b2
    clear b2
    rw [HE.out]
    go_wp2
    go_ret
    exact ⟨rfl, HB2.out⟩
  · have HE : Hid (r = if l = true then 4 else if 1 ≤ m ∧ m ≤ cl then 0 else 2) := by rw [Hid, ← HR.out, ← HL.out]; simp [codeV]
    clear HCH
    cases l
    · rw [if_neg (by decide)] at HE
      go_wp2_with fail
      cases h1 : inB m 1 cl
      · have g := inB_of h1
        have HE2 : Hid (r = 2) := by rw [Hid, HE.out, if_neg (of_decide_eq_false g)]
        refine (in_is h1 _).mono ?_
        rintro e v1 ⟨rfl, hv⟩
        rw [hv]
        clear hv h1 g
        go_wp2
        go_ret
        exact ⟨one_int HE2.out.symm, HBW.out⟩
      · have g := inB_of h1
        have HE2 : Hid (r = 0) := by rw [Hid, HE.out, if_pos (of_decide_eq_true g)]
        refine (in_is h1 _).mono ?_
        rintro e v1 ⟨rfl, hv⟩
        rw [hv]
        clear hv h1 g
        go_wp2
        go_ret
        exact ⟨one_int HE2.out.symm, HBW.out⟩
    · go_wp2
      go_ret
      exact ⟨one_int (by rw [HE.out]; rfl), HBW.out⟩
  · have HE : Hid (r = if l = true then 4 else if 1 ≤ m ∧ m ≤ cl then 0 else 2) := by rw [Hid, ← HR.out, ← HL.out]; simp [codeV]
    clear HCH
    cases l
    · rw [if_neg (by decide)] at HE
      go_wp2_with fail
      cases h1 : inB m 1 cl
      · have g := inB_of h1
        have HE2 : Hid (r = 2) := by rw [Hid, HE.out, if_neg (of_decide_eq_false g)]
        refine (in_is h1 _).mono ?_
        rintro e v1 ⟨rfl, hv⟩
        rw [hv]
        clear hv h1 g
        go_wp2
        go_ret
        exact ⟨one_int HE2.out.symm, HBW.out⟩
      · have g := inB_of h1
        have HE2 : Hid (r = 0) := by rw [Hid, HE.out, if_pos (of_decide_eq_true g)]
        refine (in_is h1 _).mono ?_
        rintro e v1 ⟨rfl, hv⟩
        rw [hv]
        clear hv h1 g
        go_wp2
        go_ret
        exact ⟨one_int HE2.out.symm, HBW.out⟩
    · go_wp2
      go_ret
      exact ⟨one_int (by rw [HE.out]; rfl), HBW.out⟩
  · have HE : Hid (r = 0) := by rw [Hid, ← HR.out]; simp [codeV]
    clear HCH
    go_wp2
    go_ret
    exact ⟨one_int HE.out.symm, HBW.out⟩
  · have HE : Hid (r = if l = true then 4 else 0) := by rw [Hid, ← HR.out, ← HL.out]; simp [codeV]
    clear HCH
    cases l
    · go_wp2
      go_ret
      exact ⟨one_int (by rw [HE.out]; rfl), HBW.out⟩
    · go_wp2
      go_ret
      exact ⟨one_int (by rw [HE.out]; rfl), HBW.out⟩
  · have HE : Hid (r = if 0 ≤ m ∧ m ≤ cl then 0 else 2) := by rw [Hid, ← HR.out]; simp [codeV]
    clear HCH
    go_wp2_with fail
    cases h1 : inB m 0 cl
    · have g := inB_of h1
      have HE2 : Hid (r = 2) := by rw [Hid, HE.out, if_neg (of_decide_eq_false g)]
      refine (in_is h1 _).mono ?_
      rintro e v1 ⟨rfl, hv⟩
      rw [hv]
      clear hv h1 g
      go_wp2
      go_ret
      exact ⟨one_int HE2.out.symm, HBW.out⟩
    · have g := inB_of h1
      have HE2 : Hid (r = 0) := by rw [Hid, HE.out, if_pos (of_decide_eq_true g)]
      refine (in_is h1 _).mono ?_
      rintro e v1 ⟨rfl, hv⟩
      rw [hv]
      clear hv h1 g
      go_wp2
      go_ret
      exact ⟨one_int HE2.out.symm, HBW.out⟩
  · have HE : Hid (r = if l = true then 0 else 4) := by rw [Hid, ← HR.out, ← HL.out]; simp [codeV]
    clear HCH
    cases l
    · go_wp2
      go_ret
      exact ⟨one_int (by rw [HE.out]; rfl), HBW.out⟩
    · go_wp2
      go_ret
      exact ⟨one_int (by rw [HE.out]; rfl), HBW.out⟩
  · have HE : Hid (r = 0) := by rw [Hid, ← HR.out]; simp [codeV]
    clear HCH
    go_wp2
    go_ret
    exact ⟨one_int HE.out.symm, HBW.out⟩


end Go.Proofs.Ytlonjjliochbhaa
