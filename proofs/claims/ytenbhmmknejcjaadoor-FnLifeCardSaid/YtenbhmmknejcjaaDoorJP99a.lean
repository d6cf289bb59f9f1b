/- Joined: FStep. -/
import Derived.Test.YtenbhmmknejcjaaDoorKP9FDis7
import Derived.Test.YtenbhmmknejcjaaDoorKP9FDis8
/- Each step of a dispute, by its kind, as the plain rules say. -/
namespace Go.Proofs.YtenbhmmknejcjaaDoor
open Go.RowKit
set_option maxRecDepth 100000

def StepR (b : Nat) (ao : Option Addr) (cp : Nat) (zs : List Int) (a : Ac) (t : Int) (c : Cs) (w : World) (e : Ending) (w' : World) : Prop :=
  DR b ao cp zs a t w (.int .i64 (codeV c a t zs)) (if codeV c a t zs = 0 then nextC c a t zs else c) (if codeV c a t zs = 0 then nextE c a else []) e w'
section
variable {b : Nat} {ao : Option Addr} {cp : Nat} {zs : List Int} {a : Ac} {t : Int} {c : Cs} {v : Value} {w : World}
theorem stepR_of {f : FuncId} {r : Int} {n : Cs} {es : List En} {c' : Cs} {es' : List En} (g : Calls Tryd.prog f #[.pointer (some ⟨b, 0, none⟩)] w (DR b ao cp zs a t w (.int .i64 r) c' es')) (h1 : codeV c a t zs = r) (h2 : nextC c a t zs = n) (h3 : nextE c a = es)
    (h4 : c' = if r = 0 then n else c) (h5 : es' = if r = 0 then es else []) : Calls Tryd.prog f #[.pointer (some ⟨b, 0, none⟩)] w (StepR b ao cp zs a t c w) := by
  subst h1 h2 h3 h4 h5
  exact g
theorem step0 (h : DS b ao cp zs a t c [] v w) (hn : zs.length ≤ 1099511627776) (hk : a.kind = 0) : Calls Tryd.prog 58 #[.pointer (some ⟨b, 0, none⟩)] w (StepR b ao cp zs a t c w) :=
  stepR_of (ask_any h hn) (by simp [codeV, hk]) (by simp [nextC, hk]; rfl) (by simp [nextE, hk]; rfl) (by rfl) (by rfl)
theorem step1 (h : DS b ao cp zs a t c [] v w) (hk : a.kind = 1) : Calls Tryd.prog 59 #[.pointer (some ⟨b, 0, none⟩)] w (StepR b ao cp zs a t c w) := by
  refine stepR_of (give_any h) (show codeV c a t zs = if lateV t c.due = true then 4 else 0 by simp [codeV, hk]) (show nextC c a t zs = givenC c by simp [nextC, hk]) (show nextE c a = [] by simp [nextE, hk]) ?_ ?_
  · cases lateV t c.due <;> simp
  · simp
theorem step2 (h : DS b ao cp zs a t c [] v w) (hn : zs.length ≤ 1099511627776) (hk : a.kind = 2) : Calls Tryd.prog 60 #[.pointer (some ⟨b, 0, none⟩)] w (StepR b ao cp zs a t c w) :=
  stepR_of (charge_any h hn) (by simp [codeV, hk]) (by simp [nextC, hk]) (by simp [nextE, hk]) rfl rfl
theorem step3 (h : DS b ao cp zs a t c [] v w) (hn : zs.length ≤ 1099511627776) (hb : 0 ≤ c.bk ∧ c.bk ≤ 1000000000000) (hc : 0 ≤ c.cl ∧ c.cl ≤ 1000000000000) (hk : a.kind = 3) : Calls Tryd.prog 61 #[.pointer (some ⟨b, 0, none⟩)] w (StepR b ao cp zs a t c w) :=
  stepR_of (answer_any h hn hb hc) (by simp [codeV, hk, replyV]) (by simp [nextC, hk]) (by simp [nextE, hk]) rfl rfl
theorem step4 (h : DS b ao cp zs a t c [] v w) (hn : zs.length ≤ 1099511627776) (hk : a.kind = 4) : Calls Tryd.prog 62 #[.pointer (some ⟨b, 0, none⟩)] w (StepR b ao cp zs a t c w) :=
  stepR_of (second_any h hn) (by simp [codeV, hk, replyV]) (by simp [nextC, hk]) (show nextE c a = [] by simp [nextE, hk]) rfl (by simp)
theorem step5 (h : DS b ao cp zs a t c [] v w) (hb : 0 ≤ c.bk ∧ c.bk ≤ 1000000000000) (hc : 0 ≤ c.cl ∧ c.cl ≤ 1000000000000) (hk : a.kind = 5) : Calls Tryd.prog 63 #[.pointer (some ⟨b, 0, none⟩)] w (StepR b ao cp zs a t c w) :=
  stepR_of (accept_any h hb hc) (by simp [codeV, hk]) (by simp [nextC, hk]; rfl) (by simp [nextE, hk]; rfl) (by rfl) (by rfl)
theorem step6 (h : DS b ao cp zs a t c [] v w) (hn : zs.length ≤ 1099511627776) (hk : a.kind = 6) : Calls Tryd.prog 64 #[.pointer (some ⟨b, 0, none⟩)] w (StepR b ao cp zs a t c w) := by
  refine stepR_of (refuse_any h hn) (show codeV c a t zs = if lateV t c.due = true then 4 else 0 by simp [codeV, hk]) (show nextC c a t zs = ⟨c.iss, c.acq, c.cur, c.am, 6, c.rsn, c.cl, c.bk, c.fee, c.cop, c.sta, dueV t 60 zs⟩ by simp [nextC, hk]) (show nextE c a = [] by simp [nextE, hk]) ?_ ?_
  · cases lateV t c.due <;> simp
  · simp
theorem step7 (h : DS b ao cp zs a t c [] v w) (hb : 0 ≤ c.bk ∧ c.bk ≤ 1000000000000) (hc : 0 ≤ c.cl ∧ c.cl ≤ 1000000000000) (hf : 0 ≤ c.fee ∧ c.fee ≤ 1000000) (hk : a.kind = 7) : Calls Tryd.prog 65 #[.pointer (some ⟨b, 0, none⟩)] w (StepR b ao cp zs a t c w) := by
  refine stepR_of (rule_any h hb hc hf) (show codeV c a t zs = if 0 ≤ a.am ∧ a.am ≤ c.cl then 0 else 2 by simp [codeV, hk]) (show nextC c a t zs = ruleC c a.am by simp [nextC, hk]) (show nextE c a = ruleE c a.am by simp [nextE, hk]) ?_ ?_
  · by_cases hx : 0 ≤ a.am ∧ a.am ≤ c.cl
    · rw [if_pos hx, if_pos hx, if_pos rfl]
    · rw [if_neg hx, if_neg hx, if_neg (by decide)]
  · by_cases hx : 0 ≤ a.am ∧ a.am ≤ c.cl
    · rw [if_pos hx, if_pos hx, if_pos rfl]
    · rw [if_neg hx, if_neg hx, if_neg (by decide)]
theorem step8 (h : DS b ao cp zs a t c [] v w) (hb : 0 ≤ c.bk ∧ c.bk ≤ 1000000000000) (hc : 0 ≤ c.cl ∧ c.cl ≤ 1000000000000) (hf : 0 ≤ c.fee ∧ c.fee ≤ 1000000) (hk : a.kind = 8) : Calls Tryd.prog 66 #[.pointer (some ⟨b, 0, none⟩)] w (StepR b ao cp zs a t c w) := by
  refine stepR_of (expire_any h hb hc hf) (show codeV c a t zs = if lateV t c.due = true then 0 else 4 by simp [codeV, hk]) (show nextC c a t zs = expireC c by simp [nextC, hk]) (show nextE c a = expireE c by simp [nextE, hk]) ?_ ?_
  · cases lateV t c.due <;> simp
  · cases lateV t c.due <;> simp
theorem step9 (h : DS b ao cp zs a t c [] v w) (hk : a.kind = 9) : Calls Tryd.prog 67 #[.pointer (some ⟨b, 0, none⟩)] w (StepR b ao cp zs a t c w) :=
  stepR_of (shut_any h) (by simp [codeV, hk]) (by simp [nextC, hk]; rfl) (show nextE c a = [] by simp [nextE, hk]) (by rfl) (by rfl)
end

end Go.Proofs.YtenbhmmknejcjaaDoor
