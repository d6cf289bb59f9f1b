/- Proved: for every list of bytes (of at most 1048576; a longer one passes by the law's own first test) the program's BookDue and BookExpire answer, at the drawn book, as the specification's; no more cases ran out than were dX, each stands in the log, the books are even behind it; and when all that was dX ran out, nothing is dX any more. The package's listed variables hold what their own text lays (the card ties that). No other conditions. -/
import Derived.Test.YtomiclakhjncbaaGreatDoorKEFnExpireL
import Derived.Test.YtomiclakhjncbaaGreatDoorKEFnExpireF
namespace Go.Proofs.YtomiclakhjncbaaGreatDoor.fnExpire
open Go.ChangeShapes Go.WideShapes Go.ChangeAt Go.RowKit Go.Proofs.Tryz
set_option maxRecDepth 100000
set_option maxHeartbeats 12800000
theorem said:Rows.FnExpireSaid :=
 OpenClaim.holds_of_cond 7 Tryz.f7 rfl rfl rfl rfl rfl rfl rfl ⟨rfl,rfl,rfl,rfl,rfl⟩ rfl rfl rfl rfl rfl (by kernel_rfl) func7 facts
  (of_decide_eq_true (by kernel_rfl)) (by unfold Func.isWrapper;first | (rw [if_pos (by decide +kernel)];kernel_rfl) | (rw [if_neg (by decide +kernel)];exact ⟨rfl,rfl⟩))
  (fun os started H enc _ F=>by rw [OpenClaim.pre_eq_preRow];exact lifted os started H enc F)
theorem proved:Rows.FnExpireCardSaid :=
 Claim7.holds_tied_plain_at .later [] _ _ _ _ said (fun _ h=>by cases h) (by as_aux_lemma=>kernel_rfl) (fun _ h=>by cases h) fnExpire_row_tie rfl ⟨rfl,rfl⟩ (by as_aux_lemma=>kernel_rfl) rfl
  (fun f fn hf hfn=>by
   obtain rfl : f = 7 := Option.some.inj ((show prog.funcNamed "loop.example/g00126/laws.FnExpire" = some 7 by as_aux_lemma => kernel_rfl).symm.trans hf) |>.symm
   obtain rfl:fn=Tryz.f7:=(Option.some.inj (func7.symm.trans hfn)).symm
   refine ⟨by as_aux_lemma=>kernel_rfl,fun j t ht=>?_⟩
   rw [params7] at ht
   have hm:t ∈ [55]:=by have:=Array.mem_of_getElem? ht;simp at this ⊢;first | exact this | exact this.symm | omega | (rcases this with h | h | h | h <;> simp [h]) | (rcases this with h | h | h <;> simp [h]) | (rcases this with h | h <;> simp [h])
   have hall:([55].all fun u=>!prog.wantsStandIn u)=true:=by as_aux_lemma=>kernel_rfl
   have h1:=List.all_eq_true.1 hall t hm
   have h2:prog.wantsStandIn t=false:=by simpa using h1
   exact h2)
  (by as_aux_lemma=>kernel_rfl)
end Go.Proofs.YtomiclakhjncbaaGreatDoor.fnExpire
