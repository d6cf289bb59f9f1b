/- Proved: for every list of bytes (of at most 1048576; a longer one passes by the law's own first test) the program's BookRead answers, at what is drawn, the book and the count of the specification's; and wherever its log is cut off, the lines ahead of the cut make up the book that it was then, with just these lines in its log, and the lines behind it, done one by one, lead to the book again. The package's listed variables and the library's handle hold what their own text lays (the card ties that). No other conditions. -/
import Derived.Test.YtomiclakhjncbaaGreatDoorKCFnCutOffL
import Derived.Test.YtomiclakhjncbaaGreatDoorKCFnCutOffF
namespace Go.Proofs.YtomiclakhjncbaaGreatDoor.fnCutOff
open Go.ChangeShapes Go.WideShapes Go.ChangeAt Go.RowKit Go.Proofs.Tryz
set_option maxRecDepth 100000
set_option maxHeartbeats 12800000
theorem said:Rows.FnCutOffSaid :=
 OpenClaim.holds_of_cond 8 Tryz.f8 rfl rfl rfl rfl rfl rfl rfl ⟨rfl,rfl,rfl,rfl,rfl⟩ rfl rfl rfl rfl rfl (by kernel_rfl) func8 facts
  (of_decide_eq_true (by kernel_rfl)) (by unfold Func.isWrapper;first | (rw [if_pos (by decide +kernel)];kernel_rfl) | (rw [if_neg (by decide +kernel)];exact ⟨rfl,rfl⟩))
  (fun os started H enc _ F=>by rw [OpenClaim.pre_eq_preRow];exact lifted os started H enc F)
theorem proved:Rows.FnCutOffCardSaid :=
 Claim7.holds_tied_plain_at .later [] _ _ _ _ said (fun _ h=>by cases h) (by as_aux_lemma=>kernel_rfl) (fun _ h=>by cases h) fnCutOff_row_tie rfl ⟨rfl,rfl⟩ (by as_aux_lemma=>kernel_rfl) rfl
  (fun f fn hf hfn=>by
   obtain rfl : f = 8 := Option.some.inj ((show prog.funcNamed "loop.example/g00126/laws.FnCutOff" = some 8 by as_aux_lemma => kernel_rfl).symm.trans hf) |>.symm
   obtain rfl:fn=Tryz.f8:=(Option.some.inj (func8.symm.trans hfn)).symm
   refine ⟨by as_aux_lemma=>kernel_rfl,fun j t ht=>?_⟩
   rw [params8] at ht
   have hm:t ∈ [55]:=by have:=Array.mem_of_getElem? ht;simp at this ⊢;first | exact this | exact this.symm | omega | (rcases this with h | h | h | h <;> simp [h]) | (rcases this with h | h | h <;> simp [h]) | (rcases this with h | h <;> simp [h])
   have hall:([55].all fun u=>!prog.wantsStandIn u)=true:=by as_aux_lemma=>kernel_rfl
   have h1:=List.all_eq_true.1 hall t hm
   have h2:prog.wantsStandIn t=false:=by simpa using h1
   exact h2)
  (by as_aux_lemma=>kernel_rfl)
end Go.Proofs.YtomiclakhjncbaaGreatDoor.fnCutOff
