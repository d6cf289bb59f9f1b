/- Proved: for every list of bytes (of at most 1048576; a longer one passes by the law's own first test) the program's BookDo answers, at the drawn book and the drawn line, the book and the code of the specification's; a line that is refused leaves the book as it was; one that is done stands behind its log and changes no more than one case; and BookOpen answers as the specification's. The package's listed variables and the library's handle hold what their own text lays (the card ties that). No other conditions. -/
import Derived.Test.YtomiclakhjncbaaGreatDoorJL0a
import Derived.Test.YtomiclakhjncbaaGreatDoorRows
import Derived.Test.YtomiclakhjncbaaGreatDoorKLFnLinesL
import Derived.Test.YtomiclakhjncbaaGreatDoorKLFnLinesF
import Derived.Test.YtomiclakhjncbaaGreatDoorTie
import Derived.Test.YtomiclakhjncbaaGreatDoorCards
namespace Go.Proofs.YtomiclakhjncbaaGreatDoor.fnLines
open Go.ChangeShapes Go.WideShapes Go.ChangeAt Go.RowKit Go.Proofs.Tryz
set_option maxRecDepth 100000
set_option maxHeartbeats 12800000
theorem said:Rows.FnLinesSaid :=
 OpenClaim.holds_of_cond 6 Tryz.f6 rfl rfl rfl rfl rfl rfl rfl ⟨rfl,rfl,rfl,rfl,rfl⟩ rfl rfl rfl rfl rfl (by kernel_rfl) func6 facts
  (of_decide_eq_true (by kernel_rfl)) (by unfold Func.isWrapper;first | (rw [if_pos (by decide +kernel)];kernel_rfl) | (rw [if_neg (by decide +kernel)];exact ⟨rfl,rfl⟩))
  (fun os started H enc _ F=>by rw [OpenClaim.pre_eq_preRow];exact lifted os started H enc F)
theorem proved:Rows.FnLinesCardSaid :=
 Claim7.holds_tied_plain_at .later [] _ _ _ _ said (fun _ h=>by cases h) (by as_aux_lemma=>kernel_rfl) (fun _ h=>by cases h) fnLines_row_tie rfl ⟨rfl,rfl⟩ (by as_aux_lemma=>kernel_rfl) rfl
  (fun f fn hf hfn=>by
   obtain rfl : f = 6 := Option.some.inj ((show prog.funcNamed "loop.example/g00126/laws.FnLines" = some 6 by as_aux_lemma => kernel_rfl).symm.trans hf) |>.symm
   obtain rfl:fn=Tryz.f6:=(Option.some.inj (func6.symm.trans hfn)).symm
   refine ⟨by as_aux_lemma=>kernel_rfl,fun j t ht=>?_⟩
   rw [params6] at ht
   have hm:t ∈ [55]:=by have:=Array.mem_of_getElem? ht;simp at this ⊢;first | exact this | exact this.symm | omega | (rcases this with h | h | h | h <;> simp [h]) | (rcases this with h | h | h <;> simp [h]) | (rcases this with h | h <;> simp [h])
   have hall:([55].all fun u=>!prog.wantsStandIn u)=true:=by as_aux_lemma=>kernel_rfl
   have h1:=List.all_eq_true.1 hall t hm
   have h2:prog.wantsStandIn t=false:=by simpa using h1
   exact h2)
  (by as_aux_lemma=>kernel_rfl)
end Go.Proofs.YtomiclakhjncbaaGreatDoor.fnLines
