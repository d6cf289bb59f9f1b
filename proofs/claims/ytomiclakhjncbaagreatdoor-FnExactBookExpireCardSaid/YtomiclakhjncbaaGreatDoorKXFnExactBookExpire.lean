/- Proved: at every book (within the laws' own measure of 1048576; a greater one passes by the law's own first test) the program's BookExpire answers as the specification's, every part of the book and the count; it leaves its argument as it was and keeps nothing of it; the answer's lists own their memory, behind another call too. The package's listed variables hold what their own text lays (the card ties that). No other conditions. -/
import Derived.Test.YtomiclakhjncbaaGreatDoorJX0a
import Derived.Test.YtomiclakhjncbaaGreatDoorRows
import Derived.Test.YtomiclakhjncbaaGreatDoorKXFnExactBookExpireL
import Derived.Test.YtomiclakhjncbaaGreatDoorKXFnExactBookExpireF
import Derived.Test.YtomiclakhjncbaaGreatDoorTie
import Derived.Test.YtomiclakhjncbaaGreatDoorCards
namespace Go.Proofs.YtomiclakhjncbaaGreatDoor.fnExactBookExpire
open Go.ChangeShapes Go.WideShapes Go.ChangeAt Go.RowKit Go.Proofs.Tryz
set_option maxRecDepth 100000
set_option maxHeartbeats 12800000
theorem said:Rows.FnExactBookExpireSaid :=
 OpenClaim.holds_of_cond 5 Tryz.f5 rfl rfl rfl rfl rfl rfl rfl ⟨rfl,rfl,rfl,rfl,rfl⟩ rfl rfl rfl rfl rfl (by kernel_rfl) func5 facts
  (of_decide_eq_true (by kernel_rfl)) (by unfold Func.isWrapper;first | (rw [if_pos (by decide +kernel)];kernel_rfl) | (rw [if_neg (by decide +kernel)];exact ⟨rfl,rfl⟩))
  (fun os started H enc _ F=>by rw [OpenClaim.pre_eq_preRow];exact lifted os started H enc F)
theorem proved:Rows.FnExactBookExpireCardSaid :=
 Claim7.holds_tied_plain_at .later [] _ _ _ _ said (fun _ h=>by cases h) (by as_aux_lemma=>kernel_rfl) (fun _ h=>by cases h) fnExactBookExpire_row_tie rfl ⟨rfl,rfl⟩ (by as_aux_lemma=>kernel_rfl) rfl
  (fun f fn hf hfn=>by
   obtain rfl : f = 5 := Option.some.inj ((show prog.funcNamed "loop.example/g00126/laws.FnExactBookExpire" = some 5 by as_aux_lemma => kernel_rfl).symm.trans hf) |>.symm
   obtain rfl:fn=Tryz.f5:=(Option.some.inj (func5.symm.trans hfn)).symm
   refine ⟨by as_aux_lemma=>kernel_rfl,fun j t ht=>?_⟩
   rw [params5] at ht
   have hm:t ∈ [50]:=by have:=Array.mem_of_getElem? ht;simp at this ⊢;first | exact this | exact this.symm | omega | (rcases this with h | h | h | h <;> simp [h]) | (rcases this with h | h | h <;> simp [h]) | (rcases this with h | h <;> simp [h])
   have hall:([50].all fun u=>!prog.wantsStandIn u)=true:=by as_aux_lemma=>kernel_rfl
   have h1:=List.all_eq_true.1 hall t hm
   have h2:prog.wantsStandIn t=false:=by simpa using h1
   exact h2)
  (by as_aux_lemma=>kernel_rfl)
end Go.Proofs.YtomiclakhjncbaaGreatDoor.fnExactBookExpire
