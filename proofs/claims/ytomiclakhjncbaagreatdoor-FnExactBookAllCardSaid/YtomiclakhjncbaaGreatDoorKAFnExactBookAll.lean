/- Proved: at every int, every list of ints (up to 1048576; a longer one passes by the law's own first test) and every list of texts (of at most 1048576 texts and bytes together; a greater one passes likewise) the program's BookAll answers as the specification's, every part of the book and the count; it leaves both lists as they were and keeps nothing of them; the book's lists own their memory, behind another call too. The package's listed variables hold what their own text lays (the card ties that). No other conditions. -/
import Derived.Test.YtomiclakhjncbaaGreatDoorKAFnExactBookAllL
import Derived.Test.YtomiclakhjncbaaGreatDoorKAFnExactBookAllF
import Derived.Test.YtomiclakhjncbaaGreatDoorTie
import Derived.Test.YtomiclakhjncbaaGreatDoorCards
namespace Go.Proofs.YtomiclakhjncbaaGreatDoor.fnExactBookAll
open Go.ChangeShapes Go.WideShapes Go.ChangeAt Go.RowKit
set_option maxRecDepth 100000
set_option maxHeartbeats 12800000
theorem said:Rows.FnExactBookAllSaid :=
 OpenClaim.holds_of_cond 3 Tryz.f3 rfl rfl rfl rfl rfl rfl rfl ⟨rfl,rfl,rfl,rfl,rfl⟩ rfl rfl rfl rfl rfl (by kernel_rfl) Tryz.func3 facts
  (of_decide_eq_true (by kernel_rfl)) (by unfold Func.isWrapper;first | (rw [if_pos (by decide +kernel)];kernel_rfl) | (rw [if_neg (by decide +kernel)];exact ⟨rfl,rfl⟩))
  (fun os started H enc _ F=>by rw [OpenClaim.pre_eq_preRow];exact lifted os started H enc F)
theorem proved:Rows.FnExactBookAllCardSaid :=
 Claim7.holds_tied_plain_at .later [] _ _ _ _ said (fun _ h=>by cases h) (by as_aux_lemma=>kernel_rfl) (fun _ h=>by cases h) fnExactBookAll_row_tie rfl ⟨rfl,rfl⟩ (by as_aux_lemma=>kernel_rfl) rfl
  (fun f fn hf hfn=>by
   obtain rfl : f = 3 := Option.some.inj ((show Tryz.prog.funcNamed "loop.example/g00126/laws.FnExactBookAll" = some 3 by as_aux_lemma=>kernel_rfl).symm.trans hf) |>.symm
   obtain rfl:fn=Tryz.f3:=(Option.some.inj (Tryz.func3.symm.trans hfn)).symm
   refine ⟨by as_aux_lemma=>kernel_rfl,fun j t ht=>?_⟩
   rw [Tryz.params3] at ht
   have hm:t ∈ [3,22,23]:=by have:=Array.mem_of_getElem? ht;simp at this ⊢;first | exact this | exact this.symm | omega | (rcases this with h | h | h | h <;> simp [h])
   have hall:([3,22,23].all fun u=>!Tryz.prog.wantsStandIn u)=true:=by kernel_rfl
   have h1:=List.all_eq_true.1 hall t hm
   have h2:Tryz.prog.wantsStandIn t=false:=by simpa using h1
   exact h2)
  (by as_aux_lemma=>kernel_rfl)
end Go.Proofs.YtomiclakhjncbaaGreatDoor.fnExactBookAll
