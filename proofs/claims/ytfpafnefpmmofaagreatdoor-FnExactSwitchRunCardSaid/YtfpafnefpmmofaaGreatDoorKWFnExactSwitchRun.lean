/- Proved: at every book and every list of messages (what szBook and szMessageS let through: 1048576 parts and bytes in all; a greater one passes by the law's own first tests) the program's SwitchRun answers as the specification's, every part of the book and every reject; it leaves the book and the messages as they were and keeps nothing of them; the book's lists and the rejects own their memory, behind another call too. The package's listed variables and the library's handle hold what their own text lays (the card ties that). No other conditions. -/
import Derived.Test.YtfpafnefpmmofaaGreatDoorJW7ar
import Derived.Test.YtfpafnefpmmofaaGreatDoorKWFnExactSwitchRunF
import Derived.Test.YtfpafnefpmmofaaGreatDoorKWFnExactSwitchRunG
namespace Go.Proofs.YtfpafnefpmmofaaGreatDoor.fnExactSwitchRun
open Go.ChangeShapes Go.WideShapes Go.ChangeAt Go.RowKit Go.Proofs.Tryz
set_option maxRecDepth 100000
set_option maxHeartbeats 12800000
theorem said:Rows.FnExactSwitchRunSaid :=
 OpenClaim.holds_of_cond 3 Tryz.f3 rfl rfl rfl rfl rfl rfl rfl ⟨rfl,rfl,rfl,rfl,rfl⟩ rfl rfl rfl rfl rfl (by kernel_rfl) func3 facts
  (of_decide_eq_true (by kernel_rfl)) (by unfold Func.isWrapper;first|(rw [if_pos (by decide +kernel)];kernel_rfl)|(rw [if_neg (by decide +kernel)];exact ⟨rfl,rfl⟩))
  (λos started H enc _ F=>by rw [OpenClaim.pre_eq_preRow];exact lifted os started H enc F)
theorem proved:Rows.FnExactSwitchRunCardSaid :=
 Claim7.holds_tied_plain_at .later [] _ _ _ _ said (λ_ h=>by cases h) (by as_aux_lemma=>kernel_rfl) (λ_ h=>by cases h) fnExactSwitchRun_row_tie rfl ⟨rfl,rfl⟩ (by as_aux_lemma=>kernel_rfl) rfl
  (λf fn hf hfn=>by
   obtain rfl : f = 3 := Option.some.inj ((show prog.funcNamed "loop.example/g00126/laws.FnExactSwitchRun" = some 3 by as_aux_lemma => kernel_rfl).s.t hf) |>.symm
   obtain rfl:fn=Tryz.f3:=(Option.some.inj (func3.s.t hfn)).s
   refine ⟨by as_aux_lemma=>kernel_rfl,λj t ht=>?_⟩
   rw [params3] at ht
   have hm:t ∈ [30,31]:=by have:=Array.mem_of_getElem? ht;simp at this ⊢;first|exact this|exact this.s|omega|(rcases this with h|h|h|h <;> simp [h])|(rcases this with h|h|h <;> simp [h])|(rcases this with h|h <;> simp [h])
   have b:([30,31].all λu=>!prog.wantsStandIn u)=true:=by as_aux_lemma=>kernel_rfl
   have c:=List.all_eq_true.1 b t hm
   have d:prog.wantsStandIn t=false:=by simpa using c
   exact d)
  goes
end Go.Proofs.YtfpafnefpmmofaaGreatDoor.fnExactSwitchRun
