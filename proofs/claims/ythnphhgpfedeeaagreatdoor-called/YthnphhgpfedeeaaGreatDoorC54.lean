import Derived.Test.YthnphhgpfedeeaaGreatDoorC53
namespace Go.Proofs.YthnphhgpfedeeaaGreatDoor
open Go.RowKit
set_option linter.all false
set_option maxRecDepth 100000
theorem aft:joinedFacts Tryz.prog 5 Tryz.f5 Rows.calledSpec Rows.calledRow=true:=by
 unfold joinedFacts
 iterate 31 refine afG ?_ ?_
 ·as_aux_lemma=>kernel_rfl
 ·exact afy
 ·exact afO
 ·as_aux_lemma=>kernel_rfl
 ·exact afI
 ·as_aux_lemma=>kernel_rfl
 ·as_aux_lemma=>kernel_rfl
 ·as_aux_lemma=>kernel_rfl
 ·as_aux_lemma=>kernel_rfl
 ·exact afK
 ·exact afL
 ·exact afM
 ·exact afN
 ·as_aux_lemma=>kernel_rfl
 ·as_aux_lemma=>kernel_rfl
 ·as_aux_lemma=>kernel_rfl
 ·as_aux_lemma=>kernel_rfl
 ·as_aux_lemma=>kernel_rfl
 ·as_aux_lemma=>kernel_rfl
 ·as_aux_lemma=>kernel_rfl
 ·as_aux_lemma=>kernel_rfl
 ·as_aux_lemma=>kernel_rfl
 ·exact afP
 ·as_aux_lemma=>kernel_rfl
 ·exact afQ
 ·exact afR
 ·exact afS
 ·exact afH
 ·as_aux_lemma=>kernel_rfl
 ·as_aux_lemma=>kernel_rfl
 ·as_aux_lemma=>kernel_rfl
 ·as_aux_lemma=>kernel_rfl
theorem afx:Rows.CalledSaid :=
 OpenClaim.holds_of_wide 5 Tryz.f5 rfl rfl rfl rfl rfl rfl rfl ⟨rfl,rfl,rfl,rfl,rfl⟩ rfl rfl rfl rfl rfl (by as_aux_lemma=>kernel_rfl) Tryz.func5 aft
  (of_decide_eq_true (by kernel_rfl)) (by unfold Func.isWrapper;first |(rw[iP9 (by decide +kernel)];kernel_rfl) |(rw[iN9 (by decide +kernel)];exact⟨rfl,rfl⟩))
  (λos started H enc _=>afs os started H enc)
