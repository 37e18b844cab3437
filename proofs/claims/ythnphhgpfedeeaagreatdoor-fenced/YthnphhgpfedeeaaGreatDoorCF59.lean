import Derived.Test.YthnphhgpfedeeaaGreatDoorCF58
namespace Go.Proofs.YthnphhgpfedeeaaGreatDoor
open Go.RowKit
set_option linter.all false
set_option maxRecDepth 100000
theorem aoz:joinedFacts Tryz.prog 6 Tryz.f6 Rows.fencedSpec Rows.fencedRow=true:=by
 unfold joinedFacts
 iterate 31 refine aoL ?_ ?_
 ·as_aux_lemma=>kernel_rfl
 ·exact aoE
 ·exact aoT
 ·as_aux_lemma=>kernel_rfl
 ·exact aoN
 ·as_aux_lemma=>kernel_rfl
 ·as_aux_lemma=>kernel_rfl
 ·as_aux_lemma=>kernel_rfl
 ·as_aux_lemma=>kernel_rfl
 ·exact aoP
 ·exact aoQ
 ·exact aoR
 ·exact aoS
 ·as_aux_lemma=>kernel_rfl
 ·as_aux_lemma=>kernel_rfl
 ·as_aux_lemma=>kernel_rfl
 ·as_aux_lemma=>kernel_rfl
 ·as_aux_lemma=>kernel_rfl
 ·as_aux_lemma=>kernel_rfl
 ·as_aux_lemma=>kernel_rfl
 ·as_aux_lemma=>kernel_rfl
 ·as_aux_lemma=>kernel_rfl
 ·exact aoU
 ·as_aux_lemma=>kernel_rfl
 ·exact aoV
 ·exact aoW
 ·exact aoX
 ·exact aoM
 ·as_aux_lemma=>kernel_rfl
 ·as_aux_lemma=>kernel_rfl
 ·as_aux_lemma=>kernel_rfl
 ·as_aux_lemma=>kernel_rfl
theorem aoD:Rows.FencedSaid :=
 OpenClaim.holds_of_wide 6 Tryz.f6 rfl rfl rfl rfl rfl rfl rfl ⟨rfl,rfl,rfl,rfl,rfl⟩ rfl rfl rfl rfl rfl (by as_aux_lemma=>kernel_rfl) Tryz.func6 aoz
  (of_decide_eq_true (by kernel_rfl)) (by unfold Func.isWrapper;first |(rw[iP9 (by decide +kernel)];kernel_rfl) |(rw[iN9 (by decide +kernel)];exact⟨rfl,rfl⟩))
  (λos started H enc _=>aoy os started H enc)
