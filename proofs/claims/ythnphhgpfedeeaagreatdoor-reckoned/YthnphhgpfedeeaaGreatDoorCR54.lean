import Derived.Test.YthnphhgpfedeeaaGreatDoorCR53
namespace Go.Proofs.YthnphhgpfedeeaaGreatDoor
open Go.RowKit
set_option linter.all false
set_option maxRecDepth 100000
theorem agq:joinedFacts Tryz.prog 3 Tryz.f3 Rows.reckonedSpec Rows.reckonedRow=true:=by
 unfold joinedFacts
 iterate 31 refine ais ?_ ?_
 ·as_aux_lemma=>kernel_rfl
 ·exact agX
 ·exact ai6
 ·as_aux_lemma=>kernel_rfl
 ·exact aiu
 ·as_aux_lemma=>kernel_rfl
 ·as_aux_lemma=>kernel_rfl
 ·as_aux_lemma=>kernel_rfl
 ·as_aux_lemma=>kernel_rfl
 ·exact ai2
 ·exact ai3
 ·exact ai4
 ·exact ai5
 ·as_aux_lemma=>kernel_rfl
 ·as_aux_lemma=>kernel_rfl
 ·as_aux_lemma=>kernel_rfl
 ·as_aux_lemma=>kernel_rfl
 ·as_aux_lemma=>kernel_rfl
 ·as_aux_lemma=>kernel_rfl
 ·as_aux_lemma=>kernel_rfl
 ·as_aux_lemma=>kernel_rfl
 ·as_aux_lemma=>kernel_rfl
 ·exact ai7
 ·as_aux_lemma=>kernel_rfl
 ·exact ai8
 ·exact ai9
 ·exact aja
 ·exact ait
 ·as_aux_lemma=>kernel_rfl
 ·as_aux_lemma=>kernel_rfl
 ·as_aux_lemma=>kernel_rfl
 ·as_aux_lemma=>kernel_rfl
theorem agw:Rows.ReckonedSaid :=
 OpenClaim.holds_of_wide 3 Tryz.f3 rfl rfl rfl rfl rfl rfl rfl ⟨rfl,rfl,rfl,rfl,rfl⟩ rfl rfl rfl rfl rfl (by as_aux_lemma=>kernel_rfl) Tryz.func3 agq
  (of_decide_eq_true (by kernel_rfl)) (by unfold Func.isWrapper;first |(rw[iP9 (by decide +kernel)];kernel_rfl) |(rw[iN9 (by decide +kernel)];exact⟨rfl,rfl⟩))
  (λos started H enc _=>agv os started H enc)
