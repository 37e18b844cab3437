import Derived.Test.YtekmhcbefnmflaaGreatDoorCL61
import Derived.Test.YtekmhcbefnmflaaGreatDoorCL62
namespace Go.Proofs.YtekmhcbefnmflaaGreatDoor
open Go.RowKit
set_option linter.all false
set_option maxRecDepth 100000
theorem agu:joinedFacts Tryz.prog 3 Tryz.f3 Rows.loadsSpec Rows.loadsRow=true:=by
 unfold joinedFacts
 iterate 31 refine agz ?_ ?_
 ·as_aux_lemma=>kernel_rfl
 ·exact agv
 ·exact agG
 ·as_aux_lemma=>kernel_rfl
 ·exact agB
 ·as_aux_lemma=>kernel_rfl
 ·as_aux_lemma=>kernel_rfl
 ·as_aux_lemma=>kernel_rfl
 ·as_aux_lemma=>kernel_rfl
 ·exact agC
 ·exact agD
 ·exact agE
 ·exact agF
 ·as_aux_lemma=>kernel_rfl
 ·as_aux_lemma=>kernel_rfl
 ·as_aux_lemma=>kernel_rfl
 ·as_aux_lemma=>kernel_rfl
 ·as_aux_lemma=>kernel_rfl
 ·as_aux_lemma=>kernel_rfl
 ·as_aux_lemma=>kernel_rfl
 ·as_aux_lemma=>kernel_rfl
 ·as_aux_lemma=>kernel_rfl
 ·exact agH
 ·as_aux_lemma=>kernel_rfl
 ·exact agI
 ·exact agJ
 ·exact agK
 ·exact agA
 ·as_aux_lemma=>kernel_rfl
 ·as_aux_lemma=>kernel_rfl
 ·as_aux_lemma=>kernel_rfl
 ·as_aux_lemma=>kernel_rfl
theorem agw:Rows.LoadsSaid :=
 OpenClaim.holds_of_wide 3 Tryz.f3 rfl rfl rfl rfl rfl rfl rfl ⟨rfl,rfl,rfl,rfl,rfl⟩ rfl rfl rfl rfl rfl (by as_aux_lemma=>kernel_rfl) Tryz.func3 agu
  (of_decide_eq_true (by kernel_rfl)) (by unfold Func.isWrapper;first |(rw[iP9 (by decide +kernel)];kernel_rfl) |(rw[iN9 (by decide +kernel)];exact⟨rfl,rfl⟩))
  (λos started H enc _=>agp os started H enc)
