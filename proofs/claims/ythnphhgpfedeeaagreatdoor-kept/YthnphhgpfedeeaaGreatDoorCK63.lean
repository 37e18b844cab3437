import Derived.Test.YthnphhgpfedeeaaGreatDoorCK62
namespace Go.Proofs.YthnphhgpfedeeaaGreatDoor
open Go.RowKit
set_option linter.all false
set_option maxRecDepth 100000
theorem agM:joinedFacts Tryz.prog 4 Tryz.f4 Rows.keptSpec Rows.keptRow=true:=by
 unfold joinedFacts
 iterate 31 refine agW ?_ ?_
 ·as_aux_lemma=>kernel_rfl
 ·exact agG
 ·exact ag4
 ·as_aux_lemma=>kernel_rfl
 ·exact agY
 ·as_aux_lemma=>kernel_rfl
 ·as_aux_lemma=>kernel_rfl
 ·as_aux_lemma=>kernel_rfl
 ·as_aux_lemma=>kernel_rfl
 ·exact ag0
 ·exact ag1
 ·exact ag2
 ·exact ag3
 ·as_aux_lemma=>kernel_rfl
 ·as_aux_lemma=>kernel_rfl
 ·as_aux_lemma=>kernel_rfl
 ·as_aux_lemma=>kernel_rfl
 ·as_aux_lemma=>kernel_rfl
 ·as_aux_lemma=>kernel_rfl
 ·as_aux_lemma=>kernel_rfl
 ·as_aux_lemma=>kernel_rfl
 ·as_aux_lemma=>kernel_rfl
 ·exact ag5
 ·as_aux_lemma=>kernel_rfl
 ·exact ag6
 ·exact ag7
 ·exact ag8
 ·exact agX
 ·as_aux_lemma=>kernel_rfl
 ·as_aux_lemma=>kernel_rfl
 ·as_aux_lemma=>kernel_rfl
 ·as_aux_lemma=>kernel_rfl
theorem agQ:Rows.KeptSaid :=
 OpenClaim.holds_of_wide 4 Tryz.f4 rfl rfl rfl rfl rfl rfl rfl ⟨rfl,rfl,rfl,rfl,rfl⟩ rfl rfl rfl rfl rfl (by as_aux_lemma=>kernel_rfl) Tryz.func4 agM
  (of_decide_eq_true (by kernel_rfl)) (by unfold Func.isWrapper;first |(rw[iP9 (by decide +kernel)];kernel_rfl) |(rw[iN9 (by decide +kernel)];exact⟨rfl,rfl⟩))
  (λos started H enc _=>agH os started H enc)
