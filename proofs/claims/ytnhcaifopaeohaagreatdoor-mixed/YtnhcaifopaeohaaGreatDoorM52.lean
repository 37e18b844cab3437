import Derived.Test.YtnhcaifopaeohaaGreatDoorM51
import Derived.Test.YtnhcaifopaeohaaGreatDoorRows
import Derived.WalkKit
import Derived.ProofKit
import Derived.OpenShut
namespace Go.Proofs.YtnhcaifopaeohaaGreatDoor
open Go.RowKit
set_option linter.all false
theorem kmand {a b:Bool} (h1:a=true) (h2:b=true):(a&&b)=true:=by rw [h1,h2];rfl
theorem kmk1:(Rows.mixedRow.inPlace==Tryz.prog.inPlace 5)=true:=by kernel_rfl
theorem kmk2:(Rows.mixedRow.unfollowed==Tryz.prog.unfollowed 5)=true:=by kernel_rfl
theorem kmk3:(Rows.mixedRow.recurses==Tryz.prog.recurses 5)=true:=by kernel_rfl
theorem kmk4:(Rows.mixedRow.named==Tryz.prog.varsNamed 5)=true:=by kernel_rfl
theorem kmk5:mapsRowed Tryz.prog=true:=by kernel_rfl
theorem kmk6:(Rows.mixedRow.plainKeys==Tryz.prog.plainKeys)=true:=by kernel_rfl
theorem kmk7:Tryz.prog.stopsHeard=true:=by kernel_rfl
theorem kmk8:Tryz.prog.mayEnter=true:=by kernel_rfl
theorem kmk9:(Rows.mixedRow.lifted==Tryz.prog.liftsFinal)=true:=by kernel_rfl
theorem kmk10:(Tryz.prog.make==some Rows.mixedRow.make)=true:=by kernel_rfl
theorem kmk11:namedTie Tryz.prog Rows.mixedRow.named Rows.mixedSpec.vars=true:=by kernel_rfl
set_option maxRecDepth 100000 in
theorem mixed_facts:joinedFacts Tryz.prog 5 Tryz.f5 Rows.mixedSpec Rows.mixedRow=true:=by
 unfold joinedFacts
 iterate 31 refine kmand ?_ ?_
 ·as_aux_lemma=>kernel_rfl
 ·exact kmlaidOut
 ·exact kmk5
 ·as_aux_lemma=>kernel_rfl
 ·exact kmk11
 ·as_aux_lemma=>kernel_rfl
 ·as_aux_lemma=>kernel_rfl
 ·as_aux_lemma=>kernel_rfl
 ·as_aux_lemma=>kernel_rfl
 ·exact kmk1
 ·exact kmk2
 ·exact kmk3
 ·exact kmk4
 ·as_aux_lemma=>kernel_rfl
 ·as_aux_lemma=>kernel_rfl
 ·as_aux_lemma=>kernel_rfl
 ·as_aux_lemma=>kernel_rfl
 ·as_aux_lemma=>kernel_rfl
 ·as_aux_lemma=>kernel_rfl
 ·as_aux_lemma=>kernel_rfl
 ·as_aux_lemma=>kernel_rfl
 ·as_aux_lemma=>kernel_rfl
 ·exact kmk6
 ·as_aux_lemma=>kernel_rfl
 ·exact kmk7
 ·exact kmk8
 ·exact kmk9
 ·exact kmk10
 ·as_aux_lemma=>kernel_rfl
 ·as_aux_lemma=>kernel_rfl
 ·as_aux_lemma=>kernel_rfl
 ·as_aux_lemma=>kernel_rfl
theorem mixed_row:Rows.MixedSaid :=
 OpenClaim.holds_of_wide 5 Tryz.f5 rfl rfl rfl rfl rfl rfl rfl ⟨rfl,rfl,rfl,rfl,rfl⟩ rfl rfl rfl rfl rfl (by as_aux_lemma=>kernel_rfl) Tryz.func5 mixed_facts
  (of_decide_eq_true (by kernel_rfl)) (by unfold Func.isWrapper;first | (rw [if_pos (by decide +kernel)];kernel_rfl) | (rw [if_neg (by decide +kernel)];exact ⟨rfl,rfl⟩))
  (fun os started H enc _=>kmlaw_lifted os started H enc)
end Go.Proofs.YtnhcaifopaeohaaGreatDoor
