import Derived.Test.YtnhcaifopaeohaaGreatDoorC61
import Derived.Test.YtnhcaifopaeohaaGreatDoorRows
import Derived.WalkKit
import Derived.ProofKit
import Derived.OpenShut
namespace Go.Proofs.YtnhcaifopaeohaaGreatDoor
open Go.RowKit
set_option linter.all false
theorem kfand {a b:Bool} (h1:a=true) (h2:b=true):(a&&b)=true:=by rw [h1,h2];rfl
theorem kfk1:(Rows.forthRow.inPlace==Tryz.prog.inPlace 4)=true:=by kernel_rfl
theorem kfk2:(Rows.forthRow.unfollowed==Tryz.prog.unfollowed 4)=true:=by kernel_rfl
theorem kfk3:(Rows.forthRow.recurses==Tryz.prog.recurses 4)=true:=by kernel_rfl
theorem kfk4:(Rows.forthRow.named==Tryz.prog.varsNamed 4)=true:=by kernel_rfl
theorem kfk5:mapsRowed Tryz.prog=true:=by kernel_rfl
theorem kfk6:(Rows.forthRow.plainKeys==Tryz.prog.plainKeys)=true:=by kernel_rfl
theorem kfk7:Tryz.prog.stopsHeard=true:=by kernel_rfl
theorem kfk8:Tryz.prog.mayEnter=true:=by kernel_rfl
theorem kfk9:(Rows.forthRow.lifted==Tryz.prog.liftsFinal)=true:=by kernel_rfl
theorem kfk10:(Tryz.prog.make==some Rows.forthRow.make)=true:=by kernel_rfl
theorem kfk11:namedTie Tryz.prog Rows.forthRow.named Rows.forthSpec.vars=true:=by kernel_rfl
set_option maxRecDepth 100000 in
theorem forth_facts:joinedFacts Tryz.prog 4 Tryz.f4 Rows.forthSpec Rows.forthRow=true:=by
 unfold joinedFacts
 iterate 31 refine kfand ?_ ?_
 ·as_aux_lemma=>kernel_rfl
 ·exact kflaidOut
 ·exact kfk5
 ·as_aux_lemma=>kernel_rfl
 ·exact kfk11
 ·as_aux_lemma=>kernel_rfl
 ·as_aux_lemma=>kernel_rfl
 ·as_aux_lemma=>kernel_rfl
 ·as_aux_lemma=>kernel_rfl
 ·exact kfk1
 ·exact kfk2
 ·exact kfk3
 ·exact kfk4
 ·as_aux_lemma=>kernel_rfl
 ·as_aux_lemma=>kernel_rfl
 ·as_aux_lemma=>kernel_rfl
 ·as_aux_lemma=>kernel_rfl
 ·as_aux_lemma=>kernel_rfl
 ·as_aux_lemma=>kernel_rfl
 ·as_aux_lemma=>kernel_rfl
 ·as_aux_lemma=>kernel_rfl
 ·as_aux_lemma=>kernel_rfl
 ·exact kfk6
 ·as_aux_lemma=>kernel_rfl
 ·exact kfk7
 ·exact kfk8
 ·exact kfk9
 ·exact kfk10
 ·as_aux_lemma=>kernel_rfl
 ·as_aux_lemma=>kernel_rfl
 ·as_aux_lemma=>kernel_rfl
 ·as_aux_lemma=>kernel_rfl
theorem forth_row:Rows.ForthSaid :=
 OpenClaim.holds_of_wide 4 Tryz.f4 rfl rfl rfl rfl rfl rfl rfl ⟨rfl,rfl,rfl,rfl,rfl⟩ rfl rfl rfl rfl rfl (by as_aux_lemma=>kernel_rfl) Tryz.func4 forth_facts
  (of_decide_eq_true (by kernel_rfl)) (by unfold Func.isWrapper;first | (rw [if_pos (by decide +kernel)];kernel_rfl) | (rw [if_neg (by decide +kernel)];exact ⟨rfl,rfl⟩))
  (fun os started H enc _=>kflaw_lifted os started H enc)
end Go.Proofs.YtnhcaifopaeohaaGreatDoor
