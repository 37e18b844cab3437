import Derived.Test.YtnhcaifopaeohaaGreatDoorC51
import Derived.Test.YtnhcaifopaeohaaGreatDoorRows
import Derived.WalkKit
import Derived.ProofKit
import Derived.OpenShut
namespace Go.Proofs.YtnhcaifopaeohaaGreatDoor
open Go.RowKit
set_option linter.all false
theorem kband {a b:Bool} (h1:a=true) (h2:b=true):(a&&b)=true:=by rw [h1,h2];rfl
theorem kbk1:(Rows.backRow.inPlace==Tryz.prog.inPlace 3)=true:=by kernel_rfl
theorem kbk2:(Rows.backRow.unfollowed==Tryz.prog.unfollowed 3)=true:=by kernel_rfl
theorem kbk3:(Rows.backRow.recurses==Tryz.prog.recurses 3)=true:=by kernel_rfl
theorem kbk4:(Rows.backRow.named==Tryz.prog.varsNamed 3)=true:=by kernel_rfl
theorem kbk5:mapsRowed Tryz.prog=true:=by kernel_rfl
theorem kbk6:(Rows.backRow.plainKeys==Tryz.prog.plainKeys)=true:=by kernel_rfl
theorem kbk7:Tryz.prog.stopsHeard=true:=by kernel_rfl
theorem kbk8:Tryz.prog.mayEnter=true:=by kernel_rfl
theorem kbk9:(Rows.backRow.lifted==Tryz.prog.liftsFinal)=true:=by kernel_rfl
theorem kbk10:(Tryz.prog.make==some Rows.backRow.make)=true:=by kernel_rfl
theorem kbk11:namedTie Tryz.prog Rows.backRow.named Rows.backSpec.vars=true:=by kernel_rfl
set_option maxRecDepth 100000 in
theorem back_facts:joinedFacts Tryz.prog 3 Tryz.f3 Rows.backSpec Rows.backRow=true:=by
 unfold joinedFacts
 iterate 31 refine kband ?_ ?_
 ·as_aux_lemma=>kernel_rfl
 ·exact kblaidOut
 ·exact kbk5
 ·as_aux_lemma=>kernel_rfl
 ·exact kbk11
 ·as_aux_lemma=>kernel_rfl
 ·as_aux_lemma=>kernel_rfl
 ·as_aux_lemma=>kernel_rfl
 ·as_aux_lemma=>kernel_rfl
 ·exact kbk1
 ·exact kbk2
 ·exact kbk3
 ·exact kbk4
 ·as_aux_lemma=>kernel_rfl
 ·as_aux_lemma=>kernel_rfl
 ·as_aux_lemma=>kernel_rfl
 ·as_aux_lemma=>kernel_rfl
 ·as_aux_lemma=>kernel_rfl
 ·as_aux_lemma=>kernel_rfl
 ·as_aux_lemma=>kernel_rfl
 ·as_aux_lemma=>kernel_rfl
 ·as_aux_lemma=>kernel_rfl
 ·exact kbk6
 ·as_aux_lemma=>kernel_rfl
 ·exact kbk7
 ·exact kbk8
 ·exact kbk9
 ·exact kbk10
 ·as_aux_lemma=>kernel_rfl
 ·as_aux_lemma=>kernel_rfl
 ·as_aux_lemma=>kernel_rfl
 ·as_aux_lemma=>kernel_rfl
theorem back_row:Rows.BackSaid :=
 OpenClaim.holds_of_wide 3 Tryz.f3 rfl rfl rfl rfl rfl rfl rfl ⟨rfl,rfl,rfl,rfl,rfl⟩ rfl rfl rfl rfl rfl (by as_aux_lemma=>kernel_rfl) Tryz.func3 back_facts
  (of_decide_eq_true (by kernel_rfl)) (by unfold Func.isWrapper;first | (rw [if_pos (by decide +kernel)];kernel_rfl) | (rw [if_neg (by decide +kernel)];exact ⟨rfl,rfl⟩))
  (fun os started H enc _=>kblaw_lifted os started H enc)
end Go.Proofs.YtnhcaifopaeohaaGreatDoor
