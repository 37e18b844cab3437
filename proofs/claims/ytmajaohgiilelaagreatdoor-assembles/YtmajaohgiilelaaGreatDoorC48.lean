import Derived.Test.YtmajaohgiilelaaGreatDoorC47
namespace Go.Proofs.YtmajaohgiilelaaGreatDoor
open Go.RowKit
set_option linter.all false
set_option maxRecDepth 100000
theorem acT{a b:Bool}(h1:a=true)(h2:b=true):(a&&b)=true:=by rw[h1,h2];rfl
theorem Rx:(Rows.assemblesRow.inPlace==Tryz.prog.inPlace 3)=true:=by kernel_rfl
theorem Ry:(Rows.assemblesRow.unfollowed==Tryz.prog.unfollowed 3)=true:=by kernel_rfl
theorem ak3:(Rows.assemblesRow.recurses==Tryz.prog.recurses 3)=true:=by kernel_rfl
theorem ak4:(Rows.assemblesRow.named==Tryz.prog.varsNamed 3)=true:=by kernel_rfl
theorem ak5:mapsRowed Tryz.prog=true:=by kernel_rfl
theorem ak6:(Rows.assemblesRow.plainKeys==Tryz.prog.plainKeys)=true:=by kernel_rfl
theorem ak7:Tryz.prog.stopsHeard=true:=by kernel_rfl
theorem ak8:Tryz.prog.mayEnter=true:=by kernel_rfl
theorem ak9:(Rows.assemblesRow.lifted==Tryz.prog.liftsFinal)=true:=by kernel_rfl
theorem ag4:(Tryz.prog.make==some Rows.assemblesRow.make)=true:=by kernel_rfl
theorem ag5:namedTie Tryz.prog Rows.assemblesRow.named Rows.assemblesSpec.vars=true:=by kernel_rfl
theorem CK:joinedFacts Tryz.prog 3 Tryz.f3 Rows.assemblesSpec Rows.assemblesRow=true:=by
 unfold joinedFacts
 iterate 31 refine acT ?_ ?_
 ·as_aux_lemma=>kernel_rfl
 ·exact Yb
 ·exact ak5
 ·as_aux_lemma=>kernel_rfl
 ·exact ag5
 ·as_aux_lemma=>kernel_rfl
 ·as_aux_lemma=>kernel_rfl
 ·as_aux_lemma=>kernel_rfl
 ·as_aux_lemma=>kernel_rfl
 ·exact Rx
 ·exact Ry
 ·exact ak3
 ·exact ak4
 ·as_aux_lemma=>kernel_rfl
 ·as_aux_lemma=>kernel_rfl
 ·as_aux_lemma=>kernel_rfl
 ·as_aux_lemma=>kernel_rfl
 ·as_aux_lemma=>kernel_rfl
 ·as_aux_lemma=>kernel_rfl
 ·as_aux_lemma=>kernel_rfl
 ·as_aux_lemma=>kernel_rfl
 ·as_aux_lemma=>kernel_rfl
 ·exact ak6
 ·as_aux_lemma=>kernel_rfl
 ·exact ak7
 ·exact ak8
 ·exact ak9
 ·exact ag4
 ·as_aux_lemma=>kernel_rfl
 ·as_aux_lemma=>kernel_rfl
 ·as_aux_lemma=>kernel_rfl
 ·as_aux_lemma=>kernel_rfl
theorem xK:Rows.AssemblesSaid :=
 OpenClaim.holds_of_wide 3 Tryz.f3 rfl rfl rfl rfl rfl rfl rfl ⟨rfl,rfl,rfl,rfl,rfl⟩ rfl rfl rfl rfl rfl (by as_aux_lemma=>kernel_rfl) Tryz.func3 CK
  (of_decide_eq_true (by kernel_rfl)) (by unfold Func.isWrapper;first |(rw[iP9 (by decide +kernel)];kernel_rfl) |(rw[iN9 (by decide +kernel)];exact⟨rfl,rfl⟩))
  (λos started H enc _=>Mg os started H enc)
