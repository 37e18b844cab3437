/- Proved here (links_card): for every list of texts of bytes the law Links of the package spoollaw comes back and answers true: the program's Link of such a list tells just what the document's answer tells, the image byte by byte or the error and the object at which it is, it leaves the caller's list as it was, and asked once more when the caller has written into that list it answers for what stands there then; the law leaves its argument as it was.
   Its conditions: the package-level variables that the row lists hold what the program's text lays in them (the card ties them to it: math/bits.deBruijn32tab, math/bits.deBruijn64tab, internal/strconv.uint64pow10, unicode/utf8.acceptRanges, unicode/utf8.first as pinned, spool/ops.sizeWords); the row's own bound on a string's and a slice's size. -/
import Derived.Test.YtoknbkfclhmapaaGreatDoorC58
import Derived.Test.YtoknbkfclhmapaaGreatDoorRows
import Derived.WalkKit
import Derived.ProofKit
import Derived.OpenShut
import Derived.Test.YtoknbkfclhmapaaGreatDoorTie
import Derived.Test.YtoknbkfclhmapaaGreatDoorCards
import Derived.SevenTiedAt
namespace Go.Proofs.YtoknbkfclhmapaaGreatDoor
open Go.RowKit
open Go
theorem and_i {a b:Bool} (h1:a=true) (h2:b=true):(a&&b)=true:=by rw [h1,h2];rfl
theorem lk1:(Rows.linksRow.inPlace==Tryz.prog.inPlace 3)=true:=by kernel_rfl
theorem lk2:(Rows.linksRow.unfollowed==Tryz.prog.unfollowed 3)=true:=by kernel_rfl
theorem lk3:(Rows.linksRow.recurses==Tryz.prog.recurses 3)=true:=by kernel_rfl
theorem lk4:(Rows.linksRow.named==Tryz.prog.varsNamed 3)=true:=by kernel_rfl
theorem lk5:mapsRowed Tryz.prog=true:=by kernel_rfl
theorem lk6:(Rows.linksRow.plainKeys==Tryz.prog.plainKeys)=true:=by kernel_rfl
theorem lk7:Tryz.prog.stopsHeard=true:=by kernel_rfl
theorem lk8:Tryz.prog.mayEnter=true:=by kernel_rfl
theorem lk9:(Rows.linksRow.lifted==Tryz.prog.liftsFinal)=true:=by kernel_rfl
theorem lk10:(Tryz.prog.make==some Rows.linksRow.make)=true:=by kernel_rfl
theorem lk11:namedTie Tryz.prog Rows.linksRow.named Rows.linksSpec.vars=true:=by kernel_rfl
set_option maxRecDepth 100000 in
theorem links_facts:joinedFacts Tryz.prog 3 Tryz.f3 Rows.linksSpec Rows.linksRow=true:=by
 unfold joinedFacts
 iterate 31 refine and_i ?_ ?_
 ·as_aux_lemma=>kernel_rfl
 ·exact llaidOut
 ·exact lk5
 ·as_aux_lemma=>kernel_rfl
 ·exact lk11
 ·as_aux_lemma=>kernel_rfl
 ·as_aux_lemma=>kernel_rfl
 ·as_aux_lemma=>kernel_rfl
 ·as_aux_lemma=>kernel_rfl
 ·exact lk1
 ·exact lk2
 ·exact lk3
 ·exact lk4
 ·as_aux_lemma=>kernel_rfl
 ·as_aux_lemma=>kernel_rfl
 ·as_aux_lemma=>kernel_rfl
 ·as_aux_lemma=>kernel_rfl
 ·as_aux_lemma=>kernel_rfl
 ·as_aux_lemma=>kernel_rfl
 ·as_aux_lemma=>kernel_rfl
 ·as_aux_lemma=>kernel_rfl
 ·as_aux_lemma=>kernel_rfl
 ·exact lk6
 ·as_aux_lemma=>kernel_rfl
 ·exact lk7
 ·exact lk8
 ·exact lk9
 ·exact lk10
 ·as_aux_lemma=>kernel_rfl
 ·as_aux_lemma=>kernel_rfl
 ·as_aux_lemma=>kernel_rfl
 ·as_aux_lemma=>kernel_rfl
theorem links_row:Rows.LinksSaid :=
 OpenClaim.holds_of_wide 3 Tryz.f3 rfl rfl rfl rfl rfl rfl rfl ⟨rfl,rfl,rfl,rfl,rfl⟩ rfl rfl rfl rfl rfl (by as_aux_lemma=>kernel_rfl) Tryz.func3 links_facts
  (of_decide_eq_true (by kernel_rfl)) (by unfold Func.isWrapper;first | (rw [if_pos (by decide +kernel)];kernel_rfl) | (rw [if_neg (by decide +kernel)];exact ⟨rfl,rfl⟩))
  (fun os started H enc _=>llaw_lifted os started H enc)
#print axioms links_row
theorem links_card:Rows.LinksCardSaid :=
 Claim7.holds_tied_plain_at .later [] [.data, .data, .data, .data, .data, .pinned] true (true, "7df641fa052f8dd5c8cbba6512162321d13bb995b8ce70b3a7bfdee65de5b716") false
  links_row (fun _ h=>by cases h) (by kernel_rfl) (fun _ h=>by cases h) links_row_tie rfl ⟨rfl,rfl⟩ (by kernel_rfl) rfl
  (fun f fn hf hfn=>by
   obtain rfl : f = 3 := Option.some.inj ((show Tryz.prog.funcNamed "spool/spoollaw.Links" = some 3 by kernel_rfl).symm.trans hf) |>.symm
   obtain rfl:fn=Tryz.f3:=(Option.some.inj (Tryz.func3.symm.trans hfn)).symm
   exact ⟨by kernel_rfl,fun j t ht=>by
    rw [llawParams] at ht
    have h3:t=22:=by
     rcases j with _ | j
     ·simpa using ht.symm
     ·simp at ht
    subst h3
    exact (show Tryz.prog.wantsStandIn 22=false by kernel_rfl)⟩)
  (by kernel_rfl)
#print axioms links_card
end Go.Proofs.YtoknbkfclhmapaaGreatDoor
