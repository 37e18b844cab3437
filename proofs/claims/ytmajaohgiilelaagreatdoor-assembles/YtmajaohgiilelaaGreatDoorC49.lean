/- Proved here (assembles_card): for every text of bytes the law Assembles of the package spoollaw comes back and answers true: the program's Assemble of that text makes just what the document's answer makes, the object byte by byte, or no object and the error with its line; and it leaves its argument as it was.
   Its conditions: the package-level variables that the row lists hold what the program's text lays in them (the card ties them to it: math/bits.deBruijn32tab, math/bits.deBruijn64tab, internal/strconv.uint64pow10, unicode/utf8.acceptRanges, unicode/utf8.first as pinned, spool/ops.sizeWords); of internal/bytealg.MaxLen it speaks whatever number it holds; the row's own bound on a string's size. -/
import Derived.Test.YtmajaohgiilelaaGreatDoorC48
import Derived.Test.YtmajaohgiilelaaGreatDoorTie
import Derived.Test.YtmajaohgiilelaaGreatDoorCards
namespace Go.Proofs.YtmajaohgiilelaaGreatDoor
open Go
set_option linter.all false
theorem assembles_card:Rows.AssemblesCardSaid :=
 Claim7.holds_tied_plain_at .later [] [.data, .data, .data, .data, .data, .pinned] true (true, "e983ccb453a83ff8bdac48589170941ec65ff50f0fdc92b20d46ee4661ee18aa") false
  xK (λ_ h=>by cases h) (by kernel_rfl) (λ_ h=>by cases h) assembles_row_tie rfl ⟨rfl,rfl⟩ (by kernel_rfl) rfl
  (λf fn hf hfn=>by
   obtain rfl : f = 3 := Option.some.inj ((show Tryz.prog.funcNamed "spool/spoollaw.Assembles" = some 3 by kernel_rfl).symm.trans hf) |>.symm
   obtain rfl:fn=Tryz.f3:=(Option.some.inj (Tryz.func3.symm.trans hfn)).symm
   exact⟨by kernel_rfl,λj t ht=>by
    rw[EM]at ht
    have h3:t=9:=by
     rcases j with _|j
     ·simpa using ht.symm
     ·simp at ht
    subst h3;exact(show Tryz.prog.wantsStandIn 9=false by kernel_rfl)⟩)
  (by kernel_rfl)
#print axioms assembles_card
