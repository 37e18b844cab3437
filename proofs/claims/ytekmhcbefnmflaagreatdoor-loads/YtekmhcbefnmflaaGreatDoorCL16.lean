import Derived.Deep.CutBlock
import Derived.Deep.DeepCutAuto
import Derived.Deep.OwnRows
import Derived.Lib.AppendIntMem
import Derived.Lib.ItoaLen
import Derived.Shelf.Strconv.Itoa3
import Derived.Shelf.Strings.BuilderK
import Derived.Test.YtekmhcbefnmflaaGreatDoorCL05
namespace Go.Proofs.YtekmhcbefnmflaaGreatDoor
open Go.RowKit
set_option linter.all false
theorem YY(s:tBA)(r:RS)(h:r.pos<=s.size):(mX s r).2.pos<=s.size:=qD s _ (qD s r h)
theorem NS(s:tBA)(r:RS)(h:r.pos<=s.size):(ow s r).2.pos<=s.size:=by
 have h1:=qD s r h;unfold ow;dsimp only;split
 ·exact h1
 ·rename_i hc
  simp at hc;show(rb s r).2.pos+(rb s r).1<=s.size
  omega
