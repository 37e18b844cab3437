import Derived.Conc.MuLone
import Derived.Deep.CutBlock
import Derived.Deep.DeepCutAuto
import Derived.Deep.Upon
import Derived.Great.BuildSlice
import Derived.LaidHandle
import Derived.Laws.EntriesVeiled
import Derived.Lib.AppendIntMem
import Derived.Lib.AppendZerosOnto
import Derived.Lib.ItoaLen
import Derived.Lib.LaidU8
import Derived.Lib.SlBytesConst
import Derived.OpenShut
import Derived.ProofKit
import Derived.Shelf.SlSortCmp.WholeK
import Derived.Shelf.Slices.Turned
import Derived.Shelf.Small.Strs
import Derived.Shelf.Strconv.Clone
import Derived.Shelf.Strconv.Itoa3
import Derived.Shelf.Strings.BuilderK
import Derived.Shelf.Strings.Cut
import Derived.Shelf.Strings.Prefix
import Derived.Shelf.Strings.Split
import Derived.Shelf.Strings.Trim
import Derived.Test.YtekmhcbefnmflaaGreatDoorRows
import Derived.Test.YtekmhcbefnmflaaGreatDoorCL05
namespace Go.Proofs.YtekmhcbefnmflaaGreatDoor
open Go.RowKit
set_option linter.all false
theorem agz{a b:Bool}(h1:a=true)(h2:b=true):(a&&b)=true:=by rw[h1,h2];rfl
theorem agC:(Rows.loadsRow.inPlace==Tryz.prog.inPlace 3)=true:=by kernel_rfl
theorem agD:(Rows.loadsRow.unfollowed==Tryz.prog.unfollowed 3)=true:=by kernel_rfl
theorem agE:(Rows.loadsRow.recurses==Tryz.prog.recurses 3)=true:=by kernel_rfl
theorem agF:(Rows.loadsRow.named==Tryz.prog.varsNamed 3)=true:=by kernel_rfl
theorem agG:mapsRowed Tryz.prog=true:=by kernel_rfl
theorem agH:(Rows.loadsRow.plainKeys==Tryz.prog.plainKeys)=true:=by kernel_rfl
theorem agI:Tryz.prog.stopsHeard=true:=by kernel_rfl
theorem agJ:Tryz.prog.mayEnter=true:=by kernel_rfl
theorem agK:(Rows.loadsRow.lifted==Tryz.prog.liftsFinal)=true:=by kernel_rfl
theorem agA:(Tryz.prog.make==some Rows.loadsRow.make)=true:=by kernel_rfl
theorem agB:namedTie Tryz.prog Rows.loadsRow.named Rows.loadsSpec.vars=true:=by kernel_rfl
