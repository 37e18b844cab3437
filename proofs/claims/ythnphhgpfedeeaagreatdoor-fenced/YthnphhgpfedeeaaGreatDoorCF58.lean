import Derived.Test.YthnphhgpfedeeaaGreatDoorCF57
namespace Go.Proofs.YthnphhgpfedeeaaGreatDoor
open Go.RowKit
set_option linter.all false
theorem aoL{a b:Bool}(h1:a=true)(h2:b=true):(a&&b)=true:=by rw[h1,h2];rfl
theorem aoP:(Rows.fencedRow.inPlace==Tryz.prog.inPlace 6)=true:=by kernel_rfl
theorem aoQ:(Rows.fencedRow.unfollowed==Tryz.prog.unfollowed 6)=true:=by kernel_rfl
theorem aoR:(Rows.fencedRow.recurses==Tryz.prog.recurses 6)=true:=by kernel_rfl
theorem aoS:(Rows.fencedRow.named==Tryz.prog.varsNamed 6)=true:=by kernel_rfl
theorem aoT:mapsRowed Tryz.prog=true:=by kernel_rfl
theorem aoU:(Rows.fencedRow.plainKeys==Tryz.prog.plainKeys)=true:=by kernel_rfl
theorem aoV:Tryz.prog.stopsHeard=true:=by kernel_rfl
theorem aoW:Tryz.prog.mayEnter=true:=by kernel_rfl
theorem aoX:(Rows.fencedRow.lifted==Tryz.prog.liftsFinal)=true:=by kernel_rfl
theorem aoM:(Tryz.prog.make==some Rows.fencedRow.make)=true:=by kernel_rfl
theorem aoN:namedTie Tryz.prog Rows.fencedRow.named Rows.fencedSpec.vars=true:=by kernel_rfl
