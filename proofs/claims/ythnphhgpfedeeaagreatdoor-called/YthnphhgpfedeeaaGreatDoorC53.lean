import Derived.Test.YthnphhgpfedeeaaGreatDoorC52
namespace Go.Proofs.YthnphhgpfedeeaaGreatDoor
open Go.RowKit
set_option linter.all false
theorem afG{a b:Bool}(h1:a=true)(h2:b=true):(a&&b)=true:=by rw[h1,h2];rfl
theorem afK:(Rows.calledRow.inPlace==Tryz.prog.inPlace 5)=true:=by kernel_rfl
theorem afL:(Rows.calledRow.unfollowed==Tryz.prog.unfollowed 5)=true:=by kernel_rfl
theorem afM:(Rows.calledRow.recurses==Tryz.prog.recurses 5)=true:=by kernel_rfl
theorem afN:(Rows.calledRow.named==Tryz.prog.varsNamed 5)=true:=by kernel_rfl
theorem afO:mapsRowed Tryz.prog=true:=by kernel_rfl
theorem afP:(Rows.calledRow.plainKeys==Tryz.prog.plainKeys)=true:=by kernel_rfl
theorem afQ:Tryz.prog.stopsHeard=true:=by kernel_rfl
theorem afR:Tryz.prog.mayEnter=true:=by kernel_rfl
theorem afS:(Rows.calledRow.lifted==Tryz.prog.liftsFinal)=true:=by kernel_rfl
theorem afH:(Tryz.prog.make==some Rows.calledRow.make)=true:=by kernel_rfl
theorem afI:namedTie Tryz.prog Rows.calledRow.named Rows.calledSpec.vars=true:=by kernel_rfl
