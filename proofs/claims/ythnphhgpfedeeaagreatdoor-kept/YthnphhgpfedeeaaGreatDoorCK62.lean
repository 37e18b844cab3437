import Derived.Test.YthnphhgpfedeeaaGreatDoorCK61
namespace Go.Proofs.YthnphhgpfedeeaaGreatDoor
open Go.RowKit
set_option linter.all false
theorem agW{a b:Bool}(h1:a=true)(h2:b=true):(a&&b)=true:=by rw[h1,h2];rfl
theorem ag0:(Rows.keptRow.inPlace==Tryz.prog.inPlace 4)=true:=by kernel_rfl
theorem ag1:(Rows.keptRow.unfollowed==Tryz.prog.unfollowed 4)=true:=by kernel_rfl
theorem ag2:(Rows.keptRow.recurses==Tryz.prog.recurses 4)=true:=by kernel_rfl
theorem ag3:(Rows.keptRow.named==Tryz.prog.varsNamed 4)=true:=by kernel_rfl
theorem ag4:mapsRowed Tryz.prog=true:=by kernel_rfl
theorem ag5:(Rows.keptRow.plainKeys==Tryz.prog.plainKeys)=true:=by kernel_rfl
theorem ag6:Tryz.prog.stopsHeard=true:=by kernel_rfl
theorem ag7:Tryz.prog.mayEnter=true:=by kernel_rfl
theorem ag8:(Rows.keptRow.lifted==Tryz.prog.liftsFinal)=true:=by kernel_rfl
theorem agX:(Tryz.prog.make==some Rows.keptRow.make)=true:=by kernel_rfl
theorem agY:namedTie Tryz.prog Rows.keptRow.named Rows.keptSpec.vars=true:=by kernel_rfl
