import Derived.Test.YthnphhgpfedeeaaGreatDoorCR52
namespace Go.Proofs.YthnphhgpfedeeaaGreatDoor
open Go.RowKit
set_option linter.all false
theorem ais{a b:Bool}(h1:a=true)(h2:b=true):(a&&b)=true:=by rw[h1,h2];rfl
theorem ai2:(Rows.reckonedRow.inPlace==Tryz.prog.inPlace 3)=true:=by kernel_rfl
theorem ai3:(Rows.reckonedRow.unfollowed==Tryz.prog.unfollowed 3)=true:=by kernel_rfl
theorem ai4:(Rows.reckonedRow.recurses==Tryz.prog.recurses 3)=true:=by kernel_rfl
theorem ai5:(Rows.reckonedRow.named==Tryz.prog.varsNamed 3)=true:=by kernel_rfl
theorem ai6:mapsRowed Tryz.prog=true:=by kernel_rfl
theorem ai7:(Rows.reckonedRow.plainKeys==Tryz.prog.plainKeys)=true:=by kernel_rfl
theorem ai8:Tryz.prog.stopsHeard=true:=by kernel_rfl
theorem ai9:Tryz.prog.mayEnter=true:=by kernel_rfl
theorem aja:(Rows.reckonedRow.lifted==Tryz.prog.liftsFinal)=true:=by kernel_rfl
theorem ait:(Tryz.prog.make==some Rows.reckonedRow.make)=true:=by kernel_rfl
theorem aiu:namedTie Tryz.prog Rows.reckonedRow.named Rows.reckonedSpec.vars=true:=by kernel_rfl
