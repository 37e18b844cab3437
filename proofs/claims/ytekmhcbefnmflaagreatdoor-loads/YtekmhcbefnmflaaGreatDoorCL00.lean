/- The library's contract, laid at this dump: strings.Clone. -/
import Derived.Shelf.Strconv.Clone
import Derived.Test.YtekmhcbefnmflaaGreatDoorProg
namespace Go.Proofs
open Go.Shelf
set_option linter.all false
def Tryz.lcl_ren : Go.Shelf.Ren :=⟨λ| 316 => 164|n => n, λ| 0 => 0|3 => 3|4 => 4|9 => 9|37 => 162|5 => 5|127 => 338|n => n, λ  | n => n⟩
theorem Tryz.lcl : Go.Proofs.LaysM.n316 Tryz.prog Tryz.lcl_ren := {
  mixed := by kernel_rfl
  f316 := Tryz.func164.trans (congrArg some (by kernel_rfl))
  t0 := Tryz.underlying0
  a0 := Tryz.isAgg0
  z0 := Tryz.sizeOf0
  v0 := Tryz.zeroValue0
  t3 := Tryz.underlying3
  a3 := Tryz.isAgg3
  z3 := Tryz.sizeOf3
  v3 := Tryz.zeroValue3
  t4 := Tryz.underlying4
  a4 := Tryz.isAgg4
  z4 := Tryz.sizeOf4
  v4 := Tryz.zeroValue4
  t9 := Tryz.underlying9
  a9 := Tryz.isAgg9
  z9 := Tryz.sizeOf9
  v9 := Tryz.zeroValue9
  t37 := Tryz.underlying162
  a37 := Tryz.isAgg162
  z37 := Tryz.sizeOf162
  v37 := Tryz.zeroValue162
  t127 := Tryz.underlying338
  a127 := Tryz.isAgg338
  z127 := Tryz.sizeOf338
  v127 := Tryz.zeroValue338
  t5 := Tryz.underlying5
  a5 := Tryz.isAgg5
  z5 := Tryz.sizeOf5
  v5 := Tryz.zeroValue5
  i0 := by kernel_rfl
  i3 := by kernel_rfl
  i4 := by kernel_rfl
  i5 := by kernel_rfl
  i9 := by kernel_rfl
  i37 := by kernel_rfl
  i127 := by kernel_rfl}
