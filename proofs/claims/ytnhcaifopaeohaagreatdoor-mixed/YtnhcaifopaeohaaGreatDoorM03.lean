/- The library's contracts, laid at this dump: strings.HasPrefix, slices.Contains, strings.TrimLeft. -/
import Derived.Shelf.Strings.Prefix
import Derived.Shelf.Slices.Turned
import Derived.Shelf.Strings.Trim
import Derived.Test.YtnhcaifopaeohaaGreatDoorProg
namespace Go.Proofs
open Go.Shelf
set_option linter.all false
def Tryz.lp_ren : Go.Shelf.Ren := ⟨fun | 99 => 226 | 206 => 282 | n => n, fun | 3 => 3 | 4 => 4 | 9 => 9 | n => n, fun  | n => n⟩
theorem Tryz.lp : Go.Proofs.Lays.n99 Tryz.prog Tryz.lp_ren := {
  mixed := by kernel_rfl
  f99 := Tryz.func226.trans (congrArg some (by kernel_rfl))
  f206 := Tryz.func282.trans (congrArg some (by kernel_rfl))
  t3 := Tryz.underlying3
  a3 := Tryz.isAgg3
  z3 := Tryz.sizeOf3
  v3 := Tryz.zeroValue3
  t4 := Tryz.underlying4
  a4 := Tryz.isAgg4
  z4 := Tryz.sizeOf4
  v4 := Tryz.zeroValue4
  t9 := Tryz.underlying9
  a9 := Tryz.isAgg9
  z9 := Tryz.sizeOf9
  v9 := Tryz.zeroValue9 }
def Tryz.lk_ren : Go.Shelf.Ren := ⟨fun | 109 => 260 | 110 => 212 | n => n, fun | 0 => 0 | 3 => 3 | 4 => 4 | 9 => 9 | 31 => 29 | n => n, fun  | n => n⟩
theorem Tryz.lk : Go.Proofs.Lays.n110 Tryz.prog Tryz.lk_ren := {
  mixed := by kernel_rfl
  f109 := Tryz.func260.trans (congrArg some (by kernel_rfl))
  f110 := Tryz.func212.trans (congrArg some (by kernel_rfl))
  t0 := Tryz.underlying0
  a0 := Tryz.isAgg0
  z0 := Tryz.sizeOf0
  v0 := Tryz.zeroValue0
  t3 := Tryz.underlying3
  a3 := Tryz.isAgg3
  z3 := Tryz.sizeOf3
  v3 := Tryz.zeroValue3
  t4 := Tryz.underlying4
  a4 := Tryz.isAgg4
  z4 := Tryz.sizeOf4
  v4 := Tryz.zeroValue4
  t9 := Tryz.underlying9
  a9 := Tryz.isAgg9
  z9 := Tryz.sizeOf9
  v9 := Tryz.zeroValue9
  t31 := Tryz.underlying29
  a31 := Tryz.isAgg29
  z31 := Tryz.sizeOf29
  v31 := Tryz.zeroValue29 }
def Tryz.lt_ren : Go.Shelf.Ren := ⟨fun | 119 => 333 | 137 => 332 | 151 => 323 | 152 => 330 | 161 => 258 | 197 => 254 | 217 => 298 | 224 => 300 | 225 => 299 | 227 => 303 | 228 => 322 | 231 => 302 | 233 => 304 | 235 => 305 | 260 => 297 | 266 => 320 | n => n, fun | 0 => 0 | 3 => 3 | 4 => 4 | 5 => 5 | 9 => 9 | 21 => 21 | 46 => 191 | 105 => 280 | 116 => 318 | 117 => 319 | 119 => 336 | 124 => 322 | 138 => 338 | 139 => 339 | n => n, fun | 3 => 3 | 4 => 4 | n => n⟩
theorem Tryz.lt : Go.Proofs.Lays.n161 Tryz.prog Tryz.lt_ren := {
  mixed := by kernel_rfl
  f119 := Tryz.func333.trans (congrArg some (by kernel_rfl))
  f137 := Tryz.func332.trans (congrArg some (by kernel_rfl))
  f151 := Tryz.func323.trans (congrArg some (by kernel_rfl))
  f152 := Tryz.func330.trans (congrArg some (by kernel_rfl))
  f161 := Tryz.func258.trans (congrArg some (by kernel_rfl))
  f197 := Tryz.func254.trans (congrArg some (by kernel_rfl))
  f217 := Tryz.func298.trans (congrArg some (by kernel_rfl))
  f224 := Tryz.func300.trans (congrArg some (by kernel_rfl))
  f225 := Tryz.func299.trans (congrArg some (by kernel_rfl))
  f227 := Tryz.func303.trans (congrArg some (by kernel_rfl))
  f228 := Tryz.func322.trans (congrArg some (by kernel_rfl))
  f231 := Tryz.func302.trans (congrArg some (by kernel_rfl))
  f233 := Tryz.func304.trans (congrArg some (by kernel_rfl))
  f235 := Tryz.func305.trans (congrArg some (by kernel_rfl))
  f260 := Tryz.func297.trans (congrArg some (by kernel_rfl))
  f266 := Tryz.func320.trans (congrArg some (by kernel_rfl))
  t0 := Tryz.underlying0
  a0 := Tryz.isAgg0
  z0 := Tryz.sizeOf0
  v0 := Tryz.zeroValue0
  t3 := Tryz.underlying3
  a3 := Tryz.isAgg3
  z3 := Tryz.sizeOf3
  v3 := Tryz.zeroValue3
  t4 := Tryz.underlying4
  a4 := Tryz.isAgg4
  z4 := Tryz.sizeOf4
  v4 := Tryz.zeroValue4
  t5 := Tryz.underlying5
  a5 := Tryz.isAgg5
  z5 := Tryz.sizeOf5
  v5 := Tryz.zeroValue5
  t9 := Tryz.underlying9
  a9 := Tryz.isAgg9
  z9 := Tryz.sizeOf9
  v9 := Tryz.zeroValue9
  t21 := Tryz.underlying21
  a21 := Tryz.isAgg21
  z21 := Tryz.sizeOf21
  v21 := Tryz.zeroValue21
  t46 := Tryz.underlying191
  a46 := Tryz.isAgg191
  z46 := Tryz.sizeOf191
  v46 := Tryz.zeroValue191
  t105 := Tryz.underlying280
  a105 := Tryz.isAgg280
  z105 := Tryz.sizeOf280
  v105 := Tryz.zeroValue280
  t116 := Tryz.underlying318
  a116 := Tryz.isAgg318
  z116 := Tryz.sizeOf318
  t117 := Tryz.underlying319
  a117 := Tryz.isAgg319
  z117 := Tryz.sizeOf319
  v117 := Tryz.zeroValue319
  t119 := Tryz.underlying336
  a119 := Tryz.isAgg336
  z119 := Tryz.sizeOf336
  t124 := Tryz.underlying322
  a124 := Tryz.isAgg322
  z124 := Tryz.sizeOf322
  v124 := Tryz.zeroValue322
  t138 := Tryz.underlying338
  a138 := Tryz.isAgg338
  z138 := Tryz.sizeOf338
  v138 := Tryz.zeroValue338
  t139 := Tryz.underlying339
  a139 := Tryz.isAgg339
  z139 := Tryz.sizeOf339
  v139 := Tryz.zeroValue339
  g3 := by kernel_rfl
  g4 := by kernel_rfl }
end Go.Proofs
