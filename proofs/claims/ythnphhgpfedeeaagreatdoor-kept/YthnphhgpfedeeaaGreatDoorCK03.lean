/- The library's contracts, laid at this dump: strings.HasPrefix, slices.Contains, strings.TrimLeft. -/
import Derived.Shelf.Strings.Prefix
import Derived.Shelf.Slices.Turned
import Derived.Shelf.Strings.Trim
import Derived.Test.YthnphhgpfedeeaaGreatDoorProg
namespace Go.Proofs
open Go.Shelf Tryz
set_option linter.all false
theorem E8{α : Type}{x : Option α}{a b : α}(h : x = some a)(e : a = b) : x = some b := h.trans (congrArg some e)
def Tryz.lp_ren : Go.Shelf.Ren :=⟨λ| 99 => 271|206 => 324|n => n, λ| 3 => 3|4 => 4|9 => 9|n => n, λ  | n => n⟩
theorem Tryz.lp : Go.Proofs.Lays.n99 Tryz.prog Tryz.lp_ren := {
 mixed:=by kernel_rfl
 f99:=E8 func271 (by kernel_rfl)
 f206:=E8 func324 (by kernel_rfl)
 t3:=underlying3
 a3:=isAgg3
 z3:=sizeOf3
 v3:=zeroValue3
 t4:=underlying4
 a4:=isAgg4
 z4:=sizeOf4
 v4:=zeroValue4
 t9:=underlying9
 a9:=isAgg9
 z9:=sizeOf9
 v9:=zeroValue9}
def Tryz.lk_ren : Go.Shelf.Ren :=⟨λ| 109 => 302|110 => 255|n => n, λ| 0 => 0|3 => 3|4 => 4|9 => 9|31 => 24|n => n, λ  | n => n⟩
theorem Tryz.lk : Go.Proofs.Lays.n110 Tryz.prog Tryz.lk_ren := {
 mixed:=by kernel_rfl
 f109:=E8 func302 (by kernel_rfl)
 f110:=E8 func255 (by kernel_rfl)
 t0:=underlying0
 a0:=isAgg0
 z0:=sizeOf0
 v0:=zeroValue0
 t3:=underlying3
 a3:=isAgg3
 z3:=sizeOf3
 v3:=zeroValue3
 t4:=underlying4
 a4:=isAgg4
 z4:=sizeOf4
 v4:=zeroValue4
 t9:=underlying9
 a9:=isAgg9
 z9:=sizeOf9
 v9:=zeroValue9
 t31:=underlying24
 a31:=isAgg24
 z31:=sizeOf24
 v31:=zeroValue24}
def Tryz.lt_ren : Go.Shelf.Ren :=⟨λ| 119 => 381|137 => 380|151 => 365|152 => 376|161 => 300|197 => 296|217 => 337|224 => 339|225 => 338|227 => 342|228 => 364|231 => 341|233 => 343|235 => 344|260 => 336|266 => 362|n => n, λ| 0 => 0|3 => 3|4 => 4|5 => 5|9 => 9|21 => 21|46 => 258|105 => 336|116 => 366|117 => 367|119 => 387|124 => 370|138 => 389|139 => 390|n => n, λ| 3 => 2|4 => 3|n => n⟩
theorem Tryz.lt : Go.Proofs.Lays.n161 Tryz.prog Tryz.lt_ren := {
 mixed:=by kernel_rfl
 f119:=E8 func381 (by kernel_rfl)
 f137:=E8 func380 (by kernel_rfl)
 f151:=E8 func365 (by kernel_rfl)
 f152:=E8 func376 (by kernel_rfl)
 f161:=E8 func300 (by kernel_rfl)
 f197:=E8 func296 (by kernel_rfl)
 f217:=E8 func337 (by kernel_rfl)
 f224:=E8 func339 (by kernel_rfl)
 f225:=E8 func338 (by kernel_rfl)
 f227:=E8 func342 (by kernel_rfl)
 f228:=E8 func364 (by kernel_rfl)
 f231:=E8 func341 (by kernel_rfl)
 f233:=E8 func343 (by kernel_rfl)
 f235:=E8 func344 (by kernel_rfl)
 f260:=E8 func336 (by kernel_rfl)
 f266:=E8 func362 (by kernel_rfl)
 t0:=underlying0
 a0:=isAgg0
 z0:=sizeOf0
 v0:=zeroValue0
 t3:=underlying3
 a3:=isAgg3
 z3:=sizeOf3
 v3:=zeroValue3
 t4:=underlying4
 a4:=isAgg4
 z4:=sizeOf4
 v4:=zeroValue4
 t5:=underlying5
 a5:=isAgg5
 z5:=sizeOf5
 v5:=zeroValue5
 t9:=underlying9
 a9:=isAgg9
 z9:=sizeOf9
 v9:=zeroValue9
 t21:=underlying21
 a21:=isAgg21
 z21:=sizeOf21
 v21:=zeroValue21
 t46:=underlying258
 a46:=isAgg258
 z46:=sizeOf258
 v46:=zeroValue258
 t105:=underlying336
 a105:=isAgg336
 z105:=sizeOf336
 v105:=zeroValue336
 t116:=underlying366
 a116:=isAgg366
 z116:=sizeOf366
 t117:=underlying367
 a117:=isAgg367
 z117:=sizeOf367
 v117:=zeroValue367
 t119:=underlying387
 a119:=isAgg387
 z119:=sizeOf387
 t124:=underlying370
 a124:=isAgg370
 z124:=sizeOf370
 v124:=zeroValue370
 t138:=underlying389
 a138:=isAgg389
 z138:=sizeOf389
 v138:=zeroValue389
 t139:=underlying390
 a139:=isAgg390
 z139:=sizeOf390
 v139:=zeroValue390
 g3:=by kernel_rfl
 g4:=by kernel_rfl}
