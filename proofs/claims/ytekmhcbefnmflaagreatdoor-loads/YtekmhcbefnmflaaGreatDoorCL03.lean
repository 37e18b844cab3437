/- The library's contracts, laid at this dump: strings.HasPrefix, slices.Contains, strings.TrimLeft. -/
import Derived.Shelf.Strings.Prefix
import Derived.Shelf.Slices.Turned
import Derived.Shelf.Strings.Trim
import Derived.Test.YtekmhcbefnmflaaGreatDoorProg
namespace Go.Proofs
open Go.Shelf Tryz
set_option linter.all false
theorem Et{α : Type}{x : Option α}{a b : α}(h : x = some a)(e : a = b) : x = some b := h.trans (congrArg some e)
def Tryz.lp_ren : Go.Shelf.Ren :=⟨λ| 99 => 293|206 => 350|n => n, λ| 3 => 3|4 => 4|9 => 9|n => n, λ  | n => n⟩
theorem Tryz.lp : Go.Proofs.Lays.n99 Tryz.prog Tryz.lp_ren := {
 mixed:=by kernel_rfl
 f99:=Et func293 (by kernel_rfl)
 f206:=Et func350 (by kernel_rfl)
 t3:=underlying3
 a3:=isAgg3
 z3:=sizeOf3
 v3:=zeroValue3
 t4:=underlying4
 a4:=isAgg4
 z4:=sizeOf4
 v4:=zeroValue4
 t9:=underlying9
 a9:=isAgg9
 z9:=sizeOf9
 v9:=zeroValue9}
def Tryz.lk_ren : Go.Shelf.Ren :=⟨λ| 109 => 295|110 => 191|n => n, λ| 0 => 0|3 => 3|4 => 4|9 => 9|31 => 29|n => n, λ  | n => n⟩
theorem Tryz.lk : Go.Proofs.Lays.n110 Tryz.prog Tryz.lk_ren := {
 mixed:=by kernel_rfl
 f109:=Et func295 (by kernel_rfl)
 f110:=Et func191 (by kernel_rfl)
 t0:=underlying0
 a0:=isAgg0
 z0:=sizeOf0
 v0:=zeroValue0
 t3:=underlying3
 a3:=isAgg3
 z3:=sizeOf3
 v3:=zeroValue3
 t4:=underlying4
 a4:=isAgg4
 z4:=sizeOf4
 v4:=zeroValue4
 t9:=underlying9
 a9:=isAgg9
 z9:=sizeOf9
 v9:=zeroValue9
 t31:=underlying29
 a31:=isAgg29
 z31:=sizeOf29
 v31:=zeroValue29}
def Tryz.lt_ren : Go.Shelf.Ren :=⟨λ| 119 => 397|137 => 396|151 => 375|152 => 387|161 => 290|197 => 286|217 => 342|224 => 344|225 => 343|227 => 347|228 => 374|231 => 346|233 => 348|235 => 349|260 => 341|266 => 372|n => n, λ| 0 => 0|3 => 3|4 => 4|5 => 5|9 => 9|21 => 21|46 => 282|105 => 341|116 => 384|117 => 385|119 => 404|124 => 388|138 => 406|139 => 407|n => n, λ| 3 => 2|4 => 3|n => n⟩
theorem Tryz.lt : Go.Proofs.Lays.n161 Tryz.prog Tryz.lt_ren := {
 mixed:=by kernel_rfl
 f119:=Et func397 (by kernel_rfl)
 f137:=Et func396 (by kernel_rfl)
 f151:=Et func375 (by kernel_rfl)
 f152:=Et func387 (by kernel_rfl)
 f161:=Et func290 (by kernel_rfl)
 f197:=Et func286 (by kernel_rfl)
 f217:=Et func342 (by kernel_rfl)
 f224:=Et func344 (by kernel_rfl)
 f225:=Et func343 (by kernel_rfl)
 f227:=Et func347 (by kernel_rfl)
 f228:=Et func374 (by kernel_rfl)
 f231:=Et func346 (by kernel_rfl)
 f233:=Et func348 (by kernel_rfl)
 f235:=Et func349 (by kernel_rfl)
 f260:=Et func341 (by kernel_rfl)
 f266:=Et func372 (by kernel_rfl)
 t0:=underlying0
 a0:=isAgg0
 z0:=sizeOf0
 v0:=zeroValue0
 t3:=underlying3
 a3:=isAgg3
 z3:=sizeOf3
 v3:=zeroValue3
 t4:=underlying4
 a4:=isAgg4
 z4:=sizeOf4
 v4:=zeroValue4
 t5:=underlying5
 a5:=isAgg5
 z5:=sizeOf5
 v5:=zeroValue5
 t9:=underlying9
 a9:=isAgg9
 z9:=sizeOf9
 v9:=zeroValue9
 t21:=underlying21
 a21:=isAgg21
 z21:=sizeOf21
 v21:=zeroValue21
 t46:=underlying282
 a46:=isAgg282
 z46:=sizeOf282
 v46:=zeroValue282
 t105:=underlying341
 a105:=isAgg341
 z105:=sizeOf341
 v105:=zeroValue341
 t116:=underlying384
 a116:=isAgg384
 z116:=sizeOf384
 t117:=underlying385
 a117:=isAgg385
 z117:=sizeOf385
 v117:=zeroValue385
 t119:=underlying404
 a119:=isAgg404
 z119:=sizeOf404
 t124:=underlying388
 a124:=isAgg388
 z124:=sizeOf388
 v124:=zeroValue388
 t138:=underlying406
 a138:=isAgg406
 z138:=sizeOf406
 v138:=zeroValue406
 t139:=underlying407
 a139:=isAgg407
 z139:=sizeOf407
 v139:=zeroValue407
 g3:=by kernel_rfl
 g4:=by kernel_rfl}
