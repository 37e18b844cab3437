/- The library's contracts, laid at this dump: strings.HasPrefix, slices.Contains, strings.TrimLeft. -/
import Derived.Shelf.Strings.Prefix
import Derived.Shelf.Slices.Turned
import Derived.Shelf.Strings.Trim
import Derived.Test.YtmajaohgiilelaaGreatDoorProg
namespace Go.Proofs
open Go.Shelf Tryz
set_option linter.all false
theorem fq3{α : Type}{x : Option α}{a b : α}(h : x = some a)(e : a = b) : x = some b := h.trans (congrArg some e)
def Tryz.aiG : Go.Shelf.Ren :=⟨λ| 99 => 228|206 => 285|n => n, λ| 3 => 3|4 => 4|9 => 9|n => n, λ  | n => n⟩
theorem Tryz.lp : Go.Proofs.Lays.n99 Tryz.prog Tryz.aiG := {
 mixed:=by kernel_rfl
 f99:=fq3 func228 (by kernel_rfl)
 f206:=fq3 func285 (by kernel_rfl)
 t3:=underlying3
 a3:=isAgg3
 z3:=sizeOf3
 v3:=zeroValue3
 t4:=underlying4
 a4:=isAgg4
 z4:=sizeOf4
 v4:=zeroValue4
 t9:=underlying9
 a9:=isAgg9
 z9:=sizeOf9
 v9:=zeroValue9}
def Tryz.aiH : Go.Shelf.Ren :=⟨λ| 109 => 230|110 => 135|n => n, λ| 0 => 0|3 => 3|4 => 4|9 => 9|31 => 55|n => n, λ  | n => n⟩
theorem Tryz.lk : Go.Proofs.Lays.n110 Tryz.prog Tryz.aiH := {
 mixed:=by kernel_rfl
 f109:=fq3 func230 (by kernel_rfl)
 f110:=fq3 func135 (by kernel_rfl)
 t0:=underlying0
 a0:=isAgg0
 z0:=sizeOf0
 v0:=zeroValue0
 t3:=underlying3
 a3:=isAgg3
 z3:=sizeOf3
 v3:=zeroValue3
 t4:=underlying4
 a4:=isAgg4
 z4:=sizeOf4
 v4:=zeroValue4
 t9:=underlying9
 a9:=isAgg9
 z9:=sizeOf9
 v9:=zeroValue9
 t31:=underlying55
 a31:=isAgg55
 z31:=sizeOf55
 v31:=zeroValue55}
def Tryz.aiI : Go.Shelf.Ren :=⟨λ| 119 => 331|137 => 330|151 => 309|152 => 321|161 => 225|197 => 221|217 => 277|224 => 279|225 => 278|227 => 282|228 => 308|231 => 281|233 => 283|235 => 284|260 => 276|266 => 306|n => n, λ| 0 => 0|3 => 3|4 => 4|5 => 5|9 => 9|21 => 21|46 => 105|105 => 255|116 => 305|117 => 306|119 => 330|124 => 309|138 => 332|139 => 333|n => n, λ| 3 => 2|4 => 3|n => n⟩
theorem Tryz.lt : Go.Proofs.Lays.n161 Tryz.prog Tryz.aiI := {
 mixed:=by kernel_rfl
 f119:=fq3 func331 (by kernel_rfl)
 f137:=fq3 func330 (by kernel_rfl)
 f151:=fq3 func309 (by kernel_rfl)
 f152:=fq3 func321 (by kernel_rfl)
 f161:=fq3 func225 (by kernel_rfl)
 f197:=fq3 func221 (by kernel_rfl)
 f217:=fq3 func277 (by kernel_rfl)
 f224:=fq3 func279 (by kernel_rfl)
 f225:=fq3 func278 (by kernel_rfl)
 f227:=fq3 func282 (by kernel_rfl)
 f228:=fq3 func308 (by kernel_rfl)
 f231:=fq3 func281 (by kernel_rfl)
 f233:=fq3 func283 (by kernel_rfl)
 f235:=fq3 func284 (by kernel_rfl)
 f260:=fq3 func276 (by kernel_rfl)
 f266:=fq3 func306 (by kernel_rfl)
 t0:=underlying0
 a0:=isAgg0
 z0:=sizeOf0
 v0:=zeroValue0
 t3:=underlying3
 a3:=isAgg3
 z3:=sizeOf3
 v3:=zeroValue3
 t4:=underlying4
 a4:=isAgg4
 z4:=sizeOf4
 v4:=zeroValue4
 t5:=underlying5
 a5:=isAgg5
 z5:=sizeOf5
 v5:=zeroValue5
 t9:=underlying9
 a9:=isAgg9
 z9:=sizeOf9
 v9:=zeroValue9
 t21:=underlying21
 a21:=isAgg21
 z21:=sizeOf21
 v21:=zeroValue21
 t46:=underlying105
 a46:=isAgg105
 z46:=sizeOf105
 v46:=zeroValue105
 t105:=underlying255
 a105:=isAgg255
 z105:=sizeOf255
 v105:=zeroValue255
 t116:=underlying305
 a116:=isAgg305
 z116:=sizeOf305
 t117:=underlying306
 a117:=isAgg306
 z117:=sizeOf306
 v117:=zeroValue306
 t119:=underlying330
 a119:=isAgg330
 z119:=sizeOf330
 t124:=underlying309
 a124:=isAgg309
 z124:=sizeOf309
 v124:=zeroValue309
 t138:=underlying332
 a138:=isAgg332
 z138:=sizeOf332
 v138:=zeroValue332
 t139:=underlying333
 a139:=isAgg333
 z139:=sizeOf333
 v139:=zeroValue333
 g3:=by kernel_rfl
 g4:=by kernel_rfl}
