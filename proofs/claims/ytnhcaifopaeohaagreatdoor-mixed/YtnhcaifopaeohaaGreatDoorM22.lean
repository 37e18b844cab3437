import Derived.Test.YtnhcaifopaeohaaGreatDoorM21
import Derived.Test.YtnhcaifopaeohaaGreatDoorM12
import Derived.BigQuiet
import Derived.Deep.LoopGhost
import Derived.Deep.DeepCutAuto
import Derived.Test.YtnhcaifopaeohaaGreatDoorM05
import Derived.Test.YtnhcaifopaeohaaGreatDoorM06
import Derived.Deep.CutBlock
import Derived.BigRegion
import Derived.Deep.RegionLaw
import Derived.Deep.RegionWith
namespace Go.Proofs.YtnhcaifopaeohaaGreatDoor
open Go.RowKit
set_option linter.all false
theorem BL_size (s:ByteArray):(BL s).length=s.size:=rfl
theorem BL_get (s:ByteArray) (i:Nat) (h:i<s.size):(BL s)[i]'(by rw [BL_size];exact h)=s[i]:=rfl
theorem bool_cases (b:Bool):b=true\/b=false:=by cases b<;>simp
theorem at_lt (l:List UInt8) (b:Nat):at' l b<256:=by
 unfold at';exact UInt8.toNat_lt _
theorem sgn32_bd (n:Nat) (h:n<4294967296):-2147483648<=sgn32 n/\sgn32 n<=2147483647:=by
 unfold sgn32;split<;>omega
theorem sgn16_bd (n:Nat) (h:n<65536):-32768<=sgn16 n/\sgn16 n<=32767:=by
 unfold sgn16;split<;>omega
theorem num32_bd (l:List UInt8):-2147483648<=num32 l/\num32 l<=2147483647:=by
 have h0:=at_lt l 0
 have h1:=at_lt l 1
 have h2:=at_lt l 2
 have h3:=at_lt l 3
 exact sgn32_bd _ (by omega)


theorem T_inj {a b:List UInt8} (h:T a=T b):a=b:=by
 have:=congrArg BL h
 simpa [BL,T] using this
end Go.Proofs.YtnhcaifopaeohaaGreatDoor
