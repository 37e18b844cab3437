import Derived.Test.YtnhcaifopaeohaaGreatDoorM12
import Derived.BigQuiet
import Derived.Deep.LoopGhost
import Derived.Deep.DeepCutAuto
import Derived.Test.YtnhcaifopaeohaaGreatDoorM17
import Derived.Test.YtnhcaifopaeohaaGreatDoorM15
import Derived.Deep.RegionWith
import Derived.Deep.CutBlock
import Derived.Test.YtnhcaifopaeohaaGreatDoorM05
import Derived.Test.YtnhcaifopaeohaaGreatDoorM06
namespace Go.Proofs.YtnhcaifopaeohaaGreatDoor
open Go.RowKit
set_option linter.all false
def b8 (l:List Int):List UInt8:=l.map (fun x=>UInt8.ofNat x.toNat)
theorem b8_len (l:List Int):(b8 l).length=l.length:=by simp [b8]
def namedU (s:ByteArray):List UInt8:=b8 [(s.size:Int) % 256]++BL s
theorem namedU_len (s:ByteArray):(namedU s).length=s.size+1:=by
 simp [namedU,b8,BL_len]
end Go.Proofs.YtnhcaifopaeohaaGreatDoor
