import Derived.Test.YtnhcaifopaeohaaGreatDoorC12
import Derived.BigQuiet
import Derived.Deep.LoopGhost
import Derived.Deep.DeepCutAuto
import Derived.Test.YtnhcaifopaeohaaGreatDoorC17
import Derived.Test.YtnhcaifopaeohaaGreatDoorC06
import Derived.Test.YtnhcaifopaeohaaGreatDoorC05
import Derived.Deep.RegionWith
import Derived.Test.YtnhcaifopaeohaaGreatDoorC15
import Derived.Deep.CutBlock
namespace Go.Proofs.YtnhcaifopaeohaaGreatDoor
open Go.RowKit
set_option linter.all false
def b8 (l:List Int):List UInt8:=l.map (fun x=>UInt8.ofNat x.toNat)
theorem b8_len (l:List Int):(b8 l).length=l.length:=by simp [b8]
def namedU (s:ByteArray):List UInt8:=b8 [(s.size:Int) % 256]++BL s
theorem namedU_len (s:ByteArray):(namedU s).length=s.size+1:=by
 simp [namedU,b8,BL_len]
end Go.Proofs.YtnhcaifopaeohaaGreatDoor
