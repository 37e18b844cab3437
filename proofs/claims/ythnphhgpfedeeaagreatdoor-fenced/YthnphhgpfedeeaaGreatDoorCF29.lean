import Derived.Test.YthnphhgpfedeeaaGreatDoorCF15
namespace Go.Proofs.YthnphhgpfedeeaaGreatDoor
open Go.RowKit
set_option linter.all false
def b8(l:List Int):tLB:=l.map (λx=>UInt8.ofNat x.toNat)
theorem gY(l:List Int):(b8 l).length=l.length:=by simp[b8]
def fC(s:tBA):tLB:=b8 [(s.size:Int)%256]++BL s
theorem gZ(s:tBA):(fC s).length=s.size+1:=by simp[fC,b8,RD]
