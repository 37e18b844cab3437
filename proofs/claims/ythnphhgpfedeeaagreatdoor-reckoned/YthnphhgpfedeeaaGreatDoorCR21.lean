import Derived.Test.YthnphhgpfedeeaaGreatDoorCR20
namespace Go.Proofs.YthnphhgpfedeeaaGreatDoor
open Go.RowKit
set_option linter.all false
theorem LY(s:tBA):(BL s).length=s.size:=rfl
theorem aao(s:tBA)(i:Nat)(h:i<s.size):(BL s)[i]'(by rw[LY];exact h)=s[i]:=rfl
theorem J8(b:Bool):b=true\/b=false:=by cases b<;>simp
theorem uL(l:tLB)(b:Nat):at' l b<256:=by unfold at';exact UInt8.toNat_lt _
theorem Tf(n:Nat)(h:n<4294967296):-2147483648<=xA n/\xA n<=2147483647:=by unfold xA;split<;>omega
theorem GL(n:Nat)(h:n<65536):-32768<=ep n/\ep n<=32767:=by unfold ep;split<;>omega
theorem xB(l:tLB):-2147483648<=bA l/\bA l<=2147483647:=by have h0:=uL l 0;have h1:=uL l 1;have h2:=uL l 2;have h3:=uL l 3;exact Tf _ (by omega)
