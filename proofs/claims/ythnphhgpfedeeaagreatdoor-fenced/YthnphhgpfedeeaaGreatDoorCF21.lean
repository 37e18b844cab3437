import Derived.Test.YthnphhgpfedeeaaGreatDoorCF20
namespace Go.Proofs.YthnphhgpfedeeaaGreatDoor
open Go.RowKit
set_option linter.all false
theorem LY(s:tBA):(BL s).length=s.size:=rfl
theorem aao(s:tBA)(i:Nat)(h:i<s.size):(BL s)[i]'(by rw[LY];exact h)=s[i]:=rfl
theorem alr(q:PR)(h:q.bad=true):(oneP q).2.bad=true:=by
 unfold oneP;split
 ·rfl
 ·exact h
theorem amc(n:Nat)(q:PR)(h:q.bad=true):(bU n q).2.bad=true:=by
 unfold bU;split
 ·rfl
 ·exact h
theorem aj8(c:Bool)(q:PR)(h:q.bad=true):(aI c q).bad=true:=by simp[aI,h]
theorem amd(q:PR)(h:q.bad=true):(dA q).2.bad=true:=aj8 _ _ (amc _ _ (alr q h))
theorem aj9(m:Nat)(q:PR)(h:q.bad=true):(cu m q).2.bad=true:=aj8 _ _ (alr q h)
theorem amT(q:PR)(h:q.bad=true):(Xj q).2.bad=true:=aj9 _ _ (aj9 _ _ (aj9 _ _ (amd q h)))
theorem akE:∀(k:Nat) (q:PR) (last:tLB) (acc:List az),q.bad=true->(mapsP k q last acc).2.bad=true
 |0,_,_,_,h=>h
 |k+1,q,_,_,h=>akE k _ _ _ (aj8 _ _ (amT q h))
theorem uL(l:tLB)(b:Nat):at' l b<256:=by unfold at';exact UInt8.toNat_lt _
theorem Tf(n:Nat)(h:n<4294967296):-2147483648<=xA n/\xA n<=2147483647:=by unfold xA;split<;>omega
theorem GL(n:Nat)(h:n<65536):-32768<=ep n/\ep n<=32767:=by unfold ep;split<;>omega
theorem xB(l:tLB):-2147483648<=bA l/\bA l<=2147483647:=by have h0:=uL l 0;have h1:=uL l 1;have h2:=uL l 2;have h3:=uL l 3;exact Tf _ (by omega)
