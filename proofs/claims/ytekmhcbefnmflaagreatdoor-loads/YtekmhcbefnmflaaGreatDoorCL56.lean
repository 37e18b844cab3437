import Derived.Test.YtekmhcbefnmflaaGreatDoorCL11
import Derived.Test.YtekmhcbefnmflaaGreatDoorCL51
import Derived.Test.YtekmhcbefnmflaaGreatDoorCL52
import Derived.Test.YtekmhcbefnmflaaGreatDoorCL12
import Derived.Test.YtekmhcbefnmflaaGreatDoorCL53
import Derived.Test.YtekmhcbefnmflaaGreatDoorCL54
namespace Go.Proofs.YtekmhcbefnmflaaGreatDoor
open Go.RowKit
set_option linter.all false
theorem YC(b:Nat)(s:tBA)(r:RS)(w:tW)(hs:s.size<=maxLen)(h:bH w b s r):Calls Tryz.prog 87 #[vP b] w λe w'=>e=.returned (bu s r).val/\bH w' b s (bu s r).r/\aa (Only b) w w':=by
 cases hok:(aB (aI s r).1.op).2 with
 |false=>exact Yy b s r w hs h hok
 |true =>
 cases hb:(aI s r).2.bad with
 |true=>exact Yz b s r w hs h hok hb
 |false =>
 by_cases hd:(aI s r).1.d<=10
 case neg=>exact YA b s r w hs h hok hb (by omega)
 by_cases wj:(aI s r).1.s<=10
 case neg=>exact YB b s r w hs h hok hb hd (by omega)
 have hq:=B6 (aI s r).1.op hok;rcases hq with hk|hk|hk |⟨hs0,hk⟩
 ·by_cases hby:(aB (aI s r).1.op).1.s<0
  ·exact abb b s r w hs h hok hb hd wj hk hby
  ·by_cases hw:(aB (aI s r).1.op).1.word=T [110,101,103]
   ·exact abd b s r w hs h hok hb hd wj hk hby hw
   ·exact abe b s r w hs h hok hb hd wj hk hby hw
 ·by_cases hby:(aB (aI s r).1.op).1.s<0
  ·by_cases hw:(aB (aI s r).1.op).1.word=T [106,97]
   ·exact abg b s r w hs h hok hb hd wj hk hby hw
   ·exact abf b s r w hs h hok hb hd wj hk hby hw
  ·by_cases hw:(aB (aI s r).1.op).1.word=T [106,97]
   ·exact abj b s r w hs h hok hb hd wj hk hby hw
   ·exact abh b s r w hs h hok hb hd wj hk hby hw
 ·by_cases hby:(aB (aI s r).1.op).1.s<0
  ·rcases hk with hk|hk
   ·exact abk b s r w hs h hok hb hd wj hk hby
   ·exact abm b s r w hs h hok hb hd wj hk hby
  ·rcases hk with hk|hk
   ·exact abl b s r w hs h hok hb hd wj hk hby
   ·exact abn b s r w hs h hok hb hd wj hk hby
 ·rcases hk with hk|hk|hk
  ·by_cases h1:(aI s r).1.s=1
   ·exact abo b s r w hs h hok hb hd wj hk hs0 h1
   ·exact abp b s r w hs h hok hb hd wj hk hs0 h1
  ·by_cases hn:(aI s r).1.s=0/\1<=(aI s r).1.n/\(aI s r).1.n<=4/\(aI s r).1.d=0/\(aI s r).1.jump=0
   ·obtain⟨a1,a2,a3,a4,a5⟩:=hn;exact acI b s r w hs h hok hb hd wj hk hs0 ((aI s r).1.n.toNat-1) (by unfold af;omega) ⟨a1,by omega,a4,a5⟩
   ·exact acH b s r w hs h hok hb hd wj hk hs0 hn
  ·exact acG b s r w hs h hok hb hd wj hk hs0
