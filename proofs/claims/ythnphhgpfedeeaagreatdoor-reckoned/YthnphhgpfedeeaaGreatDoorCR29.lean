import Derived.Test.YthnphhgpfedeeaaGreatDoorCR15
namespace Go.Proofs.YthnphhgpfedeeaaGreatDoor
open Go.RowKit
set_option linter.all false
def b8(l:List Int):tLB:=l.map (λx=>UInt8.ofNat x.toNat)
theorem gY(l:List Int):(b8 l).length=l.length:=by simp[b8]
def fC(s:tBA):tLB:=b8 [(s.size:Int)%256]++BL s
theorem gZ(s:tBA):(fC s).length=s.size+1:=by simp[fC,b8,RD]
theorem XF(x:tLB):∀y:tLB,Op.bytesLess x y=decide (x<y):=by
 induction x with
 |nil=>intro y;cases y<;>simp[Op.bytesLess]
 |cons a x ih =>
  intro y;cases y with
  |nil=>simp[Op.bytesLess]
  |cons b y =>
   rw[Op.bytesLess,ih y];by_cases h:a=b
   ·subst h;simp
   ·simp[List.cons_lt_cons_iff,h]
theorem EZ(a b:tBA):ji a b=decide (a.toList<b.toList):=by unfold ji;exact XF _ _
theorem Bn(a:tBA):ji a a=false:=by rw[EZ];simp[List.lt_irrefl]
theorem yP{a b c:tBA}(h1:ji a b=true)(h2:ji b c=true):ji a c=true:=by rw[EZ]at *;simp only[decide_eq_true_eq]at *;exact List.lt_trans h1 h2
theorem Px{a b:tBA}(h1:ji a b=true):ji b a=false:=by
 cases h:ji b a with
 |false=>rfl
 |true=>have:=yP h1 h;rw[Bn]at this;cases this
theorem Dx{a b:tBA}(h1:ji a b=false)(h2:ji b a=false):a=b:=by rw[EZ]at *;simp only[decide_eq_false_iff_not]at *;have h3:a.toList=b.toList:=List.le_antisymm (List.not_lt.1 h2) (List.not_lt.1 h1);apply ByteArray.ext;apply Array.toList_inj.1;rw[<-ByteArray.toList_eq,<-ByteArray.toList_eq];exact h3
theorem Py{a b c:tBA}(h1:ji b a=false)(h2:ji c b=false):ji c a=false:=by
 cases h:ji c a with
 |false=>rfl
 |true =>
  cases h3:ji b c with
  |true=>have:=yP h3 h;rw[h1]at this;cases this
  |false =>have:=Dx h2 h3;subst this;rw[h1]at h;cases h
