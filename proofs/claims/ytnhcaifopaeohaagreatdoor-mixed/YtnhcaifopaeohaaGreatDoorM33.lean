import Derived.Test.YtnhcaifopaeohaaGreatDoorM12
namespace Go.Proofs.YtnhcaifopaeohaaGreatDoor
open Go.RowKit
set_option linter.all false
theorem less_lt (x:List UInt8):∀ y:List UInt8,Op.bytesLess x y=decide (x<y):=by
 induction x with
 | nil=>intro y;cases y<;>simp [Op.bytesLess]
 | cons a x ih =>
  intro y
  cases y with
  | nil=>simp [Op.bytesLess]
  | cons b y =>
   rw [Op.bytesLess,ih y]
   by_cases h:a=b
   ·subst h;simp
   ·simp [List.cons_lt_cons_iff,h]
theorem ltB_eq (a b:ByteArray):ltB a b=decide (a.toList<b.toList):=by
 unfold ltB;exact less_lt _ _
theorem ltB_irrefl (a:ByteArray):ltB a a=false:=by
 rw [ltB_eq];simp [List.lt_irrefl]
theorem ltB_trans {a b c:ByteArray} (h1:ltB a b=true) (h2:ltB b c=true):ltB a c=true:=by
 rw [ltB_eq] at *
 simp only [decide_eq_true_eq] at *
 exact List.lt_trans h1 h2
theorem ltB_asymm {a b:ByteArray} (h1:ltB a b=true):ltB b a=false:=by
 cases h:ltB b a with
 | false=>rfl
 | true=>have:=ltB_trans h1 h;rw [ltB_irrefl] at this;cases this
theorem ltB_total {a b:ByteArray} (h1:ltB a b=false) (h2:ltB b a=false):a=b:=by
 rw [ltB_eq] at *
 simp only [decide_eq_false_iff_not] at *
 have h3:a.toList=b.toList:=List.le_antisymm (List.not_lt.1 h2) (List.not_lt.1 h1)
 apply ByteArray.ext
 apply Array.toList_inj.1
 rw [<- ByteArray.toList_eq,<- ByteArray.toList_eq];exact h3
theorem leB_trans {a b c:ByteArray} (h1:ltB b a=false) (h2:ltB c b=false):ltB c a=false:=by
 cases h:ltB c a with
 | false=>rfl
 | true =>
  cases h3:ltB b c with
  | true=>have:=ltB_trans h3 h;rw [h1] at this;cases this
  | false =>
   have:=ltB_total h2 h3
   subst this
   rw [h1] at h;cases h
end Go.Proofs.YtnhcaifopaeohaaGreatDoor
