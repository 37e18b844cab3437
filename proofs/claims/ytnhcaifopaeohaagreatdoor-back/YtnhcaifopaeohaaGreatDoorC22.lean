import Derived.Test.YtnhcaifopaeohaaGreatDoorC21
import Derived.Test.YtnhcaifopaeohaaGreatDoorC12
import Derived.BigQuiet
import Derived.Deep.LoopGhost
import Derived.Deep.DeepCutAuto
import Derived.Test.YtnhcaifopaeohaaGreatDoorC05
import Derived.Test.YtnhcaifopaeohaaGreatDoorC06
import Derived.Deep.CutBlock
import Derived.BigRegion
import Derived.Deep.RegionLaw
import Derived.Deep.RegionWith
namespace Go.Proofs.YtnhcaifopaeohaaGreatDoor
open Go.RowKit
set_option linter.all false
theorem BL_size (s:ByteArray):(BL s).length=s.size:=rfl
theorem BL_get (s:ByteArray) (i:Nat) (h:i<s.size):(BL s)[i]'(by rw [BL_size];exact h)=s[i]:=rfl
theorem at_lt (l:List UInt8) (b:Nat):at' l b<256:=by
 unfold at';exact UInt8.toNat_lt _
theorem sgn32_bd (n:Nat) (h:n<4294967296):-2147483648<=sgn32 n/\sgn32 n<=2147483647:=by
 unfold sgn32;split<;>omega
theorem sgn16_bd (n:Nat) (h:n<65536):-32768<=sgn16 n/\sgn16 n<=32767:=by
 unfold sgn16;split<;>omega
theorem num32_bd (l:List UInt8):-2147483648<=num32 l/\num32 l<=2147483647:=by
 have h0:=at_lt l 0
 have h1:=at_lt l 1
 have h2:=at_lt l 2
 have h3:=at_lt l 3
 exact sgn32_bd _ (by omega)
section
variable (o : OpS) (x : PIns)
theorem need_regsA (hc:o.call=false) (hp:o.parts=regsA):o.needs x=(decide (x.d<10)&&decide (x.s<=10)&&decide (x.jump=0)&&decide (x.num=0)):=by
 have hf:filledOf regsA=3:=by decide
 unfold OpS.needs;rw [hc,hp,hf]
 simp [regsA,PK.right,othersB,Bool.and_assoc]
theorem need_numsA (hc:o.call=false) (hp:o.parts=numsA):o.needs x=(decide (x.d<10)&&decide (x.s=0)&&decide (x.jump=0)):=by
 have hf:filledOf numsA=9:=by decide
 unfold OpS.needs;rw [hc,hp,hf]
 simp [numsA,PK.right,othersB,Bool.and_assoc]
theorem need_neg (hc:o.call=false) (hp:o.parts=[.result]):o.needs x=(decide (x.d<10)&&decide (x.s=0)&&decide (x.jump=0)&&decide (x.num=0)):=by
 have hf:filledOf [.result]=1:=by decide
 simp only [OpS.needs,hc,hp,hf,Bool.false_eq_true,if_false,List.all,PK.right,othersB]
 simp [Bool.and_assoc]
theorem need_ja (hc:o.call=false) (hp:o.parts=[.label]):o.needs x=(decide (x.d=0)&&decide (x.s=0)&&decide (x.num=0)):=by
 have hf:filledOf [.label]=4:=by decide
 simp only [OpS.needs,hc,hp,hf,Bool.false_eq_true,if_false,List.all,PK.right,othersB]
 simp [Bool.and_assoc]
theorem need_regsJ (hc:o.call=false) (hp:o.parts=regsJ):o.needs x=(decide (x.d<=10)&&decide (x.s<=10)&&decide (x.num=0)):=by
 have hf:filledOf regsJ=7:=by decide
 unfold OpS.needs;rw [hc,hp,hf]
 simp [regsJ,PK.right,othersB,Bool.and_assoc]
theorem need_numsJ (hc:o.call=false) (hp:o.parts=numsJ):o.needs x=(decide (x.d<=10)&&decide (x.s=0)):=by
 have hf:filledOf numsJ=13:=by decide
 unfold OpS.needs;rw [hc,hp,hf]
 simp [numsJ,PK.right,othersB]
theorem need_loads (hc:o.call=false) (hp:o.parts=loadsP):o.needs x=(decide (x.d<10)&&decide (x.s<=10)&&decide (x.num=0)):=by
 have hf:filledOf loadsP=7:=by decide
 unfold OpS.needs;rw [hc,hp,hf]
 simp [loadsP,PK.right,othersB,Bool.and_assoc]
theorem need_stores (hc:o.call=false) (hp:o.parts=storesP):o.needs x=(decide (x.d<=10)&&decide (x.s<=10)&&decide (x.num=0)):=by
 have hf:filledOf storesP=7:=by decide
 unfold OpS.needs;rw [hc,hp,hf]
 simp [storesP,PK.right,othersB,Bool.and_assoc]
theorem need_numbers (hc:o.call=false) (hp:o.parts=numbersP):o.needs x=(decide (x.d<=10)&&decide (x.s=0)):=by
 have hf:filledOf numbersP=13:=by decide
 unfold OpS.needs;rw [hc,hp,hf]
 simp [numbersP,PK.right,othersB]
theorem need_wide (hc:o.call=false) (hp:o.parts=[.result,.comma,.wide]):o.needs x=(decide (x.d<10)&&(decide (x.s=0)||(decide (x.s=1)&&decide (x.high=0)))&&decide (x.jump=0)):=by
 have hf:filledOf [.result,.comma,.wide]=11:=by decide
 simp only [OpS.needs,hc,hp,hf,Bool.false_eq_true,if_false,List.all,PK.right,othersB]
 simp [Bool.and_assoc]
theorem need_exit (hc:o.call=false) (hp:o.parts=[]):o.needs x=(decide (x.d=0)&&decide (x.s=0)&&decide (x.jump=0)&&decide (x.num=0)):=by
 have hf:filledOf []=0:=by decide
 simp only [OpS.needs,hc,hp,hf,Bool.false_eq_true,if_false,List.all,othersB]
 simp [Bool.and_assoc]
end
theorem need_call (o:OpS) (x:PIns) (hc:o.call=true):o.needs x=(decide (x.d=0)&&decide (x.jump=0)&&(decide (x.s=1)||(decide (x.s=0)&&decide (1<=x.num)&&decide (x.num<5)))):=by
 simp only [OpS.needs,hc,if_true,othersB]
 simp [Bool.and_assoc]

end Go.Proofs.YtnhcaifopaeohaaGreatDoor
