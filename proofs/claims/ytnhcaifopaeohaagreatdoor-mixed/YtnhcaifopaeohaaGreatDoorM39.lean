import Derived.Test.YtnhcaifopaeohaaGreatDoorM38
import Derived.Test.YtnhcaifopaeohaaGreatDoorM22
import Derived.Test.YtnhcaifopaeohaaGreatDoorM33
import Derived.Test.YtnhcaifopaeohaaGreatDoorM21
import Derived.Lib.ItoaMem
namespace Go.Proofs.YtnhcaifopaeohaaGreatDoor
open Go.RowKit
set_option linter.all false
theorem dec_chars (u:Nat):∀ c∈Lib.decDigits u,48<=c.toNat/\c.toNat<=57:=by
 induction u using Nat.strongRecOn with
 | ind u ih =>
  intro c hc;rw [Lib.decDigits] at hc
  split at hc
  ·rename_i h
   rw [List.mem_singleton] at hc;subst hc
   have:(UInt8.ofNat (48+u)).toNat=(48+u) % 256:=by simp
   rw [this];omega
  ·rename_i h
   rcases List.mem_append.1 hc with hc | hc
   ·exact ih (u / 10) (by omega) c hc
   ·rw [List.mem_singleton] at hc;subst hc
    have:(UInt8.ofNat (48+u % 10)).toNat=(48+u % 10) % 256:=by simp
    rw [this];omega
theorem digit_wordB {c:UInt8} (h:48<=c.toNat/\c.toNat<=57):wordC c=true:=by
 unfold wordC partB digitB
 simp;left;left;omega
theorem dec_words (u:Nat):∀ c∈Lib.decDigits u,wordC c=true:=fun c hc=>digit_wordB (dec_chars u c hc)
theorem digs_app (b:Nat):∀ (l:List UInt8) (c:UInt8) (v:Nat),digsP b (l++[c]) v=(digsP b l v).bind (fun v'=>if b<=digP c then none else some (v'*b+digP c))
 | [],c,v=>by simp [digsP]
 | d::l,c,v=>by
  rw [List.cons_append,digsP,digsP]
  split
  ·rfl
  ·exact digs_app b l c _
theorem dig_of {n:Nat} (h:n<10):digP (UInt8.ofNat (48+n))=n:=by
 have:(UInt8.ofNat (48+n)).toNat=48+n:=by simp;omega
 unfold digP
 rw [this,if_pos (by omega)];omega
theorem digs_dec (u:Nat):digsP 10 (Lib.decDigits u) 0=some u:=by
 induction u using Nat.strongRecOn with
 | ind u ih =>
  rw [Lib.decDigits]
  split
  ·rename_i h
   rw [digsP,dig_of h,if_neg (by omega),digsP];simp
  ·rename_i h
   rw [digs_app,ih (u / 10) (by omega),dig_of (by omega)]
   show (if 10<=u % 10 then none else some (u / 10*10+u % 10))=some u
   rw [if_neg (by omega)]
   congr 1
   omega
theorem ndig_le:∀ (k u:Nat),u<10 ^ (k+1)->Lib.nDigits u<=k+1
 | 0,u,h=>by rw [Lib.nDigits_small (by simpa using h)];exact Nat.le_refl _
 | k+1,u,h=>by
  by_cases hu:u<10
  ·rw [Lib.nDigits_small hu];omega
  ·rw [Lib.nDigits_big hu]
   have:=ndig_le k (u / 10) (by rw [Nat.div_lt_iff_lt_mul (by omega)];rw [Nat.pow_succ] at h;exact h)
   omega
theorem itoa_inj {a b:Nat} (h:Lib.itoa (a:Int)=Lib.itoa (b:Int)):a=b:=by
 rw [Lib.itoa_nonneg,Lib.itoa_nonneg] at h
 have:=digs_dec a
 rw [h,digs_dec b] at this
 exact (Option.some.inj this).symm

def rowK (k:Nat):OpS:=tableS[k]?.getD noOp
theorem tab_len:tableS.length=88:=by decide +kernel
theorem tab_refers:∀ k:Fin 88,(rowK k).refers=(if (rowK k).call then 1 else if (rowK k).parts=[.result,.comma,.wide] then 2 else 0)/\(rowK k).slots=(if (rowK k).parts=[.result,.comma,.wide] then 2 else 1)/\((rowK k).call=true->(rowK k).parts=[]):=by decide +kernel
theorem PI.o_row (x:PI):x.o=rowK x.k:=rfl
theorem row_get {k:Nat} (h:k<tableS.length):tableS[k]=rowK k:=by
 unfold rowK;rw [List.getElem?_eq_getElem h];rfl
structure PI.Told (x:PI) (lab:List UInt8):Prop where
 k:x.k<88
 j:-32768<=x.jump/\x.jump<=32767
 n:-2147483648<=x.num/\x.num<=2147483647
 h:-2147483648<=x.high/\x.high<=2147483647
 needs:x.o.needs (x.ins [])=true
 one:x.o.slots=1->x.high=0
 nm:x.refers≠0->nameB x.name=true/\x.num=0
 no:x.refers=0->x.name=[]
 lb:x.o.jumps=true->nameB lab=true
 nl:x.o.jumps=false->lab=[]
theorem BL_TB (l:List UInt8):BL (T l)=l:=by simp [BL,T]

end Go.Proofs.YtnhcaifopaeohaaGreatDoor
