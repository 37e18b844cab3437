import Derived.Test.YtnhcaifopaeohaaGreatDoorM06
import Derived.Test.YtnhcaifopaeohaaGreatDoorM03
import Derived.Test.YtnhcaifopaeohaaGreatDoorM08
import Derived.Test.YtnhcaifopaeohaaGreatDoorM05
namespace Go.Proofs.YtnhcaifopaeohaaGreatDoor
open Go.RowKit
set_option linter.all false
theorem T_take (l:List UInt8) (n:Nat):(T l).extract 0 n=T (l.take n):=by
 have:((T l).extract 0 n).data.toList=l.take n:=by
  rw [ByteArray.data_extract,Array.toList_extract,List.extract_eq_take_drop]
  simp [T]
 rw [<- this];rfl
theorem T_drop (l:List UInt8) (n:Nat):(T l).extract n (T l).size=T (l.drop n):=by
 have:((T l).extract n (T l).size).data.toList=l.drop n:=by
  rw [ByteArray.data_extract,Array.toList_extract,List.extract_eq_take_drop];rw [T_size]
  show (l.drop n).take (l.length - n)=l.drop n
  exact List.take_of_length_le (by simp)
 rw [<- this];rfl
theorem T_isEmpty_nil:(T []).toList.isEmpty=true:=isEmpty_of_zero rfl
theorem T_isEmpty_cons (b:UInt8) (l:List UInt8):(T (b::l)).toList.isEmpty=false:=isEmpty_of_pos (by rw [T_size];simp)
set_option maxHeartbeats 400000 in
theorem letter_any (c:Int) (w:World):Calls Tryz.prog 209 #[.int .u8 c] w fun e w'=>e=.returned (.bool (smallB c))/\w'=w:=by
 by_cases h1:97<=c
 ·go_enter Tryz.func209,Tryz.ntmps209
  go_wp2
  go_ret
  exact ⟨by simp [smallB,h1],rfl⟩
 ·go_enter Tryz.func209,Tryz.ntmps209
  go_wp2
  go_ret
  exact ⟨by simp [smallB];omega,rfl⟩
set_option maxHeartbeats 400000 in
theorem pdigit_any (c:Int) (w:World):Calls Tryz.prog 259 #[.int .u8 c] w fun e w'=>e=.returned (.bool (digitB c))/\w'=w:=by
 by_cases h1:48<=c
 ·go_enter Tryz.func259,Tryz.ntmps259
  go_wp2
  go_ret
  exact ⟨by simp [digitB,h1],rfl⟩
 ·go_enter Tryz.func259,Tryz.ntmps259
  go_wp2
  go_ret
  exact ⟨by simp [digitB];omega,rfl⟩
set_option maxHeartbeats 400000 in
theorem wordbyte_any (c:Int) (w:World):Calls Tryz.prog 208 #[.int .u8 c] w fun e w'=>e=.returned (.bool (partB c))/\w'=w:=by
 cases hd:digitB c<;>cases hs:smallB c
 all_goals
  go_enter Tryz.func208,Tryz.ntmps208
  go_wp2_with (first | (go_at_call 259;refine (pdigit_any _ _).mono ?_;rintro e w' ⟨rfl,rfl⟩) | (go_at_call 209;refine (letter_any _ _).mono ?_;rintro e w' ⟨rfl,rfl⟩))
  go_ret
  exact ⟨by simp [partB,hd,hs],rfl⟩
set_option maxHeartbeats 400000 in
theorem pisName_any (s:ByteArray) (w:World) (hs:s.size<=maxLen) :
  Calls Tryz.prog 103 #[.string s] w fun e w'=>e=.returned (.bool (nameB s.data.toList))/\w'=w:=by
 unfold maxLen at hs
 by_cases h0:0<s.size
 ·have he:=isEmpty_of_pos h0
  have HN:Hid (_=_):=nameB_of h0
  by_cases h1:s.size<=16
  ·have hb:((s.size:Int)<=16):=by omega
   cases h2:smallB (s[0].toNat:Int) with
   | false =>
    go_enter Tryz.func103,Tryz.ntmps103
    go_wp2_with (go_at_call 209;refine (letter_any _ _).mono ?_;rintro e w' ⟨rfl,rfl⟩)
    go_ret
    exact ⟨ret_bool (by rw [HN.out,h2];simp),rfl⟩
   | true =>
    go_enter Tryz.func103,Tryz.ntmps103
    go_wp2_with (go_at_call 209;refine (letter_any _ _).mono ?_;rintro e w' ⟨rfl,rfl⟩)
    go_loop [19] (fun i=>∃ k:Nat,k<=s.size/\i=.int .i64 k/\(s.data.toList.take k).all (fun c=>partB (c.toNat:Int))=true) (fun i=>s.size - (intOf i).toNat)
    case atStart=>exact ⟨0,Nat.zero_le _,rfl,rfl⟩
    case round =>
     obtain ⟨k,hk,rfl,hall⟩:=hrel;have HA:=hid hall;clear hall
     by_cases hlt:k<s.size
     ·cases hp:partB (s[k].toNat:Int) with
      | false =>
       go_wp2_with (go_at_call 208;refine (wordbyte_any _ _).mono ?_;rintro e w' ⟨rfl,rfl⟩)
       go_ret
       exact ⟨ret_bool (by rw [HN.out,all_of_not hlt hp];simp),rfl⟩
      | true =>
       go_wp2_with (go_at_call 208;refine (wordbyte_any _ _).mono ?_;rintro e w' ⟨rfl,rfl⟩)
       go_round
       case rel=>exact ⟨k+1,by omega,by go_num,by rw [take_snoc s k hlt];simp [HA.out,hp]⟩
       case measure=>simp [intOf];omega
     ·go_wp2
      go_ret
      have ht:s.data.toList.take k=s.data.toList:=List.take_of_length_le (by simp;omega)
      exact ⟨ret_bool (by rw [HN.out,h2,<- ht,HA.out];simp [h1]),rfl⟩
  ·have hb:¬ ((s.size:Int)<=16):=by omega
   go_enter Tryz.func103,Tryz.ntmps103
   go_wp2_with (go_at_call 209;refine (letter_any _ _).mono ?_;rintro e w' ⟨rfl,rfl⟩)
   go_ret
   exact ⟨ret_bool (by rw [HN.out];simp [h1]),rfl⟩
 ·have he:=isEmpty_of_zero (s:=s) (by omega)
  have hz:Hid (_=_):=nameB_zero (s:=s) (by omega)
  go_enter Tryz.func103,Tryz.ntmps103
  go_wp2
  go_ret
  exact ⟨ret_bool hz.out.symm,rfl⟩
structure LnAt (w:World) (b o:Nat) (cs:Array Value) (t:TypeId) (l:List UInt8):Prop where
 blk:Blk w b cs t
 at':cs[o]?=some (.string (T l))
theorem LnAt.set {w:World} {b o:Nat} {cs:Array Value} {t:TypeId} {l:List UInt8} (h:LnAt w b o cs t l) (l':List UInt8):LnAt (w.setCell ⟨b,o,none⟩ (.string (T l'))) b o (cs.setIfInBounds o (.string (T l'))) t l' :=
 ⟨h.blk.set o _,by
  have:o<cs.size:=(Array.getElem?_eq_some_iff.1 h.at').1
  simp [Array.getElem?_setIfInBounds,this]⟩
theorem LnAt.cell {w:World} {b o:Nat} {cs:Array Value} {t:TypeId} {l:List UInt8} (h:LnAt w b o cs t l):w.cell? ⟨b,o,none⟩=some (.string (T l)):=(h.blk.cell o).trans h.at'
theorem LnAt.frozen {w:World} {b o:Nat} {cs:Array Value} {t:TypeId} {l:List UInt8} (h:LnAt w b o cs t l):w.frozen? ⟨b,o,none⟩=false:=h.blk.frozen o
theorem LnAt.mods {w w':World} {b o:Nat} {cs:Array Value} {t:TypeId} {l:List UInt8} (h:LnAt w b o cs t l) (m:Mods Nil' w w'):LnAt w' b o cs t l:=⟨h.blk.mods m id,h.at'⟩
theorem set_set (cs:Array Value) (o:Nat) (v v':Value):(cs.setIfInBounds o v).setIfInBounds o v'=cs.setIfInBounds o v':=by
 apply Array.ext
 ·simp
 ·intro i h1 h2
  simp only [Array.size_setIfInBounds] at h1 h2
  by_cases e:o=i<;>simp [Array.getElem_setIfInBounds,e]
theorem trimL_any (l:List UInt8) (w:World):Calls Tryz.prog 258 #[.string (T l),.string ⟨#[32]⟩] w fun e w'=>e=.returned (.string (T (skipL l)))/\w'=w:=by
 have h:=Any.strings_TrimLeft_one Tryz.lt (T l) 32 (by decide) w
 have e:(T l).data.toList=l:=by simp [T]
 rw [e] at h;exact h
theorem hasP_any (l p:List UInt8) (w:World):Calls Tryz.prog 226 #[.string (T l),.string (T p)] w fun e w'=>e=.returned (.bool (p.isPrefixOf l))/\w'=w:=by
 have h:=Any.strings_HasPrefix Tryz.lp (T l) (T p) w
 have e:∀ l,(T l).data.toList=l:=fun l=>by simp [T]
 rw [e,e] at h;exact h
set_option maxHeartbeats 400000 in
theorem skip_any (b o:Nat) (cs:Array Value) (t:TypeId) (l:List UInt8) (w:World) (h:LnAt w b o cs t l) :
  Calls Tryz.prog 207 #[.pointer (some ⟨b,o,none⟩)] w fun e w'=>e=.returned (.tuple #[])/\w'=w.setCell ⟨b,o,none⟩ (.string (T (skipL l))):=by
 have c0:=h.cell
 have f0:=h.frozen
 go_enter Tryz.func207,Tryz.ntmps207
 go_wp2_with fail
 refine (trimL_any l _).mono ?_
 rintro e w1 ⟨rfl,rfl⟩;go_wp2_with fail
 go_end0
 exact ⟨rfl,rfl⟩
def LnPost (w:World) (b o:Nat) (cs:Array Value) (t:TypeId) (l':List UInt8) (w':World):Prop:=LnAt w' b o (cs.setIfInBounds o (.string (T l'))) t l'/\Mods (Only b) w w'
set_option maxHeartbeats 400000 in
theorem done_any (b o:Nat) (cs:Array Value) (t:TypeId) (l:List UInt8) (w:World) (h:LnAt w b o cs t l) :
  Calls Tryz.prog 100 #[.pointer (some ⟨b,o,none⟩)] w fun e w'=>e=.returned (.bool (decide (skipL l=[])))/\LnPost w b o cs t (skipL l) w':=by
 have HP:Hid (LnPost w b o cs t (skipL l) (w.setCell ⟨b,o,none⟩ (.string (T (skipL l))))):=⟨h.set _,(Mods.refl _ _).setb o _⟩
 have c1:=(h.set (skipL l)).cell
 have HK:Hid (Calls Tryz.prog 207 #[.pointer (some ⟨b,o,none⟩)] w fun e w'=>e=.returned (.tuple #[])/\w'=w.setCell ⟨b,o,none⟩ (.string (T (skipL l)))):=skip_any b o cs t l w h
 generalize skipL l=m at *
 cases m with
 | nil =>
  have he:=T_isEmpty_nil
  go_enter Tryz.func100,Tryz.ntmps100
  go_wp2_with fail;refine HK.out.mono ?_;rintro e w1 ⟨rfl,rfl⟩;go_wp2_with fail;go_ret
  exact ⟨by simp,HP.out⟩
 | cons c m =>
  have he:=T_isEmpty_cons c m
  go_enter Tryz.func100,Tryz.ntmps100
  go_wp2_with fail;refine HK.out.mono ?_;rintro e w1 ⟨rfl,rfl⟩;go_wp2_with fail;go_ret
  exact ⟨by simp,HP.out⟩
theorem skip_le (l:List UInt8):(skipL l).length<=l.length:=(List.dropWhile_sublist _).length_le
set_option maxHeartbeats 400000 in
theorem mark_any (b o:Nat) (cs:Array Value) (t:TypeId) (l:List UInt8) (c:UInt8) (w:World) (h:LnAt w b o cs t l) (hl:l.length<=1000000) :
  Calls Tryz.prog 102 #[.pointer (some ⟨b,o,none⟩),.int .u8 (c.toNat:Int)] w fun e w'=>e=.returned (.bool (hasMark c l))/\LnPost w b o cs t (markL c l) w':=by
 have h1:=h.set (skipL l)
 have HP:Hid (LnPost w b o cs t (skipL l) (w.setCell ⟨b,o,none⟩ (.string (T (skipL l))))):=⟨h1,(Mods.refl _ _).setb o _⟩
 have c1:=h1.cell
 have f1:=h1.frozen
 have hsl:=skip_le l
 have HM:Hid (hasMark c l=((skipL l).head?==some c)):=rfl
 have HL:Hid (markL c l=if hasMark c l then (skipL l).tail else skipL l):=rfl
 have HK:Hid (Calls Tryz.prog 207 #[.pointer (some ⟨b,o,none⟩)] w fun e w'=>e=.returned (.tuple #[])/\w'=w.setCell ⟨b,o,none⟩ (.string (T (skipL l)))):=skip_any b o cs t l w h
 generalize hasMark c l=hm at *;generalize markL c l=ml at *;generalize skipL l=m at *
 cases m with
 | nil =>
  have he:=T_isEmpty_nil
  have hm':hm=false:=HM.out
  subst hm';have HL2:=hid HL.out
  go_enter Tryz.func102,Tryz.ntmps102
  go_wp2_with fail;refine HK.out.mono ?_;rintro e w1 ⟨rfl,rfl⟩;go_wp2_with fail;go_ret;rw [HL2.out]
  exact ⟨rfl,HP.out⟩
 | cons d m =>
  have he:=T_isEmpty_cons d m
  have hd:=d.toNat_lt
  have hc:=c.toNat_lt
  have hs:(T (d::m)).size=m.length+1:=T_size _
  have hg:(T (d::m))[0]'(by rw [hs];omega)=d:=rfl
  simp only [List.length_cons] at hsl
  by_cases e:d=c
  ·subst e
   have hm':hm=true:=by rw [HM.out];simp
   subst hm';have HL2:=hid HL.out
   have e2:(T (d::m)).extract 1 (m.length+1)=T m:=by
    have:=T_drop (d::m) 1
    rw [hs] at this;exact this
   have hq:((d.toNat:Int) != (d.toNat:Int))=false:=by simp
   have HP2:Hid (LnPost w b o cs t m ((w.setCell ⟨b,o,none⟩ (.string (T (d::m)))).setCell ⟨b,o,none⟩ (.string (T m)))):=by
    have:=h1.set m
    rw [set_set] at this
    exact ⟨this,HP.out.2.setb o _⟩
   go_enter Tryz.func102,Tryz.ntmps102
   go_wp2_with fail;refine HK.out.mono ?_;rintro e w1 ⟨rfl,rfl⟩;go_wp2_with fail;go_ret;rw [HL2.out]
   exact ⟨rfl,HP2.out⟩
  ·have hm':hm=false:=by rw [HM.out];simpa using e
   subst hm';have HL2:=hid HL.out
   have hq:((d.toNat:Int) != (c.toNat:Int))=true:=by
    rw [bne_iff_ne];exact fun h=>e (UInt8.toNat_inj.1 (by omega))
   go_enter Tryz.func102,Tryz.ntmps102
   go_wp2_with fail;refine HK.out.mono ?_;rintro e w1 ⟨rfl,rfl⟩;go_wp2_with fail;go_ret;rw [HL2.out]
   exact ⟨rfl,HP.out⟩
theorem takeWhile_split (p:UInt8->Bool):∀ (l:List UInt8) (k:Nat),(∀ (h:k<l.length),p l[k]=false)->k<=l.length->(∀ j (hj:j<k) (h:j<l.length),p l[j]=true)->l.takeWhile p=l.take k/\l.dropWhile p=l.drop k
 | [],k,_,hk,_=>by
  have:k=0:=by simpa using hk
  subst this;simp
 | c::l,0,h0,_,_=>by
  have:=h0 (by simp)
  simp only [List.getElem_cons_zero] at this
  simp [List.takeWhile_cons,List.dropWhile_cons,this]
 | c::l,k+1,h0,hk,hj=>by
  have hc:p c=true:=hj 0 (by omega) (by simp)
  have ih:=takeWhile_split p l k (fun h=>by have:=h0 (by simp;omega);simpa using this) (by simpa using hk) (fun j hjk h=>by have:=hj (j+1) (by omega) (by simp;omega);simpa using this)
  simp [List.takeWhile_cons,List.dropWhile_cons,hc,ih.1,ih.2]
set_option maxHeartbeats 800000 in
theorem word_any' (b o:Nat) (cs:Array Value) (t:TypeId) (l:List UInt8) (w:World) (h:LnAt w b o cs t l) (hl:l.length<=1000000) :
  Calls Tryz.prog 101 #[.pointer (some ⟨b,o,none⟩)] w fun e w'=>e=.returned (.string (T (wdL l).1))/\LnPost w b o cs t (wdL l).2 w':=by
 have h1:=h.set (skipL l)
 have HP:Hid (LnPost w b o cs t (skipL l) (w.setCell ⟨b,o,none⟩ (.string (T (skipL l))))):=⟨h1,(Mods.refl _ _).setb o _⟩
 have hsl:=skip_le l
 have HW:Hid (wdL l=((skipL l).takeWhile wordC,(skipL l).dropWhile wordC)):=rfl
 have HK:Hid (Calls Tryz.prog 207 #[.pointer (some ⟨b,o,none⟩)] w fun e w'=>e=.returned (.tuple #[])/\w'=w.setCell ⟨b,o,none⟩ (.string (T (skipL l)))):=skip_any b o cs t l w h
 generalize wdL l=wl at *;generalize skipL l=m at *
 generalize hw1:w.setCell ⟨b,o,none⟩ (.string (T m))=wk at *
 have hs:(T m).size=m.length:=T_size _
 clear h hw1
 go_enter Tryz.func101,Tryz.ntmps101
 go_wp2_with fail;refine HK.out.mono ?_;rintro e w1 ⟨rfl,rfl⟩;go_wp2_with fail
 go_loopw [3] (fun v wx=>∃ k:Nat,k<=m.length/\v=.int .i64 k/\LnPost w b o cs t m wx/\∀ j (hj:j<k) (h:j<m.length),wordC m[j]=true) (fun v _=>m.length - (intOf v).toNat)
 case atStart=>exact ⟨0,Nat.zero_le _,rfl,HP.out,fun j hj=>absurd hj (Nat.not_lt_zero _)⟩
 case round =>
  obtain ⟨k,hk,rfl,hP,hA⟩:=hrel;have HPk:=hid hP;have HA:=hid hA
  have c1:=HPk.out.1.cell
  have f1:=HPk.out.1.frozen
  clear hP hA HK
  by_cases hlt:k<m.length
  ·have hg:(T m)[k]'(by rw [hs];exact hlt)=m[k]:=rfl
   have hb:=(m[k]).toNat_lt
   cases hc:wordC m[k] with
   | true =>
    have hc':partB ((m[k]).toNat:Int)=true:=hc
    go_wp2_with (go_at_call 208;refine (wordbyte_any _ _).mono ?_;rintro e w' ⟨rfl,rfl⟩)
    go_roundw
    case rel=>exact ⟨k+1,by omega,by go_num,HPk.out,fun j hj h=>by
     rcases Nat.lt_or_ge j k with e | e
     ·exact HA.out j e h
     ·have:j=k:=by omega
      subst this;exact hc⟩
    case measure=>simp [intOf];omega
   | false =>
    have hc':partB ((m[k]).toNat:Int)=false:=hc
    obtain ⟨e1,e2⟩:=takeWhile_split wordC m k (fun _=>hc) hk HA.out
    have HW2:Hid (wl=(m.take k,m.drop k)):=by rw [Hid,HW.out,e1,e2]
    have x1:(T m).extract 0 k=T (m.take k):=T_take m k
    have x2:(T m).extract k m.length=T (m.drop k):=by
     have:=T_drop m k
     rw [hs] at this;exact this
    have HP2:Hid (LnPost w b o cs t (m.drop k) (wr.setCell ⟨b,o,none⟩ (.string (T (m.drop k))))):=by
     have:=HPk.out.1.set (m.drop k)
     rw [set_set] at this
     exact ⟨this,HPk.out.2.setb o _⟩
    clear e1 e2 HW
    go_wp2_with (go_at_call 208;refine (wordbyte_any _ _).mono ?_;rintro e w' ⟨rfl,rfl⟩)
    go_ret;rw [HW2.out]
    exact ⟨rfl,HP2.out⟩
  ·have hke:k=m.length:=by omega
   subst hke
   obtain ⟨e1,e2⟩:=takeWhile_split wordC m m.length (fun h=>absurd h (Nat.lt_irrefl _)) hk HA.out
   have HW2:Hid (wl=(m,[])):=by rw [Hid,HW.out,e1,e2,List.take_length,List.drop_length]
   have x1:(T m).extract 0 m.length=T m:=by rw [T_take,List.take_length]
   have x2:(T m).extract m.length m.length=T []:=by
    have:=T_drop m m.length
    rw [hs,List.drop_length] at this;exact this
   have HP2:Hid (LnPost w b o cs t [] (wr.setCell ⟨b,o,none⟩ (.string (T [])))):=by
    have:=HPk.out.1.set []
    rw [set_set] at this
    exact ⟨this,HPk.out.2.setb o _⟩
   clear e1 e2 HW;go_wp2_with fail;go_ret;rw [HW2.out]
   exact ⟨rfl,HP2.out⟩
theorem LnPost.quiet {w w1 w2:World} {b o:Nat} {cs:Array Value} {t:TypeId} {l:List UInt8} (h:LnPost w b o cs t l w1) (m:Mods Nil' w1 w2):LnPost w b o cs t l w2:=⟨h.1.mods m,h.2.trans m.of_nil⟩
theorem LnPost.after {w w1 w2:World} {b o:Nat} {cs:Array Value} {t:TypeId} {l l':List UInt8} (h:LnPost w b o cs t l w1) (k:LnPost w1 b o (cs.setIfInBounds o (.string (T l))) t l' w2):LnPost w b o cs t l' w2:=by
 have h1:=k.1
 rw [set_set] at h1
 exact ⟨h1,h.2.trans k.2⟩
theorem wd_le (l:List UInt8):(wdL l).1.length<=l.length/\(wdL l).2.length<=l.length:=by
 have h:=skip_le l
 have h1:((skipL l).takeWhile wordC).length<=(skipL l).length:=(List.takeWhile_sublist _).length_le
 have h2:((skipL l).dropWhile wordC).length<=(skipL l).length:=(List.dropWhile_sublist _).length_le
 exact ⟨Nat.le_trans h1 h,Nat.le_trans h2 h⟩
theorem mark_le (c:UInt8) (l:List UInt8):(markL c l).length<=l.length:=by
 have h:=skip_le l
 unfold markL
 split
 ·have:(skipL l).tail.length<=(skipL l).length:=by simp
  omega
 ·exact h
theorem T_injL {a b:List UInt8} (h:T a=T b):a=b:=by
 have:=congrArg (fun x:ByteArray=>x.data.toList) h
 simpa [T] using this
theorem reg_hit {w:List UInt8} {k:Nat} (hk:k<11) (h:w=regW k) (hj:∀ j,j<k->w≠regW j):regOfP w=some k:=by
 unfold regOfP;rw [List.find?_range_eq_some]
 refine ⟨by simp [h],by simpa using hk,fun j hjk=>?_⟩
 have:=hj j hjk
 simpa using this
theorem reg_miss {w:List UInt8} (hj:∀ j,j<11->w≠regW j):regOfP w=none:=by
 unfold regOfP;rw [List.find?_range_eq_none];intro j h
 have:=hj j h
 simpa using this
set_option maxHeartbeats 800000 in
theorem regOf_any (x:List UInt8) (w:World) (hE:Env w) (hx:x.length<=1000000) :
  Calls Tryz.prog 225 #[.string (T x)] w fun e w'=>e=.returned (.tuple #[.int .u8 (((regOfP x).getD 0:Nat):Int),.bool (regOfP x).isSome])/\Mods Nil' w w':=by
 have HH:Hid (∀ k,k<11->x=regW k->(∀ j,j<k->x≠regW j)->regOfP x=some k):=fun k=>reg_hit
 have HZ:Hid ((∀ j,j<11->x≠regW j)->regOfP x=none):=reg_miss
 generalize regOfP x=rx at *
 go_enter Tryz.func225,Tryz.ntmps225
 go_wp2_with fail
 go_loopw [5] (fun v wx=>∃ k:Nat,k<=11/\v=.int .i64 k/\Mods Nil' w wx/\∀ j,j<k->x≠regW j) (fun v _=>11 - (intOf v).toNat)
 case atStart=>exact ⟨0,Nat.zero_le _,rfl,Mods.refl _ _,fun j hj=>absurd hj (Nat.not_lt_zero _)⟩
 case round =>
  obtain ⟨k,hk,rfl,hm,hj⟩:=hrel;have HM:=hid hm;have HJ:=hid hj;clear hm hj
  by_cases hlt:k<11
  ·have hil:=itoa_len (k:Int) (by omega) (by omega)
   rw [<- T_size] at hil
   have HE:Hid (T (regW k)=(⟨#[114]⟩:ByteArray)++T (Lib.itoa (k:Int))):=by rw [Hid,regW];exact T_app [114] _
   go_wp2_with fail
   refine (itoa_any (k:Int) (by omega) (by omega) _ (hE.mods HM.out)).mono ?_
   rintro e w1 ⟨rfl,m1⟩
   have HM1:Hid (Mods Nil' w w1):=HM.out.trans m1
   clear m1
   by_cases hxk:x=regW k
   ·have HR:Hid (rx=some k):=HH.out k hlt hxk HJ.out
    have hq:((T x).toList==((⟨#[114]⟩:ByteArray)++T (Lib.itoa (k:Int))).toList)=true:=str_eq (by rw [hxk,HE.out])
    generalize T (Lib.itoa (k:Int))=sd at *
    clear HE hxk;go_wp2_with fail;go_ret2;rw [HR.out]
    exact ⟨rfl,HM1.out⟩
   ·have hq:((T x).toList==((⟨#[114]⟩:ByteArray)++T (Lib.itoa (k:Int))).toList)=false:=str_ne (fun e=>hxk (by rw [<- HE.out] at e;exact T_injL e))
    generalize T (Lib.itoa (k:Int))=sd at *
    have HX:=hid hxk;clear HE hxk;go_wp2_with fail
    go_roundw
    case rel=>exact ⟨k+1,by omega,by go_num,HM1.out,fun j h=>by
     rcases Nat.lt_or_ge j k with e | e
     ·exact HJ.out j e
     ·have:j=k:=by omega
      subst this;exact HX.out⟩
    case measure=>simp [intOf];omega
  ·have HR:Hid (rx=none):=HZ.out (fun j h=>HJ.out j (by omega))
   go_wp2_with fail;go_ret2;rw [HR.out]
   exact ⟨rfl,HM.out⟩
set_option maxHeartbeats 400000 in
theorem isReg_any (x:List UInt8) (w:World) (hE:Env w) (hx:x.length<=1000000) :
  Calls Tryz.prog 210 #[.string (T x)] w fun e w'=>e=.returned (.bool (regOfP x).isSome)/\Mods Nil' w w':=by
 have HR:=regOf_any x w hE hx
 generalize regOfP x=rx at *
 go_enter Tryz.func210,Tryz.ntmps210
 go_wp2_with fail;refine HR.mono ?_;rintro e w1 ⟨rfl,m1⟩;go_wp2_with fail;go_ret
 exact ⟨rfl,m1⟩
set_option maxHeartbeats 400000 in
theorem sreg_any (b o:Nat) (cs:Array Value) (t:TypeId) (l:List UInt8) (w:World) (h:LnAt w b o cs t l) (hl:l.length<=1000000) (hE:∀ w',Mods (Only b) w w'->Env w') :
  Calls Tryz.prog 130 #[.pointer (some ⟨b,o,none⟩)] w fun e w'=>e=.returned (.tuple #[.int .u8 (((regOfP (wdL l).1).getD 0:Nat):Int),.bool (regOfP (wdL l).1).isSome])/\LnPost w b o cs t (wdL l).2 w':=by
 have HW:=word_any' b o cs t l w h hl
 have hle:=wd_le l
 have HR:Hid (∀ w',Env w'->Calls Tryz.prog 225 #[.string (T (wdL l).1)] w' fun e w''=>e=.returned (.tuple #[.int .u8 (((regOfP (wdL l).1).getD 0:Nat):Int),.bool (regOfP (wdL l).1).isSome])/\Mods Nil' w' w''):=fun w' hE'=>regOf_any _ w' hE' (by omega)
 generalize regOfP (wdL l).1=rx at *;generalize wdL l=wl at *;obtain ⟨w1,w2⟩:=wl;simp only at *
 go_enter Tryz.func130,Tryz.ntmps130
 go_wp2_with fail;refine HW.mono ?_;rintro e wa ⟨rfl,hp⟩;go_wp2_with fail
 refine (HR.out _ (hE _ hp.2)).mono ?_
 rintro e wb ⟨rfl,m1⟩;go_wp2_with fail;go_ret2
 exact ⟨rfl,hp.quiet m1⟩
set_option maxHeartbeats 400000 in
theorem sname_any (b o:Nat) (cs:Array Value) (t:TypeId) (l:List UInt8) (w:World) (h:LnAt w b o cs t l) (hl:l.length<=1000000) :
  Calls Tryz.prog 106 #[.pointer (some ⟨b,o,none⟩)] w fun e w'=>e=.returned (.tuple #[.string (T (wdL l).1),.bool (nameB (wdL l).1)])/\LnPost w b o cs t (wdL l).2 w':=by
 have HW:=word_any' b o cs t l w h hl
 have hle:=wd_le l
 have HR:Hid (∀ w',Calls Tryz.prog 103 #[.string (T (wdL l).1)] w' fun e w''=>e=.returned (.bool (nameB (wdL l).1))/\w''=w'):=fun w'=>by
  have:=pisName_any (T (wdL l).1) w' (by rw [T_size];unfold maxLen;omega)
  rw [show (T (wdL l).1).data.toList=(wdL l).1 by simp [T]] at this
  exact this
 generalize nameB (wdL l).1=rx at *;generalize wdL l=wl at *;obtain ⟨w1,w2⟩:=wl;simp only at *
 go_enter Tryz.func106,Tryz.ntmps106
 go_wp2_with fail;refine HW.mono ?_;rintro e wa ⟨rfl,hp⟩;go_wp2_with fail
 refine (HR.out _).mono ?_
 rintro e wb ⟨rfl,rfl⟩;go_wp2_with fail;go_ret2
 exact ⟨rfl,hp⟩
set_option maxHeartbeats 400000 in
theorem digOf_any (c:UInt8) (w:World):Calls Tryz.prog 314 #[.int .u8 (c.toNat:Int)] w fun e w'=>e=.returned (.int .u64 (digP c:Nat))/\w'=w:=by
 have hc:=c.toNat_lt
 have HD:Hid (digP c=if 48<=c.toNat/\c.toNat<=57 then c.toNat - 48 else if 97<=c.toNat/\c.toNat<=102 then c.toNat - 87 else 255):=rfl
 generalize digP c=dc at *;generalize c.toNat=n at *
 by_cases h1:48<=n/\n<=57
 ·obtain ⟨ha,hb⟩:=h1
  have HV:Hid ((dc:Int)=(n:Int) - 48):=by rw [Hid,HD.out,if_pos ⟨ha,hb⟩];omega
  have hq:digitB (n:Int)=true:=by unfold digitB;simp;omega
  have ha':(48:Int)<=n:=by omega
  have hb':(n:Int)<=57:=by omega
  go_enter Tryz.func314,Tryz.ntmps314
  go_wp2_with (go_at_call 259;refine (pdigit_any _ _).mono ?_;rintro e w' ⟨rfl,rfl⟩)
  go_ret
  exact ⟨by rw [HV.out];rfl,rfl⟩
 ·have hq:digitB (n:Int)=false:=by unfold digitB;rw [Bool.and_eq_false_iff];simp;omega
  by_cases h2:97<=n
  ·have h2':(97:Int)<=n:=by omega
   by_cases h3:n<=102
   ·have h3':(n:Int)<=102:=by omega
    have HV:Hid ((dc:Int)=(n:Int) - 97+10):=by rw [Hid,HD.out,if_neg h1,if_pos ⟨h2,h3⟩];omega
    go_enter Tryz.func314,Tryz.ntmps314
    go_wp2_with (go_at_call 259;refine (pdigit_any _ _).mono ?_;rintro e w' ⟨rfl,rfl⟩)
    go_ret
    exact ⟨by rw [HV.out];rfl,rfl⟩
   ·have h3':decide ((n:Int)<=102)=false:=by simp;omega
    have HV:Hid (dc=255):=by rw [Hid,HD.out,if_neg h1,if_neg (by omega)]
    go_enter Tryz.func314,Tryz.ntmps314
    go_wp2_with (go_at_call 259;refine (pdigit_any _ _).mono ?_;rintro e w' ⟨rfl,rfl⟩)
    go_ret
    exact ⟨by rw [HV.out];rfl,rfl⟩
  ·have h2':decide ((97:Int)<=n)=false:=by simp;omega
   have HV:Hid (dc=255):=by rw [Hid,HD.out,if_neg h1,if_neg (by omega)]
   go_enter Tryz.func314,Tryz.ntmps314
   go_wp2_with (go_at_call 259;refine (pdigit_any _ _).mono ?_;rintro e w' ⟨rfl,rfl⟩)
   go_ret
   exact ⟨by rw [HV.out];rfl,rfl⟩
def RNum.aggP (n:RNum):Value:=.agg #[.bool n.minus,.int .u64 ((n.v % 18446744073709551616:Nat):Int),.bool (decide (18446744073709551616<=n.v))]
set_option maxRecDepth 100000 in
set_option maxHeartbeats 800000 in
theorem signed16_any (n:RNum) (w:World) :
  Calls Tryz.prog 216 #[n.aggP,.int .i64 16] w fun e w'=>e=.returned (.tuple #[.int .i64 ((n.sgnP 32768).getD 0),.bool (n.sgnP 32768).isSome])/\Mods Nil' w w':=by
 obtain ⟨v,mi⟩:=n
 have HS:Hid ((RNum.mk v mi).sgnP 32768=if 18446744073709551616<=v then none else if mi then (if v<=32768 then some (-(v:Int)) else none) else (if v<32768 then some (v:Int) else none)):=rfl
 generalize (RNum.mk v mi).sgnP 32768=sg at *;unfold RNum.aggP
 dsimp only
 by_cases hb:18446744073709551616<=v
 ·have HS2:Hid (sg=none):=by rw [Hid,HS.out,if_pos hb]
  have hq:decide (18446744073709551616<=v)=true:=by simpa using hb
  rw [hq]
  generalize ((v % 18446744073709551616:Nat):Int)=u
  go_enter Tryz.func216,Tryz.ntmps216
  go_wp2_with fail;go_ret2;rw [HS2.out]
  exact ⟨rfl,(Mods.refl _ _).alloc _⟩
 ·have hq:decide (18446744073709551616<=v)=false:=by simpa using hb
  have hm:v % 18446744073709551616=v:=Nat.mod_eq_of_lt (by omega)
  rw [hq,hm]
  have HS1:Hid (sg=if mi then (if v<=32768 then some (-(v:Int)) else none) else (if v<32768 then some (v:Int) else none)):=by rw [Hid,HS.out,if_neg hb]
  clear HS hq hm
  cases mi with
  | true =>
   by_cases h1:v<=32768
   ·have HS2:Hid (sg=some (-(v:Int))):=by rw [Hid,HS1.out,if_pos rfl,if_pos h1]
    have h1':(v:Int)<=32768:=by omega
    go_enter Tryz.func216,Tryz.ntmps216
    go_wp2_with fail;go_ret2;rw [HS2.out]
    exact ⟨rfl,(Mods.refl _ _).alloc _⟩
   ·have HS2:Hid (sg=none):=by rw [Hid,HS1.out,if_pos rfl,if_neg h1]
    have h1':decide ((v:Int)<=32768)=false:=by simp;omega
    go_enter Tryz.func216,Tryz.ntmps216
    go_wp2_with fail;go_ret2;rw [HS2.out]
    exact ⟨rfl,(Mods.refl _ _).alloc _⟩
  | false =>
   by_cases h1:v<32768
   ·have HS2:Hid (sg=some (v:Int)):=by rw [Hid,HS1.out,if_neg (by decide),if_pos h1]
    have h1':(v:Int)<32768:=by omega
    go_enter Tryz.func216,Tryz.ntmps216
    go_wp2_with fail;go_ret2;rw [HS2.out]
    exact ⟨rfl,(Mods.refl _ _).alloc _⟩
   ·have HS2:Hid (sg=none):=by rw [Hid,HS1.out,if_neg (by decide),if_neg h1]
    have h1':decide ((v:Int)<32768)=false:=by simp;omega
    go_enter Tryz.func216,Tryz.ntmps216
    go_wp2_with fail;go_ret2;rw [HS2.out]
    exact ⟨rfl,(Mods.refl _ _).alloc _⟩
set_option maxRecDepth 100000 in
set_option maxHeartbeats 800000 in
theorem signed32_any (n:RNum) (w:World) :
  Calls Tryz.prog 216 #[n.aggP,.int .i64 32] w fun e w'=>e=.returned (.tuple #[.int .i64 ((n.sgnP 2147483648).getD 0),.bool (n.sgnP 2147483648).isSome])/\Mods Nil' w w':=by
 obtain ⟨v,mi⟩:=n
 have HS:Hid ((RNum.mk v mi).sgnP 2147483648=if 18446744073709551616<=v then none else if mi then (if v<=2147483648 then some (-(v:Int)) else none) else (if v<2147483648 then some (v:Int) else none)):=rfl
 generalize (RNum.mk v mi).sgnP 2147483648=sg at *;unfold RNum.aggP
 dsimp only
 by_cases hb:18446744073709551616<=v
 ·have HS2:Hid (sg=none):=by rw [Hid,HS.out,if_pos hb]
  have hq:decide (18446744073709551616<=v)=true:=by simpa using hb
  rw [hq]
  generalize ((v % 18446744073709551616:Nat):Int)=u
  go_enter Tryz.func216,Tryz.ntmps216
  go_wp2_with fail;go_ret2;rw [HS2.out]
  exact ⟨rfl,(Mods.refl _ _).alloc _⟩
 ·have hq:decide (18446744073709551616<=v)=false:=by simpa using hb
  have hm:v % 18446744073709551616=v:=Nat.mod_eq_of_lt (by omega)
  rw [hq,hm]
  have HS1:Hid (sg=if mi then (if v<=2147483648 then some (-(v:Int)) else none) else (if v<2147483648 then some (v:Int) else none)):=by rw [Hid,HS.out,if_neg hb]
  clear HS hq hm
  cases mi with
  | true =>
   by_cases h1:v<=2147483648
   ·have HS2:Hid (sg=some (-(v:Int))):=by rw [Hid,HS1.out,if_pos rfl,if_pos h1]
    have h1':(v:Int)<=2147483648:=by omega
    go_enter Tryz.func216,Tryz.ntmps216
    go_wp2_with fail;go_ret2;rw [HS2.out]
    exact ⟨rfl,(Mods.refl _ _).alloc _⟩
   ·have HS2:Hid (sg=none):=by rw [Hid,HS1.out,if_pos rfl,if_neg h1]
    have h1':decide ((v:Int)<=2147483648)=false:=by simp;omega
    go_enter Tryz.func216,Tryz.ntmps216
    go_wp2_with fail;go_ret2;rw [HS2.out]
    exact ⟨rfl,(Mods.refl _ _).alloc _⟩
  | false =>
   by_cases h1:v<2147483648
   ·have HS2:Hid (sg=some (v:Int)):=by rw [Hid,HS1.out,if_neg (by decide),if_pos h1]
    have h1':(v:Int)<2147483648:=by omega
    go_enter Tryz.func216,Tryz.ntmps216
    go_wp2_with fail;go_ret2;rw [HS2.out]
    exact ⟨rfl,(Mods.refl _ _).alloc _⟩
   ·have HS2:Hid (sg=none):=by rw [Hid,HS1.out,if_neg (by decide),if_neg h1]
    have h1':decide ((v:Int)<2147483648)=false:=by simp;omega
    go_enter Tryz.func216,Tryz.ntmps216
    go_wp2_with fail;go_ret2;rw [HS2.out]
    exact ⟨rfl,(Mods.refl _ _).alloc _⟩
set_option maxRecDepth 100000 in
set_option maxHeartbeats 800000 in
theorem signed64_any (n:RNum) (w:World) :
  Calls Tryz.prog 216 #[n.aggP,.int .i64 64] w fun e w'=>e=.returned (.tuple #[.int .i64 ((n.sgnP 9223372036854775808).getD 0),.bool (n.sgnP 9223372036854775808).isSome])/\Mods Nil' w w':=by
 obtain ⟨v,mi⟩:=n
 have HS:Hid ((RNum.mk v mi).sgnP 9223372036854775808=if 18446744073709551616<=v then none else if mi then (if v<=9223372036854775808 then some (-(v:Int)) else none) else (if v<9223372036854775808 then some (v:Int) else none)):=rfl
 generalize (RNum.mk v mi).sgnP 9223372036854775808=sg at *;unfold RNum.aggP
 dsimp only
 by_cases hb:18446744073709551616<=v
 ·have HS2:Hid (sg=none):=by rw [Hid,HS.out,if_pos hb]
  have hq:decide (18446744073709551616<=v)=true:=by simpa using hb
  rw [hq]
  generalize ((v % 18446744073709551616:Nat):Int)=u
  go_enter Tryz.func216,Tryz.ntmps216
  go_wp2_with fail;go_ret2;rw [HS2.out]
  exact ⟨rfl,(Mods.refl _ _).alloc _⟩
 ·have hq:decide (18446744073709551616<=v)=false:=by simpa using hb
  have hm:v % 18446744073709551616=v:=Nat.mod_eq_of_lt (by omega)
  rw [hq,hm]
  have HS1:Hid (sg=if mi then (if v<=9223372036854775808 then some (-(v:Int)) else none) else (if v<9223372036854775808 then some (v:Int) else none)):=by rw [Hid,HS.out,if_neg hb]
  clear HS hq hm
  cases mi with
  | true =>
   by_cases h1:v<=9223372036854775808
   ·have HS2:Hid (sg=some (-(v:Int))):=by rw [Hid,HS1.out,if_pos rfl,if_pos h1]
    have h1':(v:Int)<=9223372036854775808:=by omega
    have hw:Go.RowKit.wrap64 (-Go.RowKit.wrap64 (v:Int))=-(v:Int):=by unfold Go.RowKit.wrap64;omega
    go_enter Tryz.func216,Tryz.ntmps216
    go_wp2_with fail;go_ret2;rw [HS2.out]
    exact ⟨rfl,(Mods.refl _ _).alloc _⟩
   ·have HS2:Hid (sg=none):=by rw [Hid,HS1.out,if_pos rfl,if_neg h1]
    have h1':decide ((v:Int)<=9223372036854775808)=false:=by simp;omega
    go_enter Tryz.func216,Tryz.ntmps216
    go_wp2_with fail;go_ret2;rw [HS2.out]
    exact ⟨rfl,(Mods.refl _ _).alloc _⟩
  | false =>
   by_cases h1:v<9223372036854775808
   ·have HS2:Hid (sg=some (v:Int)):=by rw [Hid,HS1.out,if_neg (by decide),if_pos h1]
    have h1':(v:Int)<9223372036854775808:=by omega
    go_enter Tryz.func216,Tryz.ntmps216
    go_wp2_with fail;go_ret2;rw [HS2.out]
    exact ⟨rfl,(Mods.refl _ _).alloc _⟩
   ·have HS2:Hid (sg=none):=by rw [Hid,HS1.out,if_neg (by decide),if_neg h1]
    have h1':decide ((v:Int)<9223372036854775808)=false:=by simp;omega
    go_enter Tryz.func216,Tryz.ntmps216
    go_wp2_with fail;go_ret2;rw [HS2.out]
    exact ⟨rfl,(Mods.refl _ _).alloc _⟩
set_option maxRecDepth 100000 in
set_option maxHeartbeats 800000 in
theorem wide_any (n:RNum) (w:World) :
  Calls Tryz.prog 284 #[n.aggP] w fun e w'=>e=.returned (.tuple #[.int .u64 ((n.wideP.getD 0:Nat):Int),.bool n.wideP.isSome])/\Mods Nil' w w':=by
 obtain ⟨v,mi⟩:=n
 have HS:Hid ((RNum.mk v mi).wideP=if 18446744073709551616<=v then none else if mi then (if v<=9223372036854775808 then some ((18446744073709551616 - v) % 18446744073709551616) else none) else some v):=rfl
 generalize (RNum.mk v mi).wideP=sg at *;unfold RNum.aggP
 dsimp only
 by_cases hb:18446744073709551616<=v
 ·have HS2:Hid (sg=none):=by rw [Hid,HS.out,if_pos hb]
  have hq:decide (18446744073709551616<=v)=true:=by simpa using hb
  rw [hq]
  generalize ((v % 18446744073709551616:Nat):Int)=u
  go_enter Tryz.func284,Tryz.ntmps284
  go_wp2_with fail;go_ret2;rw [HS2.out]
  exact ⟨rfl,(Mods.refl _ _).alloc _⟩
 ·have hq:decide (18446744073709551616<=v)=false:=by simpa using hb
  have hm:v % 18446744073709551616=v:=Nat.mod_eq_of_lt (by omega)
  rw [hq,hm]
  have HS1:Hid (sg=if mi then (if v<=9223372036854775808 then some ((18446744073709551616 - v) % 18446744073709551616) else none) else some v):=by rw [Hid,HS.out,if_neg hb]
  clear HS hq hm
  cases mi with
  | true =>
   by_cases h1:v<=9223372036854775808
   ·have HS2:Hid (sg=some ((18446744073709551616 - v) % 18446744073709551616)):=by rw [Hid,HS1.out,if_pos rfl,if_pos h1]
    have h1':(v:Int)<=9223372036854775808:=by omega
    have HW:Hid (IntKind.u64.wrap (-(v:Int))=(((18446744073709551616 - v) % 18446744073709551616:Nat):Int)):=by rw [Hid,wrap64];omega
    go_enter Tryz.func284,Tryz.ntmps284
    go_wp2_with fail;go_ret2;rw [HS2.out]
    refine ⟨?_,(Mods.refl _ _).alloc _⟩
    show _=Ending.returned (.tuple #[.int .u64 (((18446744073709551616 - v) % 18446744073709551616:Nat):Int),.bool true])
    rw [<- HW.out]
    rfl
   ·have HS2:Hid (sg=none):=by rw [Hid,HS1.out,if_pos rfl,if_neg h1]
    have h1':decide ((v:Int)<=9223372036854775808)=false:=by simp;omega
    go_enter Tryz.func284,Tryz.ntmps284
    go_wp2_with fail;go_ret2;rw [HS2.out]
    exact ⟨rfl,(Mods.refl _ _).alloc _⟩
  | false =>
   have HS2:Hid (sg=some v):=by rw [Hid,HS1.out,if_neg (by decide)]
   go_enter Tryz.func284,Tryz.ntmps284
   go_wp2_with fail;go_ret2;rw [HS2.out]
   exact ⟨rfl,(Mods.refl _ _).alloc _⟩
set_option maxHeartbeats 800000 in
theorem negated_any (n:RNum) (w:World) :
  Calls Tryz.prog 238 #[n.aggP] w fun e w'=>e=.returned (RNum.mk n.v (!n.minus)).aggP/\Mods Nil' w w':=by
 obtain ⟨v,mi⟩:=n;unfold RNum.aggP
 dsimp only
 generalize ((v % 18446744073709551616:Nat):Int)=u
 generalize decide (18446744073709551616<=v)=bg
 have hb1:Blk ((w.alloc (.cells #[.bool (!mi),.int .u64 u,.bool bg] 99)).alloc (.cells #[.bool (!mi),.int .u64 u,.bool bg] 99)) (w.heap.size+1) #[.bool (!mi),.int .u64 u,.bool bg] 99:=by
  have:=Blk.new (w.alloc (.cells #[.bool (!mi),.int .u64 u,.bool bg] 99)) #[.bool (!mi),.int .u64 u,.bool bg] 99
  simpa using this
 have HB:=hid hb1;clear hb1
 go_enter Tryz.func238,Tryz.ntmps238
 go_wp2_with fail
 exact bodyPost_ret (results_cell_row Tryz.results238 _ _ (w.heap.size+1) 99 _ (0,0) _ rfl HB.out Tryz.underlying99 rfl (by kernel_rfl)) rfl ⟨rfl,((Mods.refl _ _).alloc _).alloc _⟩
theorem digP_le (c:UInt8):digP c<=255:=by
 unfold digP;have:=c.toNat_lt;split
 ·omega
 ·split<;>omega
theorem digs_step (base:Nat) (m:List UInt8) (k v:Nat) (hk:k<m.length):digsP base (m.drop k) v=if base<=digP m[k] then none else digsP base (m.drop (k+1)) (v*base+digP m[k]):=by
 rw [List.drop_eq_getElem_cons hk,digsP]
set_option maxRecDepth 100000 in
set_option maxHeartbeats 2000000 in
theorem numOf_any (x:List UInt8) (w:World) (hx:x.length<=1000000) :
  Calls Tryz.prog 283 #[.string (T x)] w fun e w'=>e=.returned (.tuple #[(RNum.mk ((numOfP x).getD 0) false).aggP,.bool (numOfP x).isSome])/\Mods Nil' w w':=by
 have HR0:Hid (Blk (w.alloc (.cells #[.bool false,.int .u64 0,.bool false] 99)) w.heap.size #[.bool false,.int .u64 0,.bool false] 99):=Blk.new w _ _
 have HM0:Hid (Mods Nil' w (w.alloc (.cells #[.bool false,.int .u64 0,.bool false] 99))):=(Mods.refl _ _).alloc _
 have HZ0:Hid ((RNum.mk 0 false).aggP=.agg #[.bool false,.int .u64 0,.bool false]):=rfl
 have HNUM:Hid (numOfP x=if numDigsP x=[]\/20<x.length then none else digsP (numBaseP x) (numDigsP x) 0):=rfl
 have HBA:Hid (numBaseP x=if hexB x then 16 else 10):=rfl
 have HDG:Hid (numDigsP x=if hexB x then x.drop 2 else x):=rfl
 have HHX:Hid (hexB x=true->2<=x.length):=fun h=>by
  unfold hexB at h
  match x,h with
  | [],h=>simp [List.isPrefixOf] at h
  | [a],h=>simp [List.isPrefixOf] at h
  | a::b::r,_=>simp
 have HPF:Hid (∀ w',Calls Tryz.prog 226 #[.string (T x),.string (T [48,120])] w' fun e w''=>e=.returned (.bool (hexB x))/\w''=w'):=fun w'=>hasP_any x [48,120] w'
 have hs:(T x).size=x.length:=T_size x
 generalize numOfP x=nx at *;generalize numBaseP x=base at *;generalize numDigsP x=m at *;generalize hexB x=hb at *
 go_enter Tryz.func283,Tryz.ntmps283
 go_wp2_with fail
 refine (HPF.out _).mono ?_
 rintro e w1 ⟨rfl,rfl⟩;clear HPF;generalize w.alloc (.cells #[.bool false,.int .u64 0,.bool false] 99)=w1 at *
 have HRl:Hid (w.heap.size<=w.heap.size):=Nat.le_refl _
 generalize hRr:w.heap.size=R at *
 go_upto_if 11 with fail
 go_cut [4,5] (fun bv dv wx=>bv=.int .u64 (base:Nat)/\dv=.string (T m)/\Mods Nil' w1 wx)
 case first =>
  cases hb with
  | true =>
   have h2:=HHX.out rfl
   have e2:(T x).extract 2 x.length=T (x.drop 2):=by
    have:=T_drop x 2
    rw [hs] at this;exact this
   have HB2:Hid (base=16):=HBA.out
   have HD2:Hid (m=x.drop 2):=HDG.out
   have h2':(2:Int)<=x.length:=by omega
   go_upto_region 3 with fail;go_quiet (fail)
   have hmq:Mods Nil' w1 (w1.drewN nq):=(Mods.refl _ _).drewN nq
   go_wp2_with fail;go_meet
   exact ⟨by rw [HB2.out];rfl,by rw [HD2.out],hmq⟩
  | false =>
   have HB2:Hid (base=10):=HBA.out
   have HD2:Hid (m=x):=HDG.out
   go_wp2_with fail;go_meet
   exact ⟨by rw [HB2.out];rfl,by rw [HD2.out],Mods.refl _ _⟩
 case rest =>
 obtain ⟨rfl,rfl,hmc⟩:=hcut
 have HR1:Hid (Blk wc R #[.bool false,.int .u64 0,.bool false] 99):=HR0.out.mods hmc id
 have HM1:Hid (Mods Nil' w wc):=HM0.out.trans hmc
 have hbs:base=10\/base=16:=by
  rw [HBA.out];cases hb
  ·exact .inl rfl
  ·exact .inr rfl
 have hml:m.length<=x.length:=by
  rw [HDG.out];split
  ·simp
  ·exact Nat.le_refl _
 clear HR0 HM0 hmc HBA HDG HHX
 have r0:wc.cell? ⟨R,0,none⟩=some (.bool false):=HR1.out.cell 0
 have r1:wc.cell? ⟨R,1,none⟩=some (.int .u64 0):=HR1.out.cell 1
 have r2:wc.cell? ⟨R,2,none⟩=some (.bool false):=HR1.out.cell 2
 have rf:=HR1.out.frozen
 have hms:(T m).size=m.length:=T_size m
 by_cases h0:m=[]\/20<x.length
 ·have HN2:Hid (nx=none):=by rw [Hid,HNUM.out,if_pos h0]
  have HRS:Hid (Blk (((wc.setCell ⟨R,0,none⟩ (.bool false)).setCell ⟨R,1,none⟩ (.int .u64 0)).setCell ⟨R,2,none⟩ (.bool false)) R #[.bool false,.int .u64 0,.bool false] 99):=((HR1.out.set 0 _).set 1 _).set 2 _
  have HMS:Hid (Mods Nil' w (((wc.setCell ⟨R,0,none⟩ (.bool false)).setCell ⟨R,1,none⟩ (.int .u64 0)).setCell ⟨R,2,none⟩ (.bool false))):=by
   refine ((HM1.out.set (a:=⟨R,0,none⟩) (.inr ?_) _).set (a:=⟨R,1,none⟩) (.inr ?_) _).set (a:=⟨R,2,none⟩) (.inr ?_) _<;>exact Nat.le_of_eq hRr
  cases m with
  | nil =>
   have he:=T_isEmpty_nil
   go_wp2_with fail
   refine bodyPost_ret (results_cell_tmp_row Tryz.results283 _ _ R 99 _ (0,0) _ _ rfl rfl HRS.out Tryz.underlying99 rfl (by kernel_rfl)) rfl ⟨?_,HMS.out⟩
   rw [HN2.out];rfl
  | cons c m =>
   have he:=T_isEmpty_cons c m
   have h20:20<x.length:=by rcases h0 with h | h;cases h;exact h
   have h20':(20:Int)<x.length:=by omega
   clear h0;go_wp2_with fail
   refine bodyPost_ret (results_cell_tmp_row Tryz.results283 _ _ R 99 _ (0,0) _ _ rfl rfl HRS.out Tryz.underlying99 rfl (by kernel_rfl)) rfl ⟨?_,HMS.out⟩
   rw [HN2.out];rfl
 ·have HN2:Hid (nx=digsP base m 0):=by rw [Hid,HNUM.out,if_neg h0]
  have he:(T m).toList.isEmpty=false:=by
   cases m with
   | nil=>exact absurd (.inl rfl) h0
   | cons c m=>exact T_isEmpty_cons c m
  have h20:x.length<=20:=by
   rcases Nat.lt_or_ge 20 x.length with h | h
   ·exact absurd (.inr h) h0
   ·exact h
  have h20':decide ((20:Int)<x.length)=false:=by simp;omega
  clear HNUM h0
  have HB1:Hid (Blk (wc.alloc (.cells #[.bool false,.int .u64 0,.bool false] 99)) wc.heap.size (RNum.cellsP ⟨0,false⟩).toArray 99):=Blk.new wc _ _
  have HR2:Hid (Blk (wc.alloc (.cells #[.bool false,.int .u64 0,.bool false] 99)) R #[.bool false,.int .u64 0,.bool false] 99):=HR1.out.alloc _
  have HM2:Hid (Mods Nil' w (wc.alloc (.cells #[.bool false,.int .u64 0,.bool false] 99))):=HM1.out.alloc _
  have hRB:R<wc.heap.size:=HR1.out.lt
  have HNW:=hid HM1.out.size;go_upto_region 7 with fail;clear r0 r1 r2 rf HR1 HM1;generalize wc.alloc (.cells #[.bool false,.int .u64 0,.bool false] 99)=w2 at *
  generalize hBb:wc.heap.size=B at *
  have HNE:Hid (B≠R):=by rw [Hid];omega
  go_wp2_with fail
  go_loopg [24] m.length (fun q kv wx=>∃ k v:Nat,kv=.int .i64 k/\Blk wx B (RNum.cellsP ⟨v,false⟩).toArray 99/\Blk wx R #[.bool false,.int .u64 0,.bool false] 99/\Mods Nil' w wx/\nx=digsP base (m.drop k) v/\k<=m.length/\q=m.length - k)
  case atStart=>exact ⟨0,0,rfl,HB1.out,HR2.out,HM2.out,HN2.out,Nat.zero_le _,rfl⟩
  case round =>
   obtain ⟨k,v,rfl,hb',hr,hm,hal,hks,rfl⟩:=hrel;have HBk:=hid hb';have HRk:=hid hr;have HMk:=hid hm;have HAk:=hid hal;clear hb' hr hm hal HB1 HR2 HM2 HN2
   by_cases hkl:k<m.length
   ·have HA2:Hid (nx=if base<=digP m[k] then none else digsP base (m.drop (k+1)) (v*base+digP m[k])):=by
     rw [Hid,HAk.out,digs_step base m k v hkl]
    have hg:(T m)[k]'(by rw [hms];exact hkl)=m[k]:=rfl
    have HV:Hid (∀ w',Calls Tryz.prog 314 #[.int .u8 ((m[k]).toNat:Int)] w' fun e w''=>e=.returned (.int .u64 (digP m[k]:Nat))/\w''=w'):=fun w'=>digOf_any m[k] w'
    have hdl:=digP_le m[k]
    clear HAk;generalize digP m[k]=d at *;go_wp2_with fail
    refine (HV.out _).mono ?_
    rintro e w3 ⟨rfl,rfl⟩;clear HV
    by_cases hd:base<=d
    ·have HN3:Hid (nx=none):=by rw [Hid,HA2.out,if_pos hd]
     have hd':(base:Int)<=d:=by omega
     have r0:w3.cell? ⟨R,0,none⟩=some (.bool false):=HRk.out.cell 0
     have r1:w3.cell? ⟨R,1,none⟩=some (.int .u64 0):=HRk.out.cell 1
     have r2:w3.cell? ⟨R,2,none⟩=some (.bool false):=HRk.out.cell 2
     have rf:=HRk.out.frozen
     have HRS:Hid (Blk (((w3.setCell ⟨R,0,none⟩ (.bool false)).setCell ⟨R,1,none⟩ (.int .u64 0)).setCell ⟨R,2,none⟩ (.bool false)) R #[.bool false,.int .u64 0,.bool false] 99):=((HRk.out.set 0 _).set 1 _).set 2 _
     have HMS:Hid (Mods Nil' w (((w3.setCell ⟨R,0,none⟩ (.bool false)).setCell ⟨R,1,none⟩ (.int .u64 0)).setCell ⟨R,2,none⟩ (.bool false))):=by
      refine ((HMk.out.set (a:=⟨R,0,none⟩) (.inr ?_) _).set (a:=⟨R,1,none⟩) (.inr ?_) _).set (a:=⟨R,2,none⟩) (.inr ?_) _<;>exact Nat.le_of_eq hRr
     clear HA2;go_wp2_with fail
     refine bodyPost_ret (results_cell_tmp_row Tryz.results283 _ _ R 99 _ (0,0) _ _ rfl rfl HRS.out Tryz.underlying99 rfl (by kernel_rfl)) rfl ⟨?_,HMS.out⟩
     rw [HN3.out];rfl
    ·have HA3:Hid (nx=digsP base (m.drop (k+1)) (v*base+d)):=by rw [Hid,HA2.out,if_neg hd]
     have hd':decide ((base:Int)<=d)=false:=by simp;omega
     have hd15:d<=15:=by omega
     clear HA2
     have HNX:=num_next v base d hbs hd15
     have c1:w3.cell? ⟨B,1,none⟩=some (.int .u64 ((v % 18446744073709551616:Nat):Int)):=HBk.out.cell 1
     have c2:w3.cell? ⟨B,2,none⟩=some (.bool (decide (18446744073709551616<=v))):=HBk.out.cell 2
     have hu:v % 18446744073709551616<18446744073709551616:=Nat.mod_lt _ (by decide)
     have HN1:Hid _:=HNX
     clear HNX
     generalize hU:v % 18446744073709551616=u at *
     have HBk2:Hid (Blk w3 B #[.bool false,.int .u64 (u:Int),.bool (decide (18446744073709551616<=v))] 99):=by
      have:=HBk.out
      unfold RNum.cellsP at this
      dsimp only at this
      rw [hU] at this;exact this
     clear HBk
     rcases hbs with rfl | rfl
     ·have HW:Hid (IntKind.u64.wrap (IntKind.u64.wrap ((u:Int)*10)+(d:Int))=(((v*10+d) % 18446744073709551616:Nat):Int)):=by
       rw [Hid,HN1.out.2,wrap64,wrap64];omega
      have HBG:=hid HN1.out.1;clear HN1
      have HJ:Hid (m.length - (k+1)<m.length - k):=by rw [Hid];omega
      go_upto_region 13 with fail
      generalize hq:decide ((18446744073709551615 - (d:Int)) / 10<(u:Int))=qq at *
      have HQ:Hid (decide ((18446744073709551615 - d) / 10<u)=qq):=by
       rw [Hid,<- hq]
       by_cases e:(18446744073709551615 - d) / 10<u
       ·rw [decide_eq_true e,decide_eq_true (by omega)]
       ·rw [decide_eq_false e,decide_eq_false (by omega)]
      rw [HQ.out] at HBG;clear HQ
      generalize hbg:decide (18446744073709551616<=v)=bg at *
      have HBd:=hid HBk2.out.drew;have HRd:=hid HRk.out.drew;have HMd:=hid HMk.out.drew
      refine wp_region_qtail 11 (by kernel_rfl) (by kernel_rfl) ?_
      intro W hW;rw [<- hW] at HBd HRd HMd;clear hW;clear c1 c2 HBk2 HRk HMk
      have c1:W.cell? ⟨B,1,none⟩=some (.int .u64 (u:Int)):=HBd.out.cell 1
      have c2:W.cell? ⟨B,2,none⟩=some (.bool bg):=HBd.out.cell 2
      have cf:=HBd.out.frozen
      have hu':(u:Int)<18446744073709551616:=by omega
      have hdd:(d:Int)<=15:=by omega
      have HB3:Hid (Blk ((W.setCell ⟨B,2,none⟩ (.bool (bg||qq))).setCell ⟨B,1,none⟩ (.int .u64 (IntKind.u64.wrap (IntKind.u64.wrap ((u:Int)*10)+(d:Int))))) B (RNum.cellsP ⟨v*10+d,false⟩).toArray 99):=by
       have:=(HBd.out.set 2 (.bool (bg||qq))).set 1 (.int .u64 (IntKind.u64.wrap (IntKind.u64.wrap ((u:Int)*10)+(d:Int))))
       rw [HW.out] at this ⊢;unfold RNum.cellsP
       dsimp only
       rw [HBG.out];exact this
      have HR3:Hid (Blk ((W.setCell ⟨B,2,none⟩ (.bool (bg||qq))).setCell ⟨B,1,none⟩ (.int .u64 (IntKind.u64.wrap (IntKind.u64.wrap ((u:Int)*10)+(d:Int))))) R #[.bool false,.int .u64 0,.bool false] 99):=(HRd.out.setOther (a:=⟨B,2,none⟩) HNE.out _).setOther (a:=⟨B,1,none⟩) HNE.out _
      have HM3:Hid (Mods Nil' w ((W.setCell ⟨B,2,none⟩ (.bool (bg||qq))).setCell ⟨B,1,none⟩ (.int .u64 (IntKind.u64.wrap (IntKind.u64.wrap ((u:Int)*10)+(d:Int)))))):=(HMd.out.set (a:=⟨B,2,none⟩) (.inr HNW.out) _).set (a:=⟨B,1,none⟩) (.inr HNW.out) _
      clear HBd HRd HMd HBG HW hbg
      simp only [List.take_succ_cons,List.take_zero,List.drop_succ_cons,List.drop_zero]
      cases bg with
      | true =>
       repeat (go_big_quiet_step (fail))
       refine wpQuiet_nil ?_
       go_wp2_with fail
       go_roundg (m.length - (k+1))
       case measure=>exact HJ.out
       case rel=>exact ⟨k+1,v*10+d,by go_num,HB3.out,HR3.out,HM3.out,HA3.out,by omega,rfl⟩
      | false =>
       repeat (go_big_quiet_step (fail))
       refine wpQuiet_nil ?_
       go_wp2_with fail
       go_roundg (m.length - (k+1))
       case measure=>exact HJ.out
       case rel=>exact ⟨k+1,v*10+d,by go_num,HB3.out,HR3.out,HM3.out,HA3.out,by omega,rfl⟩
     ·have HW:Hid (IntKind.u64.wrap (IntKind.u64.wrap ((u:Int)*16)+(d:Int))=(((v*16+d) % 18446744073709551616:Nat):Int)):=by
       rw [Hid,HN1.out.2,wrap64,wrap64];omega
      have HBG:=hid HN1.out.1;clear HN1
      have HJ:Hid (m.length - (k+1)<m.length - k):=by rw [Hid];omega
      go_upto_region 13 with fail
      generalize hq:decide ((18446744073709551615 - (d:Int)) / 16<(u:Int))=qq at *
      have HQ:Hid (decide ((18446744073709551615 - d) / 16<u)=qq):=by
       rw [Hid,<- hq]
       by_cases e:(18446744073709551615 - d) / 16<u
       ·rw [decide_eq_true e,decide_eq_true (by omega)]
       ·rw [decide_eq_false e,decide_eq_false (by omega)]
      rw [HQ.out] at HBG;clear HQ
      generalize hbg:decide (18446744073709551616<=v)=bg at *
      have HBd:=hid HBk2.out.drew;have HRd:=hid HRk.out.drew;have HMd:=hid HMk.out.drew
      refine wp_region_qtail 11 (by kernel_rfl) (by kernel_rfl) ?_
      intro W hW;rw [<- hW] at HBd HRd HMd;clear hW;clear c1 c2 HBk2 HRk HMk
      have c1:W.cell? ⟨B,1,none⟩=some (.int .u64 (u:Int)):=HBd.out.cell 1
      have c2:W.cell? ⟨B,2,none⟩=some (.bool bg):=HBd.out.cell 2
      have cf:=HBd.out.frozen
      have hu':(u:Int)<18446744073709551616:=by omega
      have hdd:(d:Int)<=15:=by omega
      have HB3:Hid (Blk ((W.setCell ⟨B,2,none⟩ (.bool (bg||qq))).setCell ⟨B,1,none⟩ (.int .u64 (IntKind.u64.wrap (IntKind.u64.wrap ((u:Int)*16)+(d:Int))))) B (RNum.cellsP ⟨v*16+d,false⟩).toArray 99):=by
       have:=(HBd.out.set 2 (.bool (bg||qq))).set 1 (.int .u64 (IntKind.u64.wrap (IntKind.u64.wrap ((u:Int)*16)+(d:Int))))
       rw [HW.out] at this ⊢;unfold RNum.cellsP
       dsimp only
       rw [HBG.out];exact this
      have HR3:Hid (Blk ((W.setCell ⟨B,2,none⟩ (.bool (bg||qq))).setCell ⟨B,1,none⟩ (.int .u64 (IntKind.u64.wrap (IntKind.u64.wrap ((u:Int)*16)+(d:Int))))) R #[.bool false,.int .u64 0,.bool false] 99):=(HRd.out.setOther (a:=⟨B,2,none⟩) HNE.out _).setOther (a:=⟨B,1,none⟩) HNE.out _
      have HM3:Hid (Mods Nil' w ((W.setCell ⟨B,2,none⟩ (.bool (bg||qq))).setCell ⟨B,1,none⟩ (.int .u64 (IntKind.u64.wrap (IntKind.u64.wrap ((u:Int)*16)+(d:Int)))))):=(HMd.out.set (a:=⟨B,2,none⟩) (.inr HNW.out) _).set (a:=⟨B,1,none⟩) (.inr HNW.out) _
      clear HBd HRd HMd HBG HW hbg
      simp only [List.take_succ_cons,List.take_zero,List.drop_succ_cons,List.drop_zero]
      cases bg with
      | true =>
       repeat (go_big_quiet_step (fail))
       refine wpQuiet_nil ?_
       go_wp2_with fail
       go_roundg (m.length - (k+1))
       case measure=>exact HJ.out
       case rel=>exact ⟨k+1,v*16+d,by go_num,HB3.out,HR3.out,HM3.out,HA3.out,by omega,rfl⟩
      | false =>
       repeat (go_big_quiet_step (fail))
       refine wpQuiet_nil ?_
       go_wp2_with fail
       go_roundg (m.length - (k+1))
       case measure=>exact HJ.out
       case rel=>exact ⟨k+1,v*16+d,by go_num,HB3.out,HR3.out,HM3.out,HA3.out,by omega,rfl⟩
   ·obtain rfl:k=m.length:=by omega
    have HA3:Hid (nx=some v):=by rw [Hid,HAk.out,List.drop_length];rfl
    have c0:wr.cell? ⟨B,0,none⟩=some (.bool false):=HBk.out.cell 0
    have c1:wr.cell? ⟨B,1,none⟩=some (.int .u64 ((v % 18446744073709551616:Nat):Int)):=HBk.out.cell 1
    have c2:wr.cell? ⟨B,2,none⟩=some (.bool (decide (18446744073709551616<=v))):=HBk.out.cell 2
    have r0:wr.cell? ⟨R,0,none⟩=some (.bool false):=HRk.out.cell 0
    have r1:wr.cell? ⟨R,1,none⟩=some (.int .u64 0):=HRk.out.cell 1
    have r2:wr.cell? ⟨R,2,none⟩=some (.bool false):=HRk.out.cell 2
    have rf:=HRk.out.frozen
    have HRS:Hid (Blk (((wr.setCell ⟨R,0,none⟩ (.bool false)).setCell ⟨R,1,none⟩ (.int .u64 ((v % 18446744073709551616:Nat):Int))).setCell ⟨R,2,none⟩ (.bool (decide (18446744073709551616<=v)))) R #[.bool false,.int .u64 ((v % 18446744073709551616:Nat):Int),.bool (decide (18446744073709551616<=v))] 99):=((HRk.out.set 0 _).set 1 _).set 2 _
    have HMS:Hid (Mods Nil' w (((wr.setCell ⟨R,0,none⟩ (.bool false)).setCell ⟨R,1,none⟩ (.int .u64 ((v % 18446744073709551616:Nat):Int))).setCell ⟨R,2,none⟩ (.bool (decide (18446744073709551616<=v))))):=by
     refine ((HMk.out.set (a:=⟨R,0,none⟩) (.inr ?_) _).set (a:=⟨R,1,none⟩) (.inr ?_) _).set (a:=⟨R,2,none⟩) (.inr ?_) _<;>exact Nat.le_of_eq hRr
    have HEQ:Hid ((RNum.mk v false).aggP=.agg #[.bool false,.int .u64 ((v % 18446744073709551616:Nat):Int),.bool (decide (18446744073709551616<=v))]):=rfl
    generalize ((v % 18446744073709551616:Nat):Int)=u at *
    generalize decide (18446744073709551616<=v)=bg at *;go_wp2_with fail
    refine bodyPost_ret (results_cell_tmp_row Tryz.results283 _ _ R 99 _ (0,0) _ _ rfl rfl HRS.out Tryz.underlying99 rfl (by kernel_rfl)) rfl ⟨?_,HMS.out⟩
    rw [HA3.out]
    show _=Ending.returned (.tuple #[(RNum.mk v false).aggP,.bool true])
    rw [HEQ.out]
    rfl
def zeroN:Array Value:=#[.bool false,.int .u64 0,.bool false]
set_option maxRecDepth 100000 in
set_option maxHeartbeats 800000 in
theorem digits_any (b o:Nat) (cs:Array Value) (t:TypeId) (l:List UInt8) (w:World) (h:LnAt w b o cs t l) (hl:l.length<=1000000) :
  Calls Tryz.prog 227 #[.pointer (some ⟨b,o,none⟩)] w fun e w'=>e=.returned (.tuple #[(RNum.mk ((numOfP (wdL l).1).getD 0) false).aggP,.bool (numOfP (wdL l).1).isSome])/\LnPost w b o cs t (wdL l).2 w':=by
 have m0:Mods Nil' w (w.alloc (.cells zeroN 99)):=(Mods.refl _ _).alloc _
 have HW:Hid (Calls Tryz.prog 101 #[.pointer (some ⟨b,o,none⟩)] (w.alloc (.cells zeroN 99)) fun e w'=>e=.returned (.string (T (wdL l).1))/\LnPost (w.alloc (.cells zeroN 99)) b o cs t (wdL l).2 w'):=word_any' b o cs t l _ (h.mods m0) hl
 have hle:=wd_le l
 have HR:Hid (∀ w',Calls Tryz.prog 283 #[.string (T (wdL l).1)] w' fun e w''=>e=.returned (.tuple #[(RNum.mk ((numOfP (wdL l).1).getD 0) false).aggP,.bool (numOfP (wdL l).1).isSome])/\Mods Nil' w' w''):=fun w'=>numOf_any _ w' (by omega)
 have hbl:b<w.heap.size:=h.blk.lt
 have HZ:Hid (Blk (w.alloc (.cells zeroN 99)) w.heap.size zeroN 99):=Blk.new w _ _
 generalize numOfP (wdL l).1=rx at *;generalize wdL l=wl at *;obtain ⟨w1,w2⟩:=wl;simp only at *;have HM0:=hid m0;clear m0
 unfold RNum.aggP zeroN at *
 dsimp only at *
 generalize (((rx.getD 0) % 18446744073709551616:Nat):Int)=u at *
 generalize decide (18446744073709551616<=rx.getD 0)=bg at *
 generalize hw0:w.alloc (.cells #[.bool false,.int .u64 0,.bool false] 99)=w0 at *
 go_enter Tryz.func227,Tryz.ntmps227
 go_wp2_with fail;refine HW.out.mono ?_;rintro e wa ⟨rfl,hp⟩;have HP:=hid hp
 have HZ1:Hid (Blk wa w.heap.size #[.bool false,.int .u64 0,.bool false] 99):=HZ.out.mods hp.2 (fun e=>by have:w.heap.size=b:=e;omega)
 clear hp HW HZ;go_wp2_with fail
 refine (HR.out _).mono ?_
 rintro e wb ⟨rfl,m1⟩
 have HP1:Hid (LnPost w0 b o cs t w2 wb):=HP.out.quiet m1
 have HZ2:Hid (Blk wb w.heap.size #[.bool false,.int .u64 0,.bool false] 99):=HZ1.out.mods m1 id
 clear HP HZ1 m1 HR
 have z0:wb.cell? ⟨w.heap.size,0,none⟩=some (.bool false):=HZ2.out.cell 0
 have z1:wb.cell? ⟨w.heap.size,1,none⟩=some (.int .u64 0):=HZ2.out.cell 1
 have z2:wb.cell? ⟨w.heap.size,2,none⟩=some (.bool false):=HZ2.out.cell 2
 have zf:=HZ2.out.frozen
 go_wp2_with fail
 refine bodyPost_ret (results_cell_tmp_row Tryz.results227 _ _ w.heap.size 99 _ (0,0) _ _ rfl rfl (((HZ2.out.set 0 _).set 1 _).set 2 _) Tryz.underlying99 rfl (by kernel_rfl)) rfl ⟨rfl,?_⟩
 refine ⟨⟨?_,HP1.out.1.at'⟩,?_⟩
 ·iterate 3 refine Blk.setOther ?_ (by simp;omega) _
  exact HP1.out.1.blk
 ·iterate 3 refine Mods.set ?_ (.inr (by simp)) _
  exact HM0.out.of_nil.trans HP1.out.2
theorem numL_eq (l:List UInt8) (hh:(hasMark 45 l&&(markL 45 l).head?==some 32)=false):numL l=(numOfP (wdL (markL 45 l)).1).map (fun v=>(⟨v,hasMark 45 l⟩,(wdL (markL 45 l)).2)):=by
 unfold numL;rw [if_neg (by simp [hh])]
theorem head_pre (l:List UInt8):List.isPrefixOf [32] l=(l.head?==some 32):=by
 cases l with
 | nil=>rfl
 | cons c r =>
  show ((32==c)&&true)=_
  rw [Bool.and_true,Bool.eq_iff_iff,beq_iff_eq,beq_iff_eq,List.head?_cons,Option.some.injEq];exact eq_comm
def NumPost (w:World) (b o:Nat) (cs:Array Value) (t:TypeId) (l:List UInt8) (e:Ending) (w':World):Prop :=
 ∃ n l',e=.returned (.tuple #[RNum.aggP n,.bool (numL l).isSome])/\LnPost w b o cs t l' w'/\l'.length<=l.length/\∀ x,numL l=some x->x=(n,l')
set_option maxRecDepth 100000 in
set_option maxHeartbeats 800000 in
theorem snum_any (b o:Nat) (cs:Array Value) (t:TypeId) (l:List UInt8) (w:World) (h:LnAt w b o cs t l) (hl:l.length<=1000000) :
  Calls Tryz.prog 135 #[.pointer (some ⟨b,o,none⟩)] w fun e w'=>NumPost w b o cs t l e w':=by
 have m0:Mods Nil' w (w.alloc (.cells zeroN 99)):=(Mods.refl _ _).alloc _
 have hml:=mark_le 45 l
 have hwl:=wd_le (markL 45 l)
 have HW:Hid (Calls Tryz.prog 102 #[.pointer (some ⟨b,o,none⟩),.int .u8 45] (w.alloc (.cells zeroN 99)) fun e w'=>e=.returned (.bool (hasMark 45 l))/\LnPost (w.alloc (.cells zeroN 99)) b o cs t (markL 45 l) w'):=mark_any b o cs t l 45 _ (h.mods m0) hl
 have HPF:Hid (∀ w',Calls Tryz.prog 226 #[.string (T (markL 45 l)),.string (T [32])] w' fun e w''=>e=.returned (.bool ((markL 45 l).head?==some 32))/\w''=w'):=fun w'=>by
  rw [<- head_pre];exact hasP_any (markL 45 l) [32] w'
 have HR:Hid (∀ w',LnAt w' b o (cs.setIfInBounds o (.string (T (markL 45 l)))) t (markL 45 l)->Calls Tryz.prog 227 #[.pointer (some ⟨b,o,none⟩)] w' fun e w''=>e=.returned (.tuple #[(RNum.mk ((numOfP (wdL (markL 45 l)).1).getD 0) false).aggP,.bool (numOfP (wdL (markL 45 l)).1).isSome])/\LnPost w' b o (cs.setIfInBounds o (.string (T (markL 45 l)))) t (wdL (markL 45 l)).2 w''):=fun w' hw'=>digits_any b o _ t (markL 45 l) w' hw' (by omega)
 have hbl:b<w.heap.size:=h.blk.lt
 have HZ:Hid (Blk (w.alloc (.cells zeroN 99)) w.heap.size zeroN 99):=Blk.new w _ _
 have HL1:Hid ((hasMark 45 l&&(markL 45 l).head?==some 32)=true->numL l=none):=fun hh=>by unfold numL;rw [if_pos hh]
 have HL2:Hid ((hasMark 45 l&&(markL 45 l).head?==some 32)=false->numL l=(numOfP (wdL (markL 45 l)).1).map (fun v=>(⟨v,hasMark 45 l⟩,(wdL (markL 45 l)).2))):=numL_eq l
 have HNP:Hid (∀ e w',(∃ n l',e=.returned (.tuple #[RNum.aggP n,.bool (numL l).isSome])/\LnPost w b o cs t l' w'/\l'.length<=l.length/\∀ x,numL l=some x->x=(n,l'))->NumPost w b o cs t l e w'):=fun _ _ h=>h
 generalize NumPost w b o cs t l=NP at *;generalize numOfP (wdL (markL 45 l)).1=rx at *;generalize wdL (markL 45 l)=wl at *;generalize markL 45 l=ml at *;generalize hasMark 45 l=hm at *;generalize numL l=nl at *;obtain ⟨w1,w2⟩:=wl;simp only at *;have HM0:=hid m0;clear m0
 generalize hpq:(ml.head?==some 32)=hq at *
 have HRG:Hid (∀ n,RNum.aggP n=.agg #[.bool n.minus,.int .u64 ((n.v % 18446744073709551616:Nat):Int),.bool (decide (18446744073709551616<=n.v))]):=fun _=>rfl
 unfold zeroN at *
 generalize hw0:w.alloc (.cells #[.bool false,.int .u64 0,.bool false] 99)=w0 at *
 go_enter Tryz.func135,Tryz.ntmps135
 go_wp2_with fail;refine HW.out.mono ?_;rintro e wa ⟨rfl,hp⟩;have HP:=hid hp
 have HZ1:Hid (Blk wa w.heap.size #[.bool false,.int .u64 0,.bool false] 99):=HZ.out.mods hp.2 (fun e=>by have:w.heap.size=b:=e;omega)
 clear hp HW HZ
 have c0:=HP.out.1.cell
 go_upto_region 2 with fail
 go_cut [16] (fun v wx=>v=.bool (hm&&hq)/\wx=wa)
 case first =>
  cases hm with
  | true =>
   go_wp2_with fail
   refine (HPF.out _).mono ?_
   rintro e wb ⟨rfl,rfl⟩;go_wp2_with fail;go_meet
   exact ⟨by simp,rfl⟩
  | false =>
   go_wp2_with fail;go_meet
   exact ⟨by simp,rfl⟩
 case rest =>
 obtain ⟨rfl,rfl⟩:=hcut
 have z0:wc.cell? ⟨w.heap.size,0,none⟩=some (.bool false):=HZ1.out.cell 0
 have z1:wc.cell? ⟨w.heap.size,1,none⟩=some (.int .u64 0):=HZ1.out.cell 1
 have z2:wc.cell? ⟨w.heap.size,2,none⟩=some (.bool false):=HZ1.out.cell 2
 have zf:=HZ1.out.frozen
 clear HPF c0
 by_cases hh:(hm&&hq)=true
 ·have HN:Hid (nl=none):=HL1.out hh
  rw [hh];go_wp2_with fail
  refine bodyPost_ret (results_cell_tmp_row Tryz.results135 _ _ w.heap.size 99 _ (0,0) _ _ rfl rfl (((HZ1.out.set 0 _).set 1 _).set 2 _) Tryz.underlying99 rfl (by kernel_rfl)) rfl ?_
  refine HNP.out _ _ ⟨⟨0,false⟩,ml,?_,⟨⟨?_,HP.out.1.at'⟩,?_⟩,hml,fun x hx=>?_⟩
  ·rw [HN.out];rfl
  ·iterate 3 refine Blk.setOther ?_ (by simp;omega) _
   exact HP.out.1.blk
  ·iterate 3 refine Mods.set ?_ (.inr (by simp)) _
   exact HM0.out.of_nil.trans HP.out.2
  ·rw [HN.out] at hx;cases hx
 ·have hh':(hm&&hq)=false:=by simpa using hh
  have HN:Hid (nl=rx.map (fun v=>(⟨v,hm⟩,w2))):=HL2.out hh'
  rw [hh'];clear hh hh' HL1 HL2
  have HR2:=HR.out wc HP.out.1
  rw [HRG.out] at HR2
  dsimp only at HR2
  generalize hu:(((rx.getD 0) % 18446744073709551616:Nat):Int)=u at *
  have HBG:Hid (∀ v,rx=some v->rx.getD 0=v):=fun v e=>by rw [e];rfl
  have HU:Hid (∀ v,rx=some v->RNum.aggP ⟨v,hm⟩=.agg #[.bool hm,.int .u64 u,.bool (decide (18446744073709551616<=rx.getD 0))]):=fun v e=>by
   rw [<- hu,HRG.out,e];rfl
  have HU0:Hid (RNum.aggP ⟨rx.getD 0,hm⟩=.agg #[.bool hm,.int .u64 u,.bool (decide (18446744073709551616<=rx.getD 0))]):=by rw [Hid,<- hu,HRG.out]
  clear hu HRG HU;generalize decide (18446744073709551616<=rx.getD 0)=bg at *;have HR3:=hid HR2;clear HR2 HR z0 z1 z2 zf;go_wp2_with fail;refine HR3.out.mono ?_;rintro e wd ⟨rfl,hp⟩
  have HP2:Hid (LnPost w0 b o cs t w2 wd):=HP.out.after hp
  have HZ2:Hid (Blk wd w.heap.size #[.bool false,.int .u64 0,.bool false] 99):=HZ1.out.mods hp.2 (fun e=>by have:w.heap.size=b:=e;omega)
  clear hp HZ1 HP HR3
  have hlt:w.heap.size<wd.heap.size:=HZ2.out.lt
  have z0:wd.cell? ⟨w.heap.size,0,none⟩=some (.bool false):=HZ2.out.cell 0
  have z1:wd.cell? ⟨w.heap.size,1,none⟩=some (.int .u64 0):=HZ2.out.cell 1
  have z2:wd.cell? ⟨w.heap.size,2,none⟩=some (.bool false):=HZ2.out.cell 2
  have zf:=HZ2.out.frozen
  go_wp2_with fail
  refine bodyPost_ret (results_cell_tmp_row Tryz.results135 _ _ w.heap.size 99 _ (0,0) _ _ rfl rfl ((((HZ2.out.set 0 _).set 1 _).set 2 _).alloc _) Tryz.underlying99 rfl (by kernel_rfl)) rfl ?_
  refine HNP.out _ _ ⟨⟨rx.getD 0,hm⟩,w2,?_,⟨⟨?_,HP2.out.1.at'⟩,?_⟩,by omega,fun x hx=>?_⟩
  ·rw [HU0.out,HN.out,Option.isSome_map];rfl
  ·refine Blk.alloc ?_ _
   iterate 3 refine Blk.setOther ?_ (by simp;omega) _
   exact HP2.out.1.blk
  ·refine Mods.alloc ?_ _
   iterate 3 refine Mods.set ?_ (.inr (by simp)) _
   exact HM0.out.of_nil.trans HP2.out.2
  ·rw [HN.out] at hx;obtain ⟨v,hv,rfl⟩:=Option.map_eq_some_iff.1 hx;rw [HBG.out v hv]
end Go.Proofs.YtnhcaifopaeohaaGreatDoor
