import Derived.Test.YtoknbkfclhmapaaGreatDoorC02
namespace Go.Proofs.YtoknbkfclhmapaaGreatDoor
open Go.RowKit
def rw2 (s:ByteArray) (r:RS):Nat × RS:=((rb s r).1+256*(rb s (rb s r).2).1,(rb s (rb s r).2).2)
def rw4 (s:ByteArray) (r:RS):Nat × RS:=((rw2 s r).1+65536*(rw2 s (rw2 s r).2).1,(rw2 s (rw2 s r).2).2)
theorem rw2_le (s:ByteArray) (r:RS):(rw2 s r).1<=65535:=by
 have:=rb_le s r;have:=rb_le s (rb s r).2;simp only [rw2];omega
theorem rw4_le (s:ByteArray) (r:RS):(rw4 s r).1<=4294967295:=by
 have:=rw2_le s r;have:=rw2_le s (rw2 s r).2;simp only [rw4];omega
set_option maxHeartbeats 400000 in
theorem rtwo_any (b:Nat) (s:ByteArray) (r:RS) (w:World) (hs:s.size<=maxLen) (h:RdAt w b s r) :
  Calls Tryz.prog 25 #[.pointer (some ⟨b,0,none⟩)] w fun e w'=>e=.returned (.int .i64 ((rw2 s r).1:Nat))/\RdAt w' b s (rw2 s r).2/\Mods (Only b) w w':=by
 have l1:=rb_le s r
 have l2:=rb_le s (rb s r).2
 go_enter Tryz.func25,Tryz.ntmps25
 go_wp2_with fail
 refine (rbyte_any b s r _ hs h).mono ?_
 rintro e w1 ⟨rfl,h1,m1⟩;go_wp2_with fail
 refine (rbyte_any b s _ _ hs h1).mono ?_
 rintro e w2 ⟨rfl,h2,m2⟩
 go_wp2
 go_ret
 exact ⟨by simp [rw2],h2,m1.trans m2⟩
set_option maxHeartbeats 400000 in
theorem rfour_any (b:Nat) (s:ByteArray) (r:RS) (w:World) (hs:s.size<=maxLen) (h:RdAt w b s r) :
  Calls Tryz.prog 124 #[.pointer (some ⟨b,0,none⟩)] w fun e w'=>e=.returned (.int .u64 ((rw4 s r).1:Nat))/\RdAt w' b s (rw4 s r).2/\Mods (Only b) w w':=by
 have l1:=rw2_le s r
 have l2:=rw2_le s (rw2 s r).2
 go_enter Tryz.func124,Tryz.ntmps124
 go_wp2_with fail
 refine (rtwo_any b s r _ hs h).mono ?_
 rintro e w1 ⟨rfl,h1,m1⟩;go_wp2_with fail
 refine (rtwo_any b s _ _ hs h1).mono ?_
 rintro e w2 ⟨rfl,h2,m2⟩
 go_wp2
 go_ret
 exact ⟨by simp [rw4];omega,h2,m1.trans m2⟩
def nameB (l:List UInt8):Bool :=
 decide (l.length<=16)&&(match l with | []=>false | c::_=>smallB (c.toNat:Int))&&l.all (fun c=>partB (c.toNat:Int))
theorem isEmpty_of_pos {s:ByteArray} (h:0<s.size):s.toList.isEmpty=false:=by
 rw [ByteArray.toList_eq,List.isEmpty_eq_false_iff_exists_mem]
 exact ⟨s.data[0]'h,by simp⟩
theorem isEmpty_of_zero {s:ByteArray} (h:s.size=0):s.toList.isEmpty=true:=by
 rw [ByteArray.toList_eq]
 have:s.data=#[]:=Array.eq_empty_of_size_eq_zero h
 simp [this]
theorem nameB_of {s:ByteArray} (h:0<s.size):nameB s.data.toList=(decide (s.size<=16)&&smallB (s[0].toNat:Int)&&s.data.toList.all (fun c=>partB (c.toNat:Int))):=by
 have e:s.data.toList=s[0]::s.data.toList.tail:=by
  have:s.data.toList≠[]:=by intro h';have:=congrArg List.length h';simp at this;have h2:s.size=s.data.size:=rfl;rw [h2,this] at h;simp at h
  conv=>lhs;rw [<- List.cons_head_tail this]
  congr 1
  rw [List.head_eq_getElem];rfl
 have hl:s.data.toList.length=s.size:=by simp
 unfold nameB;rw [hl]
 conv=>lhs;rw [e]
 conv=>rhs;rw [e]
theorem nameB_zero {s:ByteArray} (h:s.size=0):nameB s.data.toList=false:=by
 have:s.data=#[]:=Array.eq_empty_of_size_eq_zero h
 simp [this,nameB]
theorem take_snoc (s:ByteArray) (k:Nat) (h:k<s.size):s.data.toList.take (k+1)=s.data.toList.take k++[s[k]]:=by
 rw [List.take_succ_eq_append_getElem (by simpa using h)];rfl
theorem all_of_not {s:ByteArray} {p:UInt8->Bool} {k:Nat} (h:k<s.size) (hp:p s[k]=false):s.data.toList.all p=false:=by
 rw [List.all_eq_false]
 exact ⟨s[k],by rw [<- Array.mem_def];exact Array.getElem_mem h,by simp [hp]⟩
theorem ret_bool {a b:Bool} (h:a=b):Ending.returned (.bool a)=.returned (.bool b):=by rw [h]
set_option maxHeartbeats 400000 in
theorem isName_any (s:ByteArray) (w:World) (hs:s.size<=maxLen) :
  Calls Tryz.prog 48 #[.string s] w fun e w'=>e=.returned (.bool (nameB s.data.toList))/\w'=w:=by
 unfold maxLen at hs
 by_cases h0:0<s.size
 ·have he:=isEmpty_of_pos h0
  have HN:Hid (_=_):=nameB_of h0
  by_cases h1:s.size<=16
  ·have hb:((s.size:Int)<=16):=by omega
   cases h2:smallB (s[0].toNat:Int) with
   | false =>
    go_enter Tryz.func48,Tryz.ntmps48
    go_wp2_with (go_at_call 75;refine (small_any _ _).mono ?_;rintro e w' ⟨rfl,rfl⟩)
    go_ret
    exact ⟨ret_bool (by rw [HN.out,h2];simp),rfl⟩
   | true =>
    go_enter Tryz.func48,Tryz.ntmps48
    go_wp2_with (go_at_call 75;refine (small_any _ _).mono ?_;rintro e w' ⟨rfl,rfl⟩)
    go_loop [3] (fun i=>∃ k:Nat,k<=s.size/\i=.int .i64 k/\(s.data.toList.take k).all (fun c=>partB (c.toNat:Int))=true) (fun i=>s.size - (intOf i).toNat)
    case atStart=>exact ⟨0,Nat.zero_le _,rfl,rfl⟩
    case round =>
     obtain ⟨k,hk,rfl,hall⟩:=hrel;have HA:=hid hall;clear hall
     by_cases hlt:k<s.size
     ·cases hp:partB (s[k].toNat:Int) with
      | false =>
       go_wp2_with (go_at_call 76;refine (part_any _ _).mono ?_;rintro e w' ⟨rfl,rfl⟩)
       go_ret
       exact ⟨ret_bool (by rw [HN.out,all_of_not hlt hp];simp),rfl⟩
      | true =>
       go_wp2_with (go_at_call 76;refine (part_any _ _).mono ?_;rintro e w' ⟨rfl,rfl⟩)
       go_round
       case rel=>exact ⟨k+1,by omega,by go_num,by rw [take_snoc s k hlt];simp [HA.out,hp]⟩
       case measure=>simp [intOf];omega
     ·go_wp2
      go_ret
      have ht:s.data.toList.take k=s.data.toList:=List.take_of_length_le (by simp;omega)
      exact ⟨ret_bool (by rw [HN.out,h2,<- ht,HA.out];simp [h1]),rfl⟩
  ·have hb:¬ ((s.size:Int)<=16):=by omega
   go_enter Tryz.func48,Tryz.ntmps48
   go_wp2_with (go_at_call 75;refine (small_any _ _).mono ?_;rintro e w' ⟨rfl,rfl⟩)
   go_ret
   exact ⟨ret_bool (by rw [HN.out];simp [h1]),rfl⟩
 ·have he:=isEmpty_of_zero (s:=s) (by omega)
  have hz:Hid (_=_):=nameB_zero (s:=s) (by omega)
  go_enter Tryz.func48,Tryz.ntmps48
  go_wp2
  go_ret
  exact ⟨ret_bool hz.out.symm,rfl⟩
def rnm (s:ByteArray) (r:RS):ByteArray × RS :=
 let n:=(rb s r).1;let q:=(rb s r).2
 if q.bad||decide (s.size<q.pos+n) then (ByteArray.empty,⟨q.pos,true⟩)
 else (s.extract q.pos (q.pos+n),⟨q.pos+n,!(nameB (s.extract q.pos (q.pos+n)).data.toList)⟩)
theorem rb_pos (s:ByteArray) (r:RS) (h:r.pos<=s.size):(rb s r).2.pos<=s.size:=by
 unfold rb;split
 ·simp;omega
 ·exact h
set_option maxHeartbeats 800000 in
theorem rname_any (b:Nat) (s:ByteArray) (r:RS) (w:World) (hs:s.size<=maxLen) (hp:r.pos<=s.size) (h:RdAt w b s r) :
  Calls Tryz.prog 24 #[.pointer (some ⟨b,0,none⟩)] w fun e w'=>e=.returned (.string (rnm s r).1)/\RdAt w' b s (rnm s r).2/\Mods (Only b) w w':=by
 have l1:=rb_le s r
 have l2:=rb_pos s r hp
 have hs':=hs
 unfold maxLen at hs'
 go_enter Tryz.func24,Tryz.ntmps24
 go_wp2_with fail
 refine (rbyte_any b s r _ hs h).mono ?_
 rintro e w1 ⟨rfl,h1,m1⟩
 have e0:Hid (rnm s r=if (rb s r).2.bad||decide (s.size<(rb s r).2.pos+(rb s r).1) then (ByteArray.empty,⟨(rb s r).2.pos,true⟩)
   else (s.extract (rb s r).2.pos ((rb s r).2.pos+(rb s r).1),⟨(rb s r).2.pos+(rb s r).1,!(nameB (s.extract (rb s r).2.pos ((rb s r).2.pos+(rb s r).1)).data.toList)⟩)):=rfl
 generalize hq:rb s r=q at *
 obtain ⟨n,p,bad⟩:=q;simp only at *;clear hq
 have c0:=h1.cell 0
 have c1:=h1.cell 1
 have c2:=h1.cell 2
 have f1:=h1.frozen 1
 have f2:=h1.frozen 2
 simp at c0 c1 c2
 cases bad with
 | true =>
  go_wp2
  go_quiet (fail)
  go_wp2
  go_ret;rw [e0.out]
  exact ⟨rfl,(h1.drewN _).set 2 _,(m1.drewN _).setb 2 _⟩
 | false =>
  by_cases hlt:s.size<p+n
  ·have hd:decide ((s.size:Int) - (p:Int)<(n:Int))=true:=by simp;omega
   go_wp2
   go_quiet (fail)
   go_wp2
   go_ret
   rw [e0.out,if_pos (by simp [hlt])]
   exact ⟨rfl,(h1.drewN _).set 2 _,(m1.drewN _).setb 2 _⟩
  ·have hd:decide ((s.size:Int) - (p:Int)<(n:Int))=false:=by simp;omega
   have hle:p+n<=s.size:=by omega
   go_wp2
   go_quiet (fail)
   go_wp2
   go_quiet (fail);go_wp2_with fail
   refine (isName_any _ _ (by simp only [ByteArray.size_extract];unfold maxLen;omega)).mono ?_
   rintro e w2 ⟨rfl,rfl⟩
   cases hn:nameB (s.extract p (p+n)).data.toList with
   | true =>
    go_wp2
    go_ret
    rw [e0.out,if_neg (by simp [hle])]
    exact ⟨rfl,by simp only [hn,Bool.not_true];exact (h1.drewN _).set 1 _,(m1.drewN _).setb 1 _⟩
   | false =>
    go_wp2
    go_ret
    rw [e0.out,if_neg (by simp [hle])]
    exact ⟨rfl,by simp only [hn,Bool.not_false];exact ((h1.drewN _).set 1 _).set 2 _,((m1.drewN _).setb 1 _).setb 2 _⟩
def T (l:List UInt8):ByteArray:=⟨l.toArray⟩
def strs (l:List ByteArray):Array Value:=(l.map Value.string).toArray
def reckonsL:List ByteArray:=[T [109,111,118],T [97,100,100],T [115,117,98],T [109,117,108],T [100,105,118],T [109,111,100],T [97,110,100],T [111,114],T [120,111,114],T [108,115,104],T [114,115,104],T [97,115,104],T [110,101,103]]
set_option maxHeartbeats 400000 in
theorem reckons_any (w:World) :
  Calls Tryz.prog 52 #[] w fun e w'=>e=.returned (.slice (some ⟨w.heap.size,0,none⟩) 13 13)/\Blk w' w.heap.size (strs reckonsL) 9/\Mods Nil' w w':=by
 go_enter Tryz.func52,Tryz.ntmps52
 go_wp2
 go_ret
 exact ⟨rfl,Blk.new _ _ _,(Mods.refl _ _).alloc _⟩
def comparesL:List ByteArray:=[T [106,97],T [106,101,113],T [106,110,101],T [106,103,116],T [106,103,101],T [106,108,116],T [106,108,101],T [106,115,103,116],T [106,115,103,101],T [106,115,108,116],T [106,115,108,101],T [106,115,101,116]]
def helpersL:List ByteArray:=[T [103,101,116],T [112,117,116],T [100,101,108],T [108,111,103]]
set_option maxHeartbeats 400000 in
theorem compares_any (w:World) :
  Calls Tryz.prog 53 #[] w fun e w'=>e=.returned (.slice (some ⟨w.heap.size,0,none⟩) 12 12)/\Blk w' w.heap.size (strs comparesL) 9/\Mods Nil' w w':=by
 go_enter Tryz.func53,Tryz.ntmps53
 go_wp2
 go_ret
 exact ⟨rfl,Blk.new _ _ _,(Mods.refl _ _).alloc _⟩
set_option maxHeartbeats 400000 in
theorem helpers_any (w:World) :
  Calls Tryz.prog 30 #[] w fun e w'=>e=.returned (.slice (some ⟨w.heap.size,0,none⟩) 4 4)/\Blk w' w.heap.size (strs helpersL) 9/\Mods Nil' w w':=by
 go_enter Tryz.func30,Tryz.ntmps30
 go_wp2
 go_ret
 exact ⟨rfl,Blk.new _ _ _,(Mods.refl _ _).alloc _⟩
def placeM (s:ByteArray):List ByteArray->Int
 | []=>-1
 | x::l=>if x=s then 0 else if placeM s l<0 then -1 else placeM s l+1
theorem strs_get (l:List ByteArray) (k:Nat) (h:k<l.length):(strs l)[k]?=some (Value.string l[k]):=by
 simp [strs,h]
theorem placeM_none (s:ByteArray):∀ (l:List ByteArray),(∀ j,(hj:j<l.length)->l[j]≠s)->placeM s l=-1
 | [],_=>rfl
 | x::l,h=>by
  have h0:x≠s:=h 0 (by simp)
  have ih:=placeM_none s l (fun j hj=>h (j+1) (by simp;omega))
  simp [placeM,h0,ih]
theorem placeM_at (s:ByteArray):∀ (l:List ByteArray) (k:Nat) (hk:k<l.length),(∀ j,(hj:j<l.length)->j<k->l[j]≠s)->l[k]=s->placeM s l=k
 | x::l,0,_,_,h=>by simp at h;simp [placeM,h]
 | x::l,k+1,hk,h,he=>by
  have h0:x≠s:=h 0 (by simp) (by omega)
  have ih:=placeM_at s l k (by simpa using hk) (fun j hj hjk=>h (j+1) (by simp;omega) (by omega)) (by simpa using he)
  simp [placeM,h0,ih];omega
theorem toList_inj {a b:ByteArray} (h:a.toList=b.toList):a=b:=by
 rw [ByteArray.toList_eq,ByteArray.toList_eq] at h
 cases a;cases b;simpa using h
theorem str_ne {a b:ByteArray} (h:a≠b):(a.toList==b.toList)=false:=by
 rw [beq_eq_false_iff_ne];exact fun e=>h (toList_inj e)
theorem str_eq {a b:ByteArray} (h:a=b):(a.toList==b.toList)=true:=by simp [h]
theorem ret_i64 {a b:Int} (h:a=b):Ending.returned (.int .i64 a)=.returned (.int .i64 b):=by rw [h]
set_option maxHeartbeats 400000 in
theorem place_any (s:ByteArray) (b:Nat) (l:List ByteArray) (w:World) (hl:l.length<=1000) (h:Blk w b (strs l) 9) :
  Calls Tryz.prog 29 #[.string s,.slice (some ⟨b,0,none⟩) l.length l.length] w fun e w'=>e=.returned (.int .i64 (placeM s l))/\w'=w:=by
 go_enter Tryz.func29,Tryz.ntmps29
 go_wp2
 go_loop [5] (fun i=>∃ k:Nat,k<=l.length/\i=.int .i64 k/\∀ j,(hj:j<l.length)->j<k->l[j]≠s) (fun i=>l.length - (intOf i).toNat)
 case atStart=>exact ⟨0,Nat.zero_le _,rfl,fun j _ h=>absurd h (Nat.not_lt_zero _)⟩
 case round =>
  obtain ⟨k,hk,rfl,hn⟩:=hrel
  have HN:Hid _:=hn
  clear hn
  by_cases hlt:k<l.length
  ·have hc:=h.cell k
   rw [strs_get l k hlt] at hc
   by_cases he:l[k]=s
   ·have hpl:=placeM_at s l k hlt (fun j hj hjk=>HN.out j hj hjk) he
    have HP:=hid hpl;clear hpl
    go_wp2
    go_ret
    exact ⟨ret_i64 HP.out.symm,rfl⟩
   ·have hb:=str_ne he
    have HE:Hid _:=he
    clear he
    go_wp2
    go_round
    case rel=>exact ⟨k+1,by omega,by go_num,fun j hj hjk=>by
     by_cases e:j=k
     ·subst e;exact HE.out
     ·exact HN.out j hj (by omega)⟩
    case measure=>simp [intOf];omega
  ·have HP:Hid (placeM s l=-1):=placeM_none s l (fun j hj=>HN.out j hj (by omega))
   go_wp2
   go_ret
   exact ⟨ret_i64 HP.out.symm,rfl⟩
def BL (b:ByteArray):List UInt8:=b.data.toList
theorem T_BL (b:ByteArray):T (BL b)=b:=rfl
theorem BL_len (b:ByteArray):(BL b).length=b.size:=rfl
def sizeM (s:ByteArray) (c:Int):Int :=
 if h:s.size=3 then
  if s.extract 0 2=(if c=115 then T [115,116] else T [108,100])/\((s[2].toNat:Int)=49\/(s[2].toNat:Int)=50\/(s[2].toNat:Int)=52\/(s[2].toNat:Int)=56) then (s[2].toNat:Int) - 48 else 0
 else 0
theorem sizeM_no {s:ByteArray} {c:Int} (h:s.size≠3):sizeM s c=0:=by simp [sizeM,h]
theorem sizeM_of {s:ByteArray} {c:Int} (h:s.size=3):sizeM s c=(if s.extract 0 2=(if c=115 then T [115,116] else T [108,100])/\((s[2].toNat:Int)=49\/(s[2].toNat:Int)=50\/(s[2].toNat:Int)=52\/(s[2].toNat:Int)=56) then (s[2].toNat:Int) - 48 else 0):=by
 unfold sizeM;rw [dif_pos h]
set_option maxHeartbeats 400000 in
theorem size_three (s:ByteArray) (c:Int) (w:World) (hs:s.size<=maxLen) (hb:((s.size:Int) != 3)=false) (hgt:2<s.size) (H3:Hid (s.size=3)) :
  Calls Tryz.prog 54 #[.string s,.int .u8 c] w fun e w'=>e=.returned (.int .i64 (sizeM s c))/\w'=w:=by
 unfold maxLen at hs
 have hl:s[2].toNat<256:=(s[2]).toNat_lt
 have HF:Hid (_=_):=sizeM_of (c:=c) H3.out
 by_cases hc:c=115
 ·subst hc
  by_cases hp:s.extract 0 2=T [115,116]
  ·have hp':((s.extract 0 2).toList==[115,116])=true:=by rw [hp];simp [T]
   have HP:Hid _:=hp
   clear hp
   by_cases hn:(s[2].toNat:Int)=49\/(s[2].toNat:Int)=50\/(s[2].toNat:Int)=52\/(s[2].toNat:Int)=56
   ·have HV:Hid (sizeM s 115=(s[2].toNat:Int) - 48):=by rw [Hid,HF.out,if_pos ⟨by simp [HP.out],hn⟩]
    have hge:48<=(s[2].toNat:Int):=by omega
    rcases hn with hn | hn | hn | hn
    all_goals
     go_enter Tryz.func54,Tryz.ntmps54
     go_wp2
     go_ret
     exact ⟨ret_i64 (by rw [HV.out];omega),rfl⟩
   ·have HV:Hid (sizeM s 115=0):=by rw [Hid,HF.out,if_neg (fun e=>hn e.2)]
    have h1:((s[2].toNat:Int) - 48==1)=false:=by simp;omega
    have h2:((s[2].toNat:Int) - 48==2)=false:=by simp;omega
    have h3:((s[2].toNat:Int) - 48==4)=false:=by simp;omega
    have h4:((s[2].toNat:Int) - 48==8)=false:=by simp;omega
    clear hn
    go_enter Tryz.func54,Tryz.ntmps54
    go_wp2
    go_ret
    exact ⟨ret_i64 HV.out.symm,rfl⟩
  ·have hp':((s.extract 0 2).toList==[115,116])=false:=by simpa [T] using str_ne hp
   have HV:Hid (sizeM s 115=0):=by rw [Hid,HF.out,if_neg (fun e=>hp (by simpa using e.1))]
   clear hp
   go_enter Tryz.func54,Tryz.ntmps54
   go_wp2
   go_ret
   exact ⟨ret_i64 HV.out.symm,rfl⟩
 ·have hc':(c==115)=false:=by simp [hc]
  have HC:=hid hc;clear hc
  by_cases hp:s.extract 0 2=T [108,100]
  ·have hp':((s.extract 0 2).toList==[108,100])=true:=by rw [hp];simp [T]
   have HP:Hid _:=hp
   clear hp
   by_cases hn:(s[2].toNat:Int)=49\/(s[2].toNat:Int)=50\/(s[2].toNat:Int)=52\/(s[2].toNat:Int)=56
   ·have HV:Hid (sizeM s c=(s[2].toNat:Int) - 48):=by rw [Hid,HF.out,if_pos ⟨by rw [if_neg HC.out];exact HP.out,hn⟩]
    rcases hn with hn | hn | hn | hn
    all_goals
     go_enter Tryz.func54,Tryz.ntmps54
     go_wp2
     go_ret
     exact ⟨ret_i64 (by rw [HV.out];omega),rfl⟩
   ·have HV:Hid (sizeM s c=0):=by rw [Hid,HF.out,if_neg (fun e=>hn e.2)]
    have h1:((s[2].toNat:Int) - 48==1)=false:=by simp;omega
    have h2:((s[2].toNat:Int) - 48==2)=false:=by simp;omega
    have h3:((s[2].toNat:Int) - 48==4)=false:=by simp;omega
    have h4:((s[2].toNat:Int) - 48==8)=false:=by simp;omega
    clear hn
    go_enter Tryz.func54,Tryz.ntmps54
    go_wp2
    go_ret
    exact ⟨ret_i64 HV.out.symm,rfl⟩
  ·have hp':((s.extract 0 2).toList==[108,100])=false:=by simpa [T] using str_ne hp
   have HV:Hid (sizeM s c=0):=by rw [Hid,HF.out,if_neg (fun e=>hp (by have:=e.1;rwa [if_neg HC.out] at this))]
   clear hp
   go_enter Tryz.func54,Tryz.ntmps54
   go_wp2
   go_ret
   exact ⟨ret_i64 HV.out.symm,rfl⟩
set_option maxHeartbeats 400000 in
theorem size_any (s:ByteArray) (c:Int) (w:World) (hs:s.size<=maxLen) :
  Calls Tryz.prog 54 #[.string s,.int .u8 c] w fun e w'=>e=.returned (.int .i64 (sizeM s c))/\w'=w:=by
 by_cases h3:s.size=3
 ·exact size_three s c w hs (by simp;omega) (by omega) h3
 ·unfold maxLen at hs
  have hb:((s.size:Int) != 3)=true:=by simp;omega
  have HF:Hid (sizeM s c=0):=sizeM_no h3
  clear h3
  go_enter Tryz.func54,Tryz.ntmps54
  go_wp2
  go_ret
  exact ⟨ret_i64 HF.out.symm,rfl⟩
def baseM (s:ByteArray):ByteArray:=if 2<s.size/\s.extract (s.size - 2) s.size=T [51,50] then s.extract 0 (s.size - 2) else s
def sortM (s:ByteArray):Int :=
 if 0<=placeM (baseM s) reckonsL then 114
 else if 0<=placeM s comparesL then 106
 else if 0<sizeM s 108 then 108
 else if 0<sizeM s 115 then 115
 else if s=T [119,105,100,101] then 119
 else if s=T [104,101,108,112] then 104
 else if s=T [99,97,108,108] then 99
 else if s=T [101,120,105,116] then 101
 else 0
theorem Mods.of_nil {S:Nat->Prop} {w w':World} (h:Mods Nil' w w'):Mods S w w':=h.mono (fun _ _ e=>e.elim)
theorem ret_u8 {a b:Int} (h:a=b):Ending.returned (.int .u8 a)=.returned (.int .u8 b):=by rw [h]
theorem place_reckons (s:ByteArray) (b:Nat) (w:World) (h:Blk w b (strs reckonsL) 9) :
  Calls Tryz.prog 29 #[.string s,.slice (some ⟨b,0,none⟩) 13 13] w fun e w'=>e=.returned (.int .i64 (placeM s reckonsL))/\w'=w :=
 place_any s b reckonsL w (by decide) h
theorem place_compares (s:ByteArray) (b:Nat) (w:World) (h:Blk w b (strs comparesL) 9) :
  Calls Tryz.prog 29 #[.string s,.slice (some ⟨b,0,none⟩) 12 12] w fun e w'=>e=.returned (.int .i64 (placeM s comparesL))/\w'=w :=
 place_any s b comparesL w (by decide) h
theorem lit_ne {a:ByteArray} {l:List UInt8} (h:a≠T l):(a.toList==l)=false:=by
 have:=str_ne h;simpa [T] using this
theorem lit_eq {a:ByteArray} {l:List UInt8} (h:a=T l):(a.toList==l)=true:=by
 rw [h];simp [T]
set_option maxHeartbeats 1000000 in
theorem sort_any (s:ByteArray) (w:World) (hs:s.size<=maxLen) :
  Calls Tryz.prog 33 #[.string s] w fun e w'=>e=.returned (.int .u8 (sortM s))/\Mods Nil' w w':=by
 have hs':=hs
 unfold maxLen at hs'
 have HS:Hid (_=_):=sortM.eq_1 s
 generalize hbs:baseM s=base at HS
 have hcase:(2<s.size/\((s.extract (s.size - 2) s.size).toList==[51,50])=true/\s.extract 0 (s.size - 2)=base) \/
   (2<s.size/\((s.extract (s.size - 2) s.size).toList==[51,50])=false/\s=base)\/(¬ 2<s.size/\s=base):=by
  subst hbs;unfold baseM
  by_cases h2:2<s.size
  ·by_cases h32:s.extract (s.size - 2) s.size=T [51,50]
   ·exact .inl ⟨h2,lit_eq h32,(if_pos ⟨h2,h32⟩).symm⟩
   ·exact .inr (.inl ⟨h2,lit_ne h32,(if_neg (fun e=>h32 e.2)).symm⟩)
  ·exact .inr (.inr ⟨h2,(if_neg (fun e=>h2 e.1)).symm⟩)
 clear hbs
 rcases hcase with ⟨h2,hq,rfl⟩ | ⟨h2,hq,rfl⟩ | ⟨h2,rfl⟩
 all_goals
  go_enter Tryz.func33,Tryz.ntmps33
  go_wp2_with fail
  refine (reckons_any _).mono ?_
  rintro e w1 ⟨rfl,b1,m1⟩;go_wp2_with fail
  refine (place_reckons _ _ _ b1).mono ?_
  rintro e w2 ⟨rfl,rfl⟩
  have HS2:=HS.out
  clear HS
  split at HS2
  ·rename_i t1
   have HV:=hid HS2;clear HS2
   go_wp2
   go_ret
   exact ⟨ret_u8 HV.out.symm,m1⟩
  rename_i t1
  have HS:=hid HS2;clear HS2;go_wp2_with fail
  refine (compares_any _).mono ?_
  rintro e w3 ⟨rfl,b3,m3⟩;go_wp2_with fail
  refine (place_compares _ _ _ b3).mono ?_
  rintro e w4 ⟨rfl,rfl⟩
  by_cases t2:0<=placeM s comparesL
  ·have HV:Hid (sortM s=106):=by rw [Hid,HS.out,if_pos t2]
   go_wp2
   go_ret
   exact ⟨ret_u8 HV.out.symm,m1.trans m3⟩
  rw [if_neg t2] at HS;go_wp2_with fail
  refine (size_any _ _ _ hs).mono ?_
  rintro e w5 ⟨rfl,rfl⟩
  by_cases t3:0<sizeM s 108
  ·have HV:Hid (sortM s=108):=by rw [Hid,HS.out,if_pos t3]
   go_wp2
   go_ret
   exact ⟨ret_u8 HV.out.symm,m1.trans m3⟩
  rw [if_neg t3] at HS;go_wp2_with fail
  refine (size_any _ _ _ hs).mono ?_
  rintro e w6 ⟨rfl,rfl⟩
  by_cases t4:0<sizeM s 115
  ·have HV:Hid (sortM s=115):=by rw [Hid,HS.out,if_pos t4]
   go_wp2
   go_ret
   exact ⟨ret_u8 HV.out.symm,m1.trans m3⟩
  rw [if_neg t4] at HS
  by_cases t5:s=T [119,105,100,101]
  ·have q5:=lit_eq t5
   have HV:Hid (sortM s=119):=by rw [Hid,HS.out,if_pos t5]
   clear t5
   go_wp2
   go_ret
   exact ⟨ret_u8 HV.out.symm,m1.trans m3⟩
  have q5:=lit_ne t5
  rw [if_neg t5] at HS;clear t5
  by_cases t6:s=T [104,101,108,112]
  ·have q6:=lit_eq t6
   have HV:Hid (sortM s=104):=by rw [Hid,HS.out,if_pos t6]
   clear t6
   go_wp2
   go_ret
   exact ⟨ret_u8 HV.out.symm,m1.trans m3⟩
  have q6:=lit_ne t6
  rw [if_neg t6] at HS;clear t6
  by_cases t7:s=T [99,97,108,108]
  ·have q7:=lit_eq t7
   have HV:Hid (sortM s=99):=by rw [Hid,HS.out,if_pos t7]
   clear t7
   go_wp2
   go_ret
   exact ⟨ret_u8 HV.out.symm,m1.trans m3⟩
  have q7:=lit_ne t7
  rw [if_neg t7] at HS;clear t7
  by_cases t8:s=T [101,120,105,116]
  ·have q8:=lit_eq t8
   have HV:Hid (sortM s=101):=by rw [Hid,HS.out,if_pos t8]
   clear t8
   go_wp2
   go_ret
   exact ⟨ret_u8 HV.out.symm,m1.trans m3⟩
  have q8:=lit_ne t8
  rw [if_neg t8] at HS;clear t8
  go_wp2
  go_ret
  exact ⟨ret_u8 HS.out.symm,m1.trans m3⟩
end Go.Proofs.YtoknbkfclhmapaaGreatDoor
