import Derived.Test.YtoknbkfclhmapaaGreatDoorC10
import Derived.Test.YtoknbkfclhmapaaGreatDoorC12
import Derived.Test.YtoknbkfclhmapaaGreatDoorC13
import Derived.Test.YtoknbkfclhmapaaGreatDoorC11
import Derived.Test.YtoknbkfclhmapaaGreatDoorC05
import Derived.Test.YtoknbkfclhmapaaGreatDoorC04
import Derived.Test.YtoknbkfclhmapaaGreatDoorC03
import Derived.Test.YtoknbkfclhmapaaGreatDoorC02
namespace Go.Proofs.YtoknbkfclhmapaaGreatDoor
open Go.RowKit
theorem ins_any (b:Nat) (s:ByteArray) (r:RS) (w:World) (hs:s.size<=maxLen) (h:RdAt w b s r) :
  Calls Tryz.prog 49 #[.pointer (some ⟨b,0,none⟩)] w fun e w'=>e=.returned (insM s r).val/\RdAt w' b s (insM s r).r/\Mods (Only b) w w':=by
 cases hok:(wordM (rsl s r).1.op).2 with
 | false=>exact ins_no1 b s r w hs h hok
 | true =>
 cases hb:(rsl s r).2.bad with
 | true=>exact ins_no2 b s r w hs h hok hb
 | false =>
 by_cases hd:(rsl s r).1.d<=10
 case neg=>exact ins_no3 b s r w hs h hok hb (by omega)
 by_cases hsr:(rsl s r).1.s<=10
 case neg=>exact ins_no4 b s r w hs h hok hb hd (by omega)
 have hq:=word_sorts (rsl s r).1.op hok
 rcases hq with hk | hk | hk | ⟨hs0,hk⟩
 ·by_cases hby:(wordM (rsl s r).1.op).1.s<0
  ·exact ins_r1 b s r w hs h hok hb hd hsr hk hby
  ·by_cases hw:(wordM (rsl s r).1.op).1.word=T [110,101,103]
   ·exact ins_r2 b s r w hs h hok hb hd hsr hk hby hw
   ·exact ins_r3 b s r w hs h hok hb hd hsr hk hby hw
 ·by_cases hby:(wordM (rsl s r).1.op).1.s<0
  ·by_cases hw:(wordM (rsl s r).1.op).1.word=T [106,97]
   ·exact ins_j2 b s r w hs h hok hb hd hsr hk hby hw
   ·exact ins_j1 b s r w hs h hok hb hd hsr hk hby hw
  ·by_cases hw:(wordM (rsl s r).1.op).1.word=T [106,97]
   ·exact ins_j4 b s r w hs h hok hb hd hsr hk hby hw
   ·exact ins_j3 b s r w hs h hok hb hd hsr hk hby hw
 ·by_cases hby:(wordM (rsl s r).1.op).1.s<0
  ·rcases hk with hk | hk
   ·exact ins_l1 b s r w hs h hok hb hd hsr hk hby
   ·exact ins_s1 b s r w hs h hok hb hd hsr hk hby
  ·rcases hk with hk | hk
   ·exact ins_l2 b s r w hs h hok hb hd hsr hk hby
   ·exact ins_s2 b s r w hs h hok hb hd hsr hk hby
 ·rcases hk with hk | hk | hk
  ·by_cases h1:(rsl s r).1.s=1
   ·exact ins_w1 b s r w hs h hok hb hd hsr hk hs0 h1
   ·exact ins_w2 b s r w hs h hok hb hd hsr hk hs0 h1
  ·by_cases hn:(rsl s r).1.s=0/\1<=(rsl s r).1.n/\(rsl s r).1.n<=4/\(rsl s r).1.d=0/\(rsl s r).1.jump=0
   ·obtain ⟨a1,a2,a3,a4,a5⟩:=hn
    exact ins_h b s r w hs h hok hb hd hsr hk hs0 ((rsl s r).1.n.toNat - 1) (by unfold Hid;omega) ⟨a1,by omega,a4,a5⟩
   ·exact ins_c b s r w hs h hok hb hd hsr hk hs0 hn
  ·exact ins_e b s r w hs h hok hb hd hsr hk hs0
theorem decimal_int (x:Int) (h0:0<=x) (h1:x<18446744073709551616) (w:World) :
  Calls Tryz.prog 79 #[.int .u64 x] w fun e w'=>e=.returned (.string (T (decM x.toNat)))/\Mods Nil' w w':=by
 obtain ⟨n,rfl⟩:∃ n:Nat,x=n:=⟨x.toNat,by omega⟩
 simpa using decimal_any n (by omega) w
theorem open_text {l:List UInt8} {k:Nat} (h:l.length<=k):∃ s:ByteArray,Hid (s=T l)/\s.size<=k:=⟨T l,rfl,by rw [T_size];exact h⟩
theorem ret_str {a b:ByteArray} (h:a=b):Ending.returned (.string a)=.returned (.string b):=by rw [h]
structure RIns.Fit (i:RIns):Prop where
 d0:0<=i.d
 d1:i.d<=15
 s1:i.s<=15
 s0:-1<=i.s
 j0:-32768<=i.jump
 j1:i.jump<=32767
 n0:0<=i.n
 n1:i.n<18446744073709551616
 word:i.word.size<=100
 label:i.label.size<=100
 name:i.name.size<=300
 is32:i.is32=true->sortM i.word=114
 sort:sortM i.word=114\/sortM i.word=106\/(sortM i.word=108/\0<=i.s)\/sortM i.word=115\/sortM i.word=119\/sortM i.word=104\/sortM i.word=99\/sortM i.word=101
def WIDE:ByteArray:=T [119,105,100,101]
def CALL:ByteArray:=T [99,97,108,108]
def EXIT:ByteArray:=T [101,120,105,116]
def slotsI (word:ByteArray):Nat:=if word=WIDE then 2 else 1
def endsI (word:ByteArray):Bool:=decide (word=EXIT)||decide (word=JA)
theorem slots_any (i:RIns) (w:World) :
  Calls Tryz.prog 35 #[.agg i.cells] w fun e w'=>e=.returned (.int .i64 (slotsI i.word))/\Mods Nil' w w':=by
 obtain ⟨word,is32,d,s,jump,n,label,name⟩:=i
 simp only
 by_cases h:word=WIDE
 ·have q:=lit_eq h
  have HE:Hid (slotsI word=2):=by rw [Hid,slotsI,if_pos h]
  clear h;unfold RIns.cells
  go_enter Tryz.func35,Tryz.ntmps35
  go_wp2
  go_ret
  exact ⟨by rw [HE.out];rfl,((Mods.refl _ _).alloc _)⟩
 ·have q:=lit_ne h
  have HE:Hid (slotsI word=1):=by rw [Hid,slotsI,if_neg h]
  clear h;unfold RIns.cells
  go_enter Tryz.func35,Tryz.ntmps35
  go_wp2
  go_ret
  exact ⟨by rw [HE.out];rfl,((Mods.refl _ _).alloc _)⟩
theorem ends_any (i:RIns) (w:World) :
  Calls Tryz.prog 50 #[.agg i.cells] w fun e w'=>e=.returned (.bool (endsI i.word))/\Mods Nil' w w':=by
 obtain ⟨word,is32,d,s,jump,n,label,name⟩:=i
 simp only
 by_cases h:word=EXIT
 ·have q:=lit_eq h
  have HE:Hid (endsI word=true):=by rw [Hid,endsI,decide_eq_true h];rfl
  clear h;unfold RIns.cells
  go_enter Tryz.func50,Tryz.ntmps50
  go_wp2
  go_ret
  exact ⟨by rw [HE.out];rfl,((Mods.refl _ _).alloc _)⟩
 ·have q:=lit_ne h
  by_cases h2:word=JA
  ·have q2:=lit_eq h2
   have HE:Hid (endsI word=true):=by rw [Hid,endsI,decide_eq_true h2,Bool.or_true]
   clear h h2;unfold RIns.cells
   go_enter Tryz.func50,Tryz.ntmps50
   go_wp2
   go_ret
   exact ⟨by rw [HE.out];rfl,((Mods.refl _ _).alloc _)⟩
  ·have q2:=lit_ne h2
   have HE:Hid (endsI word=false):=by rw [Hid,endsI,decide_eq_false h,decide_eq_false h2];rfl
   clear h h2;unfold RIns.cells
   go_enter Tryz.func50,Tryz.ntmps50
   go_wp2
   go_ret
   exact ⟨by rw [HE.out];rfl,((Mods.refl _ _).alloc _)⟩
def wordL (i:RIns):List UInt8:=BL i.word++(if i.is32 then [51,50] else [])
end Go.Proofs.YtoknbkfclhmapaaGreatDoor
