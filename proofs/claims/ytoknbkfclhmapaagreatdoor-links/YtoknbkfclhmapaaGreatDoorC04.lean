import Derived.Test.YtoknbkfclhmapaaGreatDoorC03
import Derived.Test.YtoknbkfclhmapaaGreatDoorC02
import Derived.Lib.ItoaNum
namespace Go.Proofs.YtoknbkfclhmapaaGreatDoor
open Go.RowKit
def labelM (nm:ByteArray):List (ByteArray × Int)->Int
 | []=>-1
 | (l,p)::ls=>if l=nm then p else labelM nm ls
def strL (l:List ByteArray):List Value:=l.map Value.string
def intL (l:List Int):List Value:=l.map (Value.int .i64)
theorem labelM_drop (nm:ByteArray) (l:List (ByteArray × Int)) (k:Nat) (h:k<l.length):labelM nm (l.drop k)=if l[k].1=nm then l[k].2 else labelM nm (l.drop (k+1)):=by
 rw [List.drop_eq_getElem_cons h];rfl
theorem Sl.at {w:World} {e:TypeId} {v:Value} {n:Nat} {xs:List Value} {o:Option Addr} {cap:Nat} (h:Sl w e 1 v n xs) (hv:v=.slice o n cap):∀ k,k<n->∃ g,o=some ⟨g,0,none⟩/\∀ j,j<n->w.cell? ⟨g,j,none⟩=xs[j]?:=by
 intro k hk;obtain ⟨o',cap',rfl,h2⟩:=h.view
 cases hv
 obtain ⟨g,cs,rfl,hb,ht,_⟩:=h2 (by omega)
 exact ⟨g,rfl,fun j hj=>take_cell hb ht j (by omega)⟩
set_option maxHeartbeats 400000 in
theorem label_any (fb off:Nat) (nm:ByteArray) (ls:List (ByteArray × Int)) (vL vP:Value) (w:World) (h4:w.cell? ⟨fb,off+4,none⟩=some vL) (h5:w.cell? ⟨fb,off+5,none⟩=some vP)
  (sL:Sl w 9 1 vL ls.length (strL (ls.map (·.1)))) (sP:Sl w 3 1 vP ls.length (intL (ls.map (·.2)))) (hb:ls.length<=1000) :
  Calls Tryz.prog 34 #[.pointer (some ⟨fb,off,none⟩),.string nm] w fun e w'=>e=.returned (.int .i64 (labelM nm ls))/\w'=w:=by
 obtain ⟨oL,cL,rfl,_⟩:=sL.view;obtain ⟨oP,cP,rfl,_⟩:=sP.view
 go_enter Tryz.func34,Tryz.ntmps34
 go_wp2
 go_loop [5] (fun i=>∃ k:Nat,k<=ls.length/\i=.int .i64 k/\labelM nm (ls.drop k)=labelM nm ls) (fun i=>ls.length - (intOf i).toNat)
 case atStart=>exact ⟨0,Nat.zero_le _,rfl,by simp⟩
 case round =>
  obtain ⟨k,hk,rfl,hn⟩:=hrel
  have HN:Hid _:=hn
  clear hn
  by_cases hlt:k<ls.length
  ·obtain ⟨gL,rfl,cellL⟩:=sL.at rfl k hlt;obtain ⟨gP,rfl,cellP⟩:=sP.at rfl k hlt
   have c1:w.cell? ⟨gL,k,none⟩=some (.string ls[k].1):=by rw [cellL k hlt];simp [strL,hlt]
   have c2:w.cell? ⟨gP,k,none⟩=some (.int .i64 ls[k].2):=by rw [cellP k hlt];simp [intL,hlt]
   clear cellL cellP
   have HD:Hid (_=_):=labelM_drop nm ls k hlt
   by_cases he:ls[k].1=nm
   ·have q:=str_eq he
    have HP:Hid (labelM nm ls=ls[k].2):=by rw [Hid,<- HN.out,HD.out,if_pos he]
    clear he
    go_wp2
    go_ret
    exact ⟨ret_i64 HP.out.symm,rfl⟩
   ·have q:=str_ne he
    have HP:Hid (labelM nm (ls.drop (k+1))=labelM nm ls):=by rw [Hid,<- HN.out,HD.out,if_neg he]
    clear he
    go_wp2
    go_round
    case rel=>exact ⟨k+1,by omega,by go_num,HP.out⟩
    case measure=>simp [intOf];omega
  ·have HP:Hid (labelM nm ls=-1):=by rw [Hid,<- HN.out,List.drop_eq_nil_of_le (by omega)];rfl
   go_wp2
   go_ret
   exact ⟨ret_i64 HP.out.symm,rfl⟩
structure RMap where
 name:ByteArray
 key:Int
 value:Int
 entries:Int
def RMap.cells (m:RMap):List Value:=[.string m.name,.int .i64 m.key,.int .i64 m.value,.int .i64 m.entries]
theorem RMap.cells_len (m:RMap):m.cells.length=4:=rfl
theorem Sl.at4 {w:World} {e:TypeId} {v:Value} {n:Nat} {ms:List RMap} {o:Option Addr} {cap:Nat} (h:Sl w e 4 v n (ms.flatMap RMap.cells)) (hn:n=ms.length) (hv:v=.slice o n cap) :
  ∀ k (_:k<ms.length),∃ g,o=some ⟨g,0,none⟩/\∀ j (hj:j<ms.length),w.cell? ⟨g,j*4,none⟩=some (.string ms[j].name)/\w.cell? ⟨g,j*4+1,none⟩=some (.int .i64 ms[j].key)/\w.cell? ⟨g,j*4+2,none⟩=some (.int .i64 ms[j].value)/\w.cell? ⟨g,j*4+3,none⟩=some (.int .i64 ms[j].entries):=by
 intro k hk;obtain ⟨o',cap',rfl,h2⟩:=h.view
 cases hv
 obtain ⟨g,cs,rfl,hb,ht,_⟩:=h2 (by omega)
 subst hn
 refine ⟨g,rfl,fun j hj=>⟨?_,?_,?_,?_⟩⟩
 ·rw [take_cell hb ht _ (by omega)];exact flat_get RMap.cells 4 RMap.cells_len ms j 0 hj (by omega)
 ·rw [take_cell hb ht _ (by omega)];exact flat_get RMap.cells 4 RMap.cells_len ms j 1 hj (by omega)
 ·rw [take_cell hb ht _ (by omega)];exact flat_get RMap.cells 4 RMap.cells_len ms j 2 hj (by omega)
 ·rw [take_cell hb ht _ (by omega)];exact flat_get RMap.cells 4 RMap.cells_len ms j 3 hj (by omega)
set_option maxHeartbeats 400000 in
theorem store_any (pb:Nat) (nm:ByteArray) (ms:List RMap) (vM:Value) (w:World) (h0:w.cell? ⟨pb,0,none⟩=some vM)
  (sM:Sl w 48 4 vM ms.length (ms.flatMap RMap.cells)) (hb:ms.length<=1000) :
  Calls Tryz.prog 12 #[.pointer (some ⟨pb,0,none⟩),.string nm] w fun e w'=>e=.returned (.int .i64 (placeM nm (ms.map (·.name))))/\w'=w:=by
 obtain ⟨oM,cM,rfl,_⟩:=sM.view
 go_enter Tryz.func12,Tryz.ntmps12
 go_wp2
 go_loop [5] (fun i=>∃ k:Nat,k<=ms.length/\i=.int .i64 k/\∀ j,(hj:j<ms.length)->j<k->ms[j].name≠nm) (fun i=>ms.length - (intOf i).toNat)
 case atStart=>exact ⟨0,Nat.zero_le _,rfl,fun j _ h=>absurd h (Nat.not_lt_zero _)⟩
 case round =>
  obtain ⟨k,hk,rfl,hn⟩:=hrel
  have HN:Hid _:=hn
  clear hn
  by_cases hlt:k<ms.length
  ·obtain ⟨g,rfl,cells⟩:=sM.at4 rfl rfl k hlt;obtain ⟨c0,_,_,_⟩:=cells k hlt;clear cells
   by_cases he:ms[k].name=nm
   ·have HP:Hid (_=_):=placeM_at nm (ms.map (·.name)) k (by simpa using hlt) (fun j hj hjk=>by simpa using HN.out j (by simpa using hj) hjk) (by simpa using he)
    have q:=str_eq he
    clear he
    go_wp2
    go_ret
    exact ⟨ret_i64 HP.out.symm,rfl⟩
   ·have q:=str_ne he
    have HE:Hid _:=he
    clear he
    go_wp2
    go_round
    case rel=>exact ⟨k+1,by omega,by go_num,fun j hj hjk=>by
     by_cases e:j=k
     ·subst e;exact HE.out
     ·exact HN.out j hj (by omega)⟩
    case measure=>simp [intOf];omega
  ·have HP:Hid (placeM nm (ms.map (·.name))=-1):=by
    refine placeM_none nm _ (fun j hj=>?_)
    have hj':j<ms.length:=by simpa using hj
    simpa using HN.out j hj' (by omega)
   go_wp2
   go_ret
   exact ⟨ret_i64 HP.out.symm,rfl⟩
def decF:Nat->Nat->List UInt8
 | 0,_=>[]
 | f+1,n=>if n<10 then [UInt8.ofNat (48+n % 10)] else decF f (n / 10)++[UInt8.ofNat (48+n % 10)]
def decM (n:Nat):List UInt8:=decF 20 n
theorem decF_len (f:Nat):∀ n,(decF f n).length<=f:=by
 induction f with
 | zero=>intro n;simp [decF]
 | succ f ih =>
  intro n;rw [decF]
  split
  ·simp
  ·have:=ih (n / 10);simp;omega
theorem decM_len (n:Nat):(decM n).length<=20:=decF_len 20 n
theorem T_size (l:List UInt8):(T l).size=l.length:=by simp [T,ByteArray.size]
theorem T_app (l m:List UInt8):T l++T m=T (l++m):=by
 apply ByteArray.ext;simp [T]
def chr1 (x:Int):ByteArray:=T [UInt8.ofNat x.toNat]
theorem chr1_size (x:Int):(chr1 x).size=1:=rfl
theorem one_byte (w:World) (x:Int) (h0:0<=x) (h1:x<=255) :
  Sem.run Tryz.prog (convert 52 9 (.slice (some ⟨w.heap.size,0,none⟩) 1 1)) (w.alloc (.cells #[.int .u8 x] 5))=.ok (.string (chr1 x)) (w.alloc (.cells #[.int .u8 x] 5)):=by
 refine run_convert_bytes_back _ 52 9 5 ⟨w.heap.size,0,none⟩ 1 [UInt8.ofNat x.toNat] Tryz.underlying52 Tryz.underlying5 Tryz.underlying9 ?_
 intro j hj
 have:j=0:=by simpa using hj
 subst this
 have e:((UInt8.ofNat x.toNat).toNat:Int)=x:=by
  rw [UInt8.toNat_ofNat'];omega
 show World.cell? _ _=some (Value.int .u8 (((UInt8.ofNat x.toNat).toNat:Nat):Int))
 rw [e]
 exact (Blk.new w #[.int .u8 x] 5).cell 0
theorem chr1_dig (n:Nat):chr1 (48+(n:Int) % 10)=T [UInt8.ofNat (48+n % 10)]:=by
 unfold chr1;congr 3
set_option maxRecDepth 100000 in
set_option maxHeartbeats 1000000 in
theorem decF_any (f:Nat):∀ (n:Nat),n<10 ^ (f+1)->n<18446744073709551616->f<=20->∀ (w:World),
  Calls Tryz.prog 79 #[.int .u64 n] w fun e w'=>e=.returned (.string (T (decF (f+1) n)))/\Mods Nil' w w':=by
 induction f with
 | zero =>
  intro n hf hn hle w
  have h:n<10:=by simpa using hf
  have hc:=one_byte w (48+(n:Int) % 10) (by omega) (by omega)
  go_enter Tryz.func79,Tryz.ntmps79
  go_wp2_with fail;go_ret
  exact ⟨by rw [decF,if_pos h,<- chr1_dig];rfl,(Mods.refl _ _).alloc _⟩
 | succ f ih =>
 intro n hf hn hle w
 have hc:=one_byte w (48+(n:Int) % 10) (by omega) (by omega)
 by_cases h:n<10
 ·go_enter Tryz.func79,Tryz.ntmps79
  go_wp2_with fail;go_ret
  exact ⟨by rw [decF,if_pos h,<- chr1_dig];rfl,(Mods.refl _ _).alloc _⟩
 ·have hl:=decF_len (f+1) (n / 10)
  have HE:Hid (T (decF (f+1+1) n)=T (decF (f+1) (n / 10))++chr1 (48+(n:Int) % 10)):=by
   unfold Hid;rw [decF,if_neg h,chr1_dig,T_app]
  rw [<- T_size] at hl
  have hc2:=chr1_size (48+(n:Int) % 10)
  have hsum:¬ 9223372036854775807<(T (decF (f+1) (n / 10))).size+(chr1 (48+(n:Int) % 10)).size:=by omega
  go_enter Tryz.func79,Tryz.ntmps79
  go_wp2_with fail
  refine (ih (n / 10) (by rw [Nat.pow_succ] at hf;omega) (by omega) (by omega) _).mono ?_
  rintro e w1 ⟨rfl,m1⟩;generalize T (decF (f+1) (n / 10))=sd at *
  generalize chr1 (48+(n:Int) % 10)=sc at *
  go_wp2_with fail;go_ret
  exact ⟨by rw [HE.out];rfl,((Mods.refl _ _).alloc _).trans m1⟩
theorem decimal_any (n:Nat) (hn:n<18446744073709551616) (w:World) :
  Calls Tryz.prog 79 #[.int .u64 n] w fun e w'=>e=.returned (.string (T (decM n)))/\Mods Nil' w w' :=
 decF_any 19 n (by omega) hn (by omega) w
structure PIns where
 op:Value
 d:Nat
 s:Nat
 jump:Int
 num:Int
 high:Int
 label:ByteArray
 name:ByteArray
def PIns.cells (x:PIns):Array Value:=#[x.op,.int .u8 x.d,.int .u8 x.s,.int .i16 x.jump,.int .i32 x.num,.int .i32 x.high,.string x.label,.string x.name]
def PIns.cellsL (x:PIns):List Value:=[x.op,.int .u8 x.d,.int .u8 x.s,.int .i16 x.jump,.int .i32 x.num,.int .i32 x.high,.string x.label,.string x.name]
structure PIns.Fit (x:PIns):Prop where
 d:x.d<=15
 s:x.s<=15
 j0:-32768<=x.jump
 j1:x.jump<=32767
 n0:-2147483648<=x.num
 n1:x.num<=2147483647
 h0:-2147483648<=x.high
 h1:x.high<=2147483647
 l:x.label.size<=100
 m:x.name.size<=300
def PIns.wide (x:PIns):Nat:=(x.high % 4294967296).toNat*4294967296+(x.num % 4294967296).toNat
abbrev PK:=Nat
abbrev PK.comma:PK:=(0:Nat)
abbrev PK.opens:PK:=(1:Nat)
abbrev PK.shut:PK:=(2:Nat)
abbrev PK.result:PK:=(3:Nat)
abbrev PK.operand:PK:=(4:Nat)
abbrev PK.source:PK:=(5:Nat)
abbrev PK.number:PK:=(6:Nat)
abbrev PK.label:PK:=(7:Nat)
abbrev PK.offset:PK:=(8:Nat)
abbrev PK.wide:PK:=(9:Nat)
def PK.fills (p:PK):Nat :=
 match (p:Nat) with
 | 0=>0
 | 1=>0
 | 2=>0
 | 3=>1
 | 4=>1
 | 5=>2
 | 6=>8
 | 7=>4
 | 8=>4
 | 9=>10
 | _=>0
def regP (n:Nat):List UInt8:=114::Lib.itoa (n:Int)
def offP (j:Int):List UInt8:=if 0<j then 43::Lib.itoa j else if j<0 then Lib.itoa j else []
def wideP (x:PIns):List UInt8:=if x.s=1 then [109,97,112,32]++BL x.name else Lib.decDigits x.wide
def PK.write (x:PIns) (p:PK):List UInt8 :=
 match (p:Nat) with
 | 0=>[44,32]
 | 1=>[91]
 | 2=>[93]
 | 3=>regP x.d
 | 4=>regP x.d
 | 5=>regP x.s
 | 6=>Lib.itoa x.num
 | 7=>BL x.label
 | 8=>offP x.jump
 | 9=>wideP x
 | _=>[]
def PK.right (x:PIns) (p:PK):Bool :=
 match (p:Nat) with
 | 0=>true
 | 1=>true
 | 2=>true
 | 3=>decide (x.d<10)
 | 4=>decide (x.d<=10)
 | 5=>decide (x.s<=10)
 | 6=>true
 | 7=>true
 | 8=>true
 | 9=>decide (x.s=0)||(decide (x.s=1)&&decide (x.high=0))
 | _=>true
def othersB (x:PIns) (f:Nat):Bool :=
 (decide (f % 2≠0)||decide (x.d=0))&&(decide (f &&& 2≠0)||decide (x.s=0))&&(decide (f &&& 4≠0)||decide (x.jump=0))&&(decide (f &&& 8≠0)||decide (x.num=0))
def filledOf (ps:List PK):Nat:=ps.foldl (fun f p=>f ||| p.fills) 0
structure OpS where
 code:Nat
 word:List UInt8
 parts:List PK
 slots:Nat
 jumps:Bool
 ends:Bool
 refers:Nat
 call:Bool
def rowS (code:Nat) (word:List UInt8) (parts:List PK):OpS:=⟨code,word,parts,1,false,false,0,false⟩
def helpW:List (List UInt8):=[[103,101,116],[112,117,116],[100,101,108],[108,111,103]]
def OpS.write (o:OpS) (x:PIns):List UInt8 :=
 if o.call then (if x.s=1 then [99,97,108,108,32]++BL x.name else [104,101,108,112,32]++helpW[(x.num - 1).toNat]?.getD [])
 else o.word++(if o.parts=[] then [] else [32])++o.parts.flatMap (PK.write x)
def OpS.needs (o:OpS) (x:PIns):Bool :=
 if o.call then othersB x 10&&(decide (x.s=1)||(decide (x.s=0)&&decide (1<=x.num)&&decide (x.num<5)))
 else o.parts.all (PK.right x)&&othersB x (filledOf o.parts)
def w32 (l:List UInt8):List UInt8:=l++[51,50]
def regsA:List PK:=[.result,.comma,.source]
def numsA:List PK:=[.result,.comma,.number]
def arithW:List (List UInt8):=[[109,111,118],[97,100,100],[115,117,98],[109,117,108],[100,105,118],[109,111,100],[97,110,100],[111,114],[120,111,114],[108,115,104],[114,115,104],[97,115,104]]
def arithAt (n:Nat) (w:List UInt8):List OpS:=[rowS (1+n) w regsA,rowS (17+n) (w32 w) regsA,rowS (33+n) w numsA,rowS (49+n) (w32 w) numsA]
def arithS:List OpS:=(arithW.zipIdx.flatMap fun x=>arithAt x.2 x.1)++[rowS 13 [110,101,103] [.result],rowS 29 [110,101,103,51,50] [.result]]
def regsJ:List PK:=[.operand,.comma,.source,.comma,.label]
def numsJ:List PK:=[.operand,.comma,.number,.comma,.label]
def jumpW:List (List UInt8):=[[106,101,113],[106,110,101],[106,103,116],[106,103,101],[106,108,116],[106,108,101],[106,115,103,116],[106,115,103,101],[106,115,108,116],[106,115,108,101],[106,115,101,116]]
def jumpAt (n:Nat) (w:List UInt8):List OpS:=[rowS (65+n) w regsJ,rowS (97+n) w numsJ]
def jumpS0:List OpS:={ rowS 64 [106,97] [.label] with ends:=true }::(jumpW.zipIdx.flatMap fun x=>jumpAt x.2 x.1)
def jumpS:List OpS:=jumpS0.map fun o=>{ o with jumps:=true }
def loadsP:List PK:=[.result,.comma,.opens,.source,.offset,.shut]
def storesP:List PK:=[.opens,.operand,.offset,.shut,.comma,.source]
def numbersP:List PK:=[.opens,.operand,.offset,.shut,.comma,.number]
def sizeW:List (List UInt8):=[[49],[50],[52],[56]]
def memAt (n:Nat) (w:List UInt8):List OpS:=[rowS (128+n) ([108,100]++w) loadsP,rowS (132+n) ([115,116]++w) storesP,rowS (136+n) ([115,116]++w) numbersP]
def memS:List OpS:=sizeW.zipIdx.flatMap fun x=>memAt x.2 x.1
def otherS:List OpS:=[{ rowS 192 [119,105,100,101] [.result,.comma,.wide] with slots:=2,refers:=2 },⟨193,[],[],1,false,false,1,true⟩,{ rowS 194 [101,120,105,116] [] with ends:=true }]
def tableS:List OpS:=arithS++jumpS++memS++otherS
theorem tableS_len:tableS.length=88:=by decide
end Go.Proofs.YtoknbkfclhmapaaGreatDoor
