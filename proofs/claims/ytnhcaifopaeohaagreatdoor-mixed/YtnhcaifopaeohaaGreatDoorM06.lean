import Derived.Test.YtnhcaifopaeohaaGreatDoorM05
import Derived.Lib.ItoaNum
import Derived.Test.YtnhcaifopaeohaaGreatDoorM01
import Derived.Lib.AppendIntMem
import Derived.Lib.ItoaLen
namespace Go.Proofs.YtnhcaifopaeohaaGreatDoor
open Go.RowKit
set_option linter.all false
structure PIns where
 op:Value
 d:Nat
 s:Nat
 jump:Int
 num:Int
 high:Int
 label:ByteArray
 name:ByteArray
def PIns.cells (x:PIns):Array Value:=#[x.op,.int .u8 x.d,.int .u8 x.s,.int .i16 x.jump,.int .i32 x.num,.int .i32 x.high,.string x.label,.string x.name]
def PIns.cellsL (x:PIns):List Value:=[x.op,.int .u8 x.d,.int .u8 x.s,.int .i16 x.jump,.int .i32 x.num,.int .i32 x.high,.string x.label,.string x.name]
structure PIns.Fit (x:PIns):Prop where
 d:x.d<=15
 s:x.s<=15
 j0:-32768<=x.jump
 j1:x.jump<=32767
 n0:-2147483648<=x.num
 n1:x.num<=2147483647
 h0:-2147483648<=x.high
 h1:x.high<=2147483647
 l:x.label.size<=100
 m:x.name.size<=300
def PIns.wide (x:PIns):Nat:=(x.high % 4294967296).toNat*4294967296+(x.num % 4294967296).toNat
abbrev PK:=Nat
abbrev PK.comma:PK:=(0:Nat)
abbrev PK.opens:PK:=(1:Nat)
abbrev PK.shut:PK:=(2:Nat)
abbrev PK.result:PK:=(3:Nat)
abbrev PK.operand:PK:=(4:Nat)
abbrev PK.source:PK:=(5:Nat)
abbrev PK.number:PK:=(6:Nat)
abbrev PK.label:PK:=(7:Nat)
abbrev PK.offset:PK:=(8:Nat)
abbrev PK.wide:PK:=(9:Nat)
def PK.fills (p:PK):Nat :=
 match (p:Nat) with
 | 0=>0
 | 1=>0
 | 2=>0
 | 3=>1
 | 4=>1
 | 5=>2
 | 6=>8
 | 7=>4
 | 8=>4
 | 9=>10
 | _=>0
def regP (n:Nat):List UInt8:=114::Lib.itoa (n:Int)
def offP (j:Int):List UInt8:=if 0<j then 43::Lib.itoa j else if j<0 then Lib.itoa j else []
def wideP (x:PIns):List UInt8:=if x.s=1 then [109,97,112,32]++BL x.name else Lib.decDigits x.wide
def PK.write (x:PIns) (p:PK):List UInt8 :=
 match (p:Nat) with
 | 0=>[44,32]
 | 1=>[91]
 | 2=>[93]
 | 3=>regP x.d
 | 4=>regP x.d
 | 5=>regP x.s
 | 6=>Lib.itoa x.num
 | 7=>BL x.label
 | 8=>offP x.jump
 | 9=>wideP x
 | _=>[]
def PK.right (x:PIns) (p:PK):Bool :=
 match (p:Nat) with
 | 0=>true
 | 1=>true
 | 2=>true
 | 3=>decide (x.d<10)
 | 4=>decide (x.d<=10)
 | 5=>decide (x.s<=10)
 | 6=>true
 | 7=>true
 | 8=>true
 | 9=>decide (x.s=0)||(decide (x.s=1)&&decide (x.high=0))
 | _=>true
def othersB (x:PIns) (f:Nat):Bool :=
 (decide (f % 2≠0)||decide (x.d=0))&&(decide (f &&& 2≠0)||decide (x.s=0))&&(decide (f &&& 4≠0)||decide (x.jump=0))&&(decide (f &&& 8≠0)||decide (x.num=0))
def filledOf (ps:List PK):Nat:=ps.foldl (fun f p=>f ||| p.fills) 0
structure OpS where
 code:Nat
 word:List UInt8
 parts:List PK
 slots:Nat
 jumps:Bool
 ends:Bool
 refers:Nat
 call:Bool
def rowS (code:Nat) (word:List UInt8) (parts:List PK):OpS:=⟨code,word,parts,1,false,false,0,false⟩
def helpW:List (List UInt8):=[[103,101,116],[112,117,116],[100,101,108],[108,111,103]]
def OpS.write (o:OpS) (x:PIns):List UInt8 :=
 if o.call then (if x.s=1 then [99,97,108,108,32]++BL x.name else [104,101,108,112,32]++helpW[(x.num - 1).toNat]?.getD [])
 else o.word++(if o.parts=[] then [] else [32])++o.parts.flatMap (PK.write x)
def OpS.needs (o:OpS) (x:PIns):Bool :=
 if o.call then othersB x 10&&(decide (x.s=1)||(decide (x.s=0)&&decide (1<=x.num)&&decide (x.num<5)))
 else o.parts.all (PK.right x)&&othersB x (filledOf o.parts)
def w32 (l:List UInt8):List UInt8:=l++[51,50]
def regsA:List PK:=[.result,.comma,.source]
def numsA:List PK:=[.result,.comma,.number]
def arithW:List (List UInt8):=[[109,111,118],[97,100,100],[115,117,98],[109,117,108],[100,105,118],[109,111,100],[97,110,100],[111,114],[120,111,114],[108,115,104],[114,115,104],[97,115,104]]
def arithAt (n:Nat) (w:List UInt8):List OpS:=[rowS (1+n) w regsA,rowS (17+n) (w32 w) regsA,rowS (33+n) w numsA,rowS (49+n) (w32 w) numsA]
def arithS:List OpS:=(arithW.zipIdx.flatMap fun x=>arithAt x.2 x.1)++[rowS 13 [110,101,103] [.result],rowS 29 [110,101,103,51,50] [.result]]
def regsJ:List PK:=[.operand,.comma,.source,.comma,.label]
def numsJ:List PK:=[.operand,.comma,.number,.comma,.label]
def jumpW:List (List UInt8):=[[106,101,113],[106,110,101],[106,103,116],[106,103,101],[106,108,116],[106,108,101],[106,115,103,116],[106,115,103,101],[106,115,108,116],[106,115,108,101],[106,115,101,116]]
def jumpAt (n:Nat) (w:List UInt8):List OpS:=[rowS (65+n) w regsJ,rowS (97+n) w numsJ]
def jumpS0:List OpS:={ rowS 64 [106,97] [.label] with ends:=true }::(jumpW.zipIdx.flatMap fun x=>jumpAt x.2 x.1)
def jumpS:List OpS:=jumpS0.map fun o=>{ o with jumps:=true }
def loadsP:List PK:=[.result,.comma,.opens,.source,.offset,.shut]
def storesP:List PK:=[.opens,.operand,.offset,.shut,.comma,.source]
def numbersP:List PK:=[.opens,.operand,.offset,.shut,.comma,.number]
def sizeW:List (List UInt8):=[[49],[50],[52],[56]]
def memAt (n:Nat) (w:List UInt8):List OpS:=[rowS (128+n) ([108,100]++w) loadsP,rowS (132+n) ([115,116]++w) storesP,rowS (136+n) ([115,116]++w) numbersP]
def memS:List OpS:=sizeW.zipIdx.flatMap fun x=>memAt x.2 x.1
def otherS:List OpS:=[{ rowS 192 [119,105,100,101] [.result,.comma,.wide] with slots:=2,refers:=2 },⟨193,[],[],1,false,false,1,true⟩,{ rowS 194 [101,120,105,116] [] with ends:=true }]
def tableS:List OpS:=arithS++jumpS++memS++otherS
theorem tableS_len:tableS.length=88:=by decide
def Env (w : World) : Prop := Lib.TabIs Tryz.prog w "internal/strconv.uint64pow10" .u64 Lib.pow10Tab
theorem Mods.below {w w':World} (m:Mods Nil' w w'):Below w.heap.size w w':=⟨m.os,m.tape,m.output,m.size,fun k hk=>m.block k hk id⟩
theorem Mods.of_below {w w':World} (m:Below w.heap.size w w'):Mods Nil' w w':=⟨m.os,m.tape,m.output,m.size,fun k hk _=>m.block k hk⟩
theorem Env.mods {w w':World} (h:Env w) (m:Mods Nil' w w'):Env w':=Lib.tabBelow_of_tabIs h w' m.below
theorem Mods.grow (w:World) (k:Nat) (os:Array Obj):Mods Nil' w (Sort.grow (w.drewN k) os) :=
 ⟨rfl,rfl,rfl,by simp [World.drewN],fun i hi _=>Sort.heap_grow_old (w.drewN k) os (by simpa [World.drewN] using hi)⟩
theorem itoa_any (n:Int) (h0:-9223372036854775808<=n) (h1:n<=9223372036854775807) (w:World) (hE:Env w) :
  Calls Tryz.prog 38 #[.int .i64 n] w fun e w'=>e=.returned (.string (T (Lib.itoa n)))/\Mods Nil' w w' :=
 (Any.strconv_Itoa Tryz.li n h0 h1 w hE).mono fun _ _ ⟨he,k,os,hw⟩=>⟨he,hw ▸ Mods.grow w k os⟩
theorem itoa_len (n:Int) (h0:-9223372036854775808<=n) (h1:n<=9223372036854775807):(Lib.itoa n).length<=21:=Lib.itoa_length_le n h0 h1
set_option maxHeartbeats 400000 in
theorem regtext_any (n:Nat) (hn:n<=255) (w:World) (hE:Env w) :
  Calls Tryz.prog 132 #[.int .u8 n] w fun e w'=>e=.returned (.string (T (regP n)))/\Mods Nil' w w':=by
 have hl:=itoa_len (n:Int) (by omega) (by omega)
 rw [<- T_size] at hl
 have HE:Hid (T (regP n)=T [114]++T (Lib.itoa (n:Int))):=by rw [Hid,regP];exact T_app [114] _
 go_enter Tryz.func132,Tryz.ntmps132
 go_wp2_with fail
 refine (itoa_any (n:Int) (by omega) (by omega) _ hE).mono ?_
 rintro e w1 ⟨rfl,m1⟩
 generalize T (Lib.itoa (n:Int))=sd at *
 go_wp2_with fail;go_ret
 exact ⟨by rw [HE.out];rfl,m1⟩
set_option maxHeartbeats 400000 in
theorem srcW_any (x:PIns) (hx:x.Fit) (w:World) (hE:Env w) :
  Calls Tryz.prog 131 #[.agg x.cells] w fun e w'=>e=.returned (.string (T (PK.source.write x)))/\Mods Nil' w w':=by
 obtain ⟨op,d,s,jump,num,high,label,name⟩:=x
 have hs:=hx.s
 clear hx
 unfold PIns.cells at *
 simp only at *
 go_enter Tryz.func131,Tryz.ntmps131
 go_wp2_with fail
 refine (regtext_any s (by omega) _ (hE.mods ((Mods.refl _ _).alloc _))).mono ?_
 rintro e w1 ⟨rfl,m1⟩;go_wp2_with fail;go_ret
 exact ⟨rfl,((Mods.refl _ _).alloc _).trans m1⟩
set_option maxHeartbeats 400000 in
theorem srcR_any (x:PIns) (hx:x.Fit) (w:World) :
  Calls Tryz.prog 133 #[.agg x.cells] w fun e w'=>e=.returned (.bool (PK.source.right x))/\Mods Nil' w w':=by
 obtain ⟨op,d,s,jump,num,high,label,name⟩:=x
 have hs:=hx.s
 clear hx
 unfold PIns.cells at *
 simp only [PK.right] at *
 go_enter Tryz.func133,Tryz.ntmps133
 go_wp2_with fail;go_ret
 exact ⟨by simp;omega,(Mods.refl _ _).alloc _⟩
set_option maxHeartbeats 400000 in
theorem opdW_any (x:PIns) (hx:x.Fit) (w:World) (hE:Env w) :
  Calls Tryz.prog 167 #[.agg x.cells] w fun e w'=>e=.returned (.string (T (PK.operand.write x)))/\Mods Nil' w w':=by
 obtain ⟨op,d,s,jump,num,high,label,name⟩:=x
 have hs:=hx.d
 clear hx
 unfold PIns.cells at *
 simp only at *
 go_enter Tryz.func167,Tryz.ntmps167
 go_wp2_with fail
 refine (regtext_any d (by omega) _ (hE.mods ((Mods.refl _ _).alloc _))).mono ?_
 rintro e w1 ⟨rfl,m1⟩;go_wp2_with fail;go_ret
 exact ⟨rfl,((Mods.refl _ _).alloc _).trans m1⟩
set_option maxHeartbeats 400000 in
theorem opdR_any (x:PIns) (hx:x.Fit) (w:World) :
  Calls Tryz.prog 168 #[.agg x.cells] w fun e w'=>e=.returned (.bool (PK.operand.right x))/\Mods Nil' w w':=by
 obtain ⟨op,d,s,jump,num,high,label,name⟩:=x
 have hs:=hx.d
 clear hx
 unfold PIns.cells at *
 simp only [PK.right] at *
 go_enter Tryz.func168,Tryz.ntmps168
 go_wp2_with fail;go_ret
 exact ⟨by simp;omega,(Mods.refl _ _).alloc _⟩
set_option maxHeartbeats 400000 in
theorem resR_any (x:PIns) (hx:x.Fit) (w:World) :
  Calls Tryz.prog 127 #[.agg x.cells] w fun e w'=>e=.returned (.bool (PK.result.right x))/\Mods Nil' w w':=by
 obtain ⟨op,d,s,jump,num,high,label,name⟩:=x
 have hs:=hx.d
 clear hx
 unfold PIns.cells at *
 simp only [PK.right] at *
 go_enter Tryz.func127,Tryz.ntmps127
 go_wp2_with fail;go_ret
 exact ⟨by simp;omega,(Mods.refl _ _).alloc _⟩
set_option maxHeartbeats 400000 in
theorem numW_any (x:PIns) (hx:x.Fit) (w:World) (hE:Env w) :
  Calls Tryz.prog 137 #[.agg x.cells] w fun e w'=>e=.returned (.string (T (PK.number.write x)))/\Mods Nil' w w':=by
 obtain ⟨op,d,s,jump,num,high,label,name⟩:=x
 have h0:=hx.n0
 have h1:=hx.n1
 clear hx
 unfold PIns.cells at *
 simp only at *
 go_enter Tryz.func137,Tryz.ntmps137
 go_wp2_with fail
 refine (itoa_any num (by omega) (by omega) _ (hE.mods ((Mods.refl _ _).alloc _))).mono ?_
 rintro e w1 ⟨rfl,m1⟩;go_wp2_with fail;go_ret
 exact ⟨rfl,((Mods.refl _ _).alloc _).trans m1⟩
set_option maxHeartbeats 400000 in
theorem labW_any (x:PIns) (w:World) :
  Calls Tryz.prog 170 #[.agg x.cells] w fun e w'=>e=.returned (.string (T (PK.label.write x)))/\Mods Nil' w w':=by
 obtain ⟨op,d,s,jump,num,high,label,name⟩:=x
 unfold PIns.cells at *
 simp only at *
 go_enter Tryz.func170,Tryz.ntmps170
 go_wp2_with fail;go_ret
 exact ⟨rfl,(Mods.refl _ _).alloc _⟩
set_option maxHeartbeats 400000 in
theorem always_any (x:PIns) (w:World) :
  Calls Tryz.prog 138 #[.agg x.cells] w fun e w'=>e=.returned (.bool true)/\Mods Nil' w w':=by
 obtain ⟨op,d,s,jump,num,high,label,name⟩:=x
 unfold PIns.cells at *
 simp only at *
 go_enter Tryz.func138,Tryz.ntmps138
 go_wp2_with fail;go_ret
 exact ⟨rfl,(Mods.refl _ _).alloc _⟩
set_option maxHeartbeats 400000 in
theorem markW_any (x:PIns) (w:World) (g:Nat) (t:ByteArray) (h:w.cell? ⟨g,0,none⟩=some (.string t)) (hg:g<w.heap.size) :
  Calls Tryz.prog 224 #[.agg x.cells,.pointer (some ⟨g,0,none⟩)] w fun e w'=>e=.returned (.string t)/\Mods Nil' w w':=by
 obtain ⟨op,d,s,jump,num,high,label,name⟩:=x
 unfold PIns.cells at *
 simp only at *
 have h':(w.alloc (.cells #[op,.int .u8 d,.int .u8 s,.int .i16 jump,.int .i32 num,.int .i32 high,.string label,.string name] 84)).cell? ⟨g,0,none⟩=some (.string t):=by
  rw [World.cell?_alloc_past _ _ _ hg];exact h
 go_enter Tryz.func224,Tryz.ntmps224
 go_wp2_with fail;go_ret
 exact ⟨rfl,(Mods.refl _ _).alloc _⟩
set_option maxHeartbeats 400000 in
theorem wideR_any (x:PIns) (hx:x.Fit) (w:World) :
  Calls Tryz.prog 195 #[.agg x.cells] w fun e w'=>e=.returned (.bool (PK.wide.right x))/\Mods Nil' w w':=by
 obtain ⟨op,d,s,jump,num,high,label,name⟩:=x
 have hs:=hx.s
 clear hx
 unfold PIns.cells at *
 simp only [PK.right] at *
 by_cases h0:s=0
 ·subst h0
  go_enter Tryz.func195,Tryz.ntmps195
  go_wp2_with fail;go_ret
  exact ⟨by simp,(Mods.refl _ _).alloc _⟩
 ·by_cases h1:s=1
  ·subst h1
   go_enter Tryz.func195,Tryz.ntmps195
   go_wp2_with fail;go_ret
   exact ⟨by simp;rfl,(Mods.refl _ _).alloc _⟩
  ·have q0:decide ((s:Int)=0)=false:=by simp;omega
   have q1:decide ((s:Int)=1)=false:=by simp;omega
   go_enter Tryz.func195,Tryz.ntmps195
   go_wp2_with fail;go_ret
   exact ⟨by simp [h0,h1],(Mods.refl _ _).alloc _⟩
set_option maxHeartbeats 400000 in
theorem offW_any (x:PIns) (hx:x.Fit) (w:World) (hE:Env w) :
  Calls Tryz.prog 188 #[.agg x.cells] w fun e w'=>e=.returned (.string (T (PK.offset.write x)))/\Mods Nil' w w':=by
 obtain ⟨op,d,s,jump,num,high,label,name⟩:=x
 have j0:=hx.j0
 have j1:=hx.j1
 clear hx
 unfold PIns.cells at *
 simp only [PK.write] at *
 have hl:=itoa_len jump (by omega) (by omega)
 rw [<- T_size] at hl
 have hE1:=hE.mods ((Mods.refl _ _).alloc (.cells #[op,.int .u8 d,.int .u8 s,.int .i16 jump,.int .i32 num,.int .i32 high,.string label,.string name] 84))
 by_cases hp:0<jump
 ·have HE:Hid (T (offP jump)=T [43]++T (Lib.itoa jump)):=by rw [Hid,offP,if_pos hp];exact T_app [43] _
  go_enter Tryz.func188,Tryz.ntmps188
  go_wp2_with fail
  refine (itoa_any jump (by omega) (by omega) _ hE1).mono ?_
  rintro e w1 ⟨rfl,m1⟩;generalize T (Lib.itoa jump)=sd at *;go_wp2_with fail;go_ret
  exact ⟨by rw [HE.out];rfl,((Mods.refl _ _).alloc _).trans m1⟩
 ·by_cases hn:jump<0
  ·have HE:Hid (T (offP jump)=T (Lib.itoa jump)):=by rw [Hid,offP,if_neg hp,if_pos hn]
   go_enter Tryz.func188,Tryz.ntmps188
   go_wp2_with fail
   refine (itoa_any jump (by omega) (by omega) _ hE1).mono ?_
   rintro e w1 ⟨rfl,m1⟩;generalize T (Lib.itoa jump)=sd at *;go_wp2_with fail;go_ret
   exact ⟨by rw [HE.out];rfl,((Mods.refl _ _).alloc _).trans m1⟩
  ·have h0:jump=0:=by omega
   subst h0
   go_enter Tryz.func188,Tryz.ntmps188
   go_wp2_with fail;go_ret
   exact ⟨rfl,(Mods.refl _ _).alloc _⟩
theorem or_hi (a b:Nat) (ha:a<4294967296) (hb:b<4294967296):bits .or .u64 ((a:Int)*4294967296) (b:Int)=((a*4294967296+b:Nat):Int):=by
 have h:=(bits_nat .u64 64 (by decide) (fun n h0 h1=>by rw [IntKind.wrap_u64];omega) (a*4294967296) b (by omega) (by omega)).2
 have e:=Nat.two_pow_add_eq_or_of_lt (i:=32) (show b<2 ^ 32 by omega) a
 rw [Nat.mul_comm] at e
 have e2:(2:Nat) ^ 32=4294967296:=by decide
 rw [e2] at e;rw [<- e] at h
 simpa using h
set_option maxHeartbeats 400000 in
theorem insWide_any (x:PIns) (w:World) :
  Calls Tryz.prog 197 #[.agg x.cells] w fun e w'=>e=.returned (.int .u64 x.wide)/\Mods Nil' w w':=by
 obtain ⟨op,d,s,jump,num,high,label,name⟩:=x
 unfold PIns.cells at *
 simp only [PIns.wide] at *
 have HO:Hid (_=_):=or_hi (high % 4294967296).toNat (num % 4294967296).toNat (by omega) (by omega)
 have e1:(((high % 4294967296).toNat:Nat):Int)=high % 4294967296:=by omega
 have e2:(((num % 4294967296).toNat:Nat):Int)=num % 4294967296:=by omega
 have HO2:Hid (bits .or .u64 (high % 4294967296*4294967296) (num % 4294967296)=(((high % 4294967296).toNat*4294967296+(num % 4294967296).toNat:Nat):Int)):=by
  have h:=HO.out
  rw [e1,e2] at h;exact h
 clear HO e1 e2
 go_enter Tryz.func197,Tryz.ntmps197
 go_wp2_with fail;go_ret
 refine ⟨?_,(Mods.refl _ _).alloc _⟩
 rw [<- HO2.out]
 rfl
theorem wide_lt (x:PIns):x.wide<18446744073709551616:=by
 unfold PIns.wide;omega
theorem holds_zero0 (w:World) (T:TypeId) (nd:Nat) (hs:nd<=24):Sort.Holds (fun (b:UInt8)=>Value.int .u8 (b.toNat:Int)) (w.alloc (.cells Lib.zeros24 T)) w.heap.size 0 (Array.replicate nd (0:UInt8)):=fun j hj=>by
 have hj':j<nd:=by simpa using hj
 refine ⟨?_,World.frozen?_alloc_new _ _ _ _⟩
 rw [World.cell?_alloc_new,Lib.zeros24_at _ (by omega),getElem!_pos _ j hj]
 simp
theorem fin0 (w:World) (o:Obj) (dk:Array UInt8) (k:Nat):Mods Nil' w ((Sort.putRow (fun (b:UInt8)=>Value.int .u8 (b.toNat:Int)) (w.alloc o) w.heap.size 0 dk).drewN k):=by
 rw [Sort.alloc_eq_grow]
 obtain ⟨os',_,e⟩:=Sort.putRow_grow_new (fun (b:UInt8)=>Value.int .u8 (b.toNat:Int)) w #[o] w.heap.size 0 dk (Nat.le_refl _)
 rw [e];exact Mods.grow w k os'
set_option maxHeartbeats 6400000 in
set_option maxRecDepth 100000 in
theorem ifmtu_any (u:Nat) (hu64:u<18446744073709551616) (w:World) (hE:Env w) :
  Calls Tryz.prog 285 #[.int .u64 u,.int .i64 10] w fun e w'=>e=.returned (.string (T (Lib.decDigits u)))/\Mods Nil' w w':=by
 by_cases hs:u<100
 ·go_enter Tryz.func285,Tryz.ntmps285
  go_wp2_with fail
  refine (Any.internal_strconv_small { Tryz.lf with } u hs _).mono ?_
  rintro e w1 ⟨rfl,rfl⟩;go_wp2_with fail;go_ret
  exact ⟨rfl,Mods.refl _ _⟩
 ·have hu1:1<=u:=by omega
  have hnd20:Lib.nDigits u<=20:=Lib.nDigits_le20 u hu64
  have hal:Tryz.prog.arrayLen 274=24:=by kernel_rfl
  have hsl1:∀ W,(Instr.sliceAt 274 (.pointer (some ⟨w.heap.size,0,none⟩)) none (some (.int .i64 (Lib.nDigits u:Int))) none).run Tryz.prog W=.ok (.slice (some ⟨w.heap.size,0,none⟩) (Lib.nDigits u) 24) W:=fun W=>by
   rw [run_sliceAt_array_h W 274 ⟨w.heap.size,0,none⟩ (by kernel_rfl) .i64 (Lib.nDigits u:Int) (by omega) (by rw [hal];omega)]
   go_simp
  have hH0:=holds_zero0 w 274 (Lib.nDigits u) (by omega)
  have hfmt:=Any.internal_strconv_formatBase10 { Tryz.lf with } w.heap.size 0 24 u (Array.replicate (Lib.nDigits u) 0) (w.alloc (.cells Lib.zeros24 274)) hH0 (by rw [Array.size_replicate];exact Lib.lt_pow_nDigits u) hu64 (by rw [Array.size_replicate];omega)
  rw [Array.size_replicate] at hfmt
  have HH0:Hid _:=hH0
  clear hH0 hal
  go_enter Tryz.func285,Tryz.ntmps285
  go_wp2_with fail
  refine (Any.internal_strconv_numDigits { Tryz.lf with } u hu1 hu64 _ (Lib.tabIs_alloc hE _)).mono ?_
  rintro e w1 ⟨rfl,rfl⟩;go_wp2_with fail;refine hfmt.mono ?_
  rintro e w' ⟨rfl,k,v',dk,rfl,hF⟩
  have hcv:(convert 43 9 (.slice (some ⟨w.heap.size,0,none⟩) (Lib.nDigits u) 24)).run Tryz.prog ((Sort.putRow (fun (b:UInt8)=>Value.int .u8 (b.toNat:Int)) (w.alloc (.cells Lib.zeros24 274)) w.heap.size 0 dk).drewN k)=.ok (.string (T (Lib.decDigits u))) ((Sort.putRow (fun (b:UInt8)=>Value.int .u8 (b.toNat:Int)) (w.alloc (.cells Lib.zeros24 274)) w.heap.size 0 dk).drewN k):=by
   have h:=run_convert_bytes_back (P:=Tryz.prog) ((Sort.putRow (fun (b:UInt8)=>Value.int .u8 (b.toNat:Int)) (w.alloc (.cells Lib.zeros24 274)) w.heap.size 0 dk).drewN k) 43 9 5 ⟨w.heap.size,0,none⟩ 24 (Lib.decDigits u) Tryz.underlying43 Tryz.underlying5 Tryz.underlying9 (fun j hj=>by
    rw [Lib.row_is_numeral hF j hj,Lib.add_plain,World.cell?_drewN]
    exact Sort.cell?_putRow (fun (b:UInt8)=>Value.int .u8 (b.toNat:Int)) _ w.heap.size 0 _ dk HH0.out (by rw [hF.size,Array.size_replicate]) j (by rw [hF.size];rw [Lib.decDigits_length] at hj;exact hj))
   rw [Lib.decDigits_length] at h;exact h
  go_wp2_with fail;go_ret
  exact ⟨rfl,fin0 w _ dk k⟩
theorem fmtu_any (u:Nat) (hu64:u<18446744073709551616) (w:World) (hE:Env w) :
  Calls Tryz.prog 241 #[.int .u64 u,.int .i64 10] w fun e w'=>e=.returned (.string (T (Lib.decDigits u)))/\Mods Nil' w w':=by
 go_enter Tryz.func241,Tryz.ntmps241
 go_wp2_with fail
 refine (ifmtu_any u hu64 _ hE).mono ?_
 rintro e w1 ⟨rfl,m1⟩;go_wp2_with fail;go_ret
 exact ⟨rfl,m1⟩
set_option maxHeartbeats 400000 in
theorem wideW_any (x:PIns) (hx:x.Fit) (w:World) (hE:Env w) :
  Calls Tryz.prog 194 #[.agg x.cells] w fun e w'=>e=.returned (.string (T (PK.wide.write x)))/\Mods Nil' w w':=by
 have hw:=insWide_any x
 have hwl:=wide_lt x
 by_cases h:x.s=1
 ·have HE:Hid (T (PK.wide.write x)=T [109,97,112,32]++x.name):=by
   rw [Hid,PK.write,wideP,if_pos h,<- T_app,T_BL]
  obtain ⟨op,d,s,jump,num,high,label,name⟩:=x
  have hn:=hx.m
  clear hx hw
  unfold PIns.cells at *
  simp only at *;subst h
  go_enter Tryz.func194,Tryz.ntmps194
  go_wp2_with fail;go_ret
  exact ⟨by rw [HE.out];rfl,(Mods.refl _ _).alloc _⟩
 ·have HE:Hid (PK.wide.write x=Lib.decDigits x.wide):=by rw [Hid,PK.write,wideP,if_neg h]
  generalize x.wide=u at *;obtain ⟨op,d,s,jump,num,high,label,name⟩:=x;clear hx
  unfold PIns.cells at *
  simp only at *
  have q1:decide ((s:Int)=1)=false:=by simp;omega
  go_enter Tryz.func194,Tryz.ntmps194
  go_wp2_with fail
  refine (hw _).mono ?_
  rintro e w1 ⟨rfl,m1⟩;go_wp2_with fail
  refine (fmtu_any u hwl _ (hE.mods (((Mods.refl _ _).alloc _).trans m1))).mono ?_
  rintro e w2 ⟨rfl,m2⟩;go_wp2_with fail;go_ret
  exact ⟨by rw [HE.out];rfl,(((Mods.refl _ _).alloc _).trans m1).trans m2⟩
abbrev E0:ByteArray:={ data:=#[] }
theorem Blk.cells8 {w:World} {b:Nat} {v0 v1 v2 v3 v4 v5 v6 v7:Value} {t:TypeId} (h:Blk w b #[v0,v1,v2,v3,v4,v5,v6,v7] t) :
  w.cell? ⟨b,0,none⟩=some v0/\w.cell? ⟨b,1,none⟩=some v1/\w.cell? ⟨b,2,none⟩=some v2/\w.cell? ⟨b,3,none⟩=some v3/\w.cell? ⟨b,4,none⟩=some v4/\w.cell? ⟨b,5,none⟩=some v5/\w.cell? ⟨b,6,none⟩=some v6/\w.cell? ⟨b,7,none⟩=some v7 :=
 ⟨h.cell 0,h.cell 1,h.cell 2,h.cell 3,h.cell 4,h.cell 5,h.cell 6,h.cell 7⟩
theorem Blk.set8 {w:World} {z:Nat} {t:TypeId} {v0 v1 v2 v3 v4 v5 v6 v7:Value} (h:Blk w z #[v0,v1,v2,v3,v4,v5,v6,v7] t) (a0 a1 a2 a3 a4 a5 a6 a7:Value) :
  Blk ((((((((w.setCell ⟨z,0,none⟩ a0).setCell ⟨z,1,none⟩ a1).setCell ⟨z,2,none⟩ a2).setCell ⟨z,3,none⟩ a3).setCell ⟨z,4,none⟩ a4).setCell ⟨z,5,none⟩ a5).setCell ⟨z,6,none⟩ a6).setCell ⟨z,7,none⟩ a7) z #[a0,a1,a2,a3,a4,a5,a6,a7] t:=by
 have h0:Blk (w.setCell ⟨z,0,none⟩ a0) z #[a0,v1,v2,v3,v4,v5,v6,v7] t:=h.set 0 a0
 have h1:Blk ((w.setCell ⟨z,0,none⟩ a0).setCell ⟨z,1,none⟩ a1) z #[a0,a1,v2,v3,v4,v5,v6,v7] t:=h0.set 1 a1
 have h2:Blk (((w.setCell ⟨z,0,none⟩ a0).setCell ⟨z,1,none⟩ a1).setCell ⟨z,2,none⟩ a2) z #[a0,a1,a2,v3,v4,v5,v6,v7] t:=h1.set 2 a2
 have h3:Blk ((((w.setCell ⟨z,0,none⟩ a0).setCell ⟨z,1,none⟩ a1).setCell ⟨z,2,none⟩ a2).setCell ⟨z,3,none⟩ a3) z #[a0,a1,a2,a3,v4,v5,v6,v7] t:=h2.set 3 a3
 have h4:Blk (((((w.setCell ⟨z,0,none⟩ a0).setCell ⟨z,1,none⟩ a1).setCell ⟨z,2,none⟩ a2).setCell ⟨z,3,none⟩ a3).setCell ⟨z,4,none⟩ a4) z #[a0,a1,a2,a3,a4,v5,v6,v7] t:=h3.set 4 a4
 have h5:Blk ((((((w.setCell ⟨z,0,none⟩ a0).setCell ⟨z,1,none⟩ a1).setCell ⟨z,2,none⟩ a2).setCell ⟨z,3,none⟩ a3).setCell ⟨z,4,none⟩ a4).setCell ⟨z,5,none⟩ a5) z #[a0,a1,a2,a3,a4,a5,v6,v7] t:=h4.set 5 a5
 have h6:Blk (((((((w.setCell ⟨z,0,none⟩ a0).setCell ⟨z,1,none⟩ a1).setCell ⟨z,2,none⟩ a2).setCell ⟨z,3,none⟩ a3).setCell ⟨z,4,none⟩ a4).setCell ⟨z,5,none⟩ a5).setCell ⟨z,6,none⟩ a6) z #[a0,a1,a2,a3,a4,a5,a6,v7] t:=h5.set 6 a6
 have h7:Blk ((((((((w.setCell ⟨z,0,none⟩ a0).setCell ⟨z,1,none⟩ a1).setCell ⟨z,2,none⟩ a2).setCell ⟨z,3,none⟩ a3).setCell ⟨z,4,none⟩ a4).setCell ⟨z,5,none⟩ a5).setCell ⟨z,6,none⟩ a6).setCell ⟨z,7,none⟩ a7) z #[a0,a1,a2,a3,a4,a5,a6,a7] t:=h6.set 7 a7
 exact h7
theorem Mods.set8 {S:Nat->Prop} {w0 w:World} {z:Nat} (h:Mods S w0 w) (hz:S z\/w0.heap.size<=z) (a0 a1 a2 a3 a4 a5 a6 a7:Value) :
  Mods S w0 ((((((((w.setCell ⟨z,0,none⟩ a0).setCell ⟨z,1,none⟩ a1).setCell ⟨z,2,none⟩ a2).setCell ⟨z,3,none⟩ a3).setCell ⟨z,4,none⟩ a4).setCell ⟨z,5,none⟩ a5).setCell ⟨z,6,none⟩ a6).setCell ⟨z,7,none⟩ a7) :=
 (((((((h.set (a:=⟨z,0,none⟩) hz a0).set (a:=⟨z,1,none⟩) hz a1).set (a:=⟨z,2,none⟩) hz a2).set (a:=⟨z,3,none⟩) hz a3).set (a:=⟨z,4,none⟩) hz a4).set (a:=⟨z,5,none⟩) hz a5).set (a:=⟨z,6,none⟩) hz a6).set (a:=⟨z,7,none⟩) hz a7
theorem results_cell_tmp_row {P:Program} {fn:Func} {p u:Tmp} {ty:TypeId} (h:fn.results=#[.cell p ty,.tmp u]) (tmps:Array Value) (w:World) (g:Nat) (t:TypeId) (cs:Array Value) (fr:Nat × Nat) (d:TypeDesc) (v:Value)
  (hp:tmps.getD p undef=.pointer (some ⟨g,0,none⟩)) (hv:tmps.getD u undef=v) (hg:w.heap[g]?=some (.cells cs t fr))
  (hu:P.underlying ty=some d) (hd:(match d with | .struct _ | .array _ _=>true | _=>false)=true) (hi:(P.info? ty).map (·.size)=some cs.size) :
  (results fn tmps).run P w=.ok (.tuple #[.agg cs,v]) w:=by
 rw [results_cell_tmp h,hp,hv]
 simp [asAddr,run_loadVar_row w g t ty cs fr d hg hu hd hi]
structure RNum where
 v:Nat
 minus:Bool
def wordC (c:UInt8):Bool:=partB (c.toNat:Int)
def skipL (l:List UInt8):List UInt8:=l.dropWhile (fun c=>c==32)
def wdL (l:List UInt8):List UInt8 × List UInt8:=((skipL l).takeWhile wordC,(skipL l).dropWhile wordC)
def hasMark (b:UInt8) (l:List UInt8):Bool:=(skipL l).head?==some b
def markL (b:UInt8) (l:List UInt8):List UInt8:=if hasMark b l then (skipL l).tail else skipL l
def newL (l:List UInt8):Option (List UInt8) :=
 if l.all (fun c=>decide (32<=(c.toNat:Int))&&decide ((c.toNat:Int)<=126)) then some (l.takeWhile (fun c=>c != 59)) else none
def regW (n:Nat):List UInt8:=114::Lib.itoa (n:Int)
def regOfP (w:List UInt8):Option Nat:=(List.range 11).find? (fun n=>w==regW n)
def digP (c:UInt8):Nat:=if 48<=c.toNat/\c.toNat<=57 then c.toNat - 48 else if 97<=c.toNat/\c.toNat<=102 then c.toNat - 87 else 255
def digsP (base:Nat):List UInt8->Nat->Option Nat
 | [],v=>some v
 | c::l,v=>if base<=digP c then none else digsP base l (v*base+digP c)
def hexB (w:List UInt8):Bool:=List.isPrefixOf [48,120] w
def numBaseP (w:List UInt8):Nat:=if hexB w then 16 else 10
def numDigsP (w:List UInt8):List UInt8:=if hexB w then w.drop 2 else w
def numOfP (w:List UInt8):Option Nat:=if numDigsP w=[]\/20<w.length then none else digsP (numBaseP w) (numDigsP w) 0
def RNum.cellsP (n:RNum):List Value:=[.bool n.minus,.int .u64 ((n.v % 18446744073709551616:Nat):Int),.bool (decide (18446744073709551616<=n.v))]
def numL (l:List UInt8):Option (RNum × List UInt8) :=
 if hasMark 45 l&&(markL 45 l).head?==some 32 then none
 else (numOfP (wdL (markL 45 l)).1).map (fun v=>(⟨v,hasMark 45 l⟩,(wdL (markL 45 l)).2))
def RNum.sgnP (n:RNum) (half:Nat):Option Int :=
 if 18446744073709551616<=n.v then none
 else if n.minus then (if n.v<=half then some (-(n.v:Int)) else none)
 else (if n.v<half then some (n.v:Int) else none)
def RNum.wideP (n:RNum):Option Nat :=
 if 18446744073709551616<=n.v then none
 else if n.minus then (if n.v<=9223372036854775808 then some ((18446744073709551616 - n.v) % 18446744073709551616) else none)
 else some n.v
structure RSt where
 word:List UInt8
 rest:List UInt8
 d:Nat:=0
 s:Nat:=0
 jump:Int:=0
 num:Int:=0
 high:Int:=0
 label:List UInt8:=[]
 name:List UInt8:=[]
 far:Bool:=false
def RSt.cells (op:Value) (r:RSt):Array Value:=#[.string (T r.word),.string (T r.rest),op,.int .u8 r.d,.int .u8 r.s,.int .i16 r.jump,.int .i32 r.num,.int .i32 r.high,.string (T r.label),.string (T r.name),.bool r.far]
def RSt.mark (b:UInt8) (r:RSt):Option RSt:=if hasMark b r.rest then some { r with rest:=markL b r.rest } else none
def RSt.regD (r:RSt):Option RSt:=(regOfP (wdL r.rest).1).map (fun n=>{ r with d:=n,rest:=(wdL r.rest).2 })
def RSt.regS (r:RSt):Option RSt:=(regOfP (wdL r.rest).1).map (fun n=>{ r with s:=n,rest:=(wdL r.rest).2 })
def RSt.number (r:RSt):Option RSt:=(numL r.rest).map (fun x=>{ r with num:=(x.1.sgnP 2147483648).getD 0,far:=r.far||(x.1.sgnP 2147483648).isNone,rest:=x.2 })
def RSt.lab (r:RSt):Option RSt:=if nameB (wdL r.rest).1 then some { r with label:=(wdL r.rest).1,rest:=(wdL r.rest).2 } else none
def RSt.off (r:RSt):Option RSt :=
 if hasMark 45 r.rest then
  (numOfP (wdL (markL 45 r.rest)).1).map (fun v=>{ r with jump:=((RNum.mk v true).sgnP 32768).getD 0,far:=r.far||((RNum.mk v true).sgnP 32768).isNone,rest:=(wdL (markL 45 r.rest)).2 })
 else if hasMark 43 r.rest then
  (numOfP (wdL (markL 43 r.rest)).1).map (fun v=>{ r with jump:=((RNum.mk v false).sgnP 32768).getD 0,far:=r.far||((RNum.mk v false).sgnP 32768).isNone,rest:=(wdL (markL 43 r.rest)).2 })
 else some { r with rest:=skipL r.rest }
def lowP (v:Nat):Int:=(((v:Int)+2147483648) % 4294967296) - 2147483648
def RSt.wide (r:RSt):Option RSt :=
 if (wdL r.rest).1=[109,97,112] then
  (if nameB (wdL (wdL r.rest).2).1 then some { r with s:=1,name:=(wdL (wdL r.rest).2).1,rest:=(wdL (wdL r.rest).2).2 } else none)
 else (numL r.rest).map (fun x=>{ r with num:=lowP (x.1.wideP.getD 0),high:=lowP ((x.1.wideP.getD 0) / 4294967296),far:=r.far||x.1.wideP.isNone,rest:=x.2 })
def RSt.call (r:RSt):Option RSt :=
 if r.word=[99,97,108,108] then
  (if nameB (wdL r.rest).1 then some { r with s:=1,name:=(wdL r.rest).1,rest:=(wdL r.rest).2 } else none)
 else (helpW.findIdx? (fun h=>h==(wdL r.rest).1)).map (fun n=>{ r with num:=(1+n:Nat),rest:=(wdL r.rest).2 })
def PK.read (p:PK) (r:RSt):Option RSt :=
 match (p:Nat) with
 | 0=>r.mark 44
 | 1=>r.mark 91
 | 2=>r.mark 93
 | 3=>r.regD
 | 4=>r.regD
 | 5=>r.regS
 | 6=>r.number
 | 7=>r.lab
 | 8=>r.off
 | 9=>r.wide
 | _=>none
def readPs:List PK->RSt->Option RSt
 | [],r=>some r
 | p::ps,r=>(p.read r).bind (readPs ps)
def OpS.words (o:OpS):List (List UInt8):=if o.call then [[104,101,108,112],[99,97,108,108]] else [o.word]
def OpS.read (o:OpS) (r:RSt):Option RSt:=if o.call then r.call else readPs o.parts r
structure PRead where
 k:Nat
 r:RSt
def RSt.ins (r:RSt):PIns:=⟨.pointer none,r.d,r.s,r.jump,r.num,r.high,T r.label,T r.name⟩
def PRead.o (x:PRead):OpS:=tableS[x.k]?.getD ⟨0,[],[],0,false,false,0,false⟩
def PRead.fits (x:PRead):Bool:=!x.r.far&&x.o.needs x.r.ins
def readFrom (w l:List UInt8):Nat->List OpS->Option PRead
 | _,[]=>none
 | k,o::os =>
  if o.words.contains w then
   (match o.read ⟨w,l,0,0,0,0,0,[],[],false⟩ with
    | none=>readFrom w l (k+1) os
    | some r=>if skipL r.rest=[] then some ⟨k,{ r with rest:=[] }⟩ else readFrom w l (k+1) os)
  else readFrom w l (k+1) os
def readP (w l:List UInt8):Option PRead:=readFrom w l 0 tableS
def beginsP (w:List UInt8):Bool:=tableS.any (fun o=>o.words.contains w)
structure PLn where
 kind:Nat:=0
 name:List UInt8:=[]
 ns:List RNum:=[⟨0,false⟩,⟨0,false⟩,⟨0,false⟩]
 x:PRead:=⟨0,⟨[],[],0,0,0,0,0,[],[],false⟩⟩
def reservedP (w:List UInt8):Bool:=w==[109,97,112]||w==[102,117,110,99]||(regOfP w).isSome||beginsP w
def mapLnP (l:List UInt8):Option PLn :=
 if nameB (wdL l).1 then
  (numL (wdL l).2).bind fun a=>(numL a.2).bind fun b=>(numL b.2).bind fun c=>if skipL c.2=[] then some { kind:=1,name:=(wdL l).1,ns:=[a.1,b.1,c.1] } else none
 else none
def lineP (t:List UInt8):Option PLn :=
 (newL t).bind fun l =>
  if skipL l=[] then some {}
  else if hasMark 58 (wdL l).2 then
   (if skipL (markL 58 (wdL l).2)=[]/\nameB (wdL l).1=true/\reservedP (wdL l).1=false then some { kind:=3,name:=(wdL l).1 } else none)
  else if (wdL l).1=[109,97,112] then mapLnP (skipL (wdL l).2)
  else if (wdL l).1=[102,117,110,99] then
   (if nameB (wdL (skipL (wdL l).2)).1=true/\skipL (wdL (skipL (wdL l).2)).2=[] then some { kind:=2,name:=(wdL (skipL (wdL l).2)).1 } else none)
  else (readP (wdL l).1 (skipL (wdL l).2)).map fun x=>{ kind:=4,x:=x }
end Go.Proofs.YtnhcaifopaeohaaGreatDoor
