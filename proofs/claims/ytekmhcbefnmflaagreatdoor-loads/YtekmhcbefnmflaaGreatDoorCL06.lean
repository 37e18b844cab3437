import Derived.Test.YtekmhcbefnmflaaGreatDoorCL05
import Derived.Test.YtekmhcbefnmflaaGreatDoorCL01
import Derived.Lib.AppendIntMem
import Derived.Lib.ItoaLen
namespace Go.Proofs.YtekmhcbefnmflaaGreatDoor
open Go.RowKit Tryz
open Bool renaming true->eJ,false->eE
open Decidable renaming decide->eS
open Ending renaming returned->fR
open Value renaming string->eI,agg->fW,bool->fS
set_option linter.all false
set_option maxHeartbeats 400000
structure dQ where
 op:Value
 d:Nat
 s:Nat
 jump:Int
 num:Int
 high:Int
 label:tBA
 name:tBA
def dQ.cells(x:dQ):tAV:=#[x.op,vB x.d,vB x.s,.int .i16 x.jump,vJ x.num,vJ x.high,eI x.label,eI x.name]
def dQ.di(x:dQ):tLV:=[x.op,vB x.d,vB x.s,.int .i16 x.jump,vJ x.num,vJ x.high,eI x.label,eI x.name]
structure dQ.Fit(x:dQ):Prop where
 d:x.d<=15
 s:x.s<=15
 j0:-32768<=x.jump
 j1:x.jump<=32767
 n0:-2147483648<=x.num
 n1:x.num<=2147483647
 h0:-2147483648<=x.high
 h1:x.high<=2147483647
 l:x.label.size<=100
 m:x.name.size<=300
def dQ.wide(x:dQ):Nat:=(x.high%4294967296).toNat*4294967296+(x.num%4294967296).toNat
abbrev PK:=Nat
abbrev PK.comma:PK:=(0:Nat)
abbrev PK.opens:PK:=(1:Nat)
abbrev PK.shut:PK:=(2:Nat)
abbrev PK.result:PK:=(3:Nat)
abbrev PK.operand:PK:=(4:Nat)
abbrev PK.source:PK:=(5:Nat)
abbrev PK.number:PK:=(6:Nat)
abbrev PK.label:PK:=(7:Nat)
abbrev PK.offset:PK:=(8:Nat)
abbrev PK.wide:PK:=(9:Nat)
def PK.fills(p:PK):Nat :=
 match (p:Nat)with
 |0=>0
 |1=>0
 |2=>0
 |3=>1
 |4=>1
 |5=>2
 |6=>8
 |7=>4
 |8=>4
 |9=>10
 |_=>0
def aa1(n:Nat):tLB:=114::Lib.itoa (n:Int)
def aej(j:Int):tLB:=if 0<j then 43::Lib.itoa j else if j<0 then Lib.itoa j else []
def gH(x:dQ):tLB:=if x.s=1 then [109,97,112,32]++BL x.name else Lib.decDigits x.wide
def PK.write(x:dQ)(p:PK):tLB :=
 match (p:Nat)with
 |0=>[44,32]
 |1=>[91]
 |2=>[93]
 |3=>aa1 x.d
 |4=>aa1 x.d
 |5=>aa1 x.s
 |6=>Lib.itoa x.num
 |7=>BL x.label
 |8=>aej x.jump
 |9=>gH x
 |_=>[]
def PK.right(x:dQ)(p:PK):Bool :=
 match (p:Nat)with
 |0=>eJ
 |1=>eJ
 |2=>eJ
 |3=>eS (x.d<10)
 |4=>eS (x.d<=10)
 |5=>eS (x.s<=10)
 |6=>eJ
 |7=>eJ
 |8=>eJ
 |9=>eS (x.s=0)||(eS (x.s=1)&&eS (x.high=0))
 |_=>eJ
def cK(x:dQ)(f:Nat):Bool :=
 (eS (f%2≠0)||decide (x.d=0))&&(eS (f &&& 2≠0)||decide (x.s=0))&&(eS (f &&& 4≠0)||decide (x.jump=0))&&(eS (f &&& 8≠0)||decide (x.num=0))
def dM(ps:List PK):Nat:=ps.foldl (λf p=>f ||| p.fills) 0
structure dX where
 code:Nat
 word:tLB
 parts:List PK
 slots:Nat
 jumps:Bool
 ends:Bool
 aJ:Nat
 call:Bool
def gY(code:Nat)(word:tLB)(parts:List PK):dX:=⟨code,word,parts,1,eE,eE,0,eE⟩
def pT:List tLB:=[[103,101,116],[112,117,116],[100,101,108],[108,111,103]]
def dX.write(o:dX)(x:dQ):tLB :=
 if o.call then(if x.s=1 then [99,97,108,108,32]++BL x.name else [104,101,108,112,32]++pT[(x.num-1).toNat]?.getD [])
 else o.word++(if o.parts=[]then []else [32])++o.parts.flatMap (PK.write x)
def dX.needs(o:dX)(x:dQ):Bool :=
 if o.call then cK x 10&&(eS (x.s=1)||(eS (x.s=0)&&eS (1<=x.num)&&eS (x.num<5)))
 else o.parts.all (PK.right x)&&cK x (dM o.parts)
def w32(l:tLB):tLB:=l++[51,50]
def lW:List PK:=[.result,.comma,.source]
def mZ:List PK:=[.result,.comma,.number]
def jX:List tLB:=[[109,111,118],[97,100,100],[115,117,98],[109,117,108],[100,105,118],[109,111,100],[97,110,100],[111,114],[120,111,114],[108,115,104],[114,115,104],[97,115,104]]
def BC(n:Nat)(w:tLB):List dX:=[gY (1+n) w lW,gY (17+n) (w32 w) lW,gY (33+n) w mZ,gY (49+n) (w32 w) mZ]
def K0:List dX:=(jX.zipIdx.flatMap λx=>BC x.2 x.1)++[gY 13 [110,101,103] [.result],gY 29 [110,101,103,51,50] [.result]]
def ni:List PK:=[.operand,.comma,.source,.comma,.label]
def oz:List PK:=[.operand,.comma,.number,.comma,.label]
def sH:List tLB:=[[106,101,113],[106,110,101],[106,103,116],[106,103,101],[106,108,116],[106,108,101],[106,115,103,116],[106,115,103,101],[106,115,108,116],[106,115,108,101],[106,115,101,116]]
def FX(n:Nat)(w:tLB):List dX:=[gY (65+n) w ni,gY (97+n) w oz]
def aa2:List dX:={gY 64 [106,97] [.label]with ends:=eJ}::(sH.zipIdx.flatMap λx=>FX x.2 x.1)
def NJ:List dX:=aa2.map λo=>{o with jumps:=eJ}
def kN:List PK:=[.result,.comma,.opens,.source,.offset,.shut]
def jI:List PK:=[.opens,.operand,.offset,.shut,.comma,.source]
def iW:List PK:=[.opens,.operand,.offset,.shut,.comma,.number]
def tX:List tLB:=[[49],[50],[52],[56]]
def NK(n:Nat)(w:tLB):List dX:=[gY (128+n) ([108,100]++w) kN,gY (132+n) ([115,116]++w) jI,gY (136+n) ([115,116]++w) iW]
def aa3:List dX:=tX.zipIdx.flatMap λx=>NK x.2 x.1
def FY:List dX:=[{gY 192 [119,105,100,101] [.result,.comma,.wide]with slots:=2,aJ:=2},⟨193,[],[],1,eE,eE,1,eJ⟩,{gY 194 [101,120,105,116] []with ends:=eJ}]
def ax:List dX:=K0++NJ++aa3++FY
theorem eZ:ax.length=88:=by decide
def Env (w : World) : Prop := Lib.TabIs prog w "internal/strconv.uint64pow10" .u64 Lib.pow10Tab
theorem aa.below{w w':tW}(m:aa ah w w'):Below w.heap.size w w':=⟨m.os,m.tape,m.output,m.size,λk hk=>m.block k hk id⟩
theorem aa.of_below{w w':tW}(m:Below w.heap.size w w'):aa ah w w':=⟨m.os,m.tape,m.output,m.size,λk hk _=>m.block k hk⟩
theorem Env.ae{w w':tW}(h:Env w)(m:aa ah w w'):Env w':=Lib.tabBelow_of_tabIs h w' m.below
theorem aa.grow(w:tW)(k:Nat)(os:Array Obj):aa ah w (Sort.grow (w.drewN k) os) :=
 ⟨rfl,rfl,rfl,by simp[World.drewN],λi hi _=>Sort.heap_grow_old (w.drewN k) os (by simpa [World.drewN]using hi)⟩
theorem Uc(n:Int)(h0:-9223372036854775808<=n)(h1:n<=9223372036854775807)(w:tW)(hE:Env w):Calls prog 202 #[vI n] w λe w'=>e=fR (eI (T (Lib.itoa n)))/\aa ah w w' :=
 (Any.strconv_Itoa li n h0 h1 w hE).mono λ_ _ ⟨he,k,os,hw⟩=>⟨he,hw ▸ aa.grow w k os⟩
theorem Ud(n:Int)(h0:-9223372036854775808<=n)(h1:n<=9223372036854775807):(Lib.itoa n).length<=21:=Lib.itoa_length_le n h0 h1
theorem Ue(x:dQ)(hx:x.Fit)(w:tW):Calls prog 198 #[fW x.cells] w λe w'=>e=fR (fS (PK.source.right x))/\aa ah w w':=by obtain⟨op,d,s,jump,num,high,label,name⟩:=x;have hs:=hx.s;clear hx;unfold dQ.cells at *;simp only[PK.right]at *;go_in;go_wp2_with fail;go_ret;exact⟨by simp;omega,aq⟩
theorem Uf(x:dQ)(hx:x.Fit)(w:tW):Calls prog 231 #[fW x.cells] w λe w'=>e=fR (fS (PK.operand.right x))/\aa ah w w':=by obtain⟨op,d,s,jump,num,high,label,name⟩:=x;have hs:=hx.d;clear hx;unfold dQ.cells at *;simp only[PK.right]at *;go_in;go_wp2_with fail;go_ret;exact⟨by simp;omega,aq⟩
theorem Ug(x:dQ)(hx:x.Fit)(w:tW):Calls prog 192 #[fW x.cells] w λe w'=>e=fR (fS (PK.result.right x))/\aa ah w w':=by obtain⟨op,d,s,jump,num,high,label,name⟩:=x;have hs:=hx.d;clear hx;unfold dQ.cells at *;simp only[PK.right]at *;go_in;go_wp2_with fail;go_ret;exact⟨by simp;omega,aq⟩
theorem qI(x:dQ)(w:tW):Calls prog 203 #[fW x.cells] w λe w'=>e=fR (fS eJ)/\aa ah w w':=by obtain⟨op,d,s,jump,num,high,label,name⟩:=x;unfold dQ.cells at *;simp only at *;go_in;go_wp2_with fail;go_ret;exact⟨rfl,aq⟩
theorem Pf(x:dQ)(hx:x.Fit)(w:tW):Calls prog 258 #[fW x.cells] w λe w'=>e=fR (fS (PK.wide.right x))/\aa ah w w':=by
 obtain⟨op,d,s,jump,num,high,label,name⟩:=x;have hs:=hx.s;clear hx;unfold dQ.cells at *;simp only[PK.right]at *;by_cases h0:s=0
 ·subst h0;go_in;go_wp2_with fail;go_ret;exact⟨by simp,aq⟩
 ·by_cases h1:s=1
  ·subst h1;go_in;go_wp2_with fail;go_ret;exact⟨by simp;rfl,aq⟩
  ·have q0:eS ((s:Int)=0)=eE:=by simp;omega
   have q1:eS ((s:Int)=1)=eE:=by simp;omega
   go_in;go_wp2_with fail;go_ret;exact⟨by simp[h0,h1],aq⟩
