import Derived.Test.YthnphhgpfedeeaaGreatDoorCF05
import Derived.Test.YthnphhgpfedeeaaGreatDoorCF01
import Derived.Lib.AppendIntMem
import Derived.Lib.ItoaLen
namespace Go.Proofs.YthnphhgpfedeeaaGreatDoor
open Go.RowKit Tryz
set_option linter.all false
set_option maxHeartbeats 400000
structure di where
 op:Value
 d:Nat
 s:Nat
 jump:Int
 num:Int
 high:Int
 label:tBA
 name:tBA
def di.cells(x:di):tAV:=#[x.op,.int .u8 x.d,.int .u8 x.s,.int .i16 x.jump,.int .i32 x.num,.int .i32 x.high,.string x.label,.string x.name]
def di.dU(x:di):List Value:=[x.op,.int .u8 x.d,.int .u8 x.s,.int .i16 x.jump,.int .i32 x.num,.int .i32 x.high,.string x.label,.string x.name]
structure di.Fit(x:di):Prop where
 d:x.d<=15
 s:x.s<=15
 j0:-32768<=x.jump
 j1:x.jump<=32767
 n0:-2147483648<=x.num
 n1:x.num<=2147483647
 h0:-2147483648<=x.high
 h1:x.high<=2147483647
 l:x.label.size<=100
 m:x.name.size<=300
def di.wide(x:di):Nat:=(x.high%4294967296).toNat*4294967296+(x.num%4294967296).toNat
abbrev PK:=Nat
abbrev PK.comma:PK:=(0:Nat)
abbrev PK.opens:PK:=(1:Nat)
abbrev PK.shut:PK:=(2:Nat)
abbrev PK.result:PK:=(3:Nat)
abbrev PK.operand:PK:=(4:Nat)
abbrev PK.source:PK:=(5:Nat)
abbrev PK.number:PK:=(6:Nat)
abbrev PK.label:PK:=(7:Nat)
abbrev PK.offset:PK:=(8:Nat)
abbrev PK.wide:PK:=(9:Nat)
def PK.fills(p:PK):Nat :=
 match (p:Nat)with
 |0=>0
 |1=>0
 |2=>0
 |3=>1
 |4=>1
 |5=>2
 |6=>8
 |7=>4
 |8=>4
 |9=>10
 |_=>0
def kR(n:Nat):tLB:=114::Lib.itoa (n:Int)
def adp(j:Int):tLB:=if 0<j then 43::Lib.itoa j else if j<0 then Lib.itoa j else []
def dW(x:di):tLB:=if x.s=1 then [109,97,112,32]++BL x.name else Lib.decDigits x.wide
def PK.write(x:di)(p:PK):tLB :=
 match (p:Nat)with
 |0=>[44,32]
 |1=>[91]
 |2=>[93]
 |3=>kR x.d
 |4=>kR x.d
 |5=>kR x.s
 |6=>Lib.itoa x.num
 |7=>BL x.label
 |8=>adp x.jump
 |9=>dW x
 |_=>[]
def PK.right(x:di)(p:PK):Bool :=
 match (p:Nat)with
 |0=>true
 |1=>true
 |2=>true
 |3=>decide (x.d<10)
 |4=>decide (x.d<=10)
 |5=>decide (x.s<=10)
 |6=>true
 |7=>true
 |8=>true
 |9=>decide (x.s=0)||(decide (x.s=1)&&decide (x.high=0))
 |_=>true
def fJ(x:di)(f:Nat):Bool :=
 (decide (f%2≠0)||decide (x.d=0))&&(decide (f &&& 2≠0)||decide (x.s=0))&&(decide (f &&& 4≠0)||decide (x.jump=0))&&(decide (f &&& 8≠0)||decide (x.num=0))
def lM(ps:List PK):Nat:=ps.foldl (λf p=>f ||| p.fills) 0
structure dY where
 code:Nat
 word:tLB
 parts:List PK
 slots:Nat
 jumps:Bool
 ends:Bool
 aO:Nat
 call:Bool
def fK(code:Nat)(word:tLB)(parts:List PK):dY:=⟨code,word,parts,1,false,false,0,false⟩
def lN:List tLB:=[[103,101,116],[112,117,116],[100,101,108],[108,111,103]]
def dY.write(o:dY)(x:di):tLB :=
 if o.call then(if x.s=1 then [99,97,108,108,32]++BL x.name else [104,101,108,112,32]++lN[(x.num-1).toNat]?.getD [])
 else o.word++(if o.parts=[]then []else [32])++o.parts.flatMap (PK.write x)
def dY.needs(o:dY)(x:di):Bool :=
 if o.call then fJ x 10&&(decide (x.s=1)||(decide (x.s=0)&&decide (1<=x.num)&&decide (x.num<5)))
 else o.parts.all (PK.right x)&&fJ x (lM o.parts)
def w32(l:tLB):tLB:=l++[51,50]
def nT:List PK:=[.result,.comma,.source]
def qO:List PK:=[.result,.comma,.number]
def iX:List tLB:=[[109,111,118],[97,100,100],[115,117,98],[109,117,108],[100,105,118],[109,111,100],[97,110,100],[111,114],[120,111,114],[108,115,104],[114,115,104],[97,115,104]]
def zO(n:Nat)(w:tLB):List dY:=[fK (1+n) w nT,fK (17+n) (w32 w) nT,fK (33+n) w qO,fK (49+n) (w32 w) qO]
def JE:List dY:=(iX.zipIdx.flatMap λx=>zO x.2 x.1)++[fK 13 [110,101,103] [.result],fK 29 [110,101,103,51,50] [.result]]
def uE:List PK:=[.operand,.comma,.source,.comma,.label]
def wN:List PK:=[.operand,.comma,.number,.comma,.label]
def nU:List tLB:=[[106,101,113],[106,110,101],[106,103,116],[106,103,101],[106,108,116],[106,108,101],[106,115,103,116],[106,115,103,101],[106,115,108,116],[106,115,108,101],[106,115,101,116]]
def Eo(n:Nat)(w:tLB):List dY:=[fK (65+n) w uE,fK (97+n) w wN]
def aag:List dY:={fK 64 [106,97] [.label]with ends:=true}::(nU.zipIdx.flatMap λx=>Eo x.2 x.1)
def LA:List dY:=aag.map λo=>{o with jumps:=true}
def rG:List PK:=[.result,.comma,.opens,.source,.offset,.shut]
def pU:List PK:=[.opens,.operand,.offset,.shut,.comma,.source]
def nW:List PK:=[.opens,.operand,.offset,.shut,.comma,.number]
def nX:List tLB:=[[49],[50],[52],[56]]
def LB(n:Nat)(w:tLB):List dY:=[fK (128+n) ([108,100]++w) rG,fK (132+n) ([115,116]++w) pU,fK (136+n) ([115,116]++w) nW]
def aah:List dY:=nX.zipIdx.flatMap λx=>LB x.2 x.1
def Er:List dY:=[{fK 192 [119,105,100,101] [.result,.comma,.wide]with slots:=2,aO:=2},⟨193,[],[],1,false,false,1,true⟩,{fK 194 [101,120,105,116] []with ends:=true}]
def aq:List dY:=JE++LA++aah++Er
theorem dZ:aq.length=88:=by decide
def Env (w : World) : Prop := Lib.TabIs prog w "internal/strconv.uint64pow10" .u64 Lib.pow10Tab
theorem aa.below{w w':tW}(m:aa ae w w'):Below w.heap.size w w':=⟨m.os,m.tape,m.output,m.size,λk hk=>m.block k hk id⟩
theorem aa.of_below{w w':tW}(m:Below w.heap.size w w'):aa ae w w':=⟨m.os,m.tape,m.output,m.size,λk hk _=>m.block k hk⟩
theorem Env.ag{w w':tW}(h:Env w)(m:aa ae w w'):Env w':=Lib.tabBelow_of_tabIs h w' m.below
theorem aa.grow(w:tW)(k:Nat)(os:Array Obj):aa ae w (Sort.grow (w.drewN k) os) :=
 ⟨rfl,rfl,rfl,by simp[World.drewN],λi hi _=>Sort.heap_grow_old (w.drewN k) os (by simpa [World.drewN]using hi)⟩
theorem RG(n:Int)(h0:-9223372036854775808<=n)(h1:n<=9223372036854775807)(w:tW)(hE:Env w):Calls prog 183 #[.int .i64 n] w λe w'=>e=.returned (.string (T (Lib.itoa n)))/\aa ae w w' :=
 (Any.strconv_Itoa li n h0 h1 w hE).mono λ_ _ ⟨he,k,os,hw⟩=>⟨he,hw ▸ aa.grow w k os⟩
theorem RH(n:Int)(h0:-9223372036854775808<=n)(h1:n<=9223372036854775807):(Lib.itoa n).length<=21:=Lib.itoa_length_le n h0 h1
theorem RI(x:di)(hx:x.Fit)(w:tW):Calls prog 178 #[.agg x.cells] w λe w'=>e=.returned (.bool (PK.source.right x))/\aa ae w w':=by obtain⟨op,d,s,jump,num,high,label,name⟩:=x;have hs:=hx.s;clear hx;unfold di.cells at *;simp only[PK.right]at *;go_enter func178,ntmps178;go_wp2_with fail;go_ret;exact⟨by simp;omega,aj⟩
theorem RJ(x:di)(hx:x.Fit)(w:tW):Calls prog 212 #[.agg x.cells] w λe w'=>e=.returned (.bool (PK.operand.right x))/\aa ae w w':=by obtain⟨op,d,s,jump,num,high,label,name⟩:=x;have hs:=hx.d;clear hx;unfold di.cells at *;simp only[PK.right]at *;go_enter func212,ntmps212;go_wp2_with fail;go_ret;exact⟨by simp;omega,aj⟩
theorem RL(x:di)(hx:x.Fit)(w:tW):Calls prog 172 #[.agg x.cells] w λe w'=>e=.returned (.bool (PK.result.right x))/\aa ae w w':=by obtain⟨op,d,s,jump,num,high,label,name⟩:=x;have hs:=hx.d;clear hx;unfold di.cells at *;simp only[PK.right]at *;go_enter func172,ntmps172;go_wp2_with fail;go_ret;exact⟨by simp;omega,aj⟩
theorem pV(x:di)(w:tW):Calls prog 184 #[.agg x.cells] w λe w'=>e=.returned (.bool true)/\aa ae w w':=by obtain⟨op,d,s,jump,num,high,label,name⟩:=x;unfold di.cells at *;simp only at *;go_enter func184,ntmps184;go_wp2_with fail;go_ret;exact⟨rfl,aj⟩
theorem Np(x:di)(hx:x.Fit)(w:tW):Calls prog 239 #[.agg x.cells] w λe w'=>e=.returned (.bool (PK.wide.right x))/\aa ae w w':=by
 obtain⟨op,d,s,jump,num,high,label,name⟩:=x;have hs:=hx.s;clear hx;unfold di.cells at *;simp only[PK.right]at *;by_cases h0:s=0
 ·subst h0;go_enter func239,ntmps239;go_wp2_with fail;go_ret;exact⟨by simp,aj⟩
 ·by_cases h1:s=1
  ·subst h1;go_enter func239,ntmps239;go_wp2_with fail;go_ret;exact⟨by simp;rfl,aj⟩
  ·have q0:decide ((s:Int)=0)=false:=by simp;omega
   have q1:decide ((s:Int)=1)=false:=by simp;omega
   go_enter func239,ntmps239;go_wp2_with fail;go_ret;exact⟨by simp[h0,h1],aj⟩
theorem or_hi(a b:Nat)(ha:a<4294967296)(hb:b<4294967296):bits .or .u64 ((a:Int)*4294967296) (b:Int)=((a*4294967296+b:Nat):Int):=by
 have h:=(bits_nat .u64 64 (by decide) (λn h0 h1=>by rw[IntKind.wrap_u64];omega) (a*4294967296) b (by omega) (by omega)).2;have e:=Nat.two_pow_add_eq_or_of_lt (i:=32) (show b<2 ^ 32 by omega) a;rw[Nat.mul_comm]at e;have e2:(2:Nat) ^ 32=4294967296:=by decide
 rw[e2]at e;rw[<-e]at h
 simpa using h
theorem agz(x:di)(w:tW):Calls prog 241 #[.agg x.cells] w λe w'=>e=.returned (.int .u64 x.wide)/\aa ae w w':=by
 obtain⟨op,d,s,jump,num,high,label,name⟩:=x;unfold di.cells at *;simp only[di.wide]at *;have HO:af (_=_):=or_hi (high%4294967296).toNat (num%4294967296).toNat (by omega) (by omega);have e1:(((high%4294967296).toNat:Nat):Int)=high%4294967296:=by omega
 have e2:(((num%4294967296).toNat:Nat):Int)=num%4294967296:=by omega
 have HO2:af (bits .or .u64 (high%4294967296*4294967296) (num%4294967296)=(((high%4294967296).toNat*4294967296+(num%4294967296).toNat:Nat):Int)):=by have h:=HO.o;rw[e1,e2]at h;exact h
 clear HO e1 e2;go_enter func241,ntmps241;go_wp2_with fail;go_ret;refine⟨?_,aj⟩;rw[<-HO2.o];rfl
abbrev E0:tBA:={data:=#[]}
theorem ak.iV{w:tW}{b:Nat}{v0 v1 v2 v3 v4 v5 v6 v7:Value}{t:TypeId}(h:ak w b #[v0,v1,v2,v3,v4,v5,v6,v7] t):w.cell? ⟨b,0,none⟩=some v0/\w.cell? ⟨b,1,none⟩=some v1/\w.cell? ⟨b,2,none⟩=some v2/\w.cell? ⟨b,3,none⟩=some v3/\w.cell? ⟨b,4,none⟩=some v4/\w.cell? ⟨b,5,none⟩=some v5/\w.cell? ⟨b,6,none⟩=some v6/\w.cell? ⟨b,7,none⟩=some v7 :=
 ⟨h.cell 0,h.cell 1,h.cell 2,h.cell 3,h.cell 4,h.cell 5,h.cell 6,h.cell 7⟩
theorem ak.rH{w:tW}{z:Nat}{t:TypeId}{v0 v1 v2 v3 v4 v5 v6 v7:Value}(h:ak w z #[v0,v1,v2,v3,v4,v5,v6,v7] t)(a0 a1 a2 a3 a4 a5 a6 a7:Value):ak ((((((((w.setCell ⟨z,0,none⟩ a0).setCell ⟨z,1,none⟩ a1).setCell ⟨z,2,none⟩ a2).setCell ⟨z,3,none⟩ a3).setCell ⟨z,4,none⟩ a4).setCell ⟨z,5,none⟩ a5).setCell ⟨z,6,none⟩ a6).setCell ⟨z,7,none⟩ a7) z #[a0,a1,a2,a3,a4,a5,a6,a7] t:=by have h0:ak (w.setCell ⟨z,0,none⟩ a0) z #[a0,v1,v2,v3,v4,v5,v6,v7] t:=h.set 0 a0;have h1:ak ((w.setCell ⟨z,0,none⟩ a0).setCell ⟨z,1,none⟩ a1) z #[a0,a1,v2,v3,v4,v5,v6,v7] t:=h0.set 1 a1;have h2:ak (((w.setCell ⟨z,0,none⟩ a0).setCell ⟨z,1,none⟩ a1).setCell ⟨z,2,none⟩ a2) z #[a0,a1,a2,v3,v4,v5,v6,v7] t:=h1.set 2 a2;have h3:ak ((((w.setCell ⟨z,0,none⟩ a0).setCell ⟨z,1,none⟩ a1).setCell ⟨z,2,none⟩ a2).setCell ⟨z,3,none⟩ a3) z #[a0,a1,a2,a3,v4,v5,v6,v7] t:=h2.set 3 a3;have h4:ak (((((w.setCell ⟨z,0,none⟩ a0).setCell ⟨z,1,none⟩ a1).setCell ⟨z,2,none⟩ a2).setCell ⟨z,3,none⟩ a3).setCell ⟨z,4,none⟩ a4) z #[a0,a1,a2,a3,a4,v5,v6,v7] t:=h3.set 4 a4;have h5:ak ((((((w.setCell ⟨z,0,none⟩ a0).setCell ⟨z,1,none⟩ a1).setCell ⟨z,2,none⟩ a2).setCell ⟨z,3,none⟩ a3).setCell ⟨z,4,none⟩ a4).setCell ⟨z,5,none⟩ a5) z #[a0,a1,a2,a3,a4,a5,v6,v7] t:=h4.set 5 a5;have h6:ak (((((((w.setCell ⟨z,0,none⟩ a0).setCell ⟨z,1,none⟩ a1).setCell ⟨z,2,none⟩ a2).setCell ⟨z,3,none⟩ a3).setCell ⟨z,4,none⟩ a4).setCell ⟨z,5,none⟩ a5).setCell ⟨z,6,none⟩ a6) z #[a0,a1,a2,a3,a4,a5,a6,v7] t:=h5.set 6 a6;have h7:ak ((((((((w.setCell ⟨z,0,none⟩ a0).setCell ⟨z,1,none⟩ a1).setCell ⟨z,2,none⟩ a2).setCell ⟨z,3,none⟩ a3).setCell ⟨z,4,none⟩ a4).setCell ⟨z,5,none⟩ a5).setCell ⟨z,6,none⟩ a6).setCell ⟨z,7,none⟩ a7) z #[a0,a1,a2,a3,a4,a5,a6,a7] t:=h6.set 7 a7;exact h7
theorem aa.rH{S:Nat->Prop}{w0 w:tW}{z:Nat}(h:aa S w0 w)(hz:S z\/w0.heap.size<=z)(a0 a1 a2 a3 a4 a5 a6 a7:Value):aa S w0 ((((((((w.setCell ⟨z,0,none⟩ a0).setCell ⟨z,1,none⟩ a1).setCell ⟨z,2,none⟩ a2).setCell ⟨z,3,none⟩ a3).setCell ⟨z,4,none⟩ a4).setCell ⟨z,5,none⟩ a5).setCell ⟨z,6,none⟩ a6).setCell ⟨z,7,none⟩ a7) :=
 (((((((h.set (a:=⟨z,0,none⟩) hz a0).set (a:=⟨z,1,none⟩) hz a1).set (a:=⟨z,2,none⟩) hz a2).set (a:=⟨z,3,none⟩) hz a3).set (a:=⟨z,4,none⟩) hz a4).set (a:=⟨z,5,none⟩) hz a5).set (a:=⟨z,6,none⟩) hz a6).set (a:=⟨z,7,none⟩) hz a7
theorem aw{P:Program}{fn:Func}{p u:Tmp}{ty:TypeId}(h:fn.results=#[.cell p ty,.tmp u])(tmps:tAV)(w:tW)(g:Nat)(t:TypeId)(cs:tAV)(fr:Nat×Nat)(d:TypeDesc)(v:Value)(hp:tmps.getD p undef=.pointer (some ⟨g,0,none⟩)) (hv:tmps.getD u undef=v) (hg:w.heap[g]?=some (.cells cs t fr))(hu:P.underlying ty=some d) (hd:(match d with|.struct _|.array _ _=>true|_=>false)=true) (hi:(P.info? ty).map (·.size)=some cs.size):(results fn tmps).run P w=.ok (.tuple #[.agg cs,v]) w:=by rw[results_cell_tmp h,hp,hv];simp[asAddr,run_loadVar_row w g t ty cs fr d hg hu hd hi]
structure bC where
 v:Nat
 minus:Bool
def iy(c:UInt8):Bool:=ru (c.toNat:Int)
def ay(l:tLB):tLB:=l.dropWhile (λc=>c==32)
def aG(l:tLB):tLB×tLB:=((ay l).takeWhile iy,(ay l).dropWhile iy)
def aP(b:UInt8)(l:tLB):Bool:=(ay l).head?==some b
def aN(b:UInt8)(l:tLB):tLB:=if aP b l then(ay l).tail else ay l
def jE(l:tLB):Option tLB :=
 if l.all (λc=>decide (32<=(c.toNat:Int))&&decide ((c.toNat:Int)<=126))then some (l.takeWhile (λc=>c != 59))else none
def uS(n:Nat):tLB:=114::Lib.itoa (n:Int)
def aZ(w:tLB):Option Nat:=(List.range 11).find? (λn=>w==uS n)
def rJ(c:UInt8):Nat:=if 48<=c.toNat/\c.toNat<=57 then c.toNat-48 else if 97<=c.toNat/\c.toNat<=102 then c.toNat-87 else 255
def digsP(base:Nat):tLB->Nat->Option Nat
 |[],v=>some v
 |c::l,v=>if base<=rJ c then none else digsP base l (v*base+rJ c)
def Cy(w:tLB):Bool:=List.isPrefixOf [48,120] w
def rM(w:tLB):Nat:=if Cy w then 16 else 10
def lQ(w:tLB):tLB:=if Cy w then w.drop 2 else w
def cK(w:tLB):Option Nat:=if lQ w=[]\/20<w.length then none else digsP (rM w) (lQ w) 0
def bC.uT(n:bC):List Value:=[.bool n.minus,.int .u64 ((n.v%18446744073709551616:Nat):Int),.bool (decide (18446744073709551616<=n.v))]
def gz(l:tLB):Option (bC×tLB) :=
 if aP 45 l&&(aN 45 l).head?==some 32 then none
 else(cK (aG (aN 45 l)).1).map (λv=>(⟨v,aP 45 l⟩,(aG (aN 45 l)).2))
def bC.dV(n:bC)(half:Nat):Option Int :=
 if 18446744073709551616<=n.v then none
 else if n.minus then(if n.v<=half then some (-(n.v:Int))else none)
 else(if n.v<half then some (n.v:Int)else none)
def bC.dW(n:bC):Option Nat :=
 if 18446744073709551616<=n.v then none
 else if n.minus then(if n.v<=9223372036854775808 then some ((18446744073709551616-n.v)%18446744073709551616)else none)
 else some n.v
structure bD where
 word:tLB
 rest:tLB
 d:Nat:=0
 s:Nat:=0
 jump:Int:=0
 num:Int:=0
 high:Int:=0
 label:tLB:=[]
 name:tLB:=[]
 far:Bool:=false
def bD.cells(op:Value)(r:bD):tAV:=#[.string (T r.word),.string (T r.rest),op,.int .u8 r.d,.int .u8 r.s,.int .i16 r.jump,.int .i32 r.num,.int .i32 r.high,.string (T r.label),.string (T r.name),.bool r.far]
def bD.mark(b:UInt8)(r:bD):Option bD:=if aP b r.rest then some {r with rest:=aN b r.rest}else none
def bD.rO(r:bD):Option bD:=(aZ (aG r.rest).1).map (λn=>{r with d:=n,rest:=(aG r.rest).2})
def bD.wR(r:bD):Option bD:=(aZ (aG r.rest).1).map (λn=>{r with s:=n,rest:=(aG r.rest).2})
def bD.number(r:bD):Option bD:=(gz r.rest).map (λx=>{r with num:=(x.1.dV 2147483648).getD 0,far:=r.far||(x.1.dV 2147483648).isNone,rest:=x.2})
def bD.lab(r:bD):Option bD:=if nameB (aG r.rest).1 then some {r with label:=(aG r.rest).1,rest:=(aG r.rest).2}else none
def bD.off(r:bD):Option bD :=
 if aP 45 r.rest then
  (cK (aG (aN 45 r.rest)).1).map (λv=>{r with jump:=((bC.mk v true).dV 32768).getD 0,far:=r.far||((bC.mk v true).dV 32768).isNone,rest:=(aG (aN 45 r.rest)).2})
 else if aP 43 r.rest then
  (cK (aG (aN 43 r.rest)).1).map (λv=>{r with jump:=((bC.mk v false).dV 32768).getD 0,far:=r.far||((bC.mk v false).dV 32768).isNone,rest:=(aG (aN 43 r.rest)).2})
 else some {r with rest:=ay r.rest}
def nY(v:Nat):Int:=(((v:Int)+2147483648)%4294967296)-2147483648
def bD.wide(r:bD):Option bD :=
 if(aG r.rest).1=[109,97,112]then
  (if nameB (aG (aG r.rest).2).1 then some {r with s:=1,name:=(aG (aG r.rest).2).1,rest:=(aG (aG r.rest).2).2}else none)
 else(gz r.rest).map (λx=>{r with num:=nY (x.1.dW.getD 0),high:=nY ((x.1.dW.getD 0)/4294967296),far:=r.far||x.1.dW.isNone,rest:=x.2})
def bD.call(r:bD):Option bD :=
 if r.word=[99,97,108,108]then
  (if nameB (aG r.rest).1 then some {r with s:=1,name:=(aG r.rest).1,rest:=(aG r.rest).2}else none)
 else(lN.findIdx? (λh=>h==(aG r.rest).1)).map (λn=>{r with num:=(1+n:Nat),rest:=(aG r.rest).2})
def PK.read(p:PK)(r:bD):Option bD :=
 match (p:Nat)with
 |0=>r.mark 44
 |1=>r.mark 91
 |2=>r.mark 93
 |3=>r.rO
 |4=>r.rO
 |5=>r.wR
 |6=>r.number
 |7=>r.lab
 |8=>r.off
 |9=>r.wide
 |_=>none
def readPs:List PK->bD->Option bD
 |[],r=>some r
 |p::ps,r=>(p.read r).bind (readPs ps)
def dY.words(o:dY):List tLB:=if o.call then [[104,101,108,112],[99,97,108,108]]else [o.word]
def dY.read(o:dY)(r:bD):Option bD:=if o.call then r.call else readPs o.parts r
structure dH where
 k:Nat
 r:bD
def bD.ins(r:bD):di:=⟨.pointer none,r.d,r.s,r.jump,r.num,r.high,T r.label,T r.name⟩
def dH.o(x:dH):dY:=aq[x.k]?.getD ⟨0,[],[],0,false,false,0,false⟩
def dH.fits(x:dH):Bool:=!x.r.far&&x.o.needs x.r.ins
def readFrom(w l:tLB):Nat->List dY->Option dH
 |_,[]=>none
 |k,o::os =>
  if o.words.contains w then
   (match o.read ⟨w,l,0,0,0,0,0,[],[],false⟩with
    |none=>readFrom w l (k+1) os
    |some r=>if ay r.rest=[]then some ⟨k,{r with rest:=[]}⟩else readFrom w l (k+1) os)
  else readFrom w l (k+1) os
def j9(w l:tLB):Option dH:=readFrom w l 0 aq
def jW(w:tLB):Bool:=aq.any (λo=>o.words.contains w)
structure dN where
 kind:Nat:=0
 name:tLB:=[]
 ns:List bC:=[⟨0,false⟩,⟨0,false⟩,⟨0,false⟩]
 x:dH:=⟨0,⟨[],[],0,0,0,0,0,[],[],false⟩⟩
def gp(w:tLB):Bool:=w==[109,97,112]||w==[102,117,110,99]||(aZ w).isSome||jW w
def uU(l:tLB):Option dN :=
 if nameB (aG l).1 then
  (gz (aG l).2).bind λa=>(gz a.2).bind λb=>(gz b.2).bind λc=>if ay c.2=[]then some {kind:=1,name:=(aG l).1,ns:=[a.1,b.1,c.1]}else none
 else none
def bT(t:tLB):Option dN :=
 (jE t).bind λl =>
  if ay l=[]then some {}
  else if aP 58 (aG l).2 then
   (if ay (aN 58 (aG l).2)=[]/\nameB (aG l).1=true/\gp (aG l).1=false then some {kind:=3,name:=(aG l).1}else none)
  else if(aG l).1=[109,97,112]then uU (ay (aG l).2)
  else if(aG l).1=[102,117,110,99]then
   (if nameB (aG (ay (aG l).2)).1=true/\ay (aG (ay (aG l).2)).2=[]then some {kind:=2,name:=(aG (ay (aG l).2)).1}else none)
  else(j9 (aG l).1 (ay (aG l).2)).map λx=>{kind:=4,x:=x}
