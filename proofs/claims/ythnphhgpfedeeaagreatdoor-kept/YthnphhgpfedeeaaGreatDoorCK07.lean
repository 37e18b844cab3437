import Derived.Test.YthnphhgpfedeeaaGreatDoorCK05
import Derived.Test.YthnphhgpfedeeaaGreatDoorCK01
import Derived.Lib.AppendIntMem
import Derived.Lib.ItoaLen
import Derived.Deep.DeepCutAuto
import Derived.Deep.CutBlock
import Derived.Test.YthnphhgpfedeeaaGreatDoorCK03
namespace Go.Proofs.YthnphhgpfedeeaaGreatDoor
open Go.RowKit Tryz
open _root_.Array renaming toList_extract->cx
open Lib renaming itoa->al
open List renaming dropWhile_cons->ao,isPrefixOf->ar,take_succ_cons->ba,drop_succ_cons->bh,extract_eq_take_drop->bj,drop_length->bt,take_of_length_le->b5,dropWhile_sublist->cj,take_zero->cq,drop_zero->cw,takeWhile_cons->cy,take_length->cI,length->eJ
open Nat renaming mod_eq_of_lt->ab,zero_le->b9,lt_or_ge->cD,le_of_eq->cG
open Option renaming not_isSome->cH,some->eK,none->eL
open Bool renaming true->fR,false->fj
open Decidable renaming decide->gh
open Ending renaming returned->fW
open Obj renaming cells->fL
open Or renaming inr->ij
open Value renaming string->eR,agg->fY,bool->fX,pointer->ia,tuple->jl
open _root_.Go renaming Value->fa,Calls->fS,maxLen->jz,TypeId->ju,bodyPost_ret->kx,wpQuiet_nil->mS
set_option linter.all false
set_option maxRecDepth 100000
set_option maxHeartbeats 2000000
structure dM where
 op:fa
 d:Nat
 s:Nat
 jump:Int
 num:Int
 high:Int
 label:tBA
 name:tBA
def dM.cells(x:dM):tAV:=#[x.op,vB x.d,vB x.s,.int .i16 x.jump,vJ x.num,vJ x.high,eR x.label,eR x.name]
def dM.eQ(x:dM):tLV:=[x.op,vB x.d,vB x.s,.int .i16 x.jump,vJ x.num,vJ x.high,eR x.label,eR x.name]
structure dM.Fit(x:dM):Prop where
 d:x.d<=15
 s:x.s<=15
 j0:-32768<=x.jump
 j1:x.jump<=32767
 n0:-2147483648<=x.num
 n1:x.num<=2147483647
 h0:-2147483648<=x.high
 h1:x.high<=2147483647
 l:x.label.size<=100
 m:x.name.size<=300
def dM.wide(x:dM):Nat:=(x.high%4294967296).toNat*4294967296+(x.num%4294967296).toNat
abbrev PK:=Nat
abbrev PK.comma:PK:=(0:Nat)
abbrev PK.opens:PK:=(1:Nat)
abbrev PK.shut:PK:=(2:Nat)
abbrev PK.result:PK:=(3:Nat)
abbrev PK.operand:PK:=(4:Nat)
abbrev PK.source:PK:=(5:Nat)
abbrev PK.number:PK:=(6:Nat)
abbrev PK.label:PK:=(7:Nat)
abbrev PK.offset:PK:=(8:Nat)
abbrev PK.wide:PK:=(9:Nat)
def PK.fills(p:PK):Nat :=
 match (p:Nat)with
 |0=>0
 |1=>0
 |2=>0
 |3=>1
 |4=>1
 |5=>2
 |6=>8
 |7=>4
 |8=>4
 |9=>10
 |_=>0
def abr(n:Nat):tLB:=114::al (n:Int)
def aeK(j:Int):tLB:=if 0<j then 43::al j else if j<0 then al j else []
def eX(x:dM):tLB:=if x.s=1 then [109,97,112,32]++BL x.name else Lib.decDigits x.wide
def PK.write(x:dM)(p:PK):tLB :=
 match (p:Nat)with
 |0=>[44,32]
 |1=>[91]
 |2=>[93]
 |3=>abr x.d
 |4=>abr x.d
 |5=>abr x.s
 |6=>al x.num
 |7=>BL x.label
 |8=>aeK x.jump
 |9=>eX x
 |_=>[]
def PK.right(x:dM)(p:PK):Bool :=
 match (p:Nat)with
 |0=>fR
 |1=>fR
 |2=>fR
 |3=>gh (x.d<10)
 |4=>gh (x.d<=10)
 |5=>gh (x.s<=10)
 |6=>fR
 |7=>fR
 |8=>fR
 |9=>gh (x.s=0)||(gh (x.s=1)&&gh (x.high=0))
 |_=>fR
def gT(x:dM)(f:Nat):Bool :=
 (gh (f%2≠0)||decide (x.d=0))&&(gh (f &&& 2≠0)||decide (x.s=0))&&(gh (f &&& 4≠0)||decide (x.jump=0))&&(gh (f &&& 8≠0)||decide (x.num=0))
def mZ(ps:List PK):Nat:=ps.foldl (λf p=>f ||| p.fills) 0
structure fO where
 code:Nat
 word:tLB
 parts:List PK
 slots:Nat
 jumps:Bool
 ends:Bool
 bD:Nat
 call:Bool
def gU(code:Nat)(word:tLB)(parts:List PK):fO:=⟨code,word,parts,1,fj,fj,0,fj⟩
def oq:List tLB:=[[103,101,116],[112,117,116],[100,101,108],[108,111,103]]
def fO.write(o:fO)(x:dM):tLB :=
 if o.call then(if x.s=1 then [99,97,108,108,32]++BL x.name else [104,101,108,112,32]++oq[(x.num-1).toNat]?.getD [])
 else o.word++(if o.parts=[]then []else [32])++o.parts.flatMap (PK.write x)
def fO.needs(o:fO)(x:dM):Bool :=
 if o.call then gT x 10&&(gh (x.s=1)||(gh (x.s=0)&&gh (1<=x.num)&&gh (x.num<5)))
 else o.parts.all (PK.right x)&&gT x (mZ o.parts)
def w32(l:tLB):tLB:=l++[51,50]
def sN:List PK:=[.result,.comma,.source]
def ug:List PK:=[.result,.comma,.number]
def jD:List tLB:=[[109,111,118],[97,100,100],[115,117,98],[109,117,108],[100,105,118],[109,111,100],[97,110,100],[111,114],[120,111,114],[108,115,104],[114,115,104],[97,115,104]]
def Cc(n:Nat)(w:tLB):List fO:=[gU (1+n) w sN,gU (17+n) (w32 w) sN,gU (33+n) w ug,gU (49+n) (w32 w) ug]
def La:List fO:=(jD.zipIdx.flatMap λx=>Cc x.2 x.1)++[gU 13 [110,101,103] [.result],gU 29 [110,101,103,51,50] [.result]]
def uh:List PK:=[.operand,.comma,.source,.comma,.label]
def xq:List PK:=[.operand,.comma,.number,.comma,.label]
def pU:List tLB:=[[106,101,113],[106,110,101],[106,103,116],[106,103,101],[106,108,116],[106,108,101],[106,115,103,116],[106,115,103,101],[106,115,108,116],[106,115,108,101],[106,115,101,116]]
def Gi(n:Nat)(w:tLB):List fO:=[gU (65+n) w uh,gU (97+n) w xq]
def abt:List fO:={gU 64 [106,97] [.label]with ends:=fR}::(pU.zipIdx.flatMap λx=>Gi x.2 x.1)
def NG:List fO:=abt.map λo=>{o with jumps:=fR}
def ui:List PK:=[.result,.comma,.opens,.source,.offset,.shut]
def qF:List PK:=[.opens,.operand,.offset,.shut,.comma,.source]
def pV:List PK:=[.opens,.operand,.offset,.shut,.comma,.number]
def pW:List tLB:=[[49],[50],[52],[56]]
def NH(n:Nat)(w:tLB):List fO:=[gU (128+n) ([108,100]++w) ui,gU (132+n) ([115,116]++w) qF,gU (136+n) ([115,116]++w) pV]
def abu:List fO:=pW.zipIdx.flatMap λx=>NH x.2 x.1
def Gj:List fO:=[{gU 192 [119,105,100,101] [.result,.comma,.wide]with slots:=2,bD:=2},⟨193,[],[],1,fj,fj,1,fR⟩,{gU 194 [101,120,105,116] []with ends:=fR}]
def az:List fO:=La++NG++abu++Gj
theorem fF:eJ az=88:=by decide
def Env (w : World) : Prop := Lib.TabIs prog w "internal/strconv.uint64pow10" .u64 Lib.pow10Tab
theorem aa.below{w w':tW}(m:aa af w w'):Below w.heap.size w w':=⟨m.os,m.tape,m.output,m.size,λk hk=>m.block k hk id⟩
theorem aa.of_below{w w':tW}(m:Below w.heap.size w w'):aa af w w':=⟨m.os,m.tape,m.output,m.size,λk hk _=>m.block k hk⟩
theorem Env.ai{w w':tW}(h:Env w)(m:aa af w w'):Env w':=Lib.tabBelow_of_tabIs h w' m.below
theorem aa.grow(w:tW)(k:Nat)(os:Array Obj):aa af w (Sort.grow (w.drewN k) os) :=
 ⟨rfl,rfl,rfl,by simp[World.drewN],λi hi _=>Sort.heap_grow_old (w.drewN k) os (by simpa [World.drewN]using hi)⟩
theorem TS(n:Int)(h0:-9223372036854775808<=n)(h1:n<=9223372036854775807)(w:tW)(hE:Env w):fS prog 183 #[vI n] w λe w'=>e=fW (eR (T (al n)))/\aa af w w' :=
 (Any.strconv_Itoa li n h0 h1 w hE).mono λ_ _ ⟨he,k,os,hw⟩=>⟨he,hw ▸ aa.grow w k os⟩
theorem TT(n:Int)(h0:-9223372036854775808<=n)(h1:n<=9223372036854775807):eJ (al n)<=21:=Lib.itoa_length_le n h0 h1
theorem TU(x:dM)(hx:x.Fit)(w:tW):fS prog 178 #[fY x.cells] w λe w'=>e=fW (fX (PK.source.right x))/\aa af w w':=by obtain⟨op,d,s,jump,num,high,label,name⟩:=x;have hs:=hx.s;clear hx;unfold dM.cells at *;simp only[PK.right]at *;go_in;go_wp2_with fail;go_ret;exact⟨by simp;omega,aw⟩
theorem TV(x:dM)(hx:x.Fit)(w:tW):fS prog 212 #[fY x.cells] w λe w'=>e=fW (fX (PK.operand.right x))/\aa af w w':=by obtain⟨op,d,s,jump,num,high,label,name⟩:=x;have hs:=hx.d;clear hx;unfold dM.cells at *;simp only[PK.right]at *;go_in;go_wp2_with fail;go_ret;exact⟨by simp;omega,aw⟩
theorem TW(x:dM)(hx:x.Fit)(w:tW):fS prog 172 #[fY x.cells] w λe w'=>e=fW (fX (PK.result.right x))/\aa af w w':=by obtain⟨op,d,s,jump,num,high,label,name⟩:=x;have hs:=hx.d;clear hx;unfold dM.cells at *;simp only[PK.right]at *;go_in;go_wp2_with fail;go_ret;exact⟨by simp;omega,aw⟩
theorem qG(x:dM)(w:tW):fS prog 184 #[fY x.cells] w λe w'=>e=fW (fX fR)/\aa af w w':=by obtain⟨op,d,s,jump,num,high,label,name⟩:=x;unfold dM.cells at *;simp only at *;go_in;go_wp2_with fail;go_ret;exact⟨rfl,aw⟩
theorem O9(x:dM)(hx:x.Fit)(w:tW):fS prog 239 #[fY x.cells] w λe w'=>e=fW (fX (PK.wide.right x))/\aa af w w':=by
 obtain⟨op,d,s,jump,num,high,label,name⟩:=x;have hs:=hx.s;clear hx;unfold dM.cells at *;simp only[PK.right]at *;by_cases h0:s=0
 ·subst h0;go_in;go_wp2_with fail;go_ret;exact⟨by simp,aw⟩
 ·by_cases h1:s=1
  ·subst h1;go_in;go_wp2_with fail;go_ret;exact⟨by simp;rfl,aw⟩
  ·have q0:gh ((s:Int)=0)=fj:=by simp;omega
   have q1:gh ((s:Int)=1)=fj:=by simp;omega
   go_in;go_wp2_with fail;go_ret;exact⟨by simp[h0,h1],aw⟩
structure bI where
 v:Nat
 minus:Bool
def xu(c:UInt8):Bool:=yL (c.toNat:Int)
def aC(l:tLB):tLB:=l.dropWhile (λc=>c==32)
def aK(l:tLB):tLB×tLB:=((aC l).takeWhile xu,(aC l).dropWhile xu)
def bC(b:UInt8)(l:tLB):Bool:=(aC l).head?==eK b
def bu(b:UInt8)(l:tLB):tLB:=if bC b l then(aC l).tail else aC l
def kr(l:tLB):Option tLB :=
 if l.all (λc=>gh (32<=(c.toNat:Int))&&gh ((c.toNat:Int)<=126))then eK (l.takeWhile (λc=>c != 59))else eL
def Cn(n:Nat):tLB:=114::al (n:Int)
def dw(w:tLB):Option Nat:=(List.range 11).find? (λn=>w==Cn n)
def zW(c:UInt8):Nat:=if 48<=c.toNat/\c.toNat<=57 then c.toNat-48 else if 97<=c.toNat/\c.toNat<=102 then c.toNat-87 else 255
def digsP(base:Nat):tLB->Nat->Option Nat
 |[],v=>eK v
 |c::l,v=>if base<=zW c then eL else digsP base l (v*base+zW c)
def IL(w:tLB):Bool:=ar [48,120] w
def yR(w:tLB):Nat:=if IL w then 16 else 10
def pX(w:tLB):tLB:=if IL w then w.drop 2 else w
def dS(w:tLB):Option Nat:=if pX w=[]\/20<eJ w then eL else digsP (yR w) (pX w) 0
def bI.xP(n:bI):tLV:=[fX n.minus,vU ((n.v%18446744073709551616:Nat):Int),fX (gh (18446744073709551616<=n.v))]
def fT(l:tLB):Option (bI×tLB) :=
 if bC 45 l&&(bu 45 l).head?==eK 32 then eL
 else(dS (aK (bu 45 l)).1).map (λv=>(⟨v,bC 45 l⟩,(aK (bu 45 l)).2))
def bI.dC(n:bI)(half:Nat):Option Int :=
 if 18446744073709551616<=n.v then eL
 else if n.minus then(if n.v<=half then eK (-(n.v:Int))else eL)
 else(if n.v<half then eK (n.v:Int)else eL)
def bI.eX(n:bI):Option Nat :=
 if 18446744073709551616<=n.v then eL
 else if n.minus then(if n.v<=9223372036854775808 then eK ((18446744073709551616-n.v)%18446744073709551616)else eL)
 else eK n.v
structure dH where
 word:tLB
 rest:tLB
 d:Nat:=0
 s:Nat:=0
 jump:Int:=0
 num:Int:=0
 high:Int:=0
 label:tLB:=[]
 name:tLB:=[]
 far:Bool:=fj
def dH.cells(op:fa)(r:dH):tAV:=#[eR (T r.word),eR (T r.rest),op,vB r.d,vB r.s,.int .i16 r.jump,vJ r.num,vJ r.high,eR (T r.label),eR (T r.name),fX r.far]
def dH.mark(b:UInt8)(r:dH):Option dH:=if bC b r.rest then eK {r with rest:=bu b r.rest}else eL
def dH.Co(r:dH):Option dH:=(dw (aK r.rest).1).map (λn=>{r with d:=n,rest:=(aK r.rest).2})
def dH.EA(r:dH):Option dH:=(dw (aK r.rest).1).map (λn=>{r with s:=n,rest:=(aK r.rest).2})
def dH.number(r:dH):Option dH:=(fT r.rest).map (λx=>{r with num:=(x.1.dC 2147483648).getD 0,far:=r.far||(x.1.dC 2147483648).isNone,rest:=x.2})
def dH.lab(r:dH):Option dH:=if nameB (aK r.rest).1 then eK {r with label:=(aK r.rest).1,rest:=(aK r.rest).2}else eL
def dH.off(r:dH):Option dH :=
 if bC 45 r.rest then
  (dS (aK (bu 45 r.rest)).1).map (λv=>{r with jump:=((bI.mk v fR).dC 32768).getD 0,far:=r.far||((bI.mk v fR).dC 32768).isNone,rest:=(aK (bu 45 r.rest)).2})
 else if bC 43 r.rest then
  (dS (aK (bu 43 r.rest)).1).map (λv=>{r with jump:=((bI.mk v fj).dC 32768).getD 0,far:=r.far||((bI.mk v fj).dC 32768).isNone,rest:=(aK (bu 43 r.rest)).2})
 else eK {r with rest:=aC r.rest}
def uj(v:Nat):Int:=(((v:Int)+2147483648)%4294967296)-2147483648
def dH.wide(r:dH):Option dH :=
 if(aK r.rest).1=[109,97,112]then
  (if nameB (aK (aK r.rest).2).1 then eK {r with s:=1,name:=(aK (aK r.rest).2).1,rest:=(aK (aK r.rest).2).2}else eL)
 else(fT r.rest).map (λx=>{r with num:=uj (x.1.eX.getD 0),high:=uj ((x.1.eX.getD 0)/4294967296),far:=r.far||x.1.eX.isNone,rest:=x.2})
def dH.call(r:dH):Option dH :=
 if r.word=[99,97,108,108]then
  (if nameB (aK r.rest).1 then eK {r with s:=1,name:=(aK r.rest).1,rest:=(aK r.rest).2}else eL)
 else(oq.findIdx? (λh=>h==(aK r.rest).1)).map (λn=>{r with num:=(1+n:Nat),rest:=(aK r.rest).2})
def PK.read(p:PK)(r:dH):Option dH :=
 match (p:Nat)with
 |0=>r.mark 44
 |1=>r.mark 91
 |2=>r.mark 93
 |3=>r.Co
 |4=>r.Co
 |5=>r.EA
 |6=>r.number
 |7=>r.lab
 |8=>r.off
 |9=>r.wide
 |_=>eL
def readPs:List PK->dH->Option dH
 |[],r=>eK r
 |p::ps,r=>(p.read r).bind (readPs ps)
def fO.words(o:fO):List tLB:=if o.call then [[104,101,108,112],[99,97,108,108]]else [o.word]
def fO.read(o:fO)(r:dH):Option dH:=if o.call then r.call else readPs o.parts r
structure fD where
 k:Nat
 r:dH
def dH.ins(r:dH):dM:=⟨vO,r.d,r.s,r.jump,r.num,r.high,T r.label,T r.name⟩
def fD.o(x:fD):fO:=az[x.k]?.getD ⟨0,[],[],0,fj,fj,0,fj⟩
def fD.fits(x:fD):Bool:=!x.r.far&&x.o.needs x.r.ins
def readFrom(w l:tLB):Nat->List fO->Option fD
 |_,[]=>eL
 |k,o::os =>
  if o.words.contains w then
   (match o.read ⟨w,l,0,0,0,0,0,[],[],fj⟩with
    |none=>readFrom w l (k+1) os
    |some r=>if aC r.rest=[]then eK ⟨k,{r with rest:=[]}⟩else readFrom w l (k+1) os)
  else readFrom w l (k+1) os
def ni(w l:tLB):Option fD:=readFrom w l 0 az
def kQ(w:tLB):Bool:=az.any (λo=>o.words.contains w)
structure fE where
 kind:Nat:=0
 name:tLB:=[]
 ns:List bI:=[⟨0,fj⟩,⟨0,fj⟩,⟨0,fj⟩]
 x:fD:=⟨0,⟨[],[],0,0,0,0,0,[],[],fj⟩⟩
def ik(w:tLB):Bool:=w==[109,97,112]||w==[102,117,110,99]||(dw w).isSome||kQ w
def fZ(l:tLB):Option fE :=
 if nameB (aK l).1 then
  (fT (aK l).2).bind λa=>(fT a.2).bind λb=>(fT b.2).bind λc=>if aC c.2=[]then eK {kind:=1,name:=(aK l).1,ns:=[a.1,b.1,c.1]}else eL
 else eL
def dR(t:tLB):Option fE :=
 (kr t).bind λl =>
  if aC l=[]then eK {}
  else if bC 58 (aK l).2 then
   (if aC (bu 58 (aK l).2)=[]/\nameB (aK l).1=fR/\ik (aK l).1=fj then eK {kind:=3,name:=(aK l).1}else eL)
  else if(aK l).1=[109,97,112]then fZ (aC (aK l).2)
  else if(aK l).1=[102,117,110,99]then
   (if nameB (aK (aC (aK l).2)).1=fR/\aC (aK (aC (aK l).2)).2=[]then eK {kind:=2,name:=(aK (aC (aK l).2)).1}else eL)
  else(ni (aK l).1 (aC (aK l).2)).map λx=>{kind:=4,x:=x}
theorem TY(v base d:Nat)(hb:base=10\/base=16)(hd:d<=15):(gh (18446744073709551616<=v*base+d)=(gh (18446744073709551616<=v)||decide ((18446744073709551615-d)/base<v%18446744073709551616))) /\ (v*base+d)%18446744073709551616=(v%18446744073709551616*base+d)%18446744073709551616:=by
 constructor
 ·rw[Bool.eq_iff_iff];simp only[Bool.or_eq_true,decide_eq_true_eq];rcases hb with rfl|rfl
  ·constructor
   ·intro h;by_cases hv:18446744073709551616<=v
    ·exact .inl hv
    ·right;rw[ab (by omega)];omega
   ·rintro(h|h)
    ·omega
    ·by_cases hv:18446744073709551616<=v
     ·omega
     ·rw[ab (by omega)]at h;omega
  ·constructor
   ·intro h;by_cases hv:18446744073709551616<=v
    ·exact .inl hv
    ·right;rw[ab (by omega)];omega
   ·rintro(h|h)
    ·omega
    ·by_cases hv:18446744073709551616<=v
     ·omega
     ·rw[ab (by omega)]at h;omega
 ·rw[Nat.add_mod,Nat.mul_mod]
  conv=>rhs;rw[Nat.add_mod,Nat.mul_mod,Nat.mod_mod]
theorem wrap64(x:Int):IntKind.u64.wrap x=x%18446744073709551616:=by simp[IntKind.wrap,IntKind.signed,IntKind.bits]
theorem zX(l:tLB)(n:Nat):(T l).extract 0 n=T (l.take n):=by
 have:((T l).extract 0 n).data.toList=l.take n:=by rw[ByteArray.data_extract,cx,bj];simp[T]
 rw[<-this];rfl
theorem nj(l:tLB)(n:Nat):(T l).extract n (T l).size=T (l.drop n):=by
 have:((T l).extract n (T l).size).data.toList=l.drop n:=by
  rw[ByteArray.data_extract,cx,bj];rw[di];show(l.drop n).take (eJ l-n)=l.drop n
  exact b5 (by simp)
 rw[<-this];rfl
theorem kR:(T []).toList.isEmpty=fR:=sK rfl
theorem iR(b:UInt8)(l:tLB):(T (b::l)).toList.isEmpty=fj:=tU (by rw[di];simp)
theorem qH(c:Int)(w:tW):fS prog 252 #[vB c] w λe w'=>e=fW (fX (tO c))/\w'=w:=by
 by_cases h1:97<=c
 ·go_in;go_wp2;go_ret;exact⟨by simp[tO,h1],rfl⟩
 ·go_in;go_wp2;go_ret;exact⟨by simp[tO];omega,rfl⟩
theorem nk(c:Int)(w:tW):fS prog 301 #[vB c] w λe w'=>e=fW (fX (qB c))/\w'=w:=by
 by_cases h1:48<=c
 ·go_in;go_wp2;go_ret;exact⟨by simp[qB,h1],rfl⟩
 ·go_in;go_wp2;go_ret;exact⟨by simp[qB];omega,rfl⟩
theorem lT(c:Int)(w:tW):fS prog 251 #[vB c] w λe w'=>e=fW (fX (yL c))/\w'=w:=by
 cases hd:qB c<;>cases hs:tO c
 all_goals
  go_in;go_wp2_with (first |(go_at_call 301;refine(nk _ _).mono ?_;rintro e w' ⟨rfl,rfl⟩) |(go_at_call 252;refine(qH _ _).mono ?_;rintro e w' ⟨rfl,rfl⟩));go_ret;exact⟨by simp[yL,hd,hs],rfl⟩
theorem uk(s:tBA)(w:tW)(hs:s.size<=jz):fS prog 139 #[eR s] w λe w'=>e=fW (fX (nameB s.data.toList))/\w'=w:=by
 unfold jz at hs;by_cases h0:0<s.size
 ·have he:=tU h0;have HN:ah (_=_):=TP h0;by_cases h1:s.size<=16
  ·have hb:((s.size:Int)<=16):=by omega
   cases h2:tO (s[0].toNat:Int)with
   |false =>go_in;go_wp2_with (go_at_call 252;refine(qH _ _).mono ?_;rintro e w' ⟨rfl,rfl⟩);go_ret;exact⟨tV (by rw[HN.o,h2];simp),rfl⟩
   |true =>
    go_in;go_wp2_with (go_at_call 252;refine(qH _ _).mono ?_;rintro e w' ⟨rfl,rfl⟩);go_loop [19] (λi=>∃k:Nat,k<=s.size/\i=vI k/\(s.data.toList.take k).all (λc=>yL (c.toNat:Int))=fR) (λi=>s.size-(intOf i).toNat)
    case atStart=>exact⟨0,b9 _,rfl,rfl⟩
    case round =>
     obtain⟨k,hk,rfl,hall⟩:=hrel;have HA:=aq hall;clear hall;by_cases hlt:k<s.size
     ·cases hp:yL (s[k].toNat:Int)with
      |false =>go_wp2_with (go_at_call 251;refine(lT _ _).mono ?_;rintro e w' ⟨rfl,rfl⟩);go_ret;exact⟨tV (by rw[HN.o,K8 hlt hp];simp),rfl⟩
      |true =>
       go_wp2_with (go_at_call 251;refine(lT _ _).mono ?_;rintro e w' ⟨rfl,rfl⟩);go_round
       case rel=>exact⟨k+1,by omega,by go_num,by rw[O8 s k hlt];simp[HA.o,hp]⟩
       case measure=>simp[intOf];omega
     ·go_wp2;go_ret;have ht:s.data.toList.take k=s.data.toList:=b5 (by simp;omega);exact⟨tV (by rw[HN.o,h2,<-ht,HA.o];simp[h1]),rfl⟩
  ·have hb:¬((s.size:Int)<=16):=by omega
   go_in;go_wp2_with (go_at_call 252;refine(qH _ _).mono ?_;rintro e w' ⟨rfl,rfl⟩);go_ret;exact⟨tV (by rw[HN.o];simp[h1]),rfl⟩
 ·have he:=sK (s:=s) (by omega);have hz:ah (_=_):=K7 (s:=s) (by omega);go_in;go_wp2;go_ret;exact⟨tV hz.o.symm,rfl⟩
structure lF(w:tW)(b o:Nat)(cs:tAV)(t:ju)(l:tLB):Prop where
 blk:au w b cs t
 at':cs[o]?=eK (eR (T l))
theorem lF.set{w:tW}{b o:Nat}{cs:tAV}{t:ju}{l:tLB}(h:lF w b o cs t l)(l':tLB):lF (w.setCell ⟨b,o,eL⟩ (eR (T l'))) b o (cs.setIfInBounds o (eR (T l'))) t l' :=
 ⟨h.blk.set o _,by
  have :=(Array.getElem?_eq_some_iff.1 h.at').1;simp[Array.getElem?_setIfInBounds,this]⟩
theorem lF.cell{w:tW}{b o:Nat}{cs:tAV}{t:ju}{l:tLB}(h:lF w b o cs t l):w.cell? ⟨b,o,eL⟩=eK (eR (T l)):=(h.blk.cell o).trans h.at'
theorem lF.frozen{w:tW}{b o:Nat}{cs:tAV}{t:ju}{l:tLB}(h:lF w b o cs t l):w.frozen? ⟨b,o,eL⟩=fj:=h.blk.frozen o
theorem lF.ai{w w':tW}{b o:Nat}{cs:tAV}{t:ju}{l:tLB}(h:lF w b o cs t l)(m:aa af w w'):lF w' b o cs t l:=⟨h.blk.ai m id,h.at'⟩
theorem set_set(cs:tAV)(o:Nat)(v v':fa):(cs.setIfInBounds o v).setIfInBounds o v'=cs.setIfInBounds o v':=by
 apply Array.ext
 ·simp
 ·intro i h1 h2;simp only[Array.size_setIfInBounds]at h1 h2;by_cases e:o=i<;>simp[Array.getElem_setIfInBounds,e]
theorem Pc(l:tLB)(w:tW):fS prog 300 #[eR (T l),eR ⟨#[32]⟩] w λe w'=>e=fW (eR (T (aC l)))/\w'=w:=by
 have h:=Any.strings_TrimLeft_one lt (T l) 32 (by decide) w;have e:(T l).data.toList=l:=by simp[T]
 rw[e]at h;exact h
theorem IM(l p:tLB)(w:tW):fS prog 271 #[eR (T l),eR (T p)] w λe w'=>e=fW (fX (p.isPrefixOf l))/\w'=w:=by
 have h:=Any.strings_HasPrefix lp (T l) (T p) w;have e:∀l,(T l).data.toList=l:=λl=>by simp[T]
 rw[e,e]at h;exact h
theorem Cq(b o:Nat)(cs:tAV)(t:ju)(l:tLB)(w:tW)(h:lF w b o cs t l):fS prog 250 #[ia (eK ⟨b,o,eL⟩)] w λe w'=>e=fW (jl #[])/\w'=w.setCell ⟨b,o,eL⟩ (eR (T (aC l))):=by have c0:=h.cell;have f0:=h.frozen;go_in;go_wp2_with fail;refine(Pc l _).mono ?_;rintro e w1 ⟨rfl,rfl⟩;go_wp2_with fail;go_end0;exact⟨rfl,rfl⟩
def aW(w:tW)(b o:Nat)(cs:tAV)(t:ju)(l':tLB)(w':tW):Prop:=lF w' b o (cs.setIfInBounds o (eR (T l'))) t l'/\aa (Only b) w w'
theorem kZ(b o:Nat)(cs:tAV)(t:ju)(l:tLB)(w:tW)(h:lF w b o cs t l):fS prog 136 #[ia (eK ⟨b,o,eL⟩)] w λe w'=>e=fW (fX (gh (aC l=[])))/\aW w b o cs t (aC l) w':=by
 have HP:ah (aW w b o cs t (aC l) (w.setCell ⟨b,o,eL⟩ (eR (T (aC l))))):=⟨h.set _,ax.bA o _⟩
 have c1:=(h.set (aC l)).cell;have HK:=aq (Cq b o cs t l w h);generalize aC l=m at *;cases m with
 |nil =>have he:=kR;go_in;go_wp2_with fail;refine HK.o.mono ?_;rintro e w1 ⟨rfl,rfl⟩;go_wp2_with fail;go_ret;exact⟨by simp,HP.o⟩
 |cons c m =>have he:=iR c m;go_in;go_wp2_with fail;refine HK.o.mono ?_;rintro e w1 ⟨rfl,rfl⟩;go_wp2_with fail;go_ret;exact⟨by simp,HP.o⟩
theorem iy(l:tLB):eJ (aC l)<=eJ l:=(cj _).length_le
theorem iT(b o:Nat)(cs:tAV)(t:ju)(l:tLB)(c:UInt8)(w:tW)(h:lF w b o cs t l)(hl:eJ l<=1000000):fS prog 138 #[ia (eK ⟨b,o,eL⟩),vB (c.toNat:Int)] w λe w'=>e=fW (fX (bC c l))/\aW w b o cs t (bu c l) w':=by
 have h1:=h.set (aC l);have HP:ah (aW w b o cs t (aC l) (w.setCell ⟨b,o,eL⟩ (eR (T (aC l))))):=⟨h1,ax.bA o _⟩
 have c1:=h1.cell;have f1:=h1.frozen;have hsl:=iy l;have HM:ah (bC c l=((aC l).head?==eK c)):=rfl;have HL:ah (bu c l=if bC c l then(aC l).tail else aC l):=rfl;have HK:=aq (Cq b o cs t l w h);generalize bC c l=hm at *;generalize bu c l=ml at *;generalize aC l=m at *;cases m with
 |nil =>have he:=kR;have hm':hm=fj:=HM.o;subst hm';have HL2:=aq HL.o;go_in;go_wp2_with fail;refine HK.o.mono ?_;rintro e w1 ⟨rfl,rfl⟩;go_wp2_with fail;go_ret;rw[HL2.o];exact⟨rfl,HP.o⟩
 |cons d m =>
  have he:=iR d m;have hd:=d.toNat_lt;have hc:=c.toNat_lt;have hs:(T (d::m)).size=eJ m+1:=di _;have hg:(T (d::m))[0]'(by rw[hs];omega)=d:=rfl;simp only[List.length_cons]at hsl;by_cases e:d=c
  ·subst e;have hm':hm=fR:=by rw[HM.o];simp
   subst hm';have HL2:=aq HL.o;have e2:(T (d::m)).extract 1 (eJ m+1)=T m:=by have:=nj (d::m) 1;rw[hs]at this;exact this
   have hq:((d.toNat:Int) !=(d.toNat:Int))=fj:=by simp
   have lU:ah (aW w b o cs t m ((w.setCell ⟨b,o,eL⟩ (eR (T (d::m)))).setCell ⟨b,o,eL⟩ (eR (T m)))):=by have:=h1.set m;rw[set_set]at this;exact⟨this,HP.o.2.bA o _⟩
   go_in;go_wp2_with fail;refine HK.o.mono ?_;rintro e w1 ⟨rfl,rfl⟩;go_wp2_with fail;go_ret;rw[HL2.o];exact⟨rfl,lU.o⟩
  ·have hm':hm=fj:=by rw[HM.o];simpa using e
   subst hm';have HL2:=aq HL.o;have hq:((d.toNat:Int) !=(c.toNat:Int))=fR:=by rw[bne_iff_ne];exact λh=>e (UInt8.toNat_inj.1 (by omega))
   go_in;go_wp2_with fail;refine HK.o.mono ?_;rintro e w1 ⟨rfl,rfl⟩;go_wp2_with fail;go_ret;rw[HL2.o];exact⟨rfl,HP.o⟩
theorem lG(p:UInt8->Bool):∀(l:tLB) (k:Nat),(∀(h:k<eJ l),p l[k]=fj)->k<=eJ l->(∀j (hj:j<k) (h:j<eJ l),p l[j]=fR)->l.takeWhile p=l.take k/\l.dropWhile p=l.drop k
 |[],k,_,hk,_=>by
  have:k=0:=by simpa using hk
  subst this;simp
 |c::l,0,h0,_,_=>by have:=h0 (by simp);simp only[List.getElem_cons_zero]at this;simp[cy,ao,this]
 |c::l,k+1,h0,hk,hj=>by have hc:p c=fR:=hj 0 (by omega) (by simp);have ih:=lG p l k (λh=>by have:=h0 (by simp;omega);simpa using this) (by simpa using hk) (λj hjk h=>by have:=hj (j+1) (by omega) (by simp;omega);simpa using this);simp[cy,ao,hc,ih.1,ih.2]
theorem il(b o:Nat)(cs:tAV)(t:ju)(l:tLB)(w:tW)(h:lF w b o cs t l)(hl:eJ l<=1000000):fS prog 137 #[ia (eK ⟨b,o,eL⟩)] w λe w'=>e=fW (eR (T (aK l).1))/\aW w b o cs t (aK l).2 w':=by
 have h1:=h.set (aC l);have HP:ah (aW w b o cs t (aC l) (w.setCell ⟨b,o,eL⟩ (eR (T (aC l))))):=⟨h1,ax.bA o _⟩
 have hsl:=iy l;have HW:ah (aK l=((aC l).takeWhile xu,(aC l).dropWhile xu)):=rfl;have HK:=aq (Cq b o cs t l w h);generalize aK l=wl at *;generalize aC l=m at *;generalize hw1:w.setCell ⟨b,o,eL⟩ (eR (T m))=wk at *;have hs:(T m).size=eJ m:=di _;clear h hw1;go_in;go_wp2_with fail;refine HK.o.mono ?_;rintro e w1 ⟨rfl,rfl⟩;go_wp2_with fail;go_loopw [3] (λv wx=>∃k:Nat,k<=eJ m/\v=vI k/\aW w b o cs t m wx/\∀j (hj:j<k) (h:j<eJ m),xu m[j]=fR) (λv _=>eJ m-(intOf v).toNat)
 case atStart=>exact⟨0,b9 _,rfl,HP.o,λj hj=>absurd hj (Nat.not_lt_zero _)⟩
 case round =>
  obtain⟨k,hk,rfl,hP,hA⟩:=hrel;have HPk:=aq hP;have HA:=aq hA;have c1:=HPk.o.1.cell;have f1:=HPk.o.1.frozen;clear hP hA HK;by_cases hlt:k<eJ m
  ·have hg:(T m)[k]'(by rw[hs];exact hlt)=m[k]:=rfl;have hb:=(m[k]).toNat_lt;cases hc:xu m[k]with
   |true =>
    have hc':yL ((m[k]).toNat:Int)=fR:=hc;go_wp2_with (go_at_call 251;refine(lT _ _).mono ?_;rintro e w' ⟨rfl,rfl⟩);go_roundw
    case rel=>exact⟨k+1,by omega,by go_num,HPk.o,λj hj h=>by
     rcases cD j k with e|e
     ·exact HA.o j e h
     ·have:j=k:=by omega
      subst this;exact hc⟩
    case measure=>simp[intOf];omega
   |false =>
    have hc':yL ((m[k]).toNat:Int)=fj:=hc;obtain⟨e1,e2⟩:=lG xu m k (λ_=>hc) hk HA.o;have HW2:ah (wl=(m.take k,m.drop k)):=by rw[ah,HW.o,e1,e2]
    have x1:=zX m k;have x2:(T m).extract k (eJ m)=T (m.drop k):=by have:=nj m k;rw[hs]at this;exact this
    have lU:ah (aW w b o cs t (m.drop k) (wr.setCell ⟨b,o,eL⟩ (eR (T (m.drop k))))):=by have:=HPk.o.1.set (m.drop k);rw[set_set]at this;exact⟨this,HPk.o.2.bA o _⟩
    clear e1 e2 HW;go_wp2_with (go_at_call 251;refine(lT _ _).mono ?_;rintro e w' ⟨rfl,rfl⟩);go_ret;rw[HW2.o];exact⟨rfl,lU.o⟩
  ·have hke:k=eJ m:=by omega
   subst hke;obtain⟨e1,e2⟩:=lG xu m (eJ m) (λh=>absurd h (Nat.lt_irrefl _)) hk HA.o;have HW2:ah (wl=(m,[])):=by rw[ah,HW.o,e1,e2,cI,bt]
   have x1:(T m).extract 0 (eJ m)=T m:=by rw[zX,cI]
   have x2:(T m).extract (eJ m) (eJ m)=T []:=by have:=nj m (eJ m);rw[hs,bt]at this;exact this
   have lU:ah (aW w b o cs t [] (wr.setCell ⟨b,o,eL⟩ (eR (T [])))):=by have:=HPk.o.1.set [];rw[set_set]at this;exact⟨this,HPk.o.2.bA o _⟩
   clear e1 e2 HW;go_wp2_with fail;go_ret;rw[HW2.o];exact⟨rfl,lU.o⟩
theorem aW.quiet{w w1 w2:tW}{b o:Nat}{cs:tAV}{t:ju}{l:tLB}(h:aW w b o cs t l w1)(m:aa af w1 w2):aW w b o cs t l w2:=⟨h.1.ai m,h.2.trans m.of_nil⟩
theorem aW.after{w w1 w2:tW}{b o:Nat}{cs:tAV}{t:ju}{l l':tLB}(h:aW w b o cs t l w1)(k:aW w1 b o (cs.setIfInBounds o (eR (T l))) t l' w2):aW w b o cs t l' w2:=by have h1:=k.1;rw[set_set]at h1;exact⟨h1,h.2.trans k.2⟩
theorem jP(l:tLB):eJ (aK l).1<=eJ l/\(aK l).2.length<=eJ l:=by have h:=iy l;have h1:eJ ((aC l).takeWhile xu)<=eJ (aC l):=(List.takeWhile_sublist _).length_le;have h2:eJ ((aC l).dropWhile xu)<=eJ (aC l):=(cj _).length_le;exact⟨Nat.le_trans h1 h,Nat.le_trans h2 h⟩
theorem qI(c:UInt8)(l:tLB):eJ (bu c l)<=eJ l:=by
 have h:=iy l;unfold bu;split
 ·have:eJ (aC l).tail<=eJ (aC l):=by simp
  omega
 ·exact h
theorem pg{a b:tLB}(h:T a=T b):a=b:=by
 have:=congrArg (λx:tBA=>x.data.toList) h
 simpa [T]using this
theorem YM{w:tLB}{k:Nat}(hk:k<11)(h:w=Cn k)(hj:∀j,j<k->w≠Cn j):dw w=eK k:=by
 unfold dw;rw[List.find?_range_eq_some];refine⟨by simp[h],by simpa using hk,λj hjk=>?_⟩;have:=hj j hjk
 simpa using this
theorem TZ{w:tLB}(hj:∀j,j<11->w≠Cn j):dw w=eL:=by
 unfold dw;rw[List.find?_range_eq_none];intro j h;have:=hj j h
 simpa using this
theorem Fe(x:tLB)(w:tW)(hE:Env w)(hx:eJ x<=1000000):fS prog 270 #[eR (T x)] w λe w'=>e=fW (jl #[vB (((dw x).getD 0:Nat):Int),fX (dw x).isSome])/\aa af w w':=by
 have HH:ah (∀k,k<11->x=Cn k->(∀j,j<k->x≠Cn j)->dw x=eK k):=λk=>YM;have HZ:ah ((∀j,j<11->x≠Cn j)->dw x=eL):=TZ;generalize dw x=rx at *;go_in;go_wp2_with fail;go_loopw [5] (λv wx=>∃k:Nat,k<=11/\v=vI k/\aa af w wx/\∀j,j<k->x≠Cn j) (λv _=>11-(intOf v).toNat)
 case atStart=>exact⟨0,b9 _,rfl,ax,λj hj=>absurd hj (Nat.not_lt_zero _)⟩
 case round =>
  obtain⟨k,hk,rfl,hm,hj⟩:=hrel;have HM:=aq hm;have HJ:=aq hj;clear hm hj;by_cases hlt:k<11
  ·have hil:=TT (k:Int) (by omega) (by omega);rw[<-di]at hil;have HE:ah (T (Cn k)=(⟨#[114]⟩:tBA)++T (al (k:Int))):=by rw[ah,Cn];exact Fb [114] _
   go_wp2_with fail;refine(TS (k:Int) (by omega) (by omega) _ (hE.ai HM.o)).mono ?_;rintro e w1 ⟨rfl,m1⟩;have bU:=aq (HM.o.trans m1);clear m1;by_cases hxk:x=Cn k
   ·have HR:=aq (HH.o k hlt hxk HJ.o);have hq:((T x).toList==((⟨#[114]⟩:tBA)++T (al (k:Int))).toList)=fR:=Gh (by rw[hxk,HE.o]);generalize T (al (k:Int))=sd at *;clear HE hxk;go_wp2_with fail;go_ret2;rw[HR.o];exact⟨rfl,bU.o⟩
   ·have hq:((T x).toList==((⟨#[114]⟩:tBA)++T (al (k:Int))).toList)=fj:=tY (λe=>hxk (by rw[<-HE.o]at e;exact pg e));generalize T (al (k:Int))=sd at *;have HX:=aq hxk;clear HE hxk;go_wp2_with fail;go_roundw
    case rel=>exact⟨k+1,by omega,by go_num,bU.o,λj h=>by
     rcases cD j k with e|e
     ·exact HJ.o j e
     ·have:j=k:=by omega
      subst this;exact HX.o⟩
    case measure=>simp[intOf];omega
  ·have HR:=aq (HZ.o (λj h=>HJ.o j (by omega)));go_wp2_with fail;go_ret2;rw[HR.o];exact⟨rfl,HM.o⟩
theorem Pf(x:tLB)(w:tW)(hE:Env w)(hx:eJ x<=1000000):fS prog 253 #[eR (T x)] w λe w'=>e=fW (fX (dw x).isSome)/\aa af w w':=by have HR:=Fe x w hE hx;generalize dw x=rx at *;go_in;go_wp2_with fail;refine HR.mono ?_;rintro e w1 ⟨rfl,m1⟩;go_wp2_with fail;go_ret;exact⟨rfl,m1⟩
theorem IP(b o:Nat)(cs:tAV)(t:ju)(l:tLB)(w:tW)(h:lF w b o cs t l)(hl:eJ l<=1000000)(hE:∀w',aa (Only b) w w'->Env w'):fS prog 175 #[ia (eK ⟨b,o,eL⟩)] w λe w'=>e=fW (jl #[vB (((dw (aK l).1).getD 0:Nat):Int),fX (dw (aK l).1).isSome])/\aW w b o cs t (aK l).2 w':=by have HW:=il b o cs t l w h hl;have hle:=jP l;have HR:ah (∀w',Env w'->fS prog 270 #[eR (T (aK l).1)] w' λe w''=>e=fW (jl #[vB (((dw (aK l).1).getD 0:Nat):Int),fX (dw (aK l).1).isSome])/\aa af w' w''):=λw' hE'=>Fe _ w' hE' (by omega);generalize dw (aK l).1=rx at *;generalize aK l=wl at *;obtain⟨w1,w2⟩:=wl;simp only at *;go_in;go_wp2_with fail;refine HW.mono ?_;rintro e wa ⟨rfl,hp⟩;go_wp2_with fail;refine(HR.o _ (hE _ hp.2)).mono ?_;rintro e wb ⟨rfl,m1⟩;go_wp2_with fail;go_ret2;exact⟨rfl,hp.quiet m1⟩
theorem pY(b o:Nat)(cs:tAV)(t:ju)(l:tLB)(w:tW)(h:lF w b o cs t l)(hl:eJ l<=1000000):fS prog 142 #[ia (eK ⟨b,o,eL⟩)] w λe w'=>e=fW (jl #[eR (T (aK l).1),fX (nameB (aK l).1)])/\aW w b o cs t (aK l).2 w':=by have HW:=il b o cs t l w h hl;have hle:=jP l;have HR:=aq (λw'=>by have:=uk (T (aK l).1) w' (by rw[di];unfold jz;omega);rw[show(T (aK l).1).data.toList=(aK l).1 by simp[T]]at this;exact this);generalize nameB (aK l).1=rx at *;generalize aK l=wl at *;obtain⟨w1,w2⟩:=wl;simp only at *;go_in;go_wp2_with fail;refine HW.mono ?_;rintro e wa ⟨rfl,hp⟩;go_wp2_with fail;refine(HR.o _).mono ?_;rintro e wb ⟨rfl,rfl⟩;go_wp2_with fail;go_ret2;exact⟨rfl,hp⟩
theorem Pg(c:UInt8)(w:tW):fS prog 353 #[vB (c.toNat:Int)] w λe w'=>e=fW (vU (zW c:Nat))/\w'=w:=by
 have hc:=c.toNat_lt;have HD:ah (zW c=if 48<=c.toNat/\c.toNat<=57 then c.toNat-48 else if 97<=c.toNat/\c.toNat<=102 then c.toNat-87 else 255):=rfl;generalize zW c=dc at *;generalize c.toNat=n at *;by_cases h1:48<=n/\n<=57
 ·obtain⟨ha,hb⟩:=h1;have HV:ah ((dc:Int)=(n:Int)-48):=by rw[ah,HD.o,iP9 ⟨ha,hb⟩];omega
  have hq:qB (n:Int)=fR:=by unfold qB;simp;omega
  have ha':(48:Int)<=n:=by omega
  have hb':(n:Int)<=57:=by omega
  go_in;go_wp2_with (go_at_call 301;refine(nk _ _).mono ?_;rintro e w' ⟨rfl,rfl⟩);go_ret;exact⟨by rw[HV.o];rfl,rfl⟩
 ·have hq:qB (n:Int)=fj:=by unfold qB;rw[Bool.and_eq_false_iff];simp;omega
  by_cases h2:97<=n
  ·have h2':(97:Int)<=n:=by omega
   by_cases h3:n<=102
   ·have h3':(n:Int)<=102:=by omega
    have HV:ah ((dc:Int)=(n:Int)-97+10):=by rw[ah,HD.o,iN9 h1,iP9 ⟨h2,h3⟩];omega
    go_in;go_wp2_with (go_at_call 301;refine(nk _ _).mono ?_;rintro e w' ⟨rfl,rfl⟩);go_ret;exact⟨by rw[HV.o];rfl,rfl⟩
   ·have h3':gh ((n:Int)<=102)=fj:=by simp;omega
    have HV:ah (dc=255):=by rw[ah,HD.o,iN9 h1,iN9 (by omega)]
    go_in;go_wp2_with (go_at_call 301;refine(nk _ _).mono ?_;rintro e w' ⟨rfl,rfl⟩);go_ret;exact⟨by rw[HV.o];rfl,rfl⟩
  ·have h2':gh ((97:Int)<=n)=fj:=by simp;omega
   have HV:ah (dc=255):=by rw[ah,HD.o,iN9 h1,iN9 (by omega)]
   go_in;go_wp2_with (go_at_call 301;refine(nk _ _).mono ?_;rintro e w' ⟨rfl,rfl⟩);go_ret;exact⟨by rw[HV.o];rfl,rfl⟩
def bI.dY(n:bI):fa:=fY #[fX n.minus,vU ((n.v%18446744073709551616:Nat):Int),fX (gh (18446744073709551616<=n.v))]
theorem yS(n:bI)(w:tW):fS prog 259 #[n.dY,vI 16] w λe w'=>e=fW (jl #[vI ((n.dC 32768).getD 0),fX (n.dC 32768).isSome])/\aa af w w':=by
 obtain⟨v,mi⟩:=n;have HS:ah ((bI.mk v mi).dC 32768=if 18446744073709551616<=v then eL else if mi then(if v<=32768 then eK (-(v:Int))else eL)else(if v<32768 then eK (v:Int)else eL)):=rfl;generalize(bI.mk v mi).dC 32768=sg at *;unfold bI.dY;dsimp only;by_cases hb:18446744073709551616<=v
 ·have HS2:ah (sg=eL):=by rw[ah,HS.o,iP9 hb]
  have hq:gh (18446744073709551616<=v)=fR:=by simpa using hb
  rw[hq];generalize((v%18446744073709551616:Nat):Int)=u;go_in;go_wp2_with fail;go_ret2;rw[HS2.o];exact⟨rfl,aw⟩
 ·have hq:gh (18446744073709551616<=v)=fj:=by simpa using hb
  have hm:v%18446744073709551616=v:=ab (by omega);rw[hq,hm];have Bg:ah (sg=if mi then(if v<=32768 then eK (-(v:Int))else eL)else(if v<32768 then eK (v:Int)else eL)):=by rw[ah,HS.o,iN9 hb]
  clear HS hq hm;cases mi with
  |true =>
   by_cases h1:v<=32768
   ·have HS2:ah (sg=eK (-(v:Int))):=by rw[ah,Bg.o,iP9 rfl,iP9 h1]
    have h1':(v:Int)<=32768:=by omega
    go_in;go_wp2_with fail;go_ret2;rw[HS2.o];exact⟨rfl,aw⟩
   ·have HS2:ah (sg=eL):=by rw[ah,Bg.o,iP9 rfl,iN9 h1]
    have h1':gh ((v:Int)<=32768)=fj:=by simp;omega
    go_in;go_wp2_with fail;go_ret2;rw[HS2.o];exact⟨rfl,aw⟩
  |false =>
   by_cases h1:v<32768
   ·have HS2:ah (sg=eK (v:Int)):=by rw[ah,Bg.o,iN9 (by decide),iP9 h1]
    have h1':(v:Int)<32768:=by omega
    go_in;go_wp2_with fail;go_ret2;rw[HS2.o];exact⟨rfl,aw⟩
   ·have HS2:ah (sg=eL):=by rw[ah,Bg.o,iN9 (by decide),iN9 h1]
    have h1':gh ((v:Int)<32768)=fj:=by simp;omega
    go_in;go_wp2_with fail;go_ret2;rw[HS2.o];exact⟨rfl,aw⟩
theorem Gl(n:bI)(w:tW):fS prog 259 #[n.dY,vI 32] w λe w'=>e=fW (jl #[vI ((n.dC 2147483648).getD 0),fX (n.dC 2147483648).isSome])/\aa af w w':=by
 obtain⟨v,mi⟩:=n;have HS:ah ((bI.mk v mi).dC 2147483648=if 18446744073709551616<=v then eL else if mi then(if v<=2147483648 then eK (-(v:Int))else eL)else(if v<2147483648 then eK (v:Int)else eL)):=rfl;generalize(bI.mk v mi).dC 2147483648=sg at *;unfold bI.dY;dsimp only;by_cases hb:18446744073709551616<=v
 ·have HS2:ah (sg=eL):=by rw[ah,HS.o,iP9 hb]
  have hq:gh (18446744073709551616<=v)=fR:=by simpa using hb
  rw[hq];generalize((v%18446744073709551616:Nat):Int)=u;go_in;go_wp2_with fail;go_ret2;rw[HS2.o];exact⟨rfl,aw⟩
 ·have hq:gh (18446744073709551616<=v)=fj:=by simpa using hb
  have hm:v%18446744073709551616=v:=ab (by omega);rw[hq,hm];have Bg:ah (sg=if mi then(if v<=2147483648 then eK (-(v:Int))else eL)else(if v<2147483648 then eK (v:Int)else eL)):=by rw[ah,HS.o,iN9 hb]
  clear HS hq hm;cases mi with
  |true =>
   by_cases h1:v<=2147483648
   ·have HS2:ah (sg=eK (-(v:Int))):=by rw[ah,Bg.o,iP9 rfl,iP9 h1]
    have h1':(v:Int)<=2147483648:=by omega
    go_in;go_wp2_with fail;go_ret2;rw[HS2.o];exact⟨rfl,aw⟩
   ·have HS2:ah (sg=eL):=by rw[ah,Bg.o,iP9 rfl,iN9 h1]
    have h1':gh ((v:Int)<=2147483648)=fj:=by simp;omega
    go_in;go_wp2_with fail;go_ret2;rw[HS2.o];exact⟨rfl,aw⟩
  |false =>
   by_cases h1:v<2147483648
   ·have HS2:ah (sg=eK (v:Int)):=by rw[ah,Bg.o,iN9 (by decide),iP9 h1]
    have h1':(v:Int)<2147483648:=by omega
    go_in;go_wp2_with fail;go_ret2;rw[HS2.o];exact⟨rfl,aw⟩
   ·have HS2:ah (sg=eL):=by rw[ah,Bg.o,iN9 (by decide),iN9 h1]
    have h1':gh ((v:Int)<2147483648)=fj:=by simp;omega
    go_in;go_wp2_with fail;go_ret2;rw[HS2.o];exact⟨rfl,aw⟩
theorem lV(n:bI)(w:tW):fS prog 259 #[n.dY,vI 64] w λe w'=>e=fW (jl #[vI ((n.dC 9223372036854775808).getD 0),fX (n.dC 9223372036854775808).isSome])/\aa af w w':=by
 obtain⟨v,mi⟩:=n;have HS:ah ((bI.mk v mi).dC 9223372036854775808=if 18446744073709551616<=v then eL else if mi then(if v<=9223372036854775808 then eK (-(v:Int))else eL)else(if v<9223372036854775808 then eK (v:Int)else eL)):=rfl;generalize(bI.mk v mi).dC 9223372036854775808=sg at *;unfold bI.dY;dsimp only;by_cases hb:18446744073709551616<=v
 ·have HS2:ah (sg=eL):=by rw[ah,HS.o,iP9 hb]
  have hq:gh (18446744073709551616<=v)=fR:=by simpa using hb
  rw[hq];generalize((v%18446744073709551616:Nat):Int)=u;go_in;go_wp2_with fail;go_ret2;rw[HS2.o];exact⟨rfl,aw⟩
 ·have hq:gh (18446744073709551616<=v)=fj:=by simpa using hb
  have hm:v%18446744073709551616=v:=ab (by omega);rw[hq,hm];have Bg:ah (sg=if mi then(if v<=9223372036854775808 then eK (-(v:Int))else eL)else(if v<9223372036854775808 then eK (v:Int)else eL)):=by rw[ah,HS.o,iN9 hb]
  clear HS hq hm;cases mi with
  |true =>
   by_cases h1:v<=9223372036854775808
   ·have HS2:ah (sg=eK (-(v:Int))):=by rw[ah,Bg.o,iP9 rfl,iP9 h1]
    have h1':(v:Int)<=9223372036854775808:=by omega
    have hw:Go.RowKit.wrap64 (-Go.RowKit.wrap64 (v:Int))=-(v:Int):=by unfold Go.RowKit.wrap64;omega
    go_in;go_wp2_with fail;go_ret2;rw[HS2.o];exact⟨rfl,aw⟩
   ·have HS2:ah (sg=eL):=by rw[ah,Bg.o,iP9 rfl,iN9 h1]
    have h1':gh ((v:Int)<=9223372036854775808)=fj:=by simp;omega
    go_in;go_wp2_with fail;go_ret2;rw[HS2.o];exact⟨rfl,aw⟩
  |false =>
   by_cases h1:v<9223372036854775808
   ·have HS2:ah (sg=eK (v:Int)):=by rw[ah,Bg.o,iN9 (by decide),iP9 h1]
    have h1':(v:Int)<9223372036854775808:=by omega
    go_in;go_wp2_with fail;go_ret2;rw[HS2.o];exact⟨rfl,aw⟩
   ·have HS2:ah (sg=eL):=by rw[ah,Bg.o,iN9 (by decide),iN9 h1]
    have h1':gh ((v:Int)<9223372036854775808)=fj:=by simp;omega
    go_in;go_wp2_with fail;go_ret2;rw[HS2.o];exact⟨rfl,aw⟩
theorem T9(n:bI)(w:tW):fS prog 328 #[n.dY] w λe w'=>e=fW (jl #[vU ((n.eX.getD 0:Nat):Int),fX n.eX.isSome])/\aa af w w':=by
 obtain⟨v,mi⟩:=n;have HS:ah ((bI.mk v mi).eX=if 18446744073709551616<=v then eL else if mi then(if v<=9223372036854775808 then eK ((18446744073709551616-v)%18446744073709551616)else eL)else eK v):=rfl;generalize(bI.mk v mi).eX=sg at *;unfold bI.dY;dsimp only;by_cases hb:18446744073709551616<=v
 ·have HS2:ah (sg=eL):=by rw[ah,HS.o,iP9 hb]
  have hq:gh (18446744073709551616<=v)=fR:=by simpa using hb
  rw[hq];generalize((v%18446744073709551616:Nat):Int)=u;go_in;go_wp2_with fail;go_ret2;rw[HS2.o];exact⟨rfl,aw⟩
 ·have hq:gh (18446744073709551616<=v)=fj:=by simpa using hb
  have hm:v%18446744073709551616=v:=ab (by omega);rw[hq,hm];have Bg:ah (sg=if mi then(if v<=9223372036854775808 then eK ((18446744073709551616-v)%18446744073709551616)else eL)else eK v):=by rw[ah,HS.o,iN9 hb]
  clear HS hq hm;cases mi with
  |true =>
   by_cases h1:v<=9223372036854775808
   ·have HS2:ah (sg=eK ((18446744073709551616-v)%18446744073709551616)):=by rw[ah,Bg.o,iP9 rfl,iP9 h1]
    have h1':(v:Int)<=9223372036854775808:=by omega
    have HW:ah (IntKind.u64.wrap (-(v:Int))=(((18446744073709551616-v)%18446744073709551616:Nat):Int)):=by rw[ah,wrap64];omega
    go_in;go_wp2_with fail;go_ret2;rw[HS2.o];refine⟨?_,aw⟩;show _=Ending.returned (jl #[vU (((18446744073709551616-v)%18446744073709551616:Nat):Int),fX fR])
    rw[<-HW.o];rfl
   ·have HS2:ah (sg=eL):=by rw[ah,Bg.o,iP9 rfl,iN9 h1]
    have h1':gh ((v:Int)<=9223372036854775808)=fj:=by simp;omega
    go_in;go_wp2_with fail;go_ret2;rw[HS2.o];exact⟨rfl,aw⟩
  |false =>
   have HS2:ah (sg=eK v):=by rw[ah,Bg.o,iN9 (by decide)]
   go_in;go_wp2_with fail;go_ret2;rw[HS2.o];exact⟨rfl,aw⟩
theorem Bh(n:bI)(w:tW):fS prog 285 #[n.dY] w λe w'=>e=fW (bI.mk n.v (!n.minus)).dY/\aa af w w':=by
 obtain⟨v,mi⟩:=n;unfold bI.dY;dsimp only;generalize((v%18446744073709551616:Nat):Int)=u;generalize gh (18446744073709551616<=v)=bg
 have hb1:au ((w.alloc (fL #[fX (!mi),vU u,fX bg] 157)).alloc (fL #[fX (!mi),vU u,fX bg] 157)) (w.heap.size+1) #[fX (!mi),vU u,fX bg] 157:=by
  have:=au.new (w.alloc (fL #[fX (!mi),vU u,fX bg] 157)) #[fX (!mi),vU u,fX bg] 157
  simpa using this
 have HB:=aq hb1;clear hb1;go_in;go_wp2_with fail;exact kx (results_cell_row results285 _ _ (w.heap.size+1) 157 _ (0,0) _ rfl HB.o underlying157 rfl (by kernel_rfl)) rfl ⟨rfl,aw.alloc _⟩
theorem YN(c:UInt8):zW c<=255:=by
 unfold zW;have:=c.toNat_lt;split
 ·omega
 ·split<;>omega
theorem Ph(base:Nat)(m:tLB)(k v:Nat)(hk:k<eJ m):digsP base (m.drop k) v=if base<=zW m[k]then eL else digsP base (m.drop (k+1)) (v*base+zW m[k]):=by rw[List.drop_eq_getElem_cons hk,digsP]
theorem Pj(x:tLB)(w:tW)(hx:eJ x<=1000000):fS prog 325 #[eR (T x)] w λe w'=>e=fW (jl #[(bI.mk ((dS x).getD 0) fj).dY,fX (dS x).isSome])/\aa af w w':=by
 have gq:=aq (au.new w #[fX fj,vU 0,fX fj] 157);have eW:ah (aa af w (w.alloc (fL #[fX fj,vU 0,fX fj] 157))):=aw;have HZ0:ah ((bI.mk 0 fj).dY=fY #[fX fj,vU 0,fX fj]):=rfl;have Lc:ah (dS x=if pX x=[]\/20<eJ x then eL else digsP (yR x) (pX x) 0):=rfl;have Yj:ah (yR x=if IL x then 16 else 10):=rfl;have Yk:ah (pX x=if IL x then x.drop 2 else x):=rfl
 have HHX:ah (IL x=fR->2<=eJ x):=λh=>by
  unfold IL at h
  match x,h with
  |[],h=>simp[ar]at h
  |[a],h=>simp[ar]at h
  |a::b::r,_=>simp
 have Ff:ah (∀w',fS prog 271 #[eR (T x),eR (T [48,120])] w' λe w''=>e=fW (fX (IL x))/\w''=w'):=λw'=>IM x [48,120] w';have hs:=di x;generalize dS x=nx at *;generalize yR x=base at *;generalize pX x=m at *;generalize IL x=hb at *;go_in;go_wp2_with fail;refine(Ff.o _).mono ?_;rintro e w1 ⟨rfl,rfl⟩;clear Ff;generalize w.alloc (fL #[fX fj,vU 0,fX fj] 157)=w1 at *;have HRl:ah (w.heap.size<=w.heap.size):=Nat.le_refl _;generalize hRr:w.heap.size=R at *;go_upto_if 11 with fail;go_cut [4,5] (λbv dv wx=>bv=vU (base:Nat)/\dv=eR (T m)/\aa af w1 wx)
 case first =>
  cases hb with
  |true =>
   have h2:=HHX.o rfl;have e2:(T x).extract 2 (eJ x)=T (x.drop 2):=by have:=nj x 2;rw[hs]at this;exact this
   have HB2:ah (base=16):=Yj.o;have HD2:ah (m=x.drop 2):=Yk.o;have h2':(2:Int)<=eJ x:=by omega
   go_upto_region 3 with fail;go_quiet (fail);have hmq:aa af w1 (w1.drewN nq):=ax.drewN nq;go_wp2_with fail;go_meet;exact⟨by rw[HB2.o];rfl,by rw[HD2.o],hmq⟩
  |false =>have HB2:ah (base=10):=Yj.o;have HD2:ah (m=x):=Yk.o;go_wp2_with fail;go_meet;exact⟨by rw[HB2.o];rfl,by rw[HD2.o],ax⟩
 case rest =>
 obtain⟨rfl,rfl,hmc⟩:=hcut;have yT:=aq (gq.o.ai hmc id);have bU:=aq (eW.o.trans hmc)
 have hbs:base=10\/base=16:=by
  rw[Yj.o];cases hb
  ·exact .inl rfl
  ·exact ij rfl
 have Pk:eJ m<=eJ x:=by
  rw[Yk.o];split
  ·simp
  ·exact Nat.le_refl _
 clear gq eW hmc Yj Yk HHX;have r0:=yT.o.c0;have r1:=yT.o.c1;have r2:=yT.o.c2;have rf:=yT.o.frozen;have hms:=di m;by_cases h0:m=[]\/20<eJ x
 ·have Cr:ah (nx=eL):=by rw[ah,Lc.o,iP9 h0]
  have IQ:ah (au (((wc.setCell ⟨R,0,eL⟩ (fX fj)).setCell ⟨R,1,eL⟩ (vU 0)).setCell ⟨R,2,eL⟩ (fX fj)) R #[fX fj,vU 0,fX fj] 157):=((yT.o.set 0 _).set 1 _).set 2 _;have Es:ah (aa af w (((wc.setCell ⟨R,0,eL⟩ (fX fj)).setCell ⟨R,1,eL⟩ (vU 0)).setCell ⟨R,2,eL⟩ (fX fj))):=by refine((bU.o.set (a:=⟨R,0,eL⟩) (ij ?_) _).set (a:=⟨R,1,eL⟩) (ij ?_) _).set (a:=⟨R,2,eL⟩) (ij ?_) _<;>exact cG hRr
  cases m with
  |nil =>have he:=kR;go_wp2_with fail;refine kx (ay results325 _ _ R 157 _ (0,0) _ _ rfl rfl IQ.o underlying157 rfl (by kernel_rfl)) rfl ⟨?_,Es.o⟩;rw[Cr.o];rfl
  |cons c m =>
   have he:=iR c m;have h20:20<eJ x:=by rcases h0 with h|h;cases h;exact h
   have aeL:(20:Int)<eJ x:=by omega
   clear h0;go_wp2_with fail;refine kx (ay results325 _ _ R 157 _ (0,0) _ _ rfl rfl IQ.o underlying157 rfl (by kernel_rfl)) rfl ⟨?_,Es.o⟩;rw[Cr.o];rfl
 ·have Cr:ah (nx=digsP base m 0):=by rw[ah,Lc.o,iN9 h0]
  have he:(T m).toList.isEmpty=fj:=by
   cases m with
   |nil=>exact absurd (.inl rfl) h0
   |cons c m=>exact iR c m
  have h20:eJ x<=20:=by
   rcases cD 20 (eJ x) with h|h
   ·exact absurd (ij h) h0
   ·exact h
  have aeL:gh ((20:Int)<eJ x)=fj:=by simp;omega
  clear Lc h0;have HB1:ah (au (wc.alloc (fL #[fX fj,vU 0,fX fj] 157)) wc.heap.size (bI.xP ⟨0,fj⟩).toArray 157):=au.new wc _ _;have jh:ah (au (wc.alloc (fL #[fX fj,vU 0,fX fj] 157)) R #[fX fj,vU 0,fX fj] 157):=yT.o.alloc _;have bP:=aq (bU.o.alloc (fL #[fX fj,vU 0,fX fj] 157));have hRB:=yT.o.lt;have qJ:=aq bU.o.size;go_upto_region 7 with fail;clear r0 r1 r2 rf yT bU;generalize wc.alloc (fL #[fX fj,vU 0,fX fj] 157)=w2 at *;generalize hBb:wc.heap.size=B at *;have EB:ah (B≠R):=by rw[ah];omega
  go_wp2_with fail;go_loopg [24] (eJ m) (λq kv wx=>∃k v:Nat,kv=vI k/\au wx B (bI.xP ⟨v,fj⟩).toArray 157/\au wx R #[fX fj,vU 0,fX fj] 157/\aa af w wx/\nx=digsP base (m.drop k) v/\k<=eJ m/\q=eJ m-k)
  case atStart=>exact⟨0,0,rfl,HB1.o,jh.o,bP.o,Cr.o,b9 _,rfl⟩
  case round =>
   obtain⟨k,v,rfl,hb',hr,hm,hal,hks,rfl⟩:=hrel;have pQ:=aq hb';have wj:=aq hr;have xQ:=aq hm;have HAk:=aq hal;clear hb' hr hm hal HB1 jh bP Cr;by_cases hkl:k<eJ m
   ·have HA2:ah (nx=if base<=zW m[k]then eL else digsP base (m.drop (k+1)) (v*base+zW m[k])):=by rw[ah,HAk.o,Ph base m k v hkl]
    have hg:(T m)[k]'(by rw[hms];exact hkl)=m[k]:=rfl;have HV:=aq (λw'=>Pg m[k] w');have hdl:=YN m[k];clear HAk;generalize zW m[k]=d at *;go_wp2_with fail;refine(HV.o _).mono ?_;rintro e w3 ⟨rfl,rfl⟩;clear HV;by_cases hd:base<=d
    ·have KW:ah (nx=eL):=by rw[ah,HA2.o,iP9 hd]
     have hd':(base:Int)<=d:=by omega
     have r0:=wj.o.c0;have r1:=wj.o.c1;have r2:=wj.o.c2;have rf:=wj.o.frozen;have IQ:ah (au (((w3.setCell ⟨R,0,eL⟩ (fX fj)).setCell ⟨R,1,eL⟩ (vU 0)).setCell ⟨R,2,eL⟩ (fX fj)) R #[fX fj,vU 0,fX fj] 157):=((wj.o.set 0 _).set 1 _).set 2 _;have Es:ah (aa af w (((w3.setCell ⟨R,0,eL⟩ (fX fj)).setCell ⟨R,1,eL⟩ (vU 0)).setCell ⟨R,2,eL⟩ (fX fj))):=by refine((xQ.o.set (a:=⟨R,0,eL⟩) (ij ?_) _).set (a:=⟨R,1,eL⟩) (ij ?_) _).set (a:=⟨R,2,eL⟩) (ij ?_) _<;>exact cG hRr
     clear HA2;go_wp2_with fail;refine kx (ay results325 _ _ R 157 _ (0,0) _ _ rfl rfl IQ.o underlying157 rfl (by kernel_rfl)) rfl ⟨?_,Es.o⟩;rw[KW.o];rfl
    ·have kT:ah (nx=digsP base (m.drop (k+1)) (v*base+d)):=by rw[ah,HA2.o,iN9 hd]
     have hd':gh ((base:Int)<=d)=fj:=by simp;omega
     have aeM:d<=15:=by omega
     clear HA2;have HNX:=TY v base d hbs aeM;have c1:w3.cell? ⟨B,1,eL⟩=eK (vU ((v%18446744073709551616:Nat):Int)):=pQ.o.cell 1;have c2:w3.cell? ⟨B,2,eL⟩=eK (fX (gh (18446744073709551616<=v))):=pQ.o.cell 2;have hu:v%18446744073709551616<18446744073709551616:=Nat.mod_lt _ (by decide);have Io:ah _:=HNX;clear HNX;generalize hU:v%18446744073709551616=u at *;have YO:ah (au w3 B #[fX fj,vU (u:Int),fX (gh (18446744073709551616<=v))] 157):=by have:=pQ.o;unfold bI.xP at this;dsimp only at this;rw[hU]at this;exact this
     clear pQ;rcases hbs with rfl|rfl
     ·have HW:ah (IntKind.u64.wrap (IntKind.u64.wrap ((u:Int)*10)+(d:Int))=(((v*10+d)%18446744073709551616:Nat):Int)):=by rw[ah,Io.o.2,wrap64,wrap64];omega
      have KX:=aq (Io.o.1);clear Io;have HJ:ah (eJ m-(k+1)<eJ m-k):=by rw[ah];omega
      go_upto_region 13 with fail;generalize hq:gh ((18446744073709551615-(d:Int))/10<(u:Int))=qq at *
      have HQ:ah (gh ((18446744073709551615-d)/10<u)=qq):=by
       rw[ah,<-hq];by_cases e:(18446744073709551615-d)/10<u
       ·rw[decide_eq_true e,decide_eq_true (by omega)]
       ·rw[decide_eq_false e,decide_eq_false (by omega)]
      rw[HQ.o]at KX;clear HQ;generalize hbg:gh (18446744073709551616<=v)=bg at *;have tF:=aq YO.o.drew;have YP:=aq wj.o.drew;have fK:=aq xQ.o.drew;refine bK 11 (by kernel_rfl) (by kernel_rfl) ?_;intro W hW;rw[<-hW]at tF YP fK;clear hW;clear c1 c2 YO wj xQ;have c1:=tF.o.c1;have c2:=tF.o.c2;have cf:=tF.o.frozen;have hu':(u:Int)<18446744073709551616:=by omega
      have hdd:(d:Int)<=15:=by omega
      have HB3:ah (au ((W.setCell ⟨B,2,eL⟩ (fX (bg||qq))).setCell ⟨B,1,eL⟩ (vU (IntKind.u64.wrap (IntKind.u64.wrap ((u:Int)*10)+(d:Int))))) B (bI.xP ⟨v*10+d,fj⟩).toArray 157):=by have:=(tF.o.set 2 (fX (bg||qq))).set 1 (vU (IntKind.u64.wrap (IntKind.u64.wrap ((u:Int)*10)+(d:Int))));rw[HW.o]at this ⊢;unfold bI.xP;dsimp only;rw[KX.o];exact this
      have tH:ah (au ((W.setCell ⟨B,2,eL⟩ (fX (bg||qq))).setCell ⟨B,1,eL⟩ (vU (IntKind.u64.wrap (IntKind.u64.wrap ((u:Int)*10)+(d:Int))))) R #[fX fj,vU 0,fX fj] 157):=(YP.o.setOther (a:=⟨B,2,eL⟩) EB.o _).setOther (a:=⟨B,1,eL⟩) EB.o _;have dF:ah (aa af w ((W.setCell ⟨B,2,eL⟩ (fX (bg||qq))).setCell ⟨B,1,eL⟩ (vU (IntKind.u64.wrap (IntKind.u64.wrap ((u:Int)*10)+(d:Int)))))):=(fK.o.set (a:=⟨B,2,eL⟩) (ij qJ.o) _).set (a:=⟨B,1,eL⟩) (ij qJ.o) _;clear tF YP fK KX HW hbg;simp only[ba,cq,bh,cw];cases bg with
      |true =>
       repeat(go_big_quiet_step (fail))
       refine mS ?_;go_wp2_with fail;go_roundg (eJ m-(k+1))
       case measure=>exact HJ.o
       case rel=>exact⟨k+1,v*10+d,by go_num,HB3.o,tH.o,dF.o,kT.o,by omega,rfl⟩
      |false =>
       repeat(go_big_quiet_step (fail))
       refine mS ?_;go_wp2_with fail;go_roundg (eJ m-(k+1))
       case measure=>exact HJ.o
       case rel=>exact⟨k+1,v*10+d,by go_num,HB3.o,tH.o,dF.o,kT.o,by omega,rfl⟩
     ·have HW:ah (IntKind.u64.wrap (IntKind.u64.wrap ((u:Int)*16)+(d:Int))=(((v*16+d)%18446744073709551616:Nat):Int)):=by rw[ah,Io.o.2,wrap64,wrap64];omega
      have KX:=aq (Io.o.1);clear Io;have HJ:ah (eJ m-(k+1)<eJ m-k):=by rw[ah];omega
      go_upto_region 13 with fail;generalize hq:gh ((18446744073709551615-(d:Int))/16<(u:Int))=qq at *
      have HQ:ah (gh ((18446744073709551615-d)/16<u)=qq):=by
       rw[ah,<-hq];by_cases e:(18446744073709551615-d)/16<u
       ·rw[decide_eq_true e,decide_eq_true (by omega)]
       ·rw[decide_eq_false e,decide_eq_false (by omega)]
      rw[HQ.o]at KX;clear HQ;generalize hbg:gh (18446744073709551616<=v)=bg at *;have tF:=aq YO.o.drew;have YP:=aq wj.o.drew;have fK:=aq xQ.o.drew;refine bK 11 (by kernel_rfl) (by kernel_rfl) ?_;intro W hW;rw[<-hW]at tF YP fK;clear hW;clear c1 c2 YO wj xQ;have c1:=tF.o.c1;have c2:=tF.o.c2;have cf:=tF.o.frozen;have hu':(u:Int)<18446744073709551616:=by omega
      have hdd:(d:Int)<=15:=by omega
      have HB3:ah (au ((W.setCell ⟨B,2,eL⟩ (fX (bg||qq))).setCell ⟨B,1,eL⟩ (vU (IntKind.u64.wrap (IntKind.u64.wrap ((u:Int)*16)+(d:Int))))) B (bI.xP ⟨v*16+d,fj⟩).toArray 157):=by have:=(tF.o.set 2 (fX (bg||qq))).set 1 (vU (IntKind.u64.wrap (IntKind.u64.wrap ((u:Int)*16)+(d:Int))));rw[HW.o]at this ⊢;unfold bI.xP;dsimp only;rw[KX.o];exact this
      have tH:ah (au ((W.setCell ⟨B,2,eL⟩ (fX (bg||qq))).setCell ⟨B,1,eL⟩ (vU (IntKind.u64.wrap (IntKind.u64.wrap ((u:Int)*16)+(d:Int))))) R #[fX fj,vU 0,fX fj] 157):=(YP.o.setOther (a:=⟨B,2,eL⟩) EB.o _).setOther (a:=⟨B,1,eL⟩) EB.o _;have dF:ah (aa af w ((W.setCell ⟨B,2,eL⟩ (fX (bg||qq))).setCell ⟨B,1,eL⟩ (vU (IntKind.u64.wrap (IntKind.u64.wrap ((u:Int)*16)+(d:Int)))))):=(fK.o.set (a:=⟨B,2,eL⟩) (ij qJ.o) _).set (a:=⟨B,1,eL⟩) (ij qJ.o) _;clear tF YP fK KX HW hbg;simp only[ba,cq,bh,cw];cases bg with
      |true =>
       repeat(go_big_quiet_step (fail))
       refine mS ?_;go_wp2_with fail;go_roundg (eJ m-(k+1))
       case measure=>exact HJ.o
       case rel=>exact⟨k+1,v*16+d,by go_num,HB3.o,tH.o,dF.o,kT.o,by omega,rfl⟩
      |false =>
       repeat(go_big_quiet_step (fail))
       refine mS ?_;go_wp2_with fail;go_roundg (eJ m-(k+1))
       case measure=>exact HJ.o
       case rel=>exact⟨k+1,v*16+d,by go_num,HB3.o,tH.o,dF.o,kT.o,by omega,rfl⟩
   ·obtain rfl:k=eJ m:=by omega
    have kT:ah (nx=eK v):=by rw[ah,HAk.o,bt];rfl
    have c0:wr.cell? ⟨B,0,eL⟩=eK (fX fj):=pQ.o.cell 0;have c1:wr.cell? ⟨B,1,eL⟩=eK (vU ((v%18446744073709551616:Nat):Int)):=pQ.o.cell 1;have c2:wr.cell? ⟨B,2,eL⟩=eK (fX (gh (18446744073709551616<=v))):=pQ.o.cell 2;have r0:=wj.o.c0;have r1:=wj.o.c1;have r2:=wj.o.c2;have rf:=wj.o.frozen;have IQ:ah (au (((wr.setCell ⟨R,0,eL⟩ (fX fj)).setCell ⟨R,1,eL⟩ (vU ((v%18446744073709551616:Nat):Int))).setCell ⟨R,2,eL⟩ (fX (gh (18446744073709551616<=v)))) R #[fX fj,vU ((v%18446744073709551616:Nat):Int),fX (gh (18446744073709551616<=v))] 157):=((wj.o.set 0 _).set 1 _).set 2 _;have Es:ah (aa af w (((wr.setCell ⟨R,0,eL⟩ (fX fj)).setCell ⟨R,1,eL⟩ (vU ((v%18446744073709551616:Nat):Int))).setCell ⟨R,2,eL⟩ (fX (gh (18446744073709551616<=v))))):=by refine((xQ.o.set (a:=⟨R,0,eL⟩) (ij ?_) _).set (a:=⟨R,1,eL⟩) (ij ?_) _).set (a:=⟨R,2,eL⟩) (ij ?_) _<;>exact cG hRr
    have HEQ:ah ((bI.mk v fj).dY=fY #[fX fj,vU ((v%18446744073709551616:Nat):Int),fX (gh (18446744073709551616<=v))]):=rfl;generalize((v%18446744073709551616:Nat):Int)=u at *;generalize gh (18446744073709551616<=v)=bg at *;go_wp2_with fail;refine kx (ay results325 _ _ R 157 _ (0,0) _ _ rfl rfl IQ.o underlying157 rfl (by kernel_rfl)) rfl ⟨?_,Es.o⟩;rw[kT.o];show _=Ending.returned (jl #[(bI.mk v fj).dY,fX fR])
    rw[HEQ.o];rfl
def sO:tAV:=#[fX fj,vU 0,fX fj]
theorem xR(b o:Nat)(cs:tAV)(t:ju)(l:tLB)(w:tW)(h:lF w b o cs t l)(hl:eJ l<=1000000):fS prog 272 #[ia (eK ⟨b,o,eL⟩)] w λe w'=>e=fW (jl #[(bI.mk ((dS (aK l).1).getD 0) fj).dY,fX (dS (aK l).1).isSome])/\aW w b o cs t (aK l).2 w':=by
 have m0:aa af w (w.alloc (fL sO 157)):=aw;have HW:=aq (il b o cs t l _ (h.ai m0) hl);have hle:=jP l;have HR:ah (∀w',fS prog 325 #[eR (T (aK l).1)] w' λe w''=>e=fW (jl #[(bI.mk ((dS (aK l).1).getD 0) fj).dY,fX (dS (aK l).1).isSome])/\aa af w' w''):=λw'=>Pj _ w' (by omega);have hbl:=h.blk.lt;have HZ:=aq (au.new w sO 157);generalize dS (aK l).1=rx at *;generalize aK l=wl at *;obtain⟨w1,w2⟩:=wl;simp only at *;have eW:=aq m0;clear m0;unfold bI.dY sO at *;dsimp only at *;generalize(((rx.getD 0)%18446744073709551616:Nat):Int)=u at *;generalize gh (18446744073709551616<=rx.getD 0)=bg at *;generalize hw0:w.alloc (fL #[fX fj,vU 0,fX fj] 157)=w0 at *;go_in;go_wp2_with fail;refine HW.o.mono ?_;rintro e wa ⟨rfl,hp⟩;have HP:=aq hp;have HZ1:=aq (HZ.o.ai hp.2 (λe=>by have:w.heap.size=b:=e;omega));clear hp HW HZ;go_wp2_with fail;refine(HR.o _).mono ?_;rintro e wb ⟨rfl,m1⟩;have um:=aq (HP.o.quiet m1);have HZ2:=aq (HZ1.o.ai m1 id);clear HP HZ1 m1 HR;have z0:=HZ2.o.c0;have z1:=HZ2.o.c1;have z2:=HZ2.o.c2;have zf:=HZ2.o.frozen;go_wp2_with fail;refine kx (ay results272 _ _ w.heap.size 157 _ (0,0) _ _ rfl rfl (((HZ2.o.set 0 _).set 1 _).set 2 _) underlying157 rfl (by kernel_rfl)) rfl ⟨rfl,?_⟩;refine⟨⟨?_,um.o.1.at'⟩,?_⟩
 ·iterate 3 refine au.setOther ?_ (by simp;omega) _
  exact um.o.1.blk
 ·iterate 3 refine aa.set ?_ (ij (by simp)) _
  exact eW.o.of_nil.trans um.o.2
theorem YQ(l:tLB)(hh:(bC 45 l&&(bu 45 l).head?==eK 32)=fj):fT l=(dS (aK (bu 45 l)).1).map (λv=>(⟨v,bC 45 l⟩,(aK (bu 45 l)).2)):=by unfold fT;rw[iN9 (by simp[hh])]
theorem Ua(l:tLB):ar [32] l=(l.head?==eK 32):=by
 cases l with
 |nil=>rfl
 |cons c r =>
  show((32==c)&&fR)=_
  rw[Bool.and_true,Bool.eq_iff_iff,beq_iff_eq,beq_iff_eq,List.head?_cons,Option.some.injEq];exact eq_comm
def kU(w:tW)(b o:Nat)(cs:tAV)(t:ju)(l:tLB)(e:Ending)(w':tW):Prop :=
 ∃n l',e=fW (jl #[bI.dY n,fX (fT l).isSome])/\aW w b o cs t l' w'/\l'.length<=eJ l/\∀x,fT l=eK x->x=(n,l')
theorem uo(b o:Nat)(cs:tAV)(t:ju)(l:tLB)(w:tW)(h:lF w b o cs t l)(hl:eJ l<=1000000):fS prog 180 #[ia (eK ⟨b,o,eL⟩)] w λe w'=>kU w b o cs t l e w':=by
 have m0:aa af w (w.alloc (fL sO 157)):=aw;have Pk:=qI 45 l;have hwl:=jP (bu 45 l);have HW:ah (fS prog 138 #[ia (eK ⟨b,o,eL⟩),vB 45] (w.alloc (fL sO 157)) λe w'=>e=fW (fX (bC 45 l))/\aW (w.alloc (fL sO 157)) b o cs t (bu 45 l) w'):=iT b o cs t l 45 _ (h.ai m0) hl;have Ff:ah (∀w',fS prog 271 #[eR (T (bu 45 l)),eR (T [32])] w' λe w''=>e=fW (fX ((bu 45 l).head?==eK 32))/\w''=w'):=λw'=>by rw[<-Ua];exact IM (bu 45 l) [32] w'
 have HR:=aq (λw' (hw':lF w' b o (cs.setIfInBounds o (.string (T (bu 45 l)))) t (bu 45 l))=>xR b o _ t (bu 45 l) w' hw' (by omega));have hbl:=h.blk.lt;have HZ:=aq (au.new w sO 157);have Tk:ah ((bC 45 l&&(bu 45 l).head?==eK 32)=fR->fT l=eL):=λhh=>by unfold fT;rw[iP9 hh]
 have HL2:=aq (YQ l);have HNP:ah (∀e w',(∃n l',e=fW (jl #[bI.dY n,fX (fT l).isSome])/\aW w b o cs t l' w'/\l'.length<=eJ l/\∀x,fT l=eK x->x=(n,l'))->kU w b o cs t l e w'):=λ_ _ h=>h;generalize kU w b o cs t l=NP at *;generalize dS (aK (bu 45 l)).1=rx at *;generalize aK (bu 45 l)=wl at *;generalize bu 45 l=ml at *;generalize bC 45 l=hm at *;generalize fT l=nl at *;obtain⟨w1,w2⟩:=wl;simp only at *;have eW:=aq m0;clear m0;generalize hpq:(ml.head?==eK 32)=hq at *;have Yl:ah (∀n,bI.dY n=fY #[fX n.minus,vU ((n.v%18446744073709551616:Nat):Int),fX (gh (18446744073709551616<=n.v))]):=λ_=>rfl;unfold sO at *;generalize hw0:w.alloc (fL #[fX fj,vU 0,fX fj] 157)=w0 at *;go_in;go_wp2_with fail;refine HW.o.mono ?_;rintro e wa ⟨rfl,hp⟩;have HP:=aq hp;have HZ1:=aq (HZ.o.ai hp.2 (λe=>by have:w.heap.size=b:=e;omega));clear hp HW HZ;have c0:=HP.o.1.cell;go_upto_region 2 with fail;go_cut [16] (λv wx=>v=fX (hm&&hq)/\wx=wa)
 case first =>
  cases hm with
  |true =>go_wp2_with fail;refine(Ff.o _).mono ?_;rintro e wb ⟨rfl,rfl⟩;go_wp2_with fail;go_meet;exact⟨by simp,rfl⟩
  |false =>go_wp2_with fail;go_meet;exact⟨by simp,rfl⟩
 case rest =>
 obtain⟨rfl,rfl⟩:=hcut;have z0:=HZ1.o.c0;have z1:=HZ1.o.c1;have z2:=HZ1.o.c2;have zf:=HZ1.o.frozen;clear Ff c0;by_cases hh:(hm&&hq)=fR
 ·have HN:=aq (Tk.o hh);rw[hh];go_wp2_with fail;refine kx (ay results180 _ _ w.heap.size 157 _ (0,0) _ _ rfl rfl (((HZ1.o.set 0 _).set 1 _).set 2 _) underlying157 rfl (by kernel_rfl)) rfl ?_;refine HNP.o _ _ ⟨⟨0,fj⟩,ml,?_,⟨⟨?_,HP.o.1.at'⟩,?_⟩,Pk,λx hx=>?_⟩
  ·rw[HN.o];rfl
  ·iterate 3 refine au.setOther ?_ (by simp;omega) _
   exact HP.o.1.blk
  ·iterate 3 refine aa.set ?_ (ij (by simp)) _
   exact eW.o.of_nil.trans HP.o.2
  ·rw[HN.o]at hx;cases hx
 ·have hh':(hm&&hq)=fj:=by simpa using hh
  have HN:=aq (HL2.o hh');rw[hh'];clear hh hh' Tk HL2;have jh:=HR.o wc HP.o.1;rw[Yl.o]at jh;dsimp only at jh;generalize hu:(((rx.getD 0)%18446744073709551616:Nat):Int)=u at *;have KX:ah (∀v,rx=eK v->rx.getD 0=v):=λv e=>by rw[e];rfl
  have HU:ah (∀v,rx=eK v->bI.dY ⟨v,hm⟩=fY #[fX hm,vU u,fX (gh (18446744073709551616<=rx.getD 0))]):=λv e=>by rw[<-hu,Yl.o,e];rfl
  have HU0:ah (bI.dY ⟨rx.getD 0,hm⟩=fY #[fX hm,vU u,fX (gh (18446744073709551616<=rx.getD 0))]):=by rw[ah,<-hu,Yl.o]
  clear hu Yl HU;generalize gh (18446744073709551616<=rx.getD 0)=bg at *;have tH:=aq jh;clear jh HR z0 z1 z2 zf;go_wp2_with fail;refine tH.o.mono ?_;rintro e wd ⟨rfl,hp⟩;have lU:=aq (HP.o.after hp);have HZ2:=aq (HZ1.o.ai hp.2 (λe=>by have:w.heap.size=b:=e;omega));clear hp HZ1 HP tH;have hlt:=HZ2.o.lt;have z0:=HZ2.o.c0;have z1:=HZ2.o.c1;have z2:=HZ2.o.c2;have zf:=HZ2.o.frozen;go_wp2_with fail;refine kx (ay results180 _ _ w.heap.size 157 _ (0,0) _ _ rfl rfl ((((HZ2.o.set 0 _).set 1 _).set 2 _).alloc _) underlying157 rfl (by kernel_rfl)) rfl ?_;refine HNP.o _ _ ⟨⟨rx.getD 0,hm⟩,w2,?_,⟨⟨?_,lU.o.1.at'⟩,?_⟩,by omega,λx hx=>?_⟩
  ·rw[HU0.o,HN.o,Option.isSome_map];rfl
  ·refine au.alloc ?_ _
   iterate 3 refine au.setOther ?_ (by simp;omega) _
   exact lU.o.1.blk
  ·refine aa.alloc ?_ _
   iterate 3 refine aa.set ?_ (ij (by simp)) _
   exact eW.o.of_nil.trans lU.o.2
  ·rw[HN.o]at hx;obtain⟨v,hv,rfl⟩:=Option.map_eq_some_iff.1 hx;rw[KX.o v hv]
structure bV(w:tW)(b:Nat)(op:fa)(x:Option dH)(e:Ending)(w':tW):Prop where
 e:e=fW (fX x.isSome)
 md:aa (Only b) w w'
 at':∀r',x=eK r'->au w' b (r'.cells op) 269
theorem lM{w:tW}{b:Nat}{op:fa}{r:dH}(h:au w b (r.cells op) 269):lF w b 1 (r.cells op) 269 r.rest:=⟨h,rfl⟩
theorem aW.rd{w w':tW}{b:Nat}{op:fa}{r:dH}{l:tLB}(h:aW w b 1 (r.cells op) 269 l w'):au w' b ({r with rest:=l}.cells op) 269:=h.1.blk
theorem Pm{c:UInt8}{r:dH}(h:bC c r.rest=fj):r.mark c=eL:=by unfold dH.mark;rw[iN9 (by simp[h])]
theorem Pn{c:UInt8}{r:dH}(h:bC c r.rest=fR):r.mark c=eK {r with rest:=bu c r.rest}:=by unfold dH.mark;rw[iP9 h]
theorem Ld(b g:Nat)(c:UInt8)(op:fa)(r:dH)(w:tW)(h:au w b (r.cells op) 269)(hg:au w g #[vB (c.toNat:Int)] 5)(hl:eJ r.rest<=1000000):fS prog 268 #[vP b,vP g] w λe w'=>bV w b op (r.mark c) e w':=by
 have qz:=aq (λw' (h':au w' b (r.cells op) 269)=>iT b 1 _ _ r.rest c w' (lM h') hl)
 have uq:ah (∀e w',e=fW (fX (bC c r.rest))->aW w b 1 (r.cells op) 269 (bu c r.rest) w'->bV w b op (r.mark c) e w'):=λe w' he hp=>by
  cases hm:bC c r.rest with
  |true =>rw[Pn hm];exact⟨by rw[he,hm];rfl,hp.2,λr' hr'=>by cases hr';exact hp.rd⟩
  |false =>rw[Pm hm];exact⟨by rw[he,hm];rfl,hp.2,λr' hr'=>by cases hr'⟩
 generalize bV w b op (r.mark c)=RP at *;have HB:=aq h.drew;have g0:=hg.drew.c0;have kV:ah (∀w',aW w.drew b 1 (r.cells op) 269 (bu c r.rest) w'->aW w b 1 (r.cells op) 269 (bu c r.rest) w'):=λw' hp=>⟨hp.1,aN.trans hp.2⟩
 clear h hg;go_in;go_wp2_with fail;refine bK 4 (by kernel_rfl) (by kernel_rfl) ?_;intro W hW;rw[<-hW]at HB g0 kV;clear hW;simp only[ba,cq,bh,cw]
 repeat(go_big_quiet_step (fail))
 refine mS ?_;go_wp2_with fail;refine(qz.o _ HB.o).mono ?_;rintro e w1 ⟨rfl,hp⟩;go_wp2_with fail;exact uq.o _ _ rfl (kV.o _ hp)
theorem YR(r:dH):r.Co=match dw (aK r.rest).1 with|some n=>eK {r with d:=n,rest:=(aK r.rest).2}|none=>eL:=by unfold dH.Co;cases dw (aK r.rest).1<;>rfl
theorem YS(r:dH):r.EA=match dw (aK r.rest).1 with|some n=>eK {r with s:=n,rest:=(aK r.rest).2}|none=>eL:=by unfold dH.EA;cases dw (aK r.rest).1<;>rfl
theorem Fg(b:Nat)(op:fa)(r:dH)(w:tW)(h:au w b (r.cells op) 269)(hl:eJ r.rest<=1000000)(hE:∀w',aa (Only b) w w'->Env w'):fS prog 210 #[vP b] w λe w'=>bV w b op r.Co e w':=by
 have qz:=aq (IP b 1 _ _ r.rest w (lM h) hl hE)
 have uq:ah (∀e w',e=fW (fX (dw (aK r.rest).1).isSome)->aa (Only b) w w'->au w' b ({r with rest:=(aK r.rest).2,d:=(dw (aK r.rest).1).getD 0}.cells op) 269->bV w b op r.Co e w'):=λe w' he hm hp=>by
  rw[YR];cases hx:dw (aK r.rest).1 with
  |some n=>rw[hx]at he hp;exact⟨by rw[he];rfl,hm,λr' hr'=>by cases hr';exact hp⟩
  |none=>rw[hx]at he;exact⟨by rw[he];rfl,hm,λr' hr'=>by cases hr'⟩
 generalize bV w b op r.Co=RP at *;generalize dw (aK r.rest).1=rx at *;go_in;go_wp2_with fail;refine qz.o.mono ?_;rintro e w1 ⟨rfl,hp⟩;have hb1:=hp.rd;have z3:w1.cell? ⟨b,3,eL⟩=eK (vB (r.d:Int)):=hb1.cell 3;have zf:=hb1.frozen;go_wp2_with fail;exact uq.o _ _ rfl (hp.2.bA 3 _) (hb1.set 3 _)
theorem Po(b:Nat)(op:fa)(r:dH)(w:tW)(h:au w b (r.cells op) 269)(hl:eJ r.rest<=1000000)(hE:∀w',aa (Only b) w w'->Env w'):fS prog 174 #[vP b] w λe w'=>bV w b op r.EA e w':=by
 have qz:=aq (IP b 1 _ _ r.rest w (lM h) hl hE)
 have uq:ah (∀e w',e=fW (fX (dw (aK r.rest).1).isSome)->aa (Only b) w w'->au w' b ({r with rest:=(aK r.rest).2,s:=(dw (aK r.rest).1).getD 0}.cells op) 269->bV w b op r.EA e w'):=λe w' he hm hp=>by
  rw[YS];cases hx:dw (aK r.rest).1 with
  |some n=>rw[hx]at he hp;exact⟨by rw[he];rfl,hm,λr' hr'=>by cases hr';exact hp⟩
  |none=>rw[hx]at he;exact⟨by rw[he];rfl,hm,λr' hr'=>by cases hr'⟩
 generalize bV w b op r.EA=RP at *;generalize dw (aK r.rest).1=rx at *;go_in;go_wp2_with fail;refine qz.o.mono ?_;rintro e w1 ⟨rfl,hp⟩;have hb1:=hp.rd;have z4:w1.cell? ⟨b,4,eL⟩=eK (vB (r.s:Int)):=hb1.cell 4;have zf:=hb1.frozen;go_wp2_with fail;exact uq.o _ _ rfl (hp.2.bA 4 _) (hb1.set 4 _)
theorem Ub{r:dH}(h:nameB (aK r.rest).1=fj):r.lab=eL:=by unfold dH.lab;rw[iN9 (by simp[h])]
theorem Uc{r:dH}(h:nameB (aK r.rest).1=fR):r.lab=eK {r with label:=(aK r.rest).1,rest:=(aK r.rest).2}:=by unfold dH.lab;rw[iP9 h]
theorem Pp(b:Nat)(op:fa)(r:dH)(w:tW)(h:au w b (r.cells op) 269)(hl:eJ r.rest<=1000000):fS prog 213 #[vP b] w λe w'=>bV w b op r.lab e w':=by
 have qz:=aq (pY b 1 _ _ r.rest w (lM h) hl)
 have uq:ah (∀e w',e=fW (fX (nameB (aK r.rest).1))->aa (Only b) w w'->au w' b ({r with rest:=(aK r.rest).2,label:=(aK r.rest).1}.cells op) 269->bV w b op r.lab e w'):=λe w' he hm hp=>by
  cases hx:nameB (aK r.rest).1 with
  |true=>rw[Uc hx];exact⟨by rw[he,hx];rfl,hm,λr' hr'=>by cases hr';exact hp⟩
  |false=>rw[Ub hx];exact⟨by rw[he,hx];rfl,hm,λr' hr'=>by cases hr'⟩
 generalize bV w b op r.lab=RP at *;generalize nameB (aK r.rest).1=rx at *;go_in;go_wp2_with fail;refine qz.o.mono ?_;rintro e w1 ⟨rfl,hp⟩;have hb1:=hp.rd;have z8:w1.cell? ⟨b,8,eL⟩=eK (eR (T r.label)):=hb1.cell 8;have zf:=hb1.frozen;go_wp2_with fail;exact uq.o _ _ rfl (hp.2.bA 8 _) (hb1.set 8 _)
def dH.EC(r:dH)(o:Option Int):dH:={r with far:=r.far||o.isNone}
theorem ur(b:Nat)(op:fa)(r:dH)(n:bI)(bits:Int)(half:Nat)(w:tW)(h:au w b (r.cells op) 269)(hS:∀w,fS prog 259 #[n.dY,vI bits] w λe w'=>e=fW (jl #[vI ((n.dC half).getD 0),fX (n.dC half).isSome])/\aa af w w'):fS prog 181 #[vP b,n.dY,vI bits] w λe w'=>e=fW (vI ((n.dC half).getD 0))/\au w' b ((r.EC (n.dC half)).cells op) 269/\aa (Only b) w w':=by
 have HS:=aq hS;have HF:ah (∀w',au w' b ({r with far:=r.far||!(n.dC half).isSome}.cells op) 269->au w' b ((r.EC (n.dC half)).cells op) 269):=λw' h'=>by unfold dH.EC;rw[<-cH];exact h'
 generalize(r.EC (n.dC half)).cells op=fc at *;unfold bI.dY at *;generalize((n.v%18446744073709551616:Nat):Int)=u at *;generalize gh (18446744073709551616<=n.v)=bg at *;generalize n.dC half=sg at *;generalize n.minus=mi at *;clear hS;have h1:au (w.alloc (fL #[fX mi,vU u,fX bg] 157)) b (r.cells op) 269:=h.alloc _;have HB:=aq h1;have HM:ah (aa (Only b) w (w.alloc (fL #[fX mi,vU u,fX bg] 157))):=aw;clear h h1;go_in;go_wp2_with fail;refine(HS.o _).mono ?_;rintro e w1 ⟨rfl,m1⟩;have HB1:=aq (HB.o.ai m1 id);have bU:=aq (HM.o.trans m1.of_nil);clear m1 HB HM HS;have z10:=HB1.o.c10;have zf:=HB1.o.frozen;generalize hfr:r.far=fr at *;cases fr with
 |true =>
  go_wp2_with fail;go_ret;refine⟨rfl,HF.o _ ?_,bU.o.bA 10 _⟩;have:=HB1.o.set 10 (fX fR);have e:(r.cells op).setIfInBounds 10 (fX fR)=({r with far:=fR||!sg.isSome}).cells op:=by unfold dH.cells;rfl
  rw[e]at this;exact this
 |false =>
  go_wp2_with fail;go_ret;refine⟨rfl,HF.o _ ?_,bU.o.bA 10 _⟩;have:=HB1.o.set 10 (fX sg.isNone);have e:(r.cells op).setIfInBounds 10 (fX sg.isNone)=({r with far:=fj||!sg.isSome}).cells op:=by unfold dH.cells;simp
  rw[e]at this;exact this
def dH.Pq(r:dH)(o:Option Nat):dH:={r with far:=r.far||o.isNone}
theorem Pr(b:Nat)(op:fa)(r:dH)(n:bI)(w:tW)(h:au w b (r.cells op) 269):fS prog 287 #[vP b,n.dY] w λe w'=>e=fW (vU ((n.eX.getD 0:Nat):Int))/\au w' b ((r.Pq n.eX).cells op) 269/\aa (Only b) w w':=by
 have HS:=aq (λw=>T9 n w);have HF:ah (∀w',au w' b ({r with far:=r.far||!n.eX.isSome}.cells op) 269->au w' b ((r.Pq n.eX).cells op) 269):=λw' h'=>by unfold dH.Pq;rw[<-cH];exact h'
 generalize(r.Pq n.eX).cells op=fc at *;unfold bI.dY at *;generalize((n.v%18446744073709551616:Nat):Int)=u at *;generalize gh (18446744073709551616<=n.v)=bg at *;generalize n.eX=sg at *;generalize n.minus=mi at *;have h1:au (w.alloc (fL #[fX mi,vU u,fX bg] 157)) b (r.cells op) 269:=h.alloc _;have HB:=aq h1;have HM:ah (aa (Only b) w (w.alloc (fL #[fX mi,vU u,fX bg] 157))):=aw;clear h h1;go_in;go_wp2_with fail;refine(HS.o _).mono ?_;rintro e w1 ⟨rfl,m1⟩;have HB1:=aq (HB.o.ai m1 id);have bU:=aq (HM.o.trans m1.of_nil);clear m1 HB HM HS;have z10:=HB1.o.c10;have zf:=HB1.o.frozen;generalize hfr:r.far=fr at *;cases fr with
 |true =>
  go_wp2_with fail;go_ret;refine⟨rfl,HF.o _ ?_,bU.o.bA 10 _⟩;have:=HB1.o.set 10 (fX fR);have e:(r.cells op).setIfInBounds 10 (fX fR)=({r with far:=fR||!sg.isSome}).cells op:=by unfold dH.cells;rfl
  rw[e]at this;exact this
 |false =>
  go_wp2_with fail;go_ret;refine⟨rfl,HF.o _ ?_,bU.o.bA 10 _⟩;have:=HB1.o.set 10 (fX sg.isNone);have e:(r.cells op).setIfInBounds 10 (fX sg.isNone)=({r with far:=fj||!sg.isSome}).cells op:=by unfold dH.cells;simp
  rw[e]at this;exact this
theorem mK(n:bI)(half:Nat)(hh:1<=half):-(half:Int)<=(n.dC half).getD 0/\(n.dC half).getD 0<half:=by
 unfold bI.dC;split
 ·simp;omega
 ·split
  ·split
   ·simp;omega
   ·simp;omega
  ·split
   ·simp;omega
   ·simp;omega
theorem Ps(b:Nat)(op:fa)(r:dH)(w:tW)(h:au w b (r.cells op) 269)(hl:eJ r.rest<=1000000):fS prog 179 #[vP b] w λe w'=>bV w b op r.number e w':=by
 have qz:=aq (uo b 1 _ _ r.rest w (lM h) hl)
 have uq:ah (∀e w' n l',e=fW (fX (fT r.rest).isSome)->aa (Only b) w w'->(∀x,fT r.rest=eK x->x=(n,l'))->au w' b ({r with rest:=l',num:=(n.dC 2147483648).getD 0,far:=r.far||(n.dC 2147483648).isNone}.cells op) 269->bV w b op r.number e w'):=λe w' n l' he hm hx hp=>by
  unfold dH.number;cases hn:fT r.rest with
  |some x =>have:=hx x hn;subst this;exact⟨by rw[he,hn];rfl,hm,λr' hr'=>by cases hr';exact hp⟩
  |none=>exact⟨by rw[he,hn];rfl,hm,λr' hr'=>by cases hr'⟩
 generalize bV w b op r.number=RP at *;have HNP:ah (∀e w',kU w b 1 (r.cells op) 269 r.rest e w'->∃n l',e=fW (jl #[bI.dY n,fX (fT r.rest).isSome])/\aW w b 1 (r.cells op) 269 l' w'/\l'.length<=eJ r.rest/\∀x,fT r.rest=eK x->x=(n,l')):=λ_ _ h=>h;generalize kU w b 1 (r.cells op) 269 r.rest=NP at *;generalize fT r.rest=nl at *;go_in;go_wp2_with fail;refine qz.o.mono ?_;intro e w1 hn;obtain⟨n,l',rfl,hp,hle,hx⟩:=HNP.o _ _ hn;have HX:=aq hx;clear hn hx qz HNP hle;have hr:=mK n 2147483648 (by omega);have HB1:ah (∀cs,au (w1.alloc (fL cs 157)) b ({r with rest:=l'}.cells op) 269):=λcs=>hp.rd.alloc _;have bU:ah (∀cs,aa (Only b) w (w1.alloc (fL cs 157))):=λcs=>hp.2.alloc _;clear hp;have HS:=aq (λw' (h':au w' b ({r with rest:=l'}.cells op) 269)=>ur b op _ n 32 2147483648 w' h' (Gl n));have abv:=aq (λe w' he hm=>uq.o e w' n l' he hm HX.o);clear uq HX;unfold dH.EC at *;generalize n.dC 2147483648=sg at *;unfold bI.dY at *;generalize((n.v%18446744073709551616:Nat):Int)=u at *;generalize gh (18446744073709551616<=n.v)=bg at *;generalize n.minus=mi at *;generalize hvv:sg.getD 0=vv at *;obtain⟨hr0,hr1⟩:=hr;go_wp2_with fail;refine(HS.o _ (HB1.o _)).mono ?_;rintro e w2 ⟨rfl,hb2,m2⟩;have bP:=aq ((bU.o _).trans m2);have z6:w2.cell? ⟨b,6,eL⟩=eK (vJ r.num):=hb2.cell 6;have zf:=hb2.frozen;have HB2:=aq hb2;clear hb2 m2 HB1 bU HS;go_wp2_with fail;exact abv.o _ _ rfl (bP.o.bA 6 _) (HB2.o.set 6 _)
def dH.IU(r:dH)(l:tLB)(n:bI):dH:={r with jump:=(n.dC 32768).getD 0,far:=r.far||(n.dC 32768).isNone,rest:=l}
theorem Pv{r:dH}(h:bC 45 r.rest=fR):r.off=(dS (aK (bu 45 r.rest)).1).map (λv=>r.IU (aK (bu 45 r.rest)).2 ⟨v,fR⟩):=by unfold dH.off dH.IU;rw[iP9 h]
theorem mO{c:UInt8}{l:tLB}(h:bC c l=fj):bu c l=aC l:=by unfold bu;rw[iN9 (by simp[h])]
theorem Cs(l:tLB):aC (aC l)=aC l:=by
 unfold aC;induction l with
 |nil=>rfl
 |cons c r ih =>
  rw[ao];split
  ·exact ih
  ·rename_i h;rw[ao,iN9 h]
theorem lW(c:UInt8)(l:tLB):bC c (aC l)=bC c l/\bu c (aC l)=bu c l:=by unfold bu bC;rw[Cs];exact⟨rfl,rfl⟩
theorem Ud{r:dH}(h:bC 45 r.rest=fj)(hp:bC 43 r.rest=fR):r.off=(dS (aK (bu 43 r.rest)).1).map (λv=>r.IU (aK (bu 43 r.rest)).2 ⟨v,fj⟩):=by unfold dH.off dH.IU;rw[iN9 (by simp[h]),iP9 hp]
theorem Ue{r:dH}(h:bC 45 r.rest=fj)(hp:bC 43 r.rest=fj):r.off=eK {r with rest:=aC r.rest}:=by unfold dH.off;rw[iN9 (by simp[h]),iN9 (by simp[hp])]
theorem Uf(b:Nat)(op:fa)(r:dH)(w:tW)(h:au w b (r.cells op) 269)(hl:eJ r.rest<=1000000)(hm:bC 45 r.rest=fR):fS prog 231 #[vP b] w λe w'=>bV w b op r.off e w':=by
 have qz:ah (fS prog 138 #[ia (eK ⟨b,1,eL⟩),vB 45] w λe w'=>e=fW (fX fR)/\aW w b 1 (r.cells op) 269 (bu 45 r.rest) w'):=by have:=iT b 1 _ _ r.rest 45 w (lM h) hl;rw[hm]at this;exact this
 have Pk:=qI 45 r.rest
 have uq:ah (∀e w',e=fW (fX (dS (aK (bu 45 r.rest)).1).isSome)->aa (Only b) w w'->au w' b ((r.IU (aK (bu 45 r.rest)).2 ⟨(dS (aK (bu 45 r.rest)).1).getD 0,fR⟩).cells op) 269->bV w b op r.off e w'):=λe w' he hmd hbk=>by
  rw[Pv hm];cases hn:dS (aK (bu 45 r.rest)).1 with
  |some v=>rw[hn]at he hbk;exact⟨by rw[he];rfl,hmd,λr' hr'=>by cases hr';exact hbk⟩
  |none=>rw[hn]at he;exact⟨by rw[he];rfl,hmd,λr' hr'=>by cases hr'⟩
 generalize bV w b op r.off=RP at *;generalize bu 45 r.rest=l0 at *;have Yk:=aq (λw' (h':au w' b ({r with rest:=l0}.cells op) 269)=>xR b 1 _ _ l0 w' (lM (r:={r with rest:=l0}) h') (by omega));generalize aK l0=wl at *;obtain⟨l1,l2⟩:=wl;dsimp only at *;generalize dS l1=nn at *;have hr:=mK ⟨nn.getD 0,fR⟩ 32768 (by omega);have HS:ah (∀w',au w' b ({r with rest:=l2}.cells op) 269->fS prog 181 #[vP b,(bI.mk (nn.getD 0) fR).dY,vI 16] w' λe w''=>e=fW (vI (((bI.mk (nn.getD 0) fR).dC 32768).getD 0))/\au w'' b ((dH.EC {r with rest:=l2} ((bI.mk (nn.getD 0) fR).dC 32768)).cells op) 269/\aa (Only b) w' w''):=λw' h'=>ur b op _ _ 16 32768 w' h' (yS _);have HNG:ah (∀w',fS prog 285 #[(bI.mk (nn.getD 0) fj).dY] w' λe w''=>e=fW (bI.mk (nn.getD 0) fR).dY/\aa af w' w''):=λw'=>Bh ⟨_,fj⟩ w';unfold dH.EC dH.IU at *;generalize(bI.mk (nn.getD 0) fR).dC 32768=sg at *;unfold bI.dY at *;dsimp only at *;generalize(((nn.getD 0)%18446744073709551616:Nat):Int)=u at *;generalize gh (18446744073709551616<=nn.getD 0)=bg at *;generalize hvv:sg.getD 0=vv at *;obtain⟨hr0,hr1⟩:=hr;clear h hl Pk;go_in;go_wp2_with fail;refine qz.o.mono ?_;rintro e w1 ⟨rfl,hp1⟩;have HB1:=aq hp1.rd;have bU:=aq (hp1.2);clear hp1 qz;go_wp2_with fail;refine(Yk.o _ HB1.o).mono ?_;rintro e w2 ⟨rfl,hp2⟩;have HB2:ah (∀cs,au (w2.alloc (fL cs 157)) b ({r with rest:=l2}.cells op) 269):=λcs=>hp2.rd.alloc _;have bP:ah (∀cs,aa (Only b) w (w2.alloc (fL cs 157))):=λcs=>(bU.o.trans hp2.2).alloc _;have HWs:=aq ((bU.o.trans hp2.2).size);have hbl:=hp2.1.blk.lt;clear hp2 HB1 bU Yk;go_wp2_with fail;refine(HNG.o _).mono ?_;rintro e w3 ⟨rfl,m3⟩;have KW:ah (au w3 w2.heap.size #[fX fj,vU u,fX bg] 157):=(au.new w2 _ _).ai m3 id;have n0:=KW.o.c0;have n1:=KW.o.c1;have n2:=KW.o.c2;have nf:=KW.o.frozen;have HB3:=aq ((HB2.o _).ai m3 id);have dF:=aq ((bP.o _).trans m3.of_nil);clear m3 HB2 bP HNG;go_upto_region 7 with fail;generalize hW4:((w3.setCell ⟨w2.heap.size,0,eL⟩ (fX fR)).setCell ⟨w2.heap.size,1,eL⟩ (vU u)).setCell ⟨w2.heap.size,2,eL⟩ (fX bg)=W4 at *;have Tm:ah (au W4 w2.heap.size #[fX fR,vU u,fX bg] 157):=by rw[<-hW4];exact((KW.o.set 0 _).set 1 _).set 2 _
 have iH:ah (au W4 b ({r with rest:=l2}.cells op) 269):=by
  rw[<-hW4]
  iterate 3 refine au.setOther ?_ (by simp;omega) _
  exact HB3.o
 have gG:ah (aa (Only b) w W4):=by
  rw[<-hW4]
  iterate 3 refine aa.set ?_ (ij (by simpa using HWs.o)) _
  exact dF.o
 clear n0 n1 n2 nf KW HB3 dF hW4;have n0:=Tm.o.c0;have n1:=Tm.o.c1;have n2:=Tm.o.c2;go_wp2_with fail;refine(HS.o _ iH.o).mono ?_;rintro e w5 ⟨rfl,hb5,m5⟩;have ji:=aq hb5;have jo:=aq (gG.o.trans m5);have z5:w5.cell? ⟨b,5,eL⟩=eK (.int .i16 r.jump):=hb5.cell 5;have zf:=hb5.frozen;clear hb5 m5 iH gG Tm n0 n1 n2 HS;go_wp2_with fail;exact uq.o _ _ rfl (jo.o.bA 5 _) (ji.o.set 5 _)
theorem Ug(b:Nat)(op:fa)(r:dH)(w:tW)(h:au w b (r.cells op) 269)(hl:eJ r.rest<=1000000)(hm:bC 45 r.rest=fj)(hp:bC 43 r.rest=fR):fS prog 231 #[vP b] w λe w'=>bV w b op r.off e w':=by
 have qz:ah (fS prog 138 #[ia (eK ⟨b,1,eL⟩),vB 45] w λe w'=>e=fW (fX fj)/\aW w b 1 (r.cells op) 269 (aC r.rest) w'):=by have:=iT b 1 _ _ r.rest 45 w (lM h) hl;rw[hm,mO hm]at this;exact this
 have Uh:ah (∀w',au w' b ({r with rest:=aC r.rest}.cells op) 269->fS prog 138 #[ia (eK ⟨b,1,eL⟩),vB 43] w' λe w''=>e=fW (fX fR)/\aW w' b 1 ({r with rest:=aC r.rest}.cells op) 269 (bu 43 r.rest) w''):=λw' h'=>by have:=iT b 1 _ _ (aC r.rest) 43 w' (lM (r:={r with rest:=aC r.rest}) h') (by have:=iy r.rest;omega);rw[(lW 43 r.rest).1,(lW 43 r.rest).2,hp]at this;exact this
 have Pk:=qI 43 r.rest
 have uq:ah (∀e w',e=fW (fX (dS (aK (bu 43 r.rest)).1).isSome)->aa (Only b) w w'->au w' b ((r.IU (aK (bu 43 r.rest)).2 ⟨(dS (aK (bu 43 r.rest)).1).getD 0,fj⟩).cells op) 269->bV w b op r.off e w'):=λe w' he hmd hbk=>by
  rw[Ud hm hp];cases hn:dS (aK (bu 43 r.rest)).1 with
  |some v=>rw[hn]at he hbk;exact⟨by rw[he];rfl,hmd,λr' hr'=>by cases hr';exact hbk⟩
  |none=>rw[hn]at he;exact⟨by rw[he];rfl,hmd,λr' hr'=>by cases hr'⟩
 generalize bV w b op r.off=RP at *;generalize bu 43 r.rest=l0 at *;have Yk:=aq (λw' (h':au w' b ({r with rest:=l0}.cells op) 269)=>xR b 1 _ _ l0 w' (lM (r:={r with rest:=l0}) h') (by omega));generalize aK l0=wl at *;obtain⟨l1,l2⟩:=wl;dsimp only at *;generalize dS l1=nn at *;have hr:=mK ⟨nn.getD 0,fj⟩ 32768 (by omega);have HS:ah (∀w',au w' b ({r with rest:=l2}.cells op) 269->fS prog 181 #[vP b,(bI.mk (nn.getD 0) fj).dY,vI 16] w' λe w''=>e=fW (vI (((bI.mk (nn.getD 0) fj).dC 32768).getD 0))/\au w'' b ((dH.EC {r with rest:=l2} ((bI.mk (nn.getD 0) fj).dC 32768)).cells op) 269/\aa (Only b) w' w''):=λw' h'=>ur b op _ _ 16 32768 w' h' (yS _);have HNG:ah (∀w',fS prog 285 #[(bI.mk (nn.getD 0) fj).dY] w' λe w''=>e=fW (bI.mk (nn.getD 0) fR).dY/\aa af w' w''):=λw'=>Bh ⟨_,fj⟩ w';unfold dH.EC dH.IU at *;generalize(bI.mk (nn.getD 0) fj).dC 32768=sg at *;unfold bI.dY at *;dsimp only at *;generalize(((nn.getD 0)%18446744073709551616:Nat):Int)=u at *;generalize gh (18446744073709551616<=nn.getD 0)=bg at *;generalize hvv:sg.getD 0=vv at *;obtain⟨hr0,hr1⟩:=hr;clear h hl Pk;go_in;go_wp2_with fail;refine qz.o.mono ?_;rintro e w0 ⟨rfl,hp0⟩;have HB0:=aq hp0.rd;have eW:=aq (hp0.2);clear hp0 qz;go_wp2_with fail;refine(Uh.o _ HB0.o).mono ?_;rintro e w1 ⟨rfl,hp1⟩;have HB1:=aq hp1.rd;have bU:=aq (eW.o.trans hp1.2);clear hp1 Uh HB0 eW;go_wp2_with fail;refine(Yk.o _ HB1.o).mono ?_;rintro e w2 ⟨rfl,hp2⟩;have HB2:ah (∀cs,au (w2.alloc (fL cs 157)) b ({r with rest:=l2}.cells op) 269):=λcs=>hp2.rd.alloc _;have bP:ah (∀cs,aa (Only b) w (w2.alloc (fL cs 157))):=λcs=>(bU.o.trans hp2.2).alloc _;have HWs:=aq ((bU.o.trans hp2.2).size);have hbl:=hp2.1.blk.lt;clear hp2 HB1 bU Yk;go_upto_region 7 with fail;have Tm:=aq (au.new w2 #[fX fj,vU u,fX bg] 157);have iH:ah (au (w2.alloc (fL #[fX fj,vU u,fX bg] 157)) b ({r with rest:=l2}.cells op) 269):=HB2.o _;have gG:ah (aa (Only b) w (w2.alloc (fL #[fX fj,vU u,fX bg] 157))):=bP.o _;clear HB2 bP;generalize w2.alloc (fL #[fX fj,vU u,fX bg] 157)=W4 at *;have n0:=Tm.o.c0;have n1:=Tm.o.c1;have n2:=Tm.o.c2;go_wp2_with fail;refine(HS.o _ iH.o).mono ?_;rintro e w5 ⟨rfl,hb5,m5⟩;have ji:=aq hb5;have jo:=aq (gG.o.trans m5);have z5:w5.cell? ⟨b,5,eL⟩=eK (.int .i16 r.jump):=hb5.cell 5;have zf:=hb5.frozen;clear hb5 m5 iH gG Tm n0 n1 n2 HS;go_wp2_with fail;exact uq.o _ _ rfl (jo.o.bA 5 _) (ji.o.set 5 _)
theorem Ui(b:Nat)(op:fa)(r:dH)(w:tW)(h:au w b (r.cells op) 269)(hl:eJ r.rest<=1000000)(hm:bC 45 r.rest=fj)(hp:bC 43 r.rest=fj):fS prog 231 #[vP b] w λe w'=>bV w b op r.off e w':=by
 have qz:ah (fS prog 138 #[ia (eK ⟨b,1,eL⟩),vB 45] w λe w'=>e=fW (fX fj)/\aW w b 1 (r.cells op) 269 (aC r.rest) w'):=by have:=iT b 1 _ _ r.rest 45 w (lM h) hl;rw[hm,mO hm]at this;exact this
 have Uh:ah (∀w',au w' b ({r with rest:=aC r.rest}.cells op) 269->fS prog 138 #[ia (eK ⟨b,1,eL⟩),vB 43] w' λe w''=>e=fW (fX fj)/\aW w' b 1 ({r with rest:=aC r.rest}.cells op) 269 (aC r.rest) w''):=λw' h'=>by have:=iT b 1 _ _ (aC r.rest) 43 w' (lM (r:={r with rest:=aC r.rest}) h') (by have:=iy r.rest;omega);rw[(lW 43 r.rest).1,(lW 43 r.rest).2,hp,mO hp]at this;exact this
 have uq:ah (∀e w',e=fW (fX fR)->aa (Only b) w w'->au w' b ({r with rest:=aC r.rest}.cells op) 269->bV w b op r.off e w'):=λe w' he hmd hb=>by rw[Ue hm hp];exact⟨by rw[he];rfl,hmd,λr' hr'=>by cases hr';exact hb⟩
 generalize bV w b op r.off=RP at *;clear h hl;go_in;go_wp2_with fail;refine qz.o.mono ?_;rintro e w0 ⟨rfl,hp0⟩;have HB0:=aq hp0.rd;have eW:=aq (hp0.2);clear hp0 qz;go_wp2_with fail;refine(Uh.o _ HB0.o).mono ?_;rintro e w1 ⟨rfl,hp1⟩;have HB1:=aq hp1.rd;have bU:=aq (eW.o.trans hp1.2);clear hp1 Uh HB0 eW;go_wp2_with fail;exact uq.o _ _ rfl bU.o HB1.o
theorem Pw(b:Nat)(op:fa)(r:dH)(w:tW)(h:au w b (r.cells op) 269)(hl:eJ r.rest<=1000000):fS prog 231 #[vP b] w λe w'=>bV w b op r.off e w':=by
 cases hm:bC 45 r.rest with
 |true=>exact Uf b op r w h hl hm
 |false =>
  cases hp:bC 43 r.rest with
  |true=>exact Ug b op r w h hl hm hp
  |false=>exact Ui b op r w h hl hm hp
theorem Uj{r:dH}(h:(aK r.rest).1=[109,97,112]):r.wide=if nameB (aK (aK r.rest).2).1 then eK {r with s:=1,name:=(aK (aK r.rest).2).1,rest:=(aK (aK r.rest).2).2}else eL:=by unfold dH.wide;rw[iP9 h]
theorem Uk{r:dH}(h:(aK r.rest).1≠[109,97,112]):r.wide=(fT r.rest).map (λx=>{r with num:=uj (x.1.eX.getD 0),high:=uj ((x.1.eX.getD 0)/4294967296),far:=r.far||x.1.eX.isNone,rest:=x.2}):=by unfold dH.wide;rw[iN9 h]
theorem Px(b:Nat)(op:fa)(r:dH)(w:tW)(h:au w b (r.cells op) 269)(hl:eJ r.rest<=1000000)(hm:(aK r.rest).1=[109,97,112]):fS prog 237 #[vP b] w λe w'=>bV w b op r.wide e w':=by
 have hwl:=jP r.rest;have hq:((T [109,97,112]).toList==[109,97,112])=fR:=xO rfl;have HB0:ah (au (w.alloc (fL #[eR (T r.rest)] 229)) b (r.cells op) 269):=h.alloc _;have Ym:ah (lF (w.alloc (fL #[eR (T r.rest)] 229)) w.heap.size 0 #[eR (T r.rest)] 229 r.rest):=⟨au.new w _ _,rfl⟩
 have HW:ah (fS prog 137 #[vP (w.heap.size)] (w.alloc (fL #[eR (T r.rest)] 229)) λe w'=>e=fW (eR (T [109,97,112]))/\aW (w.alloc (fL #[eR (T r.rest)] 229)) w.heap.size 0 #[eR (T r.rest)] 229 (aK r.rest).2 w'):=by have:=il w.heap.size 0 _ _ r.rest _ Ym.o hl;rw[hm]at this;exact this
 have HN:=aq (λw' (h':lF w' w.heap.size 0 #[.string (T (aK r.rest).2)] 229 (aK r.rest).2)=>pY _ 0 _ _ _ w' h' (by omega))
 have uq:ah (∀e w',e=fW (fX (nameB (aK (aK r.rest).2).1))->aa (Only b) w w'->au w' b ({r with s:=1,name:=(aK (aK r.rest).2).1,rest:=(aK (aK r.rest).2).2}.cells op) 269->bV w b op r.wide e w'):=λe w' he hmd hbk=>by
  rw[Uj hm];cases hn:nameB (aK (aK r.rest).2).1 with
  |true=>rw[hn]at he;exact⟨by rw[he];rfl,hmd,λr' hr'=>by cases hr';exact hbk⟩
  |false=>rw[hn]at he;exact⟨by rw[he];rfl,hmd,λr' hr'=>by cases hr'⟩
 generalize bV w b op r.wide=RP at *;generalize nameB (aK (aK r.rest).2).1=nb at *;generalize aK (aK r.rest).2=w2 at *;generalize aK r.rest=w1 at *;obtain⟨n2,l2⟩:=w2;obtain⟨n1,l1⟩:=w1;dsimp only at *;have c1:=h.c1;have hbl:=h.lt;have HWs:ah (aa (Only b) w (w.alloc (fL #[eR (T r.rest)] 229))):=aw;clear h hwl hl;go_in;go_wp2_with fail;refine HW.o.mono ?_;rintro e wa ⟨rfl,hp1⟩;have Tk:=aq hp1.1;have HB1:=aq (HB0.o.ai hp1.2 (λe=>by have:b=w.heap.size:=e;omega));have bU:=aq (HWs.o.step hp1.2 (λi hi e=>by have:i=w.heap.size:=e;omega));clear hp1 Ym HB0 HWs HW;go_wp2_with fail;refine(HN.o _ Tk.o).mono ?_;rintro e wb ⟨rfl,hp2⟩;have HL2:=aq hp2.1;have HB2:=aq (HB1.o.ai hp2.2 (λe=>by have:b=w.heap.size:=e;omega));have bP:=aq (bU.o.step hp2.2 (λi hi e=>by have:i=w.heap.size:=e;omega));clear hp2 Tk HB1 bU HN;have x0:=HL2.o.cell;have z1:=HB2.o.c1;have z4:=HB2.o.c4;have z9:=HB2.o.c9;have zf:=HB2.o.frozen;go_wp2_with fail;exact uq.o _ _ rfl (((bP.o.bA 1 _).bA 4 _).bA 9 _) (((HB2.o.set 1 _).set 4 _).set 9 _)
theorem YT(v:Nat):Go.RowKit.wrap32 ((v:Int)%4294967296)=uj v:=by unfold uj Go.RowKit.wrap32;omega
theorem Ul(v:Nat):Go.RowKit.wrap32 ((v:Int)/4294967296)=uj (v/4294967296):=by unfold uj Go.RowKit.wrap32;omega
theorem Py(b:Nat)(op:fa)(r:dH)(w:tW)(h:au w b (r.cells op) 269)(hl:eJ r.rest<=1000000)(hm:(aK r.rest).1≠[109,97,112]):fS prog 237 #[vP b] w λe w'=>bV w b op r.wide e w':=by
 have hq:=tZ (λe=>hm (pg e));have HB0:ah (au (w.alloc (fL #[eR (T r.rest)] 229)) b (r.cells op) 269):=h.alloc _;have Ym:ah (lF (w.alloc (fL #[eR (T r.rest)] 229)) w.heap.size 0 #[eR (T r.rest)] 229 r.rest):=⟨au.new w _ _,rfl⟩
 have HW:=aq (il w.heap.size 0 _ _ r.rest _ Ym.o hl);have qz:=aq (λw' (h':au w' b (r.cells op) 269)=>uo b 1 _ _ r.rest w' (lM h') hl)
 have uq:ah (∀e w' n l',e=fW (fX (fT r.rest).isSome)->aa (Only b) w w'->(∀x,fT r.rest=eK x->x=(n,l'))->au w' b ({r with num:=uj (n.eX.getD 0),high:=uj ((n.eX.getD 0)/4294967296),far:=r.far||n.eX.isNone,rest:=l'}.cells op) 269->bV w b op r.wide e w'):=λe w' n l' he hmd hx hp=>by
  rw[Uk hm];cases hn:fT r.rest with
  |some x =>have:=hx x hn;subst this;exact⟨by rw[he,hn];rfl,hmd,λr' hr'=>by cases hr';exact hp⟩
  |none=>exact⟨by rw[he,hn];rfl,hmd,λr' hr'=>by cases hr'⟩
 generalize bV w b op r.wide=RP at *;generalize aK r.rest=w1 at *;obtain⟨n1,l1⟩:=w1;dsimp only at *;have c1:=h.c1;have hbl:=h.lt;have HWs:ah (aa (Only b) w (w.alloc (fL #[eR (T r.rest)] 229))):=aw;clear h hl;go_in;go_wp2_with fail;refine HW.o.mono ?_;rintro e wa ⟨rfl,hp1⟩;have HB1:=aq (HB0.o.ai hp1.2 (λe=>by have:b=w.heap.size:=e;omega));have bU:=aq (HWs.o.step hp1.2 (λi hi e=>by have:i=w.heap.size:=e;omega));clear hp1 Ym HB0 HWs HW;go_wp2_with fail;refine(qz.o _ HB1.o).mono ?_;intro e wb hn;obtain⟨n,l',rfl,hp2,hle,hx⟩:=hn;have abv:=aq (λe w' he hm=>uq.o e w' n l' he hm hx);have HB2:ah (∀cs,au (wb.alloc (fL cs 157)) b ({r with rest:=l'}.cells op) 269):=λcs=>hp2.rd.alloc _;have bP:ah (∀cs,aa (Only b) w (wb.alloc (fL cs 157))):=λcs=>(bU.o.trans hp2.2).alloc _;have HS:=aq (λw' (h':au w' b ({r with rest:=l'}.cells op) 269)=>Pr b op _ n w' h')
 have hwd:n.eX.getD 0<18446744073709551616:=by
  unfold bI.eX;split
  ·simp
  ·split
   ·split
    ·simp;omega
    ·simp
   ·simp;omega
 clear hp2 hx hle uq qz HB1 bU;unfold dH.Pq at *;generalize n.eX=sg at *;generalize fT r.rest=nl at *;unfold bI.dY at *;generalize((n.v%18446744073709551616:Nat):Int)=u at *;generalize gh (18446744073709551616<=n.v)=bg at *;generalize n.minus=mi at *;have HL:ah (Go.RowKit.wrap32 (((sg.getD 0:Nat):Int)%4294967296)=uj (sg.getD 0)):=YT _;have HH:ah (Go.RowKit.wrap32 (((sg.getD 0:Nat):Int)/4294967296)=uj ((sg.getD 0)/4294967296)):=Ul _;generalize hvv:sg.getD 0=vv at *;have hv1:(vv:Int)<18446744073709551616:=by omega
 go_wp2_with fail;refine(HS.o _ (HB2.o _)).mono ?_;rintro e wd ⟨rfl,hb5,m5⟩;have ji:=aq hb5;have jo:=aq ((bP.o _).trans m5);have z6:wd.cell? ⟨b,6,eL⟩=eK (vJ r.num):=hb5.cell 6;have z7:wd.cell? ⟨b,7,eL⟩=eK (vJ r.high):=hb5.cell 7;have zf:=hb5.frozen;clear hb5 m5 HB2 bP HS;go_wp2_with fail;refine abv.o _ _ rfl ((jo.o.bA 6 _).bA 7 _) ?_;rw[HL.o,HH.o];exact(ji.o.set 6 _).set 7 _
theorem Le(b:Nat)(op:fa)(r:dH)(w:tW)(h:au w b (r.cells op) 269)(hl:eJ r.rest<=1000000):fS prog 237 #[vP b] w λe w'=>bV w b op r.wide e w':=by
 by_cases hm:(aK r.rest).1=[109,97,112]
 ·exact Px b op r w h hl hm
 ·exact Py b op r w h hl hm
