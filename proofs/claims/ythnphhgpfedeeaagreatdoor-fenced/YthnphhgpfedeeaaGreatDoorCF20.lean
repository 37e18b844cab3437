import Derived.Test.YthnphhgpfedeeaaGreatDoorCF19
namespace Go.Proofs.YthnphhgpfedeeaaGreatDoor
open Go.RowKit
set_option linter.all false
def AX(n:bC)(most:Int):Bool:=(n.dV 9223372036854775808).isSome&&decide (1<=(n.dV 9223372036854775808).getD 0)&&decide ((n.dV 9223372036854775808).getD 0<=most)
def yF(a b c:bC):Bool:=AX a 8&&AX b 16&&AX c 8
structure PR where
 rest:tLB
 bad:Bool
def bU(n:Nat)(r:PR):tLB×PR:=if r.rest.length<n then(r.rest,⟨[],true⟩)else(r.rest.take n,⟨r.rest.drop n,r.bad⟩)
def oneP(r:PR):Nat×PR:=match r.rest with
 |[]=>(0,⟨[],true⟩)
 |b::l=>(b.toNat,⟨l,r.bad⟩)
def aI(c:Bool)(r:PR):PR:=⟨r.rest,r.bad||!c⟩
def iY(r:PR):Nat×PR:=((oneP r).1+256*(oneP (oneP r).2).1,(oneP (oneP r).2).2)
def dA(r:PR):tLB×PR:=((bU (oneP r).1 (oneP r).2).1,aI (nameB (bU (oneP r).1 (oneP r).2).1) (bU (oneP r).1 (oneP r).2).2)
def cu(most:Nat)(r:PR):Nat×PR:=((oneP r).1,aI (decide (1<=(oneP r).1)&&decide ((oneP r).1<=most)) (oneP r).2)
structure az where
 name:tLB
 key:Nat
 value:Nat
 entries:Nat
def az.cells(m:az):List Value:=[.string (T m.name),.int .u8 m.key,.int .u8 m.value,.int .u8 m.entries]
def ZA(a b:tLB):Bool:=ji (T a) (T b)
def Xj(r:PR):az×PR :=
 let n:=dA r;let k:=cu 8 n.2;let v:=cu 16 k.2;let e:=cu 8 v.2
 (⟨n.1,k.1,v.1,e.1⟩,e.2)
def mapsP:Nat->PR->tLB->List az->List az×PR
 |0,r,_,acc=>(acc,r)
 |k+1,r,last,acc=>mapsP k (aI (ZA last (Xj r).1.name) (Xj r).2) (Xj r).1.name (acc++[(Xj r).1])
structure fH where
 name:tLB
 slots:Nat
def GK(r:PR):fH×PR:=(⟨(dA r).1,(iY (dA r).2).1⟩,(iY (dA r).2).2)
def headsP:Nat->PR->tLB->Nat->List fH->List fH×Nat×PR
 |0,r,_,all,acc=>(acc,all,r)
 |k+1,r,last,all,acc=>headsP k (aI (ZA last (GK r).1.name) (GK r).2) (GK r).1.name (all+(GK r).1.slots) (acc++[(GK r).1])
structure PI where
 k:Nat
 d:Nat
 s:Nat
 jump:Int
 num:Int
 high:Int
 name:tLB
def iK:dY:=⟨0,[],[],0,false,false,0,false⟩
def PI.o(x:PI):dY:=aq[x.k]?.getD iK
def PI.ins(bs:List Nat)(x:PI):di:=⟨.pointer (some ⟨bs[x.k]?.getD 0,0,none⟩),x.d,x.s,x.jump,x.num,x.high,ByteArray.empty,T x.name⟩
def PI.aO(x:PI):Nat:=if x.s=1 then x.o.aO else 0
def PI.target(x:PI)(slot:Nat):Int:=(slot:Int)+x.o.slots+x.jump
def ep(n:Nat):Int:=if n<32768 then n else(n:Int)-65536
def xA(n:Nat):Int:=if n<2147483648 then n else(n:Int)-4294967296
def at'(l:tLB)(k:Nat):Nat:=(l[k]?.getD 0).toNat
def bA(l:tLB):Int:=xA (at' l 0+256*at' l 1+65536*at' l 2+16777216*at' l 3)
def kX(c:Nat):Option Nat:=aq.findIdx? (λo=>o.code==c)
def jf(l:tLB):Option PI :=
 if l.length<8 then none else
 match kX (at' l 0)with
 |none=>none
 |some k =>
  let o:=aq[k]?.getD iK
  if l.length<o.slots*8 then none
  else
   let x:PI:=⟨k,at' l 1%16,at' l 1/16,ep (at' l 2+256*at' l 3),bA (l.drop 4),if 1<o.slots then bA (l.drop 12)else 0,[]⟩
   if 1<o.slots/\(l.drop 8).take 4≠[0,0,0,0]then none
   else if o.needs (x.ins [])then some x else none
def codeL(sl:tLB)(n:Nat):Nat->Nat->List PI->List Bool->Option (List PI×List Bool)
 |0,_,_,_=>none
 |f+1,at_,acc,st=>if at_<n then
   (match jf (sl.drop (at_*8))with
   |none=>none
   |some x=>codeL sl n f (at_+x.o.slots) (acc++[x]) (st.set at_ true))
  else some (acc,st)
def leadP(st:List Bool):Nat->List PI->Bool
 |_,[]=>true
 |slot,x::l=>(if x.o.jumps then decide (0<=x.target slot)&&(st[(x.target slot).toNat]?.getD false)else true)&&leadP st (slot+x.o.slots) l
def zj(l:List PI):Bool:=match l.getLast? with
 |none=>false
 |some x=>x.o.ends
def codeP(sl:tLB)(r:PR):List PI×PR :=
 match codeL sl (sl.length/8) (sl.length/8+1) 0 [] (List.replicate (sl.length/8) false)with
 |none=>([],⟨r.rest,true⟩)
 |some (l,st)=>(l,aI (leadP st 0 l) (aI (zj l) r))
structure aS where
 name:tLB
 code:List PI
def codesP:List fH->PR->List aS->List aS×PR
 |[],r,acc=>(acc,r)
 |h::l,r,acc=>codesP l (codeP (bU (h.slots*8) r).1 (bU (h.slots*8) r).2).2 (acc++[⟨h.name,(codeP (bU (h.slots*8) r).1 (bU (h.slots*8) r).2).1⟩])
def jH(r:PR):List aS×PR :=
 let c:=oneP r
 let h:=headsP c.1 (aI (decide (c.1<=16)) c.2) [] 0 []
 let q:=aI (decide (h.2.1<=200)) h.2.2
 if q.bad then([],q)else codesP h.1 q []
def aM(l:List PI):Nat:=(l.map (·.o.slots)).sum
