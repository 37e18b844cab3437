import Derived.Test.YtekmhcbefnmflaaGreatDoorCL13
namespace Go.Proofs.YtekmhcbefnmflaaGreatDoor
open Go.RowKit
open Bool renaming and_assoc->ab,false_eq_true->an,and_eq_true->bh,true_or->b5,true->eJ,false->eE
open List renaming append_assoc->ao,cons_append->ar,map_append->bt,all->b9,length->ee
open Decidable renaming decide->eS
open Option renaming none->ez,some->eC
set_option linter.all false
set_option maxRecDepth 100000
set_option maxHeartbeats 4000000
structure PR where
 rest:tLB
 bad:Bool
def aR(n:Nat)(r:PR):tLB×PR:=if ee r.rest<n then(r.rest,⟨[],eJ⟩)else(r.rest.take n,⟨r.rest.drop n,r.bad⟩)
def oneP(r:PR):Nat×PR:=match r.rest with
 |[]=>(0,⟨[],eJ⟩)
 |b::l=>(b.toNat,⟨l,r.bad⟩)
def az(c:Bool)(r:PR):PR:=⟨r.rest,r.bad||!c⟩
def kR(r:PR):Nat×PR:=((oneP r).1+256*(oneP (oneP r).2).1,(oneP (oneP r).2).2)
def dJ(r:PR):tLB×PR:=((aR (oneP r).1 (oneP r).2).1,az (nameB (aR (oneP r).1 (oneP r).2).1) (aR (oneP r).1 (oneP r).2).2)
def bX(most:Nat)(r:PR):Nat×PR:=((oneP r).1,az (eS (1<=(oneP r).1)&&eS ((oneP r).1<=most)) (oneP r).2)
structure aW where
 name:tLB
 key:Nat
 value:Nat
 entries:Nat
def aW.cells(m:aW):tLV:=[.string (T m.name),vB m.key,vB m.value,vB m.entries]
def Ea(a b:tLB):Bool:=mo (T a) (T b)
def gZ(r:PR):aW×PR :=
 let n:=dJ r;let k:=bX 8 n.2;let v:=bX 16 k.2;let e:=bX 8 v.2
 (⟨n.1,k.1,v.1,e.1⟩,e.2)
def mapsP:Nat->PR->tLB->List aW->List aW×PR
 |0,r,_,acc=>(acc,r)
 |k+1,r,last,acc=>mapsP k (az (Ea last (gZ r).1.name) (gZ r).2) (gZ r).1.name (acc++[(gZ r).1])
structure bY where
 name:tLB
 slots:Nat
def eV(r:PR):bY×PR:=(⟨(dJ r).1,(kR (dJ r).2).1⟩,(kR (dJ r).2).2)
def headsP:Nat->PR->tLB->Nat->List bY->List bY×Nat×PR
 |0,r,_,all,acc=>(acc,all,r)
 |k+1,r,last,all,acc=>headsP k (az (Ea last (eV r).1.name) (eV r).2) (eV r).1.name (all+(eV r).1.slots) (acc++[(eV r).1])
structure PI where
 k:Nat
 d:Nat
 s:Nat
 jump:Int
 num:Int
 high:Int
 name:tLB
def kg:dX:=⟨0,[],[],0,eE,eE,0,eE⟩
def PI.o(x:PI):dX:=ax[x.k]?.getD kg
def PI.ins(bs:tLN)(x:PI):dQ:=⟨vP (bs[x.k]?.getD 0),x.d,x.s,x.jump,x.num,x.high,ByteArray.empty,T x.name⟩
def PI.aJ(x:PI):Nat:=if x.s=1 then x.o.aJ else 0
def PI.target(x:PI)(slot:Nat):Int:=(slot:Int)+x.o.slots+x.jump
def eP(n:Nat):Int:=if n<32768 then n else(n:Int)-65536
def yQ(n:Nat):Int:=if n<2147483648 then n else(n:Int)-4294967296
def at'(l:tLB)(k:Nat):Nat:=(l[k]?.getD 0).toNat
def bI(l:tLB):Int:=yQ (at' l 0+256*at' l 1+65536*at' l 2+16777216*at' l 3)
def gU(c:Nat):Option Nat:=ax.findIdx? (λo=>o.code==c)
def gp(l:tLB):Option PI :=
 if ee l<8 then ez else
 match gU (at' l 0)with
 |none=>ez
 |some k =>
  let o:=ax[k]?.getD kg
  if ee l<o.slots*8 then ez
  else
   let x:PI:=⟨k,at' l 1%16,at' l 1/16,eP (at' l 2+256*at' l 3),bI (l.drop 4),if 1<o.slots then bI (l.drop 12)else 0,[]⟩
   if 1<o.slots/\(l.drop 8).take 4≠[0,0,0,0]then ez
   else if o.needs (x.ins [])then eC x else ez
def codeL(sl:tLB)(n:Nat):Nat->Nat->List PI->List Bool->Option (List PI×List Bool)
 |0,_,_,_=>ez
 |f+1,at_,acc,st=>if at_<n then
   (match gp (sl.drop (at_*8))with
   |none=>ez
   |some x=>codeL sl n f (at_+x.o.slots) (acc++[x]) (st.set at_ eJ))
  else eC (acc,st)
def leadP(st:List Bool):Nat->List PI->Bool
 |_,[]=>eJ
 |slot,x::l=>(if x.o.jumps then eS (0<=x.target slot)&&(st[(x.target slot).toNat]?.getD eE)else eJ)&&leadP st (slot+x.o.slots) l
def qd(l:List PI):Bool:=match l.getLast? with
 |none=>eE
 |some x=>x.o.ends
def codeP(sl:tLB)(r:PR):List PI×PR :=
 match codeL sl (ee sl/8) (ee sl/8+1) 0 [] (List.replicate (ee sl/8) eE)with
 |none=>([],⟨r.rest,eJ⟩)
 |some (l,st)=>(l,az (leadP st 0 l) (az (qd l) r))
structure cZ where
 name:tLB
 code:List PI
def codesP:List bY->PR->List cZ->List cZ×PR
 |[],r,acc=>(acc,r)
 |h::l,r,acc=>codesP l (codeP (aR (h.slots*8) r).1 (aR (h.slots*8) r).2).2 (acc++[⟨h.name,(codeP (aR (h.slots*8) r).1 (aR (h.slots*8) r).2).1⟩])
def dF(r:PR):List cZ×PR :=
 let c:=oneP r
 let h:=headsP c.1 (az (eS (c.1<=16)) c.2) [] 0 []
 let q:=az (eS (h.2.1<=200)) h.2.2
 if q.bad then([],q)else codesP h.1 q []
def aL(l:List PI):Nat:=(l.map (·.o.slots)).sum
def yR(s:tBA)(r:RS)(q:PR):Prop:=r.bad=q.bad/\(r.bad=eE->q.rest=(BL s).drop r.pos/\r.pos<=s.size)
theorem dO(s:tBA):ee (BL s)=s.size:=rfl
theorem Lv(s:tBA)(i:Nat)(h:i<s.size):(BL s)[i]'(by rw[dO];exact h)=s[i]:=rfl
theorem oI(s:tBA)(r:RS)(q:PR)(h:yR s r q):yR s (rb s r).2 (oneP q).2/\((rb s r).2.bad=eE->(rb s r).1=(oneP q).1):=by
 obtain⟨p,b⟩:=r;obtain⟨l,c⟩:=q;obtain⟨h1,h2⟩:=h;simp only at h1 h2;subst h1;cases b with
 |true =>
  have e:rb s ⟨p,eJ⟩=(0,⟨p,eJ⟩):=by simp[rb]
  rw[e];cases l<;>simp[oneP,yR]
 |false =>
  obtain⟨h3,h4⟩:=h2 rfl;by_cases hp:p<s.size
  ·have e:rb s ⟨p,eE⟩=(s[p].toNat,⟨p+1,eE⟩):=by simp[rb,hp]
   rw[e];rw[List.drop_eq_getElem_cons (by rw[dO];exact hp)]at h3;subst h3;refine⟨⟨rfl,λ_=>⟨rfl,by simp only;omega⟩⟩,λ_=>?_⟩;simp[oneP,Lv s p hp]
  ·have e:rb s ⟨p,eE⟩=(0,⟨p,eJ⟩):=by simp[rb,hp]
   rw[e];rw[List.drop_eq_nil_of_le (by rw[dO];omega)]at h3;subst h3;simp[oneP,yR]
theorem rD(s:tBA)(r:RS)(h:r.bad=eJ):(rb s r).2.bad=eJ:=by simp[rb,h]
theorem rE(q:PR)(h:q.bad=eJ):(oneP q).2.bad=eJ:=by
 unfold oneP;split
 ·rfl
 ·exact h
theorem Cw(n:Nat)(q:PR)(h:q.bad=eJ):(aR n q).2.bad=eJ:=by
 unfold aR;split
 ·rfl
 ·exact h
theorem dh(c:Bool)(q:PR)(h:q.bad=eJ):(az c q).bad=eJ:=by simp[az,h]
theorem Gx(q:PR)(h:q.bad=eJ):(kR q).2.bad=eJ:=rE _ (rE q h)
theorem I5(q:PR)(h:q.bad=eJ):(dJ q).2.bad=eJ:=dh _ _ (Cw _ _ (rE q h))
theorem qe(m:Nat)(q:PR)(h:q.bad=eJ):(bX m q).2.bad=eJ:=dh _ _ (rE q h)
theorem Zl(s:tBA)(r:RS)(q:PR)(h:yR s r q):yR s (mX s r).2 (kR q).2/\((mX s r).2.bad=eE->(mX s r).1=(kR q).1):=by
 obtain⟨h1,e1⟩:=oI s r q h;obtain⟨h2,e2⟩:=oI s _ _ h1;refine⟨h2,λhb=>?_⟩;have hb':(rb s (rb s r).2).2.bad=eE:=hb
 have hb1:(rb s r).2.bad=eE:=by
  cases hc:(rb s r).2.bad with
  |false=>rfl
  |true=>rw[rD s _ hc]at hb';cases hb'
 simp only[mX,kR,e1 hb1,e2 hb']
theorem I6(s:tBA)(r:RS)(q:PR)(h:yR s r q):yR s (ow s r).2 (dJ q).2/\((ow s r).2.bad=eE->(ow s r).1=T (dJ q).1):=by
 obtain⟨h1,e1⟩:=oI s r q h;unfold ow dJ;generalize rb s r=a at *;generalize oneP q=c at *;obtain⟨n,⟨p,b⟩⟩:=a;obtain⟨n',⟨l,b'⟩⟩:=c;obtain⟨h1,h2⟩:=h1;simp only at h1 h2 e1;subst h1;cases b with
 |true =>simp only[b5,if_true];refine⟨⟨?_,λh=>by cases h⟩,λh=>by cases h⟩;simp only[az,Cw n' ⟨l,eJ⟩ rfl,b5]
 |false =>
  obtain⟨h3,h4⟩:=h2 rfl;have e1:=e1 rfl;subst e1;have hlen:ee l=s.size-p:=by rw[h3,List.length_drop,dO]
  by_cases hn:s.size<p+n
  ·have hl:ee l<n:=by omega
   simp only[hn,decide_true,Bool.or_true,if_true,aR,hl,az,b5];exact⟨⟨rfl,λh=>by cases h⟩,λh=>by cases h⟩
  ·have hl:¬ee l<n:=by omega
   have ex:(s.extract p (p+n)).data.toList=l.take n:=by
    rw[h3];show(s.extract p (p+n)).data.toList=(s.data.toList.drop p).take n
    rw[ByteArray.data_extract,Array.toList_extract,List.extract_eq_take_drop];simp
   simp only[hn,decide_false,Bool.or_false,an,if_false,aR,hl,az,Bool.false_or,ex];refine⟨⟨rfl,λ_=>⟨?_,by simp only;omega⟩⟩,λ_=>?_⟩
   ·rw[h3,List.drop_drop]
   ·rw[<-ex];rfl
theorem yR.good{s:tBA}{r:RS}{q:PR}(h:yR s r q)(hq:q.bad=eE):q.rest=(BL s).drop r.pos/\r.pos<=s.size:=h.2 (h.1.trans hq)
theorem vQ(s:tBA)(r:RS)(h:r.bad=eJ):(mX s r).2.bad=eJ:=rD s _ (rD s r h)
def aW.toR(m:aW):dE:=⟨T m.name,m.key,m.value,m.entries⟩
theorem nE{c:Bool}{q:PR}(h:(az c q).bad=eE):q.bad=eE/\c=eJ:=by
 simpa [az]using h
theorem yR.want{s:tBA}{r:RS}{q:PR}(h:yR s r q){c:Bool}(hc:c=eJ):yR s r (az c q):=by subst hc;simpa [az,yR]using h
theorem bK(b:Bool):b=eJ\/b=eE:=by cases b<;>simp
theorem QO(nm:tBA)(x y z:Nat):gK ⟨nm,x,y,z⟩=((eS (1<=x)&&eS (x<=8))&&(eS (1<=y)&&eS (y<=16))&&(eS (1<=z)&&eS (z<=8))):=by rw[Bool.eq_iff_iff];simp[gK];omega
theorem Zm(s:tBA)(r:RS)(q:PR)(h:yR s r q):let a:=ow s r;let k:=rb s a.2;let v:=rb s k.2;let e:=rb s v.2
  ((gZ q).2.bad=eE->yR s e.2 (gZ q).2/\(⟨a.1,k.1,v.1,e.1⟩:dE)=(gZ q).1.toR/\gK (gZ q).1.toR=eJ) /\
  ((gZ q).2.bad=eJ->e.2.bad=eJ\/((⟨a.1,k.1,v.1,e.1⟩:dE)=(gZ q).1.toR/\gK (gZ q).1.toR=eE)) /\
  (e.2.bad=eE->(⟨a.1,k.1,v.1,e.1⟩:dE)=(gZ q).1.toR):=by
 intro a k v e;obtain⟨h1,e1⟩:=I6 s r q h
 let q1:=(dJ q).2
 let o1:=oneP q1
 let o2:=oneP o1.2
 let o3:=oneP o2.2
 have s1:=oI s a.2 q1 h1;have s2:=oI s _ _ s1.1;have s3:=oI s _ _ s2.1;have hone:∀(a b:PR),a.rest=b.rest->(oneP a).1=(oneP b).1/\(oneP a).2.rest=(oneP b).2.rest:=by intro a b hab;unfold oneP;rw[hab];cases b.rest<;>simp
 have aaN:∀(a b:PR) (c:Bool),a.rest=b.rest->a.bad=(b.bad||c)->(oneP a).2.bad=((oneP b).2.bad||c):=by intro a b c hab hb;unfold oneP;rw[hab];cases b.rest<;>simp[hb]
 let c1:=(eS (1<=o1.1)&&eS (o1.1<=8))
 let k1:=(bX 8 q1)
 have k1e:k1=(o1.1,az c1 o1.2):=rfl
 let c2:=(eS (1<=o2.1)&&eS (o2.1<=16))
 let k2:=(bX 16 k1.2)
 have t2:=hone k1.2 o1.2 rfl;have t2b:=aaN k1.2 o1.2 (!c1) rfl rfl;have k2e:k2.1=o2.1:=t2.1;have k2r:k2.2.rest=o2.2.rest:=t2.2
 have k2b:k2.2.bad=(o2.2.bad||(!c1)||(!c2)):=by
  show((oneP k1.2).2.bad||!(eS (1<=(oneP k1.2).1)&&eS ((oneP k1.2).1<=16)))=_
  rw[t2b,t2.1]
 let c3:=(eS (1<=o3.1)&&eS (o3.1<=8))
 let k3:=(bX 8 k2.2)
 have t3:=hone k2.2 o2.2 k2r;have t3b:=aaN k2.2 o2.2 ((!c1)||(!c2)) k2r (by rw[k2b,Bool.or_assoc]);have k3e:k3.1=o3.1:=t3.1;have k3r:k3.2.rest=o3.2.rest:=t3.2
 have k3b:k3.2.bad=(o3.2.bad||((!c1)||(!c2))||(!c3)):=by
  show((oneP k2.2).2.bad||!(eS (1<=(oneP k2.2).1)&&eS ((oneP k2.2).1<=8)))=_
  rw[t3b,t3.1]
 have hmap:gZ q=(⟨(dJ q).1,o1.1,o2.1,o3.1⟩,k3.2):=by
  show((⟨(dJ q).1,k1.1,k2.1,k3.1⟩:aW),k3.2)=_
  rw[k2e,k3e];rfl
 have hOK:gK (gZ q).1.toR=(c1&&c2&&c3):=by rw[hmap];exact QO _ _ _ _
 have hbad:(gZ q).2.bad=(o3.2.bad||!(c1&&c2&&c3)):=by
  rw[hmap];show k3.2.bad=_
  rw[k3b];cases o3.2.bad<;>cases c1<;>cases c2<;>cases c3<;>rfl
 have hval:e.2.bad=eE->(⟨a.1,k.1,v.1,e.1⟩:dE)=(gZ q).1.toR:=by
  intro hb
  have hb2:v.2.bad=eE:=by
   rcases bK v.2.bad with h|h
   ·have:=rD s v.2 h;rw[this]at hb;cases hb
   ·exact h
  have hb1:k.2.bad=eE:=by
   rcases bK k.2.bad with h|h
   ·have:=rD s k.2 h;rw[this]at hb2;cases hb2
   ·exact h
  have hb0:a.2.bad=eE:=by
   rcases bK a.2.bad with h|h
   ·have:=rD s a.2 h;rw[this]at hb1;cases hb1
   ·exact h
  rw[hmap];simp only[aW.toR];rw[e1 hb0,s1.2 hb1,s2.2 hb2,s3.2 hb]
 refine⟨λhb=>?_,λhb=>?_,hval⟩
 ·rw[hbad]at hb;simp only[Bool.or_eq_false_iff,Bool.not_eq_false']at hb;have he:e.2.bad=eE:=s3.1.1.trans hb.1;refine⟨⟨?_,λ_=>?_⟩,hval he,by rw[hOK];exact hb.2⟩
  ·rw[he,hbad,hb.1,hb.2];rfl
  ·rw[hmap];show k3.2.rest=_/\_
   rw[k3r];exact s3.1.2 he
 ·rw[hbad]at hb;rcases bK o3.2.bad with h|h
  ·exact .inl (s3.1.1.trans h)
  ·rw[h,Bool.false_or,Bool.not_eq_true']at hb;have he:e.2.bad=eE:=s3.1.1.trans h;exact .inr ⟨hval he,by rw[hOK];exact hb⟩
theorem Zn(q:PR)(h:q.bad=eJ):(gZ q).2.bad=eJ:=qe _ _ (qe _ _ (qe _ _ (I5 q h)))
theorem nG:∀(k:Nat) (q:PR) (last:tLB) (acc:List aW),q.bad=eJ->(mapsP k q last acc).2.bad=eJ
 |0,_,_,_,h=>h
 |k+1,q,_,_,h=>nG k _ _ _ (dh _ _ (Zn q h))
theorem Cx(s:tBA)(k:Nat)(r:RS)(acc:List dE)(h:r.bad=eJ):rdMaps s k r acc=(acc,r):=by
 cases k with
 |zero=>rfl
 |succ k=>rw[rdMaps,iP9 h]
theorem Cy(s:tBA):∀(k:Nat) (r:RS) (acc:List dE),∃l,(rdMaps s k r acc).1=acc++l
 |0,_,acc=>⟨[],by simp[rdMaps]⟩
 |k+1,r,acc=>by
  rw[rdMaps];split
  ·exact⟨[],by simp⟩
  ·obtain⟨l,h⟩:=Cy s k _ _;exact⟨_,by rw[h,ao]⟩
def lastN:Option tBA->List dE->Option tBA
 |p,[]=>p
 |_,m::l=>lastN (eC m.name) l
theorem Cz:∀(l:List dE) (p:Option tBA) (m:dE),lastN p (l++[m])=eC m.name
 |[],_,_=>rfl
 |_::l,_,m=>Cz l _ m
theorem zQ:∀(l k:List dE) (p:Option tBA),mapsR p (l++k)=(mapsR p l&&mapsR (lastN p l) k)
 |[],k,p=>by simp[mapsR,lastN]
 |m::l,k,p=>by simp only[ar,mapsR,lastN,zQ l k,ab]
theorem CA(last:tLB)(m:tLB)(p:Option tBA)(h:(p=ez/\last=[]/\m≠[])\/p=eC (T last)):Ea last m=behind p (T m):=by
 rcases h with⟨rfl,rfl,h⟩|rfl
 ·cases m with
  |nil=>exact absurd rfl h
  |cons b l=>simp[Ea,mo,behind,T,Op.bytesLess]
 ·rfl
theorem I7{l:tLB}(h:nameB l=eJ):l≠[]:=by rintro rfl;simp[nameB]at h
theorem zR{q:PR}(h:(dJ q).2.bad=eE):nameB (dJ q).1=eJ:=(nE h).2
theorem yS{b c:Bool}(h:b=eJ->c=eJ)(hc:c=eE):b=eE:=by
 cases b with
 |false=>rfl
 |true=>rw[h rfl]at hc;cases hc
theorem Vi{q:PR}(h:(gZ q).2.bad=eE):(gZ q).1.name≠[]:=by have h3:=yS (λhb=>qe _ _ (qe _ _ (qe _ _ hb))) h;exact I7 (zR h3)
theorem I8(s:tBA):∀(k:Nat) (r:RS) (q:PR) (last:tLB) (acc:List dE) (acc':List aW),yR s r q->q.bad=eE->acc=acc'.map aW.toR->mapsR ez acc=eJ -> ((lastN ez acc=ez/\last=[])\/lastN ez acc=eC (T last)) -> ((mapsP k q last acc').2.bad=eE->yR s (rdMaps s k r acc).2 (mapsP k q last acc').2/\(rdMaps s k r acc).1=(mapsP k q last acc').1.map aW.toR/\mapsR ez (rdMaps s k r acc).1=eJ) /\ ((mapsP k q last acc').2.bad=eJ->(rdMaps s k r acc).2.bad=eJ\/mapsR ez (rdMaps s k r acc).1=eE)
 |0,r,q,last,acc,acc',hS,hq,ha,hR,_=>⟨λ_=>⟨hS,ha,hR⟩,λh=>by rw[show(mapsP 0 q last acc').2=q from rfl,hq]at h;cases h⟩
 |k+1,r,q,last,acc,acc',hS,hq,ha,hR,hL=>by
  have hr:=hS.1.trans hq;obtain⟨h1,h2,h3⟩:=Zm s r q hS;rw[rdMaps,iN9 (by rw[hr];decide),mapsP];generalize hm:(⟨(ow s r).1,(rb s (ow s r).2).1,(rb s (rb s (ow s r).2).2).1,(rb s (rb s (rb s (ow s r).2).2).2).1⟩:dE)=m at *;generalize(rb s (rb s (rb s (ow s r).2).2).2).2=r' at *;clear hm;have NW:gK m=eE\/behind (lastN ez acc) m.name=eE->mapsR ez (rdMaps s k r' (acc++[m])).1=eE:=λhd=>by obtain⟨l,hl⟩:=Cy s k r' (acc++[m]);rw[hl,ao,zQ,hR,Bool.true_and];simp only[ar,List.nil_append,mapsR];rcases hd with hd|hd<;>simp[hd]
  rcases bK (gZ q).2.bad with hb|hb
  ·have hp:(mapsP k (az (Ea last (gZ q).1.name) (gZ q).2) (gZ q).1.name (acc'++[(gZ q).1])).2.bad=eJ:=nG _ _ _ _ (dh _ _ hb);refine⟨λh=>(by rw[hp]at h;cases h),λ_=>?_⟩;rcases h2 hb with he |⟨hm,hk⟩
   ·rw[Cx s k r' _ he];exact .inl he
   ·exact .inr (NW (.inl (by rw[hm];exact hk)))
  ·obtain⟨hS',hm,hk⟩:=h1 hb;have hne:=Vi hb
   have hlt:Ea last (gZ q).1.name=behind (lastN ez acc) m.name:=by
    rw[hm]
    exact CA _ _ _ (by
     rcases hL with⟨h,h'⟩|h
     ·exact .inl ⟨h,h',hne⟩
     ·exact .inr h)
   rcases bK (Ea last (gZ q).1.name)with hc|hc
   ·refine I8 s k r' _ _ (acc++[m]) (acc'++[(gZ q).1]) (hS'.want hc) (by simp[az,hb,hc]) (by rw[ha,hm];simp) ?_ ?_
    ·rw[zQ,hR,<-hm]at *;simp[mapsR,hk,<-hlt,hc]
    ·right;rw[Cz,hm];rfl
   ·have hp:(mapsP k (az (Ea last (gZ q).1.name) (gZ q).2) (gZ q).1.name (acc'++[(gZ q).1])).2.bad=eJ:=nG _ _ _ _ (by simp[az,hc]);refine⟨λh=>(by rw[hp]at h;cases h),λ_=>.inr (NW (.inr (by rw[<-hlt];exact hc)))⟩
def bY.toR(h:bY):jR:=⟨T h.name,h.slots⟩
theorem Vj(s:tBA)(r:RS)(q:PR)(h:yR s r q):yR s (mX s (ow s r).2).2 (eV q).2/\((mX s (ow s r).2).2.bad=eE->(⟨(ow s r).1,(mX s (ow s r).2).1⟩:jR)=(eV q).1.toR):=by obtain⟨h1,e1⟩:=I6 s r q h;obtain⟨h2,e2⟩:=Zl s _ _ h1;refine⟨h2,λhb=>?_⟩;have hb1:=yS (λh=>vQ s _ h) hb;simp only[bY.toR,eV];rw[e1 hb1,e2 hb]
theorem Vk(q:PR)(h:q.bad=eJ):(eV q).2.bad=eJ:=Gx _ (I5 q h)
theorem kS:∀(k:Nat) (q:PR) (last:tLB) (all:Nat) (acc:List bY),q.bad=eJ->(headsP k q last all acc).2.2.bad=eJ
 |0,_,_,_,_,h=>h
 |k+1,q,_,_,_,h=>kS k _ _ _ _ (dh _ _ (Vk q h))
theorem zS(s:tBA)(k:Nat)(r:RS)(acc:List jR)(t:Nat)(h:r.bad=eJ):rdFns s k r acc t=(acc,t,r):=by
 cases k with
 |zero=>rfl
 |succ k=>rw[rdFns,iP9 h]
theorem ET(s:tBA):∀(k:Nat) (r:RS) (acc:List jR) (t:Nat),∃l,(rdFns s k r acc t).1=acc++l
 |0,_,acc,_=>⟨[],by simp[rdFns]⟩
 |k+1,r,acc,t=>by
  rw[rdFns];split
  ·exact⟨[],by simp⟩
  ·obtain⟨l,h⟩:=ET s k (mX s (ow s r).2).2 (acc++[⟨(ow s r).1,(mX s (ow s r).2).1⟩]) (t+(mX s (ow s r).2).1);exact⟨_,by rw[h,ao]⟩
def lastS:Option tBA->List tBA->Option tBA
 |p,[]=>p
 |_,m::l=>lastS (eC m) l
theorem CB:∀(l:List tBA) (p:Option tBA) (m:tBA),lastS p (l++[m])=eC m
 |[],_,_=>rfl
 |_::l,_,m=>CB l _ m
theorem xH:∀(l k:List tBA) (p:Option tBA),namesR p (l++k)=(namesR p l&&namesR (lastS p l) k)
 |[],k,p=>by simp[namesR,lastS]
 |m::l,k,p=>by simp only[ar,namesR,lastS,xH l k,ab]
theorem EU(s:tBA):∀(k:Nat) (r:RS) (q:PR) (last:tLB) (acc:List jR) (acc':List bY) (t:Nat),yR s r q->q.bad=eE->acc=acc'.map bY.toR->namesR ez (acc.map (·.name))=eJ -> ((lastS ez (acc.map (·.name))=ez/\last=[])\/lastS ez (acc.map (·.name))=eC (T last)) -> ((headsP k q last t acc').2.2.bad=eE->yR s (rdFns s k r acc t).2.2 (headsP k q last t acc').2.2/\(rdFns s k r acc t).1=(headsP k q last t acc').1.map bY.toR/\(rdFns s k r acc t).2.1=(headsP k q last t acc').2.1/\namesR ez ((rdFns s k r acc t).1.map (·.name))=eJ) /\ ((headsP k q last t acc').2.2.bad=eJ->(rdFns s k r acc t).2.2.bad=eJ\/namesR ez ((rdFns s k r acc t).1.map (·.name))=eE)
 |0,r,q,last,acc,acc',t,hS,hq,ha,hR,_=>⟨λ_=>⟨hS,ha,rfl,hR⟩,λh=>by rw[show(headsP 0 q last t acc').2.2=q from rfl,hq]at h;cases h⟩
 |k+1,r,q,last,acc,acc',t,hS,hq,ha,hR,hL=>by
  have hr:=hS.1.trans hq;obtain⟨h1,h2⟩:=Vj s r q hS;rw[rdFns,iN9 (by rw[hr];decide),headsP];have abu:(mX s (ow s r).2).2.bad=eE->(mX s (ow s r).2).1=(eV q).1.slots:=λhb=>congrArg jR.slots (h2 hb);generalize hm:(⟨(ow s r).1,(mX s (ow s r).2).1⟩:jR)=m at *;generalize(mX s (ow s r).2).1=t' at *;generalize(mX s (ow s r).2).2=r' at *;clear hm;have NW:behind (lastS ez (acc.map (·.name))) m.name=eE->∀t,namesR ez ((rdFns s k r' (acc++[m]) t).1.map (·.name))=eE:=λhd t=>by obtain⟨l,hl⟩:=ET s k r' (acc++[m]) t;rw[hl,ao,bt,xH,hR,Bool.true_and];simp only[ar,List.nil_append,List.map_cons,namesR,hd,Bool.false_and]
  rcases bK (eV q).2.bad with hb|hb
  ·have hp:(headsP k (az (Ea last (eV q).1.name) (eV q).2) (eV q).1.name (t+(eV q).1.slots) (acc'++[(eV q).1])).2.2.bad=eJ:=kS _ _ _ _ _ (dh _ _ hb);refine⟨λh=>(by rw[hp]at h;cases h),λ_=>.inl ?_⟩;rw[zS s k r' _ _ (h1.1.trans hb)];exact h1.1.trans hb
  ·have hr':=h1.1.trans hb;have hm:=h2 hr';have hne:(eV q).1.name≠[]:=I7 (zR (yS (λh=>Gx _ h) hb))
   have hlt:Ea last (eV q).1.name=behind (lastS ez (acc.map (·.name))) m.name:=by
    rw[hm]
    exact CA _ _ _ (by
     rcases hL with⟨h,h'⟩|h
     ·exact .inl ⟨h,h',hne⟩
     ·exact .inr h)
   rw[abu hr'];rcases bK (Ea last (eV q).1.name)with hc|hc
   ·refine EU s k r' _ _ (acc++[m]) (acc'++[(eV q).1]) _ (h1.want hc) (by simp[az,hb,hc]) (by rw[ha,hm];simp) ?_ ?_
    ·rw[bt,xH,hR];simp[namesR,<-hlt,hc]
    ·right;rw[bt,List.map_cons,List.map_nil,CB,hm];rfl
   ·have hp:(headsP k (az (Ea last (eV q).1.name) (eV q).2) (eV q).1.name (t+(eV q).1.slots) (acc'++[(eV q).1])).2.2.bad=eJ:=kS _ _ _ _ _ (by simp[az,hc]);exact⟨λh=>(by rw[hp]at h;cases h),λ_=>.inr (NW (by rw[<-hlt];exact hc) _)⟩
theorem vR(l:tLB)(a b:Nat):at' (l.drop a) b=at' l (a+b):=by simp[at',List.getElem?_drop]
theorem mF(l:tLB)(m b:Nat)(h:b<m):at' (l.take m) b=at' l b:=by simp[at',h]
theorem jo(l:tLB)(b:Nat):at' l b<256:=by unfold at';exact UInt8.toNat_lt _
theorem NX(s:tBA)(p:Nat)(h:p<s.size):rb s ⟨p,eE⟩=(at' (BL s) p,⟨p+1,eE⟩):=by
 have e:(BL s)[p]?=eC s[p]:=by rw[List.getElem?_eq_getElem (by rw[dO];exact h),Lv s p h]
 simp[rb,h,at',e]
theorem Lw(s:tBA)(p:Nat)(h:p+1<s.size):mX s ⟨p,eE⟩=(at' (BL s) p+256*at' (BL s) (p+1),⟨p+2,eE⟩):=by simp only[mX,NX s p (by omega),NX s (p+1) h]
theorem abv(s:tBA)(p:Nat)(h:p+3<s.size):KV s ⟨p,eE⟩=(at' (BL s) p+256*at' (BL s) (p+1)+65536*(at' (BL s) (p+2)+256*at' (BL s) (p+3)),⟨p+4,eE⟩):=by simp only[KV,Lw s p (by omega),Lw s (p+2) (by omega)]
def dW(l:tLB):fF:=⟨at' l 0,at' l 1%16,at' l 1/16,tY (at' l 2+256*at' l 3),yG (at' l 4+256*at' l 5+65536*(at' l 6+256*at' l 7))⟩
theorem Lx(s:tBA)(p:Nat)(h:p+8<=s.size):aI s ⟨p,eE⟩=(dW ((BL s).drop p),⟨p+8,eE⟩):=by simp only[aI,NX s p (by omega),NX s (p+1) (by omega),Lw s (p+2) (by omega),abv s (p+4) (by omega),dW,vR,Nat.add_zero]
theorem Gy(s:tBA)(r:RS)(h:r.bad=eJ):(KV s r).2.bad=eJ:=vQ s _ (vQ s r h)
theorem BG(s:tBA)(r:RS):(rb s r).2.bad=eJ\/((rb s r).2.pos=r.pos+1/\r.pos<s.size):=by
 by_cases h:r.bad=eE/\r.pos<s.size
 ·right;simp[rb,h]
 ·left;simp[rb,h]
theorem CD(s:tBA)(r:RS):(mX s r).2.bad=eJ\/((mX s r).2.pos=r.pos+2/\r.pos+1<s.size):=by
 rcases BG s r with h |⟨h,_⟩
 ·exact .inl (rD s _ h)
 ·rcases BG s (rb s r).2 with h' |⟨h',h2⟩
  ·exact .inl h'
  ·exact .inr ⟨by rw[<-Nat.add_assoc r.pos 1 1,<-h,<-h'];rfl,by omega⟩
theorem Vl(s:tBA)(r:RS):(KV s r).2.bad=eJ\/((KV s r).2.pos=r.pos+4/\r.pos+3<s.size):=by
 rcases CD s r with h |⟨h,_⟩
 ·exact .inl (vQ s _ h)
 ·rcases CD s (mX s r).2 with h' |⟨h',h2⟩
  ·exact .inl h'
  ·exact .inr ⟨by rw[<-Nat.add_assoc r.pos 2 2,<-h,<-h'];rfl,by omega⟩
theorem Gz(s:tBA)(p:Nat)(h:s.size<p+8):(aI s ⟨p,eE⟩).2.bad=eJ:=by
 show(KV s (mX s (rb s (rb s ⟨p,eE⟩).2).2).2).2.bad=eJ
 rcases BG s ⟨p,eE⟩with h1 |⟨h1,_⟩
 ·exact Gy s _ (vQ s _ (rD s _ h1))
 ·rcases BG s (rb s ⟨p,eE⟩).2 with h2 |⟨h2,_⟩
  ·exact Gy s _ (vQ s _ h2)
  ·rcases CD s (rb s (rb s ⟨p,eE⟩).2).2 with h3 |⟨h3,_⟩
   ·exact Gy s _ h3
   ·rcases Vl s (mX s (rb s (rb s ⟨p,eE⟩).2).2).2 with h4 |⟨_,h4⟩
    ·exact h4
    ·have:(⟨p,eE⟩:RS).pos=p:=rfl;omega
theorem Vm(n:Nat):eP n=tY n:=by
 unfold eP tY;by_cases h:n<32768
 ·rw[iP9 h,iN9 (by omega)]
 ·rw[iN9 h,iP9 (by omega)]
def u64(n:Int):Int:=n%18446744073709551616
theorem Vn(n:Nat)(h:n<4294967296):u64 (yQ n)=yG n:=by
 unfold yQ yG u64;by_cases h:n<2147483648
 ·rw[iP9 h,iN9 (by omega)];omega
 ·rw[iN9 h,iP9 (by omega)];omega
theorem Vo(n:Nat)(h:n<4294967296):-2147483648<=yQ n/\yQ n<=2147483647:=by unfold yQ;split<;>omega
theorem CE(n:Nat)(h:n<65536):-32768<=eP n/\eP n<=32767:=by unfold eP;split<;>omega
theorem I9(n:Int)(h:-2147483648<=n/\n<=2147483647):u64 n=0↔n=0:=by unfold u64;omega
theorem qg(l:tLB):-2147483648<=bI l/\bI l<=2147483647:=by have h0:=jo l 0;have h1:=jo l 1;have h2:=jo l 2;have h3:=jo l 3;exact Vo _ (by omega)
def ac0(k:Nat):Bool :=
 let o:=ax[k]?.getD kg
 let v:=aB o.code
 let i:=v.1
 v.2&&eS (i.d=0/\i.jump=0/\i.n=0/\i.label=E0/\i.name=E0)&&eS (gU o.code=eC k)&&eS (o.slots=dH i.word)&&eS (o.jumps=eS (aF i.word=106))&&eS (o.ends=ny i.word)&&eS (o.call=eS (aF i.word=99)) &&
 eS (o.aJ=if aF i.word=119 then 2 else if aF i.word=99 then 1 else 0) &&
 (if aF i.word=114 then
  (eS (o.word=sI i)&&(if i.word=NEG then eS (o.parts=[.result]/\i.s=0)else eS ((o.parts=lW/\i.s=0)\/(o.parts=mZ/\i.s=-1))))
 else if aF i.word=106 then
  (eS (o.word=sI i)&&(if i.word=JA then eS (o.parts=[.label]/\i.s=0/\sI i=[106,97])else eS (((o.parts=ni/\i.s=0)\/(o.parts=oz/\i.s=-1))/\sI i≠[106,97])))
 else if aF i.word=108 then eS (o.word=sI i/\o.parts=kN/\i.s=0)
 else if aF i.word=115 then eS (o.word=sI i/\((o.parts=jI/\i.s=0)\/(o.parts=iW/\i.s=-1)))
 else if aF i.word=119 then eS (o.word=[119,105,100,101]/\o.parts=[.result,.comma,.wide]/\i.s=0/\i.word=WIDE)
 else if aF i.word=99 then eS (i.s=0/\i.word=CALL)
 else eS (aF i.word=101/\o.word=[101,120,105,116]/\o.parts=[]/\i.s=0/\i.word=YD))
theorem Zo:(List.range 88).all ac0=eJ:=by decide +kernel
theorem Vp:(List.range 256).all (λc=>(gU c).isSome||!(aB c).2)=eJ:=by decide +kernel
theorem Vq:(List.range 256).all (λc=>match gU c with|none=>eJ|some k=>eS (k<88)&&eS ((ax[k]?.getD kg).code=c))=eJ:=by decide +kernel
section
variable (o : dX) (x : dQ)
theorem LA(hc:o.call=eE)(hp:o.parts=lW):o.needs x=(eS (x.d<10)&&eS (x.s<=10)&&eS (x.jump=0)&&eS (x.num=0)):=by
 have hf:dM lW=3:=by decide
 unfold dX.needs;rw[hc,hp,hf];simp[lW,PK.right,cK,ab]
theorem LB(hc:o.call=eE)(hp:o.parts=mZ):o.needs x=(eS (x.d<10)&&eS (x.s=0)&&eS (x.jump=0)):=by
 have hf:dM mZ=9:=by decide
 unfold dX.needs;rw[hc,hp,hf];simp[mZ,PK.right,cK,ab]
theorem Vr(hc:o.call=eE)(hp:o.parts=[.result]):o.needs x=(eS (x.d<10)&&eS (x.s=0)&&eS (x.jump=0)&&eS (x.num=0)):=by
 have hf:dM [.result]=1:=by decide
 simp only[dX.needs,hc,hp,hf,an,if_false,b9,PK.right,cK];simp[ab]
theorem Zp(hc:o.call=eE)(hp:o.parts=[.label]):o.needs x=(eS (x.d=0)&&eS (x.s=0)&&eS (x.num=0)):=by
 have hf:dM [.label]=4:=by decide
 simp only[dX.needs,hc,hp,hf,an,if_false,b9,PK.right,cK];simp[ab]
theorem LC(hc:o.call=eE)(hp:o.parts=ni):o.needs x=(eS (x.d<=10)&&eS (x.s<=10)&&eS (x.num=0)):=by
 have hf:dM ni=7:=by decide
 unfold dX.needs;rw[hc,hp,hf];simp[ni,PK.right,cK,ab]
theorem LD(hc:o.call=eE)(hp:o.parts=oz):o.needs x=(eS (x.d<=10)&&eS (x.s=0)):=by
 have hf:dM oz=13:=by decide
 unfold dX.needs;rw[hc,hp,hf];simp[oz,PK.right,cK]
theorem LF(hc:o.call=eE)(hp:o.parts=kN):o.needs x=(eS (x.d<10)&&eS (x.s<=10)&&eS (x.num=0)):=by
 have hf:dM kN=7:=by decide
 unfold dX.needs;rw[hc,hp,hf];simp[kN,PK.right,cK,ab]
theorem Ja(hc:o.call=eE)(hp:o.parts=jI):o.needs x=(eS (x.d<=10)&&eS (x.s<=10)&&eS (x.num=0)):=by
 have hf:dM jI=7:=by decide
 unfold dX.needs;rw[hc,hp,hf];simp[jI,PK.right,cK,ab]
theorem GA(hc:o.call=eE)(hp:o.parts=iW):o.needs x=(eS (x.d<=10)&&eS (x.s=0)):=by
 have hf:dM iW=13:=by decide
 unfold dX.needs;rw[hc,hp,hf];simp[iW,PK.right,cK]
theorem QP(hc:o.call=eE)(hp:o.parts=[.result,.comma,.wide]):o.needs x=(eS (x.d<10)&&(eS (x.s=0)||(eS (x.s=1)&&eS (x.high=0)))&&eS (x.jump=0)):=by
 have hf:dM [.result,.comma,.wide]=11:=by decide
 simp only[dX.needs,hc,hp,hf,an,if_false,b9,PK.right,cK];simp[ab]
theorem QT(hc:o.call=eE)(hp:o.parts=[]):o.needs x=(eS (x.d=0)&&eS (x.s=0)&&eS (x.jump=0)&&eS (x.num=0)):=by
 have hf:dM []=0:=by decide
 simp only[dX.needs,hc,hp,hf,an,if_false,b9,cK];simp[ab]
end
theorem zT(o:dX)(x:dQ)(hc:o.call=eJ):o.needs x=(eS (x.d=0)&&eS (x.jump=0)&&(eS (x.s=1)||(eS (x.s=0)&&eS (1<=x.num)&&eS (x.num<5)))):=by simp only[dX.needs,hc,if_true,cK];simp[ab]
structure QU(o:dX)(v:aK×Bool):Prop where
 ok:v.2=eJ
 z:v.1.d=0/\v.1.jump=0/\v.1.n=0/\v.1.label=E0/\v.1.name=E0
 slots:o.slots=dH v.1.word
 jumps:o.jumps=eS (aF v.1.word=106)
 ends:o.ends=ny v.1.word
 call:o.call=eS (aF v.1.word=99)
 aJ:o.aJ=if aF v.1.word=119 then 2 else if aF v.1.word=99 then 1 else 0
 kind:(aF v.1.word=114/\o.word=sI v.1/\((v.1.word=NEG/\o.parts=[.result]/\v.1.s=0)\/(v.1.word≠NEG/\((o.parts=lW/\v.1.s=0)\/(o.parts=mZ/\v.1.s=-1))))) \/
  (aF v.1.word=106/\o.word=sI v.1/\((v.1.word=JA/\o.parts=[.label]/\v.1.s=0/\sI v.1=[106,97])\/(v.1.word≠JA/\((o.parts=ni/\v.1.s=0)\/(o.parts=oz/\v.1.s=-1))/\sI v.1≠[106,97]))) \/
  (aF v.1.word=108/\o.word=sI v.1/\o.parts=kN/\v.1.s=0) \/
  (aF v.1.word=115/\o.word=sI v.1/\((o.parts=jI/\v.1.s=0)\/(o.parts=iW/\v.1.s=-1))) \/
  (aF v.1.word=119/\o.word=[119,105,100,101]/\o.parts=[.result,.comma,.wide]/\v.1.s=0/\v.1.word=WIDE) \/
  (aF v.1.word=99/\v.1.s=0/\v.1.word=CALL) \/
  (aF v.1.word=101/\o.word=[101,120,105,116]/\o.parts=[]/\v.1.s=0/\v.1.word=YD)
theorem EV(k:Nat)(hk:k<88):QU (ax[k]?.getD kg) (aB (ax[k]?.getD kg).code)/\gU (ax[k]?.getD kg).code=eC k:=by
 have h:=List.all_eq_true.1 Zo k (List.mem_range.2 hk);unfold ac0 at h;dsimp only at h;generalize ax[k]?.getD kg=o at *;generalize aB o.code=v at *;simp only[bh,decide_eq_true_eq]at h;obtain⟨⟨⟨⟨⟨⟨⟨⟨h1,h2⟩,h3⟩,h4⟩,h5⟩,h6⟩,h7⟩,h8⟩,h9⟩:=h;refine⟨⟨h1,h2,h4,h5,h6,h7,h8,?_⟩,h3⟩;by_cases k1:aF v.1.word=114
 ·rw[iP9 k1]at h9;left;simp only[bh,decide_eq_true_eq]at h9;refine⟨k1,h9.1,?_⟩;by_cases kn:v.1.word=NEG
  ·have:=h9.2;rw[iP9 kn]at this;exact .inl ⟨kn,by simpa using this⟩
  ·have:=h9.2;rw[iN9 kn]at this;exact .inr ⟨kn,by simpa using this⟩
 rw[iN9 k1]at h9;right;by_cases k2:aF v.1.word=106
 ·rw[iP9 k2]at h9;left;simp only[bh,decide_eq_true_eq]at h9;refine⟨k2,h9.1,?_⟩;by_cases kn:v.1.word=JA
  ·have:=h9.2;rw[iP9 kn]at this;exact .inl ⟨kn,by simpa using this⟩
  ·have:=h9.2;rw[iN9 kn]at this;exact .inr ⟨kn,by simpa using this⟩
 rw[iN9 k2]at h9;right;by_cases k3:aF v.1.word=108
 ·rw[iP9 k3]at h9;exact .inl ⟨k3,by simpa using h9⟩
 rw[iN9 k3]at h9;right;by_cases k4:aF v.1.word=115
 ·rw[iP9 k4]at h9;exact .inl ⟨k4,by simpa using h9⟩
 rw[iN9 k4]at h9;right;by_cases k5:aF v.1.word=119
 ·rw[iP9 k5]at h9;exact .inl ⟨k5,by simpa using h9⟩
 rw[iN9 k5]at h9;right;by_cases k6:aF v.1.word=99
 ·rw[iP9 k6]at h9;exact .inl ⟨k6,by simpa using h9⟩
 rw[iN9 k6]at h9;right
 simpa using h9
def xI(i:aK)(nm:tBA)(x:PI):aK :=
 let j:aK:={i with d:=x.d,s:=if i.s<0 then i.s else x.s,n:=u64 x.num}
 if aF i.word=119 then(if x.s=1 then{j with n:=0,s:=0,name:=nm}else{j with n:=(x.ins []).wide})
 else if aF i.word=99 then(if x.s=1 then{j with n:=0,s:=0,name:=nm}else{j with n:=0,word:=T [104,101,108,112],label:=lF[(u64 x.num).toNat-1]?.getD E0})
 else if aF i.word=108\/aF i.word=115 then{j with jump:=x.jump}
 else j
def zU(i:aK)(x:PI):Int:=if aF i.word=106 then x.jump else if(aF i.word=119\/aF i.word=99)/\x.s=1 then 1 else 0
def PI.view(x:PI):aK:=(aB x.o.code).1
def PI.GD(nm:tBA)(x:PI):aK:=xI x.view nm x
def PI.jmp(x:PI):Int:=zU x.view x
def fK(i:aK)(x y:fF)(QV:Bool)(r1 r2:RS):ep :=
  let k:=aF i.word
  let b:=eS (i.s<0)
  let j:=aM i x
  if k=114 then⟨j,0,0,!(((x.d:Int)==10)||(x.jump != 0)||(!b&&x.n != 0)||((b||decide (i.word=NEG))&&(x.s:Int) != 0)),r1⟩
  else if k=106 then⟨j,x.jump,0,!((!b&&x.n != 0)||((b||decide (i.word=JA))&&(x.s:Int) != 0)||(eS (i.word=JA)&&(x.d:Int) != 0)),r1⟩
  else if k=108\/k=115 then⟨{j with jump:=x.jump},0,0,!((k==108&&(x.d:Int)==10)||(!b&&x.n != 0)||(b&&(x.s:Int) != 0)),r1⟩
  else if k=119 then
   let low:=x.n%4294967296
   let n:=IntKind.u64.wrap (low+IntKind.u64.wrap (y.n*4294967296))
   let bad:=QV||((x.d:Int)==10)||decide (1<(x.s:Int))||(x.jump != 0)||((y.op:Int) != 0)||((y.d:Int) != 0)||((y.s:Int) != 0)||(y.jump != 0)||((x.s:Int)==1&&y.n != 0)
   if x.s=1 then⟨{j with n:=0},1,low,!bad,r2⟩else⟨{j with n:=n},0,0,!bad,r2⟩
  else if k=99 then
   if x.s=0/\1<=x.n/\x.n<=4/\x.d=0/\x.jump=0 then⟨{j with n:=0,word:=T [104,101,108,112],label:=lF[x.n.toNat-1]?.getD E0},0,0,eJ,r1⟩
   else⟨{j with n:=0},1,x.n,((x.s:Int)==1)&&((x.d:Int)==0)&&(x.jump==0),r1⟩
  else⟨j,0,0,((x.d:Int)==0)&&((x.s:Int)==0)&&(x.jump==0)&&(x.n==0),r1⟩
theorem NY(s:tBA)(p:Nat)(h8:p+8<=s.size):bu s ⟨p,eE⟩=if(aB (dW ((BL s).drop p)).op).2=eE\/10<(dW ((BL s).drop p)).d\/10<(dW ((BL s).drop p)).s then⟨(aB (dW ((BL s).drop p)).op).1,0,0,eE,⟨p+8,eE⟩⟩ else fK (aB (dW ((BL s).drop p)).op).1 (dW ((BL s).drop p)) (aI s ⟨p+8,eE⟩).1 (aI s ⟨p+8,eE⟩).2.bad ⟨p+8,eE⟩ (aI s ⟨p+8,eE⟩).2:=by unfold bu;rw[Lx s p h8];simp only[an,false_or];rfl
theorem vT:aF WIDE=119:=by decide +kernel
theorem zV:aF CALL=99:=by decide +kernel
theorem QW:aF (T [104,101,108,112])=104:=by decide +kernel
theorem Zq:T [104,101,108,112]≠WIDE/\T [104,101,108,112]≠CALL:=by decide +kernel
theorem LG{w:tBA}(h1:aF w≠119)(h2:aF w≠99):w≠WIDE/\w≠CALL :=
 ⟨λh=>h1 (by rw[h];exact vT),λh=>h2 (by rw[h];exact zV)⟩
theorem Zr(a b:Int)(ha:-2147483648<=a/\a<=2147483647)(hb:-2147483648<=b/\b<=2147483647):IntKind.u64.wrap (u64 a%4294967296+IntKind.u64.wrap (u64 b*4294967296))=(((b%4294967296).toNat*4294967296+(a%4294967296).toNat:Nat):Int):=by rw[IntKind.wrap_u64,IntKind.wrap_u64];unfold u64;omega
theorem mH(l:tLB)(a m b:Nat)(h:a+b<m):at' ((l.take m).drop a) b=at' l (a+b):=by rw[vR,mF l m _ h]
theorem CF(l:tLB)(a m:Nat)(h:a+3<m):bI ((l.take m).drop a)=bI (l.drop a):=by unfold bI;rw[mH l a m 0 (by omega),mH l a m 1 (by omega),mH l a m 2 (by omega),mH l a m 3 (by omega)];simp only[vR]
theorem NZ(l:tLB)(a:Nat):u64 (bI (l.drop a))=yG (at' l a+256*at' l (a+1)+65536*(at' l (a+2)+256*at' l (a+3))):=by have h0:=jo l a;have h1:=jo l (a+1);have h2:=jo l (a+2);have h3:=jo l (a+3);unfold bI;simp only[vR,Nat.add_zero];rw[Vn _ (by omega)];congr 1;omega
theorem abw(l:tLB)(h:16<=ee l):((l.drop 8).take 4=[0,0,0,0])↔(at' l 8=0/\at' l 9=0/\at' l 10=0/\at' l 11=0):=by
 have e:(l.drop 8).take 4=[l[8]'(by omega),l[9]'(by omega),l[10]'(by omega),l[11]'(by omega)]:=by
  apply List.ext_getElem
  ·simp;omega
  ·intro i h1 h2;have:i<4:=by simpa using h2
   have hi:i=0\/i=1\/i=2\/i=3:=by omega
   rcases hi with rfl|rfl|rfl|rfl<;>simp
 rw[e];have g:∀i (hi:i<ee l),at' l i=l[i].toNat:=λi hi=>by simp[at',hi]
 rw[g 8 (by omega),g 9 (by omega),g 10 (by omega),g 11 (by omega)];simp only[List.cons.injEq,and_true];have z:∀c:UInt8,c=0↔c.toNat=0:=λc=>⟨λh=>by rw[h];rfl,λh=>UInt8.toNat_inj.1 (by rw[h];rfl)⟩
 rw[z,z,z,z]
theorem QX(l:tLB):((dW l).op=0/\(dW l).d=0/\(dW l).s=0/\(dW l).jump=0)↔(at' l 0=0/\at' l 1=0/\at' l 2=0/\at' l 3=0):=by have h0:=jo l 0;have h1:=jo l 1;have h2:=jo l 2;have h3:=jo l 3;simp only[dW,tY];split<;>omega
theorem Jb(o:dX)(v:aK×Bool)(h:QU o v):o.slots=1\/(o.slots=2/\aF v.1.word=119/\v.1.word=WIDE):=by
 rw[h.slots];unfold dH;by_cases e:v.1.word=WIDE
 ·rw[iP9 e,e];exact .inr ⟨rfl,vT,rfl⟩
 ·rw[iN9 e];exact .inl rfl
