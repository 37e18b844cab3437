import Derived.Test.YtoknbkfclhmapaaGreatDoorC04
import Derived.Test.YtoknbkfclhmapaaGreatDoorC03
import Derived.Test.YtoknbkfclhmapaaGreatDoorC18
import Derived.Test.YtoknbkfclhmapaaGreatDoorC23
namespace Go.Proofs.YtoknbkfclhmapaaGreatDoor
open Go.RowKit
structure PR where
 rest:List UInt8
 bad:Bool
def takeP (n:Nat) (r:PR):List UInt8 × PR:=if r.rest.length<n then (r.rest,⟨[],true⟩) else (r.rest.take n,⟨r.rest.drop n,r.bad⟩)
def oneP (r:PR):Nat × PR:=match r.rest with
 | []=>(0,⟨[],true⟩)
 | b::l=>(b.toNat,⟨l,r.bad⟩)
def wantP (c:Bool) (r:PR):PR:=⟨r.rest,r.bad||!c⟩
def twoP (r:PR):Nat × PR:=((oneP r).1+256*(oneP (oneP r).2).1,(oneP (oneP r).2).2)
def nameP (r:PR):List UInt8 × PR:=((takeP (oneP r).1 (oneP r).2).1,wantP (nameB (takeP (oneP r).1 (oneP r).2).1) (takeP (oneP r).1 (oneP r).2).2)
def sizeP (most:Nat) (r:PR):Nat × PR:=((oneP r).1,wantP (decide (1<=(oneP r).1)&&decide ((oneP r).1<=most)) (oneP r).2)
structure PMap where
 name:List UInt8
 key:Nat
 value:Nat
 entries:Nat
def PMap.cells (m:PMap):List Value:=[.string (T m.name),.int .u8 m.key,.int .u8 m.value,.int .u8 m.entries]
def ltL (a b:List UInt8):Bool:=ltB (T a) (T b)
def mapP (r:PR):PMap × PR :=
 let n:=nameP r;let k:=sizeP 8 n.2;let v:=sizeP 16 k.2;let e:=sizeP 8 v.2
 (⟨n.1,k.1,v.1,e.1⟩,e.2)
def mapsP:Nat->PR->List UInt8->List PMap->List PMap × PR
 | 0,r,_,acc=>(acc,r)
 | k+1,r,last,acc=>mapsP k (wantP (ltL last (mapP r).1.name) (mapP r).2) (mapP r).1.name (acc++[(mapP r).1])
structure PHead where
 name:List UInt8
 slots:Nat
def headP (r:PR):PHead × PR:=(⟨(nameP r).1,(twoP (nameP r).2).1⟩,(twoP (nameP r).2).2)
def headsP:Nat->PR->List UInt8->Nat->List PHead->List PHead × Nat × PR
 | 0,r,_,all,acc=>(acc,all,r)
 | k+1,r,last,all,acc=>headsP k (wantP (ltL last (headP r).1.name) (headP r).2) (headP r).1.name (all+(headP r).1.slots) (acc++[(headP r).1])
structure PI where
 k:Nat
 d:Nat
 s:Nat
 jump:Int
 num:Int
 high:Int
 name:List UInt8
def noOp:OpS:=⟨0,[],[],0,false,false,0,false⟩
def PI.o (x:PI):OpS:=tableS[x.k]?.getD noOp
def PI.ins (bs:List Nat) (x:PI):PIns:=⟨.pointer (some ⟨bs[x.k]?.getD 0,0,none⟩),x.d,x.s,x.jump,x.num,x.high,ByteArray.empty,T x.name⟩
def PI.refers (x:PI):Nat:=if x.s=1 then x.o.refers else 0
def PI.target (x:PI) (slot:Nat):Int:=(slot:Int)+x.o.slots+x.jump
def sgn16 (n:Nat):Int:=if n<32768 then n else (n:Int) - 65536
def sgn32 (n:Nat):Int:=if n<2147483648 then n else (n:Int) - 4294967296
def at' (l:List UInt8) (k:Nat):Nat:=(l[k]?.getD 0).toNat
def num32 (l:List UInt8):Int:=sgn32 (at' l 0+256*at' l 1+65536*at' l 2+16777216*at' l 3)
def byCodeM (c:Nat):Option Nat:=tableS.findIdx? (fun o=>o.code==c)
def fromP (l:List UInt8):Option PI :=
 if l.length<8 then none else
 match byCodeM (at' l 0) with
 | none=>none
 | some k =>
  let o:=tableS[k]?.getD noOp
  if l.length<o.slots*8 then none
  else
   let x:PI:=⟨k,at' l 1 % 16,at' l 1 / 16,sgn16 (at' l 2+256*at' l 3),num32 (l.drop 4),if 1<o.slots then num32 (l.drop 12) else 0,[]⟩
   if 1<o.slots/\(l.drop 8).take 4≠[0,0,0,0] then none
   else if o.needs (x.ins []) then some x else none
def codeL (sl:List UInt8) (n:Nat):Nat->Nat->List PI->List Bool->Option (List PI × List Bool)
 | 0,_,_,_=>none
 | f+1,at_,acc,st=>if at_<n then
   (match fromP (sl.drop (at_*8)) with
   | none=>none
   | some x=>codeL sl n f (at_+x.o.slots) (acc++[x]) (st.set at_ true))
  else some (acc,st)
def leadP (st:List Bool):Nat->List PI->Bool
 | _,[]=>true
 | slot,x::l=>(if x.o.jumps then decide (0<=x.target slot)&&(st[(x.target slot).toNat]?.getD false) else true)&&leadP st (slot+x.o.slots) l
def lastP (l:List PI):Bool:=match l.getLast? with
 | none=>false
 | some x=>x.o.ends
def codeP (sl:List UInt8) (r:PR):List PI × PR :=
 match codeL sl (sl.length / 8) (sl.length / 8+1) 0 [] (List.replicate (sl.length / 8) false) with
 | none=>([],⟨r.rest,true⟩)
 | some (l,st)=>(l,wantP (leadP st 0 l) (wantP (lastP l) r))
structure PFn where
 name:List UInt8
 code:List PI
def codesP:List PHead->PR->List PFn->List PFn × PR
 | [],r,acc=>(acc,r)
 | h::l,r,acc=>codesP l (codeP (takeP (h.slots*8) r).1 (takeP (h.slots*8) r).2).2 (acc++[⟨h.name,(codeP (takeP (h.slots*8) r).1 (takeP (h.slots*8) r).2).1⟩])
def funcsP (r:PR):List PFn × PR :=
 let c:=oneP r
 let h:=headsP c.1 (wantP (decide (c.1<=16)) c.2) [] 0 []
 let q:=wantP (decide (h.2.1<=200)) h.2.2
 if q.bad then ([],q) else codesP h.1 q []
def hasMapP (ms:List PMap) (nm:List UInt8):Bool:=ms.any (fun m=>m.name==nm)
def refP (n slot:Nat) (r:PR):List UInt8 × PR :=
 let a:=oneP r;let q:=wantP (decide (a.1=n)) a.2;let b:=twoP q;nameP (wantP (decide (b.1=slot)) b.2)
def refsI (ms:List PMap) (n:Nat):Nat->List PI->Int->PR->List PI->List PI × Int × PR
 | _,[],left,r,acc=>(acc,left,r)
 | slot,x::l,left,r,acc =>
  if x.refers≠0 then
   refsI ms n (slot+x.o.slots) l (left - 1) (wantP (decide (x.refers≠2)||hasMapP ms (refP n slot r).1) (wantP (decide (x.num=0)) (refP n slot r).2)) (acc++[{ x with name:=(refP n slot r).1 }])
  else refsI ms n (slot+x.o.slots) l left r (acc++[x])
def refsF (ms:List PMap):List PFn->List PFn->Int->PR->List PFn × Int × PR
 | done,[],left,r=>(done,left,r)
 | done,f::l,left,r=>refsF ms (done++[⟨f.name,(refsI ms done.length 0 f.code left r []).1⟩]) l (refsI ms done.length 0 f.code left r []).2.1 (refsI ms done.length 0 f.code left r []).2.2
def refsP (ms:List PMap) (fs:List PFn) (r:PR):List PFn × PR :=
 let h:=refsF ms [] fs ((twoP r).1:Int) (twoP r).2
 (h.1,wantP (decide (h.2.1=0)) h.2.2)
def decodeP (s:List UInt8):List PMap × List PFn × PR :=
 let a:=takeP 4 ⟨s,false⟩
 let r1:=wantP (a.1==[83,80,79,76]) a.2
 let b:=oneP r1
 let r2:=wantP (decide (b.1=1)) b.2
 let c:=oneP r2
 let m:=mapsP c.1 (wantP (decide (c.1<=8)) c.2) [] []
 let f:=funcsP m.2
 let g:=refsP m.1 f.1 f.2
 (m.1,g.1,wantP (g.2.rest==[]) g.2)
def slotsP (l:List PI):Nat:=(l.map (·.o.slots)).sum
def Sim (s:ByteArray) (r:RS) (q:PR):Prop:=r.bad=q.bad/\(r.bad=false->q.rest=(BL s).drop r.pos/\r.pos<=s.size)
theorem BL_size (s:ByteArray):(BL s).length=s.size:=rfl
theorem BL_get (s:ByteArray) (i:Nat) (h:i<s.size):(BL s)[i]'(by rw [BL_size];exact h)=s[i]:=rfl
theorem sim_one (s:ByteArray) (r:RS) (q:PR) (h:Sim s r q):Sim s (rb s r).2 (oneP q).2/\((rb s r).2.bad=false->(rb s r).1=(oneP q).1):=by
 obtain ⟨p,b⟩:=r;obtain ⟨l,c⟩:=q;obtain ⟨h1,h2⟩:=h
 simp only at h1 h2
 subst h1
 cases b with
 | true =>
  have e:rb s ⟨p,true⟩=(0,⟨p,true⟩):=by simp [rb]
  rw [e]
  cases l<;>simp [oneP,Sim]
 | false =>
  obtain ⟨h3,h4⟩:=h2 rfl
  by_cases hp:p<s.size
  ·have e:rb s ⟨p,false⟩=(s[p].toNat,⟨p+1,false⟩):=by simp [rb,hp]
   rw [e]
   rw [List.drop_eq_getElem_cons (by rw [BL_size];exact hp)] at h3
   subst h3
   refine ⟨⟨rfl,fun _=>⟨rfl,by simp only;omega⟩⟩,fun _=>?_⟩
   simp [oneP,BL_get s p hp]
  ·have e:rb s ⟨p,false⟩=(0,⟨p,true⟩):=by simp [rb,hp]
   rw [e]
   rw [List.drop_eq_nil_of_le (by rw [BL_size];omega)] at h3
   subst h3
   simp [oneP,Sim]
theorem rb_bad (s:ByteArray) (r:RS) (h:r.bad=true):(rb s r).2.bad=true:=by simp [rb,h]
theorem one_bad (q:PR) (h:q.bad=true):(oneP q).2.bad=true:=by
 unfold oneP;split
 ·rfl
 ·exact h
theorem take_bad (n:Nat) (q:PR) (h:q.bad=true):(takeP n q).2.bad=true:=by
 unfold takeP;split
 ·rfl
 ·exact h
theorem want_bad (c:Bool) (q:PR) (h:q.bad=true):(wantP c q).bad=true:=by simp [wantP,h]
theorem two_bad (q:PR) (h:q.bad=true):(twoP q).2.bad=true:=one_bad _ (one_bad q h)
theorem name_bad (q:PR) (h:q.bad=true):(nameP q).2.bad=true:=want_bad _ _ (take_bad _ _ (one_bad q h))
theorem size_bad (m:Nat) (q:PR) (h:q.bad=true):(sizeP m q).2.bad=true:=want_bad _ _ (one_bad q h)
theorem sim_two (s:ByteArray) (r:RS) (q:PR) (h:Sim s r q):Sim s (rw2 s r).2 (twoP q).2/\((rw2 s r).2.bad=false->(rw2 s r).1=(twoP q).1):=by
 obtain ⟨h1,e1⟩:=sim_one s r q h;obtain ⟨h2,e2⟩:=sim_one s _ _ h1
 refine ⟨h2,fun hb=>?_⟩
 have hb':(rb s (rb s r).2).2.bad=false:=hb
 have hb1:(rb s r).2.bad=false:=by
  cases hc:(rb s r).2.bad with
  | false=>rfl
  | true=>rw [rb_bad s _ hc] at hb';cases hb'
 simp only [rw2,twoP,e1 hb1,e2 hb']
theorem sim_name (s:ByteArray) (r:RS) (q:PR) (h:Sim s r q):Sim s (rnm s r).2 (nameP q).2/\((rnm s r).2.bad=false->(rnm s r).1=T (nameP q).1):=by
 obtain ⟨h1,e1⟩:=sim_one s r q h;unfold rnm nameP;generalize rb s r=a at *;generalize oneP q=c at *
 obtain ⟨n,⟨p,b⟩⟩:=a
 obtain ⟨n',⟨l,b'⟩⟩:=c
 obtain ⟨h1,h2⟩:=h1
 simp only at h1 h2 e1
 subst h1
 cases b with
 | true =>
  simp only [Bool.true_or,if_true]
  refine ⟨⟨?_,fun h=>by cases h⟩,fun h=>by cases h⟩
  simp only [wantP,take_bad n' ⟨l,true⟩ rfl,Bool.true_or]
 | false =>
  obtain ⟨h3,h4⟩:=h2 rfl
  have e1:=e1 rfl
  subst e1
  have hlen:l.length=s.size - p:=by rw [h3,List.length_drop,BL_size]
  by_cases hn:s.size<p+n
  ·have hl:l.length<n:=by omega
   simp only [hn,decide_true,Bool.or_true,if_true,takeP,hl,wantP,Bool.true_or]
   exact ⟨⟨rfl,fun h=>by cases h⟩,fun h=>by cases h⟩
  ·have hl:¬ l.length<n:=by omega
   have ex:(s.extract p (p+n)).data.toList=l.take n:=by
    rw [h3]
    show (s.extract p (p+n)).data.toList=(s.data.toList.drop p).take n
    rw [ByteArray.data_extract,Array.toList_extract,List.extract_eq_take_drop]
    simp
   simp only [hn,decide_false,Bool.or_false,Bool.false_eq_true,if_false,takeP,hl,wantP,Bool.false_or,ex]
   refine ⟨⟨rfl,fun _=>⟨?_,by simp only;omega⟩⟩,fun _=>?_⟩
   ·rw [h3,List.drop_drop]
   ·rw [<- ex];rfl
theorem Sim.good {s:ByteArray} {r:RS} {q:PR} (h:Sim s r q) (hq:q.bad=false):q.rest=(BL s).drop r.pos/\r.pos<=s.size:=h.2 (h.1.trans hq)
theorem rnm_bad (s:ByteArray) (r:RS) (h:r.bad=true):(rnm s r).2.bad=true:=by
 have:=rb_bad s r h
 unfold rnm
 simp [this]
theorem rw2_bad (s:ByteArray) (r:RS) (h:r.bad=true):(rw2 s r).2.bad=true:=rb_bad s _ (rb_bad s r h)
def PMap.toR (m:PMap):RMap:=⟨T m.name,m.key,m.value,m.entries⟩
theorem want_false {c:Bool} {q:PR} (h:(wantP c q).bad=false):q.bad=false/\c=true:=by
 simpa [wantP] using h
theorem Sim.want {s:ByteArray} {r:RS} {q:PR} (h:Sim s r q) {c:Bool} (hc:c=true):Sim s r (wantP c q):=by
 subst hc;simpa [wantP,Sim] using h
theorem bool_cases (b:Bool):b=true\/b=false:=by cases b<;>simp
theorem mapOK_nat (nm:ByteArray) (x y z:Nat):mapOK ⟨nm,x,y,z⟩=((decide (1<=x)&&decide (x<=8))&&(decide (1<=y)&&decide (y<=16))&&(decide (1<=z)&&decide (z<=8))):=by
 rw [Bool.eq_iff_iff]
 simp [mapOK]
 omega
theorem sim_map (s:ByteArray) (r:RS) (q:PR) (h:Sim s r q) :
  let a:=rnm s r;let k:=rb s a.2;let v:=rb s k.2;let e:=rb s v.2
  ((mapP q).2.bad=false->Sim s e.2 (mapP q).2/\(⟨a.1,k.1,v.1,e.1⟩:RMap)=(mapP q).1.toR/\mapOK (mapP q).1.toR=true) /\
  ((mapP q).2.bad=true->e.2.bad=true\/((⟨a.1,k.1,v.1,e.1⟩:RMap)=(mapP q).1.toR/\mapOK (mapP q).1.toR=false)) /\
  (e.2.bad=false->(⟨a.1,k.1,v.1,e.1⟩:RMap)=(mapP q).1.toR):=by
 intro a k v e;obtain ⟨h1,e1⟩:=sim_name s r q h
 let q1:=(nameP q).2
 let o1:=oneP q1
 let o2:=oneP o1.2
 let o3:=oneP o2.2
 have s1:=sim_one s a.2 q1 h1
 have s2:=sim_one s _ _ s1.1
 have s3:=sim_one s _ _ s2.1
 have hone:∀ (a b:PR),a.rest=b.rest->(oneP a).1=(oneP b).1/\(oneP a).2.rest=(oneP b).2.rest:=by
  intro a b hab;unfold oneP;rw [hab]
  cases b.rest<;>simp
 have honeb:∀ (a b:PR) (c:Bool),a.rest=b.rest->a.bad=(b.bad||c)->(oneP a).2.bad=((oneP b).2.bad||c):=by
  intro a b c hab hb;unfold oneP;rw [hab]
  cases b.rest<;>simp [hb]
 let c1:=(decide (1<=o1.1)&&decide (o1.1<=8))
 let k1:=(sizeP 8 q1)
 have k1e:k1=(o1.1,wantP c1 o1.2):=rfl
 let c2:=(decide (1<=o2.1)&&decide (o2.1<=16))
 let k2:=(sizeP 16 k1.2)
 have t2:=hone k1.2 o1.2 rfl
 have t2b:=honeb k1.2 o1.2 (!c1) rfl rfl
 have k2e:k2.1=o2.1:=t2.1
 have k2r:k2.2.rest=o2.2.rest:=t2.2
 have k2b:k2.2.bad=(o2.2.bad||(!c1)||(!c2)):=by
  show ((oneP k1.2).2.bad||!(decide (1<=(oneP k1.2).1)&&decide ((oneP k1.2).1<=16)))=_
  rw [t2b,t2.1]
 let c3:=(decide (1<=o3.1)&&decide (o3.1<=8))
 let k3:=(sizeP 8 k2.2)
 have t3:=hone k2.2 o2.2 k2r
 have t3b:=honeb k2.2 o2.2 ((!c1)||(!c2)) k2r (by rw [k2b,Bool.or_assoc])
 have k3e:k3.1=o3.1:=t3.1
 have k3r:k3.2.rest=o3.2.rest:=t3.2
 have k3b:k3.2.bad=(o3.2.bad||((!c1)||(!c2))||(!c3)):=by
  show ((oneP k2.2).2.bad||!(decide (1<=(oneP k2.2).1)&&decide ((oneP k2.2).1<=8)))=_
  rw [t3b,t3.1]
 have hmap:mapP q=(⟨(nameP q).1,o1.1,o2.1,o3.1⟩,k3.2):=by
  show ((⟨(nameP q).1,k1.1,k2.1,k3.1⟩:PMap),k3.2)=_
  rw [k2e,k3e]
  rfl
 have hOK:mapOK (mapP q).1.toR=(c1&&c2&&c3):=by
  rw [hmap];exact mapOK_nat _ _ _ _
 have hbad:(mapP q).2.bad=(o3.2.bad||!(c1&&c2&&c3)):=by
  rw [hmap]
  show k3.2.bad=_
  rw [k3b]
  cases o3.2.bad<;>cases c1<;>cases c2<;>cases c3<;>rfl
 have hval:e.2.bad=false->(⟨a.1,k.1,v.1,e.1⟩:RMap)=(mapP q).1.toR:=by
  intro hb
  have hb2:v.2.bad=false:=by
   rcases bool_cases v.2.bad with h | h
   ·have:=rb_bad s v.2 h;rw [this] at hb;cases hb
   ·exact h
  have hb1:k.2.bad=false:=by
   rcases bool_cases k.2.bad with h | h
   ·have:=rb_bad s k.2 h;rw [this] at hb2;cases hb2
   ·exact h
  have hb0:a.2.bad=false:=by
   rcases bool_cases a.2.bad with h | h
   ·have:=rb_bad s a.2 h;rw [this] at hb1;cases hb1
   ·exact h
  rw [hmap]
  simp only [PMap.toR]
  rw [e1 hb0,s1.2 hb1,s2.2 hb2,s3.2 hb]
 refine ⟨fun hb=>?_,fun hb=>?_,hval⟩
 ·rw [hbad] at hb
  simp only [Bool.or_eq_false_iff,Bool.not_eq_false'] at hb
  have he:e.2.bad=false:=s3.1.1.trans hb.1
  refine ⟨⟨?_,fun _=>?_⟩,hval he,by rw [hOK];exact hb.2⟩
  ·rw [he,hbad,hb.1,hb.2];rfl
  ·rw [hmap]
   show k3.2.rest=_/\_
   rw [k3r];exact s3.1.2 he
 ·rw [hbad] at hb
  rcases bool_cases o3.2.bad with h | h
  ·exact .inl (s3.1.1.trans h)
  ·rw [h,Bool.false_or,Bool.not_eq_true'] at hb
   have he:e.2.bad=false:=s3.1.1.trans h
   exact .inr ⟨hval he,by rw [hOK];exact hb⟩
theorem map_bad (q:PR) (h:q.bad=true):(mapP q).2.bad=true:=size_bad _ _ (size_bad _ _ (size_bad _ _ (name_bad q h)))
theorem maps_bad:∀ (k:Nat) (q:PR) (last:List UInt8) (acc:List PMap),q.bad=true->(mapsP k q last acc).2.bad=true
 | 0,_,_,_,h=>h
 | k+1,q,_,_,h=>maps_bad k _ _ _ (want_bad _ _ (map_bad q h))
theorem rdMaps_bad (s:ByteArray) (k:Nat) (r:RS) (acc:List RMap) (h:r.bad=true):rdMaps s k r acc=(acc,r):=by
 cases k with
 | zero=>rfl
 | succ k=>rw [rdMaps,if_pos h]
theorem rdMaps_pre (s:ByteArray):∀ (k:Nat) (r:RS) (acc:List RMap),∃ l,(rdMaps s k r acc).1=acc++l
 | 0,_,acc=>⟨[],by simp [rdMaps]⟩
 | k+1,r,acc=>by
  rw [rdMaps]
  split
  ·exact ⟨[],by simp⟩
  ·obtain ⟨l,h⟩:=rdMaps_pre s k _ _
   exact ⟨_,by rw [h,List.append_assoc]⟩
def lastN:Option ByteArray->List RMap->Option ByteArray
 | p,[]=>p
 | _,m::l=>lastN (some m.name) l
theorem lastN_snoc:∀ (l:List RMap) (p:Option ByteArray) (m:RMap),lastN p (l++[m])=some m.name
 | [],_,_=>rfl
 | _::l,_,m=>lastN_snoc l _ m
theorem mapsR_app:∀ (l k:List RMap) (p:Option ByteArray),mapsR p (l++k)=(mapsR p l&&mapsR (lastN p l) k)
 | [],k,p=>by simp [mapsR,lastN]
 | m::l,k,p=>by simp only [List.cons_append,mapsR,lastN,mapsR_app l k,Bool.and_assoc]
theorem ltL_behind (last:List UInt8) (m:List UInt8) (p:Option ByteArray) (h:(p=none/\last=[]/\m≠[])\/p=some (T last)):ltL last m=behind p (T m):=by
 rcases h with ⟨rfl,rfl,h⟩ | rfl
 ·cases m with
  | nil=>exact absurd rfl h
  | cons b l=>simp [ltL,ltB,behind,T,Op.bytesLess]
 ·rfl
theorem nameB_ne {l:List UInt8} (h:nameB l=true):l≠[]:=by
 rintro rfl;simp [nameB] at h
theorem name_good {q:PR} (h:(nameP q).2.bad=false):nameB (nameP q).1=true:=(want_false h).2
theorem not_bad {b c:Bool} (h:b=true->c=true) (hc:c=false):b=false:=by
 cases b with
 | false=>rfl
 | true=>rw [h rfl] at hc;cases hc
theorem map_good {q:PR} (h:(mapP q).2.bad=false):(mapP q).1.name≠[]:=by
 have h3:(nameP q).2.bad=false:=not_bad (fun hb=>size_bad _ _ (size_bad _ _ (size_bad _ _ hb))) h
 exact nameB_ne (name_good h3)
theorem sim_maps (s:ByteArray):∀ (k:Nat) (r:RS) (q:PR) (last:List UInt8) (acc:List RMap) (acc':List PMap),Sim s r q->q.bad=false->acc=acc'.map PMap.toR->mapsR none acc=true ->
  ((lastN none acc=none/\last=[])\/lastN none acc=some (T last)) ->
  ((mapsP k q last acc').2.bad=false->Sim s (rdMaps s k r acc).2 (mapsP k q last acc').2/\(rdMaps s k r acc).1=(mapsP k q last acc').1.map PMap.toR/\mapsR none (rdMaps s k r acc).1=true) /\
  ((mapsP k q last acc').2.bad=true->(rdMaps s k r acc).2.bad=true\/mapsR none (rdMaps s k r acc).1=false)
 | 0,r,q,last,acc,acc',hS,hq,ha,hR,_=>⟨fun _=>⟨hS,ha,hR⟩,fun h=>by
  rw [show (mapsP 0 q last acc').2=q from rfl,hq] at h;cases h⟩
 | k+1,r,q,last,acc,acc',hS,hq,ha,hR,hL=>by
  have hr:r.bad=false:=hS.1.trans hq
  obtain ⟨h1,h2,h3⟩:=sim_map s r q hS
  rw [rdMaps,if_neg (by rw [hr];decide),mapsP]
  generalize hm:(⟨(rnm s r).1,(rb s (rnm s r).2).1,(rb s (rb s (rnm s r).2).2).1,(rb s (rb s (rb s (rnm s r).2).2).2).1⟩:RMap)=m at *
  generalize (rb s (rb s (rb s (rnm s r).2).2).2).2=r' at *;clear hm
  have hdead:mapOK m=false\/behind (lastN none acc) m.name=false->mapsR none (rdMaps s k r' (acc++[m])).1=false:=fun hd=>by
   obtain ⟨l,hl⟩:=rdMaps_pre s k r' (acc++[m])
   rw [hl,List.append_assoc,mapsR_app,hR,Bool.true_and]
   simp only [List.cons_append,List.nil_append,mapsR]
   rcases hd with hd | hd<;>simp [hd]
  rcases bool_cases (mapP q).2.bad with hb | hb
  ·have hp:(mapsP k (wantP (ltL last (mapP q).1.name) (mapP q).2) (mapP q).1.name (acc'++[(mapP q).1])).2.bad=true:=maps_bad _ _ _ _ (want_bad _ _ hb)
   refine ⟨fun h=>(by rw [hp] at h;cases h),fun _=>?_⟩
   rcases h2 hb with he | ⟨hm,hk⟩
   ·rw [rdMaps_bad s k r' _ he];exact .inl he
   ·exact .inr (hdead (.inl (by rw [hm];exact hk)))
  ·obtain ⟨hS',hm,hk⟩:=h1 hb
   have hne:=map_good hb
   have hlt:ltL last (mapP q).1.name=behind (lastN none acc) m.name:=by
    rw [hm]
    exact ltL_behind _ _ _ (by
     rcases hL with ⟨h,h'⟩ | h
     ·exact .inl ⟨h,h',hne⟩
     ·exact .inr h)
   rcases bool_cases (ltL last (mapP q).1.name) with hc | hc
   ·refine sim_maps s k r' _ _ (acc++[m]) (acc'++[(mapP q).1]) (hS'.want hc) (by simp [wantP,hb,hc]) (by rw [ha,hm];simp) ?_ ?_
    ·rw [mapsR_app,hR,<- hm] at *
     simp [mapsR,hk,<- hlt,hc]
    ·right
     rw [lastN_snoc,hm];rfl
   ·have hp:(mapsP k (wantP (ltL last (mapP q).1.name) (mapP q).2) (mapP q).1.name (acc'++[(mapP q).1])).2.bad=true:=maps_bad _ _ _ _ (by simp [wantP,hc])
    refine ⟨fun h=>(by rw [hp] at h;cases h),fun _=>.inr (hdead (.inr (by rw [<- hlt];exact hc)))⟩
def PHead.toR (h:PHead):RFn:=⟨T h.name,h.slots⟩
theorem sim_head (s:ByteArray) (r:RS) (q:PR) (h:Sim s r q) :
  Sim s (rw2 s (rnm s r).2).2 (headP q).2/\((rw2 s (rnm s r).2).2.bad=false->(⟨(rnm s r).1,(rw2 s (rnm s r).2).1⟩:RFn)=(headP q).1.toR):=by
 obtain ⟨h1,e1⟩:=sim_name s r q h;obtain ⟨h2,e2⟩:=sim_two s _ _ h1
 refine ⟨h2,fun hb=>?_⟩
 have hb1:(rnm s r).2.bad=false:=not_bad (fun h=>rw2_bad s _ h) hb
 simp only [PHead.toR,headP]
 rw [e1 hb1,e2 hb]
theorem head_bad (q:PR) (h:q.bad=true):(headP q).2.bad=true:=two_bad _ (name_bad q h)
theorem heads_bad:∀ (k:Nat) (q:PR) (last:List UInt8) (all:Nat) (acc:List PHead),q.bad=true->(headsP k q last all acc).2.2.bad=true
 | 0,_,_,_,_,h=>h
 | k+1,q,_,_,_,h=>heads_bad k _ _ _ _ (want_bad _ _ (head_bad q h))
theorem rdFns_bad (s:ByteArray) (k:Nat) (r:RS) (acc:List RFn) (t:Nat) (h:r.bad=true):rdFns s k r acc t=(acc,t,r):=by
 cases k with
 | zero=>rfl
 | succ k=>rw [rdFns,if_pos h]
theorem rdFns_pre (s:ByteArray):∀ (k:Nat) (r:RS) (acc:List RFn) (t:Nat),∃ l,(rdFns s k r acc t).1=acc++l
 | 0,_,acc,_=>⟨[],by simp [rdFns]⟩
 | k+1,r,acc,t=>by
  rw [rdFns]
  split
  ·exact ⟨[],by simp⟩
  ·obtain ⟨l,h⟩:=rdFns_pre s k (rw2 s (rnm s r).2).2 (acc++[⟨(rnm s r).1,(rw2 s (rnm s r).2).1⟩]) (t+(rw2 s (rnm s r).2).1)
   exact ⟨_,by rw [h,List.append_assoc]⟩
def lastS:Option ByteArray->List ByteArray->Option ByteArray
 | p,[]=>p
 | _,m::l=>lastS (some m) l
theorem lastS_snoc:∀ (l:List ByteArray) (p:Option ByteArray) (m:ByteArray),lastS p (l++[m])=some m
 | [],_,_=>rfl
 | _::l,_,m=>lastS_snoc l _ m
theorem namesR_app:∀ (l k:List ByteArray) (p:Option ByteArray),namesR p (l++k)=(namesR p l&&namesR (lastS p l) k)
 | [],k,p=>by simp [namesR,lastS]
 | m::l,k,p=>by simp only [List.cons_append,namesR,lastS,namesR_app l k,Bool.and_assoc]
theorem sim_heads (s:ByteArray):∀ (k:Nat) (r:RS) (q:PR) (last:List UInt8) (acc:List RFn) (acc':List PHead) (t:Nat),Sim s r q->q.bad=false->acc=acc'.map PHead.toR->namesR none (acc.map (·.name))=true ->
  ((lastS none (acc.map (·.name))=none/\last=[])\/lastS none (acc.map (·.name))=some (T last)) ->
  ((headsP k q last t acc').2.2.bad=false->Sim s (rdFns s k r acc t).2.2 (headsP k q last t acc').2.2/\(rdFns s k r acc t).1=(headsP k q last t acc').1.map PHead.toR/\(rdFns s k r acc t).2.1=(headsP k q last t acc').2.1/\namesR none ((rdFns s k r acc t).1.map (·.name))=true) /\
  ((headsP k q last t acc').2.2.bad=true->(rdFns s k r acc t).2.2.bad=true\/namesR none ((rdFns s k r acc t).1.map (·.name))=false)
 | 0,r,q,last,acc,acc',t,hS,hq,ha,hR,_=>⟨fun _=>⟨hS,ha,rfl,hR⟩,fun h=>by
  rw [show (headsP 0 q last t acc').2.2=q from rfl,hq] at h;cases h⟩
 | k+1,r,q,last,acc,acc',t,hS,hq,ha,hR,hL=>by
  have hr:r.bad=false:=hS.1.trans hq
  obtain ⟨h1,h2⟩:=sim_head s r q hS
  rw [rdFns,if_neg (by rw [hr];decide),headsP]
  have hslots:(rw2 s (rnm s r).2).2.bad=false->(rw2 s (rnm s r).2).1=(headP q).1.slots:=fun hb=>congrArg RFn.slots (h2 hb)
  generalize hm:(⟨(rnm s r).1,(rw2 s (rnm s r).2).1⟩:RFn)=m at *
  generalize (rw2 s (rnm s r).2).1=t' at *;generalize (rw2 s (rnm s r).2).2=r' at *;clear hm
  have hdead:behind (lastS none (acc.map (·.name))) m.name=false->∀ t,namesR none ((rdFns s k r' (acc++[m]) t).1.map (·.name))=false:=fun hd t=>by
   obtain ⟨l,hl⟩:=rdFns_pre s k r' (acc++[m]) t
   rw [hl,List.append_assoc,List.map_append,namesR_app,hR,Bool.true_and]
   simp only [List.cons_append,List.nil_append,List.map_cons,namesR,hd,Bool.false_and]
  rcases bool_cases (headP q).2.bad with hb | hb
  ·have hp:(headsP k (wantP (ltL last (headP q).1.name) (headP q).2) (headP q).1.name (t+(headP q).1.slots) (acc'++[(headP q).1])).2.2.bad=true:=heads_bad _ _ _ _ _ (want_bad _ _ hb)
   refine ⟨fun h=>(by rw [hp] at h;cases h),fun _=>.inl ?_⟩
   rw [rdFns_bad s k r' _ _ (h1.1.trans hb)];exact h1.1.trans hb
  ·have hr':r'.bad=false:=h1.1.trans hb
   have hm:=h2 hr'
   have hne:(headP q).1.name≠[]:=nameB_ne (name_good (not_bad (fun h=>two_bad _ h) hb))
   have hlt:ltL last (headP q).1.name=behind (lastS none (acc.map (·.name))) m.name:=by
    rw [hm]
    exact ltL_behind _ _ _ (by
     rcases hL with ⟨h,h'⟩ | h
     ·exact .inl ⟨h,h',hne⟩
     ·exact .inr h)
   rw [hslots hr']
   rcases bool_cases (ltL last (headP q).1.name) with hc | hc
   ·refine sim_heads s k r' _ _ (acc++[m]) (acc'++[(headP q).1]) _ (h1.want hc) (by simp [wantP,hb,hc]) (by rw [ha,hm];simp) ?_ ?_
    ·rw [List.map_append,namesR_app,hR]
     simp [namesR,<- hlt,hc]
    ·right
     rw [List.map_append,List.map_cons,List.map_nil,lastS_snoc,hm];rfl
   ·have hp:(headsP k (wantP (ltL last (headP q).1.name) (headP q).2) (headP q).1.name (t+(headP q).1.slots) (acc'++[(headP q).1])).2.2.bad=true:=heads_bad _ _ _ _ _ (by simp [wantP,hc])
    exact ⟨fun h=>(by rw [hp] at h;cases h),fun _=>.inr (hdead (by rw [<- hlt];exact hc) _)⟩
theorem at_drop (l:List UInt8) (a b:Nat):at' (l.drop a) b=at' l (a+b):=by
 simp [at',List.getElem?_drop]
theorem at_take (l:List UInt8) (m b:Nat) (h:b<m):at' (l.take m) b=at' l b:=by
 simp [at',h]
theorem at_lt (l:List UInt8) (b:Nat):at' l b<256:=by
 unfold at';exact UInt8.toNat_lt _
theorem rb_at (s:ByteArray) (p:Nat) (h:p<s.size):rb s ⟨p,false⟩=(at' (BL s) p,⟨p+1,false⟩):=by
 have e:(BL s)[p]?=some s[p]:=by
  rw [List.getElem?_eq_getElem (by rw [BL_size];exact h),BL_get s p h]
 simp [rb,h,at',e]
theorem rw2_at (s:ByteArray) (p:Nat) (h:p+1<s.size):rw2 s ⟨p,false⟩=(at' (BL s) p+256*at' (BL s) (p+1),⟨p+2,false⟩):=by
 simp only [rw2,rb_at s p (by omega),rb_at s (p+1) h]
theorem rw4_at (s:ByteArray) (p:Nat) (h:p+3<s.size):rw4 s ⟨p,false⟩=(at' (BL s) p+256*at' (BL s) (p+1)+65536*(at' (BL s) (p+2)+256*at' (BL s) (p+3)),⟨p+4,false⟩):=by
 simp only [rw4,rw2_at s p (by omega),rw2_at s (p+2) (by omega)]
def slotAt (l:List UInt8):RSlot:=⟨at' l 0,at' l 1 % 16,at' l 1 / 16,sx16 (at' l 2+256*at' l 3),sx32 (at' l 4+256*at' l 5+65536*(at' l 6+256*at' l 7))⟩
theorem rsl_at (s:ByteArray) (p:Nat) (h:p+8<=s.size):rsl s ⟨p,false⟩=(slotAt ((BL s).drop p),⟨p+8,false⟩):=by
 simp only [rsl,rb_at s p (by omega),rb_at s (p+1) (by omega),rw2_at s (p+2) (by omega),rw4_at s (p+4) (by omega),slotAt,at_drop,Nat.add_zero]
theorem rw4_bad (s:ByteArray) (r:RS) (h:r.bad=true):(rw4 s r).2.bad=true:=rw2_bad s _ (rw2_bad s r h)
theorem rb_step (s:ByteArray) (r:RS):(rb s r).2.bad=true\/((rb s r).2.pos=r.pos+1/\r.pos<s.size):=by
 by_cases h:r.bad=false/\r.pos<s.size
 ·right;simp [rb,h]
 ·left;simp [rb,h]
theorem rw2_step (s:ByteArray) (r:RS):(rw2 s r).2.bad=true\/((rw2 s r).2.pos=r.pos+2/\r.pos+1<s.size):=by
 rcases rb_step s r with h | ⟨h,_⟩
 ·exact .inl (rb_bad s _ h)
 ·rcases rb_step s (rb s r).2 with h' | ⟨h',h2⟩
  ·exact .inl h'
  ·exact .inr ⟨by rw [<- Nat.add_assoc r.pos 1 1,<- h,<- h'];rfl,by omega⟩
theorem rw4_step (s:ByteArray) (r:RS):(rw4 s r).2.bad=true\/((rw4 s r).2.pos=r.pos+4/\r.pos+3<s.size):=by
 rcases rw2_step s r with h | ⟨h,_⟩
 ·exact .inl (rw2_bad s _ h)
 ·rcases rw2_step s (rw2 s r).2 with h' | ⟨h',h2⟩
  ·exact .inl h'
  ·exact .inr ⟨by rw [<- Nat.add_assoc r.pos 2 2,<- h,<- h'];rfl,by omega⟩
theorem rsl_end (s:ByteArray) (p:Nat) (h:s.size<p+8):(rsl s ⟨p,false⟩).2.bad=true:=by
 show (rw4 s (rw2 s (rb s (rb s ⟨p,false⟩).2).2).2).2.bad=true
 rcases rb_step s ⟨p,false⟩ with h1 | ⟨h1,_⟩
 ·exact rw4_bad s _ (rw2_bad s _ (rb_bad s _ h1))
 ·rcases rb_step s (rb s ⟨p,false⟩).2 with h2 | ⟨h2,_⟩
  ·exact rw4_bad s _ (rw2_bad s _ h2)
  ·rcases rw2_step s (rb s (rb s ⟨p,false⟩).2).2 with h3 | ⟨h3,_⟩
   ·exact rw4_bad s _ h3
   ·rcases rw4_step s (rw2 s (rb s (rb s ⟨p,false⟩).2).2).2 with h4 | ⟨_,h4⟩
    ·exact h4
    ·have:(⟨p,false⟩:RS).pos=p:=rfl
     omega
theorem sgn16_eq (n:Nat):sgn16 n=sx16 n:=by
 unfold sgn16 sx16
 by_cases h:n<32768
 ·rw [if_pos h,if_neg (by omega)]
 ·rw [if_neg h,if_pos (by omega)]
def u64 (n:Int):Int:=n % 18446744073709551616
theorem sgn32_eq (n:Nat) (h:n<4294967296):u64 (sgn32 n)=sx32 n:=by
 unfold sgn32 sx32 u64
 by_cases h:n<2147483648
 ·rw [if_pos h,if_neg (by omega)];omega
 ·rw [if_neg h,if_pos (by omega)];omega
theorem sgn32_bd (n:Nat) (h:n<4294967296):-2147483648<=sgn32 n/\sgn32 n<=2147483647:=by
 unfold sgn32;split<;>omega
theorem sgn16_bd (n:Nat) (h:n<65536):-32768<=sgn16 n/\sgn16 n<=32767:=by
 unfold sgn16;split<;>omega
theorem u64_zero (n:Int) (h:-2147483648<=n/\n<=2147483647):u64 n=0 ↔ n=0:=by
 unfold u64;omega
theorem num32_bd (l:List UInt8):-2147483648<=num32 l/\num32 l<=2147483647:=by
 have h0:=at_lt l 0
 have h1:=at_lt l 1
 have h2:=at_lt l 2
 have h3:=at_lt l 3
 exact sgn32_bd _ (by omega)
def rowB (k:Nat):Bool :=
 let o:=tableS[k]?.getD noOp
 let v:=wordM o.code
 let i:=v.1
 v.2&&decide (i.d=0/\i.jump=0/\i.n=0/\i.label=E0/\i.name=E0)&&decide (byCodeM o.code=some k)&&decide (o.slots=slotsI i.word)&&decide (o.jumps=decide (sortM i.word=106))&&decide (o.ends=endsI i.word)&&decide (o.call=decide (sortM i.word=99)) &&
 decide (o.refers=if sortM i.word=119 then 2 else if sortM i.word=99 then 1 else 0) &&
 (if sortM i.word=114 then
  (decide (o.word=wordL i)&&(if i.word=NEG then decide (o.parts=[.result]/\i.s=0) else decide ((o.parts=regsA/\i.s=0)\/(o.parts=numsA/\i.s=-1))))
 else if sortM i.word=106 then
  (decide (o.word=wordL i)&&(if i.word=JA then decide (o.parts=[.label]/\i.s=0/\wordL i=[106,97]) else decide (((o.parts=regsJ/\i.s=0)\/(o.parts=numsJ/\i.s=-1))/\wordL i≠[106,97])))
 else if sortM i.word=108 then decide (o.word=wordL i/\o.parts=loadsP/\i.s=0)
 else if sortM i.word=115 then decide (o.word=wordL i/\((o.parts=storesP/\i.s=0)\/(o.parts=numbersP/\i.s=-1)))
 else if sortM i.word=119 then decide (o.word=[119,105,100,101]/\o.parts=[.result,.comma,.wide]/\i.s=0/\i.word=WIDE)
 else if sortM i.word=99 then decide (i.s=0/\i.word=CALL)
 else decide (sortM i.word=101/\o.word=[101,120,105,116]/\o.parts=[]/\i.s=0/\i.word=EXIT))
set_option maxRecDepth 100000 in
set_option maxHeartbeats 4000000 in
theorem rows_ok:(List.range 88).all rowB=true:=by decide +kernel
set_option maxRecDepth 100000 in
theorem codes_ok:(List.range 256).all (fun c=>(byCodeM c).isSome||!(wordM c).2)=true:=by decide +kernel
theorem codes_lt:(List.range 256).all (fun c=>match byCodeM c with | none=>true | some k=>decide (k<88)&&decide ((tableS[k]?.getD noOp).code=c))=true:=by decide +kernel
end Go.Proofs.YtoknbkfclhmapaaGreatDoor
