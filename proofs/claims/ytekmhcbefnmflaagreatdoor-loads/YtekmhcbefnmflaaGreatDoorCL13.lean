import Derived.Deep.OwnRows
import Derived.Test.YtekmhcbefnmflaaGreatDoorCL10
namespace Go.Proofs.YtekmhcbefnmflaaGreatDoor
open Go.RowKit Tryz
open _root_.Array renaming setIfInBounds_setIfInBounds->ab,setIfInBounds_comm->ao
open List renaming length_append->an,drop_eq_getElem_cons->ar,length->ee
open Bool renaming true->eJ,false->eE
open Ending renaming returned->fR
open Option renaming some->eC,none->ez
open Value renaming string->eI,bool->fS,slice->eK
open _root_.Go renaming Calls->fL,Value->eM,TypeId->gh,madeCells->pA
set_option linter.all false
set_option maxRecDepth 100000
set_option maxHeartbeats 2000000
theorem IC(x:Int)(h0:0<=x)(h1:x<18446744073709551616)(w:tW):fL prog 172 #[vU x] w λe w'=>e=fR (eI (T (Yl x.toNat)))/\aa ah w w':=by
 obtain⟨n,rfl⟩:∃n:Nat,x=n:=⟨x.toNat,by omega⟩
 simpa using Ir n (by omega) w
theorem PJ{l:tLB}{k:Nat}(h:ee l<=k):∃s:tBA,af (s=T l)/\s.size<=k:=⟨T l,rfl,by rw[bS];exact h⟩
structure aK.Fit(i:aK):Prop where
 d0:0<=i.d
 d1:i.d<=15
 s1:i.s<=15
 s0:-1<=i.s
 j0:-32768<=i.jump
 j1:i.jump<=32767
 n0:0<=i.n
 n1:i.n<18446744073709551616
 word:i.word.size<=100
 label:i.label.size<=100
 name:i.name.size<=300
 is32:i.is32=eJ->aF i.word=114
 sort:aF i.word=114\/aF i.word=106\/(aF i.word=108/\0<=i.s)\/aF i.word=115\/aF i.word=119\/aF i.word=104\/aF i.word=99\/aF i.word=101
def WIDE:tBA:=T [119,105,100,101]
def CALL:tBA:=T [99,97,108,108]
def YD:tBA:=T [101,120,105,116]
def dH(word:tBA):Nat:=if word=WIDE then 2 else 1
def ny(word:tBA):Bool:=decide (word=YD)||decide (word=JA)
theorem EE(i:aK)(w:tW):fL prog 88 #[.agg i.cells] w λe w'=>e=fR (vI (dH i.word))/\aa ah w w':=by
 obtain⟨word,is32,d,s,jump,n,label,name⟩:=i;simp only;by_cases h:word=WIDE
 ·have q:=gi h;have HE:af (dH word=2):=by rw[af,dH,iP9 h]
  clear h;unfold aK.cells;go_in;go_wp2;go_ret;exact⟨by rw[HE.o];rfl,aq⟩
 ·have q:=fP h;have HE:af (dH word=1):=by rw[af,dH,iN9 h]
  clear h;unfold aK.cells;go_in;go_wp2;go_ret;exact⟨by rw[HE.o];rfl,aq⟩
theorem UD(i:aK)(w:tW):fL prog 89 #[.agg i.cells] w λe w'=>e=fR (fS (ny i.word))/\aa ah w w':=by
 obtain⟨word,is32,d,s,jump,n,label,name⟩:=i;simp only;by_cases h:word=YD
 ·have q:=gi h;have HE:af (ny word=eJ):=by rw[af,ny,decide_eq_true h];rfl
  clear h;unfold aK.cells;go_in;go_wp2;go_ret;exact⟨by rw[HE.o];rfl,aq⟩
 ·have q:=fP h;by_cases h2:word=JA
  ·have q2:=gi h2;have HE:af (ny word=eJ):=by rw[af,ny,decide_eq_true h2,Bool.or_true]
   clear h h2;unfold aK.cells;go_in;go_wp2;go_ret;exact⟨by rw[HE.o];rfl,aq⟩
  ·have q2:=fP h2;have HE:af (ny word=eE):=by rw[af,ny,decide_eq_false h,decide_eq_false h2];rfl
   clear h h2;unfold aK.cells;go_in;go_wp2;go_ret;exact⟨by rw[HE.o];rfl,aq⟩
def sI(i:aK):tLB:=BL i.word++(if i.is32 then [51,50]else [])
def aK.di(i:aK):tLV:=i.cells.toList
theorem aK.qL(i:aK):ee i.di=8:=rfl
def pz(l:List aK):tLV:=l.flatMap aK.di
structure YE where
 ls:List aK
 ats:List Int
 js:List Int
 r:RS
 pos:Nat
structure jB(w0:tW)(fb rb off:Nat)(cs:tAV)(s:tBA)(r:RS)(ls:List aK)(ats js:List Int)(vL vA vJ:eM)(w:tW):Prop where
 rd:bH w rb s r
 fn:ak w fb ((cs.setIfInBounds (off+1) vL).setIfInBounds (off+2) vA) 43
 sl:Sl w 197 8 vL (ee ls) (pz ls)
 sa:Sl w 3 1 vA (ee ats) (jW ats)
 sj:Sl w 3 1 vJ (ee js) (jW js)
 fl:∀k,vL.ownBlock=eC k->w0.heap.size<=k
 fa:∀k,vA.ownBlock=eC k->w0.heap.size<=k
 fj:∀k,vJ.ownBlock=eC k->w0.heap.size<=k
 la:∀k,vL.ownBlock=eC k->vA.ownBlock≠eC k
 lj:∀k,vL.ownBlock=eC k->vJ.ownBlock≠eC k
 aj:∀k,vA.ownBlock=eC k->vJ.ownBlock≠eC k
 md:aa (λk=>k=fb\/k=rb) w0 w
section
variable {w0 w w' : World} {fb rb off : Nat} {cs : Array Value} {s : ByteArray} {r r' : RS} {ls : List aK} {ats js : List Int} {vL vA vJ : eM}
theorem jB.quiet(h:jB w0 fb rb off cs s r ls ats js vL vA vJ w)(m:aa ah w w'):jB w0 fb rb off cs s r ls ats js vL vA vJ w' :=
 ⟨ak.ae h.rd m (λe=>e),h.fn.ae m (λe=>e),h.sl.ae m (λ_ _ e=>e),h.sa.ae m (λ_ _ e=>e),h.sj.ae m (λ_ _ e=>e),h.fl,h.fa,h.fj,h.la,h.lj,h.aj,h.md.trans m.of_nil⟩
theorem jB.read(h:jB w0 fb rb off cs s r ls ats js vL vA vJ w)(hr:rb<w0.heap.size)(hne:fb≠rb)(m:aa (Only rb) w w')(hr':bH w' rb s r'):jB w0 fb rb off cs s r' ls ats js vL vA vJ w' :=
 ⟨hr',h.fn.ae m hne,h.sl.ae m (λk hk e=>by have:=h.fl k hk;rw[show k=rb from e]at this;omega),h.sa.ae m (λk hk e=>by have:=h.fa k hk;rw[show k=rb from e]at this;omega),
  h.sj.ae m (λk hk e=>by have:=h.fj k hk;rw[show k=rb from e]at this;omega),h.fl,h.fa,h.fj,h.la,h.lj,h.aj,h.md.step m (λk _ e=>.inr e)⟩
theorem jB.aem(h:jB w0 fb rb off cs s r ls ats js vL vA vJ w)(hf:fb<w0.heap.size)(hr:rb<w0.heap.size)(hne:fb≠rb){i:aK}{v':eM}(sl:Sl w' 197 8 v' (ee ls+1) (pz ls++i.di))(m:aa (λk=>vL.ownBlock=eC k) w w') (loc:∀k,v'.ownBlock=eC k->vL.ownBlock=eC k\/w.heap.size<=k):jB w0 fb rb off cs s r (ls++[i]) ats js v' vA vJ (w'.setCell ⟨fb,off+1,ez⟩ v'):=by
 have hfr:¬vL.ownBlock=eC fb:=λe=>by have:=h.fl _ e;omega
 have hrr:¬vL.ownBlock=eC rb:=λe=>by have:=h.fl _ e;omega
 have hsz:=h.md.size;have nfl:=λk hk=>(loc k hk).elim (h.fl k) (λe=>by omega);have hms:=(aa.refl (Only fb) w').bz (off+1) v';refine⟨?_,?_,?_,?_,?_,nfl,h.fa,h.fj,?_,?_,h.aj,?_⟩
 ·exact(ak.ae h.rd m hrr).setOther (a:=⟨fb,off+1,ez⟩) hne _
 ·have h1:=(h.fn.ae m hfr).set (off+1) v';have e:((cs.setIfInBounds (off+1) vL).setIfInBounds (off+2) vA).setIfInBounds (off+1) v'=(cs.setIfInBounds (off+1) v').setIfInBounds (off+2) vA:=by rw[ao _ _ (by omega),ab,ao _ _ (by omega)]
  rw[e]at h1;exact h1
 ·have e:pz (ls++[i])=pz ls++i.di:=by simp[pz]
  rw[an,e];exact sl.ae hms (λk hk e=>by have:=nfl k hk;rw[show k=fb from e]at this;omega)
 ·exact(h.sa.ae m (λk hk e=>h.la k e hk)).ae hms (λk hk e=>by have:=h.fa k hk;rw[show k=fb from e]at this;omega)
 ·exact(h.sj.ae m (λk hk e=>h.lj k e hk)).ae hms (λk hk e=>by have:=h.fj k hk;rw[show k=fb from e]at this;omega)
 ·exact λk hk e=>(loc k hk).elim (λe1=>h.la k e1 e) (λe1=>by have:=h.sa.lt k e;omega)
 ·exact λk hk e=>(loc k hk).elim (λe1=>h.lj k e1 e) (λe1=>by have:=h.sj.lt k e;omega)
 ·exact(h.md.step m (λk hk e=>by have:=h.fl k e;omega)).set (a:=⟨fb,off+1,ez⟩) (.inl (.inl rfl)) _
theorem jB.aen(h:jB w0 fb rb off cs s r ls ats js vL vA vJ w)(hf:fb<w0.heap.size)(hr:rb<w0.heap.size)(hne:fb≠rb){i:Int}{v':eM}(sl:Sl w' 3 1 v' (ee ats+1) (jW ats++[vI i]))(m:aa (λk=>vA.ownBlock=eC k) w w') (loc:∀k,v'.ownBlock=eC k->vA.ownBlock=eC k\/w.heap.size<=k):jB w0 fb rb off cs s r ls (ats++[i]) js vL v' vJ (w'.setCell ⟨fb,off+2,ez⟩ v'):=by
 have hfr:¬vA.ownBlock=eC fb:=λe=>by have:=h.fa _ e;omega
 have hrr:¬vA.ownBlock=eC rb:=λe=>by have:=h.fa _ e;omega
 have hsz:=h.md.size;have nfl:=λk hk=>(loc k hk).elim (h.fa k) (λe=>by omega);have hms:=(aa.refl (Only fb) w').bz (off+2) v';refine⟨?_,?_,?_,?_,?_,h.fl,nfl,h.fj,?_,h.lj,?_,?_⟩
 ·exact(ak.ae h.rd m hrr).setOther (a:=⟨fb,off+2,ez⟩) hne _
 ·have h1:=(h.fn.ae m hfr).set (off+2) v';rw[ab]at h1;exact h1
 ·exact(h.sl.ae m (λk hk e=>h.la k hk e)).ae hms (λk hk e=>by have:=h.fl k hk;rw[show k=fb from e]at this;omega)
 ·have e:jW (ats++[i])=jW ats++[vI i]:=by simp[jW]
  rw[an,e];exact sl.ae hms (λk hk e=>by have:=nfl k hk;rw[show k=fb from e]at this;omega)
 ·exact(h.sj.ae m (λk hk e=>h.aj k e hk)).ae hms (λk hk e=>by have:=h.fj k hk;rw[show k=fb from e]at this;omega)
 ·exact λk hk e=>(loc k e).elim (λe1=>h.la k hk e1) (λe1=>by have:=h.sl.lt k hk;omega)
 ·exact λk hk e=>(loc k hk).elim (λe1=>h.aj k e1 e) (λe1=>by have:=h.sj.lt k e;omega)
 ·exact(h.md.step m (λk hk e=>by have:=h.fa k e;omega)).set (a:=⟨fb,off+2,ez⟩) (.inl (.inl rfl)) _
theorem jB.aeo(h:jB w0 fb rb off cs s r ls ats js vL vA vJ w)(hf:fb<w0.heap.size)(hr:rb<w0.heap.size){i:Int}{v':eM}(sl:Sl w' 3 1 v' (ee js+1) (jW js++[vI i]))(m:aa (λk=>vJ.ownBlock=eC k) w w') (loc:∀k,v'.ownBlock=eC k->vJ.ownBlock=eC k\/w.heap.size<=k):jB w0 fb rb off cs s r ls ats (js++[i]) vL vA v' w':=by
 have hfr:¬vJ.ownBlock=eC fb:=λe=>by have:=h.fj _ e;omega
 have hrr:¬vJ.ownBlock=eC rb:=λe=>by have:=h.fj _ e;omega
 have hsz:=h.md.size;have nfl:=λk hk=>(loc k hk).elim (h.fj k) (λe=>by omega);refine⟨?_,?_,?_,?_,?_,h.fl,h.fa,nfl,h.la,?_,?_,?_⟩
 ·exact ak.ae h.rd m hrr
 ·exact h.fn.ae m hfr
 ·exact h.sl.ae m (λk hk e=>h.lj k hk e)
 ·exact h.sa.ae m (λk hk e=>h.aj k hk e)
 ·have e:jW (js++[i])=jW js++[vI i]:=by simp[jW]
  rw[an,e];exact sl
 ·exact λk hk e=>(loc k e).elim (λe1=>h.lj k hk e1) (λe1=>by have:=h.sl.lt k hk;omega)
 ·exact λk hk e=>(loc k e).elim (λe1=>h.aj k hk e1) (λe1=>by have:=h.sa.lt k hk;omega)
 ·exact h.md.step m (λk hk e=>by have:=h.fj k e;omega)
theorem jB.cells(h:jB w0 fb rb off cs s r ls ats js vL vA vJ w)(hs:off+8<=cs.size):w.cell? ⟨fb,off+1,ez⟩=eC vL/\w.cell? ⟨fb,off+2,ez⟩=eC vA/\(∀j,j<8->j≠1->j≠2->w.cell? ⟨fb,off+j,ez⟩=cs[off+j]?)/\∀j,w.frozen? ⟨fb,j,ez⟩=eE:=by
 refine⟨?_,?_,?_,h.fn.frozen⟩
 ·rw[h.fn.cell,Array.getElem?_setIfInBounds_ne (by omega),Array.getElem?_setIfInBounds_self_of_lt (by omega)]
 ·rw[h.fn.cell,Array.getElem?_setIfInBounds_self_of_lt (by simp;omega)]
 ·intro j hj h1 h2;rw[h.fn.cell,Array.getElem?_setIfInBounds_ne (by omega),Array.getElem?_setIfInBounds_ne (by omega)]
theorem jB.mid(h:jB w0 fb rb off cs s r ls ats js vL vA vJ w)(hs:off+8<=cs.size)(hf:fb<w0.heap.size){v:eM}(hv:v=vL\/v=vA){w1:tW}(m1:aa ah w w1)(m:aa (λk=>v.ownBlock=eC k) w1 w'):w'.cell? ⟨fb,off+1,ez⟩=eC vL/\w'.cell? ⟨fb,off+2,ez⟩=eC vA/\∀j,w'.frozen? ⟨fb,j,ez⟩=eE:=by
 have hb:¬v.ownBlock=eC fb:=by
  rcases hv with rfl|rfl
  ·exact λe=>by have:=h.fl _ e;omega
  ·exact λe=>by have:=h.fa _ e;omega
 have h1:=(h.fn.ae m1 (λe=>e)).ae m hb;refine⟨?_,?_,h1.frozen⟩
 ·rw[h1.cell,Array.getElem?_setIfInBounds_ne (by omega),Array.getElem?_setIfInBounds_self_of_lt (by omega)]
 ·rw[h1.cell,Array.getElem?_setIfInBounds_self_of_lt (by simp;omega)]
end
theorem UE:(prog.info? 197).map (λi=>(i.zero,i.size,i.bytes))=eC (eC (.agg (aK.cells {})),8,88):=by kernel_rfl
theorem Ca:(prog.info? 3).map (λi=>(i.zero,i.size,i.bytes))=eC (eC (vI 0),1,8):=by kernel_rfl
theorem aY(w:tW)(cs:tAV)(t:gh)(b:Nat)(hb:b=w.heap.size):∀j u,cs.toList[j]?=eC u->(w.alloc (.cells cs t)).cell? ((⟨b,0,ez⟩:Addr).add j)=eC u:=by
 intro j u h;subst hb;have hadd:(⟨w.heap.size,0,ez⟩:Addr).add j=⟨w.heap.size,j,ez⟩:=by unfold Addr.add;split<;>simp_all
 rw[hadd,(ak.new w cs t).cell j];simpa using h
theorem EF(x:tBA):1<=dH x/\dH x<=2:=by unfold dH;split<;>omega
theorem BD(x:Int):∀u∈[Value.int .i64 x],u.oneCell'=eJ:=by intro u hu;simp at hu;subst hu;rfl
theorem YF(i:aK):∀u∈i.di,u.oneCell'=eJ:=by intro u hu;simp only[aK.di,aK.cells,List.mem_cons,List.not_mem_nil,or_false]at hu;rcases hu with rfl|rfl|rfl|rfl|rfl|rfl|rfl|rfl<;>rfl
theorem Cb:(prog.info? 9).map (λi=>(i.zero,i.size,i.bytes))=eC (eC (eI ByteArray.empty),1,16):=by kernel_rfl
theorem YG(x:tBA):∀u∈[Value.string x],u.oneCell'=eJ:=by intro u hu;simp at hu;subst hu;rfl
theorem Sl.at8{w:tW}{g n cap:Nat}{ls:List aK}(h:Sl w 197 8 (eK (eC ⟨g,0,ez⟩) n cap) n (pz ls))(hn:n=ee ls)(k:Nat)(hk:k<ee ls):w.cell? ⟨g,k*8,ez⟩=eC (eI ls[k].word)/\w.cell? ⟨g,k*8+1,ez⟩=eC (fS ls[k].is32)/\w.cell? ⟨g,k*8+2,ez⟩=eC (vI ls[k].d)/\w.cell? ⟨g,k*8+3,ez⟩=eC (vI ls[k].s) /\ w.cell? ⟨g,k*8+4,ez⟩=eC (vI ls[k].jump)/\w.cell? ⟨g,k*8+5,ez⟩=eC (vU ls[k].n)/\w.cell? ⟨g,k*8+6,ez⟩=eC (eI ls[k].label)/\w.cell? ⟨g,k*8+7,ez⟩=eC (eI ls[k].name)/\∀j,w.frozen? ⟨g,j,ez⟩=eE:=by
 obtain⟨o',cap',hv,h2⟩:=h.view;cases hv;obtain⟨g',cs,he,hb,ht,_⟩:=h2 (by omega);cases he;subst hn;have key:∀j,j<8->w.cell? ⟨g,k*8+j,ez⟩=(aK.di ls[k])[j]?:=by intro j hj;rw[aX hb ht _ (by omega)];exact flat_get aK.di 8 aK.qL ls k j hk hj
 exact⟨key 0 (by omega),key 1 (by omega),key 2 (by omega),key 3 (by omega),key 4 (by omega),key 5 (by omega),key 6 (by omega),key 7 (by omega),hb.frozen⟩
abbrev PL:=List (tBA×Int)
def jJ(p:Int):tBA:=T (108::Yl p.toNat)
def labG(ats:List Int):List aK->List (aK×Int×Int)->PL->Option (List aK×PL)
 |done,[],lab=>eC (done,lab)
 |done,(i,a,j)::rest,lab =>
  if aF i.word=106 then
   (if(a+(dH i.word:Int)+j)∈ats then
    labG ats (done++[{i with label:=jJ (a+(dH i.word:Int)+j)}]) rest
     (if labelM (jJ (a+(dH i.word:Int)+j)) lab<0 then lab++[(jJ (a+(dH i.word:Int)+j),a+(dH i.word:Int)+j)]else lab)
   else ez)
  else labG ats (done++[i]) rest lab
def nz(ls:List aK)(ats js:List Int):List (aK×Int×Int):=ls.zip (ats.zip js)
structure UF(w0:tW)(fb off:Nat)(cs:tAV)(vL vA:eM)(ls:List aK)(ats:List Int)(lab:PL)(w:tW):Prop where
 ex:∃vB vP,ak w fb ((cs.setIfInBounds (off+4) vB).setIfInBounds (off+5) vP) 43/\Sl w 197 8 vL (ee ls) (pz ls)/\Sl w 3 1 vA (ee ats) (jW ats) /\
  Sl w 9 1 vB (ee lab) (FW (lab.map (·.1)))/\Sl w 3 1 vP (ee lab) (jW (lab.map (·.2))) /\
  (∀k,vB.ownBlock=eC k->w0.heap.size<=k)/\(∀k,vP.ownBlock=eC k->w0.heap.size<=k)/\(∀k,vB.ownBlock=eC k->vP.ownBlock≠eC k)
structure nD(w:tW)(fb off:Nat)(cs:tAV)(vL vA vJ:eM)(ls:List aK)(ats js:List Int):Prop where
 fn:ak w fb cs 43
 sz:off+8<=cs.size
 c1:cs[off+1]?=eC vL
 c2:cs[off+2]?=eC vA
 c4:cs[off+4]?=eC (vN)
 c5:cs[off+5]?=eC (vN)
 sl:Sl w 197 8 vL (ee ls) (pz ls)
 sa:Sl w 3 1 vA (ee ats) (jW ats)
 sj:Sl w 3 1 vJ (ee js) (jW js)
 fl:vL.ownBlock≠eC fb
 fa:vA.ownBlock≠eC fb
 fj:vJ.ownBlock≠eC fb
 la:∀k,vL.ownBlock=eC k->vA.ownBlock≠eC k
 lj:∀k,vL.ownBlock=eC k->vJ.ownBlock≠eC k
 aj:∀k,vA.ownBlock=eC k->vJ.ownBlock≠eC k
 al:ee ats=ee ls
 jl:ee js=ee ls
 le:ee ls<=1000
 bw:∀i∈ls,i.word.size<=100
 ba:∀a∈ats,0<=a/\a<=1000
 bj:∀j∈js,-32768<=j/\j<=32767
def NL:Prop:=∀(w:tW) (fb off:Nat) (cs:tAV) (vL vA vJ:eM) (ls:List aK) (ats js:List Int),nD w fb off cs vL vA vJ ls ats js ->
 fL prog 90 #[.pointer (eC ⟨fb,off,ez⟩),vJ] w λe w'=>e=fR (fS (labG ats [] (nz ls ats js) []).isSome)/\aa (λk=>k=fb\/vL.ownBlock=eC k) w w' /\
  ∀o,labG ats [] (nz ls ats js) []=eC o->UF w fb off cs vL vA o.1 ats o.2 w'
def pX(ls:List aK):Bool:=match ls.getLast? with
 |none=>eE
 |some i=>ny i.word
structure aep(i:aK):Prop where
 s0:-1<=i.s
 s1:i.s<=0
 j:i.jump=0
 l:i.label=E0
 m:i.name=E0
 b:i.is32=eJ->aF i.word=114
 r:aF i.word=108->i.s=0
theorem abq(k:Nat)(h:8<=k)(h2:k<12):aF (Pg[k]?.getD E0)=115:=by
 have:k=8\/k=9\/k=10\/k=11:=by omega
 rcases this with rfl|rfl|rfl|rfl<;>decide +kernel
theorem UG(op:Nat)(h:(aB op).2=eJ):aep (aB op).1:=by
 by_cases c1:op<64/\1<=op%16/\op%16<=13/\(op%16<13\/op<32)
 ·rw[aB,iP9 c1];have hs:=yL (op%16-1) (by omega);exact⟨by show -1<=-((op:Int)/32);omega,by show -((op:Int)/32)<=0;omega,rfl,rfl,rfl,λ_=>hs,λe=>by rw[show aF _=114 from hs]at e;omega⟩
 rw[aB,iN9 c1]at h ⊢;by_cases c2:64<=op/\op<76
 ·rw[iP9 c2];exact⟨by show(-1:Int)<=0;omega,by show(0:Int)<=0;omega,rfl,rfl,rfl,λe=>(by cases e),λ_=>rfl⟩
 rw[iN9 c2]at h ⊢;by_cases c3:96<op/\op<108
 ·rw[iP9 c3];have hs:=py (op-96) (by omega);exact⟨by show(-1:Int)<=-1;omega,by show(-1:Int)<=0;omega,rfl,rfl,rfl,λe=>(by cases e),λe=>by rw[show aF _=106 from hs]at e;omega⟩
 rw[iN9 c3]at h ⊢;by_cases c4:128<=op/\op<140
 ·rw[iP9 c4];refine⟨?_,?_,rfl,rfl,rfl,λe=>(by cases e),λe=>?_⟩
  ·show -1<=(if 136<=op then(-1:Int)else 0);split<;>omega
  ·show(if 136<=op then(-1:Int)else 0)<=0;split<;>omega
  ·show(if 136<=op then(-1:Int)else 0)=0
   split
   ·have hs:=abq (op-128) (by omega) (by omega);rw[show aF _=115 from hs]at e;omega
   ·rfl
 rw[iN9 c4]at h ⊢;by_cases c5:op=192
 ·rw[iP9 c5];exact⟨by show(-1:Int)<=0;omega,by show(0:Int)<=0;omega,rfl,rfl,rfl,λe=>(by cases e),λ_=>rfl⟩
 rw[iN9 c5]at h ⊢;by_cases c6:op=193
 ·rw[iP9 c6];exact⟨by show(-1:Int)<=0;omega,by show(0:Int)<=0;omega,rfl,rfl,rfl,λe=>(by cases e),λ_=>rfl⟩
 rw[iN9 c6]at h ⊢;by_cases c7:op=194
 ·rw[iP9 c7];exact⟨by show(-1:Int)<=0;omega,by show(0:Int)<=0;omega,rfl,rfl,rfl,λe=>(by cases e),λ_=>rfl⟩
 rw[iN9 c7]at h;cases h
def aeq(o:ep):Prop:=o.ok=eJ->o.i.Fit/\-32768<=o.jump/\o.jump<=32767
theorem PM:aF (T [104,101,108,112])=104:=by decide +kernel
theorem F8(k:Nat):(lF[k]?.getD E0).size<=100:=by
 rcases Nat.lt_or_ge k 4 with h|h
 ·have:k=0\/k=1\/k=2\/k=3:=by omega
  rcases this with rfl|rfl|rfl|rfl<;>decide
 ·have:lF[k]?=ez:=List.getElem?_eq_none (by show 4<=k;exact h);rw[this];decide
theorem YH(s:tBA)(r:RS):aeq (bu s r):=by
 unfold bu;dsimp only;obtain⟨bo,bd,bs,bj0,bj1,bn0,bn1⟩:=fC s r;have hw:=UG (aI s r).1.op;have hsz:=cu (aI s r).1.op;have hst:=B6 (aI s r).1.op;generalize(aI s r).1=x at *;generalize(aI s r).2=r1 at *;obtain⟨op,d,sr,jump,n⟩:=x;dsimp only at *;generalize aB op=q at *;obtain⟨i,ok⟩:=q;dsimp only at *;split
 ·exact λh=>by cases h
 rename_i hc
 have hok:ok=eJ:=by cases ok with
  |true=>rfl
  |false=>exact absurd (.inl rfl) hc
 have hd:d<=10:=by omega
 have hs2:sr<=10:=by omega
 have W:=hw hok;have S:=hst hok;obtain⟨word,b32,d0,s0,K6,n0,label,name⟩:=i;obtain⟨w1,w2,w3,w4,w5,w6,w7⟩:=W;dsimp only[aM]at *;have hE:E0.size<=100:=by decide
 have sA:-1<=(if s0<0 then s0 else(sr:Int)):=by split<;>omega
 have sB:(if s0<0 then s0 else(sr:Int))<=15:=by split<;>omega
 have base:∀(jm:Int) (nn:Int) (wd lb:tBA),-32768<=jm->jm<=32767->0<=nn->nn<18446744073709551616->wd.size<=100->lb.size<=100->(b32=eJ->aF wd=114) ->
   (aF wd=114\/aF wd=106\/(aF wd=108/\0<=(if s0<0 then s0 else(sr:Int)))\/aF wd=115\/aF wd=119\/aF wd=104\/aF wd=99\/aF wd=101) ->
   aK.Fit ⟨wd,b32,(d:Int),if s0<0 then s0 else(sr:Int),jm,nn,lb,name⟩:=by
  intro jm nn wd lb h1 h2 h3 h4 h5 h6 h7 h8;exact⟨by simp,by show(d:Int)<=15;omega,sB,sA,h1,h2,h3,h4,h5,h6,by show name.size<=300;rw[w5];omega,h7,h8⟩
 have hlab:label.size<=100:=by rw[w4];exact hE
 split
 ·rename_i k;exact λ_=>⟨base K6 n word label (by omega) (by omega) bn0 (by omega) (by omega) hlab w6 (.inl k),by show(-32768:Int)<=0;omega,by show(0:Int)<=32767;omega⟩
 split
 ·rename_i k;exact λ_=>⟨base K6 n word label (by omega) (by omega) bn0 (by omega) (by omega) hlab w6 (.inr (.inl k)),bj0,bj1⟩
 split
 ·rename_i k
  refine λ_=>⟨base jump n word label bj0 bj1 bn0 (by omega) (by omega) hlab w6 ?_,by show(-32768:Int)<=0;omega,by show(0:Int)<=32767;omega⟩
  rcases k with k|k
  ·exact .inr (.inr (.inl ⟨k,by have:=w7 k;split<;>omega⟩))
  ·exact .inr (.inr (.inr (.inl k)))
 split
 ·rename_i k
  have hl0:0<=n%4294967296:=by omega
  split
  ·exact λ_=>⟨base K6 0 word label (by omega) (by omega) (by omega) (by omega) (by omega) hlab w6 (.inr (.inr (.inr (.inr (.inl k))))),by show(-32768:Int)<=1;omega,by show(1:Int)<=32767;omega⟩
  ·refine λ_=>⟨base K6 _ word label (by omega) (by omega) ?_ ?_ (by omega) hlab w6 (.inr (.inr (.inr (.inr (.inl k))))),by show(-32768:Int)<=0;omega,by show(0:Int)<=32767;omega⟩
   all_goals
    simp only[IntKind.wrap,IntKind.bits,IntKind.signed,Bool.false_and,Bool.false_eq_true,if_false];omega
 split
 ·rename_i k
  split
  ·refine λ_=>⟨base K6 0 (T [104,101,108,112]) _ (by omega) (by omega) (by omega) (by omega) (by decide) (F8 _) ?_ (.inr (.inr (.inr (.inr (.inr (.inl PM)))))),by show(-32768:Int)<=0;omega,by show(0:Int)<=32767;omega⟩
   intro e;have:=w6 e;omega
  ·exact λ_=>⟨base K6 0 word label (by omega) (by omega) (by omega) (by omega) (by omega) hlab w6 (.inr (.inr (.inr (.inr (.inr (.inr (.inl k))))))),by show(-32768:Int)<=1;omega,by show(1:Int)<=32767;omega⟩
 ·refine λ_=>⟨base K6 n word label (by omega) (by omega) bn0 (by omega) (by omega) hlab w6 ?_,by show(-32768:Int)<=0;omega,by show(0:Int)<=32767;omega⟩
  rcases S with k|k|k |⟨_,k|k|k⟩
  ·exact .inl k
  ·exact .inr (.inl k)
  ·omega
  ·omega
  ·omega
  ·exact .inr (.inr (.inr (.inr (.inr (.inr (.inr k))))))
theorem jB.YI{w0 w w':tW}{fb rb off:Nat}{cs:tAV}{s:tBA}{r:RS}{ls:List aK}{ats js:List Int}{vL vA vJ:eM}(h:jB w0 fb rb off cs s r ls ats js vL vA vJ w) (m:aa (λk=>k=fb\/vL.ownBlock=eC k) w w'):aa (λk=>k=fb\/k=rb) w0 w' :=
 h.md.step m (λk hk e=>e.elim .inl (λe=>by have:=h.fl k e;omega))
def mo(a b:tBA):Bool:=Op.bytesLess a.toList b.toList
def behind(p:Option tBA)(n:tBA):Bool:=match p with
 |none=>eJ
 |some p=>mo p n
def gK(m:dE):Bool:=!(decide (m.key<1)||decide (8<m.key)||decide (m.value<1)||decide (16<m.value)||decide (m.entries<1)||decide (8<m.entries))
def mapsR:Option tBA->List dE->Bool
 |_,[]=>eJ
 |p,m::l=>gK m&&behind p m.name&&mapsR (eC m.name) l
def namesR:Option tBA->List tBA->Bool
 |_,[]=>eJ
 |p,n::l=>behind p n&&namesR (eC n) l
structure jR where
 name:tBA
 slots:Nat
def jR.cells(f:jR):tLV:=[eI f.name,vN,vN,vI f.slots,vN,vN,vI 0,vN]
theorem jR.fI(f:jR):ee f.cells=8:=rfl
def gx(ms:List dE)(fs:List jR):Bool:=decide (ee ms<=8)&&decide (ee fs<=16)&&mapsR ez ms&&namesR ez (fs.map (·.name))
def sJ(ms:List dE)(k:Nat):Option tBA:=if k=0 then ez else(ms[k-1]?).map (·.name)
theorem K7(ms:List dE)(k:Nat)(h:k<ee ms):mapsR (sJ ms k) (ms.drop k)=(gK ms[k]&&behind (sJ ms k) ms[k].name&&mapsR (sJ ms (k+1)) (ms.drop (k+1))):=by
 rw[ar h,mapsR];have:sJ ms (k+1)=eC ms[k].name:=by simp[sJ,h]
 rw[this]
theorem IE(ns:List tBA)(k:Nat)(h:k+1<ee ns):namesR (eC ns[k]) (ns.drop (k+1))=(mo ns[k] ns[k+1]&&namesR (eC ns[k+1]) (ns.drop (k+2))):=by rw[ar h,namesR];rfl
theorem Sl.XR{w:tW}{v:eM}{n:Nat}{fs:List jR}{o:Option Addr}{cap:Nat}(h:Sl w 43 8 v n (fs.flatMap jR.cells))(hn:n=ee fs)(hv:v=eK o n cap):∀k (_:k<ee fs),∃g,o=eC ⟨g,0,ez⟩/\∀j (hj:j<ee fs),w.cell? ⟨g,j*8,ez⟩=eC (eI fs[j].name):=by intro k hk;obtain⟨o',cap',rfl,h2⟩:=h.view;cases hv;obtain⟨g,cs,rfl,hb,ht,_⟩:=h2 (by omega);subst hn;refine⟨g,rfl,λj hj=>?_⟩;rw[aX hb ht _ (by omega)];exact flat_get jR.cells 8 jR.fI fs j 0 hj (by omega)
theorem K8(pb:Nat)(ms:List dE)(fs:List jR)(vM vF:eM)(w:tW)(hp:ak w pb #[vM,vF] 34)(sM:Sl w 129 4 vM (ee ms) (ms.flatMap dE.cells)) (sF:Sl w 43 8 vF (ee fs) (fs.flatMap jR.cells)) (hm:ee ms<=1000) (hf:ee fs<=1000):fL prog 47 #[vP pb] w λe w'=>e=fR (fS (gx ms fs))/\aa ah w w':=by
 obtain⟨oM,cM,rfl,_⟩:=sM.view;obtain⟨oF,cF,rfl,_⟩:=sF.view;have p0:=hp.c0;have p1:=hp.c1;by_cases h8:ee ms<=8
 case neg =>
  have HR:af (gx ms fs=eE):=by simp[af,gx,h8]
  have h8':(8:Int)<(ee ms:Int):=by omega
  go_in;go_wp2_with fail;go_ret;exact⟨by rw[HR.o];rfl,aA⟩
 by_cases h16:ee fs<=16
 case neg =>
  have HR:af (gx ms fs=eE):=by simp[af,gx,h16]
  have h8':decide ((8:Int)<(ee ms:Int))=eE:=decide_eq_false (by omega);have afT:(16:Int)<(ee fs:Int):=by omega
  go_in;go_wp2_with fail;go_ret;exact⟨by rw[HR.o];rfl,aA⟩
 have HR:af (gx ms fs=(mapsR ez ms&&namesR ez (fs.map (·.name)))):=by simp[af,gx,h8,h16]
 go_in;go_wp2_with fail;go_loopg [3] (ee ms) (λg kv wr=>∃k:Nat,k<=ee ms/\kv=vI k/\g=ee ms-k/\aa ah w wr/\mapsR (sJ ms k) (ms.drop k)=mapsR ez ms)
 case atStart=>exact⟨0,Nat.zero_le _,rfl,rfl,aA,rfl⟩
 case round =>
  obtain⟨k,hk,rfl,rfl,hmd,hrl⟩:=hrel;have UH:af _:=hrl;clear hrl;have YJ:=hp.ae hmd (λe=>e);have sMW:=sM.ae hmd (λ_ _ e=>e);have sFW:=sF.ae hmd (λ_ _ e=>e);have p0:=YJ.c0;have p1:=YJ.c1;have lp:=YJ.lt;by_cases hkl:k<ee ms
  ·obtain⟨gM,rfl,cells⟩:=sMW.at4 rfl rfl k hkl;obtain⟨c0,c1,c2,c3⟩:=cells k hkl;have aaK:0<k->wr.cell? ⟨gM,(k-1)*4,ez⟩=eC (eI (ms[k-1]'(by omega)).name):=λh0=>(cells (k-1) (by omega)).1;have lM:=sMW.lt gM rfl;clear cells;have HD:af (_=_):=K7 ms k hkl;have HC:af (_=_):=UH.o.symm.trans HD.o;have HPV:af (0<k->sJ ms k=eC (ms[k-1]'(by omega)).name):=λh0=>by rw[sJ,iN9 (by omega),List.getElem?_eq_getElem (by omega)];rfl
   have HPZ:af (k=0->sJ ms k=ez):=λh0=>by rw[sJ,iP9 h0]
   clear UH HD;generalize sJ ms k=pv at *;generalize hmk:ms[k]=mk at *;obtain⟨nm,ky,vl,en⟩:=mk;simp only at c0 c1 c2 c3;have pW:af _:=hmk;clear hmk;go_upto_region 7 with fail;go_cut [81] (λs81 wx=>s81=fS (!(gK ⟨nm,ky,vl,en⟩&&behind pv nm))/\aa ah w wx)
   case first =>
    by_cases t0:ky<1
    ·have HV:af ((!(gK ⟨nm,ky,vl,en⟩&&behind pv nm))=eJ):=by simp[af,gK,t0]
     clear HC;go_quiet (fail);go_wp2_with fail;go_meet;exact⟨by rw[HV.o],(hmd.alloc _).drewN _⟩
    have d0:=decide_eq_false t0;by_cases t1:8<ky
    ·have HV:af ((!(gK ⟨nm,ky,vl,en⟩&&behind pv nm))=eJ):=by simp[af,gK,t0,t1]
     clear HC;go_quiet (fail);go_wp2_with fail;go_meet;exact⟨by rw[HV.o],(hmd.alloc _).drewN _⟩
    have d1:=decide_eq_false t1;by_cases t2:vl<1
    ·have HV:af ((!(gK ⟨nm,ky,vl,en⟩&&behind pv nm))=eJ):=by simp[af,gK,t0,t1,t2]
     clear HC;go_quiet (fail);go_wp2_with fail;go_meet;exact⟨by rw[HV.o],(hmd.alloc _).drewN _⟩
    have d2:=decide_eq_false t2;by_cases t3:16<vl
    ·have HV:af ((!(gK ⟨nm,ky,vl,en⟩&&behind pv nm))=eJ):=by simp[af,gK,t0,t1,t2,t3]
     clear HC;go_quiet (fail);go_wp2_with fail;go_meet;exact⟨by rw[HV.o],(hmd.alloc _).drewN _⟩
    have d3:=decide_eq_false t3;by_cases t4:en<1
    ·have HV:af ((!(gK ⟨nm,ky,vl,en⟩&&behind pv nm))=eJ):=by simp[af,gK,t0,t1,t2,t3,t4]
     clear HC;go_quiet (fail);go_wp2_with fail;go_meet;exact⟨by rw[HV.o],(hmd.alloc _).drewN _⟩
    have d4:=decide_eq_false t4;by_cases t5:8<en
    ·have HV:af ((!(gK ⟨nm,ky,vl,en⟩&&behind pv nm))=eJ):=by simp[af,gK,t0,t1,t2,t3,t4,t5]
     clear HC;go_quiet (fail);go_wp2_with fail;go_meet;exact⟨by rw[HV.o],(hmd.alloc _).drewN _⟩
    have d5:=decide_eq_false t5;by_cases hk0:k=0
    ·have e0:=HPZ.o hk0;subst e0;have HV:af ((!(gK ⟨nm,ky,vl,en⟩&&behind ez nm))=eE):=by simp[af,gK,behind,t0,t1,t2,t3,t4,t5]
     have dk:decide ((0:Int)<(k:Int))=eE:=decide_eq_false (by omega);have dk2:decide (0<k)=eE:=decide_eq_false (by omega);have YK:af _:=hk0;clear hk0;go_quiet (fail);go_wp2_with fail;go_meet;exact⟨by rw[HV.o],(hmd.alloc _).drewN _⟩
    ·have e0:=HPV.o (by omega);have cp:=aaK (by omega);have dk:(0:Int)<(k:Int):=by omega
     have dk2:0<k:=by omega
     have hkc:((k:Int)-1)=((k-1:Nat):Int):=by omega
     generalize(ms[k-1]'(by omega)).name=pn at *;subst e0;have HV:af ((!(gK ⟨nm,ky,vl,en⟩&&behind (eC pn) nm))=!(Op.bytesLess pn.toList nm.toList)):=by simp[af,gK,behind,mo,t0,t1,t2,t3,t4,t5]
     clear aaK;go_quiet (fail);go_wp2_with fail;go_meet;exact⟨by rw[HV.o],(hmd.alloc _).drewN _⟩
   case rest =>
   obtain⟨rfl,acJ⟩:=hcut;cases hb:(gK ⟨nm,ky,vl,en⟩&&behind pv nm)with
   |false =>
    have HF:af (mapsR ez ms=eE):=by rw[af,HC.o,hb];rfl
    clear HC;simp only[Bool.not_false];go_wp2_with fail;go_ret;exact⟨by rw[HR.o,HF.o];rfl,acJ⟩
   |true =>
    have HC2:af (mapsR (sJ ms (k+1)) (ms.drop (k+1))=mapsR ez ms):=by rw[af,HC.o,hb];rfl
    clear HC;simp only[Bool.not_true];go_wp2_with fail;go_roundg (ee ms-(k+1))
    case measure=>omega
    case rel=>exact⟨k+1,by omega,by go_num,rfl,acJ,HC2.o⟩
  ·obtain rfl:k=ee ms:=by omega
   have Po:af (mapsR ez ms=eJ):=by rw[af,<-UH.o,List.drop_length];rfl
   clear UH;go_wp2_with fail;go_loopg [5] (ee fs) (λg kv wx=>∃k:Nat,kv=vI (k+1:Nat)/\g=ee fs-k/\(k=0\/k<ee fs)/\aa ah w wx/\(∀(h:k<ee fs),namesR (eC fs[k].name) ((fs.map (·.name)).drop (k+1))=namesR ez (fs.map (·.name))))
   case atStart =>
    refine⟨0,rfl,rfl,.inl rfl,hmd,λh=>?_⟩;cases fs with
    |nil=>simp at h
    |cons f l=>rfl
   case round =>
    obtain⟨k,rfl,rfl,hk,UI,hrl⟩:=hrel;have UH:af _:=hrl;clear hrl p0 p1;have YJ:=hp.ae UI (λe=>e);have sFW:=sF.ae UI (λ_ _ e=>e);have p1:=YJ.c1;by_cases hkl:k+1<ee fs
    ·obtain⟨gF,rfl,cells⟩:=sFW.XR rfl rfl k (by omega);have d0:=cells k (by omega);have d1:=cells (k+1) (by omega);clear cells;have HD:=IE (fs.map (·.name)) k (by simpa using hkl);simp only[List.getElem_map]at HD;have HD2:af _:=HD;clear HD;have hki:(k:Int)+1<(ee fs:Int):=by omega
     cases hb:Op.bytesLess (fs[k]'(by omega)).name.toList fs[k+1].name.toList with
     |true =>
      have HC:af (namesR (eC fs[k+1].name) ((fs.map (·.name)).drop (k+2))=namesR ez (fs.map (·.name))):=by rw[af,<-UH.o (by omega),HD2.o];simp[mo,hb]
      go_wp2_with fail;go_quiet (fail);go_wp2_with fail;go_roundg (ee fs-(k+1))
      case measure=>omega
      case rel=>exact⟨k+1,by go_num,rfl,.inr (by omega),UI.drewN _,λ_=>HC.o⟩
     |false =>
      have HC:af (namesR ez (fs.map (·.name))=eE):=by rw[af,<-UH.o (by omega),HD2.o];simp[mo,hb]
      go_wp2_with fail;go_quiet (fail);go_wp2_with fail;go_ret;exact⟨by rw[HR.o,Po.o,HC.o];rfl,UI.drewN _⟩
    ·have HF:af (namesR ez (fs.map (·.name))=eJ):=by
      by_cases h0:k<ee fs
      ·rw[af,<-UH.o h0,List.drop_eq_nil_of_le (by simp;omega)];rfl
      ·obtain rfl:=List.length_eq_zero_iff.1 (show ee fs=0 by omega);rfl
     have hki:¬((k:Int)+1<(ee fs:Int)):=by omega
     go_wp2_with fail;go_ret;exact⟨by rw[HR.o,Po.o,HF.o];rfl,UI⟩
structure mr(w0:tW)(fb off:Nat)(cs:tAV)(vL vA vJ:eM)(ats js:List Int)(ls:List aK)(bs:List tBA)(ps:List Int)(vB vP:eM)(w:tW):Prop where
 fn:ak w fb ((cs.setIfInBounds (off+4) vB).setIfInBounds (off+5) vP) 43
 sl:Sl w 197 8 vL (ee ls) (pz ls)
 sa:Sl w 3 1 vA (ee ats) (jW ats)
 sj:Sl w 3 1 vJ (ee js) (jW js)
 sb:Sl w 9 1 vB (ee bs) (FW bs)
 sp:Sl w 3 1 vP (ee ps) (jW ps)
 PN:∀k,vB.ownBlock=eC k->w0.heap.size<=k
 fp':∀k,vP.ownBlock=eC k->w0.heap.size<=k
 bp:∀k,vB.ownBlock=eC k->vP.ownBlock≠eC k
 md:aa (λk=>k=fb\/vL.ownBlock=eC k) w0 w
theorem Sl.setAt{w:tW}{e:gh}{size:Nat}{g n cap:Nat}{xs:tLV}(h:Sl w e size (eK (eC ⟨g,0,ez⟩) n cap) n xs)(j:Nat)(u:eM)(_hj:j<n*size):Sl (w.setCell ⟨g,j,ez⟩ u) e size (eK (eC ⟨g,0,ez⟩) n cap) n (xs.set j u):=by
 refine⟨by rw[List.length_set];exact h.1,?_⟩;rcases h.2 with⟨h',_⟩ |⟨g',cap',cur,h',h0,hg,hn,hm,hs,ht⟩
 ·cases h'
 ·cases h';refine .inr ⟨g,cap,cur.setIfInBounds j u,rfl,h0,ak.set (t:=e) hg j u,hn,hm,by simpa using hs,?_⟩;rw[Array.toList_setIfInBounds,<-ht,List.take_set]
theorem UJ(ls:List aK)(k:Nat)(hk:k<ee ls)(x:tBA):(pz ls).set (k*8+6) (eI x)=pz (ls.set k {ls[k]with label:=x}):=by
 induction ls generalizing k with
 |nil=>simp at hk
 |cons i ls ih =>
  cases k with
  |zero=>simp[pz,aK.di,aK.cells]
  |succ k =>
   have hk':k<ee ls:=by simpa using hk
   have:=ih k hk';simp only[pz,List.flatMap_cons,List.set_cons_succ,List.getElem_cons_succ]at this ⊢;rw[List.set_append_right _ _ (by rw[aK.qL];omega),aK.qL,show(k+1)*8+6-8=k*8+6 by omega,this]
section
variable {w0 w w' : World} {fb off : Nat} {cs : Array Value} {vL vA vJ : eM} {ats js : List Int} {ls XT : List aK} {bs : List ByteArray} {ps : List Int} {vB vP : eM}
theorem mr.quiet(h:mr w0 fb off cs vL vA vJ ats js ls bs ps vB vP w)(m:aa ah w w'):mr w0 fb off cs vL vA vJ ats js ls bs ps vB vP w' :=
 ⟨h.fn.ae m (λe=>e),h.sl.ae m (λ_ _ e=>e),h.sa.ae m (λ_ _ e=>e),h.sj.ae m (λ_ _ e=>e),h.sb.ae m (λ_ _ e=>e),h.sp.ae m (λ_ _ e=>e),h.PN,h.fp',h.bp,h.md.trans m.of_nil⟩
theorem nD.start(p:nD w fb off cs vL vA vJ ls ats js):mr w fb off cs vL vA vJ ats js ls [] [] (vN) (vN) w:=by
 refine⟨?_,p.sl,p.sa,p.sj,Sl.nil _ _ _,Sl.nil _ _ _,λk h=>by simp[Value.ownBlock]at h,λk h=>by simp[Value.ownBlock]at h,λk h=>by simp[Value.ownBlock]at h,aA⟩
 have e:((cs.setIfInBounds (off+4) (vN)).setIfInBounds (off+5) (vN))=cs:=by
  have hs:=p.sz;apply Array.ext_getElem?;intro i;rw[Array.getElem?_setIfInBounds,Array.getElem?_setIfInBounds];simp only[Array.size_setIfInBounds];split
  ·rename_i e;subst e;rw[p.c5];simp;omega
  ·split
   ·rename_i e;subst e;rw[p.c4];simp;omega
   ·rfl
 rw[e];exact p.fn
theorem mr.cells(h:mr w0 fb off cs vL vA vJ ats js ls bs ps vB vP w)(p:nD w0 fb off cs vL vA vJ XT ats js):w.cell? ⟨fb,off+1,ez⟩=eC vL/\w.cell? ⟨fb,off+2,ez⟩=eC vA/\w.cell? ⟨fb,off+4,ez⟩=eC vB/\w.cell? ⟨fb,off+5,ez⟩=eC vP/\∀j,w.frozen? ⟨fb,j,ez⟩=eE:=by
 have hs:=p.sz;refine⟨?_,?_,?_,?_,h.fn.frozen⟩
 ·rw[h.fn.cell,Array.getElem?_setIfInBounds_ne (by omega),Array.getElem?_setIfInBounds_ne (by omega)];exact p.c1
 ·rw[h.fn.cell,Array.getElem?_setIfInBounds_ne (by omega),Array.getElem?_setIfInBounds_ne (by omega)];exact p.c2
 ·rw[h.fn.cell,Array.getElem?_setIfInBounds_ne (by omega),Array.getElem?_setIfInBounds_self_of_lt (by omega)]
 ·rw[h.fn.cell,Array.getElem?_setIfInBounds_self_of_lt (by simp;omega)]
theorem mr.name{gL n cL:Nat}(h:mr w0 fb off cs (eK (eC ⟨gL,0,ez⟩) n cL) vA vJ ats js ls bs ps vB vP w)(p:nD w0 fb off cs (eK (eC ⟨gL,0,ez⟩) n cL) vA vJ XT ats js)(hn:n=ee ls)(k:Nat)(hk:k<ee ls)(x:tBA):mr w0 fb off cs (eK (eC ⟨gL,0,ez⟩) n cL) vA vJ ats js (ls.set k {ls[k]with label:=x}) bs ps vB vP (w.setCell ⟨gL,k*8+6,ez⟩ (eI x)):=by
 have hl0:=p.sl.lt gL rfl;have hms:aa (Only gL) w (w.setCell ⟨gL,k*8+6,ez⟩ (eI x)):=(aa.refl (Only gL) w).bz _ _;have hgf:gL≠fb:=λe=>p.fl (by rw[<-e];rfl);refine⟨?_,?_,?_,?_,?_,?_,h.PN,h.fp',h.bp,?_⟩
 ·exact h.fn.setOther (a:=⟨gL,k*8+6,ez⟩) hgf _
 ·subst hn;have:=h.sl.setAt (k*8+6) (eI x) (by omega);rw[UJ ls k hk]at this;rw[List.length_set];exact this
 ·exact h.sa.ae hms (λk hk e=>p.la gL rfl (by rw[<-show k=gL from e];exact hk))
 ·exact h.sj.ae hms (λk hk e=>p.lj gL rfl (by rw[<-show k=gL from e];exact hk))
 ·exact h.sb.ae hms (λk hk e=>by have:=h.PN k hk;rw[show k=gL from e]at this;omega)
 ·exact h.sp.ae hms (λk hk e=>by have:=h.fp' k hk;rw[show k=gL from e]at this;omega)
 ·exact h.md.set (a:=⟨gL,k*8+6,ez⟩) (.inl (.inr rfl)) _
theorem mr.mid(h:mr w0 fb off cs vL vA vJ ats js ls bs ps vB vP w)(p:nD w0 fb off cs vL vA vJ XT ats js){v:eM}(hv:v=vB\/v=vP){w1:tW}(m1:aa ah w w1)(m:aa (λk=>v.ownBlock=eC k) w1 w'):w'.cell? ⟨fb,off+4,ez⟩=eC vB/\w'.cell? ⟨fb,off+5,ez⟩=eC vP/\∀j,w'.frozen? ⟨fb,j,ez⟩=eE:=by
 have hs:=p.sz;have hlt:=p.fn.lt
 have hb:¬v.ownBlock=eC fb:=by
  rcases hv with rfl|rfl
  ·exact λe=>by have:=h.PN _ e;omega
  ·exact λe=>by have:=h.fp' _ e;omega
 have h1:=(h.fn.ae m1 (λe=>e)).ae m hb;refine⟨?_,?_,h1.frozen⟩
 ·rw[h1.cell,Array.getElem?_setIfInBounds_ne (by omega),Array.getElem?_setIfInBounds_self_of_lt (by omega)]
 ·rw[h1.cell,Array.getElem?_setIfInBounds_self_of_lt (by simp;omega)]
theorem mr.aer(h:mr w0 fb off cs vL vA vJ ats js ls bs ps vB vP w)(p:nD w0 fb off cs vL vA vJ XT ats js){x:tBA}{v':eM}(sl:Sl w' 9 1 v' (ee bs+1) (FW bs++[eI x]))(m:aa (λk=>vB.ownBlock=eC k) w w') (loc:∀k,v'.ownBlock=eC k->vB.ownBlock=eC k\/w.heap.size<=k):mr w0 fb off cs vL vA vJ ats js ls (bs++[x]) ps v' vP (w'.setCell ⟨fb,off+4,ez⟩ v'):=by
 have hlt:=p.fn.lt;have hsz:=h.md.size;have nf:=λk hk=>(loc k hk).elim (h.PN k) (λe=>by omega);have hms:aa (Only fb) w' (w'.setCell ⟨fb,off+4,ez⟩ v'):=(aa.refl (Only fb) w').bz _ _;have hb:¬vB.ownBlock=eC fb:=λe=>by have:=h.PN _ e;omega
 refine⟨?_,?_,?_,?_,?_,?_,nf,h.fp',?_,?_⟩
 ·have h1:=(h.fn.ae m hb).set (off+4) v';have e:((cs.setIfInBounds (off+4) vB).setIfInBounds (off+5) vP).setIfInBounds (off+4) v'=(cs.setIfInBounds (off+4) v').setIfInBounds (off+5) vP:=by rw[ao _ _ (by omega),ab,ao _ _ (by omega)]
  rw[e]at h1;exact h1
 ·exact(h.sl.ae m (λk hk e=>by have:=h.PN k e;have:=p.sl.lt k hk;omega)).ae hms (λk hk e=>p.fl (by rw[<-show k=fb from e];exact hk))
 ·exact(h.sa.ae m (λk hk e=>by have:=h.PN k e;have:=p.sa.lt k hk;omega)).ae hms (λk hk e=>p.fa (by rw[<-show k=fb from e];exact hk))
 ·exact(h.sj.ae m (λk hk e=>by have:=h.PN k e;have:=p.sj.lt k hk;omega)).ae hms (λk hk e=>p.fj (by rw[<-show k=fb from e];exact hk))
 ·have e:FW (bs++[x])=FW bs++[eI x]:=by simp[FW]
  rw[an,e];exact sl.ae hms (λk hk e=>by have:=nf k hk;rw[show k=fb from e]at this;omega)
 ·exact(h.sp.ae m (λk hk e=>h.bp k e hk)).ae hms (λk hk e=>by have:=h.fp' k hk;rw[show k=fb from e]at this;omega)
 ·exact λk hk e=>(loc k hk).elim (λe1=>h.bp k e1 e) (λe1=>by have:=h.sp.lt k e;omega)
 ·exact(h.md.step m (λk hk e=>by have:=h.PN k e;omega)).set (a:=⟨fb,off+4,ez⟩) (.inl (.inl rfl)) _
theorem mr.aes(h:mr w0 fb off cs vL vA vJ ats js ls bs ps vB vP w)(p:nD w0 fb off cs vL vA vJ XT ats js){x:Int}{v':eM}(sl:Sl w' 3 1 v' (ee ps+1) (jW ps++[vI x]))(m:aa (λk=>vP.ownBlock=eC k) w w') (loc:∀k,v'.ownBlock=eC k->vP.ownBlock=eC k\/w.heap.size<=k):mr w0 fb off cs vL vA vJ ats js ls bs (ps++[x]) vB v' (w'.setCell ⟨fb,off+5,ez⟩ v'):=by
 have hlt:=p.fn.lt;have hsz:=h.md.size;have nf:=λk hk=>(loc k hk).elim (h.fp' k) (λe=>by omega);have hms:aa (Only fb) w' (w'.setCell ⟨fb,off+5,ez⟩ v'):=(aa.refl (Only fb) w').bz _ _;have hb:¬vP.ownBlock=eC fb:=λe=>by have:=h.fp' _ e;omega
 refine⟨?_,?_,?_,?_,?_,?_,h.PN,nf,?_,?_⟩
 ·have h1:=(h.fn.ae m hb).set (off+5) v';rw[ab]at h1;exact h1
 ·exact(h.sl.ae m (λk hk e=>by have:=h.fp' k e;have:=p.sl.lt k hk;omega)).ae hms (λk hk e=>p.fl (by rw[<-show k=fb from e];exact hk))
 ·exact(h.sa.ae m (λk hk e=>by have:=h.fp' k e;have:=p.sa.lt k hk;omega)).ae hms (λk hk e=>p.fa (by rw[<-show k=fb from e];exact hk))
 ·exact(h.sj.ae m (λk hk e=>by have:=h.fp' k e;have:=p.sj.lt k hk;omega)).ae hms (λk hk e=>p.fj (by rw[<-show k=fb from e];exact hk))
 ·exact(h.sb.ae m (λk hk e=>h.bp k hk e)).ae hms (λk hk e=>by have:=h.PN k hk;rw[show k=fb from e]at this;omega)
 ·have e:jW (ps++[x])=jW ps++[vI x]:=by simp[jW]
  rw[an,e];exact sl.ae hms (λk hk e=>by have:=nf k hk;rw[show k=fb from e]at this;omega)
 ·exact λk hk e=>(loc k e).elim (λe1=>h.bp k hk e1) (λe1=>by have:=h.sb.lt k hk;omega)
 ·exact(h.md.step m (λk hk e=>by have:=h.fp' k e;omega)).set (a:=⟨fb,off+5,ez⟩) (.inl (.inl rfl)) _
end

def rdMaps(s:tBA):Nat->RS->List dE->List dE×RS
 |0,r,acc=>(acc,r)
 |k+1,r,acc=>if r.bad=eJ then(acc,r)else
  rdMaps s k (rb s (rb s (rb s (ow s r).2).2).2).2 (acc++[⟨(ow s r).1,(rb s (ow s r).2).1,(rb s (rb s (ow s r).2).2).1,(rb s (rb s (rb s (ow s r).2).2).2).1⟩])
def rdFns(s:tBA):Nat->RS->List jR->Nat->List jR×Nat×RS
 |0,r,acc,t=>(acc,t,r)
 |k+1,r,acc,t=>if r.bad=eJ then(acc,t,r)else
  rdFns s k (mX s (ow s r).2).2 (acc++[⟨(ow s r).1,(mX s (ow s r).2).1⟩]) (t+(mX s (ow s r).2).1)
structure mE(w0:tW)(pb qz:Nat)(s:tBA)(r:RS)(ms:List dE)(fs:List jR)(vM vF:eM)(w:tW):Prop where
 rd:bH w qz s r
 pg:ak w pb #[vM,vF] 34
 sm:Sl w 129 4 vM (ee ms) (ms.flatMap dE.cells)
 sf:Sl w 43 8 vF (ee fs) (fs.flatMap jR.cells)
 fm:∀k,vM.ownBlock=eC k->pb<k
 ff:∀k,vF.ownBlock=eC k->pb<k
 mf:∀k,vM.ownBlock=eC k->vF.ownBlock≠eC k
 rp:qz<pb
 YW:w0.heap.size<=qz
 md:aa ah w0 w
section
variable {w0 w w' : World} {pb qz : Nat} {s : ByteArray} {r r' : RS} {ms : List dE} {fs : List jR} {vM vF : eM}
theorem mE.quiet(h:mE w0 pb qz s r ms fs vM vF w)(m:aa ah w w'):mE w0 pb qz s r ms fs vM vF w' :=
 ⟨ak.ae h.rd m (λe=>e),h.pg.ae m (λe=>e),h.sm.ae m (λ_ _ e=>e),h.sf.ae m (λ_ _ e=>e),h.fm,h.ff,h.mf,h.rp,h.YW,h.md.trans m⟩
theorem mE.read(h:mE w0 pb qz s r ms fs vM vF w)(m:aa (Only qz) w w')(hr:bH w' qz s r'):mE w0 pb qz s r' ms fs vM vF w':=by
 have hrp:=h.rp;have h0:=h.YW
 exact⟨hr,h.pg.ae m (λe=>by have:pb=qz:=e;omega),h.sm.ae m (λk hk e=>by have:=h.fm k hk;rw[show k=qz from e]at this;omega),h.sf.ae m (λk hk e=>by have:=h.ff k hk;rw[show k=qz from e]at this;omega),h.fm,h.ff,h.mf,h.rp,h.YW,
  h.md.step m (λk hk e=>by have:k=qz:=e;omega)⟩
theorem mE.aeY(h:mE w0 pb qz s r ms fs vM vF w){x:dE}{v':eM}(sl:Sl w' 129 4 v' (ee ms+1) (ms.flatMap dE.cells++x.cells))(m:aa (λk=>vM.ownBlock=eC k) w w') (loc:∀k,v'.ownBlock=eC k->vM.ownBlock=eC k\/w.heap.size<=k):mE w0 pb qz s r (ms++[x]) fs v' vF (w'.setCell ⟨pb,0,ez⟩ v'):=by
 have hrp:=h.rp;have h0:=h.YW;have hpl:=h.pg.lt;have nf:=λk hk=>(loc k hk).elim (h.fm k) (λe=>by omega);have hms:aa (Only pb) w' (w'.setCell ⟨pb,0,ez⟩ v'):=(aa.refl (Only pb) w').bz _ _;have hb:¬vM.ownBlock=eC pb:=λe=>by have:=h.fm _ e;omega
 have hb2:¬vM.ownBlock=eC qz:=λe=>by have:=h.fm _ e;omega
 refine⟨(ak.ae h.rd m hb2).setOther (a:=⟨pb,0,ez⟩) (show pb≠qz by omega) _,(h.pg.ae m hb).set 0 v',?_,?_,nf,h.ff,?_,h.rp,h.YW,?_⟩
 ·have e:(ms++[x]).flatMap dE.cells=ms.flatMap dE.cells++x.cells:=by simp
  rw[an,e];exact sl.ae hms (λk hk e=>by have:=nf k hk;rw[show k=pb from e]at this;omega)
 ·exact(h.sf.ae m (λk hk e=>h.mf k e hk)).ae hms (λk hk e=>by have:=h.ff k hk;rw[show k=pb from e]at this;omega)
 ·exact λk hk e=>(loc k hk).elim (λe1=>h.mf k e1 e) (λe1=>by have:=h.sf.lt k e;omega)
 ·exact(h.md.step m (λk hk e=>by have:=h.fm k e;omega)).set (a:=⟨pb,0,ez⟩) (.inr (by show w0.heap.size<=pb;omega)) _
theorem mE.aeZ(h:mE w0 pb qz s r ms fs vM vF w){x:jR}{v':eM}(sl:Sl w' 43 8 v' (ee fs+1) (fs.flatMap jR.cells++x.cells))(m:aa (λk=>vF.ownBlock=eC k) w w') (loc:∀k,v'.ownBlock=eC k->vF.ownBlock=eC k\/w.heap.size<=k):mE w0 pb qz s r ms (fs++[x]) vM v' (w'.setCell ⟨pb,1,ez⟩ v'):=by
 have hrp:=h.rp;have h0:=h.YW;have hpl:=h.pg.lt;have nf:=λk hk=>(loc k hk).elim (h.ff k) (λe=>by omega);have hms:aa (Only pb) w' (w'.setCell ⟨pb,1,ez⟩ v'):=(aa.refl (Only pb) w').bz _ _;have hb:¬vF.ownBlock=eC pb:=λe=>by have:=h.ff _ e;omega
 have hb2:¬vF.ownBlock=eC qz:=λe=>by have:=h.ff _ e;omega
 refine⟨(ak.ae h.rd m hb2).setOther (a:=⟨pb,1,ez⟩) (show pb≠qz by omega) _,(h.pg.ae m hb).set 1 v',?_,?_,h.fm,nf,?_,h.rp,h.YW,?_⟩
 ·exact(h.sm.ae m (λk hk e=>h.mf k hk e)).ae hms (λk hk e=>by have:=h.fm k hk;rw[show k=pb from e]at this;omega)
 ·have e:(fs++[x]).flatMap jR.cells=fs.flatMap jR.cells++x.cells:=by simp
  rw[an,e];exact sl.ae hms (λk hk e=>by have:=nf k hk;rw[show k=pb from e]at this;omega)
 ·exact λk hk e=>(loc k e).elim (λe1=>h.mf k hk e1) (λe1=>by have:=h.sm.lt k hk;omega)
 ·exact(h.md.step m (λk hk e=>by have:=h.ff k e;omega)).set (a:=⟨pb,1,ez⟩) (.inr (by show w0.heap.size<=pb;omega)) _
theorem mE.YX(h:mE w0 pb qz s r ms fs vM vF w){a:Addr}(h1:a.block≠qz)(h2:a.block≠pb)(h3:vM.ownBlock≠eC a.block)(h4:vF.ownBlock≠eC a.block)(h5:w0.heap.size<=a.block)(v:eM):mE w0 pb qz s r ms fs vM vF (w.setCell a v):=by have hms:=(aa.refl (Only a.block) w).set (a:=a) (.inl (show a.block=a.block from rfl)) v;exact⟨ak.setOther h.rd h1 v,h.pg.setOther h2 v,h.sm.ae hms (λk hk e=>h3 (by rw[<-show k=a.block from e];exact hk)),h.sf.ae hms (λk hk e=>h4 (by rw[<-show k=a.block from e];exact hk)),h.fm,h.ff,h.mf,h.rp,h.YW,h.md.set (a:=a) (.inr h5) v⟩
theorem mE.acV(h:mE w0 pb qz s r ms fs vM vF w){v:eM}(hv:v=vM\/v=vF){w1:tW}(m1:aa ah w w1)(m:aa (λk=>v.ownBlock=eC k) w1 w'):w'.cell? ⟨pb,0,ez⟩=eC vM/\w'.cell? ⟨pb,1,ez⟩=eC vF/\∀j,w'.frozen? ⟨pb,j,ez⟩=eE:=by
 have hb:¬v.ownBlock=eC pb:=by
  rcases hv with rfl|rfl
  ·exact λe=>by have:=h.fm _ e;omega
  ·exact λe=>by have:=h.ff _ e;omega
 have h1:=(h.pg.ae m1 (λe=>e)).ae m hb;exact⟨h1.cell 0,h1.cell 1,h1.frozen⟩
end
structure XX(size:Nat)(cs:tAV)(cap n:Nat)(xs:tLV):Prop where
 nc:n<=cap
 cm:cap<=maxLen
 sz:cs.size=cap*size
 tk:cs.toList.take (n*size)=xs
 ln:ee xs=n*size
theorem XX.sl{size:Nat}{cs:tAV}{cap n:Nat}{xs:tLV}(h:XX size cs cap n xs){w:tW}{g:Nat}{e:gh}(hb:ak w g cs e):Sl w e size (eK (eC ⟨g,0,ez⟩) n cap) n xs :=
 ⟨h.ln,.inr ⟨g,cap,cs,rfl,Nat.zero_le _,hb,h.nc,h.cm,h.sz,h.tk⟩⟩
theorem Sl.blk{w:tW}{e:gh}{size g n cap:Nat}{xs:tLV}(h:Sl w e size (eK (eC ⟨g,0,ez⟩) n cap) n xs):∃cs,ak w g cs e/\XX size cs cap n xs:=by
 rcases h.2 with⟨h',_⟩ |⟨g',cap',cur,h',_,hg,hn,hm,hs,ht⟩
 ·cases h'
 ·cases h';exact⟨cur,hg,hn,hm,hs,ht,h.1⟩
theorem XX.get{size:Nat}{cs:tAV}{cap n:Nat}{xs:tLV}(h:XX size cs cap n xs)(j:Nat)(hj:j<n*size):cs[j]?=xs[j]?:=by rw[<-h.tk,List.getElem?_take,iP9 hj];simp
theorem IL(s:tBA):∀(n:Nat) (r:RS) (acc:List jR) (t:Nat),(∀f∈acc,f.slots<=t)->∀f∈(rdFns s n r acc t).1,f.slots<=(rdFns s n r acc t).2.1
 |0,_,_,_,h=>h
 |n+1,r,acc,t,h=>by
  rw[rdFns];split
  ·exact h
  ·refine IL s n _ _ _ (λf hf=>?_);rcases List.mem_append.1 hf with hf|hf
   ·have:=h f hf;omega
   ·rw[List.mem_singleton.1 hf];simp
def oH(l:List Bool):tAV:=(l.map Value.bool).toArray
theorem EP:(prog.info? 4).map (λi=>(i.zero,i.size,i.bytes))=eC (eC (fS eE),1,1):=by kernel_rfl
theorem P6(n:Nat):pA #[fS eE] n=oH (List.replicate n eE):=by
 apply Array.ext_getElem?;intro i;by_cases h:i<n
 ·simp[pA,oH,h,Nat.mod_one]
 ·simp[pA,oH,h]
theorem P7(l:List Bool)(k:Nat)(b:Bool):(oH l).setIfInBounds k (fS b)=oH (l.set k b):=by simp[oH,List.map_set]
