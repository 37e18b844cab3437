import Derived.Test.YtmajaohgiilelaaGreatDoorC34
namespace Go.Proofs.YtmajaohgiilelaaGreatDoor
open Go.RowKit
open _root_.Array renaming toList_extract->ch
open Bool renaming and_eq_true->an,not_eq_true'->bh,or_eq_false_iff->cx
open Int renaming ofNat->cy
open List renaming takeWhile_cons->ao,drop_eq_nil_of_le->ar,length_cons->bj,length_drop->bt,take_succ_cons->b9,extract_eq_take_drop->ca,drop_drop->cb,take_append_drop->cc,takeWhile_append_dropWhile->cd,length_append->cr,take_zero->cw
open Nat renaming zero_le->ba
open Option renaming map_some->cj
set_option linter.all false
set_option maxRecDepth 100000
def aj.ri(y:aj):bI:={y.i with jump:=if y.hj then y.j.signed else y.i.jump,n:=if y.hn then y.n.bits else y.i.n}
theorem Tz(y:aj)(line:Int)(s:j9):(y.ranged line s).1.i=y.ri:=by obtain⟨kind,name,vl,i,n,j,hn,hj⟩:=y;cases hj<;>cases hn<;>rfl
def aj.tZ(y:aj):Bool:=(y.hj&&!y.j.within 32768 32767)||(y.hn&&!y.WL)||y.kF
structure aaT(i:bI):Prop where
 s0:-1<=i.s
 s1:i.s<=10
 j:i.jump=0
 n:i.n=0
 b:i.is32=true->aD i.word=114
 l:i.label.size<=100
 so:aD i.word=114\/aD i.word=106\/(aD i.word=108/\0<=i.s)\/aD i.word=115\/aD i.word=119\/aD i.word=104\/aD i.word=99\/aD i.word=101
theorem jy{w l nm:tBA}{b:Bool}{d:Int}{s:Nat}(hs:s<=10)(hb:b=true->aD w=114)(hl:l.size<=100)(so:aD w=114\/aD w=106\/aD w=108\/aD w=115\/aD w=119\/aD w=104\/aD w=99\/aD w=101):aaT ⟨w,b,d,(s:Int),0,0,l,nm⟩ :=
 ⟨by show(-1:Int)<=(s:Int);omega,by show(s:Int)<=10;omega,rfl,rfl,hb,hl,by
  rcases so with h|h|h|h|h
  ·exact .inl h
  ·exact .inr (.inl h)
  ·exact .inr (.inr (.inl ⟨h,by show(0:Int)<=(s:Int);omega⟩))
  ·exact .inr (.inr (.inr (.inl h)))
  ·exact .inr (.inr (.inr (.inr h)))⟩
theorem Ej{w l nm:tBA}{b:Bool}{d:Int}(hb:b=true->aD w=114)(hl:l.size<=100)(so:aD w=114\/aD w=106\/aD w=115):aaT ⟨w,b,d,-1,0,0,l,nm⟩ :=
 ⟨by show(-1:Int)<=-1;decide,by show(-1:Int)<=10;decide,rfl,rfl,hb,hl,by
  rcases so with h|h|h
  ·exact .inl h
  ·exact .inr (.inl h)
  ·exact .inr (.inr (.inr (.inl h)))⟩
theorem El{P:Prop}(h:false=true):P:=by cases h
theorem qA:E0.size<=100:=by decide
theorem oG{n:tLB}(h:ahI n=true):(T n).size<=100:=by unfold ahI at h;simp only[an,decide_eq_true_eq]at h;have e:(T n).size=n.length:=rfl;have:=h.1.1;omega
structure mh(x:bH)(y:aj):Prop where
 k:x.k<88
 kind:y.kind=105
 slots:x.o.slots=dL y.i.word
 jumps:x.o.jumps=decide (aD y.i.word=106)
 lab:x.o.jumps=true->y.i.label=T x.r.label
 ends:x.o.ends=jH y.i.word
 name:y.i.name=T x.r.name
 nm:x.r.name=[]\/ahI x.r.name=true
 ref:(x.pi 0).aX=if x.r.name=[]then 0 else if y.i.word=WIDE then 2 else 1
 wc:x.r.name≠[]->(y.i.word=WIDE\/y.i.word=CALL)
 fits:x.fits=!y.tZ
 d:y.i.d=x.r.d
 ok:x.fits=true->∀j,Shape (x.pi j) y.ri
 jump:x.fits=true->x.o.jumps=false->x.r.jump=y.ri.jump
 jr:x.fits=true->-32768<=x.r.jump/\x.r.jump<=32767
 db:x.r.d<=10
 sb:x.r.s<=10
 nb:-2147483648<=x.r.num/\x.r.num<=2147483647
 hb:-2147483648<=x.r.high/\x.r.high<=2147483647
 z:x.r.name≠[]->x.r.num=0
 lt:aaT y.i
theorem pH(n:aA)(half:Nat)(h:0<half):(n.aO half).isNone=!n.within half (half-1):=by
 unfold aA.aO aA.within;split
 ·rfl
 ·split
  ·split
   ·simp_all
   ·simp_all
  ·split
   ·have:n.v<=half-1:=by omega
    simp[this]
   ·have:¬n.v<=half-1:=by omega
    simp[this]
theorem Xi(x:Int):bS (x%18446744073709551616)=bS x:=by
 unfold bS;congr 1
 ·omega
 ·congr 1
  ·omega
  ·congr 1
   ·omega
   ·congr 1;omega
theorem Ag(n:aA):n.bits=(if n.minus then -(n.v:Int)else(n.v:Int))%18446744073709551616:=by unfold aA.bits;split<;>simp
theorem Ah{n:aA}{half:Nat}{v:Int}(h:n.aO half=some v)(hp:0<half):v=(if n.minus then -(n.v:Int)else(n.v:Int))/\-(half:Int)<=v/\v<half:=by
 unfold aA.aO at h;split at h
 ·cases h
 ·split at h
  ·rename_i hm
   split at h
   ·injection h with h;rw[iP9 hm];omega
   ·cases h
  ·rename_i hm
   split at h
   ·injection h with h;rw[iN9 hm];omega
   ·cases h
theorem Lv{n:aA}{half:Nat}{v:Int}(h:n.aO half=some v)(hp:0<half):bS n.bits=bS v:=by rw[Ag,Xi,<-(Ah h hp).1]
theorem Em{n:aA}{v:Int}(h:n.aO 32768=some v):n.signed=v:=by unfold aA.signed;obtain⟨e,h1,h2⟩:=Ah h (by decide);rw[Ag,<-e];unfold Go.RowKit.wrap64;omega
theorem CX(n:aA)(half:Nat)(hp:0<half):-(half:Int)<=(n.aO half).getD 0/\(n.aO half).getD 0<=(half:Int)-1:=by
 cases h:n.aO half with
 |none=>simp only[Option.getD_none];omega
 |some v =>obtain⟨e,h1,h2⟩:=Ah h hp;simp only[Option.getD_some];omega
theorem UB:(-32768:Int)<=0/\(0:Int)<=32767:=by decide
theorem z32:(-2147483648:Int)<=0/\(0:Int)<=2147483647:=by decide
theorem aaU{a b:Int}(h:a%4294967296=b%4294967296):bS a=bS b:=by
 unfold bS;have h1:a%256=b%256:=by omega
 have h2:a/256%256=b/256%256:=by omega
 have h3:a/65536%256=b/65536%256:=by omega
 have h4:a/16777216%256=b/16777216%256:=by omega
 rw[h1,h2,h3,h4]
theorem Lw(v:Nat):bS (kR v)=bS (v:Int):=aaU (by unfold kR;omega)
theorem QE(v:Nat):-2147483648<=kR v/\kR v<=2147483647:=by unfold kR;omega
theorem Lx(n:aA):n.bT.isNone=!n.within 9223372036854775808 18446744073709551615:=by
 unfold aA.bT aA.within;split
 ·rfl
 ·split
  ·split
   ·simp_all
   ·simp_all
  ·have:n.v<=18446744073709551615:=by omega
   simp[this]
theorem TA{n:aA}{u:Nat}(h:n.bT=some u):n.bits=(u:Int)/\u<18446744073709551616:=by
 unfold aA.bT at h;rw[Ag];split at h
 ·cases h
 ·split at h
  ·rename_i hm
   split at h
   ·injection h with h;rw[iP9 hm];omega
   ·cases h
  ·rename_i hm
   injection h with h;rw[iN9 hm];omega
structure UC(x:bH)(y:aj):Prop where
 k:x.k<88
 kind:y.kind=105
 slots:x.o.slots=1
 jumps:x.o.jumps=decide (aD y.i.word=106)
 lab:x.o.jumps=true->y.i.label=T x.r.label
 ends:x.o.ends=jH y.i.word
 hw:y.i.word≠WIDE
 yn:y.i.name=E0
 xn:x.r.name=[]
 xh:x.r.high=0
 fits:x.fits=!y.tZ
 d:y.i.d=x.r.d
 rf:(x.pi 0).aX=0
 op:Aq y.ri=x.o.code
 s:zQ y.ri=x.r.s
 n:x.fits=true->∀n,bS (lM y.ri n)=bS x.r.num
 jump:x.fits=true->x.o.jumps=false->x.r.jump=y.ri.jump
 jr:-32768<=x.r.jump/\x.r.jump<=32767
 db:x.r.d<=10
 sb:x.r.s<=10
 nb:-2147483648<=x.r.num/\x.r.num<=2147483647
 lt:aaT y.i
theorem UC.qt{x:bH}{y:aj}(h:UC x y):mh x y where
 k:=h.k
 kind:=h.kind
 slots:=by rw[h.slots,dL,iN9 h.hw]
 jumps:=h.jumps
 lab:=h.lab
 ends:=h.ends
 name:=by rw[h.yn,h.xn];rfl
 nm:=.inl h.xn
 ref:=by rw[h.rf,iP9 h.xn]
 wc:=λe=>absurd h.xn e
 fits:=h.fits
 d:=h.d
 ok:=λhf j=>⟨h.op,h.s,λn num iB _=>by have hr:(x.pi j).aX=0:=h.rf;rw[hr]at iB;simp only[ne_eq,not_true_eq_false,if_false]at iB;exact⟨by rw[h.n hf,iB];rfl,λe=>absurd e h.hw⟩,⟨λe=>absurd e h.hw,λe=>absurd h.slots e⟩⟩
 jump:=h.jump
 jr:=λ_=>h.jr
 db:=h.db
 sb:=h.sb
 nb:=h.nb
 hb:=by rw[h.xh];decide
 z:=λe=>absurd h.xn e
 lt:=h.lt
def uD(k:Nat)(ps:List PK)(i:bI):Bool :=
 decide (k<88)&&(!(ax[k]?.getD bU).call)&&decide ((ax[k]?.getD bU).parts=ps)&&decide ((ax[k]?.getD bU).slots=1)&&((ax[k]?.getD bU).jumps==decide (aD i.word=106))&&((ax[k]?.getD bU).ends==jH i.word)&&decide (Aq i=(ax[k]?.getD bU).code)&&decide ((ax[k]?.getD bU).aX=0)&&decide (i.word≠WIDE)&&decide (i.word≠lY)
structure nG(k:Nat)(ps:List PK)(i:bI):Prop where
 lt:k<88
 call:(ax[k]?.getD bU).call=false
 parts:(ax[k]?.getD bU).parts=ps
 slots:(ax[k]?.getD bU).slots=1
 jumps:(ax[k]?.getD bU).jumps=decide (aD i.word=106)
 ends:(ax[k]?.getD bU).ends=jH i.word
 op:Aq i=(ax[k]?.getD bU).code
 aX:(ax[k]?.getD bU).aX=0
 hw:i.word≠WIDE
 hh:i.word≠lY
theorem il{k:Nat}{ps:List PK}{i:bI}(h:uD k ps i=true):nG k ps i:=by unfold uD at h;simp only[an,decide_eq_true_eq,bh,beq_iff_eq]at h;obtain⟨⟨⟨⟨⟨⟨⟨⟨⟨h1,h2⟩,h3⟩,h4⟩,h5⟩,h6⟩,h7⟩,h8⟩,h9⟩,h10⟩:=h;exact⟨h1,h2,h3,h4,h5,h6,h7,h8,h9,h10⟩
theorem nG.is{k:Nat}{ps:List PK}{i:bI}(h:nG k ps i):rC k ps:=⟨h.call,h.parts⟩
theorem nG.rf{k:Nat}{ps:List PK}{i:bI}(h:nG k ps i)(r:bE):((bH.mk k r).pi 0).aX=0:=by have e:((bH.mk k r).pi 0).o.aX=0:=h.aX;unfold PI.aX;rw[e];split<;>rfl
theorem eO{i:bI}(h1:i.word≠lY)(h2:i.name=E0)(n:Int):lM i n=i.n:=by unfold lM;rw[iN9 h1,iN9 (λe=>e h2)]
theorem eP{i:bI}(h1:i.word≠WIDE)(h2:i.name=E0):zQ i=if i.s<0 then 0 else i.s:=by unfold zQ;rw[iN9 (λe=>e h2),iN9 h1]
theorem dec_lt(d:Nat)(h:d<=10):decide (d<10)=!decide ((d:Int)=10):=by
 by_cases e:d=10
 ·subst e;rfl
 ·have:d<10:=by omega
  have h2:¬((d:Int)=10):=by omega
  simp[this,h2]
def nI(w:tBA)(b:Bool):bI:={word:=w,is32:=b}
def sI(w:tBA)(b:Bool):bI:={word:=w,is32:=b,s:=-1}
theorem acd{w:tLB}{k1 k2:Nat}{word:tBA}{b:Bool}(CB:aD word=114)(F1:nG k1 lJ (nI word b))(F2:nG k2 lK (sI word b))(v:Nat×(Nat ⊕ aA))(y:aj)(hy:arR {kind:=105,i:=nI word b} v y):mh (arX w k1 k2 v) y:=by
 obtain⟨d,v⟩:=v;obtain⟨hd,hy⟩:=hy;dsimp only at hd;have Xj:∀y:aj,y.i.word=word->y.nD=114:=λy e=>by unfold aj.nD;rw[e,CB]
 cases v with
 |inl s =>
  obtain⟨rfl,hs⟩:=hy;refine UC.qt ⟨F1.lt,rfl,F1.slots,F1.jumps,?_,F1.ends,F1.hw,rfl,rfl,rfl,?_,rfl,F1.rf _,?_,?_,?_,λ_ _=>rfl,UB,hd,hs,z32,jy hs (λ_=>CB) qA (.inl CB)⟩
  ·intro e;have:(ax[k1]?.getD bU).jumps=false:=by rw[F1.jumps];exact decide_eq_false (by rw[show(nI word b).word=word from rfl,CB];decide)
   exact absurd (this.symm.trans e) (by decide)
  ·have e:=Nu (ax[k1]?.getD bU) (bE.ins (arX w k1 k2 (d,Sum.inl s)).r) F1.call F1.parts;have e1:(arX w k1 k2 (d,Sum.inl s)).fits=(!false&&(ax[k1]?.getD bU).needs (bE.ins (arX w k1 k2 (d,Sum.inl s)).r)):=rfl;rw[e1,e];show(!false&&(decide (d<10)&&decide (s<=10)&&decide ((0:Int)=0)&&decide ((0:Int)=0)))=_
   unfold aj.tZ aj.kF;rw[Xj _ rfl,dec_lt d hd];simp[hs,fU]
   try rfl
  ·refine Eq.trans ?_ F1.op;refine iQ rfl rfl ?_;show((s:Int)<0)↔((0:Int)<0)
   omega
  ·rw[eP (by exact F1.hw) rfl];show(if(s:Int)<0 then(0:Int)else s)=s
   rw[iN9 (by omega)]
  ·intro _ n;rw[eO (by exact F1.hh) rfl];rfl
 |inr n =>
  have hy:y=_:=hy;subst hy;refine UC.qt ⟨F2.lt,rfl,F2.slots,F2.jumps,?_,F2.ends,F2.hw,rfl,rfl,rfl,?_,rfl,F2.rf _,?_,?_,?_,λ_ _=>rfl,UB,hd,ba _,?_,Ej (λ_=>CB) qA (.inl CB)⟩
  ·intro e;have:(ax[k2]?.getD bU).jumps=false:=by rw[F2.jumps];exact decide_eq_false (by rw[show(sI word b).word=word from rfl,CB];decide)
   exact absurd (this.symm.trans e) (by decide)
  ·have e:=Nv (ax[k2]?.getD bU) (bE.ins (arX w k1 k2 (d,Sum.inr n)).r) F2.call F2.parts;have e1:(arX w k1 k2 (d,Sum.inr n)).fits=(!(n.aO 2147483648).isNone&&(ax[k2]?.getD bU).needs (bE.ins (arX w k1 k2 (d,Sum.inr n)).r)):=rfl;rw[e1,e];show(!(n.aO 2147483648).isNone&&(decide (d<10)&&decide (0=0)&&decide ((0:Int)=0)))=_
   unfold aj.tZ aj.kF aj.WL;rw[Xj _ rfl,dec_lt d hd,pH n 2147483648 (by decide)];simp[fU]
   try rfl
  ·refine Eq.trans ?_ F2.op;exact iQ rfl rfl Iff.rfl
  ·rw[eP (by exact F2.hw) rfl];rfl
  ·intro hf m;rw[eO (by exact F2.hh) rfl];show bS n.bits=bS ((n.aO 2147483648).getD 0)
   have hf':(!(n.aO 2147483648).isNone&&_)=true:=hf;cases hn:n.aO 2147483648 with
   |none=>rw[hn]at hf';cases hf'
   |some v=>exact Lv hn (by decide)
  ·have:=CX n 2147483648 (by decide);show _<=(n.aO 2147483648).getD 0/\(n.aO 2147483648).getD 0<=_
   omega
theorem ko(x:bH)(o:eQ)(f:Bool)(h:x.o=o)(hf:x.r.far=f):x.fits=(!f&&o.needs x.r.ins):=by unfold bH.fits;rw[h,hf]
theorem Ai{k:Nat}{ps:List PK}{i:bI}(F:nG k ps i)(h:aD i.word≠106):(ax[k]?.getD bU).jumps=false:=by rw[F.jumps];exact decide_eq_false h
theorem QF{n:aA}{half:Nat}(hp:0<half)(h:(n.aO half).isNone=false):bS n.bits=bS ((n.aO half).getD 0):=by
 cases hn:n.aO half with
 |none=>rw[hn]at h;cases h
 |some v=>exact Lv hn hp
theorem Xk{n:aA}(h:(n.aO 32768).isNone=false):(n.aO 32768).getD 0=n.signed:=by
 cases hn:n.aO 32768 with
 |none=>rw[hn]at h;cases h
 |some v=>exact(Em hn).symm
theorem ace{w:tLB}{k:Nat}{word:tBA}{b:Bool}(CB:aD word=114)(F:nG k [.result] (nI word b))(d:Nat)(y:aj)(hd:d<=10)(hy:y=fU {kind:=105,i:=nI word b} d):mh ⟨k,{r0 w []with d:=d}⟩ y:=by
 subst hy;have hj:=Ai F (by rw[show(nI word b).word=word from rfl,CB];decide);refine UC.qt ⟨F.lt,rfl,F.slots,F.jumps,λe=>absurd (hj.symm.trans e) (by decide),F.ends,F.hw,rfl,rfl,rfl,?_,rfl,F.rf _,?_,?_,?_,λ_ _=>rfl,UB,hd,ba _,z32,jy (s:=0) (by decide) (λ_=>CB) qA (.inl CB)⟩
 ·have e:=Wg (ax[k]?.getD bU) (bE.ins {r0 w []with d:=d}) F.call F.parts;refine(ko _ (ax[k]?.getD bU) false rfl rfl).trans ?_;rw[e];show(!false&&(decide (d<10)&&decide (0=0)&&decide ((0:Int)=0)&&decide ((0:Int)=0)))=_
  have hk:(fU {kind:=105,i:=nI word b} d).nD=114:=CB;unfold aj.tZ aj.kF;rw[hk,dec_lt d hd];simp[fU]
  try rfl
 ·exact Eq.trans (iQ rfl rfl Iff.rfl) F.op
 ·rw[eP (by exact F.hw) rfl];rfl
 ·intro _ n;rw[eO (by exact F.hh) rfl];rfl
theorem acf{w:tLB}{k:Nat}{word:tBA}(CD:aD word=106)(F:nG k [.label] (nI word false))(n:tLB)(y:aj)(hn:ahI n=true)(hy:y=Tx {kind:=105,i:=nI word false} (T n)):mh ⟨k,{r0 w []with label:=n}⟩ y:=by
 subst hy;refine UC.qt ⟨F.lt,rfl,F.slots,F.jumps,λ_=>rfl,F.ends,F.hw,rfl,rfl,rfl,?_,rfl,F.rf _,?_,?_,?_,λ_ _=>rfl,UB,ba _,ba _,z32,jy (s:=0) (by decide) El (oG hn) (.inr (.inl CD))⟩
 ·have e:=aai (ax[k]?.getD bU) (bE.ins {r0 w []with label:=n}) F.call F.parts;refine(ko _ (ax[k]?.getD bU) false rfl rfl).trans ?_;rw[e];rfl
 ·exact Eq.trans (iQ rfl rfl Iff.rfl) F.op
 ·rw[eP (by exact F.hw) rfl];rfl
 ·intro _ m;rw[eO (by exact F.hh) rfl];rfl
theorem acg{w:tLB}{k1 k2:Nat}{word:tBA}(CD:aD word=106)(F1:nG k1 oH (nI word false))(F2:nG k2 oI (sI word false))(v:(Nat×(Nat ⊕ aA))×tLB)(y:aj)(hy:jpR {kind:=105,i:=nI word false} v y):mh (jpX w k1 k2 v) y:=by
 obtain⟨⟨d,v⟩,lb⟩:=v;obtain⟨y1,⟨hd,hy1⟩,hn,hy⟩:=hy;dsimp only at hd hn hy hy1;have Xj:∀y:aj,y.i.word=word->y.nD=106:=λy e=>by unfold aj.nD;rw[e,CD]
 cases v with
 |inl s =>
  obtain⟨rfl,hs⟩:=hy1;subst hy;refine UC.qt ⟨F1.lt,rfl,F1.slots,F1.jumps,λ_=>rfl,F1.ends,F1.hw,rfl,rfl,rfl,?_,rfl,F1.rf _,?_,?_,?_,λ_ _=>rfl,UB,hd,hs,z32,jy hs El (oG hn) (.inr (.inl CD))⟩
  ·have e:=Nw (ax[k1]?.getD bU) (bE.ins {r0 w []with d:=d,s:=s,label:=lb}) F1.call F1.parts;refine(ko _ (ax[k1]?.getD bU) false rfl rfl).trans ?_;refine(congrArg (λq=>!false&&q) e).trans ?_;show(!false&&(decide (d<=10)&&decide (s<=10)&&decide ((0:Int)=0)))=_
   unfold aj.tZ aj.kF;rw[Xj _ rfl];simp[hs,hd,fU,Tx]
  ·refine Eq.trans ?_ F1.op;refine iQ rfl rfl ?_;show((s:Int)<0)↔((0:Int)<0)
   omega
  ·rw[eP (by exact F1.hw) rfl];show(if(s:Int)<0 then(0:Int)else s)=s
   rw[iN9 (by omega)]
  ·intro _ n;rw[eO (by exact F1.hh) rfl];rfl
 |inr n =>
  have hy1:y1=_:=hy1;subst hy1;subst hy;have e:=Nx (ax[k2]?.getD bU) (bE.ins {r0 w []with d:=d,num:=(n.aO 2147483648).getD 0,far:=(n.aO 2147483648).isNone,label:=lb}) F2.call F2.parts
  have hfit:(jpX w k1 k2 ((d,.inr n),lb)).fits=!(n.aO 2147483648).isNone:=by
   refine(ko _ (ax[k2]?.getD bU) (n.aO 2147483648).isNone rfl rfl).trans ?_;refine(congrArg (λq=>!(n.aO 2147483648).isNone&&q) e).trans ?_;show(!(n.aO 2147483648).isNone&&(decide (d<=10)&&decide (0=0)))=_
   simp[hd]
  refine UC.qt ⟨F2.lt,rfl,F2.slots,F2.jumps,λ_=>rfl,F2.ends,F2.hw,rfl,rfl,rfl,?_,rfl,F2.rf _,?_,?_,?_,λ_ _=>rfl,UB,hd,ba _,?_,Ej El (oG hn) (.inr (.inl CD))⟩
  ·rw[hfit];unfold aj.tZ aj.kF aj.WL;rw[Xj _ rfl,pH n 2147483648 (by decide)];simp[fU,Tx]
  ·exact Eq.trans (iQ rfl rfl Iff.rfl) F2.op
  ·rw[eP (by exact F2.hw) rfl];rfl
  ·intro hf m;rw[eO (by exact F2.hh) rfl];rw[hfit]at hf;exact QF (n:=n) (by decide) (by simpa using hf)
  ·have:=CX n 2147483648 (by decide);show _<=(n.aO 2147483648).getD 0/\(n.aO 2147483648).getD 0<=_
   omega
def ah9(o:Option aA):Bool:=match o with|none=>false|some n=>(n.aO 32768).isNone
def yE(o:Option aA):Int:=match o with|none=>0|some n=>(n.aO 32768).getD 0
theorem JH(r:bE)(o:Option aA)(h:r.jump=0)(hf:r.far=false):JG r o={r with jump:=yE o,far:=ah9 o}:=by
 cases o with
 |none=>cases r;simp_all[JG,yE,ah9]
 |some n=>cases r;simp_all[JG,yE,ah9]
theorem JI(o:Option aA):ah9 o=!(o.getD ⟨0,false⟩).within 32768 32767:=by
 cases o with
 |none=>rfl
 |some n=>exact pH n 32768 (by decide)
theorem JJ(o:Option aA)(h:ah9 o=false):yE o=(o.getD ⟨0,false⟩).signed:=by
 cases o with
 |none=>show(0:Int)=aA.signed ⟨0,false⟩;decide +kernel
 |some n=>exact Xk h
theorem En(o:Option aA):-32768<=yE o/\yE o<=32767:=by
 cases o with
 |none=>exact UB
 |some n =>
  have:=CX n 32768 (by decide);show _<=(n.aO 32768).getD 0/\(n.aO 32768).getD 0<=_
  omega
theorem ach{w:tLB}{k:Nat}{word:tBA}(aci:aD word=108)(F:nG k lQ (nI word false))(v:Nat×Nat×Option aA)(y:aj)(hy:ldR {kind:=105,i:=nI word false} v y):mh (ldX w k v) y:=by
 obtain⟨d,s,o⟩:=v;obtain⟨hd,hs,hy⟩:=hy;dsimp only at hd hs hy;subst hy;have hx:ldX w k (d,s,o)=⟨k,{r0 w []with d:=d,s:=s,jump:=yE o,far:=ah9 o}⟩:=by unfold ldX;rw[JH _ _ rfl rfl]
 rw[hx];have hj:=Ai F (by rw[show(nI word false).word=word from rfl,aci];decide);have e:=Ny (ax[k]?.getD bU) (bE.ins {r0 w []with d:=d,s:=s,jump:=yE o,far:=ah9 o}) F.call F.parts
 have hfit:(bH.mk k {r0 w []with d:=d,s:=s,jump:=yE o,far:=ah9 o}).fits=(!ah9 o&&decide (d<10)):=by
  refine(ko _ (ax[k]?.getD bU) (ah9 o) rfl rfl).trans ?_;refine(congrArg (λq=>!ah9 o&&q) e).trans ?_;show(!ah9 o&&(decide (d<10)&&decide (s<=10)&&decide ((0:Int)=0)))=_
  simp[hs]
 refine UC.qt ⟨F.lt,rfl,F.slots,F.jumps,λe=>absurd (hj.symm.trans e) (by decide),F.ends,F.hw,rfl,rfl,rfl,?_,rfl,F.rf _,?_,?_,?_,?_,En o,hd,hs,z32,jy hs El qA (.inr (.inr (.inl aci)))⟩
 ·rw[hfit,dec_lt d hd,JI];have hk:∀y:aj,y.i.word=word->y.nD=108:=λy e=>by unfold aj.nD;rw[e,aci]
  unfold aj.tZ aj.kF;rw[hk _ rfl];simp[fU,PD]
  try rfl
 ·refine Eq.trans ?_ F.op;refine iQ rfl rfl ?_;show((s:Int)<0)↔((0:Int)<0)
  omega
 ·rw[eP (by exact F.hw) rfl];show(if(s:Int)<0 then(0:Int)else s)=s
  rw[iN9 (by omega)]
 ·intro _ n;rw[eO (by exact F.hh) rfl];rfl
 ·intro hf _;rw[hfit]at hf;simp only[an,bh]at hf;exact JJ o hf.1
theorem acj{w:tLB}{k1 k2:Nat}{word:tBA}(zA:aD word=115)(F1:nG k1 jC (nI word false))(F2:nG k2 gX (sI word false))(v:(Nat×Option aA)×(Nat ⊕ aA))(y:aj)(hy:stR {kind:=105,i:=nI word false} v y):mh (stX w k1 k2 v) y:=by
 obtain⟨⟨d,o⟩,v⟩:=v;obtain⟨hd,hy⟩:=hy;dsimp only at hd hy;have Xj:∀y:aj,y.i.word=word->y.nD=115:=λy e=>by unfold aj.nD;rw[e,zA]
 cases v with
 |inl s =>
  obtain⟨rfl,hs⟩:=hy;have hx:stX w k1 k2 ((d,o),.inl s)=⟨k1,{r0 w []with d:=d,s:=s,jump:=yE o,far:=ah9 o}⟩:=by unfold stX;dsimp only;rw[JH _ _ rfl rfl]
  rw[hx];have hj:=Ai F1 (by rw[show(nI word false).word=word from rfl,zA];decide);have e:=KX (ax[k1]?.getD bU) (bE.ins {r0 w []with d:=d,s:=s,jump:=yE o,far:=ah9 o}) F1.call F1.parts
  have hfit:(bH.mk k1 {r0 w []with d:=d,s:=s,jump:=yE o,far:=ah9 o}).fits=!ah9 o:=by
   refine(ko _ (ax[k1]?.getD bU) (ah9 o) rfl rfl).trans ?_;refine(congrArg (λq=>!ah9 o&&q) e).trans ?_;show(!ah9 o&&(decide (d<=10)&&decide (s<=10)&&decide ((0:Int)=0)))=_
   simp[hs,hd]
  refine UC.qt ⟨F1.lt,rfl,F1.slots,F1.jumps,λe=>absurd (hj.symm.trans e) (by decide),F1.ends,F1.hw,rfl,rfl,rfl,?_,rfl,F1.rf _,?_,?_,?_,?_,En o,hd,hs,z32,jy hs El qA (.inr (.inr (.inr (.inl zA))))⟩
  ·rw[hfit,JI];unfold aj.tZ aj.kF;rw[Xj _ rfl];simp[fU]
  ·refine Eq.trans ?_ F1.op;refine iQ rfl rfl ?_;show((s:Int)<0)↔((0:Int)<0)
   omega
  ·rw[eP (by exact F1.hw) rfl];show(if(s:Int)<0 then(0:Int)else s)=s
   rw[iN9 (by omega)]
  ·intro _ n;rw[eO (by exact F1.hh) rfl];rfl
  ·intro hf _;rw[hfit]at hf;exact JJ o (by simpa using hf)
 |inr n =>
  have hy:y=_:=hy;subst hy;have hx:stX w k1 k2 ((d,o),.inr n)=⟨k2,{r0 w []with d:=d,num:=(n.aO 2147483648).getD 0,jump:=yE o,far:=ah9 o||(n.aO 2147483648).isNone}⟩:=by unfold stX;dsimp only;rw[JH _ _ rfl rfl]
  rw[hx];have hj:=Ai F2 (by rw[show(sI word false).word=word from rfl,zA];decide);have e:=Jm (ax[k2]?.getD bU) (bE.ins {r0 w []with d:=d,num:=(n.aO 2147483648).getD 0,jump:=yE o,far:=ah9 o||(n.aO 2147483648).isNone}) F2.call F2.parts
  have hfit:(bH.mk k2 {r0 w []with d:=d,num:=(n.aO 2147483648).getD 0,jump:=yE o,far:=ah9 o||(n.aO 2147483648).isNone}).fits=!(ah9 o||(n.aO 2147483648).isNone):=by
   refine(ko _ (ax[k2]?.getD bU) (ah9 o||(n.aO 2147483648).isNone) rfl rfl).trans ?_;refine(congrArg (λq=>!(ah9 o||(n.aO 2147483648).isNone)&&q) e).trans ?_;show(!(ah9 o||(n.aO 2147483648).isNone)&&(decide (d<=10)&&decide (0=0)))=_
   simp[hd]
  refine UC.qt ⟨F2.lt,rfl,F2.slots,F2.jumps,λe=>absurd (hj.symm.trans e) (by decide),F2.ends,F2.hw,rfl,rfl,rfl,?_,rfl,F2.rf _,?_,?_,?_,?_,En o,hd,ba _,?_,Ej El qA (.inr (.inr zA))⟩
  ·rw[hfit,JI,pH n 2147483648 (by decide)];unfold aj.tZ aj.kF aj.WL;rw[Xj _ rfl];simp[fU]
  ·exact Eq.trans (iQ rfl rfl Iff.rfl) F2.op
  ·rw[eP (by exact F2.hw) rfl];rfl
  ·intro hf m;rw[eO (by exact F2.hh) rfl];rw[hfit]at hf;simp only[bh,cx]at hf;exact QF (n:=n) (by decide) hf.2
  ·intro hf _;rw[hfit]at hf;simp only[bh,cx]at hf;exact JJ o hf.1
  ·have:=CX n 2147483648 (by decide);show _<=(n.aO 2147483648).getD 0/\(n.aO 2147483648).getD 0<=_
   omega
theorem ack{w:tLB}{k:Nat}{word:tBA}(ads:aD word=101)(F:nG k [] (nI word false)):mh ⟨k,r0 w []⟩ {kind:=105,i:=nI word false}:=by
 have hj:=Ai F (by rw[show(nI word false).word=word from rfl,ads];decide);refine UC.qt ⟨F.lt,rfl,F.slots,F.jumps,λe=>absurd (hj.symm.trans e) (by decide),F.ends,F.hw,rfl,rfl,rfl,?_,rfl,F.rf _,?_,?_,?_,λ_ _=>rfl,UB,ba _,ba _,z32,jy (s:=0) (by decide) El qA (.inr (.inr (.inr (.inr (.inr (.inr (.inr ads)))))))⟩
 ·have e:=Su (ax[k]?.getD bU) (bE.ins (r0 w [])) F.call F.parts;refine(ko _ (ax[k]?.getD bU) false rfl rfl).trans ?_;rw[e];rfl
 ·exact Eq.trans (iQ rfl rfl Iff.rfl) F.op
 ·rw[eP (by exact F.hw) rfl];rfl
 ·intro _ n;rw[eO (by exact F.hh) rfl];rfl
def Xl(k:Nat):Bool:=decide (k<88)&&(!(ax[k]?.getD bU).call)&&decide ((ax[k]?.getD bU).parts=[.result,.comma,.wide])&&decide ((ax[k]?.getD bU).slots=2)&&(!(ax[k]?.getD bU).jumps)&&(!(ax[k]?.getD bU).ends)&&decide ((ax[k]?.getD bU).code=192)&&decide ((ax[k]?.getD bU).aX=2)
def QG(k:Nat):Bool:=decide (k<88)&&(ax[k]?.getD bU).call&&decide ((ax[k]?.getD bU).slots=1)&&(!(ax[k]?.getD bU).jumps)&&(!(ax[k]?.getD bU).ends)&&decide ((ax[k]?.getD bU).code=193)&&decide ((ax[k]?.getD bU).aX=1)
structure Xm(k:Nat)(call:Bool)(slots code aX:Nat):Prop where
 lt:k<88
 call:(ax[k]?.getD bU).call=call
 slots:(ax[k]?.getD bU).slots=slots
 jumps:(ax[k]?.getD bU).jumps=false
 ends:(ax[k]?.getD bU).ends=false
 code:(ax[k]?.getD bU).code=code
 aX:(ax[k]?.getD bU).aX=aX
theorem aaV{k:Nat}(h:Xl k=true):Xm k false 2 192 2/\(ax[k]?.getD bU).parts=[.result,.comma,.wide]:=by unfold Xl at h;simp only[an,decide_eq_true_eq,bh]at h;obtain⟨⟨⟨⟨⟨⟨⟨h1,h2⟩,h3⟩,h4⟩,h5⟩,h6⟩,h7⟩,h8⟩:=h;exact⟨⟨h1,h2,h4,h5,h6,h7,h8⟩,h3⟩
theorem QH{k:Nat}(h:QG k=true):Xm k true 1 193 1:=by unfold QG at h;simp only[an,decide_eq_true_eq,bh]at h;obtain⟨⟨⟨⟨⟨⟨h1,h2⟩,h4⟩,h5⟩,h6⟩,h7⟩,h8⟩:=h;exact⟨h1,h2,h4,h5,h6,h7,h8⟩
theorem CY:jH WIDE=false/\jH lY=false/\jH CALL=false:=by decide +kernel
theorem G7{n:tLB}(h:ahI n=true):n≠[]:=by rintro rfl;revert h;decide
theorem JK:decide (aD WIDE=106)=false/\decide (aD lY=106)=false/\decide (aD CALL=106)=false:=by decide +kernel
theorem adt(i:bI)(h:i.word=WIDE):Aq i=192:=by unfold Aq;rw[h,bu.1];rfl
theorem adu(i:bI)(h:i.word=lY\/i.word=CALL):Aq i=193:=by
 unfold Aq;rcases h with h|h
 ·rw[h,bu.2.2.1];rfl
 ·rw[h,bu.2.1];rfl
theorem Cb{i:bI}(h:i.name≠E0):zQ i=1:=by unfold zQ;rw[iP9 h]
theorem Cc{i:bI}(h1:i.word≠lY)(h2:i.name≠E0)(n:Int):lM i n=n:=by unfold lM;rw[iN9 h1,iP9 h2]
theorem PG{i:bI}(h:i.word=lY)(n:Int):lM i n=1+ahH i.label bO:=by unfold lM;rw[iP9 h]
theorem adv{nm:tLB}{w:tBA}(h:nm≠[])(hw:w=WIDE):(2:Nat)=if nm=[]then 0 else if w=WIDE then 2 else 1:=by rw[iN9 h,iP9 hw]
theorem adw{nm:tLB}{w:tBA}(h:nm≠[])(hw:w≠WIDE):(1:Nat)=if nm=[]then 0 else if w=WIDE then 2 else 1:=by rw[iN9 h,iN9 hw]
theorem abt{nm:tLB}{w:tBA}(h:nm=[]):(0:Nat)=if nm=[]then 0 else if w=WIDE then 2 else 1:=by rw[iP9 h]
theorem QI{w:tBA}(h:w=WIDE):2=dL w:=by rw[dL,iP9 h]
theorem QJ{w:tBA}(h:w≠WIDE):1=dL w:=by rw[dL,iN9 h]
theorem acm{w:tLB}{k:Nat}(F:Xm k false 2 192 2)(hp:(ax[k]?.getD bU).parts=[.result,.comma,.wide])(v:Nat×(tLB ⊕ aA))(y:aj)(hy:wiR {kind:=105,i:=nI WIDE false} v y):mh (wiX w k v) y:=by
 obtain⟨d,v⟩:=v;obtain⟨hd,hy⟩:=hy;dsimp only at hd hy;have Xj:∀y:aj,y.i.word=WIDE->y.nD=119:=λy e=>by unfold aj.nD;rw[e,bu.1]
 cases v with
 |inl n =>
  obtain⟨rfl,hn⟩:=hy;have hne:=G7 hn;have e:=GG (ax[k]?.getD bU) (bE.ins {r0 w []with d:=d,s:=1,name:=n}) F.call hp
  have hfit:(wiX w k (d,.inl n)).fits=decide (d<10):=by
   refine(ko _ (ax[k]?.getD bU) false rfl rfl).trans ?_;refine(congrArg (λq=>!false&&q) e).trans ?_;show(!false&&(decide (d<10)&&(decide (1=0)||(decide (1=1)&&decide ((0:Int)=0)))&&decide ((0:Int)=0)))=_
   simp
  have hr:∀j,((wiX w k (d,.inl n)).pi j).aX=2:=λj=>F.aX;refine⟨F.lt,rfl,?_,F.jumps.trans JK.1.symm,λe=>absurd (F.jumps.symm.trans e) (by decide),F.ends.trans CY.1.symm,rfl,.inr hn,?_,λ_=>.inl rfl,?_,rfl,?_,λ_ _=>rfl,λ_=>UB,hd,by show 1<=10;decide,z32,z32,λ_=>rfl,jy (s:=0) (by decide) El qA (.inr (.inr (.inr (.inr (.inl bu.1)))))⟩
  ·exact F.slots.trans (QI rfl)
  ·rw[hr];exact adv hne rfl
  ·rw[hfit];unfold aj.tZ aj.kF;rw[Xj _ rfl,dec_lt d hd];simp[fU]
   try rfl
  ·intro _ j;refine⟨(adt _ rfl).trans (by exact congrArg cy F.code.symm),?_,?_,⟨λ_=>by rw[show((wiX w k (d,.inl n)).pi j).o.slots=2 from F.slots];decide,λ_=>rfl⟩⟩
   ·exact Cb (NW hne)
   ·intro m num iB hb;rw[hr,iP9 (by decide)]at iB;obtain⟨b1,b2⟩:=hb (by rw[hr];decide);have e:lM (aj.ri {fU {kind:=105,i:=nI WIDE false} d with i:={(fU {kind:=105,i:=nI WIDE false} d).i with name:=T n}}) m=m:=Cc bu.2.2.2.1 (NW hne) m;refine⟨by rw[e,iB],λ_=>?_⟩;rw[e];have:m/4294967296=0:=by omega
    rw[this];rfl
 |inr n =>
  have hy:y=_:=hy;subst hy;have e:=GG (ax[k]?.getD bU) (bE.ins {r0 w []with d:=d,num:=kR (n.bT.getD 0),high:=kR ((n.bT.getD 0)/4294967296),far:=n.bT.isNone}) F.call hp
  have hfit:(wiX w k (d,.inr n)).fits=(!n.bT.isNone&&decide (d<10)):=by
   refine(ko _ (ax[k]?.getD bU) n.bT.isNone rfl rfl).trans ?_;refine(congrArg (λq=>!n.bT.isNone&&q) e).trans ?_;show(!n.bT.isNone&&(decide (d<10)&&(decide (0=0)||(decide (0=1)&&_))&&decide ((0:Int)=0)))=_
   simp
  have hr:∀j,((wiX w k (d,.inr n)).pi j).aX=0:=λj=>rfl;refine⟨F.lt,rfl,?_,F.jumps.trans JK.1.symm,λe=>absurd (F.jumps.symm.trans e) (by decide),F.ends.trans CY.1.symm,rfl,.inl rfl,?_,λe=>absurd rfl e,?_,rfl,?_,λ_ _=>rfl,λ_=>UB,hd,ba _,QE _,QE _,λe=>absurd rfl e,jy (s:=0) (by decide) El qA (.inr (.inr (.inr (.inr (.inl bu.1)))))⟩
  ·exact F.slots.trans (QI rfl)
  ·rw[hr];exact abt rfl
  ·rw[hfit];unfold aj.tZ aj.kF aj.WL;rw[Xj _ rfl,dec_lt d hd,Lx];simp[fU]
   try rfl
  ·intro hf j;refine⟨(adt _ rfl).trans (by exact congrArg cy F.code.symm),?_,?_,⟨λ_=>by rw[show((wiX w k (d,.inr n)).pi j).o.slots=2 from F.slots];decide,λ_=>rfl⟩⟩
   ·rfl
   ·intro m num iB hb;rw[hr]at iB;simp only[ne_eq,not_true_eq_false,if_false]at iB;rw[hfit]at hf;simp only[an,bh]at hf;cases hu:n.bT with
    |none=>rw[hu]at hf;cases hf.1
    |some u =>
     obtain⟨hb1,hb2⟩:=TA hu;have hg:n.bT.getD 0=u:=by rw[hu];rfl
     have e:lM (aj.ri {fU {kind:=105,i:=nI WIDE false} d with n:=n,hn:=true}) m=(u:Int):=by rw[eO (by exact bu.2.2.2.1) rfl];exact hb1
     have iB:num=kR (n.bT.getD 0):=iB;refine⟨by rw[e,iB,hg,Lw],λ_=>?_⟩;show _=bS (kR ((n.bT.getD 0)/4294967296))
     rw[e,hg,Lw];congr 1
     all_goals omega
theorem acn{w:tLB}{k:Nat}(F:Xm k true 1 193 1)(n:Nat)(y:aj)(hy:abr {kind:=105,i:=nI lY false} n y):mh ⟨k,{r0 w []with num:=((1+n:Nat):Int)}⟩ y:=by
 obtain⟨hn,u,hu,rfl⟩:=hy;have e:=GH (ax[k]?.getD bU) (bE.ins {r0 w []with num:=((1+n:Nat):Int)}) F.call
 have hfit:(bH.mk k {r0 w []with num:=((1+n:Nat):Int)}).fits=true:=by
  refine(ko _ (ax[k]?.getD bU) false rfl rfl).trans ?_;refine(congrArg (λq=>!false&&q) e).trans ?_;show(!false&&(decide (0=0)&&decide ((0:Int)=0)&&(decide (0=1)||(decide (0=0)&&decide ((1:Int)<=((1+n:Nat):Int))&&decide (((1+n:Nat):Int)<5)))))=_
  have h1:(1:Int)<=((1+n:Nat):Int):=by omega
  have h2:((1+n:Nat):Int)<5:=by omega
  simp only[h1,h2];rfl
 have hr:∀j,((bH.mk k {r0 w []with num:=((1+n:Nat):Int)}).pi j).aX=0:=λj=>rfl
 refine⟨F.lt,rfl,?_,F.jumps.trans JK.2.1.symm,λe=>absurd (F.jumps.symm.trans e) (by decide),F.ends.trans CY.2.1.symm,rfl,.inl rfl,?_,λe=>absurd rfl e,?_,rfl,?_,λ_ _=>rfl,λ_=>UB,ba _,ba _,?_,z32,λe=>absurd rfl e,jy (s:=0) (by decide) El (by
   have h4:∀k,k<4->(bO[k]?.getD E0).size<=100:=by decide
   have h5:=h4 n hn;rw[wK,List.getElem?_map,hu]at h5;exact h5) (.inr (.inr (.inr (.inr (.inr (.inl bu.2.2.1))))))⟩
 ·exact F.slots.trans (QJ bu.2.2.2.2.2.2)
 ·rw[hr];exact abt rfl
 ·rw[hfit];rfl
 ·intro _ j;refine⟨(adu _ (.inl rfl)).trans (by exact congrArg cy F.code.symm),?_,?_,⟨λe=>absurd (show lY=WIDE from e) bu.2.2.2.2.2.2,λe=>absurd F.slots e⟩⟩
  ·rw[eP (by exact bu.2.2.2.2.2.2) rfl];rfl
  ·intro m num iB hb;rw[hr]at iB;simp only[ne_eq,not_true_eq_false,if_false]at iB;refine⟨?_,λe=>absurd (show lY=WIDE from e) bu.2.2.2.2.2.2⟩;have hp:=Wz n hn;have hgl:bO[n]?.getD E0=T u:=by rw[wK,List.getElem?_map,hu];rfl
   rw[hgl]at hp;have e:lM (aj.ri {({kind:=105,i:=nI lY false}:aj)with i:={nI lY false with label:=T u}}) m=1+ahH (T u) bO:=PG rfl m;have iB:num=((1+n:Nat):Int):=iB;refine Eq.trans (congrArg bS e) ?_;rw[hp,iB];congr 1;omega
 ·show _<=((1+n:Nat):Int)/\((1+n:Nat):Int)<=_
  omega
theorem aco{w:tLB}{k:Nat}(F:Xm k true 1 193 1)(n:tLB)(y:aj)(hn:ahI n=true)(hy:y=Na {kind:=105,i:=nI CALL false} (T n)):mh ⟨k,{r0 w []with s:=1,name:=n}⟩ y:=by
 subst hy;have hne:=G7 hn;have e:=GH (ax[k]?.getD bU) (bE.ins {r0 w []with s:=1,name:=n}) F.call;have hfit:(bH.mk k {r0 w []with s:=1,name:=n}).fits=true:=by refine(ko _ (ax[k]?.getD bU) false rfl rfl).trans ?_;refine(congrArg (λq=>!false&&q) e).trans ?_;rfl
 have hr:∀j,((bH.mk k {r0 w []with s:=1,name:=n}).pi j).aX=1:=λj=>F.aX;refine⟨F.lt,rfl,?_,F.jumps.trans JK.2.2.symm,λe=>absurd (F.jumps.symm.trans e) (by decide),F.ends.trans CY.2.2.symm,rfl,.inr hn,?_,λ_=>.inr rfl,?_,rfl,?_,λ_ _=>rfl,λ_=>UB,ba _,by show 1<=10;decide,z32,z32,λ_=>rfl,jy (s:=0) (by decide) El qA (.inr (.inr (.inr (.inr (.inr (.inr (.inl bu.2.1)))))))⟩
 ·exact F.slots.trans (QJ bu.2.2.2.2.2.1)
 ·rw[hr];exact adw hne bu.2.2.2.2.2.1
 ·rw[hfit];rfl
 ·intro _ j;refine⟨(adu _ (.inr rfl)).trans (by exact congrArg cy F.code.symm),?_,?_,⟨λe=>absurd (show CALL=WIDE from e) bu.2.2.2.2.2.1,λe=>absurd F.slots e⟩⟩
  ·exact Cb (NW hne)
  ·intro m num iB hb;rw[hr,iP9 (by decide)]at iB;refine⟨?_,λe=>absurd (show CALL=WIDE from e) bu.2.2.2.2.2.1⟩;have e:lM (aj.ri (Na {kind:=105,i:=nI CALL false} (T n))) m=m:=Cc bu.2.2.2.2.1 (NW hne) m;rw[e,iB]
def acp:List (tLB×Nat×Nat×Nat):=[([109,111,118],0,0,2),([109,111,118,51,50],0,1,3),([97,100,100],0,4,6),([97,100,100,51,50],0,5,7),([115,117,98],0,8,10),([115,117,98,51,50],0,9,11),([109,117,108],0,12,14),([109,117,108,51,50],0,13,15),([100,105,118],0,16,18),([100,105,118,51,50],0,17,19),([109,111,100],0,20,22),([109,111,100,51,50],0,21,23),([97,110,100],0,24,26),([97,110,100,51,50],0,25,27),([111,114],0,28,30),([111,114,51,50],0,29,31),([120,111,114],0,32,34),([120,111,114,51,50],0,33,35),([108,115,104],0,36,38),([108,115,104,51,50],0,37,39),([114,115,104],0,40,42),([114,115,104,51,50],0,41,43),([97,115,104],0,44,46),([97,115,104,51,50],0,45,47),([110,101,103],1,48,0),([110,101,103,51,50],1,49,0),([106,97],2,50,0),([106,101,113],3,51,52),([106,110,101],3,53,54),([106,103,116],3,55,56),([106,103,101],3,57,58),([106,108,116],3,59,60),([106,108,101],3,61,62),([106,115,103,116],3,63,64),([106,115,103,101],3,65,66),([106,115,108,116],3,67,68),([106,115,108,101],3,69,70),([106,115,101,116],3,71,72),([108,100,49],4,73,0),([115,116,49],5,74,75),([108,100,50],4,76,0),([115,116,50],5,77,78),([108,100,52],4,79,0),([115,116,52],5,80,81),([108,100,56],4,82,0),([115,116,56],5,83,84),([119,105,100,101],6,85,0),([104,101,108,112],7,86,0),([99,97,108,108],8,86,0),([101,120,105,116],9,87,0)]
def Bl:List tLB:=acp.map (·.1)
def aiB(e:tLB×Nat×Nat×Nat):Bool :=
 let w:=e.1;let k1:=e.2.2.1;let k2:=e.2.2.2
 let b:=fM (T w);let q:=decide (fM (T w)≠T w)
 match e.2.1 with
 |0=>decide (mQ w=[k1,k2])&&decide (aD (T w)=114)&&decide (b≠NEG)&&decide (aD b=114)&&uD k1 lJ (nI b q)&&uD k2 lK (sI b q)
 |1=>decide (mQ w=[k1])&&decide (aD (T w)=114)&&decide (b=NEG)&&decide (aD b=114)&&uD k1 [.result] (nI b q)
 |2=>decide (mQ w=[k1])&&decide (aD (T w)=106)&&decide (T w=JA)&&uD k1 [.label] (nI (T w) false)
 |3=>decide (mQ w=[k1,k2])&&decide (aD (T w)=106)&&decide (T w≠JA)&&uD k1 oH (nI (T w) false)&&uD k2 oI (sI (T w) false)
 |4=>decide (mQ w=[k1])&&decide (aD (T w)=108)&&uD k1 lQ (nI (T w) false)
 |5=>decide (mQ w=[k1,k2])&&decide (aD (T w)=115)&&uD k1 jC (nI (T w) false)&&uD k2 gX (sI (T w) false)
 |6=>decide (mQ w=[k1])&&decide (T w=WIDE)&&Xl k1
 |7=>decide (mQ w=[k1])&&decide (w=[104,101,108,112])&&QG k1
 |8=>decide (mQ w=[k1])&&decide (w=[99,97,108,108])&&QG k1
 |9=>decide (mQ w=[k1])&&decide (aD (T w)=101)&&uD k1 [] (nI (T w) false)
 |_=>false
theorem aaW:acp.all aiB=true:=by decide +kernel
theorem TB:(List.range 88).all (λk=>(ax[k]?.getD bU).words.all λu=>Bl.contains u)=true:=by decide +kernel
theorem Bn{w:tLB}(h:w ∉ Bl):mQ w=[]:=by
 unfold mQ;rw[List.filter_eq_nil_iff];intro k hk hc;have h1:=List.all_eq_true.1 TB k hk;have hm:w∈(ax[k]?.getD bU).words:=by simpa using hc
 have h2:=List.all_eq_true.1 h1 w hm;exact h (by simpa using h2)
def abu:List tLB:=[[109,111,118],[97,100,100],[115,117,98],[109,117,108],[100,105,118],[109,111,100],[97,110,100],[111,114],[120,111,114],[108,115,104],[114,115,104],[97,115,104],[110,101,103]]
def abv:List tLB:=[106,97]::pV
theorem acq:gW=abu.map T:=by decide +kernel
theorem acr:fD=abv.map T:=by decide +kernel
theorem yF{w:tLB}{L:List tLB}(h:0<=ahH (T w) (L.map T)):w∈L:=by
 rw[aie]at h;cases hf:L.findIdx? (λx=>x==w)with
 |none=>rw[hf]at h;exact absurd h (by decide)
 |some k =>
  obtain⟨h1,h2,_⟩:=List.findIdx?_eq_some_iff_getElem.1 hf;have:L[k]=w:=by simpa using h2
  rw[<-this];exact List.getElem_mem h1
theorem wN(l:tLB):(T l).size=l.length:=rfl
theorem QK(l:tLB)(n:Nat):(T l).extract 0 n=T (l.take n):=by
 have:((T l).extract 0 n).data.toList=l.take n:=by rw[ByteArray.data_extract,ch,ca];simp[T]
 rw[<-this];rfl
theorem aaX(l:tLB)(n:Nat):(T l).extract n (T l).size=T (l.drop n):=by
 have:((T l).extract n (T l).size).data.toList=l.drop n:=by
  rw[ByteArray.data_extract,ch,ca];rw[wN];show(l.drop n).take (l.length-n)=l.drop n
  exact List.take_of_length_le (by simp)
 rw[<-this];rfl
theorem TC(w:tLB):(fM (T w)=T w)\/∃u,w=u++[51,50]/\fM (T w)=T u:=by
 unfold fM;split
 ·rename_i h
  right;have h2:=h.2;rw[aaX]at h2;have h3:=mf.1 h2;rw[wN]at h3;refine⟨w.take (w.length-2),?_,by rw[wN,QK]⟩;rw[<-h3,cc]
 ·exact .inl rfl
theorem LA:abu.all (λr=>Bl.contains r&&Bl.contains (r++[51,50]))=true:=by decide +kernel
theorem Xn:abv.all (λr=>Bl.contains r)=true:=by decide +kernel
theorem aaY:([[108,100,49],[108,100,50],[108,100,52],[108,100,56],[115,116,49],[115,116,50],[115,116,52],[115,116,56],[119,105,100,101],[104,101,108,112],[99,97,108,108],[101,120,105,116]]:List tLB).all (λr=>Bl.contains r)=true:=by decide +kernel
theorem G8{w:tLB}{c:Int}(h:0<jQ (T w) c):∃d:UInt8,w=(if c=115 then [115,116]else [108,100])++[d]/\(d=49\/d=50\/d=52\/d=56):=by
 unfold jQ at h;split at h
 ·rename_i h3
  have h3':w.length=3:=h3;by_cases hq:(T w).extract 0 2=(if c=115 then T [115,116]else T [108,100])/\(((T w)[2].toNat:Int)=49\/((T w)[2].toNat:Int)=50\/((T w)[2].toNat:Int)=52\/((T w)[2].toNat:Int)=56)
  ·clear h
   obtain⟨a,b,d,rfl⟩:∃a b d,w=[a,b,d]:=by
    match w,h3' with
    |[a,b,d],_=>exact⟨a,b,d,rfl⟩
   refine⟨d,?_,?_⟩
   ·have h1:=hq.1;rw[QK]at h1;split at h1
    ·rename_i hc
     have:=mf.1 h1;rw[iP9 hc];simp only[b9,cw,List.cons.injEq]at this;rw[this.1,this.2.1];rfl
    ·rename_i hc
     have:=mf.1 h1;rw[iN9 hc];simp only[b9,cw,List.cons.injEq]at this;rw[this.1,this.2.1];rfl
   ·have h2:((d.toNat:Int)=49\/(d.toNat:Int)=50\/(d.toNat:Int)=52\/(d.toNat:Int)=56):=hq.2;have key:∀k:UInt8,(d.toNat:Int)=(k.toNat:Int)->d=k:=λk e=>UInt8.toNat_inj.1 (by omega);rcases h2 with e|e|e|e
    ·exact .inl (key 49 e)
    ·exact .inr (.inl (key 50 e))
    ·exact .inr (.inr (.inl (key 52 e)))
    ·exact .inr (.inr (.inr (key 56 e)))
  ·rw[iN9 hq]at h;exact absurd h (by decide)
 ·exact absurd h (by decide)
theorem G9{w:tLB}(h:w ∉ Bl):aD (T w)=0:=by
 have hm:∀u∈([[108,100,49],[108,100,50],[108,100,52],[108,100,56],[115,116,49],[115,116,50],[115,116,52],[115,116,56],[119,105,100,101],[104,101,108,112],[99,97,108,108],[101,120,105,116]]:List tLB),w≠u:=by intro u hu e;subst e;exact h (by simpa using List.all_eq_true.1 aaY w hu)
 unfold aD;rw[iN9,iN9,iN9,iN9,iN9,iN9,iN9,iN9]
 ·exact λe=>hm _ (by simp) (mf.1 e)
 ·exact λe=>hm _ (by simp) (mf.1 e)
 ·exact λe=>hm _ (by simp) (mf.1 e)
 ·exact λe=>hm _ (by simp) (mf.1 e)
 ·intro e;obtain⟨d,rfl,hd⟩:=G8 e;rcases hd with rfl|rfl|rfl|rfl<;>exact hm _ (by simp) rfl
 ·intro e;obtain⟨d,rfl,hd⟩:=G8 e;rcases hd with rfl|rfl|rfl|rfl<;>exact hm _ (by simp) rfl
 ·intro e;rw[acr]at e;exact h (by simpa using List.all_eq_true.1 Xn w (yF e))
 ·intro e;rw[acq]at e;rcases TC w with hb |⟨u,hu,hb⟩
  ·rw[hb]at e;have:=List.all_eq_true.1 LA w (yF e);simp only[an]at this;exact h (by simpa using this.1)
  ·rw[hb]at e;have:=List.all_eq_true.1 LA u (yF e);simp only[an]at this;subst hu;exact h (by simpa using this.2)
def Xo(w l:tLB):Prop :=
 (∀x,kL w l=some x->∃ts,jP l=some ts/\((DK.mk ts false).ins {kind:=105} (T w)).1.done=true/\mh x ((DK.mk ts false).ins {kind:=105} (T w)).2) /\
 (kL w l=none->∀ts,jP l=some ts->((DK.mk ts false).ins {kind:=105} (T w)).1.done=false)
theorem mG{α:Type}{w l:tLB}{f:PP α}{g:DK->aj×DK}{R:α->aj->Prop}{X:α->bH}(hr:kL w l=(whole (f l)).map X)(hg:∀p:DK,sw (p.ins {kind:=105} (T w))=g p)(hs:dE f g R)(hk:dJ f)(hx:∀v y,R v y->mh (X v) y):Xo w l:=by
 have e1:∀p:DK,(p.ins {kind:=105} (T w)).1=(g p).2:=λp=>by rw[<-hg];rfl
 have e2:∀p:DK,(p.ins {kind:=105} (T w)).2=(g p).1:=λp=>by rw[<-hg];rfl
 constructor
 ·intro x h;rw[hr]at h;obtain⟨v,hv,rfl⟩:=Option.map_eq_some_iff.1 h;obtain⟨⟨v',l'⟩,h1,h2⟩:=Option.bind_eq_some_iff.1 hv;split at h2
  ·rename_i hd
   injection h2 with h2;subst h2;obtain⟨ts,k1,k2,k3⟩:=hs.whole hk l v' l' h1 hd;exact⟨ts,k1,by rw[e1];exact k2,by rw[e2];exact hx _ _ k3⟩
  ·cases h2
 ·intro h ts ht;rw[hr]at h;rw[e1];refine hs.refused l ?_ ts ht;intro a l' ha hd;have:=map_none h;unfold whole at this;rw[ha]at this;simp only[Option.bind_some,iP9 hd]at this;cases this
theorem LB{w:tLB}(h:w∈Bl):∃e∈acp,e.1=w/\aiB e=true:=by obtain⟨e,he,rfl⟩:=List.mem_map.1 h;exact⟨e,he,rfl,List.all_eq_true.1 aaW e he⟩
theorem TD(w l:tLB):Xo w l:=by
 by_cases hw:w∈Bl
 ·obtain⟨⟨w',f,k1,k2⟩,_,rfl,hB⟩:=LB hw;dsimp only;have hr:=yD w' l;unfold aiB at hB;dsimp only at hB;split at hB
  ·simp only[an,decide_eq_true_eq]at hB;obtain⟨⟨⟨⟨⟨h1,h2⟩,h3⟩,h4⟩,h5⟩,h6⟩:=hB;rw[h1,aaH (il h5).is (il h6).is]at hr;refine mG hr (g:=arG {kind:=105,i:=nI (fM (T w')) (decide (fM (T w')≠T w'))}) (λp=>?_) (WY _) Lt (λv y hv=>acd h4 (il h5) (il h6) v y hv);unfold DK.ins;rw[iP9 h2];unfold DK.qt;rw[iN9 h3];rfl
  ·simp only[an,decide_eq_true_eq]at hB;obtain⟨⟨⟨⟨h1,h2⟩,h3⟩,h4⟩,h5⟩:=hB;rw[h1,aaJ (il h5).is]at hr;refine mG hr (g:=ngG {kind:=105,i:=nI (fM (T w')) (decide (fM (T w')≠T w'))}) (λp=>?_) (ab5 _) oD (λv y hv=>ace h4 (il h5) v y hv.1 hv.2);unfold DK.ins;rw[iP9 h2];unfold DK.qt;rw[iP9 h3];rfl
  ·simp only[an,decide_eq_true_eq]at hB;obtain⟨⟨⟨h1,h2⟩,h3⟩,h5⟩:=hB;rw[h1,aaK (il h5).is]at hr;refine mG hr (g:=jaG {kind:=105,i:=nI (T w') false}) (λp=>?_) (WZ _) ma (λv y hv=>acf h2 (il h5) v y hv.1 hv.2);unfold DK.ins;rw[iN9 (by rw[h2];decide),iP9 h2];unfold DK.Fa;rw[iP9 h3];rfl
  ·simp only[an,decide_eq_true_eq]at hB;obtain⟨⟨⟨⟨h1,h2⟩,h3⟩,h5⟩,h6⟩:=hB;rw[h1,aaI (il h5).is (il h6).is]at hr;refine mG hr (g:=jpG {kind:=105,i:=nI (T w') false}) (λp=>?_) (ab6 _) Xa (λv y hv=>acg h2 (il h5) (il h6) v y hv);unfold DK.ins;rw[iN9 (by rw[h2];decide),iP9 h2];unfold DK.Fa;rw[iN9 h3];rfl
  ·simp only[an,decide_eq_true_eq]at hB;obtain⟨⟨h1,h2⟩,h5⟩:=hB;rw[h1,aaM (il h5).is]at hr;refine mG hr (g:=ldG {kind:=105,i:=nI (T w') false}) (λp=>?_) (ab7 _) Xd (λv y hv=>ach h2 (il h5) v y hv);unfold DK.ins;rw[iN9 (by rw[h2];decide),iN9 (by rw[h2];decide),iP9 h2];rfl
  ·simp only[an,decide_eq_true_eq]at hB;obtain⟨⟨⟨h1,h2⟩,h5⟩,h6⟩:=hB;rw[h1,aaN (il h5).is (il h6).is]at hr;refine mG hr (g:=stG {kind:=105,i:=nI (T w') false}) (λp=>?_) (ab8 _) Xe (λv y hv=>acj h2 (il h5) (il h6) v y hv);unfold DK.ins;rw[iN9 (by rw[h2];decide),iN9 (by rw[h2];decide),iN9 (by rw[h2];decide),iP9 h2];rfl
  ·simp only[an,decide_eq_true_eq]at hB;obtain⟨⟨h1,h2⟩,h5⟩:=hB;obtain⟨F,hp⟩:=aaV h5;rw[h1,aaO ⟨F.call,hp⟩]at hr;refine mG hr (g:=wiG {kind:=105,i:=nI WIDE false}) (λp=>?_) (ab9 _) Xf (λv y hv=>acm F hp v y hv);unfold DK.ins;rw[h2,iN9 (by rw[bu.1];decide),iN9 (by rw[bu.1];decide),iN9 (by rw[bu.1];decide),iN9 (by rw[bu.1];decide),iP9 bu.1];rfl
  ·simp only[an,decide_eq_true_eq]at hB;obtain⟨⟨h1,h2⟩,h5⟩:=hB;subst h2;have F:=QH h5;have h3:aD (T [104,101,108,112])=104:=bu.2.2.1;rw[h1,aaS F.call]at hr;refine mG hr (g:=λp=>sw (p.AL {kind:=105,i:=nI lY false})) (λp=>?_) (WX _) PB (λv y hv=>acn F v y hv);unfold DK.ins;rw[iN9 (by rw[h3];decide),iN9 (by rw[h3];decide),iN9 (by rw[h3];decide),iN9 (by rw[h3];decide),iN9 (by rw[h3];decide),iP9 h3];rfl
  ·simp only[an,decide_eq_true_eq]at hB;obtain⟨⟨h1,h2⟩,h5⟩:=hB;subst h2;have F:=QH h5;have h3:aD (T [99,97,108,108])=99:=bu.2.1;rw[h1,aaR F.call]at hr;refine mG hr (g:=caG {kind:=105,i:=nI CALL false}) (λp=>?_) (aca _) ma (λv y hv=>aco F v y hv.1 hv.2);unfold DK.ins;rw[iN9 (by rw[h3];decide),iN9 (by rw[h3];decide),iN9 (by rw[h3];decide),iN9 (by rw[h3];decide),iN9 (by rw[h3];decide),iN9 (by rw[h3];decide),iP9 h3];rfl
  ·simp only[an,decide_eq_true_eq]at hB;obtain⟨⟨h1,h2⟩,h5⟩:=hB;rw[h1,aaL (il h5).is]at hr;refine mG hr (g:=λp=>(({kind:=105,i:=nI (T w') false}:aj),p)) (λp=>?_) (acb _) Xg (λv y hv=>by subst hv;exact ack h2 (il h5));unfold DK.ins;rw[iN9 (by rw[h2];decide),iN9 (by rw[h2];decide),iN9 (by rw[h2];decide),iN9 (by rw[h2];decide),iN9 (by rw[h2];decide),iN9 (by rw[h2];decide),iN9 (by rw[h2];decide),iP9 h2];rfl
  ·cases hB
 ·have hr:=yD w l;rw[Bn hw]at hr;have h0:=G9 hw;constructor
  ·intro x h;rw[hr]at h;cases h
  ·intro _ ts _;unfold DK.ins;rw[h0];rfl
def Mo(base:Nat)(c:UInt8):Bool:=decide (ku c<base)
theorem JL(c:UInt8)(base:Nat)(hb:base=10\/base=16):((0<=xN (c.toNat:Int) base)↔ku c<base)/\(ku c<base->(xN (c.toNat:Int) base).toNat=ku c):=by
 unfold xN ku;rcases hb with rfl|rfl
 ·constructor
  ·(repeat' split)<;>omega
  ·(repeat' split)<;>omega
 ·constructor
  ·(repeat' split)<;>omega
  ·(repeat' split)<;>omega
theorem TE{c:UInt8}(h:ku c<16):aG c=true:=by
 unfold ku at h;unfold aG jd di aS;split at h
 ·have:(48:Int)<=c.toNat/\(c.toNat:Int)<=57:=by omega
  simp[this]
 ·split at h
  ·have:(97:Int)<=c.toNat/\(c.toNat:Int)<=122:=by omega
   simp[this]
  ·omega
theorem TF{c:UInt8}(h:aS (c.toNat:Int)=true):ku c<10:=by unfold aS at h;simp only[an,decide_eq_true_eq]at h;unfold ku;rw[iP9 (by omega)];omega
def TG(base:Nat)(v:Nat)(l:tLB):Nat:=l.foldl (λv c=>v*base+ku c) v
theorem ue(base:Nat):∀(ds rest:tLB) (v:Nat),(∀c∈ds,ku c<base)->ahZ base (ds++rest) v=ahZ base rest (TG base v ds)
 |[],_,_,_=>rfl
 |c::ds,rest,v,h=>by rw[List.cons_append,ahZ,iN9 (by have:=h c (by simp);omega),ue base ds rest _ (λd hd=>h d (by simp[hd]))];rfl
theorem bX{t:tLB}{k:Nat}(h:k<t.length):t.drop k=t[k]::t.drop (k+1):=List.drop_eq_getElem_cons h
theorem Cd(t:tLB)(base:Nat)(hb:base=10\/base=16):∀(f k v:Nat),t.length-k<=f->ah4 (T t) base f k v=(TG base v ((t.drop k).takeWhile (Mo base)),k+((t.drop k).takeWhile (Mo base)).length)
 |0,k,v,h=>by have:t.drop k=[]:=ar (by omega);rw[this];rfl
 |f+1,k,v,h=>by
  rw[ah4];by_cases hk:k<t.length
  ·have hd:gp (T t) base k=xN (t[k].toNat:Int) base:=by unfold gp;rw[dif_pos (show k<(T t).size from hk)];rfl
   obtain⟨h1,h2⟩:=JL t[k] base hb;rw[hd,bX hk,ao];by_cases hg:ku t[k]<base
   ·rw[iP9 (h1.2 hg),h2 hg,iP9 (by simpa [Mo]using hg),Cd t base hb f (k+1) _ (by omega)];simp only[bj];refine Prod.ext rfl ?_;show k+1+_=k+(_+1)
    omega
   ·rw[iN9 (λe=>hg (h1.1 e)),iN9 (by simpa [Mo]using hg)];rfl
  ·have hn:t.drop k=[]:=ar (by omega);have hd:gp (T t) base k=-1:=by unfold gp;rw[dif_neg (show ¬k<(T t).size from hk)]
   rw[hd,hn,iN9 (by decide)];rfl
theorem vR(t:tLB)(k:Nat):fT (T t) k=((t.drop k).head?.map aG).getD false:=by
 unfold fT;by_cases hk:k<t.length
 ·rw[dif_pos (show k<(T t).size from hk),bX hk];rfl
 ·rw[dif_neg (show ¬k<(T t).size from hk),ar (by omega)];rfl
theorem Eo(t:tLB)(k:Nat):eZ (T t) k=((t.drop k).head?.map λd=>aS (d.toNat:Int)).getD false:=by
 unfold eZ;by_cases hk:k<t.length
 ·rw[dif_pos (show k<(T t).size from hk),bX hk];rfl
 ·rw[dif_neg (show ¬k<(T t).size from hk),ar (by omega)];rfl
theorem Ce(t:tLB):∀(f k:Nat),t.length-k<=f->ahV (T t) f k=k+((t.drop k).takeWhile aG).length
 |0,k,h=>by have:t.drop k=[]:=ar (by omega);rw[this];rfl
 |f+1,k,h=>by
  rw[ahV,vR];by_cases hk:k<t.length
  ·rw[bX hk,ao];by_cases hg:aG t[k]=true
   ·rw[iP9 (show((t[k]::t.drop (k+1)).head?.map aG).getD false=true from hg),iP9 hg,Ce t f (k+1) (by omega)];simp only[bj];omega
   ·rw[iN9 (show ¬((t[k]::t.drop (k+1)).head?.map aG).getD false=true from hg),iN9 hg];rfl
  ·rw[ar (by omega:t.length<=k)];rfl
def ail:tLB->Bool
 |48::120::c::_=>Mo 16 c
 |_=>false
theorem Cf(t:tLB)(k:Nat):iV (T t) k=((t.drop k).head?.map λc=>(c.toNat:Int)).getD (-1):=by
 unfold iV;by_cases hk:k<t.length
 ·rw[dif_pos (show k<(T t).size from hk),bX hk];rfl
 ·rw[dif_neg (show ¬k<(T t).size from hk),ar (by omega)];rfl
theorem pI{l:tLB}:ail l=true ↔ ∃c r,l=48::120::c::r/\Mo 16 c=true:=by
 constructor
 ·intro h;unfold ail at h;split at h
  ·rename_i c r;exact⟨c,r,rfl,h⟩
  ·cases h
 ·rintro⟨c,r,rfl,h⟩;exact h
theorem LC(t:tLB)(k:Nat):fQ (T t) k=ail (t.drop k):=by
 rw[Bool.eq_iff_iff,pI];unfold fQ;simp only[an,decide_eq_true_eq,Cf];constructor
 ·rintro⟨⟨⟨h1,h2⟩,h3⟩,h4⟩;have h1:k+2<t.length:=h1;rw[bX (by omega)]at h2 ⊢;rw[bX (by omega:k+1<t.length)]at h3 ⊢;rw[bX (by omega:k+1+1<t.length)];have h2:(t[k].toNat:Int)=48:=h2;have h3:(t[k+1].toNat:Int)=120:=h3;have e1:t[k]=48:=UInt8.toNat_inj.1 (by show t[k].toNat=48;omega);have e2:t[k+1]=120:=UInt8.toNat_inj.1 (by show t[k+1].toNat=120;omega);have hd:gp (T t) 16 (k+2)=xN (t[k+2].toNat:Int) 16:=by unfold gp;rw[dif_pos (show k+2<(T t).size from h1)];rfl
  rw[hd]at h4;refine⟨t[k+1+1],t.drop (k+1+1+1),by rw[e1,e2],?_⟩;have:=(JL t[k+2] 16 (.inr rfl)).1.1 h4
  simpa [Mo]using this
 ·rintro⟨c,r,h,hc⟩;have hl:(t.drop k).length=t.length-k:=bt;rw[h]at hl;simp only[bj]at hl;have h1:k+2<t.length:=by omega
  rw[bX (by omega),bX (by omega:k+1<t.length),bX (by omega:k+1+1<t.length)]at h;simp only[List.cons.injEq]at h;obtain⟨e1,e2,e3,e4⟩:=h;have hd:gp (T t) 16 (k+2)=xN (t[k+2].toNat:Int) 16:=by unfold gp;rw[dif_pos (show k+2<(T t).size from h1)];rfl
  refine⟨⟨⟨h1,?_⟩,?_⟩,?_⟩
  ·rw[bX (by omega:k<t.length),e1];rfl
  ·rw[bX (by omega:k+1<t.length),e2];rfl
  ·rw[hd];refine(JL t[k+2] 16 (.inr rfl)).1.2 ?_;rw[show t[k+2]=c from e3]
   simpa [Mo]using hc
def Bo(l:tLB):Nat:=if ail l then 2 else 0
def gG(l:tLB):Nat:=if ail l then 16 else 10
def EU(l:tLB):tLB:=(l.drop (Bo l)).takeWhile (Mo (gG l))
def jN(l:tLB):Nat:=Bo l+(EU l).length
theorem PH{p:UInt8->Bool}{l:tLB}{c:UInt8}(h:c∈l.takeWhile p):p c=true:=by
 induction l with
 |nil=>cases h
 |cons d l ih =>
  rw[ao]at h;split at h
  ·rcases List.mem_cons.1 h with rfl|h
   ·assumption
   ·exact ih h
  ·cases h
theorem aaZ(p:UInt8->Bool)(l:tLB):∀c r,l.drop (l.takeWhile p).length=c::r->p c=false:=by
 induction l with
 |nil=>intro c r h;cases h
 |cons d l ih =>
  intro c r h;rw[ao]at h;split at h
  ·exact ih c r h
  ·rename_i hp
   simp only[List.length_nil,List.drop_zero,List.cons.injEq]at h;rw[<-h.1];simpa using hp
theorem QL(p:UInt8->Bool)(l:tLB):l.takeWhile p=l.take (l.takeWhile p).length:=by
 induction l with
 |nil=>rfl
 |cons d l ih =>
  rw[ao];split
  ·rw[bj,b9,<-ih]
  ·rfl
theorem Xp(p:UInt8->Bool)(l:tLB)(n:Nat)(h:∀c∈l.take n,p c=true):l.takeWhile p=l.take n++(l.drop n).takeWhile p:=by
 conv=>lhs;rw[<-cc n l]
 exact List.takeWhile_append_of_pos h
theorem vS{l:tLB}:∀c∈EU l,ku c<gG l:=λc h=>by
 have:=PH h
 simpa [Mo]using this
theorem Xq(l:tLB):gG l<=16:=by unfold gG;split<;>omega
theorem QM{l:tLB}:l.take (jN l)=l.take (Bo l)++EU l:=by unfold jN;rw[List.take_add];congr 1;unfold EU;exact(QL _ _).symm
theorem PJ{l:tLB}:∀c∈l.take (jN l),aG c=true:=λc h=>by
 rw[QM]at h;rcases List.mem_append.1 h with h|h
 ·unfold Bo at h;split at h
  ·rename_i hx
   obtain⟨d,r,rfl,_⟩:=pI.1 hx;simp only[b9,cw,List.mem_cons,List.not_mem_nil,or_false]at h;rcases h with rfl|rfl<;>decide
  ·cases h
 ·exact TE (Nat.lt_of_lt_of_le (vS c h) (Xq l))
theorem adx(l:tLB):l.takeWhile aG=l.take (Bo l)++EU l++(l.drop (jN l)).takeWhile aG:=by rw[<-QM];exact Xp _ _ _ PJ
theorem ady(l:tLB)(c:UInt8)(r:tLB)(h:l.drop (jN l)=c::r):gG l<=ku c:=by
 have h2:(l.drop (Bo l)).drop (EU l).length=c::r:=by rw[cb];exact h
 have:=aaZ _ _ c r h2
 simpa [Mo]using this
theorem aa0{l:tLB}(h:ail l=false){r:tLB}(hl:l=48::120::r):r=[]\/∃c q,r=c::q/\16<=ku c:=by
 subst hl;cases r with
 |nil=>exact .inl rfl
 |cons c q =>
  right;refine⟨c,q,rfl,?_⟩;have h:Mo 16 c=false:=h
  simpa [Mo]using h
theorem LD{l:tLB}{c:UInt8}{r:tLB}(hl:l=c::r)(hc:aS (c.toNat:Int)=true):0<(EU l).length/\(if 20<jN l\/((l.drop (jN l)).head?.map aG).getD false=true then aU (l.takeWhile aG)=none
   else aU (l.takeWhile aG)=some (TG (gG l) 0 (EU l))/\l.takeWhile aG=l.take (jN l)/\l.dropWhile aG=l.drop (jN l)):=by
 have hpos:0<(EU l).length:=by
  unfold EU;cases hx:ail l with
  |true =>
   obtain⟨d,q,e,hd⟩:=pI.1 hx;have e1:Bo l=2:=by unfold Bo;rw[hx];rfl
   have e2:gG l=16:=by unfold gG;rw[hx];rfl
   rw[e1,e2,e];show 0<((d::q).takeWhile (Mo 16)).length
   rw[ao,iP9 hd];simp
  |false =>
   have e1:Bo l=0:=by unfold Bo;rw[hx];rfl
   have e2:gG l=10:=by unfold gG;rw[hx];rfl
   rw[e1,e2,hl];show 0<((c::r).takeWhile (Mo 10)).length
   rw[ao,iP9 (by simpa [Mo]using TF hc)];simp
 refine⟨hpos,?_⟩;have hW:=adx l;generalize hrest:l.drop (jN l)=rest at *;cases hp:(rest.head?.map aG).getD false with
 |true =>
  rw[iP9 (.inr rfl)];cases rest with
  |nil=>cases hp
  |cons d q =>
   have hdw:aG d=true:=hp;have hdb:=ady l d q hrest;rw[ao,iP9 hdw]at hW;unfold aU;by_cases hcond:gY (l.takeWhile aG)=[]\/20<(l.takeWhile aG).length
   ·rw[iP9 hcond]
   ·rw[iN9 hcond];cases hx:ail l with
    |true =>
     obtain⟨d',q',e,hd'⟩:=pI.1 hx;have e1:Bo l=2:=by unfold Bo;rw[hx];rfl
     have e2:gG l=16:=by unfold gG;rw[hx];rfl
     have e3:l.take 2=[48,120]:=by rw[e];rfl
     rw[e1,e3]at hW;have hh:wR (l.takeWhile aG)=true:=vK.2 ⟨_,hW⟩;unfold jS gY;rw[hh,hW];show ahZ 16 (EU l++d::q.takeWhile aG) 0=none
     rw[ue 16 _ _ _ (λx hx'=>by rw[<-e2];exact vS x hx'),ahZ,iP9 (by rw[<-e2];exact hdb)]
    |false =>
     have e1:Bo l=0:=by unfold Bo;rw[hx];rfl
     have e2:gG l=10:=by unfold gG;rw[hx];rfl
     rw[e1]at hW;unfold jS gY at *;cases hh:wR (l.takeWhile aG)with
     |true =>
      obtain⟨q2,hq2⟩:=vK.1 hh;rw[hh]at hcond;rw[hq2]at hcond ⊢;have hl2:∃q3,l=48::120::q3/\q3.takeWhile aG=q2:=by obtain⟨r',hr',hw1⟩:=eH hq2;rw[hr',ao,iP9 hw1]at hq2;injection hq2 with _ hq2;obtain⟨r'',adz,hw2⟩:=eH hq2;rw[adz,ao,iP9 hw2]at hq2;injection hq2 with _ hq2;exact⟨r'',by rw[hr',adz],hq2⟩
      obtain⟨q3,hq3,hq4⟩:=hl2;rcases aa0 hx hq3 with rfl |⟨x,y,rfl,hx16⟩
      ·rw[<-hq4]at hcond;exact absurd (.inl rfl) hcond
      ·rw[ao]at hq4;split at hq4
       ·rw[<-hq4];show ahZ 16 (x::y.takeWhile aG) 0=none
        rw[ahZ,iP9 hx16]
       ·rw[<-hq4]at hcond;exact absurd (.inl rfl) hcond
     |false =>
      rw[hW];show ahZ 10 (EU l++d::q.takeWhile aG) 0=none
      rw[ue 10 _ _ _ (λx hx'=>by rw[<-e2];exact vS x hx'),ahZ,iP9 (by rw[<-e2];exact hdb)]
 |false =>
  have hr0:rest.takeWhile aG=[]:=by
   cases rest with
   |nil=>rfl
   |cons d q=>rw[ao,iN9 (by have:aG d=false:=hp;simp[this])]
  rw[hr0,List.append_nil]at hW;have hWt:l.takeWhile aG=l.take (jN l):=by rw[hW,QM]
  have hlen:(l.takeWhile aG).length=jN l:=by
   rw[hW,cr];unfold jN;congr 1;unfold Bo;split
   ·rename_i hx
    obtain⟨d',q',e,hd'⟩:=pI.1 hx;rw[e];rfl
   ·rfl
  have hWd:l.dropWhile aG=rest:=by have h1:=cd (p:=aG) (l:=l);rw[hWt]at h1;have h2:=cc (jN l) l;rw[hrest]at h2;exact List.append_cancel_left (h1.trans h2.symm)
  have hdig:ahZ (gG l) (EU l) 0=some (TG (gG l) 0 (EU l)):=by have:=ue (gG l) (EU l) [] 0 vS;rw[List.append_nil]at this;rw[this];rfl
  have hnn:EU l≠[]:=λe=>by rw[e]at hpos;exact absurd hpos (by decide)
  have hBD:jS (l.takeWhile aG)=gG l/\gY (l.takeWhile aG)=EU l:=by
   cases hx:ail l with
   |true =>
    obtain⟨d',q',e,hd'⟩:=pI.1 hx;have e1:Bo l=2:=by unfold Bo;rw[hx];rfl
    have e2:gG l=16:=by unfold gG;rw[hx];rfl
    have e3:l.take 2=[48,120]:=by rw[e];rfl
    rw[e1,e3]at hW;have hh:wR (l.takeWhile aG)=true:=vK.2 ⟨_,hW⟩;unfold jS gY;rw[hh,e2,hW];exact⟨rfl,rfl⟩
   |false =>
    have e1:Bo l=0:=by unfold Bo;rw[hx];rfl
    have e2:gG l=10:=by unfold gG;rw[hx];rfl
    rw[e1]at hW;have hW:l.takeWhile aG=EU l:=hW
    have hh:wR (l.takeWhile aG)=false:=by
     cases hh:wR (l.takeWhile aG)with
     |false=>rfl
     |true =>obtain⟨q2,hq2⟩:=vK.1 hh;have YK:=vS (l:=l) 120 (by rw[<-hW,hq2];simp);rw[e2]at YK;revert YK;decide
    unfold jS gY;rw[hh,e2,hW];exact⟨rfl,rfl⟩
  unfold aU;rw[hBD.1,hBD.2,hlen];by_cases h20:20<jN l
  ·rw[iP9 (.inl h20),iP9 (.inr h20)]
  ·rw[iN9 (λe=>e.elim h20 (λe=>by cases e)),iN9 (λe=>e.elim hnn h20)];exact⟨hdig,hWt,hWd⟩
theorem LF(t:tLB)(i n:Nat)(h:i+n<=t.length):(T t).extract i (i+n)=T ((t.drop i).take n):=by
 have:((T t).extract i (i+n)).data.toList=(t.drop i).take n:=by rw[ByteArray.data_extract,ch,ca];rw[Nat.add_sub_cancel_left];rfl
 rw[<-this];rfl
theorem Ha(t:tLB)(i j:Nat)(b:Bool)(hs:numSign (T t) i=b)(hj:dh (T t) i=j)(hij:j=if b then i+1 else i)(hp:0<(EU (t.drop j)).length):fE (T t) i=(⟨TG (gG (t.drop j)) 0 (EU (t.drop j)),b⟩,j+jN (t.drop j)-i):=by
 have h1:fQ (T t) j=ail (t.drop j):=LC t j;have h2:dw (T t) i=j+Bo (t.drop j):=by unfold dw Bo;rw[hj,h1];split<;>rfl
 have h3:iD (T t) i=gG (t.drop j):=by unfold iD gG;rw[hj,h1]
 have h4:oJ (T t) i=(TG (gG (t.drop j)) 0 (EU (t.drop j)),j+Bo (t.drop j)+(EU (t.drop j)).length):=by
  unfold oJ;have hb:gG (t.drop j)=10\/gG (t.drop j)=16:=by unfold gG;split<;>simp
  rw[h2,h3,Cd t _ hb _ _ _ (by rw[wN];exact Nat.le_refl _)];have:t.drop (j+Bo (t.drop j))=(t.drop j).drop (Bo (t.drop j)):=by rw[cb]
  rw[this];rfl
 unfold fE;rw[h4,h2,hs];simp only;rw[iN9 (by omega)];unfold jN;congr 1;omega
theorem QN(l:tLB):jN l<=l.length:=by
 have h:=congrArg List.length (QM (l:=l));rw[List.length_take,cr]at h
 have h2:(l.take (Bo l)).length=Bo l:=by
  unfold Bo;split
  ·rename_i hx
   obtain⟨d',q',e,hd'⟩:=pI.1 hx;rw[e];rfl
  ·rfl
 rw[h2]at h;unfold jN at *;omega
theorem Xr(t:tLB)(i:Nat)(c:UInt8)(r:tLB)(hl:t.drop i=c::r):ji (T t) i (c.toNat:Int)=(aid (c::r)).map λx=>(x.1,t.length-x.2.length):=by
 have hlen:(t.drop i).length=t.length-i:=bt;have hr:t.drop (i+1)=r:=by rw[<-cb,hl];rfl
 have hlt:i<t.length:=by rw[hl]at hlen;simp only[bj]at hlen;omega
 have hb:iV (T t) i=(c.toNat:Int):=by rw[Cf,hl];rfl
 have ag9:r.length+1=t.length-i:=by rw[hl]at hlen;simpa using hlen
 rw[ik];unfold ji;by_cases hs:di (c.toNat:Int)=true
 ·rw[iP9 hs,iP9 hs,Ce t _ _ (by rw[wN];exact Nat.le_refl _)];rw[hl];have hw:((c::r).takeWhile aG).length<=(c::r).length:=(List.takeWhile_sublist aG).length_le;have hsum:((c::r).takeWhile aG).length+((c::r).dropWhile aG).length=(c::r).length:=by rw[<-cr,cd]
  simp only[bj]at hw hsum;rw[LF t i _ (by omega),hl,<-QL];simp only[cj];refine congrArg some (Prod.ext rfl ?_);show i+_=t.length-_
  omega
 ·rw[iN9 hs,iN9 hs];by_cases hd:aS (c.toNat:Int)=true
  ·rw[iP9 (by rw[hd];rfl),iP9 hd];have h45:numSign (T t) i=false:=by unfold numSign;rw[hb];apply decide_eq_false;unfold aS at hd;simp only[an,decide_eq_true_eq]at hd;omega
   obtain⟨hpos,hN⟩:=LD hl hd;have hM:=Ha t i i false h45 (by unfold dh;rw[h45];rfl) rfl hpos;have hle:=QN (t.drop i);have e2:(fE (T t) i).2=jN (t.drop i):=by rw[hM];simp only;omega
   have e3:numDigits (T t) i=(jN (t.drop i):Int):=by unfold numDigits;rw[e2,hM];simp
   rw[e3,e2,vR];have hdd:t.drop (i+jN (t.drop i))=(t.drop i).drop (jN (t.drop i)):=by rw[cb]
   rw[hdd,hM];simp only;rw[<-hl];by_cases hq:20<jN (t.drop i)\/(((t.drop i).drop (jN (t.drop i))).head?.map aG).getD false=true
   ·rw[iP9 hq]at hN;rw[iP9 (hq.imp (λh=>by omega) id),hN];rfl
   ·rw[iN9 hq]at hN;rw[iN9 (λe=>hq (e.imp (λh=>by omega) id)),hN.1,hN.2.1,hN.2.2];simp only[cj];rw[LF t i _ (by omega)];refine congrArg some (Prod.ext rfl ?_);show i+_=t.length-_
    rw[bt];omega
  ·rw[iN9 hd];by_cases hm:c=45/\(r.head?.map λd=>aS (d.toNat:Int))=some true
   ·obtain⟨rfl,hm⟩:=hm;rw[iP9 (show(45:UInt8)=45/\(r.head?.map λd=>aS (d.toNat:Int))=some true from⟨rfl,hm⟩)];have hdg:eZ (T t) (i+1)=true:=by rw[Eo,hr,hm];rfl
    rw[iP9 (show(aS ((45:UInt8).toNat:Int)||(decide (((45:UInt8).toNat:Int)=45)&&eZ (T t) (i+1)))=true by rw[hdg];rfl)];have h45:numSign (T t) i=true:=by unfold numSign;rw[hb];rfl
    cases r with
    |nil=>cases hm
    |cons d r2 =>
     have ae0:aS (d.toNat:Int)=true:=by simpa using hm
     obtain⟨hpos,hN⟩:=LD hr ae0;have hM:=Ha t i (i+1) true h45 (by unfold dh;rw[h45];rfl) rfl hpos;have hle:=QN (t.drop (i+1));rw[bt]at hle;have e2:(fE (T t) i).2=1+jN (t.drop (i+1)):=by rw[hM];simp only;omega
     have e3:numDigits (T t) i=(jN (t.drop (i+1)):Int):=by unfold numDigits;rw[e2,hM];simp only[if_true];omega
     rw[e3,e2,vR];have hdd:t.drop (i+(1+jN (t.drop (i+1))))=(t.drop (i+1)).drop (jN (t.drop (i+1))):=by rw[cb];congr 1;omega
     rw[hdd,hM];simp only;rw[<-hr];by_cases hq:20<jN (t.drop (i+1))\/(((t.drop (i+1)).drop (jN (t.drop (i+1)))).head?.map aG).getD false=true
     ·rw[iP9 hq]at hN;rw[iP9 (hq.imp (λh=>by omega) id),hN];rfl
     ·rw[iN9 hq]at hN;rw[iN9 (λe=>hq (e.imp (λh=>by omega) id)),hN.1,hN.2.1,hN.2.2];simp only[cj];rw[LF t i _ (by omega)];have et:(t.drop i).take (1+jN (t.drop (i+1)))=45::(t.drop (i+1)).take (jN (t.drop (i+1))):=by rw[hl,hr,Nat.add_comm 1,b9]
      rw[et];refine congrArg some (Prod.ext rfl ?_);show i+_=t.length-_
      rw[bt,bt];omega
   ·rw[iN9 hm]
    have hnot:(aS (c.toNat:Int)||(decide ((c.toNat:Int)=45)&&eZ (T t) (i+1)))=false:=by
     rw[show aS (c.toNat:Int)=false by simpa using hd];cases h45:decide ((c.toNat:Int)=45)with
     |false=>rfl
     |true =>
      have hc:c=45:=UInt8.toNat_inj.1 (by have:=of_decide_eq_true h45;show c.toNat=45;omega);rw[Eo,hr];cases hh:(r.head?.map λd=>aS (d.toNat:Int))with
      |none=>rfl
      |some q =>
       cases q with
       |true=>exact absurd ⟨hc,hh⟩ hm
       |false=>rfl
    rw[iN9 (by simp[hnot])];by_cases hg:mM (c.toNat:Int)=true
    ·rw[iP9 hg,iP9 hg,LF t i 1 (by omega),hl];simp only[cj];refine congrArg some (Prod.ext ?_ ?_)
     ·simp
     ·show i+1=t.length-_
      omega
    ·rw[iN9 hg,iN9 hg];rfl
