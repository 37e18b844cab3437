import Derived.Test.YtmajaohgiilelaaGreatDoorC40
import Derived.Test.YtmajaohgiilelaaGreatDoorC38
namespace Go.Proofs.YtmajaohgiilelaaGreatDoor
open Go.RowKit
open Bool renaming true_and->cb,and_eq_true->ch,or_eq_true->cj,false_and->cJ,not_eq_true'->cT
open List renaming map_append->an,map_cons->ao,flatMap_map->ar,length_map->ba,map_map->bt,map_singleton->b9,getElem_append_left->ca,mem_reverse->cc,length_reverse->cr,count_pos_iff->cw,flatMap_cons->cx,drop_eq_getElem_cons->cy,drop_eq_nil_of_le->cD,takeWhile_prefix->cH,eq_nil_or_concat->cI,zip_map'->cQ,mem_map_of_mem->cR,take_length->cX,getElem_map->cY,getElem_mem->de
open Nat renaming lt_or_ge->bh,not_lt_zero->bj,reduceEqDiff->cd,le_refl->cG,add_sub_cancel->cS,zero_le->cW
set_option linter.all false
def aif:List qN->uB->Nat->uB ⊕ Nat
 |[],a,_=>.inl a
 |r::rs,a,n=>match jX a r (n+1:Nat)with
  |none=>.inr (n+1)
  |some a'=>aif rs a' (n+1)
theorem EB(l:tLB):∀(f k:Nat),k+f=l.length->ahS (T l) f k=k+((l.drop k).takeWhile (λd=>d != 10)).length
 |0,k,h=>by rw[ahS,cD (by omega)];rfl
 |f+1,k,h=>by
  have hk:k<l.length:=by omega
  have hs:(T l).size=l.length:=rfl;have hb:iV (T l) k=((l[k]).toNat:Int):=by unfold iV;rw[dif_pos (show k<(T l).size from hk)];rfl
  rw[ahS,hb,cy hk,List.takeWhile_cons];by_cases e:l[k]=10
  ·rw[iP9 (.inl (by rw[e];rfl)),iN9 (by simp[e])];rfl
  ·have e':¬((l[k].toNat:Int)=10\/(T l).size<=k):=by
    rintro(h1|h1)
    ·exact e (UInt8.toNat_inj.1 (by have:l[k].toNat=10:=(by omega);rw[this];rfl))
    ·omega
   rw[iN9 e',iP9 (by simpa using e),EB l f (k+1) (by omega)];simp only[List.length_cons];omega
theorem yJ(l:tLB):∀(f k n:Nat) (a:uB),k<=l.length+1->l.length+1-k<=f->ahT (T l) f k n a=if k<=l.length then aif ((ahK (l.drop k)).map (λt=>ahO (T t))) a n else .inl a
 |0,k,n,a,h1,h2=>by rw[ahT,iN9 (by omega)]
 |f+1,k,n,a,h1,h2=>by
  have hs:(T l).size=l.length:=rfl;rw[ahT,hs];by_cases hk:k<=l.length
  ·rw[iP9 hk,iP9 hk,EB l (l.length-k) k (by omega)];have hd:(l.drop k).length=l.length-k:=List.length_drop;have htw:(l.drop k).takeWhile (λd=>d != 10)=(l.drop k).take ((l.drop k).takeWhile (λd=>d != 10)).length:=(List.prefix_iff_eq_take.1 (cH _))
   generalize hm:((l.drop k).takeWhile (λd=>d != 10)).length=m at *;have hle:m<=(l.drop k).length:=by rw[<-hm];exact(cH _).length_le
   rw[LF l k m (by omega)];by_cases Kl:m<(l.drop k).length
   ·rw[x9 _ m htw Kl,ao,aif];cases jX a (ahO (T ((l.drop k).take m))) ((n+1:Nat):Int)with
    |none=>rfl
    |some a' =>dsimp only;rw[yJ l f (k+m+1) (n+1) a' (by omega) (by omega),iP9 (by omega),List.drop_drop,show k+(m+1)=k+m+1 by omega]
   ·have hme:m=(l.drop k).length:=by omega
    have hno:ahK (l.drop k)=[l.drop k]:=AU _ (λd hdm=>by
     rw[hme,cX]at htw;rw[<-htw]at hdm;have:=List.all_eq_true.1 (List.all_takeWhile (p:=λd:UInt8=>d != 10) (l:=l.drop k)) d hdm
     simpa using this)
    rw[hno,hme,cX,ao,List.map_nil,aif];cases jX a (ahO (T (l.drop k))) ((n+1:Nat):Int)with
    |none=>rfl
    |some a' =>dsimp only;rw[yJ l f _ (n+1) a' (by omega) (by omega),iN9 (by omega)];rfl
  ·rw[iN9 hk,iN9 hk]
theorem TZ(l:tLB):ahT (T l) ((T l).size+1) 0 0 {}=aif ((ahK l).map (λt=>ahO (T t))) {} 0:=by rw[yJ l ((T l).size+1) 0 0 {} (cW _) (Nat.sub_le _ _),iP9 (cW _),List.drop_zero]
def uE(a:uB)(x:bV)(y:aj)(line:Int):uB :=
 if x.kind=1 then kg a (T x.name) x.ns line else if x.kind=2 then rj a (T x.name) line else if x.kind=3 then Bf a (T x.name) line else if x.kind=4 then CA a y line else a
theorem Ch.step{x:bV}{r:qN}(h:Ch x r)(a:uB)(line:Int):jX a r line=if a.fs=[]/\(x.kind=3\/x.kind=4)then none else some (uE a x r.x line):=by
 have h0:¬r.ok=false:=by rw[h.ok];decide
 unfold jX uE;rcases h.kd with⟨k1,k2⟩ |⟨k1,k2,k3,k4,_⟩ |⟨k1,k2,k3,_⟩ |⟨k1,k2,k3,_⟩ |⟨k1,hI⟩
 ·rw[k1,k2];simp[h0]
 ·rw[k1,k2,k3,k4];simp[h0]
 ·rw[k1,k2,k3];simp[h0]
 ·rw[k1,k2,k3];by_cases e:a.fs=[]<;>simp[h0,e]
 ·rw[k1,hI.kind];by_cases e:a.fs=[]<;>simp[h0,e]
theorem Hw(fs:List eX)(g:eX->eX):uC fs g=[]↔fs=[]:=by
 unfold uC;rcases cI fs with e |⟨l,b,e⟩
 ·simp[e]
 ·rw[e];simp
theorem T9(a:uB)(x:bV)(y:aj)(line:Int):(uE a x y line).fs=[]↔a.fs=[]/\x.kind≠2:=by
 unfold uE;by_cases k1:x.kind=1
 ·rw[iP9 k1];simp[kg,k1]
 rw[iN9 k1];by_cases k2:x.kind=2
 ·rw[iP9 k2];simp[rj,k2]
 rw[iN9 k2];by_cases k3:x.kind=3
 ·rw[iP9 k3];simp only[Bf,Hw];exact⟨λh=>⟨h,k2⟩,λh=>h.1⟩
 rw[iN9 k3];by_cases k4:x.kind=4
 ·rw[iP9 k4];simp only[CA,Hw];exact⟨λh=>⟨h,k2⟩,λh=>h.1⟩
 rw[iN9 k4];exact⟨λh=>⟨h,k2⟩,λh=>h.1⟩
def aim:List (bV×aj)->uB->Nat->uB
 |[],a,_=>a
 |p::ps,a,n=>aim ps (uE a p.1 p.2 (n+1:Nat)) (n+1)
theorem Cl:∀(ts:List tLB) (kM:Bool) (n:Nat) (acc:List bV) (a:uB),(kM=false↔a.fs=[]) -> (∀k,ahL ts kM n acc=.inr k->aif (ts.map (λt=>ahO (T t))) a n=.inr k) /\ (∀ls,ahL ts kM n acc=.inl ls->∃ps:List (bV×aj),ls=acc++ps.map (·.1)/\(∀p∈ps,∃r,Ch p.1 r/\r.x=p.2)/\aif (ts.map (λt=>ahO (T t))) a n=.inl (aim ps a n))
 |[],kM,n,acc,a,_=>by
  refine⟨λk h=>?_,λls h=>?_⟩
  ·rw[ahL]at h;cases h
  ·rw[ahL]at h;injection h with h;exact⟨[],by simp[h],λp hp=>(by cases hp),rfl⟩
 |t::ts,kM,n,acc,a,hf=>by
  rw[ahL,ao,aif];cases hl:bY t with
  |none =>
   have h0:=(yG t).2 hl;have hn:jX a (ahO (T t)) ((n+1:Nat):Int)=none:=by unfold jX;rw[iP9 (.inl h0)]
   rw[hn];dsimp only;exact⟨λk h=>(by injection h with h;rw[h]),λls h=>(by cases h)⟩
  |some x =>
   have hR:=(yG t).1 x hl;rw[hR.step a];dsimp only;by_cases hc:a.fs=[]/\(x.kind=3\/x.kind=4)
   ·have hx2:(x.kind==2)=false:=by rw[beq_eq_false_iff_ne];omega
    rw[iP9 hc,iP9 ⟨by rw[hf.2 hc.1,hx2];rfl,hc.2⟩];exact⟨λk h=>(by injection h with h;rw[h]),λls h=>(by cases h)⟩
   ·have hc':¬((kM||x.kind==2)=false/\(x.kind=3\/x.kind=4)):=fun⟨h1,h2⟩=>hc ⟨hf.1 (by simpa using(Bool.or_eq_false_iff.1 h1).1),h2⟩;rw[iN9 hc,iN9 hc'];dsimp only;obtain⟨i1,i2⟩:=Cl ts (kM||x.kind==2) (n+1) (acc++[x]) (uE a x (ahO (T t)).x (n+1:Nat)) (by rw[T9,Bool.or_eq_false_iff,hf,beq_eq_false_iff_ne]);refine⟨i1,λls h=>?_⟩;obtain⟨ps,e1,e2,e3⟩:=i2 ls h;refine⟨(x,(ahO (T t)).x)::ps,by rw[e1];simp,λp hp=>?_,e3⟩;rcases List.mem_cons.1 hp with rfl|hp
    ·exact⟨_,hR,rfl⟩
    ·exact e2 p hp
structure GI where
 x:bH
 y:aj
 line:Nat
 slot:Nat
structure GF where
 name:tLB
 ix:Nat
 line:Nat
 xs:List GI:=[]
 aP:List (tLB×Nat):=[]
 dW:pR:={}
structure GS where
 gm:List bV:=[]
 gs:List GF:=[]
 slots:Nat:=0
def Aj(gs:List GF)(f:GF->GF):List GF:=gs.dropLast++(gs.getLast?.map f).toList
theorem Hy(l:List eX)(x:eX)(g:eX->eX):uC (l++[x]) g=l++[g x]:=by simp[uC]
theorem rF(l:List GF)(x:GF)(f:GF->GF):Aj (l++[x]) f=l++[f x]:=by simp[Aj]
def GF.lab(g:GF)(x:tLB):GF:={g with aP:=g.aP++[(x,g.dW.slots)],dW:=g.dW.label x}
def GF.code(g:GF)(x:bH)(y:aj)(n:Nat):GF:={g with xs:=g.xs++[⟨x,y,n,g.dW.slots⟩],dW:=g.dW.code x.o}
def EC(G:GS)(p:bV×aj)(n:Nat):GS :=
 if p.1.kind=1 then{G with gm:=G.gm++[p.1]}
 else if p.1.kind=2 then{G with gs:=G.gs++[{name:=p.1.name,ix:=G.gs.length,line:=n}]}
 else if p.1.kind=3 then{G with gs:=Aj G.gs (λg=>g.lab p.1.name)}
 else if p.1.kind=4 then{G with gs:=Aj G.gs (λg=>g.code p.1.x p.2 n),slots:=G.slots+p.1.x.o.slots}
 else G
def GF.pK(g:GF):eX:=⟨⟨T g.name,g.dW.slots⟩,⟨g.xs.map (λz=>z.y.ri),g.xs.map (λz=>(z.slot:Int)),g.aP.map (λp=>(T p.1,(p.2:Int))),⟨0,false⟩⟩,(g.line:Int),g.xs.map (λz=>(z.line:Int))⟩
def GF.pf(O:OL)(g:GF):qd:=⟨g.name,g.xs.map (λz=>Be O g.ix z.slot z.x)⟩
def wP:Nat->List GI->Prop
 |_,[]=>True
 |s,z::l=>z.slot=s/\wP (s+z.x.o.slots) l
def CJ(l:List GI):Nat:=(l.map (λz=>z.x.o.slots)).sum
theorem Cm:∀(l:List GI) (s:Nat) (z:GI),wP s l->z.slot=s+CJ l->wP s (l++[z])
 |[],s,z,_,h=>⟨by simpa [CJ]using h,trivial⟩
 |y::l,s,z,h1,h2=>⟨h1.1,Cm l _ z h1.2 (by rw[h2];simp[CJ];omega)⟩
structure GF.Ok(g:GF):Prop where
 nm:ahI g.name=true
 sa:wP 0 g.xs
 ss:g.dW.slots=CJ g.xs
 ends:g.dW.ends=oU (g.xs.map (λz=>z.y.ri))
 aP:∀x,dC g.dW.aP x=dC g.aP x
 xs:∀z∈g.xs,mh z.x z.y
structure RG(O:OL)(G:GS)(a:uB)(ol:OL)(k:WK)(b:BS):Prop where
 YI:a.ms=G.gm.map (λx=>kH (T x.name) x.ns)
 Ua:a.fs=G.gs.map GF.pK
 asl:a.slots=G.slots
 olm:ol.maps=(G.gm.map (·.name)).reverse
 olf:ol.fs=G.gs.map (·.dW)
 km:k.maps=(G.gm.map (·.name)).reverse
 kf:k.funcs=(G.gs.map (·.name)).reverse
 kl:∀i g,G.gs=i++[g]->k.labels=(g.aP.map (·.1)).reverse
 ks:k.slots=G.slots
 bm:b.ms=G.gm.map pT
 bf:b.fs=G.gs.map (GF.pf O)
 bs:∀i g,G.gs=i++[g]->b.slot=g.dW.slots
 ok:∀g∈G.gs,g.Ok
 ix:∀j (h:j<G.gs.length),G.gs[j].ix=j
 gk:∀x∈G.gm,x.ns.length=3/\ahI x.name=true
 tot:∀g∈G.gs,g.dW.slots<=G.slots
theorem RG.new(O:OL):RG O {} {} {} {} {}:=⟨rfl,rfl,rfl,rfl,rfl,rfl,rfl,λi g h=>absurd h (by simp),rfl,rfl,rfl,λi g h=>absurd h (by simp),λg h=>(by cases h),λj h=>absurd h (bj _),λx h=>(by cases h),λg h=>(by cases h)⟩
theorem Hz(l:List (tLB×Nat))(x y:tLB)(n:Nat):dC (l++[(x,n)]) y=(dC l y).or (if x=y then some n else none):=by
 unfold dC;rw[List.find?_append];cases h:l.find? (λp=>p.1==y)with
 |some q=>simp
 |none =>
  by_cases e:x=y
  ·simp[e]
  ·have:(x==y)=false:=by simpa using e
   simp[this,e]
theorem LZ(f:pR)(x y:tLB):dC (f.label x).aP y=(dC f.aP y).or (if x=y then some f.slots else none):=by
 unfold pR.label;split
 ·rename_i h
  by_cases e:x=y
  ·subst e;cases hl:dC f.aP x with
   |none=>rw[hl]at h;cases h
   |some n=>rfl
  ·simp[e]
 ·exact Hz _ _ _ _
theorem L6{O:OL}{l:List pR}{x:pR}(h:O.fs=l++[x]):O.last=x/\∀f,(O.dx f).fs=l++[f]:=by unfold OL.last OL.dx;rw[h];refine⟨by simp,λf=>by simp⟩
theorem Ub{b:BS}{l:List qd}{x:qd}(h:b.fs=l++[x]):b.last=x/\∀f,b.fs.set (b.fs.length-1) f=l++[f]:=by unfold BS.last;rw[h];refine⟨by simp,λf=>by simp⟩
theorem mT(f:pR)(x:tLB):(f.label x).slots=f.slots/\(f.label x).ends=f.ends:=by unfold pR.label;split<;>exact⟨rfl,rfl⟩
theorem JQ(l:List bI)(i:bI):oU (l++[i])=jH i.word:=by unfold oU;simp
theorem GF.Ok.lab{g:GF}(h:g.Ok)(x:tLB):(g.lab x).Ok:=by
 refine⟨h.nm,h.sa,(mT _ _).1.trans h.ss,?_,λy=>?_,h.xs⟩
 ·show(g.dW.label x).ends=_
  rw[(mT _ _).2];exact h.ends
 ·show dC (g.dW.label x).aP y=dC (g.aP++[(x,g.dW.slots)]) y
  rw[LZ,Hz,h.aP]
theorem GF.Ok.code{g:GF}(h:g.Ok){x:bH}{y:aj}(hI:mh x y)(n:Nat):(g.code x y n).Ok:=by
 refine⟨h.nm,Cm _ _ _ h.sa (by rw[Nat.zero_add];exact h.ss),?_,?_,h.aP,λz hz=>?_⟩
 ·show g.dW.slots+x.o.slots=CJ (g.xs++[(⟨x,y,n,g.dW.slots⟩:GI)])
  rw[h.ss];simp[CJ]
 ·show x.o.ends=oU ((g.xs++[(⟨x,y,n,g.dW.slots⟩:GI)]).map (λz=>z.y.ri))
  rw[an,b9,JQ];exact hI.ends
 ·rcases List.mem_append.1 (show z∈g.xs++[(⟨x,y,n,g.dW.slots⟩:GI)]from hz)with hz|hz
  ·exact h.xs z hz
  ·rw[List.mem_singleton.1 hz];exact hI
theorem abb(g:GF)(x:tLB):(g.lab x).pK={g.pK with o:={g.pK.o with lab:=g.pK.o.lab++[(T x,(g.pK.f.slots:Int))]}}:=by unfold GF.pK GF.lab;simp[(mT _ _).1]
theorem XU(g:GF)(x:bH)(y:aj)(n:Nat)(hs:x.o.slots=dL y.i.word):(g.code x y n).pK={g.pK with f:={g.pK.f with slots:=g.pK.f.slots+dL y.i.word},o:={g.pK.o with ls:=g.pK.o.ls++[y.ri],ats:=g.pK.o.ats++[(g.pK.f.slots:Int)]},qC:=g.pK.qC++[(n:Int)]}:=by unfold GF.pK GF.code;simp[pR.code,hs]
theorem pM{gs:List GF}(h:gs≠[]):∃i g,gs=i++[g]:=by
 rcases cI gs with e |⟨l,b,e⟩
 ·exact absurd e h
 ·exact⟨l,b,by rw[e,List.concat_eq_append]⟩
theorem rG{i j:List GF}{g h:GF}(e:i++[g]=j++[h]):i=j/\g=h:=by have:=List.append_inj' e rfl;exact⟨this.1,by simpa using this.2⟩
theorem abd(O:OL)(g:GF)(x:bH)(y:aj)(n:Nat):(g.code x y n).pf O=⟨(g.pf O).name,(g.pf O).code++[Be O g.ix g.dW.slots x]⟩:=by unfold GF.pf GF.code;simp
theorem RG.step{O:OL}{G:GS}{a:uB}{ol:OL}{k:WK}{b:BS}(h:RG O G a ol k b)(p:bV×aj)(r:qN)(hR:Ch p.1 r)(hr:r.x=p.2)(n:Nat)(hin:p.1.kind=3\/p.1.kind=4->G.gs≠[]):RG O (EC G p n) (uE a p.1 p.2 (n:Nat)) (bG ol p.1) (dV k p.1) (eW O b p.1):=by
 unfold EC uE bG dV eW;by_cases k1:p.1.kind=1
 ·simp only[iP9 k1]
  have h3:p.1.ns.length=3/\ahI p.1.name=true:=by
   rcases hR.kd with e|e|e|e|e
   ·omega
   ·exact⟨e.2.2.2.2.1,e.2.2.2.2.2⟩
   ·omega
   ·omega
   ·omega
  refine⟨?_,h.Ua,h.asl,?_,h.olf,?_,h.kf,h.kl,h.ks,?_,h.bf,h.bs,h.ok,h.ix,λx hx=>?_,h.tot⟩
  ·show a.ms++_=_;rw[h.YI];simp
  ·show _::ol.maps=_;rw[h.olm];simp
  ·show _::k.maps=_;rw[h.km];simp
  ·show b.ms++_=_;rw[h.bm];simp
  ·rcases List.mem_append.1 hx with hx|hx
   ·exact h.gk x hx
   ·rw[List.mem_singleton.1 hx];exact h3
 simp only[iN9 k1];by_cases k2:p.1.kind=2
 ·simp only[iP9 k2]
  have hnm:ahI p.1.name=true:=by
   rcases hR.kd with e|e|e|e|e
   ·omega
   ·omega
   ·exact e.2.2.2
   ·omega
   ·omega
  refine⟨h.YI,?_,h.asl,h.olm,?_,h.km,?_,λi g e=>?_,h.ks,h.bm,?_,λi g e=>?_,λg hg=>?_,λj hj=>?_,h.gk,λg hg=>?_⟩
  ·show a.fs++[eX.new (T p.1.name) n]=_;rw[h.Ua,an];rfl
  ·show ol.fs++[({}:pR)]=_;rw[h.olf,an];rfl
  ·show _::k.funcs=_;rw[h.kf];simp
  ·obtain⟨_,e2⟩:=rG e;rw[<-e2];rfl
  ·show b.fs++[(⟨p.1.name,[]⟩:qd)]=_;rw[h.bf,an];rfl
  ·obtain⟨_,e2⟩:=rG e;rw[<-e2]
  ·rcases List.mem_append.1 hg with hg|hg
   ·exact h.ok g hg
   ·rw[List.mem_singleton.1 hg];exact⟨hnm,trivial,rfl,rfl,λx=>rfl,λz hz=>(by cases hz)⟩
  ·rcases bh j G.gs.length with e|e
   ·show(G.gs++_)[j].ix=j
    rw[ca e];exact h.ix j e
   ·have hj':j<(G.gs++[({name:=p.1.name,ix:=G.gs.length,line:=n}:GF)]).length:=hj;have ej:j=G.gs.length:=by simp at hj';omega
    subst ej;simp
  ·rcases List.mem_append.1 hg with hg|hg
   ·exact h.tot g hg
   ·rw[List.mem_singleton.1 hg];exact cW _
 simp only[iN9 k2];by_cases k3:p.1.kind=3
 ·simp only[iP9 k3,iN9 (show ¬p.1.kind=4 by omega)];obtain⟨i,g,e⟩:=pM (hin (.inl k3));have hok:=h.ok g (by rw[e];simp);obtain⟨l1,l2⟩:=L6 (O:=ol) (l:=i.map (·.dW)) (x:=g.dW) (by rw[h.olf,e];simp);have hg:Aj G.gs (λg=>g.lab p.1.name)=i++[g.lab p.1.name]:=by rw[e];exact rF _ _ _
  simp only[hg];refine⟨h.YI,?_,h.asl,h.olm,?_,h.km,?_,λi' g' e'=>?_,h.ks,h.bm,?_,λi' g' e'=>?_,λg' hg'=>?_,λj hj=>?_,h.gk,λg' hg'=>?_⟩
  ·show uC a.fs _=_
   rw[h.Ua,e,an,an];refine(Hy _ _ _).trans ?_;rw[b9,abb]
  ·rw[l2,l1,an];rfl
  ·show k.funcs=_
   rw[h.kf,e];simp[GF.lab]
  ·obtain⟨_,e2⟩:=rG e';show _::k.labels=_
   rw[<-e2,h.kl i g e];simp[GF.lab]
  ·rw[h.bf,e,an,an];rfl
  ·obtain⟨_,e2⟩:=rG e';rw[<-e2,h.bs i g e];exact(mT _ _).1.symm
  ·rcases List.mem_append.1 hg' with hg'|hg'
   ·exact h.ok g' (by rw[e];simp[hg'])
   ·rw[List.mem_singleton.1 hg'];exact hok.lab _
  ·have hj':j<(i++[g.lab p.1.name]).length:=hj;have hl:j<G.gs.length:=by rw[e];simpa using hj'
   have hx:=h.ix j hl;simp only[e]at hx;rcases bh j i.length with e1|e1
   ·rw[ca e1]at hx ⊢;exact hx
   ·have ej:j=i.length:=by simp at hj';omega
    subst ej;simp at hx ⊢;exact hx
  ·rcases List.mem_append.1 hg' with hg'|hg'
   ·exact h.tot g' (by rw[e];simp[hg'])
   ·rw[List.mem_singleton.1 hg'];show(g.dW.label _).slots<=_
    rw[(mT _ _).1];exact h.tot g (by rw[e];simp)
 simp only[iN9 k3];by_cases k4:p.1.kind=4
 ·simp only[iP9 k4]
  have hI:mh p.1.x p.2:=by
   rcases hR.kd with e|e|e|e|e
   ·omega
   ·omega
   ·omega
   ·omega
   ·rw[<-hr];exact e.2
  obtain⟨i,g,e⟩:=pM (hin (.inr k4));have hok:=h.ok g (by rw[e];simp);obtain⟨l1,l2⟩:=L6 (O:=ol) (l:=i.map (·.dW)) (x:=g.dW) (by rw[h.olf,e];simp);obtain⟨b1,b2⟩:=Ub (b:=b) (l:=i.map (GF.pf O)) (x:=g.pf O) (by rw[h.bf,e];simp);have hbl:b.fs.length-1=g.ix:=by have hx:=h.ix i.length (by rw[e];simp);simp only[e]at hx;simp at hx;rw[h.bf,e,hx];simp
  have hg:Aj G.gs (λg=>g.code p.1.x p.2 n)=i++[g.code p.1.x p.2 n]:=by rw[e];exact rF _ _ _
  simp only[hg];refine⟨h.YI,?_,?_,h.olm,?_,h.km,?_,λi' g' e'=>?_,?_,h.bm,?_,λi' g' e'=>?_,λg' hg'=>?_,λj hj=>?_,h.gk,λg' hg'=>?_⟩
  ·show uC a.fs _=_
   rw[h.Ua,e,an,an];refine(Hy _ _ _).trans ?_;rw[b9,XU g _ _ _ hI.slots,Tz]
  ·show a.slots+_=_
   rw[h.asl,hI.slots]
  ·rw[l2,l1,an];rfl
  ·show k.funcs=_
   rw[h.kf,e];simp[GF.code]
  ·obtain⟨_,e2⟩:=rG e';show k.labels=_
   rw[<-e2,h.kl i g e];rfl
  ·show k.slots+_=_
   rw[h.ks]
  ·rw[b2,b1,hbl,h.bs i g e,an,b9,abd]
  ·obtain⟨_,e2⟩:=rG e';rw[<-e2];show b.slot+_=g.dW.slots+_
   rw[h.bs i g e]
  ·rcases List.mem_append.1 hg' with hg'|hg'
   ·exact h.ok g' (by rw[e];simp[hg'])
   ·rw[List.mem_singleton.1 hg'];exact hok.code hI n
  ·have hj':j<(i++[g.code p.1.x p.2 n]).length:=hj;have hl:j<G.gs.length:=by rw[e];simpa using hj'
   have hx:=h.ix j hl;simp only[e]at hx;rcases bh j i.length with e1|e1
   ·rw[ca e1]at hx ⊢;exact hx
   ·have ej:j=i.length:=by simp at hj';omega
    subst ej;simp at hx ⊢;exact hx
  ·rcases List.mem_append.1 hg' with hg'|hg'
   ·have:=h.tot g' (by rw[e];simp[hg']);show g'.dW.slots<=G.slots+p.1.x.o.slots
    omega
   ·rw[List.mem_singleton.1 hg'];have:=h.tot g (by rw[e];simp);show g.dW.slots+p.1.x.o.slots<=G.slots+p.1.x.o.slots
    omega
 simp only[iN9 k4];exact h
def gAt(ps:List (bV×aj)):Nat->GS
 |0=>{}
 |m+1=>match ps[m]? with
  |none=>gAt ps m
  |some p=>EC (gAt ps m) p (m+1)
def Cn(ps:List (bV×aj)):Nat->uB
 |0=>{}
 |m+1=>match ps[m]? with
  |none=>Cn ps m
  |some p=>uE (Cn ps m) p.1 p.2 (m+1:Nat)
theorem Ak{ps:List (bV×aj)}{m:Nat}{p:bV×aj}(h:ps[m]?=some p):gAt ps (m+1)=EC (gAt ps m) p (m+1):=by rw[gAt,h]
theorem ED{ps:List (bV×aj)}{m:Nat}{p:bV×aj}(h:ps[m]?=some p):Cn ps (m+1)=uE (Cn ps m) p.1 p.2 (m+1:Nat):=by rw[Cn,h]
theorem EE(ps:List (bV×aj)):∀(k m:Nat),m+k=ps.length->aim (ps.drop m) (Cn ps m) m=Cn ps ps.length
 |0,m,h=>by rw[cD (by omega),aim,show m=ps.length by omega]
 |k+1,m,h=>by
  have hm:m<ps.length:=by omega
  rw[cy hm,aim,<-ED (List.getElem?_eq_getElem hm)];exact EE ps k (m+1) (by omega)
theorem XV(ps:List (bV×aj)):aim ps {} 0=Cn ps ps.length:=by
 have:=EE ps ps.length 0 (by omega)
 rwa [List.drop_zero]at this
structure Read(ps:List (bV×aj)):Prop where
 r:∀p∈ps,∃r,Ch p.1 r/\r.x=p.2
 kM:InF (ps.map (·.1))
section
variable {ps : List (bV × aj)}
theorem Read.at(h:Read ps):∀m,m<=ps.length->RG (ai (ps.map (·.1))) (gAt ps m) (Cn ps m) (ai ((ps.map (·.1)).take m)) (kQ ((ps.map (·.1)).take m)) (aK (ai (ps.map (·.1))) ((ps.map (·.1)).take m))
 |0,_=>by rw[List.take_zero];exact RG.new _
 |m+1,hm=>by
  have ih:=h.at m (by omega);have hl:m<(ps.map (·.1)).length:=by rw[ba];omega
  have hp:ps[m]?=some ps[m]:=List.getElem?_eq_getElem (by omega);have he:(ps.map (·.1))[m]=ps[m].1:=by rw[cY]
  rw[Ak hp,ED hp,gy _ m hl,Bt _ m hl,tU _ _ m hl,he];obtain⟨r,h1,h2⟩:=h.r ps[m] (de _);refine ih.step ps[m] r h1 h2 (m+1) (λhk=>?_);have hn:=h.kM m hl (by rw[he];exact hk);rw[ih.olf]at hn;exact λe=>hn (by rw[e];rfl)
theorem Read.gs(h:Read ps){m:Nat}{p:bV×aj}(hp:ps[m]?=some p)(hk:p.1.kind=3\/p.1.kind=4):(gAt ps m).gs≠[]:=by
 obtain⟨hm,rfl⟩:=List.getElem?_eq_some_iff.1 hp;have hl:m<(ps.map (·.1)).length:=by rw[ba];omega
 have hn:=h.kM m hl (by rw[cY];exact hk);rw[(h.at m (by omega)).olf]at hn;exact λe=>hn (by rw[e];rfl)
end
structure IL(ps:List (bV×aj))(n:Nat)(gs:List GF):Prop where
 f1:∀g∈gs,∃m p,m<n/\ps[m]?=some p/\p.1.kind=2/\g.line=m+1/\(gAt ps m).gs.length=g.ix
 f2:∀m p,m<n->ps[m]?=some p->p.1.kind=2->∃g∈gs,g.line=m+1/\g.ix=(gAt ps m).gs.length
 i1:∀g∈gs,∀z∈g.xs,∃m p,m<n/\ps[m]?=some p/\p.1.kind=4/\z.x=p.1.x/\z.y=p.2/\z.line=m+1/\(gAt ps m).gs.length=g.ix+1
 i2:∀m p,m<n->ps[m]?=some p->p.1.kind=4->∃g∈gs,g.ix+1=(gAt ps m).gs.length/\∃z∈g.xs,z.x=p.1.x/\z.y=p.2/\z.line=m+1
theorem IL.more{ps:List (bV×aj)}{n:Nat}{gs:List GF}{p:bV×aj}(h:IL ps n gs)(hp:ps[n]?=some p)(h2:p.1.kind≠2)(h4:p.1.kind≠4):IL ps (n+1) gs:=by
 refine⟨λg hg=>?_,λm q hm hq hk=>?_,λg hg z hz=>?_,λm q hm hq hk=>?_⟩
 ·obtain⟨m,q,a,b⟩:=h.f1 g hg;exact⟨m,q,by omega,b⟩
 ·rcases bh m n with e|e
  ·exact h.f2 m q e hq hk
  ·have:m=n:=by omega
   subst this;rw[hp]at hq;injection hq with hq;subst hq;exact absurd hk h2
 ·obtain⟨m,q,a,b⟩:=h.i1 g hg z hz;exact⟨m,q,by omega,b⟩
 ·rcases bh m n with e|e
  ·exact h.i2 m q e hq hk
  ·have:m=n:=by omega
   subst this;rw[hp]at hq;injection hq with hq;subst hq;exact absurd hk h4
theorem IL.last{ps:List (bV×aj)}{n:Nat}{i:List GF}{g g':GF}(h:IL ps n (i++[g]))(hl:g'.line=g.line)(hx:g'.ix=g.ix)(hs:g'.xs=g.xs):IL ps n (i++[g']):=by
 have tr:∀f∈i++[g],∃f'∈i++[g'],f'.line=f.line/\f'.ix=f.ix/\f'.xs=f.xs:=λf hf=>by
  rcases List.mem_append.1 hf with hf|hf
  ·exact⟨f,by simp[hf],rfl,rfl,rfl⟩
  ·rw[List.mem_singleton.1 hf];exact⟨g',by simp,hl,hx,hs⟩
 have tr':∀f∈i++[g'],∃f'∈i++[g],f'.line=f.line/\f'.ix=f.ix/\f'.xs=f.xs:=λf hf=>by
  rcases List.mem_append.1 hf with hf|hf
  ·exact⟨f,by simp[hf],rfl,rfl,rfl⟩
  ·rw[List.mem_singleton.1 hf];exact⟨g,by simp,hl.symm,hx.symm,hs.symm⟩
 refine⟨λf hf=>?_,λm q hm hq hk=>?_,λf hf z hz=>?_,λm q hm hq hk=>?_⟩
 ·obtain⟨f',h1,h2,h3,h4⟩:=tr' f hf;rw[<-h2,<-h3];exact h.f1 f' h1
 ·obtain⟨f,h1,h2,h3⟩:=h.f2 m q hm hq hk;obtain⟨f',k1,k2,k3,k4⟩:=tr f h1;exact⟨f',k1,by rw[k2,h2],by rw[k3,h3]⟩
 ·obtain⟨f',h1,h2,h3,h4⟩:=tr' f hf;rw[<-h3];exact h.i1 f' h1 z (by rw[h4];exact hz)
 ·obtain⟨f,h1,h2,z,h3⟩:=h.i2 m q hm hq hk;obtain⟨f',k1,k2,k3,k4⟩:=tr f h1;exact⟨f',k1,by rw[k3,h2],z,by rw[k4];exact h3⟩
theorem Read.lines{ps:List (bV×aj)}(h:Read ps):∀n,n<=ps.length->IL ps n (gAt ps n).gs
 |0,_=>⟨λg hg=>(by cases hg),λm p hm=>absurd hm (bj _),λg hg=>(by cases hg),λm p hm=>absurd hm (bj _)⟩
 |n+1,hn=>by
  have ih:=h.lines n (by omega);have hG:=h.at n (by omega);have hp:ps[n]?=some ps[n]:=List.getElem?_eq_getElem (by omega);generalize ps[n]=p at hp;rw[Ak hp];unfold EC;by_cases k1:p.1.kind=1
  ·rw[iP9 k1];exact ih.more hp (by omega) (by omega)
  rw[iN9 k1];by_cases k2:p.1.kind=2
  ·rw[iP9 k2];refine⟨λg hg=>?_,λm q hm hq hk=>?_,λg hg z hz=>?_,λm q hm hq hk=>?_⟩
   ·rcases List.mem_append.1 hg with hg|hg
    ·obtain⟨m,q,a,b⟩:=ih.f1 g hg;exact⟨m,q,by omega,b⟩
    ·rw[List.mem_singleton.1 hg];exact⟨n,p,by omega,hp,k2,rfl,rfl⟩
   ·rcases bh m n with e|e
    ·obtain⟨g,h1,h2⟩:=ih.f2 m q e hq hk;exact⟨g,List.mem_append.2 (.inl h1),h2⟩
    ·have:m=n:=by omega
     subst this;exact⟨_,List.mem_append.2 (.inr (List.mem_singleton.2 rfl)),rfl,rfl⟩
   ·rcases List.mem_append.1 hg with hg|hg
    ·obtain⟨m,q,a,b⟩:=ih.i1 g hg z hz;exact⟨m,q,by omega,b⟩
    ·rw[List.mem_singleton.1 hg]at hz;cases hz
   ·rcases bh m n with e|e
    ·obtain⟨g,h1,h2⟩:=ih.i2 m q e hq hk;exact⟨g,List.mem_append.2 (.inl h1),h2⟩
    ·have:m=n:=by omega
     subst this;rw[hp]at hq;injection hq with hq;subst hq;omega
  rw[iN9 k2];by_cases k3:p.1.kind=3
  ·rw[iP9 k3];obtain⟨i,g,e⟩:=pM (h.gs hp (.inl k3));have hg:Aj (gAt ps n).gs (λg=>g.lab p.1.name)=i++[g.lab p.1.name]:=by rw[e];exact rF _ _ _
   simp only[hg];rw[e]at ih;exact(ih.last (g':=g.lab p.1.name) rfl rfl rfl).more hp (by omega) (by omega)
  rw[iN9 k3];by_cases k4:p.1.kind=4
  ·rw[iP9 k4];obtain⟨i,g,e⟩:=pM (h.gs hp (.inr k4));have hg:Aj (gAt ps n).gs (λg=>g.code p.1.x p.2 (n+1))=i++[g.code p.1.x p.2 (n+1)]:=by rw[e];exact rF _ _ _
   simp only[hg];have hix:(gAt ps n).gs.length=g.ix+1:=by have hx:=hG.ix i.length (by rw[e];simp);simp only[e]at hx;simp at hx;rw[e,hx];simp
   have hall:=ih;rw[e]at ih
   have tr:∀f∈i++[g],∃f'∈i++[g.code p.1.x p.2 (n+1)],f'.line=f.line/\f'.ix=f.ix/\∀z∈f.xs,z∈f'.xs:=λf hf=>by
    rcases List.mem_append.1 hf with hf|hf
    ·exact⟨f,by simp[hf],rfl,rfl,λz hz=>hz⟩
    ·rw[List.mem_singleton.1 hf];exact⟨g.code p.1.x p.2 (n+1),by simp,rfl,rfl,λz hz=>List.mem_append.2 (.inl hz)⟩
   refine⟨λf hf=>?_,λm q hm hq hk=>?_,λf hf z hz=>?_,λm q hm hq hk=>?_⟩
   ·rcases List.mem_append.1 hf with hf|hf
    ·obtain⟨m,q,a,b⟩:=ih.f1 f (by simp[hf]);exact⟨m,q,by omega,b⟩
    ·rw[List.mem_singleton.1 hf];obtain⟨m,q,a,b⟩:=ih.f1 g (by simp);exact⟨m,q,by omega,b⟩
   ·rcases bh m n with e'|e'
    ·obtain⟨f,h1,h2,h3⟩:=ih.f2 m q e' hq hk;obtain⟨f',k1,k2,k3,_⟩:=tr f h1;exact⟨f',k1,by rw[k2,h2],by rw[k3,h3]⟩
    ·have:m=n:=by omega
     subst this;rw[hp]at hq;injection hq with hq;subst hq;omega
   ·rcases List.mem_append.1 hf with hf|hf
    ·obtain⟨m,q,a,b⟩:=ih.i1 f (by simp[hf]) z hz;exact⟨m,q,by omega,b⟩
    ·rw[List.mem_singleton.1 hf]at hz ⊢;rcases List.mem_append.1 (show z∈g.xs++[(⟨p.1.x,p.2,n+1,g.dW.slots⟩:GI)]from hz)with hz|hz
     ·obtain⟨m,q,a,b⟩:=ih.i1 g (by simp) z hz;exact⟨m,q,by omega,b⟩
     ·rw[List.mem_singleton.1 hz];exact⟨n,p,by omega,hp,k4,rfl,rfl,rfl,hix⟩
   ·rcases bh m n with e'|e'
    ·obtain⟨f,h1,h2,z,h3,h4⟩:=ih.i2 m q e' hq hk;obtain⟨f',k1,k2,k3,k4'⟩:=tr f h1;exact⟨f',k1,by rw[k3,h2],z,k4' z h3,h4⟩
    ·have:m=n:=by omega
     subst this;rw[hp]at hq;injection hq with hq;subst hq;exact⟨g.code p.1.x p.2 (m+1),by simp,hix.symm,⟨p.1.x,p.2,m+1,g.dW.slots⟩,List.mem_append.2 (.inr (List.mem_singleton.2 rfl)),rfl,rfl,rfl⟩
  rw[iN9 k4];exact ih.more hp (by omega) (by omega)
def lI(s:j9)(P:Int->Int->Prop):Prop :=
 (s.code=0/\∀c l,¬P c l)\/(s.code≠0/\P s.code s.line/\∀c l,P c l->s.line<l\/(s.line=l/\fu s.code<=fu c))
theorem lI.congr{s:j9}{P Q:Int->Int->Prop}(h:lI s P)(hP:∀c l,P c l↔Q c l):lI s Q:=by have:P=Q:=funext λc=>funext λl=>propext (hP c l);rw[<-this];exact h
theorem lI.wrong{s:j9}{P:Int->Int->Prop}(h:lI s P)(is:Bool)(c l:Int)(hc:c≠0):lI (s.wrong is c l) (λc' l'=>P c' l'\/(is=true/\c'=c/\l'=l)):=by
 unfold j9.wrong;by_cases hq:is=true/\(s.code=0\/l<s.line\/(l=s.line/\fu c<fu s.code))
 ·rw[iP9 hq];refine .inr ⟨hc,.inr ⟨hq.1,rfl,rfl⟩,λc' l' hP=>?_⟩;rcases hP with hP |⟨_,rfl,rfl⟩
  ·rcases h with⟨h0,hn⟩ |⟨h0,h1,h2⟩
   ·exact absurd hP (hn _ _)
   ·have:=h2 c' l' hP;dsimp only;rcases hq.2 with e|e|e
    ·exact absurd e h0
    ·omega
    ·omega
  ·exact .inr ⟨rfl,Int.le_refl _⟩
 ·rw[iN9 hq];rcases h with⟨h0,hn⟩ |⟨h0,h1,h2⟩
  ·refine .inl ⟨h0,λc' l' hP=>?_⟩;rcases hP with hP |⟨e,_,_⟩
   ·exact hn _ _ hP
   ·exact hq ⟨e,.inl h0⟩
  ·refine .inr ⟨h0,.inl h1,λc' l' hP=>?_⟩;rcases hP with hP |⟨e,rfl,rfl⟩
   ·exact h2 _ _ hP
   ·have n1:¬l'<s.line:=λe2=>hq ⟨e,.inr (.inl e2)⟩;have n2:¬(l'=s.line/\fu c'<fu s.code):=λe2=>hq ⟨e,.inr (.inr e2)⟩;omega
theorem lI.foldl{α:Type}(f:j9->α->j9)(E:α->Int->Int->Prop)(hf:∀x s P,lI s P->lI (f s x) (λc l=>P c l\/E x c l)):∀(L:List α) (s:j9) (P:Int->Int->Prop),lI s P->lI (L.foldl f s) (λc l=>P c l\/∃x∈L,E x c l)
 |[],s,P,h=>h.congr (λc l=>by simp)
 |x::L,s,P,h=>by
  rw[List.foldl_cons];refine(lI.foldl f E hf L _ _ (hf x s P h)).congr (λc l=>?_);simp only[List.mem_cons,exists_eq_or_imp];constructor
  ·rintro((h|h)|h)
   ·exact .inl h
   ·exact .inr (.inl h)
   ·exact .inr (.inr h)
  ·rintro(h|h|h)
   ·exact .inl (.inl h)
   ·exact .inl (.inr h)
   ·exact .inr h
theorem Al{s:tBA}{l:List tBA}:0<=ahH s l↔s∈l:=by rw[<-Int.not_lt,Bb,Classical.not_not]
theorem XW{a b:tLB}:T a=T b↔a=b:=mf
theorem XX{x:tLB}{l:List tLB}:T x∈l.map T↔x∈l:=by rw[List.mem_map];exact⟨fun⟨y,h1,h2⟩=>XW.1 h2 ▸ h1,λh=>⟨x,h,rfl⟩⟩
theorem aih(x:tLB):∀aP:List (tLB×Nat),ahJ (T x) (aP.map (λp=>(T p.1,(p.2:Int))))=match dC aP x with
  |none=>-1
  |some n=>(n:Int)
 |[]=>rfl
 |(y,n)::aP=>by
  rw[ao,ahJ];have ih:=aih x aP;unfold dC at ih ⊢;rw[List.find?_cons];by_cases e:y=x
  ·subst e;rw[iP9 rfl];simp
  ·have e2:¬T y=T x:=λh=>e (XW.1 h);have e3:(y==x)=false:=by simpa using e
   rw[iN9 e2,ih];simp only[e3]
theorem Uc(x:tLB)(aP:List (tLB×Nat)):(dC aP x).isSome=true↔x∈aP.map (·.1):=by unfold dC;rw[Option.isSome_map,List.find?_isSome];simp only[List.mem_map,beq_iff_eq]
theorem Ud(x:tLB)(aP:List (tLB×Nat)):0<=ahJ (T x) (aP.map (λp=>(T p.1,(p.2:Int))))↔x∈aP.map (·.1):=by
 rw[aih,<-Uc];cases dC aP x with
 |none=>simp
 |some n=>simp
theorem JR(n:aA)(most:Nat):u7 n most=!(!n.within 0 most||decide (n.v%18446744073709551616=0))\/9223372036854775808<=most:=by
 by_cases hm:9223372036854775808<=most
 ·exact .inr hm
 refine .inl ?_;unfold u7 aA.aO aA.within;by_cases h1:18446744073709551616<=n.v
 ·simp[h1]
 ·have e1:n.v%18446744073709551616=n.v:=Nat.mod_eq_of_lt (by omega);rw[iN9 h1,iN9 h1,e1];by_cases h2:n.minus=true
  ·rw[iP9 h2,iP9 h2];by_cases h3:n.v<=9223372036854775808
   ·rw[iP9 h3];have n1:¬((1:Int)<=-(n.v:Int)):=by omega
    simp[n1]
   ·rw[iN9 h3];have n1:¬n.v<=0:=by omega
    simp[n1]
  ·rw[iN9 h2,iN9 h2];by_cases h3:n.v<9223372036854775808
   ·rw[iP9 h3];by_cases h4:n.v=0
    ·simp[h4]
    ·by_cases h5:n.v<=most
     ·have a1:(1:Int)<=(n.v:Int):=by omega
      have a2:(n.v:Int)<=(most:Int):=by omega
      simp[h4,h5,a1,a2]
     ·have a2:¬(n.v:Int)<=(most:Int):=by omega
      simp[h5,a2]
   ·rw[iN9 h3];have n1:¬n.v<=most:=by omega
    simp[n1]
def Bu(k:WK)(x:bV)(c:Int):Prop :=
 (x.kind=1/\((c=3/\cK (x.ns.getD 0 ay) (x.ns.getD 1 ay) (x.ns.getD 2 ay)=false)\/(c=4/\0<k.maps.count x.name)\/(c=1/\8<k.maps.length+1))) \/
 (x.kind=2/\((c=4/\0<k.funcs.count x.name)\/(c=1/\16<k.funcs.length+1))) \/
 (x.kind=3/\c=4/\0<k.labels.count x.name) \/
 (x.kind=4/\((c=3/\x.x.fits=false)\/(c=1/\200<k.slots+x.x.o.slots)))
theorem L7(y:aj)(line:Int)(s:j9)(P:Int->Int->Prop)(h:lI s P):lI (y.ranged line s).2 (λc l=>P c l\/(l=line/\c=3/\y.tZ=true)):=by
 unfold aj.ranged aj.ig aj.nr aj.tZ;obtain⟨kind,name,vl,i,n,j,hn,hj⟩:=y;cases hj
 ·cases hn
  ·refine(h.wrong _ 3 line (by decide)).congr (λc l=>?_);simp only[cJ,Bool.false_or];exact⟨λh=>h.elim .inl (λh=>.inr ⟨h.2.2,h.2.1,h.1⟩),λh=>h.elim .inl (λh=>.inr ⟨h.2.2,h.2.1,h.1⟩)⟩
  ·refine((h.wrong _ 3 line (by decide)).wrong _ 3 line (by decide)).congr (λc l=>?_);simp only[cJ,Bool.false_or,cb,cj];constructor
   ·rintro((h|h)|h)
    ·exact .inl h
    ·exact .inr ⟨h.2.2,h.2.1,.inl h.1⟩
    ·exact .inr ⟨h.2.2,h.2.1,.inr h.1⟩
   ·rintro(h |⟨h1,h2,h|h⟩)
    ·exact .inl (.inl h)
    ·exact .inl (.inr ⟨h,h2,h1⟩)
    ·exact .inr ⟨h,h2,h1⟩
 ·cases hn
  ·refine((h.wrong _ 3 line (by decide)).wrong _ 3 line (by decide)).congr (λc l=>?_);simp only[cJ,Bool.or_false,cb,cj];constructor
   ·rintro((h|h)|h)
    ·exact .inl h
    ·exact .inr ⟨h.2.2,h.2.1,.inl h.1⟩
    ·exact .inr ⟨h.2.2,h.2.1,.inr h.1⟩
   ·rintro(h |⟨h1,h2,h|h⟩)
    ·exact .inl (.inl h)
    ·exact .inl (.inr ⟨h,h2,h1⟩)
    ·exact .inr ⟨h,h2,h1⟩
  ·refine(((h.wrong _ 3 line (by decide)).wrong _ 3 line (by decide)).wrong _ 3 line (by decide)).congr (λc l=>?_);simp only[cb,cj];constructor
   ·rintro(((h|h)|h)|h)
    ·exact .inl h
    ·exact .inr ⟨h.2.2,h.2.1,.inl (.inl h.1)⟩
    ·exact .inr ⟨h.2.2,h.2.1,.inl (.inr h.1)⟩
    ·exact .inr ⟨h.2.2,h.2.1,.inr h.1⟩
   ·rintro(h |⟨h1,h2,(h|h)|h⟩)
    ·exact .inl (.inl (.inl h))
    ·exact .inl (.inl (.inr ⟨h,h2,h1⟩))
    ·exact .inl (.inr ⟨h,h2,h1⟩)
    ·exact .inr ⟨h,h2,h1⟩
theorem XY{α:Type}{l:List α}(h:l.length=3):∃a b c,l=[a,b,c]:=by
 match l,h with
 |[a,b,c],_=>exact⟨a,b,c,rfl⟩
theorem Ue{O:OL}{G:GS}{a:uB}{ol:OL}{k:WK}{b:BS}(h:RG O G a ol k b)(p:bV×aj)(r:qN)(hR:Ch p.1 r)(hr:r.x=p.2)(line:Int)(hin:p.1.kind=3\/p.1.kind=4->G.gs≠[])(P:Int->Int->Prop)(hB:lI a.sn P):lI (uE a p.1 p.2 line).sn (λc l=>P c l\/(l=line/\Bu k p.1 c)):=by
 unfold uE Bu;by_cases k1:p.1.kind=1
 ·rw[iP9 k1]
  have h3:p.1.ns.length=3:=by
   rcases hR.kd with e|e|e|e|e
   ·omega
   ·exact e.2.2.2.2.1
   ·omega
   ·omega
   ·omega
  obtain⟨n0,n1,n2,hns⟩:=XY h3;have q4:decide (0<=ahH (T p.1.name) (a.ms.map (·.name)))=true↔0<k.maps.count p.1.name:=by rw[decide_eq_true_eq,Al,h.YI,h.km,bt,cw,cc,<-XX,bt];rfl
  have q1:decide (8<=a.ms.length)=true↔8<k.maps.length+1:=by rw[decide_eq_true_eq,h.YI,h.km,ba,cr,ba];omega
  have q3:((!n0.within 0 8||decide (n0.v%18446744073709551616=0))=true\/(!n1.within 0 16||decide (n1.v%18446744073709551616=0))=true\/(!n2.within 0 8||decide (n2.v%18446744073709551616=0))=true)↔cK n0 n1 n2=false:=by have s0:=(JR n0 8).resolve_right (by decide);have s1:=(JR n1 16).resolve_right (by decide);have s2:=(JR n2 8).resolve_right (by decide);unfold cK;rw[show(8:Int)=((8:Nat):Int)from rfl,show(16:Int)=((16:Nat):Int)from rfl,s0,s1,s2];generalize(!n0.within 0 8||decide (n0.v%18446744073709551616=0))=u0;generalize(!n1.within 0 16||decide (n1.v%18446744073709551616=0))=u1;generalize(!n2.within 0 8||decide (n2.v%18446744073709551616=0))=u2;revert u0 u1 u2;decide
  have e:(kg a (T p.1.name) p.1.ns line).sn=(((((a.sn.wrong (!n0.within 0 8||decide (n0.v%18446744073709551616=0)) 3 line).wrong (!n1.within 0 16||decide (n1.v%18446744073709551616=0)) 3 line).wrong (!n2.within 0 8||decide (n2.v%18446744073709551616=0)) 3 line).wrong (decide (0<=ahH (T p.1.name) (a.ms.map (·.name)))) 4 line).wrong (decide (8<=a.ms.length)) 1 line):=by rw[hns];rfl
  rw[e];refine(((((hB.wrong _ 3 line (by decide)).wrong _ 3 line (by decide)).wrong _ 3 line (by decide)).wrong _ 4 line (by decide)).wrong _ 1 line (by decide)).congr (λc l=>?_);rw[q4,q1,hns];have g0:[n0,n1,n2].getD 0 ay=n0:=rfl;have g1:[n0,n1,n2].getD 1 ay=n1:=rfl;have g2:[n0,n1,n2].getD 2 ay=n2:=rfl;rw[g0,g1,g2];constructor
  ·rintro(((((h|h)|h)|h)|h)|h)
   ·exact .inl h
   ·exact .inr ⟨h.2.2,.inl ⟨k1,.inl ⟨h.2.1,q3.1 (.inl h.1)⟩⟩⟩
   ·exact .inr ⟨h.2.2,.inl ⟨k1,.inl ⟨h.2.1,q3.1 (.inr (.inl h.1))⟩⟩⟩
   ·exact .inr ⟨h.2.2,.inl ⟨k1,.inl ⟨h.2.1,q3.1 (.inr (.inr h.1))⟩⟩⟩
   ·exact .inr ⟨h.2.2,.inl ⟨k1,.inr (.inl ⟨h.2.1,h.1⟩)⟩⟩
   ·exact .inr ⟨h.2.2,.inl ⟨k1,.inr (.inr ⟨h.2.1,h.1⟩)⟩⟩
  ·rintro(h |⟨hl,⟨_,h|h|h⟩ |⟨h,_⟩ |⟨h,_⟩ |⟨h,_⟩⟩)
   ·exact .inl (.inl (.inl (.inl (.inl h))))
   ·rcases q3.2 h.2 with q|q|q
    ·exact .inl (.inl (.inl (.inl (.inr ⟨q,h.1,hl⟩))))
    ·exact .inl (.inl (.inl (.inr ⟨q,h.1,hl⟩)))
    ·exact .inl (.inl (.inr ⟨q,h.1,hl⟩))
   ·exact .inl (.inr ⟨h.2,h.1,hl⟩)
   ·exact .inr ⟨h.2,h.1,hl⟩
   ·omega
   ·omega
   ·omega
 rw[iN9 k1];by_cases k2:p.1.kind=2
 ·rw[iP9 k2];have q4:decide (0<=ahH (T p.1.name) (a.fs.map (λx=>x.f.name)))=true↔0<k.funcs.count p.1.name:=by rw[decide_eq_true_eq,Al,h.Ua,h.kf,bt,cw,cc,<-XX,bt];rfl
  have q1:decide (16<=a.fs.length)=true↔16<k.funcs.length+1:=by rw[decide_eq_true_eq,h.Ua,h.kf,ba,cr,ba];omega
  have e:(rj a (T p.1.name) line).sn=(a.sn.wrong (decide (0<=ahH (T p.1.name) (a.fs.map (λx=>x.f.name)))) 4 line).wrong (decide (16<=a.fs.length)) 1 line:=rfl;rw[e];refine((hB.wrong _ 4 line (by decide)).wrong _ 1 line (by decide)).congr (λc l=>?_);rw[q4,q1];constructor
  ·rintro((h|h)|h)
   ·exact .inl h
   ·exact .inr ⟨h.2.2,.inr (.inl ⟨k2,.inl ⟨h.2.1,h.1⟩⟩)⟩
   ·exact .inr ⟨h.2.2,.inr (.inl ⟨k2,.inr ⟨h.2.1,h.1⟩⟩)⟩
  ·rintro(h |⟨hl,⟨h,_⟩ |⟨_,h|h⟩ |⟨h,_⟩ |⟨h,_⟩⟩)
   ·exact .inl (.inl h)
   ·omega
   ·exact .inl (.inr ⟨h.2,h.1,hl⟩)
   ·exact .inr ⟨h.2,h.1,hl⟩
   ·omega
   ·omega
 rw[iN9 k2];by_cases k3:p.1.kind=3
 ·rw[iP9 k3];obtain⟨i,g,eg⟩:=pM (hin (.inl k3));have el:(a.fs.getLast?.map (λx=>x.o.lab)).getD []=g.aP.map (λp=>(T p.1,(p.2:Int))):=by rw[h.Ua,eg,an];simp[GF.pK]
  have e:(Bf a (T p.1.name) line).sn=a.sn.wrong (decide (0<=ahJ (T p.1.name) ((a.fs.getLast?.map (λx=>x.o.lab)).getD []))) 4 line:=rfl;have q4:decide (0<=ahJ (T p.1.name) ((a.fs.getLast?.map (λx=>x.o.lab)).getD []))=true↔0<k.labels.count p.1.name:=by rw[decide_eq_true_eq,el,Ud,h.kl i g eg,cw,cc]
  rw[e];refine(hB.wrong _ 4 line (by decide)).congr (λc l=>?_);rw[q4];constructor
  ·rintro(h|h)
   ·exact .inl h
   ·exact .inr ⟨h.2.2,.inr (.inr (.inl ⟨k3,h.2.1,h.1⟩))⟩
  ·rintro(h |⟨hl,⟨h,_⟩ |⟨h,_⟩ |⟨_,h⟩ |⟨h,_⟩⟩)
   ·exact .inl h
   ·omega
   ·omega
   ·exact .inr ⟨h.2,h.1,hl⟩
   ·omega
 rw[iN9 k3];by_cases k4:p.1.kind=4
 ·rw[iP9 k4]
  have hI:mh p.1.x p.2:=by
   rcases hR.kd with e|e|e|e|e
   ·omega
   ·omega
   ·omega
   ·omega
   ·rw[<-hr];exact e.2
  have e:(CA a p.2 line).sn=(p.2.ranged line a.sn).2.wrong (decide (200<a.slots+dL p.2.i.word)) 1 line:=rfl;have q1:decide (200<a.slots+dL p.2.i.word)=true↔200<k.slots+p.1.x.o.slots:=by rw[decide_eq_true_eq,h.asl,h.ks,hI.slots]
  have q3:p.2.tZ=true↔p.1.x.fits=false:=by rw[hI.fits];cases p.2.tZ<;>simp
  rw[e];refine((L7 p.2 line a.sn P hB).wrong _ 1 line (by decide)).congr (λc l=>?_);rw[q1,q3];constructor
  ·rintro((h|h)|h)
   ·exact .inl h
   ·exact .inr ⟨h.1,.inr (.inr (.inr ⟨k4,.inl ⟨h.2.1,h.2.2⟩⟩))⟩
   ·exact .inr ⟨h.2.2,.inr (.inr (.inr ⟨k4,.inr ⟨h.2.1,h.1⟩⟩))⟩
  ·rintro(h |⟨hl,⟨h,_⟩ |⟨h,_⟩ |⟨h,_⟩ |⟨_,h|h⟩⟩)
   ·exact .inl (.inl h)
   ·omega
   ·omega
   ·omega
   ·exact .inl (.inr ⟨hl,h.1,h.2⟩)
   ·exact .inr ⟨h.2,h.1,hl⟩
 rw[iN9 k4];refine hB.congr (λc l=>⟨.inl,?_⟩);rintro(h |⟨hl,⟨h,_⟩ |⟨h,_⟩ |⟨h,_⟩ |⟨h,_⟩⟩)
 ·exact h
 ·exact absurd h k1
 ·exact absurd h k2
 ·exact absurd h k3
 ·exact absurd h k4
def EF(O:OL)(k:WK)(x:bV):Bool:=x.x.o.jumps&&!fK (O.fs.getD (k.funcs.length-1) {}) x.x.r.label
def JS(O:OL)(x:bV):Bool:=decide ((if x.x.r.s=1 then x.x.o.aX else 0)=2)&&decide (O.maps.count x.x.r.name=0)
def evP(O:OL)(k:WK)(x:bV)(c:Int):Prop :=
 Bu k x c\/(x.kind=2/\c=6/\(O.fs.getD k.funcs.length {}).ends=false)\/(x.kind=4/\c=5/\(EF O k x=true\/JS O x=true))
theorem codes{O:OL}{k:WK}{x:bV}{c:Int}(h:evP O k x c):c=3\/c=4\/c=5\/c=1\/c=6:=by
 unfold evP Bu at h;rcases h with(⟨_,h|h|h⟩ |⟨_,h|h⟩ |⟨_,h,_⟩ |⟨_,h|h⟩) |⟨_,h,_⟩ |⟨_,h,_⟩
 ·exact .inl h.1
 ·exact .inr (.inl h.1)
 ·exact .inr (.inr (.inr (.inl h.1)))
 ·exact .inr (.inl h.1)
 ·exact .inr (.inr (.inr (.inl h.1)))
 ·exact .inr (.inl h)
 ·exact .inl h.1
 ·exact .inr (.inr (.inr (.inl h.1)))
 ·exact .inr (.inr (.inr (.inr h)))
 ·exact .inr (.inr (.inl h))
theorem QX{c:Int}(h:c=3\/c=4\/c=5\/c=1\/c=6):(c=3/\fu c=0)\/(c=4/\fu c=1)\/(c=5/\fu c=2)\/(c=1/\fu c=3)\/(c=6/\fu c=4):=by
 rcases h with rfl|rfl|rfl|rfl|rfl
 ·exact .inl ⟨rfl,rfl⟩
 ·exact .inr (.inl ⟨rfl,rfl⟩)
 ·exact .inr (.inr (.inl ⟨rfl,rfl⟩))
 ·exact .inr (.inr (.inr (.inl ⟨rfl,rfl⟩)))
 ·exact .inr (.inr (.inr (.inr ⟨rfl,rfl⟩)))
theorem vV(O:OL)(k:WK)(x:bV):(bQ O k x=0->∀c,¬evP O k x c)/\(bQ O k x≠0->evP O k x (bQ O k x:Nat)/\∀c,evP O k x c->fu (bQ O k x:Nat)<=fu c):=by
 unfold bQ evP Bu;by_cases k1:x.kind=1
 ·rw[iP9 k1];unfold kN;have n2:¬x.kind=2:=by omega
  have n3:¬x.kind=3:=by omega
  have n4:¬x.kind=4:=by omega
  simp only[k1,n2,n3,n4,true_and,false_and,or_false,cd];by_cases a3:cK (x.ns.getD 0 ay) (x.ns.getD 1 ay) (x.ns.getD 2 ay)=false
  ·rw[iP9 a3];refine⟨λh=>absurd h (by decide),λ_=>⟨.inl ⟨rfl,a3⟩,λc h=>?_⟩⟩;show fu 3<=_
   rcases h with h|h|h<;>rw[h.1]<;>decide
  rw[iN9 a3];by_cases a4:0<k.maps.count x.name
  ·rw[iP9 a4];refine⟨λh=>absurd h (by decide),λ_=>⟨.inr (.inl ⟨rfl,a4⟩),λc h=>?_⟩⟩;show fu 4<=_
   rcases h with h|h|h
   ·exact absurd h.2 a3
   ·rw[h.1];decide
   ·rw[h.1];decide
  rw[iN9 a4];by_cases a1:8<k.maps.length+1
  ·rw[iP9 a1];refine⟨λh=>absurd h (by decide),λ_=>⟨.inr (.inr ⟨rfl,a1⟩),λc h=>?_⟩⟩;show fu 1<=_
   rcases h with h|h|h
   ·exact absurd h.2 a3
   ·exact absurd h.2 a4
   ·rw[h.1];decide
  rw[iN9 a1];refine⟨λ_ c h=>?_,λh=>absurd rfl h⟩;rcases h with h|h|h
  ·exact absurd h.2 a3
  ·exact absurd h.2 a4
  ·exact absurd h.2 a1
 rw[iN9 k1];by_cases k2:x.kind=2
 ·rw[iP9 k2];unfold kz;have n3:¬x.kind=3:=by omega
  have n4:¬x.kind=4:=by omega
  simp only[k1,k2,n3,n4,true_and,false_and,or_false,false_or,cd];by_cases a4:0<k.funcs.count x.name
  ·rw[iP9 a4];refine⟨λh=>absurd h (by decide),λ_=>⟨.inl (.inl ⟨rfl,a4⟩),λc h=>?_⟩⟩;show fu 4<=_
   rcases h with(h|h)|h<;>rw[h.1]<;>decide
  rw[iN9 a4];by_cases a1:16<k.funcs.length+1
  ·rw[iP9 a1];refine⟨λh=>absurd h (by decide),λ_=>⟨.inl (.inr ⟨rfl,a1⟩),λc h=>?_⟩⟩;show fu 1<=_
   rcases h with(h|h)|h
   ·exact absurd h.2 a4
   ·rw[h.1];decide
   ·rw[h.1];decide
  rw[iN9 a1];by_cases a6:(O.fs.getD k.funcs.length {}).ends=false
  ·rw[iP9 a6];refine⟨λh=>absurd h (by decide),λ_=>⟨.inr ⟨rfl,a6⟩,λc h=>?_⟩⟩;show fu 6<=_
   rcases h with(h|h)|h
   ·exact absurd h.2 a4
   ·exact absurd h.2 a1
   ·rw[h.1];decide
  rw[iN9 a6];refine⟨λ_ c h=>?_,λh=>absurd rfl h⟩;rcases h with(h|h)|h
  ·exact absurd h.2 a4
  ·exact absurd h.2 a1
  ·exact absurd h.2 a6
 rw[iN9 k2];by_cases k3:x.kind=3
 ·rw[iP9 k3];unfold qP;have n4:¬x.kind=4:=by omega
  simp only[k1,k2,k3,n4,true_and,false_and,or_false,false_or,cd];by_cases a4:0<k.labels.count x.name
  ·rw[iP9 a4];refine⟨λh=>absurd h (by decide),λ_=>⟨⟨rfl,a4⟩,λc h=>?_⟩⟩;show fu 4<=_
   rw[h.1];decide
  rw[iN9 a4];exact⟨λ_ c h=>absurd h.2 a4,λh=>absurd rfl h⟩
 rw[iN9 k3];by_cases k4:x.kind=4
 ·rw[iP9 k4];unfold kC;simp only[k1,k2,k3,k4,true_and,false_and,or_false,false_or,cd];by_cases a3:x.x.fits=false
  ·rw[iP9 a3];refine⟨λh=>absurd h (by decide),λ_=>⟨.inl (.inl ⟨rfl,a3⟩),λc h=>?_⟩⟩;show fu 3<=_
   rcases h with(h|h)|h<;>rw[h.1]<;>decide
  rw[iN9 a3];by_cases a5:EF O k x=true
  ·rw[iP9 (show(x.x.o.jumps&&!fK (O.fs.getD (k.funcs.length-1) {}) x.x.r.label)=true from a5)];refine⟨λh=>absurd h (by decide),λ_=>⟨.inr ⟨rfl,.inl a5⟩,λc h=>?_⟩⟩;show fu 5<=_
   rcases h with(h|h)|h
   ·exact absurd h.2 a3
   ·rw[h.1];decide
   ·rw[h.1];decide
  rw[iN9 (show ¬(x.x.o.jumps&&!fK (O.fs.getD (k.funcs.length-1) {}) x.x.r.label)=true from a5)];by_cases a6:JS O x=true
  ·rw[iP9 (show(decide ((if x.x.r.s=1 then x.x.o.aX else 0)=2)&&decide (O.maps.count x.x.r.name=0))=true from a6)];refine⟨λh=>absurd h (by decide),λ_=>⟨.inr ⟨rfl,.inr a6⟩,λc h=>?_⟩⟩;show fu 5<=_
   rcases h with(h|h)|h
   ·exact absurd h.2 a3
   ·rw[h.1];decide
   ·rw[h.1];decide
  rw[iN9 (show ¬(decide ((if x.x.r.s=1 then x.x.o.aX else 0)=2)&&decide (O.maps.count x.x.r.name=0))=true from a6)];by_cases a1:200<k.slots+x.x.o.slots
  ·rw[iP9 a1];refine⟨λh=>absurd h (by decide),λ_=>⟨.inl (.inr ⟨rfl,a1⟩),λc h=>?_⟩⟩;show fu 1<=_
   rcases h with(h|h)|h
   ·exact absurd h.2 a3
   ·rw[h.1];decide
   ·exact absurd h.2 (λe=>e.elim a5 a6)
  rw[iN9 a1];refine⟨λ_ c h=>?_,λh=>absurd rfl h⟩;rcases h with(h|h)|h
  ·exact absurd h.2 a3
  ·exact absurd h.2 a1
  ·exact h.2.elim a5 a6
 rw[iN9 k4];refine⟨λ_ c h=>?_,λh=>absurd rfl h⟩;rcases h with(⟨h,_⟩ |⟨h,_⟩ |⟨h,_⟩ |⟨h,_⟩) |⟨h,_⟩ |⟨h,_⟩
 ·exact k1 h
 ·exact k2 h
 ·exact k3 h
 ·exact k4 h
 ·exact k2 h
 ·exact k4 h
theorem yK(o:OL):∀(ls:List bV) (k:WK) (n:Nat),(ahM o ls k n=(0,0)/\∀i (h:i<ls.length),bQ o ((ls.take i).foldl dV k) ls[i]=0)\/∃i,∃(h:i<ls.length),bQ o ((ls.take i).foldl dV k) ls[i]≠0/\(∀j (hj:j<ls.length),j<i->bQ o ((ls.take j).foldl dV k) ls[j]=0)/\ahM o ls k n=(bQ o ((ls.take i).foldl dV k) ls[i],n+i+1)
 |[],k,n=>.inl ⟨rfl,λi h=>absurd h (bj _)⟩
 |x::ls,k,n=>by
  rw[ahM];by_cases h0:bQ o k x=0
  ·rw[iP9 h0];rcases yK o ls (dV k x) (n+1)with⟨h1,h2⟩ |⟨i,h,h1,h2,h3⟩
   ·refine .inl ⟨h1,λi h=>?_⟩;cases i with
    |zero=>exact h0
    |succ i=>exact h2 i (by simpa using h)
   ·refine .inr ⟨i+1,by simpa using h,h1,λj hj hji=>?_,?_⟩
    ·cases j with
     |zero=>exact h0
     |succ j=>exact h2 j (by simpa using hj) (by omega)
    ·rw[h3];simp only[List.take_succ_cons,List.foldl_cons,List.getElem_cons_succ];rw[show n+1+i+1=n+(i+1)+1 by omega]
  ·rw[iN9 h0];exact .inr ⟨0,by simp,h0,λj _ hj=>absurd hj (bj _),rfl⟩
theorem P5{O:OL}{ls:List bV}{s:j9}(hB:lI s (λc l=>∃m x,ls[m]?=some x/\l=((m+1:Nat):Int)/\evP O (kQ (ls.take m)) x c)):s.code=((ahM O ls {} 0).1:Nat)/\((ahM O ls {} 0).1≠0->s.line=((ahM O ls {} 0).2:Nat)):=by
 rcases yK O ls {} 0 with⟨h1,h2⟩ |⟨i,hi,h1,h2,h3⟩
 ·have hno:s.code=0:=by
   rcases hB with hB |⟨_,⟨m,x,hx,_,he⟩,_⟩
   ·exact hB.1
   ·obtain⟨hm,rfl⟩:=List.getElem?_eq_some_iff.1 hx;exact absurd he ((vV O _ _).1 (h2 m hm) _)
  rw[h1,hno];exact⟨rfl,λh=>absurd rfl h⟩
 ·have hev:=(vV O (kQ (ls.take i)) ls[i]).2 h1;have abz:∃m x,ls[m]?=some x/\((i+1:Nat):Int)=((m+1:Nat):Int)/\evP O (kQ (ls.take m)) x ((bQ O (kQ (ls.take i)) ls[i]:Nat):Int):=⟨i,ls[i],List.getElem?_eq_getElem hi,rfl,hev.1⟩
  rcases hB with⟨_,hn⟩ |⟨h0,⟨m,x,hx,hl,he⟩,ad6⟩
  ·exact absurd abz (hn _ _)
  ·obtain⟨hm,rfl⟩:=List.getElem?_eq_some_iff.1 hx;have hmi:¬m<i:=λe=>(vV O _ _).1 (h2 m hm e) _ he;have hb:=ad6 _ _ abz;have Kl:m=i:=by omega
   subst Kl;have hr:=hev.2 _ he;have hc1:=QX (codes he);have hc2:=QX (codes hev.1);rw[h3];have e:kQ (ls.take m)=(ls.take m).foldl dV {}:=rfl;rw[<-e];dsimp only;refine⟨by omega,λ_=>by omega⟩
def evI(ms:List bz)(f:eX)(x:bI×Int)(c l:Int):Prop :=
 c=5/\l=x.2/\((aD x.1.word=106/\(ahJ x.1.label f.o.lab<0\/(f.f.slots:Int)<=ahJ x.1.label f.o.lab))\/((x.1.word=WIDE/\x.1.name≠E0)/\ahH x.1.name (ms.map (·.name))<0))
def evF(ms:List bz)(f:eX)(c l:Int):Prop:=(c=6/\l=f.line/\oU f.o.ls=false)\/∃x∈f.o.ls.zip f.qC,evI ms f x c l
theorem L9(ms:List bz)(f:eX)(x:bI×Int)(s:j9)(P:Int->Int->Prop)(h:lI s P):lI (l8 ms f x s) (λc l=>P c l\/evI ms f x c l):=by
 have h1:lI (if aD x.1.word=106 then s.wrong (decide (ahJ x.1.label f.o.lab<0)||decide ((f.f.slots:Int)<=ahJ x.1.label f.o.lab)) 5 x.2 else s) (λc l=>P c l\/(c=5/\l=x.2/\(aD x.1.word=106/\(ahJ x.1.label f.o.lab<0\/(f.f.slots:Int)<=ahJ x.1.label f.o.lab)))):=by
  by_cases e:aD x.1.word=106
  ·rw[iP9 e];refine(h.wrong _ 5 x.2 (by decide)).congr (λc l=>?_);rw[cj,decide_eq_true_eq,decide_eq_true_eq];exact⟨λh=>h.elim .inl (λh=>.inr ⟨h.2.1,h.2.2,e,h.1⟩),λh=>h.elim .inl (λh=>.inr ⟨h.2.2.2,h.1,h.2.1⟩)⟩
  ·rw[iN9 e];exact h.congr (λc l=>⟨.inl,λh=>h.elim id (λh=>absurd h.2.2.1 e)⟩)
 unfold l8 evI;dsimp only;by_cases e:x.1.word=WIDE/\x.1.name≠E0
 ·rw[iP9 e];refine(h1.wrong _ 5 x.2 (by decide)).congr (λc l=>?_);rw[decide_eq_true_eq];constructor
  ·rintro((h|h)|h)
   ·exact .inl h
   ·exact .inr ⟨h.1,h.2.1,.inl h.2.2⟩
   ·exact .inr ⟨h.2.1,h.2.2,.inr ⟨e,h.1⟩⟩
  ·rintro(h |⟨h1,h2,h|h⟩)
   ·exact .inl (.inl h)
   ·exact .inl (.inr ⟨h1,h2,h⟩)
   ·exact .inr ⟨h.2,h1,h2⟩
 ·rw[iN9 e];refine h1.congr (λc l=>?_);constructor
  ·rintro(h|h)
   ·exact .inl h
   ·exact .inr ⟨h.1,h.2.1,.inl h.2.2⟩
  ·rintro(h |⟨h1,h2,h|h⟩)
   ·exact .inl h
   ·exact .inr ⟨h1,h2,h⟩
   ·exact absurd h.1 e
theorem Ma(ms:List bz)(f:eX)(s:j9)(P:Int->Int->Prop)(h:lI s P):lI (qy ms f s) (λc l=>P c l\/evF ms f c l):=by
 have e6:qy ms f s=(f.o.ls.zip f.qC).foldl (λs x=>l8 ms f x s) (s.wrong (!oU f.o.ls) 6 f.line):=by unfold qy oU;cases f.o.ls.getLast?<;>rfl
 rw[e6];refine(lI.foldl (λs x=>l8 ms f x s) (evI ms f) (λx s P h=>L9 ms f x s P h) _ _ _ (h.wrong _ 6 f.line (by decide))).congr (λc l=>?_);unfold evF;rw[cT];constructor
 ·rintro((h|h)|h)
  ·exact .inl h
  ·exact .inr (.inl ⟨h.2.1,h.2.2,h.1⟩)
  ·exact .inr (.inr h)
 ·rintro(h|h|h)
  ·exact .inl (.inl h)
  ·exact .inl (.inr ⟨h.2.2,h.1,h.2.1⟩)
  ·exact .inr h
theorem Mc(ms:List bz)(fs:List eX)(s:j9)(P:Int->Int->Prop)(h:lI s P):lI (fB ms fs s) (λc l=>P c l\/∃f∈fs,evF ms f c l) :=
 lI.foldl (λs f=>qy ms f s) (evF ms) (λf s P h=>Ma ms f s P h) fs s P h
section
variable {ps : List (bV × aj)}
theorem Read.ad7(h:Read ps):∀n,n<=ps.length->lI (Cn ps n).sn (λc l=>∃m p,m<n/\ps[m]?=some p/\l=((m+1:Nat):Int)/\Bu (kQ ((ps.map (·.1)).take m)) p.1 c)
 |0,_=>.inl ⟨rfl,λc l ⟨m,p,hm,_⟩=>absurd hm (bj _)⟩
 |n+1,hn=>by
  have ih:=h.ad7 n (by omega);have hG:=h.at n (by omega);have hp:ps[n]?=some ps[n]:=List.getElem?_eq_getElem (by omega);obtain⟨r,h1,h2⟩:=h.r ps[n] (de _);rw[ED hp];refine(Ue hG ps[n] r h1 h2 ((n+1:Nat):Int) (λhk=>h.gs hp hk) _ ih).congr (λc l=>?_);constructor
  ·rintro(⟨m,p,hm,h3,h4⟩ |⟨hl,he⟩)
   ·exact⟨m,p,by omega,h3,h4⟩
   ·exact⟨n,ps[n],by omega,hp,hl,he⟩
  ·rintro⟨m,p,hm,h3,h4,h5⟩;rcases bh m n with e|e
   ·exact .inl ⟨m,p,e,h3,h4,h5⟩
   ·have:m=n:=by omega
    subst this;rw[hp]at h3;injection h3 with h3;subst h3;exact .inr ⟨h4,h5⟩
end
theorem wQ{O:OL}{G:GS}{a:uB}{k:WK}{b:BS}{O':OL}(h:RG O' G a O k b){g:GF}(hg:g∈G.gs):O.fs.getD g.ix {}=g.dW:=by obtain⟨j,hj,rfl⟩:=List.getElem_of_mem hg;rw[h.ix j hj,h.olf,List.getD_eq_getElem?_getD,List.getElem?_map,List.getElem?_eq_getElem hj];rfl
theorem H9{O O':OL}{G:GS}{a:uB}{k:WK}{b:BS}(h:RG O' G a O k b){x:bV}{y:aj}(hI:mh x.x y):JS O x=true↔((y.ri.word=WIDE/\y.ri.name≠E0)/\ahH y.ri.name (a.ms.map (·.name))<0):=by
 have hn:y.ri.name=T x.x.r.name:=hI.name;have hw:y.ri.word=y.i.word:=rfl;have hrf:(if x.x.r.s=1 then x.x.o.aX else 0)=if x.x.r.name=[]then 0 else if y.i.word=WIDE then 2 else 1:=hI.ref
 have hE:T x.x.r.name≠E0↔x.x.r.name≠[]:=⟨λh e=>h (by rw[e];rfl),NW⟩
 have hp:ahH (T x.x.r.name) (a.ms.map (·.name))<0↔O.maps.count x.x.r.name=0:=by rw[Bb,h.YI,h.olm,bt,List.count_eq_zero,cc,<-XX,bt];rfl
 unfold JS;rw[ch,decide_eq_true_eq,decide_eq_true_eq,hrf,hn,hw,hE,hp];by_cases e1:x.x.r.name=[]
 ·rw[iP9 e1];exact⟨λh=>absurd h.1 (by decide),λh=>absurd e1 h.1.2⟩
 ·rw[iN9 e1];by_cases e2:y.i.word=WIDE
  ·rw[iP9 e2];exact⟨λh=>⟨⟨e2,e1⟩,h.2⟩,λh=>⟨rfl,h.2⟩⟩
  ·rw[iN9 e2];exact⟨λh=>absurd h.1 (by decide),λh=>absurd h.1.1 e2⟩
theorem Bv{g:GF}(hok:g.Ok){x:bH}{y:aj}(hI:mh x y):(x.o.jumps&&!fK g.dW x.r.label)=true↔(aD y.ri.word=106/\(ahJ y.ri.label g.pK.o.lab<0\/(g.pK.f.slots:Int)<=ahJ y.ri.label g.pK.o.lab)):=by
 have hw:y.ri.word=y.i.word:=rfl;rw[hw,hI.jumps,ch,decide_eq_true_eq,cT];refine and_congr_right (λhj=>?_);have hlb:y.ri.label=T x.r.label:=hI.lab (by rw[hI.jumps];exact decide_eq_true hj);rw[hlb];show fK g.dW x.r.label=false↔(ahJ (T x.r.label) (g.aP.map (λp=>(T p.1,(p.2:Int))))<0\/(g.dW.slots:Int)<=ahJ (T x.r.label) (g.aP.map (λp=>(T p.1,(p.2:Int)))))
 rw[aih];unfold fK;rw[hok.aP];cases dC g.aP x.r.label with
 |none=>simp
 |some n =>
  simp only[Option.isSome_some,cb,Option.getD_some,decide_eq_false_iff_not];constructor
  ·intro h;right;omega
  ·intro h;rcases h with h|h<;>omega
theorem Read.all{ps:List (bV×aj)}(h:Read ps):lI (fB (Cn ps ps.length).ms (Cn ps ps.length).fs (Cn ps ps.length).sn) (λc l=>∃m x,(ps.map (·.1))[m]?=some x/\l=((m+1:Nat):Int)/\evP (ai (ps.map (·.1))) (kQ ((ps.map (·.1)).take m)) x c):=by
 have hG:=h.at ps.length (cG _);rw[List.take_of_length_le (by rw[ba];exact cG _)]at hG;have hL:=h.lines ps.length (cG _);refine(Mc _ _ _ _ (h.ad7 ps.length (cG _))).congr (λc l=>?_);have hfun:∀m,m<=ps.length->(kQ ((ps.map (·.1)).take m)).funcs.length=(gAt ps m).gs.length:=λm hm=>by rw[(h.at m hm).kf,cr,ba]
 have hmem:∀(m:Nat) (p:bV×aj),ps[m]?=some p->m<ps.length/\(ps.map (·.1))[m]?=some p.1:=λm p hp=>by refine⟨(List.getElem?_eq_some_iff.1 hp).1,?_⟩;rw[List.getElem?_map,hp];rfl
 have hins:∀p∈ps,p.1.kind=4->mh p.1.x p.2:=λp hp k4=>by
  obtain⟨r,hR,hr⟩:=h.r p hp;rcases hR.kd with e|e|e|e|e
  ·omega
  ·omega
  ·omega
  ·omega
  ·rw[<-hr];exact e.2
 constructor
 ·rintro(⟨m,p,hm,hp,hl,he⟩ |⟨f,hf,he⟩)
  ·exact⟨m,p.1,(hmem m p hp).2,hl,.inl he⟩
  ·rw[hG.Ua]at hf;obtain⟨g,hg,rfl⟩:=List.mem_map.1 hf;have hok:=hG.ok g hg;rcases he with⟨hc,hl,hn⟩ |⟨x,hx,hc,hl,he⟩
   ·obtain⟨m,p,hm,hp,hk,hgl,hgx⟩:=hL.f1 g hg;refine⟨m,p.1,(hmem m p hp).2,?_,.inr (.inl ⟨hk,hc,?_⟩)⟩
    ·rw[hl];show(g.line:Int)=_;rw[hgl]
    ·rw[hfun m (by omega),hgx,wQ hG hg,hok.ends];exact hn
   ·have hz:g.pK.o.ls.zip g.pK.qC=g.xs.map (λz=>(z.y.ri,(z.line:Int))):=by
     show(g.xs.map _).zip (g.xs.map _)=_
     rw[cQ]
    rw[hz]at hx;obtain⟨z,hzm,rfl⟩:=List.mem_map.1 hx;obtain⟨m,p,hm,hp,hk,hzx,hzy,hzl,hgx⟩:=hL.i1 g hg z hzm;have hI:=hok.xs z hzm;refine⟨m,p.1,(hmem m p hp).2,?_,.inr (.inr ⟨hk,hc,?_⟩)⟩
    ·rw[hl];show(z.line:Int)=_;rw[hzl]
    ·have hix:(ai (ps.map (·.1))).fs.getD ((kQ ((ps.map (·.1)).take m)).funcs.length-1) {}=g.dW:=by rw[hfun m (by omega),hgx,cS];exact wQ hG hg
     rcases he with he|he
     ·refine .inl ?_;unfold EF;rw[hix,<-hzx];exact(Bv hok hI).2 he
     ·refine .inr ((H9 hG (y:=z.y) (by rw[<-hzx];exact hI)).2 he)
 ·rintro⟨m,x,hx,hl,he⟩;rw[List.getElem?_map]at hx;obtain⟨p,hp,rfl⟩:=Option.map_eq_some_iff.1 hx;have hm:=(hmem m p hp).1;rcases he with he |⟨hk,hc,he⟩ |⟨hk,hc,he⟩
  ·exact .inl ⟨m,p,hm,hp,hl,he⟩
  ·obtain⟨g,hg,hgl,hgx⟩:=hL.f2 m p hm hp hk;refine .inr ⟨g.pK,by rw[hG.Ua];exact cR hg,.inl ⟨hc,?_,?_⟩⟩
   ·rw[hl];show _=(g.line:Int);rw[hgl]
   ·rw[hfun m (by omega),<-hgx,wQ hG hg,(hG.ok g hg).ends]at he;exact he
  ·obtain⟨g,hg,hgx,z,hzm,hzx,hzy,hzl⟩:=hL.i2 m p hm hp hk;have hok:=hG.ok g hg;have hI:=hok.xs z hzm;refine .inr ⟨g.pK,by rw[hG.Ua];exact cR hg,.inr ⟨(z.y.ri,(z.line:Int)),?_,hc,?_,?_⟩⟩
   ·show _∈(g.xs.map _).zip (g.xs.map _)
    rw[cQ];exact List.mem_map.2 ⟨z,hzm,rfl⟩
   ·rw[hl];show _=(z.line:Int);rw[hzl]
   ·have hix:(ai (ps.map (·.1))).fs.getD ((kQ ((ps.map (·.1)).take m)).funcs.length-1) {}=g.dW:=by rw[hfun m (by omega),<-hgx,cS];exact wQ hG hg
    rcases he with he|he
    ·refine .inl ?_;unfold EF at he;rw[hix,<-hzx]at he;exact(Bv hok hI).1 he
    ·refine .inr ((H9 hG (y:=z.y) (by rw[<-hzx];exact hI)).1 he)
theorem Read.first{ps:List (bV×aj)}(h:Read ps){s:j9}(hs:s=fB (Cn ps ps.length).ms (Cn ps ps.length).fs (Cn ps ps.length).sn):s.code=((ahM (ai (ps.map (·.1))) (ps.map (·.1)) {} 0).1:Nat)/\((ahM (ai (ps.map (·.1))) (ps.map (·.1)) {} 0).1≠0->s.line=((ahM (ai (ps.map (·.1))) (ps.map (·.1)) {} 0).2:Nat)):=by rw[hs];exact P5 h.all
theorem pO{α β:Type}{f g:α->List β}:∀{l:List α},(∀x∈l,f x=g x)->l.flatMap f=l.flatMap g
 |[],_=>rfl
 |a::l,h=>by rw[cx,cx,h a (by simp),pO (λx hx=>h x (by simp[hx]))]
theorem abe{x:PI}{i:bI}(hs:Shape x i)(hk:x.k<88)(hd:i.d=x.d){jump:Int}(hj:jump=x.jump)(n num:Int)(iB:num=if x.aX≠0 then n else x.num)(hr:x.aX≠0->0<=n/\n<4294967296):uz i jump n=uA x.o.code x.d x.s x.jump num x.high x.o.slots:=by
 have hc:=NV x.k hk;obtain⟨h1,h2⟩:=hs.n n num iB hr;unfold uz uA;rw[hj,hs.op,hs.s,hd,h1];have e0:((x.o.code:Int))%256=x.o.code:=by have:x.o.code<=255:=hc;omega
 rw[e0];have e1:b8 [(x.o.code:Int),(x.d:Int)+16*(x.s:Int),x.jump%256,x.jump/256%256]=b8 [(x.o.code:Int),(x.d:Int)+16*(x.s:Int)]++b8 (dY x.jump):=rfl;rw[e1];by_cases hw:i.word=WIDE
 ·rw[iP9 hw,iN9 (hs.w.1 hw),h2 hw]
 ·have:x.o.slots=1:=by
   by_cases e:x.o.slots=1
   ·exact e
   ·exact absurd (hs.w.2 e) hw
  rw[iN9 hw,iP9 this]
def GI.Clean(g:GF)(z:GI):Prop:=z.x.fits=true/\(z.x.o.jumps&&!fK g.dW z.x.r.label)=false
theorem abf{g:GF}(hok:g.Ok){z:GI}(hc:z.Clean g)(hj:z.x.o.jumps=true):∃n,dC g.aP z.x.r.label=some n/\n<g.dW.slots:=by
 have h:=hc.2;rw[hj,cb,Bool.not_eq_false']at h;unfold fK at h;rw[hok.aP,ch,decide_eq_true_eq]at h;obtain⟨h1,h2⟩:=h;cases hl:dC g.aP z.x.r.label with
 |none=>rw[hl]at h1;cases h1
 |some n=>rw[hl]at h2;exact⟨n,rfl,h2⟩
theorem acI{O:OL}{g:GF}(hok:g.Ok)(hO:O.fs.getD g.ix {}=g.dW){z:GI}(hz:z∈g.xs)(hc:z.Clean g):Dw g.pK.o.lab z.y.ri (z.slot:Int)=zX O g.ix z.slot z.x:=by
 have hI:=hok.xs z hz;unfold Dw zX;rw[hO,hok.aP];have hw:z.y.ri.word=z.y.i.word:=rfl;by_cases hj:z.x.o.jumps=true
 ·have hs:aD z.y.i.word=106:=by have:=hI.jumps;rw[hj]at this;exact of_decide_eq_true this.symm
  obtain⟨n,h1,_⟩:=abf hok hc hj;have hl:z.y.ri.label=T z.x.r.label:=hI.lab hj;rw[hw,iP9 hs,iP9 hj,hl,h1];show ahJ (T z.x.r.label) (g.aP.map (λp=>(T p.1,(p.2:Int))))-_-_=_
  rw[aih,h1,hI.slots];rfl
 ·have hj':z.x.o.jumps=false:=by simpa using hj
  have hs:¬aD z.y.i.word=106:=by have:=hI.jumps;rw[hj']at this;exact of_decide_eq_false this.symm
  rw[hw,iN9 hs,iN9 hj];exact(hI.jump hc.1 hj').symm
theorem Md{x:bH}{y:aj}(hI:mh x y)(j:Int):(x.pi j).aX=0↔x.r.name=[]:=by
 have h:(x.pi j).aX=if x.r.name=[]then 0 else if y.i.word=WIDE then 2 else 1:=hI.ref
 rw[h];by_cases e:x.r.name=[]
 ·simp[e]
 ·rw[iN9 e];constructor
  ·intro h;split at h<;>cases h
  ·intro h;exact absurd h e
theorem Am{x:bH}{y:aj}(hI:mh x y)(O:OL)(ix s:Nat):(Be O ix s x).aX=0↔x.r.name=[]:=Md hI _
theorem abg{O:OL}{g:GF}(hok:g.Ok)(hO:O.fs.getD g.ix {}=g.dW){z:GI}(hz:z∈g.xs)(hc:z.Clean g)(mn fn:List tBA):Js false mn fn g.pK.o.lab (z.y.ri,(z.slot:Int))=nj (Be O g.ix z.slot z.x):=by
 have hI:=hok.xs z hz;unfold Js nj;have hn:Wu false mn fn z.y.ri%18446744073709551616=0:=by unfold Wu;simp
 dsimp only;rw[hn];refine abe (x:=Be O g.ix z.slot z.x) (hI.ok hc.1 _) hI.k hI.d (acI hok hO hz hc) 0 _ ?_ (λ_=>by decide);by_cases hr:(Be O g.ix z.slot z.x).aX≠0
 ·rw[iP9 hr];exact hI.z (λe=>hr ((Md hI _).2 e))
 ·rw[iN9 hr]
theorem acJ(g:GF):g.pK.o.ls.zip g.pK.o.ats=g.xs.map (λz=>(z.y.ri,(z.slot:Int))):=by
 show(g.xs.map _).zip (g.xs.map _)=_
 rw[cQ]
theorem acK{O:OL}{g:GF}(hok:g.Ok)(hO:O.fs.getD g.ix {}=g.dW)(hc:∀z∈g.xs,z.Clean g)(mn fn:List tBA):Yp false mn fn g.pK.o=kE (g.pf O):=by
 unfold Yp kE;rw[acJ];show _=(g.xs.map (λz=>Be O g.ix z.slot z.x)).flatMap nj
 rw[ar,ar];exact pO (λz hz=>abg hok hO hz (hc z hz) mn fn)
theorem Ia(O:OL)(ix i:Nat):∀(xs:List GI) (s:Nat),wP s xs->(∀z∈xs,mh z.x z.y)->xs.flatMap (λz=>vg i (z.y.ri,(z.slot:Int)))=ah5 i s (xs.map (λz=>Be O ix z.slot z.x))
 |[],s,_,_=>rfl
 |z::xs,s,h1,h2=>by
  have hI:=h2 z (by simp);rw[cx,ao,ah5,Ia O ix i xs _ h1.2 (λy hy=>h2 y (by simp[hy]))];congr 1;unfold vg zV;have hn:z.y.ri.name=T z.x.r.name:=hI.name;dsimp only;rw[hn,h1.1];by_cases e:z.x.r.name=[]
  ·rw[iP9 ((Am hI _ _ _).2 e),iN9 (λh=>h (by rw[e];rfl))]
  ·rw[iN9 (λh=>e ((Am hI _ _ _).1 h)),iP9 (NW e)];rfl
theorem Ib(O:OL)(ix:Nat):∀(xs:List GI),(∀z∈xs,mh z.x z.y)->((xs.map (λz=>(z.y.ri,(z.slot:Int)))).map vk).sum=ah6 (xs.map (λz=>Be O ix z.slot z.x))
 |[],_=>rfl
 |z::xs,h2=>by
  have hI:=h2 z (by simp);rw[ao,ao,List.sum_cons,ao,ah6,Ib O ix xs (λy hy=>h2 y (by simp[hy]))];congr 1;unfold vk;have hn:z.y.ri.name=T z.x.r.name:=hI.name;dsimp only;rw[hn];by_cases e:z.x.r.name=[]
  ·rw[iP9 ((Am hI _ _ _).2 e),iN9 (λh=>h (by rw[e];rfl))]
  ·rw[iN9 (λh=>e ((Am hI _ _ _).1 h)),iP9 (NW e)]
theorem acL{O:OL}{g:GF}(hok:g.Ok):BX g.pK.f=jL (g.pf O):=by
 unfold BX jL
 have:yj (g.pf O).code=g.dW.slots:=by
  rw[hok.ss];unfold yj CJ;show((g.xs.map _).map _).sum=_
  rw[bt];rfl
 rw[this];rfl
section
variable {O : OL}
theorem XZ{K:List GF}(hok:∀g∈K,g.Ok)(hO:∀g∈K,O.fs.getD g.ix {}=g.dW)(hc:∀g∈K,∀z∈g.xs,z.Clean g)(mn fn:List tBA):Cz false mn fn (K.map (λg=>g.pK.o))=(K.map (GF.pf O)).flatMap kE:=by unfold Cz;rw[ar,ar];exact pO (λg hg=>acK (hok g hg) (hO g hg) (hc g hg) mn fn)
theorem P6{K:List GF}(hok:∀g∈K,g.Ok):ni (K.map (λg=>g.pK.f))=(K.map (GF.pf O)).flatMap jL:=by unfold ni;rw[ar,ar];exact pO (λg hg=>acL (hok g hg))
theorem EG:∀(K:List GF) (i:Nat),(∀g∈K,g.Ok)->aib i (K.map (λg=>g.pK.o))=ah7 i (K.map (GF.pf O))
 |[],_,_=>rfl
 |g::K,i,h=>by have hg:=h g (by simp);rw[ao,ao,aib,ah7,acJ,ar,Ia O g.ix i g.xs 0 hg.sa hg.xs,EG K (i+1) (λy hy=>h y (by simp[hy]))];rfl
theorem EH:∀(K:List GF),(∀g∈K,g.Ok)->aic (K.map (λg=>g.pK.o))=ah8 (K.map (GF.pf O))
 |[],_=>rfl
 |g::K,h=>by have hg:=h g (by simp);rw[ao,ao,aic,ah8,acJ,Ib O g.ix g.xs hg.xs,EH K (λy hy=>h y (by simp[hy]))];rfl
end
theorem EJ{n:aA}{most:Int}(h:u7 n most=true)(hm:most<=16):((n.v%18446744073709551616%256:Nat):Int)=((uF n).toNat:Int)/\1<=uF n/\uF n<=most:=by
 have hr:=pJ h;refine⟨?_,hr⟩;have hz:uF n=(n.aO 9223372036854775808).getD 0:=rfl;cases hs:n.aO 9223372036854775808 with
 |none=>rw[hz,hs]at hr;simp at hr
 |some v =>
  have hv:uF n=v:=by rw[hz,hs];rfl
  obtain⟨e,_,_⟩:=Ah hs (by decide);rw[hv]at hr ⊢;by_cases VI:n.minus=true
  ·rw[iP9 VI]at e;omega
  ·rw[iN9 VI]at e;omega
theorem QY{x:bV}(h:cK (x.ns.getD 0 ay) (x.ns.getD 1 ay) (x.ns.getD 2 ay)=true):Lc (kH (T x.name) x.ns)=nC (pT x)/\MOk {kH (T x.name) x.ns with name:=E0}:=by
 unfold cK at h;simp only[ch]at h;obtain⟨a0,b0⟩:=EJ h.1.1 (by decide);obtain⟨a1,b1⟩:=EJ h.1.2 (by decide);obtain⟨a2,b2⟩:=EJ h.2 (by decide);constructor
 ·unfold Lc nC kH pT;dsimp only;rw[show(⟨0,false⟩:aA)=ay from rfl,a0,a1,a2]
 ·unfold kH;dsimp only;rw[show(⟨0,false⟩:aA)=ay from rfl,a0,a1,a2];refine⟨?_,?_,?_,?_,?_,?_,?_⟩<;>dsimp only
  ·decide
  all_goals omega
theorem Uf{O:OL}{L:List bV}{K:List GF}(hL:∀x∈L,cK (x.ns.getD 0 ay) (x.ns.getD 1 ay) (x.ns.getD 2 ay)=true)(hok:∀g∈K,g.Ok)(hO:∀g∈K,O.fs.getD g.ix {}=g.dW)(hc:∀g∈K,∀z∈g.xs,z.Clean g):vw false (L.map (λx=>kH (T x.name) x.ns)) (K.map (λg=>g.pK.f)) (K.map (λg=>g.pK.o))=Ge (L.map pT) (K.map (GF.pf O)):=by
 unfold vw Ge xg;have hm:qX (L.map (λx=>kH (T x.name) x.ns))=(L.map pT).flatMap nC:=by unfold qX;rw[ar,ar];exact pO (λx hx=>(QY (hL x hx)).1)
 rw[hm,P6 (O:=O) hok,XZ hok hO hc,EH (O:=O) K hok,EG (O:=O) K 0 hok];simp only[ba,Bool.false_eq_true,if_false];have e:b8 [((1:Nat):Int),(L.length:Int)]=[1]++b8 [(L.length:Int)]:=rfl;rw[e];simp only[List.append_assoc]
