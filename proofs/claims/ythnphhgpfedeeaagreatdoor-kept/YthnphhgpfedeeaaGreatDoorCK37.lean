import Derived.Test.YthnphhgpfedeeaaGreatDoorCK34
import Derived.Test.YthnphhgpfedeeaaGreatDoorCK02
namespace Go.Proofs.YthnphhgpfedeeaaGreatDoor
open Go.RowKit Tryz
open Go.RowKit Go.Sort
open _root_.Array renaming replicate->bj,length_toList->b5
open Bool renaming and_eq_true->cx,false->fj,true->fR
open List renaming getElem_mem->ab,drop_eq_getElem_cons->al,length_map->ba,getElem_map->bh,drop_eq_nil_of_le->bt,ext_getElem->cj,drop_length->cq,take_length->cw,length->eJ
open Nat renaming zero_le->ao,le_of_lt->ar,zero_add->b9
open Region renaming noSelect->cy
open Decidable renaming decide->gh
open Ending renaming returned->fW
open Obj renaming cells->fL,map->lz
open Option renaming none->eL,some->eK
open Value renaming agg->fY,tuple->jl,slice->eS,string->eR,pointer->ia,map->kq,bool->fX
open _root_.Go renaming Value->fa,Calls->fS,TypeId->ju,part->pC,Oper->iz,getD_replicate_false->Dd,wp_region_any->xa,PanicEntry->rK,LetsOut->AK
set_option linter.all false
set_option maxRecDepth 100000
set_option maxHeartbeats 2000000
structure Bx(w:tW)(B X:Nat)(cs cX:tAV):Prop where
 b:au w B cs 90
 x:au w X cX 90
theorem Bx.cell{w:tW}{B X:Nat}{cs cX:tAV}(h:Bx w B X cs cX)(i:Nat):w.cell? ⟨B,i,eL⟩=cs[i]?:=h.b.cell i
theorem Bx.alloc{w:tW}{B X:Nat}{cs cX:tAV}(h:Bx w B X cs cX)(o:Obj):Bx (w.alloc o) B X cs cX:=⟨h.b.alloc o,h.x.alloc o⟩
theorem Bx.ai{w w':tW}{B X:Nat}{cs cX:tAV}(h:Bx w B X cs cX)(m:aa af w w')(_:¬af B):Bx w' B X cs cX:=⟨h.b.ai m id,h.x.ai m id⟩
theorem Bx.setOther{w:tW}{B X:Nat}{cs cX:tAV}(h:Bx w B X cs cX){a:Addr}(h1:a.block≠B)(h2:a.block≠X)(v:fa):Bx (w.setCell a v) B X cs cX:=⟨h.b.setOther h1 v,h.x.setOther h2 v⟩
theorem Ru(wT w:tW)(tv:fa)(bs:tLN)(hT:aM 0 wT tv bs az)(vM vF:fa)(ms:List aB)(fs:List bz)(vs:tLV)(hP:uX wT w bs vM vF ms fs vs)(hm:eJ ms<=1000)(hf:eJ fs<=1000)(hok:∀f∈fs,eJ f.code<=1000/\∀x∈f.code,gm x)(mn fn:List tBA) (hmn:mn=ms.map (λx=>T x.name)) (hfn:fn=(fs.map (·.name)).map T) (X:Nat) (cX:tAV) (hX:au w X cX 90):fS prog 49 #[fY #[vM,vF]] w λe w'=>e=fW (jl #[])/\uX wT w' bs vM vF ms (fs.map (bz.linked mn fn)) vs/\au w' X cX 90:=by
 obtain⟨oM,cM,wE,_⟩:=hP.maps.view;obtain⟨oF,cF,kC,_⟩:=hP.rows.view;subst wE kC;have HT:=aq hT;have xx:=aq hok
 have HP0:ah (uX wT (w.alloc (fL #[eS oM (eJ ms) cM,eS oF (eJ fs) cF] 90)) bs (eS oM (eJ ms) cM) (eS oF (eJ fs) cF) ms (ET mn fn fs 0) vs):=by
  have e:ET mn fn fs 0=fs:=by simp[ET]
  rw[e];exact hP.quiet aw
 have HB0:ah (Bx (w.alloc (fL #[eS oM (eJ ms) cM,eS oF (eJ fs) cF] 90)) w.heap.size X #[eS oM (eJ ms) cM,eS oF (eJ fs) cF] cX):=⟨au.new _ _ _,hX.alloc _⟩
 have hvl:=hP.len;have HVL:=aq hvl;have Mv:=aq hfn;have Ji:=aq hmn;clear hP hT hok hmn hfn hvl hX;go_in;go_wp2_with fail;generalize w.alloc (fL #[eS oM (eJ ms) cM,eS oF (eJ fs) cF] 90)=wB at *;generalize w.heap.size=B at *;go_loopg [9] (eJ fs) (λg iv wx=>∃i:Nat,iv=vI i/\uX wT wx bs (eS oM (eJ ms) cM) (eS oF (eJ fs) cF) ms (ET mn fn fs i) vs/\Bx wx B X #[eS oM (eJ ms) cM,eS oF (eJ fs) cF] cX/\i<=eJ fs/\g=eJ fs-i)
 case atStart=>exact⟨0,rfl,HP0.o,HB0.o,ao _,rfl⟩
 case round =>
  obtain⟨i,rfl,hpw,hbw,hil,rfl⟩:=hrel;have HPr:=aq hpw;have HBr:=aq hbw;clear hpw hbw HP0 HB0;by_cases hi:i<eJ fs
  ·have ES:i<eJ vs:=by rw[HVL.o];exact hi
   have um:ah (uX wT wr bs (eS oM (eJ ms) cM) (eS oF (eJ fs) cF) ms (gY mn fn fs i 0) vs):=by rw[ah,Rq mn fn fs i hi];exact HPr.o
   have qA:=um.o.codeL hi ES (ao _);obtain⟨oC,cC,hvi,_⟩:=qA.view;have hfl:=Cj mn fn fs i hil
   obtain⟨gF,hoF,c0,c1⟩:∃gF,oF=eK ⟨gF,0,eL⟩/\wr.cell? ⟨gF,i*2,eL⟩=eK (eR (T fs[i].name))/\wr.cell? ⟨gF,i*2+1,eL⟩=eK vs[i]:=by
    have hr:=HPr.o.ppr HT.o;have:=YB.VF (oF:=oF) (cF:=cF) (by rw[hfl];exact hr) i (by rw[hfl];exact hi) ES
    rwa [VV mn fn fs i hi]at this
   subst hoF;rw[hvi]at c1;have HVI:=aq hvi;have adT:ah (eJ (ib fs i).code<=1000/\∀x∈(ib fs i).code,gm x):=by rw[ah,Hd _ _ hi];exact xx.o fs[i] (ab hi)
   have hcl:=adT.o.1;have nu:=aq (VW mn fn fs i hi);clear qA hvi hfl HPr;generalize T fs[i].name=nm at *;obtain⟨cl,abS⟩:∃cl,cl=eJ (ib fs i).code:=⟨_,rfl⟩
   have EU:=aq abS;rw[<-abS]at c1 hcl;clear abS;go_wp2_with fail;have HF2:=aq (au.new wr #[eR nm,eS oC cl cC] 96);have HB2:ah (Bx (wr.alloc (fL #[eR nm,eS oC cl cC] 96)) B X #[eS oM (eJ ms) cM,eS (eK ⟨gF,0,eL⟩) (eJ fs) cF] cX):=HBr.o.alloc _;have lU:ah (uX wT (wr.alloc (fL #[eR nm,eS oC cl cC] 96)) bs (eS oM (eJ ms) cM) (eS (eK ⟨gF,0,eL⟩) (eJ fs) cF) ms (gY mn fn fs i 0) vs):=um.o.quiet aw;generalize wr.alloc (fL #[eR nm,eS oC cl cC] 96)=w1 at *;generalize wr.heap.size=F at *;clear c0 c1 um HBr;go_loopg [16] cl (λg iv wx=>∃j:Nat,iv=vI j/\uX wT wx bs (eS oM (eJ ms) cM) (eS (eK ⟨gF,0,eL⟩) (eJ fs) cF) ms (gY mn fn fs i j) vs/\au wx F #[eR nm,eS oC cl cC] 96/\Bx wx B X #[eS oM (eJ ms) cM,eS (eK ⟨gF,0,eL⟩) (eJ fs) cF] cX/\j<=cl/\g=cl-j)
   case atStart=>exact⟨0,rfl,lU.o,HF2.o,HB2.o,ao _,rfl⟩
   case round =>
    obtain⟨j,rfl,hpw,hfw,hbw,hjl,rfl⟩:=hrel;have Lv:=aq hpw;have HFW:=aq hfw;have FH:=aq hbw;clear hpw hfw hbw lU HF2 HB2;by_cases hj:j<cl
    ·have HJ:ah (j<eJ (ib fs i).code):=by rw[ah,<-EU.o];exact hj
     have hjj:=HJ.o;obtain⟨g,hoC,y0,y1,y2,y3,y4,y5,y6,y7,y8⟩:=DH (Lv.o.codeL hi ES (ar HJ.o)) HVI.o HJ.o;subst hoC;have z1:=HFW.o.c1;have hx:=adT.o.2 (ib fs i).code[j] (ab HJ.o);have HAT:=aq (λw' (m:aa af wr w')=>kF (HT.o.ai (Lv.o.md.trans m)) (ib fs i).code[j] hx.k);have hrf:(if(ib fs i).code[j].s=1 then(ib fs i).code[j].o.bD else 0)<=1000:=by have:=hx.refs;split<;>omega
     have Lc:ah (EO mn fn (ib fs i).code[j]=if(if(ib fs i).code[j].s=1 then(ib fs i).code[j].o.bD else 0)=1 then placeM (T (ib fs i).code[j].name) fn else if(if(ib fs i).code[j].s=1 then(ib fs i).code[j].o.bD else 0)=2 then placeM (T (ib fs i).code[j].name) mn else(ib fs i).code[j].num):=rfl;have adU:ah (EO mn fn (ib fs i).code[j]=(ib fs i).code[j].num->gY mn fn fs i (j+1)=gY mn fn fs i j):=Rt mn fn fs i j HJ.o;have HG7:ah (∀w',aa af wr w'->w'.cell? ⟨g,j*8+7,eL⟩=eK (eR (T (ib fs i).code[j].name))/\w'.cell? ⟨g,j*8+4,eL⟩=eK (vJ (ib fs i).code[j].num)/\w'.frozen? ⟨g,j*8+4,eL⟩=fj):=λw' m=>by obtain⟨g',e,_,_,_,_,x4,_,_,x7,x8⟩:=DH ((Lv.o.quiet m).codeL hi ES (ar HJ.o)) HVI.o HJ.o;cases e;exact⟨x7,x4,x8⟩
     have BB:ah (eK g≠eK F):=(Lv.o.codeL hi ES (ar HJ.o)).aA HFW.o (by decide)∘(λe=>by rw[HVI.o];exact e);have HNB:ah (eK g≠eK B):=(Lv.o.codeL hi ES (ar HJ.o)).aA FH.o.b (by decide)∘(λe=>by rw[HVI.o];exact e);have HNX:ah (eK g≠eK X):=(Lv.o.codeL hi ES (ar HJ.o)).aA FH.o.x (by decide)∘(λe=>by rw[HVI.o];exact e);have HFX:ah (∀w',aa af wr w'->fS prog 85 #[fY #[eS oM (eJ ms) cM,eS (eK ⟨gF,0,eL⟩) (eJ fs) cF],eR (T (ib fs i).code[j].name)] w' λe w2=>e=fW (vI (placeM (T (ib fs i).code[j].name) fn))/\aa af w' w2):=λw' m=>by have:=(Lv.o.quiet m).afH (by rw[DF _ _ _ _ _ hil];exact hf) (T (ib fs i).code[j].name);rw[Mw _ _ _ _ _ hi,<-Mv.o]at this;exact this
     have HMX:ah (∀w',aa af wr w'->fS prog 86 #[fY #[eS oM (eJ ms) cM,eS (eK ⟨gF,0,eL⟩) (eJ fs) cF],eR (T (ib fs i).code[j].name)] w' λe w2=>e=fW (vI (placeM (T (ib fs i).code[j].name) mn))/\aa af w' w2):=λw' m=>by have:=(Lv.o.quiet m).dI hm (T (ib fs i).code[j].name);rw[<-Ji.o]at this;exact this
     have hpf:-1<=placeM (T (ib fs i).code[j].name) fn/\placeM (T (ib fs i).code[j].name) fn<1001:=by
      have:=mQ (T (ib fs i).code[j].name) fn;have e:eJ fn=eJ fs:=by rw[Mv.o,ba,ba]
      omega
     have hpm:-1<=placeM (T (ib fs i).code[j].name) mn/\placeM (T (ib fs i).code[j].name) mn<1001:=by
      have:=mQ (T (ib fs i).code[j].name) mn;have e:eJ mn=eJ ms:=by rw[Ji.o,ba]
      omega
     rw[<-EU.o]at HVI nu;clear hx;generalize(ib fs i).code[j].o=o at *;generalize(ib fs i).code[j].jump=jmp at *;generalize(ib fs i).code[j].d=xd at *;generalize(ib fs i).code[j].s=xs at *;generalize(ib fs i).code[j].num=xn at *;generalize(ib fs i).code[j].high=xh at *;generalize placeM (T (ib fs i).code[j].name) fn=pf at *;generalize placeM (T (ib fs i).code[j].name) mn=pm at *;generalize T (ib fs i).code[j].name=xm at *;generalize bs[(ib fs i).code[j].k]?.getD 0=b at *;have Da:ah (∀w',aa af wr w'->fS prog 84 #[fY #[vP b,vB xd,vB xs,.int .i16 jmp,vJ xn,vJ xh,eR ByteArray.empty,eR xm]] w' λe w2=>e=fW (vI ((if xs=1 then o.bD else 0:Nat):Int))/\aa af w' w2):=λw' m=>kG w' b o (HAT.o w' m) xd xs xn xh jmp _ xm;generalize(if xs=1 then o.bD else 0)=rf at *;go_wp2_with fail;refine(Da.o _ ax).mono ?_;rintro e W ⟨rfl,m5⟩;have VY:=aq (Lv.o.quiet m5);have VZ:=aq (HFW.o.ai m5 id);have He:=aq (FH.o.ai m5 id);have J3:=aq (λw' m=>HG7.o w' (m5.trans m));have afI:=aq (λw' m=>HFX.o w' (m5.trans m));have afJ:=aq (λw' m=>HMX.o w' (m5.trans m));clear m5 y0 y1 y2 y3 y4 y5 y6 y7 y8 z1 Da HAT Lv HFW FH HG7 HFX HMX;by_cases h1:rf=1
     ·subst h1;generalize pf=pl at *;have HNM:ah (EO mn fn (ib fs i).code[j]=pl):=by rw[ah,Lc.o];rfl
      go_upto_region 10 with fail
      refine jV [.inl (ia (eK ⟨g,j*8,eL⟩)),.inl (fY #[eS oM (eJ ms) cM,eS (eK ⟨gF,0,eL⟩) (eJ fs) cF]),.inl (ia (eK ⟨g,j*8,eL⟩)),.inl (ia (eK ⟨g,j*8,eL⟩)),.inl (ia (eK ⟨g,j*8+7,eL⟩)),.inl (eR xm),.inl (vI pl),.inl (vJ pl),.inl (ia (eK ⟨g,j*8,eL⟩)),.inl (ia (eK ⟨g,j*8+4,eL⟩)),.inr (λ_ _ w'=>∃w1,aa af W w1/\aa af (w1.setCell ⟨g,j*8+4,eL⟩ (vJ pl)) w')]
       (λL w'=>L 10=fj->aa af W w') (λi w1 w2=>i≠10->aa af w1 w2) (by kernel_rfl) (by kernel_rfl) (by kernel_rfl) (λ_=>aN) ?_ ?_ (.inr (λ_ _ _=>ax)) ?_
      ·intro jj s hs i L v w1 w2 hn hj n hr;refine kE (N:=λi w1 w2=>i≠10->aa af w1 w2) (show rO _ _ _ 0 _ from ?_) jj s hs i L v w1 w2 hn (by rw[b9];exact hj) n hr;refine⟨λi L u w1 w2 hn hk n ⟨w3,m3,m4⟩=>⟨w3,m3,m4.trans (n (λe=>?_))⟩,trivial⟩;subst e;rw[hn.1]at hk;cases hk
      ·intro i L w1 w2 hn hC n h10;by_cases e:i=10
       ·subst e;simp[iJ]at h10
       ·exact(hC (by simpa [iJ,Ne.symm e]using h10)).trans (n e)
      refine dE rfl (λL w' hN hC _ K hK=>?_) ?_
      ·go_big_op;exact hK _ _ _ rfl (λ_=>ax) rfl
      simp only[Act.put,sA9,sB9,sC9];refine dE rfl (λL w' hN hC _ K hK=>?_) ?_
      ·have hm:=hC (hN.2 10 _ rfl (by decide));have e0:w'.cell? ⟨B,0,eL⟩=eK (eS oM (eJ ms) cM):=(He.o.ai hm id).cell 0;have e1:w'.cell? ⟨B,1,eL⟩=eK (eS (eK ⟨gF,0,eL⟩) (eJ fs) cF):=(He.o.ai hm id).cell 1;go_big_op;exact hK _ _ _ rfl (λ_=>ax) rfl
      simp only[Act.put,sA9,sB9,sC9]
      iterate 3 (refine dE rfl (λL w' hN hC _ K hK=>?_) ?_;(· go_big_op;exact hK _ _ _ rfl (λ_=>ax) rfl);simp only[Act.put,sA9,sB9,sC9])
      refine dE rfl (λL w' hN hC _ K hK=>?_) ?_
      ·have hm:=hC (hN.2 10 _ rfl (by decide));have e1:=(J3.o w' hm).1;go_big_op;exact hK _ _ _ rfl (λ_=>ax) rfl
      simp only[Act.put,sA9,sB9,sC9];refine dE rfl (λL w' hN hC _ K hK=>?_) ?_
      ·have hm:=hC (hN.2 10 _ rfl (by decide));go_big_op;refine(afI.o w' hm).mono ?_;rintro e w2 ⟨rfl,m2⟩;exact hK _ _ _ rfl (λ_=>m2) rfl
      simp only[Act.put,sA9,sB9,sC9]
      iterate 3 (refine dE rfl (λL w' hN hC _ K hK=>?_) ?_;(· go_big_op;exact hK _ _ _ rfl (λ_=>ax) rfl);simp only[Act.put,sA9,sB9,sC9])
      refine nE rfl (λL w' hN hC _ K hK=>?_) (λx10=>?_)
      ·have hm:=hC hN.1;have e1:=(J3.o w' hm).2.1;have e2:=(J3.o w' hm).2.2;go_big_op;exact hK _ _ (vI 0) rfl (λh=>absurd rfl h) ⟨w',hm,ax⟩
      simp only[Act.put];refine zn (λL w' hL hC hA=>?_);obtain⟨w8,m8,m9⟩:∃w1,aa af W w1/\aa af (w1.setCell ⟨g,j*8+4,eL⟩ (vJ pl)) w':=zo hA 10;have Iy:=aq (((VY.o.quiet m8).VX hi ES HVI.o HJ.o pl HNM.o).quiet m9);have Mv:=aq (((VZ.o.ai m8 id).setOther (λe=>BB.o (congrArg eK e)) _).ai m9 id);have VS:=aq (((He.o.ai m8 id).setOther (λe=>HNB.o (congrArg eK e)) (λe=>HNX.o (congrArg eK e)) _).ai m9 id);clear m8 m9 hA hC hL VY VZ He J3
      try simp only[Exit.then]
      go_wp2_with fail;go_roundg (cl-(j+1))
      case measure=>omega
      case rel=>exact⟨j+1,by go_num,Iy.o,Mv.o,VS.o,by omega,rfl⟩
     ·have t1:gh ((rf:Int)=1)=fj:=by simp;omega
      have t2:((rf:Int)==1)=fj:=by simp;omega
      by_cases h2:rf=2
      ·subst h2;generalize pm=pl at *;have HNM:ah (EO mn fn (ib fs i).code[j]=pl):=by rw[ah,Lc.o];rfl
       go_upto_region 12 with fail
       refine jV [.inl (ia (eK ⟨g,j*8,eL⟩)),.inl (fY #[eS oM (eJ ms) cM,eS (eK ⟨gF,0,eL⟩) (eJ fs) cF]),.inl (ia (eK ⟨g,j*8,eL⟩)),.inl (ia (eK ⟨g,j*8,eL⟩)),.inl (ia (eK ⟨g,j*8+7,eL⟩)),.inl (eR xm),.inl (vI pl),.inl (vJ pl),.inl (ia (eK ⟨g,j*8,eL⟩)),.inl (ia (eK ⟨g,j*8+4,eL⟩)),.inr (λ_ _ w'=>∃w1,aa af W w1/\aa af (w1.setCell ⟨g,j*8+4,eL⟩ (vJ pl)) w')]
        (λL w'=>L 10=fj->aa af W w') (λi w1 w2=>i≠10->aa af w1 w2) (by kernel_rfl) (by kernel_rfl) (by kernel_rfl) (λ_=>aN) ?_ ?_ (.inr (λ_ _ _=>ax)) ?_
       ·intro jj s hs i L v w1 w2 hn hj n hr;refine kE (N:=λi w1 w2=>i≠10->aa af w1 w2) (show rO _ _ _ 0 _ from ?_) jj s hs i L v w1 w2 hn (by rw[b9];exact hj) n hr;refine⟨λi L u w1 w2 hn hk n ⟨w3,m3,m4⟩=>⟨w3,m3,m4.trans (n (λe=>?_))⟩,trivial⟩;subst e;rw[hn.1]at hk;cases hk
       ·intro i L w1 w2 hn hC n h10;by_cases e:i=10
        ·subst e;simp[iJ]at h10
        ·exact(hC (by simpa [iJ,Ne.symm e]using h10)).trans (n e)
       refine dE rfl (λL w' hN hC _ K hK=>?_) ?_
       ·go_big_op;exact hK _ _ _ rfl (λ_=>ax) rfl
       simp only[Act.put,sA9,sB9,sC9];refine dE rfl (λL w' hN hC _ K hK=>?_) ?_
       ·have hm:=hC (hN.2 10 _ rfl (by decide));have e0:w'.cell? ⟨B,0,eL⟩=eK (eS oM (eJ ms) cM):=(He.o.ai hm id).cell 0;have e1:w'.cell? ⟨B,1,eL⟩=eK (eS (eK ⟨gF,0,eL⟩) (eJ fs) cF):=(He.o.ai hm id).cell 1;go_big_op;exact hK _ _ _ rfl (λ_=>ax) rfl
       simp only[Act.put,sA9,sB9,sC9]
       iterate 3 (refine dE rfl (λL w' hN hC _ K hK=>?_) ?_;(· go_big_op;exact hK _ _ _ rfl (λ_=>ax) rfl);simp only[Act.put,sA9,sB9,sC9])
       refine dE rfl (λL w' hN hC _ K hK=>?_) ?_
       ·have hm:=hC (hN.2 10 _ rfl (by decide));have e1:=(J3.o w' hm).1;go_big_op;exact hK _ _ _ rfl (λ_=>ax) rfl
       simp only[Act.put,sA9,sB9,sC9];refine dE rfl (λL w' hN hC _ K hK=>?_) ?_
       ·have hm:=hC (hN.2 10 _ rfl (by decide));go_big_op;refine(afJ.o w' hm).mono ?_;rintro e w2 ⟨rfl,m2⟩;exact hK _ _ _ rfl (λ_=>m2) rfl
       simp only[Act.put,sA9,sB9,sC9]
       iterate 3 (refine dE rfl (λL w' hN hC _ K hK=>?_) ?_;(· go_big_op;exact hK _ _ _ rfl (λ_=>ax) rfl);simp only[Act.put,sA9,sB9,sC9])
       refine nE rfl (λL w' hN hC _ K hK=>?_) (λx10=>?_)
       ·have hm:=hC hN.1;have e1:=(J3.o w' hm).2.1;have e2:=(J3.o w' hm).2.2;go_big_op;exact hK _ _ (vI 0) rfl (λh=>absurd rfl h) ⟨w',hm,ax⟩
       simp only[Act.put];refine zn (λL w' hL hC hA=>?_);obtain⟨w8,m8,m9⟩:∃w1,aa af W w1/\aa af (w1.setCell ⟨g,j*8+4,eL⟩ (vJ pl)) w':=zo hA 10;have Iy:=aq (((VY.o.quiet m8).VX hi ES HVI.o HJ.o pl HNM.o).quiet m9);have Mv:=aq (((VZ.o.ai m8 id).setOther (λe=>BB.o (congrArg eK e)) _).ai m9 id);have VS:=aq (((He.o.ai m8 id).setOther (λe=>HNB.o (congrArg eK e)) (λe=>HNX.o (congrArg eK e)) _).ai m9 id);clear m8 m9 hA hC hL VY VZ He J3
       try simp only[Exit.then]
       go_wp2_with fail;go_roundg (cl-(j+1))
       case measure=>omega
       case rel=>exact⟨j+1,by go_num,Iy.o,Mv.o,VS.o,by omega,rfl⟩
      ·have t3:gh ((rf:Int)=2)=fj:=by simp;omega
       have t4:((rf:Int)==2)=fj:=by simp;omega
       have Iy:ah (uX wT W bs (eS oM (eJ ms) cM) (eS (eK ⟨gF,0,eL⟩) (eJ fs) cF) ms (gY mn fn fs i (j+1)) vs):=by rw[ah,adU.o (by rw[Lc.o,iN9 h1,iN9 h2])];exact VY.o
       clear h1 h2;go_wp2_with fail;go_roundg (cl-(j+1))
       case measure=>omega
       case rel=>exact⟨j+1,by go_num,Iy.o,VZ.o,He.o,by omega,rfl⟩
    ·obtain rfl:j=cl:=by omega
     have Iy:ah (uX wT wr bs (eS oM (eJ ms) cM) (eS (eK ⟨gF,0,eL⟩) (eJ fs) cF) ms (ET mn fn fs (i+1)) vs):=by rw[ah,<-nu.o,<-EU.o];exact Lv.o
     go_wp2_with fail;go_roundg (eJ fs-(i+1))
     case measure=>omega
     case rel=>exact⟨i+1,by go_num,Iy.o,FH.o,by omega,rfl⟩
  ·obtain rfl:i=eJ fs:=by omega
   have JU:ah (uX wT wr bs (eS oM (eJ ms) cM) (eS oF (eJ fs) cF) ms (fs.map (bz.linked mn fn)) vs):=by rw[ah,<-aae];exact HPr.o
   go_wp2_with fail;go_end0;exact⟨rfl,JU.o,HBr.o.x⟩
section
variable {α : Type} [Inhabited α]
theorem yq(enc:α->tLV)(k:Nat)(hk:∀x,eJ (enc x)=k)(l:List α):(flatK enc k l.toArray).toList=l.flatMap enc:=by
 have hl:eJ (l.flatMap enc)=eJ l*k:=by
  induction l with
  |nil=>simp
  |cons x l ih=>rw[List.flatMap_cons,List.length_append,ih,hk,List.length_cons,Nat.succ_mul,Nat.add_comm]
 refine cj (by rw[b5,size_flatK,hl];rfl) λt h1 h2=>?_;have ht:t<eJ l*k:=by rw[<-hl];exact h2
 have k0:0<k:=by
  rcases Nat.eq_zero_or_pos k with h|h
  ·subst h;simp at ht
  ·exact h
 have hi:=Nat.div_lt_of_lt_mul (by rw[Nat.mul_comm];exact ht);have hc:=Nat.mod_lt t k0;have e:=flat_get enc k hk l (t/k) (t%k) hi hc;rw[Nat.div_add_mod' t k,List.getElem?_eq_getElem h2]at e;have e1:(flatK enc k l.toArray).toList[t]=(flatK enc k l.toArray)[t]!:=by rw[getElem!_pos (flatK enc k l.toArray) t (by simpa using h1)];simp
 rw[e1,get_flatK enc k l.toArray t (by simpa using ht)];have e2:l.toArray[t/k]! = l[t/k]:=by rw[getElem!_pos l.toArray (t/k) (by simpa using hi)];simp
 rw[e2];have e3:(enc l[t/k])[t%k]?=eK (enc l[t/k])[t%k]!:=by rw[getElem!_pos (enc l[t/k]) (t%k) (by rw[hk];exact hc),List.getElem?_eq_getElem (by rw[hk];exact hc)]
 rw[e3]at e;exact(Option.some.inj e).symm
theorem Rv{d d':Array α}{n:Nat}(hn:n=d.size)(h:PermIn 0 n d d'):d'.toList.Perm d.toList:=by
 obtain⟨hs,_,hp⟩:=h;subst hn;have e1:(d'.extract 0 d.size).toList=d'.toList:=by rw[<-hs];simp
 have e2:(d.extract 0 d.size).toList=d.toList:=by simp
 rwa [e1,e2]at hp
theorem J4{lt:α->α->Bool}{d:Array α}{n:Nat}(hn:n=d.size)(h:SortedIn lt 0 n d):d.toList.Pairwise (λx y=>lt y x=fj):=by
 rw[List.pairwise_iff_getElem];intro i j hi hj hij;have:=h i j (ao _) hij (by rw[hn];simpa using hj);rw[getElem!_pos d i (by simpa using hi),getElem!_pos d j (by simpa using hj)]at this
 simpa using this
theorem V4{w:tW}{g:Nat}{o:Obj}{os:Array Obj}(h:w.heap[g]?=eK o):(grow w os).heap[g]?=eK o:=by
 have hg:=(Array.getElem?_eq_some_iff.1 h).1;show(w.heap++os)[g]?=_
 rw[Array.getElem?_append_left hg,h]
theorem Hf{w:tW}{e:ju}(enc:α->tLV)(k:Nat)(hk:∀x,eJ (enc x)=k){g cap n:Nat}{l l':List α}(hl:eJ l'=eJ l)(hs:Sl w e k (eS (eK ⟨g,0,eL⟩) (eJ l) cap) (eJ l) (l.flatMap enc))(os:Array Obj):Sl (sortWorldK enc k w g 0 n l'.toArray os) e k (eS (eK ⟨g,0,eL⟩) (eJ l) cap) (eJ l) (l'.flatMap enc)/\aa (λb=>b=g) w (sortWorldK enc k w g 0 n l'.toArray os):=by
 have hF:=yq enc k hk l';have hFs:(flatK enc k l'.toArray).size=eJ l*k:=by rw[size_flatK];simp[hl]
 have hlen:eJ (l'.flatMap enc)=eJ l*k:=by rw[<-hF,b5,hFs]
 generalize flatK enc k l'.toArray=F at hF hFs;rcases hs.2 with⟨h,_⟩ |⟨g',cap',cur,h,h0,hg,hn,hm,hcs,ht⟩
 ·cases h
 cases h
 have hb:(sortWorldK enc k w g 0 n l'.toArray os).heap[g]?=eK (fL (putCells id 0 (flatK enc k l'.toArray) cur) e):=by
  refine V4 ?_;show(w.heap.modify g _)[g]?=_
  rw[Array.getElem?_modify,iP9 rfl,hg];rfl
 refine⟨⟨hlen,.inr ⟨g,cap,_,rfl,h0,hb,hn,hm,?_,?_⟩⟩,⟨rfl,rfl,rfl,?_,λb hb1 hb2=>?_⟩⟩
 ·unfold putCells;rw[Array.size_mapIdx,hcs]
 ·rw[<-yq enc k hk l'];have agx:(flatK enc k l'.toArray).size=eJ l*k:=by rw[size_flatK];simp[hl]
  have agy:eJ l*k<=cur.size:=by rw[hcs];exact Nat.mul_le_mul_right _ hn
  refine cj (by simp[putCells,hl];omega) λt h1 h2=>?_;have h3:t<(flatK enc k l'.toArray).size:=by simpa using h2
  rw[List.getElem_take];simp only[putCells,Array.getElem_toList,Array.getElem_mapIdx];rw[iP9 ⟨ao _,by omega⟩,Nat.sub_zero,getElem!_pos _ t h3];rfl
 ·show w.heap.size<=(w.heap.modify g _++os).size
  simp
 ·show(w.heap.modify g _++os)[b]?=_
  rw[Array.getElem?_append_left (by simpa using hb1),Array.getElem?_modify,iN9 (λe=>hb2 e.symm)]
theorem Rw{w:tW}{e:ju}(enc:α->tLV)(k:Nat)(hk:∀x,eJ (enc x)=k){g cap:Nat}{l:List α}(hs:Sl w e k (eS (eK ⟨g,0,eL⟩) (eJ l) cap) (eJ l) (l.flatMap enc)):HoldsK enc k w g 0 l.toArray/\g<w.heap.size:=by
 rcases hs.2 with⟨h',_⟩ |⟨g',cap',cs,h',_,hg,_,_,_,ht⟩
 ·cases h'
 cases h';have hb:au w g cs e:=hg;refine⟨λj hj=>?_,hb.lt⟩;rw[b9];refine⟨?_,hb.frozen _⟩;have hj':j<eJ l*k:=by rw[size_flatK]at hj;simpa using hj
 rw[aV hb ht j hj',<-yq enc k hk l,getElem!_pos _ j hj,List.getElem?_eq_getElem (by simpa using hj)];simp
theorem Oe{ρ:Go.Shelf.Ren}(L:SlLaysF0.n6 prog ρ)(k:Nat)(aE:∀w,(isAgg (ρ.t 24)).run prog w=.ok fR w)(zE:∀w,(Go.sizeOf (ρ.t 24)).run prog w=.ok k w)(enc:α->tLV)(hk:∀x,eJ (enc x)=k)(h1:∀x,∀v∈enc x,v.oneCell'=fR)(cf:α->α->Int)(hO:SWO (ltOf cf))(f:Nat)(eg:∀args w,(callFunc f args).run prog w=.ok (.enter f args) w) (hcmp:∀(w:tW) x y,fS prog f #[fY (enc x).toArray,fY (enc y).toArray] w λe w'=>e=fW (vI (cf x y))/\∃q os',w'=grow (w.drewN q) os')(w:tW) (e:ju) (v:fa) (l:List α) (g cap:Nat) (hv:v=eS (eK ⟨g,0,eL⟩) (eJ l) cap) (hl:eJ l<=1000000) (hs:Sl w e k v (eJ l) (l.flatMap enc)):fS prog (ρ.f 6) #[v,.func (.func f) #[] #[]] w λr w'=>r=fW (jl #[])/\∃l':List α,l'.Perm l/\l'.Pairwise (λx y=>ltOf cf y x=fj)/\Sl w' e k v (eJ l') (l'.flatMap enc)/\aa (λb=>v.ownBlock=eK b) w w':=by
 subst hv;obtain⟨hH,hg⟩:=Rw enc k hk hs;have hcon:=AnyQ.slices_SortFunc L k aE zE enc hk h1 cf hO f #[] g 0 cap l.toArray w eg (λm os dk _ x y=>hcmp _ x y) hH hg (by simp;omega);refine hcon.mono ?_;rintro r w' ⟨rfl,d',n,os,hp,tN,rfl⟩;have hp':=Rv rfl hp;have hs':=J4 (d:=d') (by rw[hp.1]) tN;have e1:eJ d'.toList=eJ l:=by rw[hp'.length_eq]
 obtain⟨hA,hB⟩:=Hf (n:=n) enc k hk (l':=d'.toList) e1 hs os;refine⟨rfl,d'.toList,by simpa using hp',hs',?_,?_⟩
 ·rw[e1];exact hA
 ·exact⟨hB.os,hB.tape,hB.output,hB.size,λb hb hn=>hB.block b hb (λe=>hn (by rw[e];rfl))⟩
end
def inL(s:tBA)(l:List tBA):Bool:=l.any (λx=>gh (x=s))
theorem aaf(s:tBA)(l:List tBA):inL s l=fR↔s∈l:=by
 unfold inL;rw[List.any_eq_true];constructor
 ·rintro⟨x,hx,e⟩;have:x=s:=by simpa using e
  exact this ▸ hx
 ·exact λh=>⟨s,h,by simp⟩
def dupIn(seen:List tBA):List tBA->Bool
 |[]=>fj
 |s::l=>if inL s seen then fR else dupIn (s::seen) l
def twiceP(i:Nat)(seen:List tBA):List (List tBA)->Int
 |[]=>-1
 |p::l=>if dupIn seen p then i else twiceP (i+1) (p.reverse++seen) l
theorem Mx(seen l:List tBA)(i:Nat)(h:i<eJ l):dupIn seen (l.drop i)=if inL l[i] seen then fR else dupIn (l[i]::seen) (l.drop (i+1)):=by rw[al h,dupIn]
theorem J5(seen:List tBA)(l:List (List tBA))(k:Nat)(h:k<eJ l):twiceP k seen (l.drop k)=if dupIn seen l[k]then(k:Int)else twiceP (k+1) (l[k].reverse++seen) (l.drop (k+1)):=by rw[al h,twiceP]
theorem zC{α:Type}(l:List α)(i:Nat)(h:i<eJ l)(r:List α):(l.take (i+1)).reverse++r=l[i]::((l.take i).reverse++r):=by rw[List.take_add_one,List.reverse_append];simp[h]
def jX(w:tW)(b:Nat)(seen:List tBA):Prop:=∃f,MapOf w b f/\∀s,(f s).isSome=fR↔s∈seen
theorem jX.quiet{w w':tW}{b:Nat}{seen:List tBA}(h:jX w b seen)(m:aa af w w'):jX w' b seen:=by obtain⟨f,h1,h2⟩:=h;exact⟨f,h1.ai m id,h2⟩
theorem jX.lookup{w:tW}{b:Nat}{seen:List tBA}(h:jX w b seen)(s:tBA):∃v,(Instr.lookup 105 (kq (eK b)) (eR s) fR).run prog w=.ok (jl #[v,fX (inL s seen)]) w:=by
 obtain⟨f,h1,h2⟩:=h;have e:(f s).isSome=inL s seen:=by rw[Bool.eq_iff_iff,h2 s,aaf]
 have:=h1.lookup (P:=prog) (t:=105) underlying105 underlying9 (zeroValue3 w) s;rw[e]at this;exact⟨_,this⟩
theorem jX.update{w:tW}{b:Nat}{seen:List tBA}(h:jX w b seen)(s:tBA)(u:fa):∃w',(Instr.mapUpdate 105 (kq (eK b)) (eR s) u).run prog w=.ok () w'/\jX w' b (s::seen)/\aa (λk=>k=b) w w':=by
 obtain⟨f,h1,h2⟩:=h;obtain⟨w',hr,hm,md⟩:=h1.update (P:=prog) (t:=105) underlying105 underlying9 s u;refine⟨w',hr,⟨_,hm,λs'=>?_⟩,md⟩;by_cases c:s'=s
 ·simp[c]
 ·simp[c,h2 s']
theorem Rx(w0 w:tW)(bs:tLN)(v:fa)(ps:List bR)(hP:Parts w0 bs v ps w)(hpl:eJ ps<=1000)(hfl:∀p∈ps,eJ p.fs<=1000)(r:Int)(hr:r=twiceP 0 [] (ps.map (λp=>p.fs.map (λf=>T f.name)))):fS prog 80 #[v] w λe w'=>e=fW (vI r)/\aa af w w':=by
 obtain⟨o,c,hvv,_⟩:=hP.sl.view;subst hvv;have HP:=aq hP;have Q5:=aq hfl;have HS0:ah (jX (w.alloc (lz #[] 0)) w.heap.size []):=⟨_,MapOf.new w,λs=>by simp⟩
 have eW:ah (aa af w (w.alloc (lz #[] 0))):=aw;have HR:=aq hr;clear hP hfl hr;have hmm:=@run_makeMap prog;go_in;go_wp2_with fail;clear hmm;generalize w.alloc (lz #[] 0)=wB at *;obtain⟨B,hB⟩:∃B,B=w.heap.size:=⟨_,rfl⟩
 have HB:ah (w.heap.size<=B):=by rw[hB];exact Nat.le_refl _
 rw[<-hB]at HS0
 try rw[<-hB]
 clear hB;go_loopg [13] (eJ ps) (λg iv wx=>∃(k:Nat) (seen:List tBA),iv=vI k/\aa af w wx/\jX wx B seen/\r=twiceP k seen ((ps.map (λp=>p.fs.map (λf=>T f.name))).drop k)/\k<=eJ ps/\g=eJ ps-k)
 case atStart=>exact⟨0,[],rfl,eW.o,HS0.o,HR.o,ao _,rfl⟩
 case round =>
  obtain⟨k,seen,rfl,hmd,hse,hmi,hk,rfl⟩:=hrel;have kV:=aq hmd;have Jq:=aq hse;have VR:=aq hmi;clear hmd hmi hse HS0 eW;by_cases hkl:k<eJ ps
  ·obtain⟨gP,rfl,c0,c1'⟩:=(HP.o.quiet kV.o).at k hkl;have Es:ah (r=if dupIn seen (ps[k].fs.map (λf=>T f.name))then(k:Int)else twiceP (k+1) ((ps[k].fs.map (λf=>T f.name)).reverse++seen) ((ps.map (λp=>p.fs.map (λf=>T f.name))).drop (k+1))):=by rw[ah,VR.o,J5 seen _ k (by simpa using hkl),bh]
   have Od:=aq (λw' (m:aa af wr w')=>(HP.o.quiet (kV.o.trans m)).each _ (ab hkl));have hfk:=Q5.o ps[k] (ab hkl);obtain⟨a1,a2,ha,_⟩:=(Od.o wr ax).maps.view;obtain⟨b1,b2,hb,_⟩:=(Od.o wr ax).fns.sl.view;rw[ha]at c0;rw[hb]at c1';have Ff:ah (∀w',aa af w w'->pR w' ps[k].lo bs (eS b1 (eJ ps[k].fs) b2) ps[k].fs ps[k].vs):=λw' m=>by rw[<-hb];exact((HP.o.quiet m).each _ (ab hkl)).fns
   clear Od ha hb VR;generalize ps[k].fs=fs at *;generalize ps[k].vs=vs at *;generalize ps[k].lo=lo at *;generalize eJ ps[k].ms=uW at *;obtain⟨names,hnm⟩:∃names,names=fs.map (λf=>T f.name):=⟨_,rfl⟩
   have HNM:=aq hnm;have QK:ah (eJ names=eJ fs):=by rw[ah,hnm,ba]
   rw[<-hnm]at Es;clear hnm;go_wp2_with fail;have Et:=aq (kV.o.alloc (fL #[eS a1 uW a2,eS b1 (eJ fs) b2] 90));have HSr:ah (jX (wr.alloc (fL #[eS a1 uW a2,eS b1 (eJ fs) b2] 90)) B seen):=Jq.o.quiet aw;generalize wr.alloc (fL #[eS a1 uW a2,eS b1 (eJ fs) b2] 90)=w1 at *;generalize wr.heap.size=H1 at *;clear c0 c1' Jq kV;go_loopg [21] (eJ fs) (λg iv wx=>∃i:Nat,iv=vI i/\aa af w wx/\jX wx B ((names.take i).reverse++seen)/\dupIn seen names=dupIn ((names.take i).reverse++seen) (names.drop i)/\i<=eJ fs/\g=eJ fs-i)
   case atStart=>exact⟨0,rfl,Et.o,HSr.o,rfl,ao _,rfl⟩
   case round =>
    obtain⟨i,rfl,hmd,hse,hdu,hi,rfl⟩:=hrel;have bP:=aq hmd;have Jq:=aq hse;have HDU:=aq hdu;clear hmd hse hdu Et HSr;by_cases hil:i<eJ fs
    ·have Ex:=Ff.o wr bP.o;have ES:i<eJ vs:=by rw[Ex.len];exact hil
     obtain⟨gF,rfl,c0,c1'⟩:=Ex.VF i hil ES;obtain⟨oC,cC,hvc,_⟩:=(Ex.cd i hil ES).view;rw[hvc]at c1';have hin:i<eJ names:=by rw[QK.o];exact hil
     have HNi:ah (names[i]=T fs[i].name):=by
      have:∀(l:List tBA) (h:i<eJ l),l=fs.map (λf=>T f.name)->l[i]=T fs[i].name:=λl h e=>by subst e;rw[bh]
      exact this names hin HNM.o
     have HD2:ah (dupIn seen names=if inL (T fs[i].name) ((names.take i).reverse++seen)then fR else dupIn ((names.take (i+1)).reverse++seen) (names.drop (i+1))):=by rw[ah,HDU.o,Mx _ _ i hin,HNi.o,zC names i hin seen,HNi.o]
     have HS2:ah (T fs[i].name::((names.take i).reverse++seen)=(names.take (i+1)).reverse++seen):=by rw[ah,zC names i hin seen,HNi.o]
     clear Ex hvc HNi;generalize T fs[i].name=nm at *;generalize eJ fs[i].code=cl at *;have dF:ah (aa af wr (wr.alloc (fL #[eR nm,eS oC cl cC] 96))):=aw;have hF7:=(au.new wr #[.string nm,.slice oC cl cC] 96).c0;obtain⟨lv,hlk⟩:=(Jq.o.quiet dF.o).lookup nm;by_cases MB:inL nm ((names.take i).reverse++seen)=fR
     ·rw[MB]at hlk;have AJ:ah (r=k):=by rw[ah,Es.o,HD2.o,iP9 MB];rfl
      have Q8:=aq (bP.o.trans dF.o);clear MB;go_wp2_with fail;go_ret;exact⟨dD AJ.o.symm,Q8.o⟩
     ·rw[Bool.not_eq_true]at MB;rw[MB]at hlk;obtain⟨w5,Yy,hs5,m5⟩:=(Jq.o.quiet dF.o).update nm (vI k);have jo:=aq ((bP.o.trans dF.o).step m5 (λb hb e=>by have:=HB.o;omega));have IB:ah (jX w5 B ((names.take (i+1)).reverse++seen)):=by rw[ah,<-HS2.o];exact hs5
      have HD5:ah (dupIn seen names=dupIn ((names.take (i+1)).reverse++seen) (names.drop (i+1))):=by rw[ah,HD2.o,iN9 (by rw[MB];decide)]
      clear MB hs5 m5;go_wp2_with fail;go_roundg (eJ fs-(i+1))
      case measure=>omega
      case rel=>exact⟨i+1,by go_num,jo.o,IB.o,HD5.o,by omega,rfl⟩
    ·obtain rfl:i=eJ fs:=by omega
     have HE:ah (dupIn seen names=fj):=by have:=HDU.o;rw[<-QK.o,cq]at this;exact this
     have IB:ah (jX wr B (names.reverse++seen)):=by have:=Jq.o;rw[<-QK.o,cw]at this;exact this
     have Ji:ah (r=twiceP (k+1) (names.reverse++seen) ((ps.map (λp=>p.fs.map (λf=>T f.name))).drop (k+1))):=by rw[ah,Es.o,iN9 (by rw[HE.o];decide)]
     go_wp2_with fail;go_roundg (eJ ps-(k+1))
     case measure=>omega
     case rel=>exact⟨k+1,_,by go_num,bP.o,IB.o,Ji.o,by omega,rfl⟩
  ·obtain rfl:k=eJ ps:=by omega
   have JU:ah (r=-1):=by rw[ah,VR.o,bt (by simp)];rfl
   go_wp2_with fail;go_ret;exact⟨by rw[JU.o];rfl,kV.o⟩
def lh(a b:aB):Bool:=gh (a.name=b.name)&&(gh (a.key=b.key)&&(gh (a.value=b.value)&&gh (a.entries=b.entries)))
def tq(m:aB):fa:=fY #[eR (T m.name),vB m.key,vB m.value,vB m.entries]
theorem abT(a b:tLB):((T a).toList==(T b).toList)=gh (a=b):=by
 by_cases h:a=b
 ·subst h;simp
 ·rw[tY (λe=>h (adR e)),decide_eq_false h]
theorem aag(a b:Nat):((a:Int)==(b:Int))=gh (a=b):=by
 by_cases h:a=b
 ·subst h;simp
 ·have:¬(a:Int)=b:=by omega
  simp[h,this]
theorem abU(w:tW)(a b c d:fa):(pC 9 #[a,b,c,d] 0).run prog w=.ok a w:=by unfold pC;simp[isAgg9,Result.andThen]
theorem abV(w:tW)(a b c d:fa):(pC 5 #[a,b,c,d] 1).run prog w=.ok b w:=by unfold pC;simp[isAgg5,Result.andThen]
theorem abW(w:tW)(a b c d:fa):(pC 5 #[a,b,c,d] 2).run prog w=.ok c w:=by unfold pC;simp[isAgg5,Result.andThen]
theorem abX(w:tW)(a b c d:fa):(pC 5 #[a,b,c,d] 3).run prog w=.ok d w:=by unfold pC;simp[isAgg5,Result.andThen]
theorem V5(w:tW)(a b:aB):(Op.equalIn 10000 100 (tq a) (tq b)).run prog w=.ok (lh a b) w:=by
 unfold tq;rw[run_equalIn_agg w 9999 100 _ _ (by kernel_rfl) (by kernel_rfl)];have hf : (prog.fieldsOf 100).toList.map (fun f => (f.name, f.type, f.offset)) = [("Name", 9, 0), ("Key", 5, 1), ("Value", 5, 2), ("Entries", 5, 3)] := by kernel_rfl
 generalize(prog.fieldsOf 100).toList=l at hf;rcases l with _ |⟨f1,_ |⟨f2,_ |⟨f3,_ |⟨f4,_ |⟨f5,l⟩⟩⟩⟩⟩<;>simp only[List.map_cons,List.map_nil,List.cons.injEq,Prod.mk.injEq,and_true,reduceCtorEq,and_false]at hf
 obtain⟨⟨n1,t1,o1⟩,⟨n2,t2,o2⟩,⟨n3,t3,o3⟩,⟨n4,t4,o4⟩⟩:=hf;have d1 : ("Name" ≠ "_") = True := by decide
 have d2 : ("Key" ≠ "_") = True := by decide
 have d3 : ("Value" ≠ "_") = True := by decide
 have d4 : ("Entries" ≠ "_") = True := by decide
 unfold lh;simp only[Op.eqFields,n1,n2,n3,n4,t1,t2,t3,t4,o1,o2,o3,o4,d1,d2,d3,d4,if_true,Sem.run_bind,abU,Result.andThen_ok,run_equalIn_string w 9998 9 _ _ underlying9,abT];by_cases h1:a.name=b.name<;>by_cases h2:a.key=b.key<;>by_cases h3:a.value=b.value<;>by_cases h4:a.entries=b.entries<;>simp[h1,h2,h3,h4,abV,abW,abX,run_equalIn_int w 9998 5 .u8 .u8 _ _ underlying5,Result.andThen,aag]
theorem afK(w:tW)(a b:aB):(binOp .eql 100 (tq a) (tq b)).run prog w=.ok (fX (lh a b)) w:=by have:=V5 w a b;unfold tq at *;rw[run_eql_struct,this];rfl
theorem adV(w:tW)(a b:aB):(binOp .neq 100 (tq a) (tq b)).run prog w=.ok (fX (!lh a b)) w:=by have:=V5 w a b;unfold tq at *;rw[run_neq_struct,this];rfl
def clash(seen:List aB)(m:aB):Bool:=((seen.find? (λa=>gh (T a.name=T m.name))).map (λa=>!lh a m)).getD fj
def othIn(seen:List aB):List aB->Bool
 |[]=>fj
 |m::l=>if clash seen m then fR else othIn (m::seen) l
def otherP(i:Nat)(seen:List aB):List (List aB)->Int
 |[]=>-1
 |p::l=>if othIn seen p then i else otherP (i+1) (p.reverse++seen) l
theorem MC(seen l:List aB)(i:Nat)(h:i<eJ l):othIn seen (l.drop i)=if clash seen l[i]then fR else othIn (l[i]::seen) (l.drop (i+1)):=by rw[al h,othIn]
theorem J6(seen:List aB)(l:List (List aB))(k:Nat)(h:k<eJ l):otherP k seen (l.drop k)=if othIn seen l[k]then(k:Int)else otherP (k+1) (l[k].reverse++seen) (l.drop (k+1)):=by rw[al h,otherP]
def jG(w:tW)(b:Nat)(seen:List aB):Prop:=MapOf w b (λs=>(seen.find? (λa=>gh (T a.name=s))).map tq)
theorem jG.quiet{w w':tW}{b:Nat}{seen:List aB}(h:jG w b seen)(m:aa af w w'):jG w' b seen:=MapOf.ai h m id
theorem jG.lookup{w:tW}{b:Nat}{seen:List aB}(h:jG w b seen)(s:tBA):(Instr.lookup 251 (kq (eK b)) (eR s) fR).run prog w=.ok (jl #[((seen.find? (λa=>gh (T a.name=s))).map tq).getD (fY #[eR E0,vB 0,vB 0,vB 0]),fX ((seen.find? (λa=>gh (T a.name=s))).map tq).isSome]) w :=
 MapOf.lookup (P:=prog) (t:=251) h underlying251 underlying9 (zeroValue100 w) s
theorem jG.update{w:tW}{b:Nat}{seen:List aB}(h:jG w b seen)(m:aB):∃w',(Instr.mapUpdate 251 (kq (eK b)) (eR (T m.name)) (tq m)).run prog w=.ok () w'/\jG w' b (m::seen)/\aa (λk=>k=b) w w':=by
 obtain⟨w',hr,hm,md⟩:=MapOf.update (P:=prog) (t:=251) h underlying251 underlying9 (T m.name) (tq m);refine⟨w',hr,?_,md⟩;unfold jG
 have e:(λs=>((m::seen).find? (λa=>gh (T a.name=s))).map tq)=(λs'=>if s'=T m.name then eK (tq m)else(seen.find? (λa=>gh (T a.name=s'))).map tq):=by
  funext s;rw[List.find?_cons];by_cases c:T m.name=s
  ·subst c;simp
  ·have c':¬s=T m.name:=λe=>c e.symm;rw[iN9 c',decide_eq_false c]
 rw[e];exact hm
theorem Parts.jw{w:tW}{bs:tLN}{p:bR}(h:fI w bs p){o:Option Addr}{c:Nat}(hv:p.vM=eS o (eJ p.ms) c)(k:Nat)(hk:k<eJ p.ms):∃g,o=eK ⟨g,0,eL⟩/\w.cell? ⟨g,k*4,eL⟩=eK (eR (T p.ms[k].name))/\w.cell? ⟨g,k*4+1,eL⟩=eK (vB p.ms[k].key)/\w.cell? ⟨g,k*4+2,eL⟩=eK (vB p.ms[k].value)/\w.cell? ⟨g,k*4+3,eL⟩=eK (vB p.ms[k].entries):=by
 obtain⟨o',cap',hv',h2⟩:=h.maps.view;rw[hv]at hv';cases hv';obtain⟨g,cs,rfl,hb,ht,_⟩:=h2 (by omega);have key:∀c,c<4->w.cell? ⟨g,k*4+c,eL⟩=(aB.cells p.ms[k])[c]?:=λc hc=>by rw[aV hb ht (k*4+c) (by omega)];exact flat_get aB.cells 4 (λ_=>rfl) p.ms k c hk hc
 exact⟨g,rfl,key 0 (by omega),key 1 (by omega),key 2 (by omega),key 3 (by omega)⟩
theorem ME(w0 w:tW)(bs:tLN)(v:fa)(ps:List bR)(hP:Parts w0 bs v ps w)(hpl:eJ ps<=1000)(hfl:∀p∈ps,eJ p.ms<=1000)(r:Int)(hr:r=otherP 0 [] (ps.map (·.ms))):fS prog 81 #[v] w λe w'=>e=fW (vI r)/\aa af w w':=by
 obtain⟨o,c,hvv,_⟩:=hP.sl.view;subst hvv;have HP:=aq hP;have Q5:=aq hfl;have HS0:ah (jG (w.alloc (lz #[] 0)) w.heap.size []):=MapOf.new w;have eW:ah (aa af w (w.alloc (lz #[] 0))):=aw;have HR:=aq hr;clear hP hfl hr;have hmm:=@run_makeMap prog;go_in;go_wp2_with fail;clear hmm;generalize w.alloc (lz #[] 0)=wB at *;obtain⟨B,hB⟩:∃B,B=w.heap.size:=⟨_,rfl⟩
 have HB:ah (w.heap.size<=B):=by rw[hB];exact Nat.le_refl _
 rw[<-hB]at HS0
 try rw[<-hB]
 clear hB;go_loopg [13] (eJ ps) (λg iv wx=>∃(k:Nat) (seen:List aB),iv=vI k/\aa af w wx/\jG wx B seen/\r=otherP k seen ((ps.map (·.ms)).drop k)/\k<=eJ ps/\g=eJ ps-k)
 case atStart=>exact⟨0,[],rfl,eW.o,HS0.o,HR.o,ao _,rfl⟩
 case round =>
  obtain⟨k,seen,rfl,hmd,hse,hmi,hk,rfl⟩:=hrel;have kV:=aq hmd;have Jq:=aq hse;have VR:=aq hmi;clear hmd hmi hse HS0 eW;by_cases hkl:k<eJ ps
  ·obtain⟨gP,rfl,c0,c1'⟩:=(HP.o.quiet kV.o).at k hkl;have Es:ah (r=if othIn seen ps[k].ms then(k:Int)else otherP (k+1) (ps[k].ms.reverse++seen) ((ps.map (·.ms)).drop (k+1))):=by rw[ah,VR.o,J6 seen _ k (by simpa using hkl),bh]
   have Od:=aq (λw' (m:aa af wr w')=>(HP.o.quiet (kV.o.trans m)).each _ (ab hkl));have hfk:=Q5.o ps[k] (ab hkl);obtain⟨a1,a2,ha,_⟩:=(Od.o wr ax).maps.view;obtain⟨b1,b2,hb,_⟩:=(Od.o wr ax).fns.sl.view;rw[ha]at c0;rw[hb]at c1';have Ff:=aq (λw' (m:aa af w w') i (hi:i<eJ ps[k].ms)=>Parts.jw ((HP.o.quiet m).each _ (ab hkl)) ha i hi);clear Od ha hb VR;generalize ps[k].ms=ms at *;generalize eJ ps[k].fs=wY at *;go_wp2_with fail;have Et:=aq (kV.o.alloc (fL #[eS a1 (eJ ms) a2,eS b1 wY b2] 90));have HSr:ah (jG (wr.alloc (fL #[eS a1 (eJ ms) a2,eS b1 wY b2] 90)) B seen):=Jq.o.quiet aw;generalize wr.alloc (fL #[eS a1 (eJ ms) a2,eS b1 wY b2] 90)=w1 at *;generalize wr.heap.size=H1 at *;clear c0 c1' Jq kV;go_loopg [21] (eJ ms) (λg iv wx=>∃i:Nat,iv=vI i/\aa af w wx/\jG wx B ((ms.take i).reverse++seen)/\othIn seen ms=othIn ((ms.take i).reverse++seen) (ms.drop i)/\i<=eJ ms/\g=eJ ms-i)
   case atStart=>exact⟨0,rfl,Et.o,HSr.o,rfl,ao _,rfl⟩
   case round =>
    obtain⟨i,rfl,hmd,hse,hdu,hi,rfl⟩:=hrel;have bP:=aq hmd;have Jq:=aq hse;have HDU:=aq hdu;clear hmd hse hdu Et HSr;by_cases hil:i<eJ ms
    ·obtain⟨gM,rfl,c0,c1,c2,c3⟩:=Ff.o wr bP.o i hil;have HD2:ah (othIn seen ms=if clash ((ms.take i).reverse++seen) ms[i]then fR else othIn ((ms.take (i+1)).reverse++seen) (ms.drop (i+1))):=by rw[ah,HDU.o,MC _ _ i hil,zC ms i hil seen]
     have HS2:ah (ms[i]::((ms.take i).reverse++seen)=(ms.take (i+1)).reverse++seen):=by rw[ah,zC ms i hil seen]
     have dF:ah (aa af wr (wr.alloc (fL #[eR (T ms[i].name),vB ms[i].key,vB ms[i].value,vB ms[i].entries] 100))):=aw;have hlk:=(Jq.o.quiet dF.o).lookup (T ms[i].name);have EU:ah (clash ((ms.take i).reverse++seen) ms[i]=((((ms.take i).reverse++seen).find? (λa=>gh (T a.name=T ms[i].name))).map (λa=>!lh a ms[i])).getD fj):=rfl;have HUP:ah (∀w',aa af wr w'->∃w5,(Instr.mapUpdate 251 (kq (eK B)) (eR (T ms[i].name)) (fY #[eR (T ms[i].name),vB ms[i].key,vB ms[i].value,vB ms[i].entries])).run prog w'=.ok () w5/\jG w5 B ((ms.take (i+1)).reverse++seen)/\aa (λk=>k=B) w' w5):=λw' m=>by rw[<-HS2.o];exact(Jq.o.quiet m).update ms[i]
     have EB:ah (∀(a:aB) (w':tW),(binOp .neq 100 (fY #[eR (T a.name),vB a.key,vB a.value,vB a.entries]) (fY #[eR (T ms[i].name),vB ms[i].key,vB ms[i].value,vB ms[i].entries])).run prog w'=.ok (fX (!lh a ms[i])) w'):=λa w'=>adV w' a ms[i];clear HS2;generalize((ms.take i).reverse++seen).find? (λa=>gh (T a.name=T ms[i].name))=fd at *;generalize T ms[i].name=nm at *;generalize ms[i].key=ky at *;generalize ms[i].value=vl at *;generalize ms[i].entries=en at *;have HMn:=aq (bP.o.trans dF.o);cases fd with
     |none =>
      simp only[Option.map_none,Option.getD_none,Option.isSome_none]at hlk EU;have gG:=aq (dF.o.alloc (fL #[eR E0,vB 0,vB 0,vB 0] 100));obtain⟨w5,Yy,hs5,m5⟩:=HUP.o _ gG.o;have jo:=aq ((bP.o.trans gG.o).step m5 (λb hb e=>by have:=HB.o;omega));have IB:=aq hs5;have HD5:ah (othIn seen ms=othIn ((ms.take (i+1)).reverse++seen) (ms.drop (i+1))):=by rw[ah,HD2.o,iN9 (by rw[EU.o];decide)]
      clear hs5 m5;go_wp2_with fail;go_roundg (eJ ms-(i+1))
      case measure=>omega
      case rel=>exact⟨i+1,by go_num,jo.o,IB.o,HD5.o,by omega,rfl⟩
     |some a =>
      simp only[Option.map_some,Option.getD_some,Option.isSome_some,tq]at hlk EU;have hne:=EB.o a;clear EB;generalize lh a ms[i]=q at *;generalize T a.name=nm2 at *;generalize a.key=ky2 at *;generalize a.value=vl2 at *;generalize a.entries=en2 at *;have gG:=aq (dF.o.alloc (fL #[eR nm2,vB ky2,vB vl2,vB en2] 100));cases q with
      |false =>
       have AJ:ah (r=k):=by rw[ah,Es.o,HD2.o,iP9 (by rw[EU.o];rfl)]<;>rfl
       have Q8:=aq (bP.o.trans gG.o);go_wp2_with fail;go_ret;exact⟨dD AJ.o.symm,Q8.o⟩
      |true =>
       obtain⟨w5,Yy,hs5,m5⟩:=HUP.o _ gG.o;have jo:=aq ((bP.o.trans gG.o).step m5 (λb hb e=>by have:=HB.o;omega));have IB:=aq hs5;have HD5:ah (othIn seen ms=othIn ((ms.take (i+1)).reverse++seen) (ms.drop (i+1))):=by rw[ah,HD2.o,iN9 (by rw[EU.o];decide)]
       clear hs5 m5;go_wp2_with fail;go_roundg (eJ ms-(i+1))
       case measure=>omega
       case rel=>exact⟨i+1,by go_num,jo.o,IB.o,HD5.o,by omega,rfl⟩
    ·obtain rfl:i=eJ ms:=by omega
     have HE:ah (othIn seen ms=fj):=by have:=HDU.o;rw[cq]at this;exact this
     have IB:ah (jG wr B (ms.reverse++seen)):=by have:=Jq.o;rw[cw]at this;exact this
     have Ji:ah (r=otherP (k+1) (ms.reverse++seen) ((ps.map (·.ms)).drop (k+1))):=by rw[ah,Es.o,iN9 (by rw[HE.o];decide)]
     go_wp2_with fail;go_roundg (eJ ps-(k+1))
     case measure=>omega
     case rel=>exact⟨k+1,_,by go_num,bP.o,IB.o,Ji.o,by omega,rfl⟩
  ·obtain rfl:k=eJ ps:=by omega
   have JU:ah (r=-1):=by rw[ah,VR.o,bt (by simp)];rfl
   go_wp2_with fail;go_ret;exact⟨by rw[JU.o];rfl,kV.o⟩
theorem aah(x:tLB):∀y:tLB,Op.bytesLess x y=gh (x<y):=by
 induction x with
 |nil=>intro y;cases y<;>simp[Op.bytesLess]
 |cons a x ih =>
  intro y;cases y with
  |nil=>simp[Op.bytesLess]
  |cons b y =>
   rw[Op.bytesLess,ih y];by_cases h:a=b
   ·subst h;simp
   ·simp[List.cons_lt_cons_iff,h]
theorem Hg(a b:tBA):jA a b=gh (a.toList<b.toList):=by unfold jA;exact aah _ _
theorem DI(a:tBA):jA a a=fj:=by rw[Hg];simp[List.lt_irrefl]
theorem AL{a b c:tBA}(h1:jA a b=fR)(h2:jA b c=fR):jA a c=fR:=by rw[Hg]at *;simp only[decide_eq_true_eq]at *;exact List.lt_trans h1 h2
theorem Ry{a b:tBA}(h1:jA a b=fR):jA b a=fj:=by
 cases h:jA b a with
 |false=>rfl
 |true=>have:=AL h1 h;rw[DI]at this;cases this
theorem FP{a b:tBA}(h1:jA a b=fj)(h2:jA b a=fj):a=b:=by rw[Hg]at *;simp only[decide_eq_false_iff_not]at *;have h3:=List.le_antisymm (List.not_lt.1 h2) (List.not_lt.1 h1);apply ByteArray.ext;apply Array.toList_inj.1;rw[<-ByteArray.toList_eq,<-ByteArray.toList_eq];exact h3
theorem Rz{a b c:tBA}(h1:jA b a=fj)(h2:jA c b=fj):jA c a=fj:=by
 cases h:jA c a with
 |false=>rfl
 |true =>
  cases h3:jA b c with
  |true=>have:=AL h3 h;rw[h1]at this;cases this
  |false =>have:=FP h2 h3;subst this;rw[h1]at h;cases h
section
variable {P : Program} {ops : Array iz} {C : World -> Prop} {es : List Nat}
theorem bY{id:Nat}{Q:Exit->Act->tW->Prop}{a:Act}{w:tW}{l:List iz}(n:Nat)(es:tLN)(C:tW->Prop)(hm:P.follows .mixedOrders=fR)(hB:(cy l.toArray&&gh (n<l.toArray.size)&&Region.sinkB .any l.toArray n&&Region.chainB .any l.toArray n&&chainB .any l.toArray es&&lexX .any l.toArray es (λj=>gh (j<n)) (Region.seqB .any l.toArray (l.toArray.size-n) n) (List.range' 0 (eJ (l.take n))) (bj l.toArray.size fj))=fR)(hC:C w.drew)(h:wpMix P l.toArray C es (λa' w'=>wpList P l.toArray Q (l.drop n) a' w') 0 (l.take n) a w.drew):(Code.region id l.toArray fR).wp P Q a w:=by
 simp only[cx,decide_eq_true_eq]at hB;obtain⟨⟨⟨⟨⟨hsel,hn⟩,hs⟩,hc⟩,hch⟩,hlex⟩:=hB;have hn':n<eJ l:=by simpa using hn
 have htl:eJ (l.take n)=n:=by simp;omega
 have hdl:eJ (l.drop n)=l.toArray.size-n:=by simp
 have S:Side P .any l.toArray es l.toArray.size a.defers (λ_ _=>False) (λj=>gh (j<n)) (HeadInv .any l.toArray n) (Region.seqB .any l.toArray (l.toArray.size-n) n) (λa' w'=>wpList P l.toArray Q (l.drop n) a' w') :=
  ⟨hsel,hch,.inl (by simp),λ_ _ inv hj h=>inv.set hj (by simpa using h),λlisted i j inv hi hok hj=>by
   refine .inl (decide_eq_true (Nat.lt_of_not_ge λh=>?_));exact tail_waits hs hc hn inv _ i rfl (by simpa using hok) (mem_ready.1 hi).1 j h hj,λlisted a w j h1 _ hj ho=>by
   have:=seqB_ready h1 j hj;rcases ho with h|h
   ·have:j<n:=by simpa using h
    omega
   ·obtain⟨_,oj,hoj,_⟩:=mem_ready.1 hj;rw[h]at hoj;simp at hoj⟩
 have inv0:HeadInv .any l.toArray n (bj l.toArray.size fj) :=
  ⟨by simp,λj oj _ hl=>(by rw[Dd]at hl;cases hl),λt _ ht=>getD_in (by simpa using ht) (Dd _ _)⟩
 refine xa hm ?_
 have:=qC (g:=l.toArray.size-n) (Q:=Q) (λ_ _ _ _ h=>h.elim) (λlisted a' w' h1 h2=>by
  have:=wpAny_of_seq (md:=.any) (Q':=Q) (l.drop n) n listed a' w' (λj=>by simp[List.getElem?_drop]) (by rw[hdl];exact h1) h2
  rwa [hdl]at this) _ _ _ _ hC (qD (C:=C) S _ _ a w.drew inv0 hlex hC (Gf (l.take n) 0 a _ (λj hj=>by rw[htl]at hj;simp[hj]) h))
 rw[List.length_range',htl,show n+(l.toArray.size-n)=l.toArray.size by omega]at this;exact this
end
section
variable {P : Program} {ops : Array iz} {md : Region.Mode} {C : World -> Prop} {es : List Nat} {p : Nat} {D : List Deferred} {E : List rK -> World -> Prop}
theorem DJ{id:Nat}{Q:Exit->Act->tW->Prop}{a:Act}{w:tW}{l:List iz}(p:Nat)(es ks:tLN)(C:tW->Prop)(E:List rK->tW->Prop)(hm:P.follows .mixedOrders=fR)(hB:(cy l.toArray&&lexX .any l.toArray es (λi=>i != p) (λlisted=>Region.ready .any l.toArray listed==[p]) ks (bj l.toArray.size fj)&&chainB .any l.toArray es&&es.contains p&&gh (eJ ks<l.toArray.size))=fR) (hC:C w.drew)(hQ:∀c a' w',a'.defers=a.defers->E c w'->Q (.panic c) a' w')(h:wpMixL P l.toArray C es (yN P l.toArray p a.defers E) ks a w.drew):(Code.region id l.toArray fR).wp P Q a w:=by
 simp only[cx,decide_eq_true_eq]at hB;obtain⟨⟨⟨⟨hsel,hlex⟩,hch⟩,hep⟩,hps⟩:=hB
 have S:Side P .any l.toArray es p a.defers E (λi=>i != p) (λ_=>True) (λlisted=>Region.ready .any l.toArray listed==[p]) (yN P l.toArray p a.defers E) :=
  ⟨hsel,hch,.inr hep,λ_ _ _ _ _=>trivial,λ_ _ j _ _ _ _=>by by_cases e:j=p<;>simp[e],λlisted a w j h1 h2 hj _=>by rw[beq_iff_eq.1 h1]at hj;exact⟨by simpa using hj,h2⟩⟩
 have H:=qD (C:=C) S ks _ a w.drew trivial hlex hC h;refine xa hm ?_;have:=qC (g:=l.toArray.size-eJ ks) (Q:=Q) hQ (λlisted a' w' h1 h2=>?_) _ _ _ _ hC H
 ·rwa [show eJ ks+(l.toArray.size-eJ ks)=l.toArray.size by omega]at this
 ·rw[show l.toArray.size-eJ ks=(l.toArray.size-eJ ks-1)+1 by omega];have e:=beq_iff_eq.1 h1;refine⟨λh0=>(by rw[h0]at e;cases e),λi hi=>?_⟩;rw[e]at hi;cases(List.mem_singleton.1 hi);exact Bf hQ h2
theorem jK{Q:Act->tW->Prop}{k:Nat}{o:iz}{rest:tLN}{a:Act}{w:tW}(ho:ops[k]?=eK o)(hgd:o.guard=eL)(hE:es.contains k=fj)(hp:wh o=fR)(h:∀K:Act->Prop,(∀a',wpMixL P ops C es Q rest a' w->K a')->o.quiet P a C K):wpMixL P ops C es Q (k::rest) a w:=by unfold wpMixL;simp only[ho];rw[iP9 (fC hgd _),hE];obtain⟨v,h1,h2⟩:=h _ (λ_ h=>h);exact⟨v,λw hw=>xc hp v w (h1 w hw),h2⟩
theorem zD{Q:Act->tW->Prop}{k:Nat}{o:iz}{rest:tLN}{a:Act}{w:tW}(ho:ops[k]?=eK o)(hgd:o.guard=eL)(hE:es.contains k=fR)(h:∀K:Act->tW->Prop,(∀a' w',a'.defers=a.defers->C w'->wpMixL P ops C es Q rest a' w'->K a' w')->o.wp P a w K (λ_ _ _=>False)):wpMixL P ops C es Q (k::rest) a w:=by unfold wpMixL;simp only[ho];rw[iP9 (fC hgd _),iP9 hE];exact Fa h
theorem mixL_pan{o:iz}{a:Act}{w:tW}(ho:ops[p]?=eK o)(hgd:o.guard=eL)(hd:a.defers=D)(h:∀Q:Exit->Act->tW->Prop,(∀c w',E c w'->Q (.panic c) a w')->AK Q=False->o.wp P a w (λ_ _=>False) Q):wpMixL P ops C es (yN P ops p D E) [] a w:=by
 refine⟨o,ho,fC hgd _,hd,?_⟩;have h1:=h (λx _ w'=>match x with|.panic c=>E c w'|_=>False) (λ_ _ h=>h) (by simp[AK]);unfold Oper.wp at h1;generalize(execOp a.eval o).run P w=r at *;cases r with
 |ok n w' =>
  cases n<;>simp only[Oper.upon]at h1<;>simp only[panUpon]
  case enter f args =>
   refine h1.mono λe w'' he=>?_;cases e with
   |returned v=>exact he.elim
   |panicked c=>exact⟨c,rfl,he⟩
   |outgrown=>simp[AK]at he
  case row row args =>obtain⟨_,_,hf,_⟩:=h1 (Frame.enter P 0 #[] .normal) [];exact hf.elim
 |halt x w' =>
  cases x<;>simp only[Oper.upon]at h1<;>simp only[panUpon]
  case panic v=>exact h1
end
