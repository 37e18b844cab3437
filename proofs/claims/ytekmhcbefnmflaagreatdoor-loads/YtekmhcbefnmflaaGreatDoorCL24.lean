import Derived.Test.YtekmhcbefnmflaaGreatDoorCL05
namespace Go.Proofs.YtekmhcbefnmflaaGreatDoor
open Go.RowKit
open _root_.Array renaming replicate->an
open Bool renaming and_eq_true->ab,false->eE,true->eJ
open List renaming append_nil->b9,length_cons->cb,length->ee
open Nat renaming not_lt_zero->ar,zero_add->bt
open Option renaming map_some->cj,none->ez,some->eC
open Region renaming wanted->ao,noSelect->bh,ready->b5
open _root_.Go renaming Program->jz,Oper->fY,yielded->oE,undef->kh,execOp->mS,Value->eM,Exit->mL,getD_set_ne->rL,wp_region_any->tE,getD_replicate_false->Bx,PanicEntry->pP,LetsOut->xF
set_option linter.all false
section
variable {P : jz} {ops : Array fY} {C : World -> Prop} {es : List Nat}
theorem Vz{Q:Act->tW->Prop}{k:Nat}{o:fY}{rest:List fY}{a:Act}{w:tW}(hw:ao o (oE ops a.tmps)=eE)(h:wpMix P ops C es Q (k+1) rest (a.put o.dst kh) w):wpMix P ops C es Q k (o::rest) a w:=by unfold wpMix;rw[hw];exact h
theorem Jf{Q:Act->tW->Prop}{k:Nat}{o:fY}{rest:List fY}{a:Act}{w:tW}(hgd:o.guard=ez)(hE:es.contains k=eE)(c x y:Operand)(bv:Bool)(ho:o.op=.pick c x y)(hx:a.eval c=.bool bv)(h:wpMix P ops C es Q (k+1) rest (a.put o.dst (if bv then a.eval x else a.eval y)) w):wpMix P ops C es Q k (o::rest) a w:=by unfold wpMix;rw[iP9 (fE hgd _),hE];refine⟨_,λw _=>?_,h⟩;unfold iV;simp only[mS,ho,hx];exact⟨rfl,rfl⟩
end
section
variable {P : jz} {ops : Array fY} {md : Region.Mode} {C : World -> Prop} {N : World -> World -> Prop}
def fw(md:Region.Mode)(o:fY):tLN:=(o.after.toList.filter (λe=>Region.binds md e)).map (·.on)
def zY(P:jz)(ops:Array fY)(N:tW->tW->Prop)(R:eM->tW->Prop)(o:fY)(a:Act)(w:tW):Prop :=
 if ao o (oE ops a.tmps)=eJ then(∀K:Act->tW->Prop,(∀a' w' v,a'=a.put o.dst v->N w w'->R v w'->K a' w')->o.wp P a w K (λ_ _ _=>False))else R kh w
theorem CV(a:Act)(d:Option Tmp)(v:eM)(t:Nat)(h:d≠eC t):(a.put d v).tmps[t]?=a.tmps[t]?:=by
 unfold Act.put;split
 ·rename_i d'
  have:d'≠t:=λe=>h (by rw[e]);simp[this]
 ·rfl
theorem CW(a:Act)(d:Option Tmp)(v:eM):(a.put d v).tmps.size=a.tmps.size:=by unfold Act.put;split<;>simp
theorem put_defers(a:Act)(d:Option Tmp)(v:eM):(a.put d v).defers=a.defers:=by unfold Act.put;split<;>rfl
theorem y8(a:Act)(t:Nat)(v:eM)(h:t<a.tmps.size):(a.put (eC t) v).tmps[t]?=eC v:=by unfold Act.put;simp[h]
def chkI(md:Region.Mode)(l:List fY)(n:Nat):Bool :=
 (List.range (ee l)).all λi=>match l[i]? with
  |none=>eJ
  |some o=>(fw md o).all (λj=>decide (j<i))&&(match o.dst with|none=>eJ|some d=>decide (d<n)) &&
   (List.range (ee l)).all λj=>match l[j]? with
    |none=>eJ
    |some o'=>(j==i)||((match o.dst with|none=>eJ|some d=>!(o'.dst==eC d)) &&
      (match o'.dst with|none=>eJ|some t=>!((o.looksAt l.toArray).contains t)||(if j<i then(fw md o).contains j else(fw md o').contains i)))
structure VM(md:Region.Mode)(l:List fY)(n:Nat):Prop where
 low:∀(i:Nat) (o:fY),l[i]?=eC o->∀j∈fw md o,j<i
 dst:∀(i:Nat) (o:fY) (d:Tmp),l[i]?=eC o->o.dst=eC d->d<n
 one:∀(i:Nat) (o:fY) (j:Nat) (o':fY) (d:Tmp),l[i]?=eC o->l[j]?=eC o'->o.dst=eC d->o'.dst=eC d->j=i
 rd:∀(i:Nat) (o:fY) (j:Nat) (o':fY) (t:Tmp),l[i]?=eC o->l[j]?=eC o'->j≠i->o'.dst=eC t->t∈o.looksAt l.toArray->(j<i->j∈fw md o)/\(i<j->i∈fw md o')
theorem VN{l:List fY}{n:Nat}(h:chkI md l n=eJ):VM md l n:=by
 unfold chkI at h;rw[List.all_eq_true]at h
 have key:∀(i:Nat) (o:fY),l[i]?=eC o->(((fw md o).all (λj=>decide (j<i))&&(match o.dst with|none=>eJ|some d=>decide (d<n))) &&
   (List.range (ee l)).all λj=>match l[j]? with
    |none=>eJ
    |some o'=>(j==i)||((match o.dst with|none=>eJ|some d=>!(o'.dst==eC d)) &&
      (match o'.dst with|none=>eJ|some t=>!((o.looksAt l.toArray).contains t)||(if j<i then(fw md o).contains j else(fw md o').contains i))))=eJ:=by
  intro i o hi;have h1:=h i (List.mem_range.2 (List.getElem?_eq_some_iff.1 hi).1)
  simpa only[hi]using h1
 have k2:∀(i:Nat) (o:fY) (j:Nat) (o':fY),l[i]?=eC o->l[j]?=eC o'->j≠i->((match o.dst with|none=>eJ|some d=>!(o'.dst==eC d)) &&
      (match o'.dst with|none=>eJ|some t=>!((o.looksAt l.toArray).contains t)||(if j<i then(fw md o).contains j else(fw md o').contains i)))=eJ:=by
  intro i o j o' hi hj hne;have h1:=key i o hi;rw[ab]at h1;have h2:=List.all_eq_true.1 h1.2 j (List.mem_range.2 (List.getElem?_eq_some_iff.1 hj).1);simp only[hj]at h2;have:(j==i)=eE:=by simp[hne]
  rw[this,Bool.false_or]at h2;exact h2
 refine⟨?_,?_,?_,?_⟩
 ·intro i o hi j hj;have h1:=key i o hi;simp only[ab]at h1
  simpa using List.all_eq_true.1 h1.1.1 j hj
 ·intro i o d hi hd;have h1:=key i o hi;simp only[ab,hd]at h1
  simpa using h1.1.2
 ·intro i o j o' d hi hj hd hd';by_cases hne:j=i
  ·exact hne
  ·have h1:=k2 i o j o' hi hj hne;rw[ab]at h1;have h2:=h1.1;rw[hd,hd']at h2;simp at h2
 ·intro i o j o' t hi hj hne hd ht;have h1:=k2 i o j o' hi hj hne;rw[ab]at h1;have h2:=h1.2;have hc:(o.looksAt l.toArray).contains t=eJ:=by simpa using ht
  simp only[hd,hc,Bool.not_true,Bool.false_or]at h2;constructor
  ·intro hlt;rw[iP9 hlt]at h2
   simpa using h2
  ·intro hlt;rw[iN9 (by omega)]at h2
   simpa using h2
def unlF(f:Nat->Bool):Nat->Nat
 |0=>0
 |n+1=>unlF f n+(if f n then 0 else 1)
theorem Jp(f:Nat->Bool):∀n,unlF f n=0->∀j,j<n->f j=eJ
 |0,_,j,hj=>absurd hj (ar _)
 |n+1,h,j,hj=>by
  simp only[unlF]at h;by_cases e:j=n
  ·subst e;cases hf:f j with
   |true=>rfl
   |false=>simp[hf]at h
  ·exact Jp f n (by omega) j (by omega)
theorem CX(f g:Nat->Bool):∀n,(∀j,j<n->f j=g j)->unlF f n=unlF g n
 |0,_=>rfl
 |n+1,h=>by simp only[unlF];rw[CX f g n (λj hj=>h j (by omega)),h n (by omega)]
theorem Jq(f g:Nat->Bool)(i:Nat)(hf:f i=eE)(hg:g i=eJ)(he:∀j,j≠i->g j=f j):∀n,i<n->unlF f n=unlF g n+1
 |0,h=>absurd h (ar _)
 |n+1,h=>by
  simp only[unlF];by_cases e:i=n
  ·subst e;rw[CX g f i (λj hj=>he j (by omega)),hf,hg];simp
  ·rw[Jq f g i hf hg he n (by omega),he n (by omega)];omega
theorem ZJ(n:Nat):unlF (λ_=>eE) n=n:=by
 induction n with
 |zero=>rfl
 |succ n ih=>simp only[unlF,ih];rfl
theorem Jr{R:eM->tW->Prop}{o:fY}{a:Act}{w:tW}(h:∀K:Act->tW->Prop,(∀a' w' v,a'=a.put o.dst v->N w w'->R v w'->K a' w')->o.wp P a w K (λ_ _ _=>False)):lV P o a w (λu w'=>∃v,a.put o.dst u=a.put o.dst v/\N w w'/\R v w'):=by
 have h1:=h (λa' w'=>∃v,a'=a.put o.dst v/\N w w'/\R v w') (λa' w' v h1 h2 h3=>⟨v,h1,h2,h3⟩);unfold Oper.wp at h1;unfold lV;generalize(mS a.eval o).run P w=r at *;cases r with
 |ok n w' =>
  cases n<;>simp only[Oper.upon]at h1<;>simp only[effUpon]
  case value u=>exact h1
  case skip=>exact h1
  case defer d =>obtain⟨v,h2,_⟩:=h1;have h3:=congrArg Act.defers h2;rw[put_defers,put_defers]at h3;have:=congrArg List.length h3;simp at this
  case enter f args =>
   refine h1.mono λe w'' he=>?_;cases e with
   |returned v=>exact⟨v,rfl,he⟩
   |panicked c=>exact he.elim
   |outgrown=>obtain⟨_,_,hf⟩:=he;exact hf.elim
  case row row args=>exact h1
 |halt x w'=>cases x<;>simp only[Oper.upon]at h1
theorem Re{o:fY}{a:Act}{w:tW}{K:Act->tW->Prop}{Q:mL->Act->tW->Prop}(h:lV P o a w (λv w'=>K (a.put o.dst v) w')):o.wp P a w K Q:=by
 unfold lV at h;unfold Oper.wp;generalize(mS a.eval o).run P w=r at *;cases r with
 |ok n w' =>
  cases n<;>simp only[effUpon]at h<;>simp only[Oper.upon]
  case value u=>exact h
  case skip=>exact h
  case enter f args=>exact h.mono λe w'' ⟨v,he,hk⟩=>by subst he;exact hk
  case row row args=>exact h
 |halt x w'=>simp only[effUpon]at h
theorem Rf{a a':Act}{o:fY}{ops:Array fY}(h:∀t∈o.looksAt ops,a.tmps[t]?=a'.tmps[t]?):∀x∈o.op.operands,a.eval x=a'.eval x:=by
 intro x hx;cases x with
 |tmp t =>have ht:t∈o.looksAt ops:=List.mem_append_left _ (List.mem_filterMap.2 ⟨.tmp t,by simpa using hx,rfl⟩);have:=h t ht;simp only[Act.eval,Array.getD_eq_getD_getElem?,this]
 |_=>rfl
theorem Js{a a':Act}{o:fY}{ops:Array fY}(h:∀t∈o.looksAt ops,a.tmps[t]?=a'.tmps[t]?):ao o (oE ops a.tmps)=ao o (oE ops a'.tmps):=by
 unfold ao;cases hg:o.guard with
 |none=>rfl
 |some g =>
  obtain⟨j,want⟩:=g;simp only;unfold oE;cases hd:(ops[j]?).bind (·.dst)with
  |none=>rfl
  |some d =>have ht:d∈o.looksAt ops:=List.mem_append_right _ (by simp[hg,hd]);simp only[Option.bind_some,h d ht]
theorem lu{listed:Array Bool}{i:Nat}(h:i<listed.size)(d:Bool):(listed.setIfInBounds i eJ).getD i d=eJ:=by simp[h]
theorem CY{listed:Array Bool}{i:Nat}(h:i<listed.size)(d d':Bool):listed.getD i d=listed.getD i d':=by simp[h]
end
abbrev LW:=(Nat->Bool)->tW->Prop
abbrev jc:=eM ⊕ ((Nat->Bool)->eM->tW->Prop)
section
variable {P : jz} {ops : Array fY} {md : Region.Mode} {C : LW} {N : Nat -> World -> World -> Prop}
def jF(L:Nat->Bool)(i:Nat):Nat->Bool:=λj=>if j=i then eJ else L j
def rH(F:List LW):tLN->LW
 |[],_,_=>True
 |j::ds,L,w=>(F[j]?.getD (λ_ _=>True)) L w/\rH F ds L w
def L8:List LW->LW
 |[],_,_=>True
 |f::l,L,w=>f L w/\L8 l L w
def relT:jc->(Nat->Bool)->eM->tW->Prop
 |.inl v=>λ_ u _=>u=v
 |.inr R=>R
def ZK(x:eM):jc->eM
 |.inl v=>v
 |.inr _=>x
def y9(x:eM):jc->LW
 |.inl _=>λ_ _=>True
 |.inr R=>λL w=>R L x w
def rJ(md:Region.Mode)(ops:Array fY)(k:Nat)(L:Nat->Bool):Prop:=L k=eE/\∀(j:Nat) (o:fY),ops[j]?=eC o->(fw md o).contains k=eJ->L j=eE
def sO(P:jz)(ops:Array fY)(md:Region.Mode)(C:LW)(N:Nat->tW->tW->Prop)(Q:Act->tW->Prop):Nat->List jc->List fY->Act->List LW->Prop
 |_,_,[],a,F=>∀(L:Nat->Bool) (w:tW),(∀j,j<ops.size->L j=eJ)->C L w->L8 F L w->Q a w
 |_,[],_::_,_,_=>False
 |k,.inl v::ss,o::rest,a,F=>(∀(L:Nat->Bool) (w:tW),rJ md ops k L->C L w->rH F (fw md o) L w->zY P ops (N k) (λ(u:eM) (_:tW)=>u=v) o a w)/\sO P ops md C N Q (k+1) ss rest (a.put o.dst v) (F++[λ(_:Nat->Bool) (_:tW)=>True])
 |k,.inr R::ss,o::rest,a,F=>(∀(L:Nat->Bool) (w:tW),rJ md ops k L->C L w->rH F (fw md o) L w->zY P ops (N k) (R (jF L k)) o a w)/\∀x,sO P ops md C N Q (k+1) ss rest (a.put o.dst x) (F++[λL w=>R L x w])
def factsT(x:Nat->eM):Nat->List jc->Nat->List LW
 |_,_,0=>[]
 |_,[],_+1=>[]
 |k,s::ss,i+1=>y9 (x k) s::factsT x (k+1) ss i
def putT(x:Nat->eM):Nat->List jc->List fY->Nat->Act->Act
 |_,_,_,0,a=>a
 |_,[],_,_+1,a=>a
 |_,_,[],_+1,a=>a
 |k,s::ss,o::l,i+1,a=>putT x (k+1) ss l i (a.put o.dst (ZK (x k) s))
theorem zZ{Q:Act->tW->Prop}:∀{l:List fY} {k:Nat} {ss:List jc} {a:Act} {F:List LW},sO P ops md C N Q k ss l a F->ee l<=ee ss
 |[],_,_,_,_,_=>Nat.zero_le _
 |_::_,_,[],_,_,h=>h.elim
 |_::_,_,.inl _::_,_,_,h=>Nat.succ_le_succ (zZ h.2)
 |_::_,_,.inr _::_,_,_,h=>Nat.succ_le_succ (zZ (h.2 kh))
theorem CZ{Q:Act->tW->Prop}(x:Nat->eM):∀{l:List fY} {ss:List jc} {a:Act} {F:List LW} (k:Nat),sO P ops md C N Q k ss l a F -> ∀(i:Nat) (o:fY) (s:jc),l[i]?=eC o->ss[i]?=eC s->∀(L:Nat->Bool) (w:tW),rJ md ops (k+i) L->C L w->rH (F++factsT x k ss i) (fw md o) L w->zY P ops (N (k+i)) (λu w=>relT s (jF L (k+i)) u w) o (putT x k ss l i a) w
 |[],_,_,_,_,_,i,_,_,ho,_,_,_,_,_,_=>by simp at ho
 |_::_,[],_,_,_,h,_,_,_,_,_,_,_,_,_,_=>h.elim
 |o0::l,.inl v::ss,a,F,k,h,i,o,s,ho,hs,L,w,hn,hC,hk=>by
  cases i with
  |zero =>simp only[List.getElem?_cons_zero,Option.some.injEq]at ho hs;subst ho hs;simp only[factsT,b9]at hk;simp only[putT];exact h.1 L w hn hC hk
  |succ i =>
   simp only[List.getElem?_cons_succ]at ho hs;simp only[putT];have e:k+(i+1)=k+1+i:=by omega
   rw[e]at hn ⊢;refine CZ x (k+1) h.2 i o s ho hs L w hn hC ?_
   simpa [factsT,y9]using hk
 |o0::l,.inr R::ss,a,F,k,h,i,o,s,ho,hs,L,w,hn,hC,hk=>by
  cases i with
  |zero =>simp only[List.getElem?_cons_zero,Option.some.injEq]at ho hs;subst ho hs;simp only[factsT,b9]at hk;simp only[putT];exact h.1 L w hn hC hk
  |succ i =>
   simp only[List.getElem?_cons_succ]at ho hs;simp only[putT];have e:k+(i+1)=k+1+i:=by omega
   rw[e]at hn ⊢;refine CZ x (k+1) (h.2 (x k)) i o s ho hs L w hn hC ?_
   simpa [factsT,y9]using hk
theorem Aa{Q:Act->tW->Prop}(x:Nat->eM):∀{l:List fY} {ss:List jc} {a:Act} {F:List LW} (k:Nat),sO P ops md C N Q k ss l a F -> ∀(L:Nat->Bool) (w:tW),(∀j,j<ops.size->L j=eJ)->C L w->L8 (F++factsT x k ss (ee l)) L w->Q (putT x k ss l (ee l) a) w
 |[],ss,a,F,k,h,L,w,hL,hC,hk=>by
  have h':∀(L:Nat->Bool) (w:tW),(∀j,j<ops.size->L j=eJ)->C L w->L8 F L w->Q a w:=by
   cases ss with
   |nil=>exact h
   |cons s ss=>cases s<;>exact h
  simp only[List.length_nil,factsT,b9]at hk
  simpa [putT]using h' L w hL hC hk
 |_::_,[],_,_,_,h,_,_,_,_,_=>h.elim
 |o0::l,.inl v::ss,a,F,k,h,L,w,hL,hC,hk=>by
  simp only[cb,putT];refine Aa x (k+1) h.2 L w hL hC ?_
  simpa [factsT,y9]using hk
 |o0::l,.inr R::ss,a,F,k,h,L,w,hL,hC,hk=>by
  simp only[cb,putT];refine Aa x (k+1) (h.2 (x k)) L w hL hC ?_
  simpa [factsT,y9]using hk
theorem Ab(x:Nat->eM):∀(ss:List jc) (k i j:Nat),(factsT x k ss i)[j]?=if j<i then(ss[j]?).map (y9 (x (k+j)))else ez
 |[],k,0,j=>by simp[factsT]
 |[],k,i+1,j=>by simp[factsT]
 |s::ss,k,0,j=>by simp[factsT]
 |s::ss,k,i+1,0=>by simp[factsT]
 |s::ss,k,i+1,j+1=>by
  rw[factsT,List.getElem?_cons_succ,Ab x ss (k+1) i j];have:k+1+j=k+(j+1):=by omega
  simp[this]
theorem E6(F:List LW)(L:Nat->Bool)(w:tW):∀(ds:tLN),(∀j∈ds,∀f:LW,F[j]?=eC f->f L w)->rH F ds L w
 |[],_=>trivial
 |j::ds,h=>⟨by
   cases hf:F[j]? with
   |none=>trivial
   |some f=>exact h j (by simp) f hf,E6 F L w ds (λi hi=>h i (List.mem_cons_of_mem _ hi))⟩
theorem N9(L:Nat->Bool)(w:tW):∀(F:List LW),(∀(j:Nat) (f:LW),F[j]?=eC f->f L w)->L8 F L w
 |[],_=>trivial
 |f::F,h=>⟨h 0 f (by simp),N9 L w F (λj g hg=>h (j+1) g (by simpa using hg))⟩
theorem Ac(x:Nat->eM):∀(i:Nat) (l:List fY) (ss:List jc) (k:Nat) (a:Act),(putT x k ss l i a).tmps.size=a.tmps.size
 |0,_,_,_,_=>by simp[putT]
 |i+1,_,[],_,_=>by simp[putT]
 |i+1,[],_::_,_,_=>by simp[putT]
 |i+1,o::l,s::ss,k,a=>by rw[putT,Ac x i l ss,CW]
theorem A8(x:Nat->eM):∀(i:Nat) (l:List fY) (ss:List jc) (k:Nat) (a:Act),(putT x k ss l i a).defers=a.defers
 |0,_,_,_,_=>by simp[putT]
 |i+1,_,[],_,_=>by simp[putT]
 |i+1,[],_::_,_,_=>by simp[putT]
 |i+1,o::l,s::ss,k,a=>by rw[putT,A8 x i l ss,put_defers]
theorem rM(x:Nat->eM)(t:Nat):∀(i:Nat) (l:List fY) (ss:List jc) (k:Nat) (a:Act),(∀(j:Nat) (o:fY),j<i->l[j]?=eC o->o.dst≠eC t)->(putT x k ss l i a).tmps[t]?=a.tmps[t]?
 |0,_,_,_,_,_=>by simp[putT]
 |i+1,_,[],_,_,_=>by simp[putT]
 |i+1,[],_::_,_,_,_=>by simp[putT]
 |i+1,o::l,s::ss,k,a,h=>by rw[putT,rM x t i l ss _ _ (λj o' hj ho=>h (j+1) o' (by omega) (by simpa using ho)),CV _ _ _ _ (h 0 o (by omega) rfl)]
theorem GI(x:Nat->eM)(t:Nat):∀(i:Nat) (l:List fY) (ss:List jc) (k:Nat) (a:Act) (j:Nat) (o:fY) (s:jc),j<i->l[j]?=eC o->ss[j]?=eC s->o.dst=eC t -> (∀(j':Nat) (o':fY),j'<i->j'≠j->l[j']?=eC o'->o'.dst≠eC t)->t<a.tmps.size->(putT x k ss l i a).tmps[t]?=eC (ZK (x (k+j)) s)
 |0,_,_,_,_,j,_,_,hj,_,_,_,_,_=>absurd hj (ar _)
 |i+1,_,[],_,_,j,_,_,_,_,hs,_,_,_=>by simp at hs
 |i+1,[],_::_,_,_,j,_,_,_,ho,_,_,_,_=>by simp at ho
 |i+1,o0::l,s0::ss,k,a,0,o,s,_,ho,hs,hd,hx,ht=>by simp only[List.getElem?_cons_zero,Option.some.injEq]at ho hs;subst ho hs;rw[putT,rM x t i l ss _ _ (λj o' hj ho=>hx (j+1) o' (by omega) (by omega) (by simpa using ho)),hd,y8 _ _ _ ht];rfl
 |i+1,o0::l,s0::ss,k,a,j+1,o,s,hj,ho,hs,hd,hx,ht=>by
  simp only[List.getElem?_cons_succ]at ho hs;rw[putT,GI x t i l ss (k+1) _ j o s (by omega) ho hs hd (λj' o' h1 h2 h3=>hx (j'+1) o' (by omega) (by omega) (by simpa using h3)) (by rw[CW];exact ht)];have:k+1+j=k+(j+1):=by omega
  rw[this]
def H9(listed:Array Bool):Nat->Bool:=λj=>listed.getD j eE
structure GJ(md:Region.Mode)(C:LW)(ss:List jc)(l:List fY)(a0:Act)(listed:Array Bool)(a:Act)(w:tW)(x:Nat->eM):Prop where
 c:C (H9 listed) w
 sz:a.tmps.size=a0.tmps.size
 df:a.defers=a0.defers
 ls:listed.size=ee l
 val:∀(j:Nat) (o:fY) (d:Tmp) (s:jc),listed.getD j eE=eJ->l[j]?=eC o->ss[j]?=eC s->o.dst=eC d->a.tmps[d]?=eC (ZK (x j) s)
 fact:∀(j:Nat) (s:jc),listed.getD j eE=eJ->ss[j]?=eC s->y9 (x j) s (H9 listed) w
 old:∀d:Tmp,(∀(j:Nat) (o:fY),listed.getD j eE=eJ->l[j]?=eC o->o.dst≠eC d)->a.tmps[d]?=a0.tmps[d]?
 shut:∀(j:Nat) (o:fY),listed.getD j eE=eJ->l[j]?=eC o->∀i∈fw md o,listed.getD i eE=eJ
theorem GJ.eq{ss:List jc}{l:List fY}{a0 a:Act}{listed:Array Bool}{w:tW}{x:Nat->eM}(h:GJ md C ss l a0 listed a w x)(hB:VM md l a0.tmps.size)(hls:ee l<=ee ss)(hall:∀j,j<ee l->listed.getD j eE=eJ):a=putT x 0 ss l (ee l) a0:=by
 have ht:a.tmps=(putT x 0 ss l (ee l) a0).tmps:=by
  apply Array.ext_getElem?;intro t;by_cases hd:∃(j:Nat) (o:fY),l[j]?=eC o/\o.dst=eC t
  ·obtain⟨j,o,hj,GK⟩:=hd;have hjl:=(List.getElem?_eq_some_iff.1 hj).1;obtain⟨s,hs⟩:∃s,ss[j]?=eC s:=⟨ss[j]'(by omega),List.getElem?_eq_getElem _⟩
   rw[h.val j o t s (hall j hjl) hj hs GK,GI x t (ee l) l ss 0 a0 j o s hjl hj hs GK (λj' o' _ hne ho' hd'=>hne (hB.one j o j' o' t hj ho' GK hd')) (hB.dst j o t hj GK)];simp
  ·rw[h.old t (λj o _ hj GK=>hd ⟨j,o,hj,GK⟩),rM x t (ee l) l ss 0 a0 (λj o _ hj GK=>hd ⟨j,o,hj,GK⟩)]
 have hdf:a.defers=(putT x 0 ss l (ee l) a0).defers:=by rw[h.df,A8]
 cases a;generalize putT x 0 ss l (ee l) a0=b at *;cases b;simp only at ht hdf;rw[ht,hdf]
theorem GJ.same{ss:List jc}{l:List fY}{a0 a:Act}{listed:Array Bool}{w:tW}{x:Nat->eM}(h:GJ md C ss l a0 listed a w x)(hB:VM md l a0.tmps.size)(hls:ee l<=ee ss){i:Nat} {o:fY} (hi:l[i]?=eC o) (hu:listed.getD i eE=eE) (hr:∀j∈fw md o,listed.getD j eE=eJ):∀t∈o.looksAt l.toArray,a.tmps[t]?=(putT x 0 ss l i a0).tmps[t]?:=by
 intro t ht;by_cases hd:∃(j:Nat) (o':fY),j<i/\l[j]?=eC o'/\o'.dst=eC t
 ·obtain⟨j,o',hji,hj,GK⟩:=hd;have hjl:=(List.getElem?_eq_some_iff.1 hj).1;obtain⟨s,hs⟩:∃s,ss[j]?=eC s:=⟨ss[j]'(by omega),List.getElem?_eq_getElem _⟩
  have abz:=(hB.rd i o j o' t hi hj (by omega) GK ht).1 hji;rw[h.val j o' t s (hr j abz) hj hs GK,GI x t i l ss 0 a0 j o' s hji hj hs GK (λj' o'' _ hne ho' hd'=>hne (hB.one j o' j' o'' t hj ho' GK hd')) (hB.dst j o' t hj GK)];simp
 ·rw[rM x t i l ss 0 a0 (λj o' hji hj GK=>hd ⟨j,o',hji,hj,GK⟩)];refine h.old t (λj o' hl hj GK=>?_);rcases Nat.lt_trichotomy j i with hji|hji|hji
  ·exact hd ⟨j,o',hji,hj,GK⟩
  ·subst hji;rw[hu]at hl;cases hl
  ·have abz:=(hB.rd i o j o' t hi hj (by omega) GK ht).2 hji;have:=h.shut j o' hl hj i abz;rw[hu]at this;cases this
theorem GJ.step{ss:List jc}{l:List fY}{a0 a:Act}{listed:Array Bool}{w w':tW}{x:Nat->eM}(h:GJ md C ss l a0 listed a w x)(hB:VM md l a0.tmps.size)(_hls:ee l<=ee ss)(hst:∀(j:Nat) (s:jc),ss[j]?=eC s->∀(i:Nat) (L:Nat->Bool) u w w',rJ md l.toArray i L->L j=eJ->N i w w'->relT s L u w->relT s (jF L i) u w') (hN:∀(i:Nat) (L:Nat->Bool) w w',rJ md l.toArray i L->C L w->N i w w'->C (jF L i) w'){i:Nat} {o:fY} {s:jc} {v:eM} (hi:l[i]?=eC o) (hs:ss[i]?=eC s) (hu:listed.getD i eE=eE) (hr:∀j∈fw md o,listed.getD j eE=eJ) (n:N i w w') (hv:relT s (jF (H9 listed) i) v w'):∃x',GJ md C ss l a0 (listed.setIfInBounds i eJ) (a.put o.dst v) w' x':=by
 have hil:=(List.getElem?_eq_some_iff.1 hi).1;have hix:i<listed.size:=by rw[h.ls];exact hil
 refine⟨λj=>if j=i then v else x j,?_⟩
 have hmem:∀j,(listed.setIfInBounds i eJ).getD j eE=eJ->j=i\/(j≠i/\listed.getD j eE=eJ):=by
  intro j hj;by_cases e:j=i
  ·exact .inl e
  ·rw[rL eE (λe'=>e e'.symm)]at hj;exact .inr ⟨e,hj⟩
 have VO:∀j,listed.getD j eE=eJ->(listed.setIfInBounds i eJ).getD j eE=eJ:=by
  intro j hj;by_cases e:j=i
  ·subst e;exact lu hix eE
  ·rw[rL eE (λe'=>e e'.symm)];exact hj
 have ZL:rJ md l.toArray i (H9 listed):=by
  refine⟨hu,λj o' hj hc=>?_⟩;cases hlj:H9 listed j with
  |false=>rfl
  |true =>have:=h.shut j o' hlj (by simpa using hj) i (by simpa using hc);rw[hu]at this;cases this
 have abA:H9 (listed.setIfInBounds i eJ)=jF (H9 listed) i:=by
  funext j;unfold H9 jF;by_cases e:j=i
  ·subst e;rw[iP9 rfl];exact lu hix eE
  ·rw[iN9 e];exact rL eE (λe'=>e e'.symm)
 have ada:∀(j:Nat) (y:eM) (s':jc),listed.getD j eE=eJ->ss[j]?=eC s'->y9 y s' (H9 listed) w->y9 y s' (jF (H9 listed) i) w':=by
  intro j y s' hj hs' hf;cases s' with
  |inl _=>trivial
  |inr R=>exact hst j _ hs' i (H9 listed) y w w' ZL hj n hf
 refine⟨by rw[abA];exact hN i _ _ _ ZL h.c n,by rw[CW,h.sz],by rw[put_defers,h.df],by simp[h.ls],?_,?_,?_,?_⟩
 ·intro j o' d s' hj ho' hs' hd;rcases hmem j hj with rfl |⟨hne,hj'⟩
  ·rw[hi]at ho';cases ho';rw[hs]at hs';cases hs';rw[hd,y8 _ _ _ (by rw[h.sz];exact hB.dst j o d hi hd)];simp only[if_true];cases s with
   |inl v0=>simp only[relT]at hv;simp[ZK,hv]
   |inr R=>rfl
  ·rw[iN9 hne,CV _ _ _ _ (λe=>hne (hB.one i o j o' d hi ho' e hd))];exact h.val j o' d s' hj' ho' hs' hd
 ·intro j s' hj hs';rcases hmem j hj with rfl |⟨hne,hj'⟩
  ·rw[hs]at hs';cases hs';simp only[if_true];cases s with
   |inl v0=>trivial
   |inr R=>rw[abA];exact hv
  ·simp only[iN9 hne];rw[abA];exact ada j _ _ hj' hs' (h.fact j s' hj' hs')
 ·intro d hd;rw[CV _ _ _ _ (hd i o (lu hix eE) hi)];exact h.old d (λj o' hj ho'=>hd j o' (VO j hj) ho')
 ·intro j o' hj ho' k hk;rcases hmem j hj with rfl |⟨hne,hj'⟩
  ·rw[hi]at ho';cases ho';exact VO k (hr k hk)
  ·exact VO k (h.shut j o' hj' ho' k hk)
theorem L9{ss:List jc}{l:List fY}{a0:Act}{Q:Act->tW->Prop}{Q':mL->Act->tW->Prop}(hQ:∀a w,Q a w->Q' .normal a w)(hB:VM md l a0.tmps.size)(hsel:bh l.toArray=eJ)(hst:∀(j:Nat) (s:jc),ss[j]?=eC s->∀(i:Nat) (L:Nat->Bool) u w w',rJ md l.toArray i L->L j=eJ->N i w w'->relT s L u w->relT s (jF L i) u w') (hN:∀(i:Nat) (L:Nat->Bool) w w',rJ md l.toArray i L->C L w->N i w w'->C (jF L i) w') (hrf:(l.all (λo=>o.guard.isNone))=eJ\/∀i w,N i w w)(hW:sO P l.toArray md C N Q 0 ss l a0 []):∀(fuel:Nat) (listed:Array Bool) (a:Act) (w:tW) (x:Nat->eM),GJ md C ss l a0 listed a w x->unlF (λj=>listed.getD j eE) (ee l)<=fuel -> wpAny P md l.toArray Q' fuel listed a w:=by
 have hls:=zZ hW
 have hend:∀(listed:Array Bool) (a:Act) (w:tW) (x:Nat->eM),GJ md C ss l a0 listed a w x->(∀j,j<ee l->listed.getD j eE=eJ)->Q' .normal a w:=by
  intro listed a w x h hall;rw[h.eq hB hls hall];refine hQ _ _ (Aa x 0 hW (H9 listed) w (λj hj=>hall j (by simpa using hj)) h.c ?_);refine N9 _ w _ (λj f hf=>?_);rw[List.nil_append,Ab]at hf;by_cases hj:j<ee l
  ·rw[iP9 hj]at hf;obtain⟨s,hs⟩:∃s,ss[j]?=eC s:=⟨ss[j]'(by omega),List.getElem?_eq_getElem _⟩
   rw[hs]at hf;simp only[cj,Option.some.injEq,bt]at hf;rw[<-hf];exact h.fact j s (hall j hj) hs
  ·rw[iN9 hj]at hf;cases hf
 have hnil:∀(listed:Array Bool),listed.size=ee l->b5 md l.toArray listed=[]->∀n j,j<n->j<ee l->listed.getD j eE=eJ:=by
  intro listed hsz hr n;induction n with
  |zero=>intro j hj;exact absurd hj (ar _)
  |succ n ih =>
   intro j hj hjl;cases hc:listed.getD j eE with
   |true=>rfl
   |false =>
    exfalso;have hjs:j<listed.size:=by omega
    obtain⟨o,ho⟩:∃o,l[j]?=eC o:=⟨l[j],List.getElem?_eq_getElem _⟩
    have:j∈b5 md l.toArray listed:=mem_ready.2 ⟨by rw[CY hjs eJ eE];exact hc,o,by simpa using ho,λe he hb=>by have hd:e.on∈fw md o:=List.mem_map.2 ⟨e,List.mem_filter.2 ⟨by simpa using he,hb⟩,rfl⟩;have hlt:=hB.low j o ho e.on hd;exact ih e.on (by omega) (by omega)⟩;rw[hr]at this;cases this
 intro fuel;induction fuel with
 |zero =>
  intro listed a w x h hf;have hall:=Jp (λj=>listed.getD j eE) (ee l) (by omega);refine⟨?_,hend listed a w x h hall⟩;apply List.eq_nil_iff_forall_not_mem.2;intro i hi;obtain⟨h0,o,ho,_⟩:=mem_ready.1 hi;have hil:i<ee l:=by simpa using(Array.getElem?_eq_some_iff.1 ho).1
  have h1:=hall i hil;rw[CY (by rw[h.ls];exact hil) eJ eE,h1]at h0;cases h0
 |succ fuel ih =>
  intro listed a w x h hf;refine⟨λhr=>hend listed a w x h (λj hj=>hnil listed h.ls hr (j+1) j (by omega) hj),?_⟩;intro i hi;obtain⟨h0,o,ho,Tt⟩:=mem_ready.1 hi;have hi':l[i]?=eC o:=by simpa using ho
  have hil:=(List.getElem?_eq_some_iff.1 hi').1;have hix:i<listed.size:=by rw[h.ls];exact hil
  have hu:listed.getD i eE=eE:=by rw[CY hix eE eJ];exact h0
  have hr:∀j∈fw md o,listed.getD j eE=eJ:=by intro j hj;obtain⟨e,he,rfl⟩:=List.mem_map.1 hj;obtain⟨he1,he2⟩:=List.mem_filter.1 he;exact Tt e (by simpa using he1) he2
  obtain⟨s,hs⟩:∃s,ss[i]?=eC s:=⟨ss[i]'(by omega),List.getElem?_eq_getElem _⟩
  have hk:rH ([]++factsT x 0 ss i) (fw md o) (H9 listed) w:=by
   refine E6 _ _ w _ (λj hj f hfj=>?_);rw[List.nil_append,Ab]at hfj;by_cases hji:j<i
   ·rw[iP9 hji]at hfj;obtain⟨s',hs'⟩:∃s,ss[j]?=eC s:=⟨ss[j]'(by omega),List.getElem?_eq_getElem _⟩
    rw[hs']at hfj;simp only[cj,Option.some.injEq,bt]at hfj;rw[<-hfj];exact h.fact j s' (hr j hj) hs'
   ·rw[iN9 hji]at hfj;cases hfj
  have ZL:rJ md l.toArray (0+i) (H9 listed):=by
   rw[bt];refine⟨hu,λj o' hj hc=>?_⟩;cases hlj:H9 listed j with
   |false=>rfl
   |true =>have:=h.shut j o' hlj (by simpa using hj) i (by simpa using hc);rw[hu]at this;cases this
  have hg:=CZ x 0 hW i o s hi' hs (H9 listed) w ZL h.c hk;rw[bt]at hg;have hsame:=h.same hB hls hi' hu hr;have hsl:=λcs b=>Region.noSelect_spec hsel i o cs b ho;have hun:∀listed':Array Bool,listed'=listed.setIfInBounds i eJ->unlF (λj=>listed'.getD j eE) (ee l)<=fuel:=by rintro _ rfl;have:=Jq (λj=>listed.getD j eE) (λj=>(listed.setIfInBounds i eJ).getD j eE) i hu (lu hix eE) (λj hj=>rL eE (λe=>hj e.symm)) (ee l) hil;omega
  unfold wpOp;simp only[ho];unfold zY at hg;rw[<-Js hsame]at hg;split
  ·rename_i hw
   rw[iP9 hw]at hg;left;refine Re ?_;have he:=Jr hg;unfold lV at he ⊢;rw[execOp_congr o hsl (Rf hsame)];refine jg ?_ he;rintro u w' ⟨v,huv,hn,hv⟩
   have hput:a.put o.dst u=a.put o.dst v:=by
    cases hd:o.dst with
    |none=>rfl
    |some d =>have h1:=congrArg (λb:Act=>b.tmps[d]?) huv;simp only[hd]at h1;rw[y8 _ _ _ (by rw[Ac];exact hB.dst i o d hi' hd),y8 _ _ _ (by rw[Ac];exact hB.dst i o d hi' hd)]at h1;cases h1;rfl
   rw[hput];obtain⟨x',h'⟩:=h.step hB hls hst hN hi' hs hu hr hn hv;exact ih _ _ _ x' h' (hun _ rfl)
  ·rename_i hw
   rw[iN9 hw]at hg
   have hnn:N i w w:=by
    rcases hrf with hg0|hrf
    ·exfalso;have hgn:=List.all_eq_true.1 hg0 o (List.mem_of_getElem? hi');exact hw (fE (by simpa using hgn) _)
    ·exact hrf i w
   obtain⟨x',h'⟩:=h.step hB hls hst hN hi' hs hu hr hnn hg;exact ih _ _ _ x' h' (hun _ rfl)
theorem uM{id:Nat}{Q:mL->Act->tW->Prop}{a:Act}{w:tW}{l:List fY}(ss:List jc)(C:LW)(N:Nat->tW->tW->Prop)(hm:P.follows .mixedOrders=eJ)(hB:chkI .any l a.tmps.size=eJ)(hsel:bh l.toArray=eJ)(hC:C (λ_=>eE) w.drew)(hst:∀(j:Nat) (s:jc),ss[j]?=eC s->∀(i:Nat) (L:Nat->Bool) u w w',rJ .any l.toArray i L->L j=eJ->N i w w'->relT s L u w->relT s (jF L i) u w') (hN:∀(i:Nat) (L:Nat->Bool) w w',rJ .any l.toArray i L->C L w->N i w w'->C (jF L i) w') (hrf:(l.all (λo=>o.guard.isNone))=eJ\/∀i w,N i w w)(h:sO P l.toArray .any C N (λa' w'=>Q .normal a' w') 0 ss l a []):(Code.region id l.toArray eJ).wp P Q a w:=by
 refine tE hm ?_;refine L9 (C:=C) (N:=N) (ss:=ss) (l:=l) (a0:=a) (Q:=λa' w'=>Q .normal a' w') (λ_ _ h=>h) (VN hB) hsel hst hN hrf h _ _ a w.drew (λ_=>kh) ⟨?_,rfl,rfl,by simp,?_,?_,?_,?_⟩ ?_
 ·have:H9 (an l.toArray.size eE)=λ_=>eE:=by funext j;simp only[H9,Array.getD_eq_getD_getElem?,Array.getElem?_replicate];split<;>rfl
  rw[this];exact hC
 ·intro j o d s hj;exfalso;revert hj;simp[Array.getElem?_replicate];split<;>simp
 ·intro j s hj;exfalso;revert hj;simp[Array.getElem?_replicate];split<;>simp
 ·intro d _;rfl
 ·intro j o hj;exfalso;revert hj;simp[Array.getElem?_replicate];split<;>simp
 ·have:unlF (λj=>(an l.toArray.size eE).getD j eE) (ee l)=ee l:=by refine(CX _ (λ_=>eE) _ (λj hj=>?_)).trans (ZJ (ee l));simp[Array.getElem?_replicate];split<;>simp
  rw[this];simp
theorem ic{Q:Act->tW->Prop}{k:Nat}{ss:List jc}{o:fY}{rest:List fY}{a:Act}{F:List LW}{v:eM}(hgd:o.guard=ez)(h:∀(L:Nat->Bool) (w:tW),rJ md ops k L->C L w->rH F (fw md o) L w->∀K:Act->tW->Prop,(∀a' w' v',a'=a.put o.dst v'->N k w w'->v'=v->K a' w')->o.wp P a w K (λ_ _ _=>False))(hr:sO P ops md C N Q (k+1) ss rest (a.put o.dst v) (F++[λ(_:Nat->Bool) (_:tW)=>True])):sO P ops md C N Q k (.inl v::ss) (o::rest) a F :=
 ⟨λL w hn hC hk=>by unfold zY;rw[iP9 (fE hgd _)];exact h L w hn hC hk,hr⟩
theorem uN{Q:Act->tW->Prop}{k:Nat}{ss:List jc}{o:fY}{rest:List fY}{a:Act}{F:List LW}{R:(Nat->Bool)->eM->tW->Prop}(hgd:o.guard=ez)(h:∀(L:Nat->Bool) (w:tW),rJ md ops k L->C L w->rH F (fw md o) L w->∀K:Act->tW->Prop,(∀a' w' v',a'=a.put o.dst v'->N k w w'->R (jF L k) v' w'->K a' w')->o.wp P a w K (λ_ _ _=>False))(hr:∀x,sO P ops md C N Q (k+1) ss rest (a.put o.dst x) (F++[λL w=>R L x w])):sO P ops md C N Q k (.inr R::ss) (o::rest) a F :=
 ⟨λL w hn hC hk=>by unfold zY;rw[iP9 (fE hgd _)];exact h L w hn hC hk,hr⟩
theorem Jt{Q:Act->tW->Prop}{k:Nat}{ss:List jc}{a:Act}{F:List LW}(h:∀(L:Nat->Bool) (w:tW),(∀j,j<ops.size->L j=eJ)->C L w->L8 F L w->Q a w):sO P ops md C N Q k ss [] a F:=by
 cases ss with
 |nil=>exact h
 |cons s ss=>cases s<;>exact h
theorem nN{F:List LW}{L:Nat->Bool}{w:tW}:∀{ds:tLN},rH F ds L w->∀j,ds.contains j=eJ->(F[j]?.getD (λ_ _=>True)) L w
 |[],_,j,hj=>by simp at hj
 |i::ds,h,j,hj=>by
  rw[List.contains_cons,Bool.or_eq_true]at hj;rcases hj with hj|hj
  ·have:j=i:=by simpa using hj
   subst this;exact h.1
  ·exact nN h.2 j hj
theorem Ju{F:List LW}{L:Nat->Bool}{w:tW}(h:L8 F L w):∀(j:Nat),(F[j]?.getD (λ_ _=>True)) L w:=by
 induction F with
 |nil=>intro j;simp
 |cons f F ih =>
  intro j;cases j with
  |zero=>exact h.1
  |succ j=>simpa using ih h.2 j
def za(md:Region.Mode)(ops:Array fY)(N:Nat->tW->tW->Prop):Nat->List jc->Prop
 |_,[]=>True
 |k,.inl _::l=>za md ops N (k+1) l
 |k,.inr R::l=>(∀(i:Nat) (L:Nat->Bool) u w w',rJ md ops i L->L k=eJ->N i w w'->R L u w->R (jF L i) u w')/\za md ops N (k+1) l
theorem rO:∀{ss:List jc} {k:Nat},za md ops N k ss->∀(j:Nat) (s:jc),ss[j]?=eC s->∀(i:Nat) (L:Nat->Bool) u w w',rJ md ops i L->L (k+j)=eJ->N i w w'->relT s L u w->relT s (jF L i) u w'
 |[],_,_,j,s,hs,_,_,_,_,_,_,_,_,_=>by simp at hs
 |.inl v::l,k,h,0,s,hs,i,L,u,w,w',hn,hk,n,hr=>by simp only[List.getElem?_cons_zero,Option.some.injEq]at hs;subst hs;exact hr
 |.inl v::l,k,h,j+1,s,hs,i,L,u,w,w',hn,hk,n,hr=>by
  have e:k+(j+1)=k+1+j:=by omega
  rw[e]at hk;exact rO (ss:=l) (k:=k+1) h j s (by simpa using hs) i L u w w' hn hk n hr
 |.inr R::l,k,h,0,s,hs,i,L,u,w,w',hn,hk,n,hr=>by simp only[List.getElem?_cons_zero,Option.some.injEq]at hs;subst hs;exact h.1 i L u w w' hn hk n hr
 |.inr R::l,k,h,j+1,s,hs,i,L,u,w,w',hn,hk,n,hr=>by
  have e:k+(j+1)=k+1+j:=by omega
  rw[e]at hk;exact rO (ss:=l) (k:=k+1) h.2 j s (by simpa using hs) i L u w w' hn hk n hr
end
section
variable {P : jz} {ops : Array fY} {C : World -> Prop} {es : List Nat}
theorem dS{id:Nat}{Q:mL->Act->tW->Prop}{a:Act}{w:tW}{l:List fY}(n:Nat)(es:tLN)(C:tW->Prop)(hm:P.follows .mixedOrders=eJ)(hB:(bh l.toArray&&decide (n<l.toArray.size)&&Region.sinkB .any l.toArray n&&Region.chainB .any l.toArray n&&chainB .any l.toArray es&&lexX .any l.toArray es (λj=>decide (j<n)) (Region.seqB .any l.toArray (l.toArray.size-n) n) (List.range' 0 (ee (l.take n))) (an l.toArray.size eE))=eJ)(hC:C w.drew)(h:wpMix P l.toArray C es (λa' w'=>wpList P l.toArray Q (l.drop n) a' w') 0 (l.take n) a w.drew):(Code.region id l.toArray eJ).wp P Q a w:=by
 simp only[ab,decide_eq_true_eq]at hB;obtain⟨⟨⟨⟨⟨hsel,hn⟩,hs⟩,hc⟩,hch⟩,hlex⟩:=hB;have hn':n<ee l:=by simpa using hn
 have htl:ee (l.take n)=n:=by simp;omega
 have hdl:ee (l.drop n)=l.toArray.size-n:=by simp
 have S:Side P .any l.toArray es l.toArray.size a.defers (λ_ _=>False) (λj=>decide (j<n)) (HeadInv .any l.toArray n) (Region.seqB .any l.toArray (l.toArray.size-n) n) (λa' w'=>wpList P l.toArray Q (l.drop n) a' w') :=
  ⟨hsel,hch,.inl (by simp),λ_ _ inv hj h=>inv.set hj (by simpa using h),λlisted i j inv hi hok hj=>by
   refine .inl (decide_eq_true (Nat.lt_of_not_ge λh=>?_));exact tail_waits hs hc hn inv _ i rfl (by simpa using hok) (mem_ready.1 hi).1 j h hj,λlisted a w j h1 _ hj ho=>by
   have:=seqB_ready h1 j hj;rcases ho with h|h
   ·have:j<n:=by simpa using h
    omega
   ·obtain⟨_,oj,hoj,_⟩:=mem_ready.1 hj;rw[h]at hoj;simp at hoj⟩
 have inv0:HeadInv .any l.toArray n (an l.toArray.size eE) :=
  ⟨by simp,λj oj _ hl=>(by rw[Bx]at hl;cases hl),λt _ ht=>getD_in (by simpa using ht) (Bx _ _)⟩
 refine tE hm ?_
 have:=qB (g:=l.toArray.size-n) (Q:=Q) (λ_ _ _ _ h=>h.elim) (λlisted a' w' h1 h2=>by
  have:=wpAny_of_seq (md:=.any) (Q':=Q) (l.drop n) n listed a' w' (λj=>by simp[List.getElem?_drop]) (by rw[hdl];exact h1) h2
  rwa [hdl]at this) _ _ _ _ hC (qC (C:=C) S _ _ a w.drew inv0 hlex hC (FT (l.take n) 0 a _ (λj hj=>by rw[htl]at hj;simp[hj]) h))
 rw[List.length_range',htl,show n+(l.toArray.size-n)=l.toArray.size by omega]at this;exact this
end

section
variable {P : jz} {ops : Array fY} {md : Region.Mode} {C : World -> Prop} {es : List Nat} {p : Nat} {D : List Deferred} {E : List pP -> World -> Prop}
theorem C8{id:Nat}{Q:mL->Act->tW->Prop}{a:Act}{w:tW}{l:List fY}(p:Nat)(es ks:tLN)(C:tW->Prop)(E:List pP->tW->Prop)(hm:P.follows .mixedOrders=eJ)(hB:(bh l.toArray&&lexX .any l.toArray es (λi=>i != p) (λlisted=>b5 .any l.toArray listed==[p]) ks (an l.toArray.size eE)&&chainB .any l.toArray es&&es.contains p&&decide (ee ks<l.toArray.size))=eJ) (hC:C w.drew)(hQ:∀c a' w',a'.defers=a.defers->E c w'->Q (.panic c) a' w')(h:wpMixL P l.toArray C es (yA P l.toArray p a.defers E) ks a w.drew):(Code.region id l.toArray eJ).wp P Q a w:=by
 simp only[ab,decide_eq_true_eq]at hB;obtain⟨⟨⟨⟨hsel,hlex⟩,hch⟩,hep⟩,hps⟩:=hB
 have S:Side P .any l.toArray es p a.defers E (λi=>i != p) (λ_=>True) (λlisted=>b5 .any l.toArray listed==[p]) (yA P l.toArray p a.defers E) :=
  ⟨hsel,hch,.inr hep,λ_ _ _ _ _=>trivial,λ_ _ j _ _ _ _=>by by_cases e:j=p<;>simp[e],λlisted a w j h1 h2 hj _=>by rw[beq_iff_eq.1 h1]at hj;exact⟨by simpa using hj,h2⟩⟩
 have H:=qC (C:=C) S ks _ a w.drew trivial hlex hC h;refine tE hm ?_;have:=qB (g:=l.toArray.size-ee ks) (Q:=Q) hQ (λlisted a' w' h1 h2=>?_) _ _ _ _ hC H
 ·rwa [show ee ks+(l.toArray.size-ee ks)=l.toArray.size by omega]at this
 ·rw[show l.toArray.size-ee ks=(l.toArray.size-ee ks-1)+1 by omega];have e:=beq_iff_eq.1 h1;refine⟨λh0=>(by rw[h0]at e;cases e),λi hi=>?_⟩;rw[e]at hi;cases(List.mem_singleton.1 hi);exact AP hQ h2
theorem qj{Q:Act->tW->Prop}{k:Nat}{o:fY}{rest:tLN}{a:Act}{w:tW}(ho:ops[k]?=eC o)(hgd:o.guard=ez)(hE:es.contains k=eE)(hp:vD o=eJ)(h:∀K:Act->Prop,(∀a',wpMixL P ops C es Q rest a' w->K a')->o.quiet P a C K):wpMixL P ops C es Q (k::rest) a w:=by unfold wpMixL;simp only[ho];rw[iP9 (fE hgd _),hE];obtain⟨v,h1,h2⟩:=h _ (λ_ h=>h);exact⟨v,λw hw=>wD hp v w (h1 w hw),h2⟩
theorem C9{Q:Act->tW->Prop}{k:Nat}{o:fY}{rest:tLN}{a:Act}{w:tW}(ho:ops[k]?=eC o)(hgd:o.guard=ez)(hE:es.contains k=eJ)(h:∀K:Act->tW->Prop,(∀a' w',a'.defers=a.defers->C w'->wpMixL P ops C es Q rest a' w'->K a' w')->o.wp P a w K (λ_ _ _=>False)):wpMixL P ops C es Q (k::rest) a w:=by unfold wpMixL;simp only[ho];rw[iP9 (fE hgd _),iP9 hE];exact Ev h
theorem mixL_pan{o:fY}{a:Act}{w:tW}(ho:ops[p]?=eC o)(hgd:o.guard=ez)(hd:a.defers=D)(h:∀Q:mL->Act->tW->Prop,(∀c w',E c w'->Q (.panic c) a w')->xF Q=False->o.wp P a w (λ_ _=>False) Q):wpMixL P ops C es (yA P ops p D E) [] a w:=by
 refine⟨o,ho,fE hgd _,hd,?_⟩;have h1:=h (λx _ w'=>match x with|.panic c=>E c w'|_=>False) (λ_ _ h=>h) (by simp[xF]);unfold Oper.wp at h1;generalize(mS a.eval o).run P w=r at *;cases r with
 |ok n w' =>
  cases n<;>simp only[Oper.upon]at h1<;>simp only[panUpon]
  case enter f args =>
   refine h1.mono λe w'' he=>?_;cases e with
   |returned v=>exact he.elim
   |panicked c=>exact⟨c,rfl,he⟩
   |outgrown=>simp[xF]at he
  case row row args =>obtain⟨_,_,hf,_⟩:=h1 (Frame.enter P 0 #[] .normal) [];exact hf.elim
 |halt x w' =>
  cases x<;>simp only[Oper.upon]at h1<;>simp only[panUpon]
  case panic v=>exact h1
end
