import Derived.Test.YtmajaohgiilelaaGreatDoorC05
namespace Go.Proofs.YtmajaohgiilelaaGreatDoor
open Go.RowKit
open _root_.Array renaming replicate->cd,setIfInBounds_comm->ch
open Bool renaming and_eq_true->ar,false_eq_true->b9
open List renaming length_cons->bh,append_nil->cr,contains_cons->cy,all_eq_true->cH
open Nat renaming lt_or_ge->ba,not_lt_zero->ca,zero_add->cc
open Option renaming map_some->cI
open Region renaming wanted->an,ready->ao,noSelect_spec->bj,binds->bt,noSelect->cb,free_spec->cj,lexHead->cw,chainB->cx,sinkB->cD,seqB->cG,lexTailB->cJ
set_option linter.all false

section
variable {P : Program} {ops : Array Oper} {C : World -> Prop} {es : List Nat}
theorem eU{Q:Act->tW->Prop}{k:Nat}{o:Oper}{rest:List Oper}{a:Act}{w:tW}(hw:an o (yielded ops a.tmps)=true)(hE:es.contains k=false)(hp:yR o=true)(h:∀K:Act->Prop,(∀a',ahN P ops C es Q (k+1) rest a' w->K a')->o.quiet P a C K):ahN P ops C es Q k (o::rest) a w:=by unfold ahN;rw[iP9 hw,hE];obtain⟨v,h1,h2⟩:=h _ (λ_ h=>h);exact⟨v,λw hw=>xu hp v w (h1 w hw),h2⟩
theorem uW{Q:Act->tW->Prop}{k:Nat}{o:Oper}{rest:List Oper}{a:Act}{w:tW}(hw:an o (yielded ops a.tmps)=false)(h:ahN P ops C es Q (k+1) rest (a.put o.dst undef) w):ahN P ops C es Q k (o::rest) a w:=by unfold ahN;rw[hw];exact h
theorem jU{Q:Act->tW->Prop}{k:Nat}{o:Oper}{rest:List Oper}{a:Act}{w:tW}(hw:an o (yielded ops a.tmps)=true)(hE:es.contains k=false)(x:Operand)(ad:Addr)(ho:o.op=.nilCheck x)(hx:a.eval x=.pointer (some ad))(h:ahN P ops C es Q (k+1) rest (a.put o.dst (.pointer (some ad))) w):ahN P ops C es Q k (o::rest) a w:=by unfold ahN;rw[iP9 hw,hE];refine⟨_,λw _=>?_,h⟩;unfold fO;simp only[execOp,ho,hx];exact⟨rfl,rfl⟩
theorem jV{Q:Act->tW->Prop}{k:Nat}{o:Oper}{rest:List Oper}{a:Act}{w:tW}(hgd:o.guard=none)(hE:es.contains k=false)(c x y:Operand)(bv:Bool)(ho:o.op=.pick c x y)(hx:a.eval c=.bool bv)(h:ahN P ops C es Q (k+1) rest (a.put o.dst (if bv then a.eval x else a.eval y)) w):ahN P ops C es Q k (o::rest) a w:=by unfold ahN;rw[iP9 (fC hgd _),hE];refine⟨_,λw _=>?_,h⟩;unfold fO;simp only[execOp,ho,hx];exact⟨rfl,rfl⟩
theorem Du{Q:Act->tW->Prop}{k:Nat}{o:Oper}{rest:List Oper}{a:Act}{w:tW}(hw:an o (yielded ops a.tmps)=true)(hE:es.contains k=true)(h:∀K:Act->tW->Prop,(∀a' w',a'.defers=a.defers->C w'->ahN P ops C es Q (k+1) rest a' w'->K a' w')->o.wp P a w K (λ_ _ _=>False)):ahN P ops C es Q k (o::rest) a w:=by
 unfold ahN;rw[iP9 hw,iP9 hE];have h1:=h (λa' w'=>a'.defers=a.defers/\C w'/\ahN P ops C es Q (k+1) rest a' w') (λa' w' h1 h2 h3=>⟨h1,h2,h3⟩);unfold Oper.wp at h1;unfold kJ;generalize(execOp a.eval o).run P w=r at *;cases r with
 |ok n w' =>
  cases n<;>simp only[Oper.upon]at h1<;>simp only[ahU]
  case value u=>exact h1.2
  case skip=>exact h1.2
  case defer d =>
   have h2:=h1.1;have h3:(({a with defers:=d::a.defers}:Act).put o.dst undef).defers=d::a.defers:=by unfold Act.put;split<;>rfl
   rw[h3]at h2;have:=congrArg List.length h2;simp at this
  case enter f args =>
   refine h1.mono λe w'' he=>?_;cases e with
   |returned v=>exact⟨v,rfl,he.2⟩
   |panicked c=>exact he.elim
   |outgrown=>obtain⟨_,_,hf⟩:=he;exact hf.elim
  case row row args=>exact h1.mono λv w'' he=>he.2
 |halt x w'=>cases x<;>simp only[Oper.upon]at h1
end
abbrev kD:=Value ⊕ (Value->tW->Prop)
section
variable {P : Program} {ops : Array Oper} {md : Region.Mode} {C : World -> Prop} {N : World -> World -> Prop}
def dn(md:Region.Mode)(o:Oper):List Nat:=(o.after.toList.filter (λe=>bt md e)).map (·.on)
def tJ(F:List (tW->Prop)):List Nat->tW->Prop
 |[],_=>True
 |j::ds,w=>(F[j]?.getD (λ_=>True)) w/\tJ F ds w
def SC:List (tW->Prop)->tW->Prop
 |[],_=>True
 |f::l,w=>f w/\SC l w
def mZ(P:Program)(ops:Array Oper)(N:tW->tW->Prop)(R:Value->tW->Prop)(o:Oper)(a:Act)(w:tW):Prop :=
 if an o (yielded ops a.tmps)=true then(∀K:Act->tW->Prop,(∀a' w' v,a'=a.put o.dst v->N w w'->R v w'->K a' w')->o.wp P a w K (λ_ _ _=>False))else R undef w
def aiy:kD->Value->tW->Prop
 |.inl v=>λu _=>u=v
 |.inr R=>R
def ur(P:Program)(ops:Array Oper)(md:Region.Mode)(C:tW->Prop)(N:tW->tW->Prop)(Q:Act->tW->Prop):List kD->List Oper->Act->List (tW->Prop)->Prop
 |_,[],a,F=>∀w:tW,C w->SC F w->Q a w
 |[],_::_,_,_=>False
 |.inl v::ss,o::rest,a,F=>(∀w:tW,C w->tJ F (dn md o) w->mZ P ops N (λ(u:Value) (_:tW)=>u=v) o a w)/\ur P ops md C N Q ss rest (a.put o.dst v) (F++[λ(_:tW)=>True])
 |.inr R::ss,o::rest,a,F=>(∀w:tW,C w->tJ F (dn md o) w->mZ P ops N R o a w)/\∀x,ur P ops md C N Q ss rest (a.put o.dst x) (F++[R x])
theorem qR(a:Act)(d:Option Tmp)(v:Value)(t:Nat)(h:d≠some t):(a.put d v).tmps[t]?=a.tmps[t]?:=by
 unfold Act.put;split
 ·rename_i d'
  have:d'≠t:=λe=>h (by rw[e]);simp[this]
 ·rfl
theorem qU(a:Act)(d:Option Tmp)(v:Value):(a.put d v).tmps.size=a.tmps.size:=by unfold Act.put;split<;>simp
theorem put_defers(a:Act)(d:Option Tmp)(v:Value):(a.put d v).defers=a.defers:=by unfold Act.put;split<;>rfl
theorem mO(a:Act)(t:Nat)(v:Value)(h:t<a.tmps.size):(a.put (some t) v).tmps[t]?=some v:=by unfold Act.put;simp[h]
def aiz(md:Region.Mode)(l:List Oper)(n:Nat):Bool :=
 (List.range l.length).all λi=>match l[i]? with
  |none=>true
  |some o=>(dn md o).all (λj=>decide (j<i))&&(match o.dst with|none=>true|some d=>decide (d<n)) &&
   (List.range l.length).all λj=>match l[j]? with
    |none=>true
    |some o'=>(j==i)||((match o.dst with|none=>true|some d=>!(o'.dst==some d)) &&
      (match o'.dst with|none=>true|some t=>!((o.looksAt l.toArray).contains t)||(if j<i then(dn md o).contains j else(dn md o').contains i)))
structure Jp(md:Region.Mode)(l:List Oper)(n:Nat):Prop where
 low:∀(i:Nat) (o:Oper),l[i]?=some o->∀j∈dn md o,j<i
 dst:∀(i:Nat) (o:Oper) (d:Tmp),l[i]?=some o->o.dst=some d->d<n
 one:∀(i:Nat) (o:Oper) (j:Nat) (o':Oper) (d:Tmp),l[i]?=some o->l[j]?=some o'->o.dst=some d->o'.dst=some d->j=i
 rd:∀(i:Nat) (o:Oper) (j:Nat) (o':Oper) (t:Tmp),l[i]?=some o->l[j]?=some o'->j≠i->o'.dst=some t->t∈o.looksAt l.toArray->(j<i->j∈dn md o)/\(i<j->i∈dn md o')
theorem La{l:List Oper}{n:Nat}(h:aiz md l n=true):Jp md l n:=by
 unfold aiz at h;rw[cH]at h
 have key:∀(i:Nat) (o:Oper),l[i]?=some o->(((dn md o).all (λj=>decide (j<i))&&(match o.dst with|none=>true|some d=>decide (d<n))) &&
   (List.range l.length).all λj=>match l[j]? with
    |none=>true
    |some o'=>(j==i)||((match o.dst with|none=>true|some d=>!(o'.dst==some d)) &&
      (match o'.dst with|none=>true|some t=>!((o.looksAt l.toArray).contains t)||(if j<i then(dn md o).contains j else(dn md o').contains i))))=true:=by
  intro i o hi;have h1:=h i (List.mem_range.2 (List.getElem?_eq_some_iff.1 hi).1)
  simpa only[hi]using h1
 have k2:∀(i:Nat) (o:Oper) (j:Nat) (o':Oper),l[i]?=some o->l[j]?=some o'->j≠i->((match o.dst with|none=>true|some d=>!(o'.dst==some d)) &&
      (match o'.dst with|none=>true|some t=>!((o.looksAt l.toArray).contains t)||(if j<i then(dn md o).contains j else(dn md o').contains i)))=true:=by
  intro i o j o' hi hj hne;have h1:=key i o hi;rw[ar]at h1;have h2:=List.all_eq_true.1 h1.2 j (List.mem_range.2 (List.getElem?_eq_some_iff.1 hj).1);simp only[hj]at h2;have:(j==i)=false:=by simp[hne]
  rw[this,Bool.false_or]at h2;exact h2
 refine⟨?_,?_,?_,?_⟩
 ·intro i o hi j hj;have h1:=key i o hi;simp only[ar]at h1
  simpa using List.all_eq_true.1 h1.1.1 j hj
 ·intro i o d hi hd;have h1:=key i o hi;simp only[ar,hd]at h1
  simpa using h1.1.2
 ·intro i o j o' d hi hj hd hd';by_cases hne:j=i
  ·exact hne
  ·have h1:=k2 i o j o' hi hj hne;rw[ar]at h1;have h2:=h1.1;rw[hd,hd']at h2;simp at h2
 ·intro i o j o' t hi hj hne hd ht;have h1:=k2 i o j o' hi hj hne;rw[ar]at h1;have h2:=h1.2;have hc:(o.looksAt l.toArray).contains t=true:=by simpa using ht
  simp only[hd,hc,Bool.not_true,Bool.false_or]at h2;constructor
  ·intro hlt;rw[iP9 hlt]at h2
   simpa using h2
  ·intro hlt;rw[iN9 (by omega)]at h2
   simpa using h2
def aii(f:Nat->Bool):Nat->Nat
 |0=>0
 |n+1=>aii f n+(if f n then 0 else 1)
theorem DT(f:Nat->Bool):∀n,aii f n=0->∀j,j<n->f j=true
 |0,_,j,hj=>absurd hj (ca _)
 |n+1,h,j,hj=>by
  simp only[aii]at h;by_cases e:j=n
  ·subst e;cases hf:f j with
   |true=>rfl
   |false=>simp[hf]at h
  ·exact DT f n (by omega) j (by omega)
theorem zM(f g:Nat->Bool):∀n,(∀j,j<n->f j=g j)->aii f n=aii g n
 |0,_=>rfl
 |n+1,h=>by simp only[aii];rw[zM f g n (λj hj=>h j (by omega)),h n (by omega)]
theorem DU(f g:Nat->Bool)(i:Nat)(hf:f i=false)(hg:g i=true)(he:∀j,j≠i->g j=f j):∀n,i<n->aii f n=aii g n+1
 |0,h=>absurd h (ca _)
 |n+1,h=>by
  simp only[aii];by_cases e:i=n
  ·subst e;rw[zM g f i (λj hj=>he j (by omega)),hf,hg];simp
  ·rw[DU f g i hf hg he n (by omega),he n (by omega)];omega
theorem Qv(n:Nat):aii (λ_=>false) n=n:=by
 induction n with
 |zero=>rfl
 |succ n ih=>simp only[aii,ih];rfl
theorem BR{R:Value->tW->Prop}{o:Oper}{a:Act}{w:tW}(h:∀K:Act->tW->Prop,(∀a' w' v,a'=a.put o.dst v->N w w'->R v w'->K a' w')->o.wp P a w K (λ_ _ _=>False)):kJ P o a w (λu w'=>∃v,a.put o.dst u=a.put o.dst v/\N w w'/\R v w'):=by
 have h1:=h (λa' w'=>∃v,a'=a.put o.dst v/\N w w'/\R v w') (λa' w' v h1 h2 h3=>⟨v,h1,h2,h3⟩);unfold Oper.wp at h1;unfold kJ;generalize(execOp a.eval o).run P w=r at *;cases r with
 |ok n w' =>
  cases n<;>simp only[Oper.upon]at h1<;>simp only[ahU]
  case value u=>exact h1
  case skip=>exact h1
  case defer d =>obtain⟨v,h2,_⟩:=h1;have h3:=congrArg Act.defers h2;rw[put_defers,put_defers]at h3;have:=congrArg List.length h3;simp at this
  case enter f args =>
   refine h1.mono λe w'' he=>?_;cases e with
   |returned v=>exact⟨v,rfl,he⟩
   |panicked c=>exact he.elim
   |outgrown=>obtain⟨_,_,hf⟩:=he;exact hf.elim
  case row row args=>exact h1
 |halt x w'=>cases x<;>simp only[Oper.upon]at h1
theorem GL{o:Oper}{a:Act}{w:tW}{K:Act->tW->Prop}{Q:Exit->Act->tW->Prop}(h:kJ P o a w (λv w'=>K (a.put o.dst v) w')):o.wp P a w K Q:=by
 unfold kJ at h;unfold Oper.wp;generalize(execOp a.eval o).run P w=r at *;cases r with
 |ok n w' =>
  cases n<;>simp only[ahU]at h<;>simp only[Oper.upon]
  case value u=>exact h
  case skip=>exact h
  case enter f args=>exact h.mono λe w'' ⟨v,he,hk⟩=>by subst he;exact hk
  case row row args=>exact h
 |halt x w'=>simp only[ahU]at h
theorem GM{a a':Act}{o:Oper}{ops:Array Oper}(h:∀t∈o.looksAt ops,a.tmps[t]?=a'.tmps[t]?):∀x∈o.op.operands,a.eval x=a'.eval x:=by
 intro x hx;cases x with
 |tmp t =>have ht:t∈o.looksAt ops:=List.mem_append_left _ (List.mem_filterMap.2 ⟨.tmp t,by simpa using hx,rfl⟩);have:=h t ht;simp only[Act.eval,Array.getD_eq_getD_getElem?,this]
 |_=>rfl
theorem BU{a a':Act}{o:Oper}{ops:Array Oper}(h:∀t∈o.looksAt ops,a.tmps[t]?=a'.tmps[t]?):an o (yielded ops a.tmps)=an o (yielded ops a'.tmps):=by
 unfold an;cases hg:o.guard with
 |none=>rfl
 |some g =>
  obtain⟨j,want⟩:=g;simp only;unfold yielded;cases hd:(ops[j]?).bind (·.dst)with
  |none=>rfl
  |some d =>have ht:d∈o.looksAt ops:=List.mem_append_right _ (by simp[hg,hd]);simp only[Option.bind_some,h d ht]
theorem gK{listed:Array Bool}{i:Nat}(h:i<listed.size)(d:Bool):(listed.setIfInBounds i true).getD i d=true:=by simp[h]
theorem qV{listed:Array Bool}{i:Nat}(h:i<listed.size)(d d':Bool):listed.getD i d=listed.getD i d':=by simp[h]
theorem aM{Q:Act->tW->Prop}{ss:List kD}{o:Oper}{rest:List Oper}{a:Act}{F:List (tW->Prop)}{v:Value}(hgd:o.guard=none)(h:∀w,C w->tJ F (dn md o) w->∀K:Act->tW->Prop,(∀a' w' v',a'=a.put o.dst v'->N w w'->v'=v->K a' w')->o.wp P a w K (λ_ _ _=>False))(hr:ur P ops md C N Q ss rest (a.put o.dst v) (F++[λ(_:tW)=>True])):ur P ops md C N Q (.inl v::ss) (o::rest) a F :=
 ⟨λw hC hk=>by unfold mZ;rw[iP9 (fC hgd _)];exact h w hC hk,hr⟩
theorem CT{Q:Act->tW->Prop}{ss:List kD}{o:Oper}{rest:List Oper}{a:Act}{F:List (tW->Prop)}{R:Value->tW->Prop}(hgd:o.guard=none)(h:∀w,C w->tJ F (dn md o) w->∀K:Act->tW->Prop,(∀a' w' v',a'=a.put o.dst v'->N w w'->R v' w'->K a' w')->o.wp P a w K (λ_ _ _=>False))(hr:∀x,ur P ops md C N Q ss rest (a.put o.dst x) (F++[R x])):ur P ops md C N Q (.inr R::ss) (o::rest) a F :=
 ⟨λw hC hk=>by unfold mZ;rw[iP9 (fC hgd _)];exact h w hC hk,hr⟩
theorem CU{Q:Act->tW->Prop}{ss:List kD}{a:Act}{F:List (tW->Prop)}(h:∀w:tW,C w->SC F w->Q a w):ur P ops md C N Q ss [] a F:=by
 cases ss with
 |nil=>exact h
 |cons s ss=>cases s<;>exact h
def tM(N:tW->tW->Prop):List kD->Prop
 |[]=>True
 |.inl _::l=>tM N l
 |.inr R::l=>(∀u w w',N w w'->R u w->R u w')/\tM N l
theorem oz:∀{ss:List kD},tM N ss->∀s∈ss,∀u w w',N w w'->aiy s u w->aiy s u w'
 |[],_,s,hs,_,_,_,_,_=>by cases hs
 |.inl v::l,h,s,hs,u,w,w',n,hr=>by
  rcases List.mem_cons.1 hs with rfl|hs
  ·exact hr
  ·exact oz (ss:=l) h s hs u w w' n hr
 |.inr R::l,h,s,hs,u,w,w',n,hr=>by
  rcases List.mem_cons.1 hs with rfl|hs
  ·exact h.1 u w w' n hr
  ·exact oz (ss:=l) h.2 s hs u w w' n hr
theorem qW{F:List (tW->Prop)}{w:tW}:∀{ds:List Nat},tJ F ds w->∀j,ds.contains j=true->(F[j]?.getD (λ_=>True)) w
 |[],_,j,hj=>by simp at hj
 |i::ds,h,j,hj=>by
  rw[cy,Bool.or_eq_true]at hj;rcases hj with hj|hj
  ·have:j=i:=by simpa using hj
   subst this;exact h.1
  ·exact qW h.2 j hj
end
abbrev LW:=(Nat->Bool)->tW->Prop
abbrev jt:=Value ⊕ ((Nat->Bool)->Value->tW->Prop)
section
variable {P : Program} {ops : Array Oper} {md : Region.Mode} {C : LW} {N : Nat -> World -> World -> Prop}
def lX(L:Nat->Bool)(i:Nat):Nat->Bool:=λj=>if j=i then true else L j
def tN(F:List LW):List Nat->LW
 |[],_,_=>True
 |j::ds,L,w=>(F[j]?.getD (λ_ _=>True)) L w/\tN F ds L w
def NH:List LW->LW
 |[],_,_=>True
 |f::l,L,w=>f L w/\NH l L w
def aij:jt->(Nat->Bool)->Value->tW->Prop
 |.inl v=>λ_ u _=>u=v
 |.inr R=>R
def aam(x:Value):jt->Value
 |.inl v=>v
 |.inr _=>x
def zO(x:Value):jt->LW
 |.inl _=>λ_ _=>True
 |.inr R=>λL w=>R L x w
def tO(md:Region.Mode)(ops:Array Oper)(k:Nat)(L:Nat->Bool):Prop:=L k=false/\∀(j:Nat) (o:Oper),ops[j]?=some o->(dn md o).contains k=true->L j=false
def uw(P:Program)(ops:Array Oper)(md:Region.Mode)(C:LW)(N:Nat->tW->tW->Prop)(Q:Act->tW->Prop):Nat->List jt->List Oper->Act->List LW->Prop
 |_,_,[],a,F=>∀(L:Nat->Bool) (w:tW),(∀j,j<ops.size->L j=true)->C L w->NH F L w->Q a w
 |_,[],_::_,_,_=>False
 |k,.inl v::ss,o::rest,a,F=>(∀(L:Nat->Bool) (w:tW),tO md ops k L->C L w->tN F (dn md o) L w->mZ P ops (N k) (λ(u:Value) (_:tW)=>u=v) o a w)/\uw P ops md C N Q (k+1) ss rest (a.put o.dst v) (F++[λ(_:Nat->Bool) (_:tW)=>True])
 |k,.inr R::ss,o::rest,a,F=>(∀(L:Nat->Bool) (w:tW),tO md ops k L->C L w->tN F (dn md o) L w->mZ P ops (N k) (R (lX L k)) o a w)/\∀x,uw P ops md C N Q (k+1) ss rest (a.put o.dst x) (F++[λL w=>R L x w])
def ahX(x:Nat->Value):Nat->List jt->Nat->List LW
 |_,_,0=>[]
 |_,[],_+1=>[]
 |k,s::ss,i+1=>zO (x k) s::ahX x (k+1) ss i
def ah0(x:Nat->Value):Nat->List jt->List Oper->Nat->Act->Act
 |_,_,_,0,a=>a
 |_,[],_,_+1,a=>a
 |_,_,[],_+1,a=>a
 |k,s::ss,o::l,i+1,a=>ah0 x (k+1) ss l i (a.put o.dst (aam (x k) s))
theorem AZ{Q:Act->tW->Prop}:∀{l:List Oper} {k:Nat} {ss:List jt} {a:Act} {F:List LW},uw P ops md C N Q k ss l a F->l.length<=ss.length
 |[],_,_,_,_,_=>Nat.zero_le _
 |_::_,_,[],_,_,h=>h.elim
 |_::_,_,.inl _::_,_,_,h=>Nat.succ_le_succ (AZ h.2)
 |_::_,_,.inr _::_,_,_,h=>Nat.succ_le_succ (AZ (h.2 undef))
theorem DW{Q:Act->tW->Prop}(x:Nat->Value):∀{l:List Oper} {ss:List jt} {a:Act} {F:List LW} (k:Nat),uw P ops md C N Q k ss l a F -> ∀(i:Nat) (o:Oper) (s:jt),l[i]?=some o->ss[i]?=some s->∀(L:Nat->Bool) (w:tW),tO md ops (k+i) L->C L w->tN (F++ahX x k ss i) (dn md o) L w->mZ P ops (N (k+i)) (λu w=>aij s (lX L (k+i)) u w) o (ah0 x k ss l i a) w
 |[],_,_,_,_,_,i,_,_,ho,_,_,_,_,_,_=>by simp at ho
 |_::_,[],_,_,_,h,_,_,_,_,_,_,_,_,_,_=>h.elim
 |o0::l,.inl v::ss,a,F,k,h,i,o,s,ho,hs,L,w,hn,hC,hk=>by
  cases i with
  |zero =>simp only[List.getElem?_cons_zero,Option.some.injEq]at ho hs;subst ho hs;simp only[ahX,cr]at hk;simp only[ah0];exact h.1 L w hn hC hk
  |succ i =>
   simp only[List.getElem?_cons_succ]at ho hs;simp only[ah0];have e:k+(i+1)=k+1+i:=by omega
   rw[e]at hn ⊢;refine DW x (k+1) h.2 i o s ho hs L w hn hC ?_
   simpa [ahX,zO]using hk
 |o0::l,.inr R::ss,a,F,k,h,i,o,s,ho,hs,L,w,hn,hC,hk=>by
  cases i with
  |zero =>simp only[List.getElem?_cons_zero,Option.some.injEq]at ho hs;subst ho hs;simp only[ahX,cr]at hk;simp only[ah0];exact h.1 L w hn hC hk
  |succ i =>
   simp only[List.getElem?_cons_succ]at ho hs;simp only[ah0];have e:k+(i+1)=k+1+i:=by omega
   rw[e]at hn ⊢;refine DW x (k+1) (h.2 (x k)) i o s ho hs L w hn hC ?_
   simpa [ahX,zO]using hk
theorem A7{Q:Act->tW->Prop}(x:Nat->Value):∀{l:List Oper} {ss:List jt} {a:Act} {F:List LW} (k:Nat),uw P ops md C N Q k ss l a F -> ∀(L:Nat->Bool) (w:tW),(∀j,j<ops.size->L j=true)->C L w->NH (F++ahX x k ss l.length) L w->Q (ah0 x k ss l l.length a) w
 |[],ss,a,F,k,h,L,w,hL,hC,hk=>by
  have h':∀(L:Nat->Bool) (w:tW),(∀j,j<ops.size->L j=true)->C L w->NH F L w->Q a w:=by
   cases ss with
   |nil=>exact h
   |cons s ss=>cases s<;>exact h
  simp only[List.length_nil,ahX,cr]at hk
  simpa [ah0]using h' L w hL hC hk
 |_::_,[],_,_,_,h,_,_,_,_,_=>h.elim
 |o0::l,.inl v::ss,a,F,k,h,L,w,hL,hC,hk=>by
  simp only[bh,ah0];refine A7 x (k+1) h.2 L w hL hC ?_
  simpa [ahX,zO]using hk
 |o0::l,.inr R::ss,a,F,k,h,L,w,hL,hC,hk=>by
  simp only[bh,ah0];refine A7 x (k+1) (h.2 (x k)) L w hL hC ?_
  simpa [ahX,zO]using hk
theorem A8(x:Nat->Value):∀(ss:List jt) (k i j:Nat),(ahX x k ss i)[j]?=if j<i then(ss[j]?).map (zO (x (k+j)))else none
 |[],k,0,j=>by simp[ahX]
 |[],k,i+1,j=>by simp[ahX]
 |s::ss,k,0,j=>by simp[ahX]
 |s::ss,k,i+1,0=>by simp[ahX]
 |s::ss,k,i+1,j+1=>by
  rw[ahX,List.getElem?_cons_succ,A8 x ss (k+1) i j];have:k+1+j=k+(j+1):=by omega
  simp[this]
theorem GN(F:List LW)(L:Nat->Bool)(w:tW):∀(ds:List Nat),(∀j∈ds,∀f:LW,F[j]?=some f->f L w)->tN F ds L w
 |[],_=>trivial
 |j::ds,h=>⟨by
   cases hf:F[j]? with
   |none=>trivial
   |some f=>exact h j (by simp) f hf,GN F L w ds (λi hi=>h i (List.mem_cons_of_mem _ hi))⟩
theorem Qw(L:Nat->Bool)(w:tW):∀(F:List LW),(∀(j:Nat) (f:LW),F[j]?=some f->f L w)->NH F L w
 |[],_=>trivial
 |f::F,h=>⟨h 0 f (by simp),Qw L w F (λj g hg=>h (j+1) g (by simpa using hg))⟩
theorem A9(x:Nat->Value):∀(i:Nat) (l:List Oper) (ss:List jt) (k:Nat) (a:Act),(ah0 x k ss l i a).tmps.size=a.tmps.size
 |0,_,_,_,_=>by simp[ah0]
 |i+1,_,[],_,_=>by simp[ah0]
 |i+1,[],_::_,_,_=>by simp[ah0]
 |i+1,o::l,s::ss,k,a=>by rw[ah0,A9 x i l ss,qU]
theorem BV(x:Nat->Value):∀(i:Nat) (l:List Oper) (ss:List jt) (k:Nat) (a:Act),(ah0 x k ss l i a).defers=a.defers
 |0,_,_,_,_=>by simp[ah0]
 |i+1,_,[],_,_=>by simp[ah0]
 |i+1,[],_::_,_,_=>by simp[ah0]
 |i+1,o::l,s::ss,k,a=>by rw[ah0,BV x i l ss,put_defers]
theorem tQ(x:Nat->Value)(t:Nat):∀(i:Nat) (l:List Oper) (ss:List jt) (k:Nat) (a:Act),(∀(j:Nat) (o:Oper),j<i->l[j]?=some o->o.dst≠some t)->(ah0 x k ss l i a).tmps[t]?=a.tmps[t]?
 |0,_,_,_,_,_=>by simp[ah0]
 |i+1,_,[],_,_,_=>by simp[ah0]
 |i+1,[],_::_,_,_,_=>by simp[ah0]
 |i+1,o::l,s::ss,k,a,h=>by rw[ah0,tQ x t i l ss _ _ (λj o' hj ho=>h (j+1) o' (by omega) (by simpa using ho)),qR _ _ _ _ (h 0 o (by omega) rfl)]
theorem Jq(x:Nat->Value)(t:Nat):∀(i:Nat) (l:List Oper) (ss:List jt) (k:Nat) (a:Act) (j:Nat) (o:Oper) (s:jt),j<i->l[j]?=some o->ss[j]?=some s->o.dst=some t -> (∀(j':Nat) (o':Oper),j'<i->j'≠j->l[j']?=some o'->o'.dst≠some t)->t<a.tmps.size->(ah0 x k ss l i a).tmps[t]?=some (aam (x (k+j)) s)
 |0,_,_,_,_,j,_,_,hj,_,_,_,_,_=>absurd hj (ca _)
 |i+1,_,[],_,_,j,_,_,_,_,hs,_,_,_=>by simp at hs
 |i+1,[],_::_,_,_,j,_,_,_,ho,_,_,_,_=>by simp at ho
 |i+1,o0::l,s0::ss,k,a,0,o,s,_,ho,hs,hd,hx,ht=>by simp only[List.getElem?_cons_zero,Option.some.injEq]at ho hs;subst ho hs;rw[ah0,tQ x t i l ss _ _ (λj o' hj ho=>hx (j+1) o' (by omega) (by omega) (by simpa using ho)),hd,mO _ _ _ ht];rfl
 |i+1,o0::l,s0::ss,k,a,j+1,o,s,hj,ho,hs,hd,hx,ht=>by
  simp only[List.getElem?_cons_succ]at ho hs;rw[ah0,Jq x t i l ss (k+1) _ j o s (by omega) ho hs hd (λj' o' h1 h2 h3=>hx (j'+1) o' (by omega) (by omega) (by simpa using h3)) (by rw[qU];exact ht)];have:k+1+j=k+(j+1):=by omega
  rw[this]
def JW(listed:Array Bool):Nat->Bool:=λj=>listed.getD j false
structure Jr(md:Region.Mode)(C:LW)(ss:List jt)(l:List Oper)(a0:Act)(listed:Array Bool)(a:Act)(w:tW)(x:Nat->Value):Prop where
 c:C (JW listed) w
 sz:a.tmps.size=a0.tmps.size
 df:a.defers=a0.defers
 ls:listed.size=l.length
 val:∀(j:Nat) (o:Oper) (d:Tmp) (s:jt),listed.getD j false=true->l[j]?=some o->ss[j]?=some s->o.dst=some d->a.tmps[d]?=some (aam (x j) s)
 fact:∀(j:Nat) (s:jt),listed.getD j false=true->ss[j]?=some s->zO (x j) s (JW listed) w
 old:∀d:Tmp,(∀(j:Nat) (o:Oper),listed.getD j false=true->l[j]?=some o->o.dst≠some d)->a.tmps[d]?=a0.tmps[d]?
 shut:∀(j:Nat) (o:Oper),listed.getD j false=true->l[j]?=some o->∀i∈dn md o,listed.getD i false=true
theorem Jr.eq{ss:List jt}{l:List Oper}{a0 a:Act}{listed:Array Bool}{w:tW}{x:Nat->Value}(h:Jr md C ss l a0 listed a w x)(hB:Jp md l a0.tmps.size)(hls:l.length<=ss.length)(hall:∀j,j<l.length->listed.getD j false=true):a=ah0 x 0 ss l l.length a0:=by
 have ht:a.tmps=(ah0 x 0 ss l l.length a0).tmps:=by
  apply Array.ext_getElem?;intro t;by_cases hd:∃(j:Nat) (o:Oper),l[j]?=some o/\o.dst=some t
  ·obtain⟨j,o,hj,tL⟩:=hd;have hjl:j<l.length:=(List.getElem?_eq_some_iff.1 hj).1;obtain⟨s,hs⟩:∃s,ss[j]?=some s:=⟨ss[j]'(by omega),List.getElem?_eq_getElem _⟩
   rw[h.val j o t s (hall j hjl) hj hs tL,Jq x t l.length l ss 0 a0 j o s hjl hj hs tL (λj' o' _ hne ho' hd'=>hne (hB.one j o j' o' t hj ho' tL hd')) (hB.dst j o t hj tL)];simp
  ·rw[h.old t (λj o _ hj tL=>hd ⟨j,o,hj,tL⟩),tQ x t l.length l ss 0 a0 (λj o _ hj tL=>hd ⟨j,o,hj,tL⟩)]
 have hdf:a.defers=(ah0 x 0 ss l l.length a0).defers:=by rw[h.df,BV]
 cases a;generalize ah0 x 0 ss l l.length a0=b at *;cases b;simp only at ht hdf;rw[ht,hdf]
theorem Jr.same{ss:List jt}{l:List Oper}{a0 a:Act}{listed:Array Bool}{w:tW}{x:Nat->Value}(h:Jr md C ss l a0 listed a w x)(hB:Jp md l a0.tmps.size)(hls:l.length<=ss.length){i:Nat} {o:Oper} (hi:l[i]?=some o) (hu:listed.getD i false=false) (hr:∀j∈dn md o,listed.getD j false=true):∀t∈o.looksAt l.toArray,a.tmps[t]?=(ah0 x 0 ss l i a0).tmps[t]?:=by
 intro t ht;by_cases hd:∃(j:Nat) (o':Oper),j<i/\l[j]?=some o'/\o'.dst=some t
 ·obtain⟨j,o',hji,hj,tL⟩:=hd;have hjl:j<l.length:=(List.getElem?_eq_some_iff.1 hj).1;obtain⟨s,hs⟩:∃s,ss[j]?=some s:=⟨ss[j]'(by omega),List.getElem?_eq_getElem _⟩
  have NG:=(hB.rd i o j o' t hi hj (by omega) tL ht).1 hji;rw[h.val j o' t s (hr j NG) hj hs tL,Jq x t i l ss 0 a0 j o' s hji hj hs tL (λj' o'' _ hne ho' hd'=>hne (hB.one j o' j' o'' t hj ho' tL hd')) (hB.dst j o' t hj tL)];simp
 ·rw[tQ x t i l ss 0 a0 (λj o' hji hj tL=>hd ⟨j,o',hji,hj,tL⟩)];refine h.old t (λj o' hl hj tL=>?_);rcases Nat.lt_trichotomy j i with hji|hji|hji
  ·exact hd ⟨j,o',hji,hj,tL⟩
  ·subst hji;rw[hu]at hl;cases hl
  ·have NG:=(hB.rd i o j o' t hi hj (by omega) tL ht).2 hji;have:=h.shut j o' hl hj i NG;rw[hu]at this;cases this
theorem Jr.step{ss:List jt}{l:List Oper}{a0 a:Act}{listed:Array Bool}{w w':tW}{x:Nat->Value}(h:Jr md C ss l a0 listed a w x)(hB:Jp md l a0.tmps.size)(_hls:l.length<=ss.length)(hst:∀(j:Nat) (s:jt),ss[j]?=some s->∀(i:Nat) (L:Nat->Bool) u w w',tO md l.toArray i L->L j=true->N i w w'->aij s L u w->aij s (lX L i) u w') (hN:∀(i:Nat) (L:Nat->Bool) w w',tO md l.toArray i L->C L w->N i w w'->C (lX L i) w'){i:Nat} {o:Oper} {s:jt} {v:Value} (hi:l[i]?=some o) (hs:ss[i]?=some s) (hu:listed.getD i false=false) (hr:∀j∈dn md o,listed.getD j false=true) (n:N i w w') (hv:aij s (lX (JW listed) i) v w'):∃x',Jr md C ss l a0 (listed.setIfInBounds i true) (a.put o.dst v) w' x':=by
 have hil:i<l.length:=(List.getElem?_eq_some_iff.1 hi).1;have hix:i<listed.size:=by rw[h.ls];exact hil
 refine⟨λj=>if j=i then v else x j,?_⟩
 have hmem:∀j,(listed.setIfInBounds i true).getD j false=true->j=i\/(j≠i/\listed.getD j false=true):=by
  intro j hj;by_cases e:j=i
  ·exact .inl e
  ·rw[getD_set_ne false (λe'=>e e'.symm)]at hj;exact .inr ⟨e,hj⟩
 have DV:∀j,listed.getD j false=true->(listed.setIfInBounds i true).getD j false=true:=by
  intro j hj;by_cases e:j=i
  ·subst e;exact gK hix false
  ·rw[getD_set_ne false (λe'=>e e'.symm)];exact hj
 have aan:tO md l.toArray i (JW listed):=by
  refine⟨hu,λj o' hj hc=>?_⟩;cases hlj:JW listed j with
  |false=>rfl
  |true =>have:=h.shut j o' hlj (by simpa using hj) i (by simpa using hc);rw[hu]at this;cases this
 have abX:JW (listed.setIfInBounds i true)=lX (JW listed) i:=by
  funext j;unfold JW lX;by_cases e:j=i
  ·subst e;rw[iP9 rfl];exact gK hix false
  ·rw[iN9 e];exact getD_set_ne false (λe'=>e e'.symm)
 have Wo:∀(j:Nat) (y:Value) (s':jt),listed.getD j false=true->ss[j]?=some s'->zO y s' (JW listed) w->zO y s' (lX (JW listed) i) w':=by
  intro j y s' hj hs' hf;cases s' with
  |inl _=>trivial
  |inr R=>exact hst j _ hs' i (JW listed) y w w' aan hj n hf
 refine⟨by rw[abX];exact hN i _ _ _ aan h.c n,by rw[qU,h.sz],by rw[put_defers,h.df],by simp[h.ls],?_,?_,?_,?_⟩
 ·intro j o' d s' hj ho' hs' hd;rcases hmem j hj with rfl |⟨hne,hj'⟩
  ·rw[hi]at ho';cases ho';rw[hs]at hs';cases hs';rw[hd,mO _ _ _ (by rw[h.sz];exact hB.dst j o d hi hd)];simp only[if_true];cases s with
   |inl v0=>simp only[aij]at hv;simp[aam,hv]
   |inr R=>rfl
  ·rw[iN9 hne,qR _ _ _ _ (λe=>hne (hB.one i o j o' d hi ho' e hd))];exact h.val j o' d s' hj' ho' hs' hd
 ·intro j s' hj hs';rcases hmem j hj with rfl |⟨hne,hj'⟩
  ·rw[hs]at hs';cases hs';simp only[if_true];cases s with
   |inl v0=>trivial
   |inr R=>rw[abX];exact hv
  ·simp only[iN9 hne];rw[abX];exact Wo j _ _ hj' hs' (h.fact j s' hj' hs')
 ·intro d hd;rw[qR _ _ _ _ (hd i o (gK hix false) hi)];exact h.old d (λj o' hj ho'=>hd j o' (DV j hj) ho')
 ·intro j o' hj ho' k hk;rcases hmem j hj with rfl |⟨hne,hj'⟩
  ·rw[hi]at ho';cases ho';exact DV k (hr k hk)
  ·exact DV k (h.shut j o' hj' ho' k hk)
theorem NI{ss:List jt}{l:List Oper}{a0:Act}{Q:Act->tW->Prop}{Q':Exit->Act->tW->Prop}(hQ:∀a w,Q a w->Q' .normal a w)(hB:Jp md l a0.tmps.size)(hsel:cb l.toArray=true)(hst:∀(j:Nat) (s:jt),ss[j]?=some s->∀(i:Nat) (L:Nat->Bool) u w w',tO md l.toArray i L->L j=true->N i w w'->aij s L u w->aij s (lX L i) u w') (hN:∀(i:Nat) (L:Nat->Bool) w w',tO md l.toArray i L->C L w->N i w w'->C (lX L i) w') (hrf:(l.all (λo=>o.guard.isNone))=true\/∀i w,N i w w)(hW:uw P l.toArray md C N Q 0 ss l a0 []):∀(fuel:Nat) (listed:Array Bool) (a:Act) (w:tW) (x:Nat->Value),Jr md C ss l a0 listed a w x->aii (λj=>listed.getD j false) l.length<=fuel -> wpAny P md l.toArray Q' fuel listed a w:=by
 have hls:=AZ hW
 have hend:∀(listed:Array Bool) (a:Act) (w:tW) (x:Nat->Value),Jr md C ss l a0 listed a w x->(∀j,j<l.length->listed.getD j false=true)->Q' .normal a w:=by
  intro listed a w x h hall;rw[h.eq hB hls hall];refine hQ _ _ (A7 x 0 hW (JW listed) w (λj hj=>hall j (by simpa using hj)) h.c ?_);refine Qw _ w _ (λj f hf=>?_);rw[List.nil_append,A8]at hf;by_cases hj:j<l.length
  ·rw[iP9 hj]at hf;obtain⟨s,hs⟩:∃s,ss[j]?=some s:=⟨ss[j]'(by omega),List.getElem?_eq_getElem _⟩
   rw[hs]at hf;simp only[cI,Option.some.injEq,cc]at hf;rw[<-hf];exact h.fact j s (hall j hj) hs
  ·rw[iN9 hj]at hf;cases hf
 have hnil:∀(listed:Array Bool),listed.size=l.length->ao md l.toArray listed=[]->∀n j,j<n->j<l.length->listed.getD j false=true:=by
  intro listed hsz hr n;induction n with
  |zero=>intro j hj;exact absurd hj (ca _)
  |succ n ih =>
   intro j hj hjl;cases hc:listed.getD j false with
   |true=>rfl
   |false =>
    exfalso;have hjs:j<listed.size:=by omega
    obtain⟨o,ho⟩:∃o,l[j]?=some o:=⟨l[j],List.getElem?_eq_getElem _⟩
    have:j∈ao md l.toArray listed:=mem_ready.2 ⟨by rw[qV hjs true false];exact hc,o,by simpa using ho,λe he hb=>by have hd:e.on∈dn md o:=List.mem_map.2 ⟨e,List.mem_filter.2 ⟨by simpa using he,hb⟩,rfl⟩;have hlt:=hB.low j o ho e.on hd;exact ih e.on (by omega) (by omega)⟩;rw[hr]at this;cases this
 intro fuel;induction fuel with
 |zero =>
  intro listed a w x h hf;have hall:=DT (λj=>listed.getD j false) l.length (by omega);refine⟨?_,hend listed a w x h hall⟩;apply List.eq_nil_iff_forall_not_mem.2;intro i hi;obtain⟨h0,o,ho,_⟩:=mem_ready.1 hi;have hil:i<l.length:=by simpa using(Array.getElem?_eq_some_iff.1 ho).1
  have h1:listed.getD i false=true:=hall i hil;rw[qV (by rw[h.ls];exact hil) true false,h1]at h0;cases h0
 |succ fuel ih =>
  intro listed a w x h hf;refine⟨λhr=>hend listed a w x h (λj hj=>hnil listed h.ls hr (j+1) j (by omega) hj),?_⟩;intro i hi;obtain⟨h0,o,ho,hrd⟩:=mem_ready.1 hi;have hi':l[i]?=some o:=by simpa using ho
  have hil:i<l.length:=(List.getElem?_eq_some_iff.1 hi').1;have hix:i<listed.size:=by rw[h.ls];exact hil
  have hu:listed.getD i false=false:=by rw[qV hix false true];exact h0
  have hr:∀j∈dn md o,listed.getD j false=true:=by intro j hj;obtain⟨e,he,rfl⟩:=List.mem_map.1 hj;obtain⟨he1,he2⟩:=List.mem_filter.1 he;exact hrd e (by simpa using he1) he2
  obtain⟨s,hs⟩:∃s,ss[i]?=some s:=⟨ss[i]'(by omega),List.getElem?_eq_getElem _⟩
  have hk:tN ([]++ahX x 0 ss i) (dn md o) (JW listed) w:=by
   refine GN _ _ w _ (λj hj f hfj=>?_);rw[List.nil_append,A8]at hfj;by_cases hji:j<i
   ·rw[iP9 hji]at hfj;obtain⟨s',hs'⟩:∃s,ss[j]?=some s:=⟨ss[j]'(by omega),List.getElem?_eq_getElem _⟩
    rw[hs']at hfj;simp only[cI,Option.some.injEq,cc]at hfj;rw[<-hfj];exact h.fact j s' (hr j hj) hs'
   ·rw[iN9 hji]at hfj;cases hfj
  have aan:tO md l.toArray (0+i) (JW listed):=by
   rw[cc];refine⟨hu,λj o' hj hc=>?_⟩;cases hlj:JW listed j with
   |false=>rfl
   |true =>have:=h.shut j o' hlj (by simpa using hj) i (by simpa using hc);rw[hu]at this;cases this
  have hg:=DW x 0 hW i o s hi' hs (JW listed) w aan h.c hk;rw[cc]at hg;have hsame:=h.same hB hls hi' hu hr;have hsl:∀cs b,o.op≠.select cs b:=λcs b=>bj hsel i o cs b ho;have hun:∀listed':Array Bool,listed'=listed.setIfInBounds i true->aii (λj=>listed'.getD j false) l.length<=fuel:=by rintro _ rfl;have:=DU (λj=>listed.getD j false) (λj=>(listed.setIfInBounds i true).getD j false) i hu (gK hix false) (λj hj=>getD_set_ne false (λe=>hj e.symm)) l.length hil;omega
  unfold wpOp;simp only[ho];unfold mZ at hg;rw[<-BU hsame]at hg;split
  ·rename_i hw
   rw[iP9 hw]at hg;left;refine GL ?_;have he:=BR hg;unfold kJ at he ⊢;rw[execOp_congr o hsl (GM hsame)];refine gi ?_ he;rintro u w' ⟨v,huv,hn,hv⟩
   have hput:a.put o.dst u=a.put o.dst v:=by
    cases hd:o.dst with
    |none=>rfl
    |some d =>have h1:=congrArg (λb:Act=>b.tmps[d]?) huv;simp only[hd]at h1;rw[mO _ _ _ (by rw[A9];exact hB.dst i o d hi' hd),mO _ _ _ (by rw[A9];exact hB.dst i o d hi' hd)]at h1;cases h1;rfl
   rw[hput];obtain⟨x',h'⟩:=h.step hB hls hst hN hi' hs hu hr hn hv;exact ih _ _ _ x' h' (hun _ rfl)
  ·rename_i hw
   rw[iN9 hw]at hg
   have hnn:N i w w:=by
    rcases hrf with hg0|hrf
    ·exfalso;have hgn:=List.all_eq_true.1 hg0 o (List.mem_of_getElem? hi');exact hw (fC (by simpa using hgn) _)
    ·exact hrf i w
   obtain⟨x',h'⟩:=h.step hB hls hst hN hi' hs hu hr hnn hg;exact ih _ _ _ x' h' (hun _ rfl)
theorem DX{id:Nat}{Q:Exit->Act->tW->Prop}{a:Act}{w:tW}{l:List Oper}(ss:List jt)(C:LW)(N:Nat->tW->tW->Prop)(hm:P.follows .mixedOrders=true)(hB:aiz .any l a.tmps.size=true)(hsel:cb l.toArray=true)(hC:C (λ_=>false) w.drew)(hst:∀(j:Nat) (s:jt),ss[j]?=some s->∀(i:Nat) (L:Nat->Bool) u w w',tO .any l.toArray i L->L j=true->N i w w'->aij s L u w->aij s (lX L i) u w') (hN:∀(i:Nat) (L:Nat->Bool) w w',tO .any l.toArray i L->C L w->N i w w'->C (lX L i) w') (hrf:(l.all (λo=>o.guard.isNone))=true\/∀i w,N i w w)(h:uw P l.toArray .any C N (λa' w'=>Q .normal a' w') 0 ss l a []):(Code.region id l.toArray true).wp P Q a w:=by
 refine wp_region_any hm ?_;refine NI (C:=C) (N:=N) (ss:=ss) (l:=l) (a0:=a) (Q:=λa' w'=>Q .normal a' w') (λ_ _ h=>h) (La hB) hsel hst hN hrf h _ _ a w.drew (λ_=>undef) ⟨?_,rfl,rfl,by simp,?_,?_,?_,?_⟩ ?_
 ·have:JW (cd l.toArray.size false)=λ_=>false:=by funext j;simp only[JW,Array.getD_eq_getD_getElem?,Array.getElem?_replicate];split<;>rfl
  rw[this];exact hC
 ·intro j o d s hj;exfalso;revert hj;simp[Array.getElem?_replicate];split<;>simp
 ·intro j s hj;exfalso;revert hj;simp[Array.getElem?_replicate];split<;>simp
 ·intro d _;rfl
 ·intro j o hj;exfalso;revert hj;simp[Array.getElem?_replicate];split<;>simp
 ·have:aii (λj=>(cd l.toArray.size false).getD j false) l.length=l.length:=by refine(zM _ (λ_=>false) _ (λj hj=>?_)).trans (Qv l.length);simp[Array.getElem?_replicate];split<;>simp
  rw[this];simp
theorem lu{Q:Act->tW->Prop}{k:Nat}{ss:List jt}{o:Oper}{rest:List Oper}{a:Act}{F:List LW}{v:Value}(hgd:o.guard=none)(h:∀(L:Nat->Bool) (w:tW),tO md ops k L->C L w->tN F (dn md o) L w->∀K:Act->tW->Prop,(∀a' w' v',a'=a.put o.dst v'->N k w w'->v'=v->K a' w')->o.wp P a w K (λ_ _ _=>False))(hr:uw P ops md C N Q (k+1) ss rest (a.put o.dst v) (F++[λ(_:Nat->Bool) (_:tW)=>True])):uw P ops md C N Q k (.inl v::ss) (o::rest) a F :=
 ⟨λL w hn hC hk=>by unfold mZ;rw[iP9 (fC hgd _)];exact h L w hn hC hk,hr⟩
theorem zP{Q:Act->tW->Prop}{k:Nat}{ss:List jt}{o:Oper}{rest:List Oper}{a:Act}{F:List LW}{R:(Nat->Bool)->Value->tW->Prop}(hgd:o.guard=none)(h:∀(L:Nat->Bool) (w:tW),tO md ops k L->C L w->tN F (dn md o) L w->∀K:Act->tW->Prop,(∀a' w' v',a'=a.put o.dst v'->N k w w'->R (lX L k) v' w'->K a' w')->o.wp P a w K (λ_ _ _=>False))(hr:∀x,uw P ops md C N Q (k+1) ss rest (a.put o.dst x) (F++[λL w=>R L x w])):uw P ops md C N Q k (.inr R::ss) (o::rest) a F :=
 ⟨λL w hn hC hk=>by unfold mZ;rw[iP9 (fC hgd _)];exact h L w hn hC hk,hr⟩
theorem Wp{Q:Act->tW->Prop}{k:Nat}{ss:List jt}{a:Act}{F:List LW}(h:∀(L:Nat->Bool) (w:tW),(∀j,j<ops.size->L j=true)->C L w->NH F L w->Q a w):uw P ops md C N Q k ss [] a F:=by
 cases ss with
 |nil=>exact h
 |cons s ss=>cases s<;>exact h
theorem tT{F:List LW}{L:Nat->Bool}{w:tW}:∀{ds:List Nat},tN F ds L w->∀j,ds.contains j=true->(F[j]?.getD (λ_ _=>True)) L w
 |[],_,j,hj=>by simp at hj
 |i::ds,h,j,hj=>by
  rw[cy,Bool.or_eq_true]at hj;rcases hj with hj|hj
  ·have:j=i:=by simpa using hj
   subst this;exact h.1
  ·exact tT h.2 j hj
theorem Wq{F:List LW}{L:Nat->Bool}{w:tW}(h:NH F L w):∀(j:Nat),(F[j]?.getD (λ_ _=>True)) L w:=by
 induction F with
 |nil=>intro j;simp
 |cons f F ih =>
  intro j;cases j with
  |zero=>exact h.1
  |succ j=>simpa using ih h.2 j
def CV(md:Region.Mode)(ops:Array Oper)(N:Nat->tW->tW->Prop):Nat->List jt->Prop
 |_,[]=>True
 |k,.inl _::l=>CV md ops N (k+1) l
 |k,.inr R::l=>(∀(i:Nat) (L:Nat->Bool) u w w',tO md ops i L->L k=true->N i w w'->R L u w->R (lX L i) u w')/\CV md ops N (k+1) l
theorem yq:∀{ss:List jt} {k:Nat},CV md ops N k ss->∀(j:Nat) (s:jt),ss[j]?=some s->∀(i:Nat) (L:Nat->Bool) u w w',tO md ops i L->L (k+j)=true->N i w w'->aij s L u w->aij s (lX L i) u w'
 |[],_,_,j,s,hs,_,_,_,_,_,_,_,_,_=>by simp at hs
 |.inl v::l,k,h,0,s,hs,i,L,u,w,w',hn,hk,n,hr=>by simp only[List.getElem?_cons_zero,Option.some.injEq]at hs;subst hs;exact hr
 |.inl v::l,k,h,j+1,s,hs,i,L,u,w,w',hn,hk,n,hr=>by
  have e:k+(j+1)=k+1+j:=by omega
  rw[e]at hk;exact yq (ss:=l) (k:=k+1) h j s (by simpa using hs) i L u w w' hn hk n hr
 |.inr R::l,k,h,0,s,hs,i,L,u,w,w',hn,hk,n,hr=>by simp only[List.getElem?_cons_zero,Option.some.injEq]at hs;subst hs;exact h.1 i L u w w' hn hk n hr
 |.inr R::l,k,h,j+1,s,hs,i,L,u,w,w',hn,hk,n,hr=>by
  have e:k+(j+1)=k+1+j:=by omega
  rw[e]at hk;exact yq (ss:=l) (k:=k+1) h.2 j s (by simpa using hs) i L u w w' hn hk n hr
end
def toT:kD->jt
 |.inl v=>.inl v
 |.inr R=>.inr (λ_=>R)
def ahw(F:List (tW->Prop)):List LW:=F.map (λf _=>f)
theorem ahA(F:List (tW->Prop))(j:Nat)(L:Nat->Bool)(w:tW):((ahw F)[j]?.getD (λ_ _=>True)) L w↔(F[j]?.getD (λ_=>True)) w:=by unfold ahw;rw[List.getElem?_map];cases F[j]?<;>exact Iff.rfl
theorem ahu(F:List (tW->Prop))(L:Nat->Bool)(w:tW):∀ds,tN (ahw F) ds L w->tJ F ds w
 |[],_=>trivial
 |j::ds,h=>⟨(ahA F j L w).1 h.1,ahu F L w ds h.2⟩
theorem ahx(L:Nat->Bool)(w:tW):∀F,NH (ahw F) L w->SC F w
 |[],_=>trivial
 |_::F,h=>⟨h.1,ahx L w F h.2⟩
theorem ahz(F:List (tW->Prop))(f:tW->Prop):ahw (F++[f])=ahw F++[λ_=>f]:=by unfold ahw;rw[List.map_append];rfl
section
variable {P : Program} {ops : Array Oper} {md : Region.Mode} {C : World -> Prop} {N : World -> World -> Prop}
theorem ahv{Q:Act->tW->Prop}:∀(l:List Oper) (ss:List kD) (k:Nat) (a:Act) (F:List (tW->Prop)),ur P ops md C N Q ss l a F->uw P ops md (λ_=>C) (λ_=>N) Q k (ss.map toT) l a (ahw F)
 |[],ss,k,a,F,h=>Wp (λL w _ hC hA=>by
  cases ss with
  |nil=>exact h w hC (ahx L w F hA)
  |cons s ss=>cases s<;>exact h w hC (ahx L w F hA))
 |o::l,[],_,_,_,h=>h.elim
 |o::l,.inl v::ss,k,a,F,h=>⟨λL w _ hC hk=>h.1 w hC (ahu F L w _ hk),by
  have:=ahv l ss (k+1) _ _ h.2;rw[ahz]at this;exact this⟩
 |o::l,.inr R::ss,k,a,F,h=>⟨λL w _ hC hk=>h.1 w hC (ahu F L w _ hk),λx=>by have:=ahv l ss (k+1) _ _ (h.2 x);rw[ahz]at this;exact this⟩
theorem mD{id:Nat}{Q:Exit->Act->tW->Prop}{a:Act}{w:tW}{l:List Oper}(ss:List kD)(C:tW->Prop)(N:tW->tW->Prop)(hm:P.follows .mixedOrders=true)(hB:aiz .any l a.tmps.size=true)(hsel:cb l.toArray=true)(hC:C w.drew)(hst:∀s∈ss,∀u w w',N w w'->aiy s u w->aiy s u w') (hN:∀w w',C w->N w w'->C w') (hrf:∀w,N w w)(h:ur P l.toArray .any C N (λa' w'=>Q .normal a' w') ss l a []):(Code.region id l.toArray true).wp P Q a w:=by
 refine DX (ss.map toT) (λ_=>C) (λ_=>N) hm hB hsel hC (λj s hs i L u w w' _ _ hn hr=>?_) (λi L w w' _ hC n=>hN w w' hC n) (.inr λ_=>hrf) (ahv l ss 0 a [] h);rw[List.getElem?_map]at hs;cases hj:ss[j]? with
 |none=>rw[hj]at hs;cases hs
 |some s0 =>rw[hj]at hs;cases hs;have:=hst s0 (List.mem_of_getElem? hj) u w w' hn;cases s0<;>exact this hr
end
section
variable {P : Program} {ops : Array Oper} {md : Region.Mode} {C : World -> Prop} {es : List Nat}
def lZ(P:Program)(md:Region.Mode)(ops:Array Oper)(C:tW->Prop)(es:List Nat)(n:Nat)(L:Array Bool->Act->tW->Prop):Nat->Array Bool->Act->tW->Prop
 |0,listed,a,w=>L listed a w
 |f+1,listed,a,w=>ao md ops listed≠[]/\∀i∈ao md ops listed,i<n/\mOp P ops C es i (lZ P md ops C es n L f (listed.setIfInBounds i true)) a w
theorem vE{n g:Nat}{L:Array Bool->Act->tW->Prop}{Q':Exit->Act->tW->Prop}(hL:∀listed a w,C w->L listed a w->wpAny P md ops Q' g listed a w):∀(f:Nat) (listed:Array Bool) (a:Act) (w:tW),C w->lZ P md ops C es n L f listed a w->wpAny P md ops Q' (f+g) listed a w
 |0,listed,a,w,hC,h=>by rw[cc];exact hL _ _ _ hC h
 |f+1,listed,a,w,hC,h=>by rw[show f+1+g=(f+g)+1 by omega];exact⟨λh0=>absurd h0 h.1,λi hi=>Bw hC (λa' w' J5 h'=>vE hL f _ a' w' J5 h') (h.2 i hi).2⟩
theorem zU{n i:Nat}{oi:Oper}{v:Value}{L:Array Bool->Act->tW->Prop}(hi:ops[i]?=some oi)(hsel:∀(j:Nat) (o:Oper) cs b,ops[j]?=some o->o.op≠.select cs b)(hs:cD md ops n=true) (hc:cx md ops n=true) (hn:n<ops.size) (hin:i<n)(hdone:∀listed a w,L listed a w->∀j∈ao md ops listed,n<=j)(hE:∀(K:Act->tW->Prop) (a:Act) (w:tW),C w->gT P ops C oi v a->K (a.put oi.dst v) w->mOp P ops C es i K a w):∀(f:Nat) (listed:Array Bool) (a:Act) (w:tW),HeadInv md ops n listed -> (∀j oj,ops[j]?=some oj->j≠i->listed.getD j true=false->(∀e∈oj.after,bt md e=true->e.on≠i)->oi.apart ops oj=true) -> i∈ao md ops listed->C w->gT P ops C oi v a -> lZ P md ops C es n L f (listed.setIfInBounds i true) (a.put oi.dst v) w->lZ P md ops C es n L (f+1) listed a w:=by
 intro f;induction f with
 |zero =>
  intro listed a w inv _ hr hC hy H;have hun:=(mem_ready.1 hr).1;refine⟨λh=>(by rw[h]at hr;cases hr),λj hj=>?_⟩
  have hjn:j<n:=by
   rcases ba j n with h|h
   ·exact h
   ·exact absurd hj (tail_waits hs hc hn inv _ i rfl hin hun j h)
  refine⟨hjn,?_⟩;by_cases hji:j=i
  ·subst hji;exact hE _ _ _ hC hy H
  ·have:=hdone _ _ _ H j (ready_mono hj hji);omega
 |succ f ih =>
  intro listed a w inv hfree hr hC hy H;have hun:=(mem_ready.1 hr).1;refine⟨λh=>(by rw[h]at hr;cases hr),λj hj=>?_⟩
  have hjn:j<n:=by
   rcases ba j n with h|h
   ·exact h
   ·exact absurd hj (tail_waits hs hc hn inv _ i rfl hin hun j h)
  refine⟨hjn,?_⟩;by_cases hji:j=i
  ·subst hji;exact hE _ _ _ hC hy H
  ·have h1:=(H.2 j (ready_mono hj hji)).2;obtain⟨hjun,oj,hoj,hall⟩:=mem_ready.1 hj;have hnot:=nZ hr hall;have h2:=Qa hoj (hfree j oj hoj hji hjun hnot) (λcs b=>hsel i oi cs b hi) (λcs b=>hsel j oj cs b hoj) hy h1
   have hfree':∀k ok,ops[k]?=some ok->k≠i->(listed.setIfInBounds j true).getD k true=false ->
     (∀e∈ok.after,bt md e=true->e.on≠i)->oi.apart ops ok=true:=λk ok hk hki hun hno=>by
    refine hfree k ok hk hki ?_ hno;by_cases hjk:j=k
    ·subst hjk;exact hjun
    ·rw[getD_set_ne true hjk]at hun;exact hun
   refine J4 hC (λa' w' J5 h3=>ih (listed.setIfInBounds j true) a' w' (inv.set hj hjn) hfree' (ready_mono hr (Ne.symm hji)) J5 h3.1 ?_) h2;rw[ch _ _ hji];exact h3.2
theorem NY{n i:Nat}{oi:Oper}{L:Array Bool->Act->tW->Prop}(hi:ops[i]?=some oi)(hsel:∀(j:Nat) (o:Oper) cs b,ops[j]?=some o->o.op≠.select cs b)(hEi:es.contains i=true)(hs:cD md ops n=true) (hc:cx md ops n=true) (hn:n<ops.size) (hin:i<n)(hdone:∀listed a w,L listed a w->∀j∈ao md ops listed,n<=j)(hch:∀j,es.contains j=true->i<j->∃p,es.contains p=true/\i<=p/\p<j/\∃oj,ops[j]?=some oj/\∃e∈oj.after,bt md e=true/\e.on=p):∀(f:Nat) (listed:Array Bool) (a:Act) (w:tW),HeadInv md ops n listed -> (∀j oj,ops[j]?=some oj->j≠i->listed.getD j true=false->(∀e∈oj.after,bt md e=true->e.on≠i)->oi.apart ops oj=true) -> (∀j,es.contains j=true->i<j->listed.getD j true=false)->(∀j,j<i->listed.getD j true=true) -> i∈ao md ops listed->an oi (yielded ops a.tmps)=true->C w -> kJ P oi a w (λv w'=>C w'/\lZ P md ops C es n L f (listed.setIfInBounds i true) (a.put oi.dst v) w')->lZ P md ops C es n L (f+1) listed a w:=by
 have hno:∀(listed:Array Bool) (j:Nat),(∀j,es.contains j=true->i<j->listed.getD j true=false)->(∀j,j<i->listed.getD j true=true)->i∈ao md ops listed->j∈ao md ops listed->j≠i->es.contains j=false:=by
  intro listed j hinv hlow hr hj hji;cases hc:es.contains j with
  |false=>rfl
  |true =>
   obtain⟨hjun,oj,hoj,hall⟩:=mem_ready.1 hj
   have hlt:i<j:=by
    rcases ba j i with h|h
    ·rw[hlow j h]at hjun;cases hjun
    ·omega
   obtain⟨p,hp,hip,hpj,oj',UD,e,he,hb,hon⟩:=hch j hc hlt;rw[hoj]at UD;cases UD;have h1:=hall e he hb;rw[hon]at h1;by_cases hpi:p=i
   ·subst hpi;exact absurd hon (nZ hr hall e he hb)
   ·have h2:=hinv p hp (by omega);rcases ba p listed.size with h'|h'
    ·simp[h']at h1 h2;rw[h2]at h1;cases h1
    ·simp[Array.getElem?_eq_none h']at h1
 have hme:∀(K:Act->tW->Prop) (a:Act) (w:tW),an oi (yielded ops a.tmps)=true->kJ P oi a w (λv w'=>C w'/\K (a.put oi.dst v) w')->mOp P ops C es i K a w:=λK a w hw h=>by unfold mOp;simp only[hi,hw,if_true,hEi];exact h
 intro f;induction f with
 |zero =>
  intro listed a w inv _ hinv hlow hr hw hC H;have hun:=(mem_ready.1 hr).1;refine⟨λh=>(by rw[h]at hr;cases hr),λj hj=>?_⟩
  have hjn:j<n:=by
   rcases ba j n with h|h
   ·exact h
   ·exact absurd hj (tail_waits hs hc hn inv _ i rfl hin hun j h)
  refine⟨hjn,?_⟩;by_cases hji:j=i
  ·subst hji;exact hme _ _ _ hw H
  ·obtain⟨_,_,_,h2⟩:=nJ H;have:=hdone _ _ _ h2 j (ready_mono hj hji);omega
 |succ f ih =>
  intro listed a w inv hfree hinv hlow hr hw hC H;have hun:=(mem_ready.1 hr).1;refine⟨λh=>(by rw[h]at hr;cases hr),λj hj=>?_⟩
  have hjn:j<n:=by
   rcases ba j n with h|h
   ·exact h
   ·exact absurd hj (tail_waits hs hc hn inv _ i rfl hin hun j h)
  refine⟨hjn,?_⟩;by_cases hji:j=i
  ·subst hji;exact hme _ _ _ hw H
  ·have hEj:=hno listed j hinv hlow hr hj hji;obtain⟨hjun,oj,hoj,hall⟩:=mem_ready.1 hj;have hnot:=nZ hr hall;obtain⟨h1,h2,h3⟩:=Oper.apart_spec (hfree j oj hoj hji hjun hnot);have hsi:∀cs b,oi.op≠.select cs b:=λcs b=>hsel i oi cs b hi;have hsj:∀cs b,oj.op≠.select cs b:=λcs b=>hsel j oj cs b hoj
   have hfree':∀k ok,ops[k]?=some ok->k≠i->(listed.setIfInBounds j true).getD k true=false ->
     (∀e∈ok.after,bt md e=true->e.on≠i)->oi.apart ops ok=true:=λk ok hk hki hun hno=>by
    refine hfree k ok hk hki ?_ hno;by_cases hjk:j=k
    ·subst hjk;exact hjun
    ·rw[getD_set_ne true hjk]at hun;exact hun
   have UE:∀k,es.contains k=true->i<k->(listed.setIfInBounds j true).getD k true=false:=λk hk hik=>by
    have hjk:j≠k:=by rintro rfl;rw[hEj]at hk;cases hk
    rw[getD_set_ne true hjk];exact hinv k hk hik
   have hlow':∀k,k<i->(listed.setIfInBounds j true).getD k true=true:=λk hk=>by
    by_cases hjk:j=k
    ·subst hjk;rw[hlow j hk]at hjun;cases hjun
    ·rw[getD_set_ne true hjk];exact hlow k hk
   have key:∀u,(∀v w',C w'->lZ P md ops C es n L (f+1) (listed.setIfInBounds i true) (a.put oi.dst v) w'->lZ P md ops C es n L f ((listed.setIfInBounds i true).setIfInBounds j true) ((a.put oi.dst v).put oj.dst u) w') ->
     lZ P md ops C es n L (f+1) (listed.setIfInBounds j true) (a.put oj.dst u) w:=λu hu=>by
    refine ih (listed.setIfInBounds j true) (a.put oj.dst u) w (inv.set hj hjn) hfree' UE hlow' (ready_mono hr (Ne.symm hji)) (by rw[wanted_put oi a oj.dst u h3];exact hw) hC ?_;unfold kJ at *;rw[execOp_put oi hsi a oj.dst u h3];refine gi (λv w' h'=>⟨h'.1,?_⟩) H;have:=hu v w' h'.1 h'.2;rw[ch _ _ hji,<-Act.put_comm a v u h2];exact this
   cases YJ:an oj (yielded ops a.tmps)with
   |false =>refine nK hoj YJ (key undef λv w' _ h'=>?_);have h4:=(h'.2 j (ready_mono hj hji)).2;unfold mOp at h4;simp only[hoj,wanted_put oj a oi.dst v h1,YJ,b9,if_false]at h4;exact h4
   |true =>
    have J6:∀v w',lZ P md ops C es n L (f+1) (listed.setIfInBounds i true) (a.put oi.dst v) w'->∃u,(∀w,C w->fO P oj a w u)/\lZ P md ops C es n L f ((listed.setIfInBounds i true).setIfInBounds j true) ((a.put oi.dst v).put oj.dst u) w':=λv w' h'=>by have h4:=(h'.2 j (ready_mono hj hji)).2;unfold mOp at h4;simp only[hoj,wanted_put oj a oi.dst v h1,YJ,if_true,hEj,b9,if_false]at h4;unfold fO at *;rw[execOp_put oj hsj a oi.dst v h1]at h4;exact h4
    obtain⟨v0,w0,_,h0⟩:=nJ H;obtain⟨u,hu,_⟩:=J6 v0 w0 h0;refine gT.mOp hoj hEj (.inl ⟨YJ,hu⟩) (key u λv w' _ h'=>?_);obtain⟨u',hu',hk⟩:=J6 v w' h';rw[C5 (hu w hC) (hu' w hC)];exact hk
theorem D8{n g:Nat}{Lq:Act->tW->Prop}(hsel:cb ops=true)(hs:cD md ops n=true)(hc:cx md ops n=true)(hn:n<ops.size)(hch:chainB md ops es=true)(hen:∀j∈es,j<n):∀(l:List Oper) (k:Nat) (listed:Array Bool) (a:Act) (w:tW),(∀j,j<l.length->l[j]?=ops[k+j]?)->k+l.length=n->HeadInv md ops n listed -> cw md ops g l.length k listed=true->(∀j,k<=j->j<ops.size->listed.getD j true=false)->(∀j,j<k->listed.getD j true=true)->C w->ahN P ops C es Lq k l a w -> lZ P md ops C es n (λlisted' a' w'=>cG md ops g n listed'=true/\Lq a' w') l.length listed a w
 |[],k,listed,a,w,_,hk,_,hB,_,_,_,h=>by
  have:k=n:=by simpa using hk
  subst this;exact⟨by simpa [cw]using hB,h⟩
 |o::l,k,listed,a,w,hl,hk,inv,hB,J7,hlow,hC,h=>by
  have h0:ops[k]?=some o:=by simpa using(hl 0 (by simp)).symm
  simp only[bh,cw,ar]at hB;obtain⟨⟨hr,hf⟩,hB'⟩:=hB;have hkn:k<n:=by simp only[bh]at hk;omega
  have hr':k∈ao md ops listed:=by simpa using hr
  have abC:∀j,k+1<=j->j<ops.size->(listed.setIfInBounds k true).getD j true=false:=λj h1 h2=>by rw[getD_set_ne true (by omega)];exact J7 j (by omega) h2
  have hlow':∀j,j<k+1->(listed.setIfInBounds k true).getD j true=true:=λj h1=>by
   by_cases hjk:k=j
   ·subst hjk;rcases ba k listed.size with h'|h'
    ·simp[h']
    ·simp
   ·rw[getD_set_ne true hjk];exact hlow j (by omega)
  have hdone:∀(listed':Array Bool) (a':Act) (w':tW),(cG md ops g n listed'=true/\Lq a' w')->∀j∈ao md ops listed',n<=j:=λlisted' a' w' hL=>seqB_ready hL.1
  have go:∀a' w',C w'->ahN P ops C es Lq (k+1) l a' w'->lZ P md ops C es n (λlisted' a' w'=>cG md ops g n listed'=true/\Lq a' w') l.length (listed.setIfInBounds k true) a' w':=λa' w' J5 h' =>
   D8 hsel hs hc hn hch hen l (k+1) _ a' w' (λj hj=>by have:=hl (j+1) (by simp;omega);simpa [Nat.add_assoc,Nat.add_comm 1 j]using this) (by simp only[bh]at hk;omega) (inv.set hr' hkn) hB' abC hlow' J5 h'
  unfold ahN at h;cases hw:an o (yielded ops a.tmps)with
  |false =>
   simp only[hw,b9,if_false]at h
   exact zU h0 (bj hsel) hs hc hn hkn hdone (v:=undef) (λK a' w' J5 hy hk=>by
    cases hw':an o (yielded ops a'.tmps)with
    |false=>exact nK h0 hw' hk
    |true =>
     cases hE:es.contains k with
     |false=>exact hy.mOp h0 hE hk
     |true =>
      rcases hy with⟨_,hv⟩ |⟨hx,_⟩
      ·unfold mOp;simp only[h0,hw',if_true,hE];have h3:=hv w' J5;unfold fO at h3;unfold kJ;generalize(execOp a'.eval o).run P w'=r at *;cases r with
       |ok n w2 =>
        cases n<;>simp only[ah1]at h3<;>simp only[ahU]
        case value u=>rw[h3.1,h3.2];exact⟨J5,hk⟩
        case skip=>rw[h3.1];exact⟨J5,hk⟩
       |halt x w2=>simp only[ah1]at h3
      ·rw[hw']at hx;cases hx) l.length listed a w inv (cj h0 hf) hr' hC (.inr ⟨hw,rfl⟩) (go _ _ hC h)
  |true =>
   simp only[hw,if_true]at h;cases hE:es.contains k with
   |false =>simp only[hE,b9,if_false]at h;obtain⟨v,hv,hk⟩:=h;exact zU h0 (bj hsel) hs hc hn hkn hdone (λK a' w' _ hy hk=>hy.mOp h0 hE hk) l.length listed a w inv (cj h0 hf) hr' hC (.inl ⟨hw,hv⟩) (go _ _ hC hk)
   |true =>
    simp only[hE,if_true]at h;refine NY h0 (bj hsel) hE hs hc hn hkn hdone (λj hj hkj=>?_) l.length listed a w inv (cj h0 hf) (λj hj hkj=>?_) hlow hr' hw hC (gi (λv w' h'=>⟨h'.1,go _ _ h'.1 h'.2⟩) h)
    ·obtain⟨p,hp,rest⟩:=mH es hch k j (by simpa using hE) (by simpa using hj) hkj;exact⟨p,by simpa using hp,rest⟩
    ·exact J7 j (by omega) (by have:=hen j (by simpa using hj);omega)
theorem bR{id:Nat}{Q:Exit->Act->tW->Prop}{a:Act}{w:tW}{l:List Oper}(n:Nat)(es:List Nat)(C:tW->Prop)(hm:P.follows .mixedOrders=true)(hB:(cJ .any l.toArray n&&chainB .any l.toArray es&&es.all (λj=>decide (j<n)))=true)(hC:C w.drew)(h:ahN P l.toArray C es (λa' w'=>wpList P l.toArray Q (l.drop n) a' w') 0 (l.take n) a w.drew):(Code.region id l.toArray true).wp P Q a w:=by
 simp only[ar,cH,decide_eq_true_eq]at hB;obtain⟨⟨hB,hch⟩,hen⟩:=hB;simp only[cJ,ar,decide_eq_true_eq]at hB;obtain⟨⟨⟨⟨hsel,hn⟩,hs⟩,hc⟩,hlex⟩:=hB;have hn':n<l.length:=by simpa using hn
 have htl:(l.take n).length=n:=by simp;omega
 have hdl:(l.drop n).length=l.toArray.size-n:=by simp
 have inv0:HeadInv .any l.toArray n (cd l.toArray.size false) :=
  ⟨by simp,λj oj _ hl=>(by rw[getD_replicate_false]at hl;cases hl),λt _ ht=>getD_in (by simpa using ht) (getD_replicate_false _ _)⟩
 have J7:∀j,0<=j->j<l.toArray.size->(cd l.toArray.size false).getD j true=false:=λj _ hj=>by
  have hj':j<l.length:=by simpa using hj
  simp[hj']
 have H:=D8 (md:=.any) (C:=C) (es:=es) (g:=l.toArray.size-n) hsel hs hc hn hch hen (l.take n) 0 _ a w.drew (λj hj=>by
  have hj':j<n:=by rw[htl]at hj;exact hj
  simp[hj']) (by simpa using htl) inv0 (by rw[htl];exact hlex) J7 (λj hj=>by omega) hC h
 refine wp_region_any hm ?_
 have:=vE (Q':=Q) (g:=l.toArray.size-n) (λlisted a' w' _ hL=>by
  have:=wpAny_of_seq (md:=.any) (Q':=Q) (l.drop n) n listed a' w' (λj=>by simp[List.getElem?_drop]) (by rw[hdl];exact hL.1) hL.2
  rwa [hdl]at this) _ _ _ _ hC H
 rw[htl,show n+(l.toArray.size-n)=l.toArray.size by omega]at this;exact this
end
