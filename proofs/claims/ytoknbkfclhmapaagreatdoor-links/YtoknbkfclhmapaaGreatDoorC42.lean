import Derived.Test.YtoknbkfclhmapaaGreatDoorC38
import Derived.Test.YtoknbkfclhmapaaGreatDoorC02
import Derived.Deep.Upon
namespace Go.Proofs.YtoknbkfclhmapaaGreatDoor
open Go.RowKit
abbrev InvS:=Value ⊕ (Value->World->Prop)
section
variable {P : Program} {ops : Array Oper} {md : Region.Mode} {C : World -> Prop} {N : World -> World -> Prop}
def depsOf (md:Region.Mode) (o:Oper):List Nat:=(o.after.toList.filter (fun e=>Region.binds md e)).map (·.on)
def KnownL (F:List (World->Prop)):List Nat->World->Prop
 | [],_=>True
 | j::ds,w=>(F[j]?.getD (fun _=>True)) w/\KnownL F ds w
def AllL:List (World->Prop)->World->Prop
 | [],_=>True
 | f::l,w=>f w/\AllL l w
def OpGoal (P:Program) (ops:Array Oper) (N:World->World->Prop) (R:Value->World->Prop) (o:Oper) (a:Act) (w:World):Prop :=
 if Region.wanted o (yielded ops a.tmps)=true then (∀ K:Act->World->Prop,(∀ a' w' v,a'=a.put o.dst v->N w w'->R v w'->K a' w')->o.wp P a w K (fun _ _ _=>False)) else R undef w
def relS:InvS->Value->World->Prop
 | .inl v=>fun u _=>u=v
 | .inr R=>R
def valS (x:Value):InvS->Value
 | .inl v=>v
 | .inr _=>x
def factS (x:Value):InvS->World->Prop
 | .inl _=>fun _=>True
 | .inr R=>R x
def WalkI (P:Program) (ops:Array Oper) (md:Region.Mode) (C:World->Prop) (N:World->World->Prop) (Q:Act->World->Prop):List InvS->List Oper->Act->List (World->Prop)->Prop
 | _,[],a,F=>∀ w:World,C w->AllL F w->Q a w
 | [],_::_,_,_=>False
 | .inl v::ss,o::rest,a,F=>(∀ w:World,C w->KnownL F (depsOf md o) w->OpGoal P ops N (fun (u:Value) (_:World)=>u=v) o a w)/\WalkI P ops md C N Q ss rest (a.put o.dst v) (F++[fun (_:World)=>True])
 | .inr R::ss,o::rest,a,F=>(∀ w:World,C w->KnownL F (depsOf md o) w->OpGoal P ops N R o a w)/\∀ x,WalkI P ops md C N Q ss rest (a.put o.dst x) (F++[R x])
def factsC (x:Nat->Value):Nat->List InvS->Nat->List (World->Prop)
 | _,_,0=>[]
 | _,[],_+1=>[]
 | k,s::ss,i+1=>factS (x k) s::factsC x (k+1) ss i
def putC (x:Nat->Value):Nat->List InvS->List Oper->Nat->Act->Act
 | _,_,_,0,a=>a
 | _,[],_,_+1,a=>a
 | _,_,[],_+1,a=>a
 | k,s::ss,o::l,i+1,a=>putC x (k+1) ss l i (a.put o.dst (valS (x k) s))
theorem walk_len {Q:Act->World->Prop}:∀ {l:List Oper} {ss:List InvS} {a:Act} {F:List (World->Prop)},WalkI P ops md C N Q ss l a F->l.length<=ss.length
 | [],_,_,_,_=>Nat.zero_le _
 | _::_,[],_,_,h=>h.elim
 | _::_,.inl _::_,_,_,h=>Nat.succ_le_succ (walk_len h.2)
 | _::_,.inr _::_,_,_,h=>Nat.succ_le_succ (walk_len (h.2 undef))
theorem walk_at {Q:Act->World->Prop} (x:Nat->Value):∀ {l:List Oper} {ss:List InvS} {a:Act} {F:List (World->Prop)} (k:Nat),WalkI P ops md C N Q ss l a F ->
  ∀ (i:Nat) (o:Oper) (s:InvS),l[i]?=some o->ss[i]?=some s->∀ w,C w->KnownL (F++factsC x k ss i) (depsOf md o) w->OpGoal P ops N (relS s) o (putC x k ss l i a) w
 | [],_,_,_,_,_,i,_,_,ho,_,_,_,_=>by simp at ho
 | _::_,[],_,_,_,h,_,_,_,_,_,_,_,_=>h.elim
 | o0::l,.inl v::ss,a,F,k,h,i,o,s,ho,hs,w,hC,hk=>by
  cases i with
  | zero =>
   simp only [List.getElem?_cons_zero,Option.some.injEq] at ho hs
   subst ho hs
   simp only [factsC,List.append_nil] at hk
   simp only [putC]
   exact h.1 w hC hk
  | succ i =>
   simp only [List.getElem?_cons_succ] at ho hs
   simp only [putC]
   refine walk_at x (k+1) h.2 i o s ho hs w hC ?_
   simpa [factsC,factS] using hk
 | o0::l,.inr R::ss,a,F,k,h,i,o,s,ho,hs,w,hC,hk=>by
  cases i with
  | zero =>
   simp only [List.getElem?_cons_zero,Option.some.injEq] at ho hs
   subst ho hs
   simp only [factsC,List.append_nil] at hk
   simp only [putC]
   exact h.1 w hC hk
  | succ i =>
   simp only [List.getElem?_cons_succ] at ho hs
   simp only [putC]
   refine walk_at x (k+1) (h.2 (x k)) i o s ho hs w hC ?_
   simpa [factsC,factS] using hk
theorem walk_end {Q:Act->World->Prop} (x:Nat->Value):∀ {l:List Oper} {ss:List InvS} {a:Act} {F:List (World->Prop)} (k:Nat),WalkI P ops md C N Q ss l a F ->
  ∀ w,C w->AllL (F++factsC x k ss l.length) w->Q (putC x k ss l l.length a) w
 | [],ss,a,F,_,h,w,hC,hk=>by
  have h':∀ w:World,C w->AllL F w->Q a w:=by
   cases ss with
   | nil=>exact h
   | cons s ss=>cases s<;>exact h
  simp only [List.length_nil,factsC,List.append_nil] at hk
  simpa [putC] using h' w hC hk
 | _::_,[],_,_,_,h,_,_,_=>h.elim
 | o0::l,.inl v::ss,a,F,k,h,w,hC,hk=>by
  simp only [List.length_cons,putC]
  refine walk_end x (k+1) h.2 w hC ?_
  simpa [factsC,factS] using hk
 | o0::l,.inr R::ss,a,F,k,h,w,hC,hk=>by
  simp only [List.length_cons,putC]
  refine walk_end x (k+1) (h.2 (x k)) w hC ?_
  simpa [factsC,factS] using hk
theorem factsC_at (x:Nat->Value):∀ (ss:List InvS) (k i j:Nat),(factsC x k ss i)[j]?=if j<i then (ss[j]?).map (factS (x (k+j))) else none
 | [],k,0,j=>by simp [factsC]
 | [],k,i+1,j=>by simp [factsC]
 | s::ss,k,0,j=>by simp [factsC]
 | s::ss,k,i+1,0=>by simp [factsC]
 | s::ss,k,i+1,j+1=>by
  rw [factsC,List.getElem?_cons_succ,factsC_at x ss (k+1) i j]
  have:k+1+j=k+(j+1):=by omega
  simp [this]
theorem known_of (F:List (World->Prop)) (w:World):∀ (ds:List Nat),(∀ j∈ds,∀ f:World->Prop,F[j]?=some f->f w)->KnownL F ds w
 | [],_=>trivial
 | j::ds,h=>⟨by
   cases hf:F[j]? with
   | none=>trivial
   | some f=>exact h j (by simp) f hf,known_of F w ds (fun i hi=>h i (List.mem_cons_of_mem _ hi))⟩
theorem all_of (w:World):∀ (F:List (World->Prop)),(∀ (j:Nat) (f:World->Prop),F[j]?=some f->f w)->AllL F w
 | [],_=>trivial
 | f::F,h=>⟨h 0 f (by simp),all_of w F (fun j g hg=>h (j+1) g (by simpa using hg))⟩
theorem put_tmps (a:Act) (d:Option Tmp) (v:Value) (t:Nat) (h:d≠some t):(a.put d v).tmps[t]?=a.tmps[t]?:=by
 unfold Act.put
 split
 ·rename_i d'
  have:d'≠t:=fun e=>h (by rw [e])
  simp [this]
 ·rfl
theorem put_size (a:Act) (d:Option Tmp) (v:Value):(a.put d v).tmps.size=a.tmps.size:=by
 unfold Act.put
 split<;>simp
theorem put_defers (a:Act) (d:Option Tmp) (v:Value):(a.put d v).defers=a.defers:=by
 unfold Act.put
 split<;>rfl
theorem put_here (a:Act) (t:Nat) (v:Value) (h:t<a.tmps.size):(a.put (some t) v).tmps[t]?=some v:=by
 unfold Act.put
 simp [h]
theorem putC_size (x:Nat->Value):∀ (i:Nat) (l:List Oper) (ss:List InvS) (k:Nat) (a:Act),(putC x k ss l i a).tmps.size=a.tmps.size
 | 0,_,_,_,_=>by simp [putC]
 | i+1,_,[],_,_=>by simp [putC]
 | i+1,[],_::_,_,_=>by simp [putC]
 | i+1,o::l,s::ss,k,a=>by rw [putC,putC_size x i l ss,put_size]
theorem putC_defers (x:Nat->Value):∀ (i:Nat) (l:List Oper) (ss:List InvS) (k:Nat) (a:Act),(putC x k ss l i a).defers=a.defers
 | 0,_,_,_,_=>by simp [putC]
 | i+1,_,[],_,_=>by simp [putC]
 | i+1,[],_::_,_,_=>by simp [putC]
 | i+1,o::l,s::ss,k,a=>by rw [putC,putC_defers x i l ss,put_defers]
theorem putC_other (x:Nat->Value) (t:Nat):∀ (i:Nat) (l:List Oper) (ss:List InvS) (k:Nat) (a:Act),(∀ (j:Nat) (o:Oper),j<i->l[j]?=some o->o.dst≠some t)->(putC x k ss l i a).tmps[t]?=a.tmps[t]?
 | 0,_,_,_,_,_=>by simp [putC]
 | i+1,_,[],_,_,_=>by simp [putC]
 | i+1,[],_::_,_,_,_=>by simp [putC]
 | i+1,o::l,s::ss,k,a,h=>by
  rw [putC,putC_other x t i l ss _ _ (fun j o' hj ho=>h (j+1) o' (by omega) (by simpa using ho)),put_tmps _ _ _ _ (h 0 o (by omega) rfl)]
theorem putC_at (x:Nat->Value) (t:Nat):∀ (i:Nat) (l:List Oper) (ss:List InvS) (k:Nat) (a:Act) (j:Nat) (o:Oper) (s:InvS),j<i->l[j]?=some o->ss[j]?=some s->o.dst=some t ->
  (∀ (j':Nat) (o':Oper),j'<i->j'≠j->l[j']?=some o'->o'.dst≠some t)->t<a.tmps.size->(putC x k ss l i a).tmps[t]?=some (valS (x (k+j)) s)
 | 0,_,_,_,_,j,_,_,hj,_,_,_,_,_=>absurd hj (Nat.not_lt_zero _)
 | i+1,_,[],_,_,j,_,_,_,_,hs,_,_,_=>by simp at hs
 | i+1,[],_::_,_,_,j,_,_,_,ho,_,_,_,_=>by simp at ho
 | i+1,o0::l,s0::ss,k,a,0,o,s,_,ho,hs,hd,hx,ht=>by
  simp only [List.getElem?_cons_zero,Option.some.injEq] at ho hs
  subst ho hs
  rw [putC,putC_other x t i l ss _ _ (fun j o' hj ho=>hx (j+1) o' (by omega) (by omega) (by simpa using ho)),hd,put_here _ _ _ ht]
  rfl
 | i+1,o0::l,s0::ss,k,a,j+1,o,s,hj,ho,hs,hd,hx,ht=>by
  simp only [List.getElem?_cons_succ] at ho hs
  rw [putC,putC_at x t i l ss (k+1) _ j o s (by omega) ho hs hd (fun j' o' h1 h2 h3=>hx (j'+1) o' (by omega) (by omega) (by simpa using h3)) (by rw [put_size];exact ht)]
  have:k+1+j=k+(j+1):=by omega
  rw [this]
def chkI (md:Region.Mode) (l:List Oper) (n:Nat):Bool :=
 (List.range l.length).all fun i=>match l[i]? with
  | none=>true
  | some o=>(depsOf md o).all (fun j=>decide (j<i))&&(match o.dst with | none=>true | some d=>decide (d<n)) &&
   (List.range l.length).all fun j=>match l[j]? with
    | none=>true
    | some o'=>(j==i)||((match o.dst with | none=>true | some d=>!(o'.dst==some d)) &&
      (match o'.dst with | none=>true | some t=>!((o.looksAt l.toArray).contains t)||(if j<i then (depsOf md o).contains j else (depsOf md o').contains i)))
structure ChkI (md:Region.Mode) (l:List Oper) (n:Nat):Prop where
 low:∀ (i:Nat) (o:Oper),l[i]?=some o->∀ j∈depsOf md o,j<i
 dst:∀ (i:Nat) (o:Oper) (d:Tmp),l[i]?=some o->o.dst=some d->d<n
 one:∀ (i:Nat) (o:Oper) (j:Nat) (o':Oper) (d:Tmp),l[i]?=some o->l[j]?=some o'->o.dst=some d->o'.dst=some d->j=i
 rd:∀ (i:Nat) (o:Oper) (j:Nat) (o':Oper) (t:Tmp),l[i]?=some o->l[j]?=some o'->j≠i->o'.dst=some t->t∈o.looksAt l.toArray->(j<i->j∈depsOf md o)/\(i<j->i∈depsOf md o')
theorem chk_spec {l:List Oper} {n:Nat} (h:chkI md l n=true):ChkI md l n:=by
 unfold chkI at h;rw [List.all_eq_true] at h
 have key:∀ (i:Nat) (o:Oper),l[i]?=some o->(((depsOf md o).all (fun j=>decide (j<i))&&(match o.dst with | none=>true | some d=>decide (d<n))) &&
   (List.range l.length).all fun j=>match l[j]? with
    | none=>true
    | some o'=>(j==i)||((match o.dst with | none=>true | some d=>!(o'.dst==some d)) &&
      (match o'.dst with | none=>true | some t=>!((o.looksAt l.toArray).contains t)||(if j<i then (depsOf md o).contains j else (depsOf md o').contains i))))=true:=by
  intro i o hi
  have h1:=h i (List.mem_range.2 (List.getElem?_eq_some_iff.1 hi).1)
  simpa only [hi] using h1
 have k2:∀ (i:Nat) (o:Oper) (j:Nat) (o':Oper),l[i]?=some o->l[j]?=some o'->j≠i->((match o.dst with | none=>true | some d=>!(o'.dst==some d)) &&
      (match o'.dst with | none=>true | some t=>!((o.looksAt l.toArray).contains t)||(if j<i then (depsOf md o).contains j else (depsOf md o').contains i)))=true:=by
  intro i o j o' hi hj hne
  have h1:=key i o hi
  rw [Bool.and_eq_true] at h1
  have h2:=List.all_eq_true.1 h1.2 j (List.mem_range.2 (List.getElem?_eq_some_iff.1 hj).1)
  simp only [hj] at h2
  have:(j==i)=false:=by simp [hne]
  rw [this,Bool.false_or] at h2;exact h2
 refine ⟨?_,?_,?_,?_⟩
 ·intro i o hi j hj
  have h1:=key i o hi
  simp only [Bool.and_eq_true] at h1
  simpa using List.all_eq_true.1 h1.1.1 j hj
 ·intro i o d hi hd
  have h1:=key i o hi
  simp only [Bool.and_eq_true,hd] at h1
  simpa using h1.1.2
 ·intro i o j o' d hi hj hd hd'
  by_cases hne:j=i
  ·exact hne
  ·have h1:=k2 i o j o' hi hj hne
   rw [Bool.and_eq_true] at h1
   have h2:=h1.1
   rw [hd,hd'] at h2
   simp at h2
 ·intro i o j o' t hi hj hne hd ht
  have h1:=k2 i o j o' hi hj hne
  rw [Bool.and_eq_true] at h1
  have h2:=h1.2
  have hc:(o.looksAt l.toArray).contains t=true:=by simpa using ht
  simp only [hd,hc,Bool.not_true,Bool.false_or] at h2
  constructor
  ·intro hlt;rw [if_pos hlt] at h2
   simpa using h2
  ·intro hlt
   rw [if_neg (by omega)] at h2
   simpa using h2
def unlF (f:Nat->Bool):Nat->Nat
 | 0=>0
 | n+1=>unlF f n+(if f n then 0 else 1)
theorem unl_zero (f:Nat->Bool):∀ n,unlF f n=0->∀ j,j<n->f j=true
 | 0,_,j,hj=>absurd hj (Nat.not_lt_zero _)
 | n+1,h,j,hj=>by
  simp only [unlF] at h
  by_cases e:j=n
  ·subst e
   cases hf:f j with
   | true=>rfl
   | false=>simp [hf] at h
  ·exact unl_zero f n (by omega) j (by omega)
theorem unl_same (f g:Nat->Bool):∀ n,(∀ j,j<n->f j=g j)->unlF f n=unlF g n
 | 0,_=>rfl
 | n+1,h=>by simp only [unlF];rw [unl_same f g n (fun j hj=>h j (by omega)),h n (by omega)]
theorem unl_step (f g:Nat->Bool) (i:Nat) (hf:f i=false) (hg:g i=true) (he:∀ j,j≠i->g j=f j):∀ n,i<n->unlF f n=unlF g n+1
 | 0,h=>absurd h (Nat.not_lt_zero _)
 | n+1,h=>by
  simp only [unlF]
  by_cases e:i=n
  ·subst e
   rw [unl_same g f i (fun j hj=>he j (by omega)),hf,hg]
   simp
  ·rw [unl_step f g i hf hg he n (by omega),he n (by omega)]
   omega
theorem unl_all (n:Nat):unlF (fun _=>false) n=n:=by
 induction n with
 | zero=>rfl
 | succ n ih=>simp only [unlF,ih];rfl
theorem eff_of_goal {R:Value->World->Prop} {o:Oper} {a:Act} {w:World} (h:∀ K:Act->World->Prop,(∀ a' w' v,a'=a.put o.dst v->N w w'->R v w'->K a' w')->o.wp P a w K (fun _ _ _=>False)) :
  effAt P o a w (fun u w'=>∃ v,a.put o.dst u=a.put o.dst v/\N w w'/\R v w'):=by
 have h1:=h (fun a' w'=>∃ v,a'=a.put o.dst v/\N w w'/\R v w') (fun a' w' v h1 h2 h3=>⟨v,h1,h2,h3⟩)
 unfold Oper.wp at h1;unfold effAt;generalize (execOp a.eval o).run P w=r at *
 cases r with
 | ok n w' =>
  cases n<;>simp only [Oper.upon] at h1<;>simp only [effUpon]
  case value u=>exact h1
  case skip=>exact h1
  case defer d =>
   obtain ⟨v,h2,_⟩:=h1
   have h3:=congrArg Act.defers h2
   rw [put_defers,put_defers] at h3
   have:=congrArg List.length h3
   simp at this
  case enter f args =>
   refine h1.mono fun e w'' he=>?_
   cases e with
   | returned v=>exact ⟨v,rfl,he⟩
   | panicked c=>exact he.elim
   | outgrown=>obtain ⟨_,_,hf⟩:=he;exact hf.elim
  case row row args=>exact h1
 | halt x w'=>cases x<;>simp only [Oper.upon] at h1
theorem wp_of_eff {o:Oper} {a:Act} {w:World} {K:Act->World->Prop} {Q:Exit->Act->World->Prop} (h:effAt P o a w (fun v w'=>K (a.put o.dst v) w')):o.wp P a w K Q:=by
 unfold effAt at h;unfold Oper.wp;generalize (execOp a.eval o).run P w=r at *
 cases r with
 | ok n w' =>
  cases n<;>simp only [effUpon] at h<;>simp only [Oper.upon]
  case value u=>exact h
  case skip=>exact h
  case enter f args=>exact h.mono fun e w'' ⟨v,he,hk⟩=>by subst he;exact hk
  case row row args=>exact h
 | halt x w'=>simp only [effUpon] at h
structure InvAt (md:Region.Mode) (C:World->Prop) (ss:List InvS) (l:List Oper) (a0:Act) (listed:Array Bool) (a:Act) (w:World) (x:Nat->Value):Prop where
 c:C w
 sz:a.tmps.size=a0.tmps.size
 df:a.defers=a0.defers
 ls:listed.size=l.length
 val:∀ (j:Nat) (o:Oper) (d:Tmp) (s:InvS),listed.getD j false=true->l[j]?=some o->ss[j]?=some s->o.dst=some d->a.tmps[d]?=some (valS (x j) s)
 fact:∀ (j:Nat) (s:InvS),listed.getD j false=true->ss[j]?=some s->factS (x j) s w
 old:∀ d:Tmp,(∀ (j:Nat) (o:Oper),listed.getD j false=true->l[j]?=some o->o.dst≠some d)->a.tmps[d]?=a0.tmps[d]?
 shut:∀ (j:Nat) (o:Oper),listed.getD j false=true->l[j]?=some o->∀ i∈depsOf md o,listed.getD i false=true
theorem eval_same {a a':Act} {o:Oper} {ops:Array Oper} (h:∀ t∈o.looksAt ops,a.tmps[t]?=a'.tmps[t]?):∀ x∈o.op.operands,a.eval x=a'.eval x:=by
 intro x hx
 cases x with
 | tmp t =>
  have ht:t∈o.looksAt ops:=List.mem_append_left _ (List.mem_filterMap.2 ⟨.tmp t,by simpa using hx,rfl⟩)
  have:=h t ht
  simp only [Act.eval,Array.getD_eq_getD_getElem?,this]
 | _=>rfl
theorem wanted_same {a a':Act} {o:Oper} {ops:Array Oper} (h:∀ t∈o.looksAt ops,a.tmps[t]?=a'.tmps[t]?):Region.wanted o (yielded ops a.tmps)=Region.wanted o (yielded ops a'.tmps):=by
 unfold Region.wanted
 cases hg:o.guard with
 | none=>rfl
 | some g =>
  obtain ⟨j,want⟩:=g
  simp only
  unfold yielded
  cases hd:(ops[j]?).bind (·.dst) with
  | none=>rfl
  | some d =>
   have ht:d∈o.looksAt ops:=List.mem_append_right _ (by simp [hg,hd])
   simp only [Option.bind_some,h d ht]
theorem InvAt.eq {ss:List InvS} {l:List Oper} {a0 a:Act} {listed:Array Bool} {w:World} {x:Nat->Value} (h:InvAt md C ss l a0 listed a w x) (hB:ChkI md l a0.tmps.size) (hls:l.length<=ss.length) (hall:∀ j,j<l.length->listed.getD j false=true) :
  a=putC x 0 ss l l.length a0:=by
 have ht:a.tmps=(putC x 0 ss l l.length a0).tmps:=by
  apply Array.ext_getElem?
  intro t
  by_cases hd:∃ (j:Nat) (o:Oper),l[j]?=some o/\o.dst=some t
  ·obtain ⟨j,o,hj,hdo⟩:=hd
   have hjl:j<l.length:=(List.getElem?_eq_some_iff.1 hj).1
   obtain ⟨s,hs⟩:∃ s,ss[j]?=some s:=⟨ss[j]'(by omega),List.getElem?_eq_getElem _⟩
   rw [h.val j o t s (hall j hjl) hj hs hdo,putC_at x t l.length l ss 0 a0 j o s hjl hj hs hdo (fun j' o' _ hne ho' hd'=>hne (hB.one j o j' o' t hj ho' hdo hd')) (hB.dst j o t hj hdo)]
   simp
  ·rw [h.old t (fun j o _ hj hdo=>hd ⟨j,o,hj,hdo⟩),putC_other x t l.length l ss 0 a0 (fun j o _ hj hdo=>hd ⟨j,o,hj,hdo⟩)]
 have hdf:a.defers=(putC x 0 ss l l.length a0).defers:=by rw [h.df,putC_defers]
 cases a
 generalize putC x 0 ss l l.length a0=b at *
 cases b
 simp only at ht hdf
 rw [ht,hdf]
theorem InvAt.same {ss:List InvS} {l:List Oper} {a0 a:Act} {listed:Array Bool} {w:World} {x:Nat->Value} (h:InvAt md C ss l a0 listed a w x) (hB:ChkI md l a0.tmps.size) (hls:l.length<=ss.length)
  {i:Nat} {o:Oper} (hi:l[i]?=some o) (hu:listed.getD i false=false) (hr:∀ j∈depsOf md o,listed.getD j false=true):∀ t∈o.looksAt l.toArray,a.tmps[t]?=(putC x 0 ss l i a0).tmps[t]?:=by
 intro t ht
 by_cases hd:∃ (j:Nat) (o':Oper),j<i/\l[j]?=some o'/\o'.dst=some t
 ·obtain ⟨j,o',hji,hj,hdo⟩:=hd
  have hjl:j<l.length:=(List.getElem?_eq_some_iff.1 hj).1
  obtain ⟨s,hs⟩:∃ s,ss[j]?=some s:=⟨ss[j]'(by omega),List.getElem?_eq_getElem _⟩
  have hdep:=(hB.rd i o j o' t hi hj (by omega) hdo ht).1 hji
  rw [h.val j o' t s (hr j hdep) hj hs hdo,putC_at x t i l ss 0 a0 j o' s hji hj hs hdo (fun j' o'' _ hne ho' hd'=>hne (hB.one j o' j' o'' t hj ho' hdo hd')) (hB.dst j o' t hj hdo)]
  simp
 ·rw [putC_other x t i l ss 0 a0 (fun j o' hji hj hdo=>hd ⟨j,o',hji,hj,hdo⟩)]
  refine h.old t (fun j o' hl hj hdo=>?_)
  rcases Nat.lt_trichotomy j i with hji | hji | hji
  ·exact hd ⟨j,o',hji,hj,hdo⟩
  ·subst hji;rw [hu] at hl;cases hl
  ·have hdep:=(hB.rd i o j o' t hi hj (by omega) hdo ht).2 hji
   have:=h.shut j o' hl hj i hdep
   rw [hu] at this
   cases this
theorem getD_set_self {listed:Array Bool} {i:Nat} (h:i<listed.size) (d:Bool):(listed.setIfInBounds i true).getD i d=true:=by simp [h]
theorem getD_any {listed:Array Bool} {i:Nat} (h:i<listed.size) (d d':Bool):listed.getD i d=listed.getD i d':=by simp [h]
theorem InvAt.step {ss:List InvS} {l:List Oper} {a0 a:Act} {listed:Array Bool} {w w':World} {x:Nat->Value} (h:InvAt md C ss l a0 listed a w x) (hB:ChkI md l a0.tmps.size) (_hls:l.length<=ss.length)
  (hst:∀ s∈ss,∀ u w w',N w w'->relS s u w->relS s u w') (hN:∀ w w',C w->N w w'->C w')
  {i:Nat} {o:Oper} {s:InvS} {v:Value} (hi:l[i]?=some o) (hs:ss[i]?=some s) (hu:listed.getD i false=false) (hr:∀ j∈depsOf md o,listed.getD j false=true) (n:N w w') (hv:relS s v w') :
  ∃ x',InvAt md C ss l a0 (listed.setIfInBounds i true) (a.put o.dst v) w' x':=by
 have hil:i<l.length:=(List.getElem?_eq_some_iff.1 hi).1
 have hix:i<listed.size:=by rw [h.ls];exact hil
 refine ⟨fun j=>if j=i then v else x j,?_⟩
 have hmem:∀ j,(listed.setIfInBounds i true).getD j false=true->j=i\/(j≠i/\listed.getD j false=true):=by
  intro j hj
  by_cases e:j=i
  ·exact .inl e
  ·rw [getD_set_ne false (fun e'=>e e'.symm)] at hj
   exact .inr ⟨e,hj⟩
 have hmem2:∀ j,listed.getD j false=true->(listed.setIfInBounds i true).getD j false=true:=by
  intro j hj
  by_cases e:j=i
  ·subst e;exact getD_set_self hix false
  ·rw [getD_set_ne false (fun e'=>e e'.symm)];exact hj
 have keepF:∀ (y:Value) (s':InvS),s'∈ss->factS y s' w->factS y s' w':=by
  intro y s' hs' hf
  cases s' with
  | inl _=>trivial
  | inr R=>exact hst _ hs' y w w' n hf
 refine ⟨hN _ _ h.c n,by rw [put_size,h.sz],by rw [put_defers,h.df],by simp [h.ls],?_,?_,?_,?_⟩
 ·intro j o' d s' hj ho' hs' hd
  rcases hmem j hj with rfl | ⟨hne,hj'⟩
  ·rw [hi] at ho';cases ho'
   rw [hs] at hs';cases hs'
   rw [hd,put_here _ _ _ (by rw [h.sz];exact hB.dst j o d hi hd)]
   simp only [if_true]
   cases s with
   | inl v0=>simp only [relS] at hv;simp [valS,hv]
   | inr R=>rfl
  ·rw [if_neg hne,put_tmps _ _ _ _ (fun e=>hne (hB.one i o j o' d hi ho' e hd))]
   exact h.val j o' d s' hj' ho' hs' hd
 ·intro j s' hj hs'
  rcases hmem j hj with rfl | ⟨hne,hj'⟩
  ·rw [hs] at hs';cases hs'
   simp only [if_true]
   cases s with
   | inl v0=>trivial
   | inr R=>exact hv
  ·simp only [if_neg hne]
   exact keepF _ _ (List.mem_of_getElem? hs') (h.fact j s' hj' hs')
 ·intro d hd;rw [put_tmps _ _ _ _ (hd i o (getD_set_self hix false) hi)]
  exact h.old d (fun j o' hj ho'=>hd j o' (hmem2 j hj) ho')
 ·intro j o' hj ho' k hk
  rcases hmem j hj with rfl | ⟨hne,hj'⟩
  ·rw [hi] at ho';cases ho'
   exact hmem2 k (hr k hk)
  ·exact hmem2 k (h.shut j o' hj' ho' k hk)
theorem wpAny_inv {ss:List InvS} {l:List Oper} {a0:Act} {Q:Act->World->Prop} {Q':Exit->Act->World->Prop} (hQ:∀ a w,Q a w->Q' .normal a w) (hB:ChkI md l a0.tmps.size) (hsel:Region.noSelect l.toArray=true)
  (hst:∀ s∈ss,∀ u w w',N w w'->relS s u w->relS s u w') (hN:∀ w w',C w->N w w'->C w') (hrf:∀ w,N w w)
  (hW:WalkI P l.toArray md C N Q ss l a0 []):∀ (fuel:Nat) (listed:Array Bool) (a:Act) (w:World) (x:Nat->Value),InvAt md C ss l a0 listed a w x->unlF (fun j=>listed.getD j false) l.length<=fuel ->
  wpAny P md l.toArray Q' fuel listed a w:=by
 have hls:=walk_len hW
 have hend:∀ (listed:Array Bool) (a:Act) (w:World) (x:Nat->Value),InvAt md C ss l a0 listed a w x->(∀ j,j<l.length->listed.getD j false=true)->Q' .normal a w:=by
  intro listed a w x h hall;rw [h.eq hB hls hall]
  refine hQ _ _ (walk_end x 0 hW w h.c ?_)
  refine all_of w _ (fun j f hf=>?_)
  rw [List.nil_append,factsC_at] at hf
  by_cases hj:j<l.length
  ·rw [if_pos hj] at hf
   obtain ⟨s,hs⟩:∃ s,ss[j]?=some s:=⟨ss[j]'(by omega),List.getElem?_eq_getElem _⟩
   rw [hs] at hf
   simp only [Option.map_some,Option.some.injEq,Nat.zero_add] at hf
   rw [<- hf]
   exact h.fact j s (hall j hj) hs
  ·rw [if_neg hj] at hf;cases hf
 have hnil:∀ (listed:Array Bool),listed.size=l.length->Region.ready md l.toArray listed=[]->∀ n j,j<n->j<l.length->listed.getD j false=true:=by
  intro listed hsz hr n
  induction n with
  | zero=>intro j hj;exact absurd hj (Nat.not_lt_zero _)
  | succ n ih =>
   intro j hj hjl
   cases hc:listed.getD j false with
   | true=>rfl
   | false =>
    exfalso
    have hjs:j<listed.size:=by omega
    obtain ⟨o,ho⟩:∃ o,l[j]?=some o:=⟨l[j],List.getElem?_eq_getElem _⟩
    have:j∈Region.ready md l.toArray listed:=mem_ready.2 ⟨by rw [getD_any hjs true false];exact hc,o,by simpa using ho,fun e he hb=>by
     have hd:e.on∈depsOf md o:=List.mem_map.2 ⟨e,List.mem_filter.2 ⟨by simpa using he,hb⟩,rfl⟩
     have hlt:=hB.low j o ho e.on hd
     exact ih e.on (by omega) (by omega)⟩
    rw [hr] at this
    cases this
 intro fuel
 induction fuel with
 | zero =>
  intro listed a w x h hf
  have hall:=unl_zero (fun j=>listed.getD j false) l.length (by omega)
  refine ⟨?_,hend listed a w x h hall⟩
  apply List.eq_nil_iff_forall_not_mem.2
  intro i hi;obtain ⟨h0,o,ho,_⟩:=mem_ready.1 hi
  have hil:i<l.length:=by simpa using (Array.getElem?_eq_some_iff.1 ho).1
  have h1:listed.getD i false=true:=hall i hil
  rw [getD_any (by rw [h.ls];exact hil) true false,h1] at h0
  cases h0
 | succ fuel ih =>
  intro listed a w x h hf
  refine ⟨fun hr=>hend listed a w x h (fun j hj=>hnil listed h.ls hr (j+1) j (by omega) hj),?_⟩
  intro i hi;obtain ⟨h0,o,ho,hrd⟩:=mem_ready.1 hi
  have hi':l[i]?=some o:=by simpa using ho
  have hil:i<l.length:=(List.getElem?_eq_some_iff.1 hi').1
  have hix:i<listed.size:=by rw [h.ls];exact hil
  have hu:listed.getD i false=false:=by rw [getD_any hix false true];exact h0
  have hr:∀ j∈depsOf md o,listed.getD j false=true:=by
   intro j hj;obtain ⟨e,he,rfl⟩:=List.mem_map.1 hj;obtain ⟨he1,he2⟩:=List.mem_filter.1 he
   exact hrd e (by simpa using he1) he2
  obtain ⟨s,hs⟩:∃ s,ss[i]?=some s:=⟨ss[i]'(by omega),List.getElem?_eq_getElem _⟩
  have hk:KnownL ([]++factsC x 0 ss i) (depsOf md o) w:=by
   refine known_of _ w _ (fun j hj f hfj=>?_)
   rw [List.nil_append,factsC_at] at hfj
   by_cases hji:j<i
   ·rw [if_pos hji] at hfj
    obtain ⟨s',hs'⟩:∃ s,ss[j]?=some s:=⟨ss[j]'(by omega),List.getElem?_eq_getElem _⟩
    rw [hs'] at hfj
    simp only [Option.map_some,Option.some.injEq,Nat.zero_add] at hfj
    rw [<- hfj]
    exact h.fact j s' (hr j hj) hs'
   ·rw [if_neg hji] at hfj;cases hfj
  have hg:=walk_at x 0 hW i o s hi' hs w h.c hk
  have hsame:=h.same hB hls hi' hu hr
  have hsl:∀ cs b,o.op≠.select cs b:=fun cs b=>Region.noSelect_spec hsel i o cs b ho
  have hun:∀ listed':Array Bool,listed'=listed.setIfInBounds i true->unlF (fun j=>listed'.getD j false) l.length<=fuel:=by
   rintro _ rfl
   have:=unl_step (fun j=>listed.getD j false) (fun j=>(listed.setIfInBounds i true).getD j false) i hu (getD_set_self hix false) (fun j hj=>getD_set_ne false (fun e=>hj e.symm)) l.length hil
   omega
  unfold wpOp
  simp only [ho]
  unfold OpGoal at hg;rw [<- wanted_same hsame] at hg
  split
  ·rename_i hw
   rw [if_pos hw] at hg
   left
   refine wp_of_eff ?_
   have he:=eff_of_goal hg
   unfold effAt at he ⊢
   rw [execOp_congr o hsl (eval_same hsame)]
   refine effUpon_mono ?_ he
   rintro u w' ⟨v,huv,hn,hv⟩
   have hput:a.put o.dst u=a.put o.dst v:=by
    cases hd:o.dst with
    | none=>rfl
    | some d =>
     have h1:=congrArg (fun b:Act=>b.tmps[d]?) huv
     simp only [hd] at h1
     rw [put_here _ _ _ (by rw [putC_size];exact hB.dst i o d hi' hd),put_here _ _ _ (by rw [putC_size];exact hB.dst i o d hi' hd)] at h1
     cases h1
     rfl
   rw [hput];obtain ⟨x',h'⟩:=h.step hB hls hst hN hi' hs hu hr hn hv
   exact ih _ _ _ x' h' (hun _ rfl)
  ·rename_i hw
   rw [if_neg hw] at hg
   obtain ⟨x',h'⟩:=h.step hB hls hst hN hi' hs hu hr (hrf w) hg
   exact ih _ _ _ x' h' (hun _ rfl)
theorem wp_region_inv {id:Nat} {Q:Exit->Act->World->Prop} {a:Act} {w:World} {l:List Oper} (ss:List InvS) (C:World->Prop) (N:World->World->Prop) (hm:P.follows .mixedOrders=true) (hB:chkI .any l a.tmps.size=true) (hsel:Region.noSelect l.toArray=true) (hC:C w.drew)
  (hst:∀ s∈ss,∀ u w w',N w w'->relS s u w->relS s u w') (hN:∀ w w',C w->N w w'->C w') (hrf:∀ w,N w w)
  (h:WalkI P l.toArray .any C N (fun a' w'=>Q .normal a' w') ss l a []):(Code.region id l.toArray true).wp P Q a w:=by
 refine wp_region_any hm ?_
 refine wpAny_inv (C:=C) (N:=N) (ss:=ss) (l:=l) (a0:=a) (Q:=fun a' w'=>Q .normal a' w') (fun _ _ h=>h) (chk_spec hB) hsel hst hN hrf h _ _ a w.drew (fun _=>undef) ⟨hC,rfl,rfl,by simp,?_,?_,?_,?_⟩ ?_
 ·intro j o d s hj
  exfalso
  revert hj
  simp [Array.getElem?_replicate]
  split<;>simp
 ·intro j s hj
  exfalso
  revert hj
  simp [Array.getElem?_replicate]
  split<;>simp
 ·intro d _;rfl
 ·intro j o hj
  exfalso
  revert hj
  simp [Array.getElem?_replicate]
  split<;>simp
 ·have:unlF (fun j=>(Array.replicate l.toArray.size false).getD j false) l.length=l.length:=by
   refine (unl_same _ (fun _=>false) _ (fun j hj=>?_)).trans (unl_all l.length)
   simp [Array.getElem?_replicate]
   split<;>simp
  rw [this]
  simp
theorem inv_det {Q:Act->World->Prop} {ss:List InvS} {o:Oper} {rest:List Oper} {a:Act} {F:List (World->Prop)} {v:Value} (hgd:o.guard=none)
  (h:∀ w,C w->KnownL F (depsOf md o) w->∀ K:Act->World->Prop,(∀ a' w' v',a'=a.put o.dst v'->N w w'->v'=v->K a' w')->o.wp P a w K (fun _ _ _=>False))
  (hr:WalkI P ops md C N Q ss rest (a.put o.dst v) (F++[fun (_:World)=>True])):WalkI P ops md C N Q (.inl v::ss) (o::rest) a F :=
 ⟨fun w hC hk=>by unfold OpGoal;rw [if_pos (wanted_free hgd _)];exact h w hC hk,hr⟩
theorem inv_any {Q:Act->World->Prop} {ss:List InvS} {o:Oper} {rest:List Oper} {a:Act} {F:List (World->Prop)} {R:Value->World->Prop} (hgd:o.guard=none)
  (h:∀ w,C w->KnownL F (depsOf md o) w->∀ K:Act->World->Prop,(∀ a' w' v',a'=a.put o.dst v'->N w w'->R v' w'->K a' w')->o.wp P a w K (fun _ _ _=>False))
  (hr:∀ x,WalkI P ops md C N Q ss rest (a.put o.dst x) (F++[R x])):WalkI P ops md C N Q (.inr R::ss) (o::rest) a F :=
 ⟨fun w hC hk=>by unfold OpGoal;rw [if_pos (wanted_free hgd _)];exact h w hC hk,hr⟩
theorem inv_nil {Q:Act->World->Prop} {ss:List InvS} {a:Act} {F:List (World->Prop)} (h:∀ w:World,C w->AllL F w->Q a w):WalkI P ops md C N Q ss [] a F:=by
 cases ss with
 | nil=>exact h
 | cons s ss=>cases s<;>exact h
def StableL (N:World->World->Prop):List InvS->Prop
 | []=>True
 | .inl _::l=>StableL N l
 | .inr R::l=>(∀ u w w',N w w'->R u w->R u w')/\StableL N l
theorem stable_of:∀ {ss:List InvS},StableL N ss->∀ s∈ss,∀ u w w',N w w'->relS s u w->relS s u w'
 | [],_,s,hs,_,_,_,_,_=>by cases hs
 | .inl v::l,h,s,hs,u,w,w',n,hr=>by
  rcases List.mem_cons.1 hs with rfl | hs
  ·exact hr
  ·exact stable_of (ss:=l) h s hs u w w' n hr
 | .inr R::l,h,s,hs,u,w,w',n,hr=>by
  rcases List.mem_cons.1 hs with rfl | hs
  ·exact h.1 u w w' n hr
  ·exact stable_of (ss:=l) h.2 s hs u w w' n hr
theorem known_mem {F:List (World->Prop)} {w:World}:∀ {ds:List Nat},KnownL F ds w->∀ j,ds.contains j=true->(F[j]?.getD (fun _=>True)) w
 | [],_,j,hj=>by simp at hj
 | i::ds,h,j,hj=>by
  rw [List.contains_cons,Bool.or_eq_true] at hj
  rcases hj with hj | hj
  ·have:j=i:=by simpa using hj
   subst this;exact h.1
  ·exact known_mem h.2 j hj
end
abbrev LW:=(Nat->Bool)->World->Prop
abbrev InvT:=Value ⊕ ((Nat->Bool)->Value->World->Prop)
section
variable {P : Program} {ops : Array Oper} {md : Region.Mode} {C : LW} {N : Nat -> World -> World -> Prop}
def updL (L:Nat->Bool) (i:Nat):Nat->Bool:=fun j=>if j=i then true else L j
def KnownT (F:List LW):List Nat->LW
 | [],_,_=>True
 | j::ds,L,w=>(F[j]?.getD (fun _ _=>True)) L w/\KnownT F ds L w
def AllT:List LW->LW
 | [],_,_=>True
 | f::l,L,w=>f L w/\AllT l L w
def relT:InvT->(Nat->Bool)->Value->World->Prop
 | .inl v=>fun _ u _=>u=v
 | .inr R=>R
def valT (x:Value):InvT->Value
 | .inl v=>v
 | .inr _=>x
def factT (x:Value):InvT->LW
 | .inl _=>fun _ _=>True
 | .inr R=>fun L w=>R L x w
def NowT (md:Region.Mode) (ops:Array Oper) (k:Nat) (L:Nat->Bool):Prop:=L k=false/\∀ (j:Nat) (o:Oper),ops[j]?=some o->(depsOf md o).contains k=true->L j=false
def WalkT (P:Program) (ops:Array Oper) (md:Region.Mode) (C:LW) (N:Nat->World->World->Prop) (Q:Act->World->Prop):Nat->List InvT->List Oper->Act->List LW->Prop
 | _,_,[],a,F=>∀ (L:Nat->Bool) (w:World),(∀ j,j<ops.size->L j=true)->C L w->AllT F L w->Q a w
 | _,[],_::_,_,_=>False
 | k,.inl v::ss,o::rest,a,F=>(∀ (L:Nat->Bool) (w:World),NowT md ops k L->C L w->KnownT F (depsOf md o) L w->OpGoal P ops (N k) (fun (u:Value) (_:World)=>u=v) o a w)/\WalkT P ops md C N Q (k+1) ss rest (a.put o.dst v) (F++[fun (_:Nat->Bool) (_:World)=>True])
 | k,.inr R::ss,o::rest,a,F=>(∀ (L:Nat->Bool) (w:World),NowT md ops k L->C L w->KnownT F (depsOf md o) L w->OpGoal P ops (N k) (R (updL L k)) o a w)/\∀ x,WalkT P ops md C N Q (k+1) ss rest (a.put o.dst x) (F++[fun L w=>R L x w])
def factsT (x:Nat->Value):Nat->List InvT->Nat->List LW
 | _,_,0=>[]
 | _,[],_+1=>[]
 | k,s::ss,i+1=>factT (x k) s::factsT x (k+1) ss i
def putT (x:Nat->Value):Nat->List InvT->List Oper->Nat->Act->Act
 | _,_,_,0,a=>a
 | _,[],_,_+1,a=>a
 | _,_,[],_+1,a=>a
 | k,s::ss,o::l,i+1,a=>putT x (k+1) ss l i (a.put o.dst (valT (x k) s))
theorem walkT_len {Q:Act->World->Prop}:∀ {l:List Oper} {k:Nat} {ss:List InvT} {a:Act} {F:List LW},WalkT P ops md C N Q k ss l a F->l.length<=ss.length
 | [],_,_,_,_,_=>Nat.zero_le _
 | _::_,_,[],_,_,h=>h.elim
 | _::_,_,.inl _::_,_,_,h=>Nat.succ_le_succ (walkT_len h.2)
 | _::_,_,.inr _::_,_,_,h=>Nat.succ_le_succ (walkT_len (h.2 undef))
theorem walkT_at {Q:Act->World->Prop} (x:Nat->Value):∀ {l:List Oper} {ss:List InvT} {a:Act} {F:List LW} (k:Nat),WalkT P ops md C N Q k ss l a F ->
  ∀ (i:Nat) (o:Oper) (s:InvT),l[i]?=some o->ss[i]?=some s->∀ (L:Nat->Bool) (w:World),NowT md ops (k+i) L->C L w->KnownT (F++factsT x k ss i) (depsOf md o) L w->OpGoal P ops (N (k+i)) (fun u w=>relT s (updL L (k+i)) u w) o (putT x k ss l i a) w
 | [],_,_,_,_,_,i,_,_,ho,_,_,_,_,_,_=>by simp at ho
 | _::_,[],_,_,_,h,_,_,_,_,_,_,_,_,_,_=>h.elim
 | o0::l,.inl v::ss,a,F,k,h,i,o,s,ho,hs,L,w,hn,hC,hk=>by
  cases i with
  | zero =>
   simp only [List.getElem?_cons_zero,Option.some.injEq] at ho hs
   subst ho hs
   simp only [factsT,List.append_nil] at hk
   simp only [putT]
   exact h.1 L w hn hC hk
  | succ i =>
   simp only [List.getElem?_cons_succ] at ho hs
   simp only [putT]
   have e:k+(i+1)=k+1+i:=by omega
   rw [e] at hn ⊢
   refine walkT_at x (k+1) h.2 i o s ho hs L w hn hC ?_
   simpa [factsT,factT] using hk
 | o0::l,.inr R::ss,a,F,k,h,i,o,s,ho,hs,L,w,hn,hC,hk=>by
  cases i with
  | zero =>
   simp only [List.getElem?_cons_zero,Option.some.injEq] at ho hs
   subst ho hs
   simp only [factsT,List.append_nil] at hk
   simp only [putT]
   exact h.1 L w hn hC hk
  | succ i =>
   simp only [List.getElem?_cons_succ] at ho hs
   simp only [putT]
   have e:k+(i+1)=k+1+i:=by omega
   rw [e] at hn ⊢
   refine walkT_at x (k+1) (h.2 (x k)) i o s ho hs L w hn hC ?_
   simpa [factsT,factT] using hk
theorem walkT_end {Q:Act->World->Prop} (x:Nat->Value):∀ {l:List Oper} {ss:List InvT} {a:Act} {F:List LW} (k:Nat),WalkT P ops md C N Q k ss l a F ->
  ∀ (L:Nat->Bool) (w:World),(∀ j,j<ops.size->L j=true)->C L w->AllT (F++factsT x k ss l.length) L w->Q (putT x k ss l l.length a) w
 | [],ss,a,F,k,h,L,w,hL,hC,hk=>by
  have h':∀ (L:Nat->Bool) (w:World),(∀ j,j<ops.size->L j=true)->C L w->AllT F L w->Q a w:=by
   cases ss with
   | nil=>exact h
   | cons s ss=>cases s<;>exact h
  simp only [List.length_nil,factsT,List.append_nil] at hk
  simpa [putT] using h' L w hL hC hk
 | _::_,[],_,_,_,h,_,_,_,_,_=>h.elim
 | o0::l,.inl v::ss,a,F,k,h,L,w,hL,hC,hk=>by
  simp only [List.length_cons,putT]
  refine walkT_end x (k+1) h.2 L w hL hC ?_
  simpa [factsT,factT] using hk
 | o0::l,.inr R::ss,a,F,k,h,L,w,hL,hC,hk=>by
  simp only [List.length_cons,putT]
  refine walkT_end x (k+1) (h.2 (x k)) L w hL hC ?_
  simpa [factsT,factT] using hk
theorem factsT_at (x:Nat->Value):∀ (ss:List InvT) (k i j:Nat),(factsT x k ss i)[j]?=if j<i then (ss[j]?).map (factT (x (k+j))) else none
 | [],k,0,j=>by simp [factsT]
 | [],k,i+1,j=>by simp [factsT]
 | s::ss,k,0,j=>by simp [factsT]
 | s::ss,k,i+1,0=>by simp [factsT]
 | s::ss,k,i+1,j+1=>by
  rw [factsT,List.getElem?_cons_succ,factsT_at x ss (k+1) i j]
  have:k+1+j=k+(j+1):=by omega
  simp [this]
theorem knownT_of (F:List LW) (L:Nat->Bool) (w:World):∀ (ds:List Nat),(∀ j∈ds,∀ f:LW,F[j]?=some f->f L w)->KnownT F ds L w
 | [],_=>trivial
 | j::ds,h=>⟨by
   cases hf:F[j]? with
   | none=>trivial
   | some f=>exact h j (by simp) f hf,knownT_of F L w ds (fun i hi=>h i (List.mem_cons_of_mem _ hi))⟩
theorem allT_of (L:Nat->Bool) (w:World):∀ (F:List LW),(∀ (j:Nat) (f:LW),F[j]?=some f->f L w)->AllT F L w
 | [],_=>trivial
 | f::F,h=>⟨h 0 f (by simp),allT_of L w F (fun j g hg=>h (j+1) g (by simpa using hg))⟩
theorem putT_size (x:Nat->Value):∀ (i:Nat) (l:List Oper) (ss:List InvT) (k:Nat) (a:Act),(putT x k ss l i a).tmps.size=a.tmps.size
 | 0,_,_,_,_=>by simp [putT]
 | i+1,_,[],_,_=>by simp [putT]
 | i+1,[],_::_,_,_=>by simp [putT]
 | i+1,o::l,s::ss,k,a=>by rw [putT,putT_size x i l ss,put_size]
theorem putT_defers (x:Nat->Value):∀ (i:Nat) (l:List Oper) (ss:List InvT) (k:Nat) (a:Act),(putT x k ss l i a).defers=a.defers
 | 0,_,_,_,_=>by simp [putT]
 | i+1,_,[],_,_=>by simp [putT]
 | i+1,[],_::_,_,_=>by simp [putT]
 | i+1,o::l,s::ss,k,a=>by rw [putT,putT_defers x i l ss,put_defers]
theorem putT_other (x:Nat->Value) (t:Nat):∀ (i:Nat) (l:List Oper) (ss:List InvT) (k:Nat) (a:Act),(∀ (j:Nat) (o:Oper),j<i->l[j]?=some o->o.dst≠some t)->(putT x k ss l i a).tmps[t]?=a.tmps[t]?
 | 0,_,_,_,_,_=>by simp [putT]
 | i+1,_,[],_,_,_=>by simp [putT]
 | i+1,[],_::_,_,_,_=>by simp [putT]
 | i+1,o::l,s::ss,k,a,h=>by
  rw [putT,putT_other x t i l ss _ _ (fun j o' hj ho=>h (j+1) o' (by omega) (by simpa using ho)),put_tmps _ _ _ _ (h 0 o (by omega) rfl)]
theorem putT_at (x:Nat->Value) (t:Nat):∀ (i:Nat) (l:List Oper) (ss:List InvT) (k:Nat) (a:Act) (j:Nat) (o:Oper) (s:InvT),j<i->l[j]?=some o->ss[j]?=some s->o.dst=some t ->
  (∀ (j':Nat) (o':Oper),j'<i->j'≠j->l[j']?=some o'->o'.dst≠some t)->t<a.tmps.size->(putT x k ss l i a).tmps[t]?=some (valT (x (k+j)) s)
 | 0,_,_,_,_,j,_,_,hj,_,_,_,_,_=>absurd hj (Nat.not_lt_zero _)
 | i+1,_,[],_,_,j,_,_,_,_,hs,_,_,_=>by simp at hs
 | i+1,[],_::_,_,_,j,_,_,_,ho,_,_,_,_=>by simp at ho
 | i+1,o0::l,s0::ss,k,a,0,o,s,_,ho,hs,hd,hx,ht=>by
  simp only [List.getElem?_cons_zero,Option.some.injEq] at ho hs
  subst ho hs
  rw [putT,putT_other x t i l ss _ _ (fun j o' hj ho=>hx (j+1) o' (by omega) (by omega) (by simpa using ho)),hd,put_here _ _ _ ht]
  rfl
 | i+1,o0::l,s0::ss,k,a,j+1,o,s,hj,ho,hs,hd,hx,ht=>by
  simp only [List.getElem?_cons_succ] at ho hs
  rw [putT,putT_at x t i l ss (k+1) _ j o s (by omega) ho hs hd (fun j' o' h1 h2 h3=>hx (j'+1) o' (by omega) (by omega) (by simpa using h3)) (by rw [put_size];exact ht)]
  have:k+1+j=k+(j+1):=by omega
  rw [this]
def lof (listed:Array Bool):Nat->Bool:=fun j=>listed.getD j false
structure InvL (md:Region.Mode) (C:LW) (ss:List InvT) (l:List Oper) (a0:Act) (listed:Array Bool) (a:Act) (w:World) (x:Nat->Value):Prop where
 c:C (lof listed) w
 sz:a.tmps.size=a0.tmps.size
 df:a.defers=a0.defers
 ls:listed.size=l.length
 val:∀ (j:Nat) (o:Oper) (d:Tmp) (s:InvT),listed.getD j false=true->l[j]?=some o->ss[j]?=some s->o.dst=some d->a.tmps[d]?=some (valT (x j) s)
 fact:∀ (j:Nat) (s:InvT),listed.getD j false=true->ss[j]?=some s->factT (x j) s (lof listed) w
 old:∀ d:Tmp,(∀ (j:Nat) (o:Oper),listed.getD j false=true->l[j]?=some o->o.dst≠some d)->a.tmps[d]?=a0.tmps[d]?
 shut:∀ (j:Nat) (o:Oper),listed.getD j false=true->l[j]?=some o->∀ i∈depsOf md o,listed.getD i false=true
theorem InvL.eq {ss:List InvT} {l:List Oper} {a0 a:Act} {listed:Array Bool} {w:World} {x:Nat->Value} (h:InvL md C ss l a0 listed a w x) (hB:ChkI md l a0.tmps.size) (hls:l.length<=ss.length) (hall:∀ j,j<l.length->listed.getD j false=true) :
  a=putT x 0 ss l l.length a0:=by
 have ht:a.tmps=(putT x 0 ss l l.length a0).tmps:=by
  apply Array.ext_getElem?
  intro t
  by_cases hd:∃ (j:Nat) (o:Oper),l[j]?=some o/\o.dst=some t
  ·obtain ⟨j,o,hj,hdo⟩:=hd
   have hjl:j<l.length:=(List.getElem?_eq_some_iff.1 hj).1
   obtain ⟨s,hs⟩:∃ s,ss[j]?=some s:=⟨ss[j]'(by omega),List.getElem?_eq_getElem _⟩
   rw [h.val j o t s (hall j hjl) hj hs hdo,putT_at x t l.length l ss 0 a0 j o s hjl hj hs hdo (fun j' o' _ hne ho' hd'=>hne (hB.one j o j' o' t hj ho' hdo hd')) (hB.dst j o t hj hdo)]
   simp
  ·rw [h.old t (fun j o _ hj hdo=>hd ⟨j,o,hj,hdo⟩),putT_other x t l.length l ss 0 a0 (fun j o _ hj hdo=>hd ⟨j,o,hj,hdo⟩)]
 have hdf:a.defers=(putT x 0 ss l l.length a0).defers:=by rw [h.df,putT_defers]
 cases a
 generalize putT x 0 ss l l.length a0=b at *
 cases b
 simp only at ht hdf
 rw [ht,hdf]
theorem InvL.same {ss:List InvT} {l:List Oper} {a0 a:Act} {listed:Array Bool} {w:World} {x:Nat->Value} (h:InvL md C ss l a0 listed a w x) (hB:ChkI md l a0.tmps.size) (hls:l.length<=ss.length)
  {i:Nat} {o:Oper} (hi:l[i]?=some o) (hu:listed.getD i false=false) (hr:∀ j∈depsOf md o,listed.getD j false=true):∀ t∈o.looksAt l.toArray,a.tmps[t]?=(putT x 0 ss l i a0).tmps[t]?:=by
 intro t ht
 by_cases hd:∃ (j:Nat) (o':Oper),j<i/\l[j]?=some o'/\o'.dst=some t
 ·obtain ⟨j,o',hji,hj,hdo⟩:=hd
  have hjl:j<l.length:=(List.getElem?_eq_some_iff.1 hj).1
  obtain ⟨s,hs⟩:∃ s,ss[j]?=some s:=⟨ss[j]'(by omega),List.getElem?_eq_getElem _⟩
  have hdep:=(hB.rd i o j o' t hi hj (by omega) hdo ht).1 hji
  rw [h.val j o' t s (hr j hdep) hj hs hdo,putT_at x t i l ss 0 a0 j o' s hji hj hs hdo (fun j' o'' _ hne ho' hd'=>hne (hB.one j o' j' o'' t hj ho' hdo hd')) (hB.dst j o' t hj hdo)]
  simp
 ·rw [putT_other x t i l ss 0 a0 (fun j o' hji hj hdo=>hd ⟨j,o',hji,hj,hdo⟩)]
  refine h.old t (fun j o' hl hj hdo=>?_)
  rcases Nat.lt_trichotomy j i with hji | hji | hji
  ·exact hd ⟨j,o',hji,hj,hdo⟩
  ·subst hji;rw [hu] at hl;cases hl
  ·have hdep:=(hB.rd i o j o' t hi hj (by omega) hdo ht).2 hji
   have:=h.shut j o' hl hj i hdep
   rw [hu] at this
   cases this
theorem InvL.step {ss:List InvT} {l:List Oper} {a0 a:Act} {listed:Array Bool} {w w':World} {x:Nat->Value} (h:InvL md C ss l a0 listed a w x) (hB:ChkI md l a0.tmps.size) (_hls:l.length<=ss.length)
  (hst:∀ (j:Nat) (s:InvT),ss[j]?=some s->∀ (i:Nat) (L:Nat->Bool) u w w',NowT md l.toArray i L->L j=true->N i w w'->relT s L u w->relT s (updL L i) u w') (hN:∀ (i:Nat) (L:Nat->Bool) w w',NowT md l.toArray i L->C L w->N i w w'->C (updL L i) w')
  {i:Nat} {o:Oper} {s:InvT} {v:Value} (hi:l[i]?=some o) (hs:ss[i]?=some s) (hu:listed.getD i false=false) (hr:∀ j∈depsOf md o,listed.getD j false=true) (n:N i w w') (hv:relT s (updL (lof listed) i) v w') :
  ∃ x',InvL md C ss l a0 (listed.setIfInBounds i true) (a.put o.dst v) w' x':=by
 have hil:i<l.length:=(List.getElem?_eq_some_iff.1 hi).1
 have hix:i<listed.size:=by rw [h.ls];exact hil
 refine ⟨fun j=>if j=i then v else x j,?_⟩
 have hmem:∀ j,(listed.setIfInBounds i true).getD j false=true->j=i\/(j≠i/\listed.getD j false=true):=by
  intro j hj
  by_cases e:j=i
  ·exact .inl e
  ·rw [getD_set_ne false (fun e'=>e e'.symm)] at hj
   exact .inr ⟨e,hj⟩
 have hmem2:∀ j,listed.getD j false=true->(listed.setIfInBounds i true).getD j false=true:=by
  intro j hj
  by_cases e:j=i
  ·subst e;exact getD_set_self hix false
  ·rw [getD_set_ne false (fun e'=>e e'.symm)];exact hj
 have hnow:NowT md l.toArray i (lof listed):=by
  refine ⟨hu,fun j o' hj hc=>?_⟩
  cases hlj:lof listed j with
  | false=>rfl
  | true =>
   have:=h.shut j o' hlj (by simpa using hj) i (by simpa using hc)
   rw [hu] at this
   cases this
 have hlof:lof (listed.setIfInBounds i true)=updL (lof listed) i:=by
  funext j
  unfold lof updL
  by_cases e:j=i
  ·subst e;rw [if_pos rfl];exact getD_set_self hix false
  ·rw [if_neg e];exact getD_set_ne false (fun e'=>e e'.symm)
 have keepF:∀ (j:Nat) (y:Value) (s':InvT),listed.getD j false=true->ss[j]?=some s'->factT y s' (lof listed) w->factT y s' (updL (lof listed) i) w':=by
  intro j y s' hj hs' hf
  cases s' with
  | inl _=>trivial
  | inr R=>exact hst j _ hs' i (lof listed) y w w' hnow hj n hf
 refine ⟨by rw [hlof];exact hN i _ _ _ hnow h.c n,by rw [put_size,h.sz],by rw [put_defers,h.df],by simp [h.ls],?_,?_,?_,?_⟩
 ·intro j o' d s' hj ho' hs' hd
  rcases hmem j hj with rfl | ⟨hne,hj'⟩
  ·rw [hi] at ho';cases ho'
   rw [hs] at hs';cases hs'
   rw [hd,put_here _ _ _ (by rw [h.sz];exact hB.dst j o d hi hd)]
   simp only [if_true]
   cases s with
   | inl v0=>simp only [relT] at hv;simp [valT,hv]
   | inr R=>rfl
  ·rw [if_neg hne,put_tmps _ _ _ _ (fun e=>hne (hB.one i o j o' d hi ho' e hd))]
   exact h.val j o' d s' hj' ho' hs' hd
 ·intro j s' hj hs'
  rcases hmem j hj with rfl | ⟨hne,hj'⟩
  ·rw [hs] at hs';cases hs'
   simp only [if_true]
   cases s with
   | inl v0=>trivial
   | inr R=>rw [hlof];exact hv
  ·simp only [if_neg hne]
   rw [hlof]
   exact keepF j _ _ hj' hs' (h.fact j s' hj' hs')
 ·intro d hd;rw [put_tmps _ _ _ _ (hd i o (getD_set_self hix false) hi)]
  exact h.old d (fun j o' hj ho'=>hd j o' (hmem2 j hj) ho')
 ·intro j o' hj ho' k hk
  rcases hmem j hj with rfl | ⟨hne,hj'⟩
  ·rw [hi] at ho';cases ho'
   exact hmem2 k (hr k hk)
  ·exact hmem2 k (h.shut j o' hj' ho' k hk)
theorem wpAny_invL {ss:List InvT} {l:List Oper} {a0:Act} {Q:Act->World->Prop} {Q':Exit->Act->World->Prop} (hQ:∀ a w,Q a w->Q' .normal a w) (hB:ChkI md l a0.tmps.size) (hsel:Region.noSelect l.toArray=true)
  (hst:∀ (j:Nat) (s:InvT),ss[j]?=some s->∀ (i:Nat) (L:Nat->Bool) u w w',NowT md l.toArray i L->L j=true->N i w w'->relT s L u w->relT s (updL L i) u w') (hN:∀ (i:Nat) (L:Nat->Bool) w w',NowT md l.toArray i L->C L w->N i w w'->C (updL L i) w') (hrf:(l.all (fun o=>o.guard.isNone))=true\/∀ i w,N i w w)
  (hW:WalkT P l.toArray md C N Q 0 ss l a0 []):∀ (fuel:Nat) (listed:Array Bool) (a:Act) (w:World) (x:Nat->Value),InvL md C ss l a0 listed a w x->unlF (fun j=>listed.getD j false) l.length<=fuel ->
  wpAny P md l.toArray Q' fuel listed a w:=by
 have hls:=walkT_len hW
 have hend:∀ (listed:Array Bool) (a:Act) (w:World) (x:Nat->Value),InvL md C ss l a0 listed a w x->(∀ j,j<l.length->listed.getD j false=true)->Q' .normal a w:=by
  intro listed a w x h hall;rw [h.eq hB hls hall]
  refine hQ _ _ (walkT_end x 0 hW (lof listed) w (fun j hj=>hall j (by simpa using hj)) h.c ?_)
  refine allT_of _ w _ (fun j f hf=>?_)
  rw [List.nil_append,factsT_at] at hf
  by_cases hj:j<l.length
  ·rw [if_pos hj] at hf
   obtain ⟨s,hs⟩:∃ s,ss[j]?=some s:=⟨ss[j]'(by omega),List.getElem?_eq_getElem _⟩
   rw [hs] at hf
   simp only [Option.map_some,Option.some.injEq,Nat.zero_add] at hf
   rw [<- hf]
   exact h.fact j s (hall j hj) hs
  ·rw [if_neg hj] at hf;cases hf
 have hnil:∀ (listed:Array Bool),listed.size=l.length->Region.ready md l.toArray listed=[]->∀ n j,j<n->j<l.length->listed.getD j false=true:=by
  intro listed hsz hr n
  induction n with
  | zero=>intro j hj;exact absurd hj (Nat.not_lt_zero _)
  | succ n ih =>
   intro j hj hjl
   cases hc:listed.getD j false with
   | true=>rfl
   | false =>
    exfalso
    have hjs:j<listed.size:=by omega
    obtain ⟨o,ho⟩:∃ o,l[j]?=some o:=⟨l[j],List.getElem?_eq_getElem _⟩
    have:j∈Region.ready md l.toArray listed:=mem_ready.2 ⟨by rw [getD_any hjs true false];exact hc,o,by simpa using ho,fun e he hb=>by
     have hd:e.on∈depsOf md o:=List.mem_map.2 ⟨e,List.mem_filter.2 ⟨by simpa using he,hb⟩,rfl⟩
     have hlt:=hB.low j o ho e.on hd
     exact ih e.on (by omega) (by omega)⟩
    rw [hr] at this
    cases this
 intro fuel
 induction fuel with
 | zero =>
  intro listed a w x h hf
  have hall:=unl_zero (fun j=>listed.getD j false) l.length (by omega)
  refine ⟨?_,hend listed a w x h hall⟩
  apply List.eq_nil_iff_forall_not_mem.2
  intro i hi;obtain ⟨h0,o,ho,_⟩:=mem_ready.1 hi
  have hil:i<l.length:=by simpa using (Array.getElem?_eq_some_iff.1 ho).1
  have h1:listed.getD i false=true:=hall i hil
  rw [getD_any (by rw [h.ls];exact hil) true false,h1] at h0
  cases h0
 | succ fuel ih =>
  intro listed a w x h hf
  refine ⟨fun hr=>hend listed a w x h (fun j hj=>hnil listed h.ls hr (j+1) j (by omega) hj),?_⟩
  intro i hi;obtain ⟨h0,o,ho,hrd⟩:=mem_ready.1 hi
  have hi':l[i]?=some o:=by simpa using ho
  have hil:i<l.length:=(List.getElem?_eq_some_iff.1 hi').1
  have hix:i<listed.size:=by rw [h.ls];exact hil
  have hu:listed.getD i false=false:=by rw [getD_any hix false true];exact h0
  have hr:∀ j∈depsOf md o,listed.getD j false=true:=by
   intro j hj;obtain ⟨e,he,rfl⟩:=List.mem_map.1 hj;obtain ⟨he1,he2⟩:=List.mem_filter.1 he
   exact hrd e (by simpa using he1) he2
  obtain ⟨s,hs⟩:∃ s,ss[i]?=some s:=⟨ss[i]'(by omega),List.getElem?_eq_getElem _⟩
  have hk:KnownT ([]++factsT x 0 ss i) (depsOf md o) (lof listed) w:=by
   refine knownT_of _ _ w _ (fun j hj f hfj=>?_)
   rw [List.nil_append,factsT_at] at hfj
   by_cases hji:j<i
   ·rw [if_pos hji] at hfj
    obtain ⟨s',hs'⟩:∃ s,ss[j]?=some s:=⟨ss[j]'(by omega),List.getElem?_eq_getElem _⟩
    rw [hs'] at hfj
    simp only [Option.map_some,Option.some.injEq,Nat.zero_add] at hfj
    rw [<- hfj]
    exact h.fact j s' (hr j hj) hs'
   ·rw [if_neg hji] at hfj;cases hfj
  have hnow:NowT md l.toArray (0+i) (lof listed):=by
   rw [Nat.zero_add]
   refine ⟨hu,fun j o' hj hc=>?_⟩
   cases hlj:lof listed j with
   | false=>rfl
   | true =>
    have:=h.shut j o' hlj (by simpa using hj) i (by simpa using hc)
    rw [hu] at this
    cases this
  have hg:=walkT_at x 0 hW i o s hi' hs (lof listed) w hnow h.c hk
  rw [Nat.zero_add] at hg
  have hsame:=h.same hB hls hi' hu hr
  have hsl:∀ cs b,o.op≠.select cs b:=fun cs b=>Region.noSelect_spec hsel i o cs b ho
  have hun:∀ listed':Array Bool,listed'=listed.setIfInBounds i true->unlF (fun j=>listed'.getD j false) l.length<=fuel:=by
   rintro _ rfl
   have:=unl_step (fun j=>listed.getD j false) (fun j=>(listed.setIfInBounds i true).getD j false) i hu (getD_set_self hix false) (fun j hj=>getD_set_ne false (fun e=>hj e.symm)) l.length hil
   omega
  unfold wpOp
  simp only [ho]
  unfold OpGoal at hg;rw [<- wanted_same hsame] at hg
  split
  ·rename_i hw
   rw [if_pos hw] at hg
   left
   refine wp_of_eff ?_
   have he:=eff_of_goal hg
   unfold effAt at he ⊢
   rw [execOp_congr o hsl (eval_same hsame)]
   refine effUpon_mono ?_ he
   rintro u w' ⟨v,huv,hn,hv⟩
   have hput:a.put o.dst u=a.put o.dst v:=by
    cases hd:o.dst with
    | none=>rfl
    | some d =>
     have h1:=congrArg (fun b:Act=>b.tmps[d]?) huv
     simp only [hd] at h1
     rw [put_here _ _ _ (by rw [putT_size];exact hB.dst i o d hi' hd),put_here _ _ _ (by rw [putT_size];exact hB.dst i o d hi' hd)] at h1
     cases h1
     rfl
   rw [hput];obtain ⟨x',h'⟩:=h.step hB hls hst hN hi' hs hu hr hn hv
   exact ih _ _ _ x' h' (hun _ rfl)
  ·rename_i hw
   rw [if_neg hw] at hg
   have hnn:N i w w:=by
    rcases hrf with hg0 | hrf
    ·exfalso
     have hgn:=List.all_eq_true.1 hg0 o (List.mem_of_getElem? hi')
     exact hw (wanted_free (by simpa using hgn) _)
    ·exact hrf i w
   obtain ⟨x',h'⟩:=h.step hB hls hst hN hi' hs hu hr hnn hg
   exact ih _ _ _ x' h' (hun _ rfl)
theorem wp_region_invL {id:Nat} {Q:Exit->Act->World->Prop} {a:Act} {w:World} {l:List Oper} (ss:List InvT) (C:LW) (N:Nat->World->World->Prop) (hm:P.follows .mixedOrders=true) (hB:chkI .any l a.tmps.size=true) (hsel:Region.noSelect l.toArray=true) (hC:C (fun _=>false) w.drew)
  (hst:∀ (j:Nat) (s:InvT),ss[j]?=some s->∀ (i:Nat) (L:Nat->Bool) u w w',NowT .any l.toArray i L->L j=true->N i w w'->relT s L u w->relT s (updL L i) u w') (hN:∀ (i:Nat) (L:Nat->Bool) w w',NowT .any l.toArray i L->C L w->N i w w'->C (updL L i) w') (hrf:(l.all (fun o=>o.guard.isNone))=true\/∀ i w,N i w w)
  (h:WalkT P l.toArray .any C N (fun a' w'=>Q .normal a' w') 0 ss l a []):(Code.region id l.toArray true).wp P Q a w:=by
 refine wp_region_any hm ?_
 refine wpAny_invL (C:=C) (N:=N) (ss:=ss) (l:=l) (a0:=a) (Q:=fun a' w'=>Q .normal a' w') (fun _ _ h=>h) (chk_spec hB) hsel hst hN hrf h _ _ a w.drew (fun _=>undef) ⟨?_,rfl,rfl,by simp,?_,?_,?_,?_⟩ ?_
 ·have:lof (Array.replicate l.toArray.size false)=fun _=>false:=by
   funext j
   simp only [lof,Array.getD_eq_getD_getElem?,Array.getElem?_replicate]
   split<;>rfl
  rw [this];exact hC
 ·intro j o d s hj
  exfalso
  revert hj
  simp [Array.getElem?_replicate]
  split<;>simp
 ·intro j s hj
  exfalso
  revert hj
  simp [Array.getElem?_replicate]
  split<;>simp
 ·intro d _;rfl
 ·intro j o hj
  exfalso
  revert hj
  simp [Array.getElem?_replicate]
  split<;>simp
 ·have:unlF (fun j=>(Array.replicate l.toArray.size false).getD j false) l.length=l.length:=by
   refine (unl_same _ (fun _=>false) _ (fun j hj=>?_)).trans (unl_all l.length)
   simp [Array.getElem?_replicate]
   split<;>simp
  rw [this]
  simp
theorem invT_det {Q:Act->World->Prop} {k:Nat} {ss:List InvT} {o:Oper} {rest:List Oper} {a:Act} {F:List LW} {v:Value} (hgd:o.guard=none)
  (h:∀ (L:Nat->Bool) (w:World),NowT md ops k L->C L w->KnownT F (depsOf md o) L w->∀ K:Act->World->Prop,(∀ a' w' v',a'=a.put o.dst v'->N k w w'->v'=v->K a' w')->o.wp P a w K (fun _ _ _=>False))
  (hr:WalkT P ops md C N Q (k+1) ss rest (a.put o.dst v) (F++[fun (_:Nat->Bool) (_:World)=>True])):WalkT P ops md C N Q k (.inl v::ss) (o::rest) a F :=
 ⟨fun L w hn hC hk=>by unfold OpGoal;rw [if_pos (wanted_free hgd _)];exact h L w hn hC hk,hr⟩
theorem invT_any {Q:Act->World->Prop} {k:Nat} {ss:List InvT} {o:Oper} {rest:List Oper} {a:Act} {F:List LW} {R:(Nat->Bool)->Value->World->Prop} (hgd:o.guard=none)
  (h:∀ (L:Nat->Bool) (w:World),NowT md ops k L->C L w->KnownT F (depsOf md o) L w->∀ K:Act->World->Prop,(∀ a' w' v',a'=a.put o.dst v'->N k w w'->R (updL L k) v' w'->K a' w')->o.wp P a w K (fun _ _ _=>False))
  (hr:∀ x,WalkT P ops md C N Q (k+1) ss rest (a.put o.dst x) (F++[fun L w=>R L x w])):WalkT P ops md C N Q k (.inr R::ss) (o::rest) a F :=
 ⟨fun L w hn hC hk=>by unfold OpGoal;rw [if_pos (wanted_free hgd _)];exact h L w hn hC hk,hr⟩
theorem invT_nil {Q:Act->World->Prop} {k:Nat} {ss:List InvT} {a:Act} {F:List LW} (h:∀ (L:Nat->Bool) (w:World),(∀ j,j<ops.size->L j=true)->C L w->AllT F L w->Q a w):WalkT P ops md C N Q k ss [] a F:=by
 cases ss with
 | nil=>exact h
 | cons s ss=>cases s<;>exact h
theorem knownT_mem {F:List LW} {L:Nat->Bool} {w:World}:∀ {ds:List Nat},KnownT F ds L w->∀ j,ds.contains j=true->(F[j]?.getD (fun _ _=>True)) L w
 | [],_,j,hj=>by simp at hj
 | i::ds,h,j,hj=>by
  rw [List.contains_cons,Bool.or_eq_true] at hj
  rcases hj with hj | hj
  ·have:j=i:=by simpa using hj
   subst this;exact h.1
  ·exact knownT_mem h.2 j hj
theorem allT_mem {F:List LW} {L:Nat->Bool} {w:World} (h:AllT F L w):∀ (j:Nat),(F[j]?.getD (fun _ _=>True)) L w:=by
 induction F with
 | nil=>intro j;simp
 | cons f F ih =>
  intro j
  cases j with
  | zero=>exact h.1
  | succ j=>simpa using ih h.2 j
def StableT (md:Region.Mode) (ops:Array Oper) (N:Nat->World->World->Prop):Nat->List InvT->Prop
 | _,[]=>True
 | k,.inl _::l=>StableT md ops N (k+1) l
 | k,.inr R::l=>(∀ (i:Nat) (L:Nat->Bool) u w w',NowT md ops i L->L k=true->N i w w'->R L u w->R (updL L i) u w')/\StableT md ops N (k+1) l
theorem stableT_of:∀ {ss:List InvT} {k:Nat},StableT md ops N k ss->∀ (j:Nat) (s:InvT),ss[j]?=some s->∀ (i:Nat) (L:Nat->Bool) u w w',NowT md ops i L->L (k+j)=true->N i w w'->relT s L u w->relT s (updL L i) u w'
 | [],_,_,j,s,hs,_,_,_,_,_,_,_,_,_=>by simp at hs
 | .inl v::l,k,h,0,s,hs,i,L,u,w,w',hn,hk,n,hr=>by
  simp only [List.getElem?_cons_zero,Option.some.injEq] at hs
  subst hs;exact hr
 | .inl v::l,k,h,j+1,s,hs,i,L,u,w,w',hn,hk,n,hr=>by
  have e:k+(j+1)=k+1+j:=by omega
  rw [e] at hk
  exact stableT_of (ss:=l) (k:=k+1) h j s (by simpa using hs) i L u w w' hn hk n hr
 | .inr R::l,k,h,0,s,hs,i,L,u,w,w',hn,hk,n,hr=>by
  simp only [List.getElem?_cons_zero,Option.some.injEq] at hs
  subst hs;exact h.1 i L u w w' hn hk n hr
 | .inr R::l,k,h,j+1,s,hs,i,L,u,w,w',hn,hk,n,hr=>by
  have e:k+(j+1)=k+1+j:=by omega
  rw [e] at hk
  exact stableT_of (ss:=l) (k:=k+1) h.2 j s (by simpa using hs) i L u w w' hn hk n hr
end
theorem run_append_row {P:Program} (w:World) (t ty e:TypeId) (i:TypeInfo) (z:Value) (size bytes:Nat) (ht:P.underlying t=some (.slice e)) (hi:P.info? e=some i) (hz:i.zero=some z)
  (hsize:i.size=size) (hby:i.bytes=bytes) (hzs:z.cells.size=size) (hsz:0<size)
  (v:Value) (n:Nat) (xs:List Value) (hown:Sl w e size v n xs) (u:Value) (m:Nat) (ys:List Value) (harg:Sl w e size u m ys) (h1:∀ u∈ys,u.oneCell'=true)
  (h63:n+m<=maxLen) (hbytes:(n+m)*bytes<=140737488355328) :
  ∃ v' w',(Builtin.append_ #[t,t] ty #[v,u]).run P w=.ok v' w'/\Sl w' e size v' (n+m) (xs++ys)/\Mods (fun k=>v.ownBlock=some k) w w'/\(∀ k,v'.ownBlock=some k->v.ownBlock=some k\/w.heap.size<=k):=by
 rcases harg.2 with ⟨rfl,rfl⟩ | ⟨g,cap,cur,rfl,_,hg,hn,hm,hcs,htk⟩
 ·have hy:ys=[]:=List.length_eq_zero_iff.1 (by rw [harg.1];omega)
  subst hy;obtain ⟨o,c,hv,h2⟩:=hown.view
  have hle:n<=c:=by
   rcases hown.2 with ⟨rfl,rfl⟩ | ⟨g,cap,cur,rfl,_,hg,hn,hm,hcs,htk⟩
   ·exact Nat.zero_le _
   ·cases hv;exact hn
  subst hv
  have:=run_append_nothing (P:=P) w t t ty e i ht hi o n c hle (.slice none 0 0) (Src.ofNil w ht 0)
  exact ⟨_,_,this,by rw [List.append_nil];exact hown,Mods.refl _ _,fun k hk=>.inl hk⟩
 ·refine run_append_sl (P:=P) w t ty e i z size bytes ht hi hz hsize hby hzs hsz v n xs hown ⟨g,0,none⟩ m cap ys harg.1 ?_ h1 h63 hbytes
  intro j x hx
  have hb:Blk w g cur e:=hg
  have hadd:(⟨g,0,none⟩:Addr).add j=⟨g,j,none⟩:=by unfold Addr.add;split<;>simp_all
  have hj:j<ys.length:=(List.getElem?_eq_some_iff.1 hx).1
  rw [hadd,take_cell hb htk j (by rw [<- harg.1];exact hj),hx]
theorem wpList_append_row {P:Program} (w:World) {ops:Array Oper} {rest:List Oper} {o:Oper} {a:Act} {Q:Exit->Act->World->Prop} (hgd:o.guard=none) (s x:Operand) (t:TypeId)
  (ho:o.op=.call { callee:=.builtin .append,args:=#[s,x],argTypes:=#[t,t] })
  (e:TypeId) (i:TypeInfo) (z:Value) (size bytes:Nat) (ht:P.underlying t=some (.slice e)) (hi:P.info? e=some i) (hz:i.zero=some z)
  (hsize:i.size=size) (hby:i.bytes=bytes) (hzs:z.cells.size=size) (hsz:0<size)
  (v:Value) (n:Nat) (xs:List Value) (hs:a.eval s=v) (hown:Sl w e size v n xs) (u:Value) (m:Nat) (ys:List Value) (hx:a.eval x=u) (harg:Sl w e size u m ys) (h1:∀ u∈ys,u.oneCell'=true)
  (h63:n+m<=maxLen) (hbytes:(n+m)*bytes<=140737488355328)
  (h:∀ v' w',Sl w' e size v' (n+m) (xs++ys)->Mods (fun k=>v.ownBlock=some k) w w'->(∀ k,v'.ownBlock=some k->v.ownBlock=some k\/w.heap.size<=k)->wpList P ops Q rest (a.put o.dst v') w'):wpList P ops Q (o::rest) a w:=by
 refine wpList_plain hgd fun _ hK=>?_
 obtain ⟨v',w',hr,h2,h3,h4⟩:=run_append_row (P:=P) w t o.type e i z size bytes ht hi hz hsize hby hzs hsz v n xs hown u m ys harg h1 h63 hbytes
 unfold Oper.wp execOp
 simp only [ho,resolve,invoke,builtin,Sem.run_bind,Sem.run_pure,Result.andThen_ok,List.map_toArray,List.map_cons,List.map_nil,hs,hx,hr]
 exact hK _ _ (h v' w' h2 h3 h4)
theorem flat_bd {α β:Type} (f:α->List β) (n:Nat):∀ (l:List α),(∀ x∈l,(f x).length<=n)->(l.flatMap f).length<=l.length*n
 | [],_=>by simp
 | x::l,h=>by
  rw [List.flatMap_cons,List.length_append,List.length_cons,Nat.succ_mul]
  have h1:=h x (by simp)
  have h2:=flat_bd f n l (fun y hy=>h y (by simp [hy]))
  omega
theorem take_flat {α β:Type} (f:α->List β) (l:List α) (k:Nat) (h:k<l.length):(l.take (k+1)).flatMap f=(l.take k).flatMap f++f l[k]:=by
 rw [List.take_add_one,List.flatMap_append]
 simp [h]
end Go.Proofs.YtoknbkfclhmapaaGreatDoor
