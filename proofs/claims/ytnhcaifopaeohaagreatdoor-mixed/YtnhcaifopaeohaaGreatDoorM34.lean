import Derived.Test.YtnhcaifopaeohaaGreatDoorM15
import Derived.Test.YtnhcaifopaeohaaGreatDoorM05
namespace Go.Proofs.YtnhcaifopaeohaaGreatDoor
set_option linter.all false

section
variable {P : Program} {ops : Array Oper} {md : Region.Mode} {C : World -> Prop} {es : List Nat}
def wpAnyT (P:Program) (md:Region.Mode) (ops:Array Oper) (C:World->Prop) (es:List Nat) (n:Nat) (L:Array Bool->Act->World->Prop):Nat->Array Bool->Act->World->Prop
 | 0,listed,a,w=>L listed a w
 | f+1,listed,a,w=>Region.ready md ops listed≠[]/\∀ i∈Region.ready md ops listed,i<n/\mOp P ops C es i (wpAnyT P md ops C es n L f (listed.setIfInBounds i true)) a w
theorem wpAny_of_headT {n g:Nat} {L:Array Bool->Act->World->Prop} {Q':Exit->Act->World->Prop} (hL:∀ listed a w,C w->L listed a w->wpAny P md ops Q' g listed a w) :
  ∀ (f:Nat) (listed:Array Bool) (a:Act) (w:World),C w->wpAnyT P md ops C es n L f listed a w->wpAny P md ops Q' (f+g) listed a w
 | 0,listed,a,w,hC,h=>by rw [Nat.zero_add];exact hL _ _ _ hC h
 | f+1,listed,a,w,hC,h=>by
  rw [show f+1+g=(f+g)+1 by omega]
  exact ⟨fun h0=>absurd h0 h.1,fun i hi=>wpOp_of_mOp hC (fun a' w' hC' h'=>wpAny_of_headT hL f _ a' w' hC' h') (h.2 i hi).2⟩
theorem wpAnyT_first {n i:Nat} {oi:Oper} {v:Value} {L:Array Bool->Act->World->Prop} (hi:ops[i]?=some oi) (hsel:∀ (j:Nat) (o:Oper) cs b,ops[j]?=some o->o.op≠.select cs b)
  (hs:Region.sinkB md ops n=true) (hc:Region.chainB md ops n=true) (hn:n<ops.size) (hin:i<n)
  (hdone:∀ listed a w,L listed a w->∀ j∈Region.ready md ops listed,n<=j)
  (hE:∀ (K:Act->World->Prop) (a:Act) (w:World),C w->YieldsM P ops C oi v a->K (a.put oi.dst v) w->mOp P ops C es i K a w) :
  ∀ (f:Nat) (listed:Array Bool) (a:Act) (w:World),HeadInv md ops n listed ->
   (∀ j oj,ops[j]?=some oj->j≠i->listed.getD j true=false->(∀ e∈oj.after,Region.binds md e=true->e.on≠i)->oi.apart ops oj=true) ->
   i∈Region.ready md ops listed->C w->YieldsM P ops C oi v a ->
   wpAnyT P md ops C es n L f (listed.setIfInBounds i true) (a.put oi.dst v) w->wpAnyT P md ops C es n L (f+1) listed a w:=by
 intro f
 induction f with
 | zero =>
  intro listed a w inv _ hr hC hy H
  have hun:=(mem_ready.1 hr).1
  refine ⟨fun h=>(by rw [h] at hr;cases hr),fun j hj=>?_⟩
  have hjn:j<n:=by
   rcases Nat.lt_or_ge j n with h | h
   ·exact h
   ·exact absurd hj (tail_waits hs hc hn inv _ i rfl hin hun j h)
  refine ⟨hjn,?_⟩
  by_cases hji:j=i
  ·subst hji;exact hE _ _ _ hC hy H
  ·have:=hdone _ _ _ H j (ready_mono hj hji)
   omega
 | succ f ih =>
  intro listed a w inv hfree hr hC hy H
  have hun:=(mem_ready.1 hr).1
  refine ⟨fun h=>(by rw [h] at hr;cases hr),fun j hj=>?_⟩
  have hjn:j<n:=by
   rcases Nat.lt_or_ge j n with h | h
   ·exact h
   ·exact absurd hj (tail_waits hs hc hn inv _ i rfl hin hun j h)
  refine ⟨hjn,?_⟩
  by_cases hji:j=i
  ·subst hji;exact hE _ _ _ hC hy H
  ·have h1:=(H.2 j (ready_mono hj hji)).2
   obtain ⟨hjun,oj,hoj,hall⟩:=mem_ready.1 hj
   have hnot:=ready_not hr hall
   have h2:=mOp_put hoj (hfree j oj hoj hji hjun hnot) (fun cs b=>hsel i oi cs b hi) (fun cs b=>hsel j oj cs b hoj) hy h1
   have hfree':∀ k ok,ops[k]?=some ok->k≠i->(listed.setIfInBounds j true).getD k true=false ->
     (∀ e∈ok.after,Region.binds md e=true->e.on≠i)->oi.apart ops ok=true:=fun k ok hk hki hun hno=>by
    refine hfree k ok hk hki ?_ hno
    by_cases hjk:j=k
    ·subst hjk;exact hjun
    ·rw [getD_set_ne true hjk] at hun;exact hun
   refine mOp_mono hC (fun a' w' hC' h3=>ih (listed.setIfInBounds j true) a' w' (inv.set hj hjn) hfree' (ready_mono hr (Ne.symm hji)) hC' h3.1 ?_) h2
   rw [Array.setIfInBounds_comm _ _ hji];exact h3.2
theorem wpAnyT_act {n i:Nat} {oi:Oper} {L:Array Bool->Act->World->Prop} (hi:ops[i]?=some oi) (hsel:∀ (j:Nat) (o:Oper) cs b,ops[j]?=some o->o.op≠.select cs b) (hEi:es.contains i=true)
  (hs:Region.sinkB md ops n=true) (hc:Region.chainB md ops n=true) (hn:n<ops.size) (hin:i<n)
  (hdone:∀ listed a w,L listed a w->∀ j∈Region.ready md ops listed,n<=j)
  (hch:∀ j,es.contains j=true->i<j->∃ p,es.contains p=true/\i<=p/\p<j/\∃ oj,ops[j]?=some oj/\∃ e∈oj.after,Region.binds md e=true/\e.on=p) :
  ∀ (f:Nat) (listed:Array Bool) (a:Act) (w:World),HeadInv md ops n listed ->
   (∀ j oj,ops[j]?=some oj->j≠i->listed.getD j true=false->(∀ e∈oj.after,Region.binds md e=true->e.on≠i)->oi.apart ops oj=true) ->
   (∀ j,es.contains j=true->i<j->listed.getD j true=false)->(∀ j,j<i->listed.getD j true=true) ->
   i∈Region.ready md ops listed->Region.wanted oi (yielded ops a.tmps)=true->C w ->
   effAt P oi a w (fun v w'=>C w'/\wpAnyT P md ops C es n L f (listed.setIfInBounds i true) (a.put oi.dst v) w')->wpAnyT P md ops C es n L (f+1) listed a w:=by
 have hno:∀ (listed:Array Bool) (j:Nat),(∀ j,es.contains j=true->i<j->listed.getD j true=false)->(∀ j,j<i->listed.getD j true=true)->i∈Region.ready md ops listed->j∈Region.ready md ops listed->j≠i->es.contains j=false:=by
  intro listed j hinv hlow hr hj hji
  cases hc:es.contains j with
  | false=>rfl
  | true =>
   obtain ⟨hjun,oj,hoj,hall⟩:=mem_ready.1 hj
   have hlt:i<j:=by
    rcases Nat.lt_or_ge j i with h | h
    ·rw [hlow j h] at hjun;cases hjun
    ·omega
   obtain ⟨p,hp,hip,hpj,oj',hoj',e,he,hb,hon⟩:=hch j hc hlt;rw [hoj] at hoj'
   cases hoj'
   have h1:=hall e he hb
   rw [hon] at h1
   by_cases hpi:p=i
   ·subst hpi
    exact absurd hon (ready_not hr hall e he hb)
   ·have h2:=hinv p hp (by omega)
    rcases Nat.lt_or_ge p listed.size with h' | h'
    ·simp [h'] at h1 h2;rw [h2] at h1;cases h1
    ·simp [Array.getElem?_eq_none h'] at h1
 have hme:∀ (K:Act->World->Prop) (a:Act) (w:World),Region.wanted oi (yielded ops a.tmps)=true->effAt P oi a w (fun v w'=>C w'/\K (a.put oi.dst v) w')->mOp P ops C es i K a w:=fun K a w hw h=>by
  unfold mOp
  simp only [hi,hw,if_true,hEi]
  exact h
 intro f
 induction f with
 | zero =>
  intro listed a w inv _ hinv hlow hr hw hC H
  have hun:=(mem_ready.1 hr).1
  refine ⟨fun h=>(by rw [h] at hr;cases hr),fun j hj=>?_⟩
  have hjn:j<n:=by
   rcases Nat.lt_or_ge j n with h | h
   ·exact h
   ·exact absurd hj (tail_waits hs hc hn inv _ i rfl hin hun j h)
  refine ⟨hjn,?_⟩
  by_cases hji:j=i
  ·subst hji;exact hme _ _ _ hw H
  ·obtain ⟨_,_,_,h2⟩:=effUpon_some H
   have:=hdone _ _ _ h2 j (ready_mono hj hji)
   omega
 | succ f ih =>
  intro listed a w inv hfree hinv hlow hr hw hC H
  have hun:=(mem_ready.1 hr).1
  refine ⟨fun h=>(by rw [h] at hr;cases hr),fun j hj=>?_⟩
  have hjn:j<n:=by
   rcases Nat.lt_or_ge j n with h | h
   ·exact h
   ·exact absurd hj (tail_waits hs hc hn inv _ i rfl hin hun j h)
  refine ⟨hjn,?_⟩
  by_cases hji:j=i
  ·subst hji;exact hme _ _ _ hw H
  ·have hEj:=hno listed j hinv hlow hr hj hji
   obtain ⟨hjun,oj,hoj,hall⟩:=mem_ready.1 hj
   have hnot:=ready_not hr hall
   obtain ⟨h1,h2,h3⟩:=Oper.apart_spec (hfree j oj hoj hji hjun hnot)
   have hsi:∀ cs b,oi.op≠.select cs b:=fun cs b=>hsel i oi cs b hi
   have hsj:∀ cs b,oj.op≠.select cs b:=fun cs b=>hsel j oj cs b hoj
   have hfree':∀ k ok,ops[k]?=some ok->k≠i->(listed.setIfInBounds j true).getD k true=false ->
     (∀ e∈ok.after,Region.binds md e=true->e.on≠i)->oi.apart ops ok=true:=fun k ok hk hki hun hno=>by
    refine hfree k ok hk hki ?_ hno
    by_cases hjk:j=k
    ·subst hjk;exact hjun
    ·rw [getD_set_ne true hjk] at hun;exact hun
   have hinv':∀ k,es.contains k=true->i<k->(listed.setIfInBounds j true).getD k true=false:=fun k hk hik=>by
    have hjk:j≠k:=by rintro rfl;rw [hEj] at hk;cases hk
    rw [getD_set_ne true hjk];exact hinv k hk hik
   have hlow':∀ k,k<i->(listed.setIfInBounds j true).getD k true=true:=fun k hk=>by
    by_cases hjk:j=k
    ·subst hjk;rw [hlow j hk] at hjun;cases hjun
    ·rw [getD_set_ne true hjk];exact hlow k hk
   have key:∀ u,(∀ v w',C w'->wpAnyT P md ops C es n L (f+1) (listed.setIfInBounds i true) (a.put oi.dst v) w'->wpAnyT P md ops C es n L f ((listed.setIfInBounds i true).setIfInBounds j true) ((a.put oi.dst v).put oj.dst u) w') ->
     wpAnyT P md ops C es n L (f+1) (listed.setIfInBounds j true) (a.put oj.dst u) w:=fun u hu=>by
    refine ih (listed.setIfInBounds j true) (a.put oj.dst u) w (inv.set hj hjn) hfree' hinv' hlow' (ready_mono hr (Ne.symm hji)) (by rw [wanted_put oi a oj.dst u h3];exact hw) hC ?_
    unfold effAt at *
    rw [execOp_put oi hsi a oj.dst u h3]
    refine effUpon_mono (fun v w' h'=>⟨h'.1,?_⟩) H
    have:=hu v w' h'.1 h'.2
    rw [Array.setIfInBounds_comm _ _ hji,<- Act.put_comm a v u h2];exact this
   cases hwj:Region.wanted oj (yielded ops a.tmps) with
   | false =>
    refine mOp_unwanted hoj hwj (key undef fun v w' _ h'=>?_)
    have h4:=(h'.2 j (ready_mono hj hji)).2
    unfold mOp at h4
    simp only [hoj,wanted_put oj a oi.dst v h1,hwj,Bool.false_eq_true,if_false] at h4
    exact h4
   | true =>
    have hall2:∀ v w',wpAnyT P md ops C es n L (f+1) (listed.setIfInBounds i true) (a.put oi.dst v) w'->∃ u,(∀ w,C w->pureAt P oj a w u)/\wpAnyT P md ops C es n L f ((listed.setIfInBounds i true).setIfInBounds j true) ((a.put oi.dst v).put oj.dst u) w':=fun v w' h'=>by
     have h4:=(h'.2 j (ready_mono hj hji)).2
     unfold mOp at h4
     simp only [hoj,wanted_put oj a oi.dst v h1,hwj,if_true,hEj,Bool.false_eq_true,if_false] at h4
     unfold pureAt at *
     rw [execOp_put oj hsj a oi.dst v h1] at h4;exact h4
    obtain ⟨v0,w0,_,h0⟩:=effUpon_some H;obtain ⟨u,hu,_⟩:=hall2 v0 w0 h0
    refine YieldsM.mOp hoj hEj (.inl ⟨hwj,hu⟩) (key u fun v w' _ h'=>?_)
    obtain ⟨u',hu',hk⟩:=hall2 v w' h';rw [pureAt_one (hu w hC) (hu' w hC)];exact hk
theorem wpAnyT_lex {n g:Nat} {Lq:Act->World->Prop} (hsel:Region.noSelect ops=true) (hs:Region.sinkB md ops n=true) (hc:Region.chainB md ops n=true) (hn:n<ops.size) (hch:chainB md ops es=true) (hen:∀ j∈es,j<n) :
  ∀ (l:List Oper) (k:Nat) (listed:Array Bool) (a:Act) (w:World),(∀ j,j<l.length->l[j]?=ops[k+j]?)->k+l.length=n->HeadInv md ops n listed ->
  Region.lexHead md ops g l.length k listed=true->(∀ j,k<=j->j<ops.size->listed.getD j true=false)->(∀ j,j<k->listed.getD j true=true)->C w->wpMix P ops C es Lq k l a w ->
  wpAnyT P md ops C es n (fun listed' a' w'=>Region.seqB md ops g n listed'=true/\Lq a' w') l.length listed a w
 | [],k,listed,a,w,_,hk,_,hB,_,_,_,h=>by
  have:k=n:=by simpa using hk
  subst this
  exact ⟨by simpa [Region.lexHead] using hB,h⟩
 | o::l,k,listed,a,w,hl,hk,inv,hB,hup,hlow,hC,h=>by
  have h0:ops[k]?=some o:=by simpa using (hl 0 (by simp)).symm
  simp only [List.length_cons,Region.lexHead,Bool.and_eq_true] at hB
  obtain ⟨⟨hr,hf⟩,hB'⟩:=hB
  have hkn:k<n:=by simp only [List.length_cons] at hk;omega
  have hr':k∈Region.ready md ops listed:=by simpa using hr
  have hup':∀ j,k+1<=j->j<ops.size->(listed.setIfInBounds k true).getD j true=false:=fun j h1 h2=>by rw [getD_set_ne true (by omega)];exact hup j (by omega) h2
  have hlow':∀ j,j<k+1->(listed.setIfInBounds k true).getD j true=true:=fun j h1=>by
   by_cases hjk:k=j
   ·subst hjk
    rcases Nat.lt_or_ge k listed.size with h' | h'
    ·simp [h']
    ·simp
   ·rw [getD_set_ne true hjk];exact hlow j (by omega)
  have hdone:∀ (listed':Array Bool) (a':Act) (w':World),(Region.seqB md ops g n listed'=true/\Lq a' w')->∀ j∈Region.ready md ops listed',n<=j:=fun listed' a' w' hL=>seqB_ready hL.1
  have go:∀ a' w',C w'->wpMix P ops C es Lq (k+1) l a' w'->wpAnyT P md ops C es n (fun listed' a' w'=>Region.seqB md ops g n listed'=true/\Lq a' w') l.length (listed.setIfInBounds k true) a' w':=fun a' w' hC' h' =>
   wpAnyT_lex hsel hs hc hn hch hen l (k+1) _ a' w' (fun j hj=>by have:=hl (j+1) (by simp;omega);simpa [Nat.add_assoc,Nat.add_comm 1 j] using this) (by simp only [List.length_cons] at hk;omega) (inv.set hr' hkn) hB' hup' hlow' hC' h'
  unfold wpMix at h
  cases hw:Region.wanted o (yielded ops a.tmps) with
  | false =>
   simp only [hw,Bool.false_eq_true,if_false] at h
   exact wpAnyT_first h0 (Region.noSelect_spec hsel) hs hc hn hkn hdone (v:=undef) (fun K a' w' hC' hy hk=>by
    cases hw':Region.wanted o (yielded ops a'.tmps) with
    | false=>exact mOp_unwanted h0 hw' hk
    | true =>
     cases hE:es.contains k with
     | false=>exact hy.mOp h0 hE hk
     | true =>
      rcases hy with ⟨_,hv⟩ | ⟨hx,_⟩
      ·unfold mOp
       simp only [h0,hw',if_true,hE]
       have h3:=hv w' hC'
       unfold pureAt at h3;unfold effAt;generalize (execOp a'.eval o).run P w'=r at *
       cases r with
       | ok n w2 =>
        cases n<;>simp only [pureUpon] at h3<;>simp only [effUpon]
        case value u=>rw [h3.1,h3.2];exact ⟨hC',hk⟩
        case skip=>rw [h3.1];exact ⟨hC',hk⟩
       | halt x w2=>simp only [pureUpon] at h3
      ·rw [hw'] at hx;cases hx) l.length listed a w inv (Region.free_spec h0 hf) hr' hC (.inr ⟨hw,rfl⟩) (go _ _ hC h)
  | true =>
   simp only [hw,if_true] at h
   cases hE:es.contains k with
   | false =>
    simp only [hE,Bool.false_eq_true,if_false] at h
    obtain ⟨v,hv,hk⟩:=h
    exact wpAnyT_first h0 (Region.noSelect_spec hsel) hs hc hn hkn hdone (fun K a' w' _ hy hk=>hy.mOp h0 hE hk) l.length listed a w inv (Region.free_spec h0 hf) hr' hC (.inl ⟨hw,hv⟩) (go _ _ hC hk)
   | true =>
    simp only [hE,if_true] at h
    refine wpAnyT_act h0 (Region.noSelect_spec hsel) hE hs hc hn hkn hdone (fun j hj hkj=>?_) l.length listed a w inv (Region.free_spec h0 hf) (fun j hj hkj=>?_) hlow hr' hw hC (effUpon_mono (fun v w' h'=>⟨h'.1,go _ _ h'.1 h'.2⟩) h)
    ·obtain ⟨p,hp,rest⟩:=chainB_spec es hch k j (by simpa using hE) (by simpa using hj) hkj
     exact ⟨p,by simpa using hp,rest⟩
    ·exact hup j (by omega) (by have:=hen j (by simpa using hj);omega)
theorem wp_region_mixtail {id:Nat} {Q:Exit->Act->World->Prop} {a:Act} {w:World} {l:List Oper} (n:Nat) (es:List Nat) (C:World->Prop) (hm:P.follows .mixedOrders=true) (hB:(Region.lexTailB .any l.toArray n&&chainB .any l.toArray es&&es.all (fun j=>decide (j<n)))=true) (hC:C w.drew)
  (h:wpMix P l.toArray C es (fun a' w'=>wpList P l.toArray Q (l.drop n) a' w') 0 (l.take n) a w.drew):(Code.region id l.toArray true).wp P Q a w:=by
 simp only [Bool.and_eq_true,List.all_eq_true,decide_eq_true_eq] at hB
 obtain ⟨⟨hB,hch⟩,hen⟩:=hB
 simp only [Region.lexTailB,Bool.and_eq_true,decide_eq_true_eq] at hB
 obtain ⟨⟨⟨⟨hsel,hn⟩,hs⟩,hc⟩,hlex⟩:=hB
 have hn':n<l.length:=by simpa using hn
 have htl:(l.take n).length=n:=by simp;omega
 have hdl:(l.drop n).length=l.toArray.size - n:=by simp
 have inv0:HeadInv .any l.toArray n (Array.replicate l.toArray.size false) :=
  ⟨by simp,fun j oj _ hl=>(by rw [getD_replicate_false] at hl;cases hl),fun t _ ht=>getD_in (by simpa using ht) (getD_replicate_false _ _)⟩
 have hup:∀ j,0<=j->j<l.toArray.size->(Array.replicate l.toArray.size false).getD j true=false:=fun j _ hj=>by
  have hj':j<l.length:=by simpa using hj
  simp [hj']
 have H:=wpAnyT_lex (md:=.any) (C:=C) (es:=es) (g:=l.toArray.size - n) hsel hs hc hn hch hen (l.take n) 0 _ a w.drew (fun j hj=>by
  have hj':j<n:=by rw [htl] at hj;exact hj
  simp [hj']) (by simpa using htl) inv0 (by rw [htl];exact hlex) hup (fun j hj=>by omega) hC h
 refine wp_region_any hm ?_
 have:=wpAny_of_headT (Q':=Q) (g:=l.toArray.size - n) (fun listed a' w' _ hL=>by
  have:=wpAny_of_seq (md:=.any) (Q':=Q) (l.drop n) n listed a' w' (fun j=>by simp [List.getElem?_drop]) (by rw [hdl];exact hL.1) hL.2
  rwa [hdl] at this) _ _ _ _ hC H
 rw [htl,show n+(l.toArray.size - n)=l.toArray.size by omega] at this
 exact this
end
end Go.Proofs.YtnhcaifopaeohaaGreatDoor
