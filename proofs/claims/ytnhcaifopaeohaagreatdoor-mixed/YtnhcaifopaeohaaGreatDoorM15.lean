import Derived.Test.YtnhcaifopaeohaaGreatDoorM05
namespace Go.Proofs.YtnhcaifopaeohaaGreatDoor
open Go.RowKit
set_option linter.all false
section
variable {P : Program} {ops : Array Oper} {md : Region.Mode} {C : World -> Prop} {es : List Nat}
def drawUpon (P:Program) (w:World) (v:Value):Result Next->Prop
 | .ok (.value u) w'=>w'=w/\u=v
 | .ok .skip w'=>w'=w/\v=undef
 | .ok (.enter f args) w'=>w'=w/\Calls P f args w (fun e w''=>e=.returned v/\∃ m,w''=w.drewN m)
 | _=>False
def drawAt (P:Program) (o:Oper) (a:Act) (w:World) (v:Value):Prop:=drawUpon P w v ((execOp a.eval o).run P w)
theorem put_same {o:Oper} {a:Act} {u v:Value} (h:u=v\/o.dst=none):a.put o.dst u=a.put o.dst v:=by
 rcases h with rfl | h
 ·rfl
 ·rw [h];rfl
def actAt (P:Program) (o:Oper) (a:Act) (w:World) (v:Value) (w':World):Prop:=∀ m,effAt P o a (w.drewN m) (fun u w''=>(u=v\/o.dst=none)/\∃ m',w''=w'.drewN m')
theorem draw_of_pure {o:Oper} {a:Act} {w:World} {v:Value} (h:pureAt P o a w v):drawAt P o a w v:=by
 unfold pureAt at h;unfold drawAt;generalize (execOp a.eval o).run P w=r at *
 cases r with
 | ok n w' =>
  cases n<;>simp only [pureUpon] at h<;>simp only [drawUpon]
  case value x=>exact h
  case skip=>exact h
 | halt x w'=>simp only [pureUpon] at h
theorem act_of_draw (hCd:∀ w m,C w->C (w.drewN m)) {o:Oper} {a:Act} {w:World} {v:Value} (hC:C w) (h:∀ w,C w->drawAt P o a w v):actAt P o a w v w:=by
 intro m
 have h3:=h (w.drewN m) (hCd _ _ hC)
 unfold drawAt at h3;unfold effAt;generalize (execOp a.eval o).run P (w.drewN m)=r at *
 cases r with
 | ok n w2 =>
  cases n<;>simp only [drawUpon] at h3<;>simp only [effUpon]
  case value u=>exact ⟨.inl h3.2,m,h3.1⟩
  case skip=>exact ⟨.inl h3.2.symm,m,h3.1⟩
  case enter f args =>
   rw [h3.1]
   exact h3.2.mono fun e w'' ⟨he,m',hk⟩=>⟨v,he,.inl rfl,m+m',by rw [hk,World.drewN_drewN]⟩
 | halt x w2=>simp only [drawUpon] at h3
def dOp (P:Program) (ops:Array Oper) (C:World->Prop) (es:List Nat) (i:Nat) (K:Act->World->Prop) (a:Act) (w:World):Prop :=
 match ops[i]? with
 | none=>K a w
 | some o=>if Region.wanted o (yielded ops a.tmps) then
   (if es.contains i then ∃ v w',actAt P o a w v w'/\C w'/\K (a.put o.dst v) w' else ∃ v,(∀ w,C w->drawAt P o a w v)/\K (a.put o.dst v) w)
  else K (a.put o.dst undef) w
theorem dOp_mono {i:Nat} {a:Act} {w:World} {K K':Act->World->Prop} (hC:C w) (h:∀ a w,C w->K a w->K' a w) (hh:dOp P ops C es i K a w):dOp P ops C es i K' a w:=by
 unfold dOp at *
 split
 ·exact h _ _ hC (by simpa [*] using hh)
 ·rename_i o ho
  simp only [ho] at hh
  split
  ·rename_i hw
   simp only [hw,if_true] at hh
   split
   ·rename_i he;simp only [he,if_true] at hh;obtain ⟨v,w',h1,h2,h3⟩:=hh;exact ⟨v,w',h1,h2,h _ _ h2 h3⟩
   ·rename_i he;simp only [he] at hh;obtain ⟨v,h1,h2⟩:=hh;exact ⟨v,h1,h _ _ hC h2⟩
  ·rename_i hw;simp only [hw] at hh;exact h _ _ hC hh
def wpAnyD (P:Program) (md:Region.Mode) (ops:Array Oper) (C:World->Prop) (es:List Nat) (Q:Act->World->Prop):Nat->Array Bool->Act->World->Prop
 | 0,listed,a,w=>Region.ready md ops listed=[]/\Q a w
 | fuel+1,listed,a,w =>
  (Region.ready md ops listed=[]->Q a w) /\
  ∀ i∈Region.ready md ops listed,dOp P ops C es i (wpAnyD P md ops C es Q fuel (listed.setIfInBounds i true)) a w
theorem wpOp_of_dOp (hCd:∀ w m,C w->C (w.drewN m)) {i:Nat} {a:Act} {K K':Act->World->Prop} {Q':Exit->Act->World->Prop} {w:World} {m:Nat} (hC:C w) (h:∀ a w' m',C w'->K a w'->K' a (w'.drewN m')) (hh:dOp P ops C es i K a w):wpOp P ops Q' i K' a (w.drewN m):=by
 unfold dOp at hh;unfold wpOp
 split
 ·rename_i ho;simp only [ho] at hh;exact h _ _ _ hC hh
 ·rename_i o ho
  simp only [ho] at hh
  split
  ·rename_i hw
   simp only [hw,if_true] at hh
   left
   unfold Oper.wp
   split at hh
   ·obtain ⟨v,w',h1,h2,h3⟩:=hh
    have h4:=h1 m
    unfold effAt at h4;generalize (execOp a.eval o).run P (w.drewN m)=r at *
    cases r with
    | ok n w2 =>
     cases n<;>simp only [effUpon] at h4<;>simp only [Oper.upon]
     case value u=>obtain ⟨hu,m',rfl⟩:=h4;rw [put_same hu];exact h _ _ _ h2 h3
     case skip=>obtain ⟨hu,m',rfl⟩:=h4;rw [put_same hu];exact h _ _ _ h2 h3
     case enter f args=>exact h4.mono fun e w'' ⟨u,he,hk⟩=>by obtain ⟨hu,m',rfl⟩:=hk;subst he;show K' (a.put o.dst u) _;rw [put_same hu];exact h _ _ _ h2 h3
     case row row args=>exact h4.mono fun u w'' hk=>by obtain ⟨hu,m',rfl⟩:=hk;show K' (a.put o.dst u) _;rw [put_same hu];exact h _ _ _ h2 h3
    | halt x w2=>simp only [effUpon] at h4
   ·obtain ⟨v,h1,h2⟩:=hh
    have h3:=h1 (w.drewN m) (hCd _ _ hC)
    unfold drawAt at h3;generalize (execOp a.eval o).run P (w.drewN m)=r at *
    cases r with
    | ok n w2 =>
     cases n<;>simp only [drawUpon] at h3<;>simp only [Oper.upon]
     case value u=>rw [h3.1,h3.2];exact h _ _ _ hC h2
     case skip=>rw [h3.1,<- h3.2];exact h _ _ _ hC h2
     case enter f args =>
      rw [h3.1]
      exact h3.2.mono fun e w'' ⟨he,m',hk⟩=>by subst he;rw [hk,World.drewN_drewN];exact h _ _ _ hC h2
    | halt x w2=>simp only [drawUpon] at h3
  ·rename_i hw;simp only [hw] at hh;exact h _ _ _ hC hh
theorem wpAny_of_mixD (hCd:∀ w m,C w->C (w.drewN m)) {Q:Act->World->Prop} {Q':Exit->Act->World->Prop} (hQ:∀ a w m,C w->Q a w->Q' .normal a (w.drewN m)):∀ (fuel:Nat) (listed:Array Bool) (a:Act) (w:World) (m:Nat),C w ->
  wpAnyD P md ops C es Q fuel listed a w->wpAny P md ops Q' fuel listed a (w.drewN m)
 | 0,_,_,_,_,hw,h=>⟨h.1,hQ _ _ _ hw h.2⟩
 | fuel+1,_,_,_,_,hw,h=>⟨fun h0=>hQ _ _ _ hw (h.1 h0),fun i hi=>wpOp_of_dOp hCd hw (fun a' w' m' hw'=>wpAny_of_mixD hCd hQ fuel _ a' w' m' hw') (h.2 i hi)⟩
def YieldsD (P:Program) (ops:Array Oper) (C:World->Prop) (o:Oper) (v:Value) (a:Act):Prop :=
 (Region.wanted o (yielded ops a.tmps)=true/\∀ w,C w->drawAt P o a w v)\/(Region.wanted o (yielded ops a.tmps)=false/\v=undef)
theorem YieldsD.of_same {o:Oper} {v:Value} {a a':Act} (hy:YieldsD P ops C o v a) (he:execOp a'.eval o=execOp a.eval o)
  (hw:Region.wanted o (yielded ops a'.tmps)=Region.wanted o (yielded ops a.tmps)):YieldsD P ops C o v a':=by
 unfold YieldsD drawAt at *
 rw [he,hw];exact hy
theorem YieldsD.dOp {i:Nat} {o:Oper} {v:Value} {a:Act} (hi:ops[i]?=some o) (hE:es.contains i=false) (hy:YieldsD P ops C o v a) {K:Act->World->Prop} {w:World} (h:K (a.put o.dst v) w):dOp P ops C es i K a w:=by
 unfold Proofs.YtnhcaifopaeohaaGreatDoor.dOp
 simp only [hi]
 rcases hy with ⟨hw,hv⟩ | ⟨hw,rfl⟩
 ·simp only [hw,if_true,hE,Bool.false_eq_true,if_false];exact ⟨v,hv,h⟩
 ·simp only [hw,Bool.false_eq_true,if_false];exact h
theorem dOp_unwanted {i:Nat} {o:Oper} {a:Act} (hi:ops[i]?=some o) (hw:Region.wanted o (yielded ops a.tmps)=false) {K:Act->World->Prop} {w:World} (h:K (a.put o.dst undef) w):dOp P ops C es i K a w:=by
 unfold Proofs.YtnhcaifopaeohaaGreatDoor.dOp
 simp only [hi,hw,Bool.false_eq_true,if_false];exact h
theorem actAt_put {o:Oper} {a:Act} {w w':World} {v:Value} (_hs:∀ cs b,o.op≠.select cs b) {d:Option Tmp} {u:Value} (he:execOp (a.put d u).eval o=execOp a.eval o):actAt P o (a.put d u) w v w' ↔ actAt P o a w v w':=by
 unfold actAt effAt;rw [he]
theorem dOp_put {j:Nat} {oi oj:Oper} {v:Value} (hj:ops[j]?=some oj) (hap:oi.apart ops oj=true)
  (hsi:∀ cs b,oi.op≠.select cs b) (hsj:∀ cs b,oj.op≠.select cs b) {K:Act->World->Prop} {a:Act} {w:World}
  (hy:YieldsD P ops C oi v a) (h:dOp P ops C es j K (a.put oi.dst v) w) :
  dOp P ops C es j (fun a' w'=>YieldsD P ops C oi v a'/\K (a'.put oi.dst v) w') a w:=by
 obtain ⟨h1,h2,h3⟩:=Oper.apart_spec hap
 have keep:∀ (a:Act),YieldsD P ops C oi v a->∀ u,YieldsD P ops C oi v (a.put oj.dst u):=fun a hy u =>
  hy.of_same (execOp_put oi hsi a oj.dst u h3) (wanted_put oi a oj.dst u h3)
 unfold dOp at *
 simp only [hj] at *
 rw [wanted_put oj a oi.dst v h1] at h
 unfold actAt effAt drawAt at *
 rw [execOp_put oj hsj a oi.dst v h1] at h
 split
 ·rename_i hw
  simp only [hw,if_true] at h
  split
  ·rename_i he
   simp only [he,if_true] at h
   obtain ⟨u,w',k1,k2,k3⟩:=h
   exact ⟨u,w',k1,k2,keep a hy u,by rw [<- Act.put_comm a v u h2];exact k3⟩
  ·rename_i he
   simp only [he] at h
   obtain ⟨u,hu,hn⟩:=h
   exact ⟨u,hu,keep a hy u,by rw [<- Act.put_comm a v u h2];exact hn⟩
 ·rename_i hw
  simp only [hw] at h
  exact ⟨keep a hy _,by rw [<- Act.put_comm a v undef h2];exact h⟩
theorem wpAnyD_first {Q:Act->World->Prop} {i:Nat} {oi:Oper} {v:Value} (hi:ops[i]?=some oi) (hsel:∀ (j:Nat) (o:Oper) cs b,ops[j]?=some o->o.op≠.select cs b)
  (hE:∀ (K:Act->World->Prop) (a:Act) (w:World),C w->YieldsD P ops C oi v a->K (a.put oi.dst v) w->dOp P ops C es i K a w) :
  ∀ (fuel:Nat) (listed:Array Bool) (a:Act) (w:World),
   (∀ j oj,ops[j]?=some oj->j≠i->listed.getD j true=false->(∀ e∈oj.after,Region.binds md e=true->e.on≠i)->oi.apart ops oj=true) ->
   i∈Region.ready md ops listed->C w->YieldsD P ops C oi v a ->
   wpAnyD P md ops C es Q fuel (listed.setIfInBounds i true) (a.put oi.dst v) w->wpAnyD P md ops C es Q (fuel+1) listed a w:=by
 intro fuel
 induction fuel with
 | zero =>
  intro listed a w _ hr hC hy H
  refine ⟨fun h=>(by rw [h] at hr;cases hr),fun j hj=>?_⟩
  by_cases hji:j=i
  ·subst hji;exact hE _ _ _ hC hy H
  ·have:=ready_mono hj hji
   rw [H.1] at this
   cases this
 | succ fuel ih =>
  intro listed a w hfree hr hC hy H
  refine ⟨fun h=>(by rw [h] at hr;cases hr),fun j hj=>?_⟩
  by_cases hji:j=i
  ·subst hji;exact hE _ _ _ hC hy H
  ·have h1:=H.2 j (ready_mono hj hji)
   obtain ⟨hjun,oj,hoj,hall⟩:=mem_ready.1 hj
   have hnot:=ready_not hr hall
   have h2:=dOp_put hoj (hfree j oj hoj hji hjun hnot) (fun cs b=>hsel i oi cs b hi) (fun cs b=>hsel j oj cs b hoj) hy h1
   have hfree':∀ k ok,ops[k]?=some ok->k≠i->(listed.setIfInBounds j true).getD k true=false ->
     (∀ e∈ok.after,Region.binds md e=true->e.on≠i)->oi.apart ops ok=true:=fun k ok hk hki hun hno=>by
    refine hfree k ok hk hki ?_ hno
    by_cases hjk:j=k
    ·subst hjk;exact hjun
    ·rw [getD_set_ne true hjk] at hun;exact hun
   refine dOp_mono hC (fun a' w' hC' h3=>ih (listed.setIfInBounds j true) a' w' hfree' (ready_mono hr (Ne.symm hji)) hC' h3.1 ?_) h2
   rw [Array.setIfInBounds_comm _ _ hji];exact h3.2
theorem wpAnyD_act {Q:Act->World->Prop} {i:Nat} {oi:Oper} (hi:ops[i]?=some oi) (hsel:∀ (j:Nat) (o:Oper) cs b,ops[j]?=some o->o.op≠.select cs b) (hEi:es.contains i=true)
  (hch:∀ j,es.contains j=true->i<j->∃ p,es.contains p=true/\i<=p/\p<j/\∃ oj,ops[j]?=some oj/\∃ e∈oj.after,Region.binds md e=true/\e.on=p) :
  ∀ (fuel:Nat) (listed:Array Bool) (a:Act) (w:World),
   (∀ j oj,ops[j]?=some oj->j≠i->listed.getD j true=false->(∀ e∈oj.after,Region.binds md e=true->e.on≠i)->oi.apart ops oj=true) ->
   (∀ j,es.contains j=true->i<j->listed.getD j true=false)->(∀ j,j<i->listed.getD j true=true) ->
   i∈Region.ready md ops listed->Region.wanted oi (yielded ops a.tmps)=true->C w ->
   (∃ v w',actAt P oi a w v w'/\C w'/\wpAnyD P md ops C es Q fuel (listed.setIfInBounds i true) (a.put oi.dst v) w')->wpAnyD P md ops C es Q (fuel+1) listed a w:=by
 have hno:∀ (listed:Array Bool) (j:Nat),(∀ j,es.contains j=true->i<j->listed.getD j true=false)->(∀ j,j<i->listed.getD j true=true)->i∈Region.ready md ops listed->j∈Region.ready md ops listed->j≠i->es.contains j=false:=by
  intro listed j hinv hlow hr hj hji
  cases hc:es.contains j with
  | false=>rfl
  | true =>
   obtain ⟨hjun,oj,hoj,hall⟩:=mem_ready.1 hj
   have hlt:i<j:=by
    rcases Nat.lt_or_ge j i with h | h
    ·rw [hlow j h] at hjun;cases hjun
    ·omega
   obtain ⟨p,hp,hip,hpj,oj',hoj',e,he,hb,hon⟩:=hch j hc hlt;rw [hoj] at hoj'
   cases hoj'
   have h1:=hall e he hb
   rw [hon] at h1
   by_cases hpi:p=i
   ·subst hpi
    exact absurd hon (ready_not hr hall e he hb)
   ·have h2:=hinv p hp (by omega)
    rcases Nat.lt_or_ge p listed.size with h' | h'
    ·simp [h'] at h1 h2;rw [h2] at h1;cases h1
    ·simp [Array.getElem?_eq_none h'] at h1
 have hme:∀ (K:Act->World->Prop) (a:Act) (w:World),Region.wanted oi (yielded ops a.tmps)=true->(∃ v w',actAt P oi a w v w'/\C w'/\K (a.put oi.dst v) w')->dOp P ops C es i K a w:=fun K a w hw h=>by
  unfold dOp
  simp only [hi,hw,if_true,hEi]
  exact h
 intro fuel
 induction fuel with
 | zero =>
  intro listed a w _ hinv hlow hr hw hC H
  refine ⟨fun h=>(by rw [h] at hr;cases hr),fun j hj=>?_⟩
  by_cases hji:j=i
  ·subst hji;exact hme _ _ _ hw H
  ·have:=ready_mono hj hji
   obtain ⟨_,_,_,_,h2⟩:=H;rw [h2.1] at this
   cases this
 | succ fuel ih =>
  intro listed a w hfree hinv hlow hr hw hC H
  refine ⟨fun h=>(by rw [h] at hr;cases hr),fun j hj=>?_⟩
  by_cases hji:j=i
  ·subst hji;exact hme _ _ _ hw H
  ·have hEj:=hno listed j hinv hlow hr hj hji
   obtain ⟨hjun,oj,hoj,hall⟩:=mem_ready.1 hj
   have hnot:=ready_not hr hall
   obtain ⟨h1,h2,h3⟩:=Oper.apart_spec (hfree j oj hoj hji hjun hnot)
   have hsi:∀ cs b,oi.op≠.select cs b:=fun cs b=>hsel i oi cs b hi
   have hsj:∀ cs b,oj.op≠.select cs b:=fun cs b=>hsel j oj cs b hoj
   have hfree':∀ k ok,ops[k]?=some ok->k≠i->(listed.setIfInBounds j true).getD k true=false ->
     (∀ e∈ok.after,Region.binds md e=true->e.on≠i)->oi.apart ops ok=true:=fun k ok hk hki hun hno=>by
    refine hfree k ok hk hki ?_ hno
    by_cases hjk:j=k
    ·subst hjk;exact hjun
    ·rw [getD_set_ne true hjk] at hun;exact hun
   have hinv':∀ k,es.contains k=true->i<k->(listed.setIfInBounds j true).getD k true=false:=fun k hk hik=>by
    have hjk:j≠k:=by rintro rfl;rw [hEj] at hk;cases hk
    rw [getD_set_ne true hjk];exact hinv k hk hik
   have hlow':∀ k,k<i->(listed.setIfInBounds j true).getD k true=true:=fun k hk=>by
    by_cases hjk:j=k
    ·subst hjk;rw [hlow j hk] at hjun;cases hjun
    ·rw [getD_set_ne true hjk];exact hlow k hk
   obtain ⟨v,w',hact,hC',hv⟩:=H
   have h4:=hv.2 j (ready_mono hj hji)
   have key:∀ u,wpAnyD P md ops C es Q fuel ((listed.setIfInBounds i true).setIfInBounds j true) ((a.put oi.dst v).put oj.dst u) w' ->
     wpAnyD P md ops C es Q (fuel+1) (listed.setIfInBounds j true) (a.put oj.dst u) w:=fun u hu=>by
    refine ih (listed.setIfInBounds j true) (a.put oj.dst u) w hfree' hinv' hlow' (ready_mono hr (Ne.symm hji)) (by rw [wanted_put oi a oj.dst u h3];exact hw) hC ⟨v,w',(actAt_put hsi (execOp_put oi hsi a oj.dst u h3)).2 hact,hC',?_⟩
    rw [Array.setIfInBounds_comm _ _ hji,<- Act.put_comm a v u h2];exact hu
   cases hwj:Region.wanted oj (yielded ops a.tmps) with
   | false =>
    refine dOp_unwanted hoj hwj (key undef ?_)
    unfold dOp at h4
    simp only [hoj,wanted_put oj a oi.dst v h1,hwj,Bool.false_eq_true,if_false] at h4
    exact h4
   | true =>
    unfold dOp at h4
    simp only [hoj,wanted_put oj a oi.dst v h1,hwj,if_true,hEj,Bool.false_eq_true,if_false] at h4
    unfold drawAt at h4;rw [execOp_put oj hsj a oi.dst v h1] at h4;obtain ⟨u,hu,hk⟩:=h4
    exact YieldsD.dOp hoj hEj (.inl ⟨hwj,hu⟩) (key u hk)
def wpMixD (P:Program) (ops:Array Oper) (C:World->Prop) (es:List Nat) (Q:Act->World->Prop):Nat->List Oper->Act->World->Prop
 | _,[],a,w=>Q a w
 | k,o::rest,a,w=>if Region.wanted o (yielded ops a.tmps) then
   (if es.contains k then ∃ v w',actAt P o a w v w'/\C w'/\wpMixD P ops C es Q (k+1) rest (a.put o.dst v) w'
    else ∃ v,(∀ w,C w->drawAt P o a w v)/\wpMixD P ops C es Q (k+1) rest (a.put o.dst v) w)
  else wpMixD P ops C es Q (k+1) rest (a.put o.dst undef) w
theorem wpAnyD_lex (hCd:∀ w m,C w->C (w.drewN m)) {Q:Act->World->Prop} (hs:Region.noSelect ops=true) (hc:chainB md ops es=true):∀ (l:List Oper) (k:Nat) (listed:Array Bool) (a:Act) (w:World),(∀ j,l[j]?=ops[k+j]?) ->
  Region.lexFrom md ops l.length k listed=true->(∀ j,k<=j->j<ops.size->listed.getD j true=false)->(∀ j,j<k->listed.getD j true=true)->C w->wpMixD P ops C es Q k l a w->wpAnyD P md ops C es Q l.length listed a w
 | [],_,_,_,_,_,hB,_,_,_,h=>⟨by simpa [Region.lexFrom] using hB,h⟩
 | o::l,k,listed,a,w,hl,hB,hup,hlow,hC,h=>by
  have h0:ops[k]?=some o:=by simpa using (hl 0).symm
  have hks:k<ops.size:=(Array.getElem?_eq_some_iff.1 h0).1
  simp only [List.length_cons,Region.lexFrom,Bool.and_eq_true] at hB
  obtain ⟨⟨hr,hf⟩,hB'⟩:=hB
  have hl':∀ j,l[j]?=ops[k+1+j]?:=fun j=>by have:=hl (j+1);simpa [Nat.add_assoc,Nat.add_comm 1 j] using this
  have hup':∀ j,k+1<=j->j<ops.size->(listed.setIfInBounds k true).getD j true=false:=fun j h1 h2=>by rw [getD_set_ne true (by omega)];exact hup j (by omega) h2
  have hlow':∀ j,j<k+1->(listed.setIfInBounds k true).getD j true=true:=fun j h1=>by
   by_cases hjk:k=j
   ·subst hjk
    rcases Nat.lt_or_ge k listed.size with h' | h'
    ·simp [h']
    ·simp
   ·rw [getD_set_ne true hjk];exact hlow j (by omega)
  have go:∀ a' w',C w'->wpMixD P ops C es Q (k+1) l a' w'->wpAnyD P md ops C es Q l.length (listed.setIfInBounds k true) a' w':=fun a' w' hC' h'=>wpAnyD_lex hCd hs hc l (k+1) _ a' w' hl' hB' hup' hlow' hC' h'
  have hr':k∈Region.ready md ops listed:=by simpa using hr
  unfold wpMixD at h
  cases hw:Region.wanted o (yielded ops a.tmps) with
  | false =>
   simp only [hw,Bool.false_eq_true,if_false] at h
   exact wpAnyD_first h0 (Region.noSelect_spec hs) (v:=undef) (fun K a' w' hC' hy hk=>by
    cases hw':Region.wanted o (yielded ops a'.tmps) with
    | false=>exact dOp_unwanted h0 hw' hk
    | true =>
     cases hE:es.contains k with
     | false=>exact hy.dOp h0 hE hk
     | true =>
      rcases hy with ⟨_,hv⟩ | ⟨hx,_⟩
      ·unfold dOp
       simp only [h0,hw',if_true,hE]
       exact ⟨undef,w',act_of_draw hCd hC' hv,hC',hk⟩
      ·rw [hw'] at hx;cases hx) l.length listed a w (Region.free_spec h0 hf) hr' hC (.inr ⟨hw,rfl⟩) (go _ _ hC h)
  | true =>
   simp only [hw,if_true] at h
   cases hE:es.contains k with
   | false =>
    simp only [hE,Bool.false_eq_true,if_false] at h
    obtain ⟨v,hv,hk⟩:=h
    exact wpAnyD_first h0 (Region.noSelect_spec hs) (fun K a' w' _ hy hk=>hy.dOp h0 hE hk) l.length listed a w (Region.free_spec h0 hf) hr' hC (.inl ⟨hw,hv⟩) (go _ _ hC hk)
   | true =>
    simp only [hE,if_true] at h
    refine wpAnyD_act h0 (Region.noSelect_spec hs) hE (fun j hj hkj=>?_) l.length listed a w (Region.free_spec h0 hf) (fun j hj hkj=>?_) hlow hr' hw hC (by obtain ⟨v,w',h1,h2,h3⟩:=h;exact ⟨v,w',h1,h2,go _ _ h2 h3⟩)
    ·obtain ⟨p,hp,rest⟩:=chainB_spec es hc k j (by simpa using hE) (by simpa using hj) hkj
     exact ⟨p,by simpa using hp,rest⟩
    ·obtain ⟨p,_,_,_,oj,hoj,_⟩:=chainB_spec es hc k j (by simpa using hE) (by simpa using hj) hkj
     exact hup j (by omega) (Array.getElem?_eq_some_iff.1 hoj).1
theorem wp_region_mixD {id:Nat} {Q:Exit->Act->World->Prop} {a:Act} {w:World} {l:List Oper} (es:List Nat) (C:World->Prop) (hCd:∀ w m,C w->C (w.drewN m)) (hm:P.follows .mixedOrders=true) (hB:Region.lexB .any l.toArray=true) (hc:chainB .any l.toArray es=true) (hC:C w)
  (h:wpMixD P l.toArray C es (fun a' w'=>∀ m,Q .normal a' (w'.drewN m)) 0 l a w):(Code.region id l.toArray true).wp P Q a w:=by
 simp only [Region.lexB,Bool.and_eq_true] at hB
 refine wp_region_any hm ?_
 have hup:∀ j,0<=j->j<l.toArray.size->(Array.replicate l.toArray.size false).getD j true=false:=fun j _ hj=>by
  have hj':j<l.length:=by simpa using hj
  simp [hj']
 have:=wpAnyD_lex hCd (md:=.any) hB.1 hc l 0 (Array.replicate l.toArray.size false) a w (by simp) (by simpa using hB.2) hup (fun j hj=>by omega) hC h
 exact wpAny_of_mixD hCd (Q:=fun a' w'=>∀ m,Q .normal a' (w'.drewN m)) (fun a w m _ h=>h m) _ _ _ w 1 hC (by simpa using this)
theorem mixD_pure {Q:Act->World->Prop} {k:Nat} {o:Oper} {rest:List Oper} {a:Act} {w:World} (hgd:o.guard=none) (hE:es.contains k=false) (hp:plainOp o=true)
  (h:∀ K:Act->Prop,(∀ a',wpMixD P ops C es Q (k+1) rest a' w->K a')->o.quiet P a C K):wpMixD P ops C es Q k (o::rest) a w:=by
 unfold wpMixD;rw [if_pos (wanted_free hgd _),hE]
 obtain ⟨v,h1,h2⟩:=h _ (fun _ h=>h)
 exact ⟨v,fun w hw=>draw_of_pure (pure_of_plain hp v w (h1 w hw)),h2⟩
theorem put_at (a:Act) (d:Tmp) (v:Value) (hd:d<a.tmps.size):(a.put (some d) v).tmps.getD d undef=v:=by
 unfold Act.put
 simp [hd]
theorem mixD_call {Q:Act->World->Prop} {k:Nat} {o:Oper} {rest:List Oper} {a:Act} {w:World} (hgd:o.guard=none) (hE:es.contains k=false) (d:Tmp) (hd:o.dst=some d) (hsz:d<a.tmps.size) (v:Value) (_hcl:∃ c,o.op=.call c)
  (h:∀ w,C w->o.wp P a w (fun a' w''=>a'.tmps.getD d undef=v/\∃ m,w''=w.drewN m) (fun _ _ _=>False)) (hk:wpMixD P ops C es Q (k+1) rest (a.put o.dst v) w)
  (hent:∀ w,∃ f args,(execOp a.eval o).run P w=.ok (.enter f args) w):wpMixD P ops C es Q k (o::rest) a w:=by
 unfold wpMixD;rw [if_pos (wanted_free hgd _),hE]
 refine ⟨v,fun w hw=>?_,hk⟩
 have h1:=h w hw
 obtain ⟨f,args,he⟩:=hent w;unfold Oper.wp at h1;unfold drawAt;rw [he] at h1 ⊢
 simp only [Oper.upon] at h1
 simp only [drawUpon]
 refine ⟨trivial,h1.mono fun e w'' h'=>?_⟩
 cases e with
 | returned u =>
  have h2:=h'.1
  rw [hd,put_at a d u hsz] at h2
  exact ⟨by rw [h2],h'.2⟩
 | panicked c=>exact h'.elim
 | outgrown=>obtain ⟨_,_,hf⟩:=h';exact hf.elim
theorem run_val_nd (s:Sem Value) (w:World) (x:Next) (hx:∀ v,x≠.value v) (w':World):(do pure (Next.value (<- s)):Sem Next).run P w≠.ok x w':=by
 intro h;rw [Sem.run_bind] at h
 cases hr:s.run P w with
 | ok v w2=>rw [hr] at h;simp [Result.andThen] at h;exact hx v h.1.symm
 | halt y w2=>rw [hr] at h;simp [Result.andThen] at h
theorem run_unit_nd (s:Sem Unit) (w:World) (x:Next) (hx:x≠.skip) (w':World):(do s;pure Next.skip:Sem Next).run P w≠.ok x w':=by
 intro h;rw [Sem.run_bind] at h
 cases hr:s.run P w with
 | ok v w2=>rw [hr] at h;simp [Result.andThen] at h;exact hx h.1.symm
 | halt y w2=>rw [hr] at h;simp [Result.andThen] at h
theorem run_not_defer (o:Oper) (h:plainOp o=true) (ρ:Operand->Value) (w:World) (d:Deferred) (w':World):(execOp ρ o).run P w≠.ok (.defer d) w':=by
 cases hop:o.op<;>simp only [plainOp,hop] at h<;>simp only [execOp,hop]<;>first
  | exact absurd h Bool.false_ne_true
  | exact run_val_nd _ _ _ (fun v=>by simp) _
  | exact run_unit_nd _ _ _ (by simp) _
  | simp
theorem mixD_act {Q:Act->World->Prop} {k:Nat} {o:Oper} {rest:List Oper} {a:Act} {w:World} (hgd:o.guard=none) (hE:es.contains k=true) (hp:plainOp o=true) (hsz:∀ d,o.dst=some d->d<a.tmps.size) (v:Value) (w':World)
  (h:∀ m,o.wp P a (w.drewN m) (fun a' w''=>(∀ d,o.dst=some d->a'.tmps.getD d undef=v)/\∃ m',w''=w'.drewN m') (fun _ _ _=>False)) (hC:C w')
  (hk:wpMixD P ops C es Q (k+1) rest (a.put o.dst v) w'):wpMixD P ops C es Q k (o::rest) a w:=by
 unfold wpMixD;rw [if_pos (wanted_free hgd _),if_pos hE]
 refine ⟨v,w',fun m=>?_,hC,hk⟩
 have h1:=h m
 have hn:=run_not_enter (P:=P) o hp a.eval (w.drewN m)
 have hnd:=fun d=>run_not_defer (P:=P) o hp a.eval (w.drewN m) d
 have key:∀ u,(∀ d,o.dst=some d->(a.put o.dst u).tmps.getD d undef=v)->u=v\/o.dst=none:=by
  intro u hu
  cases hd:o.dst with
  | none=>exact .inr rfl
  | some d =>
   have:=hu d hd
   rw [hd,put_at a d u (hsz d hd)] at this;exact .inl this
 unfold Oper.wp at h1;unfold effAt;generalize (execOp a.eval o).run P (w.drewN m)=r at *
 cases r with
 | ok n w2 =>
  cases n<;>simp only [Oper.upon] at h1<;>simp only [effUpon]
  case value u=>exact ⟨key u h1.1,h1.2⟩
  case skip=>exact ⟨key undef h1.1,h1.2⟩
  case enter f args=>exact absurd rfl (hn f args w2)
  case row row args=>exact h1.mono fun u w'' h'=>⟨key u h'.1,h'.2⟩
  case defer d=>exact absurd rfl (hnd d w2)
 | halt x w2=>cases x<;>simp only [Oper.upon] at h1
theorem mixD_nil {Q:Act->World->Prop} {k:Nat} {a:Act} {w:World} (h:Q a w):wpMixD P ops C es Q k [] a w:=h
end
section
variable {P : Program} {ops : Array Oper} {C : World -> Prop} {es : List Nat}
theorem mix_pureG {Q:Act->World->Prop} {k:Nat} {o:Oper} {rest:List Oper} {a:Act} {w:World} (hw:Region.wanted o (yielded ops a.tmps)=true) (hE:es.contains k=false) (hp:plainOp o=true)
  (h:∀ K:Act->Prop,(∀ a',wpMix P ops C es Q (k+1) rest a' w->K a')->o.quiet P a C K):wpMix P ops C es Q k (o::rest) a w:=by
 unfold wpMix;rw [if_pos hw,hE]
 obtain ⟨v,h1,h2⟩:=h _ (fun _ h=>h)
 exact ⟨v,fun w hw=>pure_of_plain hp v w (h1 w hw),h2⟩
theorem mix_skip {Q:Act->World->Prop} {k:Nat} {o:Oper} {rest:List Oper} {a:Act} {w:World} (hw:Region.wanted o (yielded ops a.tmps)=false) (h:wpMix P ops C es Q (k+1) rest (a.put o.dst undef) w):wpMix P ops C es Q k (o::rest) a w:=by
 unfold wpMix;rw [hw];exact h
theorem mix_nilCheckG {Q:Act->World->Prop} {k:Nat} {o:Oper} {rest:List Oper} {a:Act} {w:World} (hw:Region.wanted o (yielded ops a.tmps)=true) (hE:es.contains k=false) (x:Operand) (ad:Addr) (ho:o.op=.nilCheck x) (hx:a.eval x=.pointer (some ad))
  (h:wpMix P ops C es Q (k+1) rest (a.put o.dst (.pointer (some ad))) w):wpMix P ops C es Q k (o::rest) a w:=by
 unfold wpMix;rw [if_pos hw,hE]
 refine ⟨_,fun w _=>?_,h⟩
 unfold pureAt
 simp only [execOp,ho,hx]
 exact ⟨rfl,rfl⟩
theorem mix_pick {Q:Act->World->Prop} {k:Nat} {o:Oper} {rest:List Oper} {a:Act} {w:World} (hgd:o.guard=none) (hE:es.contains k=false) (c x y:Operand) (bv:Bool) (ho:o.op=.pick c x y) (hx:a.eval c=.bool bv)
  (h:wpMix P ops C es Q (k+1) rest (a.put o.dst (if bv then a.eval x else a.eval y)) w):wpMix P ops C es Q k (o::rest) a w:=by
 unfold wpMix;rw [if_pos (wanted_free hgd _),hE]
 refine ⟨_,fun w _=>?_,h⟩
 unfold pureAt
 simp only [execOp,ho,hx]
 exact ⟨rfl,rfl⟩
theorem mix_actG {Q:Act->World->Prop} {k:Nat} {o:Oper} {rest:List Oper} {a:Act} {w:World} (hw:Region.wanted o (yielded ops a.tmps)=true) (hE:es.contains k=true)
  (h:∀ K:Act->World->Prop,(∀ a' w',a'.defers=a.defers->C w'->wpMix P ops C es Q (k+1) rest a' w'->K a' w')->o.wp P a w K (fun _ _ _=>False)):wpMix P ops C es Q k (o::rest) a w:=by
 unfold wpMix;rw [if_pos hw,if_pos hE]
 have h1:=h (fun a' w'=>a'.defers=a.defers/\C w'/\wpMix P ops C es Q (k+1) rest a' w') (fun a' w' h1 h2 h3=>⟨h1,h2,h3⟩)
 unfold Oper.wp at h1;unfold effAt;generalize (execOp a.eval o).run P w=r at *
 cases r with
 | ok n w' =>
  cases n<;>simp only [Oper.upon] at h1<;>simp only [effUpon]
  case value u=>exact h1.2
  case skip=>exact h1.2
  case defer d =>
   have h2:=h1.1
   have h3:(({ a with defers:=d::a.defers }:Act).put o.dst undef).defers=d::a.defers:=by
    unfold Act.put;split<;>rfl
   rw [h3] at h2
   have:=congrArg List.length h2
   simp at this
  case enter f args =>
   refine h1.mono fun e w'' he=>?_
   cases e with
   | returned v=>exact ⟨v,rfl,he.2⟩
   | panicked c=>exact he.elim
   | outgrown=>obtain ⟨_,_,hf⟩:=he;exact hf.elim
  case row row args=>exact h1.mono fun v w'' he=>he.2
 | halt x w'=>cases x<;>simp only [Oper.upon] at h1
end
section
variable {P : Program} {ops : Array Oper} {md : Region.Mode} {C : World -> Prop} {N : World -> World -> Prop}
def depsOf (md:Region.Mode) (o:Oper):List Nat:=(o.after.toList.filter (fun e=>Region.binds md e)).map (·.on)
def OpGoal (P:Program) (ops:Array Oper) (N:World->World->Prop) (R:Value->World->Prop) (o:Oper) (a:Act) (w:World):Prop :=
 if Region.wanted o (yielded ops a.tmps)=true then (∀ K:Act->World->Prop,(∀ a' w' v,a'=a.put o.dst v->N w w'->R v w'->K a' w')->o.wp P a w K (fun _ _ _=>False)) else R undef w
theorem put_tmps (a:Act) (d:Option Tmp) (v:Value) (t:Nat) (h:d≠some t):(a.put d v).tmps[t]?=a.tmps[t]?:=by
 unfold Act.put
 split
 ·rename_i d'
  have:d'≠t:=fun e=>h (by rw [e])
  simp [this]
 ·rfl
theorem put_size (a:Act) (d:Option Tmp) (v:Value):(a.put d v).tmps.size=a.tmps.size:=by
 unfold Act.put
 split<;>simp
theorem put_defers (a:Act) (d:Option Tmp) (v:Value):(a.put d v).defers=a.defers:=by
 unfold Act.put
 split<;>rfl
theorem put_here (a:Act) (t:Nat) (v:Value) (h:t<a.tmps.size):(a.put (some t) v).tmps[t]?=some v:=by
 unfold Act.put
 simp [h]
def chkI (md:Region.Mode) (l:List Oper) (n:Nat):Bool :=
 (List.range l.length).all fun i=>match l[i]? with
  | none=>true
  | some o=>(depsOf md o).all (fun j=>decide (j<i))&&(match o.dst with | none=>true | some d=>decide (d<n)) &&
   (List.range l.length).all fun j=>match l[j]? with
    | none=>true
    | some o'=>(j==i)||((match o.dst with | none=>true | some d=>!(o'.dst==some d)) &&
      (match o'.dst with | none=>true | some t=>!((o.looksAt l.toArray).contains t)||(if j<i then (depsOf md o).contains j else (depsOf md o').contains i)))
structure ChkI (md:Region.Mode) (l:List Oper) (n:Nat):Prop where
 low:∀ (i:Nat) (o:Oper),l[i]?=some o->∀ j∈depsOf md o,j<i
 dst:∀ (i:Nat) (o:Oper) (d:Tmp),l[i]?=some o->o.dst=some d->d<n
 one:∀ (i:Nat) (o:Oper) (j:Nat) (o':Oper) (d:Tmp),l[i]?=some o->l[j]?=some o'->o.dst=some d->o'.dst=some d->j=i
 rd:∀ (i:Nat) (o:Oper) (j:Nat) (o':Oper) (t:Tmp),l[i]?=some o->l[j]?=some o'->j≠i->o'.dst=some t->t∈o.looksAt l.toArray->(j<i->j∈depsOf md o)/\(i<j->i∈depsOf md o')
theorem chk_spec {l:List Oper} {n:Nat} (h:chkI md l n=true):ChkI md l n:=by
 unfold chkI at h;rw [List.all_eq_true] at h
 have key:∀ (i:Nat) (o:Oper),l[i]?=some o->(((depsOf md o).all (fun j=>decide (j<i))&&(match o.dst with | none=>true | some d=>decide (d<n))) &&
   (List.range l.length).all fun j=>match l[j]? with
    | none=>true
    | some o'=>(j==i)||((match o.dst with | none=>true | some d=>!(o'.dst==some d)) &&
      (match o'.dst with | none=>true | some t=>!((o.looksAt l.toArray).contains t)||(if j<i then (depsOf md o).contains j else (depsOf md o').contains i))))=true:=by
  intro i o hi
  have h1:=h i (List.mem_range.2 (List.getElem?_eq_some_iff.1 hi).1)
  simpa only [hi] using h1
 have k2:∀ (i:Nat) (o:Oper) (j:Nat) (o':Oper),l[i]?=some o->l[j]?=some o'->j≠i->((match o.dst with | none=>true | some d=>!(o'.dst==some d)) &&
      (match o'.dst with | none=>true | some t=>!((o.looksAt l.toArray).contains t)||(if j<i then (depsOf md o).contains j else (depsOf md o').contains i)))=true:=by
  intro i o j o' hi hj hne
  have h1:=key i o hi
  rw [Bool.and_eq_true] at h1
  have h2:=List.all_eq_true.1 h1.2 j (List.mem_range.2 (List.getElem?_eq_some_iff.1 hj).1)
  simp only [hj] at h2
  have:(j==i)=false:=by simp [hne]
  rw [this,Bool.false_or] at h2;exact h2
 refine ⟨?_,?_,?_,?_⟩
 ·intro i o hi j hj
  have h1:=key i o hi
  simp only [Bool.and_eq_true] at h1
  simpa using List.all_eq_true.1 h1.1.1 j hj
 ·intro i o d hi hd
  have h1:=key i o hi
  simp only [Bool.and_eq_true,hd] at h1
  simpa using h1.1.2
 ·intro i o j o' d hi hj hd hd'
  by_cases hne:j=i
  ·exact hne
  ·have h1:=k2 i o j o' hi hj hne
   rw [Bool.and_eq_true] at h1
   have h2:=h1.1
   rw [hd,hd'] at h2
   simp at h2
 ·intro i o j o' t hi hj hne hd ht
  have h1:=k2 i o j o' hi hj hne
  rw [Bool.and_eq_true] at h1
  have h2:=h1.2
  have hc:(o.looksAt l.toArray).contains t=true:=by simpa using ht
  simp only [hd,hc,Bool.not_true,Bool.false_or] at h2
  constructor
  ·intro hlt;rw [if_pos hlt] at h2
   simpa using h2
  ·intro hlt
   rw [if_neg (by omega)] at h2
   simpa using h2
def unlF (f:Nat->Bool):Nat->Nat
 | 0=>0
 | n+1=>unlF f n+(if f n then 0 else 1)
theorem unl_zero (f:Nat->Bool):∀ n,unlF f n=0->∀ j,j<n->f j=true
 | 0,_,j,hj=>absurd hj (Nat.not_lt_zero _)
 | n+1,h,j,hj=>by
  simp only [unlF] at h
  by_cases e:j=n
  ·subst e
   cases hf:f j with
   | true=>rfl
   | false=>simp [hf] at h
  ·exact unl_zero f n (by omega) j (by omega)
theorem unl_same (f g:Nat->Bool):∀ n,(∀ j,j<n->f j=g j)->unlF f n=unlF g n
 | 0,_=>rfl
 | n+1,h=>by simp only [unlF];rw [unl_same f g n (fun j hj=>h j (by omega)),h n (by omega)]
theorem unl_step (f g:Nat->Bool) (i:Nat) (hf:f i=false) (hg:g i=true) (he:∀ j,j≠i->g j=f j):∀ n,i<n->unlF f n=unlF g n+1
 | 0,h=>absurd h (Nat.not_lt_zero _)
 | n+1,h=>by
  simp only [unlF]
  by_cases e:i=n
  ·subst e
   rw [unl_same g f i (fun j hj=>he j (by omega)),hf,hg]
   simp
  ·rw [unl_step f g i hf hg he n (by omega),he n (by omega)]
   omega
theorem unl_all (n:Nat):unlF (fun _=>false) n=n:=by
 induction n with
 | zero=>rfl
 | succ n ih=>simp only [unlF,ih];rfl
theorem eff_of_goal {R:Value->World->Prop} {o:Oper} {a:Act} {w:World} (h:∀ K:Act->World->Prop,(∀ a' w' v,a'=a.put o.dst v->N w w'->R v w'->K a' w')->o.wp P a w K (fun _ _ _=>False)) :
  effAt P o a w (fun u w'=>∃ v,a.put o.dst u=a.put o.dst v/\N w w'/\R v w'):=by
 have h1:=h (fun a' w'=>∃ v,a'=a.put o.dst v/\N w w'/\R v w') (fun a' w' v h1 h2 h3=>⟨v,h1,h2,h3⟩)
 unfold Oper.wp at h1;unfold effAt;generalize (execOp a.eval o).run P w=r at *
 cases r with
 | ok n w' =>
  cases n<;>simp only [Oper.upon] at h1<;>simp only [effUpon]
  case value u=>exact h1
  case skip=>exact h1
  case defer d =>
   obtain ⟨v,h2,_⟩:=h1
   have h3:=congrArg Act.defers h2
   rw [put_defers,put_defers] at h3
   have:=congrArg List.length h3
   simp at this
  case enter f args =>
   refine h1.mono fun e w'' he=>?_
   cases e with
   | returned v=>exact ⟨v,rfl,he⟩
   | panicked c=>exact he.elim
   | outgrown=>obtain ⟨_,_,hf⟩:=he;exact hf.elim
  case row row args=>exact h1
 | halt x w'=>cases x<;>simp only [Oper.upon] at h1
theorem wp_of_eff {o:Oper} {a:Act} {w:World} {K:Act->World->Prop} {Q:Exit->Act->World->Prop} (h:effAt P o a w (fun v w'=>K (a.put o.dst v) w')):o.wp P a w K Q:=by
 unfold effAt at h;unfold Oper.wp;generalize (execOp a.eval o).run P w=r at *
 cases r with
 | ok n w' =>
  cases n<;>simp only [effUpon] at h<;>simp only [Oper.upon]
  case value u=>exact h
  case skip=>exact h
  case enter f args=>exact h.mono fun e w'' ⟨v,he,hk⟩=>by subst he;exact hk
  case row row args=>exact h
 | halt x w'=>simp only [effUpon] at h
theorem eval_same {a a':Act} {o:Oper} {ops:Array Oper} (h:∀ t∈o.looksAt ops,a.tmps[t]?=a'.tmps[t]?):∀ x∈o.op.operands,a.eval x=a'.eval x:=by
 intro x hx
 cases x with
 | tmp t =>
  have ht:t∈o.looksAt ops:=List.mem_append_left _ (List.mem_filterMap.2 ⟨.tmp t,by simpa using hx,rfl⟩)
  have:=h t ht
  simp only [Act.eval,Array.getD_eq_getD_getElem?,this]
 | _=>rfl
theorem wanted_same {a a':Act} {o:Oper} {ops:Array Oper} (h:∀ t∈o.looksAt ops,a.tmps[t]?=a'.tmps[t]?):Region.wanted o (yielded ops a.tmps)=Region.wanted o (yielded ops a'.tmps):=by
 unfold Region.wanted
 cases hg:o.guard with
 | none=>rfl
 | some g =>
  obtain ⟨j,want⟩:=g
  simp only
  unfold yielded
  cases hd:(ops[j]?).bind (·.dst) with
  | none=>rfl
  | some d =>
   have ht:d∈o.looksAt ops:=List.mem_append_right _ (by simp [hg,hd])
   simp only [Option.bind_some,h d ht]
theorem getD_set_self {listed:Array Bool} {i:Nat} (h:i<listed.size) (d:Bool):(listed.setIfInBounds i true).getD i d=true:=by simp [h]
theorem getD_any {listed:Array Bool} {i:Nat} (h:i<listed.size) (d d':Bool):listed.getD i d=listed.getD i d':=by simp [h]
end
abbrev LW:=(Nat->Bool)->World->Prop
abbrev InvT:=Value ⊕ ((Nat->Bool)->Value->World->Prop)
section
variable {P : Program} {ops : Array Oper} {md : Region.Mode} {C : LW} {N : Nat -> World -> World -> Prop}
def updL (L:Nat->Bool) (i:Nat):Nat->Bool:=fun j=>if j=i then true else L j
def KnownT (F:List LW):List Nat->LW
 | [],_,_=>True
 | j::ds,L,w=>(F[j]?.getD (fun _ _=>True)) L w/\KnownT F ds L w
def AllT:List LW->LW
 | [],_,_=>True
 | f::l,L,w=>f L w/\AllT l L w
def relT:InvT->(Nat->Bool)->Value->World->Prop
 | .inl v=>fun _ u _=>u=v
 | .inr R=>R
def valT (x:Value):InvT->Value
 | .inl v=>v
 | .inr _=>x
def factT (x:Value):InvT->LW
 | .inl _=>fun _ _=>True
 | .inr R=>fun L w=>R L x w
def NowT (md:Region.Mode) (ops:Array Oper) (k:Nat) (L:Nat->Bool):Prop:=L k=false/\∀ (j:Nat) (o:Oper),ops[j]?=some o->(depsOf md o).contains k=true->L j=false
def WalkT (P:Program) (ops:Array Oper) (md:Region.Mode) (C:LW) (N:Nat->World->World->Prop) (Q:Act->World->Prop):Nat->List InvT->List Oper->Act->List LW->Prop
 | _,_,[],a,F=>∀ (L:Nat->Bool) (w:World),(∀ j,j<ops.size->L j=true)->C L w->AllT F L w->Q a w
 | _,[],_::_,_,_=>False
 | k,.inl v::ss,o::rest,a,F=>(∀ (L:Nat->Bool) (w:World),NowT md ops k L->C L w->KnownT F (depsOf md o) L w->OpGoal P ops (N k) (fun (u:Value) (_:World)=>u=v) o a w)/\WalkT P ops md C N Q (k+1) ss rest (a.put o.dst v) (F++[fun (_:Nat->Bool) (_:World)=>True])
 | k,.inr R::ss,o::rest,a,F=>(∀ (L:Nat->Bool) (w:World),NowT md ops k L->C L w->KnownT F (depsOf md o) L w->OpGoal P ops (N k) (R (updL L k)) o a w)/\∀ x,WalkT P ops md C N Q (k+1) ss rest (a.put o.dst x) (F++[fun L w=>R L x w])
def factsT (x:Nat->Value):Nat->List InvT->Nat->List LW
 | _,_,0=>[]
 | _,[],_+1=>[]
 | k,s::ss,i+1=>factT (x k) s::factsT x (k+1) ss i
def putT (x:Nat->Value):Nat->List InvT->List Oper->Nat->Act->Act
 | _,_,_,0,a=>a
 | _,[],_,_+1,a=>a
 | _,_,[],_+1,a=>a
 | k,s::ss,o::l,i+1,a=>putT x (k+1) ss l i (a.put o.dst (valT (x k) s))
theorem walkT_len {Q:Act->World->Prop}:∀ {l:List Oper} {k:Nat} {ss:List InvT} {a:Act} {F:List LW},WalkT P ops md C N Q k ss l a F->l.length<=ss.length
 | [],_,_,_,_,_=>Nat.zero_le _
 | _::_,_,[],_,_,h=>h.elim
 | _::_,_,.inl _::_,_,_,h=>Nat.succ_le_succ (walkT_len h.2)
 | _::_,_,.inr _::_,_,_,h=>Nat.succ_le_succ (walkT_len (h.2 undef))
theorem walkT_at {Q:Act->World->Prop} (x:Nat->Value):∀ {l:List Oper} {ss:List InvT} {a:Act} {F:List LW} (k:Nat),WalkT P ops md C N Q k ss l a F ->
  ∀ (i:Nat) (o:Oper) (s:InvT),l[i]?=some o->ss[i]?=some s->∀ (L:Nat->Bool) (w:World),NowT md ops (k+i) L->C L w->KnownT (F++factsT x k ss i) (depsOf md o) L w->OpGoal P ops (N (k+i)) (fun u w=>relT s (updL L (k+i)) u w) o (putT x k ss l i a) w
 | [],_,_,_,_,_,i,_,_,ho,_,_,_,_,_,_=>by simp at ho
 | _::_,[],_,_,_,h,_,_,_,_,_,_,_,_,_,_=>h.elim
 | o0::l,.inl v::ss,a,F,k,h,i,o,s,ho,hs,L,w,hn,hC,hk=>by
  cases i with
  | zero =>
   simp only [List.getElem?_cons_zero,Option.some.injEq] at ho hs
   subst ho hs
   simp only [factsT,List.append_nil] at hk
   simp only [putT]
   exact h.1 L w hn hC hk
  | succ i =>
   simp only [List.getElem?_cons_succ] at ho hs
   simp only [putT]
   have e:k+(i+1)=k+1+i:=by omega
   rw [e] at hn ⊢
   refine walkT_at x (k+1) h.2 i o s ho hs L w hn hC ?_
   simpa [factsT,factT] using hk
 | o0::l,.inr R::ss,a,F,k,h,i,o,s,ho,hs,L,w,hn,hC,hk=>by
  cases i with
  | zero =>
   simp only [List.getElem?_cons_zero,Option.some.injEq] at ho hs
   subst ho hs
   simp only [factsT,List.append_nil] at hk
   simp only [putT]
   exact h.1 L w hn hC hk
  | succ i =>
   simp only [List.getElem?_cons_succ] at ho hs
   simp only [putT]
   have e:k+(i+1)=k+1+i:=by omega
   rw [e] at hn ⊢
   refine walkT_at x (k+1) (h.2 (x k)) i o s ho hs L w hn hC ?_
   simpa [factsT,factT] using hk
theorem walkT_end {Q:Act->World->Prop} (x:Nat->Value):∀ {l:List Oper} {ss:List InvT} {a:Act} {F:List LW} (k:Nat),WalkT P ops md C N Q k ss l a F ->
  ∀ (L:Nat->Bool) (w:World),(∀ j,j<ops.size->L j=true)->C L w->AllT (F++factsT x k ss l.length) L w->Q (putT x k ss l l.length a) w
 | [],ss,a,F,k,h,L,w,hL,hC,hk=>by
  have h':∀ (L:Nat->Bool) (w:World),(∀ j,j<ops.size->L j=true)->C L w->AllT F L w->Q a w:=by
   cases ss with
   | nil=>exact h
   | cons s ss=>cases s<;>exact h
  simp only [List.length_nil,factsT,List.append_nil] at hk
  simpa [putT] using h' L w hL hC hk
 | _::_,[],_,_,_,h,_,_,_,_,_=>h.elim
 | o0::l,.inl v::ss,a,F,k,h,L,w,hL,hC,hk=>by
  simp only [List.length_cons,putT]
  refine walkT_end x (k+1) h.2 L w hL hC ?_
  simpa [factsT,factT] using hk
 | o0::l,.inr R::ss,a,F,k,h,L,w,hL,hC,hk=>by
  simp only [List.length_cons,putT]
  refine walkT_end x (k+1) (h.2 (x k)) L w hL hC ?_
  simpa [factsT,factT] using hk
theorem factsT_at (x:Nat->Value):∀ (ss:List InvT) (k i j:Nat),(factsT x k ss i)[j]?=if j<i then (ss[j]?).map (factT (x (k+j))) else none
 | [],k,0,j=>by simp [factsT]
 | [],k,i+1,j=>by simp [factsT]
 | s::ss,k,0,j=>by simp [factsT]
 | s::ss,k,i+1,0=>by simp [factsT]
 | s::ss,k,i+1,j+1=>by
  rw [factsT,List.getElem?_cons_succ,factsT_at x ss (k+1) i j]
  have:k+1+j=k+(j+1):=by omega
  simp [this]
theorem knownT_of (F:List LW) (L:Nat->Bool) (w:World):∀ (ds:List Nat),(∀ j∈ds,∀ f:LW,F[j]?=some f->f L w)->KnownT F ds L w
 | [],_=>trivial
 | j::ds,h=>⟨by
   cases hf:F[j]? with
   | none=>trivial
   | some f=>exact h j (by simp) f hf,knownT_of F L w ds (fun i hi=>h i (List.mem_cons_of_mem _ hi))⟩
theorem allT_of (L:Nat->Bool) (w:World):∀ (F:List LW),(∀ (j:Nat) (f:LW),F[j]?=some f->f L w)->AllT F L w
 | [],_=>trivial
 | f::F,h=>⟨h 0 f (by simp),allT_of L w F (fun j g hg=>h (j+1) g (by simpa using hg))⟩
theorem putT_size (x:Nat->Value):∀ (i:Nat) (l:List Oper) (ss:List InvT) (k:Nat) (a:Act),(putT x k ss l i a).tmps.size=a.tmps.size
 | 0,_,_,_,_=>by simp [putT]
 | i+1,_,[],_,_=>by simp [putT]
 | i+1,[],_::_,_,_=>by simp [putT]
 | i+1,o::l,s::ss,k,a=>by rw [putT,putT_size x i l ss,put_size]
theorem putT_defers (x:Nat->Value):∀ (i:Nat) (l:List Oper) (ss:List InvT) (k:Nat) (a:Act),(putT x k ss l i a).defers=a.defers
 | 0,_,_,_,_=>by simp [putT]
 | i+1,_,[],_,_=>by simp [putT]
 | i+1,[],_::_,_,_=>by simp [putT]
 | i+1,o::l,s::ss,k,a=>by rw [putT,putT_defers x i l ss,put_defers]
theorem putT_other (x:Nat->Value) (t:Nat):∀ (i:Nat) (l:List Oper) (ss:List InvT) (k:Nat) (a:Act),(∀ (j:Nat) (o:Oper),j<i->l[j]?=some o->o.dst≠some t)->(putT x k ss l i a).tmps[t]?=a.tmps[t]?
 | 0,_,_,_,_,_=>by simp [putT]
 | i+1,_,[],_,_,_=>by simp [putT]
 | i+1,[],_::_,_,_,_=>by simp [putT]
 | i+1,o::l,s::ss,k,a,h=>by
  rw [putT,putT_other x t i l ss _ _ (fun j o' hj ho=>h (j+1) o' (by omega) (by simpa using ho)),put_tmps _ _ _ _ (h 0 o (by omega) rfl)]
theorem putT_at (x:Nat->Value) (t:Nat):∀ (i:Nat) (l:List Oper) (ss:List InvT) (k:Nat) (a:Act) (j:Nat) (o:Oper) (s:InvT),j<i->l[j]?=some o->ss[j]?=some s->o.dst=some t ->
  (∀ (j':Nat) (o':Oper),j'<i->j'≠j->l[j']?=some o'->o'.dst≠some t)->t<a.tmps.size->(putT x k ss l i a).tmps[t]?=some (valT (x (k+j)) s)
 | 0,_,_,_,_,j,_,_,hj,_,_,_,_,_=>absurd hj (Nat.not_lt_zero _)
 | i+1,_,[],_,_,j,_,_,_,_,hs,_,_,_=>by simp at hs
 | i+1,[],_::_,_,_,j,_,_,_,ho,_,_,_,_=>by simp at ho
 | i+1,o0::l,s0::ss,k,a,0,o,s,_,ho,hs,hd,hx,ht=>by
  simp only [List.getElem?_cons_zero,Option.some.injEq] at ho hs
  subst ho hs
  rw [putT,putT_other x t i l ss _ _ (fun j o' hj ho=>hx (j+1) o' (by omega) (by omega) (by simpa using ho)),hd,put_here _ _ _ ht]
  rfl
 | i+1,o0::l,s0::ss,k,a,j+1,o,s,hj,ho,hs,hd,hx,ht=>by
  simp only [List.getElem?_cons_succ] at ho hs
  rw [putT,putT_at x t i l ss (k+1) _ j o s (by omega) ho hs hd (fun j' o' h1 h2 h3=>hx (j'+1) o' (by omega) (by omega) (by simpa using h3)) (by rw [put_size];exact ht)]
  have:k+1+j=k+(j+1):=by omega
  rw [this]
def lof (listed:Array Bool):Nat->Bool:=fun j=>listed.getD j false
structure InvL (md:Region.Mode) (C:LW) (ss:List InvT) (l:List Oper) (a0:Act) (listed:Array Bool) (a:Act) (w:World) (x:Nat->Value):Prop where
 c:C (lof listed) w
 sz:a.tmps.size=a0.tmps.size
 df:a.defers=a0.defers
 ls:listed.size=l.length
 val:∀ (j:Nat) (o:Oper) (d:Tmp) (s:InvT),listed.getD j false=true->l[j]?=some o->ss[j]?=some s->o.dst=some d->a.tmps[d]?=some (valT (x j) s)
 fact:∀ (j:Nat) (s:InvT),listed.getD j false=true->ss[j]?=some s->factT (x j) s (lof listed) w
 old:∀ d:Tmp,(∀ (j:Nat) (o:Oper),listed.getD j false=true->l[j]?=some o->o.dst≠some d)->a.tmps[d]?=a0.tmps[d]?
 shut:∀ (j:Nat) (o:Oper),listed.getD j false=true->l[j]?=some o->∀ i∈depsOf md o,listed.getD i false=true
theorem InvL.eq {ss:List InvT} {l:List Oper} {a0 a:Act} {listed:Array Bool} {w:World} {x:Nat->Value} (h:InvL md C ss l a0 listed a w x) (hB:ChkI md l a0.tmps.size) (hls:l.length<=ss.length) (hall:∀ j,j<l.length->listed.getD j false=true) :
  a=putT x 0 ss l l.length a0:=by
 have ht:a.tmps=(putT x 0 ss l l.length a0).tmps:=by
  apply Array.ext_getElem?
  intro t
  by_cases hd:∃ (j:Nat) (o:Oper),l[j]?=some o/\o.dst=some t
  ·obtain ⟨j,o,hj,hdo⟩:=hd
   have hjl:j<l.length:=(List.getElem?_eq_some_iff.1 hj).1
   obtain ⟨s,hs⟩:∃ s,ss[j]?=some s:=⟨ss[j]'(by omega),List.getElem?_eq_getElem _⟩
   rw [h.val j o t s (hall j hjl) hj hs hdo,putT_at x t l.length l ss 0 a0 j o s hjl hj hs hdo (fun j' o' _ hne ho' hd'=>hne (hB.one j o j' o' t hj ho' hdo hd')) (hB.dst j o t hj hdo)]
   simp
  ·rw [h.old t (fun j o _ hj hdo=>hd ⟨j,o,hj,hdo⟩),putT_other x t l.length l ss 0 a0 (fun j o _ hj hdo=>hd ⟨j,o,hj,hdo⟩)]
 have hdf:a.defers=(putT x 0 ss l l.length a0).defers:=by rw [h.df,putT_defers]
 cases a
 generalize putT x 0 ss l l.length a0=b at *
 cases b
 simp only at ht hdf
 rw [ht,hdf]
theorem InvL.same {ss:List InvT} {l:List Oper} {a0 a:Act} {listed:Array Bool} {w:World} {x:Nat->Value} (h:InvL md C ss l a0 listed a w x) (hB:ChkI md l a0.tmps.size) (hls:l.length<=ss.length)
  {i:Nat} {o:Oper} (hi:l[i]?=some o) (hu:listed.getD i false=false) (hr:∀ j∈depsOf md o,listed.getD j false=true):∀ t∈o.looksAt l.toArray,a.tmps[t]?=(putT x 0 ss l i a0).tmps[t]?:=by
 intro t ht
 by_cases hd:∃ (j:Nat) (o':Oper),j<i/\l[j]?=some o'/\o'.dst=some t
 ·obtain ⟨j,o',hji,hj,hdo⟩:=hd
  have hjl:j<l.length:=(List.getElem?_eq_some_iff.1 hj).1
  obtain ⟨s,hs⟩:∃ s,ss[j]?=some s:=⟨ss[j]'(by omega),List.getElem?_eq_getElem _⟩
  have hdep:=(hB.rd i o j o' t hi hj (by omega) hdo ht).1 hji
  rw [h.val j o' t s (hr j hdep) hj hs hdo,putT_at x t i l ss 0 a0 j o' s hji hj hs hdo (fun j' o'' _ hne ho' hd'=>hne (hB.one j o' j' o'' t hj ho' hdo hd')) (hB.dst j o' t hj hdo)]
  simp
 ·rw [putT_other x t i l ss 0 a0 (fun j o' hji hj hdo=>hd ⟨j,o',hji,hj,hdo⟩)]
  refine h.old t (fun j o' hl hj hdo=>?_)
  rcases Nat.lt_trichotomy j i with hji | hji | hji
  ·exact hd ⟨j,o',hji,hj,hdo⟩
  ·subst hji;rw [hu] at hl;cases hl
  ·have hdep:=(hB.rd i o j o' t hi hj (by omega) hdo ht).2 hji
   have:=h.shut j o' hl hj i hdep
   rw [hu] at this
   cases this
theorem InvL.step {ss:List InvT} {l:List Oper} {a0 a:Act} {listed:Array Bool} {w w':World} {x:Nat->Value} (h:InvL md C ss l a0 listed a w x) (hB:ChkI md l a0.tmps.size) (_hls:l.length<=ss.length)
  (hst:∀ (j:Nat) (s:InvT),ss[j]?=some s->∀ (i:Nat) (L:Nat->Bool) u w w',NowT md l.toArray i L->L j=true->N i w w'->relT s L u w->relT s (updL L i) u w') (hN:∀ (i:Nat) (L:Nat->Bool) w w',NowT md l.toArray i L->C L w->N i w w'->C (updL L i) w')
  {i:Nat} {o:Oper} {s:InvT} {v:Value} (hi:l[i]?=some o) (hs:ss[i]?=some s) (hu:listed.getD i false=false) (hr:∀ j∈depsOf md o,listed.getD j false=true) (n:N i w w') (hv:relT s (updL (lof listed) i) v w') :
  ∃ x',InvL md C ss l a0 (listed.setIfInBounds i true) (a.put o.dst v) w' x':=by
 have hil:i<l.length:=(List.getElem?_eq_some_iff.1 hi).1
 have hix:i<listed.size:=by rw [h.ls];exact hil
 refine ⟨fun j=>if j=i then v else x j,?_⟩
 have hmem:∀ j,(listed.setIfInBounds i true).getD j false=true->j=i\/(j≠i/\listed.getD j false=true):=by
  intro j hj
  by_cases e:j=i
  ·exact .inl e
  ·rw [getD_set_ne false (fun e'=>e e'.symm)] at hj
   exact .inr ⟨e,hj⟩
 have hmem2:∀ j,listed.getD j false=true->(listed.setIfInBounds i true).getD j false=true:=by
  intro j hj
  by_cases e:j=i
  ·subst e;exact getD_set_self hix false
  ·rw [getD_set_ne false (fun e'=>e e'.symm)];exact hj
 have hnow:NowT md l.toArray i (lof listed):=by
  refine ⟨hu,fun j o' hj hc=>?_⟩
  cases hlj:lof listed j with
  | false=>rfl
  | true =>
   have:=h.shut j o' hlj (by simpa using hj) i (by simpa using hc)
   rw [hu] at this
   cases this
 have hlof:lof (listed.setIfInBounds i true)=updL (lof listed) i:=by
  funext j
  unfold lof updL
  by_cases e:j=i
  ·subst e;rw [if_pos rfl];exact getD_set_self hix false
  ·rw [if_neg e];exact getD_set_ne false (fun e'=>e e'.symm)
 have keepF:∀ (j:Nat) (y:Value) (s':InvT),listed.getD j false=true->ss[j]?=some s'->factT y s' (lof listed) w->factT y s' (updL (lof listed) i) w':=by
  intro j y s' hj hs' hf
  cases s' with
  | inl _=>trivial
  | inr R=>exact hst j _ hs' i (lof listed) y w w' hnow hj n hf
 refine ⟨by rw [hlof];exact hN i _ _ _ hnow h.c n,by rw [put_size,h.sz],by rw [put_defers,h.df],by simp [h.ls],?_,?_,?_,?_⟩
 ·intro j o' d s' hj ho' hs' hd
  rcases hmem j hj with rfl | ⟨hne,hj'⟩
  ·rw [hi] at ho';cases ho'
   rw [hs] at hs';cases hs'
   rw [hd,put_here _ _ _ (by rw [h.sz];exact hB.dst j o d hi hd)]
   simp only [if_true]
   cases s with
   | inl v0=>simp only [relT] at hv;simp [valT,hv]
   | inr R=>rfl
  ·rw [if_neg hne,put_tmps _ _ _ _ (fun e=>hne (hB.one i o j o' d hi ho' e hd))]
   exact h.val j o' d s' hj' ho' hs' hd
 ·intro j s' hj hs'
  rcases hmem j hj with rfl | ⟨hne,hj'⟩
  ·rw [hs] at hs';cases hs'
   simp only [if_true]
   cases s with
   | inl v0=>trivial
   | inr R=>rw [hlof];exact hv
  ·simp only [if_neg hne]
   rw [hlof]
   exact keepF j _ _ hj' hs' (h.fact j s' hj' hs')
 ·intro d hd;rw [put_tmps _ _ _ _ (hd i o (getD_set_self hix false) hi)]
  exact h.old d (fun j o' hj ho'=>hd j o' (hmem2 j hj) ho')
 ·intro j o' hj ho' k hk
  rcases hmem j hj with rfl | ⟨hne,hj'⟩
  ·rw [hi] at ho';cases ho'
   exact hmem2 k (hr k hk)
  ·exact hmem2 k (h.shut j o' hj' ho' k hk)
theorem wpAny_invL {ss:List InvT} {l:List Oper} {a0:Act} {Q:Act->World->Prop} {Q':Exit->Act->World->Prop} (hQ:∀ a w,Q a w->Q' .normal a w) (hB:ChkI md l a0.tmps.size) (hsel:Region.noSelect l.toArray=true)
  (hst:∀ (j:Nat) (s:InvT),ss[j]?=some s->∀ (i:Nat) (L:Nat->Bool) u w w',NowT md l.toArray i L->L j=true->N i w w'->relT s L u w->relT s (updL L i) u w') (hN:∀ (i:Nat) (L:Nat->Bool) w w',NowT md l.toArray i L->C L w->N i w w'->C (updL L i) w') (hrf:(l.all (fun o=>o.guard.isNone))=true\/∀ i w,N i w w)
  (hW:WalkT P l.toArray md C N Q 0 ss l a0 []):∀ (fuel:Nat) (listed:Array Bool) (a:Act) (w:World) (x:Nat->Value),InvL md C ss l a0 listed a w x->unlF (fun j=>listed.getD j false) l.length<=fuel ->
  wpAny P md l.toArray Q' fuel listed a w:=by
 have hls:=walkT_len hW
 have hend:∀ (listed:Array Bool) (a:Act) (w:World) (x:Nat->Value),InvL md C ss l a0 listed a w x->(∀ j,j<l.length->listed.getD j false=true)->Q' .normal a w:=by
  intro listed a w x h hall;rw [h.eq hB hls hall]
  refine hQ _ _ (walkT_end x 0 hW (lof listed) w (fun j hj=>hall j (by simpa using hj)) h.c ?_)
  refine allT_of _ w _ (fun j f hf=>?_)
  rw [List.nil_append,factsT_at] at hf
  by_cases hj:j<l.length
  ·rw [if_pos hj] at hf
   obtain ⟨s,hs⟩:∃ s,ss[j]?=some s:=⟨ss[j]'(by omega),List.getElem?_eq_getElem _⟩
   rw [hs] at hf
   simp only [Option.map_some,Option.some.injEq,Nat.zero_add] at hf
   rw [<- hf]
   exact h.fact j s (hall j hj) hs
  ·rw [if_neg hj] at hf;cases hf
 have hnil:∀ (listed:Array Bool),listed.size=l.length->Region.ready md l.toArray listed=[]->∀ n j,j<n->j<l.length->listed.getD j false=true:=by
  intro listed hsz hr n
  induction n with
  | zero=>intro j hj;exact absurd hj (Nat.not_lt_zero _)
  | succ n ih =>
   intro j hj hjl
   cases hc:listed.getD j false with
   | true=>rfl
   | false =>
    exfalso
    have hjs:j<listed.size:=by omega
    obtain ⟨o,ho⟩:∃ o,l[j]?=some o:=⟨l[j],List.getElem?_eq_getElem _⟩
    have:j∈Region.ready md l.toArray listed:=mem_ready.2 ⟨by rw [getD_any hjs true false];exact hc,o,by simpa using ho,fun e he hb=>by
     have hd:e.on∈depsOf md o:=List.mem_map.2 ⟨e,List.mem_filter.2 ⟨by simpa using he,hb⟩,rfl⟩
     have hlt:=hB.low j o ho e.on hd
     exact ih e.on (by omega) (by omega)⟩
    rw [hr] at this
    cases this
 intro fuel
 induction fuel with
 | zero =>
  intro listed a w x h hf
  have hall:=unl_zero (fun j=>listed.getD j false) l.length (by omega)
  refine ⟨?_,hend listed a w x h hall⟩
  apply List.eq_nil_iff_forall_not_mem.2
  intro i hi;obtain ⟨h0,o,ho,_⟩:=mem_ready.1 hi
  have hil:i<l.length:=by simpa using (Array.getElem?_eq_some_iff.1 ho).1
  have h1:listed.getD i false=true:=hall i hil
  rw [getD_any (by rw [h.ls];exact hil) true false,h1] at h0
  cases h0
 | succ fuel ih =>
  intro listed a w x h hf
  refine ⟨fun hr=>hend listed a w x h (fun j hj=>hnil listed h.ls hr (j+1) j (by omega) hj),?_⟩
  intro i hi;obtain ⟨h0,o,ho,hrd⟩:=mem_ready.1 hi
  have hi':l[i]?=some o:=by simpa using ho
  have hil:i<l.length:=(List.getElem?_eq_some_iff.1 hi').1
  have hix:i<listed.size:=by rw [h.ls];exact hil
  have hu:listed.getD i false=false:=by rw [getD_any hix false true];exact h0
  have hr:∀ j∈depsOf md o,listed.getD j false=true:=by
   intro j hj;obtain ⟨e,he,rfl⟩:=List.mem_map.1 hj;obtain ⟨he1,he2⟩:=List.mem_filter.1 he
   exact hrd e (by simpa using he1) he2
  obtain ⟨s,hs⟩:∃ s,ss[i]?=some s:=⟨ss[i]'(by omega),List.getElem?_eq_getElem _⟩
  have hk:KnownT ([]++factsT x 0 ss i) (depsOf md o) (lof listed) w:=by
   refine knownT_of _ _ w _ (fun j hj f hfj=>?_)
   rw [List.nil_append,factsT_at] at hfj
   by_cases hji:j<i
   ·rw [if_pos hji] at hfj
    obtain ⟨s',hs'⟩:∃ s,ss[j]?=some s:=⟨ss[j]'(by omega),List.getElem?_eq_getElem _⟩
    rw [hs'] at hfj
    simp only [Option.map_some,Option.some.injEq,Nat.zero_add] at hfj
    rw [<- hfj]
    exact h.fact j s' (hr j hj) hs'
   ·rw [if_neg hji] at hfj;cases hfj
  have hnow:NowT md l.toArray (0+i) (lof listed):=by
   rw [Nat.zero_add]
   refine ⟨hu,fun j o' hj hc=>?_⟩
   cases hlj:lof listed j with
   | false=>rfl
   | true =>
    have:=h.shut j o' hlj (by simpa using hj) i (by simpa using hc)
    rw [hu] at this
    cases this
  have hg:=walkT_at x 0 hW i o s hi' hs (lof listed) w hnow h.c hk
  rw [Nat.zero_add] at hg
  have hsame:=h.same hB hls hi' hu hr
  have hsl:∀ cs b,o.op≠.select cs b:=fun cs b=>Region.noSelect_spec hsel i o cs b ho
  have hun:∀ listed':Array Bool,listed'=listed.setIfInBounds i true->unlF (fun j=>listed'.getD j false) l.length<=fuel:=by
   rintro _ rfl
   have:=unl_step (fun j=>listed.getD j false) (fun j=>(listed.setIfInBounds i true).getD j false) i hu (getD_set_self hix false) (fun j hj=>getD_set_ne false (fun e=>hj e.symm)) l.length hil
   omega
  unfold wpOp
  simp only [ho]
  unfold OpGoal at hg;rw [<- wanted_same hsame] at hg
  split
  ·rename_i hw
   rw [if_pos hw] at hg
   left
   refine wp_of_eff ?_
   have he:=eff_of_goal hg
   unfold effAt at he ⊢
   rw [execOp_congr o hsl (eval_same hsame)]
   refine effUpon_mono ?_ he
   rintro u w' ⟨v,huv,hn,hv⟩
   have hput:a.put o.dst u=a.put o.dst v:=by
    cases hd:o.dst with
    | none=>rfl
    | some d =>
     have h1:=congrArg (fun b:Act=>b.tmps[d]?) huv
     simp only [hd] at h1
     rw [put_here _ _ _ (by rw [putT_size];exact hB.dst i o d hi' hd),put_here _ _ _ (by rw [putT_size];exact hB.dst i o d hi' hd)] at h1
     cases h1
     rfl
   rw [hput];obtain ⟨x',h'⟩:=h.step hB hls hst hN hi' hs hu hr hn hv
   exact ih _ _ _ x' h' (hun _ rfl)
  ·rename_i hw
   rw [if_neg hw] at hg
   have hnn:N i w w:=by
    rcases hrf with hg0 | hrf
    ·exfalso
     have hgn:=List.all_eq_true.1 hg0 o (List.mem_of_getElem? hi')
     exact hw (wanted_free (by simpa using hgn) _)
    ·exact hrf i w
   obtain ⟨x',h'⟩:=h.step hB hls hst hN hi' hs hu hr hnn hg
   exact ih _ _ _ x' h' (hun _ rfl)
theorem wp_region_invL {id:Nat} {Q:Exit->Act->World->Prop} {a:Act} {w:World} {l:List Oper} (ss:List InvT) (C:LW) (N:Nat->World->World->Prop) (hm:P.follows .mixedOrders=true) (hB:chkI .any l a.tmps.size=true) (hsel:Region.noSelect l.toArray=true) (hC:C (fun _=>false) w.drew)
  (hst:∀ (j:Nat) (s:InvT),ss[j]?=some s->∀ (i:Nat) (L:Nat->Bool) u w w',NowT .any l.toArray i L->L j=true->N i w w'->relT s L u w->relT s (updL L i) u w') (hN:∀ (i:Nat) (L:Nat->Bool) w w',NowT .any l.toArray i L->C L w->N i w w'->C (updL L i) w') (hrf:(l.all (fun o=>o.guard.isNone))=true\/∀ i w,N i w w)
  (h:WalkT P l.toArray .any C N (fun a' w'=>Q .normal a' w') 0 ss l a []):(Code.region id l.toArray true).wp P Q a w:=by
 refine wp_region_any hm ?_
 refine wpAny_invL (C:=C) (N:=N) (ss:=ss) (l:=l) (a0:=a) (Q:=fun a' w'=>Q .normal a' w') (fun _ _ h=>h) (chk_spec hB) hsel hst hN hrf h _ _ a w.drew (fun _=>undef) ⟨?_,rfl,rfl,by simp,?_,?_,?_,?_⟩ ?_
 ·have:lof (Array.replicate l.toArray.size false)=fun _=>false:=by
   funext j
   simp only [lof,Array.getD_eq_getD_getElem?,Array.getElem?_replicate]
   split<;>rfl
  rw [this];exact hC
 ·intro j o d s hj
  exfalso
  revert hj
  simp [Array.getElem?_replicate]
  split<;>simp
 ·intro j s hj
  exfalso
  revert hj
  simp [Array.getElem?_replicate]
  split<;>simp
 ·intro d _;rfl
 ·intro j o hj
  exfalso
  revert hj
  simp [Array.getElem?_replicate]
  split<;>simp
 ·have:unlF (fun j=>(Array.replicate l.toArray.size false).getD j false) l.length=l.length:=by
   refine (unl_same _ (fun _=>false) _ (fun j hj=>?_)).trans (unl_all l.length)
   simp [Array.getElem?_replicate]
   split<;>simp
  rw [this]
  simp
theorem invT_det {Q:Act->World->Prop} {k:Nat} {ss:List InvT} {o:Oper} {rest:List Oper} {a:Act} {F:List LW} {v:Value} (hgd:o.guard=none)
  (h:∀ (L:Nat->Bool) (w:World),NowT md ops k L->C L w->KnownT F (depsOf md o) L w->∀ K:Act->World->Prop,(∀ a' w' v',a'=a.put o.dst v'->N k w w'->v'=v->K a' w')->o.wp P a w K (fun _ _ _=>False))
  (hr:WalkT P ops md C N Q (k+1) ss rest (a.put o.dst v) (F++[fun (_:Nat->Bool) (_:World)=>True])):WalkT P ops md C N Q k (.inl v::ss) (o::rest) a F :=
 ⟨fun L w hn hC hk=>by unfold OpGoal;rw [if_pos (wanted_free hgd _)];exact h L w hn hC hk,hr⟩
theorem invT_any {Q:Act->World->Prop} {k:Nat} {ss:List InvT} {o:Oper} {rest:List Oper} {a:Act} {F:List LW} {R:(Nat->Bool)->Value->World->Prop} (hgd:o.guard=none)
  (h:∀ (L:Nat->Bool) (w:World),NowT md ops k L->C L w->KnownT F (depsOf md o) L w->∀ K:Act->World->Prop,(∀ a' w' v',a'=a.put o.dst v'->N k w w'->R (updL L k) v' w'->K a' w')->o.wp P a w K (fun _ _ _=>False))
  (hr:∀ x,WalkT P ops md C N Q (k+1) ss rest (a.put o.dst x) (F++[fun L w=>R L x w])):WalkT P ops md C N Q k (.inr R::ss) (o::rest) a F :=
 ⟨fun L w hn hC hk=>by unfold OpGoal;rw [if_pos (wanted_free hgd _)];exact h L w hn hC hk,hr⟩
theorem invT_nil {Q:Act->World->Prop} {k:Nat} {ss:List InvT} {a:Act} {F:List LW} (h:∀ (L:Nat->Bool) (w:World),(∀ j,j<ops.size->L j=true)->C L w->AllT F L w->Q a w):WalkT P ops md C N Q k ss [] a F:=by
 cases ss with
 | nil=>exact h
 | cons s ss=>cases s<;>exact h
theorem knownT_mem {F:List LW} {L:Nat->Bool} {w:World}:∀ {ds:List Nat},KnownT F ds L w->∀ j,ds.contains j=true->(F[j]?.getD (fun _ _=>True)) L w
 | [],_,j,hj=>by simp at hj
 | i::ds,h,j,hj=>by
  rw [List.contains_cons,Bool.or_eq_true] at hj
  rcases hj with hj | hj
  ·have:j=i:=by simpa using hj
   subst this;exact h.1
  ·exact knownT_mem h.2 j hj
theorem allT_mem {F:List LW} {L:Nat->Bool} {w:World} (h:AllT F L w):∀ (j:Nat),(F[j]?.getD (fun _ _=>True)) L w:=by
 induction F with
 | nil=>intro j;simp
 | cons f F ih =>
  intro j
  cases j with
  | zero=>exact h.1
  | succ j=>simpa using ih h.2 j
def StableT (md:Region.Mode) (ops:Array Oper) (N:Nat->World->World->Prop):Nat->List InvT->Prop
 | _,[]=>True
 | k,.inl _::l=>StableT md ops N (k+1) l
 | k,.inr R::l=>(∀ (i:Nat) (L:Nat->Bool) u w w',NowT md ops i L->L k=true->N i w w'->R L u w->R (updL L i) u w')/\StableT md ops N (k+1) l
theorem stableT_of:∀ {ss:List InvT} {k:Nat},StableT md ops N k ss->∀ (j:Nat) (s:InvT),ss[j]?=some s->∀ (i:Nat) (L:Nat->Bool) u w w',NowT md ops i L->L (k+j)=true->N i w w'->relT s L u w->relT s (updL L i) u w'
 | [],_,_,j,s,hs,_,_,_,_,_,_,_,_,_=>by simp at hs
 | .inl v::l,k,h,0,s,hs,i,L,u,w,w',hn,hk,n,hr=>by
  simp only [List.getElem?_cons_zero,Option.some.injEq] at hs
  subst hs;exact hr
 | .inl v::l,k,h,j+1,s,hs,i,L,u,w,w',hn,hk,n,hr=>by
  have e:k+(j+1)=k+1+j:=by omega
  rw [e] at hk
  exact stableT_of (ss:=l) (k:=k+1) h j s (by simpa using hs) i L u w w' hn hk n hr
 | .inr R::l,k,h,0,s,hs,i,L,u,w,w',hn,hk,n,hr=>by
  simp only [List.getElem?_cons_zero,Option.some.injEq] at hs
  subst hs;exact h.1 i L u w w' hn hk n hr
 | .inr R::l,k,h,j+1,s,hs,i,L,u,w,w',hn,hk,n,hr=>by
  have e:k+(j+1)=k+1+j:=by omega
  rw [e] at hk
  exact stableT_of (ss:=l) (k:=k+1) h.2 j s (by simpa using hs) i L u w w' hn hk n hr
end

end Go.Proofs.YtnhcaifopaeohaaGreatDoor
