import Derived.Test.YtoknbkfclhmapaaGreatDoorC02
import Derived.Test.YtoknbkfclhmapaaGreatDoorC34
namespace Go.Proofs.YtoknbkfclhmapaaGreatDoor
open Go.RowKit
section
variable {P : Program} {ops : Array Oper} {md : Region.Mode} {C : World -> Prop} {es : List Nat}
def drawUpon (P:Program) (w:World) (v:Value):Result Next->Prop
 | .ok (.value u) w'=>w'=w/\u=v
 | .ok .skip w'=>w'=w/\v=undef
 | .ok (.enter f args) w'=>w'=w/\Calls P f args w (fun e w''=>e=.returned v/\∃ m,w''=w.drewN m)
 | _=>False
def drawAt (P:Program) (o:Oper) (a:Act) (w:World) (v:Value):Prop:=drawUpon P w v ((execOp a.eval o).run P w)
theorem put_same {o:Oper} {a:Act} {u v:Value} (h:u=v\/o.dst=none):a.put o.dst u=a.put o.dst v:=by
 rcases h with rfl | h
 ·rfl
 ·rw [h];rfl
def actAt (P:Program) (o:Oper) (a:Act) (w:World) (v:Value) (w':World):Prop:=∀ m,effAt P o a (w.drewN m) (fun u w''=>(u=v\/o.dst=none)/\∃ m',w''=w'.drewN m')
theorem draw_of_pure {o:Oper} {a:Act} {w:World} {v:Value} (h:pureAt P o a w v):drawAt P o a w v:=by
 unfold pureAt at h;unfold drawAt;generalize (execOp a.eval o).run P w=r at *
 cases r with
 | ok n w' =>
  cases n<;>simp only [pureUpon] at h<;>simp only [drawUpon]
  case value x=>exact h
  case skip=>exact h
 | halt x w'=>simp only [pureUpon] at h
theorem act_of_draw (hCd:∀ w m,C w->C (w.drewN m)) {o:Oper} {a:Act} {w:World} {v:Value} (hC:C w) (h:∀ w,C w->drawAt P o a w v):actAt P o a w v w:=by
 intro m
 have h3:=h (w.drewN m) (hCd _ _ hC)
 unfold drawAt at h3;unfold effAt;generalize (execOp a.eval o).run P (w.drewN m)=r at *
 cases r with
 | ok n w2 =>
  cases n<;>simp only [drawUpon] at h3<;>simp only [effUpon]
  case value u=>exact ⟨.inl h3.2,m,h3.1⟩
  case skip=>exact ⟨.inl h3.2.symm,m,h3.1⟩
  case enter f args =>
   rw [h3.1]
   exact h3.2.mono fun e w'' ⟨he,m',hk⟩=>⟨v,he,.inl rfl,m+m',by rw [hk,World.drewN_drewN]⟩
 | halt x w2=>simp only [drawUpon] at h3
def dOp (P:Program) (ops:Array Oper) (C:World->Prop) (es:List Nat) (i:Nat) (K:Act->World->Prop) (a:Act) (w:World):Prop :=
 match ops[i]? with
 | none=>K a w
 | some o=>if Region.wanted o (yielded ops a.tmps) then
   (if es.contains i then ∃ v w',actAt P o a w v w'/\C w'/\K (a.put o.dst v) w' else ∃ v,(∀ w,C w->drawAt P o a w v)/\K (a.put o.dst v) w)
  else K (a.put o.dst undef) w
theorem dOp_mono {i:Nat} {a:Act} {w:World} {K K':Act->World->Prop} (hC:C w) (h:∀ a w,C w->K a w->K' a w) (hh:dOp P ops C es i K a w):dOp P ops C es i K' a w:=by
 unfold dOp at *
 split
 ·exact h _ _ hC (by simpa [*] using hh)
 ·rename_i o ho
  simp only [ho] at hh
  split
  ·rename_i hw
   simp only [hw,if_true] at hh
   split
   ·rename_i he;simp only [he,if_true] at hh;obtain ⟨v,w',h1,h2,h3⟩:=hh;exact ⟨v,w',h1,h2,h _ _ h2 h3⟩
   ·rename_i he;simp only [he] at hh;obtain ⟨v,h1,h2⟩:=hh;exact ⟨v,h1,h _ _ hC h2⟩
  ·rename_i hw;simp only [hw] at hh;exact h _ _ hC hh
def wpAnyD (P:Program) (md:Region.Mode) (ops:Array Oper) (C:World->Prop) (es:List Nat) (Q:Act->World->Prop):Nat->Array Bool->Act->World->Prop
 | 0,listed,a,w=>Region.ready md ops listed=[]/\Q a w
 | fuel+1,listed,a,w =>
  (Region.ready md ops listed=[]->Q a w) /\
  ∀ i∈Region.ready md ops listed,dOp P ops C es i (wpAnyD P md ops C es Q fuel (listed.setIfInBounds i true)) a w
theorem wpOp_of_dOp (hCd:∀ w m,C w->C (w.drewN m)) {i:Nat} {a:Act} {K K':Act->World->Prop} {Q':Exit->Act->World->Prop} {w:World} {m:Nat} (hC:C w) (h:∀ a w' m',C w'->K a w'->K' a (w'.drewN m')) (hh:dOp P ops C es i K a w):wpOp P ops Q' i K' a (w.drewN m):=by
 unfold dOp at hh;unfold wpOp
 split
 ·rename_i ho;simp only [ho] at hh;exact h _ _ _ hC hh
 ·rename_i o ho
  simp only [ho] at hh
  split
  ·rename_i hw
   simp only [hw,if_true] at hh
   left
   unfold Oper.wp
   split at hh
   ·obtain ⟨v,w',h1,h2,h3⟩:=hh
    have h4:=h1 m
    unfold effAt at h4;generalize (execOp a.eval o).run P (w.drewN m)=r at *
    cases r with
    | ok n w2 =>
     cases n<;>simp only [effUpon] at h4<;>simp only [Oper.upon]
     case value u=>obtain ⟨hu,m',rfl⟩:=h4;rw [put_same hu];exact h _ _ _ h2 h3
     case skip=>obtain ⟨hu,m',rfl⟩:=h4;rw [put_same hu];exact h _ _ _ h2 h3
     case enter f args=>exact h4.mono fun e w'' ⟨u,he,hk⟩=>by obtain ⟨hu,m',rfl⟩:=hk;subst he;show K' (a.put o.dst u) _;rw [put_same hu];exact h _ _ _ h2 h3
     case row row args=>exact h4.mono fun u w'' hk=>by obtain ⟨hu,m',rfl⟩:=hk;show K' (a.put o.dst u) _;rw [put_same hu];exact h _ _ _ h2 h3
    | halt x w2=>simp only [effUpon] at h4
   ·obtain ⟨v,h1,h2⟩:=hh
    have h3:=h1 (w.drewN m) (hCd _ _ hC)
    unfold drawAt at h3;generalize (execOp a.eval o).run P (w.drewN m)=r at *
    cases r with
    | ok n w2 =>
     cases n<;>simp only [drawUpon] at h3<;>simp only [Oper.upon]
     case value u=>rw [h3.1,h3.2];exact h _ _ _ hC h2
     case skip=>rw [h3.1,<- h3.2];exact h _ _ _ hC h2
     case enter f args =>
      rw [h3.1]
      exact h3.2.mono fun e w'' ⟨he,m',hk⟩=>by subst he;rw [hk,World.drewN_drewN];exact h _ _ _ hC h2
    | halt x w2=>simp only [drawUpon] at h3
  ·rename_i hw;simp only [hw] at hh;exact h _ _ _ hC hh
theorem wpAny_of_mixD (hCd:∀ w m,C w->C (w.drewN m)) {Q:Act->World->Prop} {Q':Exit->Act->World->Prop} (hQ:∀ a w m,C w->Q a w->Q' .normal a (w.drewN m)):∀ (fuel:Nat) (listed:Array Bool) (a:Act) (w:World) (m:Nat),C w ->
  wpAnyD P md ops C es Q fuel listed a w->wpAny P md ops Q' fuel listed a (w.drewN m)
 | 0,_,_,_,_,hw,h=>⟨h.1,hQ _ _ _ hw h.2⟩
 | fuel+1,_,_,_,_,hw,h=>⟨fun h0=>hQ _ _ _ hw (h.1 h0),fun i hi=>wpOp_of_dOp hCd hw (fun a' w' m' hw'=>wpAny_of_mixD hCd hQ fuel _ a' w' m' hw') (h.2 i hi)⟩
def YieldsD (P:Program) (ops:Array Oper) (C:World->Prop) (o:Oper) (v:Value) (a:Act):Prop :=
 (Region.wanted o (yielded ops a.tmps)=true/\∀ w,C w->drawAt P o a w v)\/(Region.wanted o (yielded ops a.tmps)=false/\v=undef)
theorem YieldsD.of_same {o:Oper} {v:Value} {a a':Act} (hy:YieldsD P ops C o v a) (he:execOp a'.eval o=execOp a.eval o)
  (hw:Region.wanted o (yielded ops a'.tmps)=Region.wanted o (yielded ops a.tmps)):YieldsD P ops C o v a':=by
 unfold YieldsD drawAt at *
 rw [he,hw];exact hy
theorem YieldsD.dOp {i:Nat} {o:Oper} {v:Value} {a:Act} (hi:ops[i]?=some o) (hE:es.contains i=false) (hy:YieldsD P ops C o v a) {K:Act->World->Prop} {w:World} (h:K (a.put o.dst v) w):dOp P ops C es i K a w:=by
 unfold Proofs.YtoknbkfclhmapaaGreatDoor.dOp
 simp only [hi]
 rcases hy with ⟨hw,hv⟩ | ⟨hw,rfl⟩
 ·simp only [hw,if_true,hE,Bool.false_eq_true,if_false];exact ⟨v,hv,h⟩
 ·simp only [hw,Bool.false_eq_true,if_false];exact h
theorem dOp_unwanted {i:Nat} {o:Oper} {a:Act} (hi:ops[i]?=some o) (hw:Region.wanted o (yielded ops a.tmps)=false) {K:Act->World->Prop} {w:World} (h:K (a.put o.dst undef) w):dOp P ops C es i K a w:=by
 unfold Proofs.YtoknbkfclhmapaaGreatDoor.dOp
 simp only [hi,hw,Bool.false_eq_true,if_false];exact h
theorem actAt_put {o:Oper} {a:Act} {w w':World} {v:Value} (_hs:∀ cs b,o.op≠.select cs b) {d:Option Tmp} {u:Value} (he:execOp (a.put d u).eval o=execOp a.eval o):actAt P o (a.put d u) w v w' ↔ actAt P o a w v w':=by
 unfold actAt effAt;rw [he]
theorem dOp_put {j:Nat} {oi oj:Oper} {v:Value} (hj:ops[j]?=some oj) (hap:oi.apart ops oj=true)
  (hsi:∀ cs b,oi.op≠.select cs b) (hsj:∀ cs b,oj.op≠.select cs b) {K:Act->World->Prop} {a:Act} {w:World}
  (hy:YieldsD P ops C oi v a) (h:dOp P ops C es j K (a.put oi.dst v) w) :
  dOp P ops C es j (fun a' w'=>YieldsD P ops C oi v a'/\K (a'.put oi.dst v) w') a w:=by
 obtain ⟨h1,h2,h3⟩:=Oper.apart_spec hap
 have keep:∀ (a:Act),YieldsD P ops C oi v a->∀ u,YieldsD P ops C oi v (a.put oj.dst u):=fun a hy u =>
  hy.of_same (execOp_put oi hsi a oj.dst u h3) (wanted_put oi a oj.dst u h3)
 unfold dOp at *
 simp only [hj] at *
 rw [wanted_put oj a oi.dst v h1] at h
 unfold actAt effAt drawAt at *
 rw [execOp_put oj hsj a oi.dst v h1] at h
 split
 ·rename_i hw
  simp only [hw,if_true] at h
  split
  ·rename_i he
   simp only [he,if_true] at h
   obtain ⟨u,w',k1,k2,k3⟩:=h
   exact ⟨u,w',k1,k2,keep a hy u,by rw [<- Act.put_comm a v u h2];exact k3⟩
  ·rename_i he
   simp only [he] at h
   obtain ⟨u,hu,hn⟩:=h
   exact ⟨u,hu,keep a hy u,by rw [<- Act.put_comm a v u h2];exact hn⟩
 ·rename_i hw
  simp only [hw] at h
  exact ⟨keep a hy _,by rw [<- Act.put_comm a v undef h2];exact h⟩
theorem wpAnyD_first {Q:Act->World->Prop} {i:Nat} {oi:Oper} {v:Value} (hi:ops[i]?=some oi) (hsel:∀ (j:Nat) (o:Oper) cs b,ops[j]?=some o->o.op≠.select cs b)
  (hE:∀ (K:Act->World->Prop) (a:Act) (w:World),C w->YieldsD P ops C oi v a->K (a.put oi.dst v) w->dOp P ops C es i K a w) :
  ∀ (fuel:Nat) (listed:Array Bool) (a:Act) (w:World),
   (∀ j oj,ops[j]?=some oj->j≠i->listed.getD j true=false->(∀ e∈oj.after,Region.binds md e=true->e.on≠i)->oi.apart ops oj=true) ->
   i∈Region.ready md ops listed->C w->YieldsD P ops C oi v a ->
   wpAnyD P md ops C es Q fuel (listed.setIfInBounds i true) (a.put oi.dst v) w->wpAnyD P md ops C es Q (fuel+1) listed a w:=by
 intro fuel
 induction fuel with
 | zero =>
  intro listed a w _ hr hC hy H
  refine ⟨fun h=>(by rw [h] at hr;cases hr),fun j hj=>?_⟩
  by_cases hji:j=i
  ·subst hji;exact hE _ _ _ hC hy H
  ·have:=ready_mono hj hji
   rw [H.1] at this
   cases this
 | succ fuel ih =>
  intro listed a w hfree hr hC hy H
  refine ⟨fun h=>(by rw [h] at hr;cases hr),fun j hj=>?_⟩
  by_cases hji:j=i
  ·subst hji;exact hE _ _ _ hC hy H
  ·have h1:=H.2 j (ready_mono hj hji)
   obtain ⟨hjun,oj,hoj,hall⟩:=mem_ready.1 hj
   have hnot:=ready_not hr hall
   have h2:=dOp_put hoj (hfree j oj hoj hji hjun hnot) (fun cs b=>hsel i oi cs b hi) (fun cs b=>hsel j oj cs b hoj) hy h1
   have hfree':∀ k ok,ops[k]?=some ok->k≠i->(listed.setIfInBounds j true).getD k true=false ->
     (∀ e∈ok.after,Region.binds md e=true->e.on≠i)->oi.apart ops ok=true:=fun k ok hk hki hun hno=>by
    refine hfree k ok hk hki ?_ hno
    by_cases hjk:j=k
    ·subst hjk;exact hjun
    ·rw [getD_set_ne true hjk] at hun;exact hun
   refine dOp_mono hC (fun a' w' hC' h3=>ih (listed.setIfInBounds j true) a' w' hfree' (ready_mono hr (Ne.symm hji)) hC' h3.1 ?_) h2
   rw [Array.setIfInBounds_comm _ _ hji];exact h3.2
theorem wpAnyD_act {Q:Act->World->Prop} {i:Nat} {oi:Oper} (hi:ops[i]?=some oi) (hsel:∀ (j:Nat) (o:Oper) cs b,ops[j]?=some o->o.op≠.select cs b) (hEi:es.contains i=true)
  (hch:∀ j,es.contains j=true->i<j->∃ p,es.contains p=true/\i<=p/\p<j/\∃ oj,ops[j]?=some oj/\∃ e∈oj.after,Region.binds md e=true/\e.on=p) :
  ∀ (fuel:Nat) (listed:Array Bool) (a:Act) (w:World),
   (∀ j oj,ops[j]?=some oj->j≠i->listed.getD j true=false->(∀ e∈oj.after,Region.binds md e=true->e.on≠i)->oi.apart ops oj=true) ->
   (∀ j,es.contains j=true->i<j->listed.getD j true=false)->(∀ j,j<i->listed.getD j true=true) ->
   i∈Region.ready md ops listed->Region.wanted oi (yielded ops a.tmps)=true->C w ->
   (∃ v w',actAt P oi a w v w'/\C w'/\wpAnyD P md ops C es Q fuel (listed.setIfInBounds i true) (a.put oi.dst v) w')->wpAnyD P md ops C es Q (fuel+1) listed a w:=by
 have hno:∀ (listed:Array Bool) (j:Nat),(∀ j,es.contains j=true->i<j->listed.getD j true=false)->(∀ j,j<i->listed.getD j true=true)->i∈Region.ready md ops listed->j∈Region.ready md ops listed->j≠i->es.contains j=false:=by
  intro listed j hinv hlow hr hj hji
  cases hc:es.contains j with
  | false=>rfl
  | true =>
   obtain ⟨hjun,oj,hoj,hall⟩:=mem_ready.1 hj
   have hlt:i<j:=by
    rcases Nat.lt_or_ge j i with h | h
    ·rw [hlow j h] at hjun;cases hjun
    ·omega
   obtain ⟨p,hp,hip,hpj,oj',hoj',e,he,hb,hon⟩:=hch j hc hlt;rw [hoj] at hoj'
   cases hoj'
   have h1:=hall e he hb
   rw [hon] at h1
   by_cases hpi:p=i
   ·subst hpi
    exact absurd hon (ready_not hr hall e he hb)
   ·have h2:=hinv p hp (by omega)
    rcases Nat.lt_or_ge p listed.size with h' | h'
    ·simp [h'] at h1 h2;rw [h2] at h1;cases h1
    ·simp [Array.getElem?_eq_none h'] at h1
 have hme:∀ (K:Act->World->Prop) (a:Act) (w:World),Region.wanted oi (yielded ops a.tmps)=true->(∃ v w',actAt P oi a w v w'/\C w'/\K (a.put oi.dst v) w')->dOp P ops C es i K a w:=fun K a w hw h=>by
  unfold dOp
  simp only [hi,hw,if_true,hEi]
  exact h
 intro fuel
 induction fuel with
 | zero =>
  intro listed a w _ hinv hlow hr hw hC H
  refine ⟨fun h=>(by rw [h] at hr;cases hr),fun j hj=>?_⟩
  by_cases hji:j=i
  ·subst hji;exact hme _ _ _ hw H
  ·have:=ready_mono hj hji
   obtain ⟨_,_,_,_,h2⟩:=H;rw [h2.1] at this
   cases this
 | succ fuel ih =>
  intro listed a w hfree hinv hlow hr hw hC H
  refine ⟨fun h=>(by rw [h] at hr;cases hr),fun j hj=>?_⟩
  by_cases hji:j=i
  ·subst hji;exact hme _ _ _ hw H
  ·have hEj:=hno listed j hinv hlow hr hj hji
   obtain ⟨hjun,oj,hoj,hall⟩:=mem_ready.1 hj
   have hnot:=ready_not hr hall
   obtain ⟨h1,h2,h3⟩:=Oper.apart_spec (hfree j oj hoj hji hjun hnot)
   have hsi:∀ cs b,oi.op≠.select cs b:=fun cs b=>hsel i oi cs b hi
   have hsj:∀ cs b,oj.op≠.select cs b:=fun cs b=>hsel j oj cs b hoj
   have hfree':∀ k ok,ops[k]?=some ok->k≠i->(listed.setIfInBounds j true).getD k true=false ->
     (∀ e∈ok.after,Region.binds md e=true->e.on≠i)->oi.apart ops ok=true:=fun k ok hk hki hun hno=>by
    refine hfree k ok hk hki ?_ hno
    by_cases hjk:j=k
    ·subst hjk;exact hjun
    ·rw [getD_set_ne true hjk] at hun;exact hun
   have hinv':∀ k,es.contains k=true->i<k->(listed.setIfInBounds j true).getD k true=false:=fun k hk hik=>by
    have hjk:j≠k:=by rintro rfl;rw [hEj] at hk;cases hk
    rw [getD_set_ne true hjk];exact hinv k hk hik
   have hlow':∀ k,k<i->(listed.setIfInBounds j true).getD k true=true:=fun k hk=>by
    by_cases hjk:j=k
    ·subst hjk;rw [hlow j hk] at hjun;cases hjun
    ·rw [getD_set_ne true hjk];exact hlow k hk
   obtain ⟨v,w',hact,hC',hv⟩:=H
   have h4:=hv.2 j (ready_mono hj hji)
   have key:∀ u,wpAnyD P md ops C es Q fuel ((listed.setIfInBounds i true).setIfInBounds j true) ((a.put oi.dst v).put oj.dst u) w' ->
     wpAnyD P md ops C es Q (fuel+1) (listed.setIfInBounds j true) (a.put oj.dst u) w:=fun u hu=>by
    refine ih (listed.setIfInBounds j true) (a.put oj.dst u) w hfree' hinv' hlow' (ready_mono hr (Ne.symm hji)) (by rw [wanted_put oi a oj.dst u h3];exact hw) hC ⟨v,w',(actAt_put hsi (execOp_put oi hsi a oj.dst u h3)).2 hact,hC',?_⟩
    rw [Array.setIfInBounds_comm _ _ hji,<- Act.put_comm a v u h2];exact hu
   cases hwj:Region.wanted oj (yielded ops a.tmps) with
   | false =>
    refine dOp_unwanted hoj hwj (key undef ?_)
    unfold dOp at h4
    simp only [hoj,wanted_put oj a oi.dst v h1,hwj,Bool.false_eq_true,if_false] at h4
    exact h4
   | true =>
    unfold dOp at h4
    simp only [hoj,wanted_put oj a oi.dst v h1,hwj,if_true,hEj,Bool.false_eq_true,if_false] at h4
    unfold drawAt at h4;rw [execOp_put oj hsj a oi.dst v h1] at h4;obtain ⟨u,hu,hk⟩:=h4
    exact YieldsD.dOp hoj hEj (.inl ⟨hwj,hu⟩) (key u hk)
def wpMixD (P:Program) (ops:Array Oper) (C:World->Prop) (es:List Nat) (Q:Act->World->Prop):Nat->List Oper->Act->World->Prop
 | _,[],a,w=>Q a w
 | k,o::rest,a,w=>if Region.wanted o (yielded ops a.tmps) then
   (if es.contains k then ∃ v w',actAt P o a w v w'/\C w'/\wpMixD P ops C es Q (k+1) rest (a.put o.dst v) w'
    else ∃ v,(∀ w,C w->drawAt P o a w v)/\wpMixD P ops C es Q (k+1) rest (a.put o.dst v) w)
  else wpMixD P ops C es Q (k+1) rest (a.put o.dst undef) w
theorem wpAnyD_lex (hCd:∀ w m,C w->C (w.drewN m)) {Q:Act->World->Prop} (hs:Region.noSelect ops=true) (hc:chainB md ops es=true):∀ (l:List Oper) (k:Nat) (listed:Array Bool) (a:Act) (w:World),(∀ j,l[j]?=ops[k+j]?) ->
  Region.lexFrom md ops l.length k listed=true->(∀ j,k<=j->j<ops.size->listed.getD j true=false)->(∀ j,j<k->listed.getD j true=true)->C w->wpMixD P ops C es Q k l a w->wpAnyD P md ops C es Q l.length listed a w
 | [],_,_,_,_,_,hB,_,_,_,h=>⟨by simpa [Region.lexFrom] using hB,h⟩
 | o::l,k,listed,a,w,hl,hB,hup,hlow,hC,h=>by
  have h0:ops[k]?=some o:=by simpa using (hl 0).symm
  have hks:k<ops.size:=(Array.getElem?_eq_some_iff.1 h0).1
  simp only [List.length_cons,Region.lexFrom,Bool.and_eq_true] at hB
  obtain ⟨⟨hr,hf⟩,hB'⟩:=hB
  have hl':∀ j,l[j]?=ops[k+1+j]?:=fun j=>by have:=hl (j+1);simpa [Nat.add_assoc,Nat.add_comm 1 j] using this
  have hup':∀ j,k+1<=j->j<ops.size->(listed.setIfInBounds k true).getD j true=false:=fun j h1 h2=>by rw [getD_set_ne true (by omega)];exact hup j (by omega) h2
  have hlow':∀ j,j<k+1->(listed.setIfInBounds k true).getD j true=true:=fun j h1=>by
   by_cases hjk:k=j
   ·subst hjk
    rcases Nat.lt_or_ge k listed.size with h' | h'
    ·simp [h']
    ·simp
   ·rw [getD_set_ne true hjk];exact hlow j (by omega)
  have go:∀ a' w',C w'->wpMixD P ops C es Q (k+1) l a' w'->wpAnyD P md ops C es Q l.length (listed.setIfInBounds k true) a' w':=fun a' w' hC' h'=>wpAnyD_lex hCd hs hc l (k+1) _ a' w' hl' hB' hup' hlow' hC' h'
  have hr':k∈Region.ready md ops listed:=by simpa using hr
  unfold wpMixD at h
  cases hw:Region.wanted o (yielded ops a.tmps) with
  | false =>
   simp only [hw,Bool.false_eq_true,if_false] at h
   exact wpAnyD_first h0 (Region.noSelect_spec hs) (v:=undef) (fun K a' w' hC' hy hk=>by
    cases hw':Region.wanted o (yielded ops a'.tmps) with
    | false=>exact dOp_unwanted h0 hw' hk
    | true =>
     cases hE:es.contains k with
     | false=>exact hy.dOp h0 hE hk
     | true =>
      rcases hy with ⟨_,hv⟩ | ⟨hx,_⟩
      ·unfold dOp
       simp only [h0,hw',if_true,hE]
       exact ⟨undef,w',act_of_draw hCd hC' hv,hC',hk⟩
      ·rw [hw'] at hx;cases hx) l.length listed a w (Region.free_spec h0 hf) hr' hC (.inr ⟨hw,rfl⟩) (go _ _ hC h)
  | true =>
   simp only [hw,if_true] at h
   cases hE:es.contains k with
   | false =>
    simp only [hE,Bool.false_eq_true,if_false] at h
    obtain ⟨v,hv,hk⟩:=h
    exact wpAnyD_first h0 (Region.noSelect_spec hs) (fun K a' w' _ hy hk=>hy.dOp h0 hE hk) l.length listed a w (Region.free_spec h0 hf) hr' hC (.inl ⟨hw,hv⟩) (go _ _ hC hk)
   | true =>
    simp only [hE,if_true] at h
    refine wpAnyD_act h0 (Region.noSelect_spec hs) hE (fun j hj hkj=>?_) l.length listed a w (Region.free_spec h0 hf) (fun j hj hkj=>?_) hlow hr' hw hC (by obtain ⟨v,w',h1,h2,h3⟩:=h;exact ⟨v,w',h1,h2,go _ _ h2 h3⟩)
    ·obtain ⟨p,hp,rest⟩:=chainB_spec es hc k j (by simpa using hE) (by simpa using hj) hkj
     exact ⟨p,by simpa using hp,rest⟩
    ·obtain ⟨p,_,_,_,oj,hoj,_⟩:=chainB_spec es hc k j (by simpa using hE) (by simpa using hj) hkj
     exact hup j (by omega) (Array.getElem?_eq_some_iff.1 hoj).1
theorem wp_region_mixD {id:Nat} {Q:Exit->Act->World->Prop} {a:Act} {w:World} {l:List Oper} (es:List Nat) (C:World->Prop) (hCd:∀ w m,C w->C (w.drewN m)) (hm:P.follows .mixedOrders=true) (hB:Region.lexB .any l.toArray=true) (hc:chainB .any l.toArray es=true) (hC:C w)
  (h:wpMixD P l.toArray C es (fun a' w'=>∀ m,Q .normal a' (w'.drewN m)) 0 l a w):(Code.region id l.toArray true).wp P Q a w:=by
 simp only [Region.lexB,Bool.and_eq_true] at hB
 refine wp_region_any hm ?_
 have hup:∀ j,0<=j->j<l.toArray.size->(Array.replicate l.toArray.size false).getD j true=false:=fun j _ hj=>by
  have hj':j<l.length:=by simpa using hj
  simp [hj']
 have:=wpAnyD_lex hCd (md:=.any) hB.1 hc l 0 (Array.replicate l.toArray.size false) a w (by simp) (by simpa using hB.2) hup (fun j hj=>by omega) hC h
 exact wpAny_of_mixD hCd (Q:=fun a' w'=>∀ m,Q .normal a' (w'.drewN m)) (fun a w m _ h=>h m) _ _ _ w 1 hC (by simpa using this)
theorem mixD_pure {Q:Act->World->Prop} {k:Nat} {o:Oper} {rest:List Oper} {a:Act} {w:World} (hgd:o.guard=none) (hE:es.contains k=false) (hp:plainOp o=true)
  (h:∀ K:Act->Prop,(∀ a',wpMixD P ops C es Q (k+1) rest a' w->K a')->o.quiet P a C K):wpMixD P ops C es Q k (o::rest) a w:=by
 unfold wpMixD;rw [if_pos (wanted_free hgd _),hE]
 obtain ⟨v,h1,h2⟩:=h _ (fun _ h=>h)
 exact ⟨v,fun w hw=>draw_of_pure (pure_of_plain hp v w (h1 w hw)),h2⟩
theorem put_at (a:Act) (d:Tmp) (v:Value) (hd:d<a.tmps.size):(a.put (some d) v).tmps.getD d undef=v:=by
 unfold Act.put
 simp [hd]
theorem mixD_call {Q:Act->World->Prop} {k:Nat} {o:Oper} {rest:List Oper} {a:Act} {w:World} (hgd:o.guard=none) (hE:es.contains k=false) (d:Tmp) (hd:o.dst=some d) (hsz:d<a.tmps.size) (v:Value) (_hcl:∃ c,o.op=.call c)
  (h:∀ w,C w->o.wp P a w (fun a' w''=>a'.tmps.getD d undef=v/\∃ m,w''=w.drewN m) (fun _ _ _=>False)) (hk:wpMixD P ops C es Q (k+1) rest (a.put o.dst v) w)
  (hent:∀ w,∃ f args,(execOp a.eval o).run P w=.ok (.enter f args) w):wpMixD P ops C es Q k (o::rest) a w:=by
 unfold wpMixD;rw [if_pos (wanted_free hgd _),hE]
 refine ⟨v,fun w hw=>?_,hk⟩
 have h1:=h w hw
 obtain ⟨f,args,he⟩:=hent w;unfold Oper.wp at h1;unfold drawAt;rw [he] at h1 ⊢
 simp only [Oper.upon] at h1
 simp only [drawUpon]
 refine ⟨trivial,h1.mono fun e w'' h'=>?_⟩
 cases e with
 | returned u =>
  have h2:=h'.1
  rw [hd,put_at a d u hsz] at h2
  exact ⟨by rw [h2],h'.2⟩
 | panicked c=>exact h'.elim
 | outgrown=>obtain ⟨_,_,hf⟩:=h';exact hf.elim
theorem run_val_nd (s:Sem Value) (w:World) (x:Next) (hx:∀ v,x≠.value v) (w':World):(do pure (Next.value (<- s)):Sem Next).run P w≠.ok x w':=by
 intro h;rw [Sem.run_bind] at h
 cases hr:s.run P w with
 | ok v w2=>rw [hr] at h;simp [Result.andThen] at h;exact hx v h.1.symm
 | halt y w2=>rw [hr] at h;simp [Result.andThen] at h
theorem run_unit_nd (s:Sem Unit) (w:World) (x:Next) (hx:x≠.skip) (w':World):(do s;pure Next.skip:Sem Next).run P w≠.ok x w':=by
 intro h;rw [Sem.run_bind] at h
 cases hr:s.run P w with
 | ok v w2=>rw [hr] at h;simp [Result.andThen] at h;exact hx h.1.symm
 | halt y w2=>rw [hr] at h;simp [Result.andThen] at h
theorem run_not_defer (o:Oper) (h:plainOp o=true) (ρ:Operand->Value) (w:World) (d:Deferred) (w':World):(execOp ρ o).run P w≠.ok (.defer d) w':=by
 cases hop:o.op<;>simp only [plainOp,hop] at h<;>simp only [execOp,hop]<;>first
  | exact absurd h Bool.false_ne_true
  | exact run_val_nd _ _ _ (fun v=>by simp) _
  | exact run_unit_nd _ _ _ (by simp) _
  | simp
theorem mixD_act {Q:Act->World->Prop} {k:Nat} {o:Oper} {rest:List Oper} {a:Act} {w:World} (hgd:o.guard=none) (hE:es.contains k=true) (hp:plainOp o=true) (hsz:∀ d,o.dst=some d->d<a.tmps.size) (v:Value) (w':World)
  (h:∀ m,o.wp P a (w.drewN m) (fun a' w''=>(∀ d,o.dst=some d->a'.tmps.getD d undef=v)/\∃ m',w''=w'.drewN m') (fun _ _ _=>False)) (hC:C w')
  (hk:wpMixD P ops C es Q (k+1) rest (a.put o.dst v) w'):wpMixD P ops C es Q k (o::rest) a w:=by
 unfold wpMixD;rw [if_pos (wanted_free hgd _),if_pos hE]
 refine ⟨v,w',fun m=>?_,hC,hk⟩
 have h1:=h m
 have hn:=run_not_enter (P:=P) o hp a.eval (w.drewN m)
 have hnd:=fun d=>run_not_defer (P:=P) o hp a.eval (w.drewN m) d
 have key:∀ u,(∀ d,o.dst=some d->(a.put o.dst u).tmps.getD d undef=v)->u=v\/o.dst=none:=by
  intro u hu
  cases hd:o.dst with
  | none=>exact .inr rfl
  | some d =>
   have:=hu d hd
   rw [hd,put_at a d u (hsz d hd)] at this;exact .inl this
 unfold Oper.wp at h1;unfold effAt;generalize (execOp a.eval o).run P (w.drewN m)=r at *
 cases r with
 | ok n w2 =>
  cases n<;>simp only [Oper.upon] at h1<;>simp only [effUpon]
  case value u=>exact ⟨key u h1.1,h1.2⟩
  case skip=>exact ⟨key undef h1.1,h1.2⟩
  case enter f args=>exact absurd rfl (hn f args w2)
  case row row args=>exact h1.mono fun u w'' h'=>⟨key u h'.1,h'.2⟩
  case defer d=>exact absurd rfl (hnd d w2)
 | halt x w2=>cases x<;>simp only [Oper.upon] at h1
theorem mixD_nil {Q:Act->World->Prop} {k:Nat} {a:Act} {w:World} (h:Q a w):wpMixD P ops C es Q k [] a w:=h
end
theorem right_op (x:PIns) (op:Value) (p:PK):PK.right { x with op:=op } p=PK.right x p:=rfl
theorem needs_op (o:OpS) (x:PIns) (op:Value):o.needs { x with op:=op }=o.needs x:=by
 unfold OpS.needs
 have:(PK.right { x with op:=op })=PK.right x:=funext (right_op x op)
 rw [this]
 rfl
theorem needs_bs (o:OpS) (x:PI) (bs:List Nat):o.needs (x.ins bs)=o.needs (x.ins []):=needs_op o (x.ins []) _
def Eight (cs:Array Value):Prop:=∃ (p:Option Addr) (d s j n h:Int) (l m:ByteArray),cs=#[.pointer p,.int .u8 d,.int .u8 s,.int .i16 j,.int .i32 n,.int .i32 h,.string l,.string m]
def FromPost (w:World) (bs:List Nat) (l:List UInt8) (e:Ending) (w':World):Prop:=∃ cs,e=.returned (.tuple #[.agg cs,.bool (fromP l).isSome])/\(∀ x,fromP l=some x->cs=(x.ins bs).cells)/\Eight cs/\Mods Nil' w w'
theorem fromP_short (l:List UInt8) (h:l.length<8):fromP l=none:=by unfold fromP;rw [if_pos h]
theorem fromP_none (l:List UInt8) (h:¬ l.length<8) (hc:byCodeM (at' l 0)=none):fromP l=none:=by
 unfold fromP;rw [if_neg h,hc]
theorem fromP_less (l:List UInt8) (h:¬ l.length<8) (k:Nat) (hc:byCodeM (at' l 0)=some k) (hs:l.length<(tableS[k]?.getD noOp).slots*8):fromP l=none:=by
 unfold fromP;rw [if_neg h,hc];simp only;rw [if_pos hs]
theorem table_code:∀ o∈tableS,o.code<256:=by decide +kernel
theorem table_slots:∀ o∈tableS,o.slots=1\/o.slots=2:=by decide +kernel
theorem byCode_lt (c k:Nat) (h:byCodeM c=some k):k<88:=by
 have:=List.findIdx?_eq_some_iff_getElem.1 h
 have h2:=this.1
 rw [tableS_len] at h2;exact h2
theorem and15 (a:Nat) (ha:a<256):bits .and .u8 (a:Int) 15=((a % 16:Nat):Int):=by
 have h:=(bits_nat .u8 8 (by decide) (fun n h0 h1=>by rw [IntKind.wrap_u8];omega) a 15 ha (by decide)).1
 have e:a &&& 15=a % 16:=Nat.and_two_pow_sub_one_eq_mod a 4
 rw [e] at h;exact h
theorem wrap16_sgn (a b:Nat) (ha:a<256) (hb:b<256):IntKind.i16.wrap ((a:Int)+(b:Int)*256)=sgn16 (a+256*b):=by
 unfold sgn16 IntKind.wrap
 simp [IntKind.bits,IntKind.signed]
 split<;>omega
theorem setCell_drewN (w:World) (m:Nat) (a:Addr) (v:Value):(w.drewN m).setCell a v=(w.setCell a v).drewN m:=rfl
theorem set8_alloc (w:World) (g:Nat) (hg:g=w.heap.size) {t:TypeId} {z0 z1 z2 z3 z4 z5 z6 z7 a0 a1 a2 a3 a4 a5 a6 a7:Value} :
  (((((((((w.alloc (.cells #[z0,z1,z2,z3,z4,z5,z6,z7] t)).setCell ⟨g,0,none⟩ a0).setCell ⟨g,1,none⟩ a1).setCell ⟨g,2,none⟩ a2).setCell ⟨g,3,none⟩ a3).setCell ⟨g,4,none⟩ a4).setCell ⟨g,5,none⟩ a5).setCell ⟨g,6,none⟩ a6).setCell ⟨g,7,none⟩ a7)=w.alloc (.cells #[a0,a1,a2,a3,a4,a5,a6,a7] t):=by
 subst hg
 simp [go_sem]
abbrev Z8:Array Value:=#[.pointer none,.int .u8 0,.int .u8 0,.int .i16 0,.int .i32 0,.int .i32 0,.string ⟨#[]⟩,.string ⟨#[]⟩]
theorem FromPost.no {w w':World} {bs:List Nat} {l:List UInt8} {cs:Array Value} (h:fromP l=none) (m:Mods Nil' w w') (h8:Eight cs):FromPost w bs l (.returned (.tuple #[.agg cs,.bool false])) w' :=
 ⟨cs,by rw [h];rfl,fun x hx=>(by rw [h] at hx;cases hx),h8,m⟩
theorem fromP_main (l:List UInt8) (h:¬ l.length<8) (k:Nat) (hc:byCodeM (at' l 0)=some k) (hs:¬ l.length<(tableS[k]?.getD noOp).slots*8):fromP l =
  if 1<(tableS[k]?.getD noOp).slots/\(l.drop 8).take 4≠[0,0,0,0] then none
  else if (tableS[k]?.getD noOp).needs (PI.ins [] ⟨k,at' l 1 % 16,at' l 1 / 16,sgn16 (at' l 2+256*at' l 3),num32 (l.drop 4),if 1<(tableS[k]?.getD noOp).slots then num32 (l.drop 12) else 0,[]⟩) then some ⟨k,at' l 1 % 16,at' l 1 / 16,sgn16 (at' l 2+256*at' l 3),num32 (l.drop 4),if 1<(tableS[k]?.getD noOp).slots then num32 (l.drop 12) else 0,[]⟩ else none:=by
 unfold fromP;rw [if_neg h,hc];simp only;rw [if_neg hs]
theorem from_fit (l:List UInt8) (bs:List Nat) (k:Nat) (h:Int) (hh:-2147483648<=h/\h<=2147483647):PIns.Fit (PI.ins bs ⟨k,at' l 1 % 16,at' l 1 / 16,sgn16 (at' l 2+256*at' l 3),num32 (l.drop 4),h,[]⟩):=by
 have h1:=at_lt l 1
 have h2:=at_lt l 2
 have h3:=at_lt l 3
 have hj:=sgn16_bd (at' l 2+256*at' l 3) (by omega)
 have hn:=num32_bd (l.drop 4)
 exact ⟨by simp only [PI.ins];omega,by simp only [PI.ins];omega,hj.1,hj.2,hn.1,hn.2,hh.1,hh.2,by simp [PI.ins],by show (T []).size<=300;decide⟩
set_option maxRecDepth 100000 in
set_option maxHeartbeats 2000000 in
theorem from_any (w:World) (v:Value) (bs:List Nat) (hO:OpsIn 0 w v bs tableS) (l:List UInt8) (hl:l.length<=maxLen) :
  Calls Tryz.prog 260 #[v,.string (T l)] w fun e w'=>FromPost w bs l e w':=by
 have hs:(T l).size=l.length:=T_size l
 have hl':=hl
 unfold maxLen at hl
 by_cases h8:l.length<8
 ·have HF:Hid (fromP l=none):=fromP_short l h8
  go_enter Tryz.func260,Tryz.ntmps260
  go_wp2_with fail
  exact bodyPost_ret (results_cell_tmp_row Tryz.results260 _ _ w.heap.size 99 _ (0,0) _ _ rfl rfl (Blk.new _ _ _) Tryz.underlying99 rfl (by kernel_rfl)) rfl (FromPost.no HF.out ((Mods.refl _ _).alloc _) ⟨_,_,_,_,_,_,_,_,rfl⟩)
 have p0:0<(T l).size:=by omega
 have p1:1<(T l).size:=by omega
 have p2:2<(T l).size:=by omega
 have p3:3<(T l).size:=by omega
 have e0:=at_BL (T l) 0 p0
 have e1:=at_BL (T l) 1 p1
 have e2:=at_BL (T l) 2 p2
 have e3:=at_BL (T l) 3 p3
 rw [show BL (T l)=l from rfl] at e0 e1 e2 e3
 have hBy:Hid (∀ W,OpsIn 0 W v bs tableS->Calls Tryz.prog 286 #[v,.int .u8 ((T l)[0].toNat:Nat)] W fun e w'=>e=.returned (codeV bs (byCodeM (at' l 0)))/\w'=W):=fun W h=>by
  rw [e0]
  exact byCode_any W v bs tableS _ h (by rw [tableS_len];decide) table_code
 have i1:(1:Int)<(l.length:Int):=by omega
 have i2:(2:Int)<(l.length:Int):=by omega
 have i3:(3:Int)<(l.length:Int):=by omega
 have HO1:Hid (OpsIn 0 (w.alloc (.cells Z8 99)) v bs tableS):=hO.mods ((Mods.refl _ _).alloc _)
 have hZ:=Blk.new w Z8 99
 obtain ⟨o0,cap,hv,_⟩:=hO.sl.view;subst hv
 cases hc:byCodeM (at' l 0) with
 | none =>
  have HF:Hid (fromP l=none):=fromP_none l h8 hc
  rw [hc] at hBy
  go_enter Tryz.func260,Tryz.ntmps260
  go_wp2_with fail
  refine (hBy.out _ HO1.out).mono ?_
  rintro e w1 ⟨rfl,rfl⟩
  simp only [codeV]
  go_wp2_with fail
  exact bodyPost_ret (results_cell_tmp_row Tryz.results260 _ _ w.heap.size 99 _ (0,0) _ _ rfl rfl (Blk.new _ _ _) Tryz.underlying99 rfl (by kernel_rfl)) rfl (FromPost.no HF.out ((Mods.refl _ _).alloc _) ⟨_,_,_,_,_,_,_,_,rfl⟩)
 | some k =>
  rw [hc] at hBy
  have hk88:=byCode_lt _ _ hc
  have hkt:k<tableS.length:=by rw [tableS_len];exact hk88
  have hkb:k<bs.length:=by rw [hO.len];exact hkt
  have HG:Hid (tableS[k]?.getD noOp=tableS[k]):=by simp [Hid,hkt]
  have HBk:Hid (bs[k]?.getD 0=bs[k]):=by simp [Hid,hkb]
  have hsl:=table_slots tableS[k] (List.getElem_mem hkt)
  have hAt:=hO.at' k hkb hkt
  have hAt1:=hAt.mods ((Mods.refl _ _).alloc (.cells Z8 99))
  obtain ⟨o1,n1,c1,f6,c6,k7,c7,k8,c8,f9,c9,hblk,hsem⟩:=hAt.ex
  have hb1:=hblk.mods ((Mods.refl Nil' w).alloc (.cells Z8 99)) id
  have z2:(w.alloc (.cells Z8 99)).cell? ⟨bs[k],2,none⟩=some (.int .i64 tableS[k].slots):=hb1.cell 2
  have HSem:=hid hsem;have HB:=hid hblk;clear hblk hsem hb1 hAt hAt1
  by_cases hless:l.length<tableS[k].slots*8
  ·have HF:Hid (fromP l=none):=fromP_less l h8 k hc (by rw [HG.out];exact hless)
   generalize tableS[k].slots=sn at *
   have hq:((l.length:Int)<(sn:Int)*8):=by omega
   go_enter Tryz.func260,Tryz.ntmps260
   go_wp2_with fail
   refine (hBy.out _ HO1.out).mono ?_
   rintro e w1 ⟨rfl,rfl⟩
   simp only [codeV,HBk.out,ptrV]
   go_wp2_with fail
   exact bodyPost_ret (results_cell_tmp_row Tryz.results260 _ _ w.heap.size 99 _ (0,0) _ _ rfl rfl (Blk.new _ _ _) Tryz.underlying99 rfl (by kernel_rfl)) rfl (FromPost.no HF.out ((Mods.refl _ _).alloc _) ⟨_,_,_,_,_,_,_,_,rfl⟩)
  have HM:=fromP_main l h8 k hc (by rw [HG.out];exact hless)
  rw [HG.out] at HM
  have HMain:Hid _:=HM
  clear HM
  have l1:=((T l)[1]).toNat_lt
  have l2:=((T l)[2]).toNat_lt
  have l3:=((T l)[3]).toNat_lt
  have hand:=and15 (T l)[1].toNat l1
  have w2':IntKind.u16.wrap ((T l)[2].toNat:Int)=(T l)[2].toNat:=by rw [IntKind.wrap_u16];omega
  have w3':IntKind.u16.wrap ((T l)[3].toNat:Int)=(T l)[3].toNat:=by rw [IntKind.wrap_u16];omega
  have v3':IntKind.u16.wrap ((((T l)[3]).toNat:Int)*256)=((T l)[3].toNat:Int)*256:=by rw [IntKind.wrap_u16];omega
  have o16:=or16a (T l)[2].toNat (T l)[3].toNat l2 l3
  have s16:=wrap16_sgn (T l)[2].toNat (T l)[3].toNat l2 l3
  have x4:(T l).extract 4 l.length=T (l.drop 4):=by
   have:=T_drop l 4
   rw [hs] at this;exact this
  have HNum:Hid (∀ W,Calls Tryz.prog 287 #[.string (T (l.drop 4))] W fun e w'=>e=.returned (.int .i32 (num32 (l.drop 4)))/\∃ n,w'=W.drewN n):=fun W=>numAt_any (T (l.drop 4)) W (by rw [T_size];simp;omega) (by rw [T_size];simp;unfold maxLen;omega)
  have hq:¬ ((l.length:Int)<(tableS[k].slots:Int)*8):=by omega
  have i4:(4:Int)<=(l.length:Int):=by omega
  go_enter Tryz.func260,Tryz.ntmps260
  go_wp2_with fail
  refine (hBy.out _ HO1.out).mono ?_
  rintro e w1 ⟨rfl,rfl⟩
  simp only [codeV,HBk.out,ptrV]
  go_upto_region 6 with fail
  go_cut [7] (fun p wx=>∃ g,p=.pointer (some ⟨g,0,none⟩)/\w.heap.size<g/\Blk wx g #[.pointer (some ⟨bs[k],0,none⟩),.int .u8 (((T l)[1].toNat:Int) % 16),.int .u8 (((T l)[1].toNat:Int) / 16),.int .i16 0,.int .i32 (num32 (l.drop 4)),.int .i32 0,.string ⟨#[]⟩,.string ⟨#[]⟩] 99/\Mods Nil' (w.alloc (.cells Z8 99)) wx)
  case first =>
   have HEnt:Hid (∀ args w,(callFunc 287 args).run Tryz.prog w=.ok (.enter 287 args) w):=enters_of Tryz.func287 (by kernel_rfl) rfl
   have ne1:=Ext.ne Nil' (w.alloc (.cells Z8 99))
   refine wp_region_mixD [11,12] (fun w'=>∃ g:Ext Nil' (w.alloc (.cells Z8 99)),w'=g.w) (fun w m ⟨g,hg⟩=>⟨⟨w.drewN m,hg ▸ g.m.drewN m⟩,rfl⟩) (by kernel_rfl) (by kernel_rfl) (by kernel_rfl) ⟨⟨_,Mods.refl _ _⟩,rfl⟩ ?_
   iterate 9 (refine mixD_pure rfl rfl rfl ?_;intro K hK;go_big_quiet_op;go_big_quiet_on)
   refine mixD_call rfl rfl 39 rfl (by simp) (.int .i32 (num32 (l.drop 4))) ⟨_,rfl⟩ (fun w' hw'=>?_) ?_ (fun w'=>⟨_,_,HEnt.out _ _⟩)
   ·go_big_op
    refine (HNum.out _).mono ?_
    rintro e w3 ⟨rfl,n3,rfl⟩
    exact ⟨rfl,n3,rfl⟩
   simp only [Act.put,List.setIfInBounds_toArray,List.set_cons_succ,List.set_cons_zero]
   iterate 1 (refine mixD_pure rfl rfl rfl ?_;intro K hK;go_big_quiet_op;go_big_quiet_on)
   refine mixD_act rfl rfl rfl (fun d hd=>by cases hd;simp) (.pointer (some ⟨w.heap.size+1,0,none⟩)) ((w.alloc (.cells Z8 99)).alloc (.cells Z8 99)) (fun m=>?_) ⟨⟨_,(Mods.refl _ _).alloc _⟩,rfl⟩ ?_
   ·go_big_op
    exact ⟨rfl,m,rfl⟩
   simp only [Act.put,List.setIfInBounds_toArray,List.set_cons_succ,List.set_cons_zero]
   have hZ3:Blk ((w.alloc (.cells Z8 99)).alloc (.cells #[.pointer (some ⟨bs[k],0,none⟩),.int .u8 (((T l)[1].toNat:Int) % 16),.int .u8 (((T l)[1].toNat:Int) / 16),.int .i16 0,.int .i32 (num32 (l.drop 4)),.int .i32 0,.string ⟨#[]⟩,.string ⟨#[]⟩] 99)) (w.heap.size+1) #[.pointer (some ⟨bs[k],0,none⟩),.int .u8 (((T l)[1].toNat:Int) % 16),.int .u8 (((T l)[1].toNat:Int) / 16),.int .i16 0,.int .i32 (num32 (l.drop 4)),.int .i32 0,.string ⟨#[]⟩,.string ⟨#[]⟩] 99:=by
    have:=Blk.new (w.alloc (.cells Z8 99)) #[.pointer (some ⟨bs[k],0,none⟩),.int .u8 (((T l)[1].toNat:Int) % 16),.int .u8 (((T l)[1].toNat:Int) / 16),.int .i16 0,.int .i32 (num32 (l.drop 4)),.int .i32 0,.string ⟨#[]⟩,.string ⟨#[]⟩] 99
    simpa using this
   have hM3:Mods Nil' (w.alloc (.cells Z8 99)) ((w.alloc (.cells Z8 99)).alloc (.cells #[.pointer (some ⟨bs[k],0,none⟩),.int .u8 (((T l)[1].toNat:Int) % 16),.int .u8 (((T l)[1].toNat:Int) / 16),.int .i16 0,.int .i32 (num32 (l.drop 4)),.int .i32 0,.string ⟨#[]⟩,.string ⟨#[]⟩] 99)):=(Mods.refl _ _).alloc _
   refine mixD_act rfl rfl rfl (fun d hd=>by cases hd) undef ((w.alloc (.cells Z8 99)).alloc (.cells #[.pointer (some ⟨bs[k],0,none⟩),.int .u8 (((T l)[1].toNat:Int) % 16),.int .u8 (((T l)[1].toNat:Int) / 16),.int .i16 0,.int .i32 (num32 (l.drop 4)),.int .i32 0,.string ⟨#[]⟩,.string ⟨#[]⟩] 99)) (fun m=>?_) ⟨⟨_,hM3⟩,rfl⟩ ?_
   ·go_big_op
    exact ⟨m,by simp only [setCell_drewN];rw [set8_alloc (w.alloc (.cells Z8 99)) _ (by simp)]⟩
   refine mixD_nil ?_
   intro m
   simp only [Act.put]
   go_wp2_with fail;go_meet
   exact ⟨w.heap.size+1,rfl,by omega,hZ3.drewN m,hM3.drewN m⟩
  case rest =>
  obtain ⟨g,rfl,hgl,hBg,hMg⟩:=hcut
  have hOg:Blk wc bs[k] _ 128:=(HB.out.alloc _).mods hMg id
  have hZg:Blk wc w.heap.size Z8 99:=hZ.mods hMg id
  have hne:bs[k]≠g:=by
   intro e;unfold Blk at hOg hBg;rw [e,hBg] at hOg
   cases hOg
  have hsl':=hsl
  have HMw:Hid (Mods Nil' w wc):=((Mods.refl _ _).alloc _).trans hMg
  have y2:wc.cell? ⟨bs[k],2,none⟩=some (.int .i64 tableS[k].slots):=hOg.cell 2
  have HOg:=hid hOg;have HZg:=hid hZg;have HBg:=hid hBg
  have HMg:Hid _:=hMg
  have g3:=hBg.cell 3
  have fg3:=hBg.frozen 3
  simp at g3
  clear hZg hBg hMg hOg z2;go_upto_region 7 with fail
  have ne1:=Ext.ne (Only g) wc
  refine wp_region_mix [10] (fun w'=>∃ e:Ext (Only g) wc,w'=e.w) (by kernel_rfl) (by kernel_rfl) (by kernel_rfl) ⟨⟨_,(Mods.refl _ _).drew⟩,rfl⟩ ?_
  iterate 10 (refine mix_pure rfl rfl rfl ?_;intro K hK;go_big_quiet_op;go_big_quiet_on)
  refine mix_act rfl rfl ?_
  intro K hK
  go_big_op
  refine hK _ _ rfl ⟨⟨_,((Mods.refl _ _).drew).setb 3 _⟩,rfl⟩ ?_
  clear hK K
  refine mix_nil ?_
  simp only [Exit.then]
  have HBW:Hid (Blk (wc.setCell ⟨g,3,none⟩ (.int .i16 (sgn16 ((T l)[2].toNat+256*(T l)[3].toNat)))).drew g #[.pointer (some ⟨bs[k],0,none⟩),.int .u8 (((T l)[1].toNat:Int) % 16),.int .u8 (((T l)[1].toNat:Int) / 16),.int .i16 (sgn16 ((T l)[2].toNat+256*(T l)[3].toNat)),.int .i32 (num32 (l.drop 4)),.int .i32 (0),.string ⟨#[]⟩,.string ⟨#[]⟩] 99):=(HBg.out.set 3 _).drew
  have HOW:Hid (Blk (wc.setCell ⟨g,3,none⟩ (.int .i16 (sgn16 ((T l)[2].toNat+256*(T l)[3].toNat)))).drew bs[k] #[.int .u8 tableS[k].code,.slice o1 n1 c1,.int .i64 tableS[k].slots,.bool tableS[k].jumps,.bool tableS[k].ends,.int .i64 tableS[k].refers,.func f6 #[] c6,.func (.func k7) #[] c7,.func (.func k8) #[] c8,.func f9 #[] c9] 128):=(HOg.out.setOther (a:=⟨g,3,none⟩) (fun e=>hne e.symm) _).drew
  have HZW:Hid (Blk (wc.setCell ⟨g,3,none⟩ (.int .i16 (sgn16 ((T l)[2].toNat+256*(T l)[3].toNat)))).drew w.heap.size Z8 99):=(HZg.out.setOther (a:=⟨g,3,none⟩) (show g≠w.heap.size by omega) _).drew
  have HMW:Hid (Mods Nil' w (wc.setCell ⟨g,3,none⟩ (.int .i16 (sgn16 ((T l)[2].toNat+256*(T l)[3].toNat)))).drew):=(HMw.out.set (a:=⟨g,3,none⟩) (.inr (show w.heap.size<=g by omega)) _).drew
  have HNE:Hid (g≠w.heap.size):=by show g≠w.heap.size;omega
  have HNO:Hid (bs[k]≠w.heap.size):=by
   intro e
   have:=HB.out.lt
   omega
  generalize (wc.setCell ⟨g,3,none⟩ (.int .i16 (sgn16 ((T l)[2].toNat+256*(T l)[3].toNat)))).drew=W at *;clear HBg HOg HZg HMg HMw ne1 g3 fg3 y2
  have y2:W.cell? ⟨bs[k],2,none⟩=some (.int .i64 tableS[k].slots):=HOW.out.cell 2
  rcases hsl with h1 | h1
  ·rw [h1] at y2
   have HFr:Hid _:=HMain.out
   rw [h1] at HFr
   simp only [show ¬ (1<1) by decide,false_and,if_false] at HFr
   go_upto_region 13 with fail
   have HX:Hid ((PI.ins bs ⟨k,at' l 1 % 16,at' l 1 / 16,sgn16 (at' l 2+256*at' l 3),num32 (l.drop 4),0,[]⟩).cells=#[.pointer (some ⟨bs[k],0,none⟩),.int .u8 (((T l)[1].toNat:Int) % 16),.int .u8 (((T l)[1].toNat:Int) / 16),.int .i16 (sgn16 ((T l)[2].toNat+256*(T l)[3].toNat)),.int .i32 (num32 (l.drop 4)),.int .i32 (0),.string ⟨#[]⟩,.string ⟨#[]⟩]):=by
    rw [Hid,e1,e2,e3]
    simp only [PIns.cells,PI.ins,HBk.out]
    rfl
   have HFit:Hid (PIns.Fit (PI.ins bs ⟨k,at' l 1 % 16,at' l 1 / 16,sgn16 (at' l 2+256*at' l 3),num32 (l.drop 4),0,[]⟩)):=from_fit l bs k _ (by decide)
   have HCall:Hid (∀ W,Mods Nil' w W->Calls Tryz.prog k8 (#[.agg #[.pointer (some ⟨bs[k],0,none⟩),.int .u8 (((T l)[1].toNat:Int) % 16),.int .u8 (((T l)[1].toNat:Int) / 16),.int .i16 (sgn16 ((T l)[2].toNat+256*(T l)[3].toNat)),.int .i32 (num32 (l.drop 4)),.int .i32 (0),.string ⟨#[]⟩,.string ⟨#[]⟩]]++c8) W fun e w''=>e=.returned (.bool (tableS[k].needs (PI.ins [] ⟨k,at' l 1 % 16,at' l 1 / 16,sgn16 (at' l 2+256*at' l 3),num32 (l.drop 4),0,[]⟩)))/\Mods Nil' W w''):=fun W m=>by
    have h:=HSem.out.nd W _ m.kp HFit.out
    rw [HX.out,needs_bs] at h;exact h
   have HFin:=hid HFr.out;generalize tableS[k].needs (PI.ins [] ⟨k,at' l 1 % 16,at' l 1 / 16,sgn16 (at' l 2+256*at' l 3),num32 (l.drop 4),0,[]⟩)=nb at *
   have hen:=HSem.out.e8
   unfold Ent at hen
   obtain ⟨d0,d1,d2,d3,d4,d5,d6,d7⟩:=Ext.cells8 HBW.out (S:=Only w.heap.size) (fun e=>HNE.out e)
   have d8:∀ e:Ext (Only w.heap.size) W,e.w.cell? ⟨bs[k],8,none⟩=some (.func (.func k8) #[] c8):=fun e=>e.cell HOW.out (fun e=>HNO.out e) 8
   have ne2:=Ext.ne (Only w.heap.size) W
   refine wp_region_mix [6,7] (fun w'=>∃ e:Ext (Only w.heap.size) W,w'=e.w) (by kernel_rfl) (by kernel_rfl) (by kernel_rfl) ⟨⟨_,(Mods.refl _ _).drew⟩,rfl⟩ ?_
   iterate 2 (refine mix_pure rfl rfl rfl ?_;intro K hK;go_big_quiet_op;go_big_quiet_on)
   refine mix_nilCheck rfl rfl _ ⟨bs[k],0,none⟩ rfl rfl ?_
   simp only [Act.put,List.setIfInBounds_toArray,List.set_cons_succ,List.set_cons_zero]
   iterate 3 (refine mix_pure rfl rfl rfl ?_;intro K hK;go_big_quiet_op;go_big_quiet_on)
   refine mix_act rfl rfl ?_
   intro K hK
   go_big_op
   refine (HCall.out _ (HMW.out.trans ((Mods.refl _ _).drew))).mono ?_
   rintro e w8 ⟨rfl,m8⟩
   have hz8:=(HZW.out.drew).mods m8 id
   have HZ8:=hid hz8
   have M8:Hid (Mods Nil' w w8):=(HMW.out.trans ((Mods.refl _ _).drew)).trans m8
   refine hK _ _ rfl ⟨⟨_,((Mods.refl _ _).drew).trans (m8.mono (fun _ _ h=>h.elim))⟩,rfl⟩ ?_
   have X8:Hid (Mods (Only w.heap.size) W w8):=((Mods.refl _ _).drew).trans (m8.mono (fun _ _ h=>h.elim))
   clear hK K m8;obtain ⟨t0,t1,t2,t3,t4,t5,t6,t7⟩:=hz8.cells8
   have ft:=hz8.frozen
   clear hz8
   refine mix_act rfl rfl ?_
   intro K hK
   go_big_op
   refine hK _ _ rfl ⟨⟨_,X8.out.set8 (.inl rfl) _ _ _ _ _ _ _ _⟩,rfl⟩ ?_
   clear hK K
   iterate 1 (refine mix_pure rfl rfl rfl ?_;intro K hK;go_big_quiet_op;go_big_quiet_on)
   refine mix_nil ?_
   simp only [Exit.then]
   go_wp2_with fail
   refine bodyPost_ret (results_cell_tmp_row Tryz.results260 _ _ w.heap.size 99 _ (0,0) _ _ rfl rfl (HZ8.out.set8 _ _ _ _ _ _ _ _) Tryz.underlying99 rfl (by kernel_rfl)) rfl ⟨#[.pointer (some ⟨bs[k],0,none⟩),.int .u8 (((T l)[1].toNat:Int) % 16),.int .u8 (((T l)[1].toNat:Int) / 16),.int .i16 (sgn16 ((T l)[2].toNat+256*(T l)[3].toNat)),.int .i32 (num32 (l.drop 4)),.int .i32 (0),.string ⟨#[]⟩,.string ⟨#[]⟩],?_,?_,⟨_,_,_,_,_,_,_,_,rfl⟩,M8.out.set8 (.inr (Nat.le_refl _)) _ _ _ _ _ _ _ _⟩
   ·rw [HFin.out]
    cases nb<;>rfl
   ·intro x hx;rw [HFin.out] at hx
    cases nb with
    | false=>cases hx
    | true=>cases hx;exact HX.out.symm
  ·rw [h1] at y2
   have HFr:Hid _:=HMain.out
   rw [h1] at HFr
   have hl16:16<=l.length:=by rw [h1] at hless;omega
   have i8:(8:Int)<=(l.length:Int):=by omega
   have x8:(T l).extract 8 l.length=T (l.drop 8):=by
    have:=T_drop l 8
    rw [hs] at this;exact this
   have s8:(T (l.drop 8)).size=l.length - 8:=by rw [T_size];simp
   have x9:(T (l.drop 8)).extract 0 4=T ((l.drop 8).take 4):=T_take _ _
   have x12:(T (l.drop 8)).extract 4 (T (l.drop 8)).size=T (l.drop 12):=by
    rw [T_drop,List.drop_drop]
   have i9:(4:Int)<=((l.length - 8:Nat):Int):=by omega
   have i10:4<=l.length - 8:=by omega
   by_cases hz:(l.drop 8).take 4=[0,0,0,0]
   ·simp only [show 1<2 by decide,hz,true_and,ne_eq,not_true_eq_false,if_false,if_true] at HFr
    have q9:=lit_eq (a:=T ((l.drop 8).take 4)) (l:=[0,0,0,0]) (by rw [hz])
    generalize T ((l.drop 8).take 4)=t4 at *
    have HN12:Hid (∀ W,Calls Tryz.prog 287 #[.string (T (l.drop 12))] W fun e w'=>e=.returned (.int .i32 (num32 (l.drop 12)))/\∃ n,w'=W.drewN n):=fun W=>numAt_any (T (l.drop 12)) W (by rw [T_size];simp;omega) (by rw [T_size];simp;unfold maxLen;omega)
    rw [s8] at x12
    have g5:=HBW.out.cell 5
    have fg5:=HBW.out.frozen 5
    simp at g5
    go_wp2_with fail
    refine (HN12.out _).mono ?_
    rintro e w3 ⟨rfl,n3,rfl⟩
    have HBW2:Hid (Blk ((W.drewN n3).setCell ⟨g,5,none⟩ (.int .i32 (num32 (l.drop 12)))) g #[.pointer (some ⟨bs[k],0,none⟩),.int .u8 (((T l)[1].toNat:Int) % 16),.int .u8 (((T l)[1].toNat:Int) / 16),.int .i16 (sgn16 ((T l)[2].toNat+256*(T l)[3].toNat)),.int .i32 (num32 (l.drop 4)),.int .i32 (num32 (l.drop 12)),.string ⟨#[]⟩,.string ⟨#[]⟩] 99):=(HBW.out.drewN n3).set 5 _
    have HOW2:Hid (Blk ((W.drewN n3).setCell ⟨g,5,none⟩ (.int .i32 (num32 (l.drop 12)))) bs[k] #[.int .u8 tableS[k].code,.slice o1 n1 c1,.int .i64 tableS[k].slots,.bool tableS[k].jumps,.bool tableS[k].ends,.int .i64 tableS[k].refers,.func f6 #[] c6,.func (.func k7) #[] c7,.func (.func k8) #[] c8,.func f9 #[] c9] 128):=(HOW.out.drewN n3).setOther (a:=⟨g,5,none⟩) (fun e=>hne e.symm) _
    have HZW2:Hid (Blk ((W.drewN n3).setCell ⟨g,5,none⟩ (.int .i32 (num32 (l.drop 12)))) w.heap.size Z8 99):=(HZW.out.drewN n3).setOther (a:=⟨g,5,none⟩) HNE.out _
    have HMW2:Hid (Mods Nil' w ((W.drewN n3).setCell ⟨g,5,none⟩ (.int .i32 (num32 (l.drop 12))))):=(HMW.out.drewN n3).set (a:=⟨g,5,none⟩) (.inr (show w.heap.size<=g by omega)) _
    go_upto_region 13 with fail;clear g5 fg5 y2;generalize ((W.drewN n3).setCell ⟨g,5,none⟩ (.int .i32 (num32 (l.drop 12))))=W2 at *
    have HX:Hid ((PI.ins bs ⟨k,at' l 1 % 16,at' l 1 / 16,sgn16 (at' l 2+256*at' l 3),num32 (l.drop 4),num32 (l.drop 12),[]⟩).cells=#[.pointer (some ⟨bs[k],0,none⟩),.int .u8 (((T l)[1].toNat:Int) % 16),.int .u8 (((T l)[1].toNat:Int) / 16),.int .i16 (sgn16 ((T l)[2].toNat+256*(T l)[3].toNat)),.int .i32 (num32 (l.drop 4)),.int .i32 (num32 (l.drop 12)),.string ⟨#[]⟩,.string ⟨#[]⟩]):=by
     rw [Hid,e1,e2,e3]
     simp only [PIns.cells,PI.ins,HBk.out]
     rfl
    have HFit:Hid (PIns.Fit (PI.ins bs ⟨k,at' l 1 % 16,at' l 1 / 16,sgn16 (at' l 2+256*at' l 3),num32 (l.drop 4),num32 (l.drop 12),[]⟩)):=from_fit l bs k _ (num32_bd _)
    have HCall:Hid (∀ W,Mods Nil' w W->Calls Tryz.prog k8 (#[.agg #[.pointer (some ⟨bs[k],0,none⟩),.int .u8 (((T l)[1].toNat:Int) % 16),.int .u8 (((T l)[1].toNat:Int) / 16),.int .i16 (sgn16 ((T l)[2].toNat+256*(T l)[3].toNat)),.int .i32 (num32 (l.drop 4)),.int .i32 (num32 (l.drop 12)),.string ⟨#[]⟩,.string ⟨#[]⟩]]++c8) W fun e w''=>e=.returned (.bool (tableS[k].needs (PI.ins [] ⟨k,at' l 1 % 16,at' l 1 / 16,sgn16 (at' l 2+256*at' l 3),num32 (l.drop 4),num32 (l.drop 12),[]⟩)))/\Mods Nil' W w''):=fun W m=>by
     have h:=HSem.out.nd W _ m.kp HFit.out
     rw [HX.out,needs_bs] at h;exact h
    have HFin:=hid HFr.out;generalize tableS[k].needs (PI.ins [] ⟨k,at' l 1 % 16,at' l 1 / 16,sgn16 (at' l 2+256*at' l 3),num32 (l.drop 4),num32 (l.drop 12),[]⟩)=nb at *
    have hen:=HSem.out.e8
    unfold Ent at hen
    obtain ⟨d0,d1,d2,d3,d4,d5,d6,d7⟩:=Ext.cells8 HBW2.out (S:=Only w.heap.size) (fun e=>HNE.out e)
    have d8:∀ e:Ext (Only w.heap.size) W2,e.w.cell? ⟨bs[k],8,none⟩=some (.func (.func k8) #[] c8):=fun e=>e.cell HOW2.out (fun e=>HNO.out e) 8
    have ne2:=Ext.ne (Only w.heap.size) W2
    refine wp_region_mix [6,7] (fun w'=>∃ e:Ext (Only w.heap.size) W2,w'=e.w) (by kernel_rfl) (by kernel_rfl) (by kernel_rfl) ⟨⟨_,(Mods.refl _ _).drew⟩,rfl⟩ ?_
    iterate 2 (refine mix_pure rfl rfl rfl ?_;intro K hK;go_big_quiet_op;go_big_quiet_on)
    refine mix_nilCheck rfl rfl _ ⟨bs[k],0,none⟩ rfl rfl ?_
    simp only [Act.put,List.setIfInBounds_toArray,List.set_cons_succ,List.set_cons_zero]
    iterate 3 (refine mix_pure rfl rfl rfl ?_;intro K hK;go_big_quiet_op;go_big_quiet_on)
    refine mix_act rfl rfl ?_
    intro K hK
    go_big_op
    refine (HCall.out _ (HMW2.out.trans ((Mods.refl _ _).drew))).mono ?_
    rintro e w8 ⟨rfl,m8⟩
    have hz8:=(HZW2.out.drew).mods m8 id
    have HZ8:=hid hz8
    have M8:Hid (Mods Nil' w w8):=(HMW2.out.trans ((Mods.refl _ _).drew)).trans m8
    refine hK _ _ rfl ⟨⟨_,((Mods.refl _ _).drew).trans (m8.mono (fun _ _ h=>h.elim))⟩,rfl⟩ ?_
    have X8:Hid (Mods (Only w.heap.size) W2 w8):=((Mods.refl _ _).drew).trans (m8.mono (fun _ _ h=>h.elim))
    clear hK K m8;obtain ⟨t0,t1,t2,t3,t4,t5,t6,t7⟩:=hz8.cells8
    have ft:=hz8.frozen
    clear hz8
    refine mix_act rfl rfl ?_
    intro K hK
    go_big_op
    refine hK _ _ rfl ⟨⟨_,X8.out.set8 (.inl rfl) _ _ _ _ _ _ _ _⟩,rfl⟩ ?_
    clear hK K
    iterate 1 (refine mix_pure rfl rfl rfl ?_;intro K hK;go_big_quiet_op;go_big_quiet_on)
    refine mix_nil ?_
    simp only [Exit.then]
    go_wp2_with fail
    refine bodyPost_ret (results_cell_tmp_row Tryz.results260 _ _ w.heap.size 99 _ (0,0) _ _ rfl rfl (HZ8.out.set8 _ _ _ _ _ _ _ _) Tryz.underlying99 rfl (by kernel_rfl)) rfl ⟨#[.pointer (some ⟨bs[k],0,none⟩),.int .u8 (((T l)[1].toNat:Int) % 16),.int .u8 (((T l)[1].toNat:Int) / 16),.int .i16 (sgn16 ((T l)[2].toNat+256*(T l)[3].toNat)),.int .i32 (num32 (l.drop 4)),.int .i32 (num32 (l.drop 12)),.string ⟨#[]⟩,.string ⟨#[]⟩],?_,?_,⟨_,_,_,_,_,_,_,_,rfl⟩,M8.out.set8 (.inr (Nat.le_refl _)) _ _ _ _ _ _ _ _⟩
    ·rw [HFin.out]
     cases nb<;>rfl
    ·intro x hx;rw [HFin.out] at hx
     cases nb with
     | false=>cases hx
     | true=>cases hx;exact HX.out.symm
   ·simp only [show 1<2 by decide,hz,true_and,ne_eq,not_false_eq_true,if_true] at HFr
    have q9:=lit_ne (a:=T ((l.drop 8).take 4)) (l:=[0,0,0,0]) (fun e=>hz (congrArg BL e))
    generalize T ((l.drop 8).take 4)=t4 at *;rw [s8] at x12;obtain ⟨t0,t1,t2,t3,t4',t5,t6,t7⟩:=HZW.out.cells8
    have ft:=HZW.out.frozen
    go_wp2_with fail
    exact bodyPost_ret (results_cell_tmp_row Tryz.results260 _ _ w.heap.size 99 _ (0,0) _ _ rfl rfl (HZW.out.set8 _ _ _ _ _ _ _ _) Tryz.underlying99 rfl (by kernel_rfl)) rfl (FromPost.no HFr.out (HMW.out.set8 (.inr (Nat.le_refl _)) _ _ _ _ _ _ _ _) ⟨_,_,_,_,_,_,_,_,rfl⟩)
end Go.Proofs.YtoknbkfclhmapaaGreatDoor
