import Derived.Test.YtekmhcbefnmflaaGreatDoorCL55
namespace Go.Proofs.YtekmhcbefnmflaaGreatDoor
open Go.RowKit
open List renaming append_assoc->ab,cons_append->an,length->ee
open Bool renaming true->eJ,false->eE
set_option linter.all false
def posL:Nat->List PI->List Int
 |_,[]=>[]
 |p,x::l=>(p:Int)::posL (p+x.o.slots) l
theorem Dv(l k:List PI):aL (l++k)=aL l+aL k:=by simp[aL]
theorem Dw:∀(l k:List PI) (p:Nat),posL p (l++k)=posL p l++posL (p+aL l) k
 |[],k,p=>by simp[posL,aL]
 |x::l,k,p=>by rw[an,posL,posL,Dw l k,an];simp[aL,Nat.add_assoc]
theorem GX:∀(l:List PI) (p:Nat) (a:Int),(∀x∈l,0<x.o.slots)->a∈posL p l->(p:Int)<=a/\a<p+aL l
 |[],_,_,_,h=>by cases h
 |x::l,p,a,hs,h=>by
  have h0:=hs x (by simp);rw[posL]at h;have e:aL (x::l)=x.o.slots+aL l:=by simp[aL]
  rcases List.mem_cons.1 h with rfl|h
  ·rw[e];omega
  ·have:=GX l _ a (λy hy=>hs y (List.mem_cons_of_mem _ hy)) h;rw[e];omega
structure PI.Ok(x:PI):Prop where
 k:x.k<88
 d:x.d<=15
 s:x.s<=15
 j:-32768<=x.jump/\x.jump<=32767
 n:-2147483648<=x.num/\x.num<=2147483647
 h:-2147483648<=x.high/\x.high<=2147483647
 needs:x.o.needs (x.ins [])=eJ
theorem PI.Ok.facts{x:PI}(h:x.Ok):QU x.o (aB x.o.code):=(EV x.k h.k).1
theorem PI.Ok.slots{x:PI}(h:x.Ok):x.o.slots=1\/x.o.slots=2:=by
 rcases Jb _ _ h.facts with h|h
 ·exact .inl h
 ·exact .inr h.1
theorem We(i:aK)(nm:tBA)(x:PI):(xI i nm x).word=if aF i.word=99/\x.s≠1 then T [104,101,108,112]else i.word:=by
 unfold xI;dsimp only;generalize(if i.s<0 then i.s else(x.s:Int))=q;by_cases h1:aF i.word=119
 ·have h2:¬(aF i.word=99/\x.s≠1):=by rw[h1];exact λh=>absurd h.1 (by decide)
  rw[iP9 h1,iN9 h2];split<;>rfl
 ·rw[iN9 h1];by_cases h2:aF i.word=99
  ·rw[iP9 h2];by_cases h3:x.s=1
   ·rw[iP9 h3,iN9 (by rintro⟨_,h⟩;exact h h3)]
   ·rw[iN9 h3,iP9 ⟨h2,h3⟩]
  ·have h3:¬(aF i.word=99/\x.s≠1):=λh=>h2 h.1;rw[iN9 h2,iN9 h3];split<;>rfl
theorem xR:dH (T [104,101,108,112])=1/\ny (T [104,101,108,112])=eE/\aF (T [104,101,108,112])≠106:=by decide +kernel
theorem Dx:dH CALL=1/\ny CALL=eE:=by decide +kernel
theorem PI.Ok.word{x:PI}(h:x.Ok)(nm:tBA):dH (x.GD nm).word=x.o.slots/\ny (x.GD nm).word=x.o.ends/\(aF (x.GD nm).word=106↔x.o.jumps=eJ):=by
 have hF:=h.facts;unfold PI.GD;rw[We];by_cases hc:aF x.view.word=99/\x.s≠1
 ·rw[iP9 hc]
  have hC:x.view.word=CALL:=by
   rcases hF.kind with⟨k,_⟩ |⟨k,_⟩ |⟨k,_⟩ |⟨k,_⟩ |⟨k,_⟩ |⟨_,_,hw⟩ |⟨k,_⟩<;>(try(have:=hc.1;unfold PI.view at this;rw[k]at this;exact absurd this (by decide)))
   exact hw
  have e1:=hF.slots;have e2:=hF.ends;have e3:=hF.jumps;rw[show(aB x.o.code).1.word=CALL from hC]at e1 e2 e3;rw[e1,e2,e3,xR.1,xR.2.1,Dx.1,Dx.2,zV];refine⟨rfl,rfl,?_⟩;simp[xR.2.2]
 ·rw[iN9 hc,hF.slots,hF.ends,hF.jumps];refine⟨rfl,rfl,?_⟩;simp[PI.view]
def r9(st:List Bool)(l:List PI)(n:Nat):Prop:=ee st=n/\∀i,i<n->(st[i]?.getD eE=eJ↔(i:Int)∈posL 0 l)
theorem Fg(sl:tLB)(n:Nat):∀(f p:Nat) (acc:List PI) (st:List Bool) (o:List PI×List Bool),codeL sl n f p acc st=some o->∃l,o.1=acc++l
 |0,_,_,_,_,h=>by cases h
 |f+1,p,acc,st,o,h=>by
  rw[codeL]at h;split at h
  ·split at h
   ·cases h
   ·obtain⟨l,hl⟩:=Fg sl n f _ _ _ o h;exact⟨_,by rw[hl,ab]⟩
  ·cases h;exact⟨[],by simp⟩
theorem r9.step{st:List Bool}{l:List PI}{n:Nat}(h:r9 st l n)(x:PI)(hp:aL l<n):r9 (st.set (aL l) eJ) (l++[x]) n:=by
 refine⟨by simpa using h.1,λi hi=>?_⟩;rw[Dw];simp only[posL,List.mem_append,List.mem_cons,List.not_mem_nil,or_false,Nat.zero_add];by_cases hie:i=aL l
 ·subst hie;simp[h.1,hp]
 ·rw[List.getElem?_set_ne (by omega),h.2 i hi];constructor
  ·exact .inl
  ·rintro(h|h)
   ·exact h
   ·omega
theorem Wf{x:PI}(h:x.Ok)(hj:x.o.jumps=eJ):x.jmp=x.jump:=by
 have:=(h.facts).jumps;rw[hj]at this;have h2:aF x.view.word=106:=by simpa [PI.view]using this.symm
 simp[PI.jmp,zU,h2]
theorem MB{st:List Bool}{l:List PI}{n:Nat}(hS:r9 st l n)(hn:aL l=n)(hO:∀x∈l,0<x.o.slots)(t:Int):t∈posL 0 l↔(decide (0<=t)&&st[t.toNat]?.getD eE)=eJ:=by
 by_cases h0:0<=t
 ·simp only[h0,decide_true,Bool.true_and];by_cases hlt:t.toNat<n
  ·rw[hS.2 _ hlt];have:((t.toNat:Nat):Int)=t:=by omega
   rw[this]
  ·constructor
   ·intro h;have:=GX l 0 t hO h;omega
   ·intro h;rw[List.getElem?_eq_none (by rw[hS.1];omega)]at h;cases h
 ·constructor
  ·intro h;have:=GX l 0 t hO h;omega
  ·intro h;simp[h0]at h
theorem Wg(w:tBA)(h:aF w=119):w=WIDE:=by
 unfold aF at h;split at h
 ·exact absurd h (by decide)
 split at h
 ·exact absurd h (by decide)
 split at h
 ·exact absurd h (by decide)
 split at h
 ·exact absurd h (by decide)
 split at h
 ·rename_i hw;exact hw
 split at h
 ·exact absurd h (by decide)
 split at h
 ·exact absurd h (by decide)
 split at h
 ·exact absurd h (by decide)
 ·exact absurd h (by decide)
theorem Wh(w:tBA)(h:aF w≠119):dH w=1:=by unfold dH;rw[iN9 (λe=>h (by rw[e];exact vT))]
theorem Ry{x:PI}(h:x.Ok):0<x.o.slots:=by rcases h.slots with h|h<;>omega
theorem JS(sl:tLB)(q:PR)(h:q.bad=eJ):(codeP sl q).2.bad=eJ:=by
 unfold codeP;split
 ·rfl
 ·exact dh _ _ (dh _ _ h)
theorem Am:∀(hs:List bY) (q:PR) (acc:List cZ),codesP hs q acc=(acc++(codesP hs q []).1,(codesP hs q []).2)
 |[],q,acc=>by simp[codesP]
 |h::hs,q,acc=>by rw[codesP,codesP,Am hs _ (acc++_),Am hs _ ([]++_)];simp[ab]
theorem Fh:∀(hs:List bY) (q:PR) (acc:List cZ),q.bad=eJ->(codesP hs q acc).2.bad=eJ
 |[],_,_,h=>h
 |_::hs,_,_,h=>Fh hs _ _ (JS _ _ (Cw _ _ h))
theorem adm{a b:tLB}(h:T a=T b):a=b:=by
 have:=congrArg BL h
 simpa [BL,T]using this
theorem PI.JT{x:PI}(h:x.Ok)(hr:x.aJ≠0):x.s=1/\x.o.jumps=eE/\((x.aJ=2/\aF x.view.word=119/\x.view.word=WIDE)\/(x.aJ=1/\aF x.view.word=99/\x.view.word=CALL)):=by
 have hF:=h.facts
 have hs:x.s=1:=by
  unfold PI.aJ at hr;split at hr
  ·assumption
  ·exact absurd rfl hr
 have hro:x.aJ=x.o.aJ:=by simp[PI.aJ,hs]
 rw[hro]at hr ⊢;have hrf:=hF.aJ;have hj:=hF.jumps;unfold PI.view;rcases hF.kind with⟨k,_⟩ |⟨k,_⟩ |⟨k,_⟩ |⟨k,_⟩ |⟨k,_,_,_,hw⟩ |⟨k,_,hw⟩ |⟨k,_⟩
 all_goals rw[k]at hrf hj
 ·exact absurd hrf hr
 ·exact absurd hrf hr
 ·exact absurd hrf hr
 ·exact absurd hrf hr
 ·exact⟨hs,hj,.inl ⟨hrf,k,hw⟩⟩
 ·exact⟨hs,hj,.inr ⟨hrf,k,hw⟩⟩
 ·exact absurd hrf hr
theorem xS(s:tBA):∀(k:Nat) (r:RS) (acc:List dE),(rdMaps s k r acc).2.bad=eE->ee (rdMaps s k r acc).1=ee acc+k
 |0,_,_,_=>rfl
 |k+1,r,acc,h=>by
  rw[rdMaps]at h ⊢;split at h
  ·rename_i hb;simp only[hb]at h;cases h
  ·rename_i hb
   rw[iN9 hb,xS s k _ _ h];simp;omega
theorem Ao(s:tBA):∀(k:Nat) (r:RS) (acc:List jR) (t:Nat),(rdFns s k r acc t).2.2.bad=eE->ee (rdFns s k r acc t).1=ee acc+k
 |0,_,_,_,_=>rfl
 |k+1,r,acc,t,h=>by
  rw[rdFns]at h ⊢;split at h
  ·rename_i hb;simp only[hb]at h;cases h
  ·rename_i hb
   rw[iN9 hb,Ao s k _ _ _ h];simp;omega
theorem JU:∀(k:Nat) (q:PR) (last:tLB) (t:Nat) (acc:List bY),(headsP k q last t acc).2.2.bad=eE->(∀h∈acc,h.slots<=t/\nameB h.name=eJ)->∀h∈(headsP k q last t acc).1,h.slots<=(headsP k q last t acc).2.1/\nameB h.name=eJ
 |0,_,_,_,_,_,ha=>ha
 |k+1,q,last,t,acc,hb,ha=>by
  rw[headsP]at hb ⊢;have h1:=yS (λh=>kS k _ _ _ _ (dh _ _ h)) hb;have h2:nameB (eV q).1.name=eJ:=zR (yS (λh=>Gx _ h) h1);refine JU k _ _ _ _ hb (λh hh=>?_);rcases List.mem_append.1 hh with hh|hh
  ·exact⟨by have:=(ha h hh).1;omega,(ha h hh).2⟩
  ·rw[List.mem_singleton.1 hh];exact⟨by omega,h2⟩
theorem Fj:∀(k:Nat) (q:PR) (last:tLB) (t:Nat) (acc:List bY),ee (headsP k q last t acc).1=ee acc+k
 |0,_,_,_,_=>rfl
 |k+1,q,last,t,acc=>by rw[headsP,Fj k];simp;omega
theorem Fl(q:PR)(h:q.bad=eJ):(dF q).2.bad=eJ:=by unfold dF;dsimp only;have:(az (decide ((headsP (oneP q).1 (az (decide ((oneP q).1<=16)) (oneP q).2) [] 0 []).2.1<=200)) (headsP (oneP q).1 (az (decide ((oneP q).1<=16)) (oneP q).2) [] 0 []).2.2).bad=eJ:=dh _ _ (kS _ _ _ _ _ (dh _ _ (rE _ h)));rw[iP9 this];exact this
