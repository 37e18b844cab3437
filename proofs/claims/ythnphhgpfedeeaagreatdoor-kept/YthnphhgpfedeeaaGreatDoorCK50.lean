import Derived.Test.YthnphhgpfedeeaaGreatDoorCK48
import Derived.Conc.MuLone
namespace Go.Proofs.YthnphhgpfedeeaaGreatDoor
open Go.RowKit Tryz
open Go.RowKit Go.MuLone
open _root_.Array renaming replicate_succ->cW,replicate_zero->cY
open List renaming getElem_mem->ab,mem_or_eq_of_mem_set->al,take_succ_cons->ao,drop_succ_cons->ar,getElem_of_mem->ba,eq_of_mem_replicate->bh,length_append->bj,take_zero->bt,drop_zero->b5,length_set->b9,length_dropLast->cj,length_map->cq,dropLast_concat->cw,dropLast_concat_getLast->cx,cons_append->cy,getLast_eq_getElem->cD,map_append->cG,length_zip->cH,nil_append->cI,dropLast_eq_take->cJ,mem_of_mem_drop->cN,mem_of_mem_take->cP,map_cons->de,append_toArray->dp,map_nil->dq,size_toArray->dt,push_toArray->du,length_cons->dy,length->eJ
open Nat renaming lt_irrefl->dj,le_trans->dr
open Bool renaming true->fR,false->fj
open Ending renaming returned->fW
open Obj renaming cells->fL
open Option renaming none->eL,some->eK
open Value renaming agg->fY,string->eR,func->fN,tuple->jl,slice->eS,bool->fX
open _root_.Go renaming undef->kO,Value->fa,Ending->mz,Calls->fS,TypeId->ju,convert->rv,bodyPost_ret->kx,results_cell_row->mL,callsD_of_wpS->FF,wpS_region->Gk
set_option linter.all false
set_option maxRecDepth 100000
set_option maxHeartbeats 2000000
def MV.Ok(n m:Nat)(v:MV):Prop:=v.bits<18446744073709551616/\(v.so=0/\v.aD=eL/\v.tab=eL\/v.so=1/\v.aD=eL/\(∃t,v.tab=eK t/\t<m)\/v.so=2/\v.tab=eL/\∃q,v.aD=eK q/\q<n)
structure Kz(fn n m:Nat)(f:jN):Prop where
 fn:f.fn<fn
 oJ:f.oJ<n
 len:eJ f.regs=11
 regs:∀v∈f.regs,v.Ok n m
structure zK(gs:List tLN)(m:iK):Prop where
 key:1<=m.key/\m.key<=8
 val:1<=m.value/\m.value<=16
 most:m.most<=8
 len:eJ m.aP<=m.most
 ek:∀e∈m.aP,eJ e.1=m.key/\∀b∈e.1,b<256
 er:∀e∈m.aP,e.2<eJ gs/\(gs.getD e.2 []).length=m.value
 srt:m.aP.Pairwise (λa b=>ltNs a.1 b.1=fR)
def dA(ms:List iK):tLN:=ms.flatMap (λm=>m.aP.map (·.2))
def Ca(s:aX):tLN:=s.r.inp::(s.r.calls.map (·.oJ)++dA s.ms)
structure bT(fn:Nat)(s:aX):Prop where
 pos:0<eJ s.r.calls
 deep:eJ s.r.calls<=8
 Oy:∀f∈s.r.calls,Kz fn (eJ s.gs) (eJ s.ms) f
 gs:yC s.gs
 inp:s.r.inp<eJ s.gs
 log:eJ s.r.log<=20/\∀n∈s.r.log,n<18446744073709551616
 maps:∀m∈s.ms,zK s.gs m
 own:(Ca s).Nodup
theorem MV.Ok.zero(n m:Nat):MV.Ok n m {}:=⟨by decide,.inl ⟨rfl,rfl,rfl⟩⟩
theorem MV.Ok.num{n m k:Nat}(h:k<18446744073709551616):MV.Ok n m (dI k):=⟨h,.inl ⟨rfl,rfl,rfl⟩⟩
theorem MV.Ok.ptr{n m q k:Nat}(h:q<n)(hk:k<18446744073709551616):MV.Ok n m (eY q k):=⟨hk,.inr (.inr ⟨rfl,rfl,q,rfl,h⟩)⟩
theorem MV.Ok.grow{n n' m:Nat}{v:MV}(h:v.Ok n m)(hn:n<=n'):v.Ok n' m:=by
 refine⟨h.1,?_⟩;rcases h.2 with h|h |⟨a,b,q,hq,hl⟩
 ·exact .inl h
 ·exact .inr (.inl h)
 ·exact .inr (.inr ⟨a,b,q,hq,by omega⟩)
theorem Kz.grow{fn n n' m:Nat}{f:jN}(h:Kz fn n m f)(hn:n<=n'):Kz fn n' m f:=⟨h.fn,by have:=h.oJ;omega,h.len,λv hv=>(h.regs v hv).grow hn⟩
section
variable {fn : Nat} {s : aX}
theorem bT.Oz(h:bT fn s):s.r.top∈s.r.calls:=by rw[aJ.AR _ h.pos];exact ab _
theorem bT.top(h:bT fn s):Kz fn (eJ s.gs) (eJ s.ms) s.r.top:=h.Oy _ h.Oz
theorem bT.aD(h:bT fn s)(n:Nat):(s.r.aD n).Ok (eJ s.gs) (eJ s.ms):=by
 unfold aJ.aD;rw[List.getD_eq_getElem?_getD];by_cases hn:n<eJ s.r.top.regs
 ·rw[List.getElem?_eq_getElem hn];exact h.top.regs _ (ab _)
 ·rw[List.getElem?_eq_none (by omega)];exact MV.Ok.zero _ _
theorem zL{α β:Type}(g:α->β)(l:List α)(i:Nat)(x:α)(h:∀y,l[i]?=eK y->g x=g y):(l.set i x).map g=l.map g:=by
 apply List.ext_getElem?;intro j;rw[List.getElem?_map,List.getElem?_map,List.getElem?_set];by_cases hij:i=j
 ·subst hij;rw[iP9 rfl];by_cases hl:i<eJ l
  ·rw[iP9 hl,List.getElem?_eq_getElem hl];simp only[Option.map_some];rw[h _ (List.getElem?_eq_getElem hl)]
  ·rw[iN9 hl,List.getElem?_eq_none (by omega)]
 ·rw[iN9 hij]
theorem bT.eO(h:bT fn s)(f:jN)(hf:Kz fn (eJ s.gs) (eJ s.ms) f)(hs:f.oJ=s.r.top.oJ):bT fn {s with r:=s.r.eO f}:=by
 have hl:eJ (s.r.eO f).calls=eJ s.r.calls:=aJ.jL _ _;refine⟨by show 0<eJ (s.r.eO f).calls;rw[hl];exact h.pos,by show(s.r.eO f).calls.length<=8;rw[hl];exact h.deep,λg hg=>?_,h.gs,h.inp,h.log,h.maps,?_⟩
 ·rcases al hg with hg|rfl
  ·exact h.Oy g hg
  ·exact hf
 ·have:(s.r.eO f).calls.map (·.oJ)=s.r.calls.map (·.oJ):=zL _ _ _ _ (λy hy=>by
   have e:y=s.r.top:=by rw[aJ.AR _ h.pos];rw[List.getElem?_eq_getElem (by have:=h.pos;omega)]at hy;exact(Option.some.inj hy).symm
   rw[e];exact hs)
  show(s.r.inp::((s.r.eO f).calls.map (·.oJ)++dA s.ms)).Nodup
  rw[this];exact h.own
theorem bT.eV(h:bT fn s)(d:Nat)(v:MV)(hv:v.Ok (eJ s.gs) (eJ s.ms)):bT fn {s with r:=s.r.eV d v} :=
 h.eO _ ⟨h.top.fn,h.top.oJ,by show(s.r.top.regs.set d v).length=11;rw[b9];exact h.top.len,λu hu=>by
  rcases al hu with hu|rfl
  ·exact h.top.regs u hu
  ·exact hv⟩ rfl
theorem bT.gZ(h:bT fn s)(n:Nat):bT fn {s with r:=s.r.gZ n}:=h.eO _ ⟨h.top.fn,h.top.oJ,h.top.len,h.top.regs⟩ rfl
theorem bT.dG(h:bT fn s):bT fn s.dG:=h.eO _ ⟨h.top.fn,h.top.oJ,h.top.len,h.top.regs⟩ rfl
theorem bT.begin(h:bT fn s)(n:Nat):bT fn (s.begin n):=by
 have h1:bT fn {s with r:={s.r with used:=s.r.used+1}}:=⟨h.pos,h.deep,h.Oy,h.gs,h.inp,h.log,h.maps,h.own⟩
 exact h1.gZ _
theorem bT.nQ(vs:List MV):∀{s:aX} (_:bT fn s) (d:Nat) (_:∀v∈vs,v.Ok (eJ s.gs) (eJ s.ms)),bT fn {s with r:=s.r.nQ d vs}:=by
 induction vs with
 |nil=>intro s h d _;exact h
 |cons v vs ih=>intro s h d hv;exact ih (h.eV d v (hv v (by simp))) (d+1) (λu hu=>hv u (by simp[hu]))
theorem bT.answer(h:bT fn s)(v:MV)(hv:v.Ok (eJ s.gs) (eJ s.ms)):bT fn {s with r:=s.r.answer v} :=
 bT.nQ _ (h.eV 0 v hv) 1 (λu hu=>by rw[bh hu];exact MV.Ok.zero _ _)
theorem bT.finish(h:bT fn s)(n:Nat):bT fn {s with r:=s.r.finish n}:=⟨h.pos,h.deep,h.Oy,h.gs,h.inp,h.log,h.maps,h.own⟩
theorem bT.logged(h:bT fn s)(n:Nat)(hn:n<18446744073709551616)(hl:eJ s.r.log<20):bT fn {s with r:=s.r.logged n}:=by
 have h1:bT fn {s with r:={s.r with log:=s.r.log++[n]}}:=⟨h.pos,h.deep,h.Oy,h.gs,h.inp,⟨by show(s.r.log++[n]).length<=20;rw[bj];exact hl,λk hk=>by
  rcases List.mem_append.1 hk with hk|hk
  ·exact h.log.2 k hk
  ·rw[List.mem_singleton.1 hk];exact hn⟩,h.maps,h.own⟩
 exact h1.answer _ (MV.Ok.num (by decide))
theorem zK.grow{gs:List tLN}{m:iK}(h:zK gs m)(g:tLN):zK (gs++[g]) m :=
 ⟨h.key,h.val,h.most,h.len,h.ek,λe he=>⟨by rw[bj];exact Nat.lt_succ_of_lt (h.er e he).1,by rw[kK _ _ _ _ (h.er e he).1];exact(h.er e he).2⟩,h.srt⟩
theorem Nj:eJ bS<=1000/\∀b∈bS,b<256:=by decide
theorem bT.call(h:bT fn s)(hd:eJ s.r.calls<8)(f:Nat)(hf:f<fn):bT fn {s with r:=s.r.Hu f (eJ s.gs),gs:=s.gs++[bS]}:=by
 have hl:eJ (s.gs++[bS])=eJ s.gs+1:=bj
 have h1:bT fn {s with r:=s.r.pI f (eJ s.gs),gs:=s.gs++[bS]}:=by
  refine⟨by show 0<eJ (s.r.calls++[_]);simp,by show(s.r.calls++[_]).length<=8;rw[bj];exact hd,λg hg=>?_,λg hg=>?_,by show s.r.inp<eJ (s.gs++[bS]);have:=h.inp;omega,h.log,λm hm=>(h.maps m hm).grow _,?_⟩
  ·rcases List.mem_append.1 hg with hg|hg
   ·exact(h.Oy g hg).grow (by show eJ s.gs<=eJ (s.gs++[bS]);omega)
   ·rw[List.mem_singleton.1 hg];exact⟨hf,by show eJ s.gs<eJ (s.gs++[bS]);omega,rfl,λv hv=>by rw[bh hv];exact MV.Ok.zero _ _⟩
  ·rcases List.mem_append.1 hg with hg|hg
   ·exact h.gs g hg
   ·rw[List.mem_singleton.1 hg];exact Nj
  ·have ho:=h.own
   have hlt:∀q∈Ca s,q<eJ s.gs:=λq hq=>by
    rcases List.mem_cons.1 hq with rfl|hq
    ·exact h.inp
    ·rcases List.mem_append.1 hq with hq|hq
     ·obtain⟨g,hg,rfl⟩:=List.mem_map.1 hq;exact(h.Oy g hg).oJ
     ·obtain⟨m,hm,hq⟩:=List.mem_flatMap.1 hq;obtain⟨e,he,rfl⟩:=List.mem_map.1 hq;exact((h.maps m hm).er e he).1
   show(s.r.inp::((s.r.calls++[(⟨f,0,0,z11,eJ s.gs⟩:jN)]).map (·.oJ)++dA s.ms)).Nodup
   have hp:(s.r.inp::((s.r.calls++[(⟨f,0,0,z11,eJ s.gs⟩:jN)]).map (·.oJ)++dA s.ms)).Perm (eJ s.gs::Ca s):=by rw[cG,de,dq,List.append_assoc];exact(List.Perm.cons _ List.perm_middle).trans (List.Perm.swap _ _ _)
   rw[hp.nodup_iff];exact List.nodup_cons.2 ⟨λhq=>dj _ (hlt _ hq),ho⟩
 have h2:=h1.eV 10 (eY (eJ s.gs) 64) (MV.Ok.ptr (by show eJ s.gs<eJ (s.gs++[bS]);omega) (by decide));exact bT.nQ _ h2 1 (λu hu=>by have hm:=cN (cP hu);exact(h.top.regs u hm).grow (by show eJ s.gs<=eJ (s.gs++[bS]);omega))
theorem FZ(l:List tLN)(q i:Nat)(g:tLN)(hq:q<eJ l):(l.set q g).getD i []=if i=q then g else l.getD i []:=qp l g [] i q hq
theorem bT.acq(h:bT fn s)(q:Nat)(hq:q<eJ s.gs)(g:tLN)(hg:eJ g<=1000/\∀b∈g,b<256)(hm:∀m∈s.ms,∀e∈m.aP,e.2=q->eJ g=eJ (s.gs.getD q [])):bT fn {s with gs:=s.gs.set q g}:=by
 have hl:eJ (s.gs.set q g)=eJ s.gs:=b9;refine⟨h.pos,h.deep,λf hf=>?_,λx hx=>?_,by show _<eJ (s.gs.set q g);rw[hl];exact h.inp,h.log,λm hm'=>?_,h.own⟩
 ·exact(h.Oy f hf).grow (by show _<=eJ (s.gs.set q g);omega)
 ·rcases al hx with hx|rfl
  ·exact h.gs x hx
  ·exact hg
 ·have k:=h.maps m hm';refine⟨k.key,k.val,k.most,k.len,k.ek,λe he=>⟨by show _<eJ (s.gs.set q g);rw[hl];exact(k.er e he).1,?_⟩,k.srt⟩;show((s.gs.set q g).getD e.2 []).length=_
  rw[FZ _ _ _ _ hq];by_cases hh:e.2=q
  ·rw[iP9 hh,hm m hm' e he hh,<-hh];exact(k.er e he).2
  ·rw[iN9 hh];exact(k.er e he).2
theorem bT.back(h:bT fn s)(hc:eJ s.r.calls≠1):bT fn {s with r:=s.r.back,gs:=s.gs.set s.r.top.oJ []}:=by
 have hpos:=h.pos
 have hlast:s.r.calls=s.r.calls.dropLast++[s.r.top]:=by
  have hne:s.r.calls≠[]:=λe=>by rw[e]at hpos;exact dj _ hpos
  have e1:=cx hne;rw[aJ.AR _ h.pos,<-cD hne];exact e1.symm
 have hnot:∀m∈s.ms,∀e∈m.aP,e.2≠s.r.top.oJ:=λm hm e he hq=>by have ho:=h.own;unfold Ca at ho;have ho2:=(List.nodup_append.1 (List.nodup_cons.1 ho).2).2.2;exact ho2 s.r.top.oJ (List.mem_map.2 ⟨_,h.Oz,rfl⟩) e.2 (List.mem_flatMap.2 ⟨m,hm,List.mem_map.2 ⟨e,he,rfl⟩⟩) hq.symm
 have h0:=h.acq s.r.top.oJ h.top.oJ [] ⟨by decide,λb hb=>by cases hb⟩ (λm hm e he hq=>absurd hq (hnot m hm e he));have hl:eJ (s.gs.set s.r.top.oJ [])=eJ s.gs:=b9
 have h1:bT fn {s with r:=s.r.pop,gs:=s.gs.set s.r.top.oJ []}:=by
  refine⟨by show 0<eJ s.r.calls.dropLast;rw[cj];omega,by show eJ s.r.calls.dropLast<=8;rw[cj];have:=h.deep;omega,λf hf=>h0.Oy f (List.dropLast_subset _ hf),h0.gs,h0.inp,h0.log,h0.maps,?_⟩;show(s.r.inp::(s.r.calls.dropLast.map (·.oJ)++dA s.ms)).Nodup
  have ho:=h.own;unfold Ca at ho;rw[hlast,cG]at ho
  have hsub:(s.r.inp::(s.r.calls.dropLast.map (·.oJ)++dA s.ms)).Sublist (s.r.inp::(s.r.calls.dropLast.map (·.oJ)++List.map (·.oJ) [s.r.top]++dA s.ms)) :=
   List.Sublist.cons_cons _ (List.Sublist.append (List.sublist_append_left _ _) (List.Sublist.refl _))
  exact ho.sublist hsub
 exact h1.answer (s.r.aD 0) ((h.aD 0).grow (by show _<=eJ (s.gs.set s.r.top.oJ []);omega))
end
section
variable {F : Nat -> Prop} {w w' : World} {b : Nat} {a : Ad} {s : aX} {fn : Nat}
theorem dX.vD(h:dX F w b a s)(m:aa (Own a.vC) w w')(r:aJ)(hr:aI w' b a.rb a.mb a.vM a.vC a.vL r)(hl:r.log=s.r.log):dX F w' b a {s with r:=r}/\aa F w w':=h.WQ (m.mono (λ_ _ h=>.inr h)) r hr hl
theorem dX.aek(h:dX F w b a s)(q:Nat)(hq:q<eJ s.gs)(m:aa (Own (a.vs.getD q kO)) w w')(gs:List tLN)(hR:pH w' a.rb a.vs gs):dX F w' b a {s with gs:=gs}/\aa F w w':=by
 have mT:ep [5] w w':=ep.of m (λk hk=>⟨_,by simp,(h.kL.sl q hq).ty hk⟩);refine⟨⟨h.run.cK mT (by decide) (by decide),hR,h.log.cK mT (by decide),h.maps.cK mT (by decide) (by decide) (by decide),h.fb,h.fc,h.fl,h.fr,h.fv,h.fm,h.fe⟩,m.mono (λk _ hk=>?_)⟩;have hm:a.vs.getD q kO∈a.vs:=by have hv:=h.kL.lv;rw[List.getD_eq_getElem?_getD,List.getElem?_eq_getElem (by omega)];exact ab _
 exact h.fv _ hm k hk
theorem bT.In(h:bT fn s)(hl:eJ a.rb=eJ s.gs):s.r.In (eJ a.rb):=by
 rw[hl]
 exact⟨h.inp,λf hf=>⟨(h.Oy f hf).oJ,λv hv q hq=>by
  rcases((h.Oy f hf).regs v hv).2 with⟨_,e,_⟩ |⟨_,e,_⟩ |⟨_,_,q',e,hq'⟩
  ·rw[e]at hq;cases hq
  ·rw[e]at hq;cases hq
  ·rw[e]at hq;cases hq;exact hq'⟩⟩
theorem dX.backTo(h:dX F w b a s)(q:Nat)(hq:q<eJ s.gs)(WA:fa)(hC:WA.ownBlock=a.vC.ownBlock)(r:aJ)(hl:r.log=s.r.log)(w2:tW)(m1:aa af w w2)(m2:aa (λk=>k=b\/Own a.vC k) (w2.setCell ⟨a.rb.getD q 0,0,eL⟩ (vN)) w')(hr:aI w' b a.rb a.mb a.vM WA a.vL r):dX F w' b {a with vs:=a.vs.set q (vN),vC:=WA} {s with r:=r,gs:=s.gs.set q []}/\aa F w w':=by
 have h2:=h.quiet m1;have hm:a.rb.getD q 0∈a.rb:=by have hv:=h.kL.lr;rw[List.getD_eq_getElem?_getD,List.getElem?_eq_getElem (by omega)];exact ab _
 have mG:aa (Only (a.rb.getD q 0)) w2 (w2.setCell ⟨a.rb.getD q 0,0,eL⟩ (vN)):=ax.bA 0 _;have mT:ep [122] w2 (w2.setCell ⟨a.rb.getD q 0,0,eL⟩ (vN)):=ep.of mG (λk hk=>⟨122,by simp,by cases(show k=_ from hk);exact(h2.kL.blk q hq).ty⟩);have hR2:=h2.kL.die q hq;have hb3:=h2.run.cK mT (by decide) (by decide)
 have mT2:ep [125,190] (w2.setCell ⟨a.rb.getD q 0,0,eL⟩ (vN)) w':=ep.of m2 (λk hk=>by
  rcases hk with rfl|hk
  ·exact⟨_,by simp,hb3.blk.ty⟩
  ·exact⟨_,by simp,hb3.calls.ty hk⟩)
 refine⟨⟨hr,hR2.cK mT2 (by decide) (by decide),?_,(h2.maps.cK mT (by decide) (by decide) (by decide)).cK mT2 (by decide) (by decide) (by decide),h.fb,λk hk=>h.fc k (hC ▸ hk),h.fl,h.fr,λv hv k hk=>?_,h.fm,h.fe⟩,?_⟩
 ·show Sl w' _ _ _ (eJ r.log) (WL r.log)
  rw[hl];exact(h2.log.cK mT (by decide)).cK mT2 (by decide)
 ·rcases al hv with hv|rfl
  ·exact h.fv v hv k hk
  ·cases hk
 ·refine((m1.mono (λ_ _ h=>h.elim)).trans (mG.mono (λk _ hk=>?_))).trans (m2.mono (λk _ hk=>?_))
  ·cases(show k=_ from hk);exact h.fr _ hm
  ·rcases hk with rfl|hk
   ·exact h.fb
   ·exact h.fc k hk
theorem dX.afY(h:dX F w b a s)(d e:MV)(hd:d.Ok (eJ s.gs) (eJ s.ms))(he:e.Ok (eJ s.gs) (eJ s.ms)):Ng w a.rb a.mb d e:=by
 have hr:∀(v:MV) (x:Nat),v.Ok (eJ s.gs) (eJ s.ms)->v.aD=eK x->x<eJ s.gs:=λv x hv hx=>by
  rcases hv.2 with⟨_,e,_⟩ |⟨_,e,_⟩ |⟨_,_,q,e,hq⟩
  ·rw[e]at hx;cases hx
  ·rw[e]at hx;cases hx
  ·rw[e]at hx;cases hx;exact hq
 have ht:∀(v:MV) (x:Nat),v.Ok (eJ s.gs) (eJ s.ms)->v.tab=eK x->x<eJ s.ms:=λv x hv hx=>by
  rcases hv.2 with⟨_,_,e⟩ |⟨_,_,t,e,hq⟩ |⟨_,e,_⟩
  ·rw[e]at hx;cases hx
  ·rw[e]at hx;cases hx;exact hq
  ·rw[e]at hx;cases hx
 refine⟨λx hx=>?_,λx y hx hy hxy=>h.kL.inj x y (hr d x hd hx) (hr e y he hy) hxy,λx hx=>?_,λx y hx hy hxy=>h.maps.inj x y (ht d x hd hx) (ht e y he hy) hxy⟩
 ·exact⟨_,_,h.kL.blk x (hx.elim (hr d x hd) (hr e x he))⟩
 ·exact⟨_,_,h.maps.blk x (hx.elim (ht d x hd) (ht e x he))⟩
theorem MV.Ok.pt{n m:Nat}{v:MV}(h:v.Ok n m):v.Pt n:=λh2=>by
 rcases h.2 with⟨e,_⟩ |⟨e,_⟩ |⟨_,_,q,e,hq⟩
 ·rw[e]at h2;cases h2
 ·rw[e]at h2;cases h2
 ·exact⟨q,e,hq⟩
end
theorem Sq(W:tW):(Instr.field 294 (fY #[eR (T [103,101,116]),fN (.func 289) #[] #[]]) 1).run prog W=.ok (fN (.func 289) #[] #[]) W:=rfl
theorem Sr(W:tW):(Instr.field 294 (fY #[eR (T [112,117,116]),fN (.func 290) #[] #[]]) 1).run prog W=.ok (fN (.func 290) #[] #[]) W:=rfl
theorem Su(W:tW):(Instr.field 294 (fY #[eR (T [100,101,108]),fN (.func 291) #[] #[]]) 1).run prog W=.ok (fN (.func 291) #[] #[]) W:=rfl
theorem ael:ou 289:=enters_of func289 (by kernel_rfl) rfl
theorem aem:ou 290:=enters_of func290 (by kernel_rfl) rfl
theorem aen:ou 291:=enters_of func291 (by kernel_rfl) rfl
theorem WY(w:tW)(b:Nat)(X:dM)(hs:X.s≠1)(hn:X.num=1)(R:mz->tW->Prop)(hL:∀w',aa af w w'->fS prog 289 #[pt b] w' λe w''=>(e=fW (jl #[])\/∃t,e=bG t)/\R e w''):fS prog 131 #[pt b,fY X.cells] w λe w'=>R e w':=by
 have HL:=aq hL;have hs1:((X.s:Int)==1)=fj:=by simp;omega
 clear hL hs;obtain⟨op,d,s,jump,num,high,label,name⟩:=X;simp only at hn hs1;subst hn;unfold dM.cells;simp only;have en:=ael;unfold ou at en;have ix:=UO;have jx:=Sq;have dF:ah (aa af w (w.alloc (fL #[op,vB d,vB s,.int .i16 jump,vJ 1,vJ high,eR label,eR name] 138))):=aw;have BI:=aq (au.new w #[op,vB d,vB s,.int .i16 jump,vJ 1,vJ high,eR label,eR name] 138);go_in;go_upto_region 1 with fail;generalize w.alloc (fL #[op,vB d,vB s,.int .i16 jump,vJ 1,vJ high,eR label,eR name] 138)=W3 at *;have y2:=BI.o.cell 2;go_upto_region 3 with fail;clear y2;have x4:=λ(e:Ext af W3)=>(BI.o.ai e.m id).c4
 haveI:Nonempty (Ext af W3):=Ext.ne _ _
 refine bY 7 [0] (λw'=>∃e:Ext af W3,w'=e.w) (by kernel_rfl) (by kernel_rfl) ⟨⟨_,aN⟩,rfl⟩ ?_;simp only[ao,bt,ar,b5];refine aH rfl rfl ?_;intro K' hK;go_big_op;refine(fV _).mono ?_;rintro e ww1 ⟨rfl,mm⟩;have M1:=aq (((aa.refl af _).drew).trans mm);refine hK _ _ rfl ⟨⟨_,M1.o⟩,rfl⟩ ?_;clear hK K' mm
 iterate 6 (refine aG rfl rfl rfl ?_;intro K' hK;go_big_quiet_op;go_big_quiet_on)
 refine bZ ?_;clear x4;go_wp2_with fail;refine(HL.o _ (dF.o.trans M1.o)).mono ?_;rintro e w1 ⟨he,hr⟩;have HR:=aq hr;clear hr;rcases he with rfl |⟨t,rfl⟩
 ·go_wp2_with fail;go_end0;exact HR.o
 ·exact⟨rfl,HR.o⟩
theorem WZ(w:tW)(b:Nat)(X:dM)(hs:X.s≠1)(hn:X.num=2)(R:mz->tW->Prop)(hL:∀w',aa af w w'->fS prog 290 #[pt b] w' λe w''=>(e=fW (jl #[])\/∃t,e=bG t)/\R e w''):fS prog 131 #[pt b,fY X.cells] w λe w'=>R e w':=by
 have HL:=aq hL;have hs1:((X.s:Int)==1)=fj:=by simp;omega
 clear hL hs;obtain⟨op,d,s,jump,num,high,label,name⟩:=X;simp only at hn hs1;subst hn;unfold dM.cells;simp only;have en:=aem;unfold ou at en;have ix:=UQ;have jx:=Sr;have dF:ah (aa af w (w.alloc (fL #[op,vB d,vB s,.int .i16 jump,vJ 2,vJ high,eR label,eR name] 138))):=aw;have BI:=aq (au.new w #[op,vB d,vB s,.int .i16 jump,vJ 2,vJ high,eR label,eR name] 138);go_in;go_upto_region 1 with fail;generalize w.alloc (fL #[op,vB d,vB s,.int .i16 jump,vJ 2,vJ high,eR label,eR name] 138)=W3 at *;have y2:=BI.o.cell 2;go_upto_region 3 with fail;clear y2;have x4:=λ(e:Ext af W3)=>(BI.o.ai e.m id).c4
 haveI:Nonempty (Ext af W3):=Ext.ne _ _
 refine bY 7 [0] (λw'=>∃e:Ext af W3,w'=e.w) (by kernel_rfl) (by kernel_rfl) ⟨⟨_,aN⟩,rfl⟩ ?_;simp only[ao,bt,ar,b5];refine aH rfl rfl ?_;intro K' hK;go_big_op;refine(fV _).mono ?_;rintro e ww1 ⟨rfl,mm⟩;have M1:=aq (((aa.refl af _).drew).trans mm);refine hK _ _ rfl ⟨⟨_,M1.o⟩,rfl⟩ ?_;clear hK K' mm
 iterate 6 (refine aG rfl rfl rfl ?_;intro K' hK;go_big_quiet_op;go_big_quiet_on)
 refine bZ ?_;clear x4;go_wp2_with fail;refine(HL.o _ (dF.o.trans M1.o)).mono ?_;rintro e w1 ⟨he,hr⟩;have HR:=aq hr;clear hr;rcases he with rfl |⟨t,rfl⟩
 ·go_wp2_with fail;go_end0;exact HR.o
 ·exact⟨rfl,HR.o⟩
theorem Xa(w:tW)(b:Nat)(X:dM)(hs:X.s≠1)(hn:X.num=3)(R:mz->tW->Prop)(hL:∀w',aa af w w'->fS prog 291 #[pt b] w' λe w''=>(e=fW (jl #[])\/∃t,e=bG t)/\R e w''):fS prog 131 #[pt b,fY X.cells] w λe w'=>R e w':=by
 have HL:=aq hL;have hs1:((X.s:Int)==1)=fj:=by simp;omega
 clear hL hs;obtain⟨op,d,s,jump,num,high,label,name⟩:=X;simp only at hn hs1;subst hn;unfold dM.cells;simp only;have en:=aen;unfold ou at en;have ix:=UR;have jx:=Su;have dF:ah (aa af w (w.alloc (fL #[op,vB d,vB s,.int .i16 jump,vJ 3,vJ high,eR label,eR name] 138))):=aw;have BI:=aq (au.new w #[op,vB d,vB s,.int .i16 jump,vJ 3,vJ high,eR label,eR name] 138);go_in;go_upto_region 1 with fail;generalize w.alloc (fL #[op,vB d,vB s,.int .i16 jump,vJ 3,vJ high,eR label,eR name] 138)=W3 at *;have y2:=BI.o.cell 2;go_upto_region 3 with fail;clear y2;have x4:=λ(e:Ext af W3)=>(BI.o.ai e.m id).c4
 haveI:Nonempty (Ext af W3):=Ext.ne _ _
 refine bY 7 [0] (λw'=>∃e:Ext af W3,w'=e.w) (by kernel_rfl) (by kernel_rfl) ⟨⟨_,aN⟩,rfl⟩ ?_;simp only[ao,bt,ar,b5];refine aH rfl rfl ?_;intro K' hK;go_big_op;refine(fV _).mono ?_;rintro e ww1 ⟨rfl,mm⟩;have M1:=aq (((aa.refl af _).drew).trans mm);refine hK _ _ rfl ⟨⟨_,M1.o⟩,rfl⟩ ?_;clear hK K' mm
 iterate 6 (refine aG rfl rfl rfl ?_;intro K' hK;go_big_quiet_op;go_big_quiet_on)
 refine bZ ?_;clear x4;go_wp2_with fail;refine(HL.o _ (dF.o.trans M1.o)).mono ?_;rintro e w1 ⟨he,hr⟩;have HR:=aq hr;clear hr;rcases he with rfl |⟨t,rfl⟩
 ·go_wp2_with fail;go_end0;exact HR.o
 ·exact⟨rfl,HR.o⟩
theorem aJ.Sv(vs:List MV):∀(r:aJ) (n:Nat),(r.nQ n vs).log=r.log:=by
 induction vs with
 |nil=>intro r n;rfl
 |cons v vs ih=>intro r n;exact ih _ _
theorem aJ.yE(r:aJ)(v:MV):(r.answer v).log=r.log:=aJ.Sv _ _ _
structure OA(fn mn:Nat)(x:PI):Prop where
 d:x.d<11
 s:x.s<11
 j:-32768<=x.jump/\x.jump<=32767
 n:-2147483648<=x.num/\x.num<=2147483647
 call:(dU x.o.code).t=6->(x.s=1->0<=x.num/\x.num<fn)/\(x.s≠1->1<=x.num/\x.num<=4)
 wide:(dU x.o.code).t=5->x.s=1->0<=x.num/\x.num<mn
 size:(dU x.o.code).t=3\/(dU x.o.code).t=4->0<(dU x.o.code).k/\(dU x.o.code).k<=8
def OB(F:Nat->Prop)(w:tW)(b:Nat)(a:Ad)(s:aX):Prop:=∀w',aa af w w' ->
 (fS prog 289 #[pt b] w' λe w''=>bJ F w' b a (pJ s) e w'')/\(fS prog 290 #[pt b] w' λe w''=>bJ F w' b a (nR s) e w'')/\(fS prog 291 #[pt b] w' λe w''=>bJ F w' b a (oh s) e w'')
theorem bJ.either{F:Nat->Prop}{w w':tW}{b:Nat}{a:Ad}{d:Nat×aX}{e:mz}(h:bJ F w b a d e w'):e=fW (jl #[])\/∃t,e=bG t:=by
 rw[h.1];by_cases hd:d.1=0
 ·exact .inl (iP9 hd)
 ·exact .inr ⟨_,iN9 hd⟩
theorem bJ.from{F:Nat->Prop}{w w1 w':tW}{b:Nat}{a:Ad}{d:Nat×aX}{e:mz}(h:bJ F w1 b a d e w')(m:aa af w w1):bJ F w b a d e w':=⟨h.1,(m.mono (λ_ _ h=>h.elim)).trans h.2.1,h.2.2⟩
theorem Hz{fn:Nat}{s:aX}(ho:bT fn s)(aD:Bool)(x:PI):(yD aD x s).Ok (eJ s.gs) (eJ s.ms):=by
 unfold yD;cases aD with
 |true=>exact ho.aD _
 |false=>exact MV.Ok.num (oK _)
def jM(fs:List bz)(i:Nat):bz:=fs.getD i ⟨[],[]⟩
def oP(f:bz)(slot:Nat):Prop:=∃x,(x,slot)∈atS 0 f.code
structure lK(fs:List bz)(mn:Nat):Prop where
 first:∀f∈fs,oP f 0
 len:∀f∈fs,aU f.code<=1000
 ins:∀f∈fs,∀p∈atS 0 f.code,OA (eJ fs) mn p.1/\gm p.1/\((dU p.1.o.code).t=1\/(dU p.1.o.code).t=2->0<=p.1.target p.2/\oP f (p.1.target p.2).toNat)/\((dU p.1.o.code).t≠2->(dU p.1.o.code).t<=6->oP f (p.2+p.1.o.slots))
def aJ.om(r:aJ):List (Nat×Nat):=r.calls.map λf=>(f.fn,f.next)
theorem vH(fs:List bz)(i:Nat)(h:i<eJ fs):jM fs i∈fs:=by unfold jM;rw[List.getD_eq_getElem?_getD,List.getElem?_eq_getElem h];exact ab _
theorem vK(fs:List bz)(fn slot:Nat)(h:oP (jM fs fn) slot):(AY fs fn slot,slot)∈atS 0 (jM fs fn).code:=by
 obtain⟨x,hx⟩:=h;unfold AY;cases hf:(atS 0 (fs.getD fn ⟨[],[]⟩).code).find? (λp=>p.2==slot)with
 |none =>have:=List.find?_eq_none.1 hf (x,slot) hx;simp at this
 |some p =>
  have h1:=List.mem_of_find?_eq_some hf;have h2:=List.find?_some hf;simp only;have e:p.2=slot:=by simpa using h2
  rw[<-e];exact h1
theorem Sw(r:aJ)(hp:0<eJ r.calls)(f:jN)(h1:f.fn=r.top.fn)(h2:f.next=r.top.next):(r.eO f).om=r.om :=
 zL _ _ _ _ (λy hy=>by
  have e:y=r.top:=by rw[aJ.AR _ hp];rw[List.getElem?_eq_getElem (by omega)]at hy;exact(Option.some.inj hy).symm
  rw[e,h1,h2])
theorem qu(r:aJ)(hp:0<eJ r.calls)(d:Nat)(v:MV):(r.eV d v).om=r.om:=Sw r hp _ rfl rfl
theorem F5(vs:List MV):∀(r:aJ) (_:0<eJ r.calls) (d:Nat),(r.nQ d vs).om=r.om:=by
 induction vs with
 |nil=>intro r _ d;rfl
 |cons v vs ih=>intro r hp d;exact(ih _ (by rw[aJ.iZ];exact hp) _).trans (qu r hp d v)
theorem nT(r:aJ)(hp:0<eJ r.calls)(v:MV):(r.answer v).om=r.om:=(F5 _ _ (by rw[aJ.iZ];exact hp) _).trans (qu r hp 0 v)
def Sy(fs:List bz)(l:List (Nat×Nat)):Prop:=∀p∈l,oP (jM fs p.1) p.2
structure Cb(fs:List bz)(s:aX):Prop where
 at':oP (jM fs s.r.top.fn) s.r.top.slot
 low:Sy fs s.r.om.dropLast
theorem KA(r:aJ)(hp:0<eJ r.calls):r.om=r.om.dropLast++[(r.top.fn,r.top.next)]:=by
 have hne:r.om≠[]:=λe=>by have:=congrArg List.length e;unfold aJ.om at this;rw[cq]at this;simp at this;rw[this]at hp;exact dj _ hp
 have e1:=cx hne;have e2:r.om.getLast hne=(r.top.fn,r.top.next):=by rw[cD];unfold aJ.om;simp only[List.getElem_map,cq];rw[aJ.AR _ hp]
 rw[e2]at e1;exact e1.symm
theorem yF(r:aJ)(hp:0<eJ r.calls)(f:jN):(r.eO f).om=r.om.dropLast++[(f.fn,f.next)]:=by
 have h1:=KA (r.eO f) (by rw[aJ.jL];exact hp);rw[aJ.ql r hp]at h1;have h2:(r.eO f).om.dropLast=r.om.dropLast:=by unfold aJ.om aJ.eO;simp only;rw[List.map_set,cJ,cJ,b9,cq];rw[List.take_set_of_le (by omega)]
 rw[h2]at h1;exact h1
theorem Cb.of{fs:List bz}{s:aX}(hp:0<eJ s.r.calls)(h:Sy fs s.r.om):Cb fs s.dG:=by
 have hl:=KA s.r hp;refine⟨?_,?_⟩
 ·show oP (jM fs (s.r.eO _).top.fn) (s.r.eO _).top.slot
  rw[aJ.ql s.r hp];exact h (s.r.top.fn,s.r.top.next) (by rw[hl];exact List.mem_append_right _ (List.mem_singleton.2 rfl))
 ·show Sy fs (s.r.eO _).om.dropLast
  rw[yF s.r hp,cw];exact λp hp'=>h p (by rw[hl];exact List.mem_append_left _ hp')
theorem Sz(s:aX)(hp:0<eJ s.r.calls)(n:Nat):(s.begin n).r.om=s.r.om.dropLast++[(s.r.top.fn,s.r.top.slot+n)]:=yF {s.r with used:=s.r.used+1} hp _
theorem F6(s:aX)(hp:0<eJ s.r.calls)(n:Nat):(s.begin n).r.top={s.r.top with next:=s.r.top.slot+n}:=aJ.ql {s.r with used:=s.r.used+1} hp _
theorem SA(s:aX)(n:Nat):eJ (s.begin n).r.calls=eJ s.r.calls:=aJ.jL _ _
theorem Xb(s:aX)(hp:0<eJ s.r.calls):(pJ s).2.r.om=s.r.om/\(nR s).2.r.om=s.r.om/\(oh s).2.r.om=s.r.om/\(Kv s).2.r.om=s.r.om:=by
 refine⟨?_,?_,?_,?_⟩
 ·unfold pJ;split
  ·rfl
  ·split
   ·rfl
   ·exact nT _ hp _
 ·have e:∀t key val,(lJ s t key val).1.r=s.r:=λt key val=>by
   unfold lJ;split
   ·rfl
   ·split<;>rfl
  unfold nR;split
  ·rfl
  ·split
   ·rfl
   ·split
    ·rfl
    ·show((lJ _ _ _ _).1.r.answer _).om=_
     rw[e];exact nT _ hp _
 ·have e:∀t key,(tC s t key).1.r=s.r:=λt key=>by unfold tC;split<;>rfl
  unfold oh;split
  ·rfl
  ·split
   ·rfl
   ·show((tC _ _ _).1.r.answer _).om=_
    rw[e];exact nT _ hp _
 ·unfold Kv;split
  ·rfl
  ·split
   ·rfl
   ·exact nT {s.r with log:=_} hp _
theorem Nk(r:aJ)(fn k:Nat):(r.Hu fn k).om=r.om++[(fn,0)]:=by
 have h0:0<eJ (r.pI fn k).calls:=by show 0<eJ (r.calls++[_]);simp
 have h1:0<eJ (r.enter fn k).calls:=by unfold aJ.enter;rw[aJ.iZ];exact h0
 unfold aJ.Hu;rw[F5 _ _ h1];unfold aJ.enter;rw[qu _ h0];unfold aJ.om aJ.pI;simp only[cG,de,dq]
theorem Xc(r:aJ)(hp:1<eJ r.calls):r.back.om=r.om.dropLast:=by unfold aJ.back;rw[nT _ (by show 0<eJ r.calls.dropLast;rw[cj];omega)];unfold aJ.om aJ.pop;simp only;rw[List.map_dropLast]
theorem Xd{fs:List bz}{s:aX}(hc:lK fs (eJ s.ms))(ho:bT (eJ fs) s)(hp:Cb fs s)(he:s.r.ended=fj)(h0:(s.did fs).1=0):(s.did fs).2.r.ended=fR\/Sy fs (s.did fs).2.r.om:=by
 have hf:=vH fs _ ho.top.fn;have hx:=vK fs _ _ hp.at';obtain⟨hi,_,hj,hn⟩:=hc.ins _ hf _ hx;have hpos:=ho.pos;have hb:=Sz s hpos (s.ins fs).o.slots;have hbt:=F6 s hpos (s.ins fs).o.slots;have hbl:0<eJ (s.begin (s.ins fs).o.slots).r.calls:=by rw[SA];exact hpos
 have Ed:(dU (s.ins fs).o.code).t≠2->(dU (s.ins fs).o.code).t<=6->Sy fs (s.begin (s.ins fs).o.slots).r.om:=λh2 h6 p hp'=>by
  rw[hb]at hp';rcases List.mem_append.1 hp' with hp'|hp'
  ·exact hp.low p hp'
  ·rw[List.mem_singleton.1 hp'];exact hn h2 h6
 have hgo:(dU (s.ins fs).o.code).t=1\/(dU (s.ins fs).o.code).t=2->Sy fs ((s.begin (s.ins fs).o.slots).r.gZ ((s.ins fs).target (s.begin (s.ins fs).o.slots).r.top.slot).toNat).om:=λh12 p hp'=>by
  have e:=yF (s.begin (s.ins fs).o.slots).r hbl {(s.begin (s.ins fs).o.slots).r.top with next:=((s.ins fs).target (s.begin (s.ins fs).o.slots).r.top.slot).toNat};have hp2:p∈((s.begin (s.ins fs).o.slots).r.eO {(s.begin (s.ins fs).o.slots).r.top with next:=((s.ins fs).target (s.begin (s.ins fs).o.slots).r.top.slot).toNat}).om:=hp';rw[e,hb,cw]at hp2;rcases List.mem_append.1 hp2 with hp2|hp2
  ·exact hp.low p hp2
  ·rw[List.mem_singleton.1 hp2];rw[hbt];exact(hj h12).2
 unfold aX.did at h0 ⊢;generalize hdd:dU (s.ins fs).o.code=dd at *;obtain⟨t,m,k,aD⟩:=dd;simp only at Ed hgo;have hee:(s.begin (s.ins fs).o.slots).r.ended=fj:=he;generalize s.begin (s.ins fs).o.slots=s1 at *;unfold doP at h0 ⊢;simp only at h0 ⊢;split at h0
 ·cases hv:rkP m k (s1.r.aD (s.ins fs).d) (yD aD (s.ins fs) s1)with
  |none=>rw[hv]at h0;cases h0
  |some v=>exact .inr (by simp only;rw[qu _ hbl];exact Ed (by decide) (by decide))
 ·cases hv:soP m k (s1.r.aD (s.ins fs).d) (yD aD (s.ins fs) s1)with
  |none=>rw[hv]at h0;cases h0
  |some v =>
   cases v with
   |true=>exact .inr (hgo (.inl rfl))
   |false=>exact .inr (Ed (by decide) (by decide))
 ·exact .inr (hgo (.inr rfl))
 ·by_cases ht:aZ s1.gs (s1.r.aD (s.ins fs).s) (s.ins fs).jump k=0
  ·rw[iP9 ht];exact .inr (by simp only;rw[qu _ hbl];exact Ed (by decide) (by decide))
  ·rw[iN9 ht]at h0;exact absurd h0 ht
 ·by_cases ht:storeT s1.gs (s1.r.aD (s.ins fs).d) (s.ins fs).jump k (yD aD (s.ins fs) s1)=0
  ·rw[iP9 ht];exact .inr (Ed (by decide) (by decide))
  ·rw[iN9 ht]at h0;exact absurd h0 ht
 ·exact .inr (by simp only;rw[qu _ hbl];exact Ed (by decide) (by decide))
 ·have hs6:=Ed (by decide) (by decide);have hcall:=hi.call;rw[show(dU (AY fs s.r.top.fn s.r.top.slot).o.code).t=6 from congrArg Us.t hdd]at hcall;obtain⟨q1,q2,q3,q4⟩:=Xb s1 hbl;by_cases h1:(s.ins fs).s=1
  ·rw[iP9 h1]at h0 ⊢;by_cases h8:eJ s1.r.calls=8
   ·rw[iP9 h8]at h0;cases h0
   ·rw[iN9 h8];refine .inr (λp hp'=>?_);simp only at hp';rw[Nk]at hp';rcases List.mem_append.1 hp' with hp'|hp'
    ·exact hs6 p hp'
    ·rw[List.mem_singleton.1 hp'];have hn2:0<=(s.ins fs).num/\(s.ins fs).num<eJ fs:=(hcall rfl).1 h1
     exact hc.first _ (vH fs _ (by
      show(s.ins fs).num.toNat<eJ fs
      omega))
  ·rw[iN9 h1]at h0 ⊢;right;split
   ·rw[q1];exact hs6
   ·split
    ·rw[q2];exact hs6
    ·split
     ·rw[q3];exact hs6
     ·rw[q4];exact hs6
 ·by_cases h1:eJ s1.r.calls=1
  ·rw[iP9 h1]at h0 ⊢;by_cases h2:(s1.r.aD 0).so=0
   ·rw[iP9 h2];exact .inl rfl
   ·rw[iN9 h2]at h0;cases h0
  ·rw[iN9 h1];refine .inr ?_;simp only;rw[Xc _ (by omega),hb,cw];exact hp.low
theorem acr(m k n q:Nat)(d s v:MV)(hd:d.Ok n q)(hs:s.Ok n q)(h:rkP m k d s=eK v):v.Ok n q:=by
 unfold rkP at h;split at h
 ·cases h;exact hs
 ·split at h
  ·cases h;exact MV.Ok.num (Ot _)
  ·cases h
 ·split at h
  ·cases h;exact MV.Ok.num (Nf _ _ _ _ hd.1 hs.1)
  ·cases h
 ·split at h
  ·cases h;exact MV.Ok.num (Ot _)
  ·cases h
 ·split at h
  ·split at h
   ·cases h;exact⟨Nf _ _ _ _ hd.1 hs.1,hd.2⟩
   ·cases h
  ·split at h
   ·cases h;exact MV.Ok.num (Nf _ _ _ _ hd.1 hs.1)
   ·cases h
theorem F7:∀(l:tLN),(∀b∈l,b<256)->leN l<256 ^ eJ l
 |[],_=>by show 0<1;decide
 |x::l,h=>by
  have h1:=h x (by simp);have h2:=F7 l (λb hb=>h b (by simp[hb]));show x+256*leN l<256 ^ (eJ l+1)
  rw[Nat.pow_succ];omega
theorem Ee(num:Nat):∀(k A:Nat) (l:tLN),(∀b∈l,b<256)->∀b∈putB l A num k,b<256
 |0,_,_,h,b,hb=>h b hb
 |k+1,A,l,h,b,hb=>by
  rcases al hb with hb|rfl
  ·exact Ee num k A l h b hb
  ·exact Nat.mod_lt _ (by decide)
theorem Xe{gs:List tLN}(hg:yC gs)(v:MV)(j:Int)(k:Nat)(hk:k<=8)(hq:v.aD.getD 0<eJ gs):BD gs v j k<18446744073709551616:=by
 unfold BD;have hb:∀b∈((gs.getD (v.aD.getD 0) []).drop (lq v j)).take k,b<256:=λb hb=>(hg.at _ hq).2 b (cN (cP hb));have h1:=F7 _ hb;have h2:eJ (((gs.getD (v.aD.getD 0) []).drop (lq v j)).take k)<=8:=by rw[List.length_take];omega
 have h3:256 ^ eJ (((gs.getD (v.aD.getD 0) []).drop (lq v j)).take k)<=256 ^ 8:=Nat.pow_le_pow_right (by decide) h2;have h4:(256:Nat) ^ 8=18446744073709551616:=by decide
 omega
theorem OC{gs:List tLN}{n m:Nat}(v:MV)(hv:v.Ok n m)(j:Int)(k:Nat)(h:aZ gs v j k=0):v.aD.getD 0<n:=by
 unfold aZ at h;by_cases h2:v.so=2
 ·obtain⟨q,hq,hlt⟩:=hv.pt h2;rw[hq];exact hlt
 ·rw[iP9 (by simpa using h2)]at h;exact absurd h (by decide)
def Ef(fn:Nat)(s:aX):Prop:=bT fn (pJ s).2/\bT fn (nR s).2/\bT fn (oh s).2/\(pJ s).2.ms.length=eJ s.ms/\(nR s).2.ms.length=eJ s.ms/\(oh s).2.ms.length=eJ s.ms
theorem Xf(x:PI):x.WO<18446744073709551616:=by unfold PI.WO;omega
theorem OD{fn:Nat}{s:aX}(ho:bT fn s):bT fn (Kv s).2:=by
 unfold Kv;split
 ·exact ho
 ·split
  ·exact ho
  ·rename_i h2
   exact ho.logged _ (ho.aD 1).1 (by have:=ho.log.1;omega)
theorem OE(s:aX):(Kv s).2.ms=s.ms:=by
 unfold Kv;split
 ·rfl
 ·split<;>rfl
theorem Nl{fn mn:Nat}{s:aX}(ho:bT fn s)(hm:eJ s.ms=mn)(x:PI)(hx:OA fn mn x)(hH:(dU x.o.code).t=6->x.s≠1->x.num<4->Ef fn s):bT fn (doP (dU x.o.code) x s).2/\(doP (dU x.o.code) x s).2.ms.length=mn:=by
 have hc:=hx.call;have hw:=hx.wide;have hz:=hx.size;generalize dU x.o.code=dd at *;obtain⟨t,m,k,aD⟩:=dd;simp only at hc hw hz hH;unfold doP;simp only;split
 ·cases hv:rkP m k (s.r.aD x.d) (yD aD x s)with
  |none=>exact⟨ho,hm⟩
  |some v=>exact⟨ho.eV _ _ (acr m k _ _ _ _ v (ho.aD _) (Hz ho aD x) hv),hm⟩
 ·cases hv:soP m k (s.r.aD x.d) (yD aD x s)with
  |none=>exact⟨ho,hm⟩
  |some v =>
   cases v with
   |true=>exact⟨ho.gZ _,hm⟩
   |false=>exact⟨ho,hm⟩
 ·exact⟨ho.gZ _,hm⟩
 ·split
  ·rename_i ht
   exact⟨ho.eV _ _ (MV.Ok.num (Xe ho.gs _ _ _ (hz (.inl rfl)).2 (OC _ (ho.aD _) _ _ ht))),hm⟩
  ·exact⟨ho,hm⟩
 ·split
  ·rename_i ht
   have hr:aZ s.gs (s.r.aD x.d) x.jump k=0:=by
    unfold storeT at ht;by_cases h1:(yD aD x s).so=0
    ·rw[iN9 (by simp[h1])]at ht;exact ht
    ·rw[iP9 (by simpa using h1)]at ht;exact absurd ht (by decide)
   have hq:=OC _ (ho.aD x.d) _ _ hr;have hg:=ho.gs.at _ hq;exact⟨ho.acq _ hq _ ⟨by rw[Kt];exact hg.1,Ee _ _ _ _ hg.2⟩ (λ_ _ _ _ _=>Kt _ _ _ _),hm⟩
  ·exact⟨ho,hm⟩
 ·refine⟨ho.eV _ _ ?_,hm⟩;by_cases h1:x.s=1
  ·rw[iP9 h1];obtain⟨n0,n1⟩:=hw rfl h1;exact⟨(by decide:0<18446744073709551616),.inr (.inl ⟨rfl,rfl,_,rfl,by omega⟩)⟩
  ·rw[iN9 h1];exact MV.Ok.num (Xf x)
 ·by_cases h1:x.s=1
  ·rw[iP9 h1];obtain⟨n0,n1⟩:=(hc rfl).1 h1;by_cases h8:eJ s.r.calls=8
   ·rw[iP9 h8];exact⟨ho,hm⟩
   ·rw[iN9 h8];exact⟨ho.call (by have:=ho.deep;omega) _ (by omega),hm⟩
  ·rw[iN9 h1];by_cases e4:x.num<4
   ·obtain⟨k1,k2,k3,l1,l2,l3⟩:=hH rfl h1 e4;split
    ·exact⟨k1,by rw[l1];exact hm⟩
    ·split
     ·exact⟨k2,by rw[l2];exact hm⟩
     ·split
      ·exact⟨k3,by rw[l3];exact hm⟩
      ·exact⟨OD ho,by rw[OE];exact hm⟩
   ·rw[iN9 (by omega),iN9 (by omega),iN9 (by omega)];exact⟨OD ho,by rw[OE];exact hm⟩
 ·by_cases h1:eJ s.r.calls=1
  ·rw[iP9 h1];split
   ·exact⟨ho.finish _,hm⟩
   ·exact⟨ho,hm⟩
  ·rw[iN9 h1];exact⟨ho.back h1,hm⟩
abbrev Xg:List ju:=[71,122,5,85,148]
structure wZ(F:Nat->Prop)(wT:tW)(tv:fa)(bs:tLN)(mp:Nat)(vF:fa)(fs:List bz)(cg:tLN)(w:tW):Prop where
 blk:∃c0 c1 c3,au w mp #[c0,c1,vF,c3] 71
 lf:eJ cg=eJ fs
 wY:Sl w 75 2 vF (eJ fs) ((fs.zip cg).flatMap FV)
 code:∀i (h:i<eJ fs) (h':i<eJ cg),nZ w bs cg[i] (aU fs[i].code) (atS 0 fs[i].code)
 tab:aM 0 wT tv bs az
 md:ep Xg wT w
 nM:¬F mp
 nF:∀k,vF.ownBlock=eK k->¬F k
 nC:∀g∈cg,¬F g
 base:∀k,F k->wT.heap.size<=k
theorem wZ.ai{F:Nat->Prop}{wT:tW}{tv:fa}{bs:tLN}{mp:Nat}{vF:fa}{fs:List bz}{cg:tLN}{w w':tW}(h:wZ F wT tv bs mp vF fs cg w)(m:aa F w w'):wZ F wT tv bs mp vF fs cg w':=by obtain⟨c0,c1,c3,hb⟩:=h.blk;refine⟨⟨c0,c1,c3,hb.ai m h.nM⟩,h.lf,h.wY.ai m h.nF,λi a b=>(h.code i a b).ai m (h.nC _ (ab b)),h.tab,h.md.step m (λi hi hF=>by have:=h.base i hF;omega),h.nM,h.nF,h.nC,h.base⟩
theorem wZ.quiet{F:Nat->Prop}{wT:tW}{tv:fa}{bs:tLN}{mp:Nat}{vF:fa}{fs:List bz}{cg:tLN}{w w':tW}(h:wZ F wT tv bs mp vF fs cg w)(m:aa af w w'):wZ F wT tv bs mp vF fs cg w':=h.ai (m.mono (λ_ _ h=>h.elim))
theorem wZ.at'{F:Nat->Prop}{wT:tW}{tv:fa}{bs:tLN}{mp:Nat}{vF:fa}{fs:List bz}{cg:tLN}{w:tW}(h:wZ F wT tv bs mp vF fs cg w)(fn slot:Nat)(x:PI)(hf:fn<eJ fs)(hx:(x,slot)∈atS 0 (jM fs fn).code):∃gF cF gC,vF=eS (eK ⟨gF,0,eL⟩) (eJ fs) cF/\w.cell? ⟨mp,2,eL⟩=eK vF/\w.cell? ⟨gF,fn*2+1,eL⟩=eK (eS (eK ⟨gC,0,eL⟩) (aU (jM fs fn).code) (aU (jM fs fn).code))/\w.cell? ⟨gF,fn*2,eL⟩=eK (eR (T (jM fs fn).name))/\∀j (hj:j<(x.ins bs).cells.size),w.cell? ⟨gC,slot*8+j,eL⟩=eK (x.ins bs).cells[j]:=by
 have hfn:jM fs fn=fs[fn]:=by unfold jM;rw[List.getD_eq_getElem?_getD,List.getElem?_eq_getElem hf];rfl
 rw[hfn]at hx ⊢;have hc:fn<eJ cg:=by rw[h.lf];exact hf
 obtain⟨c0,c1,c3,hb⟩:=h.blk;obtain⟨oF,cF,rfl,hvw⟩:=h.wY.view;obtain⟨gF,cs,rfl,hg,ht,_⟩:=hvw (by omega);obtain⟨cs2,hb2,hsz,hcs⟩:=(h.code fn hf hc).ex;have hz:fn<eJ (fs.zip cg):=by rw[cH,h.lf];omega
 have hrow:∀j,j<2->w.cell? ⟨gF,fn*2+j,eL⟩=(FV (fs[fn],cg[fn]))[j]?:=λj hj=>by rw[aV hg ht _ (by omega),jY FV 2 (fs.zip cg) (λ_ _=>rfl) fn j hz hj];simp
 refine⟨gF,cF,cg[fn],rfl,hb.cell 2,hrow 1 (by omega),hrow 0 (by omega),λj hj=>?_⟩;have hj8:j<8:=hj;have e:=hcs (x,slot) hx j hj8;simp only at e;have e2:=hb2.cell (slot*8+j);rw[e2,e]
 have:((x.ins bs).eQ)[j]?=(x.ins bs).cells[j]?:=by
  show _=((x.ins bs).eQ.toArray)[j]?
  rw[List.getElem?_toArray]
 rw[this,Array.getElem?_eq_getElem hj]
def Eg(F:Nat->Prop)(b:Nat)(fs:List bz):Prop:=∀f∈fs,∀p∈atS 0 f.code,∀(bs:tLN) (w:tW) (a:Ad) (s:aX) (f9:Fn) (c9:tAV),dX F w b a s->bT (eJ fs) s->(∀k,w.heap.size<=k->F k)->DoAt w f9 c9 (dU p.1.o.code)->OA (eJ fs) (eJ s.ms) p.1 ->
 ((dU p.1.o.code).t=1\/(dU p.1.o.code).t=2->∀w',aa af w w'->fS prog 216 #[fY (p.1.ins bs).cells,vI s.r.top.slot] w' λe w''=>e=fW (vI ((p.1.target s.r.top.slot).toNat:Nat))/\aa af w' w'') ->
 ∃k,f9=.func k/\ou k/\fS prog k (#[pt b,fY (p.1.ins bs).cells]++c9) w λe w'=>bJ F w b a (doP (dU p.1.o.code) p.1 s) e w'
def oW(fs:List bz):Prop:=∀f∈fs,∀p∈atS 0 f.code,(dU p.1.o.code).t=6->p.1.s≠1->p.1.num<4->∀s,bT (eJ fs) s->Ef (eJ fs) s
def OG(F:Nat->Prop)(w:tW)(b:Nat)(a:Ad)(fs:List bz)(mn fu:Nat)(D:Nat×aX)(q:Nat)(wx:tW):Prop :=
 ∃a1 s1,dX F wx b a1 s1/\bT (eJ fs) s1/\(s1.r.ended=fR\/Cb fs s1)/\s1.ms.length=mn/\s1.r.fuel=fu/\s1.r.used<=fu/\q=fu-s1.r.used/\followP fs (q+2) s1=D/\a1.mb=a.mb/\a1.vM=a.vM/\aa F w wx
theorem Xh(d:Us)(x:PI)(s:aX):(doP d x s).2.r.fuel=s.r.fuel/\(doP d x s).2.r.used=s.r.used:=by
 have hs:∀(r:aJ) (n:Nat) (v:MV),(r.eV n v).fuel=r.fuel/\(r.eV n v).used=r.used:=λr n v=>⟨rfl,rfl⟩
 have hss:∀(vs:List MV) (r:aJ) (n:Nat),(r.nQ n vs).fuel=r.fuel/\(r.nQ n vs).used=r.used:=λvs=>by
  induction vs with
  |nil=>intro r n;exact⟨rfl,rfl⟩
  |cons v vs ih=>intro r n;exact ih _ _
 have ha:∀(r:aJ) (v:MV),(r.answer v).fuel=r.fuel/\(r.answer v).used=r.used:=λr v=>hss _ _ _
 have hp:∀t key val,(lJ s t key val).1.r=s.r:=λt key val=>by
  unfold lJ;split
  ·rfl
  ·split<;>rfl
 have hd:∀t key,(tC s t key).1.r=s.r:=λt key=>by unfold tC;split<;>rfl
 unfold doP;split
 ·split<;>exact⟨rfl,rfl⟩
 ·split
  ·exact⟨rfl,rfl⟩
  ·split<;>exact⟨rfl,rfl⟩
 ·exact⟨rfl,rfl⟩
 ·split<;>exact⟨rfl,rfl⟩
 ·split<;>exact⟨rfl,rfl⟩
 ·exact⟨rfl,rfl⟩
 ·split
  ·split
   ·exact⟨rfl,rfl⟩
   ·exact hss _ _ _
  ·split
   ·unfold pJ;split
    ·exact⟨rfl,rfl⟩
    ·split
     ·exact⟨rfl,rfl⟩
     ·exact ha _ _
   ·split
    ·unfold nR;split
     ·exact⟨rfl,rfl⟩
     ·split
      ·exact⟨rfl,rfl⟩
      ·split
       ·exact⟨rfl,rfl⟩
       ·show((lJ _ _ _ _).1.r.answer _).fuel=_/\((lJ _ _ _ _).1.r.answer _).used=_
        rw[hp];exact ha _ _
    ·split
     ·unfold oh;split
      ·exact⟨rfl,rfl⟩
      ·split
       ·exact⟨rfl,rfl⟩
       ·show((tC _ _ _).1.r.answer _).fuel=_/\((tC _ _ _).1.r.answer _).used=_
        rw[hd];exact ha _ _
     ·unfold Kv;split
      ·exact⟨rfl,rfl⟩
      ·split
       ·exact⟨rfl,rfl⟩
       ·exact ha {s.r with log:=_} _
 ·split
  ·split<;>exact⟨rfl,rfl⟩
  ·exact ha s.r.pop _
theorem Eh(rb mb:tLN)(k:Nat)(d s:MV)(he:ou (Ip k))(hof:∀w',fS prog (Ip k) #[vU d.bits,vU s.bits,vU (64:Nat)] w' λe w''=>e=fW (vU (ofP k d.bits s.bits 64))/\w''=w')(b:Nat)(w1:tW)(hb:au w1 b #[qK (Ip k)] 282):fS prog 206 #[fY (d.cells rb mb).toArray,fY (s.cells rb mb).toArray,pt b] w1 λe w''=>e=rkE rb mb (rkP 2 k d s)/\aa af w1 w'':=by
 by_cases h1:d.so=0
 ·by_cases h2:s.so=0
  ·rw[show rkP 2 k d s=eK (dI (ofP k d.bits s.bits 64))from iP9 ⟨h1,h2⟩];exact aas w1 rb mb d s h1 h2 b _ hb _ he hof
  ·rw[show rkP 2 k d s=eL from iN9 (λh=>h2 h.2)];exact aau w1 rb mb d s h1 h2 b _ hb
 ·rw[show rkP 2 k d s=eL from iN9 (λh=>h1 h.1)];exact aat w1 rb mb d s h1 b _ hb
theorem aaA(w:tW)(rb mb:tLN)(f:Fn)(c:tAV)(k:Nat)(h:ic w f c 4 k)(d s:MV)(he:ou (Ip k))(hof:∀w',fS prog (Ip k) #[vU d.bits,vU s.bits,vU (64:Nat)] w' λe w''=>e=fW (vU (ofP k d.bits s.bits 64))/\w''=w'):Ow w rb mb f c 4 k d s:=by
 unfold ic at h;obtain⟨rfl,b,b1,b2,rfl,hb,hb1,hb2⟩:=h;refine⟨_,rfl,enters_of func274 (by kernel_rfl) rfl,λw' mm=>?_⟩;by_cases h1:d.so=2
 ·by_cases h2:s.so=0
  ·rw[show rkP 4 k d s=eK {d with bits:=ofP k d.bits s.bits 64}from(iP9 h1).trans (iP9 h2)];exact WR w' rb mb d s h1 h2 b b1 _ (hb.ai mm id) _ he hof
  ·rw[show rkP 4 k d s=eL from(iP9 h1).trans (iN9 h2)];exact WS w' rb mb d s h1 h2 b b1 _ (hb.ai mm id)
 ·rw[show rkP 4 k d s=rkP 2 k d s from iN9 h1];cases hr:rkP 2 k d s with
  |none=>exact WT w' rb mb d s h1 b b1 b2 (hb1.ai mm id) (λw2 m2=>by have:=Eh rb mb k d s he hof b2 w2 ((hb2.ai mm id).ai m2 id);rw[hr]at this;exact this)
  |some V=>exact Si w' rb mb d s h1 b b1 b2 (hb1.ai mm id) V (λw2 m2=>by have:=Eh rb mb k d s he hof b2 w2 ((hb2.ai mm id).ai m2 id);rw[hr]at this;exact this)
theorem wZ.op{F:Nat->Prop}{wT:tW}{tv:fa}{bs:tLN}{mp:Nat}{vF:fa}{fs:List bz}{cg:tLN}{w:tW}(h:wZ F wT tv bs mp vF fs cg w)(x:PI)(hx:gm x):∃bo f9 c9,(x.ins bs).op=pt bo/\∀w',ep Xg wT w'->(∀w'',aa af w' w''->w''.cell? ⟨bo,2,eL⟩=eK (vI x.o.slots))/\w'.cell? ⟨bo,2,eL⟩=eK (vI x.o.slots)/\w'.cell? ⟨bo,9,eL⟩=eK (fN f9 #[] c9)/\DoAt w' f9 c9 (dU x.o.code):=by
 have hk:=hx.k;have hlen:=h.tab.len.trans fF;have hat:=h.tab.at' x.k (by omega) (by rw[fF];exact hk);have ho:az[x.k]'(by rw[fF];exact hk)=x.o:=by unfold PI.o;rw[List.getElem?_eq_getElem (by rw[fF];exact hk)];rfl
 rw[ho]at hat;obtain⟨o1,n1,c1,f6,c6,k7,c7,k8,c8,f9,c9,hb,hs⟩:=hat.ex;refine⟨bs[x.k]'(by omega),f9,c9,?_,λw' m=>⟨λw'' m2=>((hb.cK m (by decide)).ai m2 id).cell 2,?_,?_,hs.dn.blk (λ_ _ t ht h=>h.cK m ((show ∀t∈PJ,t ∉ Xg by decide) t ht))⟩⟩
 ·show Value.pointer (eK ⟨bs[x.k]?.getD 0,0,eL⟩)=_
  rw[List.getElem?_eq_getElem (by omega)];rfl
 ·exact(hb.cK m (by decide)).cell 2
 ·exact(hb.cK m (by decide)).cell 9
theorem aa.Nn{w W:tW}{o:Obj}(m:aa (Only w.heap.size) (w.alloc o) W):aa af w W:=((aa.refl af w).alloc o).step m (λi hi e=>by have e':i=w.heap.size:=e;omega)
theorem mE(fs:List bz)(n:Nat)(s:aX)(he:s.r.ended=fj):followP fs (n+1) s=if(fJ fs s).1=0 then followP fs n (fJ fs s).2 else fJ fs s:=by
 show(if s.r.ended then _ else _)=_
 rw[he];rfl
def acs:tAV:=#[vO,vB 0,vB 0,.int .i16 0,vJ 0,vJ 0,eR ⟨#[]⟩,eR ⟨#[]⟩]
theorem DoAt.fn{w:tW}{f:Fn}{c:tAV}{d:Us}(h:DoAt w f c d):∃k,f=.func k/\ou k:=by
 unfold DoAt at h;split at h
 ·exact⟨_,h.1,enters_of func204 (by kernel_rfl) rfl⟩
 ·exact⟨_,h.1,enters_of func230 (by kernel_rfl) rfl⟩
 ·exact⟨_,h.1,enters_of func118 (by kernel_rfl) rfl⟩
 ·exact⟨_,h.1,enters_of func233 (by kernel_rfl) rfl⟩
 ·exact⟨_,h.1,enters_of func235 (by kernel_rfl) rfl⟩
 ·exact⟨_,h.1,enters_of func127 (by kernel_rfl) rfl⟩
 ·exact⟨_,h.1,enters_of func131 (by kernel_rfl) rfl⟩
 ·exact⟨_,h.1,enters_of func132 (by kernel_rfl) rfl⟩
theorem Np{F:Nat->Prop}(w:tW)(b:Nat)(a:Ad)(s:aX)(fs:List bz)(h:dX F w b a s)(ho:bT (eJ fs) s)(YD:s.r.ended=fR\/Cb fs s)(hF:∀k,w.heap.size<=k->F k)(hu:s.r.used<=s.r.fuel)(hfu:s.r.fuel<=5000)(hco:lK fs (eJ s.ms))(wT:tW) (tv:fa) (bs:tLN) (mp:Nat) (vF:fa) (cg:tLN) (hC:wZ F wT tv bs mp vF fs cg w) (hH:Eg F b fs) (hK:oW fs):fS prog 33 #[pt mp,pt b] w λe w'=>bJ F w b a (followP fs (s.r.fuel-s.r.used+2) s) e w':=by
 have HC:=aq hC;have QP:=aq hco;have HH:=aq hH;have HK:=aq hK;have HF:=aq hF;have gq:ah (OG F w b a fs (eJ s.ms) s.r.fuel (followP fs (s.r.fuel-s.r.used+2) s) (s.r.fuel-s.r.used) w):=⟨a,s,h,ho,YD,rfl,rfl,hu,rfl,rfl,rfl,rfl,ax⟩
 have HFU:=aq hfu;clear h ho YD hF hu hfu hco hC hH hK;generalize followP fs (s.r.fuel-s.r.used+2) s=D at *;generalize s.r.fuel-s.r.used=N at *;generalize s.r.fuel=fu at *;generalize eJ s.ms=mn at *;clear s;generalize hPP:(λe w'=>bJ F w b a D e w')=PP;have HPP:ah (∀e w',bJ F w b a D e w'->PP e w'):=λe w' hd=>by rw[<-hPP];exact hd
 clear hPP;go_in;go_wp2_with fail;go_loopg [9] N (λq v9 wx=>OG F w b a fs mn fu D q wx)
 case atStart=>exact gq.o
 case round =>
  obtain⟨a1,s1,hS,hO,hP,hm,hf,hu,hq,hD,e1,e2,hM⟩:=hrel;have HS:=aq hS;have HO:=aq hO;have HM:=aq hM;have GW:ah (a1.mb=a.mb/\a1.vM=a.vM):=⟨e1,e2⟩
  clear hS hO hM e1 e2 gq;have nu:ah (fS prog 58 #[pt b] wr λe w'=>e=fW (fX s1.r.ended)/\aa af wr w'):=R4 wr b a1.rb a1.mb a1.vM a1.vC a1.vL s1.r HS.o.run;by_cases he:s1.r.ended=fR
  ·have QO:ah (∀w',aa af wr w'->PP (fW (jl #[])) w'):=λw' m=>HPP.o _ _ (by
    have e0:D=(0,s1):=by rw[<-hD];show(if s1.r.ended then _ else _)=_;rw[iP9 he]
    rw[e0];exact⟨rfl,HM.o.trans (m.mono (λ_ _ h=>h.elim)),a1,HS.o.quiet m,GW.o.1,GW.o.2⟩)
   rw[he]at nu;clear he hP hm hf hu hq hD HS HO HM GW HC QP HH HF HFU HPP;go_wp2_with fail;refine nu.o.mono ?_;rintro e w1 ⟨rfl,m1⟩;have HF1:=aq (QO.o w1 m1);clear QO m1;go_wp2_with fail;go_end0;exact HF1.o
  ·have he':s1.r.ended=fj:=by simpa using he
   rw[he']at nu;have YD:=hP.elim (λe=>absurd e he) id;have HPC:=aq YD;have hfn:=HO.o.top.fn;have hmem:=vH fs _ hfn;have hat:=vK fs _ _ YD.at';have H9:ah _:=QP.o.ins _ hmem _ hat;have HAT:ah ((s1.ins fs,s1.r.top.slot)∈atS 0 (jM fs s1.r.top.fn).code):=hat;have agk:s1.r.top.slot+(s1.ins fs).o.slots<=aU (jM fs s1.r.top.fn).code:=by have:=MU _ 0 _ hat;simp only at this;have e:(AY fs s1.r.top.fn s1.r.top.slot)=s1.ins fs:=rfl;rw[e]at this;omega
   have hsl1:1<=(s1.ins fs).o.slots:=by rcases H9.o.2.1.slots with e|e<;>(have e':(s1.ins fs).o.slots=_:=e;omega)
   have hlen:=QP.o.len _ hmem;have Rp:=aq (λw' (m:aa F wr w')=>(HC.o.ai HM.o).ai m);obtain⟨bo,f9,c9,hop,hOp⟩:=HC.o.op (s1.ins fs) H9.o.2.1;obtain⟨k9,hk9,en9⟩:=(hOp w HC.o.md).2.2.2.fn;subst hk9;have HN:=aq (λw' k (m:aa F wr w') (hk:w'.heap.size<=k)=>HF.o k (dr HM.o.size (dr m.size hk)));have BU:=aq (λw' m=>hOp w' (Rp.o w' m).md);have aeo:ah (∀w',aa af wr w'->fS prog 57 #[pt b] w' λe w''=>e=fW (jl #[vI s1.r.top.fn,vI s1.r.top.slot])/\aa af w' w''):=λw' m=>yA w' b a1.rb a1.mb a1.vM a1.vC a1.vL s1.r (HS.o.run.quiet m) HO.o.pos;have HCA:=aq (λw' m=>(Rp.o w' m).at' _ _ _ hfn HAT.o);have HTG:ah (∀w' w'',aa F wr w'->aa af w' w''->(dU (s1.ins fs).o.code).t=1\/(dU (s1.ins fs).o.code).t=2->fS prog 216 #[fY ((s1.ins fs).ins bs).cells,vI s1.r.top.slot] w'' λe w3=>e=fW (vI (((s1.ins fs).target s1.r.top.slot).toNat:Nat))/\aa af w'' w3):=λw' w'' m m' h12=>by have hA:=(BU.o w'' (m.trans (m'.mono (λ_ _ h=>h.elim)))).1;have h0:0<=(s1.ins fs).target s1.r.top.slot:=(H9.o.2.2.1 h12).1;have:=Bt w'' bo (s1.ins fs).o.slots hA (s1.ins fs).d (s1.ins fs).s (s1.ins fs).num (s1.ins fs).high (s1.ins fs).jump ByteArray.empty (T (s1.ins fs).name) s1.r.top.slot (by omega) (by have:=RQ _ H9.o.2.1;have e:(AY fs s1.r.top.fn s1.r.top.slot).o.slots=(s1.ins fs).o.slots:=rfl;simp only at this;omega) H9.o.1.j;rw[Int.toNat_of_nonneg h0];unfold dM.cells;rw[hop];exact this
   have Tw:ah (s1.r.used=fu->∀w',aa af wr w'->fS prog 59 #[pt b,vI (s1.ins fs).o.slots] w' λe w''=>e=bG 1/\aa af w' w''):=λe w' m=>R6 w' b a1.rb a1.mb a1.vM a1.vC a1.vL s1.r (HS.o.run.quiet m) _ (by omega);have KX:ah (s1.r.used≠fu->∀w',aa af wr w'->fS prog 59 #[pt b,vI (s1.ins fs).o.slots] w' λe w''=>e=fW (jl #[])/\(dX F w'' b a1 (s1.begin (s1.ins fs).o.slots)/\aa F w' w'')/\aa (λk=>k=b\/Own a1.vC k) w' w''):=λe w' m=>by have agB:=HFU.o;exact(R7 w' b a1.rb a1.mb a1.vM a1.vC a1.vL s1.r (HS.o.run.quiet m) HO.o.pos (s1.ins fs).o.slots (by omega) (by omega) (by omega)).mono (λe2 w'' hh=>⟨hh.1,(HS.o.quiet m).WQ hh.2.2 _ hh.2.1 rfl,hh.2.2⟩)
   have HTY:=aq (λw' (m:aa af wr w')=>(HS.o.quiet m).abm);have hOb:=HO.o.begin (s1.ins fs).o.slots;have Ir:ah (∀w',aa F wr w'->dX F w' b a1 (s1.begin (s1.ins fs).o.slots)->fS prog k9 (#[pt b,fY ((s1.ins fs).ins bs).cells]++c9) w' λe w''=>bJ F w' b a1 (s1.did fs) e w''):=λw' m hst=>by have hbt:=F6 s1 HO.o.pos (s1.ins fs).o.slots;obtain⟨k',hk',_,hcall⟩:=HH.o _ hmem _ hat bs w' a1 _ (.func k9) c9 hst hOb (λk hk=>HN.o w' k m hk) (BU.o w' m).2.2.2 (by have:=H9.o.1;rw[<-hm]at this;exact this) (λh12 w'' m'=>by rw[hbt];exact HTG.o w' w'' m m' h12);injection hk' with hk';subst hk';exact hcall
   have HKP:ah (s1.r.used≠fu->(s1.did fs).1=0->∀w5 a5,aa F wr w5->dX F w5 b a5 (s1.did fs).2.dG->a5.mb=a1.mb->a5.vM=a1.vM->OG F w b a fs mn fu D (gk-1) w5):=λhne h0 w5 a5 m5 h5 em ev=>by
    obtain⟨ks,km⟩:=Nl hOb (by exact hm) (s1.ins fs) H9.o.1 (λh6 h1 h4=>HK.o _ hmem _ hat h6 h1 h4 _ hOb);have acu:=Xd (by rw[hm];exact QP.o) HO.o YD he' h0;obtain⟨fu1,fu2⟩:=Xh (dU (s1.ins fs).o.code) (s1.ins fs) (s1.begin (s1.ins fs).o.slots);have ku:(s1.did fs).2.dG.r.used=s1.r.used+1:=fu2;have kf:(s1.did fs).2.dG.r.fuel=s1.r.fuel:=fu1;refine⟨a5,(s1.did fs).2.dG,h5,bT.dG ks,?_,km,by rw[kf];exact hf,by rw[ku];omega,by rw[ku];omega,?_,em.trans GW.o.1,ev.trans GW.o.2,HM.o.trans m5⟩
    ·rcases acu with hd|hd
     ·exact .inl hd
     ·exact .inr (Cb.of ks.pos hd)
    ·rw[<-hD,show gk-1+2=gk+1 by omega,show gk+2=(gk+1)+1 by omega,mE fs _ _ he'];have em:fJ fs s1=(0,(s1.did fs).2.dG):=by unfold fJ;rw[iN9 (by omega),iP9 h0]
     rw[em,iP9 rfl]
   have Zv:ah (∀w5,aa F wr w5->(s1.r.used=fu->dX F w5 b a1 s1->PP (bG 1) w5)/\(s1.r.used≠fu->(s1.did fs).1≠0->∀a5,dX F w5 b a5 (s1.did fs).2->a5.mb=a1.mb->a5.vM=a1.vM->PP (bG (s1.did fs).1) w5)):=λw5 m5=>by
    refine⟨λhE h5=>HPP.o _ _ ?_,λhne h0 a5 h5 em ev=>HPP.o _ _ ?_⟩
    ·have eD:D=(1,s1):=by
      rw[<-hD,show gk+2=(gk+1)+1 by omega,mE fs _ _ he'];have em:fJ fs s1=(1,s1):=by unfold fJ;rw[iP9 (by omega)]
      rw[em];rfl
     rw[eD];exact⟨rfl,HM.o.trans m5,a1,h5,GW.o.1,GW.o.2⟩
    ·have eD:D=s1.did fs:=by
      rw[<-hD,show gk+2=(gk+1)+1 by omega,mE fs _ _ he'];have em:fJ fs s1=s1.did fs:=by unfold fJ;rw[iN9 (by omega),iN9 h0]
      rw[em,iN9 h0]
     rw[eD];exact⟨(iN9 h0).symm,HM.o.trans m5,a5,h5,em.trans GW.o.1,ev.trans GW.o.2⟩
   have afZ:ah (0<eJ (s1.did fs).2.r.calls):=(Nl hOb (by exact hm) (s1.ins fs) H9.o.1 (λh6 h1 h4=>HK.o _ hmem _ hat h6 h1 h4 _ hOb)).1.pos;have jI:ah (((s1.ins fs).ins bs).cells=#[pt bo,vB (s1.ins fs).d,vB (s1.ins fs).s,.int .i16 (s1.ins fs).jump,vJ (s1.ins fs).num,vJ (s1.ins fs).high,eR ByteArray.empty,eR (T (s1.ins fs).name)]):=by unfold ah dM.cells;rw[hop];rfl
   clear hop hOp hD hf Rp HC QP HH HK HF HFU HPP H9 HAT HPC hOb hmem hat YD hP he HTG HN GW HM HO hm;unfold ou at en9;generalize s1.did fs=dd at *;generalize hxx:s1.ins fs=x at *;clear hxx;generalize s1.begin x.o.slots=sb at *;generalize aU (jM fs s1.r.top.fn).code=nS at *;generalize(jM fs s1.r.top.fn).name=nm at *;generalize s1.r.top.fn=fn at *;generalize s1.r.top.slot=sl at *;generalize x.o.slots=xs at *;go_wp2_with fail;refine nu.o.mono ?_;rintro e w1 ⟨rfl,m1⟩;have M1:=aq m1;clear m1 nu;go_wp2_with fail;refine(aeo.o _ M1.o).mono ?_;rintro e w2 ⟨rfl,m2⟩;have M2:=aq (M1.o.trans m2);clear m2 M1 aeo;obtain⟨gF,cF,gC,kC,y1,y2,_,y3⟩:=HCA.o w2 (M2.o.mono (λ_ _ h=>h.elim));subst kC;have HY3:=aq y3;have TH:ah ((x.ins bs).cells.size=8):=rfl;have Bk:ah ((x.ins bs).cells.all (·.oneCell')=fR):=by unfold ah;rw[jI.o];simp[Value.oneCell']
   have HB2:=aq (au.new w2 acs 138);have HZI:ah (acs=#[vO,vB 0,vB 0,.int .i16 0,vJ 0,vJ 0,eR ⟨#[]⟩,eR ⟨#[]⟩]):=rfl;clear y3 HCA;generalize hcs:(x.ins bs).cells=cs at *;clear hcs;have hY3:=HY3.o;go_upto_region 3 with(first |(refine AX rfl 138 (.tmp 24) rfl gC (sl*8) rfl cs _ HY3.o underlying138 rfl (by rw[TH.o];kernel_rfl) ?_) |(rw[<-HZI.o];refine eP rfl 138 (.tmp 6) (.tmp 25) rfl w2.heap.size cs rfl rfl 138 _ HB2.o (by rw[TH.o];kernel_rfl) (by rw[TH.o];rfl) Bk.o ?_;intro W3 hB3 yK))
   have M3:=aq (M2.o.trans yK.Nn);rw[jI.o]at hB3;have HB3:=aq hB3;clear hB3 yK HB2 M2 HY3 hY3 Bk TH HZI y1 y2;generalize w2.heap.size=gI at *;simp only[Act.put];obtain⟨_,o2,_,_⟩:=BU.o W3 (M3.o.mono (λ_ _ h=>h.elim));have z0:=HB3.o.cell 0;by_cases hE:s1.r.used=fu
   ·have G7:=aq (Tw.o hE _ M3.o);have HT1:=aq (λw' m=>(Zv.o w' (m.mono (λ_ _ h=>h.elim))).1 hE (HS.o.quiet m));clear Tw KX Ir HKP Zv BU HS hE;go_wp2_with fail;refine G7.o.mono ?_;rintro e w4 ⟨rfl,m4⟩;exact⟨rfl,HT1.o w4 (M3.o.trans m4)⟩
   ·have G7:=aq (KX.o hE _ M3.o);have af0:=aq (HKP.o hE);have af1:=aq (λw5 m5 h0=>(Zv.o w5 m5).2 hE h0);have hgk:0<gk:=by omega
    clear Tw KX HKP Zv HS hu;go_wp2_with fail;refine G7.o.mono ?_;rintro e w4 ⟨rfl,⟨hS4,m4⟩,m4'⟩;have HS4:=aq hS4;have M4:=aq ((M3.o.mono (λ_ _ h=>h.elim)).trans m4);have iH:=aq (HB3.o.cK (ep.of m4' (HTY.o W3 M3.o)) (by decide));clear hS4 m4 m4' G7 HB3 M3 HTY o2 z0;have o9:=λ(e:Ext af w4)=>(BU.o e.w (M4.o.trans (e.m.mono (λ_ _ h=>h.elim)))).2.2.1;have z0:=λ(e:Ext af w4)=>(iH.o.ai e.m id).c0;have z1:=λ(e:Ext af w4)=>(iH.o.ai e.m id).c1;have z2:=λ(e:Ext af w4)=>(iH.o.ai e.m id).c2;have z3:=λ(e:Ext af w4)=>(iH.o.ai e.m id).c3;have z4:=λ(e:Ext af w4)=>(iH.o.ai e.m id).c4;have z5:=λ(e:Ext af w4)=>(iH.o.ai e.m id).c5;have z6:=λ(e:Ext af w4)=>(iH.o.ai e.m id).c6;have z7:=λ(e:Ext af w4)=>(iH.o.ai e.m id).c7
    haveI:Nonempty (Ext af w4):=Ext.ne _ _
    have HDX:=aq (λw' m=>by have:=Ir.o w' (M4.o.trans (m.mono (λ_ _ h=>h.elim))) (HS4.o.quiet m);rw[jI.o]at this;exact this);clear Ir BU HS4;go_upto_region 4 with fail;refine bY 7 [] (λw'=>∃e:Ext af w4,w'=e.w) (by kernel_rfl) (by kernel_rfl) ⟨⟨_,aN⟩,rfl⟩ ?_;simp only[ao,bt,ar,b5]
    iterate 2 (refine aG rfl rfl rfl ?_;intro K' hK;go_big_quiet_op;go_big_quiet_on)
    refine dL rfl rfl _ ⟨bo,0,eL⟩ rfl rfl ?_;simp only[Act.put,sA9,sB9,sC9]
    iterate 4 (refine aG rfl rfl rfl ?_;intro K' hK;go_big_quiet_op;go_big_quiet_on)
    refine bZ ?_;clear o9 z0 z1 z2 z3 z4 z5 z6 z7;go_wp2_with fail;refine(HDX.o _ aN).mono ?_;rintro e w6 ⟨he6,m6,a6,hS6,em6,ev6⟩;have M6:=aq (M4.o.trans ((((aa.refl af w4).drew).mono (λ_ _ h=>h.elim)).trans m6));by_cases h0:dd.1=0
    ·rw[iP9 h0]at he6;subst he6;have HNX:ah (fS prog 60 #[pt b] w6 λe w'=>e=fW (jl #[])/\OG F w b a fs mn fu D (gk-1) w'):=by refine(Wx w6 b a6.rb a6.mb a6.vM a6.vC a6.vL dd.2.r hS6.run afZ.o).mono (λe w' hh=>⟨hh.1,?_⟩);obtain⟨k1,k2⟩:=hS6.vD hh.2.2 _ hh.2.1 rfl;exact af0.o h0 w' a6 (M6.o.trans k2) k1 em6 ev6
     clear M6 m6 hS6 em6 ev6 HDX iH M4;go_wp2_with fail;refine HNX.o.mono ?_;rintro e w7 ⟨rfl,hr7⟩;have YE:=aq hr7;clear hr7 HNX;go_wp2_with fail;go_roundg (gk-1)
     case measure=>omega
     case rel=>exact YE.o
    ·rw[iN9 h0]at he6;subst he6;exact⟨rfl,af1.o w6 M6.o h0 a6 hS6 em6 ev6⟩
abbrev muL:Go.Conc.Locks.MuLink:={lock:=26,unlock:=27,ilock:=51,iunlock:=52,lockSlow:=91,unlockSlow:=94,disable:=87,enable:=89,acquire:=90,relMerge:=92,cas32:=88,add32:=93,tMutex:=67,tIMutex:=65,tPMutex:=119,tPIMutex:=181,tPI32:=183,tUP:=185,tNoCopy:=63,tU32:=37}
theorem KC:Go.Conc.Locks.MuLib prog muL :=
 ⟨func26,func27,func51,func52,func87,func89,func90,func92,func88,func93,underlying65,runUnderlying65,sizeOf65,isAgg65,zeroValue65,underlying67,runUnderlying67,sizeOf67,isAgg67,zeroValue67,underlying119,runUnderlying119,sizeOf119,isAgg119,zeroValue119,underlying181,runUnderlying181,sizeOf181,isAgg181,zeroValue181,underlying183,runUnderlying183,sizeOf183,isAgg183,zeroValue183,underlying185,runUnderlying185,sizeOf185,isAgg185,zeroValue185,underlying63,runUnderlying63,sizeOf63,isAgg63,zeroValue63,underlying21,runUnderlying21,sizeOf21,isAgg21,zeroValue21,(by kernel_rfl)⟩
theorem SB(w:tW):(rv 30 9 (vN)).run prog w=.ok (eR (strOf [])) w:=by rw[run_convert_bytes_string w 30 9 5 eL 0 0 underlying30 underlying5 underlying9];rfl
theorem KE{w:tW}{v:fa}{n:Nat}{l:tLN}(h:mD w v n l)(hb:∀x∈l,x<256):∃o cap,v=eS o n cap/\(rv 30 9 v).run prog w=.ok (eR (strOf l)) w:=by
 have h0:=h;rcases h.2 with⟨rfl,rfl⟩ |⟨g,cap,cur,lo,hi,rfl,hg,_⟩
 ·have :=List.length_eq_zero_iff.1 h.1;subst this;exact⟨_,_,rfl,SB w⟩
 ·exact⟨_,_,rfl,rZ w g n cap l hb h0⟩
theorem F8{F:Nat->Prop}{w:tW}{b:Nat}{a:Ad}{s:aX}{fn:Nat}(h:dX F w b a s)(ho:bT fn s):fS prog 34 #[pt b] w λe w'=>e=fW (fY #[vI 0,eR ByteArray.empty,vI 0,vU s.r.r0,eR (strOf (s.gs.getD s.r.inp [])),a.vL,vI s.r.used])/\aa af w w':=by
 obtain⟨oL,cL,MH,_⟩:=h.log.view;obtain⟨o,cap,hv,_⟩:=KE (h.kL.sl _ ho.inp) (ho.gs.at _ ho.inp).2
 have HH:ah (∀w',aa af w w'->aI w' b a.rb a.mb a.vM a.vC a.vL s.r/\au w' (a.rb.getD s.r.inp 0) #[eS o (eJ (s.gs.getD s.r.inp [])) cap] 122/\(rv 30 9 (eS o (eJ (s.gs.getD s.r.inp [])) cap)).run prog w'=.ok (eR (strOf (s.gs.getD s.r.inp []))) w'):=λw' m=>by
  have h':=h.quiet m;refine⟨h'.run,?_,?_⟩
  ·rw[<-hv];exact h'.kL.blk _ ho.inp
  ·obtain⟨o2,c2,hv2,hc2⟩:=KE (h'.kL.sl _ ho.inp) (ho.gs.at _ ho.inp).2;rw[<-hv];exact hc2
 rw[MH]at HH ⊢;clear h ho hv MH;generalize strOf (s.gs.getD s.r.inp [])=str at *;generalize(s.gs.getD s.r.inp []).length=n at *;generalize eJ s.r.log=nL at *;go_in;go_upto_region 1 with fail;have fK:ah (aa af w (w.alloc (fL #[vI 0,eR ⟨#[]⟩,vI 0,vU 0,eR ⟨#[]⟩,vN,vI 0] 34)).drew):=aw.drew;have tF:ah (au (w.alloc (fL #[vI 0,eR ⟨#[]⟩,vI 0,vU 0,eR ⟨#[]⟩,vN,vI 0] 34)).drew w.heap.size #[vI 0,eR ⟨#[]⟩,vI 0,vU 0,eR ⟨#[]⟩,vN,vI 0] 34):=(au.new w _ _).ai (aa.refl af _).drew id;refine bK 21 (by kernel_rfl) (by kernel_rfl) ?_;intro W hW;rw[<-hW]at fK tF;clear hW;obtain⟨hr,hg,hcv⟩:=HH.o W fK.o;have x1:=hr.blk.c1;have x4:=hr.blk.c4;have x5:=hr.blk.c5;have x6:=hr.blk.c6;have y0:=hg.c0;clear hr hg HH;generalize a.rb.getD s.r.inp 0=R at *;simp only[ao,bt,ar,b5]
 repeat(go_big_quiet_step (fail))
 refine wpQuiet_nil ?_;have z0:=tF.o.cell 0;have z1:=tF.o.cell 1;have z2:=tF.o.cell 2;have z3:=tF.o.cell 3;have z4:=tF.o.cell 4;have z5:=tF.o.cell 5;have z6:=tF.o.cell 6;have zf:=tF.o.frozen;clear x1 x4 x5 x6 y0 hcv;go_wp2_with fail;refine kx (mL results34 _ _ w.heap.size 34 _ (0,0) _ rfl (((((((tF.o.set 0 _).set 1 _).set 2 _).set 3 _).set 4 _).set 5 _).set 6 _) underlying34 rfl (by kernel_rfl)) rfl ⟨rfl,?_⟩;have q:∀{X:tW} (i:Nat) (u:fa),aa af w X->aa af w (X.setCell ⟨w.heap.size,i,eL⟩ u):=λi u m=>m.set (a:=⟨w.heap.size,i,eL⟩) (Or.inr (Nat.le_refl _)) u;exact q 6 _ (q 5 _ (q 4 _ (q 3 _ (q 2 _ (q 1 _ (q 0 _ fK.o))))))
theorem Nq{F:Nat->Prop}{w:tW}{b:Nat}{a:Ad}{s:aX}{fs:List bz}(h:dX F w b a s)(ho:bT (eJ fs) s){wT:tW}{tv:fa}{bs:tLN}{mp:Nat}{vF:fa}{cg:tLN}(hC:wZ F wT tv bs mp vF fs cg w)(t:Nat):fS prog 32 #[pt mp,pt b,vI t] w λe w'=>e=fW (fY #[vI t,eR (T (jM fs s.r.top.fn).name),vI s.r.top.slot,vU s.r.r0,eR (strOf (s.gs.getD s.r.inp [])),a.vL,vI s.r.used])/\aa af w w':=by
 obtain⟨oL,cL,MH,_⟩:=h.log.view;have hfn:=ho.top.fn;have IQ:=aq (λw' (m:aa af w w')=>F8 (h.quiet m) ho);have Ve:ah (∀w',aa af w w'->fS prog 57 #[pt b] w' λe w''=>e=fW (jl #[vI s.r.top.fn,vI s.r.top.slot])/\aa af w' w''):=λw' m=>yA w' b a.rb a.mb a.vM a.vC a.vL s.r (h.run.quiet m) ho.pos
 have HCA:ah (∀w',aa af w w'->∃gF cF,vF=eS (eK ⟨gF,0,eL⟩) (eJ fs) cF/\w'.cell? ⟨mp,2,eL⟩=eK vF/\w'.cell? ⟨gF,s.r.top.fn*2,eL⟩=eK (eR (T (jM fs s.r.top.fn).name))):=λw' m=>by
  have O7:=hC.quiet m;have af2:jM fs s.r.top.fn=fs[s.r.top.fn]:=by unfold jM;rw[List.getD_eq_getElem?_getD,List.getElem?_eq_getElem hfn];rfl
  rw[af2];obtain⟨c0,c1,c3,hb⟩:=O7.blk;obtain⟨oF,cF,rfl,hvw⟩:=O7.wY.view;obtain⟨gF,cs,rfl,hg,ht,_⟩:=hvw (by omega);have hz:s.r.top.fn<eJ (fs.zip cg):=by rw[cH,O7.lf];omega
  refine⟨gF,cF,rfl,hb.cell 2,?_⟩;have:w'.cell? ⟨gF,s.r.top.fn*2+0,eL⟩=(FV ((fs.zip cg)[s.r.top.fn]))[0]?:=by rw[aV hg ht _ (by omega),jY FV 2 (fs.zip cg) (λ_ _=>rfl) s.r.top.fn 0 hz (by omega)]
  rw[Nat.add_zero]at this;rw[this];simp[FV]
 rw[MH]at IQ ⊢;clear h ho hC MH;generalize strOf (s.gs.getD s.r.inp [])=str at *;generalize eJ s.r.log=nL at *;generalize T (jM fs s.r.top.fn).name=nm at *;generalize s.r.top.fn=fn at *;generalize s.r.top.slot=sl at *;have eW:ah (aa af w (w.alloc (fL #[vI 0,eR ⟨#[]⟩,vI 0,vU 0,eR ⟨#[]⟩,vN,vI 0] 34))):=aw;have HB0:=aq (au.new w #[vI 0,eR ⟨#[]⟩,vI 0,vU 0,eR ⟨#[]⟩,vN,vI 0] 34);go_in;go_upto_region 1 with fail;generalize w.alloc (fL #[vI 0,eR ⟨#[]⟩,vI 0,vU 0,eR ⟨#[]⟩,vN,vI 0] 34)=W0 at *;go_wp2_with fail;refine(IQ.o _ eW.o).mono ?_;rintro e w1 ⟨rfl,m1⟩;have bU:=aq (eW.o.trans m1);have HB1:=aq (HB0.o.ai m1 id);clear m1 HB0 eW IQ;have Bk:ah ((#[vI 0,eR ByteArray.empty,vI 0,vU s.r.r0,eR str,eS oL nL cL,vI s.r.used]:tAV).all (·.oneCell')=fR):=by unfold ah;simp[Value.oneCell']
 have HB2:=aq (au.new w1 #[vI 0,eR ⟨#[]⟩,vI 0,vU 0,eR ⟨#[]⟩,vN,vI 0] 34);go_wp2_with (refine eP rfl 34 (.tmp 7) (.tmp 11) rfl w1.heap.size _ rfl rfl 34 _ HB2.o (by kernel_rfl) rfl Bk.o ?_;intro W3 hB3 yK);have dF:=aq (bU.o.trans yK.Nn);have HB3:=aq hB3;have aep:=aq (HB1.o.ai yK.Nn id);have HGL:ah (w1.heap.size<W3.heap.size/\w.heap.size<w1.heap.size):=⟨hB3.lt,HB1.o.lt⟩
 clear hB3 yK HB2 HB1 Bk bU;generalize w1.heap.size=gR at *;refine(Ve.o _ dF.o).mono ?_;rintro e w4 ⟨rfl,m4⟩;have gG:=aq (dF.o.trans m4);have iH:=aq (HB3.o.ai m4 id);have abn:=aq (aep.o.ai m4 id);clear m4 HB3 aep dF Ve;go_upto_region 3 with fail;have HMe:ah (∀e:Ext (Only gR) w4,aa af w e.w):=λe=>gG.o.step e.m (λi hi he=>by have h1:i=gR:=he;have h2:=HGL.o.2;omega);obtain⟨gF,cF,kC,_,_⟩:=HCA.o w4 gG.o;subst kC;have y1:∀e:Ext (Only gR) w4,e.w.cell? ⟨mp,2,eL⟩=eK (eS (eK ⟨gF,0,eL⟩) (eJ fs) cF):=λe=>by obtain⟨g',c',h1,h2,_⟩:=HCA.o e.w (HMe.o e);exact h2
 have y2:∀e:Ext (Only gR) w4,e.w.cell? ⟨gF,fn*2,eL⟩=eK (eR nm):=λe=>by obtain⟨g',c',h1,_,h3⟩:=HCA.o e.w (HMe.o e);cases h1;exact h3
 haveI:Nonempty (Ext (Only gR) w4):=Ext.ne _ _
 have EB:ah (gR≠w.heap.size):=λe=>by have:=HGL.o.2;omega
 have tF:=aq (iH.o.ai (aa.refl af _).drew id);have HBe:=aq (abn.o.ai (aa.refl af _).drew id);have fK:=aq gG.o.drew;clear HCA HMe iH abn;refine bQ [11,13,15] (λw'=>∃e:Ext (Only gR) w4,w'=e.w) (by kernel_rfl) (by kernel_rfl) (by kernel_rfl) ⟨⟨_,aN⟩,rfl⟩ ?_
 iterate 2 (refine aG rfl rfl rfl ?_;intro K' hK;go_big_quiet_op;go_big_quiet_on)
 refine dL rfl rfl _ ⟨mp,0,eL⟩ rfl rfl ?_;simp only[Act.put,sA9,sB9,sC9]
 iterate 8 (refine aG rfl rfl rfl ?_;intro K' hK;go_big_quiet_op;go_big_quiet_on)
 have E0:ah (aa (Only gR) w4 w4.drew):=aN;have z0:=tF.o.cell 0;have f0:=tF.o.frozen;refine aH rfl rfl ?_;intro K' hK;go_big_op;refine hK _ _ rfl ⟨⟨_,E0.o.bA 0 _⟩,rfl⟩ ?_;clear hK K' z0 f0
 try simp only[Act.put,sA9,sB9,sC9]
 have G0:ah (au ((w4.setCell ⟨gR,0,eL⟩ (vI t)).drew) gR #[vI t,eR ByteArray.empty,vI 0,vU s.r.r0,eR str,eS oL nL cL,vI s.r.used] 34):=tF.o.set 0 _;have H0:ah (au ((w4.setCell ⟨gR,0,eL⟩ (vI t)).drew) w.heap.size #[vI 0,eR ⟨#[]⟩,vI 0,vU 0,eR ⟨#[]⟩,vN,vI 0] 34):=HBe.o.setOther (a:=⟨gR,0,eL⟩) EB.o _;have J0:ah (aa af w ((w4.setCell ⟨gR,0,eL⟩ (vI t)).drew)):=fK.o.set (a:=⟨gR,0,eL⟩) (.inr (by have:=HGL.o.2;simp only;omega)) _;have E1:ah (aa (Only gR) w4 ((w4.setCell ⟨gR,0,eL⟩ (vI t)).drew)):=E0.o.bA 0 _;clear tF HBe fK E0;generalize(w4.setCell ⟨gR,0,eL⟩ (vI t)).drew=V1 at *
 iterate 1 (refine aG rfl rfl rfl ?_;intro K' hK;go_big_quiet_op;go_big_quiet_on)
 have z1:=G0.o.cell 1;have f1:=G0.o.frozen;refine aH rfl rfl ?_;intro K' hK;go_big_op;refine hK _ _ rfl ⟨⟨_,E1.o.bA 1 _⟩,rfl⟩ ?_;clear hK K' z1 f1
 try simp only[Act.put,sA9,sB9,sC9]
 have G1:ah (au (V1.setCell ⟨gR,1,eL⟩ (eR nm)) gR #[vI t,eR nm,vI 0,vU s.r.r0,eR str,eS oL nL cL,vI s.r.used] 34):=G0.o.set 1 _;have H1:ah (au (V1.setCell ⟨gR,1,eL⟩ (eR nm)) w.heap.size #[vI 0,eR ⟨#[]⟩,vI 0,vU 0,eR ⟨#[]⟩,vN,vI 0] 34):=H0.o.setOther (a:=⟨gR,1,eL⟩) EB.o _;have J1:ah (aa af w (V1.setCell ⟨gR,1,eL⟩ (eR nm))):=J0.o.set (a:=⟨gR,1,eL⟩) (.inr (by have:=HGL.o.2;simp only;omega)) _;have E2:ah (aa (Only gR) w4 (V1.setCell ⟨gR,1,eL⟩ (eR nm))):=E1.o.bA 1 _;clear G0 H0 J0 E1;generalize V1.setCell ⟨gR,1,eL⟩ (eR nm)=V2 at *
 iterate 1 (refine aG rfl rfl rfl ?_;intro K' hK;go_big_quiet_op;go_big_quiet_on)
 have z2:=G1.o.cell 2;have f2:=G1.o.frozen;refine aH rfl rfl ?_;intro K' hK;go_big_op;refine hK _ _ rfl ⟨⟨_,E2.o.bA 2 _⟩,rfl⟩ ?_;clear hK K' z2 f2
 try simp only[Act.put,sA9,sB9,sC9]
 have G2:ah (au (V2.setCell ⟨gR,2,eL⟩ (vI sl)) gR #[vI t,eR nm,vI sl,vU s.r.r0,eR str,eS oL nL cL,vI s.r.used] 34):=G1.o.set 2 _;have H2:ah (au (V2.setCell ⟨gR,2,eL⟩ (vI sl)) w.heap.size #[vI 0,eR ⟨#[]⟩,vI 0,vU 0,eR ⟨#[]⟩,vN,vI 0] 34):=H1.o.setOther (a:=⟨gR,2,eL⟩) EB.o _;have J2:ah (aa af w (V2.setCell ⟨gR,2,eL⟩ (vI sl))):=J1.o.set (a:=⟨gR,2,eL⟩) (.inr (by have:=HGL.o.2;simp only;omega)) _;have E3:ah (aa (Only gR) w4 (V2.setCell ⟨gR,2,eL⟩ (vI sl))):=E2.o.bA 2 _;clear G1 H1 J1 E2;generalize V2.setCell ⟨gR,2,eL⟩ (vI sl)=V3 at *;refine bZ ?_;have ji:=G2;have pT:=H2;have xW:=J2;clear y1 y2;simp only[Exit.then];have x0:=ji.o.cell 0;have x1:=ji.o.cell 1;have x2:=ji.o.cell 2;have x3:=ji.o.cell 3;have x4:=ji.o.cell 4;have x5:=ji.o.cell 5;have x6:=ji.o.cell 6;have z0:=pT.o.cell 0;have z1:=pT.o.cell 1;have z2:=pT.o.cell 2;have z3:=pT.o.cell 3;have z4:=pT.o.cell 4;have z5:=pT.o.cell 5;have z6:=pT.o.cell 6;have zf:=pT.o.frozen;go_wp2_with fail;refine kx (mL results32 _ _ w.heap.size 34 _ (0,0) _ rfl (((((((pT.o.set 0 _).set 1 _).set 2 _).set 3 _).set 4 _).set 5 _).set 6 _) underlying34 rfl (by kernel_rfl)) rfl ⟨rfl,?_⟩;have q:∀{X:tW} (i:Nat) (u:fa),aa af w X->aa af w (X.setCell ⟨w.heap.size,i,eL⟩ u):=λi u m=>m.set (a:=⟨w.heap.size,i,eL⟩) (Or.inr (Nat.le_refl _)) u;exact q 6 _ (q 5 _ (q 4 _ (q 3 _ (q 2 _ (q 1 _ (q 0 _ xW.o))))))
theorem Xi(w:tW)(s:tBA)(v:fa)(hv:∃o n c,v=eS o n c)(bn:Nat)(nm:tBA)(hb:au w bn #[eR nm] 9):fS prog 29 #[fY #[eR s,v],pt bn] w λe w'=>e=fW (fX (s.toList==nm.toList))/\aa af w w':=by obtain⟨o,n,c,rfl⟩:=hv;have HM:ah (aa af w (w.alloc (fL #[eR s,eS o n c] 75))):=aw;have x0:=(hb.ai HM.o id).cell 0;clear hb;go_in;go_wp2_with fail;go_ret;exact⟨rfl,HM.o⟩
theorem acv{a b:tLB}(h:T a=T b):a=b:=by
 have:=congrArg (λx:tBA=>x.data.toList) h
 simpa [T]using this
def Ia(fs:List bz)(nm:tLB):Int:=match xK fs nm with
 |none=>-1
 |some i=>i
theorem Nr(fs:List bz)(nm:tLB)(k:Nat)(hk:k<eJ fs)(h:∀i (hi:i<eJ fs),i<k->fs[i].name≠nm)(he:fs[k].name=nm):xK fs nm=eK k:=by
 unfold xK;rw[List.findIdx?_eq_some_iff_getElem];refine⟨hk,by simpa using he,λj hj=>?_⟩
 simpa using h j (by omega) hj
theorem Ns(fs:List bz)(nm:tLB)(h:∀i (hi:i<eJ fs),fs[i].name≠nm):xK fs nm=eL:=by
 unfold xK;rw[List.findIdx?_eq_none_iff];intro f hf;obtain⟨i,hi,rfl⟩:=ba hf
 simpa using h i hi
theorem af3{w:tW}{fs:List bz}{cg:tLN}{oF:Option Addr}{n cF:Nat}(hl:eJ cg=eJ fs)(hF:Sl w 75 2 (eS oF n cF) (eJ fs) ((fs.zip cg).flatMap FV))(k:Nat)(hk:k<eJ fs)(hk':k<eJ cg):∃gF,oF=eK ⟨gF,0,eL⟩/\w.cell? ⟨gF,k*2,eL⟩=eK (eR (T fs[k].name))/\w.cell? ⟨gF,k*2+1,eL⟩=eK (eS (eK ⟨cg[k],0,eL⟩) (aU fs[k].code) (aU fs[k].code)):=by
 obtain⟨o2,c2,hv2,af4⟩:=hF.view;obtain⟨gF,cs,ho,hg,ht,_⟩:=af4 (by omega);injection hv2 with h1 _ _;rw[<-h1]at ho;have hz:k<eJ (fs.zip cg):=by rw[cH];omega
 have hrow:∀j,j<2->w.cell? ⟨gF,k*2+j,eL⟩=(FV (fs[k],cg[k]))[j]?:=λj hj=>by rw[aV hg ht _ (by omega),jY FV 2 (fs.zip cg) (λ_ _=>rfl) k j hz hj];simp
 exact⟨gF,ho,hrow 0 (by omega),hrow 1 (by omega)⟩
theorem Nt(w:tW)(fs:List bz)(cg:tLN)(vF:fa)(hl:eJ cg=eJ fs)(hn:eJ fs<=1000)(hF:Sl w 75 2 vF (eJ fs) ((fs.zip cg).flatMap FV))(bn:Nat)(nm:tLB)(hb:au w bn #[eR (T nm)] 9):fS prog 28 #[vF,fN (.func 29) #[] #[pt bn]] w λe w'=>e=fW (vI (Ia fs nm))/\aa af w w':=by
 have en:∀args w,(callFunc 29 args).run prog w=.ok (.enter 29 args) w:=enters_of func29 (by kernel_rfl) rfl
 have HC:ah (∀w',aa af w w'->∀k (hk:k<eJ fs) (hk':k<eJ cg),fS prog 29 #[fY #[eR (T fs[k].name),eS (eK ⟨cg[k],0,eL⟩) (aU fs[k].code) (aU fs[k].code)],pt bn] w' λe w''=>e=fW (fX (decide (fs[k].name=nm)))/\aa af w' w''):=λw' m k hk hk'=>by
  have:=Xi w' (T fs[k].name) (eS (eK ⟨cg[k],0,eL⟩) (aU fs[k].code) (aU fs[k].code)) ⟨_,_,_,rfl⟩ bn (T nm) (hb.ai m id)
  have e:((T fs[k].name).toList==(T nm).toList)=decide (fs[k].name=nm):=by
   by_cases h:fs[k].name=nm
   ·rw[h];simp
   ·rw[tY (λe=>h (acv e)),decide_eq_false h]
  rw[e]at this;exact this
 obtain⟨oF,cF,rfl,hvw⟩:=hF.view;have HR:=aq (λw' (m:aa af w w') k (hk:k<eJ fs) (hk':k<eJ cg)=>af3 hl (hF.ai m (λ_ _=>id)) k hk hk');clear hF hb hvw;go_in;go_wp2_with fail;go_loopw [8] (λv8 wl=>∃k:Nat,k<=eJ fs/\v8=vI k/\aa af w wl/\∀i (hi:i<eJ fs),i<k->fs[i].name≠nm) (λv8 _=>eJ fs-(intOf v8).toNat)
 case atStart=>exact⟨0,Nat.zero_le _,rfl,ax,λi _ h=>absurd h (Nat.not_lt_zero _)⟩
 case round =>
  obtain⟨k,hk,rfl,hM,hN⟩:=hrel;have HM:=aq hM;have HN:=aq hN;clear hM hN;by_cases hlt:k<eJ fs
  ·have hlt':k<eJ cg:=by omega
   obtain⟨gF,ho,y0,y1⟩:=HR.o wr HM.o k hlt hlt';subst ho;have HK:=aq (HC.o wr HM.o k hlt hlt');clear HC;by_cases he:fs[k].name=nm
   ·have HI:ah (Ia fs nm=(k:Int)):=by unfold ah Ia;rw[Nr fs nm k hlt HN.o he]
    rw[decide_eq_true he]at HK;generalize T fs[k].name=tn at *;generalize aU fs[k].code=sn at *;generalize cg[k]=ck at *;clear he HR HN;go_wp2_with fail;refine HK.o.mono ?_;rintro e w1 ⟨rfl,m1⟩;have M1:=aq (HM.o.trans m1);clear m1 y0 y1;go_wp2_with fail;go_ret;exact⟨by rw[HI.o];rfl,M1.o⟩
   ·have Cr:ah (∀i (hi:i<eJ fs),i<k+1->fs[i].name≠nm):=λi hi h=>by
     by_cases hik:i=k
     ·subst hik;exact he
     ·exact HN.o i hi (by omega)
    rw[decide_eq_false he]at HK;generalize T fs[k].name=tn at *;generalize aU fs[k].code=sn at *;generalize cg[k]=ck at *;clear he HR HN;go_wp2_with fail;refine HK.o.mono ?_;rintro e w1 ⟨rfl,m1⟩;have M1:=aq (HM.o.trans m1);clear m1 y0 y1;go_wp2_with fail;go_roundw
    case rel=>exact⟨k+1,by omega,by go_num,M1.o,Cr.o⟩
    case measure=>simp[intOf];omega
  ·have hkk:k=eJ fs:=by omega
   subst hkk;have HI:ah (Ia fs nm=-1):=by unfold ah Ia;rw[Ns fs nm (λi hi=>HN.o i hi hi)]
   clear HC HR HN;go_wp2_with fail;go_ret;exact⟨by rw[HI.o];rfl,HM.o⟩
def KF(t:Nat)(r:Bool):FrameMode:=.panicking [{v:=.iface 31 (vI t),recovered:=r}]
theorem OH(W:tW)(v:fa)(xt:ju):(Instr.typeAssert (.iface 31 v) xt 31 fR).run prog W=.ok (jl #[v,fX fR]) W:=by kernel_rfl
theorem SC(w:tW)(x y z:fa):CallsD prog 31 #[x,y,z] .returning w λe u' w'=>e=fW (jl #[])/\u'=.returning/\w'=w:=by refine FF func31 rfl λc₀ cs hu=>?_;simp only[ntmps31,dt,dy,List.length_nil,Nat.reduceAdd,Nat.reduceSub,cW,cY,du,dp,cI,cy];apply wpS_seq;apply Gk;simp[wpOpsS,go_sem,recoverD,hu,Exit.thenS];refine wpS_of_wp ?_;generalize hQ:(λe a' w'=>bodyPostS prog f31 c₀ cs (λe u' w'=>e=fW (jl #[])/\u'=.returning/\w'=w) e a' (c₀::cs) w')=Q;go_wp2_with fail;subst hQ;refine⟨rfl,.returning,?_,jl #[],by simp[results,results31,go_sem],rfl,rfl,rfl⟩;cases c₀;simp_all
theorem SE(w:tW)(g0 g1 g2 mp b t:Nat)(cs:tAV)(old:tAV)(h0:au w g0 #[pt mp] 56)(h1:au w g1 #[pt b] 77)(h2:au w g2 old 34)(ho:old.size=7)(hc:cs.size=7)(hc1:cs.all (·.oneCell')=fR)(hT:fS prog 32 #[pt mp,pt b,vI t] w λe w'=>e=fW (fY cs)/\aa af w w'):CallsD prog 31 #[pt g0,pt g1,pt g2] (KF t fj) w λe u' w'=>e=fW (jl #[])/\u'=KF t fR/\au w' g2 cs 34/\aa (Only g2) w w':=by refine FF func31 rfl λc₀ cz hu=>?_;have y0:=h0.cell 0;have y1:=h1.cell 0;have HT:=aq hT;have H2:=aq h2;have Bk:=aq hc1;have HO:=aq (ho.trans hc.symm);have HC:=aq hc;clear h0 h1 h2 hT hc1 ho hc;unfold KF at hu;simp only[ntmps31,dt,dy,List.length_nil,Nat.reduceAdd,Nat.reduceSub,cW,cY,du,dp,cI,cy];apply wpS_seq;apply Gk;simp[wpOpsS,go_sem,recoverD,hu,Exit.thenS];refine wpS_of_wp ?_;generalize hQ:(λe a' w'=>bodyPostS prog f31 c₀ cz (λe u' w'=>e=fW (jl #[])/\u'=KF t fR/\au w' g2 cs 34/\aa (Only g2) w w') e a' _ w')=Q;have hta:=OH;go_wp2_with (rw[OH]);refine HT.o.mono ?_;rintro e w1 ⟨rfl,m1⟩;have HB1:=aq (H2.o.ai m1 id);have bU:ah (aa (Only g2) w w1):=m1.mono (λ_ _ h=>h.elim);clear m1 HT H2 y0 y1;go_wp2_with (refine eP rfl 34 (.tmp 2) (.tmp 15) rfl g2 cs rfl rfl 34 _ HB1.o (by rw[HC.o];kernel_rfl) HO.o Bk.o ?_;intro W3 hB3 yK);subst hQ;exact⟨rfl,KF t fR,rfl,jl #[],by simp[results,results31,go_sem],rfl,rfl,hB3,bU.o.trans yK⟩
theorem F9{fs:List bz}{mn:Nat}(hco:lK fs mn)(hk:oW fs):∀(n:Nat) (s:aX),bT (eJ fs) s->eJ s.ms=mn->(s.r.ended=fR\/Cb fs s)->bT (eJ fs) (followP fs n s).2/\(followP fs n s).2.ms.length=mn
 |0,s,ho,hm,_=>⟨ho,hm⟩
 |n+1,s,ho,hm,hp=>by
  by_cases he:s.r.ended=fR
  ·have:followP fs (n+1) s=(0,s):=by unfold followP;rw[iP9 he]
   rw[this];exact⟨ho,hm⟩
  ·have he':s.r.ended=fj:=by simpa using he
   rw[mE fs n s he'];have YD:=hp.elim (λe=>absurd e he) id;have hmem:=vH fs _ ho.top.fn;have hat:=vK fs _ _ YD.at';have hins:=hco.ins _ hmem _ hat;have hob:=ho.begin (s.ins fs).o.slots;have hd:=Nl hob (by exact hm) (s.ins fs) hins.1 (λh6 h1 h4=>hk _ hmem _ hat h6 h1 h4 _ hob);by_cases hu:s.r.used=s.r.fuel
   ·have em:fJ fs s=(1,s):=by unfold fJ;rw[iP9 hu]
    rw[em];exact⟨ho,hm⟩
   ·by_cases h0:(s.did fs).1=0
    ·have em:fJ fs s=(0,(s.did fs).2.dG):=by unfold fJ;rw[iN9 hu,iP9 h0]
     rw[em,iP9 rfl];have acu:=Xd (by rw[hm];exact hco) ho YD he' h0;refine F9 hco hk n _ (bT.dG hd.1) hd.2 ?_;rcases acu with hd'|hd'
     ·exact .inl hd'
     ·exact .inr (Cb.of hd.1.pos hd')
    ·have em:fJ fs s=s.did fs:=by unfold fJ;rw[iN9 hu,iN9 h0]
     rw[em,iN9 h0];exact hd
theorem KG(fn F q n:Nat):Ea fn F q n=⟨[⟨fn,0,0,[{},eY q 0,dI n,{},{},{},{},{},{},{},eY (q+1) 64],q+1⟩],F,0,[],0,fj,q⟩:=rfl
theorem yC.more{gs:List tLN}(h:yC gs){x:tLN}(hx:eJ x<=1000/\∀b∈x,b<256):yC (gs++[x]):=λg hg=>by
 rcases List.mem_append.1 hg with hg|hg
 ·exact h g hg
 ·rw[List.mem_singleton.1 hg];exact hx
theorem OI(s:tBA):eJ (fw (gN s))<=32/\∀b∈fw (gN s),b<256:=by
 refine⟨?_,λb hb=>?_⟩
 ·have h1:eJ (fw (gN s))=(gN s).size:=by unfold fw;rw[cq];rfl
  rw[h1];unfold gN;rw[ByteArray.size_extract];omega
 ·unfold fw at hb;obtain⟨c,_,rfl⟩:=List.mem_map.1 hb;exact c.toNat_lt
theorem Xj:eJ bS<=1000/\∀b∈bS,b<256:=by refine⟨by decide,λb hb=>?_⟩;rw[bh hb];decide
theorem Xk{fn' fn:Nat}{gs:List tLN}{ms:List iK}(hf:fn<fn')(hg:yC gs)(hm:∀m∈ms,zK gs m)(hn:(dA ms).Nodup)(inp:tBA)(fuel:Int):bT fn' (pK gs ms fn inp fuel):=by
 have hsz:(gN inp).size<=32:=by unfold gN;rw[ByteArray.size_extract];omega
 unfold pK;rw[KG];have hlen:eJ (gs++[fw (gN inp)]++[bS])=eJ gs+2:=by simp
 refine⟨by simp,by simp,?_,?_,?_,⟨by simp,by simp⟩,?_,?_⟩
 ·intro f hf';simp only[List.mem_singleton]at hf';subst hf';refine⟨hf,by simp only;rw[hlen];omega,rfl,?_⟩;intro v hv;simp only;rw[hlen];simp only[List.mem_cons,List.not_mem_nil,or_false]at hv;rcases hv with rfl|rfl|rfl|rfl|rfl|rfl|rfl|rfl|rfl|rfl|rfl
  all_goals first|exact MV.Ok.zero _ _|exact MV.Ok.ptr (by omega) (by omega)|exact MV.Ok.num (by omega)
 ·exact(hg.more ⟨by have:=(OI inp).1;omega,(OI inp).2⟩).more Xj
 ·simp only;rw[hlen];omega
 ·intro m hm';exact((hm m hm').grow _).grow _
 ·unfold Ca;simp only[de,dq,cy,cI];have hlt:∀q∈dA ms,q<eJ gs:=λq hq=>by unfold dA at hq;obtain⟨m,hm',hq⟩:=List.mem_flatMap.1 hq;obtain⟨e,he,rfl⟩:=List.mem_map.1 hq;exact((hm m hm').er e he).1
  rw[List.nodup_cons,List.nodup_cons];refine⟨λh=>?_,λh=>?_,hn⟩
  ·rcases List.mem_cons.1 h with h|h
   ·omega
   ·have:=hlt _ h;omega
  ·have:=hlt _ h;omega
theorem Xl{fs:List bz}{mn fn:Nat}(hco:lK fs mn)(hf:fn<eJ fs)(gs:List tLN)(ms:List iK)(inp:tBA)(fuel:Int):Cb fs (pK gs ms fn inp fuel):=by unfold pK;rw[KG];exact⟨hco.first _ (vH fs fn hf),λp hp=>by simp[aJ.om]at hp⟩
theorem Xm{fs:List bz}{nm:tLB}{k:Nat}(h:xK fs nm=eK k):k<eJ fs:=by unfold xK at h;exact(List.findIdx?_eq_some_iff_getElem.1 h).1
def jf(a:Ad)(k:Nat):Prop:=k∈a.rb\/(∃v∈a.vs,v.ownBlock=eK k)\/k∈a.mb\/∃v∈a.ve,v.ownBlock=eK k
def Whole(mp:Nat)(vF:fa)(cg:tLN)(a:Ad)(k:Nat):Prop:=k=mp\/jf a k\/vF.ownBlock=eK k\/k∈cg\/a.vM.ownBlock=eK k
structure dB(c0 c1:fa)(wT:tW)(tv:fa)(bs:tLN)(mp:Nat)(vF:fa)(fs:List bz)(cg:tLN)(a:Ad)(gs:List tLN)(ms:List iK)(w:tW):Prop where
 blk:au w mp #[c0,c1,vF,a.vM] 71
 lf:eJ cg=eJ fs
 wY:Sl w 75 2 vF (eJ fs) ((fs.zip cg).flatMap FV)
 code:∀i (h:i<eJ fs) (h':i<eJ cg),nZ w bs cg[i] (aU fs[i].code) (atS 0 fs[i].code)
 tab:aM 0 wT tv bs az
 md:ep Xg wT w
 kL:pH w a.rb a.vs gs
 maps:oN w a.rb a.mb a.vM a.ve ms
 gok:yC gs
 mok:∀m∈ms,zK gs m
 own:(dA ms).Nodup
 base:∀k,jf a k->wT.heap.size<=k
 OJ:wT.heap.size<=mp
theorem qw{α:Type}{l:List α}{x:α}(d:α)(h:x∈l):∃i,i<eJ l/\l.getD i d=x:=by obtain⟨i,hi,rfl⟩:=ba h;exact⟨i,hi,by rw[List.getD_eq_getElem?_getD,List.getElem?_eq_getElem hi];rfl⟩
section
variable {c0 c1 : fa} {wT : World} {tv : fa} {bs : List Nat} {mp : Nat} {vF : fa} {fs : List bz} {cg : List Nat} {a : Ad} {gs : List (List Nat)} {ms : List iK} {w w' : World}
theorem nZ.ty{g n:Nat}{l:List (PI×Nat)}(h:nZ w bs g n l):Ty w g 138:=by obtain⟨cs,hb,_⟩:=h.ex;exact hb.ty
theorem dB.zM(h:dB c0 c1 wT tv bs mp vF fs cg a gs ms w){k:Nat}(hk:jf a k):∃t∈[122,5,85,148],Ty w k t:=by
 rcases hk with hk |⟨v,hv,hk⟩|hk |⟨v,hv,hk⟩
 ·obtain⟨i,hi,rfl⟩:=qw 0 hk;exact⟨_,by simp,(h.kL.blk i (by rw[<-h.kL.lr];exact hi)).ty⟩
 ·obtain⟨i,hi,rfl⟩:=qw kO hv;exact⟨_,by simp,(h.kL.sl i (by rw[<-h.kL.lv];exact hi)).ty hk⟩
 ·obtain⟨i,hi,rfl⟩:=qw 0 hk;exact⟨_,by simp,(h.maps.blk i (by rw[<-h.maps.lm];exact hi)).ty⟩
 ·obtain⟨i,hi,rfl⟩:=qw kO hv;exact⟨_,by simp,(h.maps.sl i (by rw[<-h.maps.le];exact hi)).ty hk⟩
theorem dB.zN(h:dB c0 c1 wT tv bs mp vF fs cg a gs ms w){k:Nat}{t:ju}(ht:Ty w k t)(hn:t ∉ [122,5,85,148]):¬jf a k:=λhk=>by
 obtain⟨u,hu,hk⟩:=h.zM hk;exact hn (ht.one hk ▸ hu)
theorem dB.OK(h:dB c0 c1 wT tv bs mp vF fs cg a gs ms w){k:Nat}(hk:jf a k):k<w.heap.size:=by obtain⟨t,_,cs,fr,e⟩:=h.zM hk;obtain⟨hlt,_⟩:=Array.getElem?_eq_some_iff.1 e;exact hlt
theorem dB.aeq(h:dB c0 c1 wT tv bs mp vF fs cg a gs ms w):¬jf a mp/\(∀k,vF.ownBlock=eK k->¬jf a k)/\∀g∈cg,¬jf a g :=
 ⟨h.zN h.blk.ty (by decide),λk hk=>h.zN (h.wY.ty hk) (by decide),λg hg=>by obtain⟨i,hi,rfl⟩:=ba hg;exact h.zN (h.code i (by rw[<-h.lf];exact hi) hi).ty (by decide)⟩
theorem dB.Xn(h:dB c0 c1 wT tv bs mp vF fs cg a gs ms w):mp<w.heap.size/\(∀k,vF.ownBlock=eK k->k<w.heap.size)/\∀g∈cg,g<w.heap.size :=
 ⟨h.blk.lt,λk hk=>h.wY.lt k hk,λg hg=>by obtain⟨i,hi,rfl⟩:=ba hg;obtain⟨cs,fr,e⟩:=(h.code i (by rw[<-h.lf];exact hi) hi).ty;obtain⟨hlt,_⟩:=Array.getElem?_eq_some_iff.1 e;exact hlt⟩
theorem dB.Xo{S:Nat->Prop}(h:dB c0 c1 wT tv bs mp vF fs cg a gs ms w)(m:aa S w w')(hS:∀k,k<wT.heap.size->S k->∃t∈Xg,Ty wT k t)(hW:∀k,S k->¬Whole mp vF cg a k):dB c0 c1 wT tv bs mp vF fs cg a gs ms w':=by
 have q:∀k,Whole mp vF cg a k->¬S k:=λk hk hs=>hW k hs hk;have qf:=λk hk=>q k (.inr (.inl hk));have g0:∀(l:tLN) i,i<eJ l->l.getD i 0∈l:=λl i hi=>by rw[List.getD_eq_getElem?_getD,List.getElem?_eq_getElem hi];exact ab _
 have g1:∀(l:tLV) i,i<eJ l->l.getD i kO∈l:=λl i hi=>by rw[List.getD_eq_getElem?_getD,List.getElem?_eq_getElem hi];exact ab _
 refine⟨h.blk.ai m (q _ (.inl rfl)),h.lf,h.wY.ai m (λk hk=>q _ (.inr (.inr (.inl hk)))),λi a b=>(h.code i a b).ai m (q _ (.inr (.inr (.inr (.inl (ab b)))))),h.tab,h.md.step m hS,?_,?_,h.gok,h.mok,h.own,h.base,h.OJ⟩
 ·exact⟨h.kL.lr,h.kL.lv,λi hi=>(h.kL.blk i hi).ai m (qf _ (.inl (g0 _ _ (by rw[h.kL.lr];exact hi)))),λi hi=>(h.kL.sl i hi).ai m (λk hk=>qf _ (.inr (.inl ⟨_,g1 _ _ (by rw[h.kL.lv];exact hi),hk⟩))),h.kL.inj,h.kL.Kq⟩
 ·exact⟨h.maps.lm,h.maps.le,h.maps.uW.ai m (λk hk=>q _ (.inr (.inr (.inr (.inr hk))))),λi hi=>(h.maps.blk i hi).ai m (qf _ (.inr (.inr (.inl (g0 _ _ (by rw[h.maps.lm];exact hi)))))),λi hi=>(h.maps.sl i hi).ai m (λk hk=>qf _ (.inr (.inr (.inr ⟨_,g1 _ _ (by rw[h.maps.le];exact hi),hk⟩)))),h.maps.inj,h.maps.Kx⟩
theorem dB.ai{S:Nat->Prop}(h:dB c0 c1 wT tv bs mp vF fs cg a gs ms w)(m:aa S w w')(hS:∀k,S k->wT.heap.size<=k/\¬Whole mp vF cg a k):dB c0 c1 wT tv bs mp vF fs cg a gs ms w':=h.Xo m (λk hk hs=>by have:=(hS k hs).1;omega) (λk hs=>(hS k hs).2)
theorem dB.quiet(h:dB c0 c1 wT tv bs mp vF fs cg a gs ms w)(m:aa af w w'):dB c0 c1 wT tv bs mp vF fs cg a gs ms w':=h.ai m (λ_ h=>h.elim)
theorem dB.turn(h:dB c0 c1 wT tv bs mp vF fs cg a gs ms w)(v:fa):dB v c1 wT tv bs mp vF fs cg a gs ms (w.setCell ⟨mp,0,eL⟩ v):=by have m:aa (Only mp) w (w.setCell ⟨mp,0,eL⟩ v):=ax.bA 0 v;have mT:=ep.of m (λk hk=>⟨71,List.mem_singleton.2 rfl,by have e:k=mp:=hk;subst e;exact h.blk.ty⟩);refine⟨h.blk.set 0 v,h.lf,h.wY.cK mT (by decide),λi a b=>(h.code i a b).ai mT ((h.code i a b).ty.nt (by decide)),h.tab,h.md.step m (λi hi hs=>by have:=h.OJ;rw[show i=mp from hs]at hi;omega),h.kL.cK mT (by decide) (by decide),h.maps.cK mT (by decide) (by decide) (by decide),h.gok,h.mok,h.own,h.base,h.OJ⟩
theorem dB.cd(h:dB c0 c1 wT tv bs mp vF fs cg a gs ms w){F:Nat->Prop}(hF:∀k,F k->jf a k\/w.heap.size<=k):wZ F wT tv bs mp vF fs cg w:=by obtain⟨n1,n2,n3⟩:=h.aeq;obtain⟨l1,l2,l3⟩:=h.Xn;refine⟨⟨c0,c1,a.vM,h.blk⟩,h.lf,h.wY,h.code,h.tab,h.md,λhk=>(hF _ hk).elim n1 (λe=>by omega),λk hk hf=>(hF _ hf).elim (n2 k hk) (λe=>by have:=l2 k hk;omega),λg hg hf=>(hF _ hf).elim (n3 g hg) (λe=>by have:=l3 g hg;omega),λk hk=>(hF k hk).elim (h.base k) (λe=>dr h.md.size e)⟩
end
