import Derived.Test.YtnhcaifopaeohaaGreatDoorC42
import Derived.Test.YtnhcaifopaeohaaGreatDoorC28
import Derived.Test.YtnhcaifopaeohaaGreatDoorC25
namespace Go.Proofs.YtnhcaifopaeohaaGreatDoor
open Go.RowKit
set_option linter.all false
theorem slots_app (l:List PI) (x:PI):slotsP (l++[x])=slotsP l+x.o.slots:=by unfold slotsP;simp
theorem withS_app:∀ (l:List PI) (s:Nat) (x:PI),withS s (l++[x])=withS s l++[(x,s+slotsP l)]
 | [],s,x=>by simp [withS,slotsP]
 | y::l,s,x=>by
  rw [List.cons_append,withS,withS,withS_app l,slots_cons,List.cons_append,Nat.add_assoc]
theorem last_appC (l:List PI) (x:PI):lastP (l++[x])=x.o.ends:=by unfold lastP;simp
theorem tab_jump4:∀ k:Fin 88,(rowK k).jumps=true->(rowK k).call=false/\filledOf (rowK k).parts &&& 4≠0:=by decide +kernel
theorem needs_jump {o:OpS} (hc:o.call=false) (hf:filledOf o.parts &&& 4≠0) (x y:PIns) (hd:x.d=y.d) (hs:x.s=y.s) (hn:x.num=y.num) (hh:x.high=y.high):o.needs x=o.needs y:=by
 have hr:PK.right x=PK.right y:=by
  funext p
  unfold PK.right;rw [hd,hs,hh]
 unfold OpS.needs othersB;rw [hr,hd,hs,hn,hc,decide_eq_true hf]
 simp
structure PI.Mid (ms:List (List UInt8)) (x:PI):Prop where
 k:x.k<88
 j:x.o.jumps=false->-32768<=x.jump/\x.jump<=32767
 n:-2147483648<=x.num/\x.num<=2147483647
 h:-2147483648<=x.high/\x.high<=2147483647
 needs:x.o.needs (x.ins [])=true
 one:x.o.slots=1->x.high=0
 nm:x.refers≠0->nameB x.name=true/\x.num=0
 no:x.refers=0->x.name=[]
 mp:x.refers=2->x.name∈ms
theorem pi_mid {x:PRead} (h:x.In) (hf:x.fits=true) {ms:List (List UInt8)} (hm:(decide ((if x.r.s=1 then x.o.refers else 0)=2)&&decide (ms.count x.r.name=0))=false) (O:OL) (i slot:Nat):(piOf O i slot x).Mid ms:=by
 have ho:(piOf O i slot x).o=x.o:=rfl
 have hrf:(piOf O i slot x).refers=if x.r.s=1 then x.o.refers else 0:=rfl
 unfold PRead.fits at hf
 simp only [Bool.and_eq_true] at hf
 refine ⟨h.k,fun hj=>?_,h.i.n,h.i.h,?_,h.one,fun e=>h.nm (by rw [<- hrf];exact e),fun e=>h.no (by rw [<- hrf];exact e),fun e=>?_⟩
 ·rw [ho] at hj
  show -32768<=jmpOf O i slot x/\jmpOf O i slot x<=32767
  unfold jmpOf;rw [hj];exact h.i.j
 ·rw [ho]
  cases hj:x.o.jumps with
  | false =>
   rw [needs_same x.o (PI.ins [] (piOf O i slot x)) x.r.ins rfl rfl (by
    show jmpOf O i slot x=x.r.jump
    unfold jmpOf;rw [hj];rfl) rfl rfl]
   exact hf.2
  | true =>
   obtain ⟨h1,h2⟩:=tab_jump4 ⟨x.k,h.k⟩ hj
   have h1':x.o.call=false:=h1
   have h2':filledOf x.o.parts &&& 4≠0:=h2
   rw [needs_jump h1' h2' (PI.ins [] (piOf O i slot x)) x.r.ins rfl rfl rfl rfl]
   exact hf.2
 ·rw [hrf] at e;rw [e] at hm
  simp only [decide_true,Bool.true_and,decide_eq_false_iff_not] at hm
  exact List.count_pos_iff.1 (Nat.pos_of_ne_zero hm)
structure FInv (O:OL) (i:Nat) (c:List PI) (f:OFn):Prop where
 sl:slotsP c=f.slots
 ends:lastP c=f.ends
 labs:∀ p∈f.labs,p.2∈(withS 0 c).map (·.2)\/p.2=slotsP c
 mid:∀ x∈c,x.Mid O.maps
 lead:∀ p∈withS 0 c,p.1.o.jumps=true->∃ v:Nat,p.1.target p.2=v/\(∃ l,labOf (O.fs.getD i {}).labs l=some v)/\v<(O.fs.getD i {}).slots
structure JInvC (O o:OL) (b:BS) (w:WK):Prop where
 fl:b.fs.length=o.fs.length
 wf:w.funcs=(b.fs.map (·.name)).reverse
 wm:w.maps=(b.ms.map (·.name)).reverse
 om:o.maps=w.maps
 nf:w.funcs.Nodup
 nm:w.maps.Nodup
 m8:b.ms.length<=8
 f16:b.fs.length<=16
 tot:(b.fs.map (fun f=>slotsP f.code)).sum=w.slots
 s200:w.slots<=200
 slot:b.slot=slotsP b.last.code
 mt:∀ m∈b.ms,m.Told
 fn:∀ f∈b.fs,nameB f.name=true
 each:∀ i (h:i<b.fs.length) (h':i<o.fs.length),FInv O i b.fs[i].code o.fs[i]
 en:∀ i,i<b.fs.length->(O.fs.getD i {}).ends=true
theorem JInvC.new (O:OL):JInvC O {} {} {}:=⟨rfl,rfl,rfl,rfl,List.nodup_nil,List.nodup_nil,Nat.zero_le _,Nat.zero_le _,rfl,Nat.zero_le _,rfl,(fun m h=>by cases h),(fun m h=>by cases h),(fun i h=>by cases h),(fun i h=>by cases h)⟩
theorem last_ofC {α:Type} {l:List α} (h:0<l.length):∃ i a,l=i++[a]:=by
 rcases List.eq_nil_or_concat l with e | ⟨i,f,e⟩
 ·rw [e] at h;cases h
 ·exact ⟨i,f,by rw [e,List.concat_eq_append]⟩
theorem set_last {α:Type} (i:List α) (a b:α):(i++[a]).set ((i++[a]).length - 1) b=i++[b]:=by simp
theorem getD_last {α:Type} (i:List α) (a d:α):(i++[a]).getD ((i++[a]).length - 1) d=a:=by simp
theorem each_last {O:OL} {bi:List PFn} {oi:List OFn} {f:PFn} {g:OFn} {f':PFn} {g':OFn} (hl:bi.length=oi.length) (h:∀ i (h:i<(bi++[f]).length) (h':i<(oi++[g]).length),FInv O i (bi++[f])[i].code (oi++[g])[i]) (hn:FInv O bi.length f'.code g'):∀ i (h:i<(bi++[f']).length) (h':i<(oi++[g']).length),FInv O i (bi++[f'])[i].code (oi++[g'])[i]:=fun i h1 h2=>by
 by_cases hi:i<bi.length
 ·have hi':i<oi.length:=by omega
  have:=h i (by simp;omega) (by simp;omega)
  rw [List.getElem_append_left hi,List.getElem_append_left hi'] at this ⊢;exact this
 ·have e:i=bi.length:=by simp at h1;omega
  subst e
  have e1:(bi++[f'])[bi.length]=f':=by simp
  have e2:(oi++[g'])[bi.length]=g':=by simp [hl]
  rw [e1,e2];exact hn
theorem each_at {O:OL} {bi:List PFn} {oi:List OFn} {f:PFn} {g:OFn} (hl:bi.length=oi.length) (h:∀ i (h:i<(bi++[f]).length) (h':i<(oi++[g]).length),FInv O i (bi++[f])[i].code (oi++[g])[i]):FInv O bi.length f.code g:=by
 have hi:bi.length<(oi++[g]).length:=by simp [hl]
 have:=h bi.length (by simp) hi
 have e1:(bi++[f])[bi.length]=f:=by simp
 have e2:(oi++[g])[bi.length]=g:=by simp [hl]
 rw [e1,e2] at this;exact this
theorem code_none {o:OL} {k:WK} {x:PLn} (h:codeFaultP o k x=0):x.x.fits=true/\(x.x.o.jumps&&!hasLabP (o.fs.getD (k.funcs.length - 1) {}) x.x.r.label)=false/\(decide ((if x.x.r.s=1 then x.x.o.refers else 0)=2)&&decide (o.maps.count x.x.r.name=0))=false/\k.slots+x.x.o.slots<=200:=by
 unfold codeFaultP at h
 by_cases h1:x.x.fits=false
 ·rw [if_pos h1] at h;cases h
 rw [if_neg h1] at h
 by_cases h2:(x.x.o.jumps&&!hasLabP (o.fs.getD (k.funcs.length - 1) {}) x.x.r.label)=true
 ·rw [if_pos h2] at h;cases h
 rw [if_neg h2] at h
 by_cases h3:(decide ((if x.x.r.s=1 then x.x.o.refers else 0)=2)&&decide (o.maps.count x.x.r.name=0))=true
 ·rw [if_pos h3] at h;cases h
 rw [if_neg h3] at h
 by_cases h4:200<k.slots+x.x.o.slots
 ·rw [if_pos h4] at h;cases h
 exact ⟨by simpa using h1,by simpa using h2,by simpa using h3,by omega⟩
theorem size_fit {a:RNum} {most:Nat} (h:sizeOk a most=true):1<=(szP a).toNat/\(szP a).toNat<=most:=by
 unfold sizeOk at h
 simp only [Bool.and_eq_true,decide_eq_true_eq] at h
 obtain ⟨⟨_,h1⟩,h2⟩:=h
 have h1':1<=szP a:=h1
 have h2':szP a<=most:=h2
 omega
theorem JInvC.step {O o:OL} {b:BS} {w:WK} (h:JInvC O o b w) {x:PLn} (hx:x.In) (h0:faultP O w x=0) (hne:x.kind=3\/x.kind=4->o.fs≠[]):JInvC O (outStep o x) (bStep O b x) (stepP w x):=by
 unfold faultP at h0;unfold stepP bStep outStep
 by_cases k1:x.kind=1
 ·rw [if_pos k1] at h0 ⊢;rw [if_pos k1,if_pos k1];unfold mapFaultP at h0
  split at h0
  ·cases h0
  rename_i hs
  split at h0
  ·cases h0
  rename_i hc
  split at h0
  ·cases h0
  rename_i h8
  have hs':sizesFitP (x.ns.getD 0 num0) (x.ns.getD 1 num0) (x.ns.getD 2 num0)=true:=by simpa using hs
  unfold sizesFitP at hs'
  simp only [Bool.and_eq_true] at hs'
  have s0:=size_fit (most:=8) hs'.1.1
  have s1:=size_fit (most:=16) hs'.1.2
  have s2:=size_fit (most:=8) hs'.2
  have hml:w.maps.length=b.ms.length:=by rw [h.wm];simp
  have hnm:(pmOf x).name=x.name:=rfl
  refine ⟨h.fl,h.wf,?_,?_,h.nf,?_,?_,h.f16,h.tot,h.s200,h.slot,fun m hm=>?_,h.fn,h.each,h.en⟩
  ·show x.name::w.maps=_
   rw [h.wm,List.map_append,List.reverse_append,List.map_cons,List.map_nil,List.reverse_singleton];rfl
  ·show x.name::o.maps=x.name::w.maps
   rw [h.om]
  ·show (x.name::w.maps).Nodup
   refine List.nodup_cons.2 ⟨fun e=>hc (List.count_pos_iff.2 e),h.nm⟩
  ·rw [List.length_append,List.length_singleton];omega
  ·rcases List.mem_append.1 hm with hm | hm
   ·exact h.mt m hm
   ·rw [List.mem_singleton.1 hm]
    exact ⟨hx.nm (.inl k1),s0,s1,s2⟩
 rw [if_neg k1] at h0 ⊢;rw [if_neg k1,if_neg k1]
 by_cases k2:x.kind=2
 ·rw [if_pos k2] at h0 ⊢;rw [if_pos k2,if_pos k2];unfold funcFaultP at h0
  split at h0
  ·cases h0
  rename_i hc
  split at h0
  ·cases h0
  rename_i h16
  split at h0
  ·cases h0
  rename_i hen
  have hfl:w.funcs.length=b.fs.length:=by rw [h.wf];simp
  refine ⟨by simp [h.fl],?_,h.wm,h.om,?_,h.nm,h.m8,?_,?_,h.s200,?_,h.mt,fun f hf=>?_,fun i h1 h2=>?_,fun i hi=>?_⟩
  ·show x.name::w.funcs=_
   rw [h.wf,List.map_append,List.reverse_append,List.map_cons,List.map_nil,List.reverse_singleton];rfl
  ·show (x.name::w.funcs).Nodup
   refine List.nodup_cons.2 ⟨fun e=>hc (List.count_pos_iff.2 e),h.nf⟩
  ·rw [List.length_append,List.length_singleton];omega
  ·show ((b.fs++[(⟨x.name,[]⟩:PFn)]).map (fun f=>slotsP f.code)).sum=w.slots
   rw [List.map_append,List.sum_append,h.tot];rfl
  ·show 0=slotsP ((b.fs++[(⟨x.name,[]⟩:PFn)]).getD ((b.fs++[(⟨x.name,[]⟩:PFn)]).length - 1) ⟨[],[]⟩).code
   rw [getD_last];rfl
  ·rcases List.mem_append.1 hf with hf | hf
   ·exact h.fn f hf
   ·rw [List.mem_singleton.1 hf];exact hx.nm (.inr (.inl k2))
  ·by_cases hi:i<b.fs.length
   ·have hi':i<o.fs.length:=by rw [<- h.fl];exact hi
    have:=h.each i hi hi'
    simp only [List.getElem_append_left hi,List.getElem_append_left hi']
    exact this
   ·have e:i=b.fs.length:=by simp at h1;omega
    have e1:(b.fs++[(⟨x.name,[]⟩:PFn)])[i]=⟨x.name,[]⟩:=by subst e;simp
    have e2:(o.fs++[({}:OFn)])[i]={}:=by subst e;simp [h.fl]
    simp only [e1,e2]
    exact ⟨rfl,rfl,(fun p hp=>by cases hp),(fun y hy=>by cases hy),(fun p hp=>by cases hp)⟩
  ·by_cases hi':i<b.fs.length
   ·exact h.en i hi'
   ·have e:i=b.fs.length:=by simp at hi;omega
    rw [e,<- hfl]
    simpa using hen
 rw [if_neg k2] at h0 ⊢;rw [if_neg k2,if_neg k2]
 by_cases k3:x.kind=3
 ·rw [if_pos k3] at h0 ⊢
  rw [if_pos k3,if_neg (by omega)]
  have hp:0<o.fs.length:=List.length_pos_iff.2 (hne (.inl k3))
  obtain ⟨oi,g,ho⟩:=last_ofC hp
  obtain ⟨bi,f,hb⟩:=last_ofC (l:=b.fs) (by rw [h.fl];exact hp)
  have hl:bi.length=oi.length:=by
   have:=h.fl
   rw [ho,hb] at this;simpa using this
  have hlast:o.last=g:=by unfold OL.last;rw [ho,getD_last]
  have hE:=h.each
  have hon:(o.onLast (o.last.label x.name)).fs=oi++[g.label x.name]:=by
   unfold OL.onLast;rw [hlast]
   simp only
   rw [ho,set_last]
  refine ⟨by rw [hon,hb];simp [hl],h.wf,h.wm,h.om,h.nf,h.nm,h.m8,h.f16,h.tot,h.s200,h.slot,h.mt,h.fn,?_,h.en⟩
  simp only [hon,hb]
  simp only [ho,hb] at hE
  refine each_last hl hE ?_
  have hF:=each_at hl hE
  unfold OFn.label
  split
  ·exact hF
  ·refine ⟨hF.sl,hF.ends,fun p hp=>?_,hF.mid,hF.lead⟩
   rcases List.mem_append.1 hp with hp | hp
   ·exact hF.labs p hp
   ·rw [List.mem_singleton.1 hp];exact .inr hF.sl.symm
 rw [if_neg k3] at h0 ⊢;rw [if_neg k3]
 by_cases k4:x.kind=4
 ·rw [if_pos k4] at h0 ⊢;rw [if_pos k4,if_pos k4]
  have hp:0<o.fs.length:=List.length_pos_iff.2 (hne (.inr k4))
  obtain ⟨oi,g,ho⟩:=last_ofC hp
  obtain ⟨bi,f,hb⟩:=last_ofC (l:=b.fs) (by rw [h.fl];exact hp)
  have hl:bi.length=oi.length:=by
   have:=h.fl
   rw [ho,hb] at this;simpa using this
  have hlast:o.last=g:=by unfold OL.last;rw [ho,getD_last]
  have hlastB:b.last=f:=by unfold BS.last;rw [hb,getD_last]
  have hE:=h.each
  have hon:(o.onLast (o.last.code x.x.o)).fs=oi++[g.code x.x.o]:=by
   unfold OL.onLast;rw [hlast]
   simp only
   rw [ho,set_last]
  have hfl:w.funcs.length=b.fs.length:=by rw [h.wf];simp
  have hbl:b.fs.length - 1=bi.length:=by rw [hb];simp
  obtain ⟨hfit,hlab,hmap,h200⟩:=code_none h0;rw [hfl,hbl] at hlab
  have hslot:=h.slot
  rw [hlastB] at hslot;rw [hbl,hlastB,hslot]
  have hset:b.fs.set bi.length ⟨f.name,f.code++[piOf O bi.length (slotsP f.code) x.x]⟩=bi++[⟨f.name,f.code++[piOf O bi.length (slotsP f.code) x.x]⟩]:=by
   rw [<- hbl,hb,set_last]
  rw [hset]
  have hmid:=pi_mid (hx.x k4) hfit hmap O bi.length (slotsP f.code)
  have hpo:(piOf O bi.length (slotsP f.code) x.x).o=x.x.o:=rfl
  refine ⟨by simp only [hon];simp [hl],?_,h.wm,h.om,h.nf,h.nm,h.m8,?_,?_,?_,?_,h.mt,fun y hy=>?_,?_,fun i hi=>?_⟩
  ·show w.funcs=_
   rw [h.wf,hb];simp
  ·have:=h.f16
   rw [hb] at this;simpa using this
  ·show _=w.slots+x.x.o.slots
   have:=h.tot
   rw [hb,List.map_append,List.sum_append] at this;rw [List.map_append,List.sum_append]
   simp only [List.map_cons,List.map_nil,List.sum_cons,List.sum_nil,slots_app,hpo] at this ⊢
   omega
  ·show w.slots+x.x.o.slots<=200
   omega
  ·show slotsP f.code+x.x.o.slots=slotsP ((bi++[(⟨f.name,f.code++[piOf O bi.length (slotsP f.code) x.x]⟩:PFn)]).getD ((bi++[(⟨f.name,f.code++[piOf O bi.length (slotsP f.code) x.x]⟩:PFn)]).length - 1) ⟨[],[]⟩).code
   rw [getD_last,slots_app,hpo]
  ·rcases List.mem_append.1 hy with hy | hy
   ·exact h.fn y (by rw [hb];simp [hy])
   ·rw [List.mem_singleton.1 hy]
    exact h.fn f (by rw [hb];simp)
  ·simp only [hon]
   simp only [ho,hb] at hE
   refine each_last hl hE ?_
   have hF:=each_at hl hE
   refine ⟨?_,?_,fun p hp=>?_,fun y hy=>?_,fun p hp hj=>?_⟩
   ·show slotsP (f.code++_)=g.slots+x.x.o.slots
    rw [slots_app,hpo,hF.sl]
   ·show lastP (f.code++_)=x.x.o.ends
    rw [last_appC,hpo]
   ·simp only [withS_app,List.map_append,List.map_cons,List.map_nil,Nat.zero_add,List.mem_append,List.mem_singleton]
    rcases hF.labs p hp with e | e
    ·exact .inl (.inl e)
    ·exact .inl (.inr e)
   ·rcases List.mem_append.1 hy with hy | hy
    ·exact hF.mid y hy
    ·rw [List.mem_singleton.1 hy];exact hmid
   ·simp only [withS_app,List.mem_append,List.mem_singleton] at hp
    rcases hp with hp | rfl
    ·exact hF.lead p hp hj
    ·have hj':x.x.o.jumps=true:=hj
     rw [hj',Bool.true_and] at hlab
     have hL:hasLabP (O.fs.getD bi.length {}) x.x.r.label=true:=by simpa using hlab
     unfold hasLabP at hL
     simp only [Bool.and_eq_true,decide_eq_true_eq] at hL
     cases hv:labOf (O.fs.getD bi.length {}).labs x.x.r.label with
     | none=>rw [hv] at hL;exact absurd hL.1 (by decide)
     | some v =>
      rw [hv] at hL
      refine ⟨v,?_,⟨_,hv⟩,hL.2⟩
      show ((0+slotsP f.code:Nat):Int)+x.x.o.slots+jmpOf O bi.length (slotsP f.code) x.x=v
      unfold jmpOf;rw [hj',if_pos rfl,hv]
      simp only [Option.getD_some]
      omega
  ·exact h.en i (by rw [hb];simpa using hi)
 ·rw [if_neg k4] at h0 ⊢;rw [if_neg k4,if_neg k4];exact h
theorem J_all (O:OL) (L:List PLn) (hin:InF L):∀ (ls pre:List PLn) (n:Nat),pre++ls=L->JInvC O (outlineP pre) (buildP O pre) (pre.foldl stepP {})->(firstP O ls (pre.foldl stepP {}) n).1=0->(∀ x∈ls,x.In)->JInvC O (outlineP L) (buildP O L) (L.foldl stepP {})
 | [],pre,n,e,h,_,_=>by
  rw [List.append_nil] at e
  rw [<- e];exact h
 | x::ls,pre,n,e,h,h0,hx=>by
  have hlen:pre.length<L.length:=by rw [<- e];simp
  have hat:L[pre.length]=x:=by subst e;simp
  have htk:L.take pre.length=pre:=by subst e;simp
  rw [firstP] at h0
  by_cases hf:faultP O (pre.foldl stepP {}) x=0
  ·rw [if_pos hf] at h0
   have hst:=h.step (hx x (by simp)) hf (fun hk=>by
    have:=hin pre.length hlen (by rw [hat];exact hk)
    rw [htk] at this;exact this)
   have e1:outlineP (pre++[x])=outStep (outlineP pre) x:=by unfold outlineP;rw [List.foldl_append];rfl
   have e2:buildP O (pre++[x])=bStep O (buildP O pre) x:=by unfold buildP;rw [List.foldl_append];rfl
   have e3:(pre++[x]).foldl stepP {}=stepP (pre.foldl stepP {}) x:=by rw [List.foldl_append];rfl
   exact J_all O L hin ls (pre++[x]) (n+1) (by rw [<- e];simp) (by rw [e1,e2,e3];exact hst) (by rw [e3];exact h0) (fun y hy=>hx y (by simp [hy]))
  ·rw [if_neg hf] at h0;exact absurd h0 hf
theorem withS_bd:∀ (l:List PI) (s:Nat) (p:PI × Nat),p∈withS s l->p.2<=s+slotsP l
 | x::l,s,p,h=>by
  rw [withS] at h;rw [slots_cons]
  rcases List.mem_cons.1 h with rfl | h
  ·simp only;omega
  ·have:=withS_bd l _ p h;omega
theorem withS_of:∀ (l:List PI) (s:Nat) (x:PI),x∈l->∃ p∈withS s l,p.1=x
 | y::l,s,x,h=>by
  rw [withS]
  rcases List.mem_cons.1 h with rfl | h
  ·exact ⟨(x,s),by simp,rfl⟩
  ·obtain ⟨p,hp,e⟩:=withS_of l (s+y.o.slots) x h
   exact ⟨p,by simp [hp],e⟩
theorem rise_of:∀ (l:List (List UInt8)) (a:List UInt8),(∀ b∈l,ltL a b=true)->l.Pairwise (fun x y=>ltL x y=true)->riseL a l
 | [],_,_,_=>trivial
 | b::l,a,h,hp=>by
  obtain ⟨h1,h2⟩:=List.pairwise_cons.1 hp
  exact ⟨h b (by simp),rise_of l b h1 h2⟩
theorem strict_ofC {α:Type} {nm:α->List UInt8}:∀ {l:List α},l.Pairwise (fun x y=>ltB (T (nm y)) (T (nm x))=false)->(l.map nm).Nodup->(l.map nm).Pairwise (fun x y=>ltL x y=true)
 | [],_,_=>List.Pairwise.nil
 | a::l,h,hn=>by
  obtain ⟨h1,h2⟩:=List.pairwise_cons.1 h;rw [List.map_cons] at hn ⊢;obtain ⟨n1,n2⟩:=List.nodup_cons.1 hn
  refine List.pairwise_cons.2 ⟨fun b hb=>?_,strict_ofC h2 n2⟩
  obtain ⟨y,hy,rfl⟩:=List.mem_map.1 hb
  cases hq:ltL (nm a) (nm y) with
  | true=>rfl
  | false =>
   have e:T (nm a)=T (nm y):=ltB_total hq (h1 y hy)
   have e':nm a=nm y:=by
    have:=congrArg BL e
    simpa [BL,T] using this
   exact absurd (by rw [e'];exact hb) n1
theorem nil_lt {b:List UInt8} (h:nameB b=true):ltL [] b=true:=by
 cases b with
 | nil=>exact absurd h (by decide)
 | cons c l =>
  unfold ltL;rw [ltB_eq]
  simp [T]
theorem mem_sum:∀ (fs:List PFn) (f:PFn),f∈fs->slotsP f.code<=(fs.map (fun f=>slotsP f.code)).sum
 | g::fs,f,h=>by
  rw [List.map_cons,List.sum_cons]
  rcases List.mem_cons.1 h with rfl | h
  ·omega
  ·have:=mem_sum fs f h;omega
theorem good_built {ls:List PLn} (hl:∀ x∈ls,x.In) (hin:InF ls) (h0:(firstP (outlineP ls) ls {} 0).1=0) {ms:List PMap} {fs:List PFn} (pm:ms.Perm (buildP (outlineP ls) ls).ms) (sm:ms.Pairwise (fun x y=>ltB (T y.name) (T x.name)=false)) (pf:fs.Perm (buildP (outlineP ls) ls).fs) (sf:fs.Pairwise (fun x y=>ltB (T y.name) (T x.name)=false)):GoodP ms fs:=by
 have hJ:=J_all (outlineP ls) ls hin ls [] 0 rfl (JInvC.new _) h0 hl
 generalize outlineP ls=O at *;generalize buildP O ls=b at *;generalize ls.foldl stepP {}=w at *
 have hmn:(ms.map (·.name)).Nodup:=by
  rw [(pm.map (·.name)).nodup_iff]
  have:=hJ.nm
  rw [hJ.wm,(List.reverse_perm _).nodup_iff] at this;exact this
 have hfn:(fs.map (·.name)).Nodup:=by
  rw [(pf.map (·.name)).nodup_iff]
  have:=hJ.nf
  rw [hJ.wf,(List.reverse_perm _).nodup_iff] at this;exact this
 have hmt:∀ m∈ms,m.Told:=fun m hm=>hJ.mt m (pm.mem_iff.1 hm)
 have hft:∀ f∈fs,nameB f.name=true:=fun f hf=>hJ.fn f (pf.mem_iff.1 hf)
 have hsum:(fs.map (fun f=>slotsP f.code)).sum<=200:=by
  rw [(pf.map (fun f=>slotsP f.code)).sum_nat,hJ.tot];exact hJ.s200
 have hF:∀ f∈fs,∃ i,slotsP f.code<=200/\(O.fs.getD i {}).ends=true/\FInv O i f.code (O.fs.getD i {}):=fun f hf=>by
  obtain ⟨i,hi,e⟩:=List.getElem_of_mem (pf.mem_iff.1 hf)
  have hi':i<O.fs.length:=by rw [<- hJ.fl];exact hi
  refine ⟨i,?_,hJ.en i hi,?_⟩
  ·have:=mem_sum fs f hf
   omega
  ·have:=hJ.each i hi hi'
   rw [e] at this;rw [List.getD_eq_getElem?_getD,List.getElem?_eq_getElem hi'];exact this
 refine ⟨hmt,?_,by rw [pm.length_eq];exact hJ.m8,hft,?_,by rw [pf.length_eq];exact hJ.f16,hsum,fun f hf=>?_,fun f hf x hx=>?_⟩
 ·exact rise_of _ _ (fun b hb=>by
   obtain ⟨m,hm,rfl⟩:=List.mem_map.1 hb
   exact nil_lt (hmt m hm).nm) (strict_ofC sm hmn)
 ·exact rise_of _ _ (fun b hb=>by
   obtain ⟨f,hf,rfl⟩:=List.mem_map.1 hb
   exact nil_lt (hft f hf)) (strict_ofC sf hfn)
 ·obtain ⟨i,h200,hen,hI⟩:=hF f hf
  refine ⟨fun x hx=>?_,rfl,by rw [hI.ends];exact hen,fun p hp hj=>?_⟩
  ·have hM:=hI.mid x hx
   refine ⟨hM.k,?_,hM.n,hM.h,hM.needs,hM.one⟩
   cases hj:x.o.jumps with
   | false=>exact hM.j hj
   | true =>
    obtain ⟨p,hp,rfl⟩:=withS_of f.code 0 x hx;obtain ⟨v,e,_,hv⟩:=hI.lead p hp hj
    have h1:=withS_bd f.code 0 p hp
    have h2:=hI.sl
    have h3:p.1.o.slots<=2:=by
     have:∀ k:Fin 88,(rowK k).slots<=2:=by decide +kernel
     exact this ⟨p.1.k,hM.k⟩
    unfold PI.target at e
    omega
  ·obtain ⟨v,e,⟨l,hl'⟩,hv⟩:=hI.lead p hp hj
   refine ⟨v,e,?_⟩
   unfold labOf at hl';obtain ⟨q,hq,e2⟩:=map_some hl'
   rcases hI.labs q (List.mem_of_find?_eq_some hq) with e3 | e3
   ·rw [e2] at e3;exact e3
   ·have:=hI.sl
    omega
 ·obtain ⟨i,_,_,hI⟩:=hF f hf
  have hM:=hI.mid x hx
  refine ⟨hM.nm,hM.no,fun e=>?_⟩
  have h1:=hM.mp e
  rw [hJ.om,hJ.wm,List.mem_reverse] at h1
  exact (pm.map (·.name)).mem_iff.2 h1
theorem parse_in:∀ (ts:List (List UInt8)) (inF:Bool) (n:Nat) (acc ls:List PLn),parseP ts inF n acc=.inl ls->(∀ x∈acc,x.In)->∀ x∈ls,x.In
 | [],_,_,acc,ls,h,ha=>by
  rw [parseP] at h
  injection h with h
  subst h;exact ha
 | t::ts,inF,n,acc,ls,h,ha=>by
  rw [parseP] at h
  cases hl:lineP t with
  | none=>rw [hl] at h;cases h
  | some x =>
   rw [hl] at h
   dsimp only at h
   split at h
   ·cases h
   ·refine parse_in ts _ _ _ ls h (fun y hy=>?_)
    rcases List.mem_append.1 hy with hy | hy
    ·exact ha y hy
    ·rw [List.mem_singleton.1 hy];exact line_in hl
theorem forth_plain {l:List UInt8} {s:ByteArray} {n:Nat} (h:AsmR l s 0 n):n=0/\∃ q,s=T q/\∃ t,disP q=some t:=by
 unfold AsmR at h
 split at h
 ·exact absurd h.2.1 (by decide)
 ·split at h
  ·exact absurd h.2.1 (by decide)
  ·rename_i ls hp
   split at h
   ·rename_i h0
    obtain ⟨_,hn,ms,fs,pm,sm,pf,sf,rfl⟩:=h
    have hG:=good_built (parse_in _ _ _ _ _ hp (fun x hx=>by cases hx)) (parsed_ok hp).1 h0 pm sm pf sf
    refine ⟨hn,_,rfl,textP ms fs,?_⟩
    unfold disP;rw [decode_fw hG]
    rfl
   ·rename_i h0
    exact absurd h.2.1.symm h0
end Go.Proofs.YtnhcaifopaeohaaGreatDoor
