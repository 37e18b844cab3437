import Derived.Test.YtoknbkfclhmapaaGreatDoorC49
import Derived.Test.YtoknbkfclhmapaaGreatDoorC33
import Derived.Test.YtoknbkfclhmapaaGreatDoorC23
namespace Go.Proofs.YtoknbkfclhmapaaGreatDoor
open Go.RowKit
def numP (mn fn:List ByteArray) (x:PI):Int:=if x.refers=1 then placeM (T x.name) fn else if x.refers=2 then placeM (T x.name) mn else x.num
def PI.linked (mn fn:List ByteArray) (x:PI):PI:={ x with num:=numP mn fn x }
def PFn.linked (mn fn:List ByteArray) (f:PFn):PFn:=⟨f.name,f.code.map (PI.linked mn fn)⟩
structure PI.Named (mn fn:List ByteArray) (x:PI):Prop where
 nm:x.refers≠0->x.name≠[]
 f:x.refers=1->0<=placeM (T x.name) fn
 m:x.refers=2->0<=placeM (T x.name) mn
theorem refers_two {x:PI} (h:x.Ok):(x.refers=0)\/(x.refers=1/\x.s=1/\x.view.word=CALL)\/(x.refers=2/\x.s=1/\x.view.word=WIDE):=by
 by_cases h1:x.s=1
 ·have hr:=h.facts.refers
  have e:x.refers=x.o.refers:=by unfold PI.refers;rw [if_pos h1]
  rcases h.facts.kind with ⟨k,_⟩ | ⟨k,_⟩ | ⟨k,_⟩ | ⟨k,_⟩ | ⟨k,_,_,_,hW⟩ | ⟨k,_,hW⟩ | ⟨k,_⟩
  ·rw [k] at hr;exact .inl (by rw [e,hr];decide)
  ·rw [k] at hr;exact .inl (by rw [e,hr];decide)
  ·rw [k] at hr;exact .inl (by rw [e,hr];decide)
  ·rw [k] at hr;exact .inl (by rw [e,hr];decide)
  ·rw [k] at hr;exact .inr (.inr ⟨by rw [e,hr];decide,h1,hW⟩)
  ·rw [k] at hr;exact .inr (.inl ⟨by rw [e,hr];decide,h1,hW⟩)
  ·rw [k] at hr;exact .inl (by rw [e,hr];decide)
 ·exact .inl (by unfold PI.refers;rw [if_neg h1])
theorem toN_named {x:PI} (h:x.Ok) (hr:x.refers≠0) (hn:x.name≠[]):x.toN.word=x.view.word/\x.toN.name=T x.name:=by
 have hnm:nmOf x=T x.name:=by unfold nmOf;rw [if_neg hn]
 rcases refers_two h with e | ⟨_,h1,hW⟩ | ⟨_,h1,hW⟩
 ·exact absurd e hr
 ·have h99:sortM x.view.word=99:=by rw [hW];exact sort_facts.2.1
  unfold PI.toN PI.toI toI'
  dsimp only
  rw [if_neg (by rw [h99];decide),if_pos h99,if_pos h1,hnm]
  exact ⟨rfl,rfl⟩
 ·have h119:sortM x.view.word=119:=by rw [hW];exact sort_facts.1
  unfold PI.toN PI.toI toI'
  dsimp only
  rw [if_pos h119,if_pos h1,hnm]
  exact ⟨rfl,rfl⟩
theorem T_ne {l:List UInt8} (h:l≠[]):T l≠E0:=by
 intro e
 apply h
 have:=congrArg (fun b:ByteArray=>b.data.toList) e
 simpa [T] using this
theorem insU_eq {x:PI} (h:x.Ok) (mn fn:List ByteArray) (hm:mn.length<=1000) (hfl:fn.length<=1000) (hN:x.Named mn fn) (p:Nat) (lab:Labs) (hf:x.o.jumps=true->labelM (labName (x.target p)) lab=x.target p) :
  insU true mn fn lab (lblI p x,(p:Int))=pslotU (x.linked mn fn):=by
 unfold insU pslotU
 simp only
 have hb1:=placeM_bd (T x.name) fn
 have hb2:=placeM_bd (T x.name) mn
 refine (ins_eq h p lab hf _ (numP mn fn x) ?_ ?_).trans rfl
 ·by_cases hr:x.refers≠0
  ·rw [if_pos hr]
   obtain ⟨hw,hnm⟩:=toN_named h hr (hN.nm hr)
   unfold numU numP;rw [lblI_word,lblI_name,hw,hnm]
   rcases refers_two h with e | ⟨e,_,hW⟩ | ⟨e,_,hW⟩
   ·exact absurd e hr
   ·rw [if_pos e,if_pos ⟨rfl,hW⟩]
    have:=hN.f e
    omega
   ·rw [if_neg (by omega),if_pos e,if_neg (fun c=>sort_facts.2.2.2.2.2.1 (c.2.symm.trans hW)),if_pos ⟨rfl,hW,T_ne (hN.nm hr)⟩]
    have:=hN.m e
    omega
  ·rw [if_neg hr];unfold numP
   rw [if_neg (by omega),if_neg (by omega)]
 ·intro hr
  obtain ⟨hw,hnm⟩:=toN_named h hr (hN.nm hr)
  unfold numU;rw [lblI_word,lblI_name,hw,hnm]
  rcases refers_two h with e | ⟨e,_,hW⟩ | ⟨e,_,hW⟩
  ·exact absurd e hr
  ·rw [if_pos ⟨rfl,hW⟩]
   have:=hN.f e
   omega
  ·rw [if_neg (fun c=>sort_facts.2.2.2.2.2.1 (c.2.symm.trans hW)),if_pos ⟨rfl,hW,T_ne (hN.nm hr)⟩]
   have:=hN.m e
   omega
theorem code_eq (mn fn:List ByteArray) (hm:mn.length<=1000) (hfl:fn.length<=1000) (lab:Labs):∀ (l:List PI) (p:Nat),(∀ x∈l,x.Ok/\x.Named mn fn)->Found lab p l->((lblL p l).zip (posL p l)).flatMap (insU true mn fn lab)=(l.map (PI.linked mn fn)).flatMap pslotU
 | [],_,_,_=>rfl
 | x::l,p,h,hF=>by
  rw [lblL,posL,List.zip_cons_cons,List.flatMap_cons,List.map_cons,List.flatMap_cons,code_eq mn fn hm hfl lab l _ (fun y hy=>h y (List.mem_cons_of_mem _ hy)) hF.2,
   insU_eq (h x (by simp)).1 mn fn hm hfl (h x (by simp)).2 p lab (fun hj=>(hF.1 hj).1)]
structure FPair (mn fn:List ByteArray) (f:PFn) (r:RFn) (o:FOut):Prop where
 nm:r.name=T f.name
 sl:r.slots=slotsP f.code
 rel:FRel f o
 ok:∀ x∈f.code,x.Ok/\x.Named mn fn
 fd:Found o.lab 0 f.code
def FPairs (mn fn:List ByteArray):List PFn->List RFn->List FOut->Prop
 | [],[],[]=>True
 | f::fs,r::rs,o::os=>FPair mn fn f r o/\FPairs mn fn fs rs os
 | _,_,_=>False
theorem FPairs.heads {mn fn:List ByteArray}:∀ {fs:List PFn} {rs:List RFn} {os:List FOut},FPairs mn fn fs rs os->headsU rs=(fs.map (PFn.linked mn fn)).flatMap pheadU/\rs.length=fs.length
 | [],[],[],_=>⟨rfl,rfl⟩
 | f::fs,r::rs,o::os,h=>by
  obtain ⟨h1,h2⟩:=FPairs.heads h.2
  constructor
  ·have e:slotsP (f.code.map (PI.linked mn fn))=slotsP f.code:=by
    unfold slotsP;rw [List.map_map]
    rfl
   rw [headsU,List.flatMap_cons,List.map_cons,List.flatMap_cons,<- h1]
   congr 1
   unfold headU pheadU PFn.linked;rw [h.1.nm,h.1.sl,e]
  ·simp [h2]
 | [],[],_::_,h=>h.elim
 | [],_::_,_,h=>h.elim
 | _::_,[],_,h=>h.elim
 | _::_,_::_,[],h=>h.elim
theorem FPairs.codes {mn fn:List ByteArray} (hm:mn.length<=1000) (hfl:fn.length<=1000):∀ {fs:List PFn} {rs:List RFn} {os:List FOut},FPairs mn fn fs rs os->fnsU true mn fn os=(fs.map (PFn.linked mn fn)).flatMap pcodeU
 | [],[],[],_=>rfl
 | f::fs,r::rs,o::os,h=>by
  rw [fnsU,List.flatMap_cons,List.map_cons,List.flatMap_cons,<- FPairs.codes hm hfl h.2]
  congr 1
  unfold fnU pcodeU PFn.linked;rw [h.1.rel.ls,h.1.rel.ats];exact code_eq mn fn hm hfl o.lab f.code 0 h.1.ok h.1.fd
 | [],[],_::_,h=>h.elim
 | [],_::_,_,h=>h.elim
 | _::_,[],_,h=>h.elim
 | _::_,_::_,[],h=>h.elim
theorem image_eq (ms:List PMap) (fs:List PFn) (rs:List RFn) (os:List FOut) (hm:ms.length<=1000) (hf:fs.length<=1000) (h:FPairs ((ms.map PMap.toR).map (·.name)) (rs.map (·.name)) fs rs os) :
  bytesU true (ms.map PMap.toR) rs os=encU 2 ms (fs.map (PFn.linked ((ms.map PMap.toR).map (·.name)) (rs.map (·.name)))):=by
 obtain ⟨h1,h2⟩:=h.heads;unfold bytesU encU
 rw [h1,h.codes (by simpa using hm) (by simpa [h2] using hf),h2]
 have e1:mapsU (ms.map PMap.toR)=ms.flatMap pmapU:=by
  unfold mapsU;rw [List.flatMap_map]
  rfl
 rw [e1]
 simp [b8]
theorem uniq_rise {α:Type} {R:α->α->Prop} (ha:∀ x y,R x y->¬ R y x):∀ {l k:List α},l.Pairwise R->k.Pairwise R->(∀ x,x∈l ↔ x∈k)->l=k
 | [],[],_,_,_=>rfl
 | [],b::k,_,_,h=>absurd ((h b).2 (by simp)) (by simp)
 | a::l,[],_,_,h=>absurd ((h a).1 (by simp)) (by simp)
 | a::l,b::k,h1,h2,h=>by
  rw [List.pairwise_cons] at h1 h2
  have e:a=b:=by
   by_cases e:a=b
   ·exact e
   ·exfalso
    have p1:a∈k:=by
     rcases List.mem_cons.1 ((h a).1 (by simp)) with c | c
     ·exact absurd c e
     ·exact c
    have p2:b∈l:=by
     rcases List.mem_cons.1 ((h b).2 (by simp)) with c | c
     ·exact absurd c.symm e
     ·exact c
    exact ha _ _ (h1.1 b p2) (h2.1 a p1)
  subst e
  congr 1
  refine uniq_rise ha h1.2 h2.2 (fun x=>⟨fun hx=>?_,fun hx=>?_⟩)
  ·rcases List.mem_cons.1 ((h x).1 (List.mem_cons_of_mem _ hx)) with c | c
   ·subst c;exact absurd (h1.1 _ hx) (fun r=>ha _ _ r r)
   ·exact c
  ·rcases List.mem_cons.1 ((h x).2 (List.mem_cons_of_mem _ hx)) with c | c
   ·subst c;exact absurd (h2.1 _ hx) (fun r=>ha _ _ r r)
   ·exact c
theorem perm_lift {α β:Type} (f:α->β) {l k:List β} (h:l.Perm k):∀ L:List α,L.map f=k->∃ L':List α,L'.Perm L/\L'.map f=l:=by
 induction h with
 | nil=>intro L e;exact ⟨L,.refl _,e⟩
 | cons x _ ih =>
  intro L e
  cases L with
  | nil=>simp at e
  | cons a L =>
   rw [List.map_cons] at e
   injection e with e1 e2
   obtain ⟨L',p,q⟩:=ih L e2
   exact ⟨a::L',p.cons a,by rw [List.map_cons,e1,q]⟩
 | swap x y l =>
  intro L e
  match L,e with
  | a::b::L,e =>
   rw [List.map_cons,List.map_cons] at e
   injection e with e1 e2
   injection e2 with e2 e3
   exact ⟨b::a::L,.swap _ _ _,by rw [List.map_cons,List.map_cons,e1,e2,e3]⟩
 | trans _ _ ih1 ih2 =>
  intro L e;obtain ⟨L2,p2,q2⟩:=ih2 L e;obtain ⟨L1,p1,q1⟩:=ih1 L2 q2
  exact ⟨L1,p1.trans p2,q1⟩
def Mapped (ms:List PMap) (x:PI):Prop:=x.refers=2->hasMapP ms x.name=true
theorem refsI_maps (ms:List PMap) (n:Nat):∀ (l:List PI) (slot:Nat) (left:Int) (q:PR) (acc:List PI),(refsI ms n slot l left q acc).2.2.bad=false->(∀ y∈acc,Mapped ms y)->∀ y∈(refsI ms n slot l left q acc).1,Mapped ms y
 | [],_,_,_,_,_,h=>h
 | x::l,slot,left,q,acc,hb,h=>by
  rw [refsI] at hb ⊢
  split
  ·rename_i hr
   rw [if_pos hr] at hb
   refine refsI_maps ms n l _ _ _ _ hb (fun y hy=>?_)
   rcases List.mem_append.1 hy with hy | hy
   ·exact h y hy
   ·rw [List.mem_singleton.1 hy];intro h2
    have h2':x.refers=2:=h2
    show hasMapP ms (refP n slot q).1=true
    refine Classical.byContradiction fun c0=>?_
    have c:hasMapP ms (refP n slot q).1=false:=by simpa using c0
    ·skip
     have:=refsI_bad ms n l (slot+x.o.slots) (left - 1) (wantP (decide (x.refers≠2)||hasMapP ms (refP n slot q).1) (wantP (decide (x.num=0)) (refP n slot q).2)) (acc++[{ x with name:=(refP n slot q).1 }]) (by simp [wantP,h2',c])
     rw [this] at hb
     cases hb
  ·rename_i hr
   rw [if_neg hr] at hb
   refine refsI_maps ms n l _ _ _ _ hb (fun y hy=>?_)
   rcases List.mem_append.1 hy with hy | hy
   ·exact h y hy
   ·rw [List.mem_singleton.1 hy];intro h2
    exact absurd (by rw [h2];decide:x.refers≠0) hr
theorem refsF_maps (ms:List PMap):∀ (fs done:List PFn) (left:Int) (q:PR),(refsF ms done fs left q).2.2.bad=false->(∀ f∈done,∀ y∈f.code,Mapped ms y)->∀ f∈(refsF ms done fs left q).1,∀ y∈f.code,Mapped ms y
 | [],_,_,_,_,h=>h
 | g::fs,done,left,q,hb,h=>by
  rw [refsF] at hb ⊢
  refine refsF_maps ms fs _ _ _ hb (fun f hf=>?_)
  rcases List.mem_append.1 hf with hf | hf
  ·exact h f hf
  ·rw [List.mem_singleton.1 hf]
   refine refsI_maps ms _ _ _ _ _ _ ?_ (fun _ h=>by cases h)
   cases c:(refsI ms done.length 0 g.code left q []).2.2.bad with
   | false=>rfl
   | true=>rw [refsF_bad ms _ _ _ _ c] at hb;cases hb
theorem want_good {c:Bool} {q:PR} (h:(wantP c q).bad=false):q.bad=false:=by
 cases e:q.bad with
 | false=>rfl
 | true=>rw [want_bad _ _ e] at h;cases h
theorem decode_maps (l:List UInt8) (hb:(decodeP l).2.2.bad=false):∀ f∈(decodeP l).2.1,∀ y∈f.code,Mapped (decodeP l).1 y:=by
 unfold decodeP at hb ⊢
 dsimp only at hb ⊢
 have h1:=want_good hb
 unfold refsP at h1 ⊢
 dsimp only at h1 ⊢
 exact refsF_maps _ _ _ _ _ (want_good h1) (fun _ h=>by cases h)
theorem rdMaps_255 (s:ByteArray):∀ (n:Nat) (r:RS) (acc:List RMap),(∀ m∈acc,m.name.size<=255)->∀ m∈(rdMaps s n r acc).1,m.name.size<=255
 | 0,_,_,h=>h
 | n+1,r,acc,h=>by
  rw [rdMaps]
  split
  ·exact h
  ·refine rdMaps_255 s n _ _ (fun m hm=>?_)
   rcases List.mem_append.1 hm with hm | hm
   ·exact h m hm
   ·rw [List.mem_singleton.1 hm];exact rnm_size s r
theorem open_more (s:ByteArray) (o:List RMap × List RFn × List FOut) (h:openM s=some o):(∀ m∈o.1,m.name.size<=255)/\namesR none (o.2.1.map (·.name))=true:=by
 unfold openM at h
 split at h
 ·cases h
 ·dsimp only at h
  unfold openMid at h
  split at h
  ·cases h
  ·rename_i hr
   have hrise:risingM (rdMaps s (rb s ⟨5,false⟩).1 (rb s ⟨5,false⟩).2 []).1 (rdFns s (rb s (rdMaps s (rb s ⟨5,false⟩).1 (rb s ⟨5,false⟩).2 []).2).1 (rb s (rdMaps s (rb s ⟨5,false⟩).1 (rb s ⟨5,false⟩).2 []).2).2 [] 0).1=true:=by
    cases c:risingM (rdMaps s (rb s ⟨5,false⟩).1 (rb s ⟨5,false⟩).2 []).1 (rdFns s (rb s (rdMaps s (rb s ⟨5,false⟩).1 (rb s ⟨5,false⟩).2 []).2).1 (rb s (rdMaps s (rb s ⟨5,false⟩).1 (rb s ⟨5,false⟩).2 []).2).2 [] 0).1 with
    | true=>rfl
    | false=>exact absurd (.inr (.inl c)) hr
   unfold risingM at hrise
   simp only [Bool.and_eq_true] at hrise
   split at h
   ·cases h
   ·split at h
    ·cases h
    ·split at h
     ·cases h
      exact ⟨rdMaps_255 s _ _ _ (fun _ h=>by cases h),hrise.2⟩
     ·cases h
structure Trip (mp:List PMap) (f:PFn) (r:RFn) (o:FOut):Prop where
 nm:r.name=T f.name
 sl:r.slots=slotsP f.code
 rel:FRel f o
 ok:∀ x∈f.code,x.Ok/\(x.refers≠0->nameB x.name=true)/\Mapped mp x
 fd:Found o.lab 0 f.code
 nb:nameB f.name=true
 sb:slotsP f.code<=200
def Trips (mp:List PMap):List PFn->List RFn->List FOut->Prop
 | [],[],[]=>True
 | f::fs,r::rs,o::os=>Trip mp f r o/\Trips mp fs rs os
 | _,_,_=>False
theorem trip_of (mp:List PMap) (h:PHead) (g f:PFn) (o:FOut) (hg:g.name=h.name/\g.Ok h.slots) (hs:f.name=g.name/\SameL g.code f.code) (ho:FRel f o) (hsl:h.slots<=200/\nameB h.name=true) (hm:∀ x∈f.code,Mapped mp x):Trip mp f h.toR o:=by
 obtain ⟨st,hst,hld⟩:=hg.2.ld
 have hsl':slotsP f.code=h.slots:=(hs.2.slots 0).2.symm.trans hg.2.sl
 rw [hs.2.lead] at hld
 obtain ⟨_,hfd⟩:=labs_found st (by rw [hst.1];exact hsl.1) f.code 0 [] (fun x hx=>by cases hx) hld
 have hnm:=same_names hs.2 hg.2.ok
 refine ⟨by rw [hs.1,hg.1];rfl,by rw [hsl'];rfl,ho,fun x hx=>⟨(hnm x hx).1,(hnm x hx).2,hm x hx⟩,by rw [ho.lab];exact hfd,by rw [hs.1,hg.1];exact hsl.2,by rw [hsl'];exact hsl.1⟩
theorem trips_of (mp:List PMap):∀ (hs:List PHead) (gs fs:List PFn) (os:List FOut),HOk hs gs->SameF gs fs->FRels fs os->(∀ h∈hs,h.slots<=200/\nameB h.name=true)->(∀ f∈fs,∀ x∈f.code,Mapped mp x)->Trips mp fs (hs.map PHead.toR) os
 | [],[],[],[],_,_,_,_,_=>trivial
 | h::hs,g::gs,f::fs,o::os,h1,h2,h3,h4,h5 =>
  ⟨trip_of mp h g f o h1.1 h2.1 h3.1 (h4 h (by simp)) (h5 f (by simp)),trips_of mp hs gs fs os h1.2 h2.2 h3.2 (fun x hx=>h4 x (List.mem_cons_of_mem _ hx)) (fun x hx=>h5 x (List.mem_cons_of_mem _ hx))⟩
theorem Trips.len {mp:List PMap}:∀ {fs:List PFn} {rs:List RFn} {os:List FOut},Trips mp fs rs os->rs.length=fs.length/\os.length=fs.length
 | [],[],[],_=>⟨rfl,rfl⟩
 | f::fs,r::rs,o::os,h=>by
  have:=Trips.len h.2
  simp [this.1,this.2]
 | [],[],_::_,h=>h.elim
 | [],_::_,_,h=>h.elim
 | _::_,[],_,h=>h.elim
 | _::_,_::_,[],h=>h.elim
structure Same (d:List PMap × List PFn) (o:List RMap × List RFn × List FOut):Prop where
 me:o.1=d.1.map PMap.toR
 mr:mapsR none (d.1.map PMap.toR)=true
 nr:namesR none (o.2.1.map (·.name))=true
 tr:Trips d.1 d.2 o.2.1 o.2.2
 ok:OpenOk o.1 o.2.1 o.2.2
 ml:d.1.length<=8
 fl:d.2.length<=16
 mb:∀ m∈d.1,m.name.length<=255/\m.key<=255/\m.value<=255/\m.entries<=255
 fb:∀ f∈d.2,f.name.length<=255/\f.code.length<=200
theorem lblL_len:∀ (l:List PI) (p:Nat),(lblL p l).length=l.length
 | [],_=>rfl
 | x::l,p=>by rw [lblL,List.length_cons,List.length_cons,lblL_len l]
theorem Trips.bounds {mp:List PMap}:∀ {fs:List PFn} {rs:List RFn} {os:List FOut},Trips mp fs rs os->All2 (fun f o=>FOk f.slots o) rs os->∀ f∈fs,f.name.length<=255/\f.code.length<=200
 | [],[],[],_,_,_,h=>by cases h
 | f::fs,r::rs,o::os,h,ha,g,hg=>by
  rcases List.mem_cons.1 hg with rfl | hg
  ·constructor
   ·have:=h.1.nb
    unfold nameB at this
    simp only [Bool.and_eq_true,decide_eq_true_eq] at this
    omega
   ·have:=ha.1.ll
    rw [h.1.rel.ls,lblL_len] at this;exact this
  ·exact Trips.bounds h.2 ha.2 g hg
 | [],[],_::_,h,_,_,_=>h.elim
 | [],_::_,_,h,_,_,_=>h.elim
 | _::_,[],_,h,_,_,_=>h.elim
 | _::_,_::_,[],h,_,_,_=>h.elim
theorem BL_T (l:List UInt8):BL (T l)=l:=rfl
theorem same_of (l:List UInt8):((decodeP l).2.2.bad=false->∃ o,openM (T l)=some o/\Same ((decodeP l).1,(decodeP l).2.1) o)/\((decodeP l).2.2.bad=true->openM (T l)=none):=by
 have hd:=decode_sim (T l)
 rw [BL_T] at hd
 refine ⟨fun hb=>?_,hd.2⟩
 obtain ⟨o,ho,hO⟩:=hd.1 hb
 refine ⟨o,ho,?_⟩
 obtain ⟨hs,gs,e1,e2,e3,e4,e5⟩:=hO.ex
 have hok:=open_ok (T l) o ho
 have hmore:=open_more (T l) o ho
 have htr:Trips (decodeP l).1 (decodeP l).2.1 o.2.1 o.2.2:=by
  rw [e1];exact trips_of _ hs gs _ _ e2 e3 hO.rel e4 (decode_maps l hb)
 refine ⟨hO.me,hO.mr,hmore.2,htr,hok,hO.ml,by rw [<- htr.len.1];exact hok.fl,fun m hm=>?_,htr.bounds hok.a⟩
 have hm1:m.toR∈o.1:=by rw [hO.me];exact List.mem_map.2 ⟨m,hm,rfl⟩
 have hm2:=hok.m _ hm1
 have hm3:=hmore.1 _ hm1
 have k1:=hm2.k1
 have k2:=hm2.v1
 have k3:=hm2.e1
 have z:(T m.name).size=m.name.length:=by simp [T,ByteArray.size]
 have h3:(T m.name).size<=255:=hm3
 have k1':(m.key:Int)<=255:=k1
 have k2':(m.value:Int)<=255:=k2
 have k3':(m.entries:Int)<=255:=k3
 exact ⟨by omega,by omega,by omega,by omega⟩
end Go.Proofs.YtoknbkfclhmapaaGreatDoor
