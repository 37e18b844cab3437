import Derived.Test.YtoknbkfclhmapaaGreatDoorC50
import Derived.Test.YtoknbkfclhmapaaGreatDoorC56
import Derived.Test.YtoknbkfclhmapaaGreatDoorC55
import Derived.Test.YtoknbkfclhmapaaGreatDoorC46
import Derived.Laws.CopyOwn
import Derived.Test.YtoknbkfclhmapaaGreatDoorC23
namespace Go.Proofs.YtoknbkfclhmapaaGreatDoor
open Go.RowKit
def Sames:List (List PMap × List PFn)->List DO->Prop
 | [],[]=>True
 | d::ds,o::os=>Same d o/\Sames ds os
 | _,_=>False
theorem sames_of:∀ objs:List (List UInt8),Sames (decsP objs) (docsM objs)
 | []=>trivial
 | s::l=>by
  rw [decsP,docsM];obtain ⟨h1,h2⟩:=same_of s
  cases c:(decodeP s).2.2.bad with
  | true=>rw [h2 c,if_pos rfl];trivial
  | false =>
   obtain ⟨o,ho,hs⟩:=h1 c
   rw [ho,if_neg (by decide)]
   exact ⟨hs,sames_of l⟩
theorem Sames.len:∀ {ds:List (List PMap × List PFn)} {os:List DO},Sames ds os->ds.length=os.length
 | [],[],_=>rfl
 | d::ds,o::os,h=>by rw [List.length_cons,List.length_cons,Sames.len h.2]
 | [],_::_,h=>h.elim
 | _::_,[],h=>h.elim
theorem Sames.ok:∀ {ds:List (List PMap × List PFn)} {os:List DO},Sames ds os->∀ d∈ds,PartOk d
 | [],[],_,_,h=>by cases h
 | d::ds,o::os,h,e,he=>by
  rcases List.mem_cons.1 he with rfl | he
  ·exact ⟨h.1.ml,h.1.fl,h.1.mb,h.1.fb⟩
  ·exact Sames.ok h.2 e he
 | [],_::_,h,_,_=>h.elim
 | _::_,[],h,_,_=>h.elim
theorem Trips.names {mp:List PMap}:∀ {fs:List PFn} {rs:List RFn} {os:List FOut},Trips mp fs rs os->rs.map (·.name)=fs.map (fun f=>T f.name)
 | [],[],[],_=>rfl
 | f::fs,r::rs,o::os,h=>by rw [List.map_cons,List.map_cons,Trips.names h.2,h.1.nm]
 | [],[],_::_,h=>h.elim
 | [],_::_,_,h=>h.elim
 | _::_,[],_,h=>h.elim
 | _::_,_::_,[],h=>h.elim
theorem Sames.names:∀ {ds:List (List PMap × List PFn)} {os:List DO},Sames ds os->os.map (fun o=>o.2.1.map (·.name))=ds.map (fun p=>p.2.map (fun f=>T f.name))
 | [],[],_=>rfl
 | d::ds,o::os,h=>by rw [List.map_cons,List.map_cons,Sames.names h.2,h.1.tr.names]
 | [],_::_,h=>h.elim
 | _::_,[],h=>h.elim
theorem Sames.maps:∀ {ds:List (List PMap × List PFn)} {os:List DO},Sames ds os->os.map (·.1)=(ds.map (·.1)).map (List.map PMap.toR)
 | [],[],_=>rfl
 | d::ds,o::os,h=>by rw [List.map_cons,List.map_cons,List.map_cons,Sames.maps h.2,h.1.me]
 | [],_::_,h=>h.elim
 | _::_,[],h=>h.elim
theorem namesR_rise:∀ (l:List ByteArray) (p:Option ByteArray),namesR p l=true->l.Pairwise (fun x y=>ltB x y=true)/\∀ a,p=some a->∀ x∈l,ltB a x=true
 | [],_,_=>⟨.nil,fun _ _ _ h=>by cases h⟩
 | n::l,p,h=>by
  rw [namesR,Bool.and_eq_true] at h;obtain ⟨h1,h2⟩:=namesR_rise l _ h.2
  refine ⟨List.pairwise_cons.2 ⟨fun x hx=>h2 n rfl x hx,h1⟩,fun a ha x hx=>?_⟩
  subst ha
  have hb:ltB a n=true:=h.1
  rcases List.mem_cons.1 hx with rfl | hx
  ·exact hb
  ·exact ltB_trans hb (h2 n rfl x hx)
theorem dupIn_iff:∀ (p seen:List ByteArray),p.Pairwise (fun x y=>ltB x y=true)->(dupIn seen p=true ↔ ∃ s∈p,s∈seen)
 | [],seen,_=>by simp [dupIn]
 | s::l,seen,h=>by
  rw [List.pairwise_cons] at h;rw [dupIn]
  by_cases c:s∈seen
  ·rw [if_pos ((inL_iff s seen).2 c)]
   exact ⟨fun _=>⟨s,by simp,c⟩,fun _=>rfl⟩
  ·rw [if_neg (by rw [inL_not s seen c];decide),dupIn_iff l _ h.2]
   constructor
   ·rintro ⟨x,hx,hs⟩
    rcases List.mem_cons.1 hs with rfl | hs
    ·have:=h.1 x hx;rw [ltB_irrefl] at this;cases this
    ·exact ⟨x,List.mem_cons_of_mem _ hx,hs⟩
   ·rintro ⟨x,hx,hs⟩
    rcases List.mem_cons.1 hx with rfl | hx
    ·exact absurd hs c
    ·exact ⟨x,hx,List.mem_cons_of_mem _ hs⟩
theorem twice_eq:∀ (l:List (List ByteArray)) (i:Nat) (seen acc:List ByteArray),(∀ p∈l,p.Pairwise (fun x y=>ltB x y=true))->(∀ s,s∈seen ↔ s∈acc)->twiceP i seen l=dtw i acc l
 | [],_,_,_,_,_=>rfl
 | p::l,i,seen,acc,h,hs=>by
  rw [twiceP,dtw]
  have e:dupIn seen p=p.any (fun s=>decide (0<=placeM s acc)):=by
   rw [Bool.eq_iff_iff,dupIn_iff p seen (h p (by simp)),List.any_eq_true]
   constructor
   ·rintro ⟨s,h1,h2⟩;exact ⟨s,h1,by rw [decide_eq_true_eq,(place_mem s acc).1];exact (hs s).1 h2⟩
   ·rintro ⟨s,h1,h2⟩;rw [decide_eq_true_eq,(place_mem s acc).1] at h2;exact ⟨s,h1,(hs s).2 h2⟩
  rw [e,twice_eq l (i+1) (p.reverse++seen) (acc++p) (fun q hq=>h q (List.mem_cons_of_mem _ hq)) (fun s=>by simp [hs s,or_comm])]
theorem Sames.rise:∀ {ds:List (List PMap × List PFn)} {os:List DO},Sames ds os->∀ p∈os.map (fun o=>o.2.1.map (·.name)),p.Pairwise (fun x y=>ltB x y=true)
 | [],[],_,_,h=>by cases h
 | d::ds,o::os,h,e,he=>by
  rw [List.map_cons] at he
  rcases List.mem_cons.1 he with rfl | he
  ·exact (namesR_rise _ _ h.1.nr).1
  ·exact Sames.rise h.2 e he
 | [],_::_,h,_,_=>h.elim
 | _::_,[],h,_,_=>h.elim
theorem twice_none:∀ (l:List (List ByteArray)) (i:Nat) (seen:List ByteArray),(∀ p∈l,p.Pairwise (fun x y=>ltB x y=true))->dtw i seen l=-1->l.flatten.Pairwise (fun x y=>x≠y)/\∀ x∈l.flatten,x ∉ seen
 | [],_,_,_,_=>⟨.nil,fun _ h=>by cases h⟩
 | p::l,i,seen,h,h1=>by
  rw [dtw] at h1
  split at h1
  ·omega
  ·rename_i hany
   obtain ⟨a,b⟩:=twice_none l _ _ (fun q hq=>h q (List.mem_cons_of_mem _ hq)) h1
   have hno:∀ x∈p,x ∉ seen:=by
    intro x hx hc
    apply hany
    rw [List.any_eq_true]
    exact ⟨x,hx,by rw [decide_eq_true_eq,(place_mem x seen).1];exact hc⟩
   rw [List.flatten_cons]
   refine ⟨List.pairwise_append.2 ⟨(h p (by simp)).imp (fun {x y} hxy e=>?_),a,fun x hx y hy e=>?_⟩,fun x hx=>?_⟩
   ·subst e;rw [ltB_irrefl] at hxy;cases hxy
   ·subst e;exact b x hy (by simp [hx])
   ·rcases List.mem_append.1 hx with hx | hx
    ·exact hno x hx
    ·exact fun c=>b x hx (by simp [c])
structure MRel (seen:List PMap) (acc:List RMap):Prop where
 un:∀ a∈seen,∀ b∈seen,a.name=b.name->a=b
 me:∀ r,r∈acc ↔ ∃ a∈seen,a.toR=r
 nd:acc.Pairwise (fun x y=>x.name≠y.name)
theorem toR_inj {a b:PMap} (h:a.toR=b.toR):a=b:=by
 unfold PMap.toR at h
 injection h with h1 h2 h3 h4
 cases a;cases b
 simp only at h1 h2 h3 h4
 have h5:=T_inj h1
 have h6:∀ {x y:Nat},(x:Int)=(y:Int)->x=y:=fun h=>by omega
 rw [h5,h6 h2,h6 h3,h6 h4]
theorem place_at (nm:ByteArray):∀ (acc:List RMap),0<=placeM nm (acc.map (·.name))->(atR acc (placeM nm (acc.map (·.name))).toNat)∈acc/\(atR acc (placeM nm (acc.map (·.name))).toNat).name=nm
 | [],h=>absurd h (by simp [placeM])
 | r::acc,h=>by
  rw [List.map_cons,placeM] at h ⊢
  by_cases e:r.name=nm
  ·rw [if_pos e];exact ⟨by simp [atR],by simp [atR,e]⟩
  ·rw [if_neg e] at h ⊢
   by_cases c:placeM nm (acc.map (·.name))<0
   ·rw [if_pos c] at h;exact absurd h (by decide)
   ·rw [if_neg c] at h ⊢
    obtain ⟨h1,h2⟩:=place_at nm acc (by omega)
    have e2:(placeM nm (acc.map (·.name))+1).toNat=(placeM nm (acc.map (·.name))).toNat+1:=by omega
    rw [e2]
    have e3:atR (r::acc) ((placeM nm (acc.map (·.name))).toNat+1)=atR acc (placeM nm (acc.map (·.name))).toNat:=by simp [atR]
    rw [e3]
    exact ⟨List.mem_cons_of_mem _ h1,h2⟩
theorem clash_iff {seen:List PMap} (un:∀ a∈seen,∀ b∈seen,a.name=b.name->a=b) (m:PMap):clash seen m=true ↔ ∃ a∈seen,a.name=m.name/\a≠m:=by
 unfold clash
 cases hf:seen.find? (fun a=>decide (T a.name=T m.name)) with
 | none =>
  rw [List.find?_eq_none] at hf
  constructor
  ·intro h;cases h
  ·rintro ⟨a,ha,e,_⟩;exact absurd (hf a ha) (by simp [e])
 | some a =>
  have hm:=List.mem_of_find?_eq_some hf
  have hn:=List.find?_some hf
  have hn':a.name=m.name:=T_inj (by simpa using hn)
  show (!sameM a m)=true ↔ _
  rw [Bool.not_eq_true',<- Bool.not_eq_true,sameM_iff]
  constructor
  ·intro h;exact ⟨a,hm,hn',h⟩
  ·rintro ⟨b,hb,e,hne⟩ h
   exact hne ((un b hb a hm (e.trans hn'.symm)).trans h)
theorem dcl_eq {seen:List PMap} {acc:List RMap} (h:MRel seen acc) (m:PMap):dcl acc m.toR=clash seen m:=by
 rw [Bool.eq_iff_iff,clash_iff h.un];unfold dcl;rw [Bool.and_eq_true,decide_eq_true_eq,Bool.not_eq_true',<- Bool.not_eq_true,sameR_iff]
 constructor
 ·rintro ⟨h1,h2⟩
  obtain ⟨p1,p2⟩:=place_at _ acc h1
  obtain ⟨a,ha,e⟩:=(h.me _).1 p1
  rw [<- e] at h2 p2
  exact ⟨a,ha,T_inj p2,fun c=>h2 (by rw [c])⟩
 ·rintro ⟨a,ha,e,hne⟩
  have hin:a.toR∈acc:=(h.me _).2 ⟨a,ha,rfl⟩
  have h1:0<=placeM m.toR.name (acc.map (·.name)):=by
   rw [(place_mem _ _).1]
   exact List.mem_map.2 ⟨a.toR,hin,by show T a.name=T m.name;rw [e]⟩
  refine ⟨h1,fun c=>?_⟩
  obtain ⟨p1,p2⟩:=place_at _ acc h1;rw [c] at p1
  obtain ⟨b,hb,eb⟩:=(h.me _).1 p1
  have:=toR_inj eb
  subst this
  exact hne (h.un a ha b hb e)
theorem MRel.next {seen:List PMap} {acc:List RMap} (h:MRel seen acc) (m:PMap) (hc:clash seen m=false):MRel (m::seen) (dnext acc m.toR):=by
 have hno:∀ a∈seen,a.name=m.name->a=m:=by
  intro a ha e
  by_cases c:a=m
  ·exact c
  ·have:=(clash_iff h.un m).2 ⟨a,ha,e,c⟩;rw [hc] at this;cases this
 refine ⟨fun a ha b hb e=>?_,fun r=>?_,?_⟩
 ·rcases List.mem_cons.1 ha with ha1 | ha1<;>rcases List.mem_cons.1 hb with hb1 | hb1
  ·rw [ha1,hb1]
  ·rw [ha1] at e ⊢;exact (hno b hb1 e.symm).symm
  ·rw [hb1] at e ⊢;exact hno a ha1 e
  ·exact h.un a ha1 b hb1 e
 ·unfold dnext
  split
  ·rw [List.mem_append,h.me]
   constructor
   ·rintro (⟨a,ha,e⟩ | e)
    ·exact ⟨a,List.mem_cons_of_mem _ ha,e⟩
    ·exact ⟨m,by simp,(List.mem_singleton.1 e).symm⟩
   ·rintro ⟨a,ha,e⟩
    rcases List.mem_cons.1 ha with rfl | ha
    ·exact .inr (by simp [e])
    ·exact .inl ⟨a,ha,e⟩
  ·rename_i hp
   rw [h.me]
   constructor
   ·rintro ⟨a,ha,e⟩;exact ⟨a,List.mem_cons_of_mem _ ha,e⟩
   ·rintro ⟨a,ha,e⟩
    rcases List.mem_cons.1 ha with rfl | ha
    ·obtain ⟨p1,p2⟩:=place_at a.toR.name acc (by omega)
     obtain ⟨b,hb,eb⟩:=(h.me _).1 p1
     rw [<- eb] at p2
     have:=hno b hb (T_inj p2)
     subst this
     exact ⟨b,hb,e⟩
    ·exact ⟨a,ha,e⟩
 ·unfold dnext
  split
  ·rename_i hp
   rw [List.pairwise_append]
   refine ⟨h.nd,List.pairwise_singleton _ _,fun x hx y hy e=>?_⟩
   rw [List.mem_singleton.1 hy] at e
   have:0<=placeM m.toR.name (acc.map (·.name)):=by
    rw [(place_mem _ _).1,<- e];exact List.mem_map.2 ⟨x,hx,rfl⟩
   omega
  ·exact h.nd
theorem maps_eq:∀ (l:List PMap) (seen:List PMap) (acc:List RMap),MRel seen acc->(dmaps acc (l.map PMap.toR)).1=othIn seen l/\(othIn seen l=false->MRel (l.reverse++seen) (dmaps acc (l.map PMap.toR)).2)
 | [],seen,acc,h=>⟨rfl,fun _=>h⟩
 | m::l,seen,acc,h=>by
  rw [List.map_cons,dmaps,othIn,dcl_eq h]
  cases c:clash seen m with
  | true=>exact ⟨rfl,fun h=>by cases h⟩
  | false =>
   rw [if_neg (by decide),if_neg (by decide)]
   obtain ⟨a,b⟩:=maps_eq l _ _ (h.next m c)
   refine ⟨a,fun hh=>?_⟩
   have:=b hh
   rw [List.reverse_cons,List.append_assoc];exact this
theorem other_eq:∀ (pl:List (List PMap)) (i:Nat) (seen:List PMap) (acc:List RMap),MRel seen acc->(doth i acc (pl.map (List.map PMap.toR))).1=otherP i seen pl/\(otherP i seen pl=-1->∃ seen',MRel seen' (doth i acc (pl.map (List.map PMap.toR))).2/\∀ m,m∈seen' ↔ m∈seen\/m∈pl.flatten)
 | [],i,seen,acc,h=>⟨rfl,fun _=>⟨seen,h,fun m=>by simp⟩⟩
 | p::pl,i,seen,acc,h=>by
  rw [List.map_cons,doth,otherP];obtain ⟨a,b⟩:=maps_eq p seen acc h;rw [a]
  cases c:othIn seen p with
  | true=>exact ⟨rfl,fun h=>by rw [if_pos rfl] at h;omega⟩
  | false =>
   rw [if_neg (by decide),if_neg (by decide)]
   obtain ⟨a2,b2⟩:=other_eq pl (i+1) _ _ (b c)
   refine ⟨a2,fun hh=>?_⟩
   obtain ⟨s',h1,h2⟩:=b2 hh
   refine ⟨s',h1,fun m=>?_⟩
   rw [h2,List.mem_append,List.mem_reverse,List.flatten_cons,List.mem_append]
   constructor
   ·rintro ((h | h) | h)
    ·exact .inr (.inl h)
    ·exact .inl h
    ·exact .inr (.inr h)
   ·rintro (h | h | h)
    ·exact .inl (.inr h)
    ·exact .inl (.inl h)
    ·exact .inr h
theorem word_call {x:PI} (h:x.Ok):(x.toN.word=CALL ↔ x.refers=1):=by
 have hr:=h.facts.refers
 constructor
 ·intro e;unfold PI.toN PI.toI toI' at e
  dsimp only at e
  by_cases h119:sortM x.view.word=119
  ·rw [if_pos h119] at e
   have:x.view.word=CALL:=by split at e<;>exact e
   rw [this,sort_facts.2.1] at h119
   exact absurd h119 (by decide)
  ·rw [if_neg h119] at e
   by_cases h99:sortM x.view.word=99
   ·rw [if_pos h99] at e
    by_cases h1:x.s=1
    ·unfold PI.refers
     rw [if_pos h1,hr,if_neg (show ¬ sortM (wordM x.o.code).1.word=119 from h119),if_pos (show sortM (wordM x.o.code).1.word=99 from h99)]
    ·rw [if_neg h1] at e;exact absurd e.symm sort_facts.2.2.2.2.1
   ·rw [if_neg h99] at e
    have:x.view.word=CALL:=by split at e<;>exact e
    rw [this] at h99;exact absurd sort_facts.2.1 h99
 ·intro e
  rcases refers_two h with c | ⟨_,h1,hW⟩ | ⟨c,_,_⟩
  ·omega
  ·have h99:sortM x.view.word=99:=by rw [hW];exact sort_facts.2.1
   unfold PI.toN PI.toI toI'
   dsimp only
   rw [if_neg (by rw [h99];decide),if_pos h99,if_pos h1]
   exact hW
  ·omega
theorem badX_eq {mp:List PMap} {x:PI} (h:x.Ok/\(x.refers≠0->nameB x.name=true)/\Mapped mp x) (p:Nat) (fn gn:List ByteArray) (hg:∀ s,s∈fn ↔ s∈gn):dbadX fn (lblI p x)=badX gn x:=by
 unfold dbadX badX;rw [lblI_word,lblI_name]
 by_cases e:x.refers=1
 ·obtain ⟨_,hn⟩:=toN_named h.1 (by omega) (nameB_ne (h.2.1 (by omega)))
  rw [hn,decide_eq_true ((word_call h.1).2 e),decide_eq_true e,Bool.true_and,Bool.true_and]
  have h1:=place_mem (T x.name) fn
  have h2:=place_mem (T x.name) gn
  have:=hg (T x.name)
  rw [decide_eq_decide]
  constructor
  ·intro c
   by_cases d:0<=placeM (T x.name) gn
   ·have:=h1.1.2 (this.2 (h2.1.1 d));omega
   ·exact h2.2 (by omega)
  ·intro c
   by_cases d:0<=placeM (T x.name) fn
   ·have:=h2.1.2 (this.1 (h1.1.1 d));omega
   ·omega
 ·rw [decide_eq_false (fun c=>e ((word_call h.1).1 c)),decide_eq_false e,Bool.false_and,Bool.false_and]
theorem badL_eq {mp:List PMap} (fn gn:List ByteArray) (hg:∀ s,s∈fn ↔ s∈gn):∀ (l:List PI) (p:Nat),(∀ x∈l,x.Ok/\(x.refers≠0->nameB x.name=true)/\Mapped mp x)->(lblL p l).any (dbadX fn)=l.any (badX gn)
 | [],_,_=>rfl
 | x::l,p,h=>by
  rw [lblL,List.any_cons,List.any_cons,badX_eq (h x (by simp)) p fn gn hg,badL_eq fn gn hg l _ (fun y hy=>h y (List.mem_cons_of_mem _ hy))]
theorem Trips.bad {mp:List PMap} (fn gn:List ByteArray) (hg:∀ s,s∈fn ↔ s∈gn):∀ {fs:List PFn} {rs:List RFn} {os:List FOut},Trips mp fs rs os->os.any (dbadF fn)=badP gn fs
 | [],[],[],_=>rfl
 | f::fs,r::rs,o::os,h=>by
  have IH:=Trips.bad fn gn hg h.2
  unfold badP at IH ⊢
  rw [List.any_cons,List.any_cons,IH]
  congr 1
  unfold dbadF badF;rw [h.1.rel.ls];exact badL_eq fn gn hg _ _ h.1.ok
 | [],[],_::_,h=>h.elim
 | [],_::_,_,h=>h.elim
 | _::_,[],_,h=>h.elim
 | _::_,_::_,[],h=>h.elim
theorem Sames.miss (fn gn:List ByteArray) (hg:∀ s,s∈fn ↔ s∈gn):∀ {ds:List (List PMap × List PFn)} {os:List DO},Sames ds os->∀ i,dmiss fn i (os.map (·.2.2))=missP gn i (ds.map (·.2))
 | [],[],_,_=>rfl
 | d::ds,o::os,h,i=>by
  rw [List.map_cons,List.map_cons,dmiss,missP,Sames.miss fn gn hg h.2,h.1.tr.bad fn gn hg]
 | [],_::_,h,_=>h.elim
 | _::_,[],h,_=>h.elim
theorem nodup_le {α:Type}:∀ (l k:List α),l.Pairwise (fun x y=>x≠y)->(∀ x∈l,x∈k)->l.length<=k.length
 | [],_,_,_=>Nat.zero_le _
 | a::l,k,h,hs=>by
  rw [List.pairwise_cons] at h
  obtain ⟨k1,k2,rfl⟩:=List.append_of_mem (hs a (by simp))
  have:=nodup_le l (k1++k2) h.2 (fun x hx=>by
   have h1:=hs x (List.mem_cons_of_mem _ hx)
   rw [List.mem_append,List.mem_cons] at h1;rw [List.mem_append]
   rcases h1 with h1 | h1 | h1
   ·exact .inl h1
   ·exact absurd h1.symm (h.1 x hx)
   ·exact .inr h1)
  simp only [List.length_append,List.length_cons] at this ⊢
  omega
theorem strict_of {α:Type} {nm:α->ByteArray} {l:List α} (h1:l.Pairwise (fun x y=>ltB (nm y) (nm x)=false)) (h2:l.Pairwise (fun x y=>nm x≠nm y)):l.Pairwise (fun x y=>ltB (nm x) (nm y)=true):=by
 refine (h1.and h2).imp (fun {x y} h=>?_)
 cases c:ltB (nm x) (nm y) with
 | true=>rfl
 | false=>exact absurd (ltB_total c h.1) h.2
theorem strict_asymm {α:Type} (nm:α->ByteArray):∀ x y:α,ltB (nm x) (nm y)=true->¬ ltB (nm y) (nm x)=true:=fun x y h c=>by
 rw [ltB_asymm h] at c;cases c
theorem comp_rise (l:List PMap) (hs:l.Pairwise (fun x y=>ltB (T y.name) (T x.name)=false)) (un:∀ a∈l,∀ b∈l,a.name=b.name->a=b):∀ n,n<=l.length->(compU l n).Pairwise (fun x y=>ltB (T x.name) (T y.name)=true)/\∀ x,x∈compU l n ↔ x∈l.take n
 | 0,_=>⟨.nil,fun x=>by simp [compU]⟩
 | n+1,h=>by
  obtain ⟨h1,h2⟩:=comp_rise l hs un n (by omega)
  have hn:n<l.length:=by omega
  rw [List.pairwise_iff_getElem] at hs
  have ht:l.take (n+1)=l.take n++[l[n]]:=by rw [List.take_add_one];simp [hn]
  unfold compU;rw [atM_eq l n hn,ht]
  cases c:keepM l n with
  | true =>
   rw [if_pos rfl]
   refine ⟨List.pairwise_append.2 ⟨h1,List.pairwise_singleton _ _,fun x hx y hy=>?_⟩,fun x=>by rw [List.mem_append,List.mem_append,h2]⟩
   rw [List.mem_singleton.1 hy]
   obtain ⟨j,hj,e⟩:=List.getElem_of_mem ((h2 x).1 hx)
   rw [List.length_take] at hj;rw [List.getElem_take] at e;subst e
   have hjn:j<n:=by omega
   cases d:ltB (T l[j].name) (T l[n].name) with
   | true=>rfl
   | false =>
    exfalso
    have a1:=hs j n (by omega) hn hjn
    have e1:=ltB_total d a1
    have hn0:n≠0:=by omega
    have hk:sameM l[n] l[n - 1]=false:=by
     unfold keepM at c
     rw [decide_eq_false hn0,Bool.false_or,atM_eq l n hn,atM_eq l (n - 1) (by omega)] at c
     simpa using c
    have e2:T l[n - 1].name=T l[n].name:=by
     by_cases hj1:j=n - 1
     ·subst hj1;exact e1
     ·have b1:=hs j (n - 1) (by omega) (by omega) (by omega)
      have b2:=hs (n - 1) n (by omega) hn (by omega)
      rw [e1] at b1;exact ltB_total b1 b2
    have:=un _ (List.getElem_mem hn) _ (List.getElem_mem (show n - 1<l.length by omega)) (T_inj e2.symm)
    rw [(sameM_iff _ _).2 this] at hk
    cases hk
  | false =>
   rw [if_neg (by decide),List.append_nil]
   refine ⟨h1,fun x=>?_⟩
   rw [h2,List.mem_append]
   refine ⟨.inl,fun hx=>?_⟩
   rcases hx with hx | hx
   ·exact hx
   ·rw [List.mem_singleton.1 hx]
    have hn0:n≠0:=by
     rintro rfl
     cases c
    have hk:sameM l[n] l[n - 1]=true:=by
     unfold keepM at c
     rw [decide_eq_false hn0,Bool.false_or,atM_eq l n hn,atM_eq l (n - 1) (by omega)] at c
     simpa using c
    rw [(sameM_iff _ _).1 hk]
    have:l[n - 1]=(l.take n)[n - 1]'(by rw [List.length_take];omega):=by rw [List.getElem_take]
    rw [this];exact List.getElem_mem _
abbrev T3:=PFn × RFn × FOut
theorem Trips.list {mp:List PMap}:∀ {fs:List PFn} {rs:List RFn} {os:List FOut},Trips mp fs rs os->∃ L:List T3,L.map (·.1)=fs/\L.map (·.2)=rs.zip os/\∀ t∈L,Trip mp t.1 t.2.1 t.2.2
 | [],[],[],_=>⟨[],rfl,rfl,fun _ h=>by cases h⟩
 | f::fs,r::rs,o::os,h=>by
  obtain ⟨L,h1,h2,h3⟩:=Trips.list h.2
  refine ⟨(f,r,o)::L,by rw [List.map_cons,h1],by rw [List.map_cons,h2];rfl,fun t ht=>?_⟩
  rcases List.mem_cons.1 ht with rfl | ht
  ·exact h.1
  ·exact h3 t ht
 | [],[],_::_,h=>h.elim
 | [],_::_,_,h=>h.elim
 | _::_,[],_,h=>h.elim
 | _::_,_::_,[],h=>h.elim
theorem Sames.list:∀ {ds:List (List PMap × List PFn)} {os:List DO},Sames ds os->∃ L:List T3,L.map (·.1)=ds.flatMap (·.2)/\L.map (·.2)=allZ os/\∀ t∈L,∃ d∈ds,Trip d.1 t.1 t.2.1 t.2.2
 | [],[],_=>⟨[],rfl,rfl,fun _ h=>by cases h⟩
 | d::ds,o::os,h=>by
  obtain ⟨L1,a1,a2,a3⟩:=h.1.tr.list;obtain ⟨L2,b1,b2,b3⟩:=Sames.list h.2
  refine ⟨L1++L2,by rw [List.map_append,a1,b1];rfl,by rw [List.map_append,a2,b2];rfl,fun t ht=>?_⟩
  rcases List.mem_append.1 ht with ht | ht
  ·exact ⟨d,by simp,a3 t ht⟩
  ·obtain ⟨e,he,q⟩:=b3 t ht
   exact ⟨e,List.mem_cons_of_mem _ he,q⟩
 | [],_::_,h=>h.elim
 | _::_,[],h=>h.elim
theorem Sames.zips:∀ {ds:List (List PMap × List PFn)} {os:List DO},Sames ds os->(allZ os).map (·.1)=allR os
 | [],[],_=>rfl
 | d::ds,o::os,h=>by
  have IH:=Sames.zips h.2
  unfold allZ allR at IH ⊢
  rw [List.flatMap_cons,List.flatMap_cons,List.map_append,IH,List.map_fst_zip]
  have:=h.1.tr.len
  omega
 | [],_::_,h=>h.elim
 | _::_,[],h=>h.elim
theorem Sames.tok:∀ {ds:List (List PMap × List PFn)} {os:List DO},Sames ds os->(∀ x∈allZ os,TOk x.1 x.2)/\∀ o∈os,∀ m∈o.1,MOk m
 | [],[],_=>⟨(fun _ h=>by cases h),(fun _ h=>by cases h)⟩
 | d::ds,o::os,h=>by
  obtain ⟨h1,h2⟩:=Sames.tok h.2
  refine ⟨fun x hx=>?_,fun q hq=>?_⟩
  ·unfold allZ at hx h1;rw [List.flatMap_cons] at hx
   rcases List.mem_append.1 hx with hx | hx
   ·obtain ⟨i,hi,e⟩:=List.getElem_of_mem hx;rw [List.getElem_zip] at e;rw [<- e]
    have hl:=h.1.tr.len
    have hi1:i<o.2.1.length:=by rw [List.length_zip] at hi;omega
    have hi2:i<o.2.2.length:=by rw [List.length_zip] at hi;omega
    have g:=h.1.ok.a.get i hi1 hi2
    exact ⟨g.fit,g.al,g.ab,g.jl,h.1.ok.s _ (List.getElem_mem hi1),g.ll,g.lb,h.1.ok.n _ (List.getElem_mem hi1)⟩
   ·exact h1 x hx
  ·rcases List.mem_cons.1 hq with rfl | hq
   ·exact h.1.ok.m
   ·exact h2 q hq
 | [],_::_,h=>h.elim
 | _::_,[],h=>h.elim
theorem fpairs_of (mn fn:List ByteArray):∀ L:List T3,(∀ t∈L,FPair mn fn t.1 t.2.1 t.2.2)->FPairs mn fn (L.map (·.1)) ((L.map (·.2)).map (·.1)) ((L.map (·.2)).map (·.2))
 | [],_=>trivial
 | t::L,h=>⟨h t (by simp),fpairs_of mn fn L (fun u hu=>h u (List.mem_cons_of_mem _ hu))⟩
theorem miss_none (names:List ByteArray):∀ (l:List (List PFn)) (i:Nat),missP names i l=-1->∀ p∈l,∀ f∈p,∀ x∈f.code,x.refers=1->placeM (T x.name) names≠-1
 | [],_,_,_,h,_,_,_,_,_=>by cases h
 | p::l,i,h,q,hq,f,hf,x,hx,hr=>by
  rw [missP] at h
  split at h
  ·omega
  ·rename_i hb
   rcases List.mem_cons.1 hq with rfl | hq
   ·intro c
    apply hb
    unfold badP;rw [List.any_eq_true]
    refine ⟨f,hf,?_⟩
    unfold badF;rw [List.any_eq_true]
    refine ⟨x,hx,?_⟩
    unfold badX
    rw [decide_eq_true hr,decide_eq_true c];rfl
   ·exact miss_none names l _ h q hq f hf x hx hr
theorem sumF_perm {l k:List PFn} (h:l.Perm k):sumF l=sumF k:=by
 unfold sumF
 exact (h.map _).sum_nat
theorem sum_list:∀ L:List T3,(∀ t∈L,∃ mp,Trip mp t.1 t.2.1 t.2.2)->sumR ((L.map (·.2)).map (·.1))=sumF (L.map (·.1))
 | [],_=>rfl
 | t::L,h=>by
  obtain ⟨mp,ht⟩:=h t (by simp)
  have IH:=sum_list L (fun u hu=>h u (List.mem_cons_of_mem _ hu))
  unfold sumR sumF at IH ⊢
  simp only [List.map_cons,List.sum_cons]
  rw [<- IH,ht.sl]
structure Whole (ds:List (List PMap × List PFn)) (os:List DO) (ms:List PMap) (fs:List PFn):Prop where
 ml:(allM os).length=(compM ms).length
 fl:(allR os).length=fs.length
 sm:sumR (allR os)=sumF fs
 mo:∀ m∈allM os,MOk m
 img:missP (fnP fs) 0 (ds.map (·.2))=-1->fs.length<=1000->(compM ms).length<=1000->∀ (ms':List RMap) (z:List (RFn × FOut)),ms'.Perm (allM os)->ms'.Pairwise (fun x y=>ltB y.name x.name=false)->z.Perm (allZ os)->z.Pairwise (fun x y=>ltB y.1.name x.1.name=false) ->
  T (encU 2 (compM ms) (fs.map (PFn.linked (mnP (compM ms)) (fnP fs))))=T (bytesU true ms' (z.map (·.1)) (z.map (·.2)))
theorem allN_flat (os:List DO):allN os=(os.map (fun o=>o.2.1.map (·.name))).flatten:=by
 unfold allN allR
 induction os with
 | nil=>rfl
 | cons o os ih=>rw [List.flatMap_cons,List.map_append,ih,List.map_cons,List.flatten_cons]
theorem mrel_nil:MRel [] []:=⟨(fun _ h=>by cases h),(fun r=>⟨(fun h=>by cases h),(fun ⟨_,h,_⟩=>by cases h)⟩),.nil⟩
theorem flat_one {ds:List (List PMap × List PFn)}:(ds.map (·.1)).flatten=ds.flatMap (·.1):=by rw [List.flatMap_def]
theorem whole_of {ds:List (List PMap × List PFn)} {os:List DO} (hS:Sames ds os) {ms:List PMap} {fs:List PFn} (pm:ms.Perm (ds.flatMap (·.1))) (sm:ms.Pairwise (fun x y=>ltB (T y.name) (T x.name)=false)) (pf:fs.Perm (ds.flatMap (·.2))) (sf:fs.Pairwise (fun x y=>ltB (T y.name) (T x.name)=false))
  (h1:dtw 0 [] (os.map (fun o=>o.2.1.map (·.name)))=-1) (h2:(doth 0 [] (os.map (·.1))).1=-1):Whole ds os ms fs:=by
 obtain ⟨L,l1,l2,l3⟩:=hS.list
 have hz:=hS.zips
 have hM:=other_eq (ds.map (·.1)) 0 [] [] mrel_nil
 rw [<- hS.maps] at hM
 obtain ⟨seen,hR,hseen⟩:=hM.2 (hM.1.symm.trans h2)
 have hin:∀ m,m∈ms ↔ m∈seen:=fun m=>by
  rw [hseen,flat_one,pm.mem_iff];simp
 have un:∀ a∈ms,∀ b∈ms,a.name=b.name->a=b:=fun a ha b hb=>hR.un a ((hin a).1 ha) b ((hin b).1 hb)
 obtain ⟨c1,c2⟩:=comp_rise ms sm un ms.length (Nat.le_refl _)
 have c1':(compM ms).Pairwise (fun x y=>ltB (T x.name) (T y.name)=true):=c1
 have c2':∀ x,x∈compM ms ↔ x∈ms:=fun x=>by have:=c2 x;rw [List.take_length] at this;exact this
 have cR:((compM ms).map PMap.toR).Pairwise (fun x y=>ltB x.name y.name=true):=List.pairwise_map.2 c1'
 have cm:∀ r,r∈(compM ms).map PMap.toR ↔ r∈allM os:=fun r=>by
  have hme:r∈allM os ↔ ∃ a∈seen,a.toR=r:=hR.me r
  rw [hme,List.mem_map]
  constructor
  ·rintro ⟨a,ha,e⟩;exact ⟨a,(hin a).1 ((c2' a).1 ha),e⟩
  ·rintro ⟨a,ha,e⟩;exact ⟨a,(c2' a).2 ((hin a).2 ha),e⟩
 have hnd:(allM os).Pairwise (fun x y=>x.name≠y.name):=hR.nd
 have hdist:(allN os).Pairwise (fun x y=>x≠y):=by
  rw [allN_flat];exact (twice_none _ _ _ hS.rise h1).1
 have hdz:(allZ os).Pairwise (fun x y=>x.1.name≠y.1.name):=by
  have:((allZ os).map (fun x=>x.1.name)).Pairwise (fun x y=>x≠y):=by
   have e:(allZ os).map (fun x=>x.1.name)=allN os:=by unfold allN;rw [<- hz,List.map_map];rfl
   rw [e];exact hdist
  exact List.pairwise_map.1 this
 obtain ⟨L',p',q'⟩:=perm_lift (fun t:T3=>t.1) (l:=fs) (k:=ds.flatMap (·.2)) pf L l1
 have p2:(L'.map (·.2)).Perm (allZ os):=by rw [<- l2];exact p'.map _
 have hT:∀ t∈L',∃ d∈ds,Trip d.1 t.1 t.2.1 t.2.2:=fun t ht=>l3 t (p'.mem_iff.1 ht)
 have hsl:sumR (allR os)=sumF fs:=by
  rw [<- hz,<- l2,sum_list L (fun t ht=>⟨_,(l3 t ht).choose_spec.2⟩),l1]
  exact (sumF_perm pf).symm
 have hlen:(allR os).length=fs.length:=by
  rw [<- hz,List.length_map,<- l2,List.length_map,pf.length_eq,<- l1,List.length_map]
 have hlm:(allM os).length=(compM ms).length:=by
  have a1:=nodup_le ((compM ms).map PMap.toR) (allM os) (cR.imp (fun {x y} h e=>by subst e;rw [ltB_irrefl] at h;cases h)) (fun x hx=>(cm x).1 hx)
  have a2:=nodup_le (allM os) ((compM ms).map PMap.toR) (hnd.imp (fun {x y} h e=>h (by rw [e]))) (fun x hx=>(cm x).2 hx)
  rw [List.length_map] at a1 a2
  omega
 refine ⟨hlm,hlen,hsl,fun m hm=>?_,fun h3 hf1 hm1 ms' z pms sms pz sz=>?_⟩
 ·obtain ⟨a,ha,e⟩:=(hR.me m).1 hm
  have h4:a∈ds.flatMap (·.1):=pm.mem_iff.1 ((hin a).2 ha)
  obtain ⟨d,hd,had⟩:=List.mem_flatMap.1 h4
  have h5:d.1∈ds.map (·.1):=List.mem_map.2 ⟨d,hd,rfl⟩
  have h6:d.1.map PMap.toR∈os.map (·.1):=by rw [hS.maps];exact List.mem_map.2 ⟨_,h5,rfl⟩
  obtain ⟨o,ho,e2⟩:=List.mem_map.1 h6
  exact hS.tok.2 o ho m (by rw [e2,<- e];exact List.mem_map.2 ⟨a,had,rfl⟩)
 ·-- the lists are the same
  have em:(compM ms).map PMap.toR=ms':=by
   refine uniq_rise (strict_asymm (fun r:RMap=>r.name)) cR (strict_of (nm:=fun r:RMap=>r.name) sms ?_) (fun x=>by rw [cm,pms.mem_iff])
   exact (pms.pairwise_iff (fun {x y} h e=>h e.symm)).2 hnd
  have ez:L'.map (·.2)=z:=by
   have s1:(L'.map (·.2)).Pairwise (fun x y=>ltB y.1.name x.1.name=false):=by
    rw [List.pairwise_map]
    have sf':(L'.map (·.1)).Pairwise (fun x y=>ltB (T y.name) (T x.name)=false):=by rw [q'];exact sf
    rw [List.pairwise_map] at sf'
    refine sf'.imp_of_mem (fun {x y} hx hy h=>?_)
    obtain ⟨_,_,tx⟩:=hT x hx;obtain ⟨_,_,ty⟩:=hT y hy
    rw [tx.nm,ty.nm];exact h
   refine uniq_rise (strict_asymm (fun r:RFn × FOut=>r.1.name)) (strict_of (nm:=fun r:RFn × FOut=>r.1.name) s1 ?_) (strict_of (nm:=fun r:RFn × FOut=>r.1.name) sz ?_) (fun x=>by rw [p2.mem_iff,pz.mem_iff])
   ·exact (p2.pairwise_iff (fun {x y} h e=>h e.symm)).2 hdz
   ·exact (pz.pairwise_iff (fun {x y} h e=>h e.symm)).2 hdz
  have en:(z.map (·.1)).map (·.name)=fnP fs:=by
   rw [<- ez,<- q'];unfold fnP;rw [List.map_map,List.map_map,List.map_map,List.map_map]
   refine List.map_congr_left (fun t ht=>?_)
   obtain ⟨_,_,tx⟩:=hT t ht;exact tx.nm
  have emn:((compM ms).map PMap.toR).map (·.name)=mnP (compM ms):=by
   unfold mnP;rw [List.map_map];rfl
  have hFP:FPairs (((compM ms).map PMap.toR).map (·.name)) ((z.map (·.1)).map (·.name)) fs (z.map (·.1)) (z.map (·.2)):=by
   have:=fpairs_of (((compM ms).map PMap.toR).map (·.name)) ((z.map (·.1)).map (·.name)) L' (fun t ht=>by
    obtain ⟨d,hd,tx⟩:=hT t ht
    refine ⟨tx.nm,tx.sl,tx.rel,fun x hx=>⟨(tx.ok x hx).1,fun hr=>nameB_ne ((tx.ok x hx).2.1 hr),fun hr=>?_,fun hr=>?_⟩,tx.fd⟩
    ·rw [en]
     have hfd:t.1∈ds.flatMap (·.2):=by rw [<- l1];exact List.mem_map.2 ⟨t,p'.mem_iff.1 ht,rfl⟩
     obtain ⟨d2,hd2,hf2⟩:=List.mem_flatMap.1 hfd
     have:=miss_none (fnP fs) _ _ h3 d2.2 (List.mem_map.2 ⟨d2,hd2,rfl⟩) t.1 hf2 x hx hr
     have hp:=(place_mem (T x.name) (fnP fs)).2
     omega
    ·rw [(place_mem _ _).1]
     have hm:=(tx.ok x hx).2.2 hr
     unfold hasMapP at hm;rw [List.any_eq_true] at hm;obtain ⟨m,hm1,hm2⟩:=hm
     have hmn:m.name=x.name:=by simpa using hm2
     have:m∈compM ms:=(c2' m).2 (pm.mem_iff.2 (List.mem_flatMap.2 ⟨d,hd,hm1⟩))
     rw [List.map_map]
     exact List.mem_map.2 ⟨m,this,by show T m.name=T x.name;rw [hmn]⟩)
   rw [q',ez] at this;exact this
  have:=image_eq (compM ms) fs (z.map (·.1)) (z.map (·.2)) hm1 hf1 hFP
  rw [<- em,this,emn,en]
theorem link_eq (objs:List (List UInt8)) (s:ByteArray) (e a:Int) (h:LinkQ objs s e a) :
  e=(docE objs).1/\a=(docE objs).2/\((docE objs).1≠0->s=E0)/\((docE objs).1=0->∀ (ms:List RMap) (z:List (RFn × FOut)),ms.Perm (allM (docsM objs))->ms.Pairwise (fun x y=>ltB y.name x.name=false)->z.Perm (allZ (docsM objs))->z.Pairwise (fun x y=>ltB y.1.name x.1.name=false) ->
   s=T (bytesU true ms (z.map (·.1)) (z.map (·.2)))/\z.length<=16/\ms.length<=8/\(∀ m∈ms,MOk m)/\∀ x∈z,TOk x.1 x.2):=by
 have hS:=sames_of objs
 have hl:=hS.len
 unfold LinkQ at h;unfold docE
 by_cases c0:objs.length=0\/8<objs.length
 ·rw [if_pos c0] at h ⊢
  exact ⟨h.2.1,h.2.2,fun _=>h.1,fun k=>absurd k (by decide)⟩
 rw [if_neg c0] at h ⊢
 by_cases c1:(docsM objs).length<objs.length
 ·rw [if_pos (by rw [hl];exact c1)] at h
  rw [if_pos c1]
  exact ⟨h.2.1,by rw [h.2.2,hl],fun _=>h.1,fun k=>absurd (show (7:Int)=0 from k) (by decide)⟩
 rw [if_neg (by rw [hl];exact c1)] at h
 rw [if_neg c1];obtain ⟨ms,fs,pm,sm,pf,sf,h⟩:=h
 have e1:twiceP 0 [] ((decsP objs).map (fun p=>p.2.map (fun f=>T f.name)))=dtw 0 [] ((docsM objs).map (fun o=>o.2.1.map (·.name))):=by
  rw [hS.names,twice_eq _ _ _ [] (by rw [<- hS.names];exact hS.rise) (fun s=>Iff.rfl)]
 have e2:otherP 0 [] ((decsP objs).map (·.1))=(doth 0 [] ((docsM objs).map (·.1))).1:=by
  rw [hS.maps];exact (other_eq _ _ _ _ mrel_nil).1.symm
 have hmem:∀ s,s∈allN (docsM objs) ↔ s∈fnP fs:=by
  intro s;rw [allN_flat,hS.names];unfold fnP;rw [List.map_map,(pf.map _).mem_iff,<- List.flatMap_def,List.map_flatMap]
  rfl
 have e3:missP (fnP fs) 0 ((decsP objs).map (·.2))=dmiss (allN (docsM objs)) 0 ((docsM objs).map (·.2.2)):=(hS.miss _ _ hmem 0).symm
 have hF:faultsP (decsP objs) ms fs=faultD (dtw 0 [] ((docsM objs).map (fun o=>o.2.1.map (·.name)))) (doth 0 [] ((docsM objs).map (·.1))).1 (dmiss (allN (docsM objs)) 0 ((docsM objs).map (·.2.2))) (dtoo (allM (docsM objs)) (allR (docsM objs))):=by
  unfold faultsP;rw [e1,e2,e3];unfold faultOf faultD
  by_cases r1:dtw 0 [] ((docsM objs).map (fun o=>o.2.1.map (·.name)))=-1
  ·by_cases r2:(doth 0 [] ((docsM objs).map (·.1))).1=-1
   ·have hW:=whole_of hS pm sm pf sf r1 r2
    have:tooP (compM ms) fs=dtoo (allM (docsM objs)) (allR (docsM objs)):=by
     unfold tooP dtoo;rw [hW.ml,hW.fl,hW.sm]
    rw [this]
   ·simp only [r1,r2,ne_eq,not_true_eq_false,not_false_eq_true,if_true,if_false]
  ·rw [if_pos r1,if_pos r1]
 rw [<- hF]
 by_cases c2:(faultsP (decsP objs) ms fs).1=0
 ·rw [if_neg (by simpa using c2)] at h
  have hz:=c2
  have hz2:=fault_zero (twiceP 0 [] ((decsP objs).map (fun p=>p.2.map (fun f=>T f.name)))) (otherP 0 [] ((decsP objs).map (·.1))) (missP (fnP fs) 0 ((decsP objs).map (·.2))) (tooP (compM ms) fs)
  unfold faultsP faultOf at c2
  have r1:twiceP 0 [] ((decsP objs).map (fun p=>p.2.map (fun f=>T f.name)))=-1:=by
   by_cases r:twiceP 0 [] ((decsP objs).map (fun p=>p.2.map (fun f=>T f.name)))=-1
   ·exact r
   ·rw [if_pos r] at c2;exact absurd (show (4:Int)=0 from c2) (by decide)
  rw [if_neg (by simpa using r1)] at c2
  have r2:otherP 0 [] ((decsP objs).map (·.1))=-1:=by
   by_cases r:otherP 0 [] ((decsP objs).map (·.1))=-1
   ·exact r
   ·rw [if_pos r] at c2;exact absurd (show (8:Int)=0 from c2) (by decide)
  rw [if_neg (by simpa using r2)] at c2
  have r3:missP (fnP fs) 0 ((decsP objs).map (·.2))=-1:=by
   by_cases r:missP (fnP fs) 0 ((decsP objs).map (·.2))=-1
   ·exact r
   ·rw [if_pos r] at c2;exact absurd (show (5:Int)=0 from c2) (by decide)
  rw [if_neg (by simpa using r3)] at c2
  have r4:tooP (compM ms) fs=false:=by
   cases r:tooP (compM ms) fs with
   | false=>rfl
   | true=>rw [r,if_pos rfl] at c2;exact absurd c2 (by decide)
  have hW:=whole_of hS pm sm pf sf (by rw [<- e1];exact r1) (by rw [<- e2];exact r2)
  unfold tooP at r4
  simp only [Bool.or_eq_false_iff,decide_eq_false_iff_not] at r4
  have f2:(faultsP (decsP objs) ms fs).2=0:=by
   unfold faultsP faultOf
   rw [if_neg (by simpa using r1),if_neg (by simpa using r2),if_neg (by simpa using r3)]
   split<;>rfl
  refine ⟨by rw [hz];exact h.2.1,by rw [f2];exact h.2.2,fun k=>absurd hz k,fun _ ms' z pms sms pz sz=>?_⟩
  have hzl:z.length=fs.length:=by rw [pz.length_eq,<- hW.fl,<- hS.zips,List.length_map]
  refine ⟨by rw [h.1];exact hW.img r3 (by omega) (by omega) ms' z pms sms pz sz,by omega,by rw [pms.length_eq,hW.ml];omega,fun m hm=>hW.mo m (pms.mem_iff.1 hm),fun x hx=>hS.tok.1 x (pz.mem_iff.1 hx)⟩
 ·rw [if_pos c2] at h
  exact ⟨h.2.1,h.2.2,fun _=>h.1,fun k=>absurd k c2⟩
theorem parts_ok (objs:List (List UInt8)):∀ q∈decsP objs,PartOk q:=(sames_of objs).ok
theorem plink_any (w:World) (hE:EnvW w) (o:Option Addr) (cap:Nat) (objs:List (List UInt8)) (hb:0<objs.length->∃ g cs,o=some ⟨g,0,none⟩/\Blk w g cs 9/\∀ k (h:k<objs.length),cs[k]?=some (.string (T objs[k]))) (hn:objs.length<=maxLen) (hs:∀ s∈objs,s.length<=maxLen) :
  Calls Tryz.prog 5 #[.slice o objs.length cap] w fun r w'=>∃ s e a,r=.returned (.tuple #[.string s,.int .i64 e,.int .i64 a])/\LinkQ objs s e a/\Mods Nil' w w':=by
 have H:Hid (Calls Tryz.prog 9 #[.slice o objs.length cap] w fun r w'=>∃ s e a,r=.returned (.tuple #[.string s,.int .i64 e,.int .i64 a])/\LinkQ objs s e a/\Mods Nil' w w'):=link_any w hE o cap objs hb hn hs (parts_ok objs)
 clear hb hs hE;generalize objs.length=n at *
 go_enter Tryz.func5,Tryz.ntmps5
 go_wp2_with fail;refine H.out.mono ?_;rintro e w1 ⟨s,e,a,rfl,hq,m⟩
 have HQ:Hid (LinkQ objs s e a/\Mods Nil' w w1):=⟨hq,m⟩
 clear hq m H;go_wp2_with fail;go_ret3
 exact ⟨s,e,a,rfl,HQ.out.1,HQ.out.2⟩
theorem wnum_any (w:World) (n:Int):Calls Tryz.prog 8 #[.int .i64 n] w fun e w'=>e=.returned (.int .i64 n)/\w'=w:=by
 go_enter Tryz.func8,Tryz.ntmps8
 go_wp2_with fail;go_ret
 exact ⟨rfl,rfl⟩
theorem doc_image {w w':World} {objs:List (List UInt8)} {e:Ending} (h:LinkPost w objs e w') {s:ByteArray} {er a:Int} (hq:LinkQ objs s er a) :
  (er≠0/\s=E0/\e=.returned (.tuple #[.pointer none,.int .i64 er,.int .i64 a])) \/
  (er=0/\a=0/\∃ ab:Nat,e=.returned (.tuple #[.pointer (some ⟨ab,0,none⟩),.int .i64 0,.int .i64 0])/\∀ w2,Mods Nil' w' w2->Calls Tryz.prog 7 #[.pointer (some ⟨ab,0,none⟩),.bool true] w2 fun e w3=>e=.returned (.string s)/\Mods Nil' w2 w3):=by
 obtain ⟨h1,h2,h3,h4⟩:=link_eq objs s er a hq
 rcases h.2 with ⟨he,rfl⟩ | ⟨he,ab,vM,vF,ms,z,rfl,hP,pm,sm,pz,sz⟩
 ·exact .inl ⟨by rw [h1];exact he,h3 he,by rw [h1,h2]⟩
 ·obtain ⟨e1,e2,e3,e4,e5⟩:=h4 he ms _ pm sm pz sz
  have ha:(docE objs).2=0:=by
   have:=he
   unfold docE at this ⊢
   split at this
   ·exact absurd (show (9:Int)=0 from this) (by decide)
   ·split at this
    ·exact absurd (show (7:Int)=0 from this) (by decide)
    ·rename_i c1 c2
     rw [if_neg c1,if_neg c2]
     unfold faultD at this ⊢
     split at this
     ·exact absurd (show (4:Int)=0 from this) (by decide)
     ·split at this
      ·exact absurd (show (8:Int)=0 from this) (by decide)
      ·split at this
       ·exact absurd (show (5:Int)=0 from this) (by decide)
       ·rename_i d1 d2 d3
        rw [if_neg d1,if_neg d2,if_neg d3]
        split<;>rfl
  refine .inr ⟨by rw [h1,he],by rw [h2,ha],ab,rfl,fun w2 m2=>?_⟩
  have zl:(z.map (·.1)).length=z.length:=List.length_map _
  rw [List.length_map] at e2
  have hb:=bytes_any true w2 ab vM vF ms (z.map (·.1)) (z.map (·.2)) (hP.quiet m2) (by simp) (by rw [zl];exact e2) e3 e4 (fun i h h'=>by
   simp only [List.getElem_map]
   have hi:i<z.length:=by simpa using h
   exact e5 _ (List.mem_map.2 ⟨z[i],List.getElem_mem hi,rfl⟩))
  have e:bytesU true ms ((z.map (fun x=>(x.1.1,x.2))).map (·.1)) ((z.map (fun x=>(x.1.1,x.2))).map (·.2))=bytesU true ms ((z.map (·.1)).map (·.1)) (z.map (·.2)):=by
   rw [List.map_map,List.map_map,List.map_map];rfl
  rw [<- e,<- e1] at hb;exact hb
theorem mods_row {w:World} {g:Nat} (cs:Array Value):Mods (Only g) w (w.setRow g cs) :=
 ⟨rfl,rfl,rfl,by simp [World.setRow],fun k _ hk=>setRow_other w g k cs hk⟩
theorem copy_strs (w:World) (ty:TypeId) (o:Option Addr) (cap:Nat) (objs:List (List UInt8)) (hb:0<objs.length->∃ g off,o=some ⟨g,off,none⟩/\∀ k (h:k<objs.length),w.cell? ⟨g,off+k,none⟩=some (.string (T objs[k]))) :
  ∃ (W:World) (cs:Array Value),(Builtin.copy_ #[22,22] ty #[.slice (some ⟨w.heap.size,0,none⟩) (objs.length+1) (objs.length+1),.slice o objs.length cap]).run Tryz.prog (w.alloc (.cells (madeCells #[.string ByteArray.empty] (objs.length+1)) 9))=.ok (.int .i64 objs.length) W /\
   Blk W w.heap.size cs 9/\cs.size=objs.length+1/\(∀ k (h:k<objs.length),cs[k]?=some (.string (T objs[k])))/\Mods Nil' w W:=by
 have hm0:Mods Nil' w (w.alloc (.cells (madeCells #[.string ByteArray.empty] (objs.length+1)) 9)):=(Mods.refl _ _).alloc _
 have hsz:(Tryz.prog.info? 9).map (·.size)=some 1:=by kernel_rfl
 by_cases h0:objs.length=0
 ·refine ⟨_,madeCells #[.string ByteArray.empty] (objs.length+1),?_,Blk.new _ _ _,size_madeCells _ _,fun k h=>by omega,hm0⟩
  have:=run_copy_none (P:=Tryz.prog) (w.alloc (.cells (madeCells #[.string ByteArray.empty] (objs.length+1)) 9)) 22 22 ty 9 (some ⟨w.heap.size,0,none⟩) o (objs.length+1) (objs.length+1) objs.length cap Tryz.underlying22 hsz (by rw [h0];rfl)
  rw [this,h0];rfl
 ·obtain ⟨g,off,rfl,hc⟩:=hb (by omega)
  have hadd:∀ j,(⟨g,off,none⟩:Addr).add j=⟨g,off+j,none⟩:=fun j=>by unfold Addr.add;split<;>simp_all
  have hl:(objs.map (fun s=>Value.string (T s))).length=objs.length:=List.length_map _
  have hr:=run_copy_row (P:=Tryz.prog) (w.alloc (.cells (madeCells #[.string ByteArray.empty] (objs.length+1)) 9)) 22 22 ty 9 w.heap.size 0 (objs.length+1) (objs.length+1) ⟨g,off,none⟩ objs.length cap (madeCells #[.string ByteArray.empty] (objs.length+1)) 9 (objs.map (fun s=>Value.string (T s)))
   Tryz.underlying22 hsz (Blk.new _ _ _) (by rw [hl];exact (Nat.min_eq_left (Nat.le_succ _)).symm) (fun j v hj=>by
    rw [hadd]
    have hj2:j<objs.length:=by rw [<- hl];exact (List.getElem?_eq_some_iff.1 hj).1
    rw [cell_mods hm0 (hc j hj2),<- hj]
    simp [hj2]) (by rw [hl,size_madeCells];omega) (fun v hv=>by
    obtain ⟨s,_,rfl⟩:=List.mem_map.1 hv
    rfl)
  rw [hl] at hr
  refine ⟨_,_,hr,setRow_heap _ _ _ _ _ _ (Blk.new _ _ _),?_,fun k h=>?_,hm0.step (mods_row _) (fun i hi e=>by have:i=w.heap.size:=e;omega)⟩
  ·simp [size_madeCells]
  ·simp only [List.take_zero,List.nil_append,Nat.zero_add,List.getElem?_toArray]
   rw [List.getElem?_append_left (by rw [hl];exact h)]
   simp [h]
theorem sl_of {w:World} {g n N:Nat} {cs:Array Value} (h:Blk w g cs 9) (hs:cs.size=N) (hn:n<=N) (hN:N<=maxLen):Sl w 9 1 (.slice (some ⟨g,0,none⟩) n N) n (cs.toList.take n) :=
 ⟨by rw [List.length_take,Array.length_toList];omega,.inr ⟨g,N,cs,rfl,Nat.zero_le _,h,hn,hN,by omega,by rw [Nat.mul_one]⟩⟩
def wrt (n:Nat):List (List UInt8):=List.replicate n [119,114,105,116,116,101,110]
theorem wrt_len (n:Nat):(wrt n).length=n:=List.length_replicate
theorem wrt_get (n k:Nat) (h:k<(wrt n).length):(wrt n)[k]=[119,114,105,116,116,101,110]:=by simp [wrt]
theorem doc_image2 {w w':World} {objs:List (List UInt8)} {e:Ending} (h:LinkPost w objs e w') {s:ByteArray} {er a:Int} (hq:LinkQ objs s er a) :
  ∃ p:Option Addr,e=.returned (.tuple #[.pointer p,.int .i64 er,.int .i64 a])/\(er≠0->s=E0)/\((p=none/\s=E0)\/∃ ab:Nat,p=some ⟨ab,0,none⟩/\Calls Tryz.prog 7 #[.pointer (some ⟨ab,0,none⟩),.bool true] w' fun e w3=>e=.returned (.string s)/\Mods Nil' w' w3)/\Mods Nil' w w':=by
 rcases doc_image h hq with ⟨h1,h2,h3⟩ | ⟨h1,h2,ab,h3,h4⟩
 ·exact ⟨none,h3,fun _=>h2,.inl ⟨rfl,h2⟩,h.1⟩
 ·subst h1 h2
  exact ⟨_,h3,fun k=>absurd rfl k,.inr ⟨ab,rfl,h4 _ (Mods.refl _ _)⟩,h.1⟩
set_option maxRecDepth 100000 in
set_option maxHeartbeats 2000000 in
theorem linked_any (w:World) (hE:EnvW w) (o:Option Addr) (cap:Nat) (objs:List (List UInt8)) (hb:0<objs.length->∃ g off,o=some ⟨g,off,none⟩/\∀ k (h:k<objs.length),w.cell? ⟨g,off+k,none⟩=some (.string (T objs[k]))) (hn:objs.length*16<=140737488355328) (hs:∀ s∈objs,s.length<=maxLen) :
  Calls Tryz.prog 4 #[.slice o objs.length cap] w fun r w'=>∃ s e a,r=.returned (.tuple #[.string s,.bool true])/\LinkQ objs s e a/\Mods Nil' w w':=by
 obtain ⟨iS,hiS,hzS,hsS,hbS⟩:=info_parts info_str;obtain ⟨W2,cs,hcp,hB2,hc2,hcs,hm2⟩:=copy_strs w 3 o cap objs hb;have HB:=hid hb;have HS:=hid hs;have HEW:=hid hE;have HM2:=hid hm2;have HB2:=hid hB2;have HCZ:=hid hc2;have HCS:=hid hcs;have HCP:=hid hcp
 have hf2:=hB2.frozen
 have hg2:W2.cell? ⟨w.heap.size,objs.length,none⟩=some (cs[objs.length]'(by omega)):=by rw [hB2.cell];simp [hc2]
 generalize cs[objs.length]'(by omega)=c9 at hg2
 clear hb hs hE hB2 hcs hm2 hcp hc2
 obtain ⟨n,hnn⟩:∃ n,n=objs.length:=⟨_,rfl⟩
 have HNN:=hid hnn;rw [<- hnn] at hn hg2 HCP ⊢
 have HCZ':Hid (cs.size=n+1):=by rw [Hid,hnn];exact HCZ.out
 clear hnn HCZ
 have hmk:=run_make_row' (P:=Tryz.prog) 22 9 (.string ByteArray.empty) 16 Tryz.underlying22 info_str rfl .i64 .i64 (n+1) (by omega) (by omega)
 have hcast:((n+1:Nat):Int)=(n:Int)+1:=by omega
 rw [hcast] at hmk
 go_enter Tryz.func4,Tryz.ntmps4
 have hcp:=HCP.out
 go_wp2_with fail
 have HB3:Hid (Blk (W2.setCell ⟨w.heap.size,n,none⟩ (.string ⟨#[98,101,104,105,110,100]⟩)) w.heap.size (cs.setIfInBounds n (.string ⟨#[98,101,104,105,110,100]⟩)) 9):=HB2.out.set n _
 have HM3:Hid (Mods Nil' w (W2.setCell ⟨w.heap.size,n,none⟩ (.string ⟨#[98,101,104,105,110,100]⟩))):=HM2.out.set (a:=⟨w.heap.size,n,none⟩) (.inr (Nat.le_refl _)) _
 have HC3:Hid ((cs.setIfInBounds n (.string ⟨#[98,101,104,105,110,100]⟩)).size=n+1/\(cs.setIfInBounds n (.string ⟨#[98,101,104,105,110,100]⟩))[n]?=some (.string ⟨#[98,101,104,105,110,100]⟩)/\∀ k (h:k<objs.length),(cs.setIfInBounds n (.string ⟨#[98,101,104,105,110,100]⟩))[k]?=some (.string (T objs[k]))):=by
  have hz:=HCZ'.out
  refine ⟨by simp [hz],by simp [hz],fun k h=>?_⟩
  have hk:n≠k:=by rw [HNN.out];omega
  rw [Array.getElem?_setIfInBounds,if_neg hk];exact HCS.out k h
 have HGE:Hid (w.heap.size<=w.heap.size):=Nat.le_refl _
 clear HB2 HM2 HCS HCZ' HCP hcp hmk hf2 hg2 hcast;generalize cs.setIfInBounds n (.string ⟨#[98,101,104,105,110,100]⟩)=cs3 at *;generalize W2.setCell ⟨w.heap.size,n,none⟩ (.string ⟨#[98,101,104,105,110,100]⟩)=W3 at *
 have HPL:Hid (Calls Tryz.prog 5 #[.slice (some ⟨w.heap.size,0,none⟩) n (n+1)] W3 fun r w'=>∃ s e a,r=.returned (.tuple #[.string s,.int .i64 e,.int .i64 a])/\LinkQ objs s e a/\Mods Nil' W3 w'):=by
  have:=plink_any W3 (HEW.out.mods HM3.out) (some ⟨w.heap.size,0,none⟩) (n+1) objs (fun _=>⟨w.heap.size,cs3,rfl,HB3.out,HC3.out.2.2⟩) (by rw [<- HNN.out];unfold maxLen;omega) HS.out
  rwa [<- HNN.out] at this
 refine HPL.out.mono ?_;rintro e w4 ⟨s,er,a,rfl,hq,m4⟩;have HQ:=hid hq
 have HB4:Hid (Blk w4 w.heap.size cs3 9):=HB3.out.mods m4 id
 have HM4:Hid (Mods Nil' w w4):=HM3.out.trans m4
 clear HPL HB3 HM3 hq m4
 obtain ⟨H,hH⟩:∃ H,H=w.heap.size:=⟨_,rfl⟩
 rw [<- hH] at HB4 HGE ⊢
 have HGW:Hid (w.heap.size<=H):=by rw [Hid,hH];exact Nat.le_refl _
 clear hH HGE
 have y9:w4.cell? ⟨H,n,none⟩=some (.string ⟨#[98,101,104,105,110,100]⟩):=by rw [HB4.out.cell];exact HC3.out.2.1
 go_upto_block 0 with fail
 go_cut [8] (fun kv wx=>kv=.bool true/\Mods Nil' w4 wx)
 case first =>
  clear y9;go_wp2_with fail
  go_loopg [8,9] n (fun q kv iv wx=>∃ k:Nat,kv=.bool true/\iv=.int .i64 k/\Mods Nil' w4 wx/\k<=n/\q=n - k)
  case atStart=>exact ⟨0,rfl,rfl,Mods.refl _ _,Nat.zero_le _,rfl⟩
  case round =>
   obtain ⟨k,rfl,rfl,hm,hk,rfl⟩:=hrel;have HMk:=hid hm;clear hm
   by_cases hkn:k<n
   ·have hko:k<objs.length:=by rw [<- HNN.out];exact hkn
    obtain ⟨g,off,rfl,hcl⟩:=HB.out (by omega)
    have o1:wr.cell? ⟨H,k,none⟩=some (.string (T objs[k])):=by rw [(HB4.out.mods HMk.out id).cell];exact HC3.out.2.2 k hko
    have l1:wr.cell? ⟨g,off+k,none⟩=some (.string (T objs[k])):=cell_mods (HM4.out.trans HMk.out) (hcl k hko)
    clear hcl;generalize T objs[k]=sk at *
    have te:(sk.toList==sk.toList)=true:=by simp
    go_upto_region 9 with fail;go_quiet (fail)
    have HMn:Hid (Mods Nil' w4 (wr.drewN nq)):=HMk.out.drewN nq
    clear HMk;generalize wr.drewN nq=wq at *;go_wp2_with fail
    go_roundg (n - (k+1))
    case measure=>omega
    case rel=>exact ⟨k+1,by simp,by go_num,HMn.out,by omega,rfl⟩
   ·obtain rfl:k=n:=by omega
    go_wp2_with fail;go_meet
    exact ⟨rfl,HMk.out⟩
 case rest =>
 obtain ⟨rfl,hm5⟩:=hcut
 have HB5:Hid (Blk wc H cs3 9):=HB4.out.mods hm5 id
 have HM5:Hid (Mods Nil' w wc):=HM4.out.trans hm5
 clear HB4 HM4 hm5 y9
 have HDL:Hid (Calls Tryz.prog 6 #[.slice o n cap] wc fun e w'=>LinkPost wc objs e w'):=by
  have:=dlink_any wc o cap objs (fun h=>by
   obtain ⟨g,off,e,hcl⟩:=HB.out h
   exact ⟨g,off,e,fun k hk=>cell_mods HM5.out (hcl k hk)⟩) (by rw [<- HNN.out];unfold maxLen;omega) HS.out
  rwa [<- HNN.out] at this
 go_wp2_with fail;refine HDL.out.mono ?_
 rintro e w6 hL
 obtain ⟨p,rfl,hse,hcase,m6⟩:=doc_image2 hL HQ.out
 have HB6:Hid (Blk w6 H cs3 9):=HB5.out.mods m6 id
 have HM6:Hid (Mods Nil' w w6):=HM5.out.trans m6
 have HCASE:=hid hcase;clear HDL hL hse hcase m6 HB5 HM5;go_upto_if 73 with fail
 go_cut [13] (fun v wx=>v=.string s/\Mods Nil' w6 wx)
 case first =>
  rcases HCASE.out with ⟨rfl,rfl⟩ | ⟨ab,rfl,hc⟩
  ·go_wp2_with fail;go_meet
   exact ⟨rfl,Mods.refl _ _⟩
  ·have HC:=hid hc;clear hc HCASE;go_wp2_with fail;refine HC.out.mono ?_;rintro e w7 ⟨rfl,m7⟩;have HM7:=hid m7;clear m7 HC;go_wp2_with fail;go_meet
   exact ⟨rfl,HM7.out⟩
 case rest =>
 obtain ⟨rfl,hm7⟩:=hcut
 have HB7:Hid (Blk wc H cs3 9):=HB6.out.mods hm7 id
 have HM7:Hid (Mods Nil' w wc):=HM6.out.trans hm7
 clear HB6 HM6 hm7 HCASE;go_upto_block 2 with fail
 go_cut [14] (fun _ wx=>∃ c4:Array Value,Blk wx H c4 9/\c4.size=n+1/\(∀ k,k<n->c4[k]?=some (.string ⟨#[119,114,105,116,116,101,110]⟩))/\Mods Nil' w wx)
 case first =>
  go_wp2_with fail
  go_loopg [14] n (fun q iv wx=>∃ (k:Nat) (c4:Array Value),iv=.int .i64 k/\Blk wx H c4 9/\c4.size=n+1/\(∀ i,i<k->c4[i]?=some (.string ⟨#[119,114,105,116,116,101,110]⟩))/\Mods Nil' w wx/\k<=n/\q=n - k)
  case atStart=>exact ⟨0,cs3,rfl,HB7.out,HC3.out.1,fun i h=>absurd h (Nat.not_lt_zero _),HM7.out,Nat.zero_le _,rfl⟩
  case round =>
   obtain ⟨k,c4,rfl,hB,hz,hw,hm,hk,rfl⟩:=hrel;have HBk:=hid hB;have HWk:=hid hw;have HZk:=hid hz;have HMk:=hid hm;clear hB hw hm HB7 HM7
   by_cases hkn:k<n
   ·have y0:wr.cell? ⟨H,k,none⟩=some (c4[k]'(by omega)):=by rw [HBk.out.cell];simp [show k<c4.size by omega]
    have yf:=HBk.out.frozen
    have HBn:Hid (Blk (wr.setCell ⟨H,k,none⟩ (.string ⟨#[119,114,105,116,116,101,110]⟩)) H (c4.setIfInBounds k (.string ⟨#[119,114,105,116,116,101,110]⟩)) 9):=HBk.out.set k _
    have HWn:Hid (∀ i,i<k+1->(c4.setIfInBounds k (.string ⟨#[119,114,105,116,116,101,110]⟩))[i]?=some (.string ⟨#[119,114,105,116,116,101,110]⟩)):=fun i hi=>by
     rw [Array.getElem?_setIfInBounds]
     by_cases e:k=i
     ·rw [if_pos e,if_pos (by omega)]
     ·rw [if_neg e];exact HWk.out i (by omega)
    have HMn:Hid (Mods Nil' w (wr.setCell ⟨H,k,none⟩ (.string ⟨#[119,114,105,116,116,101,110]⟩))):=HMk.out.set (a:=⟨H,k,none⟩) (.inr HGW.out) _
    generalize c4[k]'(by omega)=cx at y0
    clear hz HWk HBk HMk;go_wp2_with fail
    go_roundg (n - (k+1))
    case measure=>omega
    case rel=>exact ⟨k+1,_,by go_num,HBn.out,by simp [HZk.out],HWn.out,HMn.out,by omega,rfl⟩
   ·obtain rfl:k=n:=by omega
    clear hz;go_wp2_with fail;go_meet
    exact ⟨c4,HBk.out,HZk.out,HWk.out,HMk.out⟩
 case rest =>
 obtain ⟨c4,hB8,hz8,hw8,hm8⟩:=hcut;have HB8:=hid hB8;have HZ8:=hid hz8;have HW8:=hid hw8;have HM8:=hid hm8;clear hB8 hz8 hw8 hm8 HB7 HM7
 have HP2:Hid (Calls Tryz.prog 5 #[.slice (some ⟨H,0,none⟩) n (n+1)] wc fun r w'=>∃ s e a,r=.returned (.tuple #[.string s,.int .i64 e,.int .i64 a])/\LinkQ (wrt n) s e a/\Mods Nil' wc w'):=by
  have:=plink_any wc (HEW.out.mods HM8.out) (some ⟨H,0,none⟩) (n+1) (wrt n) (fun _=>⟨H,c4,rfl,HB8.out,fun k h=>by rw [wrt_get n k h];exact HW8.out k (by rw [<- wrt_len n];exact h)⟩) (by rw [wrt_len];unfold maxLen;omega) (fun s hs=>by
   rw [List.eq_of_mem_replicate hs];unfold maxLen;decide)
  rwa [wrt_len] at this
 go_wp2_with fail;refine HP2.out.mono ?_;rintro e w9 ⟨s2,er2,a2,rfl,hq2,m9⟩;have HQ2:=hid hq2
 have HB9:Hid (Blk w9 H c4 9):=HB8.out.mods m9 id
 have HM9:Hid (Mods Nil' w w9):=HM8.out.trans m9
 clear HP2 HB8 HM8 hq2 m9
 have HONE:Hid (∀ u∈c4.toList.take n,u.oneCell'=true):=fun u hu=>by
  obtain ⟨i,hi,e⟩:=List.getElem_of_mem hu;rw [List.length_take] at hi;rw [List.getElem_take] at e
  have h1:=HW8.out i (by omega)
  have h2:i<c4.size:=by rw [HZ8.out];omega
  rw [Array.getElem?_eq_getElem h2] at h1
  have h3:c4.toList[i]=c4[i]:=Array.getElem_toList h2
  rw [<- e,h3,Option.some.inj h1];rfl
 go_wp2_with (at_builtin;refine wpList_append_row _ rfl (.const (.slice none 0 0)) (.tmp 98) 22 rfl 9 iS (.string ByteArray.empty) 1 16 Tryz.underlying22 hiS hzS hsS hbS rfl (by decide) (.slice none 0 0) 0 [] rfl (Sl.nil _ _ _) (.slice (some ⟨H,0,none⟩) n (n+1)) n (c4.toList.take n) rfl (sl_of HB9.out HZ8.out (by omega) (by unfold maxLen;omega)) HONE.out (by unfold maxLen;omega) (by omega) ?_;intro v10 w10 s10 m10 l10;rw [Nat.zero_add,List.nil_append] at s10;obtain ⟨o10,c10,rfl,h10⟩:=Sl.view s10)
 have HD2:Hid (Calls Tryz.prog 6 #[.slice o10 n c10] w10 fun e w'=>LinkPost w10 (wrt n) e w'):=by
  have:=dlink_any w10 o10 c10 (wrt n) (fun h=>by
   rw [wrt_len] at h;obtain ⟨g,cg,e,hb,ht,_⟩:=h10 h
   refine ⟨g,0,e,fun k hk=>?_⟩
   have hk2:k<n:=by rw [<- wrt_len n];exact hk
   have hk3:k<c4.size:=by rw [HZ8.out];omega
   rw [Nat.zero_add,take_cell hb ht k (by omega),List.getElem?_take_of_lt hk2,Array.getElem?_toList,HW8.out k hk2,wrt_get n k hk];rfl) (by rw [wrt_len];unfold maxLen;omega) (fun s hs=>by
   rw [List.eq_of_mem_replicate hs];unfold maxLen;decide)
  rwa [wrt_len] at this
 have HM10:Hid (Mods Nil' w w10):=HM9.out.trans (m10.mono (fun i hi e=>by cases e))
 clear s10 h10 m10 l10 HB9 HM9;refine HD2.out.mono ?_
 rintro e w11 hL2
 obtain ⟨p2,rfl,hse2,_,m11⟩:=doc_image2 hL2 HQ2.out
 have HM11:Hid (Mods Nil' w w11):=HM10.out.trans m11
 have te:(s.toList==s.toList)=true:=by simp
 clear HD2 hL2 HM10 m11 HQ2
 by_cases hz:er2=0
 ·subst hz;clear hse2;go_wp2_with fail
  refine (wnum_any _ _).mono ?_
  rintro e w12 ⟨rfl,rfl⟩;go_wp2_with fail
  refine (wnum_any _ _).mono ?_
  rintro e w13 ⟨rfl,rfl⟩;go_wp2_with fail;go_ret2
  exact ⟨s,er,a,rfl,HQ.out,HM11.out⟩
 ·have hs2:=hse2 hz
  subst hs2
  have t1:decide (er2=0)=false:=by simpa using hz
  have t2:(er2==0)=false:=by simpa using hz
  clear hse2 hz;go_wp2_with fail
  refine (wnum_any _ _).mono ?_
  rintro e w12 ⟨rfl,rfl⟩;go_wp2_with fail
  refine (wnum_any _ _).mono ?_
  rintro e w13 ⟨rfl,rfl⟩;go_wp2_with fail;go_ret2
  exact ⟨s,er,a,rfl,HQ.out,HM11.out⟩
def exL:List UInt8:=[83,80,79,76,1,0,1,1,102,2,0,34,1,0,0,1,0,0,0,194,0,0,0,0,0,0,0,0,0]
theorem ex_good:(decodeP exL).2.2.bad=false:=by decide +kernel
theorem ex_maps:(decodeP exL).1.length=0:=by decide +kernel
theorem ex_fns:(decodeP exL).2.1.length=1:=by decide +kernel
theorem ex_fault:(faultsP [((decodeP exL).1,(decodeP exL).2.1)] [] (decodeP exL).2.1).1=0:=by decide +kernel
theorem ex_image:(encU 2 (compM []) ((decodeP exL).2.1.map (PFn.linked (mnP (compM [])) (fnP (decodeP exL).2.1)))).length=27:=by decide +kernel
theorem ex_link {s:ByteArray} {e a:Int} (h:LinkQ [exL] s e a):s.size=27:=by
 have hd:decsP [exL]=[((decodeP exL).1,(decodeP exL).2.1)]:=by
  rw [decsP,ex_good];rfl
 unfold LinkQ at h
 rw [hd,if_neg (by decide),if_neg (by decide)] at h
 obtain ⟨ms,fs,pm,_,pf,_,h⟩:=h
 have e1:ms=[]:=by
  have:=pm.length_eq
  simp only [List.flatMap_cons,List.flatMap_nil,List.append_nil] at this
  rw [ex_maps] at this;exact List.length_eq_zero_iff.1 this
 have e2:fs=(decodeP exL).2.1:=by
  simp only [List.flatMap_cons,List.flatMap_nil,List.append_nil] at pf
  obtain ⟨f,hf⟩:=List.length_eq_one_iff.1 ex_fns;rw [hf] at pf ⊢;exact List.perm_singleton.1 pf
 subst e1 e2
 rw [if_neg (by rw [ex_fault];decide)] at h
 rw [h.1]
 have:∀ l:List UInt8,(T l).size=l.length:=fun l=>by simp [T,ByteArray.size]
 rw [this];exact ex_image
set_option maxRecDepth 100000 in
set_option maxHeartbeats 1000000 in
theorem links_any (w:World) (hE:EnvW w) (o:Option Addr) (cap:Nat) (objs:List (List UInt8)) (hb:0<objs.length->∃ g off,o=some ⟨g,off,none⟩/\∀ k (h:k<objs.length),w.cell? ⟨g,off+k,none⟩=some (.string (T objs[k]))) (hn:objs.length*16<=140737488355328) (hs:∀ s∈objs,s.length<=maxLen) :
  Calls Tryz.prog 3 #[.slice o objs.length cap] w fun r w'=>r=.returned (.bool true)/\Mods Nil' w w':=by
 have hm1:Mods Nil' w (w.alloc (.cells #[.string (T exL)] 9)):=(Mods.refl _ _).alloc _
 have H1:Hid (Calls Tryz.prog 4 #[.slice (some ⟨w.heap.size,0,none⟩) 1 1] (w.alloc (.cells #[.string ⟨#[83,80,79,76,1,0,1,1,102,2,0,34,1,0,0,1,0,0,0,194,0,0,0,0,0,0,0,0,0]⟩] 9)) fun r w'=>∃ s:ByteArray,s.size=27/\r=.returned (.tuple #[.string s,.bool true])/\Mods Nil' w w'):=by
  have:=linked_any (w.alloc (.cells #[.string (T exL)] 9)) (hE.mods hm1) (some ⟨w.heap.size,0,none⟩) 1 [exL] (fun _=>⟨w.heap.size,0,rfl,fun k hk=>by
   have hk0:k=0:=by simp at hk;omega
   subst hk0
   exact (Blk.new w #[.string (T exL)] 9).cell 0⟩) (by decide) (fun s hs=>by
   rw [List.mem_singleton.1 hs];unfold maxLen;decide)
  exact this.mono fun r w' ⟨s,e,a,h1,h2,h3⟩=>⟨s,ex_link h2,h1,hm1.trans h3⟩
 have H2:Hid (∀ w1,Mods Nil' w w1->Calls Tryz.prog 4 #[.slice o objs.length cap] w1 fun r w'=>∃ s:ByteArray,r=.returned (.tuple #[.string s,.bool true])/\Mods Nil' w w'):=fun w1 m=>by
  have:=linked_any w1 (hE.mods m) o cap objs (fun h=>by
   obtain ⟨g,off,e,hc⟩:=hb h
   exact ⟨g,off,e,fun k hk=>cell_mods m (hc k hk)⟩) hn hs
  exact this.mono fun r w' ⟨s,e,a,h1,h2,h3⟩=>⟨s,h1,m.trans h3⟩
 clear hb hs hE hm1 hn;generalize objs.length=n at *
 go_enter Tryz.func3,Tryz.ntmps3
 go_wp2_with fail;refine H1.out.mono ?_;rintro e w1 ⟨s,hsz,rfl,m1⟩;have HM1:=hid m1;clear m1 H1;go_wp2_with fail
 refine (H2.out _ HM1.out).mono ?_
 rintro e w2 ⟨s2,rfl,m2⟩;have HM2:=hid m2;clear m2 H2 HM1;go_wp2_with fail;go_ret
 exact ⟨rfl,HM2.out⟩
end Go.Proofs.YtoknbkfclhmapaaGreatDoor
