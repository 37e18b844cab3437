import Derived.Test.YtoknbkfclhmapaaGreatDoorC31
namespace Go.Proofs.YtoknbkfclhmapaaGreatDoor
open Go.RowKit
theorem quest_ne:T [63]≠E0:=by decide +kernel
theorem PI.refers_kind {x:PI} (h:x.Ok) (hr:x.refers≠0):x.s=1/\x.o.jumps=false/\((x.refers=2/\sortM x.view.word=119/\x.view.word=WIDE)\/(x.refers=1/\sortM x.view.word=99/\x.view.word=CALL)):=by
 have hF:=h.facts
 have hs:x.s=1:=by
  unfold PI.refers at hr
  split at hr
  ·assumption
  ·exact absurd rfl hr
 have hro:x.refers=x.o.refers:=by simp [PI.refers,hs]
 rw [hro] at hr ⊢
 have hrf:=hF.refers
 have hj:=hF.jumps
 unfold PI.view
 rcases hF.kind with ⟨k,_⟩ | ⟨k,_⟩ | ⟨k,_⟩ | ⟨k,_⟩ | ⟨k,_,_,_,hw⟩ | ⟨k,_,hw⟩ | ⟨k,_⟩
 all_goals rw [k] at hrf hj
 ·exact absurd hrf hr
 ·exact absurd hrf hr
 ·exact absurd hrf hr
 ·exact absurd hrf hr
 ·exact ⟨hs,hj,.inl ⟨hrf,k,hw⟩⟩
 ·exact ⟨hs,hj,.inr ⟨hrf,k,hw⟩⟩
 ·exact absurd hrf hr
theorem call_wide:CALL≠WIDE:=by decide +kernel
theorem lbl_ref {x:PI} (h:x.Ok) (hr:x.refers≠0) (slot:Nat):(lblI slot x).name=nmOf x/\((lblI slot x).word=WIDE ↔ x.refers=2):=by
 obtain ⟨hs,hj,hk⟩:=PI.refers_kind h hr
 have e:lblI slot x=x.toN:=by simp [lblI,hj]
 rw [e]
 rcases hk with ⟨h2,hk,hw⟩ | ⟨h1,hk,hw⟩
 ·refine ⟨by simp [PI.toN,PI.toI,toI',hk,hs],?_⟩
  have:x.toN.word=WIDE:=by
   unfold PI.toN PI.toI
   rw [toI_word,if_neg (fun h=>h.2 hs)];exact hw
  simp [this,h2]
 ·refine ⟨by simp [PI.toN,PI.toI,toI',hk,hs],?_⟩
  have:x.toN.word=CALL:=by
   unfold PI.toN PI.toI
   rw [toI_word,if_neg (fun h=>h.2 hs)];exact hw
  simp [this,h1,call_wide]
theorem lbl_set {x:PI} (h:x.Ok) (hr:x.refers≠0) (slot:Nat) (nm:List UInt8) (hn:nm≠[]):{ lblI slot x with name:=T nm }=lblI slot { x with name:=nm }:=by
 obtain ⟨hs,hj,hk⟩:=PI.refers_kind h hr
 have e:lblI slot x=x.toN:=by simp [lblI,hj]
 have e2:lblI slot { x with name:=nm }=PI.toN { x with name:=nm }:=by
  have:(PI.o { x with name:=nm }).jumps=false:=hj
  simp [lblI,this]
 rw [e,e2]
 have hv:PI.view { x with name:=nm }=x.view:=rfl
 have hnm:nmOf { x with name:=nm }=T nm:=by simp [nmOf,hn]
 unfold PI.toN PI.toI;rw [hv,hnm];unfold toI'
 dsimp only
 rcases hk with ⟨h2,hk,hw⟩ | ⟨h1,hk,hw⟩
 ·rw [if_pos hk,if_pos hs,if_pos hk,if_pos hs]
 ·rw [if_neg (by rw [hk];decide),if_pos hk,if_pos hs,if_neg (by rw [hk];decide),if_pos hk,if_pos hs]
theorem lbl_none {x:PI} (h:x.Ok) (hr:x.refers=0) (slot:Nat):(lblI slot x).name=E0:=by
 have hF:=h.facts
 have hz:x.view.name=E0:=hF.z.2.2.2.2
 have hrf:=hF.refers
 have e:(lblI slot x).name=x.toN.name:=by unfold lblI;split<;>rfl
 rw [e];unfold PI.refers at hr
 by_cases hs:x.s=1
 ·rw [if_pos hs] at hr;rw [hr] at hrf
  have h1:sortM x.view.word≠119:=fun h=>by
   rw [show (wordM x.o.code).1.word=x.view.word from rfl,h] at hrf;exact absurd hrf (by decide)
  have h2:sortM x.view.word≠99:=fun h=>by
   rw [show (wordM x.o.code).1.word=x.view.word from rfl,h] at hrf;exact absurd hrf (by decide)
  unfold PI.toN PI.toI toI'
  dsimp only
  rw [if_neg h1,if_neg h2]
  split<;>exact hz
 ·unfold PI.toN PI.toI toI'
  dsimp only
  split
  ·exact hz
  ·split
   ·exact hz
   ·split<;>exact hz
structure SameI (x y:PI):Prop where
 e:y={ x with name:=y.name }
 no:x.refers=0->y.name=x.name
 yes:x.refers≠0->nameB y.name=true
def SameL:List PI->List PI->Prop
 | [],[]=>True
 | x::l,y::k=>SameI x y/\SameL l k
 | _,_=>False
theorem refI_cons (s:ByteArray) (ms:List RMap) (i:Nat) (done:List RIns) (x:RIns) (a:Int) (rest:List (RIns × Int)) (c:Nat) (r:RS):refI s ms i done ((x,a)::rest) c r =
  if x.name=T [63] then
   (if (rnm s (rw2 s (rb s r).2).2).2.bad=true\/((rb s r).1:Int)≠i\/((rw2 s (rb s r).2).1:Int)≠a then none
   else if x.word=WIDE/\placeM (rnm s (rw2 s (rb s r).2).2).1 (ms.map (·.name))<0 then none
   else refI s ms i (done++[{ x with name:=(rnm s (rw2 s (rb s r).2).2).1 }]) rest (c+1) (rnm s (rw2 s (rb s r).2).2).2)
  else refI s ms i (done++[x]) rest c r:=rfl
theorem refsI_sim (s:ByteArray) (ms:List PMap) (n:Nat):∀ (l:List PI) (slot:Nat) (left:Int) (c:Nat) (r:RS) (q:PR) (done:List RIns),Sim s r q->q.bad=false->(∀ x∈l,x.Ok/\x.name=[]/\numOK x=true) ->
  ((refsI ms n slot l left q []).2.2.bad=false->∃ c' r',refI s (ms.map PMap.toR) n done ((lblL slot l).zip (posL slot l)) c r=some (done++lblL slot (refsI ms n slot l left q []).1,c',r')/\(c':Int)+(refsI ms n slot l left q []).2.1=c+left/\Sim s r' (refsI ms n slot l left q []).2.2/\SameL l (refsI ms n slot l left q []).1) /\
  ((refsI ms n slot l left q []).2.2.bad=true->refI s (ms.map PMap.toR) n done ((lblL slot l).zip (posL slot l)) c r=none)
 | [],slot,left,c,r,q,done,hS,hq,_=>by
  refine ⟨fun _=>⟨c,r,by simp [lblL,posL,refI,refsI],rfl,hS,trivial⟩,fun h=>?_⟩
  rw [show (refsI ms n slot [] left q []).2.2=q from rfl,hq] at h;cases h
 | x::l,slot,left,c,r,q,done,hS,hq,hO=>by
  obtain ⟨hx,hxn,hxN⟩:=hO x (by simp)
  have hO':∀ y∈l,y.Ok/\y.name=[]/\numOK y=true:=fun y hy=>hO y (List.mem_cons_of_mem _ hy)
  have ez:(lblL slot (x::l)).zip (posL slot (x::l))=(lblI slot x,(slot:Int))::(lblL (slot+x.o.slots) l).zip (posL (slot+x.o.slots) l):=rfl
  rw [ez,refI_cons]
  by_cases hr:x.refers≠0
  ·have hnum:x.num=0:=by simpa [numOK,hr] using hxN
   obtain ⟨l1,l2⟩:=lbl_ref hx hr slot
   have hq63:(lblI slot x).name=T [63]:=by rw [l1];simp [nmOf,hxn]
   rw [if_pos hq63];obtain ⟨r1,r2⟩:=ref_sim s n slot r q hS
   have e:refsI ms n slot (x::l) left q []=({ x with name:=(refP n slot q).1 }::(refsI ms n (slot+x.o.slots) l (left - 1) (wantP (decide (x.refers≠2)||hasMapP ms (refP n slot q).1) (wantP (decide (x.num=0)) (refP n slot q).2)) []).1,
     (refsI ms n (slot+x.o.slots) l (left - 1) (wantP (decide (x.refers≠2)||hasMapP ms (refP n slot q).1) (wantP (decide (x.num=0)) (refP n slot q).2)) []).2):=by
    rw [refsI,if_pos hr,refsI_acc];rfl
   rw [e]
   have hnd:decide (x.num=0)=true:=by simp [hnum]
   rw [hnd];generalize refP n slot q=p at *;obtain ⟨nm,q1⟩:=p;simp only at *
   rcases bool_cases q1.bad with hb | hb
   ·have hbad:=refsI_bad ms n l (slot+x.o.slots) (left - 1) (wantP (decide (x.refers≠2)||hasMapP ms nm) (wantP true q1)) [] (want_bad _ _ (want_bad _ _ hb))
    refine ⟨fun h=>(by rw [hbad] at h;cases h),fun _=>?_⟩
    rw [if_pos (by
     rcases r2 hb with h | h | h
     ·exact .inl h
     ·exact .inr (.inl (by omega))
     ·exact .inr (.inr (by omega)))]
   ·obtain ⟨k1,k2,k3,k4,k5⟩:=r1 hb
    have hnb:¬ ((rnm s (rw2 s (rb s r).2).2).2.bad=true\/((rb s r).1:Int)≠n\/((rw2 s (rb s r).2).1:Int)≠slot):=by
     rintro (h | h | h)
     ·rw [k1.1.trans hb] at h;cases h
     ·omega
     ·omega
    rw [if_neg hnb,k4]
    by_cases hw:x.refers=2/\hasMapP ms nm=false
    ·have hc:(decide (x.refers≠2)||hasMapP ms nm)=false:=by simp [hw.1,hw.2]
     rw [hc]
     have hbad:=refsI_bad ms n l (slot+x.o.slots) (left - 1) (wantP false (wantP true q1)) [] (by simp [wantP])
     refine ⟨fun h=>(by rw [hbad] at h;cases h),fun _=>?_⟩
     rw [if_pos ⟨l2.2 hw.1,(has_map ms nm).2 hw.2⟩]
    ·have hc:(decide (x.refers≠2)||hasMapP ms nm)=true:=by
      rcases bool_cases (hasMapP ms nm) with h | h
      ·simp [h]
      ·simp only [h,Bool.or_false,decide_eq_true_eq]
       exact fun h2=>hw ⟨h2,h⟩
     rw [hc]
     have hnw:¬ ((lblI slot x).word=WIDE/\placeM (T nm) ((ms.map PMap.toR).map (·.name))<0):=fun h=>hw ⟨l2.1 h.1,(has_map ms nm).1 h.2⟩
     rw [if_neg hnw,lbl_set hx hr slot nm (nameB_ne k5)]
     have IH:=refsI_sim s ms n l (slot+x.o.slots) (left - 1) (c+1) _ (wantP true (wantP true q1)) (done++[lblI slot { x with name:=nm }]) ((k1.want rfl).want rfl) (by simp [wantP,hb]) hO'
     refine ⟨fun h=>?_,fun h=>IH.2 h⟩
     obtain ⟨c',r',g1,g2,g3,g4⟩:=IH.1 h
     refine ⟨c',r',?_,by omega,g3,⟨rfl,fun h=>absurd h hr,fun _=>k5⟩,g4⟩
     rw [g1]
     simp only [lblL,List.append_assoc,List.cons_append,List.nil_append]
     rfl
  ·have hr0:x.refers=0:=by omega
   have hne:(lblI slot x).name≠T [63]:=by rw [lbl_none hx hr0];exact fun h=>quest_ne h.symm
   rw [if_neg hne]
   have e:refsI ms n slot (x::l) left q []=(x::(refsI ms n (slot+x.o.slots) l left q []).1,(refsI ms n (slot+x.o.slots) l left q []).2):=by
    rw [refsI,if_neg hr,refsI_acc];rfl
   rw [e]
   have IH:=refsI_sim s ms n l (slot+x.o.slots) left c r q (done++[lblI slot x]) hS hq hO'
   refine ⟨fun h=>?_,fun h=>IH.2 h⟩
   obtain ⟨c',r',g1,g2,g3,g4⟩:=IH.1 h
   refine ⟨c',r',?_,g2,g3,⟨rfl,fun _=>rfl,fun h=>absurd hr0 h⟩,g4⟩
   rw [g1]
   simp only [lblL,List.append_assoc,List.cons_append,List.nil_append]
theorem SameL.slots:∀ {l k:List PI},SameL l k->∀ p,posL p l=posL p k/\slotsP l=slotsP k
 | [],[],_,_=>⟨rfl,rfl⟩
 | x::l,y::k,h,p=>by
  have ho:y.o=x.o:=by rw [h.1.e];rfl
  have ih:=h.2.slots (p+x.o.slots)
  refine ⟨?_,?_⟩
  ·rw [posL,posL,ho,ih.1]
  ·have:=ih.2
   simp only [slotsP,List.map_cons,List.sum_cons,ho] at this ⊢
   omega
theorem SameI.o {x y:PI} (h:SameI x y):y.o=x.o:=by rw [h.e];rfl
theorem SameI.tgt {x y:PI} (h:SameI x y) (p:Nat):y.target p=x.target p:=by rw [h.e];rfl
theorem SameL.labs:∀ {l k:List PI},SameL l k->∀ p lab,labsL p l lab=labsL p k lab
 | [],[],_,_,_=>rfl
 | x::l,y::k,h,p,lab=>by rw [labsL,labsL,h.1.o,h.1.tgt,h.2.labs]
theorem SameL.lead:∀ {l k:List PI},SameL l k->∀ st p,leadP st p l=leadP st p k
 | [],[],_,_,_=>rfl
 | x::l,y::k,h,st,p=>by rw [leadP,leadP,h.1.o,h.1.tgt,h.2.lead]
theorem right_name (x:PIns) (nm:ByteArray) (p:PK):PK.right { x with name:=nm } p=PK.right x p:=rfl
theorem needs_name (o:OpS) (x:PIns) (nm:ByteArray):o.needs { x with name:=nm }=o.needs x:=by
 unfold OpS.needs
 have:(PK.right { x with name:=nm })=PK.right x:=funext (right_name x nm)
 rw [this]
 rfl
theorem SameI.ok {x y:PI} (h:SameI x y) (hx:x.Ok):y.Ok:=by
 rw [h.e]
 exact ⟨hx.k,hx.d,hx.s,hx.j,hx.n,hx.h,(needs_name x.o (x.ins []) _).trans hx.needs⟩
def SameF:List PFn->List PFn->Prop
 | [],[]=>True
 | f::fs,g::gs=>(g.name=f.name/\SameL f.code g.code)/\SameF fs gs
 | _,_=>False
theorem refsF_bad (ms:List PMap):∀ (fs done:List PFn) (left:Int) (q:PR),q.bad=true->(refsF ms done fs left q).2.2.bad=true
 | [],_,_,_,h=>h
 | _::fs,_,_,_,h=>refsF_bad ms fs _ _ _ (refsI_bad ms _ _ _ _ _ _ h)
theorem refsI_num (ms:List PMap) (n:Nat):∀ (l:List PI) (slot:Nat) (left:Int) (q:PR) (acc:List PI),numsOK l=false->(refsI ms n slot l left q acc).2.2.bad=true
 | [],_,_,_,_,h=>by cases h
 | x::l,slot,left,q,acc,h=>by
  rw [refsI]
  by_cases hr:x.refers≠0
  ·rw [if_pos hr]
   by_cases hn:x.num=0
   ·have h1:numOK x=true:=by simp [numOK,hn]
    rw [numsOK,List.all_cons,h1,Bool.true_and] at h;exact refsI_num ms n l _ _ _ _ h
   ·exact refsI_bad ms n l _ _ _ _ (want_bad _ _ (by simp [wantP,hn]))
  ·rw [if_neg hr]
   have hr0:x.refers=0:=by omega
   have h1:numOK x=true:=by simp [numOK,hr0]
   rw [numsOK,List.all_cons,h1,Bool.true_and] at h;exact refsI_num ms n l _ _ _ _ h
theorem refsF_num (ms:List PMap):∀ (fs done:List PFn) (left:Int) (q:PR),numsAll fs=false->(refsF ms done fs left q).2.2.bad=true
 | [],_,_,_,h=>by cases h
 | f::fs,done,left,q,h=>by
  rw [refsF]
  rcases bool_cases (numsOK f.code) with hN | hN
  ·rw [numsAll,List.all_cons,hN,Bool.true_and] at h;exact refsF_num ms fs _ _ _ h
  ·exact refsF_bad ms fs _ _ _ (refsI_num ms _ _ _ _ _ _ hN)
theorem refF_cons (s:ByteArray) (ms:List RMap) (done:List FOut) (o:FOut) (rest:List FOut) (c:Nat) (r:RS):refF s ms done (o::rest) c r=match refI s ms done.length [] (o.ls.zip o.ats) c r with
  | none=>none
  | some (ls,c',r')=>refF s ms (done++[{ o with ls:=ls }]) rest c' r':=rfl
theorem refsF_sim (s:ByteArray) (ms:List PMap):∀ (fs:List PFn) (os done:List FOut) (done':List PFn) (left:Int) (c:Nat) (r:RS) (q:PR),done.length=done'.length->Sim s r q->q.bad=false->FRels fs os ->
  (∀ f∈fs,∀ x∈f.code,x.Ok/\x.name=[]/\numOK x=true) ->
  ((refsF ms done' fs left q).2.2.bad=false->∃ os' c' r' fs',refF s (ms.map PMap.toR) done os c r=some (done++os',c',r')/\(c':Int)+(refsF ms done' fs left q).2.1=c+left/\Sim s r' (refsF ms done' fs left q).2.2 /\
   (refsF ms done' fs left q).1=done'++fs'/\FRels fs' os'/\SameF fs fs') /\
  ((refsF ms done' fs left q).2.2.bad=true->refF s (ms.map PMap.toR) done os c r=none)
 | [],[],done,done',left,c,r,q,_,hS,hq,_,_=>by
  refine ⟨fun _=>⟨[],c,r,[],by simp [refF],rfl,hS,by simp [refsF],trivial,trivial⟩,fun h=>?_⟩
  rw [show (refsF ms done' [] left q).2.2=q from rfl,hq] at h;cases h
 | f::fs,o::os,done,done',left,c,r,q,hl,hS,hq,hF,hO=>by
  have IH1:=refsI_sim s ms done.length f.code 0 left c r q [] hS hq (hO f (by simp))
  obtain ⟨ols,oats,olab,orr⟩:=o
  have f1:=hF.1.ls
  have f2:=hF.1.ats
  have f3:=hF.1.lab
  simp only at f1 f2 f3
  subst f1 f2 f3;rw [refF_cons,refsF,<- hl]
  rcases bool_cases (refsI ms done.length 0 f.code left q []).2.2.bad with hb | hb
  ·rw [IH1.2 hb]
   have hbad:=refsF_bad ms fs (done'++[⟨f.name,(refsI ms done.length 0 f.code left q []).1⟩]) (refsI ms done.length 0 f.code left q []).2.1 _ hb
   exact ⟨fun h=>(by rw [hbad] at h;cases h),fun _=>rfl⟩
  ·obtain ⟨c1,r1,g1,g2,g3,g4⟩:=IH1.1 hb;rw [g1]
   simp only [List.nil_append]
   have IH2:=refsF_sim s ms fs os (done++[⟨lblL 0 (refsI ms done.length 0 f.code left q []).1,posL 0 f.code,labsL 0 f.code [],orr⟩]) (done'++[⟨f.name,(refsI ms done.length 0 f.code left q []).1⟩]) (refsI ms done.length 0 f.code left q []).2.1 c1 r1 _ (by simp [hl]) g3 hb hF.2 (fun g hg=>hO g (List.mem_cons_of_mem _ hg))
   refine ⟨fun h=>?_,fun h=>IH2.2 h⟩
   obtain ⟨os',c',r',fs',k1,k2,k3,k4,k5,k6⟩:=IH2.1 h
   refine ⟨⟨lblL 0 (refsI ms done.length 0 f.code left q []).1,posL 0 f.code,labsL 0 f.code [],orr⟩::os',c',r',⟨f.name,(refsI ms done.length 0 f.code left q []).1⟩::fs',?_,by omega,k3,?_,⟨⟨rfl,?_,?_⟩,k5⟩,⟨⟨rfl,g4⟩,k6⟩⟩
   ·rw [k1];simp
   ·rw [k4];simp
   ·exact (g4.slots 0).1
   ·exact g4.labs 0 []
theorem rdMaps_cnt (s:ByteArray):∀ (k:Nat) (r:RS) (acc:List RMap),(rdMaps s k r acc).2.bad=false->(rdMaps s k r acc).1.length=acc.length+k
 | 0,_,_,_=>rfl
 | k+1,r,acc,h=>by
  rw [rdMaps] at h ⊢
  split at h
  ·rename_i hb;simp only [hb] at h;cases h
  ·rename_i hb
   rw [if_neg hb,rdMaps_cnt s k _ _ h]
   simp;omega
theorem rdFns_cnt (s:ByteArray):∀ (k:Nat) (r:RS) (acc:List RFn) (t:Nat),(rdFns s k r acc t).2.2.bad=false->(rdFns s k r acc t).1.length=acc.length+k
 | 0,_,_,_,_=>rfl
 | k+1,r,acc,t,h=>by
  rw [rdFns] at h ⊢
  split at h
  ·rename_i hb;simp only [hb] at h;cases h
  ·rename_i hb
   rw [if_neg hb,rdFns_cnt s k _ _ _ h]
   simp;omega
theorem heads_le:∀ (k:Nat) (q:PR) (last:List UInt8) (t:Nat) (acc:List PHead),(headsP k q last t acc).2.2.bad=false->(∀ h∈acc,h.slots<=t/\nameB h.name=true)->∀ h∈(headsP k q last t acc).1,h.slots<=(headsP k q last t acc).2.1/\nameB h.name=true
 | 0,_,_,_,_,_,ha=>ha
 | k+1,q,last,t,acc,hb,ha=>by
  rw [headsP] at hb ⊢
  have h1:(headP q).2.bad=false:=not_bad (fun h=>heads_bad k _ _ _ _ (want_bad _ _ h)) hb
  have h2:nameB (headP q).1.name=true:=name_good (not_bad (fun h=>two_bad _ h) h1)
  refine heads_le k _ _ _ _ hb (fun h hh=>?_)
  rcases List.mem_append.1 hh with hh | hh
  ·exact ⟨by have:=(ha h hh).1;omega,(ha h hh).2⟩
  ·rw [List.mem_singleton.1 hh];exact ⟨by omega,h2⟩
theorem heads_cnt:∀ (k:Nat) (q:PR) (last:List UInt8) (t:Nat) (acc:List PHead),(headsP k q last t acc).1.length=acc.length+k
 | 0,_,_,_,_=>rfl
 | k+1,q,last,t,acc=>by
  rw [headsP,heads_cnt k]
  simp;omega
theorem funcs_bad (q:PR) (h:q.bad=true):(funcsP q).2.bad=true:=by
 unfold funcsP
 dsimp only
 have:(wantP (decide ((headsP (oneP q).1 (wantP (decide ((oneP q).1<=16)) (oneP q).2) [] 0 []).2.1<=200)) (headsP (oneP q).1 (wantP (decide ((oneP q).1<=16)) (oneP q).2) [] 0 []).2.2).bad=true:=want_bad _ _ (heads_bad _ _ _ _ _ (want_bad _ _ (one_bad _ h)))
 rw [if_pos this];exact this
theorem refs_bad (ms:List PMap) (fs:List PFn) (q:PR) (h:q.bad=true):(refsP ms fs q).2.bad=true:=want_bad _ _ (refsF_bad ms _ _ _ _ (two_bad _ h))
def behindMaps (s:ByteArray) (ms:List RMap) (r:RS):Option (List RMap × List RFn × List FOut) :=
 openMid s ms (rdFns s (rb s r).1 (rb s r).2 [] 0).1 (rdFns s (rb s r).1 (rb s r).2 [] 0).2.1 (rdFns s (rb s r).1 (rb s r).2 [] 0).2.2
theorem behind_bad (s:ByteArray) (ms:List RMap) (r:RS) (h:r.bad=true):behindMaps s ms r=none:=by
 unfold behindMaps openMid
 have hb:=rb_bad s r h
 rw [rdFns_bad s _ _ _ _ hb,if_pos (.inl hb)]
theorem behind_maps (s:ByteArray) (ms:List RMap) (r:RS) (h:mapsR none ms=false\/8<ms.length):behindMaps s ms r=none:=by
 unfold behindMaps openMid
 have hr:∀ fs,risingM ms fs=false:=by
  intro fs;unfold risingM
  rcases h with h | h
  ·simp [h]
  ·have:decide (ms.length<=8)=false:=by simp;omega
   simp [this]
 rw [if_pos (.inr (.inl (hr _)))]
structure Opened (s:ByteArray) (ms:List PMap) (fs:List PFn) (o:List RMap × List RFn × List FOut):Prop where
 me:o.1=ms.map PMap.toR
 mr:mapsR none (ms.map PMap.toR)=true
 ml:ms.length<=8
 ex:∃ hs gs,o.2.1=hs.map PHead.toR/\HOk hs gs/\SameF gs fs/\(∀ h∈hs,h.slots<=200/\nameB h.name=true)/\hs.length<=16
 rel:FRels fs o.2.2
theorem behind_sim (s:ByteArray) (ms:List PMap) (r:RS) (q:PR) (hS:Sim s r q) (_hq:q.bad=false) (hR:mapsR none (ms.map PMap.toR)=true) (h8:ms.length<=8) (g:List PFn × PR) (hg0:g=refsP ms (funcsP q).1 (funcsP q).2) :
  ((wantP (g.2.rest==[]) g.2).bad=false->∃ o,behindMaps s (ms.map PMap.toR) r=some o/\Opened s ms g.1 o) /\
  ((wantP (g.2.rest==[]) g.2).bad=true->behindMaps s (ms.map PMap.toR) r=none):=by
 obtain ⟨h1,e1⟩:=sim_one s r q hS
 have hrise:∀ fs:List RFn,risingM (ms.map PMap.toR) fs=(decide (fs.length<=16)&&namesR none (fs.map (·.name))):=by
  intro fs;unfold risingM;rw [hR]
  simp [h8]
 have hdeadF:(funcsP q).2.bad=true->(wantP (g.2.rest==[]) g.2).bad=true:=fun h=>want_bad _ _ (by rw [hg0];exact refs_bad _ _ _ h)
 unfold behindMaps
 rcases bool_cases (oneP q).2.bad with hb | hb
 ·-- no number of functions
  have hf:(funcsP q).2.bad=true:=by
   unfold funcsP
   dsimp only
   have:(wantP (decide ((headsP (oneP q).1 (wantP (decide ((oneP q).1<=16)) (oneP q).2) [] 0 []).2.1<=200)) (headsP (oneP q).1 (wantP (decide ((oneP q).1<=16)) (oneP q).2) [] 0 []).2.2).bad=true:=want_bad _ _ (heads_bad _ _ _ _ _ (want_bad _ _ hb))
   rw [if_pos this];exact this
  refine ⟨fun h=>(by rw [hdeadF hf] at h;cases h),fun _=>?_⟩
  have hb':=h1.1.trans hb
  unfold openMid;rw [rdFns_bad s _ _ _ _ hb',if_pos (.inl hb')]
 ·have hb':=h1.1.trans hb
  rw [e1 hb']
  generalize hg:funcsP q=F at *
  unfold funcsP at hg
  dsimp only at hg
  generalize (rb s r).2=r1 at *;generalize oneP q=c at *;obtain ⟨cn,cq⟩:=c;simp only at *
  by_cases h16:cn<=16
  ·have hd16:decide (cn<=16)=true:=by simp [h16]
   rw [hd16] at hg
   obtain ⟨a1,a2⟩:=sim_heads s cn r1 (wantP true cq) [] [] [] 0 (h1.want rfl) (by simp [wantP,hb]) rfl rfl (.inl ⟨rfl,rfl⟩)
   have hle:=heads_le cn (wantP true cq) [] 0 []
   have hct:=heads_cnt cn (wantP true cq) [] 0 []
   generalize headsP cn (wantP true cq) [] 0 []=H at *;obtain ⟨hs,all,hq1⟩:=H
   have hcnt:=rdFns_cnt s cn r1 [] 0
   generalize rdFns s cn r1 [] 0=D at *;obtain ⟨fs,t,r2⟩:=D;simp only at *
   rcases bool_cases (wantP (decide (all<=200)) hq1).bad with hb2 | hb2
   ·rw [if_pos hb2] at hg
    have hf:F.2.bad=true:=by rw [<- hg];exact hb2
    refine ⟨fun h=>(by rw [hdeadF hf] at h;cases h),fun _=>?_⟩
    unfold openMid;rw [if_pos ?_]
    rcases bool_cases hq1.bad with hb3 | hb3
    ·rcases a2 hb3 with h | h
     ·exact .inl h
     ·refine .inr (.inl ?_)
      rw [hrise,h,Bool.and_false]
    ·obtain ⟨k1,k2,k3,k4⟩:=a1 hb3
     refine .inr (.inr ?_)
     simp only [wantP,hb3,Bool.false_or,Bool.not_eq_true',decide_eq_false_iff_not] at hb2
     omega
   ·rw [if_neg (by rw [hb2];decide)] at hg
    obtain ⟨hb3,hall⟩:=want_false hb2;obtain ⟨k1,k2,k3,k4⟩:=a1 hb3
    have hr2:r2.bad=false:=k1.1.trans hb3
    have hle2:∀ h∈hs,h.slots<=200/\nameB h.name=true:=fun h hh=>by
     have:=hle hb3 (fun x hx=>by cases hx) h hh
     simp only [decide_eq_true_eq] at hall
     exact ⟨by omega,this.2⟩
    have hcnt2:=hcnt hr2
    have hmid:openMid s (ms.map PMap.toR) fs t r2=match rdBodies s fs r2 [] with
      | none=>none
      | some (os,r3)=>match refsM s (ms.map PMap.toR) os r3 with
       | none=>none
       | some (os',r4)=>if r4.bad=false/\r4.pos=s.size then some (ms.map PMap.toR,fs,os') else none:=by
     have hcond:¬ (r2.bad=true\/risingM (ms.map PMap.toR) fs=false\/200<t):=by
      rw [hrise,k4]
      simp only [List.length_nil,Nat.zero_add] at hcnt2
      have h3:decide (fs.length<=16)=true:=by rw [hcnt2];exact hd16
      rw [h3]
      simp only [decide_eq_true_eq] at hall
      rintro (h | h | h)
      ·rw [hr2] at h;cases h
      ·cases h
      ·omega
     unfold openMid;rw [if_neg hcond]
     rfl
    rw [hmid,k2]
    obtain ⟨c1,c2,c3⟩:=codes_sim s hs r2 (wantP (decide (all<=200)) hq1) (k1.want hall) hb2
    rw [hg] at c1 c2 c3
    have hg':g=refsP ms F.1 F.2:=hg0
    obtain ⟨ff,fq⟩:=F
    simp only at c1 c2 c3 hg' hdeadF
    rcases bool_cases fq.bad with hb4 | hb4
    ·refine ⟨fun h=>(by rw [hdeadF hb4] at h;cases h),fun _=>?_⟩
     rw [c3 (.inl hb4)]
    ·rcases bool_cases (numsAll ff) with hN | hN
     ·obtain ⟨os,r3,m1,m2,m3⟩:=c1 hb4 hN;obtain ⟨m4,m5,_⟩:=c2 hb4;rw [m1]
      simp only
      have hAll:∀ f∈ff,∀ x∈f.code,x.Ok/\x.name=[]/\numOK x=true:=by
       intro f hf x hx
       refine ⟨?_,m5 f hf x hx,?_⟩
       ·have:∀ (hs:List PHead) (ff:List PFn),HOk hs ff->∀ f∈ff,∃ n,f.Ok n:=by
         intro hs
         induction hs with
         | nil=>intro ff h f hf;cases ff with
          | nil=>cases hf
          | cons _ _=>exact h.elim
         | cons h hs ih=>intro ff hh f hf;cases ff with
          | nil=>cases hf
          | cons g gs =>
           rcases List.mem_cons.1 hf with rfl | hf
           ·exact ⟨_,hh.1.2⟩
           ·exact ih gs hh.2 f hf
        obtain ⟨n,hn⟩:=this hs ff m4 f hf;exact hn.ok x hx
       ·have:=List.all_eq_true.1 hN f hf
        exact List.all_eq_true.1 this x hx
      obtain ⟨t1,t2⟩:=sim_two s r3 fq m2
      have hrs:refsP ms ff fq=((refsF ms [] ff ((twoP fq).1:Int) (twoP fq).2).1,wantP (decide ((refsF ms [] ff ((twoP fq).1:Int) (twoP fq).2).2.1=0)) (refsF ms [] ff ((twoP fq).1:Int) (twoP fq).2).2.2):=rfl
      have hrm:refsM s (ms.map PMap.toR) os r3=match refF s (ms.map PMap.toR) [] os 0 (rw2 s r3).2 with
       | none=>none
       | some (os',c,r')=>if c=(rw2 s r3).1 then some (os',r') else none:=rfl
      rw [hrm,hg',hrs];generalize twoP fq=tw at *;obtain ⟨tn,tq⟩:=tw;generalize rw2 s r3=tw' at *;obtain ⟨un,ur⟩:=tw';simp only at *
      rcases bool_cases tq.bad with hb5 | hb5
      ·have hbad:=refsF_bad ms ff [] (tn:Int) tq hb5
       refine ⟨fun h=>?_,fun _=>?_⟩
       ·have:=want_false h
        have:=want_false this.1
        rw [hbad] at this;cases this.1
       ·-- a document that is bad ahead of its references stays so
        have key:∀ (os done:List FOut) (c:Nat) (r:RS),r.bad=true->∀ x,refF s (ms.map PMap.toR) done os c r=some x->x.2.2.bad=true:=by
         intro os
         induction os with
         | nil=>intro done c r hr x hx;rw [refF] at hx;cases hx;exact hr
         | cons o os ih =>
          intro done c r hr x hx;rw [refF_cons] at hx
          split at hx
          ·cases hx
          ·rename_i ls c' r' he
           refine ih _ _ r' ?_ x hx
           have:∀ (l:List (RIns × Int)) (done:List RIns) (i c:Nat) (r:RS),r.bad=true->∀ y,refI s (ms.map PMap.toR) i done l c r=some y->y.2.2.bad=true:=by
            intro l
            induction l with
            | nil=>intro done i c r hr y hy;rw [refI] at hy;cases hy;exact hr
            | cons z l ih =>
             intro done i c r hr y hy;obtain ⟨z1,z2⟩:=z;rw [refI_cons] at hy
             split at hy
             ·rw [if_pos (.inl (rnm_bad s _ (rw2_bad s _ (rb_bad s _ hr))))] at hy;cases hy
             ·exact ih _ _ _ r hr y hy
           exact this _ _ _ _ r hr _ he
        have hbu:=t1.1.trans hb5
        cases hx:refF s (ms.map PMap.toR) [] os 0 ur with
        | none=>rfl
        | some x =>
         have hxb:=key os [] 0 ur hbu x hx
         obtain ⟨os',c',r'⟩:=x
         simp only at hxb ⊢
         by_cases hc:c'=un
         ·rw [if_pos hc]
          simp only
          rw [if_neg (by rintro ⟨h,_⟩;rw [hxb] at h;cases h)]
         ·rw [if_neg hc]
      ·have e2:=t2 (t1.1.trans hb5)
       subst e2
       have RF:=refsF_sim s ms ff os [] [] (un:Int) 0 ur tq rfl t1 hb5 m3 hAll
       generalize refsF ms [] ff (un:Int) tq=Rf at *
       obtain ⟨rf,rl,rq⟩:=Rf
       simp only at RF ⊢
       rcases bool_cases rq.bad with hb6 | hb6
       ·rw [RF.2 hb6]
        refine ⟨fun h=>?_,fun _=>rfl⟩
        have:=(want_false (want_false h).1).1
        rw [hb6] at this;cases this
       ·obtain ⟨os',c',r',fs',n1,n2,n3,n4,n5,n6⟩:=RF.1 hb6;rw [n1]
        simp only [List.nil_append] at n4 ⊢
        have hr':r'.bad=false:=n3.1.trans hb6
        obtain ⟨n7,n8⟩:=n3.2 hr'
        by_cases hc:c'=un
        ·rw [if_pos hc]
         simp only
         have hl0:rl=0:=by omega
         by_cases hpos:r'.pos=s.size
         ·rw [if_pos ⟨hr',hpos⟩]
          have hre:(rq.rest==[])=true:=by
           rw [n7,hpos,List.drop_eq_nil_of_le (by rw [BL_size];exact Nat.le_refl _)];rfl
          refine ⟨fun _=>⟨_,rfl,⟨rfl,hR,h8,⟨hs,ff,rfl,m4,by rw [n4];exact n6,hle2,by rw [hct];simpa using h16⟩,by rw [n4];exact n5⟩⟩,fun h=>?_⟩
          simp only [wantP,hl0,hb6,decide_true,Bool.not_true,Bool.or_false,hre] at h
          cases h
         ·rw [if_neg (fun h=>hpos h.2)]
          refine ⟨fun h=>?_,fun _=>rfl⟩
          have h2:=(want_false h).2
          simp only [wantP,beq_iff_eq] at h2
          rw [n7] at h2
          have:=congrArg List.length h2
          rw [List.length_drop,BL_size] at this
          simp at this
          omega
        ·rw [if_neg hc]
         refine ⟨fun h=>?_,fun _=>rfl⟩
         have h2:=(want_false (want_false h).1).2
         simp only [decide_eq_true_eq] at h2
         omega
     ·refine ⟨fun h=>?_,fun _=>by rw [c3 (.inr hN)]⟩
      have hbad:=refsF_num ms ff [] ((twoP fq).1:Int) (twoP fq).2 hN
      rw [hg'] at h
      have h2:(refsF ms [] ff ((twoP fq).1:Int) (twoP fq).2).2.2.bad=false:=(want_false (want_false h).1).1
      rw [hbad] at h2;cases h2
  ·have hd16:decide (cn<=16)=false:=by simp;omega
   rw [hd16] at hg
   have hf:F.2.bad=true:=by
    have hw:(wantP (decide ((headsP cn (wantP false cq) [] 0 []).2.1<=200)) (headsP cn (wantP false cq) [] 0 []).2.2).bad=true:=want_bad _ _ (heads_bad _ _ _ _ _ (by simp [wantP]))
    rw [if_pos hw] at hg
    rw [<- hg];exact hw
   refine ⟨fun h=>(by rw [hdeadF hf] at h;cases h),fun _=>?_⟩
   unfold openMid;rw [if_pos ?_]
   rcases bool_cases (rdFns s cn r1 [] 0).2.2.bad with hb3 | hb3
   ·exact .inl hb3
   ·refine .inr (.inl ?_)
    rw [hrise]
    have:=rdFns_cnt s cn r1 [] 0 hb3
    have h3:decide ((rdFns s cn r1 [] 0).1.length<=16)=false:=by rw [this];simp;omega
    rw [h3,Bool.false_and]
end Go.Proofs.YtoknbkfclhmapaaGreatDoor
