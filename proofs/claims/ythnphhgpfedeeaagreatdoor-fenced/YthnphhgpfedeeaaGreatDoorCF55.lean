import Derived.Test.YthnphhgpfedeeaaGreatDoorCF54
namespace Go.Proofs.YthnphhgpfedeeaaGreatDoor
open Go.RowKit Tryz
open List renaming length_set->ab,take_append_drop->al,perm_middle->an,mem_or_eq_of_mem_set->ao,length_append->ar,map_append->ba,length_map->bh,drop_eq_getElem_cons->bj,getElem_mem->bq,length_take->bt,mem_of_mem_take->bO,mem_of_mem_drop->bQ,mem_cons_of_mem->b5,flatMap_append->b9,getElem_of_mem->ca,flatMap_cons->cj,append_assoc->cq,drop_sublist->cw,cons_append->cx,length_drop->cy
open Nat renaming zero_le->aE
set_option linter.all false
set_option maxRecDepth 100000
set_option maxHeartbeats 1000000
set_option linter.all false
section
variable {fn : Nat} {s : bP}
theorem ajN(ho:bR fn s)(h1:(s.r.aD 1).so=1):s.t1<s.ms.length/\QM s.gs (s.mapOf s.t1):=by
 rcases(ho.aD 1).2 with⟨e,_⟩ |⟨_,_,t,e,ht⟩ |⟨e,_⟩
 ·omega
 ·have et:s.t1=t:=by unfold bP.t1;rw[e];rfl
  rw[et];exact⟨ht,ho.maps _ (gL _ _ _ ht)⟩
 ·omega
theorem ajS{gs:List (List Nat)}{m:yU}(hm:QM gs m){key:List Nat}(hf:K8 m.jS key=true):K9 m.jS key<gs.length/\(gs.getD (K9 m.jS key) []).length=m.value:=by rw[ajs hf];exact hm.er _ (bq _)
theorem alA(ho:bR fn s):bR fn (QC s).2/\(QC s).2.ms.length=s.ms.length:=by
 unfold QC;split
 ·exact⟨ho,rfl⟩
 ·rename_i h1
  obtain⟨_,hm⟩:=ajN ho (by simpa using h1);split
  ·exact⟨ho,rfl⟩
  ·refine⟨ho.answer _ ?_,rfl⟩;split
   ·rename_i hf
    exact MV.Ok.ptr (ajS hm hf).1 (by decide)
   ·exact MV.Ok.num (by decide)
theorem amD(ms:List yU)(t:Nat)(ht:t<ms.length):ms=ms.take t++ms.getD t xP::ms.drop (t+1):=by
 rw[List.getD_eq_getElem?_getD,List.getElem?_eq_getElem ht];show ms=ms.take t++ms[t]::ms.drop (t+1)
 rw[<-bj ht,al]
theorem anL(ms:List yU)(t:Nat)(ht:t<ms.length)(x:yU):ms.set t x=ms.take t++x::ms.drop (t+1):=List.set_eq_take_append_cons_drop .. |>.trans (iP9 ht)
theorem aj0(ms:List yU)(t:Nat)(ht:t<ms.length):jU ms=jU (ms.take t)++((ms.getD t xP).jS.map (·.2)++jU (ms.drop (t+1))):=by
 conv=>lhs;rw[amD ms t ht]
 unfold jU;rw[b9,cj]
theorem akv(ms:List yU)(t:Nat)(ht:t<ms.length)(x:yU):jU (ms.set t x)=jU (ms.take t)++(x.jS.map (·.2)++jU (ms.drop (t+1))):=by rw[anL ms t ht];unfold jU;rw[b9,cj]
theorem akw{ms:List yU}{m:yU}{e:List Nat×Nat}(hm:m∈ms)(he:e∈m.jS):e.2∈jU ms:=List.mem_flatMap.2 ⟨m,hm,List.mem_map.2 ⟨e,he,rfl⟩⟩
theorem alk{m:yU}{key:List Nat}(hf:K8 m.jS key=true):m.jS.map (·.2)=(m.jS.take (Cb m.jS key)).map (·.2)++K9 m.jS key::(m.jS.drop (Cb m.jS key+1)).map (·.2):=by
 have hlt:=ajr hf;rw[ajs hf]
 conv=>lhs;rw[<-al (Cb m.jS key) m.jS,bj hlt]
 rw[ba,List.map_cons]
theorem am8(ho:bR fn s)(t:Nat)(ht:t<s.ms.length)(key:List Nat):bR fn (FB s t key).1/\(FB s t key).1.ms.length=s.ms.length/\(FB s t key).1.gs.length=s.gs.length:=by
 unfold FB;have hmo:QM s.gs (s.mapOf t):=ho.maps _ (gL _ _ _ ht);split
 ·rename_i hf
  have hq:=(ajS hmo hf).1;refine⟨?_,ab ..,ab ..⟩;have hnd:=ho.own;unfold Lf at hnd;have hr:=aj0 s.ms t ht;rw[show(s.ms.getD t xP)=s.mapOf t from rfl,alk hf]at hr;have hr2:=akv s.ms t ht {s.mapOf t with jS:=(s.mapOf t).jS.take (Cb (s.mapOf t).jS key)++(s.mapOf t).jS.drop (Cb (s.mapOf t).jS key+1)};rw[show({s.mapOf t with jS:=(s.mapOf t).jS.take (Cb (s.mapOf t).jS key)++(s.mapOf t).jS.drop (Cb (s.mapOf t).jS key+1)}:yU).jS=(s.mapOf t).jS.take (Cb (s.mapOf t).jS key)++(s.mapOf t).jS.drop (Cb (s.mapOf t).jS key+1)from rfl,ba]at hr2;have hsub:(jU (s.ms.set t {s.mapOf t with jS:=(s.mapOf t).jS.take (Cb (s.mapOf t).jS key)++(s.mapOf t).jS.drop (Cb (s.mapOf t).jS key+1)})).Sublist (jU s.ms):=by rw[hr,hr2];refine List.Sublist.append (List.Sublist.refl _) (List.Sublist.append (List.Sublist.append (List.Sublist.refl _) (List.sublist_cons_self _ _)) (List.Sublist.refl _))
  have hnq:K9 (s.mapOf t).jS key ∉ jU (s.ms.set t {s.mapOf t with jS:=(s.mapOf t).jS.take (Cb (s.mapOf t).jS key)++(s.mapOf t).jS.drop (Cb (s.mapOf t).jS key+1)}):=by
   have h2:(jU s.ms).Nodup:=(List.nodup_append.1 (List.nodup_cons.1 hnd).2).2.1;rw[hr]at h2;rw[hr2];have hp:(jU (s.ms.take t)++((((s.mapOf t).jS.take (Cb (s.mapOf t).jS key)).map (·.2)++K9 (s.mapOf t).jS key::((s.mapOf t).jS.drop (Cb (s.mapOf t).jS key+1)).map (·.2))++jU (s.ms.drop (t+1)))).Perm (K9 (s.mapOf t).jS key::(jU (s.ms.take t)++((((s.mapOf t).jS.take (Cb (s.mapOf t).jS key)).map (·.2)++((s.mapOf t).jS.drop (Cb (s.mapOf t).jS key+1)).map (·.2))++jU (s.ms.drop (t+1))))):=by simp only[cq,cx];exact(List.Perm.append_left _ an).trans an
   exact(List.nodup_cons.1 (hp.nodup_iff.1 h2)).1
  refine⟨ho.pos,ho.deep,λf hf2=>?_,λg hg=>?_,?_,ho.log,λm hm=>?_,?_⟩
  ·show QL fn (s.gs.set _ []).length (s.ms.set _ _).length f
   rw[ab,ab];exact ho.U4 f hf2
  ·rcases ao hg with hg|rfl
   ·exact ho.gs g hg
   ·exact⟨aE _,λ_ h=>by cases h⟩
  ·show s.r.inp<(s.gs.set _ []).length
   rw[ab];exact ho.inp
  ·have aoo:∀e∈m.jS,e.2≠K9 (s.mapOf t).jS key:=λe he h=>hnq (h ▸ akw hm he);have fit:∀m0:yU,QM s.gs m0->m0.key=m.key->m0.value=m.value->m0.most=m.most->m.jS.Sublist m0.jS->QM (s.gs.set (K9 (s.mapOf t).jS key) []) m:=λm0 h0 e1 e2 e3 hs=>⟨e1 ▸ h0.key,e2 ▸ h0.val,e3 ▸ h0.most,e3 ▸ Nat.le_trans hs.length_le h0.len,λe he=>e1 ▸ h0.ek e (hs.subset he),λe he=>by have:=h0.er e (hs.subset he);rw[ab,QN _ _ _ _ hq,iN9 (aoo e he),<-e2];exact this,h0.srt.sublist hs⟩
   rcases ao hm with hm2|rfl
   ·exact fit m (ho.maps m hm2) rfl rfl rfl (List.Sublist.refl _)
   ·refine fit (s.mapOf t) hmo rfl rfl rfl ?_;show((s.mapOf t).jS.take (Cb (s.mapOf t).jS key)++(s.mapOf t).jS.drop (Cb (s.mapOf t).jS key+1)).Sublist (s.mapOf t).jS
    conv=>rhs;rw[<-al (Cb (s.mapOf t).jS key) (s.mapOf t).jS]
    refine List.Sublist.append (List.Sublist.refl _) ?_;rw[<-List.drop_drop];exact cw _ _
  ·exact List.Nodup.sublist (List.Sublist.cons₂ _ (List.Sublist.append (List.Sublist.refl _) hsub)) hnd
 ·exact⟨ho,rfl,rfl⟩
theorem alB(ho:bR fn s):bR fn (QF s).2/\(QF s).2.ms.length=s.ms.length:=by
 unfold QF;split
 ·exact⟨ho,rfl⟩
 ·rename_i h1
  obtain⟨ht,hm⟩:=ajN ho (by simpa using h1);split
  ·exact⟨ho,rfl⟩
  ·obtain⟨g1,g2,g3⟩:=am8 ho s.t1 ht (nj s.gs (s.r.aD 2) (s.mapOf s.t1).key);exact⟨g1.answer _ (MV.Ok.num (by split<;>decide)),g2⟩
end
set_option linter.all false
theorem aki:∀a b:List Nat,ltNs a b=true\/a=b\/ltNs b a=true
 |[],[]=>.inr (.inl rfl)
 |[],_::_=>.inl rfl
 |_::_,[]=>.inr (.inr rfl)
 |x::a,y::b=>by
  unfold ltNs;by_cases h1:x<y
  ·rw[iP9 h1];exact .inl rfl
  ·rw[iN9 h1];by_cases h2:y<x
   ·rw[iP9 h2,iP9 h2];exact .inr (.inr rfl)
   ·rw[iN9 h2,iN9 h2,iN9 h1];obtain rfl:x=y:=by omega
    rcases aki a b with h|h|h
    ·exact .inl h
    ·exact .inr (.inl (by rw[h]))
    ·exact .inr (.inr h)
theorem amE{ks:List (List Nat×Nat)}{key:List Nat}(hs:ks.Pairwise (λa b=>ltNs a.1 b.1=true))(hf:K8 ks key=false)(k:Nat)(hk:k<ks.length)(hge:Cb ks key<=k):ltNs key ks[k].1=true:=by
 have hn:¬ltNs ks[k].1 key=true:=λh=>by have:=(ajv ks key hs k hk).1 h;omega
 rcases aki ks[k].1 key with h|h|h
 ·exact absurd h hn
 ·exfalso;by_cases e:Cb ks key=k
  ·have:K8 ks key=true:=by unfold K8;rw[e,List.getD_eq_getElem?_getD,List.getElem?_eq_getElem hk];simp[hk,h]
   rw[this]at hf;cases hf
  ·have hlt:Cb ks key<ks.length:=by omega
   have h2:=List.pairwise_iff_getElem.1 hs (Cb ks key) k hlt hk (by omega);rw[h]at h2;have:=(ajv ks key hs _ hlt).1 h2;omega
 ·exact h
theorem am9{ks:List (List Nat×Nat)}{key:List Nat}(q:Nat)(hs:ks.Pairwise (λa b=>ltNs a.1 b.1=true))(hf:K8 ks key=false):(ks.take (Cb ks key)++(key,q)::ks.drop (Cb ks key)).Pairwise (λa b=>ltNs a.1 b.1=true):=by
 have hle:=ajw ks key;have hT:∀e∈ks.take (Cb ks key),ltNs e.1 key=true:=λe he=>by obtain⟨k,hk,rfl⟩:=ca he;rw[bt]at hk;rw[List.getElem_take];exact(ajv ks key hs k (by omega)).2 (by omega)
 have hD:∀e∈ks.drop (Cb ks key),ltNs key e.1=true:=λe he=>by obtain⟨k,hk,rfl⟩:=ca he;rw[cy]at hk;rw[List.getElem_drop];exact amE hs hf _ (by omega) (by omega)
 refine List.pairwise_append.2 ⟨hs.sublist (List.take_sublist _ _),List.pairwise_cons.2 ⟨hD,hs.sublist (cw _ _)⟩,λa ha b hb=>?_⟩;rcases List.mem_cons.1 hb with rfl|hb
 ·exact hT a ha
 ·exact ajG _ _ _ (hT a ha) (hD b hb)
section
variable {fn : Nat} {s : bP}
theorem anM(ho:bR fn s):∀x∈Lf s,x<s.gs.length:=λx hx=>by
 unfold Lf at hx;rcases List.mem_cons.1 hx with rfl|hx
 ·exact ho.inp
 ·rcases List.mem_append.1 hx with hx|hx
  ·obtain⟨f,hf,rfl⟩:=List.mem_map.1 hx;exact(ho.U4 f hf).oJ
  ·obtain⟨m,hm,hx⟩:=List.mem_flatMap.1 hx;obtain⟨e,he,rfl⟩:=List.mem_map.1 hx;exact((ho.maps m hm).er e he).1
theorem ana(ho:bR fn s)(t:Nat)(ht:t<s.ms.length)(key val:List Nat)(hk:key.length=(s.mapOf t).key/\∀b∈key,b<256)(hv:val.length=(s.mapOf t).value/\∀b∈val,b<256):bR fn (Fz s t key val).1/\(Fz s t key val).1.ms.length=s.ms.length:=by
 have hmo:QM s.gs (s.mapOf t):=ho.maps _ (gL _ _ _ ht);have aon:=hmo.val;unfold Fz;split
 ·rename_i hf
  obtain⟨hq,hl⟩:=ajS hmo hf;exact⟨ho.acN _ hq val ⟨by omega,hv.2⟩ (λm hm e he _=>by rw[hl,hv.1]),rfl⟩
 ·rename_i hf
  have hf':K8 (s.mapOf t).jS key=false:=by simpa using hf
  split
  ·exact⟨ho,rfl⟩
  ·rename_i aot
   refine⟨?_,ab ..⟩;have hlen:((s.mapOf t).jS.take (Cb (s.mapOf t).jS key)++(key,s.gs.length)::(s.mapOf t).jS.drop (Cb (s.mapOf t).jS key)).length=(s.mapOf t).jS.length+1:=by have:=ajw (s.mapOf t).jS key;rw[ar,List.length_cons,bt,cy];omega
   refine⟨ho.pos,ho.deep,λf hf2=>?_,λg hg=>?_,?_,ho.log,λm hm=>?_,?_⟩
   ·show QL fn (s.gs++[val]).length (s.ms.set _ _).length f
    rw[ab];exact(ho.U4 f hf2).grow (by rw[ar];omega)
   ·rcases List.mem_append.1 hg with hg|hg
    ·exact ho.gs g hg
    ·rw[List.mem_singleton.1 hg];exact⟨by omega,hv.2⟩
   ·show s.r.inp<(s.gs++[val]).length
    rw[ar];exact Nat.lt_of_lt_of_le ho.inp (Nat.le_add_right _ _)
   ·rcases ao hm with hm2|rfl
    ·exact(ho.maps m hm2).grow val
    ·have hg:=hmo.grow val;refine⟨hg.key,hg.val,hg.most,?_,λe he=>?_,λe he=>?_,am9 _ hmo.srt hf'⟩
     ·show _<=(s.mapOf t).most
      rw[hlen];have:=hmo.len;omega
     ·rcases List.mem_append.1 he with he|he
      ·exact hg.ek e (bO he)
      ·rcases List.mem_cons.1 he with rfl|he
       ·exact hk
       ·exact hg.ek e (bQ he)
     ·rcases List.mem_append.1 he with he|he
      ·exact hg.er e (bO he)
      ·rcases List.mem_cons.1 he with rfl|he
       ·refine⟨by rw[ar];exact Nat.lt_succ_self _,?_⟩;show((s.gs++[val]).getD s.gs.length []).length=(s.mapOf t).value
        rw[dI,iN9 (Nat.lt_irrefl _),iP9 rfl];exact hv.1
       ·exact hg.er e (bQ he)
   ·have hnew:s.gs.length ∉ Lf s:=λh=>Nat.lt_irrefl _ (anM ho _ h)
    have hp:(jU (s.ms.set t {s.mapOf t with jS:=(s.mapOf t).jS.take (Cb (s.mapOf t).jS key)++(key,s.gs.length)::(s.mapOf t).jS.drop (Cb (s.mapOf t).jS key)})).Perm (s.gs.length::jU s.ms):=by
     rw[akv s.ms t ht,aj0 s.ms t ht];show(jU (s.ms.take t)++(((s.mapOf t).jS.take (Cb (s.mapOf t).jS key)++(key,s.gs.length)::(s.mapOf t).jS.drop (Cb (s.mapOf t).jS key)).map (·.2)++jU (s.ms.drop (t+1)))).Perm (s.gs.length::(jU (s.ms.take t)++((s.mapOf t).jS.map (·.2)++jU (s.ms.drop (t+1)))))
     have e0:(s.mapOf t).jS.map (·.2)=((s.mapOf t).jS.take (Cb (s.mapOf t).jS key)).map (·.2)++((s.mapOf t).jS.drop (Cb (s.mapOf t).jS key)).map (·.2):=by rw[<-ba,al]
     rw[e0,ba,List.map_cons];simp only[cq,cx];exact(List.Perm.append_left _ an).trans an
    show(s.r.inp::(s.r.calls.map (·.oJ)++jU (s.ms.set t _))).Nodup
    have hp2:(s.r.inp::(s.r.calls.map (·.oJ)++jU (s.ms.set t {s.mapOf t with jS:=(s.mapOf t).jS.take (Cb (s.mapOf t).jS key)++(key,s.gs.length)::(s.mapOf t).jS.drop (Cb (s.mapOf t).jS key)}))).Perm (s.gs.length::Lf s) :=
     ((List.Perm.cons _ ((List.Perm.append_left _ hp).trans an)).trans (List.Perm.swap _ _ _))
    exact hp2.nodup_iff.2 (List.nodup_cons.2 ⟨hnew,ho.own⟩)
theorem alC(ho:bR fn s):bR fn (QD s).2/\(QD s).2.ms.length=s.ms.length:=by
 unfold QD;split
 ·exact⟨ho,rfl⟩
 ·rename_i h1
  obtain⟨ht,hm⟩:=ajN ho (by simpa using h1);split
  ·exact⟨ho,rfl⟩
  ·rename_i hT
   split
   ·exact⟨ho,rfl⟩
   ·rename_i hT3
    obtain⟨g1,g2⟩:=ana ho s.t1 ht (nj s.gs (s.r.aD 2) (s.mapOf s.t1).key) (nj s.gs (s.r.aD 3) (s.mapOf s.t1).value) ⟨ajx (ho.aD 2).pt (by simpa using hT),Ep ho.gs _ _⟩ ⟨ajx (ho.aD 3).pt (by simpa using hT3),Ep ho.gs _ _⟩;exact⟨g1.answer _ (MV.Ok.num (by split<;>decide)),g2⟩
theorem akD(ho:bR fn s):IQ fn s:=⟨(alA ho).1,(alC ho).1,(alB ho).1,(alA ho).2,(alC ho).2,(alB ho).2⟩
end
theorem E4(F:Nat->Prop)(b:Nat)(fs:List aS):akB F b fs:=λ_ _ _ _ _ _ _=>⟨λ_ _ _ hs ho hF=>akV hs ho hF,λ_ ho=>akD ho⟩
set_option linter.all false
def bP.eF(s:bP)(f:Nat):bP:={s with r:={s.r with fuel:=f}}
theorem alY(s:bP)(f:Nat):QC (s.eF f)=((QC s).1,(QC s).2.eF f):=by
 unfold QC;show(if(s.r.aD 1).so≠1 then(2,s.eF f)else if dK s.gs (s.r.aD 2) 0 (s.mapOf s.t1).key≠0 then(dK s.gs (s.r.aD 2) 0 (s.mapOf s.t1).key,s.eF f)else(0,(s.eF f).ans _))=_
 split
 ·rfl
 ·split<;>rfl
theorem alZ(s:bP)(f:Nat):QF (s.eF f)=((QF s).1,(QF s).2.eF f):=by
 unfold QF;show(if(s.r.aD 1).so≠1 then(2,s.eF f)else if dK s.gs (s.r.aD 2) 0 (s.mapOf s.t1).key≠0 then(dK s.gs (s.r.aD 2) 0 (s.mapOf s.t1).key,s.eF f)else(0,((FB (s.eF f) s.t1 (nj s.gs (s.r.aD 2) (s.mapOf s.t1).key)).1.ans (kI (if(FB (s.eF f) s.t1 (nj s.gs (s.r.aD 2) (s.mapOf s.t1).key)).2 then 0 else 1)))))=_
 split
 ·rfl
 ·split
  ·rfl
  ·have e:FB (s.eF f) s.t1 (nj s.gs (s.r.aD 2) (s.mapOf s.t1).key)=((FB s s.t1 (nj s.gs (s.r.aD 2) (s.mapOf s.t1).key)).1.eF f,(FB s s.t1 (nj s.gs (s.r.aD 2) (s.mapOf s.t1).key)).2):=by
    unfold FB;show(if K8 (s.mapOf s.t1).jS _ then _ else _)=_
    split<;>rfl
   rw[e];rfl
theorem al0(s:bP)(f:Nat):QD (s.eF f)=((QD s).1,(QD s).2.eF f):=by
 unfold QD;show(if(s.r.aD 1).so≠1 then(2,s.eF f)else if dK s.gs (s.r.aD 2) 0 (s.mapOf s.t1).key≠0 then(dK s.gs (s.r.aD 2) 0 (s.mapOf s.t1).key,s.eF f)else if dK s.gs (s.r.aD 3) 0 (s.mapOf s.t1).value≠0 then(dK s.gs (s.r.aD 3) 0 (s.mapOf s.t1).value,s.eF f)else(0,((Fz (s.eF f) s.t1 (nj s.gs (s.r.aD 2) (s.mapOf s.t1).key) (nj s.gs (s.r.aD 3) (s.mapOf s.t1).value)).1.ans (kI (if(Fz (s.eF f) s.t1 (nj s.gs (s.r.aD 2) (s.mapOf s.t1).key) (nj s.gs (s.r.aD 3) (s.mapOf s.t1).value)).2 then 0 else 1)))))=_
 split
 ·rfl
 ·split
  ·rfl
  ·split
   ·rfl
   ·have e:Fz (s.eF f) s.t1 (nj s.gs (s.r.aD 2) (s.mapOf s.t1).key) (nj s.gs (s.r.aD 3) (s.mapOf s.t1).value)=((Fz s s.t1 (nj s.gs (s.r.aD 2) (s.mapOf s.t1).key) (nj s.gs (s.r.aD 3) (s.mapOf s.t1).value)).1.eF f,(Fz s s.t1 (nj s.gs (s.r.aD 2) (s.mapOf s.t1).key) (nj s.gs (s.r.aD 3) (s.mapOf s.t1).value)).2):=by
     unfold Fz;show(if K8 (s.mapOf s.t1).jS _ then _ else if(s.mapOf s.t1).jS.length=(s.mapOf s.t1).most then _ else _)=_
     split
     ·rfl
     ·split<;>rfl
    rw[e];rfl
theorem al1(s:bP)(f:Nat):IL (s.eF f)=((IL s).1,(IL s).2.eF f):=by
 unfold IL;show(if(s.r.aD 1).so≠0 then(2,s.eF f)else if s.r.log.length=20 then(5,s.eF f)else(0,_))=_
 split
 ·rfl
 ·split<;>rfl
theorem akj(f:Nat):∀(vs:List MV) (r:aC) (d:Nat),({r with fuel:=f}:aC).kP d vs={r.kP d vs with fuel:=f}
 |[],_,_=>rfl
 |v::vs,r,d=>akj f vs (r.eY d v) (d+1)
theorem akW(f:Nat)(r:aC)(fn k:Nat):({r with fuel:=f}:aC).mo fn k={r.mo fn k with fuel:=f}:=akj f _ (r.enter fn k) 1
theorem amF(d:VS)(x:PI)(s:bP)(f:Nat):doP d x (s.eF f)=((doP d x s).1,(doP d x s).2.eF f):=by
 have hget:=alY s f;have hput:=al0 s f;have hdel:=alZ s f;have aeH:=al1 s f;unfold doP;split
 ·show(match rkP d.m d.k (s.r.aD x.d) (nN d.aD x s)with|none=>(2,s.eF f)|some v=>(0,{s.eF f with r:=(s.eF f).r.eY x.d v}))=_
  cases rkP d.m d.k (s.r.aD x.d) (nN d.aD x s)<;>rfl
 ·show(match ZT d.m d.k (s.r.aD x.d) (nN d.aD x s)with|none=>(2,s.eF f)|some b=>(0,if b then{s.eF f with r:=(s.eF f).r.fQ (x.target s.r.top.slot).toNat}else s.eF f))=_
  cases ZT d.m d.k (s.r.aD x.d) (nN d.aD x s)with
  |none=>rfl
  |some b=>cases b<;>rfl
 ·rfl
 ·show(if dK s.gs (s.r.aD x.s) x.jump d.k=0 then _ else _)=_
  split<;>rfl
 ·show(if storeT s.gs (s.r.aD x.d) x.jump d.k (nN d.aD x s)=0 then _ else _)=_
  split<;>rfl
 ·rfl
 ·split
  ·show(if s.r.calls.length=8 then _ else _)=_
   split
   ·rfl
   ·show(0,({r:=({s.r with fuel:=f}:aC).mo x.num.toNat s.gs.length,gs:=s.gs++[bu],ms:=s.ms}:bP))=_
    rw[akW];rfl
  ·split
   ·exact hget
   ·split
    ·exact hput
    ·split
     ·exact hdel
     ·exact aeH
 ·show(if s.r.calls.length=1 then(if(s.r.aD 0).so=0 then _ else _)else _)=_
  split
  ·split<;>rfl
  ·rfl
theorem amG(fs:List aS)(s:bP)(f:Nat):(s.eF f).did fs=((s.did fs).1,(s.did fs).2.eF f):=amF _ _ (s.begin (s.ins fs).o.slots) f
theorem aj1(fs:List aS)(f':Nat):∀(n n':Nat) (s:bP),n<=n'->s.r.used<=s.r.fuel->s.r.fuel<=f'->(∀s2:bP,(s2.did fs).2.r.fuel=s2.r.fuel/\(s2.did fs).2.r.used=s2.r.used+1)->((followP fs n s).1=0->(followP fs n s).2.r.ended=true)->(followP fs n s).1≠1->followP fs n' (s.eF f')=((followP fs n s).1,(followP fs n s).2.eF f')
 |0,n',s,_,_,_,_,he,_=>by
  have h:=he rfl;have h2:(s.eF f').r.ended=true:=h;cases n' with
  |zero=>rfl
  |succ n'=>unfold followP;rw[iP9 h2]
 |n+1,0,s,hn,_,_,_,_,_=>by omega
 |n+1,n'+1,s,hn,hu,hf,hd,he,h1=>by
  unfold followP at he h1 ⊢;by_cases hend:s.r.ended=true
  ·rw[iP9 hend]at he h1 ⊢;rw[iP9 (show(s.eF f').r.ended=true from hend)]
  ·rw[iN9 hend]at he h1 ⊢;rw[iN9 (show ¬(s.eF f').r.ended=true from hend)];by_cases hfu:s.r.used=s.r.fuel
   ·exfalso;have e:gD fs s=(1,s):=by unfold gD;rw[iP9 hfu]
    rw[e]at h1;exact h1 rfl
   ·have e1:gD fs s=if(s.did fs).1=0 then(0,(s.did fs).2.gx)else s.did fs:=by unfold gD;rw[iN9 hfu]
    have e2:gD fs (s.eF f')=if(s.did fs).1=0 then(0,((s.did fs).2.eF f').gx)else((s.did fs).1,(s.did fs).2.eF f'):=by unfold gD;rw[iN9 (show ¬(s.eF f').r.used=(s.eF f').r.fuel from(show ¬s.r.used=f' by omega)),amG]
    rw[e2];rw[e1]at he h1 ⊢;by_cases h0:(s.did fs).1=0
    ·rw[iP9 h0,iP9 rfl]at he h1 ⊢;rw[iP9 h0,iP9 rfl];have hdd:=hd s;exact aj1 fs f' n n' (s.did fs).2.gx (by omega) (by show(s.did fs).2.r.used<=(s.did fs).2.r.fuel;omega) (by show(s.did fs).2.r.fuel<=f';omega) hd he h1
    ·rw[iN9 h0,iN9 h0,iN9 h0,iN9 h0]
set_option linter.all false
def aC.y8(a b:aC):Prop:=a.fuel=b.fuel/\a.used=b.used/\a.inp=b.inp
theorem aC.y8.refl(a:aC):a.y8 a:=⟨rfl,rfl,rfl⟩
theorem ajI:∀(vs:List MV) (r:aC) (d:Nat),(r.kP d vs).y8 r
 |[],r,_=>aC.y8.refl r
 |v::vs,r,d=>ajI vs (r.eY d v) (d+1)
theorem ajo(r:aC)(v:MV):(r.answer v).y8 r:=ajI _ (r.eY 0 v) 1
theorem al2(s:bP):(QC s).2.r.y8 s.r:=by
 unfold QC;split
 ·exact aC.y8.refl _
 ·split
  ·exact aC.y8.refl _
  ·exact ajo _ _
theorem amH(s:bP)(t:Nat)(key val:List Nat):(Fz s t key val).1.r=s.r:=by
 unfold Fz;split
 ·rfl
 ·split<;>rfl
theorem amI(s:bP)(t:Nat)(key:List Nat):(FB s t key).1.r=s.r:=by unfold FB;split<;>rfl
theorem al3(s:bP):(QD s).2.r.y8 s.r:=by
 unfold QD;split
 ·exact aC.y8.refl _
 ·split
  ·exact aC.y8.refl _
  ·split
   ·exact aC.y8.refl _
   ·show aC.y8 ((Fz s _ _ _).1.r.answer _) s.r
    rw[amH];exact ajo _ _
theorem al4(s:bP):(QF s).2.r.y8 s.r:=by
 unfold QF;split
 ·exact aC.y8.refl _
 ·split
  ·exact aC.y8.refl _
  ·show aC.y8 ((FB s _ _).1.r.answer _) s.r
   rw[amI];exact ajo _ _
theorem al5(s:bP):(IL s).2.r.y8 s.r:=by
 unfold IL;split
 ·exact aC.y8.refl _
 ·split
  ·exact aC.y8.refl _
  ·exact ajo {s.r with log:=s.r.log++[(s.r.aD 1).bits]} (kI 0)
theorem amJ(d:VS)(x:PI)(s:bP):(doP d x s).2.r.y8 s.r:=by
 unfold doP;split
 ·split<;>exact⟨rfl,rfl,rfl⟩
 ·split
  ·exact⟨rfl,rfl,rfl⟩
  ·show aC.y8 (if _ then _ else _:bP).r s.r
   split<;>exact⟨rfl,rfl,rfl⟩
 ·exact⟨rfl,rfl,rfl⟩
 ·split<;>exact⟨rfl,rfl,rfl⟩
 ·split<;>exact⟨rfl,rfl,rfl⟩
 ·exact⟨rfl,rfl,rfl⟩
 ·split
  ·split
   ·exact⟨rfl,rfl,rfl⟩
   ·exact ajI _ (s.r.enter x.num.toNat s.gs.length) 1
  ·split
   ·exact al2 s
   ·split
    ·exact al3 s
    ·split
     ·exact al4 s
     ·exact al5 s
 ·split
  ·split<;>exact⟨rfl,rfl,rfl⟩
  ·exact⟨rfl,rfl,rfl⟩
theorem ajy(fs:List aS)(s:bP):(s.did fs).2.r.fuel=s.r.fuel/\(s.did fs).2.r.used=s.r.used+1/\(s.did fs).2.r.inp=s.r.inp:=by obtain⟨h1,h2,h3⟩:=amJ (dz (s.ins fs).o.code) (s.ins fs) (s.begin (s.ins fs).o.slots);exact⟨h1,h2,h3⟩
theorem aj2(fs:List aS):∀(n:Nat) (s:bP),s.r.used<=s.r.fuel->(followP fs n s).2.r.used<=s.r.fuel/\(followP fs n s).2.r.fuel=s.r.fuel
 |0,s,h=>⟨h,rfl⟩
 |n+1,s,h=>by
  unfold followP;split
  ·exact⟨h,rfl⟩
  ·unfold gD;by_cases hfu:s.r.used=s.r.fuel
   ·rw[iP9 hfu];exact⟨h,rfl⟩
   ·rw[iN9 hfu];obtain⟨d1,d2,d3⟩:=ajy fs s;by_cases h0:(s.did fs).1=0
    ·rw[iP9 h0,iP9 rfl];have:=aj2 fs n (s.did fs).2.gx (by show(s.did fs).2.r.used<=(s.did fs).2.r.fuel;omega);have e:(s.did fs).2.gx.r.fuel=s.r.fuel:=d1;rw[e]at this;exact this
    ·rw[iN9 h0,iN9 h0];exact⟨by omega,d1⟩
set_option linter.all false
def akk(t:Nat):Prop:=t<=5/\t≠1
theorem zl(gs:List (List Nat))(v:MV)(j:Int)(n:Nat):akk (dK gs v j n):=by
 unfold dK;split
 ·exact⟨by decide,by decide⟩
 ·split<;>exact⟨by decide,by decide⟩
theorem akX(gs:List (List Nat))(v:MV)(j:Int)(n:Nat)(x:MV):akk (storeT gs v j n x):=by
 unfold storeT;split
 ·exact⟨by decide,by decide⟩
 ·exact zl _ _ _ _
def akq(r:aC):Prop:=r.ended=false->r.r0=0
theorem ajT:∀(vs:List MV) (r:aC) (d:Nat),akq r->akq (r.kP d vs)
 |[],_,_,h=>h
 |v::vs,r,d,h=>ajT vs (r.eY d v) (d+1) h
theorem aju(r:aC)(v:MV)(h:akq r):akq (r.answer v):=ajT _ (r.eY 0 v) 1 h
theorem amK(d:VS)(x:PI)(s:bP)(h:akq s.r):akk (doP d x s).1/\akq (doP d x s).2.r:=by
 have t0:akk 0:=⟨by decide,by decide⟩
 have t2:akk 2:=⟨by decide,by decide⟩
 have t4:akk 4:=⟨by decide,by decide⟩
 have t5:akk 5:=⟨by decide,by decide⟩
 unfold doP;split
 ·split
  ·exact⟨t2,h⟩
  ·exact⟨t0,h⟩
 ·split
  ·exact⟨t2,h⟩
  ·refine⟨t0,?_⟩;show akq (if _ then _ else _:bP).r
   split<;>exact h
 ·exact⟨t0,h⟩
 ·split
  ·exact⟨t0,h⟩
  ·exact⟨zl _ _ _ _,h⟩
 ·split
  ·exact⟨t0,h⟩
  ·exact⟨akX _ _ _ _ _,h⟩
 ·exact⟨t0,h⟩
 ·split
  ·split
   ·exact⟨t4,h⟩
   ·exact⟨t0,ajT _ (s.r.enter x.num.toNat s.gs.length) 1 h⟩
  ·split
   ·unfold QC;split
    ·exact⟨t2,h⟩
    ·split
     ·exact⟨zl _ _ _ _,h⟩
     ·exact⟨t0,aju _ _ h⟩
   ·split
    ·unfold QD;split
     ·exact⟨t2,h⟩
     ·split
      ·exact⟨zl _ _ _ _,h⟩
      ·split
       ·exact⟨zl _ _ _ _,h⟩
       ·refine⟨t0,?_⟩;show akq ((Fz s _ _ _).1.r.answer _)
        rw[amH];exact aju _ _ h
    ·split
     ·unfold QF;split
      ·exact⟨t2,h⟩
      ·split
       ·exact⟨zl _ _ _ _,h⟩
       ·refine⟨t0,?_⟩;show akq ((FB s _ _).1.r.answer _)
        rw[amI];exact aju _ _ h
     ·unfold IL;split
      ·exact⟨t2,h⟩
      ·split
       ·exact⟨t5,h⟩
       ·exact⟨t0,aju {s.r with log:=s.r.log++[(s.r.aD 1).bits]} (kI 0) h⟩
 ·split
  ·split
   ·exact⟨t0,λe=>by cases e⟩
   ·exact⟨t2,h⟩
  ·exact⟨t0,h⟩
theorem aj3(fs:List aS):∀(n:Nat) (s:bP),akq s.r->(followP fs n s).1<=5/\((followP fs n s).1=1->(followP fs n s).2.r.used=(followP fs n s).2.r.fuel/\(followP fs n s).2.r.r0=0)
 |0,s,h=>⟨aE _,λe=>by cases e⟩
 |n+1,s,h=>by
  unfold followP;by_cases hend:s.r.ended=true
  ·rw[iP9 hend];exact⟨aE _,λe=>by cases e⟩
  ·rw[iN9 hend];unfold gD;by_cases hfu:s.r.used=s.r.fuel
   ·rw[iP9 hfu];exact⟨(show(1:Nat)<=5 by decide),λ_=>⟨hfu,h (by simpa using hend)⟩⟩
   ·rw[iN9 hfu];obtain⟨ht,he⟩:=amK (dz (s.ins fs).o.code) (s.ins fs) (s.begin (s.ins fs).o.slots) h;by_cases h0:(s.did fs).1=0
    ·rw[iP9 h0,iP9 rfl];exact aj3 fs n (s.did fs).2.gx he
    ·rw[iN9 h0,iN9 h0];exact⟨ht.1,λe=>absurd e ht.2⟩
set_option linter.all false
theorem aj6{gs:List (List Nat)}{q i:Nat}{g:List Nat}(h:i=q->g.length=(gs.getD i []).length):((gs.set q g).getD i []).length=(gs.getD i []).length:=by
 rw[List.getD_eq_getElem?_getD,List.getD_eq_getElem?_getD,List.getElem?_set];by_cases e:q=i
 ·rw[iP9 e];subst e;by_cases hq:q<gs.length
  ·rw[iP9 hq];have:=h rfl;rw[List.getD_eq_getElem?_getD]at this;exact this
  ·rw[iN9 hq,List.getElem?_eq_none (by omega)]
 ·rw[iN9 e]
theorem alD{gs:List (List Nat)}{i:Nat}{g:List Nat}(h:i<gs.length):((gs++[g]).getD i []).length=(gs.getD i []).length:=by rw[dI,iP9 h]
section
variable {fn : Nat} {s : bP}
theorem akY(ho:bR fn s):s.r.inp≠s.r.top.oJ:=λe=>by
 have:=(List.nodup_cons.1 ho.own).1;exact this (List.mem_append_left _ (e ▸ List.mem_map.2 ⟨_,ho.ME,rfl⟩))
theorem aj4(ho:bR fn s)(t:Nat)(ht:t<s.ms.length)(key:List Nat)(hf:K8 (s.mapOf t).jS key=true):s.r.inp≠K9 (s.mapOf t).jS key:=λe=>by
 have:=(List.nodup_cons.1 ho.own).1;refine this (List.mem_append_right _ ?_);rw[e,ajs hf];exact akw (gL _ _ _ ht) (bq _)
theorem anb(d:VS)(x:PI)(ho:bR fn s):((doP d x s).2.gs.getD s.r.inp []).length=(s.gs.getD s.r.inp []).length:=by
 unfold doP;split
 ·split<;>rfl
 ·split
  ·rfl
  ·show((if _ then _ else _:bP).gs.getD _ _).length=_
   split<;>rfl
 ·rfl
 ·split<;>rfl
 ·split
  ·show((B6 s.gs (s.r.aD x.d) x.jump d.k (nN d.aD x s)).getD s.r.inp []).length=_
   unfold B6;refine aj6 (λe=>?_);rw[xO,e]
  ·rfl
 ·rfl
 ·split
  ·split
   ·rfl
   ·exact alD ho.inp
  ·split
   ·unfold QC;split
    ·rfl
    ·split<;>rfl
   ·split
    ·unfold QD;split
     ·rfl
     ·rename_i h1
      obtain⟨ht,_⟩:=ajN ho (by simpa using h1);split
      ·rfl
      ·split
       ·rfl
       ·show((Fz s _ _ _).1.gs.getD s.r.inp []).length=_
        unfold Fz;split
        ·rename_i hf
         exact aj6 (λe=>absurd e (aj4 ho _ ht _ hf))
        ·split
         ·rfl
         ·exact alD ho.inp
    ·split
     ·unfold QF;split
      ·rfl
      ·rename_i h1
       obtain⟨ht,_⟩:=ajN ho (by simpa using h1);split
       ·rfl
       ·show((FB s _ _).1.gs.getD s.r.inp []).length=_
        unfold FB;split
        ·rename_i hf
         exact aj6 (λe=>absurd e (aj4 ho _ ht _ hf))
        ·rfl
     ·unfold IL;split
      ·rfl
      ·split<;>rfl
 ·split
  ·split<;>rfl
  ·exact aj6 (λe=>absurd e (akY ho))
end
theorem akl{fs:List aS}{mn:Nat}(hco:qK fs mn)(hk:xU fs):∀(n:Nat) (s:bP),bR fs.length s->s.ms.length=mn->(s.r.ended=true\/Cc fs s)->(followP fs n s).2.r.inp=s.r.inp/\((followP fs n s).2.gs.getD s.r.inp []).length=(s.gs.getD s.r.inp []).length
 |0,s,_,_,_=>⟨rfl,rfl⟩
 |n+1,s,ho,hm,hp=>by
  by_cases he:s.r.ended=true
  ·have:followP fs (n+1) s=(0,s):=by unfold followP;rw[iP9 he]
   rw[this];exact⟨rfl,rfl⟩
  ·have he':s.r.ended=false:=by simpa using he
   rw[lD fs n s he'];have Wh:Cc fs s:=hp.elim (λe=>absurd e he) id;have hmem:=tN fs _ ho.top.fn;have hat:=tO fs _ _ Wh.at';have hins:=hco.ins _ hmem _ hat;have hob:=ho.begin (s.ins fs).o.slots;have hd:=Lj hob (by exact hm) (s.ins fs) hins.1 (λh6 h1 h4=>hk _ hmem _ hat h6 h1 h4 _ hob);have hi:(s.did fs).2.r.inp=s.r.inp:=(ajy fs s).2.2;have hl:((s.did fs).2.gs.getD s.r.inp []).length=(s.gs.getD s.r.inp []).length:=anb (dz (s.ins fs).o.code) (s.ins fs) hob;by_cases hu:s.r.used=s.r.fuel
   ·have em:gD fs s=(1,s):=by unfold gD;rw[iP9 hu]
    rw[em];exact⟨rfl,rfl⟩
   ·by_cases h0:(s.did fs).1=0
    ·have em:gD fs s=(0,(s.did fs).2.gx):=by unfold gD;rw[iN9 hu,iP9 h0]
     rw[em,iP9 rfl];have aa5:=U7 (by rw[hm];exact hco) ho Wh he' h0
     have ih:=akl hco hk n _ (bR.gx hd.1) hd.2 (by
      rcases aa5 with hd'|hd'
      ·exact .inl hd'
      ·exact .inr (Cc.of hd.1.pos hd'))
     have e1:(bP.gx (s.did fs).2).r.inp=s.r.inp:=hi;have e2:(bP.gx (s.did fs).2).gs=(s.did fs).2.gs:=rfl;refine⟨ih.1.trans e1,?_⟩;have:=ih.2;rw[show(doP (dz (s.ins fs).o.code) (s.ins fs) (s.begin (s.ins fs).o.slots))=s.did fs from rfl]at this;rw[e1,e2,hl]at this;exact this
    ·have em:gD fs s=s.did fs:=by unfold gD;rw[iN9 hu,iN9 h0]
     rw[em,iN9 h0];exact⟨hi,hl⟩
set_option linter.all false
theorem akm(fs:List aS):∀(n:Nat) (s:bP),s.r.used<=s.r.fuel->s.r.fuel-s.r.used<n->(followP fs n s).1=0->(followP fs n s).2.r.ended=true
 |0,s,_,h,_=>by omega
 |n+1,s,hu,hn,h0=>by
  unfold followP at h0 ⊢;by_cases hend:s.r.ended=true
  ·rw[iP9 hend];exact hend
  ·rw[iN9 hend]at h0 ⊢;unfold gD at h0 ⊢;by_cases hfu:s.r.used=s.r.fuel
   ·rw[iP9 hfu]at h0;exact absurd h0 (show ¬(1:Nat)=0 by decide)
   ·rw[iN9 hfu]at h0 ⊢;obtain⟨d1,d2,_⟩:=ajy fs s;by_cases hd:(s.did fs).1=0
    ·rw[iP9 hd,iP9 rfl]at h0 ⊢;exact akm fs n (s.did fs).2.gx (by show(s.did fs).2.r.used<=(s.did fs).2.r.fuel;omega) (by show(s.did fs).2.r.fuel-(s.did fs).2.r.used<n;omega) h0
    ·rw[iN9 hd,iN9 hd]at h0;exact absurd h0 hd
theorem amL(fs:List aS)(gs:List (List Nat))(ms:List yU)(fn:Nat)(inp:tBA)(k:Nat)(hk:k<=3000)(h1:(FC fs gs ms fn inp (k:Int)).1≠1):FC fs gs ms fn inp ((k:Int)+1000)=((FC fs gs ms fn inp (k:Int)).1,(FC fs gs ms fn inp (k:Int)).2.eF (k+1000)):=by
 have f1:Mt (k:Int)=k:=by unfold Mt;omega
 have f2:Mt ((k:Int)+1000)=k+1000:=by unfold Mt;omega
 have es:qJ gs ms fn inp ((k:Int)+1000)=(qJ gs ms fn inp (k:Int)).eF (k+1000):=by unfold qJ;rw[f2];rfl
 have ef:(qJ gs ms fn inp (k:Int)).r.fuel=k:=f1;have eu:(qJ gs ms fn inp (k:Int)).r.used=0:=rfl;unfold FC at h1 ⊢;rw[f1]at h1 ⊢;rw[f2,es];exact aj1 fs (k+1000) (k+2) (k+1000+2) _ (by omega) (by omega) (by omega) (λs2=>⟨(ajy fs s2).1,(ajy fs s2).2.1⟩) (akm fs _ _ (by omega) (by omega)) h1
theorem alm(fs:List aS)(d:Nat×bP)(f:Nat):tK fs (d.1,d.2.eF f)=tK fs d:=by unfold tK;split<;>rfl
theorem aln{c1:Value}{wT:tW}{tv:Value}{bs:List Nat}{mp:Nat}{vF:Value}{fs:List aS}{cg:List Nat}{a:Ad}{gs:List (List Nat)}{ms:List yU}{w:tW}(h:dR (.int .i32 0) c1 wT tv bs mp vF fs cg a gs ms w)(hn:fs.length<=1000):Calls prog 23 #[pt mp] w λe w'=>∃v,e=.returned v/\Sl w' 9 1 v fs.length (zF (fs.map (·.name)))/\dR (.int .i32 0) c1 wT tv bs mp vF fs cg a gs ms w'/\aa (Only mp) w w':=by
 obtain⟨iS,hiS,hzS,hsS,hbS⟩:=info_parts Sc;have VZ:=ai (Go.MuLone.lock_free Vc ⟨mp,0,none⟩ w (h.blk.cell 0) (h.blk.frozen 0));have HMC:=ai (h.turn (.int .i32 1));have HMO:af (aa (Only mp) w (w.setCell ⟨mp,0,none⟩ (.int .i32 1))):=ax.aY 0 _;obtain⟨oF,cF,jZ,_⟩:=h.vT.view;subst jZ;clear h;obtain⟨N,hN⟩:∃N,N=fs.length:=⟨_,rfl⟩
 have LU:af (N=fs.length):=hN;have HNM:af ((fs.map (·.name)).length=N):=by unfold af;rw[bh,hN]
 have HC:af (cg.length=fs.length):=HMC.o.lf;rw[<-hN]at hn HMC ⊢;go_enter_defers func23,ntmps23;go_upto_region 1 with fail;go_wp2_with fail;refine VZ.o.mono ?_;rintro e w2 ⟨rfl,rfl⟩;clear VZ;generalize w.setCell ⟨mp,0,none⟩ (.int .i32 1)=W at *;have y2:W.cell? ⟨mp,2,none⟩=some (.slice oF N cF):=HMC.o.blk.cell 2;have HF:af (Sl W 75 2 (.slice oF N cF) fs.length ((fs.zip cg).flatMap Fx)):=HMC.o.vT;clear hN;go_upto_region 4 with fail;go_upto_block 0 with fail;clear y2;go_wp2_with fail;go_loopg [3,18] 1001 (λq v iv wx=>∃(k:Nat),iv=.int .i64 k/\af3 W wx v ((fs.map (·.name)).take k)/\k<=N/\q=1001-k)
 case atStart=>exact⟨0,rfl,af3.nil ax,aE _,rfl⟩
 case round =>
  obtain⟨k,rfl,hS,hkn,rfl⟩:=hrel;have hlk:((fs.map (·.name)).take k).length=k:=by rw[bt,HNM.o];omega
  obtain⟨o1,c1',rfl,_⟩:=hS.view;rw[hlk]at hS;rw[hlk];have HS:af (af3 W wr (.slice o1 k c1') ((fs.map (·.name)).take k)):=hS;clear hS;by_cases hlt:k<N
  ·have hko:k<fs.length:=by rw[<-LU.o];exact hlt
   obtain⟨gF,ho,y0,y1⟩:=an3 HC.o (HF.o.ag HS.o.md (λ_ _=>id)) k hko (by rw[HC.o];exact hko);subst ho;have Yd:af ((fs.map (·.name)).take (k+1)=(fs.map (·.name)).take k++[fs[k].name]):=by unfold af;rw[List.take_succ_eq_append_getElem (by rw[HNM.o];exact hlt),List.getElem_map]
   generalize fs[k].name=nk at *;generalize aM fs[k].code=sk at *;generalize cg[k]'_=ck at *;clear hko HF LU;go_upto_region 7 with fail;have HS2:af (af3 W (wr.alloc (.cells #[.string (T nk),.slice (some ⟨ck,0,none⟩) sk sk] 75)) (.slice o1 k c1') ((fs.map (·.name)).take k)):=HS.o.quiet aj;have z0:(wr.alloc (.cells #[.string (T nk),.slice (some ⟨ck,0,none⟩) sk sk] 75)).cell? ⟨wr.heap.size,0,none⟩=some (.string (T nk)):=(ak.new wr _ _).cell 0;clear y0 y1 HS;generalize wr.alloc (.cells #[.string (T nk),.slice (some ⟨ck,0,none⟩) sk sk] 75)=w2 at *;have HSA:af (af3 W (w2.alloc (.cells #[.string (T nk)] 9)) (.slice o1 k c1') ((fs.map (·.name)).take k)):=HS2.o.quiet aj;have hsl:Sl (w2.alloc (.cells #[.string (T nk)] 9)) 9 1 (.slice o1 k c1') k (zF ((fs.map (·.name)).take k)):=by have:=HSA.o.sl;rw[hlk]at this;exact this
   have ET:=ai hsl;clear hsl;go_wp2_with (at_builtin;refine aL _ rfl (.tmp 22) (.tmp 25) 24 rfl 9 iS (.string ByteArray.empty) 1 16 underlying24 hiS hzS hsS hbS rfl (by decide) (.slice o1 k c1') k (zF ((fs.map (·.name)).take k)) rfl ET.o ⟨w2.heap.size,0,none⟩ 1 1 (#[.string (T nk)]:tAV).toList rfl rfl (aV w2 #[.string (T nk)] 9 _ rfl) (by simp[Value.oneCell']) (by unfold maxLen;omega) (by omega) ?_;intro v5 w5 s5 m5 l5;obtain⟨o5,c5,hv5,_⟩:=s5.view;subst hv5);have GX:af (af3 W w5 (.slice o5 (k+1) c5) ((fs.map (·.name)).take (k+1))):=by unfold af;rw[Yd.o];exact HSA.o.app (by rw[hlk];exact s5) m5 l5
   clear s5 m5 l5 HSA HS2 ET z0;go_roundg (1001-(k+1))
   case measure=>omega
   case rel=>exact⟨k+1,by go_num,GX.o,by omega,rfl⟩
  ·have hkk:k=N:=by omega
   have HE:af ((fs.map (·.name)).take k=fs.map (·.name)):=List.take_of_length_le (by rw[HNM.o];omega);rw[HE.o]at HS;subst hkk;have ET:af (Sl wr 9 1 (.slice o1 k c1') k (zF (fs.map (·.name)))):=by have:=HS.o.sl;rw[HNM.o]at this;exact this
   have Vl:=ai (HMC.o.quiet HS.o.md);have aop:af (aa (Only mp) w wr):=HMO.o.trans (HS.o.md.mono (λ_ _ h=>h.elim));clear HS HF HMC HMO;go_wp2_with fail;refine leaves_cons (f:=27) (args:=#[.pointer (some ⟨mp,0,none⟩)]) (by simp) (by simp[go_sem]) ?_;refine(Go.MuLone.unlock_deferred Vc ⟨mp,0,none⟩ .returning wr (Vl.o.blk.cell 0) (Vl.o.blk.frozen 0)).mono ?_;rintro e u' w5 ⟨rfl,rfl,rfl⟩;have mU:aa (Only mp) wr (wr.setCell ⟨mp,0,none⟩ (.int .i32 0)):=(aa.refl (Only mp) wr).aY 0 _;refine⟨.slice o1 k c1',results_tmp results23 _ _ _,.slice o1 k c1',rfl,ET.o.ag mU (λq hq e=>by have e':q=mp:=e;subst e';exact absurd (Vl.o.blk.ty.one (ET.o.ty hq)) (by decide)),Vl.o.turn _,aop.o.trans mU⟩
set_option linter.all false
theorem amM(s:tBA):(ic (mq s)).length=min s.size 32:=by
 have h1:(ic (mq s)).length=(mq s).size:=by unfold ic;rw[bh];rfl
 rw[h1];unfold mq;rw[ByteArray.size_extract];omega
theorem akn(l:List Nat):(strOf l).size=l.length:=by
 show((l.map UInt8.ofNat).toArray).size=_
 simp
structure amN(inp:tBA)(k:Nat)(r:La):Prop where
 used:r.used<=k
 inp:r.inp.length=min inp.size 32
 log:r.log.length<=20
 trap:r.trap<=5
 ou:r.trap=1->r.used=k/\r.r0=0
theorem anc{ms:List az}(hm:∀m∈ms,ZX m):(∀m∈jB ms,QM [] m)/\(jU (jB ms)).Nodup:=by
 refine⟨λm hm'=>?_,?_⟩
 ·unfold jB at hm';obtain⟨p,hp,rfl⟩:=List.mem_map.1 hm';obtain⟨h1,h2,h3⟩:=hm p hp;exact⟨h1,h2,h3,aE _,(λe he=>by cases he),(λe he=>by cases he),List.Pairwise.nil⟩
 ·have:jU (jB ms)=[]:=by unfold jU jB;rw[List.flatMap_map];exact List.flatMap_eq_nil_iff.2 (λx _=>rfl)
  rw[this];exact List.nodup_nil
theorem amO{fs:List aS}{ms:List az}(hco:qK fs ms.length)(hm:∀m∈ms,ZX m){fn:Nat}(hf:fn<fs.length)(inp:tBA)(k:Nat)(hk:k<=5000):amN inp k (tK fs (FC fs [] (jB ms) fn inp (k:Int))):=by
 obtain⟨hm1,hm2⟩:=anc hm;have hl:(jB ms).length=ms.length:=by unfold jB;rw[bh]
 have fk:Mt (k:Int)=k:=by unfold Mt;omega
 have ho:bR fs.length (qJ [] (jB ms) fn inp (k:Int)):=Vf hf (λg hg=>by cases hg) hm1 hm2 inp _;have hkf:xU fs:=ajE (E4 (λ_=>True) 0 fs);have Wh:=Vg hco hf [] (jB ms) inp (k:Int);have ef:(qJ [] (jB ms) fn inp (k:Int)).r.fuel=k:=fk;have eu:(qJ [] (jB ms) fn inp (k:Int)).r.used=0:=rfl;have h1:=aj2 fs (Mt (k:Int)+2) (qJ [] (jB ms) fn inp (k:Int)) (by omega);have h2:=aj3 fs (Mt (k:Int)+2) (qJ [] (jB ms) fn inp (k:Int)) (λ_=>rfl);have h3:=akl hco hkf (Mt (k:Int)+2) _ ho hl (.inr Wh);have h4:=(DZ hco hkf (Mt (k:Int)+2) _ ho hl (.inr Wh)).1;have e0:((qJ [] (jB ms) fn inp (k:Int)).gs.getD (qJ [] (jB ms) fn inp (k:Int)).r.inp []).length=min inp.size 32:=amM inp;rw[ef]at h1;rw[e0]at h3;have e1:FC fs [] (jB ms) fn inp (k:Int)=followP fs (Mt (k:Int)+2) (qJ [] (jB ms) fn inp (k:Int)):=rfl;rw[<-e1]at h1 h2 h3 h4;clear e1 e0 ho Wh ef eu;generalize FC fs [] (jB ms) fn inp (k:Int)=d at *;have hin:(d.2.gs.getD d.2.r.inp []).length=min inp.size 32:=by rw[h3.1];exact h3.2
 unfold tK;by_cases h0:d.1=0
 ·rw[iP9 h0];exact⟨h1.1,hin,h4.log.1,aE _,λe=>by cases e⟩
 ·rw[iN9 h0];exact⟨h1.1,hin,h4.log.1,h2.1,λe=>⟨(h2.2 e).1.trans h1.2,(h2.2 e).2⟩⟩
theorem al6{fs:List aS}{ms:List az}(hco:qK fs ms.length)(hm:∀m∈ms,ZX m){i:Nat}(hi:i<fs.length)(inp:tBA)(k:Nat)(hk:k<3000):amN inp k (tL fs [] (jB ms) fs[i].name inp (k:Int)).1/\amN inp (k+1000) (tL fs [] (jB ms) fs[i].name inp ((k:Int)+1000)).1 /\ ((tL fs [] (jB ms) fs[i].name inp (k:Int)).1.trap≠1->(tL fs [] (jB ms) fs[i].name inp ((k:Int)+1000)).1=(tL fs [] (jB ms) fs[i].name inp (k:Int)).1):=by
 cases hix:xQ fs fs[i].name with
 |none =>unfold xQ at hix;rw[List.findIdx?_eq_none_iff]at hix;have:=hix fs[i] (bq hi);simp at this
 |some fn =>
  have hf:=Vh hix;have e1:∀f:Int,(tL fs [] (jB ms) fs[i].name inp f).1=tK fs (FC fs [] (jB ms) fn inp f):=λf=>by unfold tL;rw[hix]
  rw[e1,e1];have ek:((k:Int)+1000)=((k+1000:Nat):Int):=by omega
  have q1:=amO hco hm hf inp k (by omega);have q2:=amO hco hm hf inp (k+1000) (by omega);rw[<-ek]at q2;refine⟨q1,q2,λh=>?_⟩;have h1:(FC fs [] (jB ms) fn inp (k:Int)).1≠1:=λe=>h (by unfold tK;rw[iN9 (by omega)];exact e);rw[amL fs [] (jB ms) fn inp k (by omega) h1,alm]
set_option linter.all false
section
variable {w w' : World} {MU : List UInt8} {sb : Nat}
theorem akx(hD:(dP MU).2.2.bad=false):qK (dP MU).2.1 (jB (dP MU).1).length/\(dP MU).2.1.length<=1000:=by
 have hl:(jB (dP MU).1).length=(dP MU).1.length:=by unfold jB;rw[bh]
 exact⟨by rw[hl];exact(ajm hD).1,(akf hD).2.2.1⟩
end
theorem akZ(w:tW)(hW:sV w)(MU:tLB)(hs:MU.length<=maxLen):((dP MU).2.2.bad=true/\Calls prog 16 #[.string (T MU)] w λe w'=>e=.returned (.tuple #[.pointer none,.int .i64 7])/\aa ae w w') \/ ((dP MU).2.2.bad=false/\Calls prog 16 #[.string (T MU)] w λe w'=>∃sb,e=.returned (.tuple #[pt sb,.int .i64 0])/\Made w MU sb w'):=by
 cases hD:(dP MU).2.2.bad with
 |true =>refine .inl ⟨rfl,(Q0 w (T MU) (dP MU) (Uz w hW MU hs (λh=>akf h))).mono (λe w' h=>?_)⟩;unfold uq at h;rw[iP9 hD]at h;exact h
 |false=>exact .inr ⟨rfl,ajF w hW MU hs hD⟩
theorem al7{w0 w1 w2:tW}{MU:tLB}{sb1 sb2:Nat}(h1:Made w0 MU sb1 w1)(h2:Made w1 MU sb2 w2):∃bs1 b1 vF1 vM1 gs1 Gt tv1 wT1 bs2 b2 vF2 vM2 gs2 Zo tv2 wT2, ak w2 sb1 #[pt b1] 58/\ak w2 sb2 #[pt b2] 58 /\ dR (.int .i32 0) (.int .u32 0) wT1 tv1 bs1 b1 vF1 (dP MU).2.1 gs1 (MT vM1 Gt (dP MU).1.length) [] (jB (dP MU).1) w2 /\ dR (.int .i32 0) (.int .u32 0) wT2 tv2 bs2 b2 vF2 (dP MU).2.1 gs2 (MT vM2 Zo (dP MU).1.length) [] (jB (dP MU).1) w2 /\ (∀w3 w4,aa (λk=>k=b1\/jc (MT vM1 Gt (dP MU).1.length) k) w3 w4->dR (.int .i32 0) (.int .u32 0) wT2 tv2 bs2 b2 vF2 (dP MU).2.1 gs2 (MT vM2 Zo (dP MU).1.length) [] (jB (dP MU).1) w3->dR (.int .i32 0) (.int .u32 0) wT2 tv2 bs2 b2 vF2 (dP MU).2.1 gs2 (MT vM2 Zo (dP MU).1.length) [] (jB (dP MU).1) w4) /\ (∀k,Whole b1 vF1 gs1 (MT vM1 Gt (dP MU).1.length) k->w0.heap.size<=k)/\(∀k,Whole b2 vF2 gs2 (MT vM2 Zo (dP MU).1.length) k->w0.heap.size<=k)/\aa ae w0 w2:=by
 obtain⟨bs1,b1,vF1,vM1,gs1,Gt,tv1,wT1,hB1,hl1,hm1,hT1,hC1,hk1⟩:=h1;obtain⟨bs2,b2,vF2,vM2,gs2,Zo,tv2,wT2,hB2,hl2,hm2,hT2,hC2,hk2⟩:=h2;refine⟨bs1,b1,vF1,vM1,gs1,Gt,tv1,wT1,bs2,b2,vF2,vM2,gs2,Zo,tv2,wT2,hB1.ag hm2 id,hB2,hC1.quiet hm2,hC2,λw3 w4 m h=>h.anm m (λk hk hs=>?_) (λk hs hw=>?_),hk1,λk hk=>Nat.le_trans hm1.size (hk2 k hk),hm1.trans hm2⟩
 ·have hQ:=hC1.quiet hT2;rcases hs with rfl|hs
  ·exact⟨_,by simp,hQ.blk.ty⟩
  ·obtain⟨t,ht,hy⟩:=hQ.MR hs;exact⟨t,b5 _ ht,hy⟩
 ·have h1:=hk2 k hw;rcases hs with rfl|hs
  ·have:=hC1.blk.lt;omega
  ·have:=hC1.MS hs;omega
theorem dR.turned{c0 c1:Value}{wT:tW}{tv:Value}{bs:List Nat}{mp:Nat}{vF:Value}{fs:List aS}{cg:List Nat}{a:Ad}{gs:List (List Nat)}{ms:List yU}{w w':tW}(h:dR c0 c1 wT tv bs mp vF fs cg a gs ms w)(m:aa (λk=>k=mp\/jc a k) w w'):iL maT w w':=iL.of m (λk hk=>by
 rcases hk with rfl|hk
 ·exact⟨_,by simp,h.blk.ty⟩
 ·obtain⟨t,ht,hy⟩:=h.MR hk;exact⟨t,b5 _ ht,hy⟩)
theorem alo{c1:Value}{wT:tW}{tv:Value}{bs:List Nat}{mp:Nat}{vF:Value}{fs:List aS}{cg:List Nat}{a:Ad}{gs:List (List Nat)}{ms:List yU}{w:tW}(h:dR (.int .i32 0) c1 wT tv bs mp vF fs cg a gs ms w)(hn:fs.length<=1000)(sb:Nat)(hsb:ak w sb #[pt mp] 58):Calls prog 17 #[pt sb] w λe w'=>∃v,e=.returned v/\Sl w' 9 1 v fs.length (zF (fs.map (·.name)))/\dR (.int .i32 0) c1 wT tv bs mp vF fs cg a gs ms w'/\aa (Only mp) w w':=by
 have HF:=ai (aln h hn);have x0:=hsb.cell 0;clear h hsb;go_enter func17,ntmps17;go_wp2_with fail;refine HF.o.mono ?_;rintro e w1 ⟨v,rfl,s,hC,m⟩;have HR:af (∃v',Ending.returned v=.returned v'/\Sl w1 9 1 v' fs.length (zF (fs.map (·.name)))/\dR (.int .i32 0) c1 wT tv bs mp vF fs cg a gs ms w1/\aa (Only mp) w w1):=⟨v,rfl,s,hC,m⟩
 obtain⟨o,c,rfl,_⟩:=s.view;clear s hC m HF x0;go_wp2_with fail;go_ret;exact HR.o
theorem amP{w0 w1 w2:tW}{MU:tLB}{sb1 sb2:Nat}(hD:(dP MU).2.2.bad=false)(h1:Made w0 MU sb1 w1)(h2:Made w1 MU sb2 w2)(inp:tBA)(hs:inp.size<=9223372036854775807):Calls prog 17 #[pt sb1] w2 λe w3=>∃v,e=.returned v/\Sl w3 9 1 v (dP MU).2.1.length (zF ((dP MU).2.1.map (·.name)))/\aa ae w0 w3 /\ ∀w4,aa ae w3 w4->∀nm (k:Int),-9223372036854775808<=k/\k<=9223372036854775807->Calls prog 12 #[pt sb1,.string (T nm),.string inp,.int .i64 k] w4 λe w5=>∃vL,e=.returned (.agg (mK (tL (dP MU).2.1 [] (jB (dP MU).1) nm inp k).1 vL))/\Sl w5 22 1 vL (tL (dP MU).2.1 [] (jB (dP MU).1) nm inp k).1.log.length (Qy (tL (dP MU).2.1 [] (jB (dP MU).1) nm inp k).1.log)/\aa ae w0 w5 /\ ∀w6,aa ae w5 w6->∀k':Int,-9223372036854775808<=k'/\k'<=9223372036854775807->Calls prog 12 #[pt sb2,.string (T nm),.string inp,.int .i64 k'] w6 λe w7=>∃vL,e=.returned (.agg (mK (tL (dP MU).2.1 [] (jB (dP MU).1) nm inp k').1 vL))/\Sl w7 22 1 vL (tL (dP MU).2.1 [] (jB (dP MU).1) nm inp k').1.log.length (Qy (tL (dP MU).2.1 [] (jB (dP MU).1) nm inp k').1.log)/\aa ae w0 w7/\iL maT w6 w7:=by obtain⟨bs1,b1,vF1,vM1,gs1,Gt,tv1,wT1,bs2,b2,vF2,vM2,gs2,Zo,tv2,wT2,hB1,hB2,hC1,hC2,hK,hk1,hk2,hm⟩:=al7 h1 h2;obtain⟨hco,hn⟩:=akx hD;have Em:∀F b,MJ F b (dP MU).2.1:=λF b=>akM (E4 F b _);have hke:xU (dP MU).2.1:=ajE (E4 (λ_=>True) 0 _);refine(alo hC1 hn sb1 hB1).mono ?_;rintro e w3 ⟨v,rfl,hS,hC3,m3⟩;have m3':aa (λk=>k=b1\/jc (MT vM1 Gt (dP MU).1.length) k) w2 w3:=m3.mono (λ_ _ h=>.inl h);have t3:=hC1.turned m3';have hN3:aa ae w0 w3:=hm.step m3 (λk hk e=>by have:=hk1 k (.inl e);omega);refine⟨v,rfl,hS,hN3,λw4 m4 nm k hk=>?_⟩;have hC4:=hC3.quiet m4;have hD4:=(hK w2 w3 m3' hC2).quiet m4;have aoq:=(hB1.eG t3 (by decide)).ag m4 id;have aor:=(hB2.eG t3 (by decide)).ag m4 id;refine(Ch hC4 sb1 aoq hco Em hke hn nm inp hs k hk).mono ?_;rintro e w5 ⟨vL,a',rfl,hL,_,_,_,_,m5⟩;have t5:=hC4.turned m5;have hN5:aa ae w0 w5:=(hN3.trans m4).step m5 (λk hk e=>by have:=hk1 k (e.elim .inl (λh=>.inr (.inl h)));omega);refine⟨vL,rfl,hL,hN5,λw6 m6 k' hk'=>?_⟩;have hD6:=(hK w4 w5 m5 hD4).quiet m6;refine(Ch hD6 sb2 ((aor.eG t5 (by decide)).ag m6 id) hco Em hke hn nm inp hs k' hk').mono ?_;rintro e w7 ⟨vL2,a2,rfl,hL2,_,_,_,_,m7⟩;exact⟨vL2,rfl,hL2,(hN5.trans m6).step m7 (λk hk e=>by have:=hk2 k (e.elim .inl (λh=>.inr (.inl h)));omega),hD6.turned m7⟩
