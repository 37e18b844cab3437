import Derived.Test.YtnhcaifopaeohaaGreatDoorM39
namespace Go.Proofs.YtnhcaifopaeohaaGreatDoor
open Go.RowKit
set_option linter.all false

def labN (n:Nat):List UInt8:=108::Lib.itoa (n:Int)
theorem lab_words (n:Nat):∀ c∈labN n,wordC c=true:=fun c hc=>by
 rcases List.mem_cons.1 hc with rfl | hc
 ·decide
 ·rw [Lib.itoa_nonneg] at hc;exact dec_words n c hc
theorem lab_name {n:Nat} (h:n<1000000000):nameB (labN n)=true:=by
 have hl:(Lib.itoa (n:Int)).length<=9:=by rw [Lib.itoa_nonneg,Lib.decDigits_length];exact ndig_le 8 n (by omega)
 unfold nameB labN
 simp only [Bool.and_eq_true,decide_eq_true_eq,List.length_cons]
 exact ⟨⟨by omega,by decide⟩,List.all_eq_true.2 (fun c hc=>lab_words n c hc)⟩
def labAt (labs:List (List UInt8)) (s:Nat):List UInt8:=labs[s]?.getD []
structure LabsOk (labs:List (List UInt8)):Prop where
 form:∀ s,labAt labs s=[]\/∃ n,n<1000000000/\labAt labs s=labN n
 inj:∀ s t,labAt labs s=labAt labs t->labAt labs s≠[]->s=t
theorem labsP_at:∀ (st:List Bool) (n s:Nat),labAt (labsP st n) s=if st[s]?.getD false then labN (n+(st.take s).count true) else []
 | [],n,s=>by simp [labsP,labAt]
 | true::st,n,0=>by simp [labsP,labAt,labN]
 | false::st,n,0=>by simp [labsP,labAt]
 | true::st,n,s+1=>by
  have ih:=labsP_at st (n+1) s
  unfold labAt at ih ⊢
  rw [labsP,List.getElem?_cons_succ,ih,List.getElem?_cons_succ,List.take_succ_cons,List.count_cons]
  have e:n+1+List.count true (List.take s st)=n+(List.count true (List.take s st)+if (true==true)=true then 1 else 0):=by simp;omega
  rw [e]
 | false::st,n,s+1=>by
  have ih:=labsP_at st n s
  unfold labAt at ih ⊢
  rw [labsP,List.getElem?_cons_succ,ih,List.getElem?_cons_succ,List.take_succ_cons,List.count_cons]
  simp
theorem count_lt {st:List Bool} {s t:Nat} (h:s<t) (hs:st[s]?.getD false=true):(st.take s).count true<(st.take t).count true:=by
 have hl:s<st.length:=by
  by_cases h:s<st.length
  ·exact h
  ·rw [List.getElem?_eq_none (by omega)] at hs;cases hs
 have e:st.take t=st.take s++(st.drop s).take (t - s):=by
  have:t=s+(t - s):=by omega
  conv=>lhs;rw [this]
  exact List.take_add
 rw [e,List.count_append,List.drop_eq_getElem_cons hl]
 have:st[s]=true:=by rw [List.getElem?_eq_getElem hl] at hs;exact hs
 rw [this,show t - s=(t - s - 1)+1 by omega,List.take_succ_cons,List.count_cons]
 simp
theorem labN_inj {a b:Nat} (h:labN a=labN b):a=b:=by
 unfold labN at h
 injection h with _ h
 exact itoa_inj h
theorem labs_ok (st:List Bool) (h:st.length<=1000):LabsOk (labsP st 0):=by
 refine ⟨fun s=>?_,fun s t e hn=>?_⟩
 ·rw [labsP_at]
  split
  ·refine .inr ⟨_,?_,rfl⟩
   have:(st.take s).count true<=(st.take s).length:=List.count_le_length
   rw [List.length_take] at this
   omega
  ·exact .inl rfl
 ·rw [labsP_at] at hn
  by_cases hs:st[s]?.getD false=true
  ·by_cases ht:st[t]?.getD false=true
   ·rw [labsP_at,labsP_at,if_pos hs,if_pos ht] at e
    have:=labN_inj e
    rcases Nat.lt_trichotomy s t with c | c | c
    ·have:=count_lt c hs;omega
    ·exact c
    ·have:=count_lt c ht;omega
   ·rw [labsP_at,labsP_at,if_pos hs,if_neg ht] at e
    simp [labN] at e
  ·rw [if_neg hs] at hn;exact absurd rfl hn
def withS:Nat->List PI->List (PI × Nat)
 | _,[]=>[]
 | s,x::l=>(x,s)::withS (s+x.o.slots) l
structure PFn.Told (f:PFn):Prop where
 nm:nameB f.name=true
 ins:∀ p∈withS 0 f.code,p.1.Told (p.1.lab (labelsP f) p.2)
 lead:∀ p∈withS 0 f.code,p.1.o.jumps=true->∃ t:Nat,p.1.target p.2=t/\t∈(withS 0 f.code).map (·.2)/\labAt (labelsP f) t≠[]
 ends:lastP f.code=true
 small:slotsP f.code<=200
theorem led_lenB:∀ (l:List PI) (s:Nat) (st:List Bool),(ledP s l st).length=st.length
 | [],_,_=>rfl
 | x::l,s,st=>by
  rw [ledP,led_lenB]
  split
  ·rw [List.length_set]
  ·rfl
structure PMap.Told (m:PMap):Prop where
 nm:nameB m.name=true
 k:1<=m.key/\m.key<=8
 v:1<=m.value/\m.value<=16
 e:1<=m.entries/\m.entries<=8
theorem withS_lt:∀ (l:List PI) (s:Nat),(∀ x∈l,1<=x.o.slots)->∀ p∈withS s l,p.2+p.1.o.slots<=s+slotsP l
 | [],_,_,p,h=>by cases h
 | x::l,s,hs,p,h=>by
  have e:slotsP (x::l)=x.o.slots+slotsP l:=by unfold slotsP;simp
  rw [withS] at h
  rcases List.mem_cons.1 h with rfl | h
  ·rw [e];simp only;omega
  ·have:=withS_lt l _ (fun y hy=>hs y (by simp [hy])) p h
   omega
theorem withS_code:∀ (l:List PI) (s:Nat),(withS s l).map (·.1)=l
 | [],_=>rfl
 | x::l,s=>by rw [withS,List.map_cons,withS_code l]
theorem row_slots (k:Nat) (h:k<88):(rowK k).slots=1\/(rowK k).slots=2:=by
 rw [(tab_refers ⟨k,h⟩).2.1]
 split
 ·exact .inr rfl
 ·exact .inl rfl
theorem needs_same (o:OpS) (x y:PIns) (hd:x.d=y.d) (hs:x.s=y.s) (hj:x.jump=y.jump) (hn:x.num=y.num) (hh:x.high=y.high):o.needs x=o.needs y:=by
 have hr:PK.right x=PK.right y:=by
  funext p
  unfold PK.right;rw [hd,hs,hh]
 unfold OpS.needs othersB;rw [hr,hd,hs,hj,hn]
end Go.Proofs.YtnhcaifopaeohaaGreatDoor
