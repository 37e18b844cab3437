import Derived.Test.YtoknbkfclhmapaaGreatDoorC32
import Derived.Lib.ItoaMem
namespace Go.Proofs.YtoknbkfclhmapaaGreatDoor
open Go.RowKit
theorem openM_eq (s:ByteArray):openM s=if s.size<5\/s.extract 0 5≠HEAD then none else behindMaps s (rdMaps s (rb s ⟨5,false⟩).1 (rb s ⟨5,false⟩).2 []).1 (rdMaps s (rb s ⟨5,false⟩).1 (rb s ⟨5,false⟩).2 []).2:=rfl
theorem head_list (s:ByteArray) (h:5<=s.size):s.extract 0 5=HEAD ↔ ((BL s).take 4=[83,80,79,76]/\at' (BL s) 4=1):=by
 have e:s.extract 0 5=T ((BL s).take 5):=by
  have:(s.extract 0 5).data.toList=(BL s).take 5:=by
   rw [ByteArray.data_extract,Array.toList_extract,List.extract_eq_take_drop]
   simp [BL]
  rw [<- this];rfl
 have e5:(BL s).take 5=(BL s).take 4++[(BL s)[4]'(by rw [BL_size];omega)]:=by
  rw [List.take_succ_eq_append_getElem (by rw [BL_size];omega)]
 have ea:at' (BL s) 4=((BL s)[4]'(by rw [BL_size];omega)).toNat:=by
  unfold at'
  rw [List.getElem?_eq_getElem (by rw [BL_size];omega)]
  rfl
 rw [e,e5,ea]
 generalize (BL s)[4]'(by rw [BL_size];omega)=b
 generalize hl:(BL s).take 4=l
 have hl4:l.length=4:=by rw [<- hl,List.length_take,BL_size];omega
 constructor
 ·intro h
  have h2:l++[b]=[83,80,79,76]++[1]:=T_inj h
  obtain ⟨h3,h4⟩:=List.append_inj h2 (by rw [hl4];rfl)
  exact ⟨h3,by rw [List.cons.inj h4 |>.1];rfl⟩
 ·rintro ⟨h1,h2⟩
  have:b=1:=UInt8.toNat_inj.1 (by rw [h2];rfl)
  rw [h1,this]
  rfl
def behindHead (q:PR):List PMap × List PFn × PR :=
 let c:=oneP q
 let m:=mapsP c.1 (wantP (decide (c.1<=8)) c.2) [] []
 let f:=funcsP m.2
 let g:=refsP m.1 f.1 f.2
 (m.1,g.1,wantP (g.2.rest==[]) g.2)
theorem decodeP_eq (l:List UInt8):decodeP l=behindHead (wantP (decide ((oneP (wantP ((takeP 4 ⟨l,false⟩).1==[83,80,79,76]) (takeP 4 ⟨l,false⟩).2)).1=1)) (oneP (wantP ((takeP 4 ⟨l,false⟩).1==[83,80,79,76]) (takeP 4 ⟨l,false⟩).2)).2):=rfl
theorem head_bad' (q:PR) (h:q.bad=true):(behindHead q).2.2.bad=true:=by
 unfold behindHead
 exact want_bad _ _ (refs_bad _ _ _ (funcs_bad _ (maps_bad _ _ _ _ (want_bad _ _ (one_bad _ h)))))
theorem tail_bad (ms:List PMap) (mq:PR) (c:Bool) (h:mq.bad=true):¬ (wantP c (refsP ms (funcsP mq).1 (funcsP mq).2).2).bad=false:=by
 rw [want_bad _ _ (refs_bad _ _ _ (funcs_bad _ h))];decide
theorem decode_sim (s:ByteArray) :
  ((decodeP (BL s)).2.2.bad=false->∃ o,openM s=some o/\Opened s (decodeP (BL s)).1 (decodeP (BL s)).2.1 o)/\((decodeP (BL s)).2.2.bad=true->openM s=none):=by
 rw [openM_eq,decodeP_eq]
 by_cases h5:s.size<5
 ·rw [if_pos (.inl h5)]
  have hbad:(wantP (decide ((oneP (wantP ((takeP 4 ⟨BL s,false⟩).1==[83,80,79,76]) (takeP 4 ⟨BL s,false⟩).2)).1=1)) (oneP (wantP ((takeP 4 ⟨BL s,false⟩).1==[83,80,79,76]) (takeP 4 ⟨BL s,false⟩).2)).2).bad=true:=by
   refine want_bad _ _ ?_
   by_cases h4:s.size<4
   ·exact one_bad _ (want_bad _ _ (by simp [takeP,BL_size,h4]))
   ·have h0:(wantP ((takeP 4 ⟨BL s,false⟩).1==[83,80,79,76]) (takeP 4 ⟨BL s,false⟩).2).rest=[]:=by
     have:(takeP 4 ⟨BL s,false⟩).2.rest=(BL s).drop 4:=by simp [takeP,BL_size,h4]
     show (takeP 4 ⟨BL s,false⟩).2.rest=[]
     rw [this,List.drop_eq_nil_of_le (by rw [BL_size];omega)]
    unfold oneP;rw [h0]
  have hb:=head_bad' _ hbad
  exact ⟨fun h=>(by rw [hb] at h;cases h),fun _=>rfl⟩
 ·have ht:takeP 4 ⟨BL s,false⟩=((BL s).take 4,⟨(BL s).drop 4,false⟩):=by
   unfold takeP
   rw [if_neg (by simp only [BL_size];omega)]
  rw [ht]
  simp only
  have hd:(BL s).drop 4=(BL s)[4]'(by rw [BL_size];omega)::(BL s).drop 5:=by
   rw [List.drop_eq_getElem_cons (by rw [BL_size];omega)]
  have ho:∀ c,oneP (wantP c ⟨(BL s).drop 4,false⟩)=(at' (BL s) 4,⟨(BL s).drop 5,!c⟩):=by
   intro c
   have ea:at' (BL s) 4=((BL s)[4]'(by rw [BL_size];omega)).toNat:=by
    unfold at'
    rw [List.getElem?_eq_getElem (by rw [BL_size];omega)]
    rfl
   simp only [oneP,wantP,hd,ea,Bool.false_or]
  rw [ho]
  simp only
  have hh:=head_list s (by omega)
  by_cases hc:(BL s).take 4=[83,80,79,76]/\at' (BL s) 4=1
  ·rw [if_neg (by rintro (h | h);exact h5 h;exact h (hh.2 hc))]
   have hq:wantP (decide (at' (BL s) 4=1)) ⟨(BL s).drop 5,!((BL s).take 4==[83,80,79,76])⟩=⟨(BL s).drop 5,false⟩:=by
    simp [wantP,hc.1,hc.2]
   rw [hq]
   have hS:Sim s ⟨5,false⟩ ⟨(BL s).drop 5,false⟩:=⟨rfl,fun _=>⟨rfl,by show 5<=s.size;omega⟩⟩
   obtain ⟨h1,e1⟩:=sim_one s _ _ hS;unfold behindHead
   dsimp only
   rcases bool_cases (oneP ⟨(BL s).drop 5,false⟩).2.bad with hb | hb
   ·have hbad:∀ c k,(mapsP k (wantP c (oneP ⟨(BL s).drop 5,false⟩).2) [] []).2.bad=true:=fun c k=>maps_bad _ _ _ _ (want_bad _ _ hb)
    refine ⟨fun h=>?_,fun _=>?_⟩
    ·exact absurd h (tail_bad _ _ _ (hbad _ _))
    ·have hb':=h1.1.trans hb
     rw [rdMaps_bad s _ _ _ hb'];exact behind_bad s _ _ hb'
   ·have hb':=h1.1.trans hb
    rw [e1 hb'];generalize (rb s ⟨5,false⟩).2=r1 at *;generalize oneP ⟨(BL s).drop 5,false⟩=c at *;obtain ⟨cn,cq⟩:=c;simp only at *
    by_cases h8:cn<=8
    ·have hd8:decide (cn<=8)=true:=by simp [h8]
     rw [hd8]
     obtain ⟨a1,a2⟩:=sim_maps s cn r1 (wantP true cq) [] [] [] (h1.want rfl) (by simp [wantP,hb]) rfl rfl (.inl ⟨rfl,rfl⟩)
     have hcnt:=rdMaps_cnt s cn r1 []
     generalize mapsP cn (wantP true cq) [] []=M at *;obtain ⟨ms,mq⟩:=M;generalize rdMaps s cn r1 []=D at *;obtain ⟨ds,dr⟩:=D;simp only at *
     rcases bool_cases mq.bad with hb2 | hb2
     ·refine ⟨fun h=>?_,fun _=>?_⟩
      ·exact absurd h (tail_bad _ _ _ hb2)
      ·rcases a2 hb2 with h | h
       ·exact behind_bad s _ _ h
       ·exact behind_maps s _ _ (.inl h)
     ·obtain ⟨k1,k2,k3⟩:=a1 hb2;subst k2
      have hl:=hcnt (k1.1.trans hb2)
      simp only [List.length_nil,List.length_map] at hl
      exact behind_sim s ms dr mq k1 hb2 k3 (by omega) _ rfl
    ·have hd8:decide (cn<=8)=false:=by simp;omega
     rw [hd8]
     have hbad:(mapsP cn (wantP false cq) [] []).2.bad=true:=maps_bad _ _ _ _ (by simp [wantP])
     refine ⟨fun h=>?_,fun _=>?_⟩
     ·exact absurd h (tail_bad _ _ _ hbad)
     ·rcases bool_cases (rdMaps s cn r1 []).2.bad with hb3 | hb3
      ·exact behind_bad s _ _ hb3
      ·refine behind_maps s _ _ (.inr ?_)
       rw [rdMaps_cnt s cn r1 [] hb3]
       simp;omega
  ·rw [if_pos (.inr (fun h=>hc (hh.1 h)))]
   have hq:(wantP (decide (at' (BL s) 4=1)) ⟨(BL s).drop 5,!((BL s).take 4==[83,80,79,76])⟩).bad=true:=by
    simp only [wantP,Bool.or_eq_true,Bool.not_eq_true',decide_eq_false_iff_not,beq_eq_false_iff_ne]
    refine Classical.byContradiction fun hn=>hc ?_
    simp only [not_or,Classical.not_not] at hn
    simpa using hn
   have hb:=head_bad' _ hq
   exact ⟨fun h=>(by rw [hb] at h;cases h),fun _=>rfl⟩
theorem decF_eq:∀ (f n:Nat),n<10 ^ (f+1)->decF (f+1) n=Lib.decDigits n
 | 0,n,h=>by
  have h':n<10:=by simpa using h
  rw [decF,if_pos h',Lib.decDigits_one h',Nat.mod_eq_of_lt h']
 | f+1,n,h=>by
  rw [decF]
  by_cases h':n<10
  ·rw [if_pos h',Lib.decDigits_one h',Nat.mod_eq_of_lt h']
  ·rw [if_neg h',decF_eq f (n / 10) (by rw [Nat.pow_succ] at h;omega)]
   conv=>rhs;rw [Lib.decDigits,dif_neg h']
theorem decM_eq (n:Nat) (h:n<100000000000000000000):decM n=Lib.decDigits n:=decF_eq 19 n (by simpa using h)
def valD (l:List UInt8):Nat:=l.foldl (fun a c=>10*a+(c.toNat - 48)) 0
theorem valD_snoc (l:List UInt8) (c:UInt8):valD (l++[c])=10*valD l+(c.toNat - 48):=by simp [valD]
theorem valD_dec (n:Nat):valD (Lib.decDigits n)=n:=by
 induction n using Nat.strongRecOn with
 | _ n ih =>
  by_cases h:n<10
  ·rw [Lib.decDigits_one h]
   have:(UInt8.ofNat (48+n)).toNat=48+n:=by simp;omega
   simp only [valD,List.foldl_cons,List.foldl_nil,this]
   omega
  ·rw [Lib.decDigits,dif_neg h,valD_snoc,ih (n / 10) (by omega)]
   have:(UInt8.ofNat (48+n % 10)).toNat=48+n % 10:=by simp;omega
   rw [this]
   omega
theorem labName_inj (a b:Int) (ha:0<=a/\a<=200) (hb:0<=b/\b<=200) (h:labName a=labName b):a=b:=by
 unfold labName at h
 have h1:=List.cons.inj (T_inj h)
 rw [decM_eq _ (by omega),decM_eq _ (by omega)] at h1
 have:=congrArg valD h1.2
 rw [valD_dec,valD_dec] at this
 omega
def LInv' (lab:Labs):Prop:=∀ x∈lab,x.1=labName x.2/\0<=x.2/\x.2<=200
theorem lab_look:∀ (lab:Labs) (t:Int),LInv' lab->0<=t/\t<=200->labelM (labName t) lab=t\/labelM (labName t) lab=-1
 | [],_,_,_=>.inr rfl
 | (nm,p)::lab,t,hI,ht=>by
  rw [labelM]
  by_cases h:nm=labName t
  ·rw [if_pos h]
   obtain ⟨h1,h2⟩:=hI (nm,p) (by simp)
   exact .inl (labName_inj p t h2 ht (h1.symm.trans h))
  ·rw [if_neg h]
   exact lab_look lab t (fun x hx=>hI x (List.mem_cons_of_mem _ hx)) ht
theorem lab_keep:∀ (lab more:Labs) (nm:ByteArray) (t:Int),labelM nm lab=t->0<=t->labelM nm (lab++more)=t
 | [],_,_,_,h,h0=>by rw [labelM] at h;omega
 | (m,p)::lab,more,nm,t,h,h0=>by
  rw [List.cons_append];rw [labelM] at h ⊢
  by_cases he:m=nm
  ·rw [if_pos he] at h ⊢;exact h
  ·rw [if_neg he] at h ⊢;exact lab_keep lab more nm t h h0
theorem lab_new:∀ (lab:Labs) (nm:ByteArray) (t:Int),LInv' lab->labelM nm lab<0->labelM nm (lab++[(nm,t)])=t
 | [],nm,t,_,_=>by simp [labelM]
 | (m,p)::lab,nm,t,hI,h=>by
  rw [List.cons_append];rw [labelM] at h ⊢
  by_cases he:m=nm
  ·rw [if_pos he] at h
   have:=(hI (m,p) (by simp)).2.1
   simp only at this
   omega
  ·rw [if_neg he] at h ⊢;exact lab_new lab nm t (fun x hx=>hI x (List.mem_cons_of_mem _ hx)) h
theorem labs_keep:∀ (l:List PI) (p:Nat) (lab:Labs) (nm:ByteArray) (t:Int),labelM nm lab=t->0<=t->labelM nm (labsL p l lab)=t
 | [],_,_,_,_,h,_=>h
 | x::l,p,lab,nm,t,h,h0=>by
  rw [labsL]
  refine labs_keep l _ _ nm t ?_ h0
  split
  ·split
   ·exact lab_keep _ _ _ _ h h0
   ·exact h
  ·exact h
def Found (lab:Labs):Nat->List PI->Prop
 | _,[]=>True
 | p,x::l=>(x.o.jumps=true->labelM (labName (x.target p)) lab=x.target p/\0<=x.target p)/\Found lab (p+x.o.slots) l
theorem labs_found (st:List Bool) (hst:st.length<=200):∀ (l:List PI) (p:Nat) (lab:Labs),LInv' lab->leadP st p l=true->LInv' (labsL p l lab)/\Found (labsL p l lab) p l
 | [],_,_,hI,_=>⟨hI,trivial⟩
 | x::l,p,lab,hI,h=>by
  rw [leadP,Bool.and_eq_true] at h;rw [labsL]
  cases hj:x.o.jumps with
  | false =>
   obtain ⟨h1,h2⟩:=labs_found st hst l (p+x.o.slots) lab hI h.2
   refine ⟨h1,fun hh=>(by rw [hj] at hh;cases hh),h2⟩
  | true =>
   have ht:=h.1
   rw [hj,if_pos rfl,Bool.and_eq_true,decide_eq_true_eq] at ht
   have hlt:(x.target p).toNat<st.length:=by
    refine Classical.byContradiction fun hn=>?_
    have:=ht.2
    rw [List.getElem?_eq_none (by omega)] at this
    cases this
   have hb:0<=x.target p/\x.target p<=200:=by omega
   simp only [if_true]
   have hI':LInv' (if labelM (labName (x.target p)) lab<0 then lab++[(labName (x.target p),x.target p)] else lab):=by
    split
    ·intro y hy
     rcases List.mem_append.1 hy with hy | hy
     ·exact hI y hy
     ·rw [List.mem_singleton.1 hy];exact ⟨rfl,hb⟩
    ·exact hI
   have hf:labelM (labName (x.target p)) (if labelM (labName (x.target p)) lab<0 then lab++[(labName (x.target p),x.target p)] else lab)=x.target p:=by
    split
    ·rename_i hn;exact lab_new lab _ _ hI hn
    ·rename_i hn
     rcases lab_look lab _ hI hb with h | h
     ·exact h
     ·rw [h] at hn;exact absurd (by decide) hn
   obtain ⟨h1,h2⟩:=labs_found st hst l (p+x.o.slots) _ hI' h.2
   exact ⟨h1,fun _=>⟨labs_keep l _ _ _ _ hf hb.1,hb.1⟩,h2⟩
theorem same_names:∀ {l k:List PI},SameL l k->(∀ x∈l,x.Ok)->∀ y∈k,y.Ok/\(y.refers≠0->nameB y.name=true)
 | [],[],_,_,_,h=>by cases h
 | x::l,y::k,h,hO,z,hz=>by
  rcases List.mem_cons.1 hz with rfl | hz
  ·refine ⟨h.1.ok (hO x (by simp)),fun hr=>h.1.yes ?_⟩
   have:z.refers=x.refers:=by rw [h.1.e];rfl
   rw [<- this];exact hr
  ·exact same_names h.2 (fun w hw=>hO w (List.mem_cons_of_mem _ hw)) z hz
end Go.Proofs.YtoknbkfclhmapaaGreatDoor
