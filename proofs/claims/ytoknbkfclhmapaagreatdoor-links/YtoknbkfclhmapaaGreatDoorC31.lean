import Derived.Test.YtoknbkfclhmapaaGreatDoorC30
namespace Go.Proofs.YtoknbkfclhmapaaGreatDoor
open Go.RowKit
def numOK (x:PI):Bool:=decide (x.refers≠0->x.num=0)
def numsOK (l:List PI):Bool:=l.all numOK
def posL:Nat->List PI->List Int
 | _,[]=>[]
 | p,x::l=>(p:Int)::posL (p+x.o.slots) l
theorem slotsP_app (l k:List PI):slotsP (l++k)=slotsP l+slotsP k:=by simp [slotsP]
theorem posL_app:∀ (l k:List PI) (p:Nat),posL p (l++k)=posL p l++posL (p+slotsP l) k
 | [],k,p=>by simp [posL,slotsP]
 | x::l,k,p=>by
  rw [List.cons_append,posL,posL,posL_app l k,List.cons_append]
  simp [slotsP,Nat.add_assoc]
theorem posL_lt:∀ (l:List PI) (p:Nat) (a:Int),(∀ x∈l,0<x.o.slots)->a∈posL p l->(p:Int)<=a/\a<p+slotsP l
 | [],_,_,_,h=>by cases h
 | x::l,p,a,hs,h=>by
  have h0:=hs x (by simp)
  rw [posL] at h
  have e:slotsP (x::l)=x.o.slots+slotsP l:=by simp [slotsP]
  rcases List.mem_cons.1 h with rfl | h
  ·rw [e];omega
  ·have:=posL_lt l _ a (fun y hy=>hs y (List.mem_cons_of_mem _ hy)) h
   rw [e];omega
structure PI.Ok (x:PI):Prop where
 k:x.k<88
 d:x.d<=15
 s:x.s<=15
 j:-32768<=x.jump/\x.jump<=32767
 n:-2147483648<=x.num/\x.num<=2147483647
 h:-2147483648<=x.high/\x.high<=2147483647
 needs:x.o.needs (x.ins [])=true
theorem PI.Ok.facts {x:PI} (h:x.Ok):RowF x.o (wordM x.o.code):=(row_facts x.k h.k).1
theorem PI.Ok.slots {x:PI} (h:x.Ok):x.o.slots=1\/x.o.slots=2:=by
 rcases slots_le _ _ h.facts with h | h
 ·exact .inl h
 ·exact .inr h.1
theorem toI_word (i:RIns) (nm:ByteArray) (x:PI):(toI' i nm x).word=if sortM i.word=99/\x.s≠1 then T [104,101,108,112] else i.word:=by
 unfold toI'
 dsimp only
 generalize (if i.s<0 then i.s else (x.s:Int))=q
 by_cases h1:sortM i.word=119
 ·have h2:¬ (sortM i.word=99/\x.s≠1):=by rw [h1];exact fun h=>absurd h.1 (by decide)
  rw [if_pos h1,if_neg h2]
  split<;>rfl
 ·rw [if_neg h1]
  by_cases h2:sortM i.word=99
  ·rw [if_pos h2]
   by_cases h3:x.s=1
   ·rw [if_pos h3,if_neg (by rintro ⟨_,h⟩;exact h h3)]
   ·rw [if_neg h3,if_pos ⟨h2,h3⟩]
  ·have h3:¬ (sortM i.word=99/\x.s≠1):=fun h=>h2 h.1
   rw [if_neg h2,if_neg h3]
   split<;>rfl
theorem help_facts:slotsI (T [104,101,108,112])=1/\endsI (T [104,101,108,112])=false/\sortM (T [104,101,108,112])≠106:=by decide +kernel
theorem call_facts:slotsI CALL=1/\endsI CALL=false:=by decide +kernel
theorem PI.Ok.word {x:PI} (h:x.Ok) (nm:ByteArray):slotsI (x.toI nm).word=x.o.slots/\endsI (x.toI nm).word=x.o.ends/\(sortM (x.toI nm).word=106 ↔ x.o.jumps=true):=by
 have hF:=h.facts
 unfold PI.toI;rw [toI_word]
 by_cases hc:sortM x.view.word=99/\x.s≠1
 ·rw [if_pos hc]
  have hC:x.view.word=CALL:=by
   rcases hF.kind with ⟨k,_⟩ | ⟨k,_⟩ | ⟨k,_⟩ | ⟨k,_⟩ | ⟨k,_⟩ | ⟨_,_,hw⟩ | ⟨k,_⟩<;>(try (have:=hc.1;unfold PI.view at this;rw [k] at this;exact absurd this (by decide)))
   exact hw
  have e1:=hF.slots
  have e2:=hF.ends
  have e3:=hF.jumps
  rw [show (wordM x.o.code).1.word=CALL from hC] at e1 e2 e3
  rw [e1,e2,e3,help_facts.1,help_facts.2.1,call_facts.1,call_facts.2,sort_call]
  refine ⟨rfl,rfl,?_⟩
  simp [help_facts.2.2]
 ·rw [if_neg hc,hF.slots,hF.ends,hF.jumps]
  refine ⟨rfl,rfl,?_⟩
  simp [PI.view]
def Starts (st:List Bool) (l:List PI) (n:Nat):Prop:=st.length=n/\∀ i,i<n->(st[i]?.getD false=true ↔ (i:Int)∈posL 0 l)
theorem codeL_pre (sl:List UInt8) (n:Nat):∀ (f p:Nat) (acc:List PI) (st:List Bool) (o:List PI × List Bool),codeL sl n f p acc st=some o->∃ l,o.1=acc++l
 | 0,_,_,_,_,h=>by cases h
 | f+1,p,acc,st,o,h=>by
  rw [codeL] at h
  split at h
  ·split at h
   ·cases h
   ·obtain ⟨l,hl⟩:=codeL_pre sl n f _ _ _ o h
    exact ⟨_,by rw [hl,List.append_assoc]⟩
  ·cases h;exact ⟨[],by simp⟩
theorem Starts.step {st:List Bool} {l:List PI} {n:Nat} (h:Starts st l n) (x:PI) (hp:slotsP l<n):Starts (st.set (slotsP l) true) (l++[x]) n:=by
 refine ⟨by simpa using h.1,fun i hi=>?_⟩
 rw [posL_app]
 simp only [posL,List.mem_append,List.mem_cons,List.not_mem_nil,or_false,Nat.zero_add]
 by_cases hie:i=slotsP l
 ·subst hie
  simp [h.1,hp]
 ·rw [List.getElem?_set_ne (by omega),h.2 i hi]
  constructor
  ·exact .inl
  ·rintro (h | h)
   ·exact h
   ·omega
theorem code_own (s:ByteArray) (pos0 slots:Nat) (hsz:pos0+8*slots<=s.size):∀ (f p:Nat) (acc:List PI) (st:List Bool) (o:List PI × List Bool),slots<p+f->p<=slots->p=slotsP acc->Starts st acc slots->(∀ x∈acc,x.Ok/\x.name=[]) ->
  codeL (((BL s).drop pos0).take (8*slots)) slots f p acc st=some o->slotsP o.1=slots/\Starts o.2 o.1 slots/\(∀ x∈o.1,x.Ok/\x.name=[])
 | 0,p,acc,st,o,h,hp,_,_,_,_=>by omega
 | f+1,p,acc,st,o,h,hp,hs,hS,hO,ho=>by
  by_cases hlt:p<slots
  ·have hI:=ins_sim s (pos0+8*p) (8*(slots - p)) (by omega) (by omega)
   have hdt:(((BL s).drop pos0).take (8*slots)).drop (p*8)=((BL s).drop (pos0+8*p)).take (8*(slots - p)):=by
    rw [List.drop_take,List.drop_drop]
    congr 1
    ·omega
    ·congr 1;omega
   rw [codeL,if_pos hlt,hdt] at ho;generalize (BL s).drop (pos0+8*p)=l at *
   cases hfr:fromP (l.take (8*(slots - p))) with
   | none=>rw [hfr] at ho;cases ho
   | some x =>
    rw [hfr] at ho;obtain ⟨g1,g2,g3,g4,g5,g6,g7,g8,g9,g10,g11,g12,g13,g14⟩:=hI.yes x hfr
    have hxO:x.Ok:=⟨g1,g9,g10,g11,g12,g13,g14⟩
    have hsl:=hxO.slots
    exact code_own s pos0 slots hsz f (p+x.o.slots) (acc++[x]) (st.set p true) o (by omega) (by omega) (by rw [slotsP_app];simp [slotsP] at hs ⊢;omega) (by rw [hs];exact hS.step x (by omega)) (fun y hy=>by
     rcases List.mem_append.1 hy with hy | hy
     ·exact hO y hy
     ·rw [List.mem_singleton.1 hy];exact ⟨hxO,g8⟩) ho
  ·rw [codeL,if_neg hlt] at ho
   cases ho
   exact ⟨by rw [<- hs];omega,hS,hO⟩
theorem code_sim (s:ByteArray) (pos0 slots:Nat) (hsz:pos0+8*slots<=s.size):∀ (f p:Nat) (acc:List PI) (st:List Bool),slots<p+f->p<=slots->numsOK acc=true->p=slotsP acc->Starts st acc slots->(∀ x∈acc,x.Ok/\x.name=[]) ->
  (codeL (((BL s).drop pos0).take (8*slots)) slots f p acc st=none->∀ b,bodyL s slots f ⟨pos0+8*p,false⟩ p (acc.map (PI.toI (T [63]))) (posL 0 acc) (acc.map PI.jmp)=some b->b.pos≠slots) /\
  (∀ o,codeL (((BL s).drop pos0).take (8*slots)) slots f p acc st=some o ->
   (numsOK o.1=true->bodyL s slots f ⟨pos0+8*p,false⟩ p (acc.map (PI.toI (T [63]))) (posL 0 acc) (acc.map PI.jmp)=some ⟨o.1.map (PI.toI (T [63])),posL 0 o.1,o.1.map PI.jmp,⟨pos0+8*slots,false⟩,slots⟩) /\
   (numsOK o.1=false->bodyL s slots f ⟨pos0+8*p,false⟩ p (acc.map (PI.toI (T [63]))) (posL 0 acc) (acc.map PI.jmp)=none))
 | 0,p,acc,st,h,hp,_,_,_,_=>by omega
 | f+1,p,acc,st,h,hp,hN,hs,hS,hO=>by
  by_cases hlt:p<slots
  ·have hI:=ins_sim s (pos0+8*p) (8*(slots - p)) (by omega) (by omega)
   have hdt:(((BL s).drop pos0).take (8*slots)).drop (p*8)=((BL s).drop (pos0+8*p)).take (8*(slots - p)):=by
    rw [List.drop_take,List.drop_drop]
    congr 1
    ·omega
    ·congr 1;omega
   rw [codeL,if_pos hlt,hdt,bodyL,if_pos hlt];generalize (BL s).drop (pos0+8*p)=l at *
   cases hfr:fromP (l.take (8*(slots - p))) with
   | none =>
    refine ⟨fun _ b hb=>?_,fun o ho=>by cases ho⟩
    rcases hI.no hfr with h1 | h1 | ⟨hm,h1⟩
    ·rw [if_pos (.inl h1)] at hb;cases hb
    ·rw [if_pos (.inr h1)] at hb;cases hb
    ·split at hb
     ·cases hb
     ·split at hb
      ·cases hb
      ·rename_i i hi
       rw [h1 i hi] at hb
       cases f with
       | zero=>cases hb
       | succ f =>
        rw [bodyL,if_neg (by omega)] at hb
        cases hb
        show p+2≠slots
        omega
   | some x =>
    obtain ⟨g1,g2,g3,g4,g5,g6,g7,g8,g9,g10,g11,g12,g13,g14⟩:=hI.yes x hfr
    have hxO:x.Ok:=⟨g1,g9,g10,g11,g12,g13,g14⟩
    have hsl:=hxO.slots
    simp only
    rw [if_neg (by rw [g4,g5];rintro (h | h)<;>cases h),g7]
    by_cases hno:x.refers≠0/\x.num≠0
    ·rw [if_pos hno]
     refine ⟨fun _ b hb=>(by cases hb),fun o ho=>?_⟩
     obtain ⟨k,hk⟩:=codeL_pre _ _ _ _ _ _ _ ho
     have hbad:numsOK o.1=false:=by
      rw [hk]
      simp [numsOK,numOK,hno.1,hno.2]
     exact ⟨fun h=>(by rw [hbad] at h;cases h),fun _=>rfl⟩
    ·rw [if_neg hno]
     simp only
     rw [(hxO.word (T [63])).1,g5,g6]
     have e:pos0+8*p+8*x.o.slots=pos0+8*(p+x.o.slots):=by omega
     rw [e]
     have IH:=code_sim s pos0 slots hsz f (p+x.o.slots) (acc++[x]) (st.set p true) (by omega) (by omega) (by
       simp only [numsOK,List.all_append,Bool.and_eq_true] at hN ⊢
       refine ⟨hN,?_⟩
       simp only [List.all_cons,List.all_nil,Bool.and_true,numOK,decide_eq_true_eq]
       intro h1
       exact Classical.byContradiction fun h2=>hno ⟨h1,h2⟩) (by rw [slotsP_app];simp [slotsP] at hs ⊢;omega) (by rw [hs];exact hS.step x (by omega)) (fun y hy=>by
      rcases List.mem_append.1 hy with hy | hy
      ·exact hO y hy
      ·rw [List.mem_singleton.1 hy];exact ⟨hxO,g8⟩)
     have e2:posL 0 (acc++[x])=posL 0 acc++[(p:Int)]:=by
      rw [posL_app];simp [posL,hs]
     rw [e2,List.map_append,List.map_append] at IH;exact IH
  ·have hpe:p=slots:=by omega
   subst hpe
   rw [codeL,if_neg (by omega),bodyL,if_neg (by omega)]
   refine ⟨fun h=>(by cases h),fun o ho=>?_⟩
   cases ho
   exact ⟨fun _=>rfl,fun h=>(by rw [hN] at h;cases h)⟩
def nmOf (x:PI):ByteArray:=if x.name=[] then T [63] else T x.name
def PI.toN (x:PI):RIns:=x.toI (nmOf x)
def lblI (slot:Nat) (x:PI):RIns:=if x.o.jumps then { x.toN with label:=labName (x.target slot) } else x.toN
def lblL:Nat->List PI->List RIns
 | _,[]=>[]
 | p,x::l=>lblI p x::lblL (p+x.o.slots) l
def labsL:Nat->List PI->Labs->Labs
 | _,[],lab=>lab
 | p,x::l,lab=>labsL (p+x.o.slots) l (if x.o.jumps then (if labelM (labName (x.target p)) lab<0 then lab++[(labName (x.target p),x.target p)] else lab) else lab)
theorem toI_empty {l:List PI} (h:∀ x∈l,x.name=[]):l.map (PI.toI (T [63]))=l.map PI.toN:=by
 apply List.map_congr_left
 intro x hx
 simp [PI.toN,nmOf,h x hx]
theorem jump_jmp {x:PI} (h:x.Ok) (hj:x.o.jumps=true):x.jmp=x.jump:=by
 have:=(h.facts).jumps
 rw [hj] at this
 have h2:sortM x.view.word=106:=by simpa [PI.view] using this.symm
 simp [PI.jmp,jmp',h2]
theorem target_mem {st:List Bool} {l:List PI} {n:Nat} (hS:Starts st l n) (hn:slotsP l=n) (hO:∀ x∈l,0<x.o.slots) (t:Int):t∈posL 0 l ↔ (decide (0<=t)&&st[t.toNat]?.getD false)=true:=by
 by_cases h0:0<=t
 ·simp only [h0,decide_true,Bool.true_and]
  by_cases hlt:t.toNat<n
  ·rw [hS.2 _ hlt]
   have:((t.toNat:Nat):Int)=t:=by omega
   rw [this]
  ·constructor
   ·intro h
    have:=posL_lt l 0 t hO h
    omega
   ·intro h
    rw [List.getElem?_eq_none (by rw [hS.1];omega)] at h
    cases h
 ·constructor
  ·intro h
   have:=posL_lt l 0 t hO h
   omega
  ·intro h;simp [h0] at h
theorem lab_sim (st:List Bool) (l0:List PI) (n:Nat) (hS:Starts st l0 n) (hn:slotsP l0=n) (hO:∀ x∈l0,0<x.o.slots):∀ (rest:List PI) (p:Nat) (done:List RIns) (lab:Labs),(∀ x∈rest,x.Ok) ->
  labG (posL 0 l0) done (zip3 (rest.map PI.toN) (posL p rest) (rest.map PI.jmp)) lab=if leadP st p rest then some (done++lblL p rest,labsL p rest lab) else none
 | [],p,done,lab,_=>by simp [zip3,labG,leadP,lblL,labsL]
 | x::rest,p,done,lab,hR=>by
  have hx:=hR x (by simp)
  have hw:=hx.word (nmOf x)
  have IH:=fun done lab=>lab_sim st l0 n hS hn hO rest (p+x.o.slots) done lab (fun y hy=>hR y (List.mem_cons_of_mem _ hy))
  have e:zip3 ((x::rest).map PI.toN) (posL p (x::rest)) ((x::rest).map PI.jmp)=(x.toN,(p:Int),x.jmp)::zip3 (rest.map PI.toN) (posL (p+x.o.slots) rest) (rest.map PI.jmp):=rfl
  rw [e,labG,leadP,lblL,labsL]
  cases hj:x.o.jumps with
  | true =>
   have h106:sortM x.toN.word=106:=hw.2.2.2 hj
   rw [if_pos h106,show slotsI x.toN.word=x.o.slots from hw.1,jump_jmp hx hj]
   have ht:(p:Int)+x.o.slots+x.jump=x.target p:=rfl
   rw [ht]
   simp only [if_true]
   have hm:=target_mem hS hn hO (x.target p)
   by_cases hin:x.target p∈posL 0 l0
   ·rw [if_pos hin,IH,hm.1 hin,Bool.true_and]
    have:lblI p x={ x.toN with label:=labName (x.target p) }:=by simp [lblI,hj]
    rw [this]
    simp [List.append_assoc]
   ·rw [if_neg hin]
    have:(decide (0<=x.target p)&&st[(x.target p).toNat]?.getD false)=false:=by
     rcases bool_cases (decide (0<=x.target p)&&st[(x.target p).toNat]?.getD false) with h | h
     ·exact absurd (hm.2 h) hin
     ·exact h
    rw [this,Bool.false_and]
    rfl
  | false =>
   have h106:sortM x.toN.word≠106:=fun h=>by rw [hw.2.2.1 h] at hj;cases hj
   rw [if_neg h106,IH]
   have:lblI p x=x.toN:=by simp [lblI,hj]
   rw [this]
   simp [List.append_assoc]
theorem sort_119 (w:ByteArray) (h:sortM w=119):w=WIDE:=by
 unfold sortM at h
 split at h
 ·exact absurd h (by decide)
 split at h
 ·exact absurd h (by decide)
 split at h
 ·exact absurd h (by decide)
 split at h
 ·exact absurd h (by decide)
 split at h
 ·rename_i hw;exact hw
 split at h
 ·exact absurd h (by decide)
 split at h
 ·exact absurd h (by decide)
 split at h
 ·exact absurd h (by decide)
 ·exact absurd h (by decide)
theorem slots_ne (w:ByteArray) (h:sortM w≠119):slotsI w=1:=by
 unfold slotsI
 rw [if_neg (fun e=>h (by rw [e];exact sort_wide))]
theorem ins_read (s:ByteArray) (p:Nat) (i:RIns) (hok:(insM s ⟨p,false⟩).ok=true) (hb:(insM s ⟨p,false⟩).r.bad=false) (hi:nameIns (insM s ⟨p,false⟩)=some i) :
  (insM s ⟨p,false⟩).r=⟨p+8*slotsI i.word,false⟩/\p+8*slotsI i.word<=s.size:=by
 by_cases h8:p+8<=s.size
 ·have hM:=insM_eq s p h8
  split at hM
  ·rw [hM] at hok;cases hok
  ·generalize (wordM (slotAt ((BL s).drop p)).op).1=v at *;generalize slotAt ((BL s).drop p)=x at *
   have hw:∀ out:InsOut,nameIns out=some i->i.word=out.i.word:=by
    intro out h;unfold nameIns at h
    split at h
    ·split at h
     ·cases h
     ·cases h;rfl
    ·cases h;rfl
   have hword:=hw _ hi
   rw [hM] at hword hb ⊢
   by_cases h119:sortM v.word=119
   ·have hr:(insV v x (rsl s ⟨p+8,false⟩).1 (rsl s ⟨p+8,false⟩).2.bad ⟨p+8,false⟩ (rsl s ⟨p+8,false⟩).2).r=(rsl s ⟨p+8,false⟩).2/\(insV v x (rsl s ⟨p+8,false⟩).1 (rsl s ⟨p+8,false⟩).2.bad ⟨p+8,false⟩ (rsl s ⟨p+8,false⟩).2).i.word=v.word:=by
     simp only [insV,h119]
     rw [if_neg (by decide),if_neg (by decide),if_neg (by decide),if_pos (by trivial)]
     split<;>simp [insBase]
    rw [hr.1] at hb ⊢;rw [hword,hr.2,sort_119 _ h119]
    have:p+16<=s.size:=by
     refine Classical.byContradiction fun hn=>?_
     rw [rsl_end s (p+8) (by omega)] at hb
     cases hb
    rw [rsl_at s (p+8) (by omega)]
    simp [slotsI]
    omega
   ·have hr:(insV v x (rsl s ⟨p+8,false⟩).1 (rsl s ⟨p+8,false⟩).2.bad ⟨p+8,false⟩ (rsl s ⟨p+8,false⟩).2).r=⟨p+8,false⟩/\sortM (insV v x (rsl s ⟨p+8,false⟩).1 (rsl s ⟨p+8,false⟩).2.bad ⟨p+8,false⟩ (rsl s ⟨p+8,false⟩).2).i.word≠119:=by
     unfold insV
     dsimp only
     split
     ·exact ⟨rfl,h119⟩
     split
     ·exact ⟨rfl,h119⟩
     split
     ·exact ⟨rfl,h119⟩
     split
     ·split
      ·refine ⟨rfl,?_⟩
       dsimp only
       rw [sort_help];decide
      ·exact ⟨rfl,h119⟩
     ·exact ⟨rfl,h119⟩
    rw [hr.1,hword,slots_ne _ hr.2]
    exact ⟨rfl,by omega⟩
 ·exfalso
  have:(insM s ⟨p,false⟩).ok=false:=by
   unfold insM
   rw [if_pos (.inr (.inl (rsl_end s p (by omega))))]
  rw [this] at hok;cases hok
theorem bodyL_read (s:ByteArray) (slots:Nat):∀ (f p pos:Nat) (ls:List RIns) (ats js:List Int) (b:BOut),pos<=s.size->bodyL s slots f ⟨pos,false⟩ p ls ats js=some b->b.r.pos+8*p=pos+8*b.pos/\b.r.pos<=s.size/\p<=b.pos
 | 0,_,_,_,_,_,_,_,h=>by cases h
 | f+1,p,pos,ls,ats,js,b,hp,h=>by
  rw [bodyL] at h
  split at h
  ·split at h
   ·cases h
   ·rename_i hno
    split at h
    ·cases h
    ·rename_i i hi
     have hok:(insM s ⟨pos,false⟩).ok=true:=by
      rcases bool_cases (insM s ⟨pos,false⟩).ok with e | e
      ·exact e
      ·exact absurd (.inl e) hno
     have hb:(insM s ⟨pos,false⟩).r.bad=false:=by
      rcases bool_cases (insM s ⟨pos,false⟩).r.bad with e | e
      ·exact absurd (.inr e) hno
      ·exact e
     obtain ⟨h1,h2⟩:=ins_read s pos i hok hb hi;rw [h1] at h
     have:=bodyL_read s slots f _ _ _ _ _ b h2 h
     omega
  ·cases h
   exact ⟨rfl,hp,Nat.le_refl _⟩
theorem lastP_map (l:List PI) (h:∀ x∈l,x.Ok):lastEnds (l.map PI.toN)=lastP l:=by
 unfold lastEnds lastP;rw [List.getLast?_map]
 cases hl:l.getLast? with
 | none=>rfl
 | some x=>exact ((h x (List.mem_of_getLast? hl)).word (nmOf x)).2.1
structure FRel (f:PFn) (o:FOut):Prop where
 ls:o.ls=lblL 0 f.code
 ats:o.ats=posL 0 f.code
 lab:o.lab=labsL 0 f.code []
theorem slots_pos {x:PI} (h:x.Ok):0<x.o.slots:=by rcases h.slots with h | h<;>omega
structure PFn.Ok (f:PFn) (slots:Nat):Prop where
 sl:slotsP f.code=slots
 ok:∀ x∈f.code,x.Ok
 ld:∃ st,Starts st f.code slots/\leadP st 0 f.code=true
theorem code_bad (sl:List UInt8) (q:PR) (h:q.bad=true):(codeP sl q).2.bad=true:=by
 unfold codeP
 split
 ·rfl
 ·exact want_bad _ _ (want_bad _ _ h)
theorem body_sim (s:ByteArray) (slots:Nat) (r:RS) (q:PR) (nm:List UInt8) (hS:Sim s r q) (hq:q.bad=false) :
  ((codeP (takeP (slots*8) q).1 (takeP (slots*8) q).2).2.bad=false->numsOK (codeP (takeP (slots*8) q).1 (takeP (slots*8) q).2).1=true ->
   ∃ o,bodyM s slots r=some o/\Sim s o.r (codeP (takeP (slots*8) q).1 (takeP (slots*8) q).2).2/\FRel ⟨nm,(codeP (takeP (slots*8) q).1 (takeP (slots*8) q).2).1⟩ o) /\
  ((codeP (takeP (slots*8) q).1 (takeP (slots*8) q).2).2.bad=false->PFn.Ok ⟨nm,(codeP (takeP (slots*8) q).1 (takeP (slots*8) q).2).1⟩ slots/\(∃ r',Sim s r' (codeP (takeP (slots*8) q).1 (takeP (slots*8) q).2).2)/\∀ x∈(codeP (takeP (slots*8) q).1 (takeP (slots*8) q).2).1,x.name=[]) /\
  ((codeP (takeP (slots*8) q).1 (takeP (slots*8) q).2).2.bad=true\/numsOK (codeP (takeP (slots*8) q).1 (takeP (slots*8) q).2).1=false->bodyM s slots r=none):=by
 obtain ⟨hr1,hr2⟩:=hS.good hq
 have hrb:r.bad=false:=hS.1.trans hq
 obtain ⟨pos,rbad⟩:=r
 simp only at hr1 hr2 hrb
 subst hrb
 have hlen:q.rest.length=s.size - pos:=by rw [hr1,List.length_drop,BL_size]
 by_cases hshort:q.rest.length<slots*8
 ·have ht:(takeP (slots*8) q).2.bad=true:=by simp [takeP,hshort]
  have hb:=code_bad (takeP (slots*8) q).1 _ ht
  refine ⟨fun h=>(by rw [hb] at h;cases h),fun h=>(by rw [hb] at h;cases h),fun _=>?_⟩
  unfold bodyM
  split
  ·rfl
  ·rename_i b hbl
   have:=bodyL_read s slots _ _ _ _ _ _ b hr2 hbl
   rw [if_pos (.inl (by omega))]
 ·have ht:takeP (slots*8) q=(((BL s).drop pos).take (8*slots),⟨(BL s).drop (pos+8*slots),false⟩):=by
   unfold takeP;rw [if_neg hshort,hq,hr1,List.drop_drop,Nat.mul_comm slots 8]
  rw [ht]
  have hn:(((BL s).drop pos).take (8*slots)).length / 8=slots:=by
   rw [List.length_take,List.length_drop,BL_size];omega
  unfold codeP;rw [hn]
  have hS0:Starts (List.replicate slots false) [] slots:=⟨by simp,fun i hi=>by simp [posL,hi]⟩
  have hsz:pos+8*slots<=s.size:=by omega
  have hC:=code_sim s pos slots hsz (slots+1) 0 [] (List.replicate slots false) (by omega) (by omega) rfl rfl hS0 (fun x hx=>by cases hx)
  simp only [List.map_nil,posL,Nat.mul_zero,Nat.add_zero] at hC
  cases hcl:codeL (((BL s).drop pos).take (8*slots)) slots (slots+1) 0 [] (List.replicate slots false) with
  | none =>
   refine ⟨fun h=>(by cases h),fun h=>(by cases h),fun _=>?_⟩
   unfold bodyM
   split
   ·rfl
   ·rename_i b hbl
    rw [if_pos (.inl (hC.1 hcl b hbl))]
  | some o =>
   obtain ⟨code,st⟩:=o;obtain ⟨c1,c2⟩:=hC.2 _ hcl
   obtain ⟨d1,d2,d3⟩:=code_own s pos slots hsz (slots+1) 0 [] _ _ (by omega) (by omega) rfl hS0 (fun x hx=>by cases hx) hcl
   simp only at c1 c2 d1 d2 d3 ⊢
   have hok:∀ x∈code,x.Ok:=fun x hx=>(d3 x hx).1
   have hem:∀ x∈code,x.name=[]:=fun x hx=>(d3 x hx).2
   have hlab:=lab_sim st code slots d2 d1 (fun x hx=>slots_pos (hok x hx)) code 0 [] [] hok
   have hle:=lastP_map code hok
   refine ⟨fun hb hN=>?_,fun hb=>?_,fun h=>?_⟩
   ·obtain ⟨hb1,hld⟩:=want_false hb;obtain ⟨_,hla⟩:=want_false hb1
    have hbl:=c1 hN
    refine ⟨⟨lblL 0 code,posL 0 code,labsL 0 code [],⟨pos+8*slots,false⟩⟩,?_,?_,⟨rfl,rfl,rfl⟩⟩
    ·unfold bodyM;rw [hbl]
     simp only
     rw [toI_empty hem,hle,hla,hlab,hld]
     simp
    ·refine ⟨?_,fun _=>⟨rfl,hsz⟩⟩
     simp [wantP,hld,hla]
   ·obtain ⟨hb1,hld⟩:=want_false hb
    exact ⟨⟨d1,hok,st,d2,hld⟩,⟨⟨pos+8*slots,false⟩,hb.symm,fun _=>⟨rfl,hsz⟩⟩,hem⟩
   ·unfold bodyM
    rcases bool_cases (numsOK code) with hN | hN
    ·rcases h with h | h
     ·rw [c1 hN]
      simp only
      rw [toI_empty hem,hle,hlab]
      simp only [wantP,Bool.or_eq_true,Bool.not_eq_true'] at h
      rcases h with (h | h) | h
      ·cases h
      ·rw [if_pos (.inr h)]
      ·rw [h]
       split
       ·rfl
       ·rfl
     ·rw [hN] at h;cases h
    ·rw [c2 hN]
def FRels:List PFn->List FOut->Prop
 | [],[]=>True
 | f::fs,o::os=>FRel f o/\FRels fs os
 | _,_=>False
def HOk:List PHead->List PFn->Prop
 | [],[]=>True
 | h::hs,f::fs=>(f.name=h.name/\f.Ok h.slots)/\HOk hs fs
 | _,_=>False
def Bare (fs:List PFn):Prop:=∀ f∈fs,∀ x∈f.code,x.name=[]
def numsAll (fs:List PFn):Bool:=fs.all (fun f=>numsOK f.code)
theorem codes_acc:∀ (hs:List PHead) (q:PR) (acc:List PFn),codesP hs q acc=(acc++(codesP hs q []).1,(codesP hs q []).2)
 | [],q,acc=>by simp [codesP]
 | h::hs,q,acc=>by
  rw [codesP,codesP,codes_acc hs _ (acc++_),codes_acc hs _ ([]++_)]
  simp [List.append_assoc]
theorem codes_bad:∀ (hs:List PHead) (q:PR) (acc:List PFn),q.bad=true->(codesP hs q acc).2.bad=true
 | [],_,_,h=>h
 | _::hs,_,_,h=>codes_bad hs _ _ (code_bad _ _ (take_bad _ _ h))
theorem rdBodies_acc (s:ByteArray):∀ (l:List RFn) (r:RS) (acc:List FOut),rdBodies s l r acc=(rdBodies s l r []).map (fun o=>(acc++o.1,o.2))
 | [],r,acc=>by simp [rdBodies]
 | f::l,r,acc=>by
  rw [rdBodies,rdBodies]
  cases bodyM s f.slots r with
  | none=>rfl
  | some o =>
   simp only
   rw [rdBodies_acc s l _ (acc++_),rdBodies_acc s l _ ([]++_)]
   cases rdBodies s l o.r [] with
   | none=>rfl
   | some x=>simp
theorem codes_sim (s:ByteArray):∀ (hs:List PHead) (r:RS) (q:PR),Sim s r q->q.bad=false ->
  ((codesP hs q []).2.bad=false->numsAll (codesP hs q []).1=true->∃ os r',rdBodies s (hs.map PHead.toR) r []=some (os,r')/\Sim s r' (codesP hs q []).2/\FRels (codesP hs q []).1 os) /\
  ((codesP hs q []).2.bad=false->HOk hs (codesP hs q []).1/\Bare (codesP hs q []).1/\∃ r',Sim s r' (codesP hs q []).2) /\
  ((codesP hs q []).2.bad=true\/numsAll (codesP hs q []).1=false->rdBodies s (hs.map PHead.toR) r []=none)
 | [],r,q,hS,hq=>by
  refine ⟨fun _ _=>⟨[],r,rfl,hS,trivial⟩,fun _=>⟨trivial,fun f hf=>(by cases hf),r,hS⟩,fun h=>?_⟩
  rcases h with h | h
  ·rw [show (codesP [] q []).2=q from rfl,hq] at h;cases h
  ·cases h
 | h::hs,r,q,hS,hq=>by
  obtain ⟨b1,b2,b3⟩:=body_sim s h.slots r q h.name hS hq
  have e:codesP (h::hs) q []=(⟨h.name,(codeP (takeP (h.slots*8) q).1 (takeP (h.slots*8) q).2).1⟩::(codesP hs (codeP (takeP (h.slots*8) q).1 (takeP (h.slots*8) q).2).2 []).1,(codesP hs (codeP (takeP (h.slots*8) q).1 (takeP (h.slots*8) q).2).2 []).2):=by
   rw [codesP,codes_acc];rfl
  have e2:rdBodies s ((h::hs).map PHead.toR) r []=match bodyM s h.slots r with
   | none=>none
   | some o=>(rdBodies s (hs.map PHead.toR) o.r []).map (fun x=>(o::x.1,x.2)):=by
   rw [List.map_cons,rdBodies]
   show (match bodyM s h.slots r with | none=>none | some o=>_)=_
   cases bodyM s h.slots r with
   | none=>rfl
   | some o=>simp only;rw [rdBodies_acc];rfl
  rw [e,e2];generalize codeP (takeP (h.slots*8) q).1 (takeP (h.slots*8) q).2=c at *;obtain ⟨code,q'⟩:=c;simp only at *
  rcases bool_cases q'.bad with hb | hb
  ·have hbad:=codes_bad hs q' [] hb
   refine ⟨fun h=>(by rw [hbad] at h;cases h),fun h=>(by rw [hbad] at h;cases h),fun _=>?_⟩
   rw [b3 (.inl hb)]
  ·obtain ⟨hO,⟨r0,hS0⟩,hE⟩:=b2 hb
   have nn:∀ fs,numsAll (⟨h.name,code⟩::fs)=(numsOK code&&numsAll fs):=fun fs=>rfl
   refine ⟨fun h1 h2=>?_,fun h1=>?_,fun h1=>?_⟩
   ·rw [nn,Bool.and_eq_true] at h2;obtain ⟨o,g1,g2,g3⟩:=b1 hb h2.1
    obtain ⟨os,r',k1,k2,k3⟩:=(codes_sim s hs o.r q' g2 hb).1 h1 h2.2
    rw [g1]
    simp only
    rw [k1]
    exact ⟨o::os,r',rfl,k2,g3,k3⟩
   ·obtain ⟨k1,k2,k3⟩:=(codes_sim s hs r0 q' hS0 hb).2.1 h1
    refine ⟨⟨⟨rfl,hO⟩,k1⟩,fun f hf=>?_,k3⟩
    rcases List.mem_cons.1 hf with rfl | hf
    ·exact hE
    ·exact k2 f hf
   ·rcases bool_cases (numsOK code) with hN | hN
    ·obtain ⟨o,g1,g2,g3⟩:=b1 hb hN;rw [g1]
     simp only
     rw [(codes_sim s hs o.r q' g2 hb).2.2 (by
      rcases h1 with h1 | h1
      ·exact .inl h1
      ·rw [nn,hN,Bool.true_and] at h1;exact .inr h1)]
     rfl
    ·rw [b3 (.inr hN)]
theorem ref_sim (s:ByteArray) (n slot:Nat) (r:RS) (q:PR) (hS:Sim s r q) :
  ((refP n slot q).2.bad=false->Sim s (rnm s (rw2 s (rb s r).2).2).2 (refP n slot q).2/\(rb s r).1=n/\(rw2 s (rb s r).2).1=slot/\(rnm s (rw2 s (rb s r).2).2).1=T (refP n slot q).1/\nameB (refP n slot q).1=true) /\
  ((refP n slot q).2.bad=true->(rnm s (rw2 s (rb s r).2).2).2.bad=true\/(rb s r).1≠n\/(rw2 s (rb s r).2).1≠slot):=by
 obtain ⟨h1,e1⟩:=sim_one s r q hS;unfold refP
 dsimp only
 generalize oneP q=a at *;obtain ⟨an,aq⟩:=a;generalize rb s r=a' at *;obtain ⟨bn,br⟩:=a';simp only at *
 rcases bool_cases aq.bad with hb | hb
 ·have hbad:∀ c d,(nameP (wantP d (twoP (wantP c aq)).2)).2.bad=true:=fun c d=>name_bad _ (want_bad _ _ (two_bad _ (want_bad _ _ hb)))
  refine ⟨fun h=>(by rw [hbad] at h;cases h),fun _=>.inl (rnm_bad s _ (rw2_bad s _ (h1.1.trans hb)))⟩
 ·have e1:=e1 (h1.1.trans hb)
  subst e1
  by_cases hn:bn=n
  ·have hc:decide (bn=n)=true:=by simp [hn]
   obtain ⟨h2,e2⟩:=sim_two s br _ (h1.want hc)
   rw [hc];rw [hc] at h2 e2;generalize twoP (wantP true aq)=b at *;obtain ⟨bn2,bq⟩:=b;generalize rw2 s br=b' at *;obtain ⟨cn,cr⟩:=b';simp only at *
   rcases bool_cases bq.bad with hb2 | hb2
   ·have hbad:∀ d,(nameP (wantP d bq)).2.bad=true:=fun d=>name_bad _ (want_bad _ _ hb2)
    refine ⟨fun h=>(by rw [hbad] at h;cases h),fun _=>.inl (rnm_bad s _ (h2.1.trans hb2))⟩
   ·have e2:=e2 (h2.1.trans hb2)
    subst e2
    by_cases hs:cn=slot
    ·have hc2:decide (cn=slot)=true:=by simp [hs]
     rw [hc2]
     obtain ⟨h3,e3⟩:=sim_name s cr _ (h2.want rfl)
     refine ⟨fun h=>⟨h3,hn,hs,e3 (h3.1.trans h),name_good h⟩,fun h=>.inl (h3.1.trans h)⟩
    ·have hc2:decide (cn=slot)=false:=by simp [hs]
     rw [hc2]
     have hbad:(nameP (wantP false bq)).2.bad=true:=name_bad _ (by simp [wantP])
     refine ⟨fun h=>(by rw [hbad] at h;cases h),fun _=>.inr (.inr hs)⟩
  ·have hc:decide (bn=n)=false:=by simp [hn]
   rw [hc]
   have hbad:∀ d,(nameP (wantP d (twoP (wantP false aq)).2)).2.bad=true:=fun d=>name_bad _ (want_bad _ _ (two_bad _ (by simp [wantP])))
   refine ⟨fun h=>(by rw [hbad] at h;cases h),fun _=>.inr (.inl hn)⟩
theorem T_inj {a b:List UInt8} (h:T a=T b):a=b:=by
 have:=congrArg BL h
 simpa [BL,T] using this
theorem place_neg (nm:ByteArray):∀ (l:List ByteArray),placeM nm l<0 ↔ nm ∉ l
 | []=>by simp [placeM]
 | x::l=>by
  have ih:=place_neg nm l
  rw [placeM]
  by_cases h:x=nm
  ·rw [if_pos h];simp [h]
  ·rw [if_neg h]
   split
   ·rename_i hp
    simp [ih.1 hp,Ne.symm h]
   ·rename_i hp
    have:nm∈l:=Classical.byContradiction fun hn=>hp (ih.2 hn)
    simp [this]
    omega
theorem has_map (ms:List PMap) (nm:List UInt8):placeM (T nm) ((ms.map PMap.toR).map (·.name))<0 ↔ hasMapP ms nm=false:=by
 rw [place_neg]
 simp only [hasMapP,List.map_map,List.mem_map,Function.comp]
 rw [<- Bool.not_eq_true,List.any_eq_true]
 constructor
 ·rintro h ⟨m,hm,he⟩
  exact h ⟨m,hm,by simp at he;simp [PMap.toR,he]⟩
 ·rintro h ⟨m,hm,he⟩
  exact h ⟨m,hm,by simpa using T_inj he⟩
theorem refsI_acc (ms:List PMap) (n:Nat):∀ (l:List PI) (slot:Nat) (left:Int) (q:PR) (acc:List PI),refsI ms n slot l left q acc=(acc++(refsI ms n slot l left q []).1,(refsI ms n slot l left q []).2)
 | [],_,_,_,_=>by simp [refsI]
 | x::l,slot,left,q,acc=>by
  rw [refsI,refsI]
  split
  ·rw [refsI_acc ms n l _ _ _ (acc++_),refsI_acc ms n l _ _ _ ([]++_)]
   simp [List.append_assoc]
  ·rw [refsI_acc ms n l _ _ _ (acc++_),refsI_acc ms n l _ _ _ ([]++_)]
   simp [List.append_assoc]
theorem ref_bad (n slot:Nat) (q:PR) (h:q.bad=true):(refP n slot q).2.bad=true:=name_bad _ (want_bad _ _ (two_bad _ (want_bad _ _ (one_bad _ h))))
theorem refsI_bad (ms:List PMap) (n:Nat):∀ (l:List PI) (slot:Nat) (left:Int) (q:PR) (acc:List PI),q.bad=true->(refsI ms n slot l left q acc).2.2.bad=true
 | [],_,_,_,_,h=>h
 | x::l,slot,left,q,acc,h=>by
  rw [refsI]
  split
  ·exact refsI_bad ms n l _ _ _ _ (want_bad _ _ (want_bad _ _ (ref_bad _ _ _ h)))
  ·exact refsI_bad ms n l _ _ _ _ h
end Go.Proofs.YtoknbkfclhmapaaGreatDoor
