import Derived.Test.YtnhcaifopaeohaaGreatDoorC39
namespace Go.Proofs.YtnhcaifopaeohaaGreatDoor
open Go.RowKit
set_option linter.all false
section
variable {x : PI} {lab : List UInt8}
theorem Told.named (h:x.Told lab) (hs:x.s=1):nameB x.name=true\/x.o.parts≠[.result,.comma,.wide]:=by
 by_cases hp:x.o.parts=[.result,.comma,.wide]
 ·left
  refine (h.nm ?_).1
  unfold PI.refers;rw [if_pos hs,Told.refersE h];rw [hp]
  split<;>decide
 ·exact .inr hp
theorem Told.call_named (h:x.Told lab) (hc:x.o.call=true) (hs:x.s=1):nameB x.name=true:=by
 refine (h.nm ?_).1
 unfold PI.refers
 rw [if_pos hs,Told.refersE h,if_pos hc];decide
theorem Told.call_help (h:x.Told lab) (hc:x.o.call=true) (hs:¬ x.s=1):∃ m:Fin 4,x.body lab=helpW[m.1]?.getD []:=by
 have hn:=h.needs
 rw [need_call _ _ hc] at hn
 simp only [Bool.and_eq_true,Bool.or_eq_true,decide_eq_true_eq] at hn
 dsimp only [PI.ins] at hn
 refine ⟨⟨(x.num - 1).toNat,by omega⟩,?_⟩
 unfold PI.body;rw [if_pos hc,if_neg hs]
theorem Told.word_ok (h:x.Told lab):wordOk x.word=true:=by
 unfold PI.word
 split
 ·split<;>decide
 ·rename_i hc
  have hc2:x.o.call=false:=by simpa using hc
  exact tab_word ⟨x.k,h.k⟩ hc2
theorem Told.body_head (h:x.Told lab):(x.o.call=false/\x.o.parts=[])\/(¬ (x.o.call=false/\x.o.parts=[])/\∃ c q,x.body lab=c::q/\c≠32/\c≠58):=by
 have nameH:∀ w:List UInt8,nameB w=true->∃ c q,w=c::q/\c≠32/\c≠58:=fun w hw=>by
  cases w with
  | nil=>simp [nameB] at hw
  | cons c q =>
   have hc:=name_words hw c (by simp)
   exact ⟨c,q,rfl,word_blank hc,fun e=>by subst e;revert hc;decide⟩
 have regH:∀ n t,∃ c q,regP n++t=c::q/\c≠32/\c≠58:=fun n t=>⟨114,_,rfl,by decide,by decide⟩
 cases hc:x.o.call with
 | true =>
  refine .inr ⟨(by simp),?_⟩
  by_cases hs:x.s=1
  ·have hb:x.body lab=x.name:=by unfold PI.body;rw [if_pos hc,if_pos hs]
   rw [hb]
   exact nameH _ (Told.call_named h hc hs)
  ·obtain ⟨m,hm⟩:=Told.call_help h hc hs;rw [hm]
   have key:∀ m:Fin 4,((helpW[m.1]?.getD []).head? != none&&(helpW[m.1]?.getD []).head? != some 32&&(helpW[m.1]?.getD []).head? != some 58)=true:=by decide +kernel
   have:=key m
   cases hd:helpW[m.1]?.getD [] with
   | nil=>rw [hd] at this;cases this
   | cons c q =>
    rw [hd] at this
    simp only [List.head?_cons,Bool.and_eq_true,bne_iff_ne,ne_eq] at this
    exact ⟨c,q,rfl,fun e=>this.1.2 (by rw [e]),fun e=>this.2 (by rw [e])⟩
 | false =>
  by_cases hp:x.o.parts=[]
  ·exact .inl ⟨rfl,hp⟩
  ·refine .inr ⟨fun e=>hp e.2,?_⟩
   rw [body_plain hc]
   rcases tab_kinds ⟨x.k,h.k⟩ with g | ⟨_,g⟩
   ·have:=hc;rw [PI.o_row] at this;rw [this] at g;cases g
   ·have hj:=Told.jumps h
    rw [PI.o_row] at hp hj ⊢
    rcases g with g | g | g | g | g | g | g | g | g | g | g
    ·rw [g];exact ⟨114,_,rfl,by decide,by decide⟩
    ·rw [g];exact ⟨114,_,rfl,by decide,by decide⟩
    ·rw [g];exact ⟨114,_,rfl,by decide,by decide⟩
    ·have hl:=h.lb (by rw [PI.o_row,hj,g];decide)
     rw [g];obtain ⟨c,q,e,h1⟩:=nameH lab hl
     exact ⟨c,q,by simp [PK.write,PI.ins,BL_TB,e],h1⟩
    ·rw [g];exact ⟨114,_,rfl,by decide,by decide⟩
    ·rw [g];exact ⟨114,_,rfl,by decide,by decide⟩
    ·rw [g];exact ⟨114,_,rfl,by decide,by decide⟩
    ·rw [g];exact ⟨91,_,rfl,by decide,by decide⟩
    ·rw [g];exact ⟨91,_,rfl,by decide,by decide⟩
    ·rw [g];exact ⟨114,_,rfl,by decide,by decide⟩
    ·exact absurd g hp
theorem Told.reads (h:x.Told lab) (l:List UInt8) (hl:l=if x.o.call=false/\x.o.parts=[] then [] else x.body lab):x.o.read (st0 x.word l)=some (x.seen lab):=by
 rcases tab_kinds ⟨x.k,h.k⟩ with g | ⟨hc,g⟩
 ·rw [<- PI.o_row] at g
  rw [hl,if_neg (fun e=>by rw [g] at e;cases e.1)]
  exact Told.reads_call h g
 ·rw [<- PI.o_row] at hc g
  rcases g with g | g | g | g | g | g | g | g | g | g | g
  ·rw [hl,if_neg (fun e=>by rw [g] at e;cases e.2)];exact Told.reads_a h hc g
  ·rw [hl,if_neg (fun e=>by rw [g] at e;cases e.2)];exact (Told.reads_b h hc g).1
  ·rw [hl,if_neg (fun e=>by rw [g] at e;cases e.2)];exact Told.reads_c h hc g
  ·rw [hl,if_neg (fun e=>by rw [g] at e;cases e.2)];exact Told.reads_d h hc g
  ·rw [hl,if_neg (fun e=>by rw [g] at e;cases e.2)];exact Told.reads_e h hc g
  ·rw [hl,if_neg (fun e=>by rw [g] at e;cases e.2)];exact (Told.reads_f h hc g).1
  ·rw [hl,if_neg (fun e=>by rw [g] at e;cases e.2)];exact Told.reads_g h hc g
  ·rw [hl,if_neg (fun e=>by rw [g] at e;cases e.2)];exact Told.reads_h h hc g
  ·rw [hl,if_neg (fun e=>by rw [g] at e;cases e.2)];exact (Told.reads_i h hc g).1
  ·rw [hl,if_neg (fun e=>by rw [g] at e;cases e.2)];exact Told.reads_w h hc g
  ·rw [hl,if_pos ⟨hc,g⟩];exact Told.reads_x h hc g
theorem Told.read (h:x.Told lab) (l:List UInt8) (hl:l=if x.o.call=false/\x.o.parts=[] then [] else x.body lab):readP x.word l=some ⟨x.k,x.seen lab⟩:=by
 have hk:x.k<tableS.length:=by rw [tab_len];exact h.k
 have hr:=Told.reads h l hl
 have ho:tableS[x.k]=x.o:=by rw [row_get hk];rfl
 have key:=readFrom_at x.word l (x.seen lab) tableS 0 x.k hk (fun j hj=>?_) ?_ (by rw [ho];exact hr) rfl
 ·rw [Nat.zero_add] at key;exact key
 ·have hj8:j<88:=Nat.lt_trans hj h.k
  rw [row_get]
  cases hc:x.o.call with
  | true =>
   have:=tab_callw ⟨x.k,h.k⟩ ⟨j,hj8⟩ hj hc
   left
   unfold PI.word;rw [if_pos hc]
   split
   ·exact this.1
   ·exact this.2
  | false =>
   have hw:x.word=x.o.word:=by unfold PI.word;rw [hc];rfl
   rcases tab_before ⟨x.k,h.k⟩ ⟨j,hj8⟩ hj hc with g | ⟨gc,g⟩
   ·left;rw [hw];exact g
   ·right
    rw [read_plain gc]
    rcases g with ⟨g1,g2⟩ | ⟨g1,g2⟩ | ⟨g1,g2⟩
    ·have g1:x.o.parts=numsA:=g1
     rw [hl,if_neg (fun e=>by rw [g1] at e;cases e.2)]
     have:=(Told.reads_b h hc g1).2
     rw [<- g2] at this;exact this
    ·have g1:x.o.parts=numsJ:=g1
     rw [hl,if_neg (fun e=>by rw [g1] at e;cases e.2)]
     have:=(Told.reads_f h hc g1).2
     rw [<- g2] at this;exact this
    ·have g1:x.o.parts=numbersP:=g1
     rw [hl,if_neg (fun e=>by rw [g1] at e;cases e.2)]
     have:=(Told.reads_i h hc g1).2
     rw [<- g2] at this;exact this
 ·rw [ho];unfold OpS.words PI.word
  split
  ·split<;>decide
  ·simp
theorem Told.line_ok (h:x.Told lab):∀ c∈[32,32]++x.o.write { x.ins [] with label:=T lab },okCB c=true:=by
 intro c hc
 rcases List.mem_append.1 hc with hc | hc
 ·have key:∀ c∈([32,32]:List UInt8),okCB c=true:=by decide
  exact key c hc
 ·rw [write_eq] at hc
  rcases List.mem_append.1 hc with hc | hc
  ·have:=Told.word_ok h
   unfold wordOk at this
   simp only [Bool.and_eq_true] at this
   exact Go.Proofs.YtnhcaifopaeohaaGreatDoor.word_okB (List.all_eq_true.1 this.1.1.1 c hc)
  ·split at hc
   ·cases hc
   ·rcases List.mem_cons.1 hc with rfl | hc
    ·decide
    ·cases hcl:x.o.call with
     | false =>
      rw [body_plain hcl] at hc;obtain ⟨p,hp,hcp⟩:=List.mem_flatMap.1 hc
      exact part_ok h (Told.named h) p hp hcl c hcp
     | true =>
      by_cases hs:x.s=1
      ·have hb:x.body lab=x.name:=by unfold PI.body;rw [if_pos hcl,if_pos hs]
       rw [hb] at hc
       exact nameB_ok (Told.call_named h hcl hs) c hc
      ·obtain ⟨m,hm⟩:=Told.call_help h hcl hs;rw [hm] at hc
       have key:∀ m:Fin 4,∀ c∈helpW[m.1]?.getD [],okCB c=true:=by decide +kernel
       exact key m c hc
theorem Told.line (h:x.Told lab):lineP ([32,32]++x.o.write { x.ins [] with label:=T lab })=some { kind:=4,x:=⟨x.k,x.seen lab⟩ }:=by
 have hok:=Told.line_ok h
 have hw:=Told.word_ok h
 unfold wordOk at hw
 simp only [Bool.and_eq_true,bne_iff_ne,ne_eq,Bool.not_eq_true'] at hw
 obtain ⟨⟨⟨w1,w2⟩,w3⟩,w4⟩:=hw
 have hwc:∀ c∈x.word,wordC c=true:=List.all_eq_true.1 w1
 have hne:∃ c q,x.word=c::q:=by
  cases he:x.word with
  | nil=>rw [he] at w2;cases w2
  | cons c q=>exact ⟨c,q,rfl⟩
 obtain ⟨c0,q0,he⟩:=hne
 generalize ht:(if x.o.call=false/\x.o.parts=[] then [] else 32::x.body lab)=t
 have hst:Stop t:=by
  rw [<- ht]
  split
  ·exact Stop.nil
  ·exact Stop.cons (by decide)
 have hsk:skipL ([32,32]++x.o.write { x.ins [] with label:=T lab })=x.word++t:=by
  show skipL (32::32::x.o.write { x.ins [] with label:=T lab })=_
  rw [skip_blank,skip_blank,write_eq,ht,he,List.cons_append,skip_cons (word_blank (hwc c0 (by rw [he];simp)))]
 have hwd:=wd_word hsk hwc hst
 have hm:hasMark 58 t=false/\skipL t=(if x.o.call=false/\x.o.parts=[] then [] else x.body lab):=by
  rcases Told.body_head h with g | ⟨g,c,q,hb,h1,h2⟩
  ·rw [<- ht,if_pos g,if_pos g];exact ⟨rfl,rfl⟩
  ·rw [<- ht,if_neg g,if_neg g,hb]
   have hs:skipL (32::c::q)=c::q:=by rw [skip_blank,skip_cons h1]
   exact ⟨(no_mark hs h2).1,hs⟩
 unfold lineP;rw [new_ok hok,Option.bind_some,hsk,hwd]
 have hnn:¬ x.word++t=[]:=by rw [he];simp
 rw [if_neg hnn]
 simp only [hm.1,Bool.false_eq_true,if_false]
 rw [if_neg w3,if_neg w4,Told.read h _ hm.2];rfl
end
theorem name_ne {w:List UInt8} (h:nameB w=true):∃ c q,w=c::q/\wordC c=true:=by
 cases w with
 | nil=>simp [nameB] at h
 | cons c q=>exact ⟨c,q,rfl,name_words h c (by simp)⟩
theorem name_skip0 {w:List UInt8} (h:nameB w=true):skipL w=w:=by
 have:=name_skip h []
 rwa [List.append_nil] at this
def fnLn (n:List UInt8):List UInt8:=[102,117,110,99,32]++n
theorem fn_ok {n:List UInt8} (h:nameB n=true):∀ c∈fnLn n,okCB c=true:=fun c hc=>by
 rcases List.mem_append.1 hc with hc | hc
 ·have key:∀ c∈([102,117,110,99,32]:List UInt8),okCB c=true:=by decide
  exact key c hc
 ·exact nameB_ok h c hc
theorem fn_line {n:List UInt8} (h:nameB n=true):lineP (fnLn n)=some { kind:=2,name:=n }:=by
 obtain ⟨c,q,e,hc⟩:=name_ne h
 have hs:skipL (fnLn n)=[102,117,110,99]++32::n:=rfl
 have hw:=wd_word hs (by decide) (Stop.cons (by decide))
 have hn:skipL (32::n)=n:=by rw [skip_blank,name_skip0 h]
 have hm:hasMark 58 (32::n)=false:=(no_mark (c:=c) (t:=q) (by rw [hn,e]) (fun e2=>by subst e2;revert hc;decide)).1
 have hw2:wdL n=(n,[]):=wd_word (by rw [name_skip0 h,List.append_nil]) (name_words h) Stop.nil
 unfold lineP;rw [new_ok (fn_ok h),Option.bind_some,hs,hw]
 simp only [hm,hn,hw2,h]
 rfl
def mapLn (m:PMap):List UInt8:=[109,97,112,32]++m.name++sizeT m.key++sizeT m.value++sizeT m.entries
theorem size_okB (n:Nat):∀ c∈sizeT n,okCB c=true:=fun c hc=>by
 rcases List.mem_cons.1 hc with rfl | hc
 ·decide
 ·exact itoa_ok _ c hc
theorem map_ok {m:PMap} (h:nameB m.name=true):∀ c∈mapLn m,okCB c=true:=fun c hc=>by
 unfold mapLn at hc
 rcases List.mem_append.1 hc with hc | hc
 ·rcases List.mem_append.1 hc with hc | hc
  ·rcases List.mem_append.1 hc with hc | hc
   ·rcases List.mem_append.1 hc with hc | hc
    ·have key:∀ c∈([109,97,112,32]:List UInt8),okCB c=true:=by decide
     exact key c hc
    ·exact nameB_ok h c hc
   ·exact size_okB _ c hc
  ·exact size_okB _ c hc
 ·exact size_okB _ c hc
theorem size_num {n:Nat} {t:List UInt8} (h:n<18446744073709551616) (ht:Stop t):numL (sizeT n++t)=some (⟨n,false⟩,t):=by
 refine num_posB ?_ h ht
 unfold sizeT;rw [List.cons_append,skip_blank,itoa_skip,Lib.itoa_nonneg]
theorem stop_size (n:Nat) (t:List UInt8):Stop (sizeT n++t):=Stop.cons (by decide)
theorem map_line {m:PMap} (h:nameB m.name=true) (h1:m.key<256) (h2:m.value<256) (h3:m.entries<256):lineP (mapLn m)=some { kind:=1,name:=m.name,ns:=[⟨m.key,false⟩,⟨m.value,false⟩,⟨m.entries,false⟩] }:=by
 obtain ⟨c,q,e,hc⟩:=name_ne h
 generalize ht:m.name++(sizeT m.key++(sizeT m.value++sizeT m.entries))=t
 have hl:mapLn m=[109,97,112]++32::t:=by rw [<- ht];simp [mapLn]
 have hs:skipL (mapLn m)=[109,97,112]++32::t:=by rw [hl];rfl
 have hw:=wd_word hs (by decide) (Stop.cons (by decide))
 have hn:skipL (32::t)=t:=by rw [skip_blank,<- ht,name_skip h]
 have hm:hasMark 58 (32::t)=false:=(no_mark (c:=c) (t:=q++(sizeT m.key++(sizeT m.value++sizeT m.entries))) (by rw [hn,<- ht,e];rfl) (fun e2=>by subst e2;revert hc;decide)).1
 have hw2:wdL t=(m.name,sizeT m.key++(sizeT m.value++sizeT m.entries)):=wd_word (by rw [<- ht,name_skip h]) (name_words h) (stop_size _ _)
 have g1:=size_num (n:=m.key) (t:=sizeT m.value++sizeT m.entries) (by omega) (stop_size _ _)
 have g2:=size_num (n:=m.value) (t:=sizeT m.entries) (by omega) (by have:=stop_size m.entries [];rwa [List.append_nil] at this)
 have g3:=size_num (n:=m.entries) (t:=[]) (by omega) Stop.nil
 rw [List.append_nil] at g3
 have hmp:mapLnP t=some { kind:=1,name:=m.name,ns:=[⟨m.key,false⟩,⟨m.value,false⟩,⟨m.entries,false⟩] }:=by
  unfold mapLnP;rw [hw2]
  simp only [h,if_true,g1,g2,g3,Option.bind_some]
  rfl
 unfold lineP;rw [new_ok (map_ok h),Option.bind_some,hs,hw]
 simp only [hm,hn,hmp]
 rfl
def labN (n:Nat):List UInt8:=108::Lib.itoa (n:Int)
theorem tab_l:∀ k:Fin 88,∀ w∈(rowK k).words,(match w with | c::d::_=>(c==108&&decide (48<=d.toNat)&&decide (d.toNat<=57)) | _=>false)=false/\w≠[108]:=by decide +kernel
theorem lab_begins (n:Nat):beginsP (labN n)=false:=by
 unfold beginsP;rw [List.any_eq_false];intro o ho hc;obtain ⟨k,hk,rfl⟩:=List.getElem_of_mem ho;rw [row_get hk] at hc
 have hmem:labN n∈(rowK k).words:=by simpa using hc
 have:=(tab_l ⟨k,by rw [tab_len] at hk;exact hk⟩ (labN n) hmem).1
 unfold labN at this;rw [Lib.itoa_nonneg] at this;obtain ⟨c,q,e,g1,g2⟩:=dec_head n;rw [e] at this
 simp [g1,g2] at this
theorem lab_words (n:Nat):∀ c∈labN n,wordC c=true:=fun c hc=>by
 rcases List.mem_cons.1 hc with rfl | hc
 ·decide
 ·rw [Lib.itoa_nonneg] at hc;exact dec_words n c hc
theorem lab_name {n:Nat} (h:n<1000000000):nameB (labN n)=true:=by
 have hl:(Lib.itoa (n:Int)).length<=9:=by rw [Lib.itoa_nonneg,Lib.decDigits_length];exact ndig_le 8 n (by omega)
 unfold nameB labN
 simp only [Bool.and_eq_true,decide_eq_true_eq,List.length_cons]
 exact ⟨⟨by omega,by decide⟩,List.all_eq_true.2 (fun c hc=>lab_words n c hc)⟩
theorem lab_free (n:Nat):reservedP (labN n)=false:=by
 unfold reservedP
 have h1:(labN n==[109,97,112])=false:=by simp [labN]
 have h2:(labN n==[102,117,110,99])=false:=by simp [labN]
 rw [h1,h2,regOf_no (by simp [labN]),lab_begins];rfl
theorem lab_ok (n:Nat):∀ c∈labN n++[58],okCB c=true:=fun c hc=>by
 rcases List.mem_append.1 hc with hc | hc
 ·exact word_okB (lab_words n c hc)
 ·rw [List.mem_singleton.1 hc];decide
theorem lab_line {n:Nat} (h:n<1000000000):lineP (labN n++[58])=some { kind:=3,name:=labN n }:=by
 have hs:skipL (labN n++[58])=labN n++[58]:=by unfold labN;rw [List.cons_append,skip_cons (by decide)]
 have hw:=wd_word hs (lab_words n) (Stop.cons (by decide))
 have hm:hasMark 58 [58]=true/\skipL (markL 58 [58])=[]:=by decide
 unfold lineP;rw [new_ok (lab_ok n),Option.bind_some,hs,hw]
 rw [if_neg (by simp [labN])]
 simp only [hm.1,hm.2,lab_name h,lab_free n]
 rfl
theorem ok_ten {l:List UInt8} (h:∀ c∈l,okCB c=true):∀ c∈l,c≠10:=fun c hc e=>by
 have:=h c hc
 subst e;revert this;decide
theorem lines_cut:∀ (a b:List UInt8),(∀ c∈a,c≠10)->linesP (a++10::b)=a::linesP b
 | [],b,_=>by rw [List.nil_append,linesP,if_pos rfl]
 | c::a,b,h=>by
  rw [List.cons_append,linesP,if_neg (h c (by simp)),lines_cut a b (fun d hd=>h d (by simp [hd]))]
theorem lines_all0:∀ (L:List (List UInt8)),(∀ a∈L,∀ c∈a,c≠10)->linesP (L.flatMap (fun a=>a++[10]))=L++[[]]
 | [],_=>rfl
 | a::L,h=>by
  rw [List.flatMap_cons,List.append_assoc,List.singleton_append,lines_cut a _ (h a (by simp)),lines_all0 L (fun b hb=>h b (by simp [hb]))];rfl
def behindF:Bool->List PLn->Bool
 | _,[]=>true
 | b,x::l=>(b||x.kind==2||!(x.kind==3||x.kind==4))&&behindF (b||x.kind==2) l
theorem parse_run:∀ (ts:List (List UInt8)) (xs:List PLn) (b:Bool) (n:Nat) (acc:List PLn),ts.map lineP=xs.map some->behindF b xs=true->parseP ts b n acc=.inl (acc++xs)
 | [],[],_,_,acc,_,_=>by rw [parseP,List.append_nil]
 | [],x::xs,_,_,_,h,_=>by cases h
 | t::ts,[],_,_,_,h,_=>by cases h
 | t::ts,x::xs,b,n,acc,h,hb=>by
  rw [List.map_cons,List.map_cons] at h
  injection h with h1 h2
  rw [behindF,Bool.and_eq_true] at hb;rw [parseP,h1]
  simp only
  rw [if_neg ?_,parse_run ts xs _ _ _ h2 hb.2,List.append_assoc];rfl
  rintro ⟨e1,e2⟩
  have:=hb.1
  rw [e1] at this
  rcases e2 with e2 | e2<;>rw [e2] at this<;>simp at this
def labAt (labs:List (List UInt8)) (s:Nat):List UInt8:=labs[s]?.getD []
structure LabsOk (labs:List (List UInt8)):Prop where
 form:∀ s,labAt labs s=[]\/∃ n,n<1000000000/\labAt labs s=labN n
 inj:∀ s t,labAt labs s=labAt labs t->labAt labs s≠[]->s=t
theorem labsP_at:∀ (st:List Bool) (n s:Nat),labAt (labsP st n) s=if st[s]?.getD false then labN (n+(st.take s).count true) else []
 | [],n,s=>by simp [labsP,labAt]
 | true::st,n,0=>by simp [labsP,labAt,labN]
 | false::st,n,0=>by simp [labsP,labAt]
 | true::st,n,s+1=>by
  have ih:=labsP_at st (n+1) s
  unfold labAt at ih ⊢
  rw [labsP,List.getElem?_cons_succ,ih,List.getElem?_cons_succ,List.take_succ_cons,List.count_cons]
  have e:n+1+List.count true (List.take s st)=n+(List.count true (List.take s st)+if (true==true)=true then 1 else 0):=by simp;omega
  rw [e]
 | false::st,n,s+1=>by
  have ih:=labsP_at st n s
  unfold labAt at ih ⊢
  rw [labsP,List.getElem?_cons_succ,ih,List.getElem?_cons_succ,List.take_succ_cons,List.count_cons]
  simp
theorem count_lt {st:List Bool} {s t:Nat} (h:s<t) (hs:st[s]?.getD false=true):(st.take s).count true<(st.take t).count true:=by
 have hl:s<st.length:=by
  by_cases h:s<st.length
  ·exact h
  ·rw [List.getElem?_eq_none (by omega)] at hs;cases hs
 have e:st.take t=st.take s++(st.drop s).take (t - s):=by
  have:t=s+(t - s):=by omega
  conv=>lhs;rw [this]
  exact List.take_add
 rw [e,List.count_append,List.drop_eq_getElem_cons hl]
 have:st[s]=true:=by rw [List.getElem?_eq_getElem hl] at hs;exact hs
 rw [this,show t - s=(t - s - 1)+1 by omega,List.take_succ_cons,List.count_cons]
 simp
theorem labN_inj {a b:Nat} (h:labN a=labN b):a=b:=by
 unfold labN at h
 injection h with _ h
 exact itoa_inj h
theorem labs_ok (st:List Bool) (h:st.length<=1000):LabsOk (labsP st 0):=by
 refine ⟨fun s=>?_,fun s t e hn=>?_⟩
 ·rw [labsP_at]
  split
  ·refine .inr ⟨_,?_,rfl⟩
   have:(st.take s).count true<=(st.take s).length:=List.count_le_length
   rw [List.length_take] at this
   omega
  ·exact .inl rfl
 ·rw [labsP_at] at hn
  by_cases hs:st[s]?.getD false=true
  ·by_cases ht:st[t]?.getD false=true
   ·rw [labsP_at,labsP_at,if_pos hs,if_pos ht] at e
    have:=labN_inj e
    rcases Nat.lt_trichotomy s t with c | c | c
    ·have:=count_lt c hs;omega
    ·exact c
    ·have:=count_lt c ht;omega
   ·rw [labsP_at,labsP_at,if_pos hs,if_neg ht] at e
    simp [labN] at e
  ·rw [if_neg hs] at hn;exact absurd rfl hn
def withS:Nat->List PI->List (PI × Nat)
 | _,[]=>[]
 | s,x::l=>(x,s)::withS (s+x.o.slots) l
def seenL (labs:List (List UInt8)) (p:PI × Nat):PRead:=⟨p.1.k,p.1.seen (p.1.lab labs p.2)⟩
def insLn (labs:List (List UInt8)) (p:PI × Nat):List UInt8:=[32,32]++p.1.o.write { p.1.ins [] with label:=T (p.1.lab labs p.2) }
def labLs (labs:List (List UInt8)) (s:Nat):List (List UInt8):=if labAt labs s≠[] then [labAt labs s++[58]] else []
def labPs (labs:List (List UInt8)) (s:Nat):List PLn:=if labAt labs s≠[] then [{ kind:=3,name:=labAt labs s }] else []
def codeLs (labs:List (List UInt8)) (l:List (PI × Nat)):List (List UInt8):=l.flatMap (fun p=>labLs labs p.2++[insLn labs p])
def codePs (labs:List (List UInt8)) (l:List (PI × Nat)):List PLn:=l.flatMap (fun p=>labPs labs p.2++[{ kind:=4,x:=seenL labs p }])
theorem code_textB (labs:List (List UInt8)):∀ (l:List PI) (s:Nat),codeTP labs s l=(codeLs labs (withS s l)).flatMap (fun a=>a++[10])
 | [],s=>rfl
 | x::l,s=>by
  have ih:=code_textB labs l (s+x.o.slots)
  unfold codeLs at ih ⊢
  rw [withS,List.flatMap_cons,List.flatMap_append,<- ih,codeTP,List.flatMap_append];unfold labLs insLn labAt
  by_cases h:labs[s]?.getD []≠[]
  ·rw [if_pos h,if_pos h];simp
  ·rw [if_neg h,if_neg h];simp
theorem code_read {labs:List (List UInt8)} (hL:LabsOk labs):∀ (l:List (PI × Nat)),(∀ p∈l,p.1.Told (p.1.lab labs p.2))->(codeLs labs l).map lineP=(codePs labs l).map some/\∀ a∈codeLs labs l,∀ c∈a,c≠10
 | [],_=>⟨rfl,fun a h=>by cases h⟩
 | p::l,h=>by
  obtain ⟨i1,i2⟩:=code_read hL l (fun q hq=>h q (by simp [hq]))
  have hp:=h p (by simp)
  have h1:(labLs labs p.2).map lineP=(labPs labs p.2).map some/\∀ a∈labLs labs p.2,∀ c∈a,c≠10:=by
   unfold labLs labPs
   rcases hL.form p.2 with e | ⟨n,hn,e⟩
   ·rw [e];exact ⟨rfl,fun a h=>by cases h⟩
   ·have hne:labAt labs p.2≠[]:=by rw [e];simp [labN]
    rw [if_pos hne,if_pos hne,e]
    refine ⟨by rw [List.map_cons,List.map_cons,lab_line hn];rfl,fun a ha=>?_⟩
    rw [List.mem_singleton.1 ha]
    exact ok_ten (lab_ok n)
  unfold codeLs codePs at i1;unfold codeLs at i2;unfold codeLs codePs;rw [List.flatMap_cons,List.flatMap_cons,List.map_append,List.map_append,List.map_append,List.map_append,h1.1,i1]
  refine ⟨?_,fun a ha=>?_⟩
  ·rw [List.map_cons,List.map_nil,List.map_cons,List.map_nil];unfold insLn
   rw [Told.line hp];rfl
  ·rcases List.mem_append.1 ha with ha | ha
   ·rcases List.mem_append.1 ha with ha | ha
    ·exact h1.2 a ha
    ·rw [List.mem_singleton.1 ha]
     exact ok_ten (Told.line_ok hp)
   ·exact i2 a ha
structure PFn.Told (f:PFn):Prop where
 nm:nameB f.name=true
 ins:∀ p∈withS 0 f.code,p.1.Told (p.1.lab (labelsP f) p.2)
 lead:∀ p∈withS 0 f.code,p.1.o.jumps=true->∃ t:Nat,p.1.target p.2=t/\t∈(withS 0 f.code).map (·.2)/\labAt (labelsP f) t≠[]
 ends:lastP f.code=true
 small:slotsP f.code<=200
def fnLs (f:PFn):List (List UInt8):=fnLn f.name::codeLs (labelsP f) (withS 0 f.code)
def fnPs (f:PFn):List PLn:={ kind:=2,name:=f.name }::codePs (labelsP f) (withS 0 f.code)
theorem fn_textB (f:PFn):fnTP f=(fnLs f).flatMap (fun a=>a++[10]):=by
 unfold fnTP fnLs fnLn;rw [List.flatMap_cons,code_textB]
theorem led_lenB:∀ (l:List PI) (s:Nat) (st:List Bool),(ledP s l st).length=st.length
 | [],_,_=>rfl
 | x::l,s,st=>by
  rw [ledP,led_lenB]
  split
  ·rw [List.length_set]
  ·rfl
theorem PFn.Told.labs {f:PFn} (h:f.Told):LabsOk (labelsP f):=by
 unfold labelsP
 refine labs_ok _ ?_
 rw [led_lenB,List.length_replicate]
 have:=h.small
 omega
theorem PFn.Told.read {f:PFn} (h:f.Told):(fnLs f).map lineP=(fnPs f).map some/\∀ a∈fnLs f,∀ c∈a,c≠10:=by
 obtain ⟨h1,h2⟩:=code_read h.labs (withS 0 f.code) h.ins
 unfold fnLs fnPs
 refine ⟨by rw [List.map_cons,List.map_cons,h1,fn_line h.nm],fun a ha=>?_⟩
 rcases List.mem_cons.1 ha with rfl | ha
 ·exact ok_ten (fn_ok h.nm)
 ·exact h2 a ha
def mapPl (m:PMap):PLn:={ kind:=1,name:=m.name,ns:=[⟨m.key,false⟩,⟨m.value,false⟩,⟨m.entries,false⟩] }
structure PMap.Told (m:PMap):Prop where
 nm:nameB m.name=true
 k:1<=m.key/\m.key<=8
 v:1<=m.value/\m.value<=16
 e:1<=m.entries/\m.entries<=8
def textPs (ms:List PMap) (fs:List PFn):List PLn:=ms.map mapPl++fs.flatMap fnPs++[({ kind:=0 }:PLn)]
theorem behind_code (labs:List (List UInt8)):∀ (l:List (PI × Nat)) (r:List PLn),behindF true (codePs labs l++r)=behindF true r
 | [],r=>rfl
 | p::l,r=>by
  have ih:=behind_code labs l r
  unfold codePs at ih ⊢
  rw [List.flatMap_cons,List.append_assoc,List.append_assoc]
  generalize l.flatMap (fun p=>labPs labs p.2++[{ kind:=4,x:=seenL labs p }])=q at *
  unfold labPs
  split<;>simpa [behindF] using ih
theorem behind_fns:∀ (fs:List PFn) (b:Bool) (r:List PLn),(∀ b,behindF b r=true)->behindF b (fs.flatMap fnPs++r)=true
 | [],b,r,h=>h b
 | f::fs,b,r,h=>by
  rw [List.flatMap_cons,List.append_assoc];unfold fnPs;rw [List.cons_append,behindF]
  have:(b||(2:Nat)==2)=true:=by cases b<;>rfl
  simp only [this,Bool.true_or,Bool.true_and]
  rw [behind_code];exact behind_fns fs true r h
theorem behind_mapsB:∀ (ms:List PMap) (r:List PLn),behindF false r=true->behindF false (ms.map mapPl++r)=true
 | [],r,h=>h
 | m::ms,r,h=>by
  rw [List.map_cons,List.cons_append,behindF]
  have ih:=behind_mapsB ms r h
  simpa [mapPl] using ih
theorem text_read {ms:List PMap} {fs:List PFn} (hm:∀ m∈ms,m.Told) (hf:∀ f∈fs,f.Told):parseP (linesP (textP ms fs)) false 0 []=.inl (textPs ms fs):=by
 have ht:textP ms fs=(ms.map mapLn++fs.flatMap fnLs).flatMap (fun a=>a++[10]):=by
  unfold textP;rw [List.flatMap_append,List.flatMap_map,List.flatMap_assoc]
  congr 1
  have:fnTP=fun f=>(fnLs f).flatMap (fun a=>a++[10]):=funext fn_textB
  rw [this]
 have hten:∀ a∈ms.map mapLn++fs.flatMap fnLs,∀ c∈a,c≠10:=fun a ha=>by
  rcases List.mem_append.1 ha with ha | ha
  ·obtain ⟨m,hmm,rfl⟩:=List.mem_map.1 ha
   exact ok_ten (map_ok (hm m hmm).nm)
  ·obtain ⟨f,hff,ha⟩:=List.mem_flatMap.1 ha
   exact (hf f hff).read.2 a ha
 rw [ht,lines_all0 _ hten]
 have hrd:(ms.map mapLn++fs.flatMap fnLs++[[]]).map lineP=(textPs ms fs).map some:=by
  unfold textPs;rw [List.map_append,List.map_append,List.map_append,List.map_append,List.map_map,List.map_map,List.map_flatMap,List.map_flatMap]
  congr 1
  ·congr 1
   ·refine List.map_congr_left (fun m hmm=>?_)
    have:=hm m hmm
    exact map_line this.nm (by have:=this.k;omega) (by have:=this.v;omega) (by have:=this.e;omega)
   ·have:∀ (l:List PFn),(∀ f∈l,f.Told)->l.flatMap (fun f=>(fnLs f).map lineP)=l.flatMap (fun f=>(fnPs f).map some):=fun l=>by
     induction l with
     | nil=>intro _;rfl
     | cons f l ih =>
      intro h
      rw [List.flatMap_cons,List.flatMap_cons,(h f (by simp)).read.1,ih (fun g hg=>h g (by simp [hg]))]
    exact this fs hf
 rw [parse_run _ _ _ _ _ hrd]
 ·rfl
 ·unfold textPs;rw [List.append_assoc]
  exact behind_mapsB ms _ (behind_fns fs false _ (fun b=>by cases b<;>rfl))
theorem labOf_uniq {l:List (List UInt8 × Nat)} {x:List UInt8} {s:Nat} (hm:(x,s)∈l) (hu:∀ p∈l,p.1=x->p.2=s):labOf l x=some s:=by
 unfold labOf
 cases hf:l.find? (fun p=>p.1==x) with
 | none =>
  rw [List.find?_eq_none] at hf
  exact absurd (by simp) (hf _ hm)
 | some p =>
  have h1:=List.find?_some hf
  have h2:=List.mem_of_find?_eq_some hf
  rw [Option.map_some,hu p h2 (by simpa using h1)]
theorem labOf_none {l:List (List UInt8 × Nat)} {x:List UInt8} (h:∀ p∈l,p.1≠x):labOf l x=none:=by
 unfold labOf
 rw [List.find?_eq_none.2 (fun p hp=>by simpa using h p hp)];rfl
def labsAt (labs:List (List UInt8)) (l:List (PI × Nat)):List (List UInt8 × Nat):=l.flatMap (fun p=>if labAt labs p.2≠[] then [(labAt labs p.2,p.2)] else [])
theorem labsAt_mem {labs:List (List UInt8)} {l:List (PI × Nat)} {q:List UInt8 × Nat} (h:q∈labsAt labs l):q.1=labAt labs q.2/\q.1≠[]/\q.2∈l.map (·.2):=by
 obtain ⟨p,hp,hq⟩:=List.mem_flatMap.1 h
 split at hq
 ·rename_i hn
  rw [List.mem_singleton.1 hq]
  exact ⟨rfl,hn,List.mem_map.2 ⟨p,hp,rfl⟩⟩
 ·cases hq
theorem mem_labsAt {labs:List (List UInt8)} {l:List (PI × Nat)} {s:Nat} (h:s∈l.map (·.2)) (hn:labAt labs s≠[]):(labAt labs s,s)∈labsAt labs l:=by
 obtain ⟨p,hp,rfl⟩:=List.mem_map.1 h
 refine List.mem_flatMap.2 ⟨p,hp,?_⟩
 rw [if_pos hn];simp
theorem withS_lt:∀ (l:List PI) (s:Nat),(∀ x∈l,1<=x.o.slots)->∀ p∈withS s l,p.2+p.1.o.slots<=s+slotsP l
 | [],_,_,p,h=>by cases h
 | x::l,s,hs,p,h=>by
  have e:slotsP (x::l)=x.o.slots+slotsP l:=by unfold slotsP;simp
  rw [withS] at h
  rcases List.mem_cons.1 h with rfl | h
  ·rw [e];simp only;omega
  ·have:=withS_lt l _ (fun y hy=>hs y (by simp [hy])) p h
   omega
theorem withS_code:∀ (l:List PI) (s:Nat),(withS s l).map (·.1)=l
 | [],_=>rfl
 | x::l,s=>by rw [withS,List.map_cons,withS_code l]
def outC (labs:List (List UInt8)) (l:List (PI × Nat)) (F:OFn):OFn:=l.foldl (fun F p=>(if labAt labs p.2≠[] then F.label (labAt labs p.2) else F).code p.1.o) F
theorem last_on (o:OL) (F:OFn) (h:o.fs≠[]):(o.onLast F).last=F/\(o.onLast F).fs≠[]:=by
 have hl:0<o.fs.length:=List.length_pos_iff.2 h
 unfold OL.onLast OL.last
 refine ⟨?_,fun e=>?_⟩
 ·simp only [List.length_set]
  rw [List.getD_eq_getElem?_getD,List.getElem?_set_self (by omega)];rfl
 ·have:=congrArg List.length e
  simp only [List.length_set,List.length_nil] at this
  omega
theorem on_on (o:OL) (F G:OFn):(o.onLast F).onLast G=o.onLast G:=by
 unfold OL.onLast
 simp only [List.length_set,List.set_set]
theorem on_self (o:OL) (h:o.fs≠[]):o.onLast o.last=o:=by
 have hl:0<o.fs.length:=List.length_pos_iff.2 h
 unfold OL.onLast OL.last
 rw [List.getD_eq_getElem?_getD,List.getElem?_eq_getElem (by omega),Option.getD_some,List.set_getElem_self]
theorem seen_o {labs:List (List UInt8)} {p:PI × Nat} (h:p.1.k<88):(seenL labs p).o=p.1.o:=by
 rw [PRead.o_row _ h];rfl
theorem out_code (labs:List (List UInt8)):∀ (l:List (PI × Nat)) (o:OL),o.fs≠[]->(∀ p∈l,p.1.k<88)->(codePs labs l).foldl outStep o=o.onLast (outC labs l o.last)
 | [],o,h,_=>(on_self o h).symm
 | p::l,o,h,hk=>by
  have hx:=seen_o (labs:=labs) (hk p (by simp))
  have ih:=fun o' h'=>out_code labs l o' h' (fun q hq=>hk q (by simp [hq]))
  unfold codePs at ih ⊢
  rw [List.flatMap_cons,List.foldl_append,List.foldl_append]
  have h4:∀ o':OL,outStep o' { kind:=4,x:=seenL labs p }=o'.onLast (o'.last.code p.1.o):=fun o'=>by
   unfold outStep
   simp only [hx]
   rfl
  have hc:outC labs (p::l) o.last=outC labs l ((if labAt labs p.2≠[] then o.last.label (labAt labs p.2) else o.last).code p.1.o):=rfl
  rw [hc]
  by_cases hn:labAt labs p.2≠[]
  ·have hlp:labPs labs p.2=[{ kind:=3,name:=labAt labs p.2 }]:=if_pos hn
   have h3:[({ kind:=3,name:=labAt labs p.2 }:PLn)].foldl outStep o=o.onLast (o.last.label (labAt labs p.2)):=rfl
   rw [if_pos hn,hlp,h3,List.foldl_cons,List.foldl_nil,h4,ih _ (last_on _ _ (last_on _ _ h).2).2,(last_on _ _ h).1,(last_on _ _ (last_on _ _ h).2).1,on_on,on_on]
  ·have hlp:labPs labs p.2=[]:=if_neg hn
   rw [if_neg hn,hlp,List.foldl_nil,List.foldl_cons,List.foldl_nil,h4,ih _ (last_on _ _ h).2,(last_on _ _ h).1,on_on]
theorem outC_slots (labs:List (List UInt8)):∀ (l:List (PI × Nat)) (F:OFn),(outC labs l F).slots=F.slots+slotsP (l.map (·.1))
 | [],F=>rfl
 | p::l,F=>by
  have ih:=outC_slots labs l ((if labAt labs p.2≠[] then F.label (labAt labs p.2) else F).code p.1.o)
  have e:slotsP ((p::l).map (·.1))=p.1.o.slots+slotsP (l.map (·.1)):=by unfold slotsP;simp
  have h0:∀ F:OFn,∀ x,(F.label x).slots=F.slots:=fun F x=>by unfold OFn.label;split<;>rfl
  unfold outC at ih ⊢
  rw [List.foldl_cons,ih,e]
  have:((if labAt labs p.2≠[] then F.label (labAt labs p.2) else F).code p.1.o).slots=F.slots+p.1.o.slots:=by
   unfold OFn.code
   split
   ·rw [h0]
   ·rfl
  omega
theorem outC_ends (labs:List (List UInt8)):∀ (l:List (PI × Nat)) (F:OFn),(outC labs l F).ends=((l.map (fun p=>p.1.o.ends)).getLast?).getD F.ends
 | [],F=>rfl
 | p::l,F=>by
  have ih:=outC_ends labs l ((if labAt labs p.2≠[] then F.label (labAt labs p.2) else F).code p.1.o)
  unfold outC at ih ⊢
  rw [List.foldl_cons,ih,List.map_cons]
  cases l with
  | nil=>rfl
  | cons q l=>rfl
theorem outC_labs {labs:List (List UInt8)} (hL:LabsOk labs):∀ (l:List PI) (s:Nat) (F:OFn),F.slots=s->(∀ x∈l,1<=x.o.slots)->(∀ q∈F.labs,q.1=labAt labs q.2/\q.2<s)->(outC labs (withS s l) F).labs=F.labs++labsAt labs (withS s l)
 | [],s,F,_,_,_=>by rw [withS];unfold labsAt;simp [outC]
 | x::l,s,F,hF,hs,hq=>by
  have h1:=hs x (by simp)
  have hlab:(if labAt labs s≠[] then F.label (labAt labs s) else F).labs=F.labs++(if labAt labs s≠[] then [(labAt labs s,s)] else [])/\(if labAt labs s≠[] then F.label (labAt labs s) else F).slots=s:=by
   by_cases hn:labAt labs s≠[]
   ·rw [if_pos hn,if_pos hn]
    have:labOf F.labs (labAt labs s)=none:=labOf_none (fun q hm e=>by
     obtain ⟨g1,g2⟩:=hq q hm
     have:=hL.inj s q.2 (by rw [<- e,g1]) hn
     omega)
    unfold OFn.label;rw [this]
    simp [hF]
   ·rw [if_neg hn,if_neg hn];simp [hF]
  have ih:=outC_labs hL l (s+x.o.slots) ((if labAt labs s≠[] then F.label (labAt labs s) else F).code x.o) (by unfold OFn.code;simp only [hlab.2]) (fun y hy=>hs y (by simp [hy])) (fun q hm=>by
   have hm2:q∈(if labAt labs s≠[] then F.label (labAt labs s) else F).labs:=hm
   rw [hlab.1] at hm2
   rcases List.mem_append.1 hm2 with hm2 | hm2
   ·obtain ⟨g1,g2⟩:=hq q hm2
    exact ⟨g1,by omega⟩
   ·split at hm2
    ·rw [List.mem_singleton.1 hm2];exact ⟨rfl,by simp only;omega⟩
    ·cases hm2)
  rw [withS]
  unfold outC labsAt at ih ⊢
  rw [List.foldl_cons,ih,List.flatMap_cons,<- List.append_assoc]
  have:((if labAt labs s≠[] then F.label (labAt labs s) else F).code x.o).labs=(if labAt labs s≠[] then F.label (labAt labs s) else F).labs:=rfl
  simp only
  rw [this,hlab.1]
def outF (f:PFn):OFn:=outC (labelsP f) (withS 0 f.code) {}
theorem PFn.Told.k88 {f:PFn} (h:f.Told):∀ p∈withS 0 f.code,p.1.k<88:=fun p hp=>(h.ins p hp).k
theorem row_slots (k:Nat) (h:k<88):(rowK k).slots=1\/(rowK k).slots=2:=by
 rw [(tab_refers ⟨k,h⟩).2.1]
 split
 ·exact .inr rfl
 ·exact .inl rfl
theorem PFn.Told.slots1 {f:PFn} (h:f.Told):∀ x∈f.code,1<=x.o.slots:=fun x hx=>by
 have:x∈(withS 0 f.code).map (·.1):=by rw [withS_code];exact hx
 obtain ⟨p,hp,rfl⟩:=List.mem_map.1 this
 have:=row_slots p.1.k (h.k88 p hp)
 rw [PI.o_row];omega
theorem PFn.Told.out {f:PFn} (h:f.Told):(outF f).slots=slotsP f.code/\(outF f).ends=true/\(outF f).labs=labsAt (labelsP f) (withS 0 f.code):=by
 refine ⟨?_,?_,?_⟩
 ·unfold outF
  rw [outC_slots,withS_code];simp
 ·unfold outF;rw [outC_ends]
  have e:(withS 0 f.code).map (fun p=>p.1.o.ends)=f.code.map (fun x=>x.o.ends):=by
   conv=>rhs;rw [<- withS_code f.code 0,List.map_map]
   rfl
  have:=h.ends
  unfold lastP at this;rw [e,List.getLast?_map]
  cases hg:f.code.getLast? with
  | none=>rw [hg] at this;cases this
  | some x=>rw [hg] at this;exact this
 ·unfold outF
  rw [outC_labs h.labs f.code 0 {} rfl h.slots1 (fun q hq=>by cases hq)];rfl
theorem PFn.Told.found {f:PFn} (h:f.Told) {p:PI × Nat} (hp:p∈withS 0 f.code) (hj:p.1.o.jumps=true):∃ t:Nat,p.1.target p.2=t/\t<slotsP f.code/\labOf (outF f).labs (p.1.lab (labelsP f) p.2)=some t:=by
 obtain ⟨t,ht,hm,hn⟩:=h.lead p hp hj
 have hlab:p.1.lab (labelsP f) p.2=labAt (labelsP f) t:=by
  unfold PI.lab
  rw [if_pos hj,ht];rfl
 refine ⟨t,ht,?_,?_⟩
 ·obtain ⟨q,hq,rfl⟩:=List.mem_map.1 hm
  have:=withS_lt f.code 0 h.slots1 q hq
  have h1:=row_slots q.1.k (h.k88 q hq)
  rw [PI.o_row] at this
  omega
 ·rw [hlab,h.out.2.2]
  refine labOf_uniq (mem_labsAt hm hn) (fun q hq e=>?_)
  obtain ⟨g1,g2,_⟩:=labsAt_mem hq
  exact h.labs.inj _ _ (by rw [<- g1,e]) (by rw [<- g1];exact g2)
theorem out_fns:∀ (fs:List PFn) (o:OL),(∀ f∈fs,f.Told)->(fs.flatMap fnPs).foldl outStep o={ o with fs:=o.fs++fs.map outF }
 | [],o,_=>by simp
 | f::fs,o,h=>by
  have hf:=h f (by simp)
  rw [List.flatMap_cons,List.foldl_append];unfold fnPs;rw [List.foldl_cons]
  have h2:outStep o { kind:=2,name:=f.name }={ o with fs:=o.fs++[{}] }:=rfl
  rw [h2,out_code _ _ _ (by simp) hf.k88]
  have h3:OL.onLast { o with fs:=o.fs++[{}] } (outC (labelsP f) (withS 0 f.code) (OL.last { o with fs:=o.fs++[{}] }))={ o with fs:=o.fs++[outF f] }:=by
   unfold OL.onLast OL.last outF
   simp
  have ih:=out_fns fs { o with fs:=o.fs++[outF f] } (fun g hg=>h g (by simp [hg]))
  rw [h3];unfold fnPs at ih;rw [ih]
  simp
theorem out_maps:∀ (ms:List PMap) (o:OL),(ms.map mapPl).foldl outStep o={ o with maps:=(ms.map (·.name)).reverse++o.maps }
 | [],o=>by simp
 | m::ms,o=>by
  rw [List.map_cons,List.foldl_cons]
  have:outStep o (mapPl m)={ o with maps:=m.name::o.maps }:=rfl
  rw [this,out_maps ms]
  simp
theorem out_text {ms:List PMap} {fs:List PFn} (hf:∀ f∈fs,f.Told):outlineP (textPs ms fs)=⟨(ms.map (·.name)).reverse,fs.map outF⟩:=by
 unfold outlineP textPs;rw [List.foldl_append,List.foldl_append,out_maps,out_fns _ _ hf,List.foldl_cons,List.foldl_nil]
 simp [outStep]
theorem pi_back {f:PFn} (h:f.Told) {O:OL} {i:Nat} (hO:O.fs.getD i {}=outF f) {p:PI × Nat} (hp:p∈withS 0 f.code):piOf O i p.2 (seenL (labelsP f) p)=p.1:=by
 have hk:=h.k88 p hp
 have ho:=seen_o (labs:=labelsP f) (p:=p) hk
 unfold piOf PRead.pi jmpOf;rw [ho,hO]
 have hj:(if p.1.o.jumps=true then (((labOf (outF f).labs (seenL (labelsP f) p).r.label).getD 0:Nat):Int) - p.2 - p.1.o.slots else (seenL (labelsP f) p).r.jump)=p.1.jump:=by
  by_cases hj:p.1.o.jumps=true
  ·obtain ⟨t,ht,_,hl⟩:=h.found hp hj
   have e:(seenL (labelsP f) p).r.label=p.1.lab (labelsP f) p.2:=rfl
   rw [if_pos hj,e,hl];unfold PI.target at ht
   simp only [Option.getD_some]
   omega
  ·rw [if_neg hj]
   show (if p.1.o.jumps then 0 else p.1.jump)=_
   rw [if_neg hj]
 rw [hj]
 rfl
theorem build_code (labs:List (List UInt8)) (O:OL):∀ (l:List PI) (s:Nat) (b:BS),b.fs≠[]->b.slot=s->(∀ p∈withS s l,p.1.k<88/\piOf O (b.fs.length - 1) p.2 (seenL labs p)=p.1)->(codePs labs (withS s l)).foldl (bStep O) b={ b with fs:=b.fs.set (b.fs.length - 1) ⟨b.last.name,b.last.code++l⟩,slot:=s+slotsP l }
 | [],s,b,hb,hs,_=>by
  have hl:0<b.fs.length:=List.length_pos_iff.2 hb
  have:b.fs.set (b.fs.length - 1) ⟨b.last.name,b.last.code++[]⟩=b.fs:=by
   unfold BS.last
   rw [List.append_nil,List.getD_eq_getElem?_getD,List.getElem?_eq_getElem (by omega),Option.getD_some]
   exact List.set_getElem_self _
  rw [this];subst hs
  rfl
 | x::l,s,b,hb,hs,hp=>by
  have hl:0<b.fs.length:=List.length_pos_iff.2 hb
  obtain ⟨hk,hx⟩:=hp (x,s) (by rw [withS];simp)
  have ho:=seen_o (labs:=labs) (p:=(x,s)) hk
  have hlab:(labPs labs s).foldl (bStep O) b=b:=by
   unfold labPs
   split
   ·rfl
   ·rfl
  have hins:bStep O b { kind:=4,x:=seenL labs (x,s) }={ b with fs:=b.fs.set (b.fs.length - 1) ⟨b.last.name,b.last.code++[x]⟩,slot:=s+x.o.slots }:=by
   unfold bStep
   simp only [hs,hx,ho]
   rfl
  rw [withS];unfold codePs;rw [List.flatMap_cons,List.foldl_append,List.foldl_append,hlab,List.foldl_cons,List.foldl_nil,hins]
  generalize hb':({ b with fs:=b.fs.set (b.fs.length - 1) ⟨b.last.name,b.last.code++[x]⟩,slot:=s+x.o.slots }:BS)=b'
  have e1:b'.fs=b.fs.set (b.fs.length - 1) ⟨b.last.name,b.last.code++[x]⟩:=by rw [<- hb']
  have e2:b'.fs.length=b.fs.length:=by rw [e1,List.length_set]
  have e3:b'.last=⟨b.last.name,b.last.code++[x]⟩:=by
   unfold BS.last
   rw [e2,e1,List.getD_eq_getElem?_getD,List.getElem?_set_self (by omega)];rfl
  have ih:=build_code labs O l (s+x.o.slots) b' (by intro e;rw [e] at e2;simp at e2;omega) (by rw [<- hb']) (fun p hm=>by
   rw [e2]
   exact hp p (by rw [withS];simp [hm]))
  unfold codePs at ih;rw [ih,e2,e1,e3,List.set_set]
  have es:slotsP (x::l)=x.o.slots+slotsP l:=by unfold slotsP;simp
  subst hb'
  simp only [List.append_assoc,List.singleton_append,es]
  congr 1
  omega
theorem build_fns (O:OL):∀ (fs:List PFn) (b:BS),(∀ f∈fs,f.Told)->(∀ j (h:j<fs.length),O.fs.getD (b.fs.length+j) {}=outF fs[j])->∃ s,(fs.flatMap fnPs).foldl (bStep O) b={ b with fs:=b.fs++fs,slot:=s }
 | [],b,_,_=>⟨b.slot,by simp⟩
 | f::fs,b,h,hO=>by
  have hf:=h f (by simp)
  have h0:=hO 0 (by simp)
  rw [List.getElem_cons_zero,Nat.add_zero] at h0;rw [List.flatMap_cons,List.foldl_append];unfold fnPs;rw [List.foldl_cons]
  have h2:bStep O b { kind:=2,name:=f.name }={ b with fs:=b.fs++[⟨f.name,[]⟩],slot:=0 }:=rfl
  rw [h2,build_code (labelsP f) O f.code 0 _ (by simp) rfl (fun p hp=>⟨hf.k88 p hp,by
   have:(b.fs++[(⟨f.name,[]⟩:PFn)]).length - 1=b.fs.length:=by simp
   simp only [this]
   exact pi_back hf h0 hp⟩)]
  have h3:({ b with fs:=(b.fs++[(⟨f.name,[]⟩:PFn)]).set ((b.fs++[(⟨f.name,[]⟩:PFn)]).length - 1) ⟨(BS.last { b with fs:=b.fs++[⟨f.name,[]⟩],slot:=0 }).name,(BS.last { b with fs:=b.fs++[⟨f.name,[]⟩],slot:=0 }).code++f.code⟩,slot:=0+slotsP f.code }:BS)={ b with fs:=b.fs++[f],slot:=slotsP f.code }:=by
   unfold BS.last
   simp
  obtain ⟨s,hs⟩:=build_fns O fs { b with fs:=b.fs++[f],slot:=slotsP f.code } (fun g hg=>h g (by simp [hg])) (fun j hj=>by
   have:=hO (j+1) (by simp;omega)
   rw [List.getElem_cons_succ] at this
   simp only [List.length_append,List.length_singleton]
   rw [<- this]
   congr 1
   omega)
  refine ⟨s,?_⟩
  unfold fnPs at hs;rw [h3,hs]
  simp
theorem pm_back {m:PMap} (h:m.Told):pmOf (mapPl m)=m:=by
 have h1:=h.k
 have h2:=h.v
 have h3:=h.e
 have key:∀ n:Nat,n<256->(szP ⟨n,false⟩).toNat=n:=fun n hn=>by
  unfold szP RNum.sgnP
  simp only
  rw [if_neg (by omega),if_neg (by decide),if_pos (by omega)]
  simp
 unfold pmOf mapPl
 simp only [List.getD_cons_zero,List.getD_cons_succ]
 rw [key _ (by omega),key _ (by omega),key _ (by omega)]
theorem build_maps (O:OL):∀ (ms:List PMap) (b:BS),(∀ m∈ms,m.Told)->(ms.map mapPl).foldl (bStep O) b={ b with ms:=b.ms++ms }
 | [],b,_=>by simp
 | m::ms,b,h=>by
  rw [List.map_cons,List.foldl_cons]
  have:bStep O b (mapPl m)={ b with ms:=b.ms++[m] }:=by
   have e:bStep O b (mapPl m)={ b with ms:=b.ms++[pmOf (mapPl m)] }:=rfl
   rw [e,pm_back (h m (by simp))]
  rw [this,build_maps O ms _ (fun x hx=>h x (by simp [hx]))]
  simp
theorem build_text {ms:List PMap} {fs:List PFn} (hm:∀ m∈ms,m.Told) (hf:∀ f∈fs,f.Told):(buildP (outlineP (textPs ms fs)) (textPs ms fs)).ms=ms/\(buildP (outlineP (textPs ms fs)) (textPs ms fs)).fs=fs:=by
 generalize hO:outlineP (textPs ms fs)=O
 rw [out_text hf] at hO
 have hOf:O.fs=fs.map outF:=by rw [<- hO]
 unfold buildP textPs;rw [List.foldl_append,List.foldl_append,build_maps O ms {} hm]
 obtain ⟨s,hs⟩:=build_fns O fs { ({}:BS) with ms:=({}:BS).ms++ms } hf (fun j hj=>by
  show O.fs.getD (0+j) {}=_
  rw [Nat.zero_add,hOf,List.getD_eq_getElem?_getD,List.getElem?_map,List.getElem?_eq_getElem hj];rfl)
 rw [hs,List.foldl_cons,List.foldl_nil]
 refine ⟨?_,?_⟩
 ·show ([]++ms)=ms;simp
 ·show ([]++fs)=fs;simp
def noF (O:OL):List PLn->WK->Prop
 | [],_=>True
 | x::l,k=>faultP O k x=0/\noF O l (stepP k x)
theorem noF_app (O:OL):∀ (a b:List PLn) (k:WK),noF O a k->noF O b (a.foldl stepP k)->noF O (a++b) k
 | [],_,_,_,h=>h
 | _::a,b,_,h,h'=>⟨h.1,noF_app O a b _ h.2 h'⟩
theorem first_no (O:OL):∀ (l:List PLn) (k:WK) (n:Nat),noF O l k->firstP O l k n=(0,0)
 | [],_,_,_=>rfl
 | x::l,k,n,h=>by
  rw [firstP,if_pos h.1];exact first_no O l _ _ h.2
theorem needs_same (o:OpS) (x y:PIns) (hd:x.d=y.d) (hs:x.s=y.s) (hj:x.jump=y.jump) (hn:x.num=y.num) (hh:x.high=y.high):o.needs x=o.needs y:=by
 have hr:PK.right x=PK.right y:=by
  funext p
  unfold PK.right;rw [hd,hs,hh]
 unfold OpS.needs othersB;rw [hr,hd,hs,hj,hn]
theorem Told.fits {x:PI} {lab:List UInt8} (h:x.Told lab):(PRead.mk x.k (x.seen lab)).fits=true:=by
 unfold PRead.fits
 have ho:(PRead.mk x.k (x.seen lab)).o=x.o:=PRead.o_row _ h.k
 have hfar:(PRead.mk x.k (x.seen lab)).r.far=false:=rfl
 rw [ho,hfar,Bool.not_false,Bool.true_and]
 have hn:=h.needs
 cases hj:x.o.jumps with
 | false =>
  rw [needs_same x.o (x.seen lab).ins (x.ins []) rfl rfl (by
   show (if x.o.jumps then 0 else x.jump)=x.jump
   rw [hj];rfl) rfl rfl]
  exact hn
 | true =>
  have hc:x.o.call=false:=by
   cases hc:x.o.call with
   | false=>rfl
   | true =>
    have:=(tab_jumps ⟨x.k,h.k⟩).2 hc
    have h2:x.o.jumps=false:=this
    rw [hj] at h2;cases h2
  have hp:=Told.jumps h
  rw [hj] at hp
  simp only [Bool.true_eq,Bool.or_eq_true,decide_eq_true_eq] at hp
  rcases hp with (hp | hp) | hp
  ·rw [need_ja _ _ hc hp] at hn ⊢;exact hn
  ·rw [need_regsJ _ _ hc hp] at hn ⊢;exact hn
  ·rw [need_numsJ _ _ hc hp] at hn ⊢;exact hn
theorem no_code {f:PFn} (h:f.Told) {O:OL} (hm:∀ p∈withS 0 f.code,p.1.refers=2->O.maps.count p.1.name≠0):∀ (l:List PI) (s:Nat) (k:WK),(∀ p∈withS s l,p∈withS 0 f.code)->k.funcs≠[]->O.fs.getD (k.funcs.length - 1) {}=outF f->k.slots+slotsP l<=200->(∀ x∈k.labels,∃ t,t<s/\x=labAt (labelsP f) t) ->
  noF O (codePs (labelsP f) (withS s l)) k/\∃ ls,(codePs (labelsP f) (withS s l)).foldl stepP k={ k with labels:=ls,slots:=k.slots+slotsP l }
 | [],s,k,_,_,_,_,_=>⟨trivial,k.labels,by simp [withS,codePs,slotsP]⟩
 | x::l,s,k,hin,hf,hO,hsl,hlb=>by
  have hp:=hin (x,s) (by rw [withS];simp)
  have hT:=h.ins _ hp
  have hk:=h.k88 _ hp
  have ho:=seen_o (labs:=labelsP f) (p:=(x,s)) hk
  have es:slotsP (x::l)=x.o.slots+slotsP l:=by unfold slotsP;simp
  have h1s:1<=x.o.slots:=by have:=row_slots x.k hk;rw [PI.o_row];omega
  obtain ⟨k1,hk1,hno1,hkf,hks,hkl⟩:∃ k1:WK,(labPs (labelsP f) s).foldl stepP k=k1/\noF O (labPs (labelsP f) s) k/\k1.funcs=k.funcs/\(k1={ k with labels:=k1.labels }/\k1.slots=k.slots)/\(∀ y∈k1.labels,∃ t,t<s+x.o.slots/\y=labAt (labelsP f) t):=by
   unfold labPs
   by_cases hn:labAt (labelsP f) s≠[]
   ·rw [if_pos hn]
    refine ⟨_,rfl,⟨?_,trivial⟩,rfl,⟨rfl,rfl⟩,fun y hy=>?_⟩
    ·have hc:k.labels.count (labAt (labelsP f) s)=0:=by
      rw [List.count_eq_zero];intro hm;obtain ⟨t,ht,e⟩:=hlb _ hm
      have:=h.labs.inj s t e hn
      omega
     show labFaultP k _=0
     unfold labFaultP
     simp only [hc]
     rfl
    ·have hy':y∈labAt (labelsP f) s::k.labels:=hy
     rcases List.mem_cons.1 hy' with rfl | hy'
     ·exact ⟨s,by omega,rfl⟩
     ·obtain ⟨t,ht,e⟩:=hlb y hy'
      exact ⟨t,by omega,e⟩
   ·rw [if_neg hn]
    exact ⟨k,rfl,trivial,rfl,⟨rfl,rfl⟩,fun y hy=>by
     obtain ⟨t,ht,e⟩:=hlb y hy
     exact ⟨t,by omega,e⟩⟩
  have hins:faultP O k1 { kind:=4,x:=seenL (labelsP f) (x,s) }=0:=by
   show codeFaultP O k1 _=0
   unfold codeFaultP
   have hfit:(seenL (labelsP f) (x,s)).fits=true:=Told.fits hT
   simp only [ho,hfit,Bool.true_eq_false,if_false]
   rw [hkf,hO,hks.2]
   have c1:(x.o.jumps&&!hasLabP (outF f) (seenL (labelsP f) (x,s)).r.label)=false:=by
    cases hj:x.o.jumps with
    | false=>rfl
    | true =>
     obtain ⟨t,_,htl,hl⟩:=h.found hp hj
     have e:(seenL (labelsP f) (x,s)).r.label=x.lab (labelsP f) s:=rfl
     have:hasLabP (outF f) (x.lab (labelsP f) s)=true:=by
      unfold hasLabP
      have hl':labOf (outF f).labs (x.lab (labelsP f) s)=some t:=hl
      rw [hl',h.out.1]
      simp [htl]
     rw [e,this];rfl
   have c2:(decide ((if (seenL (labelsP f) (x,s)).r.s=1 then x.o.refers else 0)=2)&&decide (O.maps.count (seenL (labelsP f) (x,s)).r.name=0))=false:=by
    have e1:(if (seenL (labelsP f) (x,s)).r.s=1 then x.o.refers else 0)=x.refers:=rfl
    have e2:(seenL (labelsP f) (x,s)).r.name=x.name:=rfl
    rw [e1,e2]
    by_cases hr:x.refers=2
    ·have:=hm _ hp hr
     rw [decide_eq_true hr,Bool.true_and];exact decide_eq_false this
    ·rw [decide_eq_false hr,Bool.false_and]
   rw [c1,c2]
   simp only [Bool.false_eq_true,if_false]
   rw [if_neg (by omega)]
  have hstep:stepP k1 { kind:=4,x:=seenL (labelsP f) (x,s) }={ k with labels:=k1.labels,slots:=k.slots+x.o.slots }:=by
   show codeStepP k1 _=_
   unfold codeStepP
   simp only [ho]
   rw [hks.1]
  obtain ⟨i1,ls,i2⟩:=no_code h hm l (s+x.o.slots) { k with labels:=k1.labels,slots:=k.slots+x.o.slots } (fun p hm'=>hin p (by rw [withS];simp [hm'])) hf hO (by simp only;omega) hkl
  rw [withS]
  unfold codePs at i1 i2 ⊢
  rw [List.flatMap_cons]
  refine ⟨noF_app _ _ _ _ (noF_app _ _ _ _ hno1 ?_) ?_,ls,?_⟩
  ·rw [hk1];exact ⟨hins,trivial⟩
  ·rw [List.foldl_append,hk1,List.foldl_cons,List.foldl_nil,hstep];exact i1
  ·rw [List.foldl_append,List.foldl_append,hk1,List.foldl_cons,List.foldl_nil,hstep,i2]
   simp only [es,Nat.add_assoc]
theorem no_fns {O:OL}:∀ (fs:List PFn) (k:WK),(∀ f∈fs,f.Told)->(∀ f∈fs,∀ p∈withS 0 f.code,p.1.refers=2->O.maps.count p.1.name≠0)->(∀ j (h:j<fs.length),O.fs.getD (k.funcs.length+j) {}=outF fs[j])->k.funcs.length+fs.length<=16->k.slots+(fs.map (fun f=>slotsP f.code)).sum<=200->(fs.map (·.name)).Nodup->(∀ f∈fs,f.name ∉ k.funcs)->noF O (fs.flatMap fnPs) k
 | [],_,_,_,_,_,_,_,_=>trivial
 | f::fs,k,h,hm,hO,hl,hs,hnd,hnf=>by
  have hf:=h f (by simp)
  have h0:=hO 0 (by simp)
  rw [List.getElem_cons_zero,Nat.add_zero] at h0;rw [List.length_cons] at hl;rw [List.map_cons,List.sum_cons] at hs;rw [List.map_cons,List.nodup_cons] at hnd;rw [List.flatMap_cons]
  have hff:faultP O k { kind:=2,name:=f.name }=0:=by
   show funcFaultP O k _=0
   unfold funcFaultP
   have hc:k.funcs.count f.name=0:=List.count_eq_zero.2 (hnf f (by simp))
   simp only [hc,h0,hf.out.2.1]
   rw [if_neg (by omega),if_neg (by omega)]
   rfl
  obtain ⟨c1,ls,c2⟩:=no_code hf (hm f (by simp)) (O:=O) f.code 0 (funcStepP k { kind:=2,name:=f.name }) (fun _ hp=>hp) (by unfold funcStepP;simp) (by
   unfold funcStepP
   simp only [List.length_cons,Nat.add_sub_cancel]
   exact h0) (by unfold funcStepP;simp only;omega) (fun x hx=>by cases hx)
  have hst:(fnPs f).foldl stepP k={ funcStepP k { kind:=2,name:=f.name } with labels:=ls,slots:=k.slots+slotsP f.code }:=c2
  refine noF_app _ _ _ _ ⟨hff,c1⟩ ?_
  rw [hst]
  refine no_fns fs _ (fun g hg=>h g (by simp [hg])) (fun g hg=>hm g (by simp [hg])) (fun j hj=>?_) ?_ ?_ hnd.2 (fun g hg hmem=>?_)
  ·have:=hO (j+1) (by simp;omega)
   rw [List.getElem_cons_succ] at this;unfold funcStepP
   simp only [List.length_cons]
   rw [<- this]
   congr 1
   omega
  ·unfold funcStepP;simp only [List.length_cons];omega
  ·simp only;omega
  ·have hmem':g.name∈f.name::k.funcs:=hmem
   rcases List.mem_cons.1 hmem' with e | e
   ·exact hnd.1 (by rw [<- e];exact List.mem_map.2 ⟨g,hg,rfl⟩)
   ·exact hnf g (by simp [hg]) e
theorem sizes_fit {m:PMap} (h:m.Told):sizesFitP ((mapPl m).ns.getD 0 num0) ((mapPl m).ns.getD 1 num0) ((mapPl m).ns.getD 2 num0)=true:=by
 have h1:=h.k
 have h2:=h.v
 have h3:=h.e
 have key:∀ (n:Nat) (most:Int),n<256->1<=n->(n:Int)<=most->sizeOk ⟨n,false⟩ most=true:=fun n most hn h1 h2=>by
  unfold sizeOk RNum.sgnP
  simp only
  rw [if_neg (by omega),if_neg (by decide),if_pos (by omega)]
  simp
  omega
 show sizesFitP ⟨m.key,false⟩ ⟨m.value,false⟩ ⟨m.entries,false⟩=true
 unfold sizesFitP
 rw [key _ _ (by omega) (by omega) (by omega),key _ _ (by omega) (by omega) (by omega),key _ _ (by omega) (by omega) (by omega)];rfl
theorem no_maps {O:OL}:∀ (ms:List PMap) (k:WK),(∀ m∈ms,m.Told)->k.maps.length+ms.length<=8->(ms.map (·.name)).Nodup->(∀ m∈ms,m.name ∉ k.maps)->noF O (ms.map mapPl) k/\(ms.map mapPl).foldl stepP k={ k with maps:=(ms.map (·.name)).reverse++k.maps }
 | [],k,_,_,_,_=>⟨trivial,by simp⟩
 | m::ms,k,h,hl,hnd,hnf=>by
  rw [List.length_cons] at hl;rw [List.map_cons,List.nodup_cons] at hnd
  have hff:faultP O k (mapPl m)=0:=by
   show mapFaultP k (mapPl m)=0
   unfold mapFaultP
   rw [sizes_fit (h m (by simp))]
   have hc:k.maps.count (mapPl m).name=0:=List.count_eq_zero.2 (hnf m (by simp))
   rw [hc,if_neg (by decide),if_neg (by omega),if_neg (by omega)]
  have hst:stepP k (mapPl m)={ k with maps:=m.name::k.maps }:=rfl
  obtain ⟨i1,i2⟩:=no_maps (O:=O) ms { k with maps:=m.name::k.maps } (fun x hx=>h x (by simp [hx])) (by simp only [List.length_cons];omega) hnd.2 (fun x hx hmem=>by
   have hmem':x.name∈m.name::k.maps:=hmem
   rcases List.mem_cons.1 hmem' with e | e
   ·exact hnd.1 (by rw [<- e];exact List.mem_map.2 ⟨x,hx,rfl⟩)
   ·exact hnf x (by simp [hx]) e)
  refine ⟨⟨hff,by rw [hst];exact i1⟩,?_⟩
  rw [List.map_cons,List.foldl_cons,hst,i2]
  simp
theorem first_text {ms:List PMap} {fs:List PFn} (hm:∀ m∈ms,m.Told) (hf:∀ f∈fs,f.Told) (h8:ms.length<=8) (h16:fs.length<=16) (h200:(fs.map (fun f=>slotsP f.code)).sum<=200) (nm:(ms.map (·.name)).Nodup) (nf:(fs.map (·.name)).Nodup) (hr:∀ f∈fs,∀ p∈withS 0 f.code,p.1.refers=2->p.1.name∈ms.map (·.name)) :
  firstP (outlineP (textPs ms fs)) (textPs ms fs) {} 0=(0,0):=by
 generalize hO:outlineP (textPs ms fs)=O
 rw [out_text hf] at hO
 refine first_no _ _ _ _ ?_
 unfold textPs
 obtain ⟨i1,i2⟩:=no_maps (O:=O) ms {} hm (by simpa using h8) nm (fun m _ e=>by cases e)
 refine noF_app _ _ _ _ (noF_app _ _ _ _ i1 ?_) ⟨rfl,trivial⟩
 rw [i2]
 refine no_fns fs _ hf (fun f hff p hp hr2=>?_) (fun j hj=>?_) (by simpa using h16) (by simpa using h200) nf (fun f _ e=>by cases e)
 ·rw [<- hO];intro e
  exact (List.count_eq_zero.1 e) (List.mem_reverse.2 (hr f hff p hp hr2))
 ·rw [<- hO]
  show (fs.map outF).getD (0+j) {}=_
  rw [Nat.zero_add,List.getD_eq_getElem?_getD,List.getElem?_map,List.getElem?_eq_getElem hj];rfl
end Go.Proofs.YtnhcaifopaeohaaGreatDoor
