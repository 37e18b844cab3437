import Derived.Test.YtoknbkfclhmapaaGreatDoorC48
import Derived.Test.YtoknbkfclhmapaaGreatDoorC31
import Derived.Test.YtoknbkfclhmapaaGreatDoorC42
import Derived.Test.YtoknbkfclhmapaaGreatDoorC40
import Derived.Lib.SlBytesConst
namespace Go.Proofs.YtoknbkfclhmapaaGreatDoor
open Go.RowKit
set_option maxRecDepth 100000 in
theorem op_code:∀ k,k<88->opM (wordM (tableS[k]?.getD noOp).code).1=(tableS[k]?.getD noOp).code:=by decide +kernel
set_option maxRecDepth 100000 in
theorem code_small:∀ k,k<88->(tableS[k]?.getD noOp).code<=255:=by decide +kernel
theorem opM_congr {i j:RIns} (hw:i.word=j.word) (h3:i.is32=j.is32) (hs:(i.s<0) ↔ (j.s<0)):opM i=opM j:=by
 unfold opM;rw [hw,h3]
 simp only [hs]
theorem four_u64 (x:Int):fourL (u64 x)=fourL x:=by
 unfold fourL u64
 congr 1
 ·omega
 ·congr 1
  ·omega
  ·congr 1
   ·omega
   ·congr 1;omega
theorem toI_d (i:RIns) (nm:ByteArray) (x:PI):(toI' i nm x).d=x.d:=by
 unfold toI'
 dsimp only
 split
 ·split<;>rfl
 ·split
  ·split<;>rfl
  ·split<;>rfl
theorem lblI_d (p:Nat) (x:PI):(lblI p x).d=x.d:=by
 unfold lblI
 split<;>exact toI_d _ _ _
theorem lblI_word (p:Nat) (x:PI):(lblI p x).word=x.toN.word:=by unfold lblI;split<;>rfl
theorem lblI_s (p:Nat) (x:PI):(lblI p x).s=x.toN.s:=by unfold lblI;split<;>rfl
theorem lblI_32 (p:Nat) (x:PI):(lblI p x).is32=x.toN.is32:=by unfold lblI;split<;>rfl
theorem lblI_name (p:Nat) (x:PI):(lblI p x).name=x.toN.name:=by unfold lblI;split<;>rfl
theorem nmOf_ne (x:PI):nmOf x≠E0:=by
 unfold nmOf
 split
 ·decide
 ·intro h
  rename_i hx
  apply hx
  have:=congrArg (fun b:ByteArray=>b.data.toList) h
  simpa [T] using this
structure Shape (x:PI) (i:RIns):Prop where
 op:opM i=x.o.code
 s:codeS i=x.s
 n:∀ n num:Int,(num=if x.refers≠0 then n else x.num)->(x.refers≠0->0<=n/\n<4294967296)->fourL (codeN i n)=fourL num/\(i.word=WIDE->fourL (codeN i n / 4294967296)=fourL x.high)
 w:i.word=WIDE ↔ x.o.slots≠1
theorem sort_facts:sortM WIDE=119/\sortM CALL=99/\sortM HELP=104/\WIDE≠HELP/\CALL≠HELP/\CALL≠WIDE/\HELP≠WIDE:=by decide +kernel
theorem refers_zero {x:PI} (h:x.Ok) (hk:sortM x.view.word≠119/\sortM x.view.word≠99):x.refers=0:=by
 unfold PI.refers
 have:=h.facts.refers
 rw [if_neg (show ¬ sortM (wordM x.o.code).1.word=119 from hk.1),if_neg (show ¬ sortM (wordM x.o.code).1.word=99 from hk.2)] at this
 rw [this];split<;>rfl
theorem slots_one {x:PI} (h:x.Ok) (hw:x.view.word≠WIDE):x.o.slots=1:=by
 have:=h.facts.slots
 rw [this,slotsI,if_neg (show ¬ (wordM x.o.code).1.word=WIDE from hw)]
theorem op_view {x:PI} (h:x.Ok):opM x.view=x.o.code:=op_code x.k h.k
theorem shape_plain {x:PI} (h:x.Ok) (hk:sortM x.view.word≠119/\sortM x.view.word≠99) (hk4:sortM x.view.word≠104) (hw:x.toN.word=x.view.word) (h3:x.toN.is32=x.view.is32) (hn:x.toN.n=u64 x.num) (hm:x.toN.name=E0) (hs:x.toN.s=if x.view.s<0 then x.view.s else x.s) (hs0:x.view.s<0->x.s=0):Shape x x.toN:=by
 have hW:x.view.word≠WIDE:=fun e=>hk.1 (by rw [e];exact sort_facts.1)
 have hH:x.view.word≠HELP:=fun e=>hk4 (by rw [e];exact sort_facts.2.2.1)
 have hr:=refers_zero h hk
 refine ⟨?_,?_,?_,?_⟩
 ·rw [<- op_view h]
  refine opM_congr hw h3 ?_
  rw [hs]
  split
  ·exact Iff.rfl
  ·rename_i hneg
   constructor
   ·intro e;exact absurd e (by omega)
   ·intro e;exact absurd e hneg
 ·unfold codeS
  rw [if_neg (fun e=>e hm),hw,if_neg hW,hs]
  by_cases hneg:x.view.s<0
  ·rw [if_pos hneg,if_pos hneg,hs0 hneg];rfl
  ·rw [if_neg hneg,if_neg (by omega)]
 ·intro n num hnum _;rw [hr] at hnum
  simp only [ne_eq,not_true_eq_false,if_false] at hnum
  refine ⟨?_,fun e=>absurd (hw.symm.trans e) hW⟩
  unfold codeN
  rw [hw,if_neg hH,if_neg (fun e=>e hm),hn,four_u64,hnum]
 ·rw [hw,slots_one h hW]
  exact ⟨fun e=>absurd e hW,fun e=>absurd rfl e⟩
theorem four_wide (x:PI):fourL ((x.ins []).wide:Int)=fourL x.num/\fourL (((x.ins []).wide:Int) / 4294967296)=fourL x.high:=by
 have e:((x.ins []).wide:Int)=x.high % 4294967296*4294967296+x.num % 4294967296:=by
  show (((x.high % 4294967296).toNat*4294967296+(x.num % 4294967296).toNat:Nat):Int)=_
  omega
 rw [e]
 constructor
 ·unfold fourL
  congr 1
  ·omega
  ·congr 1
   ·omega
   ·congr 1
    ·omega
    ·congr 1;omega
 ·have e2:(x.high % 4294967296*4294967296+x.num % 4294967296) / 4294967296=x.high % 4294967296:=by omega
  rw [e2];unfold fourL
  congr 1
  ·omega
  ·congr 1
   ·omega
   ·congr 1
    ·omega
    ·congr 1;omega
theorem shape_wide {x:PI} (h:x.Ok) (hv:x.view.word=WIDE) (hs0:x.view.s=0) (hz:x.view.name=E0) (hc:x.o.call=false) (hp:x.o.parts=[.result,.comma,.wide]):Shape x x.toN:=by
 have hn:=h.needs
 rw [need_wide x.o (x.ins []) hc hp] at hn
 simp only [Bool.and_eq_true,Bool.or_eq_true,decide_eq_true_eq] at hn
 have hn:(x.d<10/\(x.s=0\/(x.s=1/\x.high=0)))/\x.jump=0:=hn
 have hsl:x.o.slots=2:=by
  have:=h.facts.slots
  rw [this,slotsI,if_pos (show (wordM x.o.code).1.word=WIDE from hv)]
 have h119:sortM x.view.word=119:=by rw [hv];exact sort_facts.1
 have hnh:WIDE≠HELP:=sort_facts.2.2.2.1
 by_cases h1:x.s=1
 ·have ht:x.toN={ x.view with d:=x.d,s:=0,n:=0,name:=nmOf x }:=by
   unfold PI.toN PI.toI toI'
   dsimp only
   rw [if_pos h119,if_pos h1]
  have hhi:x.high=0:=by rcases hn.1.2 with e | e<;>omega
  have hr:x.refers≠0:=by
   unfold PI.refers;rw [if_pos h1]
   have:=h.facts.refers
   rw [if_pos (show sortM (wordM x.o.code).1.word=119 from h119)] at this
   omega
  rw [ht]
  refine ⟨?_,?_,?_,?_⟩
  ·rw [<- op_view h]
   exact opM_congr rfl rfl (by simp [hs0])
  ·unfold codeS
   rw [if_pos (nmOf_ne x),h1];rfl
  ·intro n num hnum hb;rw [if_pos hr] at hnum;obtain ⟨b1,b2⟩:=hb hr
   have e:codeN { x.view with d:=x.d,s:=0,n:=0,name:=nmOf x } n=n:=by
    unfold codeN
    simp only
    rw [hv,if_neg hnh,if_pos (nmOf_ne x)]
   rw [e,hnum,hhi]
   refine ⟨rfl,fun _=>?_⟩
   have:n / 4294967296=0:=by omega
   rw [this]
  ·rw [hsl]
   exact ⟨fun _=>by decide,fun _=>hv⟩
 ·have hs00:x.s=0:=by rcases hn.1.2 with e | e<;>omega
  have ht:x.toN={ x.view with d:=x.d,s:=0,n:=(x.ins []).wide }:=by
   unfold PI.toN PI.toI toI'
   dsimp only
   rw [if_pos h119,if_neg h1,if_neg (by omega),hs00]
   rfl
  have hr:x.refers=0:=by unfold PI.refers;rw [if_neg h1]
  rw [ht]
  refine ⟨?_,?_,?_,?_⟩
  ·rw [<- op_view h]
   exact opM_congr rfl rfl (by simp [hs0])
  ·unfold codeS
   simp only
   rw [if_neg (fun e=>e hz),hs00]
   simp
  ·intro n num hnum _;rw [hr] at hnum
   simp only [ne_eq,not_true_eq_false,if_false] at hnum
   have e:codeN { x.view with d:=x.d,s:=0,n:=(x.ins []).wide } n=(x.ins []).wide:=by
    unfold codeN
    simp only
    rw [hv,if_neg hnh,if_neg (fun e=>e hz)]
   rw [e,hnum]
   exact ⟨(four_wide x).1,fun _=>(four_wide x).2⟩
  ·rw [hsl]
   exact ⟨fun _=>by decide,fun _=>hv⟩
theorem help_num:∀ k:Nat,k<4->(1:Int)+placeM (helpersL[k]?.getD E0) helpersL=(k:Int)+1:=by decide +kernel
theorem shape_call {x:PI} (h:x.Ok) (hv:x.view.word=CALL) (hs0:x.view.s=0) (hz:x.view.name=E0) (hc:x.o.call=true):Shape x x.toN:=by
 have hn:=h.needs
 rw [need_call x.o (x.ins []) hc] at hn
 simp only [Bool.and_eq_true,Bool.or_eq_true,decide_eq_true_eq] at hn
 have hn:(x.d=0/\x.jump=0)/\(x.s=1\/((x.s=0/\1<=x.num)/\x.num<5)):=hn
 have h99:sortM x.view.word=99:=by rw [hv];exact sort_facts.2.1
 have h119:¬ sortM x.view.word=119:=by rw [h99];decide
 have hsl:x.o.slots=1:=slots_one h (by rw [hv];exact sort_facts.2.2.2.2.2.1)
 by_cases h1:x.s=1
 ·have ht:x.toN={ x.view with d:=x.d,s:=0,n:=0,name:=nmOf x }:=by
   unfold PI.toN PI.toI toI'
   dsimp only
   rw [if_neg h119,if_pos h99,if_pos h1]
  have hr:x.refers≠0:=by
   unfold PI.refers;rw [if_pos h1]
   have:=h.facts.refers
   rw [if_neg (show ¬ sortM (wordM x.o.code).1.word=119 from h119),if_pos (show sortM (wordM x.o.code).1.word=99 from h99)] at this
   omega
  rw [ht]
  refine ⟨?_,?_,?_,?_⟩
  ·rw [<- op_view h]
   exact opM_congr rfl rfl (by simp [hs0])
  ·unfold codeS
   rw [if_pos (nmOf_ne x),h1];rfl
  ·intro n num hnum hb;rw [if_pos hr] at hnum
   have e:codeN { x.view with d:=x.d,s:=0,n:=0,name:=nmOf x } n=n:=by
    unfold codeN
    simp only
    rw [hv,if_neg sort_facts.2.2.2.2.1,if_pos (nmOf_ne x)]
   rw [e,hnum]
   exact ⟨rfl,fun e=>absurd (hv.symm.trans e) sort_facts.2.2.2.2.2.1⟩
  ·rw [hsl]
   exact ⟨fun e=>absurd (hv.symm.trans e) sort_facts.2.2.2.2.2.1,fun e=>absurd rfl e⟩
 ·have hs00:x.s=0/\1<=x.num/\x.num<5:=by rcases hn.2 with e | e<;>omega
  have hu:u64 x.num=x.num:=by unfold u64;omega
  have ht:x.toN={ x.view with d:=x.d,s:=0,n:=0,word:=HELP,label:=helpersL[x.num.toNat - 1]?.getD E0 }:=by
   unfold PI.toN PI.toI toI'
   dsimp only
   rw [if_neg h119,if_pos h99,if_neg h1,if_neg (by omega),hs00.1,hu]
   rfl
  have hr:x.refers=0:=by unfold PI.refers;rw [if_neg h1]
  rw [ht]
  refine ⟨?_,?_,?_,?_⟩
  ·rw [<- op_view h];unfold opM
   simp only [h99,sort_facts.2.2.1]
   rfl
  ·unfold codeS
   simp only
   rw [if_neg (fun e=>e hz),if_neg sort_facts.2.2.2.2.2.2,hs00.1]
   simp
  ·intro n num hnum _;rw [hr] at hnum
   simp only [ne_eq,not_true_eq_false,if_false] at hnum
   refine ⟨?_,fun e=>absurd e sort_facts.2.2.2.2.2.2⟩
   unfold codeN
   simp only [if_true]
   rw [help_num (x.num.toNat - 1) (by omega),hnum]
   congr 1
   omega
  ·rw [hsl]
   exact ⟨fun e=>absurd e sort_facts.2.2.2.2.2.2,fun e=>absurd rfl e⟩
theorem toN_plain {x:PI} (h9:sortM x.view.word≠119) (h8:sortM x.view.word≠99) (h7:¬ (sortM x.view.word=108\/sortM x.view.word=115)):x.toN={ x.view with d:=x.d,s:=if x.view.s<0 then x.view.s else x.s,n:=u64 x.num }:=by
 unfold PI.toN PI.toI toI'
 dsimp only
 rw [if_neg h9,if_neg h8,if_neg h7]
theorem toN_mem {x:PI} (h9:sortM x.view.word≠119) (h8:sortM x.view.word≠99) (h7:sortM x.view.word=108\/sortM x.view.word=115):x.toN={ x.view with d:=x.d,s:=if x.view.s<0 then x.view.s else x.s,n:=u64 x.num,jump:=x.jump }:=by
 unfold PI.toN PI.toI toI'
 dsimp only
 rw [if_neg h9,if_neg h8,if_pos h7]
theorem shape_any {x:PI} (h:x.Ok):Shape x x.toN:=by
 have hF:=h.facts
 have hn:=h.needs
 obtain ⟨z1,z2,z3,z4,z5⟩:=hF.z
 have hcall:=hF.call
 rcases hF.kind with ⟨k,hw,hp⟩ | ⟨k,hw,hp⟩ | ⟨k,hw,hp,h0⟩ | ⟨k,hw,hp⟩ | ⟨k,hw,hp,h0,hW⟩ | ⟨k,h0,hW⟩ | ⟨k,hw,hp,h0,hW⟩
 ·have k':sortM x.view.word=114:=k
  have hc:x.o.call=false:=by rw [hcall,k];decide
  have ht:=toN_plain (x:=x) (by rw [k'];decide) (by rw [k'];decide) (by rw [k'];decide)
  refine shape_plain h ⟨by rw [k'];decide,by rw [k'];decide⟩ (by rw [k'];decide) (by rw [ht]) (by rw [ht]) (by rw [ht]) (by rw [ht];exact z5) (by rw [ht]) ?_
  intro hneg
  have hneg:(wordM x.o.code).1.s<0:=hneg
  rcases hp with ⟨_,_,h0⟩ | ⟨_,⟨_,h0⟩ | ⟨hp,h0⟩⟩
  ·omega
  ·omega
  ·rw [need_numsA x.o (x.ins []) hc hp] at hn
   simp only [Bool.and_eq_true,decide_eq_true_eq] at hn
   exact hn.1.2
 ·have k':sortM x.view.word=106:=k
  have hc:x.o.call=false:=by rw [hcall,k];decide
  have ht:=toN_plain (x:=x) (by rw [k'];decide) (by rw [k'];decide) (by rw [k'];decide)
  refine shape_plain h ⟨by rw [k'];decide,by rw [k'];decide⟩ (by rw [k'];decide) (by rw [ht]) (by rw [ht]) (by rw [ht]) (by rw [ht];exact z5) (by rw [ht]) ?_
  intro hneg
  have hneg:(wordM x.o.code).1.s<0:=hneg
  rcases hp with ⟨_,_,h0,_⟩ | ⟨_,⟨_,h0⟩ | ⟨hp,h0⟩,_⟩
  ·omega
  ·omega
  ·rw [need_numsJ x.o (x.ins []) hc hp] at hn
   simp only [Bool.and_eq_true,decide_eq_true_eq] at hn
   exact hn.2
 ·have k':sortM x.view.word=108:=k
  have ht:=toN_mem (x:=x) (by rw [k'];decide) (by rw [k'];decide) (.inl k')
  refine shape_plain h ⟨by rw [k'];decide,by rw [k'];decide⟩ (by rw [k'];decide) (by rw [ht]) (by rw [ht]) (by rw [ht]) (by rw [ht];exact z5) (by rw [ht]) ?_
  intro hneg
  have hneg:(wordM x.o.code).1.s<0:=hneg
  omega
 ·have k':sortM x.view.word=115:=k
  have hc:x.o.call=false:=by rw [hcall,k];decide
  have ht:=toN_mem (x:=x) (by rw [k'];decide) (by rw [k'];decide) (.inr k')
  refine shape_plain h ⟨by rw [k'];decide,by rw [k'];decide⟩ (by rw [k'];decide) (by rw [ht]) (by rw [ht]) (by rw [ht]) (by rw [ht];exact z5) (by rw [ht]) ?_
  intro hneg
  have hneg:(wordM x.o.code).1.s<0:=hneg
  rcases hp with ⟨_,h0⟩ | ⟨hp,h0⟩
  ·omega
  ·rw [need_numbers x.o (x.ins []) hc hp] at hn
   simp only [Bool.and_eq_true,decide_eq_true_eq] at hn
   exact hn.2
 ·exact shape_wide h hW h0 z5 (by rw [hcall,k];decide) hp
 ·exact shape_call h hW h0 z5 (by rw [hcall,k];decide)
 ·have k':sortM x.view.word=101:=k
  have ht:=toN_plain (x:=x) (by rw [k'];decide) (by rw [k'];decide) (by rw [k'];decide)
  refine shape_plain h ⟨by rw [k'];decide,by rw [k'];decide⟩ (by rw [k'];decide) (by rw [ht]) (by rw [ht]) (by rw [ht]) (by rw [ht];exact z5) (by rw [ht]) ?_
  intro hneg
  have hneg:(wordM x.o.code).1.s<0:=hneg
  omega
theorem shape_lbl {x:PI} (h:x.Ok) (p:Nat):Shape x (lblI p x):=by
 have hs:=shape_any h
 by_cases hj:x.o.jumps=true
 ·have hw:=((h.word (nmOf x)).2.2).2 hj
  have hH:x.toN.word≠HELP:=fun e=>by
   have:sortM x.toN.word=106:=hw
   rw [e,sort_facts.2.2.1] at this
   exact absurd this (by decide)
  have el:lblI p x={ x.toN with label:=labName (x.target p) }:=by unfold lblI;rw [if_pos hj]
  have en:∀ n,codeN (lblI p x) n=codeN x.toN n:=fun n=>by
   rw [el];unfold codeN
   simp only
   rw [if_neg hH,if_neg hH]
  refine ⟨?_,?_,?_,?_⟩
  ·rw [<- hs.op];exact opM_congr (lblI_word p x) (lblI_32 p x) (by rw [lblI_s])
  ·rw [<- hs.s];unfold codeS;rw [lblI_name,lblI_s,lblI_word]
  ·intro n num h1 h2;rw [en,lblI_word];exact hs.n n num h1 h2
  ·rw [lblI_word];exact hs.w
 ·have el:lblI p x=x.toN:=by unfold lblI;rw [if_neg hj]
  rw [el];exact hs
theorem jump_eq {x:PI} (h:x.Ok) (p:Nat) (lab:Labs) (hf:x.o.jumps=true->labelM (labName (x.target p)) lab=x.target p):jumpM lab (lblI p x) p=x.jump:=by
 have hF:=h.facts
 have hn:=h.needs
 obtain ⟨z1,z2,z3,z4,z5⟩:=hF.z
 have hcall:=hF.call
 unfold jumpM;rw [lblI_word]
 by_cases hj:x.o.jumps=true
 ·have hw:sortM x.toN.word=106:=((h.word (nmOf x)).2.2).2 hj
  have hsl:slotsI x.toN.word=x.o.slots:=(h.word (nmOf x)).1
  rw [if_pos hw,hsl]
  have el:(lblI p x).label=labName (x.target p):=by unfold lblI;rw [if_pos hj]
  rw [el,hf hj];unfold PI.target
  omega
 ·have hw:¬ sortM x.toN.word=106:=fun e=>hj (((h.word (nmOf x)).2.2).1 e)
  rw [if_neg hw]
  have el:(lblI p x).jump=x.toN.jump:=by unfold lblI;rw [if_neg hj]
  rw [el]
  rcases hF.kind with ⟨k,hw',hp⟩ | ⟨k,hw',hp⟩ | ⟨k,hw',hp,h0⟩ | ⟨k,hw',hp⟩ | ⟨k,hw',hp,h0,hW⟩ | ⟨k,h0,hW⟩ | ⟨k,hw',hp,h0,hW⟩
  ·have k':sortM x.view.word=114:=k
   have hc:x.o.call=false:=by rw [hcall,k];decide
   rw [toN_plain (x:=x) (by rw [k'];decide) (by rw [k'];decide) (by rw [k'];decide)]
   show x.view.jump=x.jump
   rw [show x.view.jump=0 from z2]
   rcases hp with ⟨_,hp,_⟩ | ⟨_,⟨hp,_⟩ | ⟨hp,_⟩⟩
   ·rw [need_neg x.o (x.ins []) hc hp] at hn
    simp only [Bool.and_eq_true,decide_eq_true_eq] at hn
    exact hn.1.2.symm
   ·rw [need_regsA x.o (x.ins []) hc hp] at hn
    simp only [Bool.and_eq_true,decide_eq_true_eq] at hn
    exact hn.1.2.symm
   ·rw [need_numsA x.o (x.ins []) hc hp] at hn
    simp only [Bool.and_eq_true,decide_eq_true_eq] at hn
    exact hn.2.symm
  ·exact absurd (show x.o.jumps=true by rw [hF.jumps,k];decide) hj
  ·have k':sortM x.view.word=108:=k
   rw [toN_mem (x:=x) (by rw [k'];decide) (by rw [k'];decide) (.inl k')]
  ·have k':sortM x.view.word=115:=k
   rw [toN_mem (x:=x) (by rw [k'];decide) (by rw [k'];decide) (.inr k')]
  ·have hc:x.o.call=false:=by rw [hcall,k];decide
   have k':sortM x.view.word=119:=k
   have e:x.toN.jump=x.view.jump:=by
    unfold PI.toN PI.toI toI'
    dsimp only
    rw [if_pos k']
    split<;>rfl
   rw [e,show x.view.jump=0 from z2]
   rw [need_wide x.o (x.ins []) hc hp] at hn
   simp only [Bool.and_eq_true,decide_eq_true_eq] at hn
   exact hn.2.symm
  ·have hc:x.o.call=true:=by rw [hcall,k];decide
   have k':sortM x.view.word=99:=k
   have e:x.toN.jump=x.view.jump:=by
    unfold PI.toN PI.toI toI'
    dsimp only
    rw [if_neg (by rw [k'];decide),if_pos k']
    split<;>rfl
   rw [e,show x.view.jump=0 from z2]
   rw [need_call x.o (x.ins []) hc] at hn
   simp only [Bool.and_eq_true,decide_eq_true_eq] at hn
   exact hn.1.2.symm
  ·have hc:x.o.call=false:=by rw [hcall,k];decide
   have k':sortM x.view.word=101:=k
   rw [toN_plain (x:=x) (by rw [k'];decide) (by rw [k'];decide) (by rw [k'];decide)]
   show x.view.jump=x.jump
   rw [show x.view.jump=0 from z2]
   rw [need_exit x.o (x.ins []) hc hp] at hn
   simp only [Bool.and_eq_true,decide_eq_true_eq] at hn
   exact hn.1.2.symm
theorem ins_eq {x:PI} (h:x.Ok) (p:Nat) (lab:Labs) (hf:x.o.jumps=true->labelM (labName (x.target p)) lab=x.target p) (n num:Int) (hnum:num=if x.refers≠0 then n else x.num) (hr:x.refers≠0->0<=n/\n<4294967296) :
  codeW (lblI p x) (jumpM lab (lblI p x) p) n=slotU x.o.code x.d x.s x.jump num x.high x.o.slots:=by
 have hs:=shape_lbl h p
 have hc:=code_small x.k h.k
 obtain ⟨h1,h2⟩:=hs.n n num hnum hr;unfold codeW slotU;rw [jump_eq h p lab hf,hs.op,hs.s,lblI_d,h1]
 have e0:((x.o.code:Int)) % 256=x.o.code:=by
  have:x.o.code<=255:=hc
  omega
 rw [e0]
 have e1:b8 [(x.o.code:Int),(x.d:Int)+16*(x.s:Int),x.jump % 256,x.jump / 256 % 256]=b8 [(x.o.code:Int),(x.d:Int)+16*(x.s:Int)]++b8 (twoL x.jump):=rfl
 rw [e1]
 by_cases hw:(lblI p x).word=WIDE
 ·rw [if_pos hw,if_neg (hs.w.1 hw),h2 hw]
 ·have:x.o.slots=1:=by
   by_cases e:x.o.slots=1
   ·exact e
   ·exact absurd (hs.w.2 e) hw
  rw [if_neg hw,if_pos this]
def pmapU (m:PMap):List UInt8:=namedU (T m.name)++b8 [(m.key:Int),(m.value:Int),(m.entries:Int)]
def pheadU (f:PFn):List UInt8:=namedU (T f.name)++b8 (twoL (slotsP f.code))
def pslotU (x:PI):List UInt8:=slotU x.o.code x.d x.s x.jump x.num x.high x.o.slots
def pcodeU (f:PFn):List UInt8:=f.code.flatMap pslotU
def encU (kind:Nat) (ms:List PMap) (fs:List PFn):List UInt8 :=
 [83,80,79,76]++b8 [(kind:Int),(ms.length:Int)]++ms.flatMap pmapU++b8 [(fs.length:Int)]++fs.flatMap pheadU++fs.flatMap pcodeU
structure EI (w:World) (v:Value) (l:List UInt8) (w':World):Prop where
 out:Out w' v l
 md:Mods Nil' w w'
 own:∀ k,v.ownBlock=some k->w.heap.size<=k
theorem EI.step {w w1 w2:World} {v v':Value} {l l':List UInt8} (h:EI w v l w1) (o:Out w2 v' l') (m:Mods (fun k=>v.ownBlock=some k) w1 w2) (hv:∀ k,v'.ownBlock=some k->v.ownBlock=some k\/w1.heap.size<=k):EI w v' l' w2 :=
 ⟨o,h.md.step m (fun i hi e=>by have:=h.own i e;omega),fun k hk=>by
  rcases hv k hk with e | e
  ·exact h.own k e
  ·have:=h.md.size;omega⟩
theorem EI.quiet {w w1 w2:World} {v:Value} {l:List UInt8} (h:EI w v l w1) (m:Mods Nil' w1 w2):EI w v l w2 :=
 ⟨h.out.quiet m,h.md.trans m,h.own⟩
structure PPr (w:World) (tv:Value) (bs:List Nat) (vM vF:Value) (ms:List PMap) (fs:List PFn) (vs:List Value):Prop where
 maps:Sl w 88 4 vM ms.length (ms.flatMap PMap.cells)
 len:vs.length=fs.length
 rows:Sl w 94 2 vF fs.length (((fs.map (·.name)).zip vs).flatMap fnC)
 code:∀ i (_:i<fs.length) (_:i<vs.length),Sl w 99 8 vs[i] fs[i].code.length (codeC bs fs[i].code)
 ops:OpsIn 0 w tv bs tableS
theorem PPr.quiet {w w':World} {tv:Value} {bs:List Nat} {vM vF:Value} {ms:List PMap} {fs:List PFn} {vs:List Value} (h:PPr w tv bs vM vF ms fs vs) (m:Mods Nil' w w'):PPr w' tv bs vM vF ms fs vs :=
 ⟨h.maps.mods m (fun _ _=>id),h.len,h.rows.mods m (fun _ _=>id),fun i a b=>(h.code i a b).mods m (fun _ _=>id),h.ops.mods m⟩
theorem PPr.atM {w:World} {tv:Value} {bs:List Nat} {oM:Option Addr} {cM:Nat} {vF:Value} {ms:List PMap} {fs:List PFn} {vs:List Value} (h:PPr w tv bs (.slice oM ms.length cM) vF ms fs vs) (k:Nat) (hk:k<ms.length) :
  ∃ g,oM=some ⟨g,0,none⟩/\w.cell? ⟨g,k*4,none⟩=some (.string (T ms[k].name))/\w.cell? ⟨g,k*4+1,none⟩=some (.int .u8 ms[k].key)/\w.cell? ⟨g,k*4+2,none⟩=some (.int .u8 ms[k].value)/\w.cell? ⟨g,k*4+3,none⟩=some (.int .u8 ms[k].entries):=by
 obtain ⟨o',cap',hv,h2⟩:=h.maps.view
 cases hv
 obtain ⟨g,cs,rfl,hb,ht,_⟩:=h2 (by omega)
 have key:∀ c,c<4->w.cell? ⟨g,k*4+c,none⟩=(PMap.cells ms[k])[c]?:=fun c hc=>by
  rw [take_cell hb ht (k*4+c) (by omega)]
  exact flat_get PMap.cells 4 (fun _=>rfl) ms k c hk hc
 exact ⟨g,rfl,key 0 (by omega),key 1 (by omega),key 2 (by omega),key 3 (by omega)⟩
theorem PPr.atF {w:World} {tv:Value} {bs:List Nat} {oF:Option Addr} {cF:Nat} {vM:Value} {ms:List PMap} {fs:List PFn} {vs:List Value} (h:PPr w tv bs vM (.slice oF fs.length cF) ms fs vs) (k:Nat) (hk:k<fs.length) (hv':k<vs.length) :
  ∃ g,oF=some ⟨g,0,none⟩/\w.cell? ⟨g,k*2,none⟩=some (.string (T fs[k].name))/\w.cell? ⟨g,k*2+1,none⟩=some vs[k]:=by
 obtain ⟨o',cap',hv,h2⟩:=h.rows.view
 cases hv
 obtain ⟨g,cs,rfl,hb,ht,_⟩:=h2 (by omega)
 have hz:k<((fs.map (·.name)).zip vs).length:=by simp only [List.length_zip,List.length_map];omega
 have key:∀ c,c<2->w.cell? ⟨g,k*2+c,none⟩=(fnC (fs[k].name,vs[k]))[c]?:=fun c hc=>by
  rw [take_cell hb ht (k*2+c) (by omega)]
  have:=flat_get fnC 2 (fun _=>rfl) ((fs.map (·.name)).zip vs) k c hz hc
  rw [this,List.getElem_zip,List.getElem_map]
 exact ⟨g,rfl,key 0 (by omega),key 1 (by omega)⟩
theorem slotU_len (code d s:Nat) (j n h:Int) (slots:Nat):(slotU code d s j n h slots).length<=16:=by
 unfold slotU
 split<;>simp [b8,fourL]
theorem wpList_append_grow {P:Program} (w:World) {ops:Array Oper} {rest:List Oper} {o:Oper} {a:Act} {Q:Exit->Act->World->Prop} (hgd:o.guard=none) (s x:Operand) (t:TypeId)
  (ho:o.op=.call { callee:=.builtin .append,args:=#[s,x],argTypes:=#[t,t] })
  (e:TypeId) (i:TypeInfo) (z:Value) (size bytes:Nat) (ht:P.underlying t=some (.slice e)) (hi:P.info? e=some i) (hz:i.zero=some z)
  (hsize:i.size=size) (hby:i.bytes=bytes) (hzs:z.cells.size=size) (hsz:0<size)
  (b:Addr) (n cap:Nat) (olds:List Value) (hs:a.eval s=.slice (some b) n cap) (hlo:olds.length=n*size) (holds:∀ j u,olds[j]?=some u->w.cell? (b.add j)=some u)
  (ad:Addr) (m c:Nat) (news:List Value) (hx:a.eval x=.slice (some ad) m c) (hl:news.length=m*size) (hnews:∀ j u,news[j]?=some u->w.cell? (ad.add j)=some u)
  (hg:cap<n+m) (h63:n+m<=maxLen) (hbytes:(n+m)*bytes<=140737488355328)
  (h:∀ v' w',Sl w' e size v' (n+m) (olds++news)->Mods Nil' w w'->(∀ k,v'.ownBlock=some k->w.heap.size<=k)->wpList P ops Q rest (a.put o.dst v') w'):wpList P ops Q (o::rest) a w:=by
 refine wpList_plain hgd fun _ hK=>?_
 obtain ⟨v',w',hr,h2,h3⟩:=run_append_arg_grows (P:=P) w t o.type e i z size bytes ht hi hz hsize hby hzs hsz b n cap olds hlo holds ad m c news hl hnews hg h63 hbytes
 unfold Oper.wp execOp
 simp only [ho,resolve,invoke,builtin,Sem.run_bind,Sem.run_pure,Result.andThen_ok,List.map_toArray,List.map_cons,List.map_nil,hs,hx,hr]
 refine hK _ _ (h v' w' ⟨h2.1,?_⟩ ⟨h3.os,h3.tape,h3.output,h3.size,fun k hk _=>h3.block k hk (by simp)⟩ (fun k hk=>(World.ownsRow.lt h2 k hk).1))
 rcases h2.2 with h | ⟨g,cp,cur,h4,_,h5⟩
 ·exact .inl h
 ·exact .inr ⟨g,cp,cur,h4,Nat.zero_le _,h5⟩
theorem lit_cell (w:World) (o o2:Obj) (C:Array Value) (e:TypeId) (m:Nat × Nat) (j:Nat):(((w.alloc o).alloc (.cells C e m)).alloc o2).cell? ⟨w.heap.size+1,j,none⟩=C[j]?:=by
 have h:(((w.alloc o).alloc (.cells C e m)).alloc o2).heap[w.heap.size+1]?=some (.cells C e m):=by
  show (((w.heap.push o).push (.cells C e m)).push o2)[w.heap.size+1]?=_
  rw [Array.getElem?_push,if_neg (by simp),Array.getElem?_push,if_pos (by simp)]
 unfold World.cell?
 simp only [h]
 rfl
structure CapC (w W:World) (B:Nat) (cs:Array Value) (t:TypeId) (a b:Nat) (u:Value) (l:List UInt8) (L:Nat->Bool) (w':World):Prop where
 md:Mods Nil' w w'
 bx:Blk w' B cs t
 sz:W.heap.size<=w'.heap.size
 ei:L a=false->L b=false->EI w u l w'
structure CapN (w:World) (B:Nat) (cs:Array Value) (t:TypeId) (a b:Nat) (u:Value) (i:Nat) (w1 w2:World):Prop where
 q:i≠a->i≠b->Mods Nil' w1 w2
 na:i=a->Mods (fun k=>u.ownBlock=some k) w1 w2
 nb:i=b->Mods Nil' w w2/\Blk w2 B cs t/\w1.heap.size<=w2.heap.size
theorem CapN.quiet {w w1 w2:World} {B:Nat} {cs:Array Value} {t:TypeId} {a b i:Nat} {u:Value} (m:Mods Nil' w1 w2) (ha:i≠a) (hb:i≠b):CapN w B cs t a b u i w1 w2 :=
 ⟨fun _ _=>m,fun e=>absurd e ha,fun e=>absurd e hb⟩
theorem CapN.keep {w W:World} {B:Nat} {cs:Array Value} {t:TypeId} {a b:Nat} {u:Value} {l:List UInt8} {md:Region.Mode} {ops:Array Oper} (hu:∀ k,u.ownBlock=some k->w.heap.size<=k) (hB:u.ownBlock≠some B) (hab:a≠b) :
  ∀ (i:Nat) (L:Nat->Bool) w1 w2,NowT md ops i L->CapC w W B cs t a b u l L w1->CapN w B cs t a b u i w1 w2->CapC w W B cs t a b u l (updL L i) w2:=by
 intro i L w1 w2 _ c n
 by_cases ea:i=a
 ·have m:=n.na ea
  subst ea
  exact ⟨c.md.step m (fun k hk e=>by have:=hu k e;omega),c.bx.mods m hB,Nat.le_trans c.sz m.size,fun h=>by simp [updL] at h⟩
 ·by_cases eb:i=b
  ·obtain ⟨m,bx,sz⟩:=n.nb eb;subst eb
   exact ⟨m,bx,Nat.le_trans c.sz sz,fun _ h=>by simp [updL] at h⟩
  ·have m:=n.q ea eb
   refine ⟨c.md.trans m,c.bx.mods m id,Nat.le_trans c.sz m.size,fun h1 h2=>(c.ei ?_ ?_).quiet m⟩
   ·simpa [updL,Ne.symm ea] using h1
   ·simpa [updL,Ne.symm eb] using h2
def capA (w:World) (b:Nat) (l:List UInt8) (L:Nat->Bool) (v:Value) (w':World):Prop:=L b=false->EI w v l w'
def capB (W:World) (b n:Nat) (cs:Array Value) (L:Nat->Bool) (v:Value) (w':World):Prop:=L b=false->∃ g,v=.slice (some ⟨g,0,none⟩) n n/\W.heap.size<=g/\Blk w' g cs 5
def capE (w:World) (l:List UInt8) (_:Nat->Bool) (v:Value) (w':World):Prop:=EI w v l w'
section
variable {w W : World} {B : Nat} {cs : Array Value} {t : TypeId} {a b : Nat} {u : Value} {l : List UInt8} {md : Region.Mode} {ops : Array Oper}
theorem capA_st (hab:a≠b):∀ (i:Nat) (L:Nat->Bool) v w1 w2,NowT md ops i L->L a=true->CapN w B cs t a b u i w1 w2->capA w b l L v w1->capA w b l (updL L i) v w2:=by
 intro i L v w1 w2 hn ha n h hb
 have eb:i≠b:=fun e=>by subst e;simp [updL] at hb
 have ea:i≠a:=fun e=>by subst e;rw [hn.1] at ha;cases ha
 have hb':L b=false:=by simpa [updL,Ne.symm eb] using hb
 exact (h hb').quiet (n.q ea eb)
theorem capB_st {c n:Nat} {ds:Array Value} (hu:∀ k,u.ownBlock=some k->k<W.heap.size):∀ (i:Nat) (L:Nat->Bool) v w1 w2,NowT md ops i L->L c=true->CapN w B cs t a b u i w1 w2->capB W b n ds L v w1->capB W b n ds (updL L i) v w2:=by
 intro i L v w1 w2 _ _ hn h hb
 have eb:i≠b:=fun e=>by subst e;simp [updL] at hb
 have hb':L b=false:=by simpa [updL,Ne.symm eb] using hb
 obtain ⟨g,h1,h2,h3⟩:=h hb'
 by_cases ea:i=a
 ·exact ⟨g,h1,h2,h3.mods (hn.na ea) (fun e=>by have:=hu g e;omega)⟩
 ·exact ⟨g,h1,h2,h3.mods (hn.q ea eb) id⟩
theorem capE_st {c:Nat} (h1:∃ o,ops[c]?=some o/\(depsOf md o).contains a=true/\(c=b\/(depsOf md o).contains b=true)):∀ (i:Nat) (L:Nat->Bool) v w1 w2,NowT md ops i L->L c=true->CapN w B cs t a b u i w1 w2->capE w l L v w1->capE w l (updL L i) v w2:=by
 intro i L v w1 w2 hn hc n h;obtain ⟨o,ho,da,db⟩:=h1
 have ea:i≠a:=fun e=>by subst e;have:=hn.2 c o ho da;rw [hc] at this;cases this
 have eb:i≠b:=fun e=>by
  subst e
  rcases db with e | e
  ·subst e;have:=hn.1;rw [hc] at this;cases this
  ·have:=hn.2 c o ho e;rw [hc] at this;cases this
 exact EI.quiet h (n.q ea eb)
end
theorem code_le:∀ k,k<88->(tableS[k]?.getD noOp).code<=255:=by decide +kernel
structure EOk (ms:List PMap) (fs:List PFn):Prop where
 m:ms.length<=255
 f:fs.length<=100
 mn:∀ m∈ms,m.name.length<=255/\m.key<=255/\m.value<=255/\m.entries<=255
 fn:∀ f∈fs,f.name.length<=255/\f.code.length<=200/\∀ x∈f.code,PIok x
set_option maxRecDepth 100000 in
set_option maxHeartbeats 2000000 in
theorem enc_any (kind:Nat) (hk:kind<=255) (w:World) (tv:Value) (bs:List Nat) (vM vF:Value) (ms:List PMap) (fs:List PFn) (vs:List Value) (hP:PPr w tv bs vM vF ms fs vs) (hE:EOk ms fs) :
  Calls Tryz.prog 47 #[.int .u8 kind,.agg #[vM,vF]] w fun e w'=>∃ v,e=.returned v/\EI w v (encU kind ms fs) w':=by
 obtain ⟨iU,hiU,hzU,hsU,hbU⟩:=info_u8_parts;obtain ⟨oM,cM,hvM,_⟩:=hP.maps.view;obtain ⟨oF,cF,hvF,_⟩:=hP.rows.view;subst hvM hvF
 have hml:=hE.m
 have hfl:=hE.f
 have HP:=hid hP;have HE:=hid hE;clear hP hE
 have kc:=Lib.run_convert_bytes_const (P:=Tryz.prog) (w.alloc (.cells #[.slice oM ms.length cM,.slice oF fs.length cF] 63)) 52 5 #[.int .u8 83,.int .u8 80,.int .u8 79,.int .u8 76] 4 4 Tryz.underlying52 Tryz.underlying5
 rw [show (w.alloc (.cells #[.slice oM ms.length cM,.slice oF fs.length cF] 63)).heap.size=w.heap.size+1 by simp] at kc
 go_enter Tryz.func47,Tryz.ntmps47
 have HOL:Hid (∀ (o2:Obj) (j:Nat) (u:Value),([.int .u8 83,.int .u8 80,.int .u8 79,.int .u8 76]:List Value)[j]?=some u->(((w.alloc (.cells #[.slice oM ms.length cM,.slice oF fs.length cF] 63)).alloc (.cells #[.int .u8 83,.int .u8 80,.int .u8 79,.int .u8 76] 5 (4,5))).alloc o2).cell? ((⟨w.heap.size+1,0,none⟩:Addr).add j)=some u):=by
  intro o2 j u hu
  have hadd:(⟨w.heap.size+1,0,none⟩:Addr).add j=⟨w.heap.size+1,j,none⟩:=by unfold Addr.add;split<;>simp_all
  rw [hadd,lit_cell]
  simpa using hu
 go_wp2_with (at_builtin;refine wpList_append_grow _ rfl (.tmp 15) (.tmp 21) 52 rfl 5 iU (.int .u8 0) 1 1 Tryz.underlying52 hiU hzU hsU hbU rfl (by decide) ⟨w.heap.size+1,0,none⟩ 4 4 [.int .u8 83,.int .u8 80,.int .u8 79,.int .u8 76] rfl rfl (HOL.out _) ⟨w.heap.size+1+1,0,none⟩ 2 2 ([(kind:Int),(ms.length:Int)].map (Value.int .u8)) rfl rfl (news_cells _ _ _ _ (by simp)) (by decide) (by decide) (by decide) ?_;intro v2 w2 s2 m2 l2;have B2:Hid (Blk w2 w.heap.size #[.slice oM ms.length cM,.slice oF fs.length cF] 63):=Blk.mods (((Blk.new w _ _).alloc _).alloc _) m2 id;have q0:w2.cell? ⟨w.heap.size,0,none⟩=some (.slice oM ms.length cM):=B2.out.cell 0)
 obtain ⟨wB,hwB⟩:∃ wB,wB=w.alloc (.cells #[.slice oM ms.length cM,.slice oF fs.length cF] 63):=⟨_,rfl⟩
 have HMB:Hid (Mods Nil' w wB):=by rw [hwB];exact (Mods.refl _ _).alloc _
 have HBB:Hid (Blk wB w.heap.size #[.slice oM ms.length cM,.slice oF fs.length cF] 63):=by rw [hwB];exact Blk.new _ _ _
 have HPB:Hid (PPr wB tv bs (.slice oM ms.length cM) (.slice oF fs.length cF) ms fs vs):=HP.out.quiet HMB.out
 have HI0:Hid (EI wB v2 ([83,80,79,76]++b8 [(kind:Int),(ms.length:Int)]) w2):=by
  rw [<- hwB] at m2 l2
  have M0:Mods Nil' wB ((wB.alloc (.cells #[.int .u8 83,.int .u8 80,.int .u8 79,.int .u8 76] 5 (4,5))).alloc (.cells #[.int .u8 kind,.int .u8 ms.length] 5)):=((Mods.refl _ _).alloc _).alloc _
  refine ⟨?_,M0.trans m2,fun k hk=>Nat.le_trans M0.size (l2 k hk)⟩
  exact Out.app (l:=[83,80,79,76]) (fun x hx=>by simp at hx;rcases hx with rfl | rfl<;>omega) rfl s2
 clear s2 m2 l2 kc HOL hwB HP
 have HO0:Hid (∀ x:Value,x=v2->True):=fun _ _=>trivial
 go_loopg [5,26] ms.length (fun g ov iv wx=>∃ (k:Nat) (l:List UInt8),iv=.int .i64 k/\EI wB ov l wx/\l++(ms.drop k).flatMap pmapU=[83,80,79,76]++b8 [(kind:Int),(ms.length:Int)]++ms.flatMap pmapU/\l.length<=6+k*260/\k<=ms.length/\g=ms.length - k)
 case atStart=>exact ⟨0,_,rfl,HI0.out,rfl,by simp [b8],Nat.zero_le _,rfl⟩
 case round =>
  obtain ⟨k,l,rfl,hI,HR0,hll,hkm,rfl⟩:=hrel;have HR:=hid HR0;have HI:=hid hI;clear HR0 q0
  have hPr:=HPB.out.quiet hI.md
  by_cases hkl:k<ms.length
  ·obtain ⟨gM,rfl,c0,c1,c2,c3⟩:=hPr.atM k hkl
   have hok:=HE.out.mn ms[k] (List.getElem_mem hkl)
   have HD:Hid (l++pmapU ms[k]++(ms.drop (k+1)).flatMap pmapU=[83,80,79,76]++b8 [(kind:Int),(ms.length:Int)]++ms.flatMap pmapU):=by
    rw [Hid,<- HR.out,List.drop_eq_getElem_cons hkl,List.flatMap_cons,List.append_assoc]
   clear hPr hI HR;generalize ms[k]=m at *;obtain ⟨nm,ky,vl,en⟩:=m;simp only at *;obtain ⟨o1,o2,o3,o4⟩:=hok;go_upto_region 5 with fail
   have hIW:EI wB u5 l (wr.alloc (.cells #[.string (T nm),.int .u8 ky,.int .u8 vl,.int .u8 en] 88)):=HI.out.quiet ((Mods.refl _ _).alloc _)
   have hbx:=Blk.new wr #[.string (T nm),.int .u8 ky,.int .u8 vl,.int .u8 en] 88
   have hsz:wr.heap.size<(wr.alloc (.cells #[.string (T nm),.int .u8 ky,.int .u8 vl,.int .u8 en] 88)).heap.size:=hbx.lt
   generalize wr.alloc (.cells #[.string (T nm),.int .u8 ky,.int .u8 vl,.int .u8 en] 88)=W at *;generalize wr.heap.size=B at *;have HIW:=hid hIW
   have HNB:Hid (u5.ownBlock≠some B):=hIW.out.notBlk hbx (by decide)
   have HLT:Hid (∀ k,u5.ownBlock=some k->k<W.heap.size):=fun k hk=>hIW.out.lt k hk
   have HBX:=hid hbx
   have hts:(T nm).size<=255:=by rw [T_size];exact o1
   have HLL:=hid hll;clear hIW hbx c0 c1 c2 c3 hsz hll HI
   refine wp_region_invL [.inl u5,.inl (.pointer (some ⟨B,0,none⟩)),.inl (.string (T nm)),.inr (capA wB 11 (l++namedU (T nm))),.inl (.pointer (some ⟨B,1,none⟩)),.inl (.int .u8 ky),.inl (.pointer (some ⟨B,2,none⟩)),.inl (.int .u8 vl),.inl (.pointer (some ⟨B,3,none⟩)),.inl (.int .u8 en),
     .inr (capB W 11 3 #[.int .u8 ky,.int .u8 vl,.int .u8 en]),.inr (capE wB (l++namedU (T nm)++b8 [(ky:Int),(vl:Int),(en:Int)])),.inr (capE wB (l++namedU (T nm)++b8 [(ky:Int),(vl:Int),(en:Int)]))]
    (CapC wB W B #[.string (T nm),.int .u8 ky,.int .u8 vl,.int .u8 en] 88 3 11 u5 l) (CapN wB B #[.string (T nm),.int .u8 ky,.int .u8 vl,.int .u8 en] 88 3 11 u5) (by kernel_rfl) (by kernel_rfl) (by kernel_rfl)
    ⟨HIW.out.md.drew,HBX.out.drew,Nat.le_refl _,fun _ _=>HIW.out.quiet ((Mods.refl _ _).drew)⟩ ?_ (CapN.keep HIW.out.own HNB.out (by decide)) (.inl (by kernel_rfl)) ?_
   ·intro j s hs i L v w1 w2 hn hj n hr
    refine stableT_of (show StableT _ _ _ 0 _ from ?_) j s hs i L v w1 w2 hn (by rw [Nat.zero_add];exact hj) n hr
    exact ⟨capA_st (by decide),capB_st HLT.out,capE_st ⟨_,rfl,by decide,.inl rfl⟩,capE_st ⟨_,rfl,by decide,.inr (by decide)⟩,trivial⟩
   refine invT_det rfl (fun L w' hN hC _ K hK=>?_) ?_
   ·go_big_op
    exact hK _ _ _ rfl (.quiet (Mods.refl _ _) (by decide) (by decide)) rfl
   simp only [Act.put,List.setIfInBounds_toArray,List.set_cons_succ,List.set_cons_zero]
   refine invT_det rfl (fun L w' hN hC _ K hK=>?_) ?_
   ·go_big_op
    exact hK _ _ _ rfl (.quiet (Mods.refl _ _) (by decide) (by decide)) rfl
   simp only [Act.put,List.setIfInBounds_toArray,List.set_cons_succ,List.set_cons_zero]
   refine invT_det rfl (fun L w' hN hC _ K hK=>?_) ?_
   ·have e1:w'.cell? ⟨B,0,none⟩=some (.string (T nm)):=hC.bx.cell 0
    go_big_op
    exact hK _ _ _ rfl (.quiet (Mods.refl _ _) (by decide) (by decide)) rfl
   simp only [Act.put,List.setIfInBounds_toArray,List.set_cons_succ,List.set_cons_zero]
   refine invT_any rfl (fun L w' hN hC _ K hK=>?_) (fun x3=>?_)
   ·have h11:L 11=false:=hN.2 11 _ rfl (by decide)
    have hei:=hC.ei hN.1 h11
    go_big_op
    refine (aName_any w' u5 l hei.out (by have:=HLL.out;omega) (T nm) hts).mono ?_
    rintro e w2' ⟨v3,rfl,s3,m3,l3⟩
    exact hK _ _ _ rfl ⟨fun h=>absurd rfl h,fun _=>m3,fun h=>absurd h (by decide)⟩ (fun _=>hei.step s3 m3 l3)
   simp only [Act.put,List.setIfInBounds_toArray,List.set_cons_succ,List.set_cons_zero]
   refine invT_det rfl (fun L w' hN hC _ K hK=>?_) ?_
   ·go_big_op
    exact hK _ _ _ rfl (.quiet (Mods.refl _ _) (by decide) (by decide)) rfl
   simp only [Act.put,List.setIfInBounds_toArray,List.set_cons_succ,List.set_cons_zero]
   refine invT_det rfl (fun L w' hN hC _ K hK=>?_) ?_
   ·have e1:w'.cell? ⟨B,1,none⟩=some (.int .u8 ky):=hC.bx.cell 1
    go_big_op
    exact hK _ _ _ rfl (.quiet (Mods.refl _ _) (by decide) (by decide)) rfl
   simp only [Act.put,List.setIfInBounds_toArray,List.set_cons_succ,List.set_cons_zero]
   refine invT_det rfl (fun L w' hN hC _ K hK=>?_) ?_
   ·go_big_op
    exact hK _ _ _ rfl (.quiet (Mods.refl _ _) (by decide) (by decide)) rfl
   simp only [Act.put,List.setIfInBounds_toArray,List.set_cons_succ,List.set_cons_zero]
   refine invT_det rfl (fun L w' hN hC _ K hK=>?_) ?_
   ·have e1:w'.cell? ⟨B,2,none⟩=some (.int .u8 vl):=hC.bx.cell 2
    go_big_op
    exact hK _ _ _ rfl (.quiet (Mods.refl _ _) (by decide) (by decide)) rfl
   simp only [Act.put,List.setIfInBounds_toArray,List.set_cons_succ,List.set_cons_zero]
   refine invT_det rfl (fun L w' hN hC _ K hK=>?_) ?_
   ·go_big_op
    exact hK _ _ _ rfl (.quiet (Mods.refl _ _) (by decide) (by decide)) rfl
   simp only [Act.put,List.setIfInBounds_toArray,List.set_cons_succ,List.set_cons_zero]
   refine invT_det rfl (fun L w' hN hC _ K hK=>?_) ?_
   ·have e1:w'.cell? ⟨B,3,none⟩=some (.int .u8 en):=hC.bx.cell 3
    go_big_op
    exact hK _ _ _ rfl (.quiet (Mods.refl _ _) (by decide) (by decide)) rfl
   simp only [Act.put,List.setIfInBounds_toArray,List.set_cons_succ,List.set_cons_zero]
   refine invT_any rfl (fun L w' hN hC _ K hK=>?_) (fun x10=>?_)
   ·go_big_op
    exact hK _ _ _ rfl (.quiet ((Mods.refl _ _).alloc _) (by decide) (by decide)) (fun _=>⟨_,rfl,hC.sz,Blk.new _ _ _⟩)
   simp only [Act.put,List.setIfInBounds_toArray,List.set_cons_succ,List.set_cons_zero]
   refine invT_any rfl (fun L w' hN hC hk K hK=>?_) (fun x11=>?_)
   ·have f3:capA wB 11 (l++namedU (T nm)) L x3 w':=knownT_mem hk 3 (by decide)
    have f10:capB W 11 3 #[.int .u8 ky,.int .u8 vl,.int .u8 en] L x10 w':=knownT_mem hk 10 (by decide)
    have hei:=f3 hN.1
    obtain ⟨g,rfl,hgW,hg⟩:=f10 hN.1
    refine wp_append_sl _ (.tmp 33) (.tmp 40) 52 rfl 5 iU (.int .u8 0) 1 1 Tryz.underlying52 hiU hzU hsU hbU rfl (by decide) x3 _ _ rfl hei.out ⟨g,0,none⟩ 3 3 ([(ky:Int),(vl:Int),(en:Int)].map (Value.int .u8)) rfl rfl ?_ (u8_one _) ?_ ?_ ?_
    ·intro j u hu
     have hadd:(⟨g,0,none⟩:Addr).add j=⟨g,j,none⟩:=by unfold Addr.add;split<;>simp_all
     rw [hadd,hg.cell j]
     simpa using hu
    ·have:=HLL.out
     rw [List.length_append,namedU_len]
     unfold maxLen;omega
    ·have:=HLL.out
     rw [List.length_append,namedU_len]
     omega
    ·intro v4 w4 s4 m4 l4
     have hE4:EI wB v4 (l++namedU (T nm)++b8 [(ky:Int),(vl:Int),(en:Int)]) w4:=hei.step (Out.app (fun x hx=>by simp at hx;rcases hx with rfl | rfl | rfl<;>omega) rfl s4) m4 l4
     exact hK _ _ _ rfl ⟨fun _ h=>absurd rfl h,fun h=>absurd h (by decide),fun _=>⟨hE4.md,hC.bx.mods m4 (hei.out.notBlk hC.bx (by decide)),m4.size⟩⟩ hE4
   simp only [Act.put,List.setIfInBounds_toArray,List.set_cons_succ,List.set_cons_zero]
   refine invT_any rfl (fun L w' hN hC hk K hK=>?_) (fun x12=>?_)
   ·have f11:capE wB (l++namedU (T nm)++b8 [(ky:Int),(vl:Int),(en:Int)]) L x11 w':=knownT_mem hk 11 (by decide)
    go_big_op
    exact hK _ _ _ rfl (.quiet (Mods.refl _ _) (by decide) (by decide)) f11
   simp only [Act.put,List.setIfInBounds_toArray,List.set_cons_succ,List.set_cons_zero]
   refine invT_nil (fun L w' hL hC hA=>?_)
   have hE5:EI wB x12 (l++namedU (T nm)++b8 [(ky:Int),(vl:Int),(en:Int)]) w':=allT_mem hA 12
   have HE5:=hid hE5;clear hE5 hA hC hL
   try simp only [Exit.then]
   go_wp2_with fail
   go_roundg (ms.length - (k+1))
   case measure=>omega
   case rel =>
    have hlz:=HLL.out
    refine ⟨k+1,l++pmapU ⟨nm,ky,vl,en⟩,by go_num,?_,HD.out,?_,by omega,rfl⟩
    ·rw [pmapU,<- List.append_assoc];exact HE5.out
    ·rw [List.length_append,pmapU,List.length_append,namedU_len,b8_len];simp only [List.length_cons,List.length_nil];omega
  ·obtain rfl:k=ms.length:=by omega
   have HM1:Hid (l=[83,80,79,76]++b8 [(kind:Int),(ms.length:Int)]++ms.flatMap pmapU):=by
    have:=HR.out
    rw [List.drop_length] at this;rw [Hid]
    simpa using this
   have q1:wr.cell? ⟨w.heap.size,1,none⟩=some (.slice oF fs.length cF):=(HBB.out.mods hI.md id).cell 1
   have HLL:Hid (l.length<=70000):=by rw [Hid];omega
   clear hPr hI HR hll
   go_wp2_with (at_builtin;refine wpList_append_sl _ rfl (.tmp 43) (.tmp 48) 52 rfl 5 iU (.int .u8 0) 1 1 Tryz.underlying52 hiU hzU hsU hbU rfl (by decide) u5 l.length (u8c l) rfl (HI.out.out.quiet ((Mods.refl _ _).alloc _)) ⟨wr.heap.size,0,none⟩ 1 1 ([(fs.length:Int)].map (Value.int .u8)) rfl rfl (news_cells _ _ _ _ rfl) (u8_one _) (by have:=HLL.out;unfold maxLen;omega) (by have:=HLL.out;omega) ?_;intro v7 w7 s7 m7 l7;have H7:Hid (EI wB v7 (l++b8 [(fs.length:Int)]) w7):=(HI.out.quiet ((Mods.refl _ _).alloc _)).step (Out.app (fun x hx=>by simp at hx;subst hx;omega) rfl s7) m7 l7;have q2:w7.cell? ⟨w.heap.size,1,none⟩=some (.slice oF fs.length cF):=(HBB.out.mods H7.out.md id).cell 1)
   clear s7 m7 l7 HI
   go_loopg [5,53] fs.length (fun g ov iv wx=>∃ (k:Nat) (l':List UInt8),iv=.int .i64 k/\EI wB ov l' wx/\l'++(fs.drop k).flatMap pheadU=l++b8 [(fs.length:Int)]++fs.flatMap pheadU/\l'.length<=70001+k*260/\k<=fs.length/\g=fs.length - k)
   case atStart=>exact ⟨0,_,rfl,H7.out,rfl,by have:=HLL.out;rw [List.length_append,b8_len];simp only [List.length_cons,List.length_nil];omega,Nat.zero_le _,rfl⟩
   case round =>
    clear q1 q2;obtain ⟨k,l',rfl,hI,HR0,hll,hkm,rfl⟩:=hrel;have HR:=hid HR0;clear HR0
    have hPr:=HPB.out.quiet hI.md
    have HLL2:=hid hll;clear hll
    by_cases hkl:k<fs.length
    ·have hkv:k<vs.length:=by rw [hPr.len];exact hkl
     obtain ⟨gF,rfl,c0,c1⟩:=hPr.atF k hkl hkv
     have hok:=HE.out.fn fs[k] (List.getElem_mem hkl)
     have hcd:=hPr.code k hkl hkv
     have HD:Hid (l'++pheadU fs[k]++(fs.drop (k+1)).flatMap pheadU=l++b8 [(fs.length:Int)]++fs.flatMap pheadU):=by
      rw [Hid,<- HR.out,List.drop_eq_getElem_cons hkl,List.flatMap_cons,List.append_assoc]
     have HOP:Hid (∀ w',Mods Nil' wB w'->OpsIn 0 w' tv bs tableS/\Sl w' 99 8 vs[k] fs[k].code.length (codeC bs fs[k].code)):=fun w' m=>⟨(HPB.out.quiet m).ops,(HPB.out.quiet m).code k hkl hkv⟩
     generalize fs[k]=f at *;generalize vs[k]=vC at *;obtain ⟨nm,code⟩:=f;simp only at *;obtain ⟨o1,o2,o3⟩:=hok;obtain ⟨oC,cC,rfl,_⟩:=hcd.view;clear hPr HR;have HI:=hid hI;clear hI;have HOPc:=hid HOP.out;clear HOP hcd;go_upto_region 11 with fail
     have hIW:EI wB u5 l' (wr.alloc (.cells #[.string (T nm),.slice oC code.length cC] 94)):=HI.out.quiet ((Mods.refl _ _).alloc _)
     have hbx:=Blk.new wr #[.string (T nm),.slice oC code.length cC] 94
     generalize wr.alloc (.cells #[.string (T nm),.slice oC code.length cC] 94)=W at *;generalize wr.heap.size=B at *;have HIW:=hid hIW
     have hnx:¬ (u5.ownBlock=some B):=hIW.out.notBlk hbx (by decide)
     have HBX:=hid hbx
     have hts:(T nm).size<=255:=by rw [T_size];exact o1
     have x0:∀ g:Ext (fun k=>u5.ownBlock=some k) W,g.w.cell? ⟨B,0,none⟩=some (.string (T nm)):=fun g=>(HBX.out.mods g.m hnx).cell 0
     have x1:∀ g:Ext (fun k=>u5.ownBlock=some k) W,g.w.cell? ⟨B,1,none⟩=some (.slice oC code.length cC):=fun g=>(HBX.out.mods g.m hnx).cell 1
     have ne1:=Ext.ne (fun k=>u5.ownBlock=some k) W
     clear hIW hbx c0 c1 HI
     refine wp_region_mix [3,5,6] (fun w'=>∃ e:Ext (fun k=>u5.ownBlock=some k) W,w'=e.w) (by kernel_rfl) (by kernel_rfl) (by kernel_rfl) ⟨⟨_,(Mods.refl _ _).drew⟩,rfl⟩ ?_
     iterate 3 (refine mix_pure rfl rfl rfl ?_;intro K hK;go_big_quiet_op;go_big_quiet_on)
     refine mix_act rfl rfl ?_
     intro K hK
     go_big_op
     refine (aName_any _ u5 l' (HIW.out.quiet ((Mods.refl _ _).drew)).out (by have:=HLL2.out;omega) (T nm) hts).mono ?_
     rintro e w3 ⟨v3,rfl,s3,m3,l3⟩
     have H3:Hid (EI wB v3 (l'++namedU (T nm)) w3):=(HIW.out.quiet ((Mods.refl _ _).drew)).step s3 m3 l3
     have M3:Hid (Mods (fun k=>u5.ownBlock=some k) W w3):=((Mods.refl _ _).drew).trans m3
     have L3:Hid (∀ k,v3.ownBlock=some k->u5.ownBlock=some k\/W.heap.size<=k):=l3
     refine hK _ _ rfl ⟨⟨_,M3.out⟩,rfl⟩ ?_
     clear hK K s3 m3 l3
     iterate 1 (refine mix_pure rfl rfl rfl ?_;intro K hK;go_big_quiet_op;go_big_quiet_on)
     refine mix_act rfl rfl ?_
     intro K hK
     go_big_op
     refine (pslots_any w3 tv bs (HOPc.out w3 H3.out.md).1 code o3 (by omega) _ (HOPc.out w3 H3.out.md).2 (T nm)).mono ?_
     rintro e w4 ⟨rfl,m4⟩
     have H4:Hid (EI wB v3 (l'++namedU (T nm)) w4):=H3.out.quiet m4
     have M4:Hid (Mods (fun k=>u5.ownBlock=some k) W w4):=M3.out.trans (m4.mono (fun _ _ e=>e.elim))
     refine hK _ _ rfl ⟨⟨_,M4.out⟩,rfl⟩ ?_
     clear hK K
     refine mix_act rfl rfl ?_
     intro K hK
     go_big_op
     refine (aTwo_any w4 v3 (l'++namedU (T nm)) H4.out.out (by have:=HLL2.out;rw [List.length_append,namedU_len];omega) (slotsP code)).mono ?_
     rintro e w5 ⟨v5,rfl,s5,m5,l5⟩
     have H5:Hid (EI wB v5 (l'++namedU (T nm)++b8 (twoL (slotsP code))) w5):=H4.out.step s5 m5 l5
     have M5:Hid (Mods (fun k=>u5.ownBlock=some k) W w5):=⟨m5.os.trans M4.out.os,m5.tape.trans M4.out.tape,m5.output.trans M4.out.output,Nat.le_trans M4.out.size m5.size,fun k hk hS=>(m5.block k (Nat.lt_of_lt_of_le hk M4.out.size) (fun e=>by
      rcases L3.out k e with h | h
      ·exact hS h
      ·omega)).trans (M4.out.block k hk hS)⟩
     refine hK _ _ rfl ⟨⟨_,M5.out⟩,rfl⟩ ?_
     clear hK K s5 m5 l5
     iterate 1 (refine mix_pure rfl rfl rfl ?_;intro K hK;go_big_quiet_op;go_big_quiet_on)
     refine mix_nil ?_
     try simp only [Exit.then]
     go_wp2_with fail
     go_roundg (fs.length - (k+1))
     case measure=>omega
     case rel =>
      have hlz:=HLL2.out
      refine ⟨k+1,l'++pheadU ⟨nm,code⟩,by go_num,?_,HD.out,?_,by omega,rfl⟩
      ·rw [pheadU,<- List.append_assoc];exact H5.out
      ·rw [List.length_append,pheadU,List.length_append,namedU_len,b8_len];simp only [twoL,List.length_cons,List.length_nil];omega
    ·obtain rfl:k=fs.length:=by omega
     have HM2:Hid (l'=l++b8 [(fs.length:Int)]++fs.flatMap pheadU):=by
      have:=HR.out
      rw [List.drop_length] at this;rw [Hid]
      simpa using this
     have HLL3:Hid (l'.length<=140000):=by have:=HLL2.out;rw [Hid];omega
     have q1:wr.cell? ⟨w.heap.size,1,none⟩=some (.slice oF fs.length cF):=(HBB.out.mods hI.md id).cell 1
     have HI:=hid hI;clear hPr hI HR HLL2;go_wp2_with fail
     go_loopg [5,68] fs.length (fun g ov iv wx=>∃ (k:Nat) (a:List UInt8),iv=.int .i64 k/\EI wB ov a wx/\a++(fs.drop k).flatMap pcodeU=l'++fs.flatMap pcodeU/\a.length<=140000+k*3200/\k<=fs.length/\g=fs.length - k)
     case atStart=>exact ⟨0,_,rfl,HI.out,rfl,by have:=HLL3.out;omega,Nat.zero_le _,rfl⟩
     case round =>
      clear q1 HI;obtain ⟨k,a,rfl,hI,HR0,hll,hkm,rfl⟩:=hrel;have HR:=hid HR0;clear HR0
      have hPr:=HPB.out.quiet hI.md
      have HLL4:=hid hll;clear hll
      by_cases hkl:k<fs.length
      ·have hkv:k<vs.length:=by rw [hPr.len];exact hkl
       obtain ⟨gF,rfl,c0,c1⟩:=hPr.atF k hkl hkv
       have hok:=HE.out.fn fs[k] (List.getElem_mem hkl)
       have hcd:=hPr.code k hkl hkv
       have HD:Hid (a++pcodeU fs[k]++(fs.drop (k+1)).flatMap pcodeU=l'++fs.flatMap pcodeU):=by
        rw [Hid,<- HR.out,List.drop_eq_getElem_cons hkl,List.flatMap_cons,List.append_assoc]
       have HOP:Hid (∀ w',Mods Nil' wB w'->OpsIn 0 w' tv bs tableS/\Sl w' 99 8 vs[k] fs[k].code.length (codeC bs fs[k].code)):=fun w' m=>⟨(HPB.out.quiet m).ops,(HPB.out.quiet m).code k hkl hkv⟩
       generalize fs[k]=f at *;generalize vs[k]=vC at *;obtain ⟨nm,code⟩:=f;simp only at *;obtain ⟨o1,o2,o3⟩:=hok;obtain ⟨oC,cC,rfl,_⟩:=hcd.view;have HOPc:=hid HOP.out;have HOK:=hid o3
       have HIa:Hid (EI wB u5 a (wr.alloc (.cells #[.string (T nm),.slice oC code.length cC] 94))):=hI.quiet ((Mods.refl _ _).alloc _)
       clear HOP hcd hPr HR hI o3;go_wp2_with fail;generalize wr.alloc (.cells #[.string (T nm),.slice oC code.length cC] 94)=W at *
       go_loopg [5,75] code.length (fun g ov iv wx=>∃ (j:Nat) (a':List UInt8),iv=.int .i64 j/\EI wB ov a' wx/\a'++(code.drop j).flatMap pslotU=a++pcodeU ⟨nm,code⟩/\a'.length<=140000+k*3200+j*16/\j<=code.length/\g=code.length - j)
       case atStart=>exact ⟨0,_,rfl,HIa.out,rfl,by have:=HLL4.out;omega,Nat.zero_le _,rfl⟩
       case round =>
        clear c0 c1 HIa;obtain ⟨j,a',rfl,hI,HR0,hll,hjm,rfl⟩:=hrel;have HR:=hid HR0;clear HR0;have HLL5:=hid hll;clear hll
        by_cases hjl:j<code.length
        ·obtain ⟨g,rfl,hg,y0,y1,y2,y3,y4,y5,y6,y7⟩:=code_at (HOPc.out wr hI.md).2 rfl rfl j hjl
         have hx:=HOK.out code[j] (List.getElem_mem hjl)
         have HD2:Hid (a'++pslotU code[j]++(code.drop (j+1)).flatMap pslotU=a++pcodeU ⟨nm,code⟩):=by
          rw [Hid,<- HR.out,List.drop_eq_getElem_cons hjl,List.flatMap_cons,List.append_assoc]
         have HAT:Hid (∀ w',Mods Nil' wB w'->OpAt w' (bs[code[j].k]?.getD 0) code[j].o):=fun w' m=>tab_at (HOPc.out w' m).1 code[j] hx.k
         have hcl:code[j].o.code<=255:=code_le code[j].k hx.k
         have hslc:=hx.slots
         have HPS:Hid (pslotU code[j]=slotU code[j].o.code code[j].d code[j].s code[j].jump code[j].num code[j].high code[j].o.slots):=rfl
         obtain ⟨_,hxd,hxs,hxj,hxn,hxh⟩:=hx;generalize code[j].o=o at *;generalize code[j].jump=jmp at *;generalize code[j].d=xd at *;generalize code[j].s=xs at *;generalize code[j].num=xn at *;generalize code[j].high=xh at *;generalize code[j].name=xm at *;generalize bs[code[j].k]?.getD 0=b at *;generalize pslotU code[j]=su at *;have HI:=hid hI;clear hI HR;go_wp2_with fail
         have HIx:Hid (EI wB u5 a' (wr.alloc (.cells #[.pointer (some ⟨b,0,none⟩),.int .u8 xd,.int .u8 xs,.int .i16 jmp,.int .i32 xn,.int .i32 xh,.string ByteArray.empty,.string (T xm)] 99))):=HI.out.quiet ((Mods.refl _ _).alloc _)
         obtain ⟨p1,pn,pc,f6,c6,k7,c7,k8,c8,f9,c9,hop,_⟩:=(HAT.out _ HIx.out.md).ex
         refine (aSlots_any _ u5 a' HIx.out.out (by have:=HLL5.out;omega) b _ o.code o.slots hop rfl rfl xd xs jmp xn xh _ _ hcl hxd hxs hxj hxn hxh (by omega)).mono ?_
         rintro e w3 ⟨v3,rfl,s3,m3,l3⟩
         have H3:Hid (EI wB v3 (a'++su) w3):=by rw [HPS.out];exact HIx.out.step s3 m3 l3
         clear s3 m3 l3 hop;go_wp2_with fail
         go_roundg (code.length - (j+1))
         case measure=>omega
         case rel =>
          have hlz:=HLL5.out
          have hsu:su.length<=16:=by rw [HPS.out];exact slotU_len _ _ _ _ _ _ _
          exact ⟨j+1,a'++su,by go_num,H3.out,HD2.out,by rw [List.length_append];omega,by omega,rfl⟩
        ·obtain rfl:j=code.length:=by omega
         have HM4:Hid (a'=a++pcodeU ⟨nm,code⟩):=by
          have:=HR.out
          rw [List.drop_length] at this;rw [Hid]
          simpa using this
         have HI:=hid hI;clear hI HR;go_wp2_with fail
         go_roundg (fs.length - (k+1))
         case measure=>omega
         case rel =>
          have:=HLL5.out
          exact ⟨k+1,a',by go_num,HI.out,by rw [HM4.out];exact HD.out,by omega,by omega,rfl⟩
      ·obtain rfl:k=fs.length:=by omega
       have HM3:Hid (a=encU kind ms fs):=by
        have:=HR.out
        rw [List.drop_length] at this;rw [Hid,encU,<- HM1.out,<- HM2.out]
        simpa using this
       have HI:=hid hI;clear hI HR hPr;go_wp2_with fail;go_ret
       refine ⟨u5,rfl,?_⟩
       rw [<- HM3.out]
       exact ⟨HI.out.out,HMB.out.trans HI.out.md,fun k hk=>Nat.le_trans HMB.out.size (HI.out.own k hk)⟩
end Go.Proofs.YtoknbkfclhmapaaGreatDoor
