import Derived.Test.YthnphhgpfedeeaaGreatDoorProg
import Derived.WalkSpells
import Derived.WalkLawsBesides
import Derived.BigQuiet
import Derived.StillTailTactics
import Derived.Deep.RegionLaw
namespace Go.Proofs.YthnphhgpfedeeaaGreatDoor
open Go.RowKit
open _root_.Array renaming eq_empty_of_size_eq_zero->bj,setIfInBounds_comm->b5
open Bool renaming false_eq_true->ao,and_eq_true->ba,false->fj,true->fR
open List renaming flatMap_cons->ar,mem_cons_of_mem->cj,map_cons->cw,set_cons_zero->cG,set_cons_succ->cH,length->cJ,length_cons->cN,length->eJ
open Nat renaming add_mul->bt,lt_of_lt_of_le->cx,lt_or_ge->cy,zero_add->cD,le_refl->cI
open Option renaming map_some->cW,some->eK,none->eL
open Region renaming wanted->ab,ready->al,binds->bh,free_spec->b9,noSelect_spec->cq,noSelect->cP
open Ending renaming returned->fW
open Or renaming inl->jn,inr->ij
open Value renaming pointer->ia,slice->eS,string->eR
open _root_.Go renaming TypeId->ju,Value->fa,Addr->kh,heap_alloc_new->tR,Program->lj,Exit->nB,Oper->iz,wpQuiet->tS,FuncId->lO,Calls->fS,execOp->oX,wpList->n9,Deferred->ub,PanicEntry->rK,Result->uc,Next->rS,undef->kO,yielded->pw,wanted_put->tj,execOp_put->ux,getD_set_ne->tA,ready_mono->tB,Operand->pd,maxLen->jz,TypeInfo->pN,run_append_own->BT,MapEntry->xb,run_underlying->pB
set_option linter.all false
abbrev tLN:=List Nat
abbrev tLV:=List Value
abbrev vI(x:Int):Value:=.int .i64 x
abbrev vU(x:Int):Value:=.int .u64 x
abbrev vB(x:Int):Value:=.int .u8 x
abbrev vJ(x:Int):Value:=.int .i32 x
abbrev vN:Value:=.slice none 0 0
abbrev vO:Value:=.pointer none
abbrev vP(b:Nat):Value:=.pointer (some ⟨b,0,none⟩)
abbrev tLB:=List UInt8
abbrev tAV:=Array Value
abbrev tBA:=ByteArray
abbrev tW:=World
def ah(p:Prop):Prop:=p
theorem ah.lQ{p:Prop}(h:ah p):p:=h
theorem ah.o{p:Prop}(h:ah p):p:=h
theorem aq{p:Prop}(h:p):ah p:=h
theorem sA9{α:Type}{l:List α}{i:Nat}{a:α}:l.toArray.setIfInBounds i a=(l.set i a).toArray:=List.setIfInBounds_toArray ..
theorem sB9{α:Type}{x a:α}{l:List α}{i:Nat}:(x::l).set (i+1) a=x::l.set i a:=rfl
theorem iP9{c:Prop}{h:Decidable c}(hc:c){α:Sort _}{t e:α}:ite c t e=t:=if_pos hc
theorem iN9{c:Prop}{h:Decidable c}(hc:¬c){α:Sort _}{t e:α}:ite c t e=e:=if_neg hc
theorem sC9{α:Type}{x a:α}{l:List α}:(x::l).set 0 a=a::l:=rfl
def tO(c:Int):Bool:=decide (97<=c)&&decide (c<=122)
def qB(c:Int):Bool:=decide (48<=c)&&decide (c<=57)
def yL(c:Int):Bool:=qB c||tO c||(c==95)
def au(w:tW)(b:Nat)(cs:tAV)(t:ju):Prop:=w.heap[b]?=eK (.cells cs t (0,0))
structure aa(S:Nat->Prop)(w w':tW):Prop where
 os:w'.os=w.os
 tape:w'.tape=w.tape
 output:w'.output=w.output
 size:w.heap.size<=w'.heap.size
 block:∀k,k<w.heap.size->¬S k->w'.heap[k]?=w.heap[k]?
section
variable {w w' w'' : World} {b : Nat} {cs : Array Value} {t : ju} {S S' : Nat -> Prop}
theorem au.cell(h:au w b cs t)(i:Nat):w.cell? ⟨b,i,eL⟩=cs[i]?:=by simp[World.cell?,show w.heap[b]?=eK (.cells cs t (0,0))from h]
theorem au.c0{x0:fa}{l:tLV}(h:au w b (x0::l).toArray t):w.cell? ⟨b,0,eL⟩=eK x0:=by rw[h.cell];rfl
theorem au.c1{x0 x1:fa}{l:tLV}(h:au w b (x0::x1::l).toArray t):w.cell? ⟨b,1,eL⟩=eK x1:=by rw[h.cell];rfl
theorem au.c2{x0 x1 x2:fa}{l:tLV}(h:au w b (x0::x1::x2::l).toArray t):w.cell? ⟨b,2,eL⟩=eK x2:=by rw[h.cell];rfl
theorem au.c3{x0 x1 x2 x3:fa}{l:tLV}(h:au w b (x0::x1::x2::x3::l).toArray t):w.cell? ⟨b,3,eL⟩=eK x3:=by rw[h.cell];rfl
theorem au.c4{x0 x1 x2 x3 x4:fa}{l:tLV}(h:au w b (x0::x1::x2::x3::x4::l).toArray t):w.cell? ⟨b,4,eL⟩=eK x4:=by rw[h.cell];rfl
theorem au.c5{x0 x1 x2 x3 x4 x5:fa}{l:tLV}(h:au w b (x0::x1::x2::x3::x4::x5::l).toArray t):w.cell? ⟨b,5,eL⟩=eK x5:=by rw[h.cell];rfl
theorem au.c6{x0 x1 x2 x3 x4 x5 x6:fa}{l:tLV}(h:au w b (x0::x1::x2::x3::x4::x5::x6::l).toArray t):w.cell? ⟨b,6,eL⟩=eK x6:=by rw[h.cell];rfl
theorem au.c7{x0 x1 x2 x3 x4 x5 x6 x7:fa}{l:tLV}(h:au w b (x0::x1::x2::x3::x4::x5::x6::x7::l).toArray t):w.cell? ⟨b,7,eL⟩=eK x7:=by rw[h.cell];rfl
theorem au.c8{x0 x1 x2 x3 x4 x5 x6 x7 x8:fa}{l:tLV}(h:au w b (x0::x1::x2::x3::x4::x5::x6::x7::x8::l).toArray t):w.cell? ⟨b,8,eL⟩=eK x8:=by rw[h.cell];rfl
theorem au.c9{x0 x1 x2 x3 x4 x5 x6 x7 x8 x9:fa}{l:tLV}(h:au w b (x0::x1::x2::x3::x4::x5::x6::x7::x8::x9::l).toArray t):w.cell? ⟨b,9,eL⟩=eK x9:=by rw[h.cell];rfl
theorem au.c10{x0 x1 x2 x3 x4 x5 x6 x7 x8 x9 x10:fa}{l:tLV}(h:au w b (x0::x1::x2::x3::x4::x5::x6::x7::x8::x9::x10::l).toArray t):w.cell? ⟨b,10,eL⟩=eK x10:=by rw[h.cell];rfl
theorem au.frozen(h:au w b cs t)(i:Nat):w.frozen? ⟨b,i,eL⟩=fj:=by simp[World.frozen?,show w.heap[b]?=eK (.cells cs t (0,0))from h]
theorem au.lt(h:au w b cs t):b<w.heap.size:=(Array.getElem?_eq_some_iff.1 h).1
theorem au.drewN(h:au w b cs t)(n:Nat):au (w.drewN n) b cs t:=h
theorem au.drew(h:au w b cs t):au w.drew b cs t:=h
theorem au.set(h:au w b cs t)(i:Nat)(v:fa):au (w.setCell ⟨b,i,eL⟩ v) b (cs.setIfInBounds i v) t:=by have h':w.heap[b]?=eK (.cells cs t (0,0)):=h;simp[au,World.setCell,Array.getElem?_modify,h']
theorem au.setOther(h:au w b cs t){a:kh}(ha:a.block≠b)(v:fa):au (w.setCell a v) b cs t:=by
 show(w.setCell a v).heap[b]?=_
 rw[Below.heap_setCell _ _ _ _ (Ne.symm ha)];exact h
theorem au.alloc(h:au w b cs t)(o:Obj):au (w.alloc o) b cs t:=by
 show(w.alloc o).heap[b]?=_
 rw[Below.heap_alloc _ _ _ h.lt];exact h
theorem au.new(w:tW)(cs:tAV)(t:ju):au (w.alloc (.cells cs t)) w.heap.size cs t:=tR w _
theorem au.ai(h:au w b cs t)(m:aa S w w')(hb:¬S b):au w' b cs t:=(m.block b h.lt hb).trans h
theorem aa.refl(S:Nat->Prop)(w:tW):aa S w w:=⟨rfl,rfl,rfl,cI _,λ_ _ _=>rfl⟩
theorem aa.drewN(h:aa S w w')(n:Nat):aa S w (w'.drewN n):=⟨h.os,h.tape,h.output,h.size,h.block⟩
theorem aa.drew(h:aa S w w'):aa S w w'.drew:=⟨h.os,h.tape,h.output,h.size,h.block⟩
theorem aa.set(h:aa S w w'){a:kh}(ha:S a.block\/w.heap.size<=a.block)(v:fa):aa S w (w'.setCell a v) :=
 ⟨h.os,h.tape,h.output,by have:=h.size;simp[World.setCell];omega,λk hk hs=>by rw[Below.heap_setCell _ _ _ _ (by rintro rfl;rcases ha with ha|ha;exact hs ha;omega)];exact h.block k hk hs⟩
theorem aa.alloc(h:aa S w w')(o:Obj):aa S w (w'.alloc o) :=
 ⟨h.os,h.tape,h.output,by have:=h.size;simp;omega,λk hk hs=>by rw[Below.heap_alloc _ _ _ (by have:=h.size;omega)];exact h.block k hk hs⟩
theorem ax{S:Nat->Prop}{w:tW}:aa S w w:=aa.refl S w
theorem aw{S:Nat->Prop}{w:tW}{o:Obj}:aa S w (w.alloc o):=(aa.refl S w).alloc o
theorem aN{S:Nat->Prop}{w:tW}:aa S w w.drew:=(aa.refl S w).drew
theorem aa.trans(h:aa S w w')(k:aa S w' w''):aa S w w'' :=
 ⟨k.os.trans h.os,k.tape.trans h.tape,k.output.trans h.output,Nat.le_trans h.size k.size,λi hi hs=>(k.block i (cx hi h.size) hs).trans (h.block i hi hs)⟩
theorem aa.step(h:aa S w w')(k:aa S' w' w'')(hs:∀i,i<w.heap.size->S' i->S i):aa S w w'' :=
 ⟨k.os.trans h.os,k.tape.trans h.tape,k.output.trans h.output,Nat.le_trans h.size k.size,λi hi hn =>
  (k.block i (cx hi h.size) (λe=>hn (hs i hi e))).trans (h.block i hi hn)⟩
theorem aa.mono(h:aa S w w')(hs:∀i,i<w.heap.size->S i->S' i):aa S' w w' :=
 ⟨h.os,h.tape,h.output,h.size,λi hi hn=>h.block i hi (λe=>hn (hs i hi e))⟩
end
def Only(b:Nat):Nat->Prop:=λk=>k=b
def af:Nat->Prop:=λ_=>False
theorem aa.bA{b:Nat}{w w':tW}(h:aa (Only b) w w')(i:Nat)(v:fa):aa (Only b) w (w'.setCell ⟨b,i,eL⟩ v):=h.set (a:=⟨b,i,eL⟩) (jn (show b=b from rfl)) v
structure Ext(S:Nat->Prop)(w0:tW) where
 w:tW
 m:aa S w0 w
theorem Ext.ne(S:Nat->Prop)(w:tW):Nonempty (Ext S w):=⟨⟨w,aa.refl S w⟩⟩
theorem ig{P:lj}{id:Nat}{Q:nB->Act->tW->Prop}{a:Act}{w:tW}{l:List iz}(S:Nat->Prop)(hm:P.follows .mixedOrders=fR)(hB:Region.lexB .any l.toArray=fR)(h:tS P l.toArray (λw'=>∃g:Ext S w,w'=g.w) (λa'=>∀w',(∃g:Ext S w,w'=g.w)->Q .normal a' w') l a):(Code.region id l.toArray fR).wp P Q a w :=
 wp_region_quiet (C:=λw'=>∃g:Ext S w,w'=g.w) hm hB ⟨⟨_,(aa.refl S w).drew⟩,rfl⟩ (by simpa using h)
theorem Calls.oZ{P:lj}{f:lO}{args:tAV}{S:Nat->Prop}{w:tW}{g:Ext S w}{v:fa}(h:fS P f args g.w λe w'=>e=fW v/\aa af g.w w'):fS P f args g.w λe w''=>e=fW v/\∃g':Ext S w,w''=g'.w :=
 h.mono λ_ w' ⟨he,hm⟩=>⟨he,⟨w',g.m.trans (hm.mono (λ_ _ e=>e.elim))⟩,rfl⟩
theorem Ext.cell{S:Nat->Prop}{w:tW}(g:Ext S w){b:Nat}{cs:tAV}{t:ju}(h:au w b cs t)(hb:¬S b)(i:Nat):g.w.cell? ⟨b,i,eL⟩=cs[i]? :=
 (h.ai g.m hb).cell i
theorem Ext.jB{S:Nat->Prop}{w:tW}{b:Nat}{v0 v1 v2 v3 v4 v5 v6 v7:fa}{t:ju}(h:au w b #[v0,v1,v2,v3,v4,v5,v6,v7] t)(hb:¬S b):(∀g:Ext S w,g.w.cell? ⟨b,0,eL⟩=eK v0)/\(∀g:Ext S w,g.w.cell? ⟨b,1,eL⟩=eK v1)/\(∀g:Ext S w,g.w.cell? ⟨b,2,eL⟩=eK v2)/\(∀g:Ext S w,g.w.cell? ⟨b,3,eL⟩=eK v3) /\ (∀g:Ext S w,g.w.cell? ⟨b,4,eL⟩=eK v4)/\(∀g:Ext S w,g.w.cell? ⟨b,5,eL⟩=eK v5)/\(∀g:Ext S w,g.w.cell? ⟨b,6,eL⟩=eK v6)/\(∀g:Ext S w,g.w.cell? ⟨b,7,eL⟩=eK v7) :=
 ⟨λg=>g.cell h hb 0,λg=>g.cell h hb 1,λg=>g.cell h hb 2,λg=>g.cell h hb 3,λg=>g.cell h hb 4,λg=>g.cell h hb 5,λg=>g.cell h hb 6,λg=>g.cell h hb 7⟩
theorem jO{P:lj}{ops:Array iz}{W:tW}{Q:Act->Prop}:∀(l:List iz) (a:Act),tS P ops (λw'=>w'=W) Q l a->wpStill P ops W Q l a
 |[],a,h=>h
 |o::rest,a,h=>by
  unfold tS at h;unfold wpStill;split
  ·rename_i hw
   rw[iP9 hw]at h;obtain⟨v,h1,h2⟩:=h;have h3:=h1 W rfl;have ih:=jO rest _ h2;unfold Oper.quietAt at h3;unfold Oper.still;generalize(oX a.eval o).run P W=r at *;cases r with
   |ok n w' =>
    cases n with
    |value u=>obtain⟨rfl,rfl⟩:=h3;exact⟨rfl,ih⟩
    |skip=>obtain⟨rfl,rfl⟩:=h3;exact⟨rfl,ih⟩
    |enter f args=>obtain⟨rfl,hc⟩:=h3;exact⟨rfl,v,hc,ih⟩
    |_=>exact h3.elim
   |_=>exact h3.elim
  ·rename_i hw
   rw[iN9 hw]at h;exact jO rest _ h
theorem bK{P:lj}{id:Nat}{Q:nB->Act->tW->Prop}{a:Act}{w:tW}{l:List iz}(n:Nat)(hm:P.follows .mixedOrders=fR)(hB:Region.lexTailB .any l.toArray n=fR)(h:∀W,W=w.drew->tS P l.toArray (λw'=>w'=W) (λa'=>n9 P l.toArray Q (l.drop n) a' W) (l.take n) a):(Code.region id l.toArray fR).wp P Q a w :=
 wp_region_still_tail n hm hB (jO _ _ (h _ rfl))
section
variable {P : lj} {ops : Array iz} {md : Region.Mode} {C : World -> Prop} {es : List Nat} {p : Nat} {D : List ub} {E : List rK -> World -> Prop} {ok : Nat -> Bool} {Inv : Array Bool -> Prop} {eB : Array Bool -> Bool} {L : Act -> World -> Prop}
def pureUpon(w:tW)(v:fa):uc rS->Prop
 |.ok (.value u) w'=>w'=w/\u=v
 |.ok .skip w'=>w'=w/\v=kO
 |_=>False
def iL(P:lj)(o:iz)(a:Act)(w:tW)(v:fa):Prop:=pureUpon w v ((oX a.eval o).run P w)
def effUpon(P:lj)(K:fa->tW->Prop):uc rS->Prop
 |.ok (.value u) w'=>K u w'
 |.ok .skip w'=>K kO w'
 |.ok (.enter f args) w'=>fS P f args w' (λe w''=>∃v,e=fW v/\K v w'')
 |.ok (.row row args) w'=>Rows P row args w' K
 |_=>False
def lL(P:lj)(o:iz)(a:Act)(w:tW)(K:fa->tW->Prop):Prop:=effUpon P K ((oX a.eval o).run P w)
theorem K5{o:iz}{a:Act}{w:tW}{u v:fa}(h:iL P o a w u)(h':iL P o a w v):u=v:=by
 unfold iL at *;generalize(oX a.eval o).run P w=r at *;cases r with
 |ok n w' =>
  cases n<;>simp only[pureUpon]at h h'
  case value x=>exact h.2.symm.trans h'.2
  case skip=>exact h.2.trans h'.2.symm
 |halt x w'=>simp only[pureUpon]at h
theorem ja{K K':fa->tW->Prop}{r:uc rS}(h:∀v w,K v w->K' v w)(hh:effUpon P K r):effUpon P K' r:=by
 cases r with
 |ok n w' =>
  cases n<;>simp only[effUpon]at hh ⊢
  case value u=>exact h _ _ hh
  case skip=>exact h _ _ hh
  case enter f args=>exact hh.mono λe w'' ⟨v,he,hk⟩=>⟨v,he,h _ _ hk⟩
  case row row args=>exact hh.mono h
 |halt x w'=>simp only[effUpon]at hh
theorem yM{K:fa->tW->Prop}{r:uc rS}(hh:effUpon P K r):∃v w,K v w:=by
 cases r with
 |ok n w' =>
  cases n<;>simp only[effUpon]at hh
  case value u=>exact⟨_,_,hh⟩
  case skip=>exact⟨_,_,hh⟩
  case enter f args =>obtain⟨_,w2,_,⟨v,_,hk⟩,_⟩:=hh [];exact⟨v,w2,hk⟩
  case row row args =>obtain⟨v,w2,hk,_⟩:=hh (Frame.enter P 0 #[] .normal) [];exact⟨v,w2,hk⟩
 |halt x w'=>simp only[effUpon]at hh
def mOp(P:lj)(ops:Array iz)(C:tW->Prop)(es:tLN)(i:Nat)(K:Act->tW->Prop)(a:Act)(w:tW):Prop :=
 match ops[i]? with
 |none=>K a w
 |some o=>if ab o (pw ops a.tmps)then
   (if es.contains i then lL P o a w (λv w'=>C w'/\K (a.put o.dst v) w')else ∃v,(∀w,C w->iL P o a w v)/\K (a.put o.dst v) w)
  else K (a.put o.dst kO) w
theorem TK{i:Nat}{a:Act}{w:tW}{K K':Act->tW->Prop}(hC:C w)(h:∀a w,C w->K a w->K' a w)(hh:mOp P ops C es i K a w):mOp P ops C es i K' a w:=by
 unfold mOp at *;split
 ·exact h _ _ hC (by simpa [*]using hh)
 ·rename_i o ho
  simp only[ho]at hh;split
  ·rename_i hw
   simp only[hw,if_true]at hh;split
   ·rename_i he;simp only[he,if_true]at hh;exact ja (λv w' h'=>⟨h'.1,h _ _ h'.1 h'.2⟩) hh
   ·rename_i he;simp only[he]at hh;obtain⟨v,h1,h2⟩:=hh;exact⟨v,h1,h _ _ hC h2⟩
  ·rename_i hw;simp only[hw]at hh;exact h _ _ hC hh
theorem IG{i:Nat}{a:Act}{K K':Act->tW->Prop}{Q':nB->Act->tW->Prop}{w:tW}(hC:C w)(h:∀a w',C w'->K a w'->K' a w')(hh:mOp P ops C es i K a w):wpOp P ops Q' i K' a w:=by
 unfold mOp at hh;unfold wpOp;split
 ·rename_i ho;simp only[ho]at hh;exact h _ _ hC hh
 ·rename_i o ho
  simp only[ho]at hh;split
  ·rename_i hw
   simp only[hw,if_true]at hh;left;unfold Oper.wp;split at hh
   ·unfold lL at hh;generalize(oX a.eval o).run P w=r at *;cases r with
    |ok n w' =>
     cases n<;>simp only[effUpon]at hh<;>simp only[Oper.upon]
     case value u=>exact h _ _ hh.1 hh.2
     case skip=>exact h _ _ hh.1 hh.2
     case enter f args=>exact hh.mono λe w'' ⟨v,he,hk⟩=>by subst he;exact h _ _ hk.1 hk.2
     case row row args=>exact hh.mono λv w'' hk=>h _ _ hk.1 hk.2
    |halt x w'=>simp only[effUpon]at hh
   ·obtain⟨v,h1,h2⟩:=hh;have h3:=h1 w hC;unfold iL at h3;generalize(oX a.eval o).run P w=r at *;cases r with
    |ok n w' =>
     cases n<;>simp only[pureUpon]at h3<;>simp only[Oper.upon]
     case value u=>rw[h3.1,h3.2];exact h _ _ hC h2
     case skip=>rw[h3.1,<-h3.2];exact h _ _ hC h2
    |halt x w'=>simp only[pureUpon]at h3
  ·rename_i hw;simp only[hw]at hh;exact h _ _ hC hh
def panUpon(P:lj)(E:List rK->tW->Prop):uc rS->Prop
 |.ok (.enter f args) w'=>fS P f args w' (λe w''=>∃c,e=.panicked c/\E c w'')
 |.halt (.panic v) w'=>E [{v,recovered:=fj}] w'
 |_=>False
def yN(P:lj)(ops:Array iz)(p:Nat)(D:List ub)(E:List rK->tW->Prop)(a:Act)(w:tW):Prop :=
 ∃o,ops[p]?=eK o/\ab o (pw ops a.tmps)=fR/\a.defers=D/\panUpon P E ((oX a.eval o).run P w)
theorem Be(a:Act)(d:Option Nat)(v:fa):(a.put d v).defers=a.defers:=by unfold Act.put;split<;>rfl
theorem E9{oi oj:iz}{v:fa}{a:Act}{w:tW}(hj:ops[p]?=eK oj)(hap:oi.apart ops oj=fR)(hsj:∀cs b,oj.op≠.select cs b)(h:yN P ops p D E (a.put oi.dst v) w):yN P ops p D E a w:=by obtain⟨h1,_,_⟩:=Oper.apart_spec hap;obtain⟨o,ho,hw,hd,hp⟩:=h;rw[hj]at ho;cases ho;exact⟨oj,hj,by rw[tj oj a oi.dst v h1]at hw;exact hw,by rw[Be]at hd;exact hd,by rw[ux oj hsj a oi.dst v h1]at hp;exact hp⟩
theorem Bf{a:Act}{w:tW}{K:Act->tW->Prop}{Q:nB->Act->tW->Prop}(hQ:∀c a' w',a'.defers=D->E c w'->Q (.panic c) a' w')(h:yN P ops p D E a w):wpOp P ops Q p K a w:=by
 obtain⟨o,ho,hw,hd,hp⟩:=h;unfold wpOp;simp only[ho,hw,if_true];left;unfold Oper.wp;generalize(oX a.eval o).run P w=r at *;cases r with
 |ok n w' =>
  cases n<;>simp only[panUpon]at hp<;>simp only[Oper.upon]
  case enter f args =>refine hp.mono λe w'' ⟨c,he,hk⟩=>?_;subst he;exact hQ c a w'' hd hk
 |halt x w' =>
  cases x<;>simp only[panUpon]at hp<;>simp only[Oper.upon]
  case panic v=>exact hQ _ a w' hd hp
def jc(P:lj)(ops:Array iz)(C:tW->Prop)(o:iz)(v:fa)(a:Act):Prop :=
 (ab o (pw ops a.tmps)=fR/\∀w,C w->iL P o a w v)\/(ab o (pw ops a.tmps)=fj/\v=kO)
theorem jc.of_same{o:iz}{v:fa}{a a':Act}(hy:jc P ops C o v a)(he:oX a'.eval o=oX a.eval o)(hw:ab o (pw ops a'.tmps)=ab o (pw ops a.tmps)):jc P ops C o v a':=by unfold jc iL at *;rw[he,hw];exact hy
theorem jc.mOp{i:Nat}{o:iz}{v:fa}{a:Act}(hi:ops[i]?=eK o)(hE:es.contains i=fj)(hy:jc P ops C o v a){K:Act->tW->Prop}{w:tW}(h:K (a.put o.dst v) w):mOp P ops C es i K a w:=by
 unfold Proofs.YthnphhgpfedeeaaGreatDoor.mOp;simp only[hi];rcases hy with⟨hw,hv⟩ |⟨hw,rfl⟩
 ·simp only[hw,if_true,hE,ao,if_false];exact⟨v,hv,h⟩
 ·simp only[hw,ao,if_false];exact h
theorem yO{i:Nat}{o:iz}{a:Act}(hi:ops[i]?=eK o)(hw:ab o (pw ops a.tmps)=fj){K:Act->tW->Prop}{w:tW}(h:K (a.put o.dst kO) w):mOp P ops C es i K a w:=by unfold Proofs.YthnphhgpfedeeaaGreatDoor.mOp;simp only[hi,hw,ao,if_false];exact h
theorem YK{j:Nat}{oi oj:iz}{v:fa}(hj:ops[j]?=eK oj)(hap:oi.apart ops oj=fR)(hsi:∀cs b,oi.op≠.select cs b) (hsj:∀cs b,oj.op≠.select cs b) {K:Act->tW->Prop} {a:Act} {w:tW}(hy:jc P ops C oi v a) (h:mOp P ops C es j K (a.put oi.dst v) w):mOp P ops C es j (λa' w'=>jc P ops C oi v a'/\K (a'.put oi.dst v) w') a w:=by
 obtain⟨h1,h2,h3⟩:=Oper.apart_spec hap;have keep:=λ(a:Act) (hy:jc P ops C oi v a) u=>hy.of_same (ux oi hsi a oj.dst u h3) (tj oi a oj.dst u h3);unfold mOp at *;simp only[hj]at *;rw[tj oj a oi.dst v h1]at h;unfold lL iL at *;rw[ux oj hsj a oi.dst v h1]at h;split
 ·rename_i hw
  simp only[hw,if_true]at h;split
  ·rename_i he
   simp only[he,if_true]at h;exact ja (λu w' h'=>⟨h'.1,keep a hy u,by rw[<-Act.put_comm a v u h2];exact h'.2⟩) h
  ·rename_i he
   simp only[he]at h;obtain⟨u,hu,hn⟩:=h;exact⟨u,hu,keep a hy u,by rw[<-Act.put_comm a v u h2];exact hn⟩
 ·rename_i hw
  simp only[hw]at h;exact⟨keep a hy _,by rw[<-Act.put_comm a v kO h2];exact h⟩
theorem wg{i:Nat}{oj:iz}{listed:Array Bool}(hr:i∈al md ops listed)(hall:∀e∈oj.after,bh md e=fR->listed.getD e.on fj=fR):∀e∈oj.after,bh md e=fR->e.on≠i:=λe he hb heq=>by
 have h1:=hall e he hb;have h0:=(mem_ready.1 hr).1;rw[heq]at h1;rcases cy i listed.size with h'|h'
 ·simp[h']at h0 h1;rw[h0]at h1;cases h1
 ·simp[Array.getElem?_eq_none h']at h1
def chainB(md:Region.Mode)(ops:Array iz):tLN->Bool
 |e1::e2::r=>decide (e1<e2)&&(match ops[e2]? with|some o=>o.after.any (λe=>bh md e&&e.on==e1)|none=>fj)&&chainB md ops (e2::r)
 |_=>fR
theorem xN{md:Region.Mode}{ops:Array iz}:∀(e:Nat) (r:tLN),chainB md ops (e::r)=fR->∀j∈r,e<j
 |_,[],_,j,hj=>by cases hj
 |e,e2::r,h,j,hj=>by
  simp only[chainB,ba,decide_eq_true_eq]at h;rcases List.mem_cons.1 hj with rfl|hj
  ·exact h.1.1
  ·have:=xN e2 r h.2 j hj;omega
theorem tQ{md:Region.Mode}{ops:Array iz}:∀(es:tLN),chainB md ops es=fR->∀i j,i∈es->j∈es->i<j->∃p,p∈es/\i<=p/\p<j/\∃oj,ops[j]?=eK oj/\∃e∈oj.after,bh md e=fR/\e.on=p
 |[],_,i,_,hi,_,_=>by cases hi
 |[e],_,i,j,hi,hj,hlt=>by simp at hi hj;omega
 |e1::e2::r,h,i,j,hi,hj,hlt=>by
  have h0:=h;simp only[chainB,ba,decide_eq_true_eq]at h;obtain⟨⟨h1,h2⟩,h3⟩:=h;by_cases hj1:j=e1
  ·subst hj1;rcases List.mem_cons.1 hi with rfl|hi
   ·omega
   ·have:=xN j (e2::r) h0 i hi;omega
  ·have hj':j∈e2::r:=by
    rcases List.mem_cons.1 hj with h|h
    ·exact absurd h hj1
    ·exact h
   by_cases hi1:i=e1
   ·subst hi1;by_cases hj2:j=e2
    ·subst hj2;split at h2
     ·rename_i o ho
      obtain⟨e,he,hb⟩:=Array.any_eq_true'.1 h2;simp only[ba,beq_iff_eq]at hb;exact⟨i,by simp,cI _,hlt,o,ho,e,he,hb.1,hb.2⟩
     ·cases h2
    ·have hlow:e2<j:=by
      rcases List.mem_cons.1 hj' with h|h
      ·exact absurd h hj2
      ·exact xN e2 r h3 j h
     obtain⟨p,hp,hip,hpj,rest⟩:=tQ (e2::r) h3 e2 j (by simp) hj' hlow;exact⟨p,cj _ hp,by omega,hpj,rest⟩
   ·have hi':i∈e2::r:=by
     rcases List.mem_cons.1 hi with h|h
     ·exact absurd h hi1
     ·exact h
    obtain⟨p,hp,hip,hpj,rest⟩:=tQ (e2::r) h3 i j hi' hj' hlt;exact⟨p,cj _ hp,hip,hpj,rest⟩
def jC(P:lj)(md:Region.Mode)(ops:Array iz)(C:tW->Prop)(es:tLN)(p:Nat)(D:List ub)(E:List rK->tW->Prop)(ok:Nat->Bool)(eB:Array Bool->Bool)(L:Act->tW->Prop):Nat->Array Bool->Act->tW->Prop
 |0,listed,a,w=>eB listed=fR/\L a w
 |f+1,listed,a,w=>al md ops listed≠[]/\∀i∈al md ops listed,(ok i=fR/\mOp P ops C es i (jC P md ops C es p D E ok eB L f (listed.setIfInBounds i fR)) a w)\/(i=p/\yN P ops p D E a w)
theorem qC{g:Nat}{Q:nB->Act->tW->Prop}(hQ:∀c a' w',a'.defers=D->E c w'->Q (.panic c) a' w')(hL:∀listed a w,eB listed=fR->L a w->wpAny P md ops Q g listed a w):∀(f:Nat) (listed:Array Bool) (a:Act) (w:tW),C w->jC P md ops C es p D E ok eB L f listed a w->wpAny P md ops Q (f+g) listed a w
 |0,listed,a,w,_,h=>by rw[cD];exact hL _ _ _ h.1 h.2
 |f+1,listed,a,w,hC,h=>by
  rw[Nat.add_right_comm];refine⟨λh0=>absurd h0 h.1,λi hi=>?_⟩;rcases h.2 i hi with⟨_,h2⟩ |⟨rfl,h2⟩
  ·exact IG hC (λa' w' O7 h'=>qC hQ hL f _ a' w' O7 h') h2
  ·exact Bf hQ h2
structure Side(P:lj)(md:Region.Mode)(ops:Array iz)(es:tLN)(p:Nat)(D:List ub)(E:List rK->tW->Prop)(ok:Nat->Bool)(Inv:Array Bool->Prop)(eB:Array Bool->Bool)(L:Act->tW->Prop):Prop where
 sel:cP ops=fR
 ch:chainB md ops es=fR
 pe:ops[p]?=eL\/es.contains p=fR
 set:∀listed j,Inv listed->j∈al md ops listed->ok j=fR->Inv (listed.setIfInBounds j fR)
 ins:∀listed i j,Inv listed->i∈al md ops listed->ok i=fR->j∈al md ops listed->ok j=fR\/j=p
 done:∀listed a w j,eB listed=fR->L a w->j∈al md ops listed->ok j=fR\/j=p->j=p/\yN P ops p D E a w
def TL(md:Region.Mode)(ops:Array iz)(i:Nat)(oi:iz)(listed:Array Bool):Prop :=
 ∀j oj,ops[j]?=eK oj->j≠i->listed.getD j fR=fj->(∀e∈oj.after,bh md e=fR->e.on≠i)->oi.apart ops oj=fR
theorem TL.set{i j:Nat}{oi:iz}{listed:Array Bool}(h:TL md ops i oi listed)(hj:listed.getD j fR=fj):TL md ops i oi (listed.setIfInBounds j fR):=λk ok hk hki hun hno=>by
 refine h k ok hk hki ?_ hno;by_cases hjk:j=k
 ·subst hjk;exact hj
 ·rw[tA fR hjk]at hun;exact hun
theorem yP(S:Side P md ops es p D E ok Inv eB L){i:Nat}{oi:iz}{v:fa}(hi:ops[i]?=eK oi)(hoi:ok i=fR)(hE:∀(K:Act->tW->Prop) (a:Act) (w:tW),C w->jc P ops C oi v a->K (a.put oi.dst v) w->mOp P ops C es i K a w):∀(f:Nat) (listed:Array Bool) (a:Act) (w:tW),Inv listed->TL md ops i oi listed->i∈al md ops listed->C w->jc P ops C oi v a -> jC P md ops C es p D E ok eB L f (listed.setIfInBounds i fR) (a.put oi.dst v) w->jC P md ops C es p D E ok eB L (f+1) listed a w:=by
 have hsel:=cq S.sel;intro f;induction f with
 |zero =>
  intro listed a w inv hfree hr hC hy H;refine⟨λh=>(by rw[h]at hr;cases hr),λj hj=>?_⟩;by_cases hji:j=i
  ·subst hji;exact jn ⟨hoi,hE _ _ _ hC hy H⟩
  ·obtain⟨rfl,h2⟩:=S.done _ _ _ j H.1 H.2 (tB hj hji) (S.ins _ i j inv hr hoi hj);obtain⟨hjun,oj,hoj,hall⟩:=mem_ready.1 hj;exact ij ⟨rfl,E9 hoj (hfree _ oj hoj hji hjun (wg hr hall)) (λcs b=>hsel _ oj cs b hoj) h2⟩
 |succ f ih =>
  intro listed a w inv hfree hr hC hy H;refine⟨λh=>(by rw[h]at hr;cases hr),λj hj=>?_⟩;by_cases hji:j=i
  ·subst hji;exact jn ⟨hoi,hE _ _ _ hC hy H⟩
  ·obtain⟨hjun,oj,hoj,hall⟩:=mem_ready.1 hj;have hap:=hfree j oj hoj hji hjun (wg hr hall);rcases H.2 j (tB hj hji)with⟨hjp,h1⟩ |⟨rfl,h1⟩
   ·refine jn ⟨hjp,TK hC (λa' w' O7 h3=>ih (listed.setIfInBounds j fR) a' w' (S.set _ j inv hj hjp) (hfree.set hjun) (tB hr (Ne.symm hji)) O7 h3.1 ?_) (YK hoj hap (λcs b=>hsel i oi cs b hi) (λcs b=>hsel j oj cs b hoj) hy h1)⟩;rw[b5 _ _ hji];exact h3.2
   ·exact ij ⟨rfl,E9 hoj hap (λcs b=>hsel _ oj cs b hoj) h1⟩
theorem K6(S:Side P md ops es p D E ok Inv eB L){i:Nat}{oi:iz}(hi:ops[i]?=eK oi)(hoi:ok i=fR)(hEi:es.contains i=fR):∀(f:Nat) (listed:Array Bool) (a:Act) (w:tW),Inv listed->TL md ops i oi listed -> (∀j,es.contains j=fR->(i<j->listed.getD j fR=fj)/\(j<i->listed.getD j fR=fR)) -> i∈al md ops listed->ab oi (pw ops a.tmps)=fR->C w -> lL P oi a w (λv w'=>C w'/\jC P md ops C es p D E ok eB L f (listed.setIfInBounds i fR) (a.put oi.dst v) w')->jC P md ops C es p D E ok eB L (f+1) listed a w:=by
 have hsel:=cq S.sel
 have hno:∀(listed:Array Bool) (j:Nat),(∀j,es.contains j=fR->(i<j->listed.getD j fR=fj)/\(j<i->listed.getD j fR=fR))->i∈al md ops listed->j∈al md ops listed->j≠i->es.contains j=fj:=by
  intro listed j hinv hr hj hji;cases hc:es.contains j with
  |false=>rfl
  |true =>
   obtain⟨hjun,oj,hoj,hall⟩:=mem_ready.1 hj
   have hlt:i<j:=by
    rcases cy j i with h|h
    ·rw[(hinv j hc).2 h]at hjun;cases hjun
    ·omega
   obtain⟨p,hp,hip,hpj,oj',TM,e,he,hb,hon⟩:=tQ es S.ch i j (by simpa using hEi) (by simpa using hc) hlt;rw[hoj]at TM;cases TM;have h1:=hall e he hb;rw[hon]at h1;by_cases hpi:p=i
   ·subst hpi;exact absurd hon (wg hr hall e he hb)
   ·have h2:=(hinv p (by simpa using hp)).1 (by omega);rcases cy p listed.size with h'|h'
    ·simp[h']at h1 h2;rw[h2]at h1;cases h1
    ·simp[Array.getElem?_eq_none h']at h1
 have hnp:∀(listed:Array Bool) (j:Nat),es.contains j=fj->j∈al md ops listed->j≠p:=λlisted j hE hj e=>by
  subst e;rcases S.pe with h|h
  ·obtain⟨_,oj,hoj,_⟩:=mem_ready.1 hj;rw[h]at hoj;cases hoj
  ·rw[h]at hE;cases hE
 have hme:∀(K:Act->tW->Prop) (a:Act) (w:tW),ab oi (pw ops a.tmps)=fR->lL P oi a w (λv w'=>C w'/\K (a.put oi.dst v) w')->mOp P ops C es i K a w:=λK a w hw h=>by unfold mOp;simp only[hi,hw,if_true,hEi];exact h
 intro f;induction f with
 |zero =>
  intro listed a w inv _ hinv hr hw hC H;refine⟨λh=>(by rw[h]at hr;cases hr),λj hj=>?_⟩;by_cases hji:j=i
  ·subst hji;exact jn ⟨hoi,hme _ _ _ hw H⟩
  ·obtain⟨_,_,_,h2⟩:=yM H;exact absurd (S.done _ _ _ j h2.1 h2.2 (tB hj hji) (S.ins _ i j inv hr hoi hj)).1 (hnp _ j (hno listed j hinv hr hj hji) hj)
 |succ f ih =>
  intro listed a w inv hfree hinv hr hw hC H;refine⟨λh=>(by rw[h]at hr;cases hr),λj hj=>?_⟩;by_cases hji:j=i
  ·subst hji;exact jn ⟨hoi,hme _ _ _ hw H⟩
  ·have hEj:=hno listed j hinv hr hj hji;obtain⟨hjun,oj,hoj,hall⟩:=mem_ready.1 hj;obtain⟨h1,h2,h3⟩:=Oper.apart_spec (hfree j oj hoj hji hjun (wg hr hall));have abq:=λv w' (h':jC P md ops C es p D E ok eB L (f+1) (listed.setIfInBounds i true) (a.put oi.dst v) w')=>(h'.2 j (tB hj hji)).resolve_right λh4=>hnp _ j hEj hj h4.1;obtain⟨v0,w0,_,h0⟩:=yM H;have TM:=(abq v0 w0 h0).1
   have ac9:∀k,es.contains k=fR->(i<k->(listed.setIfInBounds j fR).getD k fR=fj)/\(k<i->(listed.setIfInBounds j fR).getD k fR=fR):=λk hk=>by
    have hjk:j≠k:=by rintro rfl;rw[hEj]at hk;cases hk
    rw[tA fR hjk];exact hinv k hk
   have key:∀u,(∀v w',C w'->jC P md ops C es p D E ok eB L (f+1) (listed.setIfInBounds i fR) (a.put oi.dst v) w'->jC P md ops C es p D E ok eB L f ((listed.setIfInBounds i fR).setIfInBounds j fR) ((a.put oi.dst v).put oj.dst u) w') ->
     jC P md ops C es p D E ok eB L (f+1) (listed.setIfInBounds j fR) (a.put oj.dst u) w:=λu hu=>by
    refine ih (listed.setIfInBounds j fR) (a.put oj.dst u) w (S.set _ j inv hj TM) (hfree.set hjun) ac9 (tB hr (Ne.symm hji)) (by rw[tj oi a oj.dst u h3];exact hw) hC ?_;unfold lL at *;rw[ux oi (λcs b=>hsel i oi cs b hi) a oj.dst u h3];refine ja (λv w' h'=>⟨h'.1,?_⟩) H;rw[b5 _ _ hji,<-Act.put_comm a v u h2];exact hu v w' h'.1 h'.2
   refine jn ⟨TM,?_⟩;cases hwj:ab oj (pw ops a.tmps)with
   |false =>refine yO hoj hwj (key kO λv w' _ h'=>?_);have h4:=(abq v w' h').2;unfold mOp at h4;simp only[hoj,tj oj a oi.dst v h1,hwj,ao,if_false]at h4;exact h4
   |true =>
    have abe:∀v w',jC P md ops C es p D E ok eB L (f+1) (listed.setIfInBounds i fR) (a.put oi.dst v) w'->∃u,(∀w,C w->iL P oj a w u)/\jC P md ops C es p D E ok eB L f ((listed.setIfInBounds i fR).setIfInBounds j fR) ((a.put oi.dst v).put oj.dst u) w':=λv w' h'=>by have h4:=(abq v w' h').2;unfold mOp at h4;simp only[hoj,tj oj a oi.dst v h1,hwj,if_true,hEj,ao,if_false]at h4;unfold iL at *;rw[ux oj (λcs b=>hsel j oj cs b hoj) a oi.dst v h1]at h4;exact h4
    obtain⟨u,hu,_⟩:=abe v0 w0 h0;refine jc.mOp hoj hEj (jn ⟨hwj,hu⟩) (key u λv w' _ h'=>?_);obtain⟨u',hu',hk⟩:=abe v w' h';rw[K5 (hu w hC) (hu' w hC)];exact hk
def lexX(md:Region.Mode)(ops:Array iz)(es:tLN)(ok:Nat->Bool)(eB:Array Bool->Bool):tLN->Array Bool->Bool
 |[],listed=>eB listed
 |k::ks,listed=>(al md ops listed).contains k&&Region.free md ops listed k&&ok k&&(!es.contains k||es.all (λj=>if k<j then !(listed.getD j fR)else if j<k then listed.getD j fR else fR))&&lexX md ops es ok eB ks (listed.setIfInBounds k fR)
def wpMixL(P:lj)(ops:Array iz)(C:tW->Prop)(es:tLN)(Q:Act->tW->Prop):tLN->Act->tW->Prop
 |[],a,w=>Q a w
 |k::rest,a,w=>match ops[k]? with
  |none=>False
  |some o=>if ab o (pw ops a.tmps)then
    (if es.contains k then lL P o a w (λv w'=>C w'/\wpMixL P ops C es Q rest (a.put o.dst v) w')
     else ∃v,(∀w,C w->iL P o a w v)/\wpMixL P ops C es Q rest (a.put o.dst v) w)
   else wpMixL P ops C es Q rest (a.put o.dst kO) w
theorem qD(S:Side P md ops es p D E ok Inv eB L):∀(l:tLN) (listed:Array Bool) (a:Act) (w:tW),Inv listed -> lexX md ops es ok eB l listed=fR->C w->wpMixL P ops C es L l a w->jC P md ops C es p D E ok eB L (eJ l) listed a w
 |[],listed,a,w,_,hB,_,h=>⟨hB,h⟩
 |k::l,listed,a,w,inv,hB,hC,h=>by
  simp only[lexX,ba]at hB;obtain⟨⟨⟨⟨hr,hf⟩,hkn⟩,hes⟩,hB'⟩:=hB;have hr':k∈al md ops listed:=by simpa using hr
  unfold wpMixL at h;cases h0:ops[k]? with
  |none=>rw[h0]at h;exact h.elim
  |some o =>
  simp only[h0]at h
  have go:=λa' w' O7 h' =>
   qD S l _ a' w' (S.set _ k inv hr' hkn) hB' O7 h'
  cases hw:ab o (pw ops a.tmps)with
  |false =>
   simp only[hw,ao,if_false]at h
   exact yP S h0 hkn (v:=kO) (λK a' w' O7 hy hk=>by
    cases hw':ab o (pw ops a'.tmps)with
    |false=>exact yO h0 hw' hk
    |true =>
     cases hE:es.contains k with
     |false=>exact hy.mOp h0 hE hk
     |true =>
      rcases hy with⟨_,hv⟩ |⟨hx,_⟩
      ·unfold mOp;simp only[h0,hw',if_true,hE];have h3:=hv w' O7;unfold iL at h3;unfold lL;generalize(oX a'.eval o).run P w'=r at *;cases r with
       |ok n w2 =>
        cases n<;>simp only[pureUpon]at h3<;>simp only[effUpon]
        case value u=>rw[h3.1,h3.2];exact⟨O7,hk⟩
        case skip=>rw[h3.1];exact⟨O7,hk⟩
       |halt x w2=>simp only[pureUpon]at h3
      ·rw[hw']at hx;cases hx) (eJ l) listed a w inv (b9 h0 hf) hr' hC (ij ⟨hw,rfl⟩) (go _ _ hC h)
  |true =>
   simp only[hw,if_true]at h;cases hE:es.contains k with
   |false =>simp only[hE,ao,if_false]at h;obtain⟨v,hv,hk⟩:=h;exact yP S h0 hkn (λK a' w' _ hy hk=>hy.mOp h0 hE hk) (eJ l) listed a w inv (b9 h0 hf) hr' hC (jn ⟨hw,hv⟩) (go _ _ hC hk)
   |true =>simp only[hE,if_true]at h;simp only[hE,Bool.not_true,Bool.false_or,List.all_eq_true]at hes;refine K6 S h0 hkn hE (eJ l) listed a w inv (b9 h0 hf) (λj hj=>?_) hr' hw hC (ja (λv w' h'=>⟨h'.1,go _ _ h'.1 h'.2⟩) h);have:=hes j (by simpa using hj);exact⟨λhkj=>by rw[iP9 hkj]at this;simpa using this,λhkj=>by rw[iN9 (by omega),iP9 hkj]at this;exact this⟩
def wpMix(P:lj)(ops:Array iz)(C:tW->Prop)(es:tLN)(Q:Act->tW->Prop):Nat->List iz->Act->tW->Prop
 |_,[],a,w=>Q a w
 |k,o::rest,a,w=>if ab o (pw ops a.tmps)then
   (if es.contains k then lL P o a w (λv w'=>C w'/\wpMix P ops C es Q (k+1) rest (a.put o.dst v) w')
    else ∃v,(∀w,C w->iL P o a w v)/\wpMix P ops C es Q (k+1) rest (a.put o.dst v) w)
  else wpMix P ops C es Q (k+1) rest (a.put o.dst kO) w
theorem Gf{Q:Act->tW->Prop}:∀(l:List iz) (k:Nat) (a:Act) (w:tW),(∀j,j<eJ l->l[j]?=ops[k+j]?)->wpMix P ops C es Q k l a w->wpMixL P ops C es Q (List.range' k (eJ l)) a w
 |[],_,_,_,_,h=>h
 |o::l,k,a,w,hl,h=>by
  have h0:ops[k]?=eK o:=by simpa using(hl 0 (by simp)).symm
  have ih:=λa w=>Gf (Q:=Q) l (k+1) a w (λj hj=>by have:=hl (j+1) (by simp;omega);simpa [Nat.add_assoc,Nat.add_comm 1 j]using this);rw[cN,List.range'_succ];unfold wpMix at h;unfold wpMixL;simp only[h0];split
  ·rename_i hw
   rw[iP9 hw]at h;split
   ·rename_i he;rw[iP9 he]at h;exact ja (λv w' h'=>⟨h'.1,ih _ _ h'.2⟩) h
   ·rename_i he;rw[iN9 he]at h;obtain⟨v,h1,h2⟩:=h;exact⟨v,h1,ih _ _ h2⟩
  ·rename_i hw;rw[iN9 hw]at h;exact ih _ _ h
theorem bQ{id:Nat}{Q:nB->Act->tW->Prop}{a:Act}{w:tW}{l:List iz}(es:tLN)(C:tW->Prop)(hm:P.follows .mixedOrders=fR)(hB:(cP l.toArray&&lexX .any l.toArray es (λ_=>fR) (λlisted=>(al .any l.toArray listed).isEmpty) (List.range' 0 (eJ l)) (Array.replicate l.toArray.size fj))=fR)(hc:chainB .any l.toArray es=fR)(hC:C w.drew)(h:wpMix P l.toArray C es (λa' w'=>Q .normal a' w') 0 l a w.drew):(Code.region id l.toArray fR).wp P Q a w:=by
 rw[ba]at hB
 have S:Side P .any l.toArray es l.toArray.size a.defers (λ_ _=>False) (λ_=>fR) (λ_=>True) (λlisted=>(al .any l.toArray listed).isEmpty) (λa' w'=>Q .normal a' w') :=
  ⟨hB.1,hc,jn (by simp),λ_ _ _ _ _=>trivial,λ_ _ _ _ _ _ _=>jn rfl,λlisted a w j h1 _ hj=>by rw[List.isEmpty_iff.1 h1]at hj;cases hj⟩
 refine wp_region_any hm ?_;have:=qC (g:=0) (Q:=Q) (λ_ _ _ _ h=>h.elim) (λlisted a w h1 h2=>⟨List.isEmpty_iff.1 h1,h2⟩) _ _ _ _ hC (qD (C:=C) S _ _ a w.drew trivial hB.2 hC (Gf l 0 a _ (by simp) h))
 simpa using this
theorem fC{o:iz}(hgd:o.guard=eL)(x:Nat->Option Bool):ab o x=fR:=by simp[ab,hgd]
theorem II(s:Sem fa)(w:tW)(f:lO)(args:tAV)(w':tW):(do pure (Next.value (<-s)):Sem rS).run P w≠.ok (.enter f args) w':=by intro h;rw[Sem.run_bind]at h;cases hr:s.run P w<;>rw[hr]at h<;>simp[Result.andThen]at h
theorem Gg(s:Sem Unit)(w:tW)(f:lO)(args:tAV)(w':tW):(do s;pure Next.skip:Sem rS).run P w≠.ok (.enter f args) w':=by intro h;rw[Sem.run_bind]at h;cases hr:s.run P w<;>rw[hr]at h<;>simp[Result.andThen]at h
def wh(o:iz):Bool:=match o.op with
 |.call _|.go _|.defer _|.nilCheck _|.pick .. | .send .. | .recv .. | .select ..=>fj
 |_=>fR
theorem Ez(o:iz)(h:wh o=fR)(ρ:pd->fa)(w:tW)(f:lO)(args:tAV)(w':tW):(oX ρ o).run P w≠.ok (.enter f args) w':=by
 cases hop:o.op<;>simp only[wh,hop]at h<;>simp only[oX,hop]<;>first
  |exact absurd h Bool.false_ne_true
  |exact II _ _ _ _ _
  |exact Gg _ _ _ _ _
  |simp
theorem xc{o:iz}{a:Act}(h:wh o=fR)(v:fa)(w:tW)(hq:o.quietAt P a C w v):iL P o a w v:=by
 have hn:=Ez (P:=P) o h a.eval w;unfold Oper.quietAt at hq;unfold iL;generalize(oX a.eval o).run P w=r at *;cases r with
 |ok n w' =>
  cases n<;>simp only[Oper.quietUpon]at hq<;>simp only[pureUpon]
  case value u=>exact hq
  case skip=>exact hq
  case enter f args=>exact hn f args w' rfl
 |halt x w'=>simp only[Oper.quietUpon]at hq
theorem ko{Q:Act->tW->Prop}{k:Nat}{o:iz}{rest:List iz}{a:Act}{w:tW}(hw:ab o (pw ops a.tmps)=fR)(hE:es.contains k=fj)(hp:wh o=fR)(h:∀K:Act->Prop,(∀a',wpMix P ops C es Q (k+1) rest a' w->K a')->o.quiet P a C K):wpMix P ops C es Q k (o::rest) a w:=by unfold wpMix;rw[iP9 hw,hE];obtain⟨v,h1,h2⟩:=h _ (λ_ h=>h);exact⟨v,λw hw=>xc hp v w (h1 w hw),h2⟩
theorem aG{Q:Act->tW->Prop}{k:Nat}{o:iz}{rest:List iz}{a:Act}{w:tW}(hgd:o.guard=eL)(hE:es.contains k=fj)(hp:wh o=fR)(h:∀K:Act->Prop,(∀a',wpMix P ops C es Q (k+1) rest a' w->K a')->o.quiet P a C K):wpMix P ops C es Q k (o::rest) a w:=ko (fC hgd _) hE hp h
theorem Fa{o:iz}{a:Act}{w:tW}{R:Act->tW->Prop}(h:∀K:Act->tW->Prop,(∀a' w',a'.defers=a.defers->C w'->R a' w'->K a' w')->o.wp P a w K (λ_ _ _=>False)):lL P o a w (λv w'=>C w'/\R (a.put o.dst v) w'):=by
 have h1:=h (λa' w'=>a'.defers=a.defers/\C w'/\R a' w') (λa' w' h1 h2 h3=>⟨h1,h2,h3⟩);unfold Oper.wp at h1;unfold lL;generalize(oX a.eval o).run P w=r at *;cases r with
 |ok n w' =>
  cases n<;>simp only[Oper.upon]at h1<;>simp only[effUpon]
  case value u=>exact h1.2
  case skip=>exact h1.2
  case defer d =>have h2:=h1.1;rw[Be]at h2;have:=congrArg cJ h2;simp at this
  case enter f args =>
   refine h1.mono λe w'' he=>?_;cases e with
   |returned v=>exact⟨v,rfl,he.2⟩
   |panicked c=>exact he.elim
   |outgrown=>obtain⟨_,_,hf⟩:=he;exact hf.elim
  case row row args=>exact h1.mono λv w'' he=>he.2
 |halt x w'=>cases x<;>simp only[Oper.upon]at h1
theorem tT{Q:Act->tW->Prop}{k:Nat}{o:iz}{rest:List iz}{a:Act}{w:tW}(hw:ab o (pw ops a.tmps)=fR)(hE:es.contains k=fR)(h:∀K:Act->tW->Prop,(∀a' w',a'.defers=a.defers->C w'->wpMix P ops C es Q (k+1) rest a' w'->K a' w')->o.wp P a w K (λ_ _ _=>False)):wpMix P ops C es Q k (o::rest) a w:=by unfold wpMix;rw[iP9 hw,iP9 hE];exact Fa h
theorem aH{Q:Act->tW->Prop}{k:Nat}{o:iz}{rest:List iz}{a:Act}{w:tW}(hgd:o.guard=eL)(hE:es.contains k=fR)(h:∀K:Act->tW->Prop,(∀a' w',a'.defers=a.defers->C w'->wpMix P ops C es Q (k+1) rest a' w'->K a' w')->o.wp P a w K (λ_ _ _=>False)):wpMix P ops C es Q k (o::rest) a w:=tT (fC hgd _) hE h
theorem o8{Q:Act->tW->Prop}{k:Nat}{o:iz}{rest:List iz}{a:Act}{w:tW}(hw:ab o (pw ops a.tmps)=fR)(hE:es.contains k=fj)(x:pd)(ad:kh)(ho:o.op=.nilCheck x)(hx:a.eval x=ia (eK ad))(h:wpMix P ops C es Q (k+1) rest (a.put o.dst (ia (eK ad))) w):wpMix P ops C es Q k (o::rest) a w:=by unfold wpMix;rw[iP9 hw,hE];refine⟨_,λw _=>?_,h⟩;unfold iL;simp only[oX,ho,hx];exact⟨rfl,rfl⟩
theorem dL{Q:Act->tW->Prop}{k:Nat}{o:iz}{rest:List iz}{a:Act}{w:tW}(hgd:o.guard=eL)(hE:es.contains k=fj)(x:pd)(ad:kh)(ho:o.op=.nilCheck x)(hx:a.eval x=ia (eK ad))(h:wpMix P ops C es Q (k+1) rest (a.put o.dst (ia (eK ad))) w):wpMix P ops C es Q k (o::rest) a w:=o8 (fC hgd _) hE x ad ho hx h
theorem bZ{Q:Act->tW->Prop}{k:Nat}{a:Act}{w:tW}(h:Q a w):wpMix P ops C es Q k [] a w:=h
end
def Sl(w:tW)(e:ju)(size:Nat)(v:fa)(n:Nat)(xs:tLV):Prop:=w.ownsRow 0 e size v n xs
section
variable {w w' : World} {e : ju} {size : Nat} {v : fa} {n : Nat} {xs : List fa} {S : Nat -> Prop}
theorem Sl.nil(w:tW)(e:ju)(size:Nat):Sl w e size (vN) 0 []:=World.ownsRow_nil w 0 e size
theorem Sl.ai(h:Sl w e size v n xs)(m:aa S w w')(hS:∀k,v.ownBlock=eK k->¬S k):Sl w' e size v n xs:=by
 refine⟨h.1,?_⟩;rcases h.2 with hn |⟨g,cap,cur,rfl,hb,hg,rest⟩
 ·exact jn hn
 ·exact ij ⟨g,cap,cur,rfl,hb,(m.block g (Array.getElem?_eq_some_iff.1 hg).1 (hS g rfl)).trans hg,rest⟩
theorem Sl.lt(h:Sl w e size v n xs)(k:Nat)(hk:v.ownBlock=eK k):k<w.heap.size:=(World.ownsRow.lt h k hk).2
theorem Sl.len(h:Sl w e size v n xs):eJ xs=n*size:=h.1
theorem Sl.view(h:Sl w e size v n xs):∃o cap,v=eS o n cap/\(0<n->∃g cs,o=eK ⟨g,0,eL⟩/\au w g cs e/\cs.toList.take (n*size)=xs/\n<=cap/\cap<=jz):=by
 rcases h.2 with⟨rfl,rfl⟩ |⟨g,cap,cur,rfl,_,hg,hn,hm,_,ht⟩
 ·exact⟨eL,0,rfl,λh=>absurd h (by omega)⟩
 ·exact⟨_,cap,rfl,λ_=>⟨g,cur,rfl,hg,ht,hn,hm⟩⟩
theorem aa.IJ{row:Option Nat}(h:w.grownBy w' row):aa (λk=>row=eK k) w w' :=
 ⟨h.os,h.tape,h.output,h.size,λk hk hs=>h.block k hk (λe=>hs e.symm)⟩
theorem xg{P:lj}(w:tW)(t ty e:ju)(i:pN)(z:fa)(size bytes:Nat)(ht:P.underlying t=eK (.slice e))(hi:P.info? e=eK i)(hz:i.zero=eK z)(hsize:i.size=size) (hby:i.bytes=bytes) (hzs:z.cells.size=size) (hsz:0<size)(v:fa) (n:Nat) (xs:tLV) (hown:Sl w e size v n xs)(a:kh) (m c:Nat) (news:tLV) (hl:eJ news=m*size) (hnews:∀j u,news[j]?=eK u->w.cell? (a.add j)=eK u) (h1:∀u∈news,u.oneCell'=fR)(h63:n+m<=jz) (hbytes:(n+m)*bytes<=140737488355328):∃v' w',(Builtin.append_ #[t,t] ty #[v,eS (eK a) m c]).run P w=.ok v' w'/\Sl w' e size v' (n+m) (xs++news)/\aa (λk=>v.ownBlock=eK k) w w' /\ (∀k,v'.ownBlock=eK k->v.ownBlock=eK k\/w.heap.size<=k):=by
 obtain⟨v',w',hr,h2,h3,_⟩:=BT (P:=P) w 0 t ty e i z size bytes ht hi hz hsize hby hzs hsz v n xs hown a m c news hl hnews h1 h63 hbytes (Nat.zero_le _);refine⟨v',w',hr,h2,aa.IJ h3,?_⟩;intro k hk;rcases hown.2 with⟨rfl,rfl⟩ |⟨g,cap,cur,rfl,_,hg,hn,hm,hcs,htk⟩
 ·obtain⟨v2,w2,hr2,h22,_⟩:=BT (P:=P) w w.heap.size t ty e i z size bytes ht hi hz hsize hby hzs hsz _ 0 xs ⟨hown.1,jn ⟨rfl,rfl⟩⟩ a m c news hl hnews h1 h63 hbytes (cI _);rw[hr]at hr2;cases hr2;exact ij (World.ownsRow.lt h22 k hk).1
 ·by_cases hroom:n+m<=cap
  ·have hfit:n*i.size+eJ news<=cur.size:=by rw[hl,hcs,hsize,<-bt];exact Nat.mul_le_mul_right _ hroom
   have hr2:=run_append_room (P:=P) w t ty e i ht hi g n cap cur hg a m c news (by rw[hl,hsize]) hnews h1 hroom hfit;rw[hr]at hr2;cases hr2;exact jn hk
  ·obtain⟨v2,w2,hr2,h22,_⟩:=run_append_arg_grows (P:=P) w t ty e i z size bytes ht hi hz hsize hby hzs hsz ⟨g,0,eL⟩ n cap xs hown.1 (World.ownsRow.cells hown (g:=g) rfl) a m c news hl hnews (by omega) h63 hbytes;rw[hr]at hr2;cases hr2;exact ij (World.ownsRow.lt h22 k hk).1
theorem fq{P:lj}(w:tW){o:iz}{a:Act}{K:Act->tW->Prop}{Q:nB->Act->tW->Prop}(s x:pd)(t:ju)(ho:o.op=.call {callee:=.builtin .append,args:=#[s,x],argTypes:=#[t,t]})(e:ju) (i:pN) (z:fa) (size bytes:Nat) (ht:P.underlying t=eK (.slice e)) (hi:P.info? e=eK i) (hz:i.zero=eK z)(hsize:i.size=size) (hby:i.bytes=bytes) (hzs:z.cells.size=size) (hsz:0<size)(v:fa) (n:Nat) (xs:tLV) (hs:a.eval s=v) (hown:Sl w e size v n xs)(ad:kh) (m c:Nat) (news:tLV) (hx:a.eval x=eS (eK ad) m c) (hl:eJ news=m*size) (hnews:∀j u,news[j]?=eK u->w.cell? (ad.add j)=eK u) (h1:∀u∈news,u.oneCell'=fR)(h63:n+m<=jz) (hbytes:(n+m)*bytes<=140737488355328)(h:∀v' w',Sl w' e size v' (n+m) (xs++news)->aa (λk=>v.ownBlock=eK k) w w'->(∀k,v'.ownBlock=eK k->v.ownBlock=eK k\/w.heap.size<=k)->K (a.put o.dst v') w'):o.wp P a w K Q:=by obtain⟨v',w',hr,h2,h3,h4⟩:=xg (P:=P) w t o.type e i z size bytes ht hi hz hsize hby hzs hsz v n xs hown ad m c news hl hnews h1 h63 hbytes;unfold Oper.wp oX;simp only[ho,resolve,invoke,builtin,Sem.run_bind,Sem.run_pure,Result.andThen_ok,List.map_toArray,cw,List.map_nil,hs,hx,hr];exact h v' w' h2 h3 h4
theorem aQ{P:lj}(w:tW){ops:Array iz}{rest:List iz}{o:iz}{a:Act}{Q:nB->Act->tW->Prop}(hgd:o.guard=eL)(s x:pd)(t:ju)(ho:o.op=.call {callee:=.builtin .append,args:=#[s,x],argTypes:=#[t,t]})(e:ju) (i:pN) (z:fa) (size bytes:Nat) (ht:P.underlying t=eK (.slice e)) (hi:P.info? e=eK i) (hz:i.zero=eK z)(hsize:i.size=size) (hby:i.bytes=bytes) (hzs:z.cells.size=size) (hsz:0<size)(v:fa) (n:Nat) (xs:tLV) (hs:a.eval s=v) (hown:Sl w e size v n xs)(ad:kh) (m c:Nat) (news:tLV) (hx:a.eval x=eS (eK ad) m c) (hl:eJ news=m*size) (hnews:∀j u,news[j]?=eK u->w.cell? (ad.add j)=eK u) (h1:∀u∈news,u.oneCell'=fR)(h63:n+m<=jz) (hbytes:(n+m)*bytes<=140737488355328)(h:∀v' w',Sl w' e size v' (n+m) (xs++news)->aa (λk=>v.ownBlock=eK k) w w'->(∀k,v'.ownBlock=eK k->v.ownBlock=eK k\/w.heap.size<=k)->n9 P ops Q rest (a.put o.dst v') w'):n9 P ops Q (o::rest) a w :=
 wpList_plain hgd λ_ hK=>fq w s x t ho e i z size bytes ht hi hz hsize hby hzs hsz v n xs hs hown ad m c news hx hl hnews h1 h63 hbytes λv' w' h2 h3 h4=>hK _ _ (h v' w' h2 h3 h4)
end
theorem flat_get{α:Type}(f:α->tLV)(c:Nat)(hf:∀x,eJ (f x)=c):∀(l:List α) (i j:Nat) (hi:i<eJ l),j<c->(l.flatMap f)[i*c+j]?=(f l[i])[j]?
 |x::l,0,j,_,hj=>by rw[ar,List.getElem?_append_left (by rw[hf];omega)];simp
 |x::l,i+1,j,hi,hj=>by
  rw[ar,List.getElem?_append_right (by rw[hf,bt];omega),hf];have:(i+1)*c+j-c=i*c+j:=by rw[bt];omega
  rw[this,flat_get f c hf l i j (by simpa using hi) hj];simp
theorem TN{α:Type}(f:α->tLV)(c:Nat)(hf:∀x,eJ (f x)=c)(l:List α):eJ (l.flatMap f)=eJ l*c:=by
 induction l with
 |nil=>simp
 |cons x l ih=>rw[ar,List.length_append,hf,ih,cN,bt];omega
theorem aV{w:tW}{g:Nat}{cs:tAV}{e:ju}{k:Nat}{xs:tLV}(hb:au w g cs e)(ht:cs.toList.take k=xs)(j:Nat)(hj:j<k):w.cell? ⟨g,j,eL⟩=xs[j]?:=by rw[hb.cell j,<-ht,List.getElem?_take,iP9 hj];simp
theorem iO{α:Type}(f:α->tLV)(c:Nat)(hf:∀x,eJ (f x)=c):∀(l:List α) (k j:Nat) (hk:k<eJ l) (_:j<c) (v:fa) (y:α) (_:(f l[k]).set j v=f y),(l.flatMap f).set (k*c+j) v=(l.set k y).flatMap f
 |x::l,0,j,_,hj,v,y,hy=>by have hl:=hf x;simp only[List.getElem_cons_zero]at hy;rw[ar,cG,ar,<-hy,Nat.zero_mul,cD,List.set_append,iP9 (by omega)]
 |x::l,k+1,j,hk,hj,v,y,hy=>by
  have hl:=hf x;have e:(k+1)*c+j=c+(k*c+j):=by rw[bt];omega
  rw[ar,cH,ar,<-iO f c hf l k j (by simpa using hk) hj v y (by simpa using hy),List.set_append,iN9 (by omega),e,hl,show c+(k*c+j)-c=k*c+j by omega]
theorem Sl.aA{w:tW}{e e':ju}{size n k:Nat}{v:fa}{xs:tLV}{cs:tAV}(h:Sl w e size v n xs)(hb:au w k cs e')(he:e≠e'):v.ownBlock≠eK k:=by
 intro hk;rcases h.2 with⟨rfl,rfl⟩ |⟨g,cap,cur,rfl,_,hg,_⟩
 ·cases hk
 ·cases hk;unfold au at hb;rw[hg]at hb;cases hb;exact he rfl
theorem Sl.apart{w:tW}{e e':ju}{size size' n n' k:Nat}{v v':fa}{xs xs':tLV}(h:Sl w e size v n xs)(h':Sl w e' size' v' n' xs')(he:e≠e')(hk:v.ownBlock=eK k):v'.ownBlock≠eK k:=by
 rcases h.2 with⟨rfl,rfl⟩ |⟨g,cap,cur,rfl,_,hg,_⟩
 ·cases hk
 ·cases hk;exact h'.aA hg (Ne.symm he)
def nameB(l:tLB):Bool :=
 decide (eJ l<=16)&&(match l with | []=>fj|c::_=>tO (c.toNat:Int))&&l.all (λc=>yL (c.toNat:Int))
theorem tU{s:tBA}(h:0<s.size):s.toList.isEmpty=fj:=by rw[ByteArray.toList_eq,List.isEmpty_eq_false_iff_exists_mem];exact⟨s.data[0]'h,by simp⟩
theorem sK{s:tBA}(h:s.size=0):s.toList.isEmpty=fR:=by rw[ByteArray.toList_eq];have :=bj h;simp[this]
theorem TP{s:tBA}(h:0<s.size):nameB s.data.toList=(decide (s.size<=16)&&tO (s[0].toNat:Int)&&s.data.toList.all (λc=>yL (c.toNat:Int))):=by
 have e:s.data.toList=s[0]::s.data.toList.tail:=by
  have:s.data.toList≠[]:=by intro h';have:=congrArg cJ h';simp at this;have h2:s.size=s.data.size:=rfl;rw[h2,this]at h;simp at h
  conv=>lhs;rw[<-List.cons_head_tail this]
  congr 1;rw[List.head_eq_getElem];rfl
 have hl:eJ s.data.toList=s.size:=by simp
 unfold nameB;rw[hl]
 conv=>lhs;rw[e]
 conv=>rhs;rw[e]
theorem K7{s:tBA}(h:s.size=0):nameB s.data.toList=fj:=by have :=bj h;simp[this,nameB]
theorem O8(s:tBA)(k:Nat)(h:k<s.size):s.data.toList.take (k+1)=s.data.toList.take k++[s[k]]:=by rw[List.take_succ_eq_append_getElem (by simpa using h)];rfl
theorem K8{s:tBA}{p:UInt8->Bool}{k:Nat}(h:k<s.size)(hp:p s[k]=fj):s.data.toList.all p=fj:=by rw[List.all_eq_false];exact⟨s[k],by rw[<-Array.mem_def];exact Array.getElem_mem h,by simp[hp]⟩
theorem tV{a b:Bool}(h:a=b):Ending.returned (.bool a)=fW (.bool b):=by rw[h]
def T(l:tLB):tBA:=⟨l.toArray⟩
def placeM(s:tBA):List tBA->Int
 |[]=>-1
 |x::l=>if x=s then 0 else if placeM s l<0 then -1 else placeM s l+1
theorem tX(s:tBA):∀(l:List tBA),(∀j,(hj:j<eJ l)->l[j]≠s)->placeM s l=-1
 |[],_=>rfl
 |x::l,h=>by have h0:x≠s:=h 0 (by simp);have ih:=tX s l (λj hj=>h (j+1) (by simp;omega));simp[placeM,h0,ih]
theorem zU(s:tBA):∀(l:List tBA) (k:Nat) (hk:k<eJ l),(∀j,(hj:j<eJ l)->j<k->l[j]≠s)->l[k]=s->placeM s l=k
 |x::l,0,_,_,h=>by simp at h;simp[placeM,h]
 |x::l,k+1,hk,h,he=>by have h0:x≠s:=h 0 (by simp) (by omega);have ih:=zU s l k (by simpa using hk) (λj hj hjk=>h (j+1) (by simp;omega) (by omega)) (by simpa using he);simp[placeM,h0,ih];omega
theorem toList_inj{a b:tBA}(h:a.toList=b.toList):a=b:=by rw[ByteArray.toList_eq,ByteArray.toList_eq]at h;cases a;cases b;simpa using h
theorem tY{a b:tBA}(h:a≠b):(a.toList==b.toList)=fj:=by rw[beq_eq_false_iff_ne];exact λe=>h (toList_inj e)
theorem Gh{a b:tBA}(h:a=b):(a.toList==b.toList)=fR:=by simp[h]
theorem dD{a b:Int}(h:a=b):Ending.returned (vI a)=fW (vI b):=by rw[h]
def BL(b:tBA):tLB:=b.data.toList
theorem YL(b:tBA):T (BL b)=b:=rfl
theorem TQ(b:tBA):eJ (BL b)=b.size:=rfl
theorem aa.of_nil{S:Nat->Prop}{w w':tW}(h:aa af w w'):aa S w w':=h.mono (λ_ _ e=>e.elim)
theorem tZ{a:tBA}{l:tLB}(h:a≠T l):(a.toList==l)=fj:=by have:=tY h;simpa [T]using this
theorem xO{a:tBA}{l:tLB}(h:a=T l):(a.toList==l)=fR:=by rw[h];simp[T]
theorem TR{a b:tBA}(h:a≠b):(a==b)=fj:=by
 cases c:(a==b)with
 |false=>rfl
 |true=>exact absurd ((MapKept.bytes_beq a b).1 c) h
theorem yQ(a:tBA):(a==a)=fR:=(MapKept.bytes_beq a a).2 rfl
def kvFind(s:tBA):List (tBA×fa)->Nat->Option (Nat×fa)
 |[],_=>eL
 |(k,v)::l,i=>if s==k then eK (i,v)else kvFind s l (i+1)
def K9(e:xb):fa×fa:=(e.key,e.val)
def kvC(p:tBA×fa):fa×fa:=(eR p.1,p.2)
theorem kY(s:tBA):∀(l:List xb) (kv:List (tBA×fa)) (i:Nat),l.map K9=kv.map kvC->Instr.findNow .string (eR s) l i=eK (kvFind s kv i)
 |[],[],_,_=>rfl
 |[],_::_,_,h=>by simp at h
 |_::_,[],_,h=>by simp at h
 |e::l,(k,v)::kv,i,h=>by
  rw[cw,cw]at h;injection h with h1 h2;injection h1 with h3 h4;unfold Instr.findNow kvFind;rw[h3];simp only[Instr.sameNow];by_cases c:(s==k)=fR
  ·rw[c];simp only[if_true];rw[h4]
  ·have c':(s==k)=fj:=by simpa using c
   rw[c'];simp only[ao,if_false];exact kY s l kv (i+1) h2
theorem qE(s:tBA):∀(kv:List (tBA×fa)) (i:Nat),(kvFind s kv i).map (·.2)=(kv.find? (λp=>s==p.1)).map (·.2)
 |[],_=>rfl
 |(k,v)::kv,i=>by
  unfold kvFind;rw[List.find?_cons];by_cases c:(s==k)=fR
  ·simp[c]
  ·have c':(s==k)=fj:=by simpa using c
   simp only[c',ao,if_false];exact qE s kv (i+1)
def MapOf(w:tW)(b:Nat)(f:tBA->Option fa):Prop:=∃(es:Array xb) (clock:Nat) (kv:List (tBA×fa)),w.heap[b]?=eK (.map es clock)/\es.toList.map K9=kv.map kvC/\∀s,(kv.find? (λp=>s==p.1)).map (·.2)=f s
theorem MapOf.new(w:tW):MapOf (w.alloc (.map #[] 0)) w.heap.size (λ_=>eL):=⟨#[],0,[],tR w _,rfl,λ_=>rfl⟩
theorem MapOf.lt{w:tW}{b:Nat}{f:tBA->Option fa}(h:MapOf w b f):b<w.heap.size:=by obtain⟨_,_,_,hb,_⟩:=h;exact(Array.getElem?_eq_some_iff.1 hb).1
theorem MapOf.ai{w w':tW}{b:Nat}{f:tBA->Option fa}{S:Nat->Prop}(h:MapOf w b f)(m:aa S w w')(hS:¬S b):MapOf w' b f:=by have hl:=h.lt;obtain⟨es,clock,kv,hb,h2⟩:=h;exact⟨es,clock,kv,(m.block b hl hS).trans hb,h2⟩
theorem MapOf.aA{w:tW}{b g:Nat}{f:tBA->Option fa}{cs:tAV}{t:ju}(h:MapOf w b f)(hb:au w g cs t):g≠b:=by intro e;subst e;obtain⟨_,_,_,h1,_⟩:=h;have:w.heap[g]?=eK (.cells cs t (0,0)):=hb;rw[h1]at this;cases this
theorem MapOf.lookup{P:lj}{w:tW}{b:Nat}{f:tBA->Option fa}(h:MapOf w b f){t kt et:ju}(hm:P.underlying t=eK (.map kt et))(hk:P.underlying kt=eK .string){z:fa}(hz:(zeroValue et).run P w=.ok z w)(s:tBA):(Instr.lookup t (.map (eK b)) (eR s) fR).run P w=.ok (.tuple #[(f s).getD z,.bool (f s).isSome]) w:=by
 obtain⟨es,clock,kv,hb,he,hf⟩:=h;have hc:(Instr.checkKey es.isEmpty 10000 kt (eR s)).run P w=.ok () w:=MapKept.run_checkKey (k:=eR s) hk (by simp[MapKept.IsKey]) _ 9999;have hfn:=MapKept.run_findKey (P:=P) (w:=w) hk (kY s es.toList kv 0 he);have hv:=qE s kv 0;rw[hf s]at hv;unfold Instr.lookup;simp only[Sem.run_bind,pB hm,MapKept.run_getObj_map hb,hc,hfn,Result.andThen,Sem.run_pure];cases hq:kvFind s kv 0 with
 |none =>rw[hq]at hv;rw[<-hv];simp[hz,Result.andThen]
 |some q =>rw[hq]at hv;rw[<-hv];simp
theorem zV(s:tBA):∀(kv:List (tBA×fa)) (i j:Nat) (v:fa),kvFind s kv i=eK (j,v)->∃n,j=i+n/\n<eJ kv/\(∃v',kv[n]?=eK (s,v'))/\∀u s',((kv.set n (s,u)).find? (λp=>s'==p.1)).map (·.2)=if s'=s then eK u else(kv.find? (λp=>s'==p.1)).map (·.2)
 |[],_,_,_,h=>by simp[kvFind]at h
 |(k,w)::kv,i,j,v,h=>by
  unfold kvFind at h;by_cases c:(s==k)=fR
  ·rw[iP9 c]at h;cases h;have e:=(MapKept.bytes_beq s k).1 c;subst e;refine⟨0,rfl,by simp,⟨w,rfl⟩,λu s'=>?_⟩;rw[cG,List.find?_cons,List.find?_cons];by_cases d:s'=s
   ·subst d;simp[yQ]
   ·have d':=TR d;simp only[d',iN9 d]
  ·rw[iN9 c]at h;obtain⟨n,e,hn,⟨v',hv'⟩,hs⟩:=zV s kv (i+1) j v h;refine⟨n+1,by omega,by simpa using hn,⟨v',by simpa using hv'⟩,λu s'=>?_⟩;rw[cH,List.find?_cons,List.find?_cons];by_cases d:(s'==k)=fR
   ·have e:=(MapKept.bytes_beq s' k).1 d;subst e;have:s'≠s:=λe=>c (by rw[e];exact yQ _);simp[this,yQ]
   ·have d':(s'==k)=fj:=by simpa using d
    simp only[d'];exact hs u s'
theorem ue(s:tBA):∀(kv:List (tBA×fa)) (i:Nat),kvFind s kv i=eL->kv.find? (λp=>s==p.1)=eL
 |[],_,_=>rfl
 |(k,w)::kv,i,h=>by
  unfold kvFind at h;by_cases c:(s==k)=fR
  ·rw[iP9 c]at h;cases h
  ·rw[iN9 c]at h;have c':(s==k)=fj:=by simpa using c
   rw[List.find?_cons];simp only[c'];exact ue s kv (i+1) h
theorem MapOf.update{P:lj}{w:tW}{b:Nat}{f:tBA->Option fa}(h:MapOf w b f){t kt et:ju}(hm:P.underlying t=eK (.map kt et))(hk:P.underlying kt=eK .string)(s:tBA)(u:fa):∃w',(Instr.mapUpdate t (.map (eK b)) (eR s) u).run P w=.ok () w'/\MapOf w' b (λs'=>if s'=s then eK u else f s')/\aa (λk=>k=b) w w':=by
 obtain⟨es,clock,kv,hb,he,hf⟩:=h;have hlt:=(Array.getElem?_eq_some_iff.1 hb).1;have hc:(Instr.checkKey fj 10000 kt (eR s)).run P w=.ok () w:=MapKept.run_checkKey (k:=eR s) hk (by simp[MapKept.IsKey]) _ 9999;have hfn:=MapKept.run_findKey (P:=P) (w:=w) hk (kY s es.toList kv 0 he);have IK:∀o:Obj,aa (λk=>k=b) w {w with heap:=w.heap.setIfInBounds b o}:=λo=>⟨rfl,rfl,rfl,by simp,λk _ hn=>(MapKept.heap_set hb).2 k hn⟩
 cases hq:kvFind s kv 0 with
 |none =>
  rw[hq]at hfn;refine⟨{w with heap:=w.heap.setIfInBounds b (.map (es.push {key:=eR s,val:=u,born:=clock}) (clock+1))},?_,⟨_,_,kv++[(s,u)],(MapKept.heap_set hb).1,?_,λs'=>?_⟩,IK _⟩
  ·unfold Instr.mapUpdate;simp[pB hm,MapKept.run_getObj_map hb,hc,hfn,MapKept.run_setObj_map _ hb,Result.andThen]
  ·simp[he,K9,kvC]
  ·have hn:=ue s kv 0 hq;rw[List.find?_append];by_cases d:s'=s
   ·subst d;rw[hn];simp[yQ]
   ·have d':=TR d;show _=if s'=s then eK u else f s'
    rw[iN9 d,<-hf s'];cases kv.find? (λp=>s'==p.1)with
    |none=>simp[d']
    |some q=>simp
 |some q =>
  obtain⟨j,v⟩:=q;rw[hq]at hfn;obtain⟨n,e,hn,⟨v',hv'⟩,hs⟩:=zV s kv 0 j v hq;rw[cD]at e;subst e;have hjl:j<es.size:=by have:=congrArg cJ he;simp at this;omega
  have hej:K9 es[j]=kvC (s,v'):=by
   have:=congrArg (λl:List (fa×fa)=>l[j]?) he;simp only[List.getElem?_map,hv',cW]at this;rw[Array.getElem?_toList,Array.getElem?_eq_getElem hjl]at this
   simpa using this
  have hkey:es[j].key=eR s:=congrArg Prod.fst hej;have hst:(Instr.keyThatStays (((es[j]?).map (·.key)).getD (eR s)) (eR s)).run P w=.ok (eR s) w:=by rw[Array.getElem?_eq_getElem hjl,cW,Option.getD_some,hkey];exact MapKept.run_keyThatStays (d:=.string) (by simp[MapKept.IsKey])
  refine⟨{w with heap:=w.heap.setIfInBounds b (.map (es.modify j λe=>{e with key:=eR s,val:=u}) clock)},?_,⟨_,_,kv.set j (s,u),(MapKept.heap_set hb).1,?_,λs'=>?_⟩,IK _⟩
  ·unfold Instr.mapUpdate;simp[pB hm,MapKept.run_getObj_map hb,hc,hfn,hst,MapKept.run_setObj_map _ hb,Result.andThen]
  ·rw[List.map_set,<-he];refine List.ext_getElem (by simp) λt h1 h2=>?_;simp only[List.getElem_map,Array.getElem_toList,Array.getElem_modify,List.getElem_set];split
   ·rfl
   ·rfl
  ·rw[hs u s',hf s']
theorem Sl.at{w:tW}{e:ju}{v:fa}{n:Nat}{xs:tLV}{o:Option kh}{cap:Nat}(h:Sl w e 1 v n xs)(hv:v=eS o n cap):∀k,k<n->∃g,o=eK ⟨g,0,eL⟩/\∀j,j<n->w.cell? ⟨g,j,eL⟩=xs[j]?:=by intro k hk;obtain⟨o',cap',rfl,h2⟩:=h.view;cases hv;obtain⟨g,cs,rfl,hb,ht,_⟩:=h2 (by omega);exact⟨g,rfl,λj hj=>aV hb ht j (by omega)⟩
theorem di(l:tLB):(T l).size=eJ l:=by simp[T,ByteArray.size]
theorem Fb(l m:tLB):T l++T m=T (l++m):=by apply ByteArray.ext;simp[T]
abbrev E0:tBA:={data:=#[]}
theorem au.jB{w:tW}{b:Nat}{v0 v1 v2 v3 v4 v5 v6 v7:fa}{t:ju}(h:au w b #[v0,v1,v2,v3,v4,v5,v6,v7] t):w.cell? ⟨b,0,eL⟩=eK v0/\w.cell? ⟨b,1,eL⟩=eK v1/\w.cell? ⟨b,2,eL⟩=eK v2/\w.cell? ⟨b,3,eL⟩=eK v3/\w.cell? ⟨b,4,eL⟩=eK v4/\w.cell? ⟨b,5,eL⟩=eK v5/\w.cell? ⟨b,6,eL⟩=eK v6/\w.cell? ⟨b,7,eL⟩=eK v7 :=
 ⟨h.cell 0,h.cell 1,h.cell 2,h.cell 3,h.cell 4,h.cell 5,h.cell 6,h.cell 7⟩
theorem au.uf{w:tW}{z:Nat}{t:ju}{v0 v1 v2 v3 v4 v5 v6 v7:fa}(h:au w z #[v0,v1,v2,v3,v4,v5,v6,v7] t)(a0 a1 a2 a3 a4 a5 a6 a7:fa):au ((((((((w.setCell ⟨z,0,eL⟩ a0).setCell ⟨z,1,eL⟩ a1).setCell ⟨z,2,eL⟩ a2).setCell ⟨z,3,eL⟩ a3).setCell ⟨z,4,eL⟩ a4).setCell ⟨z,5,eL⟩ a5).setCell ⟨z,6,eL⟩ a6).setCell ⟨z,7,eL⟩ a7) z #[a0,a1,a2,a3,a4,a5,a6,a7] t:=by have h0:au (w.setCell ⟨z,0,eL⟩ a0) z #[a0,v1,v2,v3,v4,v5,v6,v7] t:=h.set 0 a0;have h1:au ((w.setCell ⟨z,0,eL⟩ a0).setCell ⟨z,1,eL⟩ a1) z #[a0,a1,v2,v3,v4,v5,v6,v7] t:=h0.set 1 a1;have h2:au (((w.setCell ⟨z,0,eL⟩ a0).setCell ⟨z,1,eL⟩ a1).setCell ⟨z,2,eL⟩ a2) z #[a0,a1,a2,v3,v4,v5,v6,v7] t:=h1.set 2 a2;have h3:au ((((w.setCell ⟨z,0,eL⟩ a0).setCell ⟨z,1,eL⟩ a1).setCell ⟨z,2,eL⟩ a2).setCell ⟨z,3,eL⟩ a3) z #[a0,a1,a2,a3,v4,v5,v6,v7] t:=h2.set 3 a3;have h4:au (((((w.setCell ⟨z,0,eL⟩ a0).setCell ⟨z,1,eL⟩ a1).setCell ⟨z,2,eL⟩ a2).setCell ⟨z,3,eL⟩ a3).setCell ⟨z,4,eL⟩ a4) z #[a0,a1,a2,a3,a4,v5,v6,v7] t:=h3.set 4 a4;have h5:au ((((((w.setCell ⟨z,0,eL⟩ a0).setCell ⟨z,1,eL⟩ a1).setCell ⟨z,2,eL⟩ a2).setCell ⟨z,3,eL⟩ a3).setCell ⟨z,4,eL⟩ a4).setCell ⟨z,5,eL⟩ a5) z #[a0,a1,a2,a3,a4,a5,v6,v7] t:=h4.set 5 a5;have h6:au (((((((w.setCell ⟨z,0,eL⟩ a0).setCell ⟨z,1,eL⟩ a1).setCell ⟨z,2,eL⟩ a2).setCell ⟨z,3,eL⟩ a3).setCell ⟨z,4,eL⟩ a4).setCell ⟨z,5,eL⟩ a5).setCell ⟨z,6,eL⟩ a6) z #[a0,a1,a2,a3,a4,a5,a6,v7] t:=h5.set 6 a6;have h7:au ((((((((w.setCell ⟨z,0,eL⟩ a0).setCell ⟨z,1,eL⟩ a1).setCell ⟨z,2,eL⟩ a2).setCell ⟨z,3,eL⟩ a3).setCell ⟨z,4,eL⟩ a4).setCell ⟨z,5,eL⟩ a5).setCell ⟨z,6,eL⟩ a6).setCell ⟨z,7,eL⟩ a7) z #[a0,a1,a2,a3,a4,a5,a6,a7] t:=h6.set 7 a7;exact h7
theorem aa.uf{S:Nat->Prop}{w0 w:tW}{z:Nat}(h:aa S w0 w)(hz:S z\/w0.heap.size<=z)(a0 a1 a2 a3 a4 a5 a6 a7:fa):aa S w0 ((((((((w.setCell ⟨z,0,eL⟩ a0).setCell ⟨z,1,eL⟩ a1).setCell ⟨z,2,eL⟩ a2).setCell ⟨z,3,eL⟩ a3).setCell ⟨z,4,eL⟩ a4).setCell ⟨z,5,eL⟩ a5).setCell ⟨z,6,eL⟩ a6).setCell ⟨z,7,eL⟩ a7) :=
 (((((((h.set (a:=⟨z,0,eL⟩) hz a0).set (a:=⟨z,1,eL⟩) hz a1).set (a:=⟨z,2,eL⟩) hz a2).set (a:=⟨z,3,eL⟩) hz a3).set (a:=⟨z,4,eL⟩) hz a4).set (a:=⟨z,5,eL⟩) hz a5).set (a:=⟨z,6,eL⟩) hz a6).set (a:=⟨z,7,eL⟩) hz a7
theorem ay{P:lj}{fn:Func}{p u:Tmp}{ty:ju}(h:fn.results=#[.cell p ty,.tmp u])(tmps:tAV)(w:tW)(g:Nat)(t:ju)(cs:tAV)(fr:Nat×Nat)(d:TypeDesc)(v:fa)(hp:tmps.getD p kO=vP g) (hv:tmps.getD u kO=v) (hg:w.heap[g]?=eK (.cells cs t fr))(hu:P.underlying ty=eK d) (hd:(match d with|.struct _|.array _ _=>fR|_=>fj)=fR) (hi:(P.info? ty).map (·.size)=eK cs.size):(results fn tmps).run P w=.ok (.tuple #[.agg cs,v]) w:=by rw[results_cell_tmp h,hp,hv];simp[asAddr,run_loadVar_row w g t ty cs fr d hg hu hd hi]
