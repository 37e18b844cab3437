import Derived.Test.YtekmhcbefnmflaaGreatDoorProg
import Derived.WalkSpells
import Derived.WalkLawsBesides
import Derived.BigQuiet
import Derived.StillTailTactics
import Derived.Deep.RegionLaw
namespace Go.Proofs.YtekmhcbefnmflaaGreatDoor
open Go.RowKit Tryz
open _root_.Array renaming eq_empty_of_size_eq_zero->b5,setIfInBounds_comm->cb
open Bool renaming false_eq_true->ao,and_eq_true->bh,false->eE,true->eJ
open List renaming flatMap_cons->ar,mem_cons_of_mem->cx,map_cons->cD,set_cons_zero->cN,set_cons_succ->cQ,length->cW,length_cons->cX,length->ee
open Nat renaming add_mul->b9,zero_le->cw,lt_of_lt_of_le->cG,lt_or_ge->cH,zero_add->cI,le_refl->cR
open Option renaming map_some->de,some->eC,none->ez
open Region renaming wanted->ab,ready->an,binds->bt,free_spec->cj,noSelect_spec->cy,noSelect->cY
open Decidable renaming decide->eS
open Ending renaming returned->fR
open Obj renaming cells->eR
open Value renaming bool->fS,string->eI,pointer->ia,slice->eK
open _root_.Go renaming Calls->fL,TypeId->gh,Value->eM,Addr->ju,heap_alloc_new->sx,maxLen->fX,Program->jz,Exit->mL,Oper->fY,wpQuiet->sR,FuncId->kO,execOp->mS,wpList->nB,Deferred->sT,PanicEntry->pP,Result->sX,Next->pZ,undef->kh,yielded->oE,wanted_put->rI,execOp_put->tj,getD_set_ne->rL,ready_mono->rN,Operand->oR,TypeInfo->pw,run_append_own->AE,MapEntry->tS,run_underlying->pB
set_option linter.all false
set_option maxRecDepth 100000
set_option maxHeartbeats 1000000
abbrev tLN:=List Nat
abbrev tLV:=List Value
abbrev vI(x:Int):Value:=.int .i64 x
abbrev vU(x:Int):Value:=.int .u64 x
abbrev vB(x:Int):Value:=.int .u8 x
abbrev vJ(x:Int):Value:=.int .i32 x
abbrev vN:Value:=.slice none 0 0
abbrev vO:Value:=.pointer none
abbrev vP(b:Nat):Value:=.pointer (some ⟨b,0,none⟩)
abbrev tLB:=List UInt8
abbrev tAV:=Array Value
abbrev tBA:=ByteArray
abbrev tW:=World
def af(p:Prop):Prop:=p
theorem af.gm{p:Prop}(h:af p):p:=h
theorem af.o{p:Prop}(h:af p):p:=h
theorem ai{p:Prop}(h:p):af p:=h
theorem sA9{α:Type}{l:List α}{i:Nat}{a:α}:l.toArray.setIfInBounds i a=(l.set i a).toArray:=List.setIfInBounds_toArray ..
theorem sB9{α:Type}{x a:α}{l:List α}{i:Nat}:(x::l).set (i+1) a=x::l.set i a:=rfl
theorem iP9{c:Prop}{h:Decidable c}(hc:c){α:Sort _}{t e:α}:ite c t e=t:=if_pos hc
theorem iN9{c:Prop}{h:Decidable c}(hc:¬c){α:Sort _}{t e:α}:ite c t e=e:=if_neg hc
theorem sC9{α:Type}{x a:α}{l:List α}:(x::l).set 0 a=a::l:=rfl
def kK(c:Int):Bool:=eS (97<=c)&&eS (c<=122)
def kL(c:Int):Bool:=eS (48<=c)&&eS (c<=57)
def pR(c:Int):Bool:=kL c||kK c||(c==95)
theorem O7(c:Int)(w:tW):fL prog 279 #[vB c] w λe w'=>e=fR (fS (kL c))/\w'=w:=by
 by_cases h1:48<=c
 ·go_in;go_wp2;go_ret;exact⟨by simp[kL,h1],rfl⟩
 ·go_in;go_wp2;go_ret;exact⟨by simp[kL];omega,rfl⟩
theorem vk(c:Int)(w:tW):fL prog 166 #[vB c] w λe w'=>e=fR (fS (kK c))/\w'=w:=by
 by_cases h1:97<=c
 ·go_in;go_wp2;go_ret;exact⟨by simp[kK,h1],rfl⟩
 ·go_in;go_wp2;go_ret;exact⟨by simp[kK];omega,rfl⟩
theorem Ic(c:Int)(w:tW):fL prog 167 #[vB c] w λe w'=>e=fR (fS (pR c))/\w'=w:=by
 cases hd:kL c<;>cases hs:kK c
 all_goals
  go_in;go_wp2_with (first |(go_at_call 279;refine(O7 _ _).mono ?_;rintro e w' ⟨rfl,rfl⟩) |(go_at_call 166;refine(vk _ _).mono ?_;rintro e w' ⟨rfl,rfl⟩));go_ret;exact⟨by simp[pR,hd,hs],rfl⟩
def ak(w:tW)(b:Nat)(cs:tAV)(t:gh):Prop:=w.heap[b]?=eC (eR cs t (0,0))
structure aa(S:Nat->Prop)(w w':tW):Prop where
 os:w'.os=w.os
 tape:w'.tape=w.tape
 output:w'.output=w.output
 size:w.heap.size<=w'.heap.size
 block:∀k,k<w.heap.size->¬S k->w'.heap[k]?=w.heap[k]?
section
variable {w w' w'' : World} {b : Nat} {cs : Array Value} {t : gh} {S S' : Nat -> Prop}
theorem ak.cell(h:ak w b cs t)(i:Nat):w.cell? ⟨b,i,ez⟩=cs[i]?:=by simp[World.cell?,show w.heap[b]?=eC (eR cs t (0,0))from h]
theorem ak.c0{x0:eM}{l:tLV}(h:ak w b (x0::l).toArray t):w.cell? ⟨b,0,ez⟩=eC x0:=by rw[h.cell];rfl
theorem ak.c1{x0 x1:eM}{l:tLV}(h:ak w b (x0::x1::l).toArray t):w.cell? ⟨b,1,ez⟩=eC x1:=by rw[h.cell];rfl
theorem ak.c2{x0 x1 x2:eM}{l:tLV}(h:ak w b (x0::x1::x2::l).toArray t):w.cell? ⟨b,2,ez⟩=eC x2:=by rw[h.cell];rfl
theorem ak.c3{x0 x1 x2 x3:eM}{l:tLV}(h:ak w b (x0::x1::x2::x3::l).toArray t):w.cell? ⟨b,3,ez⟩=eC x3:=by rw[h.cell];rfl
theorem ak.c4{x0 x1 x2 x3 x4:eM}{l:tLV}(h:ak w b (x0::x1::x2::x3::x4::l).toArray t):w.cell? ⟨b,4,ez⟩=eC x4:=by rw[h.cell];rfl
theorem ak.c5{x0 x1 x2 x3 x4 x5:eM}{l:tLV}(h:ak w b (x0::x1::x2::x3::x4::x5::l).toArray t):w.cell? ⟨b,5,ez⟩=eC x5:=by rw[h.cell];rfl
theorem ak.c6{x0 x1 x2 x3 x4 x5 x6:eM}{l:tLV}(h:ak w b (x0::x1::x2::x3::x4::x5::x6::l).toArray t):w.cell? ⟨b,6,ez⟩=eC x6:=by rw[h.cell];rfl
theorem ak.c7{x0 x1 x2 x3 x4 x5 x6 x7:eM}{l:tLV}(h:ak w b (x0::x1::x2::x3::x4::x5::x6::x7::l).toArray t):w.cell? ⟨b,7,ez⟩=eC x7:=by rw[h.cell];rfl
theorem ak.c8{x0 x1 x2 x3 x4 x5 x6 x7 x8:eM}{l:tLV}(h:ak w b (x0::x1::x2::x3::x4::x5::x6::x7::x8::l).toArray t):w.cell? ⟨b,8,ez⟩=eC x8:=by rw[h.cell];rfl
theorem ak.c9{x0 x1 x2 x3 x4 x5 x6 x7 x8 x9:eM}{l:tLV}(h:ak w b (x0::x1::x2::x3::x4::x5::x6::x7::x8::x9::l).toArray t):w.cell? ⟨b,9,ez⟩=eC x9:=by rw[h.cell];rfl
theorem ak.c10{x0 x1 x2 x3 x4 x5 x6 x7 x8 x9 x10:eM}{l:tLV}(h:ak w b (x0::x1::x2::x3::x4::x5::x6::x7::x8::x9::x10::l).toArray t):w.cell? ⟨b,10,ez⟩=eC x10:=by rw[h.cell];rfl
theorem ak.frozen(h:ak w b cs t)(i:Nat):w.frozen? ⟨b,i,ez⟩=eE:=by simp[World.frozen?,show w.heap[b]?=eC (eR cs t (0,0))from h]
theorem ak.lt(h:ak w b cs t):b<w.heap.size:=(Array.getElem?_eq_some_iff.1 h).1
theorem ak.drewN(h:ak w b cs t)(n:Nat):ak (w.drewN n) b cs t:=h
theorem ak.drew(h:ak w b cs t):ak w.drew b cs t:=h
theorem ak.set(h:ak w b cs t)(i:Nat)(v:eM):ak (w.setCell ⟨b,i,ez⟩ v) b (cs.setIfInBounds i v) t:=by have h':w.heap[b]?=eC (eR cs t (0,0)):=h;simp[ak,World.setCell,Array.getElem?_modify,h']
theorem ak.setOther(h:ak w b cs t){a:ju}(ha:a.block≠b)(v:eM):ak (w.setCell a v) b cs t:=by
 show(w.setCell a v).heap[b]?=_
 rw[Below.heap_setCell _ _ _ _ (Ne.symm ha)];exact h
theorem ak.alloc(h:ak w b cs t)(o:Obj):ak (w.alloc o) b cs t:=by
 show(w.alloc o).heap[b]?=_
 rw[Below.heap_alloc _ _ _ h.lt];exact h
theorem ak.new(w:tW)(cs:tAV)(t:gh):ak (w.alloc (eR cs t)) w.heap.size cs t:=sx w _
theorem ak.ae(h:ak w b cs t)(m:aa S w w')(hb:¬S b):ak w' b cs t:=(m.block b h.lt hb).trans h
theorem aa.refl(S:Nat->Prop)(w:tW):aa S w w:=⟨rfl,rfl,rfl,cR _,λ_ _ _=>rfl⟩
theorem aa.drewN(h:aa S w w')(n:Nat):aa S w (w'.drewN n):=⟨h.os,h.tape,h.output,h.size,h.block⟩
theorem aa.drew(h:aa S w w'):aa S w w'.drew:=⟨h.os,h.tape,h.output,h.size,h.block⟩
theorem aa.set(h:aa S w w'){a:ju}(ha:S a.block\/w.heap.size<=a.block)(v:eM):aa S w (w'.setCell a v) :=
 ⟨h.os,h.tape,h.output,by have:=h.size;simp[World.setCell];omega,λk hk hs=>by rw[Below.heap_setCell _ _ _ _ (by rintro rfl;rcases ha with ha|ha;exact hs ha;omega)];exact h.block k hk hs⟩
theorem aa.alloc(h:aa S w w')(o:Obj):aa S w (w'.alloc o) :=
 ⟨h.os,h.tape,h.output,by have:=h.size;simp;omega,λk hk hs=>by rw[Below.heap_alloc _ _ _ (by have:=h.size;omega)];exact h.block k hk hs⟩
theorem aA{S:Nat->Prop}{w:tW}:aa S w w:=aa.refl S w
theorem aq{S:Nat->Prop}{w:tW}{o:Obj}:aa S w (w.alloc o):=(aa.refl S w).alloc o
theorem aU{S:Nat->Prop}{w:tW}:aa S w w.drew:=(aa.refl S w).drew
theorem aa.trans(h:aa S w w')(k:aa S w' w''):aa S w w'' :=
 ⟨k.os.trans h.os,k.tape.trans h.tape,k.output.trans h.output,Nat.le_trans h.size k.size,λi hi hs=>(k.block i (cG hi h.size) hs).trans (h.block i hi hs)⟩
theorem aa.step(h:aa S w w')(k:aa S' w' w'')(hs:∀i,i<w.heap.size->S' i->S i):aa S w w'' :=
 ⟨k.os.trans h.os,k.tape.trans h.tape,k.output.trans h.output,Nat.le_trans h.size k.size,λi hi hn =>
  (k.block i (cG hi h.size) (λe=>hn (hs i hi e))).trans (h.block i hi hn)⟩
theorem aa.mono(h:aa S w w')(hs:∀i,i<w.heap.size->S i->S' i):aa S' w w' :=
 ⟨h.os,h.tape,h.output,h.size,λi hi hn=>h.block i hi (λe=>hn (hs i hi e))⟩
end
def Only(b:Nat):Nat->Prop:=λk=>k=b
def ah:Nat->Prop:=λ_=>False
theorem aa.bz{b:Nat}{w w':tW}(h:aa (Only b) w w')(i:Nat)(v:eM):aa (Only b) w (w'.setCell ⟨b,i,ez⟩ v):=h.set (a:=⟨b,i,ez⟩) (.inl (show b=b from rfl)) v
structure RS where
 pos:Nat
 bad:Bool
def bH(w:tW)(b:Nat)(s:tBA)(r:RS):Prop:=ak w b #[eI s,vI r.pos,fS r.bad] 125
def rb(s:tBA)(r:RS):Nat×RS :=
 if h:r.bad=eE/\r.pos<s.size then(s[r.pos].toNat,⟨r.pos+1,eE⟩)else(0,⟨r.pos,eJ⟩)
theorem ou(s:tBA)(r:RS):(rb s r).1<=255:=by
 unfold rb;split
 ·have:=(s[r.pos]).toNat_lt;omega
 ·simp
theorem iq(b:Nat)(s:tBA)(r:RS)(w:tW)(hs:s.size<=fX)(h:bH w b s r):fL prog 44 #[vP b] w λe w'=>e=fR (vI ((rb s r).1:Nat))/\bH w' b s (rb s r).2/\aa (Only b) w w':=by
 unfold fX at hs;obtain⟨p,bad⟩:=r;have c0:=h.cell 0;have c1:=h.cell 1;have c2:=h.cell 2;have f1:=h.frozen 1;have f2:=h.frozen 2;simp at c0 c1 c2;cases bad with
 |true =>
  have e0:af (rb s ⟨p,eJ⟩=(0,⟨p,eJ⟩)):=by simp[rb,af]
  go_in;go_wp2;go_quiet (fail);go_wp2;go_ret;rw[e0.o];exact⟨rfl,(h.drewN _).set 2 _,((aa.refl _ _).drewN _).bz 2 _⟩
 |false =>
  by_cases hp:p<s.size
  ·have e0:af (rb s ⟨p,eE⟩=(s[p].toNat,⟨p+1,eE⟩)):=by simp[rb,af,hp]
   have hl:=(s[p]).toNat_lt;go_in;go_wp2;go_quiet (fail);go_wp2;go_quiet (fail);go_wp2;go_ret;rw[e0.o];exact⟨by simp,(((h.drewN _).set 1 _).drewN _),(((aa.refl _ _).drewN _).bz 1 _).drewN _⟩
  ·have e0:af (rb s ⟨p,eE⟩=(0,⟨p,eJ⟩)):=by simp[rb,af,hp]
   have hp':(s.size:Int)<=(p:Int):=by omega
   go_in;go_wp2;go_quiet (fail);go_wp2;go_ret;rw[e0.o];exact⟨rfl,(h.drewN _).set 2 _,((aa.refl _ _).drewN _).bz 2 _⟩
structure Ext(S:Nat->Prop)(w0:tW) where
 w:tW
 m:aa S w0 w
theorem Ext.ne(S:Nat->Prop)(w:tW):Nonempty (Ext S w):=⟨⟨w,aa.refl S w⟩⟩
theorem fZ{P:jz}{id:Nat}{Q:mL->Act->tW->Prop}{a:Act}{w:tW}{l:List fY}(S:Nat->Prop)(hm:P.follows .mixedOrders=eJ)(hB:Region.lexB .any l.toArray=eJ)(h:sR P l.toArray (λw'=>∃g:Ext S w,w'=g.w) (λa'=>∀w',(∃g:Ext S w,w'=g.w)->Q .normal a' w') l a):(Code.region id l.toArray eJ).wp P Q a w :=
 wp_region_quiet (C:=λw'=>∃g:Ext S w,w'=g.w) hm hB ⟨⟨_,(aa.refl S w).drew⟩,rfl⟩ (by simpa using h)
theorem Calls.mV{P:jz}{f:kO}{args:tAV}{S:Nat->Prop}{w:tW}{g:Ext S w}{v:eM}(h:fL P f args g.w λe w'=>e=fR v/\aa ah g.w w'):fL P f args g.w λe w''=>e=fR v/\∃g':Ext S w,w''=g'.w :=
 h.mono λ_ w' ⟨he,hm⟩=>⟨he,⟨w',g.m.trans (hm.mono (λ_ _ e=>e.elim))⟩,rfl⟩
theorem Ext.cell{S:Nat->Prop}{w:tW}(g:Ext S w){b:Nat}{cs:tAV}{t:gh}(h:ak w b cs t)(hb:¬S b)(i:Nat):g.w.cell? ⟨b,i,ez⟩=cs[i]? :=
 (h.ae g.m hb).cell i
theorem Ext.aO{S:Nat->Prop}{w:tW}{b:Nat}{v0 v1 v2 v3 v4 v5 v6 v7:eM}{t:gh}(h:ak w b #[v0,v1,v2,v3,v4,v5,v6,v7] t)(hb:¬S b):(∀g:Ext S w,g.w.cell? ⟨b,0,ez⟩=eC v0)/\(∀g:Ext S w,g.w.cell? ⟨b,1,ez⟩=eC v1)/\(∀g:Ext S w,g.w.cell? ⟨b,2,ez⟩=eC v2)/\(∀g:Ext S w,g.w.cell? ⟨b,3,ez⟩=eC v3) /\ (∀g:Ext S w,g.w.cell? ⟨b,4,ez⟩=eC v4)/\(∀g:Ext S w,g.w.cell? ⟨b,5,ez⟩=eC v5)/\(∀g:Ext S w,g.w.cell? ⟨b,6,ez⟩=eC v6)/\(∀g:Ext S w,g.w.cell? ⟨b,7,ez⟩=eC v7) :=
 ⟨λg=>g.cell h hb 0,λg=>g.cell h hb 1,λg=>g.cell h hb 2,λg=>g.cell h hb 3,λg=>g.cell h hb 4,λg=>g.cell h hb 5,λg=>g.cell h hb 6,λg=>g.cell h hb 7⟩
theorem jU{P:jz}{ops:Array fY}{W:tW}{Q:Act->Prop}:∀(l:List fY) (a:Act),sR P ops (λw'=>w'=W) Q l a->wpStill P ops W Q l a
 |[],a,h=>h
 |o::rest,a,h=>by
  unfold sR at h;unfold wpStill;split
  ·rename_i hw
   rw[iP9 hw]at h;obtain⟨v,h1,h2⟩:=h;have h3:=h1 W rfl;have ih:=jU rest _ h2;unfold Oper.quietAt at h3;unfold Oper.still;generalize(mS a.eval o).run P W=r at *;cases r with
   |ok n w' =>
    cases n with
    |value u=>obtain⟨rfl,rfl⟩:=h3;exact⟨rfl,ih⟩
    |skip=>obtain⟨rfl,rfl⟩:=h3;exact⟨rfl,ih⟩
    |enter f args=>obtain⟨rfl,hc⟩:=h3;exact⟨rfl,v,hc,ih⟩
    |_=>exact h3.elim
   |_=>exact h3.elim
  ·rename_i hw
   rw[iN9 hw]at h;exact jU rest _ h
theorem bU{P:jz}{id:Nat}{Q:mL->Act->tW->Prop}{a:Act}{w:tW}{l:List fY}(n:Nat)(hm:P.follows .mixedOrders=eJ)(hB:Region.lexTailB .any l.toArray n=eJ)(h:∀W,W=w.drew->sR P l.toArray (λw'=>w'=W) (λa'=>nB P l.toArray Q (l.drop n) a' W) (l.take n) a):(Code.region id l.toArray eJ).wp P Q a w :=
 wp_region_still_tail n hm hB (jU _ _ (h _ rfl))
section
variable {P : jz} {ops : Array fY} {md : Region.Mode} {C : World -> Prop} {es : List Nat} {p : Nat} {D : List sT} {E : List pP -> World -> Prop} {ok : Nat -> Bool} {Inv : Array Bool -> Prop} {eB : Array Bool -> Bool} {L : Act -> World -> Prop}
def pureUpon(w:tW)(v:eM):sX pZ->Prop
 |.ok (.value u) w'=>w'=w/\u=v
 |.ok .skip w'=>w'=w/\v=kh
 |_=>False
def iV(P:jz)(o:fY)(a:Act)(w:tW)(v:eM):Prop:=pureUpon w v ((mS a.eval o).run P w)
def effUpon(P:jz)(K:eM->tW->Prop):sX pZ->Prop
 |.ok (.value u) w'=>K u w'
 |.ok .skip w'=>K kh w'
 |.ok (.enter f args) w'=>fL P f args w' (λe w''=>∃v,e=fR v/\K v w'')
 |.ok (.row row args) w'=>Rows P row args w' K
 |_=>False
def lV(P:jz)(o:fY)(a:Act)(w:tW)(K:eM->tW->Prop):Prop:=effUpon P K ((mS a.eval o).run P w)
theorem KT{o:fY}{a:Act}{w:tW}{u v:eM}(h:iV P o a w u)(h':iV P o a w v):u=v:=by
 unfold iV at *;generalize(mS a.eval o).run P w=r at *;cases r with
 |ok n w' =>
  cases n<;>simp only[pureUpon]at h h'
  case value x=>exact h.2.symm.trans h'.2
  case skip=>exact h.2.trans h'.2.symm
 |halt x w'=>simp only[pureUpon]at h
theorem jg{K K':eM->tW->Prop}{r:sX pZ}(h:∀v w,K v w->K' v w)(hh:effUpon P K r):effUpon P K' r:=by
 cases r with
 |ok n w' =>
  cases n<;>simp only[effUpon]at hh ⊢
  case value u=>exact h _ _ hh
  case skip=>exact h _ _ hh
  case enter f args=>exact hh.mono λe w'' ⟨v,he,hk⟩=>⟨v,he,h _ _ hk⟩
  case row row args=>exact hh.mono h
 |halt x w'=>simp only[effUpon]at hh
theorem yz{K:eM->tW->Prop}{r:sX pZ}(hh:effUpon P K r):∃v w,K v w:=by
 cases r with
 |ok n w' =>
  cases n<;>simp only[effUpon]at hh
  case value u=>exact⟨_,_,hh⟩
  case skip=>exact⟨_,_,hh⟩
  case enter f args =>obtain⟨_,w2,_,⟨v,_,hk⟩,_⟩:=hh [];exact⟨v,w2,hk⟩
  case row row args =>obtain⟨v,w2,hk,_⟩:=hh (Frame.enter P 0 #[] .normal) [];exact⟨v,w2,hk⟩
 |halt x w'=>simp only[effUpon]at hh
def mOp(P:jz)(ops:Array fY)(C:tW->Prop)(es:tLN)(i:Nat)(K:Act->tW->Prop)(a:Act)(w:tW):Prop :=
 match ops[i]? with
 |none=>K a w
 |some o=>if ab o (oE ops a.tmps)then
   (if es.contains i then lV P o a w (λv w'=>C w'/\K (a.put o.dst v) w')else ∃v,(∀w,C w->iV P o a w v)/\K (a.put o.dst v) w)
  else K (a.put o.dst kh) w
theorem TQ{i:Nat}{a:Act}{w:tW}{K K':Act->tW->Prop}(hC:C w)(h:∀a w,C w->K a w->K' a w)(hh:mOp P ops C es i K a w):mOp P ops C es i K' a w:=by
 unfold mOp at *;split
 ·exact h _ _ hC (by simpa [*]using hh)
 ·rename_i o ho
  simp only[ho]at hh;split
  ·rename_i hw
   simp only[hw,if_true]at hh;split
   ·rename_i he;simp only[he,if_true]at hh;exact jg (λv w' h'=>⟨h'.1,h _ _ h'.1 h'.2⟩) hh
   ·rename_i he;simp only[he]at hh;obtain⟨v,h1,h2⟩:=hh;exact⟨v,h1,h _ _ hC h2⟩
  ·rename_i hw;simp only[hw]at hh;exact h _ _ hC hh
theorem Ie{i:Nat}{a:Act}{K K':Act->tW->Prop}{Q':mL->Act->tW->Prop}{w:tW}(hC:C w)(h:∀a w',C w'->K a w'->K' a w')(hh:mOp P ops C es i K a w):wpOp P ops Q' i K' a w:=by
 unfold mOp at hh;unfold wpOp;split
 ·rename_i ho;simp only[ho]at hh;exact h _ _ hC hh
 ·rename_i o ho
  simp only[ho]at hh;split
  ·rename_i hw
   simp only[hw,if_true]at hh;left;unfold Oper.wp;split at hh
   ·unfold lV at hh;generalize(mS a.eval o).run P w=r at *;cases r with
    |ok n w' =>
     cases n<;>simp only[effUpon]at hh<;>simp only[Oper.upon]
     case value u=>exact h _ _ hh.1 hh.2
     case skip=>exact h _ _ hh.1 hh.2
     case enter f args=>exact hh.mono λe w'' ⟨v,he,hk⟩=>by subst he;exact h _ _ hk.1 hk.2
     case row row args=>exact hh.mono λv w'' hk=>h _ _ hk.1 hk.2
    |halt x w'=>simp only[effUpon]at hh
   ·obtain⟨v,h1,h2⟩:=hh;have h3:=h1 w hC;unfold iV at h3;generalize(mS a.eval o).run P w=r at *;cases r with
    |ok n w' =>
     cases n<;>simp only[pureUpon]at h3<;>simp only[Oper.upon]
     case value u=>rw[h3.1,h3.2];exact h _ _ hC h2
     case skip=>rw[h3.1,<-h3.2];exact h _ _ hC h2
    |halt x w'=>simp only[pureUpon]at h3
  ·rename_i hw;simp only[hw]at hh;exact h _ _ hC hh
def panUpon(P:jz)(E:List pP->tW->Prop):sX pZ->Prop
 |.ok (.enter f args) w'=>fL P f args w' (λe w''=>∃c,e=.panicked c/\E c w'')
 |.halt (.panic v) w'=>E [{v,recovered:=eE}] w'
 |_=>False
def yA(P:jz)(ops:Array fY)(p:Nat)(D:List sT)(E:List pP->tW->Prop)(a:Act)(w:tW):Prop :=
 ∃o,ops[p]?=eC o/\ab o (oE ops a.tmps)=eJ/\a.defers=D/\panUpon P E ((mS a.eval o).run P w)
theorem AO(a:Act)(d:Option Nat)(v:eM):(a.put d v).defers=a.defers:=by unfold Act.put;split<;>rfl
theorem Eu{oi oj:fY}{v:eM}{a:Act}{w:tW}(hj:ops[p]?=eC oj)(hap:oi.apart ops oj=eJ)(hsj:∀cs b,oj.op≠.select cs b)(h:yA P ops p D E (a.put oi.dst v) w):yA P ops p D E a w:=by obtain⟨h1,_,_⟩:=Oper.apart_spec hap;obtain⟨o,ho,hw,hd,hp⟩:=h;rw[hj]at ho;cases ho;exact⟨oj,hj,by rw[rI oj a oi.dst v h1]at hw;exact hw,by rw[AO]at hd;exact hd,by rw[tj oj hsj a oi.dst v h1]at hp;exact hp⟩
theorem AP{a:Act}{w:tW}{K:Act->tW->Prop}{Q:mL->Act->tW->Prop}(hQ:∀c a' w',a'.defers=D->E c w'->Q (.panic c) a' w')(h:yA P ops p D E a w):wpOp P ops Q p K a w:=by
 obtain⟨o,ho,hw,hd,hp⟩:=h;unfold wpOp;simp only[ho,hw,if_true];left;unfold Oper.wp;generalize(mS a.eval o).run P w=r at *;cases r with
 |ok n w' =>
  cases n<;>simp only[panUpon]at hp<;>simp only[Oper.upon]
  case enter f args =>refine hp.mono λe w'' ⟨c,he,hk⟩=>?_;subst he;exact hQ c a w'' hd hk
 |halt x w' =>
  cases x<;>simp only[panUpon]at hp<;>simp only[Oper.upon]
  case panic v=>exact hQ _ a w' hd hp
def jH(P:jz)(ops:Array fY)(C:tW->Prop)(o:fY)(v:eM)(a:Act):Prop :=
 (ab o (oE ops a.tmps)=eJ/\∀w,C w->iV P o a w v)\/(ab o (oE ops a.tmps)=eE/\v=kh)
theorem jH.of_same{o:fY}{v:eM}{a a':Act}(hy:jH P ops C o v a)(he:mS a'.eval o=mS a.eval o)(hw:ab o (oE ops a'.tmps)=ab o (oE ops a.tmps)):jH P ops C o v a':=by unfold jH iV at *;rw[he,hw];exact hy
theorem jH.mOp{i:Nat}{o:fY}{v:eM}{a:Act}(hi:ops[i]?=eC o)(hE:es.contains i=eE)(hy:jH P ops C o v a){K:Act->tW->Prop}{w:tW}(h:K (a.put o.dst v) w):mOp P ops C es i K a w:=by
 unfold Proofs.YtekmhcbefnmflaaGreatDoor.mOp;simp only[hi];rcases hy with⟨hw,hv⟩ |⟨hw,rfl⟩
 ·simp only[hw,if_true,hE,ao,if_false];exact⟨v,hv,h⟩
 ·simp only[hw,ao,if_false];exact h
theorem yB{i:Nat}{o:fY}{a:Act}(hi:ops[i]?=eC o)(hw:ab o (oE ops a.tmps)=eE){K:Act->tW->Prop}{w:tW}(h:K (a.put o.dst kh) w):mOp P ops C es i K a w:=by unfold Proofs.YtekmhcbefnmflaaGreatDoor.mOp;simp only[hi,hw,ao,if_false];exact h
theorem Yj{j:Nat}{oi oj:fY}{v:eM}(hj:ops[j]?=eC oj)(hap:oi.apart ops oj=eJ)(hsi:∀cs b,oi.op≠.select cs b) (hsj:∀cs b,oj.op≠.select cs b) {K:Act->tW->Prop} {a:Act} {w:tW}(hy:jH P ops C oi v a) (h:mOp P ops C es j K (a.put oi.dst v) w):mOp P ops C es j (λa' w'=>jH P ops C oi v a'/\K (a'.put oi.dst v) w') a w:=by
 obtain⟨h1,h2,h3⟩:=Oper.apart_spec hap;have keep:=λ(a:Act) (hy:jH P ops C oi v a) u=>hy.of_same (tj oi hsi a oj.dst u h3) (rI oi a oj.dst u h3);unfold mOp at *;simp only[hj]at *;rw[rI oj a oi.dst v h1]at h;unfold lV iV at *;rw[tj oj hsj a oi.dst v h1]at h;split
 ·rename_i hw
  simp only[hw,if_true]at h;split
  ·rename_i he
   simp only[he,if_true]at h;exact jg (λu w' h'=>⟨h'.1,keep a hy u,by rw[<-Act.put_comm a v u h2];exact h'.2⟩) h
  ·rename_i he
   simp only[he]at h;obtain⟨u,hu,hn⟩:=h;exact⟨u,hu,keep a hy u,by rw[<-Act.put_comm a v u h2];exact hn⟩
 ·rename_i hw
  simp only[hw]at h;exact⟨keep a hy _,by rw[<-Act.put_comm a v kh h2];exact h⟩
theorem vz{i:Nat}{oj:fY}{listed:Array Bool}(hr:i∈an md ops listed)(hall:∀e∈oj.after,bt md e=eJ->listed.getD e.on eE=eJ):∀e∈oj.after,bt md e=eJ->e.on≠i:=λe he hb heq=>by
 have h1:=hall e he hb;have h0:=(mem_ready.1 hr).1;rw[heq]at h1;rcases cH i listed.size with h'|h'
 ·simp[h']at h0 h1;rw[h0]at h1;cases h1
 ·simp[Array.getElem?_eq_none h']at h1
def chainB(md:Region.Mode)(ops:Array fY):tLN->Bool
 |e1::e2::r=>eS (e1<e2)&&(match ops[e2]? with|some o=>o.after.any (λe=>bt md e&&e.on==e1)|none=>eE)&&chainB md ops (e2::r)
 |_=>eJ
theorem xc{md:Region.Mode}{ops:Array fY}:∀(e:Nat) (r:tLN),chainB md ops (e::r)=eJ->∀j∈r,e<j
 |_,[],_,j,hj=>by cases hj
 |e,e2::r,h,j,hj=>by
  simp only[chainB,bh,decide_eq_true_eq]at h;rcases List.mem_cons.1 hj with rfl|hj
  ·exact h.1.1
  ·have:=xc e2 r h.2 j hj;omega
theorem tQ{md:Region.Mode}{ops:Array fY}:∀(es:tLN),chainB md ops es=eJ->∀i j,i∈es->j∈es->i<j->∃p,p∈es/\i<=p/\p<j/\∃oj,ops[j]?=eC oj/\∃e∈oj.after,bt md e=eJ/\e.on=p
 |[],_,i,_,hi,_,_=>by cases hi
 |[e],_,i,j,hi,hj,hlt=>by simp at hi hj;omega
 |e1::e2::r,h,i,j,hi,hj,hlt=>by
  have h0:=h;simp only[chainB,bh,decide_eq_true_eq]at h;obtain⟨⟨h1,h2⟩,h3⟩:=h;by_cases hj1:j=e1
  ·subst hj1;rcases List.mem_cons.1 hi with rfl|hi
   ·omega
   ·have:=xc j (e2::r) h0 i hi;omega
  ·have hj':j∈e2::r:=by
    rcases List.mem_cons.1 hj with h|h
    ·exact absurd h hj1
    ·exact h
   by_cases hi1:i=e1
   ·subst hi1;by_cases hj2:j=e2
    ·subst hj2;split at h2
     ·rename_i o ho
      obtain⟨e,he,hb⟩:=Array.any_eq_true'.1 h2;simp only[bh,beq_iff_eq]at hb;exact⟨i,by simp,cR _,hlt,o,ho,e,he,hb.1,hb.2⟩
     ·cases h2
    ·have hlow:e2<j:=by
      rcases List.mem_cons.1 hj' with h|h
      ·exact absurd h hj2
      ·exact xc e2 r h3 j h
     obtain⟨p,hp,hip,hpj,rest⟩:=tQ (e2::r) h3 e2 j (by simp) hj' hlow;exact⟨p,cx _ hp,by omega,hpj,rest⟩
   ·have hi':i∈e2::r:=by
     rcases List.mem_cons.1 hi with h|h
     ·exact absurd h hi1
     ·exact h
    obtain⟨p,hp,hip,hpj,rest⟩:=tQ (e2::r) h3 i j hi' hj' hlt;exact⟨p,cx _ hp,hip,hpj,rest⟩
def kM(P:jz)(md:Region.Mode)(ops:Array fY)(C:tW->Prop)(es:tLN)(p:Nat)(D:List sT)(E:List pP->tW->Prop)(ok:Nat->Bool)(eB:Array Bool->Bool)(L:Act->tW->Prop):Nat->Array Bool->Act->tW->Prop
 |0,listed,a,w=>eB listed=eJ/\L a w
 |f+1,listed,a,w=>an md ops listed≠[]/\∀i∈an md ops listed,(ok i=eJ/\mOp P ops C es i (kM P md ops C es p D E ok eB L f (listed.setIfInBounds i eJ)) a w)\/(i=p/\yA P ops p D E a w)
theorem qB{g:Nat}{Q:mL->Act->tW->Prop}(hQ:∀c a' w',a'.defers=D->E c w'->Q (.panic c) a' w')(hL:∀listed a w,eB listed=eJ->L a w->wpAny P md ops Q g listed a w):∀(f:Nat) (listed:Array Bool) (a:Act) (w:tW),C w->kM P md ops C es p D E ok eB L f listed a w->wpAny P md ops Q (f+g) listed a w
 |0,listed,a,w,_,h=>by rw[cI];exact hL _ _ _ h.1 h.2
 |f+1,listed,a,w,hC,h=>by
  rw[Nat.add_right_comm];refine⟨λh0=>absurd h0 h.1,λi hi=>?_⟩;rcases h.2 i hi with⟨_,h2⟩ |⟨rfl,h2⟩
  ·exact Ie hC (λa' w' O8 h'=>qB hQ hL f _ a' w' O8 h') h2
  ·exact AP hQ h2
structure Side(P:jz)(md:Region.Mode)(ops:Array fY)(es:tLN)(p:Nat)(D:List sT)(E:List pP->tW->Prop)(ok:Nat->Bool)(Inv:Array Bool->Prop)(eB:Array Bool->Bool)(L:Act->tW->Prop):Prop where
 sel:cY ops=eJ
 ch:chainB md ops es=eJ
 pe:ops[p]?=ez\/es.contains p=eJ
 set:∀listed j,Inv listed->j∈an md ops listed->ok j=eJ->Inv (listed.setIfInBounds j eJ)
 ins:∀listed i j,Inv listed->i∈an md ops listed->ok i=eJ->j∈an md ops listed->ok j=eJ\/j=p
 done:∀listed a w j,eB listed=eJ->L a w->j∈an md ops listed->ok j=eJ\/j=p->j=p/\yA P ops p D E a w
def TR(md:Region.Mode)(ops:Array fY)(i:Nat)(oi:fY)(listed:Array Bool):Prop :=
 ∀j oj,ops[j]?=eC oj->j≠i->listed.getD j eJ=eE->(∀e∈oj.after,bt md e=eJ->e.on≠i)->oi.apart ops oj=eJ
theorem TR.set{i j:Nat}{oi:fY}{listed:Array Bool}(h:TR md ops i oi listed)(hj:listed.getD j eJ=eE):TR md ops i oi (listed.setIfInBounds j eJ):=λk ok hk hki hun hno=>by
 refine h k ok hk hki ?_ hno;by_cases hjk:j=k
 ·subst hjk;exact hj
 ·rw[rL eJ hjk]at hun;exact hun
theorem yC(S:Side P md ops es p D E ok Inv eB L){i:Nat}{oi:fY}{v:eM}(hi:ops[i]?=eC oi)(hoi:ok i=eJ)(hE:∀(K:Act->tW->Prop) (a:Act) (w:tW),C w->jH P ops C oi v a->K (a.put oi.dst v) w->mOp P ops C es i K a w):∀(f:Nat) (listed:Array Bool) (a:Act) (w:tW),Inv listed->TR md ops i oi listed->i∈an md ops listed->C w->jH P ops C oi v a -> kM P md ops C es p D E ok eB L f (listed.setIfInBounds i eJ) (a.put oi.dst v) w->kM P md ops C es p D E ok eB L (f+1) listed a w:=by
 have hsel:=cy S.sel;intro f;induction f with
 |zero =>
  intro listed a w inv hfree hr hC hy H;refine⟨λh=>(by rw[h]at hr;cases hr),λj hj=>?_⟩;by_cases hji:j=i
  ·subst hji;exact .inl ⟨hoi,hE _ _ _ hC hy H⟩
  ·obtain⟨rfl,h2⟩:=S.done _ _ _ j H.1 H.2 (rN hj hji) (S.ins _ i j inv hr hoi hj);obtain⟨hjun,oj,hoj,hall⟩:=mem_ready.1 hj;exact .inr ⟨rfl,Eu hoj (hfree _ oj hoj hji hjun (vz hr hall)) (λcs b=>hsel _ oj cs b hoj) h2⟩
 |succ f ih =>
  intro listed a w inv hfree hr hC hy H;refine⟨λh=>(by rw[h]at hr;cases hr),λj hj=>?_⟩;by_cases hji:j=i
  ·subst hji;exact .inl ⟨hoi,hE _ _ _ hC hy H⟩
  ·obtain⟨hjun,oj,hoj,hall⟩:=mem_ready.1 hj;have hap:=hfree j oj hoj hji hjun (vz hr hall);rcases H.2 j (rN hj hji)with⟨hjp,h1⟩ |⟨rfl,h1⟩
   ·refine .inl ⟨hjp,TQ hC (λa' w' O8 h3=>ih (listed.setIfInBounds j eJ) a' w' (S.set _ j inv hj hjp) (hfree.set hjun) (rN hr (Ne.symm hji)) O8 h3.1 ?_) (Yj hoj hap (λcs b=>hsel i oi cs b hi) (λcs b=>hsel j oj cs b hoj) hy h1)⟩;rw[cb _ _ hji];exact h3.2
   ·exact .inr ⟨rfl,Eu hoj hap (λcs b=>hsel _ oj cs b hoj) h1⟩
theorem KU(S:Side P md ops es p D E ok Inv eB L){i:Nat}{oi:fY}(hi:ops[i]?=eC oi)(hoi:ok i=eJ)(hEi:es.contains i=eJ):∀(f:Nat) (listed:Array Bool) (a:Act) (w:tW),Inv listed->TR md ops i oi listed -> (∀j,es.contains j=eJ->(i<j->listed.getD j eJ=eE)/\(j<i->listed.getD j eJ=eJ)) -> i∈an md ops listed->ab oi (oE ops a.tmps)=eJ->C w -> lV P oi a w (λv w'=>C w'/\kM P md ops C es p D E ok eB L f (listed.setIfInBounds i eJ) (a.put oi.dst v) w')->kM P md ops C es p D E ok eB L (f+1) listed a w:=by
 have hsel:=cy S.sel
 have hno:∀(listed:Array Bool) (j:Nat),(∀j,es.contains j=eJ->(i<j->listed.getD j eJ=eE)/\(j<i->listed.getD j eJ=eJ))->i∈an md ops listed->j∈an md ops listed->j≠i->es.contains j=eE:=by
  intro listed j hinv hr hj hji;cases hc:es.contains j with
  |false=>rfl
  |true =>
   obtain⟨hjun,oj,hoj,hall⟩:=mem_ready.1 hj
   have hlt:i<j:=by
    rcases cH j i with h|h
    ·rw[(hinv j hc).2 h]at hjun;cases hjun
    ·omega
   obtain⟨p,hp,hip,hpj,oj',TS,e,he,hb,hon⟩:=tQ es S.ch i j (by simpa using hEi) (by simpa using hc) hlt;rw[hoj]at TS;cases TS;have h1:=hall e he hb;rw[hon]at h1;by_cases hpi:p=i
   ·subst hpi;exact absurd hon (vz hr hall e he hb)
   ·have h2:=(hinv p (by simpa using hp)).1 (by omega);rcases cH p listed.size with h'|h'
    ·simp[h']at h1 h2;rw[h2]at h1;cases h1
    ·simp[Array.getElem?_eq_none h']at h1
 have hnp:∀(listed:Array Bool) (j:Nat),es.contains j=eE->j∈an md ops listed->j≠p:=λlisted j hE hj e=>by
  subst e;rcases S.pe with h|h
  ·obtain⟨_,oj,hoj,_⟩:=mem_ready.1 hj;rw[h]at hoj;cases hoj
  ·rw[h]at hE;cases hE
 have hme:∀(K:Act->tW->Prop) (a:Act) (w:tW),ab oi (oE ops a.tmps)=eJ->lV P oi a w (λv w'=>C w'/\K (a.put oi.dst v) w')->mOp P ops C es i K a w:=λK a w hw h=>by unfold mOp;simp only[hi,hw,if_true,hEi];exact h
 intro f;induction f with
 |zero =>
  intro listed a w inv _ hinv hr hw hC H;refine⟨λh=>(by rw[h]at hr;cases hr),λj hj=>?_⟩;by_cases hji:j=i
  ·subst hji;exact .inl ⟨hoi,hme _ _ _ hw H⟩
  ·obtain⟨_,_,_,h2⟩:=yz H;exact absurd (S.done _ _ _ j h2.1 h2.2 (rN hj hji) (S.ins _ i j inv hr hoi hj)).1 (hnp _ j (hno listed j hinv hr hj hji) hj)
 |succ f ih =>
  intro listed a w inv hfree hinv hr hw hC H;refine⟨λh=>(by rw[h]at hr;cases hr),λj hj=>?_⟩;by_cases hji:j=i
  ·subst hji;exact .inl ⟨hoi,hme _ _ _ hw H⟩
  ·have hEj:=hno listed j hinv hr hj hji;obtain⟨hjun,oj,hoj,hall⟩:=mem_ready.1 hj;obtain⟨h1,h2,h3⟩:=Oper.apart_spec (hfree j oj hoj hji hjun (vz hr hall));have aa0:=λv w' (h':kM P md ops C es p D E ok eB L (f+1) (listed.setIfInBounds i true) (a.put oi.dst v) w')=>(h'.2 j (rN hj hji)).resolve_right λh4=>hnp _ j hEj hj h4.1;obtain⟨v0,w0,_,h0⟩:=yz H;have TS:=(aa0 v0 w0 h0).1
   have acE:∀k,es.contains k=eJ->(i<k->(listed.setIfInBounds j eJ).getD k eJ=eE)/\(k<i->(listed.setIfInBounds j eJ).getD k eJ=eJ):=λk hk=>by
    have hjk:j≠k:=by rintro rfl;rw[hEj]at hk;cases hk
    rw[rL eJ hjk];exact hinv k hk
   have key:∀u,(∀v w',C w'->kM P md ops C es p D E ok eB L (f+1) (listed.setIfInBounds i eJ) (a.put oi.dst v) w'->kM P md ops C es p D E ok eB L f ((listed.setIfInBounds i eJ).setIfInBounds j eJ) ((a.put oi.dst v).put oj.dst u) w') ->
     kM P md ops C es p D E ok eB L (f+1) (listed.setIfInBounds j eJ) (a.put oj.dst u) w:=λu hu=>by
    refine ih (listed.setIfInBounds j eJ) (a.put oj.dst u) w (S.set _ j inv hj TS) (hfree.set hjun) acE (rN hr (Ne.symm hji)) (by rw[rI oi a oj.dst u h3];exact hw) hC ?_;unfold lV at *;rw[tj oi (λcs b=>hsel i oi cs b hi) a oj.dst u h3];refine jg (λv w' h'=>⟨h'.1,?_⟩) H;rw[cb _ _ hji,<-Act.put_comm a v u h2];exact hu v w' h'.1 h'.2
   refine .inl ⟨TS,?_⟩;cases hwj:ab oj (oE ops a.tmps)with
   |false =>refine yB hoj hwj (key kh λv w' _ h'=>?_);have h4:=(aa0 v w' h').2;unfold mOp at h4;simp only[hoj,rI oj a oi.dst v h1,hwj,ao,if_false]at h4;exact h4
   |true =>
    have aaI:∀v w',kM P md ops C es p D E ok eB L (f+1) (listed.setIfInBounds i eJ) (a.put oi.dst v) w'->∃u,(∀w,C w->iV P oj a w u)/\kM P md ops C es p D E ok eB L f ((listed.setIfInBounds i eJ).setIfInBounds j eJ) ((a.put oi.dst v).put oj.dst u) w':=λv w' h'=>by have h4:=(aa0 v w' h').2;unfold mOp at h4;simp only[hoj,rI oj a oi.dst v h1,hwj,if_true,hEj,ao,if_false]at h4;unfold iV at *;rw[tj oj (λcs b=>hsel j oj cs b hoj) a oi.dst v h1]at h4;exact h4
    obtain⟨u,hu,_⟩:=aaI v0 w0 h0;refine jH.mOp hoj hEj (.inl ⟨hwj,hu⟩) (key u λv w' _ h'=>?_);obtain⟨u',hu',hk⟩:=aaI v w' h';rw[KT (hu w hC) (hu' w hC)];exact hk
def lexX(md:Region.Mode)(ops:Array fY)(es:tLN)(ok:Nat->Bool)(eB:Array Bool->Bool):tLN->Array Bool->Bool
 |[],listed=>eB listed
 |k::ks,listed=>(an md ops listed).contains k&&Region.free md ops listed k&&ok k&&(!es.contains k||es.all (λj=>if k<j then !(listed.getD j eJ)else if j<k then listed.getD j eJ else eJ))&&lexX md ops es ok eB ks (listed.setIfInBounds k eJ)
def wpMixL(P:jz)(ops:Array fY)(C:tW->Prop)(es:tLN)(Q:Act->tW->Prop):tLN->Act->tW->Prop
 |[],a,w=>Q a w
 |k::rest,a,w=>match ops[k]? with
  |none=>False
  |some o=>if ab o (oE ops a.tmps)then
    (if es.contains k then lV P o a w (λv w'=>C w'/\wpMixL P ops C es Q rest (a.put o.dst v) w')
     else ∃v,(∀w,C w->iV P o a w v)/\wpMixL P ops C es Q rest (a.put o.dst v) w)
   else wpMixL P ops C es Q rest (a.put o.dst kh) w
theorem qC(S:Side P md ops es p D E ok Inv eB L):∀(l:tLN) (listed:Array Bool) (a:Act) (w:tW),Inv listed -> lexX md ops es ok eB l listed=eJ->C w->wpMixL P ops C es L l a w->kM P md ops C es p D E ok eB L (ee l) listed a w
 |[],listed,a,w,_,hB,_,h=>⟨hB,h⟩
 |k::l,listed,a,w,inv,hB,hC,h=>by
  simp only[lexX,bh]at hB;obtain⟨⟨⟨⟨hr,hf⟩,hkn⟩,hes⟩,hB'⟩:=hB;have hr':k∈an md ops listed:=by simpa using hr
  unfold wpMixL at h;cases h0:ops[k]? with
  |none=>rw[h0]at h;exact h.elim
  |some o =>
  simp only[h0]at h
  have go:=λa' w' O8 h' =>
   qC S l _ a' w' (S.set _ k inv hr' hkn) hB' O8 h'
  cases hw:ab o (oE ops a.tmps)with
  |false =>
   simp only[hw,ao,if_false]at h
   exact yC S h0 hkn (v:=kh) (λK a' w' O8 hy hk=>by
    cases hw':ab o (oE ops a'.tmps)with
    |false=>exact yB h0 hw' hk
    |true =>
     cases hE:es.contains k with
     |false=>exact hy.mOp h0 hE hk
     |true =>
      rcases hy with⟨_,hv⟩ |⟨hx,_⟩
      ·unfold mOp;simp only[h0,hw',if_true,hE];have h3:=hv w' O8;unfold iV at h3;unfold lV;generalize(mS a'.eval o).run P w'=r at *;cases r with
       |ok n w2 =>
        cases n<;>simp only[pureUpon]at h3<;>simp only[effUpon]
        case value u=>rw[h3.1,h3.2];exact⟨O8,hk⟩
        case skip=>rw[h3.1];exact⟨O8,hk⟩
       |halt x w2=>simp only[pureUpon]at h3
      ·rw[hw']at hx;cases hx) (ee l) listed a w inv (cj h0 hf) hr' hC (.inr ⟨hw,rfl⟩) (go _ _ hC h)
  |true =>
   simp only[hw,if_true]at h;cases hE:es.contains k with
   |false =>simp only[hE,ao,if_false]at h;obtain⟨v,hv,hk⟩:=h;exact yC S h0 hkn (λK a' w' _ hy hk=>hy.mOp h0 hE hk) (ee l) listed a w inv (cj h0 hf) hr' hC (.inl ⟨hw,hv⟩) (go _ _ hC hk)
   |true =>simp only[hE,if_true]at h;simp only[hE,Bool.not_true,Bool.false_or,List.all_eq_true]at hes;refine KU S h0 hkn hE (ee l) listed a w inv (cj h0 hf) (λj hj=>?_) hr' hw hC (jg (λv w' h'=>⟨h'.1,go _ _ h'.1 h'.2⟩) h);have:=hes j (by simpa using hj);exact⟨λhkj=>by rw[iP9 hkj]at this;simpa using this,λhkj=>by rw[iN9 (by omega),iP9 hkj]at this;exact this⟩
def wpMix(P:jz)(ops:Array fY)(C:tW->Prop)(es:tLN)(Q:Act->tW->Prop):Nat->List fY->Act->tW->Prop
 |_,[],a,w=>Q a w
 |k,o::rest,a,w=>if ab o (oE ops a.tmps)then
   (if es.contains k then lV P o a w (λv w'=>C w'/\wpMix P ops C es Q (k+1) rest (a.put o.dst v) w')
    else ∃v,(∀w,C w->iV P o a w v)/\wpMix P ops C es Q (k+1) rest (a.put o.dst v) w)
  else wpMix P ops C es Q (k+1) rest (a.put o.dst kh) w
theorem FT{Q:Act->tW->Prop}:∀(l:List fY) (k:Nat) (a:Act) (w:tW),(∀j,j<ee l->l[j]?=ops[k+j]?)->wpMix P ops C es Q k l a w->wpMixL P ops C es Q (List.range' k (ee l)) a w
 |[],_,_,_,_,h=>h
 |o::l,k,a,w,hl,h=>by
  have h0:ops[k]?=eC o:=by simpa using(hl 0 (by simp)).symm
  have ih:=λa w=>FT (Q:=Q) l (k+1) a w (λj hj=>by have:=hl (j+1) (by simp;omega);simpa [Nat.add_assoc,Nat.add_comm 1 j]using this);rw[cX,List.range'_succ];unfold wpMix at h;unfold wpMixL;simp only[h0];split
  ·rename_i hw
   rw[iP9 hw]at h;split
   ·rename_i he;rw[iP9 he]at h;exact jg (λv w' h'=>⟨h'.1,ih _ _ h'.2⟩) h
   ·rename_i he;rw[iN9 he]at h;obtain⟨v,h1,h2⟩:=h;exact⟨v,h1,ih _ _ h2⟩
  ·rename_i hw;rw[iN9 hw]at h;exact ih _ _ h
theorem bR{id:Nat}{Q:mL->Act->tW->Prop}{a:Act}{w:tW}{l:List fY}(es:tLN)(C:tW->Prop)(hm:P.follows .mixedOrders=eJ)(hB:(cY l.toArray&&lexX .any l.toArray es (λ_=>eJ) (λlisted=>(an .any l.toArray listed).isEmpty) (List.range' 0 (ee l)) (Array.replicate l.toArray.size eE))=eJ)(hc:chainB .any l.toArray es=eJ)(hC:C w.drew)(h:wpMix P l.toArray C es (λa' w'=>Q .normal a' w') 0 l a w.drew):(Code.region id l.toArray eJ).wp P Q a w:=by
 rw[bh]at hB
 have S:Side P .any l.toArray es l.toArray.size a.defers (λ_ _=>False) (λ_=>eJ) (λ_=>True) (λlisted=>(an .any l.toArray listed).isEmpty) (λa' w'=>Q .normal a' w') :=
  ⟨hB.1,hc,.inl (by simp),λ_ _ _ _ _=>trivial,λ_ _ _ _ _ _ _=>.inl rfl,λlisted a w j h1 _ hj=>by rw[List.isEmpty_iff.1 h1]at hj;cases hj⟩
 refine wp_region_any hm ?_;have:=qB (g:=0) (Q:=Q) (λ_ _ _ _ h=>h.elim) (λlisted a w h1 h2=>⟨List.isEmpty_iff.1 h1,h2⟩) _ _ _ _ hC (qC (C:=C) S _ _ a w.drew trivial hB.2 hC (FT l 0 a _ (by simp) h))
 simpa using this
theorem fE{o:fY}(hgd:o.guard=ez)(x:Nat->Option Bool):ab o x=eJ:=by simp[ab,hgd]
theorem Ig(s:Sem eM)(w:tW)(f:kO)(args:tAV)(w':tW):(do pure (Next.value (<-s)):Sem pZ).run P w≠.ok (.enter f args) w':=by intro h;rw[Sem.run_bind]at h;cases hr:s.run P w<;>rw[hr]at h<;>simp[Result.andThen]at h
theorem FU(s:Sem Unit)(w:tW)(f:kO)(args:tAV)(w':tW):(do s;pure Next.skip:Sem pZ).run P w≠.ok (.enter f args) w':=by intro h;rw[Sem.run_bind]at h;cases hr:s.run P w<;>rw[hr]at h<;>simp[Result.andThen]at h
def vD(o:fY):Bool:=match o.op with
 |.call _|.go _|.defer _|.nilCheck _|.pick .. | .send .. | .recv .. | .select ..=>eE
 |_=>eJ
theorem Ed(o:fY)(h:vD o=eJ)(ρ:oR->eM)(w:tW)(f:kO)(args:tAV)(w':tW):(mS ρ o).run P w≠.ok (.enter f args) w':=by
 cases hop:o.op<;>simp only[vD,hop]at h<;>simp only[mS,hop]<;>first
  |exact absurd h Bool.false_ne_true
  |exact Ig _ _ _ _ _
  |exact FU _ _ _ _ _
  |simp
theorem wD{o:fY}{a:Act}(h:vD o=eJ)(v:eM)(w:tW)(hq:o.quietAt P a C w v):iV P o a w v:=by
 have hn:=Ed (P:=P) o h a.eval w;unfold Oper.quietAt at hq;unfold iV;generalize(mS a.eval o).run P w=r at *;cases r with
 |ok n w' =>
  cases n<;>simp only[Oper.quietUpon]at hq<;>simp only[pureUpon]
  case value u=>exact hq
  case skip=>exact hq
  case enter f args=>exact hn f args w' rfl
 |halt x w'=>simp only[Oper.quietUpon]at hq
theorem zC{Q:Act->tW->Prop}{k:Nat}{o:fY}{rest:List fY}{a:Act}{w:tW}(hw:ab o (oE ops a.tmps)=eJ)(hE:es.contains k=eE)(hp:vD o=eJ)(h:∀K:Act->Prop,(∀a',wpMix P ops C es Q (k+1) rest a' w->K a')->o.quiet P a C K):wpMix P ops C es Q k (o::rest) a w:=by unfold wpMix;rw[iP9 hw,hE];obtain⟨v,h1,h2⟩:=h _ (λ_ h=>h);exact⟨v,λw hw=>wD hp v w (h1 w hw),h2⟩
theorem aG{Q:Act->tW->Prop}{k:Nat}{o:fY}{rest:List fY}{a:Act}{w:tW}(hgd:o.guard=ez)(hE:es.contains k=eE)(hp:vD o=eJ)(h:∀K:Act->Prop,(∀a',wpMix P ops C es Q (k+1) rest a' w->K a')->o.quiet P a C K):wpMix P ops C es Q k (o::rest) a w:=zC (fE hgd _) hE hp h
theorem Ev{o:fY}{a:Act}{w:tW}{R:Act->tW->Prop}(h:∀K:Act->tW->Prop,(∀a' w',a'.defers=a.defers->C w'->R a' w'->K a' w')->o.wp P a w K (λ_ _ _=>False)):lV P o a w (λv w'=>C w'/\R (a.put o.dst v) w'):=by
 have h1:=h (λa' w'=>a'.defers=a.defers/\C w'/\R a' w') (λa' w' h1 h2 h3=>⟨h1,h2,h3⟩);unfold Oper.wp at h1;unfold lV;generalize(mS a.eval o).run P w=r at *;cases r with
 |ok n w' =>
  cases n<;>simp only[Oper.upon]at h1<;>simp only[effUpon]
  case value u=>exact h1.2
  case skip=>exact h1.2
  case defer d =>have h2:=h1.1;rw[AO]at h2;have:=congrArg cW h2;simp at this
  case enter f args =>
   refine h1.mono λe w'' he=>?_;cases e with
   |returned v=>exact⟨v,rfl,he.2⟩
   |panicked c=>exact he.elim
   |outgrown=>obtain⟨_,_,hf⟩:=he;exact hf.elim
  case row row args=>exact h1.mono λv w'' he=>he.2
 |halt x w'=>cases x<;>simp only[Oper.upon]at h1
theorem Ih{Q:Act->tW->Prop}{k:Nat}{o:fY}{rest:List fY}{a:Act}{w:tW}(hw:ab o (oE ops a.tmps)=eJ)(hE:es.contains k=eJ)(h:∀K:Act->tW->Prop,(∀a' w',a'.defers=a.defers->C w'->wpMix P ops C es Q (k+1) rest a' w'->K a' w')->o.wp P a w K (λ_ _ _=>False)):wpMix P ops C es Q k (o::rest) a w:=by unfold wpMix;rw[iP9 hw,iP9 hE];exact Ev h
theorem aN{Q:Act->tW->Prop}{k:Nat}{o:fY}{rest:List fY}{a:Act}{w:tW}(hgd:o.guard=ez)(hE:es.contains k=eJ)(h:∀K:Act->tW->Prop,(∀a' w',a'.defers=a.defers->C w'->wpMix P ops C es Q (k+1) rest a' w'->K a' w')->o.wp P a w K (λ_ _ _=>False)):wpMix P ops C es Q k (o::rest) a w:=Ih (fE hgd _) hE h
theorem wE{Q:Act->tW->Prop}{k:Nat}{o:fY}{rest:List fY}{a:Act}{w:tW}(hw:ab o (oE ops a.tmps)=eJ)(hE:es.contains k=eE)(x:oR)(ad:ju)(ho:o.op=.nilCheck x)(hx:a.eval x=ia (eC ad))(h:wpMix P ops C es Q (k+1) rest (a.put o.dst (ia (eC ad))) w):wpMix P ops C es Q k (o::rest) a w:=by unfold wpMix;rw[iP9 hw,hE];refine⟨_,λw _=>?_,h⟩;unfold iV;simp only[mS,ho,hx];exact⟨rfl,rfl⟩
theorem eF{Q:Act->tW->Prop}{k:Nat}{o:fY}{rest:List fY}{a:Act}{w:tW}(hgd:o.guard=ez)(hE:es.contains k=eE)(x:oR)(ad:ju)(ho:o.op=.nilCheck x)(hx:a.eval x=ia (eC ad))(h:wpMix P ops C es Q (k+1) rest (a.put o.dst (ia (eC ad))) w):wpMix P ops C es Q k (o::rest) a w:=wE (fE hgd _) hE x ad ho hx h
theorem dR{Q:Act->tW->Prop}{k:Nat}{a:Act}{w:tW}(h:Q a w):wpMix P ops C es Q k [] a w:=h
end
def Sl(w:tW)(e:gh)(size:Nat)(v:eM)(n:Nat)(xs:tLV):Prop:=w.ownsRow 0 e size v n xs
section
variable {w w' : World} {e : gh} {size : Nat} {v : eM} {n : Nat} {xs : List eM} {S : Nat -> Prop}
theorem Sl.nil(w:tW)(e:gh)(size:Nat):Sl w e size (vN) 0 []:=World.ownsRow_nil w 0 e size
theorem Sl.ae(h:Sl w e size v n xs)(m:aa S w w')(hS:∀k,v.ownBlock=eC k->¬S k):Sl w' e size v n xs:=by
 refine⟨h.1,?_⟩;rcases h.2 with hn |⟨g,cap,cur,rfl,hb,hg,rest⟩
 ·exact .inl hn
 ·exact .inr ⟨g,cap,cur,rfl,hb,(m.block g (Array.getElem?_eq_some_iff.1 hg).1 (hS g rfl)).trans hg,rest⟩
theorem Sl.lt(h:Sl w e size v n xs)(k:Nat)(hk:v.ownBlock=eC k):k<w.heap.size:=(World.ownsRow.lt h k hk).2
theorem Sl.len(h:Sl w e size v n xs):ee xs=n*size:=h.1
theorem Sl.view(h:Sl w e size v n xs):∃o cap,v=eK o n cap/\(0<n->∃g cs,o=eC ⟨g,0,ez⟩/\ak w g cs e/\cs.toList.take (n*size)=xs/\n<=cap/\cap<=fX):=by
 rcases h.2 with⟨rfl,rfl⟩ |⟨g,cap,cur,rfl,_,hg,hn,hm,_,ht⟩
 ·exact⟨ez,0,rfl,λh=>absurd h (by omega)⟩
 ·exact⟨_,cap,rfl,λ_=>⟨g,cur,rfl,hg,ht,hn,hm⟩⟩
theorem aa.Ii{row:Option Nat}(h:w.grownBy w' row):aa (λk=>row=eC k) w w' :=
 ⟨h.os,h.tape,h.output,h.size,λk hk hs=>h.block k hk (λe=>hs e.symm)⟩
theorem wF{P:jz}(w:tW)(t ty e:gh)(i:pw)(z:eM)(size bytes:Nat)(ht:P.underlying t=eC (.slice e))(hi:P.info? e=eC i)(hz:i.zero=eC z)(hsize:i.size=size) (hby:i.bytes=bytes) (hzs:z.cells.size=size) (hsz:0<size)(v:eM) (n:Nat) (xs:tLV) (hown:Sl w e size v n xs)(a:ju) (m c:Nat) (news:tLV) (hl:ee news=m*size) (hnews:∀j u,news[j]?=eC u->w.cell? (a.add j)=eC u) (h1:∀u∈news,u.oneCell'=eJ)(h63:n+m<=fX) (hbytes:(n+m)*bytes<=140737488355328):∃v' w',(Builtin.append_ #[t,t] ty #[v,eK (eC a) m c]).run P w=.ok v' w'/\Sl w' e size v' (n+m) (xs++news)/\aa (λk=>v.ownBlock=eC k) w w' /\ (∀k,v'.ownBlock=eC k->v.ownBlock=eC k\/w.heap.size<=k):=by
 obtain⟨v',w',hr,h2,h3,_⟩:=AE (P:=P) w 0 t ty e i z size bytes ht hi hz hsize hby hzs hsz v n xs hown a m c news hl hnews h1 h63 hbytes (cw _);refine⟨v',w',hr,h2,aa.Ii h3,?_⟩;intro k hk;rcases hown.2 with⟨rfl,rfl⟩ |⟨g,cap,cur,rfl,_,hg,hn,hm,hcs,htk⟩
 ·obtain⟨v2,w2,hr2,h22,_⟩:=AE (P:=P) w w.heap.size t ty e i z size bytes ht hi hz hsize hby hzs hsz _ 0 xs ⟨hown.1,.inl ⟨rfl,rfl⟩⟩ a m c news hl hnews h1 h63 hbytes (cR _);rw[hr]at hr2;cases hr2;exact .inr (World.ownsRow.lt h22 k hk).1
 ·by_cases hroom:n+m<=cap
  ·have hfit:n*i.size+ee news<=cur.size:=by rw[hl,hcs,hsize,<-b9];exact Nat.mul_le_mul_right _ hroom
   have hr2:=run_append_room (P:=P) w t ty e i ht hi g n cap cur hg a m c news (by rw[hl,hsize]) hnews h1 hroom hfit;rw[hr]at hr2;cases hr2;exact .inl hk
  ·obtain⟨v2,w2,hr2,h22,_⟩:=run_append_arg_grows (P:=P) w t ty e i z size bytes ht hi hz hsize hby hzs hsz ⟨g,0,ez⟩ n cap xs hown.1 (World.ownsRow.cells hown (g:=g) rfl) a m c news hl hnews (by omega) h63 hbytes;rw[hr]at hr2;cases hr2;exact .inr (World.ownsRow.lt h22 k hk).1
theorem eG{P:jz}(w:tW){o:fY}{a:Act}{K:Act->tW->Prop}{Q:mL->Act->tW->Prop}(s x:oR)(t:gh)(ho:o.op=.call {callee:=.builtin .append,args:=#[s,x],argTypes:=#[t,t]})(e:gh) (i:pw) (z:eM) (size bytes:Nat) (ht:P.underlying t=eC (.slice e)) (hi:P.info? e=eC i) (hz:i.zero=eC z)(hsize:i.size=size) (hby:i.bytes=bytes) (hzs:z.cells.size=size) (hsz:0<size)(v:eM) (n:Nat) (xs:tLV) (hs:a.eval s=v) (hown:Sl w e size v n xs)(ad:ju) (m c:Nat) (news:tLV) (hx:a.eval x=eK (eC ad) m c) (hl:ee news=m*size) (hnews:∀j u,news[j]?=eC u->w.cell? (ad.add j)=eC u) (h1:∀u∈news,u.oneCell'=eJ)(h63:n+m<=fX) (hbytes:(n+m)*bytes<=140737488355328)(h:∀v' w',Sl w' e size v' (n+m) (xs++news)->aa (λk=>v.ownBlock=eC k) w w'->(∀k,v'.ownBlock=eC k->v.ownBlock=eC k\/w.heap.size<=k)->K (a.put o.dst v') w'):o.wp P a w K Q:=by obtain⟨v',w',hr,h2,h3,h4⟩:=wF (P:=P) w t o.type e i z size bytes ht hi hz hsize hby hzs hsz v n xs hown ad m c news hl hnews h1 h63 hbytes;unfold Oper.wp mS;simp only[ho,resolve,invoke,builtin,Sem.run_bind,Sem.run_pure,Result.andThen_ok,List.map_toArray,cD,List.map_nil,hs,hx,hr];exact h v' w' h2 h3 h4
theorem aP{P:jz}(w:tW){ops:Array fY}{rest:List fY}{o:fY}{a:Act}{Q:mL->Act->tW->Prop}(hgd:o.guard=ez)(s x:oR)(t:gh)(ho:o.op=.call {callee:=.builtin .append,args:=#[s,x],argTypes:=#[t,t]})(e:gh) (i:pw) (z:eM) (size bytes:Nat) (ht:P.underlying t=eC (.slice e)) (hi:P.info? e=eC i) (hz:i.zero=eC z)(hsize:i.size=size) (hby:i.bytes=bytes) (hzs:z.cells.size=size) (hsz:0<size)(v:eM) (n:Nat) (xs:tLV) (hs:a.eval s=v) (hown:Sl w e size v n xs)(ad:ju) (m c:Nat) (news:tLV) (hx:a.eval x=eK (eC ad) m c) (hl:ee news=m*size) (hnews:∀j u,news[j]?=eC u->w.cell? (ad.add j)=eC u) (h1:∀u∈news,u.oneCell'=eJ)(h63:n+m<=fX) (hbytes:(n+m)*bytes<=140737488355328)(h:∀v' w',Sl w' e size v' (n+m) (xs++news)->aa (λk=>v.ownBlock=eC k) w w'->(∀k,v'.ownBlock=eC k->v.ownBlock=eC k\/w.heap.size<=k)->nB P ops Q rest (a.put o.dst v') w'):nB P ops Q (o::rest) a w :=
 wpList_plain hgd λ_ hK=>eG w s x t ho e i z size bytes ht hi hz hsize hby hzs hsz v n xs hs hown ad m c news hx hl hnews h1 h63 hbytes λv' w' h2 h3 h4=>hK _ _ (h v' w' h2 h3 h4)
theorem jV{P:jz}{ops:Array fY}{o:fY}{a:Act}{w:tW}{K:Act->tW->Prop}{Q:mL->Act->tW->Prop}{E:Prop}(hgd:o.guard=ez) (s x:oR) (t:gh)(ho:o.op=.call {callee:=.builtin .append,args:=#[s,x],argTypes:=#[t,t]})(e:gh) (i:pw) (z:eM) (size bytes:Nat) (ht:P.underlying t=eC (.slice e)) (hi:P.info? e=eC i) (hz:i.zero=eC z)(hsize:i.size=size) (hby:i.bytes=bytes) (hzs:z.cells.size=size) (hsz:0<size)(v:eM) (n:Nat) (xs:tLV) (hs:a.eval s=v) (hown:Sl w e size v n xs)(ad:ju) (m c:Nat) (news:tLV) (hx:a.eval x=eK (eC ad) m c) (hl:ee news=m*size) (hnews:∀j u,news[j]?=eC u->w.cell? (ad.add j)=eC u) (h1:∀u∈news,u.oneCell'=eJ)(h63:n+m<=fX) (hbytes:(n+m)*bytes<=140737488355328)(h:∀v' w',Sl w' e size v' (n+m) (xs++news)->aa (λk=>v.ownBlock=eC k) w w'->(∀k,v'.ownBlock=eC k->v.ownBlock=eC k\/w.heap.size<=k)->K (a.put o.dst v') w'):if ab o (oE ops a.tmps)=eJ then Oper.wp P o a w K Q else E:=by
 have hw:ab o (oE ops a.tmps)=eJ:=by simp[ab,hgd]
 rw[iP9 hw];exact eG w s x t ho e i z size bytes ht hi hz hsize hby hzs hsz v n xs hs hown ad m c news hx hl hnews h1 h63 hbytes h
end
theorem flat_get{α:Type}(f:α->tLV)(c:Nat)(hf:∀x,ee (f x)=c):∀(l:List α) (i j:Nat) (hi:i<ee l),j<c->(l.flatMap f)[i*c+j]?=(f l[i])[j]?
 |x::l,0,j,_,hj=>by rw[ar,List.getElem?_append_left (by rw[hf];omega)];simp
 |x::l,i+1,j,hi,hj=>by
  rw[ar,List.getElem?_append_right (by rw[hf,b9];omega),hf];have:(i+1)*c+j-c=i*c+j:=by rw[b9];omega
  rw[this,flat_get f c hf l i j (by simpa using hi) hj];simp
theorem TT{α:Type}(f:α->tLV)(c:Nat)(hf:∀x,ee (f x)=c)(l:List α):ee (l.flatMap f)=ee l*c:=by
 induction l with
 |nil=>simp
 |cons x l ih=>rw[ar,List.length_append,hf,ih,cX,b9];omega
theorem aX{w:tW}{g:Nat}{cs:tAV}{e:gh}{k:Nat}{xs:tLV}(hb:ak w g cs e)(ht:cs.toList.take k=xs)(j:Nat)(hj:j<k):w.cell? ⟨g,j,ez⟩=xs[j]?:=by rw[hb.cell j,<-ht,List.getElem?_take,iP9 hj];simp
theorem tT{α:Type}(f:α->tLV)(c:Nat)(hf:∀x,ee (f x)=c):∀(l:List α) (k j:Nat) (hk:k<ee l) (_:j<c) (v:eM) (y:α) (_:(f l[k]).set j v=f y),(l.flatMap f).set (k*c+j) v=(l.set k y).flatMap f
 |x::l,0,j,_,hj,v,y,hy=>by have hl:=hf x;simp only[List.getElem_cons_zero]at hy;rw[ar,cN,ar,<-hy,Nat.zero_mul,cI,List.set_append,iP9 (by omega)]
 |x::l,k+1,j,hk,hj,v,y,hy=>by
  have hl:=hf x;have e:(k+1)*c+j=c+(k*c+j):=by rw[b9];omega
  rw[ar,cQ,ar,<-tT f c hf l k j (by simpa using hk) hj v y (by simpa using hy),List.set_append,iN9 (by omega),e,hl,show c+(k*c+j)-c=k*c+j by omega]
theorem Sl.ay{w:tW}{e e':gh}{size n k:Nat}{v:eM}{xs:tLV}{cs:tAV}(h:Sl w e size v n xs)(hb:ak w k cs e')(he:e≠e'):v.ownBlock≠eC k:=by
 intro hk;rcases h.2 with⟨rfl,rfl⟩ |⟨g,cap,cur,rfl,_,hg,_⟩
 ·cases hk
 ·cases hk;unfold ak at hb;rw[hg]at hb;cases hb;exact he rfl
theorem Sl.apart{w:tW}{e e':gh}{size size' n n' k:Nat}{v v':eM}{xs xs':tLV}(h:Sl w e size v n xs)(h':Sl w e' size' v' n' xs')(he:e≠e')(hk:v.ownBlock=eC k):v'.ownBlock≠eC k:=by
 rcases h.2 with⟨rfl,rfl⟩ |⟨g,cap,cur,rfl,_,hg,_⟩
 ·cases hk
 ·cases hk;exact h'.ay hg (Ne.symm he)
def mX(s:tBA)(r:RS):Nat×RS:=((rb s r).1+256*(rb s (rb s r).2).1,(rb s (rb s r).2).2)
def KV(s:tBA)(r:RS):Nat×RS:=((mX s r).1+65536*(mX s (mX s r).2).1,(mX s (mX s r).2).2)
theorem xe(s:tBA)(r:RS):(mX s r).1<=65535:=by have:=ou s r;have:=ou s (rb s r).2;simp only[mX];omega
theorem TU(s:tBA)(r:RS):(KV s r).1<=4294967295:=by have:=xe s r;have:=xe s (mX s r).2;simp only[KV];omega
theorem yD(b:Nat)(s:tBA)(r:RS)(w:tW)(hs:s.size<=fX)(h:bH w b s r):fL prog 46 #[vP b] w λe w'=>e=fR (vI ((mX s r).1:Nat))/\bH w' b s (mX s r).2/\aa (Only b) w w':=by have l1:=ou s r;have l2:=ou s (rb s r).2;go_in;go_wp2_with fail;refine(iq b s r _ hs h).mono ?_;rintro e w1 ⟨rfl,h1,m1⟩;go_wp2_with fail;refine(iq b s _ _ hs h1).mono ?_;rintro e w2 ⟨rfl,h2,m2⟩;go_wp2;go_ret;exact⟨by simp[mX],h2,m1.trans m2⟩
theorem Ew(b:Nat)(s:tBA)(r:RS)(w:tW)(hs:s.size<=fX)(h:bH w b s r):fL prog 280 #[vP b] w λe w'=>e=fR (vU ((KV s r).1:Nat))/\bH w' b s (KV s r).2/\aa (Only b) w w':=by have l1:=xe s r;have l2:=xe s (mX s r).2;go_in;go_wp2_with fail;refine(yD b s r _ hs h).mono ?_;rintro e w1 ⟨rfl,h1,m1⟩;go_wp2_with fail;refine(yD b s _ _ hs h1).mono ?_;rintro e w2 ⟨rfl,h2,m2⟩;go_wp2;go_ret;exact⟨by simp[KV];omega,h2,m1.trans m2⟩
def nameB(l:tLB):Bool :=
 eS (ee l<=16)&&(match l with | []=>eE|c::_=>kK (c.toNat:Int))&&l.all (λc=>pR (c.toNat:Int))
theorem mY{s:tBA}(h:0<s.size):s.toList.isEmpty=eE:=by rw[ByteArray.toList_eq,List.isEmpty_eq_false_iff_exists_mem];exact⟨s.data[0]'h,by simp⟩
theorem lL{s:tBA}(h:s.size=0):s.toList.isEmpty=eJ:=by rw[ByteArray.toList_eq];have :=b5 h;simp[this]
theorem Ij{s:tBA}(h:0<s.size):nameB s.data.toList=(eS (s.size<=16)&&kK (s[0].toNat:Int)&&s.data.toList.all (λc=>pR (c.toNat:Int))):=by
 have e:s.data.toList=s[0]::s.data.toList.tail:=by
  have:s.data.toList≠[]:=by intro h';have:=congrArg cW h';simp at this;have h2:s.size=s.data.size:=rfl;rw[h2,this]at h;simp at h
  conv=>lhs;rw[<-List.cons_head_tail this]
  congr 1;rw[List.head_eq_getElem];rfl
 have hl:ee s.data.toList=s.size:=by simp
 unfold nameB;rw[hl]
 conv=>lhs;rw[e]
 conv=>rhs;rw[e]
theorem BO{s:tBA}(h:s.size=0):nameB s.data.toList=eE:=by have :=b5 h;simp[this,nameB]
theorem Ex(s:tBA)(k:Nat)(h:k<s.size):s.data.toList.take (k+1)=s.data.toList.take k++[s[k]]:=by rw[List.take_succ_eq_append_getElem (by simpa using h)];rfl
theorem BP{s:tBA}{p:UInt8->Bool}{k:Nat}(h:k<s.size)(hp:p s[k]=eE):s.data.toList.all p=eE:=by rw[List.all_eq_false];exact⟨s[k],by rw[<-Array.mem_def];exact Array.getElem_mem h,by simp[hp]⟩
theorem jy{a b:Bool}(h:a=b):Ending.returned (fS a)=fR (fS b):=by rw[h]
theorem KW(s:tBA)(w:tW)(hs:s.size<=fX):fL prog 86 #[eI s] w λe w'=>e=fR (fS (nameB s.data.toList))/\w'=w:=by
 unfold fX at hs;by_cases h0:0<s.size
 ·have he:=mY h0;have HN:af (_=_):=Ij h0;by_cases h1:s.size<=16
  ·have hb:((s.size:Int)<=16):=by omega
   cases h2:kK (s[0].toNat:Int)with
   |false =>go_in;go_wp2_with (go_at_call 166;refine(vk _ _).mono ?_;rintro e w' ⟨rfl,rfl⟩);go_ret;exact⟨jy (by rw[HN.o,h2];simp),rfl⟩
   |true =>
    go_in;go_wp2_with (go_at_call 166;refine(vk _ _).mono ?_;rintro e w' ⟨rfl,rfl⟩);go_loop [3] (λi=>∃k:Nat,k<=s.size/\i=vI k/\(s.data.toList.take k).all (λc=>pR (c.toNat:Int))=eJ) (λi=>s.size-(intOf i).toNat)
    case atStart=>exact⟨0,cw _,rfl,rfl⟩
    case round =>
     obtain⟨k,hk,rfl,hall⟩:=hrel;have HA:=ai hall;clear hall;by_cases hlt:k<s.size
     ·cases hp:pR (s[k].toNat:Int)with
      |false =>go_wp2_with (go_at_call 167;refine(Ic _ _).mono ?_;rintro e w' ⟨rfl,rfl⟩);go_ret;exact⟨jy (by rw[HN.o,BP hlt hp];simp),rfl⟩
      |true =>
       go_wp2_with (go_at_call 167;refine(Ic _ _).mono ?_;rintro e w' ⟨rfl,rfl⟩);go_round
       case rel=>exact⟨k+1,by omega,by go_num,by rw[Ex s k hlt];simp[HA.o,hp]⟩
       case measure=>simp[intOf];omega
     ·go_wp2;go_ret;have ht:s.data.toList.take k=s.data.toList:=List.take_of_length_le (by simp;omega);exact⟨jy (by rw[HN.o,h2,<-ht,HA.o];simp[h1]),rfl⟩
  ·have hb:¬((s.size:Int)<=16):=by omega
   go_in;go_wp2_with (go_at_call 166;refine(vk _ _).mono ?_;rintro e w' ⟨rfl,rfl⟩);go_ret;exact⟨jy (by rw[HN.o];simp[h1]),rfl⟩
 ·have he:=lL (s:=s) (by omega);have hz:af (_=_):=BO (s:=s) (by omega);go_in;go_wp2;go_ret;exact⟨jy hz.o.symm,rfl⟩
def ow(s:tBA)(r:RS):tBA×RS :=
 let n:=(rb s r).1;let q:=(rb s r).2
 if q.bad||decide (s.size<q.pos+n)then(ByteArray.empty,⟨q.pos,eJ⟩)
 else(s.extract q.pos (q.pos+n),⟨q.pos+n,!(nameB (s.extract q.pos (q.pos+n)).data.toList)⟩)
theorem qD(s:tBA)(r:RS)(h:r.pos<=s.size):(rb s r).2.pos<=s.size:=by
 unfold rb;split
 ·simp;omega
 ·exact h
theorem Ey(b:Nat)(s:tBA)(r:RS)(w:tW)(hs:s.size<=fX)(hp:r.pos<=s.size)(h:bH w b s r):fL prog 45 #[vP b] w λe w'=>e=fR (eI (ow s r).1)/\bH w' b s (ow s r).2/\aa (Only b) w w':=by
 have l1:=ou s r;have l2:=qD s r hp;have hs':=hs;unfold fX at hs';go_in;go_wp2_with fail;refine(iq b s r _ hs h).mono ?_;rintro e w1 ⟨rfl,h1,m1⟩
 have e0:af (ow s r=if(rb s r).2.bad||decide (s.size<(rb s r).2.pos+(rb s r).1)then(ByteArray.empty,⟨(rb s r).2.pos,eJ⟩)
   else(s.extract (rb s r).2.pos ((rb s r).2.pos+(rb s r).1),⟨(rb s r).2.pos+(rb s r).1,!(nameB (s.extract (rb s r).2.pos ((rb s r).2.pos+(rb s r).1)).data.toList)⟩)):=rfl
 generalize hq:rb s r=q at *;obtain⟨n,p,bad⟩:=q;simp only at *;clear hq;have c0:=h1.cell 0;have c1:=h1.cell 1;have c2:=h1.cell 2;have f1:=h1.frozen 1;have f2:=h1.frozen 2;simp at c0 c1 c2;cases bad with
 |true =>go_wp2;go_quiet (fail);go_wp2;go_ret;rw[e0.o];exact⟨rfl,(h1.drewN _).set 2 _,(m1.drewN _).bz 2 _⟩
 |false =>
  by_cases hlt:s.size<p+n
  ·have hd:eS ((s.size:Int)-(p:Int)<(n:Int))=eJ:=by simp;omega
   go_wp2;go_quiet (fail);go_wp2;go_ret;rw[e0.o,iP9 (by simp[hlt])];exact⟨rfl,(h1.drewN _).set 2 _,(m1.drewN _).bz 2 _⟩
  ·have hd:eS ((s.size:Int)-(p:Int)<(n:Int))=eE:=by simp;omega
   have hle:p+n<=s.size:=by omega
   go_wp2;go_quiet (fail);go_wp2;go_quiet (fail);go_wp2_with fail;refine(KW _ _ (by simp only[ByteArray.size_extract];unfold fX;omega)).mono ?_;rintro e w2 ⟨rfl,rfl⟩;cases hn:nameB (s.extract p (p+n)).data.toList with
   |true =>go_wp2;go_ret;rw[e0.o,iN9 (by simp[hle])];exact⟨rfl,by simp only[hn,Bool.not_true];exact(h1.drewN _).set 1 _,(m1.drewN _).bz 1 _⟩
   |false =>go_wp2;go_ret;rw[e0.o,iN9 (by simp[hle])];exact⟨rfl,by simp only[hn,Bool.not_false];exact((h1.drewN _).set 1 _).set 2 _,((m1.drewN _).bz 1 _).bz 2 _⟩
def T(l:tLB):tBA:=⟨l.toArray⟩
def strs(l:List tBA):tAV:=(l.map Value.string).toArray
def jA:List tBA:=[T [109,111,118],T [97,100,100],T [115,117,98],T [109,117,108],T [100,105,118],T [109,111,100],T [97,110,100],T [111,114],T [120,111,114],T [108,115,104],T [114,115,104],T [97,115,104],T [110,101,103]]
theorem tU(w:tW):fL prog 281 #[] w λe w'=>e=fR (eK (eC ⟨w.heap.size,0,ez⟩) 13 13)/\ak w' w.heap.size (strs jA) 9/\aa ah w w':=by go_in;go_wp2;go_ret;exact⟨rfl,ak.new _ _ _,aq⟩
def fH:List tBA:=[T [106,97],T [106,101,113],T [106,110,101],T [106,103,116],T [106,103,101],T [106,108,116],T [106,108,101],T [106,115,103,116],T [106,115,103,101],T [106,115,108,116],T [106,115,108,101],T [106,115,101,116]]
def lF:List tBA:=[T [103,101,116],T [112,117,116],T [100,101,108],T [108,111,103]]
theorem qE(w:tW):fL prog 282 #[] w λe w'=>e=fR (eK (eC ⟨w.heap.size,0,ez⟩) 12 12)/\ak w' w.heap.size (strs fH) 9/\aa ah w w':=by go_in;go_wp2;go_ret;exact⟨rfl,ak.new _ _ _,aq⟩
theorem Ik(w:tW):fL prog 171 #[] w λe w'=>e=fR (eK (eC ⟨w.heap.size,0,ez⟩) 4 4)/\ak w' w.heap.size (strs lF) 9/\aa ah w w':=by go_in;go_wp2;go_ret;exact⟨rfl,ak.new _ _ _,aq⟩
def placeM(s:tBA):List tBA->Int
 |[]=>-1
 |x::l=>if x=s then 0 else if placeM s l<0 then -1 else placeM s l+1
theorem Il(l:List tBA)(k:Nat)(h:k<ee l):(strs l)[k]?=eC (Value.string l[k]):=by simp[strs,h]
theorem AQ(s:tBA):∀(l:List tBA),(∀j,(hj:j<ee l)->l[j]≠s)->placeM s l=-1
 |[],_=>rfl
 |x::l,h=>by have h0:x≠s:=h 0 (by simp);have ih:=AQ s l (λj hj=>h (j+1) (by simp;omega));simp[placeM,h0,ih]
theorem Ez(s:tBA):∀(l:List tBA) (k:Nat) (hk:k<ee l),(∀j,(hj:j<ee l)->j<k->l[j]≠s)->l[k]=s->placeM s l=k
 |x::l,0,_,_,h=>by simp at h;simp[placeM,h]
 |x::l,k+1,hk,h,he=>by have h0:x≠s:=h 0 (by simp) (by omega);have ih:=Ez s l k (by simpa using hk) (λj hj hjk=>h (j+1) (by simp;omega) (by omega)) (by simpa using he);simp[placeM,h0,ih];omega
theorem toList_inj{a b:tBA}(h:a.toList=b.toList):a=b:=by rw[ByteArray.toList_eq,ByteArray.toList_eq]at h;cases a;cases b;simpa using h
theorem qF{a b:tBA}(h:a≠b):(a.toList==b.toList)=eE:=by rw[beq_eq_false_iff_ne];exact λe=>h (toList_inj e)
theorem FV{a b:tBA}(h:a=b):(a.toList==b.toList)=eJ:=by simp[h]
theorem bT{a b:Int}(h:a=b):Ending.returned (vI a)=fR (vI b):=by rw[h]
theorem EA(s:tBA)(b:Nat)(l:List tBA)(w:tW)(hl:ee l<=1000)(h:ak w b (strs l) 9):fL prog 283 #[eI s,eK (eC ⟨b,0,ez⟩) (ee l) (ee l)] w λe w'=>e=fR (vI (placeM s l))/\w'=w:=by
 go_in;go_wp2;go_loop [5] (λi=>∃k:Nat,k<=ee l/\i=vI k/\∀j,(hj:j<ee l)->j<k->l[j]≠s) (λi=>ee l-(intOf i).toNat)
 case atStart=>exact⟨0,cw _,rfl,λj _ h=>absurd h (Nat.not_lt_zero _)⟩
 case round =>
  obtain⟨k,hk,rfl,hn⟩:=hrel;have HN:af _:=hn;clear hn;by_cases hlt:k<ee l
  ·have hc:=h.cell k;rw[Il l k hlt]at hc;by_cases he:l[k]=s
   ·have hpl:=Ez s l k hlt (λj hj hjk=>HN.o j hj hjk) he;have HP:=ai hpl;clear hpl;go_wp2;go_ret;exact⟨bT HP.o.symm,rfl⟩
   ·have hb:=qF he;have HE:af _:=he;clear he;go_wp2;go_round
    case rel=>exact⟨k+1,by omega,by go_num,λj hj hjk=>by
     by_cases e:j=k
     ·subst e;exact HE.o
     ·exact HN.o j hj (by omega)⟩
    case measure=>simp[intOf];omega
  ·have HP:=ai (AQ s l (λj hj=>HN.o j hj (by omega)));go_wp2;go_ret;exact⟨bT HP.o.symm,rfl⟩
def BL(b:tBA):tLB:=b.data.toList
theorem Yk(b:tBA):T (BL b)=b:=rfl
theorem TV(b:tBA):ee (BL b)=b.size:=rfl
def lG(s:tBA)(c:Int):Int :=
 if h:s.size=3 then
  if s.extract 0 2=(if c=115 then T [115,116]else T [108,100])/\((s[2].toNat:Int)=49\/(s[2].toNat:Int)=50\/(s[2].toNat:Int)=52\/(s[2].toNat:Int)=56)then(s[2].toNat:Int)-48 else 0
 else 0
theorem TW{s:tBA}{c:Int}(h:s.size≠3):lG s c=0:=by simp[lG,h]
theorem TY{s:tBA}{c:Int}(h:s.size=3):lG s c=(if s.extract 0 2=(if c=115 then T [115,116]else T [108,100])/\((s[2].toNat:Int)=49\/(s[2].toNat:Int)=50\/(s[2].toNat:Int)=52\/(s[2].toNat:Int)=56)then(s[2].toNat:Int)-48 else 0):=by unfold lG;rw[dif_pos h]
theorem KX(s:tBA)(c:Int)(w:tW)(hs:s.size<=fX)(hb:((s.size:Int) != 3)=eE)(hgt:2<s.size)(H3:af (s.size=3)):fL prog 284 #[eI s,vB c] w λe w'=>e=fR (vI (lG s c))/\w'=w:=by
 unfold fX at hs;have hl:s[2].toNat<256:=(s[2]).toNat_lt;have HF:af (_=_):=TY (c:=c) H3.o;by_cases hc:c=115
 ·subst hc;by_cases hp:s.extract 0 2=T [115,116]
  ·have hp':((s.extract 0 2).toList==[115,116])=eJ:=by rw[hp];simp[T]
   have HP:af _:=hp;clear hp;by_cases hn:(s[2].toNat:Int)=49\/(s[2].toNat:Int)=50\/(s[2].toNat:Int)=52\/(s[2].toNat:Int)=56
   ·have HV:af (lG s 115=(s[2].toNat:Int)-48):=by rw[af,HF.o,iP9 ⟨by simp[HP.o],hn⟩]
    have hge:48<=(s[2].toNat:Int):=by omega
    rcases hn with hn|hn|hn|hn
    all_goals
     go_in;go_wp2;go_ret;exact⟨bT (by rw[HV.o];omega),rfl⟩
   ·have HV:af (lG s 115=0):=by rw[af,HF.o,iN9 (λe=>hn e.2)]
    have h1:((s[2].toNat:Int)-48==1)=eE:=by simp;omega
    have h2:((s[2].toNat:Int)-48==2)=eE:=by simp;omega
    have h3:((s[2].toNat:Int)-48==4)=eE:=by simp;omega
    have h4:((s[2].toNat:Int)-48==8)=eE:=by simp;omega
    clear hn;go_in;go_wp2;go_ret;exact⟨bT HV.o.symm,rfl⟩
  ·have hp':((s.extract 0 2).toList==[115,116])=eE:=by simpa [T]using qF hp
   have HV:af (lG s 115=0):=by rw[af,HF.o,iN9 (λe=>hp (by simpa using e.1))]
   clear hp;go_in;go_wp2;go_ret;exact⟨bT HV.o.symm,rfl⟩
 ·have hc':(c==115)=eE:=by simp[hc]
  have HC:=ai hc;clear hc;by_cases hp:s.extract 0 2=T [108,100]
  ·have hp':((s.extract 0 2).toList==[108,100])=eJ:=by rw[hp];simp[T]
   have HP:af _:=hp;clear hp;by_cases hn:(s[2].toNat:Int)=49\/(s[2].toNat:Int)=50\/(s[2].toNat:Int)=52\/(s[2].toNat:Int)=56
   ·have HV:af (lG s c=(s[2].toNat:Int)-48):=by rw[af,HF.o,iP9 ⟨by rw[iN9 HC.o];exact HP.o,hn⟩]
    rcases hn with hn|hn|hn|hn
    all_goals
     go_in;go_wp2;go_ret;exact⟨bT (by rw[HV.o];omega),rfl⟩
   ·have HV:af (lG s c=0):=by rw[af,HF.o,iN9 (λe=>hn e.2)]
    have h1:((s[2].toNat:Int)-48==1)=eE:=by simp;omega
    have h2:((s[2].toNat:Int)-48==2)=eE:=by simp;omega
    have h3:((s[2].toNat:Int)-48==4)=eE:=by simp;omega
    have h4:((s[2].toNat:Int)-48==8)=eE:=by simp;omega
    clear hn;go_in;go_wp2;go_ret;exact⟨bT HV.o.symm,rfl⟩
  ·have hp':((s.extract 0 2).toList==[108,100])=eE:=by simpa [T]using qF hp
   have HV:af (lG s c=0):=by rw[af,HF.o,iN9 (λe=>hp (by have:=e.1;rwa [iN9 HC.o]at this))]
   clear hp;go_in;go_wp2;go_ret;exact⟨bT HV.o.symm,rfl⟩
theorem Im(s:tBA)(c:Int)(w:tW)(hs:s.size<=fX):fL prog 284 #[eI s,vB c] w λe w'=>e=fR (vI (lG s c))/\w'=w:=by
 by_cases h3:s.size=3
 ·exact KX s c w hs (by simp;omega) (by omega) h3
 ·unfold fX at hs;have hb:((s.size:Int) != 3)=eJ:=by simp;omega
  have HF:af (lG s c=0):=TW h3;clear h3;go_in;go_wp2;go_ret;exact⟨bT HF.o.symm,rfl⟩
def TZ(s:tBA):tBA:=if 2<s.size/\s.extract (s.size-2) s.size=T [51,50]then s.extract 0 (s.size-2)else s
def aF(s:tBA):Int :=
 if 0<=placeM (TZ s) jA then 114
 else if 0<=placeM s fH then 106
 else if 0<lG s 108 then 108
 else if 0<lG s 115 then 115
 else if s=T [119,105,100,101]then 119
 else if s=T [104,101,108,112]then 104
 else if s=T [99,97,108,108]then 99
 else if s=T [101,120,105,116]then 101
 else 0
theorem aa.of_nil{S:Nat->Prop}{w w':tW}(h:aa ah w w'):aa S w w':=h.mono (λ_ _ e=>e.elim)
theorem qG{a b:Int}(h:a=b):Ending.returned (vB a)=fR (vB b):=by rw[h]
theorem Ee(s:tBA)(b:Nat)(w:tW)(h:ak w b (strs jA) 9):fL prog 283 #[eI s,eK (eC ⟨b,0,ez⟩) 13 13] w λe w'=>e=fR (vI (placeM s jA))/\w'=w :=
 EA s b jA w (by decide) h
theorem BQ(s:tBA)(b:Nat)(w:tW)(h:ak w b (strs fH) 9):fL prog 283 #[eI s,eK (eC ⟨b,0,ez⟩) 12 12] w λe w'=>e=fR (vI (placeM s fH))/\w'=w :=
 EA s b fH w (by decide) h
theorem fP{a:tBA}{l:tLB}(h:a≠T l):(a.toList==l)=eE:=by have:=qF h;simpa [T]using this
theorem gi{a:tBA}{l:tLB}(h:a=T l):(a.toList==l)=eJ:=by rw[h];simp[T]
theorem eO(s:tBA)(w:tW)(hs:s.size<=fX):fL prog 170 #[eI s] w λe w'=>e=fR (vB (aF s))/\aa ah w w':=by
 have hs':=hs;unfold fX at hs';have HS:af (_=_):=aF.eq_1 s;generalize hbs:TZ s=base at HS
 have hcase:(2<s.size/\((s.extract (s.size-2) s.size).toList==[51,50])=eJ/\s.extract 0 (s.size-2)=base) \/
   (2<s.size/\((s.extract (s.size-2) s.size).toList==[51,50])=eE/\s=base)\/(¬2<s.size/\s=base):=by
  subst hbs;unfold TZ;by_cases h2:2<s.size
  ·by_cases h32:s.extract (s.size-2) s.size=T [51,50]
   ·exact .inl ⟨h2,gi h32,(iP9 ⟨h2,h32⟩).symm⟩
   ·exact .inr (.inl ⟨h2,fP h32,(iN9 (λe=>h32 e.2)).symm⟩)
  ·exact .inr (.inr ⟨h2,(iN9 (λe=>h2 e.1)).symm⟩)
 clear hbs;rcases hcase with⟨h2,hq,rfl⟩ |⟨h2,hq,rfl⟩ |⟨h2,rfl⟩
 all_goals
  go_in;go_wp2_with fail;refine(tU _).mono ?_;rintro e w1 ⟨rfl,b1,m1⟩;go_wp2_with fail;refine(Ee _ _ _ b1).mono ?_;rintro e w2 ⟨rfl,rfl⟩;have HS2:=HS.o;clear HS;split at HS2
  ·rename_i t1
   have HV:=ai HS2;clear HS2;go_wp2;go_ret;exact⟨qG HV.o.symm,m1⟩
  rename_i t1
  have HS:=ai HS2;clear HS2;go_wp2_with fail;refine(qE _).mono ?_;rintro e w3 ⟨rfl,b3,m3⟩;go_wp2_with fail;refine(BQ _ _ _ b3).mono ?_;rintro e w4 ⟨rfl,rfl⟩;by_cases t2:0<=placeM s fH
  ·have HV:af (aF s=106):=by rw[af,HS.o,iP9 t2]
   go_wp2;go_ret;exact⟨qG HV.o.symm,m1.trans m3⟩
  rw[iN9 t2]at HS;go_wp2_with fail;refine(Im _ _ _ hs).mono ?_;rintro e w5 ⟨rfl,rfl⟩;by_cases t3:0<lG s 108
  ·have HV:af (aF s=108):=by rw[af,HS.o,iP9 t3]
   go_wp2;go_ret;exact⟨qG HV.o.symm,m1.trans m3⟩
  rw[iN9 t3]at HS;go_wp2_with fail;refine(Im _ _ _ hs).mono ?_;rintro e w6 ⟨rfl,rfl⟩;by_cases t4:0<lG s 115
  ·have HV:af (aF s=115):=by rw[af,HS.o,iP9 t4]
   go_wp2;go_ret;exact⟨qG HV.o.symm,m1.trans m3⟩
  rw[iN9 t4]at HS;by_cases t5:s=T [119,105,100,101]
  ·have q5:=gi t5;have HV:af (aF s=119):=by rw[af,HS.o,iP9 t5]
   clear t5;go_wp2;go_ret;exact⟨qG HV.o.symm,m1.trans m3⟩
  have q5:=fP t5;rw[iN9 t5]at HS;clear t5;by_cases t6:s=T [104,101,108,112]
  ·have q6:=gi t6;have HV:af (aF s=104):=by rw[af,HS.o,iP9 t6]
   clear t6;go_wp2;go_ret;exact⟨qG HV.o.symm,m1.trans m3⟩
  have q6:=fP t6;rw[iN9 t6]at HS;clear t6;by_cases t7:s=T [99,97,108,108]
  ·have q7:=gi t7;have HV:af (aF s=99):=by rw[af,HS.o,iP9 t7]
   clear t7;go_wp2;go_ret;exact⟨qG HV.o.symm,m1.trans m3⟩
  have q7:=fP t7;rw[iN9 t7]at HS;clear t7;by_cases t8:s=T [101,120,105,116]
  ·have q8:=gi t8;have HV:af (aF s=101):=by rw[af,HS.o,iP9 t8]
   clear t8;go_wp2;go_ret;exact⟨qG HV.o.symm,m1.trans m3⟩
  have q8:=fP t8;rw[iN9 t8]at HS;clear t8;go_wp2;go_ret;exact⟨qG HS.o.symm,m1.trans m3⟩
theorem T9{a b:tBA}(h:a≠b):(a==b)=eE:=by
 cases c:(a==b)with
 |false=>rfl
 |true=>exact absurd ((MapKept.bytes_beq a b).1 c) h
theorem yE(a:tBA):(a==a)=eJ:=(MapKept.bytes_beq a a).2 rfl
def kvFind(s:tBA):List (tBA×eM)->Nat->Option (Nat×eM)
 |[],_=>ez
 |(k,v)::l,i=>if s==k then eC (i,v)else kvFind s l (i+1)
def KY(e:tS):eM×eM:=(e.key,e.val)
def kvC(p:tBA×eM):eM×eM:=(eI p.1,p.2)
theorem lH(s:tBA):∀(l:List tS) (kv:List (tBA×eM)) (i:Nat),l.map KY=kv.map kvC->Instr.findNow .string (eI s) l i=eC (kvFind s kv i)
 |[],[],_,_=>rfl
 |[],_::_,_,h=>by simp at h
 |_::_,[],_,h=>by simp at h
 |e::l,(k,v)::kv,i,h=>by
  rw[cD,cD]at h;injection h with h1 h2;injection h1 with h3 h4;unfold Instr.findNow kvFind;rw[h3];simp only[Instr.sameNow];by_cases c:(s==k)=eJ
  ·rw[c];simp only[if_true];rw[h4]
  ·have c':(s==k)=eE:=by simpa using c
   rw[c'];simp only[ao,if_false];exact lH s l kv (i+1) h2
theorem qH(s:tBA):∀(kv:List (tBA×eM)) (i:Nat),(kvFind s kv i).map (·.2)=(kv.find? (λp=>s==p.1)).map (·.2)
 |[],_=>rfl
 |(k,v)::kv,i=>by
  unfold kvFind;rw[List.find?_cons];by_cases c:(s==k)=eJ
  ·simp[c]
  ·have c':(s==k)=eE:=by simpa using c
   simp only[c',ao,if_false];exact qH s kv (i+1)
def MapOf(w:tW)(b:Nat)(f:tBA->Option eM):Prop:=∃(es:Array tS) (clock:Nat) (kv:List (tBA×eM)),w.heap[b]?=eC (.map es clock)/\es.toList.map KY=kv.map kvC/\∀s,(kv.find? (λp=>s==p.1)).map (·.2)=f s
theorem MapOf.new(w:tW):MapOf (w.alloc (.map #[] 0)) w.heap.size (λ_=>ez):=⟨#[],0,[],sx w _,rfl,λ_=>rfl⟩
theorem MapOf.lt{w:tW}{b:Nat}{f:tBA->Option eM}(h:MapOf w b f):b<w.heap.size:=by obtain⟨_,_,_,hb,_⟩:=h;exact(Array.getElem?_eq_some_iff.1 hb).1
theorem MapOf.ae{w w':tW}{b:Nat}{f:tBA->Option eM}{S:Nat->Prop}(h:MapOf w b f)(m:aa S w w')(hS:¬S b):MapOf w' b f:=by have hl:=h.lt;obtain⟨es,clock,kv,hb,h2⟩:=h;exact⟨es,clock,kv,(m.block b hl hS).trans hb,h2⟩
theorem MapOf.ay{w:tW}{b g:Nat}{f:tBA->Option eM}{cs:tAV}{t:gh}(h:MapOf w b f)(hb:ak w g cs t):g≠b:=by intro e;subst e;obtain⟨_,_,_,h1,_⟩:=h;have:w.heap[g]?=eC (eR cs t (0,0)):=hb;rw[h1]at this;cases this
theorem MapOf.lookup{P:jz}{w:tW}{b:Nat}{f:tBA->Option eM}(h:MapOf w b f){t kt et:gh}(hm:P.underlying t=eC (.map kt et))(hk:P.underlying kt=eC .string){z:eM}(hz:(zeroValue et).run P w=.ok z w)(s:tBA):(Instr.lookup t (.map (eC b)) (eI s) eJ).run P w=.ok (.tuple #[(f s).getD z,fS (f s).isSome]) w:=by
 obtain⟨es,clock,kv,hb,he,hf⟩:=h;have hc:(Instr.checkKey es.isEmpty 10000 kt (eI s)).run P w=.ok () w:=MapKept.run_checkKey (k:=eI s) hk (by simp[MapKept.IsKey]) _ 9999;have hfn:=MapKept.run_findKey (P:=P) (w:=w) hk (lH s es.toList kv 0 he);have hv:=qH s kv 0;rw[hf s]at hv;unfold Instr.lookup;simp only[Sem.run_bind,pB hm,MapKept.run_getObj_map hb,hc,hfn,Result.andThen,Sem.run_pure];cases hq:kvFind s kv 0 with
 |none =>rw[hq]at hv;rw[<-hv];simp[hz,Result.andThen]
 |some q =>rw[hq]at hv;rw[<-hv];simp
theorem zD(s:tBA):∀(kv:List (tBA×eM)) (i j:Nat) (v:eM),kvFind s kv i=eC (j,v)->∃n,j=i+n/\n<ee kv/\(∃v',kv[n]?=eC (s,v'))/\∀u s',((kv.set n (s,u)).find? (λp=>s'==p.1)).map (·.2)=if s'=s then eC u else(kv.find? (λp=>s'==p.1)).map (·.2)
 |[],_,_,_,h=>by simp[kvFind]at h
 |(k,w)::kv,i,j,v,h=>by
  unfold kvFind at h;by_cases c:(s==k)=eJ
  ·rw[iP9 c]at h;cases h;have e:=(MapKept.bytes_beq s k).1 c;subst e;refine⟨0,rfl,by simp,⟨w,rfl⟩,λu s'=>?_⟩;rw[cN,List.find?_cons,List.find?_cons];by_cases d:s'=s
   ·subst d;simp[yE]
   ·have d':=T9 d;simp only[d',iN9 d]
  ·rw[iN9 c]at h;obtain⟨n,e,hn,⟨v',hv'⟩,hs⟩:=zD s kv (i+1) j v h;refine⟨n+1,by omega,by simpa using hn,⟨v',by simpa using hv'⟩,λu s'=>?_⟩;rw[cQ,List.find?_cons,List.find?_cons];by_cases d:(s'==k)=eJ
   ·have e:=(MapKept.bytes_beq s' k).1 d;subst e;have:s'≠s:=λe=>c (by rw[e];exact yE _);simp[this,yE]
   ·have d':(s'==k)=eE:=by simpa using d
    simp only[d'];exact hs u s'
theorem tV(s:tBA):∀(kv:List (tBA×eM)) (i:Nat),kvFind s kv i=ez->kv.find? (λp=>s==p.1)=ez
 |[],_,_=>rfl
 |(k,w)::kv,i,h=>by
  unfold kvFind at h;by_cases c:(s==k)=eJ
  ·rw[iP9 c]at h;cases h
  ·rw[iN9 c]at h;have c':(s==k)=eE:=by simpa using c
   rw[List.find?_cons];simp only[c'];exact tV s kv (i+1) h
theorem MapOf.update{P:jz}{w:tW}{b:Nat}{f:tBA->Option eM}(h:MapOf w b f){t kt et:gh}(hm:P.underlying t=eC (.map kt et))(hk:P.underlying kt=eC .string)(s:tBA)(u:eM):∃w',(Instr.mapUpdate t (.map (eC b)) (eI s) u).run P w=.ok () w'/\MapOf w' b (λs'=>if s'=s then eC u else f s')/\aa (λk=>k=b) w w':=by
 obtain⟨es,clock,kv,hb,he,hf⟩:=h;have hlt:=(Array.getElem?_eq_some_iff.1 hb).1;have hc:(Instr.checkKey eE 10000 kt (eI s)).run P w=.ok () w:=MapKept.run_checkKey (k:=eI s) hk (by simp[MapKept.IsKey]) _ 9999;have hfn:=MapKept.run_findKey (P:=P) (w:=w) hk (lH s es.toList kv 0 he);have Io:∀o:Obj,aa (λk=>k=b) w {w with heap:=w.heap.setIfInBounds b o}:=λo=>⟨rfl,rfl,rfl,by simp,λk _ hn=>(MapKept.heap_set hb).2 k hn⟩
 cases hq:kvFind s kv 0 with
 |none =>
  rw[hq]at hfn;refine⟨{w with heap:=w.heap.setIfInBounds b (.map (es.push {key:=eI s,val:=u,born:=clock}) (clock+1))},?_,⟨_,_,kv++[(s,u)],(MapKept.heap_set hb).1,?_,λs'=>?_⟩,Io _⟩
  ·unfold Instr.mapUpdate;simp[pB hm,MapKept.run_getObj_map hb,hc,hfn,MapKept.run_setObj_map _ hb,Result.andThen]
  ·simp[he,KY,kvC]
  ·have hn:=tV s kv 0 hq;rw[List.find?_append];by_cases d:s'=s
   ·subst d;rw[hn];simp[yE]
   ·have d':=T9 d;show _=if s'=s then eC u else f s'
    rw[iN9 d,<-hf s'];cases kv.find? (λp=>s'==p.1)with
    |none=>simp[d']
    |some q=>simp
 |some q =>
  obtain⟨j,v⟩:=q;rw[hq]at hfn;obtain⟨n,e,hn,⟨v',hv'⟩,hs⟩:=zD s kv 0 j v hq;rw[cI]at e;subst e;have hjl:j<es.size:=by have:=congrArg cW he;simp at this;omega
  have hej:KY es[j]=kvC (s,v'):=by
   have:=congrArg (λl:List (eM×eM)=>l[j]?) he;simp only[List.getElem?_map,hv',de]at this;rw[Array.getElem?_toList,Array.getElem?_eq_getElem hjl]at this
   simpa using this
  have hkey:es[j].key=eI s:=congrArg Prod.fst hej;have hst:(Instr.keyThatStays (((es[j]?).map (·.key)).getD (eI s)) (eI s)).run P w=.ok (eI s) w:=by rw[Array.getElem?_eq_getElem hjl,de,Option.getD_some,hkey];exact MapKept.run_keyThatStays (d:=.string) (by simp[MapKept.IsKey])
  refine⟨{w with heap:=w.heap.setIfInBounds b (.map (es.modify j λe=>{e with key:=eI s,val:=u}) clock)},?_,⟨_,_,kv.set j (s,u),(MapKept.heap_set hb).1,?_,λs'=>?_⟩,Io _⟩
  ·unfold Instr.mapUpdate;simp[pB hm,MapKept.run_getObj_map hb,hc,hfn,hst,MapKept.run_setObj_map _ hb,Result.andThen]
  ·rw[List.map_set,<-he];refine List.ext_getElem (by simp) λt h1 h2=>?_;simp only[List.getElem_map,Array.getElem_toList,Array.getElem_modify,List.getElem_set];split
   ·rfl
   ·rfl
  ·rw[hs u s',hf s']
def labelM(nm:tBA):List (tBA×Int)->Int
 |[]=>-1
 |(l,p)::ls=>if l=nm then p else labelM nm ls
def FW(l:List tBA):tLV:=l.map Value.string
def jW(l:List Int):tLV:=l.map (Value.int .i64)
theorem Ip(nm:tBA)(l:List (tBA×Int))(k:Nat)(h:k<ee l):labelM nm (l.drop k)=if l[k].1=nm then l[k].2 else labelM nm (l.drop (k+1)):=by rw[List.drop_eq_getElem_cons h];rfl
theorem Sl.at{w:tW}{e:gh}{v:eM}{n:Nat}{xs:tLV}{o:Option ju}{cap:Nat}(h:Sl w e 1 v n xs)(hv:v=eK o n cap):∀k,k<n->∃g,o=eC ⟨g,0,ez⟩/\∀j,j<n->w.cell? ⟨g,j,ez⟩=xs[j]?:=by intro k hk;obtain⟨o',cap',rfl,h2⟩:=h.view;cases hv;obtain⟨g,cs,rfl,hb,ht,_⟩:=h2 (by omega);exact⟨g,rfl,λj hj=>aX hb ht j (by omega)⟩
theorem O9(fb off:Nat)(nm:tBA)(ls:List (tBA×Int))(vL vP:eM)(w:tW)(h4:w.cell? ⟨fb,off+4,ez⟩=eC vL)(h5:w.cell? ⟨fb,off+5,ez⟩=eC vP)(sL:Sl w 9 1 vL (ee ls) (FW (ls.map (·.1)))) (sP:Sl w 3 1 vP (ee ls) (jW (ls.map (·.2)))) (hb:ee ls<=1000):fL prog 173 #[ia (eC ⟨fb,off,ez⟩),eI nm] w λe w'=>e=fR (vI (labelM nm ls))/\w'=w:=by
 obtain⟨oL,cL,rfl,_⟩:=sL.view;obtain⟨oP,cP,rfl,_⟩:=sP.view;go_in;go_wp2;go_loop [5] (λi=>∃k:Nat,k<=ee ls/\i=vI k/\labelM nm (ls.drop k)=labelM nm ls) (λi=>ee ls-(intOf i).toNat)
 case atStart=>exact⟨0,cw _,rfl,by simp⟩
 case round =>
  obtain⟨k,hk,rfl,hn⟩:=hrel;have HN:af _:=hn;clear hn;by_cases hlt:k<ee ls
  ·obtain⟨gL,rfl,cellL⟩:=sL.at rfl k hlt;obtain⟨gP,rfl,aaJ⟩:=sP.at rfl k hlt;have c1:w.cell? ⟨gL,k,ez⟩=eC (eI ls[k].1):=by rw[cellL k hlt];simp[FW,hlt]
   have c2:w.cell? ⟨gP,k,ez⟩=eC (vI ls[k].2):=by rw[aaJ k hlt];simp[jW,hlt]
   clear cellL aaJ;have HD:af (_=_):=Ip nm ls k hlt;by_cases he:ls[k].1=nm
   ·have q:=FV he;have HP:af (labelM nm ls=ls[k].2):=by rw[af,<-HN.o,HD.o,iP9 he]
    clear he;go_wp2;go_ret;exact⟨bT HP.o.symm,rfl⟩
   ·have q:=qF he;have HP:af (labelM nm (ls.drop (k+1))=labelM nm ls):=by rw[af,<-HN.o,HD.o,iN9 he]
    clear he;go_wp2;go_round
    case rel=>exact⟨k+1,by omega,by go_num,HP.o⟩
    case measure=>simp[intOf];omega
  ·have HP:af (labelM nm ls=-1):=by rw[af,<-HN.o,List.drop_eq_nil_of_le (by omega)];rfl
   go_wp2;go_ret;exact⟨bT HP.o.symm,rfl⟩
structure dE where
 name:tBA
 key:Int
 value:Int
 entries:Int
def dE.cells(m:dE):tLV:=[eI m.name,vI m.key,vI m.value,vI m.entries]
theorem dE.fI(m:dE):ee m.cells=4:=rfl
theorem Sl.at4{w:tW}{e:gh}{v:eM}{n:Nat}{ms:List dE}{o:Option ju}{cap:Nat}(h:Sl w e 4 v n (ms.flatMap dE.cells))(hn:n=ee ms)(hv:v=eK o n cap):∀k (_:k<ee ms),∃g,o=eC ⟨g,0,ez⟩/\∀j (hj:j<ee ms),w.cell? ⟨g,j*4,ez⟩=eC (eI ms[j].name)/\w.cell? ⟨g,j*4+1,ez⟩=eC (vI ms[j].key)/\w.cell? ⟨g,j*4+2,ez⟩=eC (vI ms[j].value)/\w.cell? ⟨g,j*4+3,ez⟩=eC (vI ms[j].entries):=by
 intro k hk;obtain⟨o',cap',rfl,h2⟩:=h.view;cases hv;obtain⟨g,cs,rfl,hb,ht,_⟩:=h2 (by omega);subst hn;refine⟨g,rfl,λj hj=>⟨?_,?_,?_,?_⟩⟩
 ·rw[aX hb ht _ (by omega)];exact flat_get dE.cells 4 dE.fI ms j 0 hj (by omega)
 ·rw[aX hb ht _ (by omega)];exact flat_get dE.cells 4 dE.fI ms j 1 hj (by omega)
 ·rw[aX hb ht _ (by omega)];exact flat_get dE.cells 4 dE.fI ms j 2 hj (by omega)
 ·rw[aX hb ht _ (by omega)];exact flat_get dE.cells 4 dE.fI ms j 3 hj (by omega)
def decF:Nat->Nat->tLB
 |0,_=>[]
 |f+1,n=>if n<10 then [UInt8.ofNat (48+n%10)]else decF f (n/10)++[UInt8.ofNat (48+n%10)]
def Yl(n:Nat):tLB:=decF 20 n
theorem Iq(f:Nat):∀n,ee (decF f n)<=f:=by
 induction f with
 |zero=>intro n;simp[decF]
 |succ f ih =>
  intro n;rw[decF];split
  ·simp
  ·have:=ih (n/10);simp;omega
theorem Ua(n:Nat):ee (Yl n)<=20:=Iq 20 n
theorem bS(l:tLB):(T l).size=ee l:=by simp[T,ByteArray.size]
theorem yF(l m:tLB):T l++T m=T (l++m):=by apply ByteArray.ext;simp[T]
def KZ(x:Int):tBA:=T [UInt8.ofNat x.toNat]
theorem Pc(x:Int):(KZ x).size=1:=rfl
theorem one_byte(w:tW)(x:Int)(h0:0<=x)(h1:x<=255):Sem.run prog (convert 162 9 (eK (eC ⟨w.heap.size,0,ez⟩) 1 1)) (w.alloc (eR #[vB x] 5))=.ok (eI (KZ x)) (w.alloc (eR #[vB x] 5)):=by
 refine run_convert_bytes_back _ 162 9 5 ⟨w.heap.size,0,ez⟩ 1 [UInt8.ofNat x.toNat] underlying162 underlying5 underlying9 ?_;intro j hj;have:j=0:=by simpa using hj
 subst this;have e:((UInt8.ofNat x.toNat).toNat:Int)=x:=by rw[UInt8.toNat_ofNat'];omega
 show World.cell? _ _=eC (Value.int .u8 (((UInt8.ofNat x.toNat).toNat:Nat):Int))
 rw[e];exact(ak.new w #[vB x] 5).cell 0
theorem BR(n:Nat):KZ (48+(n:Int)%10)=T [UInt8.ofNat (48+n%10)]:=by unfold KZ;congr 3
theorem Ub(f:Nat):∀(n:Nat),n<10 ^ (f+1)->n<18446744073709551616->f<=20->∀(w:tW), fL prog 172 #[vU n] w λe w'=>e=fR (eI (T (decF (f+1) n)))/\aa ah w w':=by
 induction f with
 |zero =>
  intro n hf hn hle w;have h:n<10:=by simpa using hf
  have hc:=one_byte w (48+(n:Int)%10) (by omega) (by omega);go_in;go_wp2_with fail;go_ret;exact⟨by rw[decF,iP9 h,<-BR];rfl,aq⟩
 |succ f ih =>
 intro n hf hn hle w;have hc:=one_byte w (48+(n:Int)%10) (by omega) (by omega);by_cases h:n<10
 ·go_in;go_wp2_with fail;go_ret;exact⟨by rw[decF,iP9 h,<-BR];rfl,aq⟩
 ·have hl:=Iq (f+1) (n/10);have HE:af (T (decF (f+1+1) n)=T (decF (f+1) (n/10))++KZ (48+(n:Int)%10)):=by unfold af;rw[decF,iN9 h,BR,yF]
  rw[<-bS]at hl;have hc2:=Pc (48+(n:Int)%10);have hsum:¬9223372036854775807<(T (decF (f+1) (n/10))).size+(KZ (48+(n:Int)%10)).size:=by omega
  go_in;go_wp2_with fail;refine(ih (n/10) (by rw[Nat.pow_succ]at hf;omega) (by omega) (by omega) _).mono ?_;rintro e w1 ⟨rfl,m1⟩;generalize T (decF (f+1) (n/10))=sd at *;generalize KZ (48+(n:Int)%10)=sc at *;go_wp2_with fail;go_ret;exact⟨by rw[HE.o];rfl,aq.trans m1⟩
theorem Ir(n:Nat)(hn:n<18446744073709551616)(w:tW):fL prog 172 #[vU n] w λe w'=>e=fR (eI (T (Yl n)))/\aa ah w w' :=
 Ub 19 n (by omega) hn (by omega) w
