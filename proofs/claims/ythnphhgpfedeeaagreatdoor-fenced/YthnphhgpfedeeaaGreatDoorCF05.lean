import Derived.Test.YthnphhgpfedeeaaGreatDoorProg
import Derived.WalkSpells
import Derived.WalkLawsBesides
import Derived.BigQuiet
import Derived.StillTailTactics
import Derived.Deep.RegionLaw
namespace Go.Proofs.YthnphhgpfedeeaaGreatDoor
open Go.RowKit
open _root_.Array renaming replicate->ba,eq_empty_of_size_eq_zero->b9,setIfInBounds_comm->cj
open Bool renaming and_eq_true->an,false_eq_true->ao,false_or->cy
open List renaming flatMap_cons->ar,length_cons->bq,mem_cons_of_mem->bt,append_nil->cw,length->cx,map_cons->cD,set_cons_zero->cI,set_cons_succ->cJ,range'->cQ,all_eq_true->cR
open Nat renaming zero_add->bh,not_lt_zero->bQ,add_mul->ca,lt_of_lt_of_le->cG,lt_or_ge->cH,le_refl->cN
open Option renaming map_some->b5
open Region renaming wanted->ab,ready->al,noSelect->aE,binds->bj,noSelect_spec->bO,free_spec->cq
set_option linter.all false
abbrev tLB:=List UInt8
abbrev tAV:=Array Value
abbrev tBA:=ByteArray
abbrev tW:=World
def af(p:Prop):Prop:=p
theorem af.mV{p:Prop}(h:af p):p:=h
theorem af.o{p:Prop}(h:af p):p:=h
theorem ai{p:Prop}(h:p):af p:=h
theorem sA9{α:Type}{l:List α}{i:Nat}{a:α}:l.toArray.setIfInBounds i a=(l.set i a).toArray:=List.setIfInBounds_toArray ..
theorem sB9{α:Type}{x a:α}{l:List α}{i:Nat}:(x::l).set (i+1) a=x::l.set i a:=rfl
theorem iP9{c:Prop}{h:Decidable c}(hc:c){α:Sort _}{t e:α}:ite c t e=t:=if_pos hc
theorem iN9{c:Prop}{h:Decidable c}(hc:¬c){α:Sort _}{t e:α}:ite c t e=e:=if_neg hc
theorem sC9{α:Type}{x a:α}{l:List α}:(x::l).set 0 a=a::l:=rfl
def pI(c:Int):Bool:=decide (97<=c)&&decide (c<=122)
def lI(c:Int):Bool:=decide (48<=c)&&decide (c<=57)
def ru(c:Int):Bool:=lI c||pI c||(c==95)
def ak(w:tW)(b:Nat)(cs:tAV)(t:TypeId):Prop:=w.heap[b]?=some (.cells cs t (0,0))
structure aa(S:Nat->Prop)(w w':tW):Prop where
 os:w'.os=w.os
 tape:w'.tape=w.tape
 output:w'.output=w.output
 size:w.heap.size<=w'.heap.size
 block:∀k,k<w.heap.size->¬S k->w'.heap[k]?=w.heap[k]?
section
variable {w w' w'' : World} {b : Nat} {cs : Array Value} {t : TypeId} {S S' : Nat -> Prop}
theorem ak.cell(h:ak w b cs t)(i:Nat):w.cell? ⟨b,i,none⟩=cs[i]?:=by simp[World.cell?,show w.heap[b]?=some (.cells cs t (0,0))from h]
theorem ak.frozen(h:ak w b cs t)(i:Nat):w.frozen? ⟨b,i,none⟩=false:=by simp[World.frozen?,show w.heap[b]?=some (.cells cs t (0,0))from h]
theorem ak.lt(h:ak w b cs t):b<w.heap.size:=(Array.getElem?_eq_some_iff.1 h).1
theorem ak.drewN(h:ak w b cs t)(n:Nat):ak (w.drewN n) b cs t:=h
theorem ak.drew(h:ak w b cs t):ak w.drew b cs t:=h
theorem ak.set(h:ak w b cs t)(i:Nat)(v:Value):ak (w.setCell ⟨b,i,none⟩ v) b (cs.setIfInBounds i v) t:=by have h':w.heap[b]?=some (.cells cs t (0,0)):=h;simp[ak,World.setCell,Array.getElem?_modify,h']
theorem ak.setOther(h:ak w b cs t){a:Addr}(ha:a.block≠b)(v:Value):ak (w.setCell a v) b cs t:=by
 show(w.setCell a v).heap[b]?=_
 rw[Below.heap_setCell _ _ _ _ (Ne.symm ha)];exact h
theorem ak.alloc(h:ak w b cs t)(o:Obj):ak (w.alloc o) b cs t:=by
 show(w.alloc o).heap[b]?=_
 rw[Below.heap_alloc _ _ _ h.lt];exact h
theorem ak.new(w:tW)(cs:tAV)(t:TypeId):ak (w.alloc (.cells cs t)) w.heap.size cs t:=heap_alloc_new w _
theorem ak.ag(h:ak w b cs t)(m:aa S w w')(hb:¬S b):ak w' b cs t:=(m.block b h.lt hb).trans h
theorem aa.refl(S:Nat->Prop)(w:tW):aa S w w:=⟨rfl,rfl,rfl,cN _,λ_ _ _=>rfl⟩
theorem aa.drewN(h:aa S w w')(n:Nat):aa S w (w'.drewN n):=⟨h.os,h.tape,h.output,h.size,h.block⟩
theorem aa.drew(h:aa S w w'):aa S w w'.drew:=⟨h.os,h.tape,h.output,h.size,h.block⟩
theorem aa.set(h:aa S w w'){a:Addr}(ha:S a.block\/w.heap.size<=a.block)(v:Value):aa S w (w'.setCell a v) :=
 ⟨h.os,h.tape,h.output,by have:=h.size;simp[World.setCell];omega,λk hk hs=>by rw[Below.heap_setCell _ _ _ _ (by rintro rfl;rcases ha with ha|ha;exact hs ha;omega)];exact h.block k hk hs⟩
theorem aa.alloc(h:aa S w w')(o:Obj):aa S w (w'.alloc o) :=
 ⟨h.os,h.tape,h.output,by have:=h.size;simp;omega,λk hk hs=>by rw[Below.heap_alloc _ _ _ (by have:=h.size;omega)];exact h.block k hk hs⟩
theorem ax{S:Nat->Prop}{w:tW}:aa S w w:=aa.refl S w
theorem aj{S:Nat->Prop}{w:tW}{o:Obj}:aa S w (w.alloc o):=(aa.refl S w).alloc o
theorem aJ{S:Nat->Prop}{w:tW}:aa S w w.drew:=(aa.refl S w).drew
theorem aa.trans(h:aa S w w')(k:aa S w' w''):aa S w w'' :=
 ⟨k.os.trans h.os,k.tape.trans h.tape,k.output.trans h.output,Nat.le_trans h.size k.size,λi hi hs=>(k.block i (cG hi h.size) hs).trans (h.block i hi hs)⟩
theorem aa.step(h:aa S w w')(k:aa S' w' w'')(hs:∀i,i<w.heap.size->S' i->S i):aa S w w'' :=
 ⟨k.os.trans h.os,k.tape.trans h.tape,k.output.trans h.output,Nat.le_trans h.size k.size,λi hi hn =>
  (k.block i (cG hi h.size) (λe=>hn (hs i hi e))).trans (h.block i hi hn)⟩
theorem aa.mono(h:aa S w w')(hs:∀i,i<w.heap.size->S i->S' i):aa S' w w' :=
 ⟨h.os,h.tape,h.output,h.size,λi hi hn=>h.block i hi (λe=>hn (hs i hi e))⟩
end
def Only(b:Nat):Nat->Prop:=λk=>k=b
def ae:Nat->Prop:=λ_=>False
theorem aa.aY{b:Nat}{w w':tW}(h:aa (Only b) w w')(i:Nat)(v:Value):aa (Only b) w (w'.setCell ⟨b,i,none⟩ v):=h.set (a:=⟨b,i,none⟩) (.inl (show b=b from rfl)) v
structure Ext(S:Nat->Prop)(w0:tW) where
 w:tW
 m:aa S w0 w
theorem Ext.ne(S:Nat->Prop)(w:tW):Nonempty (Ext S w):=⟨⟨w,aa.refl S w⟩⟩
theorem gm{P:Program}{id:Nat}{Q:Exit->Act->tW->Prop}{a:Act}{w:tW}{l:List Oper}(S:Nat->Prop)(hm:P.follows .mixedOrders=true)(hB:Region.lexB .any l.toArray=true)(h:wpQuiet P l.toArray (λw'=>∃g:Ext S w,w'=g.w) (λa'=>∀w',(∃g:Ext S w,w'=g.w)->Q .normal a' w') l a):(Code.region id l.toArray true).wp P Q a w :=
 wp_region_quiet (C:=λw'=>∃g:Ext S w,w'=g.w) hm hB ⟨⟨_,(aa.refl S w).drew⟩,rfl⟩ (by simpa using h)
theorem Calls.nu{P:Program}{f:FuncId}{args:tAV}{S:Nat->Prop}{w:tW}{g:Ext S w}{v:Value}(h:Calls P f args g.w λe w'=>e=.returned v/\aa ae g.w w'):Calls P f args g.w λe w''=>e=.returned v/\∃g':Ext S w,w''=g'.w :=
 h.mono λ_ w' ⟨he,hm⟩=>⟨he,⟨w',g.m.trans (hm.mono (λ_ _ e=>e.elim))⟩,rfl⟩
theorem Ext.cell{S:Nat->Prop}{w:tW}(g:Ext S w){b:Nat}{cs:tAV}{t:TypeId}(h:ak w b cs t)(hb:¬S b)(i:Nat):g.w.cell? ⟨b,i,none⟩=cs[i]? :=
 (h.ag g.m hb).cell i
theorem Ext.iV{S:Nat->Prop}{w:tW}{b:Nat}{v0 v1 v2 v3 v4 v5 v6 v7:Value}{t:TypeId}(h:ak w b #[v0,v1,v2,v3,v4,v5,v6,v7] t)(hb:¬S b):(∀g:Ext S w,g.w.cell? ⟨b,0,none⟩=some v0)/\(∀g:Ext S w,g.w.cell? ⟨b,1,none⟩=some v1)/\(∀g:Ext S w,g.w.cell? ⟨b,2,none⟩=some v2)/\(∀g:Ext S w,g.w.cell? ⟨b,3,none⟩=some v3) /\ (∀g:Ext S w,g.w.cell? ⟨b,4,none⟩=some v4)/\(∀g:Ext S w,g.w.cell? ⟨b,5,none⟩=some v5)/\(∀g:Ext S w,g.w.cell? ⟨b,6,none⟩=some v6)/\(∀g:Ext S w,g.w.cell? ⟨b,7,none⟩=some v7) :=
 ⟨λg=>g.cell h hb 0,λg=>g.cell h hb 1,λg=>g.cell h hb 2,λg=>g.cell h hb 3,λg=>g.cell h hb 4,λg=>g.cell h hb 5,λg=>g.cell h hb 6,λg=>g.cell h hb 7⟩
theorem jk{P:Program}{ops:Array Oper}{W:tW}{Q:Act->Prop}:∀(l:List Oper) (a:Act),wpQuiet P ops (λw'=>w'=W) Q l a->wpStill P ops W Q l a
 |[],a,h=>h
 |o::rest,a,h=>by
  unfold wpQuiet at h;unfold wpStill;split
  ·rename_i hw
   rw[iP9 hw]at h;obtain⟨v,h1,h2⟩:=h;have h3:=h1 W rfl;have ih:=jk rest _ h2;unfold Oper.quietAt at h3;unfold Oper.still;generalize(execOp a.eval o).run P W=r at *;cases r with
   |ok n w' =>
    cases n with
    |value u=>obtain⟨rfl,rfl⟩:=h3;exact⟨rfl,ih⟩
    |skip=>obtain⟨rfl,rfl⟩:=h3;exact⟨rfl,ih⟩
    |enter f args=>obtain⟨rfl,hc⟩:=h3;exact⟨rfl,v,hc,ih⟩
    |_=>exact h3.elim
   |_=>exact h3.elim
  ·rename_i hw
   rw[iN9 hw]at h;exact jk rest _ h
theorem bJ{P:Program}{id:Nat}{Q:Exit->Act->tW->Prop}{a:Act}{w:tW}{l:List Oper}(n:Nat)(hm:P.follows .mixedOrders=true)(hB:Region.lexTailB .any l.toArray n=true)(h:∀W,W=w.drew->wpQuiet P l.toArray (λw'=>w'=W) (λa'=>wpList P l.toArray Q (l.drop n) a' W) (l.take n) a):(Code.region id l.toArray true).wp P Q a w :=
 wp_region_still_tail n hm hB (jk _ _ (h _ rfl))
section
variable {P : Program} {ops : Array Oper} {md : Region.Mode} {C : World -> Prop} {es : List Nat} {p : Nat} {D : List Deferred} {E : List PanicEntry -> World -> Prop} {ok : Nat -> Bool} {Inv : Array Bool -> Prop} {eB : Array Bool -> Bool} {L : Act -> World -> Prop}
def pureUpon(w:tW)(v:Value):Result Next->Prop
 |.ok (.value u) w'=>w'=w/\u=v
 |.ok .skip w'=>w'=w/\v=undef
 |_=>False
def kL(P:Program)(o:Oper)(a:Act)(w:tW)(v:Value):Prop:=pureUpon w v ((execOp a.eval o).run P w)
def effUpon(P:Program)(K:Value->tW->Prop):Result Next->Prop
 |.ok (.value u) w'=>K u w'
 |.ok .skip w'=>K undef w'
 |.ok (.enter f args) w'=>Calls P f args w' (λe w''=>∃v,e=.returned v/\K v w'')
 |.ok (.row row args) w'=>Rows P row args w' K
 |_=>False
def kJ(P:Program)(o:Oper)(a:Act)(w:tW)(K:Value->tW->Prop):Prop:=effUpon P K ((execOp a.eval o).run P w)
theorem Jw{o:Oper}{a:Act}{w:tW}{u v:Value}(h:kL P o a w u)(h':kL P o a w v):u=v:=by
 unfold kL at *;generalize(execOp a.eval o).run P w=r at *;cases r with
 |ok n w' =>
  cases n<;>simp only[pureUpon]at h h'
  case value x=>exact h.2.symm.trans h'.2
  case skip=>exact h.2.trans h'.2.symm
 |halt x w'=>simp only[pureUpon]at h
theorem ig{K K':Value->tW->Prop}{r:Result Next}(h:∀v w,K v w->K' v w)(hh:effUpon P K r):effUpon P K' r:=by
 cases r with
 |ok n w' =>
  cases n<;>simp only[effUpon]at hh ⊢
  case value u=>exact h _ _ hh
  case skip=>exact h _ _ hh
  case enter f args=>exact hh.mono λe w'' ⟨v,he,hk⟩=>⟨v,he,h _ _ hk⟩
  case row row args=>exact hh.mono h
 |halt x w'=>simp only[effUpon]at hh
theorem wu{K:Value->tW->Prop}{r:Result Next}(hh:effUpon P K r):∃v w,K v w:=by
 cases r with
 |ok n w' =>
  cases n<;>simp only[effUpon]at hh
  case value u=>exact⟨_,_,hh⟩
  case skip=>exact⟨_,_,hh⟩
  case enter f args =>obtain⟨_,w2,_,⟨v,_,hk⟩,_⟩:=hh [];exact⟨v,w2,hk⟩
  case row row args =>obtain⟨v,w2,hk,_⟩:=hh (Frame.enter P 0 #[] .normal) [];exact⟨v,w2,hk⟩
 |halt x w'=>simp only[effUpon]at hh
def mOp(P:Program)(ops:Array Oper)(C:tW->Prop)(es:List Nat)(i:Nat)(K:Act->tW->Prop)(a:Act)(w:tW):Prop :=
 match ops[i]? with
 |none=>K a w
 |some o=>if ab o (yielded ops a.tmps)then
   (if es.contains i then kJ P o a w (λv w'=>C w'/\K (a.put o.dst v) w')else ∃v,(∀w,C w->kL P o a w v)/\K (a.put o.dst v) w)
  else K (a.put o.dst undef) w
theorem Rv{i:Nat}{a:Act}{w:tW}{K K':Act->tW->Prop}(hC:C w)(h:∀a w,C w->K a w->K' a w)(hh:mOp P ops C es i K a w):mOp P ops C es i K' a w:=by
 unfold mOp at *;split
 ·exact h _ _ hC (by simpa [*]using hh)
 ·rename_i o ho
  simp only[ho]at hh;split
  ·rename_i hw
   simp only[hw,if_true]at hh;split
   ·rename_i he;simp only[he,if_true]at hh;exact ig (λv w' h'=>⟨h'.1,h _ _ h'.1 h'.2⟩) hh
   ·rename_i he;simp only[he]at hh;obtain⟨v,h1,h2⟩:=hh;exact⟨v,h1,h _ _ hC h2⟩
  ·rename_i hw;simp only[hw]at hh;exact h _ _ hC hh
theorem FZ{i:Nat}{a:Act}{K K':Act->tW->Prop}{Q':Exit->Act->tW->Prop}{w:tW}(hC:C w)(h:∀a w',C w'->K a w'->K' a w')(hh:mOp P ops C es i K a w):wpOp P ops Q' i K' a w:=by
 unfold mOp at hh;unfold wpOp;split
 ·rename_i ho;simp only[ho]at hh;exact h _ _ hC hh
 ·rename_i o ho
  simp only[ho]at hh;split
  ·rename_i hw
   simp only[hw,if_true]at hh;left;unfold Oper.wp;split at hh
   ·unfold kJ at hh;generalize(execOp a.eval o).run P w=r at *;cases r with
    |ok n w' =>
     cases n<;>simp only[effUpon]at hh<;>simp only[Oper.upon]
     case value u=>exact h _ _ hh.1 hh.2
     case skip=>exact h _ _ hh.1 hh.2
     case enter f args=>exact hh.mono λe w'' ⟨v,he,hk⟩=>by subst he;exact h _ _ hk.1 hk.2
     case row row args=>exact hh.mono λv w'' hk=>h _ _ hk.1 hk.2
    |halt x w'=>simp only[effUpon]at hh
   ·obtain⟨v,h1,h2⟩:=hh;have h3:=h1 w hC;unfold kL at h3;generalize(execOp a.eval o).run P w=r at *;cases r with
    |ok n w' =>
     cases n<;>simp only[pureUpon]at h3<;>simp only[Oper.upon]
     case value u=>rw[h3.1,h3.2];exact h _ _ hC h2
     case skip=>rw[h3.1,<-h3.2];exact h _ _ hC h2
    |halt x w'=>simp only[pureUpon]at h3
  ·rename_i hw;simp only[hw]at hh;exact h _ _ hC hh
def panUpon(P:Program)(E:List PanicEntry->tW->Prop):Result Next->Prop
 |.ok (.enter f args) w'=>Calls P f args w' (λe w''=>∃c,e=.panicked c/\E c w'')
 |.halt (.panic v) w'=>E [{v,recovered:=false}] w'
 |_=>False
def wy(P:Program)(ops:Array Oper)(p:Nat)(D:List Deferred)(E:List PanicEntry->tW->Prop)(a:Act)(w:tW):Prop :=
 ∃o,ops[p]?=some o/\ab o (yielded ops a.tmps)=true/\a.defers=D/\panUpon P E ((execOp a.eval o).run P w)
theorem za(a:Act)(d:Option Nat)(v:Value):(a.put d v).defers=a.defers:=by unfold Act.put;split<;>rfl
theorem CX{oi oj:Oper}{v:Value}{a:Act}{w:tW}(hj:ops[p]?=some oj)(hap:oi.apart ops oj=true)(hsj:∀cs b,oj.op≠.select cs b)(h:wy P ops p D E (a.put oi.dst v) w):wy P ops p D E a w:=by obtain⟨h1,_,_⟩:=Oper.apart_spec hap;obtain⟨o,ho,hw,hd,hp⟩:=h;rw[hj]at ho;cases ho;exact⟨oj,hj,by rw[wanted_put oj a oi.dst v h1]at hw;exact hw,by rw[za]at hd;exact hd,by rw[execOp_put oj hsj a oi.dst v h1]at hp;exact hp⟩
theorem zb{a:Act}{w:tW}{K:Act->tW->Prop}{Q:Exit->Act->tW->Prop}(hQ:∀c a' w',a'.defers=D->E c w'->Q (.panic c) a' w')(h:wy P ops p D E a w):wpOp P ops Q p K a w:=by
 obtain⟨o,ho,hw,hd,hp⟩:=h;unfold wpOp;simp only[ho,hw,if_true];left;unfold Oper.wp;generalize(execOp a.eval o).run P w=r at *;cases r with
 |ok n w' =>
  cases n<;>simp only[panUpon]at hp<;>simp only[Oper.upon]
  case enter f args =>refine hp.mono λe w'' ⟨c,he,hk⟩=>?_;subst he;exact hQ c a w'' hd hk
 |halt x w' =>
  cases x<;>simp only[panUpon]at hp<;>simp only[Oper.upon]
  case panic v=>exact hQ _ a w' hd hp
def ik(P:Program)(ops:Array Oper)(C:tW->Prop)(o:Oper)(v:Value)(a:Act):Prop :=
 (ab o (yielded ops a.tmps)=true/\∀w,C w->kL P o a w v)\/(ab o (yielded ops a.tmps)=false/\v=undef)
theorem ik.of_same{o:Oper}{v:Value}{a a':Act}(hy:ik P ops C o v a)(he:execOp a'.eval o=execOp a.eval o)(hw:ab o (yielded ops a'.tmps)=ab o (yielded ops a.tmps)):ik P ops C o v a':=by unfold ik kL at *;rw[he,hw];exact hy
theorem ik.mOp{i:Nat}{o:Oper}{v:Value}{a:Act}(hi:ops[i]?=some o)(hE:es.contains i=false)(hy:ik P ops C o v a){K:Act->tW->Prop}{w:tW}(h:K (a.put o.dst v) w):mOp P ops C es i K a w:=by
 unfold Proofs.YthnphhgpfedeeaaGreatDoor.mOp;simp only[hi];rcases hy with⟨hw,hv⟩ |⟨hw,rfl⟩
 ·simp only[hw,if_true,hE,ao,if_false];exact⟨v,hv,h⟩
 ·simp only[hw,ao,if_false];exact h
theorem wz{i:Nat}{o:Oper}{a:Act}(hi:ops[i]?=some o)(hw:ab o (yielded ops a.tmps)=false){K:Act->tW->Prop}{w:tW}(h:K (a.put o.dst undef) w):mOp P ops C es i K a w:=by unfold Proofs.YthnphhgpfedeeaaGreatDoor.mOp;simp only[hi,hw,ao,if_false];exact h
theorem Wj{j:Nat}{oi oj:Oper}{v:Value}(hj:ops[j]?=some oj)(hap:oi.apart ops oj=true)(hsi:∀cs b,oi.op≠.select cs b) (hsj:∀cs b,oj.op≠.select cs b) {K:Act->tW->Prop} {a:Act} {w:tW}(hy:ik P ops C oi v a) (h:mOp P ops C es j K (a.put oi.dst v) w):mOp P ops C es j (λa' w'=>ik P ops C oi v a'/\K (a'.put oi.dst v) w') a w:=by
 obtain⟨h1,h2,h3⟩:=Oper.apart_spec hap
 have keep:∀(a:Act),ik P ops C oi v a->∀u,ik P ops C oi v (a.put oj.dst u):=λa hy u =>
  hy.of_same (execOp_put oi hsi a oj.dst u h3) (wanted_put oi a oj.dst u h3)
 unfold mOp at *;simp only[hj]at *;rw[wanted_put oj a oi.dst v h1]at h;unfold kJ kL at *;rw[execOp_put oj hsj a oi.dst v h1]at h;split
 ·rename_i hw
  simp only[hw,if_true]at h;split
  ·rename_i he
   simp only[he,if_true]at h;exact ig (λu w' h'=>⟨h'.1,keep a hy u,by rw[<-Act.put_comm a v u h2];exact h'.2⟩) h
  ·rename_i he
   simp only[he]at h;obtain⟨u,hu,hn⟩:=h;exact⟨u,hu,keep a hy u,by rw[<-Act.put_comm a v u h2];exact hn⟩
 ·rename_i hw
  simp only[hw]at h;exact⟨keep a hy _,by rw[<-Act.put_comm a v undef h2];exact h⟩
theorem tV{i:Nat}{oj:Oper}{listed:Array Bool}(hr:i∈al md ops listed)(hall:∀e∈oj.after,bj md e=true->listed.getD e.on false=true):∀e∈oj.after,bj md e=true->e.on≠i:=λe he hb heq=>by
 have h1:=hall e he hb;have h0:=(mem_ready.1 hr).1;rw[heq]at h1;rcases cH i listed.size with h'|h'
 ·simp[h']at h0 h1;rw[h0]at h1;cases h1
 ·simp[Array.getElem?_eq_none h']at h1
def chainB(md:Region.Mode)(ops:Array Oper):List Nat->Bool
 |e1::e2::r=>decide (e1<e2)&&(match ops[e2]? with|some o=>o.after.any (λe=>bj md e&&e.on==e1)|none=>false)&&chainB md ops (e2::r)
 |_=>true
theorem uQ{md:Region.Mode}{ops:Array Oper}:∀(e:Nat) (r:List Nat),chainB md ops (e::r)=true->∀j∈r,e<j
 |_,[],_,j,hj=>by cases hj
 |e,e2::r,h,j,hj=>by
  simp only[chainB,an,decide_eq_true_eq]at h;rcases List.mem_cons.1 hj with rfl|hj
  ·exact h.1.1
  ·have:=uQ e2 r h.2 j hj;omega
theorem ry{md:Region.Mode}{ops:Array Oper}:∀(es:List Nat),chainB md ops es=true->∀i j,i∈es->j∈es->i<j->∃p,p∈es/\i<=p/\p<j/\∃oj,ops[j]?=some oj/\∃e∈oj.after,bj md e=true/\e.on=p
 |[],_,i,_,hi,_,_=>by cases hi
 |[e],_,i,j,hi,hj,hlt=>by simp at hi hj;omega
 |e1::e2::r,h,i,j,hi,hj,hlt=>by
  have h0:=h;simp only[chainB,an,decide_eq_true_eq]at h;obtain⟨⟨h1,h2⟩,h3⟩:=h;by_cases hj1:j=e1
  ·subst hj1;rcases List.mem_cons.1 hi with rfl|hi
   ·omega
   ·have:=uQ j (e2::r) h0 i hi;omega
  ·have hj':j∈e2::r:=by
    rcases List.mem_cons.1 hj with h|h
    ·exact absurd h hj1
    ·exact h
   by_cases hi1:i=e1
   ·subst hi1;by_cases hj2:j=e2
    ·subst hj2;split at h2
     ·rename_i o ho
      obtain⟨e,he,hb⟩:=Array.any_eq_true'.1 h2;simp only[an,beq_iff_eq]at hb;exact⟨i,by simp,cN _,hlt,o,ho,e,he,hb.1,hb.2⟩
     ·cases h2
    ·have hlow:e2<j:=by
      rcases List.mem_cons.1 hj' with h|h
      ·exact absurd h hj2
      ·exact uQ e2 r h3 j h
     obtain⟨p,hp,hip,hpj,rest⟩:=ry (e2::r) h3 e2 j (by simp) hj' hlow;exact⟨p,bt _ hp,by omega,hpj,rest⟩
   ·have hi':i∈e2::r:=by
     rcases List.mem_cons.1 hi with h|h
     ·exact absurd h hi1
     ·exact h
    obtain⟨p,hp,hip,hpj,rest⟩:=ry (e2::r) h3 i j hi' hj' hlt;exact⟨p,bt _ hp,hip,hpj,rest⟩
def iW(P:Program)(md:Region.Mode)(ops:Array Oper)(C:tW->Prop)(es:List Nat)(p:Nat)(D:List Deferred)(E:List PanicEntry->tW->Prop)(ok:Nat->Bool)(eB:Array Bool->Bool)(L:Act->tW->Prop):Nat->Array Bool->Act->tW->Prop
 |0,listed,a,w=>eB listed=true/\L a w
 |f+1,listed,a,w=>al md ops listed≠[]/\∀i∈al md ops listed,(ok i=true/\mOp P ops C es i (iW P md ops C es p D E ok eB L f (listed.setIfInBounds i true)) a w)\/(i=p/\wy P ops p D E a w)
theorem pJ{g:Nat}{Q:Exit->Act->tW->Prop}(hQ:∀c a' w',a'.defers=D->E c w'->Q (.panic c) a' w')(hL:∀listed a w,eB listed=true->L a w->wpAny P md ops Q g listed a w):∀(f:Nat) (listed:Array Bool) (a:Act) (w:tW),C w->iW P md ops C es p D E ok eB L f listed a w->wpAny P md ops Q (f+g) listed a w
 |0,listed,a,w,_,h=>by rw[bh];exact hL _ _ _ h.1 h.2
 |f+1,listed,a,w,hC,h=>by
  rw[Nat.add_right_comm];refine⟨λh0=>absurd h0 h.1,λi hi=>?_⟩;rcases h.2 i hi with⟨_,h2⟩ |⟨rfl,h2⟩
  ·exact FZ hC (λa' w' Nj h'=>pJ hQ hL f _ a' w' Nj h') h2
  ·exact zb hQ h2
structure Side(P:Program)(md:Region.Mode)(ops:Array Oper)(es:List Nat)(p:Nat)(D:List Deferred)(E:List PanicEntry->tW->Prop)(ok:Nat->Bool)(Inv:Array Bool->Prop)(eB:Array Bool->Bool)(L:Act->tW->Prop):Prop where
 sel:aE ops=true
 ch:chainB md ops es=true
 pe:ops[p]?=none\/es.contains p=true
 set:∀listed j,Inv listed->j∈al md ops listed->ok j=true->Inv (listed.setIfInBounds j true)
 ins:∀listed i j,Inv listed->i∈al md ops listed->ok i=true->j∈al md ops listed->ok j=true\/j=p
 done:∀listed a w j,eB listed=true->L a w->j∈al md ops listed->ok j=true\/j=p->j=p/\wy P ops p D E a w
def Rw(md:Region.Mode)(ops:Array Oper)(i:Nat)(oi:Oper)(listed:Array Bool):Prop :=
 ∀j oj,ops[j]?=some oj->j≠i->listed.getD j true=false->(∀e∈oj.after,bj md e=true->e.on≠i)->oi.apart ops oj=true
theorem Rw.set{i j:Nat}{oi:Oper}{listed:Array Bool}(h:Rw md ops i oi listed)(hj:listed.getD j true=false):Rw md ops i oi (listed.setIfInBounds j true):=λk ok hk hki hun hno=>by
 refine h k ok hk hki ?_ hno;by_cases hjk:j=k
 ·subst hjk;exact hj
 ·rw[getD_set_ne true hjk]at hun;exact hun
theorem wD(S:Side P md ops es p D E ok Inv eB L){i:Nat}{oi:Oper}{v:Value}(hi:ops[i]?=some oi)(hoi:ok i=true)(hE:∀(K:Act->tW->Prop) (a:Act) (w:tW),C w->ik P ops C oi v a->K (a.put oi.dst v) w->mOp P ops C es i K a w):∀(f:Nat) (listed:Array Bool) (a:Act) (w:tW),Inv listed->Rw md ops i oi listed->i∈al md ops listed->C w->ik P ops C oi v a -> iW P md ops C es p D E ok eB L f (listed.setIfInBounds i true) (a.put oi.dst v) w->iW P md ops C es p D E ok eB L (f+1) listed a w:=by
 have hsel:=bO S.sel;intro f;induction f with
 |zero =>
  intro listed a w inv hfree hr hC hy H;refine⟨λh=>(by rw[h]at hr;cases hr),λj hj=>?_⟩;by_cases hji:j=i
  ·subst hji;exact .inl ⟨hoi,hE _ _ _ hC hy H⟩
  ·obtain⟨rfl,h2⟩:=S.done _ _ _ j H.1 H.2 (ready_mono hj hji) (S.ins _ i j inv hr hoi hj);obtain⟨hjun,oj,hoj,hall⟩:=mem_ready.1 hj;exact .inr ⟨rfl,CX hoj (hfree _ oj hoj hji hjun (tV hr hall)) (λcs b=>hsel _ oj cs b hoj) h2⟩
 |succ f ih =>
  intro listed a w inv hfree hr hC hy H;refine⟨λh=>(by rw[h]at hr;cases hr),λj hj=>?_⟩;by_cases hji:j=i
  ·subst hji;exact .inl ⟨hoi,hE _ _ _ hC hy H⟩
  ·obtain⟨hjun,oj,hoj,hall⟩:=mem_ready.1 hj;have hap:=hfree j oj hoj hji hjun (tV hr hall);rcases H.2 j (ready_mono hj hji)with⟨hjp,h1⟩ |⟨rfl,h1⟩
   ·refine .inl ⟨hjp,Rv hC (λa' w' Nj h3=>ih (listed.setIfInBounds j true) a' w' (S.set _ j inv hj hjp) (hfree.set hjun) (ready_mono hr (Ne.symm hji)) Nj h3.1 ?_) (Wj hoj hap (λcs b=>hsel i oi cs b hi) (λcs b=>hsel j oj cs b hoj) hy h1)⟩;rw[cj _ _ hji];exact h3.2
   ·exact .inr ⟨rfl,CX hoj hap (λcs b=>hsel _ oj cs b hoj) h1⟩
theorem Jy(S:Side P md ops es p D E ok Inv eB L){i:Nat}{oi:Oper}(hi:ops[i]?=some oi)(hoi:ok i=true)(hEi:es.contains i=true):∀(f:Nat) (listed:Array Bool) (a:Act) (w:tW),Inv listed->Rw md ops i oi listed -> (∀j,es.contains j=true->(i<j->listed.getD j true=false)/\(j<i->listed.getD j true=true)) -> i∈al md ops listed->ab oi (yielded ops a.tmps)=true->C w -> kJ P oi a w (λv w'=>C w'/\iW P md ops C es p D E ok eB L f (listed.setIfInBounds i true) (a.put oi.dst v) w')->iW P md ops C es p D E ok eB L (f+1) listed a w:=by
 have hsel:=bO S.sel
 have hno:∀(listed:Array Bool) (j:Nat),(∀j,es.contains j=true->(i<j->listed.getD j true=false)/\(j<i->listed.getD j true=true))->i∈al md ops listed->j∈al md ops listed->j≠i->es.contains j=false:=by
  intro listed j hinv hr hj hji;cases hc:es.contains j with
  |false=>rfl
  |true =>
   obtain⟨hjun,oj,hoj,hall⟩:=mem_ready.1 hj
   have hlt:i<j:=by
    rcases cH j i with h|h
    ·rw[(hinv j hc).2 h]at hjun;cases hjun
    ·omega
   obtain⟨p,hp,hip,hpj,oj',Rx,e,he,hb,hon⟩:=ry es S.ch i j (by simpa using hEi) (by simpa using hc) hlt;rw[hoj]at Rx;cases Rx;have h1:=hall e he hb;rw[hon]at h1;by_cases hpi:p=i
   ·subst hpi;exact absurd hon (tV hr hall e he hb)
   ·have h2:=(hinv p (by simpa using hp)).1 (by omega);rcases cH p listed.size with h'|h'
    ·simp[h']at h1 h2;rw[h2]at h1;cases h1
    ·simp[Array.getElem?_eq_none h']at h1
 have hnp:∀(listed:Array Bool) (j:Nat),es.contains j=false->j∈al md ops listed->j≠p:=λlisted j hE hj e=>by
  subst e;rcases S.pe with h|h
  ·obtain⟨_,oj,hoj,_⟩:=mem_ready.1 hj;rw[h]at hoj;cases hoj
  ·rw[h]at hE;cases hE
 have hme:∀(K:Act->tW->Prop) (a:Act) (w:tW),ab oi (yielded ops a.tmps)=true->kJ P oi a w (λv w'=>C w'/\K (a.put oi.dst v) w')->mOp P ops C es i K a w:=λK a w hw h=>by unfold mOp;simp only[hi,hw,if_true,hEi];exact h
 intro f;induction f with
 |zero =>
  intro listed a w inv _ hinv hr hw hC H;refine⟨λh=>(by rw[h]at hr;cases hr),λj hj=>?_⟩;by_cases hji:j=i
  ·subst hji;exact .inl ⟨hoi,hme _ _ _ hw H⟩
  ·obtain⟨_,_,_,h2⟩:=wu H;exact absurd (S.done _ _ _ j h2.1 h2.2 (ready_mono hj hji) (S.ins _ i j inv hr hoi hj)).1 (hnp _ j (hno listed j hinv hr hj hji) hj)
 |succ f ih =>
  intro listed a w inv hfree hinv hr hw hC H;refine⟨λh=>(by rw[h]at hr;cases hr),λj hj=>?_⟩;by_cases hji:j=i
  ·subst hji;exact .inl ⟨hoi,hme _ _ _ hw H⟩
  ·have hEj:=hno listed j hinv hr hj hji;obtain⟨hjun,oj,hoj,hall⟩:=mem_ready.1 hj;obtain⟨h1,h2,h3⟩:=Oper.apart_spec (hfree j oj hoj hji hjun (tV hr hall))
   have aad:∀v w',iW P md ops C es p D E ok eB L (f+1) (listed.setIfInBounds i true) (a.put oi.dst v) w'->ok j=true/\mOp P ops C es j (iW P md ops C es p D E ok eB L f ((listed.setIfInBounds i true).setIfInBounds j true)) (a.put oi.dst v) w':=λv w' h' =>
    (h'.2 j (ready_mono hj hji)).resolve_right λh4=>hnp _ j hEj hj h4.1
   obtain⟨v0,w0,_,h0⟩:=wu H;have Rx:=(aad v0 w0 h0).1
   have abC:∀k,es.contains k=true->(i<k->(listed.setIfInBounds j true).getD k true=false)/\(k<i->(listed.setIfInBounds j true).getD k true=true):=λk hk=>by
    have hjk:j≠k:=by rintro rfl;rw[hEj]at hk;cases hk
    rw[getD_set_ne true hjk];exact hinv k hk
   have key:∀u,(∀v w',C w'->iW P md ops C es p D E ok eB L (f+1) (listed.setIfInBounds i true) (a.put oi.dst v) w'->iW P md ops C es p D E ok eB L f ((listed.setIfInBounds i true).setIfInBounds j true) ((a.put oi.dst v).put oj.dst u) w') ->
     iW P md ops C es p D E ok eB L (f+1) (listed.setIfInBounds j true) (a.put oj.dst u) w:=λu hu=>by
    refine ih (listed.setIfInBounds j true) (a.put oj.dst u) w (S.set _ j inv hj Rx) (hfree.set hjun) abC (ready_mono hr (Ne.symm hji)) (by rw[wanted_put oi a oj.dst u h3];exact hw) hC ?_;unfold kJ at *;rw[execOp_put oi (λcs b=>hsel i oi cs b hi) a oj.dst u h3];refine ig (λv w' h'=>⟨h'.1,?_⟩) H;rw[cj _ _ hji,<-Act.put_comm a v u h2];exact hu v w' h'.1 h'.2
   refine .inl ⟨Rx,?_⟩;cases hwj:ab oj (yielded ops a.tmps)with
   |false =>refine wz hoj hwj (key undef λv w' _ h'=>?_);have h4:=(aad v w' h').2;unfold mOp at h4;simp only[hoj,wanted_put oj a oi.dst v h1,hwj,ao,if_false]at h4;exact h4
   |true =>
    have Zc:∀v w',iW P md ops C es p D E ok eB L (f+1) (listed.setIfInBounds i true) (a.put oi.dst v) w'->∃u,(∀w,C w->kL P oj a w u)/\iW P md ops C es p D E ok eB L f ((listed.setIfInBounds i true).setIfInBounds j true) ((a.put oi.dst v).put oj.dst u) w':=λv w' h'=>by have h4:=(aad v w' h').2;unfold mOp at h4;simp only[hoj,wanted_put oj a oi.dst v h1,hwj,if_true,hEj,ao,if_false]at h4;unfold kL at *;rw[execOp_put oj (λcs b=>hsel j oj cs b hoj) a oi.dst v h1]at h4;exact h4
    obtain⟨u,hu,_⟩:=Zc v0 w0 h0;refine ik.mOp hoj hEj (.inl ⟨hwj,hu⟩) (key u λv w' _ h'=>?_);obtain⟨u',hu',hk⟩:=Zc v w' h';rw[Jw (hu w hC) (hu' w hC)];exact hk
def lexX(md:Region.Mode)(ops:Array Oper)(es:List Nat)(ok:Nat->Bool)(eB:Array Bool->Bool):List Nat->Array Bool->Bool
 |[],listed=>eB listed
 |k::ks,listed=>(al md ops listed).contains k&&Region.free md ops listed k&&ok k&&(!es.contains k||es.all (λj=>if k<j then !(listed.getD j true)else if j<k then listed.getD j true else true))&&lexX md ops es ok eB ks (listed.setIfInBounds k true)
def wpMixL(P:Program)(ops:Array Oper)(C:tW->Prop)(es:List Nat)(Q:Act->tW->Prop):List Nat->Act->tW->Prop
 |[],a,w=>Q a w
 |k::rest,a,w=>match ops[k]? with
  |none=>False
  |some o=>if ab o (yielded ops a.tmps)then
    (if es.contains k then kJ P o a w (λv w'=>C w'/\wpMixL P ops C es Q rest (a.put o.dst v) w')
     else ∃v,(∀w,C w->kL P o a w v)/\wpMixL P ops C es Q rest (a.put o.dst v) w)
   else wpMixL P ops C es Q rest (a.put o.dst undef) w
theorem pK(S:Side P md ops es p D E ok Inv eB L):∀(l:List Nat) (listed:Array Bool) (a:Act) (w:tW),Inv listed -> lexX md ops es ok eB l listed=true->C w->wpMixL P ops C es L l a w->iW P md ops C es p D E ok eB L l.length listed a w
 |[],listed,a,w,_,hB,_,h=>⟨hB,h⟩
 |k::l,listed,a,w,inv,hB,hC,h=>by
  simp only[lexX,an]at hB;obtain⟨⟨⟨⟨hr,hf⟩,hkn⟩,hes⟩,hB'⟩:=hB;have hr':k∈al md ops listed:=by simpa using hr
  unfold wpMixL at h;cases h0:ops[k]? with
  |none=>rw[h0]at h;exact h.elim
  |some o =>
  simp only[h0]at h
  have go:∀a' w',C w'->wpMixL P ops C es L l a' w'->iW P md ops C es p D E ok eB L l.length (listed.setIfInBounds k true) a' w':=λa' w' Nj h' =>
   pK S l _ a' w' (S.set _ k inv hr' hkn) hB' Nj h'
  cases hw:ab o (yielded ops a.tmps)with
  |false =>
   simp only[hw,ao,if_false]at h
   exact wD S h0 hkn (v:=undef) (λK a' w' Nj hy hk=>by
    cases hw':ab o (yielded ops a'.tmps)with
    |false=>exact wz h0 hw' hk
    |true =>
     cases hE:es.contains k with
     |false=>exact hy.mOp h0 hE hk
     |true =>
      rcases hy with⟨_,hv⟩ |⟨hx,_⟩
      ·unfold mOp;simp only[h0,hw',if_true,hE];have h3:=hv w' Nj;unfold kL at h3;unfold kJ;generalize(execOp a'.eval o).run P w'=r at *;cases r with
       |ok n w2 =>
        cases n<;>simp only[pureUpon]at h3<;>simp only[effUpon]
        case value u=>rw[h3.1,h3.2];exact⟨Nj,hk⟩
        case skip=>rw[h3.1];exact⟨Nj,hk⟩
       |halt x w2=>simp only[pureUpon]at h3
      ·rw[hw']at hx;cases hx) l.length listed a w inv (cq h0 hf) hr' hC (.inr ⟨hw,rfl⟩) (go _ _ hC h)
  |true =>
   simp only[hw,if_true]at h;cases hE:es.contains k with
   |false =>simp only[hE,ao,if_false]at h;obtain⟨v,hv,hk⟩:=h;exact wD S h0 hkn (λK a' w' _ hy hk=>hy.mOp h0 hE hk) l.length listed a w inv (cq h0 hf) hr' hC (.inl ⟨hw,hv⟩) (go _ _ hC hk)
   |true =>simp only[hE,if_true]at h;simp only[hE,Bool.not_true,cy,cR]at hes;refine Jy S h0 hkn hE l.length listed a w inv (cq h0 hf) (λj hj=>?_) hr' hw hC (ig (λv w' h'=>⟨h'.1,go _ _ h'.1 h'.2⟩) h);have:=hes j (by simpa using hj);exact⟨λhkj=>by rw[iP9 hkj]at this;simpa using this,λhkj=>by rw[iN9 (by omega),iP9 hkj]at this;exact this⟩
def wpMix(P:Program)(ops:Array Oper)(C:tW->Prop)(es:List Nat)(Q:Act->tW->Prop):Nat->List Oper->Act->tW->Prop
 |_,[],a,w=>Q a w
 |k,o::rest,a,w=>if ab o (yielded ops a.tmps)then
   (if es.contains k then kJ P o a w (λv w'=>C w'/\wpMix P ops C es Q (k+1) rest (a.put o.dst v) w')
    else ∃v,(∀w,C w->kL P o a w v)/\wpMix P ops C es Q (k+1) rest (a.put o.dst v) w)
  else wpMix P ops C es Q (k+1) rest (a.put o.dst undef) w
theorem Eh{Q:Act->tW->Prop}:∀(l:List Oper) (k:Nat) (a:Act) (w:tW),(∀j,j<l.length->l[j]?=ops[k+j]?)->wpMix P ops C es Q k l a w->wpMixL P ops C es Q (cQ k l.length) a w
 |[],_,_,_,_,h=>h
 |o::l,k,a,w,hl,h=>by
  have h0:ops[k]?=some o:=by simpa using(hl 0 (by simp)).symm
  have ih:=λa w=>Eh (Q:=Q) l (k+1) a w (λj hj=>by have:=hl (j+1) (by simp;omega);simpa [Nat.add_assoc,Nat.add_comm 1 j]using this);rw[bq,List.range'_succ];unfold wpMix at h;unfold wpMixL;simp only[h0];split
  ·rename_i hw
   rw[iP9 hw]at h;split
   ·rename_i he;rw[iP9 he]at h;exact ig (λv w' h'=>⟨h'.1,ih _ _ h'.2⟩) h
   ·rename_i he;rw[iN9 he]at h;obtain⟨v,h1,h2⟩:=h;exact⟨v,h1,ih _ _ h2⟩
  ·rename_i hw;rw[iN9 hw]at h;exact ih _ _ h
theorem bE{id:Nat}{Q:Exit->Act->tW->Prop}{a:Act}{w:tW}{l:List Oper}(es:List Nat)(C:tW->Prop)(hm:P.follows .mixedOrders=true)(hB:(aE l.toArray&&lexX .any l.toArray es (λ_=>true) (λlisted=>(al .any l.toArray listed).isEmpty) (cQ 0 l.length) (ba l.toArray.size false))=true)(hc:chainB .any l.toArray es=true)(hC:C w.drew)(h:wpMix P l.toArray C es (λa' w'=>Q .normal a' w') 0 l a w.drew):(Code.region id l.toArray true).wp P Q a w:=by
 rw[an]at hB
 have S:Side P .any l.toArray es l.toArray.size a.defers (λ_ _=>False) (λ_=>true) (λ_=>True) (λlisted=>(al .any l.toArray listed).isEmpty) (λa' w'=>Q .normal a' w') :=
  ⟨hB.1,hc,.inl (by simp),λ_ _ _ _ _=>trivial,λ_ _ _ _ _ _ _=>.inl rfl,λlisted a w j h1 _ hj=>by rw[List.isEmpty_iff.1 h1]at hj;cases hj⟩
 refine wp_region_any hm ?_;have:=pJ (g:=0) (Q:=Q) (λ_ _ _ _ h=>h.elim) (λlisted a w h1 h2=>⟨List.isEmpty_iff.1 h1,h2⟩) _ _ _ _ hC (pK (C:=C) S _ _ a w.drew trivial hB.2 hC (Eh l 0 a _ (by simp) h))
 simpa using this
theorem dX{o:Oper}(hgd:o.guard=none)(x:Nat->Option Bool):ab o x=true:=by simp[ab,hgd]
theorem F5(s:Sem Value)(w:tW)(f:FuncId)(args:tAV)(w':tW):(do pure (Next.value (<-s)):Sem Next).run P w≠.ok (.enter f args) w':=by intro h;rw[Sem.run_bind]at h;cases hr:s.run P w<;>rw[hr]at h<;>simp[Result.andThen]at h
theorem Ei(s:Sem Unit)(w:tW)(f:FuncId)(args:tAV)(w':tW):(do s;pure Next.skip:Sem Next).run P w≠.ok (.enter f args) w':=by intro h;rw[Sem.run_bind]at h;cases hr:s.run P w<;>rw[hr]at h<;>simp[Result.andThen]at h
def tX(o:Oper):Bool:=match o.op with
 |.call _|.go _|.defer _|.nilCheck _|.pick .. | .send .. | .recv .. | .select ..=>false
 |_=>true
theorem Cx(o:Oper)(h:tX o=true)(ρ:Operand->Value)(w:tW)(f:FuncId)(args:tAV)(w':tW):(execOp ρ o).run P w≠.ok (.enter f args) w':=by
 cases hop:o.op<;>simp only[tX,hop]at h<;>simp only[execOp,hop]<;>first
  |exact absurd h Bool.false_ne_true
  |exact F5 _ _ _ _ _
  |exact Ei _ _ _ _ _
  |simp
theorem uC{o:Oper}{a:Act}(h:tX o=true)(v:Value)(w:tW)(hq:o.quietAt P a C w v):kL P o a w v:=by
 have hn:=Cx (P:=P) o h a.eval w;unfold Oper.quietAt at hq;unfold kL;generalize(execOp a.eval o).run P w=r at *;cases r with
 |ok n w' =>
  cases n<;>simp only[Oper.quietUpon]at hq<;>simp only[pureUpon]
  case value u=>exact hq
  case skip=>exact hq
  case enter f args=>exact hn f args w' rfl
 |halt x w'=>simp only[Oper.quietUpon]at hq
theorem nR{Q:Act->tW->Prop}{k:Nat}{o:Oper}{rest:List Oper}{a:Act}{w:tW}(hw:ab o (yielded ops a.tmps)=true)(hE:es.contains k=false)(hp:tX o=true)(h:∀K:Act->Prop,(∀a',wpMix P ops C es Q (k+1) rest a' w->K a')->o.quiet P a C K):wpMix P ops C es Q k (o::rest) a w:=by unfold wpMix;rw[iP9 hw,hE];obtain⟨v,h1,h2⟩:=h _ (λ_ h=>h);exact⟨v,λw hw=>uC hp v w (h1 w hw),h2⟩
theorem aA{Q:Act->tW->Prop}{k:Nat}{o:Oper}{rest:List Oper}{a:Act}{w:tW}(hgd:o.guard=none)(hE:es.contains k=false)(hp:tX o=true)(h:∀K:Act->Prop,(∀a',wpMix P ops C es Q (k+1) rest a' w->K a')->o.quiet P a C K):wpMix P ops C es Q k (o::rest) a w:=nR (dX hgd _) hE hp h
theorem CY{o:Oper}{a:Act}{w:tW}{R:Act->tW->Prop}(h:∀K:Act->tW->Prop,(∀a' w',a'.defers=a.defers->C w'->R a' w'->K a' w')->o.wp P a w K (λ_ _ _=>False)):kJ P o a w (λv w'=>C w'/\R (a.put o.dst v) w'):=by
 have h1:=h (λa' w'=>a'.defers=a.defers/\C w'/\R a' w') (λa' w' h1 h2 h3=>⟨h1,h2,h3⟩);unfold Oper.wp at h1;unfold kJ;generalize(execOp a.eval o).run P w=r at *;cases r with
 |ok n w' =>
  cases n<;>simp only[Oper.upon]at h1<;>simp only[effUpon]
  case value u=>exact h1.2
  case skip=>exact h1.2
  case defer d =>have h2:=h1.1;rw[za]at h2;have:=congrArg cx h2;simp at this
  case enter f args =>
   refine h1.mono λe w'' he=>?_;cases e with
   |returned v=>exact⟨v,rfl,he.2⟩
   |panicked c=>exact he.elim
   |outgrown=>obtain⟨_,_,hf⟩:=he;exact hf.elim
  case row row args=>exact h1.mono λv w'' he=>he.2
 |halt x w'=>cases x<;>simp only[Oper.upon]at h1
theorem zY{Q:Act->tW->Prop}{k:Nat}{o:Oper}{rest:List Oper}{a:Act}{w:tW}(hw:ab o (yielded ops a.tmps)=true)(hE:es.contains k=true)(h:∀K:Act->tW->Prop,(∀a' w',a'.defers=a.defers->C w'->wpMix P ops C es Q (k+1) rest a' w'->K a' w')->o.wp P a w K (λ_ _ _=>False)):wpMix P ops C es Q k (o::rest) a w:=by unfold wpMix;rw[iP9 hw,iP9 hE];exact CY h
theorem aF{Q:Act->tW->Prop}{k:Nat}{o:Oper}{rest:List Oper}{a:Act}{w:tW}(hgd:o.guard=none)(hE:es.contains k=true)(h:∀K:Act->tW->Prop,(∀a' w',a'.defers=a.defers->C w'->wpMix P ops C es Q (k+1) rest a' w'->K a' w')->o.wp P a w K (λ_ _ _=>False)):wpMix P ops C es Q k (o::rest) a w:=zY (dX hgd _) hE h
theorem ny{Q:Act->tW->Prop}{k:Nat}{o:Oper}{rest:List Oper}{a:Act}{w:tW}(hw:ab o (yielded ops a.tmps)=true)(hE:es.contains k=false)(x:Operand)(ad:Addr)(ho:o.op=.nilCheck x)(hx:a.eval x=.pointer (some ad))(h:wpMix P ops C es Q (k+1) rest (a.put o.dst (.pointer (some ad))) w):wpMix P ops C es Q k (o::rest) a w:=by unfold wpMix;rw[iP9 hw,hE];refine⟨_,λw _=>?_,h⟩;unfold kL;simp only[execOp,ho,hx];exact⟨rfl,rfl⟩
theorem bV{Q:Act->tW->Prop}{k:Nat}{o:Oper}{rest:List Oper}{a:Act}{w:tW}(hgd:o.guard=none)(hE:es.contains k=false)(x:Operand)(ad:Addr)(ho:o.op=.nilCheck x)(hx:a.eval x=.pointer (some ad))(h:wpMix P ops C es Q (k+1) rest (a.put o.dst (.pointer (some ad))) w):wpMix P ops C es Q k (o::rest) a w:=ny (dX hgd _) hE x ad ho hx h
theorem bX{Q:Act->tW->Prop}{k:Nat}{a:Act}{w:tW}(h:Q a w):wpMix P ops C es Q k [] a w:=h
end
def Sl(w:tW)(e:TypeId)(size:Nat)(v:Value)(n:Nat)(xs:List Value):Prop:=w.ownsRow 0 e size v n xs
section
variable {w w' : World} {e : TypeId} {size : Nat} {v : Value} {n : Nat} {xs : List Value} {S : Nat -> Prop}
theorem Sl.nil(w:tW)(e:TypeId)(size:Nat):Sl w e size (.slice none 0 0) 0 []:=World.ownsRow_nil w 0 e size
theorem Sl.ag(h:Sl w e size v n xs)(m:aa S w w')(hS:∀k,v.ownBlock=some k->¬S k):Sl w' e size v n xs:=by
 refine⟨h.1,?_⟩;rcases h.2 with hn |⟨g,cap,cur,rfl,hb,hg,rest⟩
 ·exact .inl hn
 ·exact .inr ⟨g,cap,cur,rfl,hb,(m.block g (Array.getElem?_eq_some_iff.1 hg).1 (hS g rfl)).trans hg,rest⟩
theorem Sl.lt(h:Sl w e size v n xs)(k:Nat)(hk:v.ownBlock=some k):k<w.heap.size:=(World.ownsRow.lt h k hk).2
theorem Sl.len(h:Sl w e size v n xs):xs.length=n*size:=h.1
theorem Sl.view(h:Sl w e size v n xs):∃o cap,v=.slice o n cap/\(0<n->∃g cs,o=some ⟨g,0,none⟩/\ak w g cs e/\cs.toList.take (n*size)=xs/\n<=cap/\cap<=maxLen):=by
 rcases h.2 with⟨rfl,rfl⟩ |⟨g,cap,cur,rfl,_,hg,hn,hm,_,ht⟩
 ·exact⟨none,0,rfl,λh=>absurd h (by omega)⟩
 ·exact⟨_,cap,rfl,λ_=>⟨g,cur,rfl,hg,ht,hn,hm⟩⟩
theorem aa.F6{row:Option Nat}(h:w.grownBy w' row):aa (λk=>row=some k) w w' :=
 ⟨h.os,h.tape,h.output,h.size,λk hk hs=>h.block k hk (λe=>hs e.symm)⟩
theorem uD{P:Program}(w:tW)(t ty e:TypeId)(i:TypeInfo)(z:Value)(size bytes:Nat)(ht:P.underlying t=some (.slice e))(hi:P.info? e=some i)(hz:i.zero=some z)(hsize:i.size=size) (hby:i.bytes=bytes) (hzs:z.cells.size=size) (hsz:0<size)(v:Value) (n:Nat) (xs:List Value) (hown:Sl w e size v n xs)(a:Addr) (m c:Nat) (news:List Value) (hl:news.length=m*size) (hnews:∀j u,news[j]?=some u->w.cell? (a.add j)=some u) (h1:∀u∈news,u.oneCell'=true)(h63:n+m<=maxLen) (hbytes:(n+m)*bytes<=140737488355328):∃v' w',(Builtin.append_ #[t,t] ty #[v,.slice (some a) m c]).run P w=.ok v' w'/\Sl w' e size v' (n+m) (xs++news)/\aa (λk=>v.ownBlock=some k) w w' /\ (∀k,v'.ownBlock=some k->v.ownBlock=some k\/w.heap.size<=k):=by
 obtain⟨v',w',hr,h2,h3,_⟩:=run_append_own (P:=P) w 0 t ty e i z size bytes ht hi hz hsize hby hzs hsz v n xs hown a m c news hl hnews h1 h63 hbytes (Nat.zero_le _);refine⟨v',w',hr,h2,aa.F6 h3,?_⟩;intro k hk;rcases hown.2 with⟨rfl,rfl⟩ |⟨g,cap,cur,rfl,_,hg,hn,hm,hcs,htk⟩
 ·obtain⟨v2,w2,hr2,h22,_⟩:=run_append_own (P:=P) w w.heap.size t ty e i z size bytes ht hi hz hsize hby hzs hsz _ 0 xs ⟨hown.1,.inl ⟨rfl,rfl⟩⟩ a m c news hl hnews h1 h63 hbytes (cN _);rw[hr]at hr2;cases hr2;exact .inr (World.ownsRow.lt h22 k hk).1
 ·by_cases hroom:n+m<=cap
  ·have hfit:n*i.size+news.length<=cur.size:=by rw[hl,hcs,hsize,<-ca];exact Nat.mul_le_mul_right _ hroom
   have hr2:=run_append_room (P:=P) w t ty e i ht hi g n cap cur hg a m c news (by rw[hl,hsize]) hnews h1 hroom hfit;rw[hr]at hr2;cases hr2;exact .inl hk
  ·obtain⟨v2,w2,hr2,h22,_⟩:=run_append_arg_grows (P:=P) w t ty e i z size bytes ht hi hz hsize hby hzs hsz ⟨g,0,none⟩ n cap xs hown.1 (World.ownsRow.cells hown (g:=g) rfl) a m c news hl hnews (by omega) h63 hbytes;rw[hr]at hr2;cases hr2;exact .inr (World.ownsRow.lt h22 k hk).1
theorem eO{P:Program}(w:tW){o:Oper}{a:Act}{K:Act->tW->Prop}{Q:Exit->Act->tW->Prop}(s x:Operand)(t:TypeId)(ho:o.op=.call {callee:=.builtin .append,args:=#[s,x],argTypes:=#[t,t]})(e:TypeId) (i:TypeInfo) (z:Value) (size bytes:Nat) (ht:P.underlying t=some (.slice e)) (hi:P.info? e=some i) (hz:i.zero=some z)(hsize:i.size=size) (hby:i.bytes=bytes) (hzs:z.cells.size=size) (hsz:0<size)(v:Value) (n:Nat) (xs:List Value) (hs:a.eval s=v) (hown:Sl w e size v n xs)(ad:Addr) (m c:Nat) (news:List Value) (hx:a.eval x=.slice (some ad) m c) (hl:news.length=m*size) (hnews:∀j u,news[j]?=some u->w.cell? (ad.add j)=some u) (h1:∀u∈news,u.oneCell'=true)(h63:n+m<=maxLen) (hbytes:(n+m)*bytes<=140737488355328)(h:∀v' w',Sl w' e size v' (n+m) (xs++news)->aa (λk=>v.ownBlock=some k) w w'->(∀k,v'.ownBlock=some k->v.ownBlock=some k\/w.heap.size<=k)->K (a.put o.dst v') w'):o.wp P a w K Q:=by obtain⟨v',w',hr,h2,h3,h4⟩:=uD (P:=P) w t o.type e i z size bytes ht hi hz hsize hby hzs hsz v n xs hown ad m c news hl hnews h1 h63 hbytes;unfold Oper.wp execOp;simp only[ho,resolve,invoke,builtin,Sem.run_bind,Sem.run_pure,Result.andThen_ok,List.map_toArray,cD,List.map_nil,hs,hx,hr];exact h v' w' h2 h3 h4
theorem aL{P:Program}(w:tW){ops:Array Oper}{rest:List Oper}{o:Oper}{a:Act}{Q:Exit->Act->tW->Prop}(hgd:o.guard=none)(s x:Operand)(t:TypeId)(ho:o.op=.call {callee:=.builtin .append,args:=#[s,x],argTypes:=#[t,t]})(e:TypeId) (i:TypeInfo) (z:Value) (size bytes:Nat) (ht:P.underlying t=some (.slice e)) (hi:P.info? e=some i) (hz:i.zero=some z)(hsize:i.size=size) (hby:i.bytes=bytes) (hzs:z.cells.size=size) (hsz:0<size)(v:Value) (n:Nat) (xs:List Value) (hs:a.eval s=v) (hown:Sl w e size v n xs)(ad:Addr) (m c:Nat) (news:List Value) (hx:a.eval x=.slice (some ad) m c) (hl:news.length=m*size) (hnews:∀j u,news[j]?=some u->w.cell? (ad.add j)=some u) (h1:∀u∈news,u.oneCell'=true)(h63:n+m<=maxLen) (hbytes:(n+m)*bytes<=140737488355328)(h:∀v' w',Sl w' e size v' (n+m) (xs++news)->aa (λk=>v.ownBlock=some k) w w'->(∀k,v'.ownBlock=some k->v.ownBlock=some k\/w.heap.size<=k)->wpList P ops Q rest (a.put o.dst v') w'):wpList P ops Q (o::rest) a w :=
 wpList_plain hgd λ_ hK=>eO w s x t ho e i z size bytes ht hi hz hsize hby hzs hsz v n xs hs hown ad m c news hx hl hnews h1 h63 hbytes λv' w' h2 h3 h4=>hK _ _ (h v' w' h2 h3 h4)
end
theorem flat_get{α:Type}(f:α->List Value)(c:Nat)(hf:∀x,(f x).length=c):∀(l:List α) (i j:Nat) (hi:i<l.length),j<c->(l.flatMap f)[i*c+j]?=(f l[i])[j]?
 |x::l,0,j,_,hj=>by rw[ar,List.getElem?_append_left (by rw[hf];omega)];simp
 |x::l,i+1,j,hi,hj=>by
  rw[ar,List.getElem?_append_right (by rw[hf,ca];omega),hf];have:(i+1)*c+j-c=i*c+j:=by rw[ca];omega
  rw[this,flat_get f c hf l i j (by simpa using hi) hj];simp
theorem Ry{α:Type}(f:α->List Value)(c:Nat)(hf:∀x,(f x).length=c)(l:List α):(l.flatMap f).length=l.length*c:=by
 induction l with
 |nil=>simp
 |cons x l ih=>rw[ar,List.length_append,hf,ih,bq,ca];omega
theorem aW{w:tW}{g:Nat}{cs:tAV}{e:TypeId}{k:Nat}{xs:List Value}(hb:ak w g cs e)(ht:cs.toList.take k=xs)(j:Nat)(hj:j<k):w.cell? ⟨g,j,none⟩=xs[j]?:=by rw[hb.cell j,<-ht,List.getElem?_take,iP9 hj];simp
theorem lJ{α:Type}(f:α->List Value)(c:Nat)(hf:∀x,(f x).length=c):∀(l:List α) (k j:Nat) (hk:k<l.length) (_:j<c) (v:Value) (y:α) (_:(f l[k]).set j v=f y),(l.flatMap f).set (k*c+j) v=(l.set k y).flatMap f
 |x::l,0,j,_,hj,v,y,hy=>by have hl:=hf x;simp only[List.getElem_cons_zero]at hy;rw[ar,cI,ar,<-hy,Nat.zero_mul,bh,List.set_append,iP9 (by omega)]
 |x::l,k+1,j,hk,hj,v,y,hy=>by
  have hl:=hf x;have e:(k+1)*c+j=c+(k*c+j):=by rw[ca];omega
  rw[ar,cJ,ar,<-lJ f c hf l k j (by simpa using hk) hj v y (by simpa using hy),List.set_append,iN9 (by omega),e,hl,show c+(k*c+j)-c=k*c+j by omega]
theorem Sl.au{w:tW}{e e':TypeId}{size n k:Nat}{v:Value}{xs:List Value}{cs:tAV}(h:Sl w e size v n xs)(hb:ak w k cs e')(he:e≠e'):v.ownBlock≠some k:=by
 intro hk;rcases h.2 with⟨rfl,rfl⟩ |⟨g,cap,cur,rfl,_,hg,_⟩
 ·cases hk
 ·cases hk;unfold ak at hb;rw[hg]at hb;cases hb;exact he rfl
theorem Sl.apart{w:tW}{e e':TypeId}{size size' n n' k:Nat}{v v':Value}{xs xs':List Value}(h:Sl w e size v n xs)(h':Sl w e' size' v' n' xs')(he:e≠e')(hk:v.ownBlock=some k):v'.ownBlock≠some k:=by
 rcases h.2 with⟨rfl,rfl⟩ |⟨g,cap,cur,rfl,_,hg,_⟩
 ·cases hk
 ·cases hk;exact h'.au hg (Ne.symm he)
section
variable {P : Program} {ops : Array Oper} {C : World -> Prop} {es : List Nat}
theorem F7{Q:Act->tW->Prop}{k:Nat}{o:Oper}{rest:List Oper}{a:Act}{w:tW}(hw:ab o (yielded ops a.tmps)=false)(h:wpMix P ops C es Q (k+1) rest (a.put o.dst undef) w):wpMix P ops C es Q k (o::rest) a w:=by unfold wpMix;rw[hw];exact h
theorem wE{Q:Act->tW->Prop}{k:Nat}{o:Oper}{rest:List Oper}{a:Act}{w:tW}(hgd:o.guard=none)(hE:es.contains k=false)(c x y:Operand)(bv:Bool)(ho:o.op=.pick c x y)(hx:a.eval c=.bool bv)(h:wpMix P ops C es Q (k+1) rest (a.put o.dst (if bv then a.eval x else a.eval y)) w):wpMix P ops C es Q k (o::rest) a w:=by unfold wpMix;rw[iP9 (dX hgd _),hE];refine⟨_,λw _=>?_,h⟩;unfold kL;simp only[execOp,ho,hx];exact⟨rfl,rfl⟩
end
section
variable {P : Program} {ops : Array Oper} {C : World -> Prop} {es : List Nat}
theorem dC{id:Nat}{Q:Exit->Act->tW->Prop}{a:Act}{w:tW}{l:List Oper}(n:Nat)(es:List Nat)(C:tW->Prop)(hm:P.follows .mixedOrders=true)(hB:(aE l.toArray&&decide (n<l.toArray.size)&&Region.sinkB .any l.toArray n&&Region.chainB .any l.toArray n&&chainB .any l.toArray es&&lexX .any l.toArray es (λj=>decide (j<n)) (Region.seqB .any l.toArray (l.toArray.size-n) n) (cQ 0 (l.take n).length) (ba l.toArray.size false))=true)(hC:C w.drew)(h:wpMix P l.toArray C es (λa' w'=>wpList P l.toArray Q (l.drop n) a' w') 0 (l.take n) a w.drew):(Code.region id l.toArray true).wp P Q a w:=by
 simp only[an,decide_eq_true_eq]at hB;obtain⟨⟨⟨⟨⟨hsel,hn⟩,hs⟩,hc⟩,hch⟩,hlex⟩:=hB;have hn':n<l.length:=by simpa using hn
 have htl:(l.take n).length=n:=by simp;omega
 have hdl:(l.drop n).length=l.toArray.size-n:=by simp
 have S:Side P .any l.toArray es l.toArray.size a.defers (λ_ _=>False) (λj=>decide (j<n)) (HeadInv .any l.toArray n) (Region.seqB .any l.toArray (l.toArray.size-n) n) (λa' w'=>wpList P l.toArray Q (l.drop n) a' w') :=
  ⟨hsel,hch,.inl (by simp),λ_ _ inv hj h=>inv.set hj (by simpa using h),λlisted i j inv hi hok hj=>by
   refine .inl (decide_eq_true (Nat.lt_of_not_ge λh=>?_));exact tail_waits hs hc hn inv _ i rfl (by simpa using hok) (mem_ready.1 hi).1 j h hj,λlisted a w j h1 _ hj ho=>by
   have:=seqB_ready h1 j hj;rcases ho with h|h
   ·have:j<n:=by simpa using h
    omega
   ·obtain⟨_,oj,hoj,_⟩:=mem_ready.1 hj;rw[h]at hoj;simp at hoj⟩
 have inv0:HeadInv .any l.toArray n (ba l.toArray.size false) :=
  ⟨by simp,λj oj _ hl=>(by rw[getD_replicate_false]at hl;cases hl),λt _ ht=>getD_in (by simpa using ht) (getD_replicate_false _ _)⟩
 refine wp_region_any hm ?_
 have:=pJ (g:=l.toArray.size-n) (Q:=Q) (λ_ _ _ _ h=>h.elim) (λlisted a' w' h1 h2=>by
  have:=wpAny_of_seq (md:=.any) (Q':=Q) (l.drop n) n listed a' w' (λj=>by simp[List.getElem?_drop]) (by rw[hdl];exact h1) h2
  rwa [hdl]at this) _ _ _ _ hC (pK (C:=C) S _ _ a w.drew inv0 hlex hC (Eh (l.take n) 0 a _ (λj hj=>by rw[htl]at hj;simp[hj]) h))
 rw[List.length_range',htl,show n+(l.toArray.size-n)=l.toArray.size by omega]at this;exact this
end
section
variable {P : Program} {ops : Array Oper} {md : Region.Mode} {C : World -> Prop} {es : List Nat} {p : Nat} {D : List Deferred} {E : List PanicEntry -> World -> Prop}
theorem zZ{id:Nat}{Q:Exit->Act->tW->Prop}{a:Act}{w:tW}{l:List Oper}(p:Nat)(es ks:List Nat)(C:tW->Prop)(E:List PanicEntry->tW->Prop)(hm:P.follows .mixedOrders=true)(hB:(aE l.toArray&&lexX .any l.toArray es (λi=>i != p) (λlisted=>al .any l.toArray listed==[p]) ks (ba l.toArray.size false)&&chainB .any l.toArray es&&es.contains p&&decide (ks.length<l.toArray.size))=true) (hC:C w.drew)(hQ:∀c a' w',a'.defers=a.defers->E c w'->Q (.panic c) a' w')(h:wpMixL P l.toArray C es (wy P l.toArray p a.defers E) ks a w.drew):(Code.region id l.toArray true).wp P Q a w:=by
 simp only[an,decide_eq_true_eq]at hB;obtain⟨⟨⟨⟨hsel,hlex⟩,hch⟩,hep⟩,hps⟩:=hB
 have S:Side P .any l.toArray es p a.defers E (λi=>i != p) (λ_=>True) (λlisted=>al .any l.toArray listed==[p]) (wy P l.toArray p a.defers E) :=
  ⟨hsel,hch,.inr hep,λ_ _ _ _ _=>trivial,λ_ _ j _ _ _ _=>by by_cases e:j=p<;>simp[e],λlisted a w j h1 h2 hj _=>by rw[beq_iff_eq.1 h1]at hj;exact⟨by simpa using hj,h2⟩⟩
 have H:=pK (C:=C) S ks _ a w.drew trivial hlex hC h;refine wp_region_any hm ?_;have:=pJ (g:=l.toArray.size-ks.length) (Q:=Q) hQ (λlisted a' w' h1 h2=>?_) _ _ _ _ hC H
 ·rwa [show ks.length+(l.toArray.size-ks.length)=l.toArray.size by omega]at this
 ·rw[show l.toArray.size-ks.length=(l.toArray.size-ks.length-1)+1 by omega];have e:=beq_iff_eq.1 h1;refine⟨λh0=>(by rw[h0]at e;cases e),λi hi=>?_⟩;rw[e]at hi;cases(List.mem_singleton.1 hi);exact zb hQ h2
theorem je{Q:Act->tW->Prop}{k:Nat}{o:Oper}{rest:List Nat}{a:Act}{w:tW}(ho:ops[k]?=some o)(hgd:o.guard=none)(hE:es.contains k=false)(hp:tX o=true)(h:∀K:Act->Prop,(∀a',wpMixL P ops C es Q rest a' w->K a')->o.quiet P a C K):wpMixL P ops C es Q (k::rest) a w:=by unfold wpMixL;simp only[ho];rw[iP9 (dX hgd _),hE];obtain⟨v,h1,h2⟩:=h _ (λ_ h=>h);exact⟨v,λw hw=>uC hp v w (h1 w hw),h2⟩
theorem wF{Q:Act->tW->Prop}{k:Nat}{o:Oper}{rest:List Nat}{a:Act}{w:tW}(ho:ops[k]?=some o)(hgd:o.guard=none)(hE:es.contains k=true)(h:∀K:Act->tW->Prop,(∀a' w',a'.defers=a.defers->C w'->wpMixL P ops C es Q rest a' w'->K a' w')->o.wp P a w K (λ_ _ _=>False)):wpMixL P ops C es Q (k::rest) a w:=by unfold wpMixL;simp only[ho];rw[iP9 (dX hgd _),iP9 hE];exact CY h
theorem mixL_pan{o:Oper}{a:Act}{w:tW}(ho:ops[p]?=some o)(hgd:o.guard=none)(hd:a.defers=D)(h:∀Q:Exit->Act->tW->Prop,(∀c w',E c w'->Q (.panic c) a w')->LetsOut Q=False->o.wp P a w (λ_ _=>False) Q):wpMixL P ops C es (wy P ops p D E) [] a w:=by
 refine⟨o,ho,dX hgd _,hd,?_⟩;have h1:=h (λx _ w'=>match x with|.panic c=>E c w'|_=>False) (λ_ _ h=>h) (by simp[LetsOut]);unfold Oper.wp at h1;generalize(execOp a.eval o).run P w=r at *;cases r with
 |ok n w' =>
  cases n<;>simp only[Oper.upon]at h1<;>simp only[panUpon]
  case enter f args =>
   refine h1.mono λe w'' he=>?_;cases e with
   |returned v=>exact he.elim
   |panicked c=>exact⟨c,rfl,he⟩
   |outgrown=>simp[LetsOut]at he
  case row row args =>obtain⟨_,_,hf,_⟩:=h1 (Frame.enter P 0 #[] .normal) [];exact hf.elim
 |halt x w' =>
  cases x<;>simp only[Oper.upon]at h1<;>simp only[panUpon]
  case panic v=>exact h1
end
section
variable {P : Program} {ops : Array Oper} {md : Region.Mode} {C : World -> Prop} {N : World -> World -> Prop}
def dS(md:Region.Mode)(o:Oper):List Nat:=(o.after.toList.filter (λe=>bj md e)).map (·.on)
def xZ(P:Program)(ops:Array Oper)(N:tW->tW->Prop)(R:Value->tW->Prop)(o:Oper)(a:Act)(w:tW):Prop :=
 if ab o (yielded ops a.tmps)=true then(∀K:Act->tW->Prop,(∀a' w' v,a'=a.put o.dst v->N w w'->R v w'->K a' w')->o.wp P a w K (λ_ _ _=>False))else R undef w
theorem Aa(a:Act)(d:Option Tmp)(v:Value)(t:Nat)(h:d≠some t):(a.put d v).tmps[t]?=a.tmps[t]?:=by
 unfold Act.put;split
 ·rename_i d'
  have:d'≠t:=λe=>h (by rw[e]);simp[this]
 ·rfl
theorem Ab(a:Act)(d:Option Tmp)(v:Value):(a.put d v).tmps.size=a.tmps.size:=by unfold Act.put;split<;>simp
theorem put_defers(a:Act)(d:Option Tmp)(v:Value):(a.put d v).defers=a.defers:=by unfold Act.put;split<;>rfl
theorem wG(a:Act)(t:Nat)(v:Value)(h:t<a.tmps.size):(a.put (some t) v).tmps[t]?=some v:=by unfold Act.put;simp[h]
def chkI(md:Region.Mode)(l:List Oper)(n:Nat):Bool :=
 (List.range l.length).all λi=>match l[i]? with
  |none=>true
  |some o=>(dS md o).all (λj=>decide (j<i))&&(match o.dst with|none=>true|some d=>decide (d<n)) &&
   (List.range l.length).all λj=>match l[j]? with
    |none=>true
    |some o'=>(j==i)||((match o.dst with|none=>true|some d=>!(o'.dst==some d)) &&
      (match o'.dst with|none=>true|some t=>!((o.looksAt l.toArray).contains t)||(if j<i then(dS md o).contains j else(dS md o').contains i)))
structure Rz(md:Region.Mode)(l:List Oper)(n:Nat):Prop where
 low:∀(i:Nat) (o:Oper),l[i]?=some o->∀j∈dS md o,j<i
 dst:∀(i:Nat) (o:Oper) (d:Tmp),l[i]?=some o->o.dst=some d->d<n
 one:∀(i:Nat) (o:Oper) (j:Nat) (o':Oper) (d:Tmp),l[i]?=some o->l[j]?=some o'->o.dst=some d->o'.dst=some d->j=i
 rd:∀(i:Nat) (o:Oper) (j:Nat) (o':Oper) (t:Tmp),l[i]?=some o->l[j]?=some o'->j≠i->o'.dst=some t->t∈o.looksAt l.toArray->(j<i->j∈dS md o)/\(i<j->i∈dS md o')
theorem RA{l:List Oper}{n:Nat}(h:chkI md l n=true):Rz md l n:=by
 unfold chkI at h;rw[cR]at h
 have key:∀(i:Nat) (o:Oper),l[i]?=some o->(((dS md o).all (λj=>decide (j<i))&&(match o.dst with|none=>true|some d=>decide (d<n))) &&
   (List.range l.length).all λj=>match l[j]? with
    |none=>true
    |some o'=>(j==i)||((match o.dst with|none=>true|some d=>!(o'.dst==some d)) &&
      (match o'.dst with|none=>true|some t=>!((o.looksAt l.toArray).contains t)||(if j<i then(dS md o).contains j else(dS md o').contains i))))=true:=by
  intro i o hi;have h1:=h i (List.mem_range.2 (List.getElem?_eq_some_iff.1 hi).1)
  simpa only[hi]using h1
 have k2:∀(i:Nat) (o:Oper) (j:Nat) (o':Oper),l[i]?=some o->l[j]?=some o'->j≠i->((match o.dst with|none=>true|some d=>!(o'.dst==some d)) &&
      (match o'.dst with|none=>true|some t=>!((o.looksAt l.toArray).contains t)||(if j<i then(dS md o).contains j else(dS md o').contains i)))=true:=by
  intro i o j o' hi hj hne;have h1:=key i o hi;rw[an]at h1;have h2:=List.all_eq_true.1 h1.2 j (List.mem_range.2 (List.getElem?_eq_some_iff.1 hj).1);simp only[hj]at h2;have:(j==i)=false:=by simp[hne]
  rw[this,cy]at h2;exact h2
 refine⟨?_,?_,?_,?_⟩
 ·intro i o hi j hj;have h1:=key i o hi;simp only[an]at h1
  simpa using List.all_eq_true.1 h1.1.1 j hj
 ·intro i o d hi hd;have h1:=key i o hi;simp only[an,hd]at h1
  simpa using h1.1.2
 ·intro i o j o' d hi hj hd hd';by_cases hne:j=i
  ·exact hne
  ·have h1:=k2 i o j o' hi hj hne;rw[an]at h1;have h2:=h1.1;rw[hd,hd']at h2;simp at h2
 ·intro i o j o' t hi hj hne hd ht;have h1:=k2 i o j o' hi hj hne;rw[an]at h1;have h2:=h1.2;have hc:(o.looksAt l.toArray).contains t=true:=by simpa using ht
  simp only[hd,hc,Bool.not_true,cy]at h2;constructor
  ·intro hlt;rw[iP9 hlt]at h2
   simpa using h2
  ·intro hlt;rw[iN9 (by omega)]at h2
   simpa using h2
def unlF(f:Nat->Bool):Nat->Nat
 |0=>0
 |n+1=>unlF f n+(if f n then 0 else 1)
theorem F8(f:Nat->Bool):∀n,unlF f n=0->∀j,j<n->f j=true
 |0,_,j,hj=>absurd hj (bQ _)
 |n+1,h,j,hj=>by
  simp only[unlF]at h;by_cases e:j=n
  ·subst e;cases hf:f j with
   |true=>rfl
   |false=>simp[hf]at h
  ·exact F8 f n (by omega) j (by omega)
theorem Ac(f g:Nat->Bool):∀n,(∀j,j<n->f j=g j)->unlF f n=unlF g n
 |0,_=>rfl
 |n+1,h=>by simp only[unlF];rw[Ac f g n (λj hj=>h j (by omega)),h n (by omega)]
theorem F9(f g:Nat->Bool)(i:Nat)(hf:f i=false)(hg:g i=true)(he:∀j,j≠i->g j=f j):∀n,i<n->unlF f n=unlF g n+1
 |0,h=>absurd h (bQ _)
 |n+1,h=>by
  simp only[unlF];by_cases e:i=n
  ·subst e;rw[Ac g f i (λj hj=>he j (by omega)),hf,hg];simp
  ·rw[F9 f g i hf hg he n (by omega),he n (by omega)];omega
theorem Wk(n:Nat):unlF (λ_=>false) n=n:=by
 induction n with
 |zero=>rfl
 |succ n ih=>simp only[unlF,ih];rfl
theorem Ga{R:Value->tW->Prop}{o:Oper}{a:Act}{w:tW}(h:∀K:Act->tW->Prop,(∀a' w' v,a'=a.put o.dst v->N w w'->R v w'->K a' w')->o.wp P a w K (λ_ _ _=>False)):kJ P o a w (λu w'=>∃v,a.put o.dst u=a.put o.dst v/\N w w'/\R v w'):=by
 have h1:=h (λa' w'=>∃v,a'=a.put o.dst v/\N w w'/\R v w') (λa' w' v h1 h2 h3=>⟨v,h1,h2,h3⟩);unfold Oper.wp at h1;unfold kJ;generalize(execOp a.eval o).run P w=r at *;cases r with
 |ok n w' =>
  cases n<;>simp only[Oper.upon]at h1<;>simp only[effUpon]
  case value u=>exact h1
  case skip=>exact h1
  case defer d =>obtain⟨v,h2,_⟩:=h1;have h3:=congrArg Act.defers h2;rw[put_defers,put_defers]at h3;have:=congrArg cx h3;simp at this
  case enter f args =>
   refine h1.mono λe w'' he=>?_;cases e with
   |returned v=>exact⟨v,rfl,he⟩
   |panicked c=>exact he.elim
   |outgrown=>obtain⟨_,_,hf⟩:=he;exact hf.elim
  case row row args=>exact h1
 |halt x w'=>cases x<;>simp only[Oper.upon]at h1
theorem Nk{o:Oper}{a:Act}{w:tW}{K:Act->tW->Prop}{Q:Exit->Act->tW->Prop}(h:kJ P o a w (λv w'=>K (a.put o.dst v) w')):o.wp P a w K Q:=by
 unfold kJ at h;unfold Oper.wp;generalize(execOp a.eval o).run P w=r at *;cases r with
 |ok n w' =>
  cases n<;>simp only[effUpon]at h<;>simp only[Oper.upon]
  case value u=>exact h
  case skip=>exact h
  case enter f args=>exact h.mono λe w'' ⟨v,he,hk⟩=>by subst he;exact hk
  case row row args=>exact h
 |halt x w'=>simp only[effUpon]at h
theorem Nl{a a':Act}{o:Oper}{ops:Array Oper}(h:∀t∈o.looksAt ops,a.tmps[t]?=a'.tmps[t]?):∀x∈o.op.operands,a.eval x=a'.eval x:=by
 intro x hx;cases x with
 |tmp t =>have ht:t∈o.looksAt ops:=List.mem_append_left _ (List.mem_filterMap.2 ⟨.tmp t,by simpa using hx,rfl⟩);have:=h t ht;simp only[Act.eval,Array.getD_eq_getD_getElem?,this]
 |_=>rfl
theorem Gb{a a':Act}{o:Oper}{ops:Array Oper}(h:∀t∈o.looksAt ops,a.tmps[t]?=a'.tmps[t]?):ab o (yielded ops a.tmps)=ab o (yielded ops a'.tmps):=by
 unfold ab;cases hg:o.guard with
 |none=>rfl
 |some g =>
  obtain⟨j,want⟩:=g;simp only;unfold yielded;cases hd:(ops[j]?).bind (·.dst)with
  |none=>rfl
  |some d =>have ht:d∈o.looksAt ops:=List.mem_append_right _ (by simp[hg,hd]);simp only[Option.bind_some,h d ht]
theorem jV{listed:Array Bool}{i:Nat}(h:i<listed.size)(d:Bool):(listed.setIfInBounds i true).getD i d=true:=by simp[h]
theorem Ae{listed:Array Bool}{i:Nat}(h:i<listed.size)(d d':Bool):listed.getD i d=listed.getD i d':=by simp[h]
end
abbrev LW:=(Nat->Bool)->tW->Prop
abbrev gN:=Value ⊕ ((Nat->Bool)->Value->tW->Prop)
section
variable {P : Program} {ops : Array Oper} {md : Region.Mode} {C : LW} {N : Nat -> World -> World -> Prop}
def gK(L:Nat->Bool)(i:Nat):Nat->Bool:=λj=>if j=i then true else L j
def pM(F:List LW):List Nat->LW
 |[],_,_=>True
 |j::ds,L,w=>(F[j]?.getD (λ_ _=>True)) L w/\pM F ds L w
def Jz:List LW->LW
 |[],_,_=>True
 |f::l,L,w=>f L w/\Jz l L w
def relT:gN->(Nat->Bool)->Value->tW->Prop
 |.inl v=>λ_ u _=>u=v
 |.inr R=>R
def Wl(x:Value):gN->Value
 |.inl v=>v
 |.inr _=>x
def wH(x:Value):gN->LW
 |.inl _=>λ_ _=>True
 |.inr R=>λL w=>R L x w
def pO(md:Region.Mode)(ops:Array Oper)(k:Nat)(L:Nat->Bool):Prop:=L k=false/\∀(j:Nat) (o:Oper),ops[j]?=some o->(dS md o).contains k=true->L j=false
def qM(P:Program)(ops:Array Oper)(md:Region.Mode)(C:LW)(N:Nat->tW->tW->Prop)(Q:Act->tW->Prop):Nat->List gN->List Oper->Act->List LW->Prop
 |_,_,[],a,F=>∀(L:Nat->Bool) (w:tW),(∀j,j<ops.size->L j=true)->C L w->Jz F L w->Q a w
 |_,[],_::_,_,_=>False
 |k,.inl v::ss,o::rest,a,F=>(∀(L:Nat->Bool) (w:tW),pO md ops k L->C L w->pM F (dS md o) L w->xZ P ops (N k) (λ(u:Value) (_:tW)=>u=v) o a w)/\qM P ops md C N Q (k+1) ss rest (a.put o.dst v) (F++[λ(_:Nat->Bool) (_:tW)=>True])
 |k,.inr R::ss,o::rest,a,F=>(∀(L:Nat->Bool) (w:tW),pO md ops k L->C L w->pM F (dS md o) L w->xZ P ops (N k) (R (gK L k)) o a w)/\∀x,qM P ops md C N Q (k+1) ss rest (a.put o.dst x) (F++[λL w=>R L x w])
def factsT(x:Nat->Value):Nat->List gN->Nat->List LW
 |_,_,0=>[]
 |_,[],_+1=>[]
 |k,s::ss,i+1=>wH (x k) s::factsT x (k+1) ss i
def putT(x:Nat->Value):Nat->List gN->List Oper->Nat->Act->Act
 |_,_,_,0,a=>a
 |_,[],_,_+1,a=>a
 |_,_,[],_+1,a=>a
 |k,s::ss,o::l,i+1,a=>putT x (k+1) ss l i (a.put o.dst (Wl (x k) s))
theorem yg{Q:Act->tW->Prop}:∀{l:List Oper} {k:Nat} {ss:List gN} {a:Act} {F:List LW},qM P ops md C N Q k ss l a F->l.length<=ss.length
 |[],_,_,_,_,_=>Nat.zero_le _
 |_::_,_,[],_,_,h=>h.elim
 |_::_,_,.inl _::_,_,_,h=>Nat.succ_le_succ (yg h.2)
 |_::_,_,.inr _::_,_,_,h=>Nat.succ_le_succ (yg (h.2 undef))
theorem Af{Q:Act->tW->Prop}(x:Nat->Value):∀{l:List Oper} {ss:List gN} {a:Act} {F:List LW} (k:Nat),qM P ops md C N Q k ss l a F -> ∀(i:Nat) (o:Oper) (s:gN),l[i]?=some o->ss[i]?=some s->∀(L:Nat->Bool) (w:tW),pO md ops (k+i) L->C L w->pM (F++factsT x k ss i) (dS md o) L w->xZ P ops (N (k+i)) (λu w=>relT s (gK L (k+i)) u w) o (putT x k ss l i a) w
 |[],_,_,_,_,_,i,_,_,ho,_,_,_,_,_,_=>by simp at ho
 |_::_,[],_,_,_,h,_,_,_,_,_,_,_,_,_,_=>h.elim
 |o0::l,.inl v::ss,a,F,k,h,i,o,s,ho,hs,L,w,hn,hC,hk=>by
  cases i with
  |zero =>simp only[List.getElem?_cons_zero,Option.some.injEq]at ho hs;subst ho hs;simp only[factsT,cw]at hk;simp only[putT];exact h.1 L w hn hC hk
  |succ i =>
   simp only[List.getElem?_cons_succ]at ho hs;simp only[putT];have e:k+(i+1)=k+1+i:=by omega
   rw[e]at hn ⊢;refine Af x (k+1) h.2 i o s ho hs L w hn hC ?_
   simpa [factsT,wH]using hk
 |o0::l,.inr R::ss,a,F,k,h,i,o,s,ho,hs,L,w,hn,hC,hk=>by
  cases i with
  |zero =>simp only[List.getElem?_cons_zero,Option.some.injEq]at ho hs;subst ho hs;simp only[factsT,cw]at hk;simp only[putT];exact h.1 L w hn hC hk
  |succ i =>
   simp only[List.getElem?_cons_succ]at ho hs;simp only[putT];have e:k+(i+1)=k+1+i:=by omega
   rw[e]at hn ⊢;refine Af x (k+1) (h.2 (x k)) i o s ho hs L w hn hC ?_
   simpa [factsT,wH]using hk
theorem yh{Q:Act->tW->Prop}(x:Nat->Value):∀{l:List Oper} {ss:List gN} {a:Act} {F:List LW} (k:Nat),qM P ops md C N Q k ss l a F -> ∀(L:Nat->Bool) (w:tW),(∀j,j<ops.size->L j=true)->C L w->Jz (F++factsT x k ss l.length) L w->Q (putT x k ss l l.length a) w
 |[],ss,a,F,k,h,L,w,hL,hC,hk=>by
  have h':∀(L:Nat->Bool) (w:tW),(∀j,j<ops.size->L j=true)->C L w->Jz F L w->Q a w:=by
   cases ss with
   |nil=>exact h
   |cons s ss=>cases s<;>exact h
  simp only[List.length_nil,factsT,cw]at hk
  simpa [putT]using h' L w hL hC hk
 |_::_,[],_,_,_,h,_,_,_,_,_=>h.elim
 |o0::l,.inl v::ss,a,F,k,h,L,w,hL,hC,hk=>by
  simp only[bq,putT];refine yh x (k+1) h.2 L w hL hC ?_
  simpa [factsT,wH]using hk
 |o0::l,.inr R::ss,a,F,k,h,L,w,hL,hC,hk=>by
  simp only[bq,putT];refine yh x (k+1) (h.2 (x k)) L w hL hC ?_
  simpa [factsT,wH]using hk
theorem yj(x:Nat->Value):∀(ss:List gN) (k i j:Nat),(factsT x k ss i)[j]?=if j<i then(ss[j]?).map (wH (x (k+j)))else none
 |[],k,0,j=>by simp[factsT]
 |[],k,i+1,j=>by simp[factsT]
 |s::ss,k,0,j=>by simp[factsT]
 |s::ss,k,i+1,0=>by simp[factsT]
 |s::ss,k,i+1,j+1=>by
  rw[factsT,List.getElem?_cons_succ,yj x ss (k+1) i j];have:k+1+j=k+(j+1):=by omega
  simp[this]
theorem CZ(F:List LW)(L:Nat->Bool)(w:tW):∀(ds:List Nat),(∀j∈ds,∀f:LW,F[j]?=some f->f L w)->pM F ds L w
 |[],_=>trivial
 |j::ds,h=>⟨by
   cases hf:F[j]? with
   |none=>trivial
   |some f=>exact h j (by simp) f hf,CZ F L w ds (λi hi=>h i (bt _ hi))⟩
theorem Lx(L:Nat->Bool)(w:tW):∀(F:List LW),(∀(j:Nat) (f:LW),F[j]?=some f->f L w)->Jz F L w
 |[],_=>trivial
 |f::F,h=>⟨h 0 f (by simp),Lx L w F (λj g hg=>h (j+1) g (by simpa using hg))⟩
theorem yl(x:Nat->Value):∀(i:Nat) (l:List Oper) (ss:List gN) (k:Nat) (a:Act),(putT x k ss l i a).tmps.size=a.tmps.size
 |0,_,_,_,_=>by simp[putT]
 |i+1,_,[],_,_=>by simp[putT]
 |i+1,[],_::_,_,_=>by simp[putT]
 |i+1,o::l,s::ss,k,a=>by rw[putT,yl x i l ss,Ab]
theorem ze(x:Nat->Value):∀(i:Nat) (l:List Oper) (ss:List gN) (k:Nat) (a:Act),(putT x k ss l i a).defers=a.defers
 |0,_,_,_,_=>by simp[putT]
 |i+1,_,[],_,_=>by simp[putT]
 |i+1,[],_::_,_,_=>by simp[putT]
 |i+1,o::l,s::ss,k,a=>by rw[putT,ze x i l ss,put_defers]
theorem pQ(x:Nat->Value)(t:Nat):∀(i:Nat) (l:List Oper) (ss:List gN) (k:Nat) (a:Act),(∀(j:Nat) (o:Oper),j<i->l[j]?=some o->o.dst≠some t)->(putT x k ss l i a).tmps[t]?=a.tmps[t]?
 |0,_,_,_,_,_=>by simp[putT]
 |i+1,_,[],_,_,_=>by simp[putT]
 |i+1,[],_::_,_,_,_=>by simp[putT]
 |i+1,o::l,s::ss,k,a,h=>by rw[putT,pQ x t i l ss _ _ (λj o' hj ho=>h (j+1) o' (by omega) (by simpa using ho)),Aa _ _ _ _ (h 0 o (by omega) rfl)]
theorem Ej(x:Nat->Value)(t:Nat):∀(i:Nat) (l:List Oper) (ss:List gN) (k:Nat) (a:Act) (j:Nat) (o:Oper) (s:gN),j<i->l[j]?=some o->ss[j]?=some s->o.dst=some t -> (∀(j':Nat) (o':Oper),j'<i->j'≠j->l[j']?=some o'->o'.dst≠some t)->t<a.tmps.size->(putT x k ss l i a).tmps[t]?=some (Wl (x (k+j)) s)
 |0,_,_,_,_,j,_,_,hj,_,_,_,_,_=>absurd hj (bQ _)
 |i+1,_,[],_,_,j,_,_,_,_,hs,_,_,_=>by simp at hs
 |i+1,[],_::_,_,_,j,_,_,_,ho,_,_,_,_=>by simp at ho
 |i+1,o0::l,s0::ss,k,a,0,o,s,_,ho,hs,hd,hx,ht=>by simp only[List.getElem?_cons_zero,Option.some.injEq]at ho hs;subst ho hs;rw[putT,pQ x t i l ss _ _ (λj o' hj ho=>hx (j+1) o' (by omega) (by omega) (by simpa using ho)),hd,wG _ _ _ ht];rfl
 |i+1,o0::l,s0::ss,k,a,j+1,o,s,hj,ho,hs,hd,hx,ht=>by
  simp only[List.getElem?_cons_succ]at ho hs;rw[putT,Ej x t i l ss (k+1) _ j o s (by omega) ho hs hd (λj' o' h1 h2 h3=>hx (j'+1) o' (by omega) (by omega) (by simpa using h3)) (by rw[Ab];exact ht)];have:k+1+j=k+(j+1):=by omega
  rw[this]
def FO(listed:Array Bool):Nat->Bool:=λj=>listed.getD j false
structure El(md:Region.Mode)(C:LW)(ss:List gN)(l:List Oper)(a0:Act)(listed:Array Bool)(a:Act)(w:tW)(x:Nat->Value):Prop where
 c:C (FO listed) w
 sz:a.tmps.size=a0.tmps.size
 df:a.defers=a0.defers
 ls:listed.size=l.length
 val:∀(j:Nat) (o:Oper) (d:Tmp) (s:gN),listed.getD j false=true->l[j]?=some o->ss[j]?=some s->o.dst=some d->a.tmps[d]?=some (Wl (x j) s)
 fact:∀(j:Nat) (s:gN),listed.getD j false=true->ss[j]?=some s->wH (x j) s (FO listed) w
 old:∀d:Tmp,(∀(j:Nat) (o:Oper),listed.getD j false=true->l[j]?=some o->o.dst≠some d)->a.tmps[d]?=a0.tmps[d]?
 shut:∀(j:Nat) (o:Oper),listed.getD j false=true->l[j]?=some o->∀i∈dS md o,listed.getD i false=true
theorem El.eq{ss:List gN}{l:List Oper}{a0 a:Act}{listed:Array Bool}{w:tW}{x:Nat->Value}(h:El md C ss l a0 listed a w x)(hB:Rz md l a0.tmps.size)(hls:l.length<=ss.length)(hall:∀j,j<l.length->listed.getD j false=true):a=putT x 0 ss l l.length a0:=by
 have ht:a.tmps=(putT x 0 ss l l.length a0).tmps:=by
  apply Array.ext_getElem?;intro t;by_cases hd:∃(j:Nat) (o:Oper),l[j]?=some o/\o.dst=some t
  ·obtain⟨j,o,hj,Em⟩:=hd;have hjl:j<l.length:=(List.getElem?_eq_some_iff.1 hj).1;obtain⟨s,hs⟩:∃s,ss[j]?=some s:=⟨ss[j]'(by omega),List.getElem?_eq_getElem _⟩
   rw[h.val j o t s (hall j hjl) hj hs Em,Ej x t l.length l ss 0 a0 j o s hjl hj hs Em (λj' o' _ hne ho' hd'=>hne (hB.one j o j' o' t hj ho' Em hd')) (hB.dst j o t hj Em)];simp
  ·rw[h.old t (λj o _ hj Em=>hd ⟨j,o,hj,Em⟩),pQ x t l.length l ss 0 a0 (λj o _ hj Em=>hd ⟨j,o,hj,Em⟩)]
 have hdf:a.defers=(putT x 0 ss l l.length a0).defers:=by rw[h.df,ze]
 cases a;generalize putT x 0 ss l l.length a0=b at *;cases b;simp only at ht hdf;rw[ht,hdf]
theorem El.same{ss:List gN}{l:List Oper}{a0 a:Act}{listed:Array Bool}{w:tW}{x:Nat->Value}(h:El md C ss l a0 listed a w x)(hB:Rz md l a0.tmps.size)(hls:l.length<=ss.length){i:Nat} {o:Oper} (hi:l[i]?=some o) (hu:listed.getD i false=false) (hr:∀j∈dS md o,listed.getD j false=true):∀t∈o.looksAt l.toArray,a.tmps[t]?=(putT x 0 ss l i a0).tmps[t]?:=by
 intro t ht;by_cases hd:∃(j:Nat) (o':Oper),j<i/\l[j]?=some o'/\o'.dst=some t
 ·obtain⟨j,o',hji,hj,Em⟩:=hd;have hjl:j<l.length:=(List.getElem?_eq_some_iff.1 hj).1;obtain⟨s,hs⟩:∃s,ss[j]?=some s:=⟨ss[j]'(by omega),List.getElem?_eq_getElem _⟩
  have aae:=(hB.rd i o j o' t hi hj (by omega) Em ht).1 hji;rw[h.val j o' t s (hr j aae) hj hs Em,Ej x t i l ss 0 a0 j o' s hji hj hs Em (λj' o'' _ hne ho' hd'=>hne (hB.one j o' j' o'' t hj ho' Em hd')) (hB.dst j o' t hj Em)];simp
 ·rw[pQ x t i l ss 0 a0 (λj o' hji hj Em=>hd ⟨j,o',hji,hj,Em⟩)];refine h.old t (λj o' hl hj Em=>?_);rcases Nat.lt_trichotomy j i with hji|hji|hji
  ·exact hd ⟨j,o',hji,hj,Em⟩
  ·subst hji;rw[hu]at hl;cases hl
  ·have aae:=(hB.rd i o j o' t hi hj (by omega) Em ht).2 hji;have:=h.shut j o' hl hj i aae;rw[hu]at this;cases this
theorem El.step{ss:List gN}{l:List Oper}{a0 a:Act}{listed:Array Bool}{w w':tW}{x:Nat->Value}(h:El md C ss l a0 listed a w x)(hB:Rz md l a0.tmps.size)(_hls:l.length<=ss.length)(hst:∀(j:Nat) (s:gN),ss[j]?=some s->∀(i:Nat) (L:Nat->Bool) u w w',pO md l.toArray i L->L j=true->N i w w'->relT s L u w->relT s (gK L i) u w') (hN:∀(i:Nat) (L:Nat->Bool) w w',pO md l.toArray i L->C L w->N i w w'->C (gK L i) w'){i:Nat} {o:Oper} {s:gN} {v:Value} (hi:l[i]?=some o) (hs:ss[i]?=some s) (hu:listed.getD i false=false) (hr:∀j∈dS md o,listed.getD j false=true) (n:N i w w') (hv:relT s (gK (FO listed) i) v w'):∃x',El md C ss l a0 (listed.setIfInBounds i true) (a.put o.dst v) w' x':=by
 have hil:i<l.length:=(List.getElem?_eq_some_iff.1 hi).1;have hix:i<listed.size:=by rw[h.ls];exact hil
 refine⟨λj=>if j=i then v else x j,?_⟩
 have hmem:∀j,(listed.setIfInBounds i true).getD j false=true->j=i\/(j≠i/\listed.getD j false=true):=by
  intro j hj;by_cases e:j=i
  ·exact .inl e
  ·rw[getD_set_ne false (λe'=>e e'.symm)]at hj;exact .inr ⟨e,hj⟩
 have RB:∀j,listed.getD j false=true->(listed.setIfInBounds i true).getD j false=true:=by
  intro j hj;by_cases e:j=i
  ·subst e;exact jV hix false
  ·rw[getD_set_ne false (λe'=>e e'.symm)];exact hj
 have Wm:pO md l.toArray i (FO listed):=by
  refine⟨hu,λj o' hj hc=>?_⟩;cases hlj:FO listed j with
  |false=>rfl
  |true =>have:=h.shut j o' hlj (by simpa using hj) i (by simpa using hc);rw[hu]at this;cases this
 have aaf:FO (listed.setIfInBounds i true)=gK (FO listed) i:=by
  funext j;unfold FO gK;by_cases e:j=i
  ·subst e;rw[iP9 rfl];exact jV hix false
  ·rw[iN9 e];exact getD_set_ne false (λe'=>e e'.symm)
 have abD:∀(j:Nat) (y:Value) (s':gN),listed.getD j false=true->ss[j]?=some s'->wH y s' (FO listed) w->wH y s' (gK (FO listed) i) w':=by
  intro j y s' hj hs' hf;cases s' with
  |inl _=>trivial
  |inr R=>exact hst j _ hs' i (FO listed) y w w' Wm hj n hf
 refine⟨by rw[aaf];exact hN i _ _ _ Wm h.c n,by rw[Ab,h.sz],by rw[put_defers,h.df],by simp[h.ls],?_,?_,?_,?_⟩
 ·intro j o' d s' hj ho' hs' hd;rcases hmem j hj with rfl |⟨hne,hj'⟩
  ·rw[hi]at ho';cases ho';rw[hs]at hs';cases hs';rw[hd,wG _ _ _ (by rw[h.sz];exact hB.dst j o d hi hd)];simp only[if_true];cases s with
   |inl v0=>simp only[relT]at hv;simp[Wl,hv]
   |inr R=>rfl
  ·rw[iN9 hne,Aa _ _ _ _ (λe=>hne (hB.one i o j o' d hi ho' e hd))];exact h.val j o' d s' hj' ho' hs' hd
 ·intro j s' hj hs';rcases hmem j hj with rfl |⟨hne,hj'⟩
  ·rw[hs]at hs';cases hs';simp only[if_true];cases s with
   |inl v0=>trivial
   |inr R=>rw[aaf];exact hv
  ·simp only[iN9 hne];rw[aaf];exact abD j _ _ hj' hs' (h.fact j s' hj' hs')
 ·intro d hd;rw[Aa _ _ _ _ (hd i o (jV hix false) hi)];exact h.old d (λj o' hj ho'=>hd j o' (RB j hj) ho')
 ·intro j o' hj ho' k hk;rcases hmem j hj with rfl |⟨hne,hj'⟩
  ·rw[hi]at ho';cases ho';exact RB k (hr k hk)
  ·exact RB k (h.shut j o' hj' ho' k hk)
theorem JA{ss:List gN}{l:List Oper}{a0:Act}{Q:Act->tW->Prop}{Q':Exit->Act->tW->Prop}(hQ:∀a w,Q a w->Q' .normal a w)(hB:Rz md l a0.tmps.size)(hsel:aE l.toArray=true)(hst:∀(j:Nat) (s:gN),ss[j]?=some s->∀(i:Nat) (L:Nat->Bool) u w w',pO md l.toArray i L->L j=true->N i w w'->relT s L u w->relT s (gK L i) u w') (hN:∀(i:Nat) (L:Nat->Bool) w w',pO md l.toArray i L->C L w->N i w w'->C (gK L i) w') (hrf:(l.all (λo=>o.guard.isNone))=true\/∀i w,N i w w)(hW:qM P l.toArray md C N Q 0 ss l a0 []):∀(fuel:Nat) (listed:Array Bool) (a:Act) (w:tW) (x:Nat->Value),El md C ss l a0 listed a w x->unlF (λj=>listed.getD j false) l.length<=fuel -> wpAny P md l.toArray Q' fuel listed a w:=by
 have hls:=yg hW
 have hend:∀(listed:Array Bool) (a:Act) (w:tW) (x:Nat->Value),El md C ss l a0 listed a w x->(∀j,j<l.length->listed.getD j false=true)->Q' .normal a w:=by
  intro listed a w x h hall;rw[h.eq hB hls hall];refine hQ _ _ (yh x 0 hW (FO listed) w (λj hj=>hall j (by simpa using hj)) h.c ?_);refine Lx _ w _ (λj f hf=>?_);rw[List.nil_append,yj]at hf;by_cases hj:j<l.length
  ·rw[iP9 hj]at hf;obtain⟨s,hs⟩:∃s,ss[j]?=some s:=⟨ss[j]'(by omega),List.getElem?_eq_getElem _⟩
   rw[hs]at hf;simp only[b5,Option.some.injEq,bh]at hf;rw[<-hf];exact h.fact j s (hall j hj) hs
  ·rw[iN9 hj]at hf;cases hf
 have hnil:∀(listed:Array Bool),listed.size=l.length->al md l.toArray listed=[]->∀n j,j<n->j<l.length->listed.getD j false=true:=by
  intro listed hsz hr n;induction n with
  |zero=>intro j hj;exact absurd hj (bQ _)
  |succ n ih =>
   intro j hj hjl;cases hc:listed.getD j false with
   |true=>rfl
   |false =>
    exfalso;have hjs:j<listed.size:=by omega
    obtain⟨o,ho⟩:∃o,l[j]?=some o:=⟨l[j],List.getElem?_eq_getElem _⟩
    have:j∈al md l.toArray listed:=mem_ready.2 ⟨by rw[Ae hjs true false];exact hc,o,by simpa using ho,λe he hb=>by have hd:e.on∈dS md o:=List.mem_map.2 ⟨e,List.mem_filter.2 ⟨by simpa using he,hb⟩,rfl⟩;have hlt:=hB.low j o ho e.on hd;exact ih e.on (by omega) (by omega)⟩;rw[hr]at this;cases this
 intro fuel;induction fuel with
 |zero =>
  intro listed a w x h hf;have hall:=F8 (λj=>listed.getD j false) l.length (by omega);refine⟨?_,hend listed a w x h hall⟩;apply List.eq_nil_iff_forall_not_mem.2;intro i hi;obtain⟨h0,o,ho,_⟩:=mem_ready.1 hi;have hil:i<l.length:=by simpa using(Array.getElem?_eq_some_iff.1 ho).1
  have h1:listed.getD i false=true:=hall i hil;rw[Ae (by rw[h.ls];exact hil) true false,h1]at h0;cases h0
 |succ fuel ih =>
  intro listed a w x h hf;refine⟨λhr=>hend listed a w x h (λj hj=>hnil listed h.ls hr (j+1) j (by omega) hj),?_⟩;intro i hi;obtain⟨h0,o,ho,hrd⟩:=mem_ready.1 hi;have hi':l[i]?=some o:=by simpa using ho
  have hil:i<l.length:=(List.getElem?_eq_some_iff.1 hi').1;have hix:i<listed.size:=by rw[h.ls];exact hil
  have hu:listed.getD i false=false:=by rw[Ae hix false true];exact h0
  have hr:∀j∈dS md o,listed.getD j false=true:=by intro j hj;obtain⟨e,he,rfl⟩:=List.mem_map.1 hj;obtain⟨he1,he2⟩:=List.mem_filter.1 he;exact hrd e (by simpa using he1) he2
  obtain⟨s,hs⟩:∃s,ss[i]?=some s:=⟨ss[i]'(by omega),List.getElem?_eq_getElem _⟩
  have hk:pM ([]++factsT x 0 ss i) (dS md o) (FO listed) w:=by
   refine CZ _ _ w _ (λj hj f hfj=>?_);rw[List.nil_append,yj]at hfj;by_cases hji:j<i
   ·rw[iP9 hji]at hfj;obtain⟨s',hs'⟩:∃s,ss[j]?=some s:=⟨ss[j]'(by omega),List.getElem?_eq_getElem _⟩
    rw[hs']at hfj;simp only[b5,Option.some.injEq,bh]at hfj;rw[<-hfj];exact h.fact j s' (hr j hj) hs'
   ·rw[iN9 hji]at hfj;cases hfj
  have Wm:pO md l.toArray (0+i) (FO listed):=by
   rw[bh];refine⟨hu,λj o' hj hc=>?_⟩;cases hlj:FO listed j with
   |false=>rfl
   |true =>have:=h.shut j o' hlj (by simpa using hj) i (by simpa using hc);rw[hu]at this;cases this
  have hg:=Af x 0 hW i o s hi' hs (FO listed) w Wm h.c hk;rw[bh]at hg;have hsame:=h.same hB hls hi' hu hr;have hsl:∀cs b,o.op≠.select cs b:=λcs b=>bO hsel i o cs b ho;have hun:∀listed':Array Bool,listed'=listed.setIfInBounds i true->unlF (λj=>listed'.getD j false) l.length<=fuel:=by rintro _ rfl;have:=F9 (λj=>listed.getD j false) (λj=>(listed.setIfInBounds i true).getD j false) i hu (jV hix false) (λj hj=>getD_set_ne false (λe=>hj e.symm)) l.length hil;omega
  unfold wpOp;simp only[ho];unfold xZ at hg;rw[<-Gb hsame]at hg;split
  ·rename_i hw
   rw[iP9 hw]at hg;left;refine Nk ?_;have he:=Ga hg;unfold kJ at he ⊢;rw[execOp_congr o hsl (Nl hsame)];refine ig ?_ he;rintro u w' ⟨v,huv,hn,hv⟩
   have hput:a.put o.dst u=a.put o.dst v:=by
    cases hd:o.dst with
    |none=>rfl
    |some d =>have h1:=congrArg (λb:Act=>b.tmps[d]?) huv;simp only[hd]at h1;rw[wG _ _ _ (by rw[yl];exact hB.dst i o d hi' hd),wG _ _ _ (by rw[yl];exact hB.dst i o d hi' hd)]at h1;cases h1;rfl
   rw[hput];obtain⟨x',h'⟩:=h.step hB hls hst hN hi' hs hu hr hn hv;exact ih _ _ _ x' h' (hun _ rfl)
  ·rename_i hw
   rw[iN9 hw]at hg
   have hnn:N i w w:=by
    rcases hrf with hg0|hrf
    ·exfalso;have hgn:=List.all_eq_true.1 hg0 o (List.mem_of_getElem? hi');exact hw (dX (by simpa using hgn) _)
    ·exact hrf i w
   obtain⟨x',h'⟩:=h.step hB hls hst hN hi' hs hu hr hnn hg;exact ih _ _ _ x' h' (hun _ rfl)
theorem jl{id:Nat}{Q:Exit->Act->tW->Prop}{a:Act}{w:tW}{l:List Oper}(ss:List gN)(C:LW)(N:Nat->tW->tW->Prop)(hm:P.follows .mixedOrders=true)(hB:chkI .any l a.tmps.size=true)(hsel:aE l.toArray=true)(hC:C (λ_=>false) w.drew)(hst:∀(j:Nat) (s:gN),ss[j]?=some s->∀(i:Nat) (L:Nat->Bool) u w w',pO .any l.toArray i L->L j=true->N i w w'->relT s L u w->relT s (gK L i) u w') (hN:∀(i:Nat) (L:Nat->Bool) w w',pO .any l.toArray i L->C L w->N i w w'->C (gK L i) w') (hrf:(l.all (λo=>o.guard.isNone))=true\/∀i w,N i w w)(h:qM P l.toArray .any C N (λa' w'=>Q .normal a' w') 0 ss l a []):(Code.region id l.toArray true).wp P Q a w:=by
 refine wp_region_any hm ?_;refine JA (C:=C) (N:=N) (ss:=ss) (l:=l) (a0:=a) (Q:=λa' w'=>Q .normal a' w') (λ_ _ h=>h) (RA hB) hsel hst hN hrf h _ _ a w.drew (λ_=>undef) ⟨?_,rfl,rfl,by simp,?_,?_,?_,?_⟩ ?_
 ·have:FO (ba l.toArray.size false)=λ_=>false:=by funext j;simp only[FO,Array.getD_eq_getD_getElem?,Array.getElem?_replicate];split<;>rfl
  rw[this];exact hC
 ·intro j o d s hj;exfalso;revert hj;simp[Array.getElem?_replicate];split<;>simp
 ·intro j s hj;exfalso;revert hj;simp[Array.getElem?_replicate];split<;>simp
 ·intro d _;rfl
 ·intro j o hj;exfalso;revert hj;simp[Array.getElem?_replicate];split<;>simp
 ·have:unlF (λj=>(ba l.toArray.size false).getD j false) l.length=l.length:=by refine(Ac _ (λ_=>false) _ (λj hj=>?_)).trans (Wk l.length);simp[Array.getElem?_replicate];split<;>simp
  rw[this];simp
theorem bS{Q:Act->tW->Prop}{k:Nat}{ss:List gN}{o:Oper}{rest:List Oper}{a:Act}{F:List LW}{v:Value}(hgd:o.guard=none)(h:∀(L:Nat->Bool) (w:tW),pO md ops k L->C L w->pM F (dS md o) L w->∀K:Act->tW->Prop,(∀a' w' v',a'=a.put o.dst v'->N k w w'->v'=v->K a' w')->o.wp P a w K (λ_ _ _=>False))(hr:qM P ops md C N Q (k+1) ss rest (a.put o.dst v) (F++[λ(_:Nat->Bool) (_:tW)=>True])):qM P ops md C N Q k (.inl v::ss) (o::rest) a F :=
 ⟨λL w hn hC hk=>by unfold xZ;rw[iP9 (dX hgd _)];exact h L w hn hC hk,hr⟩
theorem lK{Q:Act->tW->Prop}{k:Nat}{ss:List gN}{o:Oper}{rest:List Oper}{a:Act}{F:List LW}{R:(Nat->Bool)->Value->tW->Prop}(hgd:o.guard=none)(h:∀(L:Nat->Bool) (w:tW),pO md ops k L->C L w->pM F (dS md o) L w->∀K:Act->tW->Prop,(∀a' w' v',a'=a.put o.dst v'->N k w w'->R (gK L k) v' w'->K a' w')->o.wp P a w K (λ_ _ _=>False))(hr:∀x,qM P ops md C N Q (k+1) ss rest (a.put o.dst x) (F++[λL w=>R L x w])):qM P ops md C N Q k (.inr R::ss) (o::rest) a F :=
 ⟨λL w hn hC hk=>by unfold xZ;rw[iP9 (dX hgd _)];exact h L w hn hC hk,hr⟩
theorem wI{Q:Act->tW->Prop}{k:Nat}{ss:List gN}{a:Act}{F:List LW}(h:∀(L:Nat->Bool) (w:tW),(∀j,j<ops.size->L j=true)->C L w->Jz F L w->Q a w):qM P ops md C N Q k ss [] a F:=by
 cases ss with
 |nil=>exact h
 |cons s ss=>cases s<;>exact h
theorem lL{F:List LW}{L:Nat->Bool}{w:tW}:∀{ds:List Nat},pM F ds L w->∀j,ds.contains j=true->(F[j]?.getD (λ_ _=>True)) L w
 |[],_,j,hj=>by simp at hj
 |i::ds,h,j,hj=>by
  rw[List.contains_cons,Bool.or_eq_true]at hj;rcases hj with hj|hj
  ·have:j=i:=by simpa using hj
   subst this;exact h.1
  ·exact lL h.2 j hj
theorem wJ{F:List LW}{L:Nat->Bool}{w:tW}(h:Jz F L w):∀(j:Nat),(F[j]?.getD (λ_ _=>True)) L w:=by
 induction F with
 |nil=>intro j;simp
 |cons f F ih =>
  intro j;cases j with
  |zero=>exact h.1
  |succ j=>simpa using ih h.2 j
def pR(md:Region.Mode)(ops:Array Oper)(N:Nat->tW->tW->Prop):Nat->List gN->Prop
 |_,[]=>True
 |k,.inl _::l=>pR md ops N (k+1) l
 |k,.inr R::l=>(∀(i:Nat) (L:Nat->Bool) u w w',pO md ops i L->L k=true->N i w w'->R L u w->R (gK L i) u w')/\pR md ops N (k+1) l
theorem jD:∀{ss:List gN} {k:Nat},pR md ops N k ss->∀(j:Nat) (s:gN),ss[j]?=some s->∀(i:Nat) (L:Nat->Bool) u w w',pO md ops i L->L (k+j)=true->N i w w'->relT s L u w->relT s (gK L i) u w'
 |[],_,_,j,s,hs,_,_,_,_,_,_,_,_,_=>by simp at hs
 |.inl v::l,k,h,0,s,hs,i,L,u,w,w',hn,hk,n,hr=>by simp only[List.getElem?_cons_zero,Option.some.injEq]at hs;subst hs;exact hr
 |.inl v::l,k,h,j+1,s,hs,i,L,u,w,w',hn,hk,n,hr=>by
  have e:k+(j+1)=k+1+j:=by omega
  rw[e]at hk;exact jD (ss:=l) (k:=k+1) h j s (by simpa using hs) i L u w w' hn hk n hr
 |.inr R::l,k,h,0,s,hs,i,L,u,w,w',hn,hk,n,hr=>by simp only[List.getElem?_cons_zero,Option.some.injEq]at hs;subst hs;exact h.1 i L u w w' hn hk n hr
 |.inr R::l,k,h,j+1,s,hs,i,L,u,w,w',hn,hk,n,hr=>by
  have e:k+(j+1)=k+1+j:=by omega
  rw[e]at hk;exact jD (ss:=l) (k:=k+1) h.2 j s (by simpa using hs) i L u w w' hn hk n hr
end

def nameB(l:tLB):Bool :=
 decide (l.length<=16)&&(match l with | []=>false|c::_=>pI (c.toNat:Int))&&l.all (λc=>ru (c.toNat:Int))
theorem rz{s:tBA}(h:0<s.size):s.toList.isEmpty=false:=by rw[ByteArray.toList_eq,List.isEmpty_eq_false_iff_exists_mem];exact⟨s.data[0]'h,by simp⟩
theorem qN{s:tBA}(h:s.size=0):s.toList.isEmpty=true:=by rw[ByteArray.toList_eq];have:s.data=#[]:=b9 h;simp[this]
theorem RC{s:tBA}(h:0<s.size):nameB s.data.toList=(decide (s.size<=16)&&pI (s[0].toNat:Int)&&s.data.toList.all (λc=>ru (c.toNat:Int))):=by
 have e:s.data.toList=s[0]::s.data.toList.tail:=by
  have:s.data.toList≠[]:=by intro h';have:=congrArg cx h';simp at this;have h2:s.size=s.data.size:=rfl;rw[h2,this]at h;simp at h
  conv=>lhs;rw[<-List.cons_head_tail this]
  congr 1;rw[List.head_eq_getElem];rfl
 have hl:s.data.toList.length=s.size:=by simp
 unfold nameB;rw[hl]
 conv=>lhs;rw[e]
 conv=>rhs;rw[e]
theorem JB{s:tBA}(h:s.size=0):nameB s.data.toList=false:=by have:s.data=#[]:=b9 h;simp[this,nameB]
theorem Nn(s:tBA)(k:Nat)(h:k<s.size):s.data.toList.take (k+1)=s.data.toList.take k++[s[k]]:=by rw[List.take_succ_eq_append_getElem (by simpa using h)];rfl
theorem JC{s:tBA}{p:UInt8->Bool}{k:Nat}(h:k<s.size)(hp:p s[k]=false):s.data.toList.all p=false:=by rw[List.all_eq_false];exact⟨s[k],by rw[<-Array.mem_def];exact Array.getElem_mem h,by simp[hp]⟩
theorem rA{a b:Bool}(h:a=b):Ending.returned (.bool a)=.returned (.bool b):=by rw[h]
def T(l:tLB):tBA:=⟨l.toArray⟩
theorem toList_inj{a b:tBA}(h:a.toList=b.toList):a=b:=by rw[ByteArray.toList_eq,ByteArray.toList_eq]at h;cases a;cases b;simpa using h
theorem uR{a b:tBA}(h:a≠b):(a.toList==b.toList)=false:=by rw[beq_eq_false_iff_ne];exact λe=>h (toList_inj e)
theorem En{a b:tBA}(h:a=b):(a.toList==b.toList)=true:=by simp[h]
theorem dB{a b:Int}(h:a=b):Ending.returned (.int .i64 a)=.returned (.int .i64 b):=by rw[h]
def BL(b:tBA):tLB:=b.data.toList
theorem Wn(b:tBA):T (BL b)=b:=rfl
theorem RD(b:tBA):(BL b).length=b.size:=rfl
theorem aa.of_nil{S:Nat->Prop}{w w':tW}(h:aa ae w w'):aa S w w':=h.mono (λ_ _ e=>e.elim)
theorem rD{a:tBA}{l:tLB}(h:a≠T l):(a.toList==l)=false:=by have:=uR h;simpa [T]using this
theorem yn{a:tBA}{l:tLB}(h:a=T l):(a.toList==l)=true:=by rw[h];simp[T]
theorem RF{a b:tBA}(h:a≠b):(a==b)=false:=by
 cases c:(a==b)with
 |false=>rfl
 |true=>exact absurd ((MapKept.bytes_beq a b).1 c) h
theorem wK(a:tBA):(a==a)=true:=(MapKept.bytes_beq a a).2 rfl
def kvFind(s:tBA):List (tBA×Value)->Nat->Option (Nat×Value)
 |[],_=>none
 |(k,v)::l,i=>if s==k then some (i,v)else kvFind s l (i+1)
def JD(e:MapEntry):Value×Value:=(e.key,e.val)
def kvC(p:tBA×Value):Value×Value:=(.string p.1,p.2)
theorem j8(s:tBA):∀(l:List MapEntry) (kv:List (tBA×Value)) (i:Nat),l.map JD=kv.map kvC->Instr.findNow .string (.string s) l i=some (kvFind s kv i)
 |[],[],_,_=>rfl
 |[],_::_,_,h=>by simp at h
 |_::_,[],_,h=>by simp at h
 |e::l,(k,v)::kv,i,h=>by
  rw[cD,cD]at h;injection h with h1 h2;injection h1 with h3 h4;unfold Instr.findNow kvFind;rw[h3];simp only[Instr.sameNow];by_cases c:(s==k)=true
  ·rw[c];simp only[if_true];rw[h4]
  ·have c':(s==k)=false:=by simpa using c
   rw[c'];simp only[ao,if_false];exact j8 s l kv (i+1) h2
theorem pT(s:tBA):∀(kv:List (tBA×Value)) (i:Nat),(kvFind s kv i).map (·.2)=(kv.find? (λp=>s==p.1)).map (·.2)
 |[],_=>rfl
 |(k,v)::kv,i=>by
  unfold kvFind;rw[List.find?_cons];by_cases c:(s==k)=true
  ·simp[c]
  ·have c':(s==k)=false:=by simpa using c
   simp only[c',ao,if_false];exact pT s kv (i+1)
def MapOf(w:tW)(b:Nat)(f:tBA->Option Value):Prop:=∃(es:Array MapEntry) (clock:Nat) (kv:List (tBA×Value)),w.heap[b]?=some (.map es clock)/\es.toList.map JD=kv.map kvC/\∀s,(kv.find? (λp=>s==p.1)).map (·.2)=f s
theorem MapOf.new(w:tW):MapOf (w.alloc (.map #[] 0)) w.heap.size (λ_=>none):=⟨#[],0,[],heap_alloc_new w _,rfl,λ_=>rfl⟩
theorem MapOf.lt{w:tW}{b:Nat}{f:tBA->Option Value}(h:MapOf w b f):b<w.heap.size:=by obtain⟨_,_,_,hb,_⟩:=h;exact(Array.getElem?_eq_some_iff.1 hb).1
theorem MapOf.ag{w w':tW}{b:Nat}{f:tBA->Option Value}{S:Nat->Prop}(h:MapOf w b f)(m:aa S w w')(hS:¬S b):MapOf w' b f:=by have hl:=h.lt;obtain⟨es,clock,kv,hb,h2⟩:=h;exact⟨es,clock,kv,(m.block b hl hS).trans hb,h2⟩
theorem MapOf.au{w:tW}{b g:Nat}{f:tBA->Option Value}{cs:tAV}{t:TypeId}(h:MapOf w b f)(hb:ak w g cs t):g≠b:=by intro e;subst e;obtain⟨_,_,_,h1,_⟩:=h;have:w.heap[g]?=some (.cells cs t (0,0)):=hb;rw[h1]at this;cases this
theorem MapOf.lookup{P:Program}{w:tW}{b:Nat}{f:tBA->Option Value}(h:MapOf w b f){t kt et:TypeId}(hm:P.underlying t=some (.map kt et))(hk:P.underlying kt=some .string){z:Value}(hz:(zeroValue et).run P w=.ok z w)(s:tBA):(Instr.lookup t (.map (some b)) (.string s) true).run P w=.ok (.tuple #[(f s).getD z,.bool (f s).isSome]) w:=by
 obtain⟨es,clock,kv,hb,he,hf⟩:=h;have hc:(Instr.checkKey es.isEmpty 10000 kt (.string s)).run P w=.ok () w:=MapKept.run_checkKey (k:=.string s) hk (by simp[MapKept.IsKey]) _ 9999;have hfn:=MapKept.run_findKey (P:=P) (w:=w) hk (j8 s es.toList kv 0 he);have hv:=pT s kv 0;rw[hf s]at hv;unfold Instr.lookup;simp only[Sem.run_bind,run_underlying hm,MapKept.run_getObj_map hb,hc,hfn,Result.andThen,Sem.run_pure];cases hq:kvFind s kv 0 with
 |none =>rw[hq]at hv;rw[<-hv];simp[hz,Result.andThen]
 |some q =>rw[hq]at hv;rw[<-hv];simp
theorem yo(s:tBA):∀(kv:List (tBA×Value)) (i j:Nat) (v:Value),kvFind s kv i=some (j,v)->∃n,j=i+n/\n<kv.length/\(∃v',kv[n]?=some (s,v'))/\∀u s',((kv.set n (s,u)).find? (λp=>s'==p.1)).map (·.2)=if s'=s then some u else(kv.find? (λp=>s'==p.1)).map (·.2)
 |[],_,_,_,h=>by simp[kvFind]at h
 |(k,w)::kv,i,j,v,h=>by
  unfold kvFind at h;by_cases c:(s==k)=true
  ·rw[iP9 c]at h;cases h;have e:s=k:=(MapKept.bytes_beq s k).1 c;subst e;refine⟨0,rfl,by simp,⟨w,rfl⟩,λu s'=>?_⟩;rw[cI,List.find?_cons,List.find?_cons];by_cases d:s'=s
   ·subst d;simp[wK]
   ·have d':(s'==s)=false:=RF d;simp only[d',iN9 d]
  ·rw[iN9 c]at h;obtain⟨n,e,hn,⟨v',hv'⟩,hs⟩:=yo s kv (i+1) j v h;refine⟨n+1,by omega,by simpa using hn,⟨v',by simpa using hv'⟩,λu s'=>?_⟩;rw[cJ,List.find?_cons,List.find?_cons];by_cases d:(s'==k)=true
   ·have e:s'=k:=(MapKept.bytes_beq s' k).1 d;subst e;have:s'≠s:=λe=>c (by rw[e];exact wK _);simp[this,wK]
   ·have d':(s'==k)=false:=by simpa using d
    simp only[d'];exact hs u s'
theorem rE(s:tBA):∀(kv:List (tBA×Value)) (i:Nat),kvFind s kv i=none->kv.find? (λp=>s==p.1)=none
 |[],_,_=>rfl
 |(k,w)::kv,i,h=>by
  unfold kvFind at h;by_cases c:(s==k)=true
  ·rw[iP9 c]at h;cases h
  ·rw[iN9 c]at h;have c':(s==k)=false:=by simpa using c
   rw[List.find?_cons];simp only[c'];exact rE s kv (i+1) h
theorem MapOf.update{P:Program}{w:tW}{b:Nat}{f:tBA->Option Value}(h:MapOf w b f){t kt et:TypeId}(hm:P.underlying t=some (.map kt et))(hk:P.underlying kt=some .string)(s:tBA)(u:Value):∃w',(Instr.mapUpdate t (.map (some b)) (.string s) u).run P w=.ok () w'/\MapOf w' b (λs'=>if s'=s then some u else f s')/\aa (λk=>k=b) w w':=by
 obtain⟨es,clock,kv,hb,he,hf⟩:=h;have hlt:=(Array.getElem?_eq_some_iff.1 hb).1;have hc:(Instr.checkKey false 10000 kt (.string s)).run P w=.ok () w:=MapKept.run_checkKey (k:=.string s) hk (by simp[MapKept.IsKey]) _ 9999;have hfn:=MapKept.run_findKey (P:=P) (w:=w) hk (j8 s es.toList kv 0 he);have Gc:∀o:Obj,aa (λk=>k=b) w {w with heap:=w.heap.setIfInBounds b o}:=λo=>⟨rfl,rfl,rfl,by simp,λk _ hn=>(MapKept.heap_set hb).2 k hn⟩
 cases hq:kvFind s kv 0 with
 |none =>
  rw[hq]at hfn;refine⟨{w with heap:=w.heap.setIfInBounds b (.map (es.push {key:=.string s,val:=u,born:=clock}) (clock+1))},?_,⟨_,_,kv++[(s,u)],(MapKept.heap_set hb).1,?_,λs'=>?_⟩,Gc _⟩
  ·unfold Instr.mapUpdate;simp[run_underlying hm,MapKept.run_getObj_map hb,hc,hfn,MapKept.run_setObj_map _ hb,Result.andThen]
  ·simp[he,JD,kvC]
  ·have hn:=rE s kv 0 hq;rw[List.find?_append];by_cases d:s'=s
   ·subst d;rw[hn];simp[wK]
   ·have d':(s'==s)=false:=RF d;show _=if s'=s then some u else f s'
    rw[iN9 d,<-hf s'];cases kv.find? (λp=>s'==p.1)with
    |none=>simp[d']
    |some q=>simp
 |some q =>
  obtain⟨j,v⟩:=q;rw[hq]at hfn;obtain⟨n,e,hn,⟨v',hv'⟩,hs⟩:=yo s kv 0 j v hq;rw[bh]at e;subst e;have hjl:j<es.size:=by have:=congrArg cx he;simp at this;omega
  have hej:JD es[j]=kvC (s,v'):=by
   have:=congrArg (λl:List (Value×Value)=>l[j]?) he;simp only[List.getElem?_map,hv',b5]at this;rw[Array.getElem?_toList,Array.getElem?_eq_getElem hjl]at this
   simpa using this
  have hkey:es[j].key=.string s:=congrArg Prod.fst hej;have hst:(Instr.keyThatStays (((es[j]?).map (·.key)).getD (.string s)) (.string s)).run P w=.ok (.string s) w:=by rw[Array.getElem?_eq_getElem hjl,b5,Option.getD_some,hkey];exact MapKept.run_keyThatStays (d:=.string) (by simp[MapKept.IsKey])
  refine⟨{w with heap:=w.heap.setIfInBounds b (.map (es.modify j λe=>{e with key:=.string s,val:=u}) clock)},?_,⟨_,_,kv.set j (s,u),(MapKept.heap_set hb).1,?_,λs'=>?_⟩,Gc _⟩
  ·unfold Instr.mapUpdate;simp[run_underlying hm,MapKept.run_getObj_map hb,hc,hfn,hst,MapKept.run_setObj_map _ hb,Result.andThen]
  ·rw[List.map_set,<-he];refine List.ext_getElem (by simp) λt h1 h2=>?_;simp only[List.getElem_map,Array.getElem_toList,Array.getElem_modify,List.getElem_set];split
   ·rfl
   ·rfl
  ·rw[hs u s',hf s']
theorem Sl.at{w:tW}{e:TypeId}{v:Value}{n:Nat}{xs:List Value}{o:Option Addr}{cap:Nat}(h:Sl w e 1 v n xs)(hv:v=.slice o n cap):∀k,k<n->∃g,o=some ⟨g,0,none⟩/\∀j,j<n->w.cell? ⟨g,j,none⟩=xs[j]?:=by intro k hk;obtain⟨o',cap',rfl,h2⟩:=h.view;cases hv;obtain⟨g,cs,rfl,hb,ht,_⟩:=h2 (by omega);exact⟨g,rfl,λj hj=>aW hb ht j (by omega)⟩
theorem bG(l:tLB):(T l).size=l.length:=by simp[T,ByteArray.size]
theorem rF(l m:tLB):T l++T m=T (l++m):=by apply ByteArray.ext;simp[T]
