import Derived.WalkSpells
import Derived.WalkLawsBesides
import Derived.BigQuiet
import Derived.StillTailTactics
import Derived.Test.YtmajaohgiilelaaGreatDoorC01
import Derived.Lib.AppendIntMem
import Derived.Lib.ItoaLen
namespace Go.Proofs.YtmajaohgiilelaaGreatDoor
open Go.RowKit Tryz
open _root_.Array renaming eq_empty_of_size_eq_zero->b9,setIfInBounds_comm->ch,replicate->cR
open Bool renaming false_eq_true->ao,and_eq_true->bj
open Lib renaming itoa->ca
open List renaming flatMap_cons->ar,mem_cons_of_mem->cw,map_cons->cx,set_cons_zero->cD,set_cons_succ->cG,length->cJ,length_cons->cQ
open Nat renaming zero_le->cb,add_mul->cc,lt_or_ge->cd,lt_of_lt_of_le->cy,le_refl->cH
open Option renaming map_some->cS
open Region renaming wanted->an,ready->ba,binds->bh,noSelect_spec->bt,free_spec->cj,lexFrom->cr,lexB->cI
set_option linter.all false
set_option maxHeartbeats 1000000
abbrev tLB:=List UInt8
abbrev tAV:=Array Value
abbrev tBA:=ByteArray
abbrev tW:=World
def ae(p:Prop):Prop:=p
theorem ae.dW{p:Prop}(h:ae p):p:=h
theorem ae.o{p:Prop}(h:ae p):p:=h
theorem ak{p:Prop}(h:p):ae p:=h
theorem sA9{α:Type}{l:List α}{i:Nat}{a:α}:l.toArray.setIfInBounds i a=(l.set i a).toArray:=List.setIfInBounds_toArray ..
theorem sB9{α:Type}{x a:α}{l:List α}{i:Nat}:(x::l).set (i+1) a=x::l.set i a:=rfl
theorem iP9{c:Prop}{h:Decidable c}(hc:c){α:Sort _}{t e:α}:ite c t e=t:=if_pos hc
theorem iN9{c:Prop}{h:Decidable c}(hc:¬c){α:Sort _}{t e:α}:ite c t e=e:=if_neg hc
theorem sC9{α:Type}{x a:α}{l:List α}:(x::l).set 0 a=a::l:=rfl
def di(c:Int):Bool:=decide (97<=c)&&decide (c<=122)
def aS(c:Int):Bool:=decide (48<=c)&&decide (c<=57)
def jd(c:Int):Bool:=aS c||di c||(c==95)
theorem Av(c:Int)(w:tW):Calls prog 59 #[.int .u8 c] w λe w'=>e=.returned (.bool (aS c))/\w'=w:=by
 by_cases h1:48<=c
 ·go_enter func59,ntmps59;go_wp2;go_ret;exact⟨by simp[aS,h1],rfl⟩
 ·go_enter func59,ntmps59;go_wp2;go_ret;exact⟨by simp[aS];omega,rfl⟩
theorem qD(c:Int)(w:tW):Calls prog 58 #[.int .u8 c] w λe w'=>e=.returned (.bool (di c))/\w'=w:=by
 by_cases h1:97<=c
 ·go_enter func58,ntmps58;go_wp2;go_ret;exact⟨by simp[di,h1],rfl⟩
 ·go_enter func58,ntmps58;go_wp2;go_ret;exact⟨by simp[di];omega,rfl⟩
theorem yO(c:Int)(w:tW):Calls prog 60 #[.int .u8 c] w λe w'=>e=.returned (.bool (jd c))/\w'=w:=by
 cases hd:aS c<;>cases hs:di c
 all_goals
  go_enter func60,ntmps60;go_wp2_with (first |(go_at_call 59;refine(Av _ _).mono ?_;rintro e w' ⟨rfl,rfl⟩) |(go_at_call 58;refine(qD _ _).mono ?_;rintro e w' ⟨rfl,rfl⟩));go_ret;exact⟨by simp[jd,hd,hs],rfl⟩
def aq(w:tW)(b:Nat)(cs:tAV)(t:TypeId):Prop:=w.heap[b]?=some (.cells cs t (0,0))
structure aa(S:Nat->Prop)(w w':tW):Prop where
 os:w'.os=w.os
 tape:w'.tape=w.tape
 output:w'.output=w.output
 size:w.heap.size<=w'.heap.size
 block:∀k,k<w.heap.size->¬S k->w'.heap[k]?=w.heap[k]?
section
variable {w w' w'' : World} {b : Nat} {cs : Array Value} {t : TypeId} {S S' : Nat -> Prop}
theorem aq.cell(h:aq w b cs t)(i:Nat):w.cell? ⟨b,i,none⟩=cs[i]?:=by simp[World.cell?,show w.heap[b]?=some (.cells cs t (0,0))from h]
theorem aq.frozen(h:aq w b cs t)(i:Nat):w.frozen? ⟨b,i,none⟩=false:=by simp[World.frozen?,show w.heap[b]?=some (.cells cs t (0,0))from h]
theorem aq.lt(h:aq w b cs t):b<w.heap.size:=(Array.getElem?_eq_some_iff.1 h).1
theorem aq.drewN(h:aq w b cs t)(n:Nat):aq (w.drewN n) b cs t:=h
theorem aq.drew(h:aq w b cs t):aq w.drew b cs t:=h
theorem aq.set(h:aq w b cs t)(i:Nat)(v:Value):aq (w.setCell ⟨b,i,none⟩ v) b (cs.setIfInBounds i v) t:=by have h':w.heap[b]?=some (.cells cs t (0,0)):=h;simp[aq,World.setCell,Array.getElem?_modify,h']
theorem aq.setOther(h:aq w b cs t){a:Addr}(ha:a.block≠b)(v:Value):aq (w.setCell a v) b cs t:=by
 show(w.setCell a v).heap[b]?=_
 rw[Below.heap_setCell _ _ _ _ (Ne.symm ha)];exact h
theorem aq.alloc(h:aq w b cs t)(o:Obj):aq (w.alloc o) b cs t:=by
 show(w.alloc o).heap[b]?=_
 rw[Below.heap_alloc _ _ _ h.lt];exact h
theorem aq.new(w:tW)(cs:tAV)(t:TypeId):aq (w.alloc (.cells cs t)) w.heap.size cs t:=heap_alloc_new w _
theorem aq.ah(h:aq w b cs t)(m:aa S w w')(hb:¬S b):aq w' b cs t:=(m.block b h.lt hb).trans h
theorem aa.refl(S:Nat->Prop)(w:tW):aa S w w:=⟨rfl,rfl,rfl,cH _,λ_ _ _=>rfl⟩
theorem aa.drewN(h:aa S w w')(n:Nat):aa S w (w'.drewN n):=⟨h.os,h.tape,h.output,h.size,h.block⟩
theorem aa.drew(h:aa S w w'):aa S w w'.drew:=⟨h.os,h.tape,h.output,h.size,h.block⟩
theorem aa.set(h:aa S w w'){a:Addr}(ha:S a.block\/w.heap.size<=a.block)(v:Value):aa S w (w'.setCell a v) :=
 ⟨h.os,h.tape,h.output,by have:=h.size;simp[World.setCell];omega,λk hk hs=>by rw[Below.heap_setCell _ _ _ _ (by rintro rfl;rcases ha with ha|ha;exact hs ha;omega)];exact h.block k hk hs⟩
theorem aa.alloc(h:aa S w w')(o:Obj):aa S w (w'.alloc o) :=
 ⟨h.os,h.tape,h.output,by have:=h.size;simp;omega,λk hk hs=>by rw[Below.heap_alloc _ _ _ (by have:=h.size;omega)];exact h.block k hk hs⟩
theorem aa.trans(h:aa S w w')(k:aa S w' w''):aa S w w'' :=
 ⟨k.os.trans h.os,k.tape.trans h.tape,k.output.trans h.output,Nat.le_trans h.size k.size,λi hi hs=>(k.block i (cy hi h.size) hs).trans (h.block i hi hs)⟩
theorem aa.step(h:aa S w w')(k:aa S' w' w'')(hs:∀i,i<w.heap.size->S' i->S i):aa S w w'' :=
 ⟨k.os.trans h.os,k.tape.trans h.tape,k.output.trans h.output,Nat.le_trans h.size k.size,λi hi hn =>
  (k.block i (cy hi h.size) (λe=>hn (hs i hi e))).trans (h.block i hi hn)⟩
theorem aa.mono(h:aa S w w')(hs:∀i,i<w.heap.size->S i->S' i):aa S' w w' :=
 ⟨h.os,h.tape,h.output,h.size,λi hi hn=>h.block i hi (λe=>hn (hs i hi e))⟩
end
def Only(b:Nat):Nat->Prop:=λk=>k=b
def af:Nat->Prop:=λ_=>False
theorem aa.bP{b:Nat}{w w':tW}(h:aa (Only b) w w')(i:Nat)(v:Value):aa (Only b) w (w'.setCell ⟨b,i,none⟩ v):=h.set (a:=⟨b,i,none⟩) (.inl (show b=b from rfl)) v
structure RS where
 pos:Nat
 bad:Bool
structure Ext(S:Nat->Prop)(w0:tW) where
 w:tW
 m:aa S w0 w
theorem Ext.ne(S:Nat->Prop)(w:tW):Nonempty (Ext S w):=⟨⟨w,aa.refl S w⟩⟩
theorem bD{P:Program}{id:Nat}{Q:Exit->Act->tW->Prop}{a:Act}{w:tW}{l:List Oper}(S:Nat->Prop)(hm:P.follows .mixedOrders=true)(hB:cI .any l.toArray=true)(h:wpQuiet P l.toArray (λw'=>∃g:Ext S w,w'=g.w) (λa'=>∀w',(∃g:Ext S w,w'=g.w)->Q .normal a' w') l a):(Code.region id l.toArray true).wp P Q a w :=
 wp_region_quiet (C:=λw'=>∃g:Ext S w,w'=g.w) hm hB ⟨⟨_,(aa.refl S w).drew⟩,rfl⟩ (by simpa using h)
theorem Calls.dN{P:Program}{f:FuncId}{args:tAV}{S:Nat->Prop}{w:tW}{g:Ext S w}{v:Value}(h:Calls P f args g.w λe w'=>e=.returned v/\aa af g.w w'):Calls P f args g.w λe w''=>e=.returned v/\∃g':Ext S w,w''=g'.w :=
 h.mono λ_ w' ⟨he,hm⟩=>⟨he,⟨w',g.m.trans (hm.mono (λ_ _ e=>e.elim))⟩,rfl⟩
theorem Ext.cell{S:Nat->Prop}{w:tW}(g:Ext S w){b:Nat}{cs:tAV}{t:TypeId}(h:aq w b cs t)(hb:¬S b)(i:Nat):g.w.cell? ⟨b,i,none⟩=cs[i]? :=
 (h.ah g.m hb).cell i
theorem Ext.eY{S:Nat->Prop}{w:tW}{b:Nat}{v0 v1 v2 v3 v4 v5 v6 v7:Value}{t:TypeId}(h:aq w b #[v0,v1,v2,v3,v4,v5,v6,v7] t)(hb:¬S b):(∀g:Ext S w,g.w.cell? ⟨b,0,none⟩=some v0)/\(∀g:Ext S w,g.w.cell? ⟨b,1,none⟩=some v1)/\(∀g:Ext S w,g.w.cell? ⟨b,2,none⟩=some v2)/\(∀g:Ext S w,g.w.cell? ⟨b,3,none⟩=some v3) /\ (∀g:Ext S w,g.w.cell? ⟨b,4,none⟩=some v4)/\(∀g:Ext S w,g.w.cell? ⟨b,5,none⟩=some v5)/\(∀g:Ext S w,g.w.cell? ⟨b,6,none⟩=some v6)/\(∀g:Ext S w,g.w.cell? ⟨b,7,none⟩=some v7) :=
 ⟨λg=>g.cell h hb 0,λg=>g.cell h hb 1,λg=>g.cell h hb 2,λg=>g.cell h hb 3,λg=>g.cell h hb 4,λg=>g.cell h hb 5,λg=>g.cell h hb 6,λg=>g.cell h hb 7⟩
theorem kU{P:Program}{ops:Array Oper}{W:tW}{Q:Act->Prop}:∀(l:List Oper) (a:Act),wpQuiet P ops (λw'=>w'=W) Q l a->wpStill P ops W Q l a
 |[],a,h=>h
 |o::rest,a,h=>by
  unfold wpQuiet at h;unfold wpStill;split
  ·rename_i hw
   rw[iP9 hw]at h;obtain⟨v,h1,h2⟩:=h;have h3:=h1 W rfl;have ih:=kU rest _ h2;unfold Oper.quietAt at h3;unfold Oper.still;generalize(execOp a.eval o).run P W=r at *;cases r with
   |ok n w' =>
    cases n with
    |value u=>obtain⟨rfl,rfl⟩:=h3;exact⟨rfl,ih⟩
    |skip=>obtain⟨rfl,rfl⟩:=h3;exact⟨rfl,ih⟩
    |enter f args=>obtain⟨rfl,hc⟩:=h3;exact⟨rfl,v,hc,ih⟩
    |_=>exact h3.elim
   |_=>exact h3.elim
  ·rename_i hw
   rw[iN9 hw]at h;exact kU rest _ h
theorem dz{P:Program}{id:Nat}{Q:Exit->Act->tW->Prop}{a:Act}{w:tW}{l:List Oper}(n:Nat)(hm:P.follows .mixedOrders=true)(hB:Region.lexTailB .any l.toArray n=true)(h:∀W,W=w.drew->wpQuiet P l.toArray (λw'=>w'=W) (λa'=>wpList P l.toArray Q (l.drop n) a' W) (l.take n) a):(Code.region id l.toArray true).wp P Q a w :=
 wp_region_still_tail n hm hB (kU _ _ (h _ rfl))
section
variable {P : Program} {ops : Array Oper} {md : Region.Mode} {C : World -> Prop} {es : List Nat}
def ah1(w:tW)(v:Value):Result Next->Prop
 |.ok (.value u) w'=>w'=w/\u=v
 |.ok .skip w'=>w'=w/\v=undef
 |_=>False
def fO(P:Program)(o:Oper)(a:Act)(w:tW)(v:Value):Prop:=ah1 w v ((execOp a.eval o).run P w)
def ahU(P:Program)(K:Value->tW->Prop):Result Next->Prop
 |.ok (.value u) w'=>K u w'
 |.ok .skip w'=>K undef w'
 |.ok (.enter f args) w'=>Calls P f args w' (λe w''=>∃v,e=.returned v/\K v w'')
 |.ok (.row row args) w'=>Rows P row args w' K
 |_=>False
def kJ(P:Program)(o:Oper)(a:Act)(w:tW)(K:Value->tW->Prop):Prop:=ahU P K ((execOp a.eval o).run P w)
theorem C5{o:Oper}{a:Act}{w:tW}{u v:Value}(h:fO P o a w u)(h':fO P o a w v):u=v:=by
 unfold fO at *;generalize(execOp a.eval o).run P w=r at *;cases r with
 |ok n w' =>
  cases n<;>simp only[ah1]at h h'
  case value x=>exact h.2.symm.trans h'.2
  case skip=>exact h.2.trans h'.2.symm
 |halt x w'=>simp only[ah1]at h
theorem gi{K K':Value->tW->Prop}{r:Result Next}(h:∀v w,K v w->K' v w)(hh:ahU P K r):ahU P K' r:=by
 cases r with
 |ok n w' =>
  cases n<;>simp only[ahU]at hh ⊢
  case value u=>exact h _ _ hh
  case skip=>exact h _ _ hh
  case enter f args=>exact hh.mono λe w'' ⟨v,he,hk⟩=>⟨v,he,h _ _ hk⟩
  case row row args=>exact hh.mono h
 |halt x w'=>simp only[ahU]at hh
theorem nJ{K:Value->tW->Prop}{r:Result Next}(hh:ahU P K r):∃v w,K v w:=by
 cases r with
 |ok n w' =>
  cases n<;>simp only[ahU]at hh
  case value u=>exact⟨_,_,hh⟩
  case skip=>exact⟨_,_,hh⟩
  case enter f args =>obtain⟨_,w2,_,⟨v,_,hk⟩,_⟩:=hh [];exact⟨v,w2,hk⟩
  case row row args =>obtain⟨v,w2,hk,_⟩:=hh (Frame.enter P 0 #[] .normal) [];exact⟨v,w2,hk⟩
 |halt x w'=>simp only[ahU]at hh
def mOp(P:Program)(ops:Array Oper)(C:tW->Prop)(es:List Nat)(i:Nat)(K:Act->tW->Prop)(a:Act)(w:tW):Prop :=
 match ops[i]? with
 |none=>K a w
 |some o=>if an o (yielded ops a.tmps)then
   (if es.contains i then kJ P o a w (λv w'=>C w'/\K (a.put o.dst v) w')else ∃v,(∀w,C w->fO P o a w v)/\K (a.put o.dst v) w)
  else K (a.put o.dst undef) w
theorem J4{i:Nat}{a:Act}{w:tW}{K K':Act->tW->Prop}(hC:C w)(h:∀a w,C w->K a w->K' a w)(hh:mOp P ops C es i K a w):mOp P ops C es i K' a w:=by
 unfold mOp at *;split
 ·exact h _ _ hC (by simpa [*]using hh)
 ·rename_i o ho
  simp only[ho]at hh;split
  ·rename_i hw
   simp only[hw,if_true]at hh;split
   ·rename_i he;simp only[he,if_true]at hh;exact gi (λv w' h'=>⟨h'.1,h _ _ h'.1 h'.2⟩) hh
   ·rename_i he;simp only[he]at hh;obtain⟨v,h1,h2⟩:=hh;exact⟨v,h1,h _ _ hC h2⟩
  ·rename_i hw;simp only[hw]at hh;exact h _ _ hC hh
def lN(P:Program)(md:Region.Mode)(ops:Array Oper)(C:tW->Prop)(es:List Nat)(Q:Act->tW->Prop):Nat->Array Bool->Act->tW->Prop
 |0,listed,a,w=>ba md ops listed=[]/\Q a w
 |fuel+1,listed,a,w =>
  (ba md ops listed=[]->Q a w) /\
  ∀i∈ba md ops listed,mOp P ops C es i (lN P md ops C es Q fuel (listed.setIfInBounds i true)) a w
theorem Bw{i:Nat}{a:Act}{K K':Act->tW->Prop}{Q':Exit->Act->tW->Prop}{w:tW}(hC:C w)(h:∀a w',C w'->K a w'->K' a w')(hh:mOp P ops C es i K a w):wpOp P ops Q' i K' a w:=by
 unfold mOp at hh;unfold wpOp;split
 ·rename_i ho;simp only[ho]at hh;exact h _ _ hC hh
 ·rename_i o ho
  simp only[ho]at hh;split
  ·rename_i hw
   simp only[hw,if_true]at hh;left;unfold Oper.wp;split at hh
   ·unfold kJ at hh;generalize(execOp a.eval o).run P w=r at *;cases r with
    |ok n w' =>
     cases n<;>simp only[ahU]at hh<;>simp only[Oper.upon]
     case value u=>exact h _ _ hh.1 hh.2
     case skip=>exact h _ _ hh.1 hh.2
     case enter f args=>exact hh.mono λe w'' ⟨v,he,hk⟩=>by subst he;exact h _ _ hk.1 hk.2
     case row row args=>exact hh.mono λv w'' hk=>h _ _ hk.1 hk.2
    |halt x w'=>simp only[ahU]at hh
   ·obtain⟨v,h1,h2⟩:=hh;have h3:=h1 w hC;unfold fO at h3;generalize(execOp a.eval o).run P w=r at *;cases r with
    |ok n w' =>
     cases n<;>simp only[ah1]at h3<;>simp only[Oper.upon]
     case value u=>rw[h3.1,h3.2];exact h _ _ hC h2
     case skip=>rw[h3.1,<-h3.2];exact h _ _ hC h2
    |halt x w'=>simp only[ah1]at h3
  ·rename_i hw;simp only[hw]at hh;exact h _ _ hC hh
theorem yP{Q:Act->tW->Prop}{Q':Exit->Act->tW->Prop}(hQ:∀a w,C w->Q a w->Q' .normal a w):∀(fuel:Nat) (listed:Array Bool) (a:Act) (w:tW),C w -> lN P md ops C es Q fuel listed a w->wpAny P md ops Q' fuel listed a w
 |0,_,_,_,hw,h=>⟨h.1,hQ _ _ hw h.2⟩
 |fuel+1,_,_,_,hw,h=>⟨λh0=>hQ _ _ hw (h.1 h0),λi hi=>Bw hw (λa' w' hw'=>yP hQ fuel _ a' w' hw') (h.2 i hi)⟩
def gT(P:Program)(ops:Array Oper)(C:tW->Prop)(o:Oper)(v:Value)(a:Act):Prop :=
 (an o (yielded ops a.tmps)=true/\∀w,C w->fO P o a w v)\/(an o (yielded ops a.tmps)=false/\v=undef)
theorem gT.of_same{o:Oper}{v:Value}{a a':Act}(hy:gT P ops C o v a)(he:execOp a'.eval o=execOp a.eval o)(hw:an o (yielded ops a'.tmps)=an o (yielded ops a.tmps)):gT P ops C o v a':=by unfold gT fO at *;rw[he,hw];exact hy
theorem gT.mOp{i:Nat}{o:Oper}{v:Value}{a:Act}(hi:ops[i]?=some o)(hE:es.contains i=false)(hy:gT P ops C o v a){K:Act->tW->Prop}{w:tW}(h:K (a.put o.dst v) w):mOp P ops C es i K a w:=by
 unfold Proofs.YtmajaohgiilelaaGreatDoor.mOp;simp only[hi];rcases hy with⟨hw,hv⟩ |⟨hw,rfl⟩
 ·simp only[hw,if_true,hE,ao,if_false];exact⟨v,hv,h⟩
 ·simp only[hw,ao,if_false];exact h
theorem nK{i:Nat}{o:Oper}{a:Act}(hi:ops[i]?=some o)(hw:an o (yielded ops a.tmps)=false){K:Act->tW->Prop}{w:tW}(h:K (a.put o.dst undef) w):mOp P ops C es i K a w:=by unfold Proofs.YtmajaohgiilelaaGreatDoor.mOp;simp only[hi,hw,ao,if_false];exact h
theorem Qa{j:Nat}{oi oj:Oper}{v:Value}(hj:ops[j]?=some oj)(hap:oi.apart ops oj=true)(hsi:∀cs b,oi.op≠.select cs b) (hsj:∀cs b,oj.op≠.select cs b) {K:Act->tW->Prop} {a:Act} {w:tW}(hy:gT P ops C oi v a) (h:mOp P ops C es j K (a.put oi.dst v) w):mOp P ops C es j (λa' w'=>gT P ops C oi v a'/\K (a'.put oi.dst v) w') a w:=by
 obtain⟨h1,h2,h3⟩:=Oper.apart_spec hap
 have keep:∀(a:Act),gT P ops C oi v a->∀u,gT P ops C oi v (a.put oj.dst u):=λa hy u =>
  hy.of_same (execOp_put oi hsi a oj.dst u h3) (wanted_put oi a oj.dst u h3)
 unfold mOp at *;simp only[hj]at *;rw[wanted_put oj a oi.dst v h1]at h;unfold kJ fO at *;rw[execOp_put oj hsj a oi.dst v h1]at h;split
 ·rename_i hw
  simp only[hw,if_true]at h;split
  ·rename_i he
   simp only[he,if_true]at h;exact gi (λu w' h'=>⟨h'.1,keep a hy u,by rw[<-Act.put_comm a v u h2];exact h'.2⟩) h
  ·rename_i he
   simp only[he]at h;obtain⟨u,hu,hn⟩:=h;exact⟨u,hu,keep a hy u,by rw[<-Act.put_comm a v u h2];exact hn⟩
 ·rename_i hw
  simp only[hw]at h;exact⟨keep a hy _,by rw[<-Act.put_comm a v undef h2];exact h⟩
theorem nZ{i:Nat}{oj:Oper}{listed:Array Bool}(hr:i∈ba md ops listed)(hall:∀e∈oj.after,bh md e=true->listed.getD e.on false=true):∀e∈oj.after,bh md e=true->e.on≠i:=λe he hb heq=>by
 have h1:=hall e he hb;have h0:=(mem_ready.1 hr).1;rw[heq]at h1;rcases cd i listed.size with h'|h'
 ·simp[h']at h0 h1;rw[h0]at h1;cases h1
 ·simp[Array.getElem?_eq_none h']at h1
theorem yQ{Q:Act->tW->Prop}{i:Nat}{oi:Oper}{v:Value}(hi:ops[i]?=some oi)(hsel:∀(j:Nat) (o:Oper) cs b,ops[j]?=some o->o.op≠.select cs b)(hE:∀(K:Act->tW->Prop) (a:Act) (w:tW),C w->gT P ops C oi v a->K (a.put oi.dst v) w->mOp P ops C es i K a w):∀(fuel:Nat) (listed:Array Bool) (a:Act) (w:tW), (∀j oj,ops[j]?=some oj->j≠i->listed.getD j true=false->(∀e∈oj.after,bh md e=true->e.on≠i)->oi.apart ops oj=true) -> i∈ba md ops listed->C w->gT P ops C oi v a -> lN P md ops C es Q fuel (listed.setIfInBounds i true) (a.put oi.dst v) w->lN P md ops C es Q (fuel+1) listed a w:=by
 intro fuel;induction fuel with
 |zero =>
  intro listed a w _ hr hC hy H;refine⟨λh=>(by rw[h]at hr;cases hr),λj hj=>?_⟩;by_cases hji:j=i
  ·subst hji;exact hE _ _ _ hC hy H
  ·have:=ready_mono hj hji;rw[H.1]at this;cases this
 |succ fuel ih =>
  intro listed a w hfree hr hC hy H;refine⟨λh=>(by rw[h]at hr;cases hr),λj hj=>?_⟩;by_cases hji:j=i
  ·subst hji;exact hE _ _ _ hC hy H
  ·have h1:=H.2 j (ready_mono hj hji);obtain⟨hjun,oj,hoj,hall⟩:=mem_ready.1 hj;have hnot:=nZ hr hall;have h2:=Qa hoj (hfree j oj hoj hji hjun hnot) (λcs b=>hsel i oi cs b hi) (λcs b=>hsel j oj cs b hoj) hy h1
   have hfree':∀k ok,ops[k]?=some ok->k≠i->(listed.setIfInBounds j true).getD k true=false ->
     (∀e∈ok.after,bh md e=true->e.on≠i)->oi.apart ops ok=true:=λk ok hk hki hun hno=>by
    refine hfree k ok hk hki ?_ hno;by_cases hjk:j=k
    ·subst hjk;exact hjun
    ·rw[getD_set_ne true hjk]at hun;exact hun
   refine J4 hC (λa' w' J5 h3=>ih (listed.setIfInBounds j true) a' w' hfree' (ready_mono hr (Ne.symm hji)) J5 h3.1 ?_) h2;rw[ch _ _ hji];exact h3.2
theorem Mr{Q:Act->tW->Prop}{i:Nat}{oi:Oper}(hi:ops[i]?=some oi)(hsel:∀(j:Nat) (o:Oper) cs b,ops[j]?=some o->o.op≠.select cs b)(hEi:es.contains i=true)(hch:∀j,es.contains j=true->i<j->∃p,es.contains p=true/\i<=p/\p<j/\∃oj,ops[j]?=some oj/\∃e∈oj.after,bh md e=true/\e.on=p):∀(fuel:Nat) (listed:Array Bool) (a:Act) (w:tW), (∀j oj,ops[j]?=some oj->j≠i->listed.getD j true=false->(∀e∈oj.after,bh md e=true->e.on≠i)->oi.apart ops oj=true) -> (∀j,es.contains j=true->i<j->listed.getD j true=false)->(∀j,j<i->listed.getD j true=true) -> i∈ba md ops listed->an oi (yielded ops a.tmps)=true->C w -> kJ P oi a w (λv w'=>C w'/\lN P md ops C es Q fuel (listed.setIfInBounds i true) (a.put oi.dst v) w')->lN P md ops C es Q (fuel+1) listed a w:=by
 have hno:∀(listed:Array Bool) (j:Nat),(∀j,es.contains j=true->i<j->listed.getD j true=false)->(∀j,j<i->listed.getD j true=true)->i∈ba md ops listed->j∈ba md ops listed->j≠i->es.contains j=false:=by
  intro listed j hinv hlow hr hj hji;cases hc:es.contains j with
  |false=>rfl
  |true =>
   obtain⟨hjun,oj,hoj,hall⟩:=mem_ready.1 hj
   have hlt:i<j:=by
    rcases cd j i with h|h
    ·rw[hlow j h]at hjun;cases hjun
    ·omega
   obtain⟨p,hp,hip,hpj,oj',UD,e,he,hb,hon⟩:=hch j hc hlt;rw[hoj]at UD;cases UD;have h1:=hall e he hb;rw[hon]at h1;by_cases hpi:p=i
   ·subst hpi;exact absurd hon (nZ hr hall e he hb)
   ·have h2:=hinv p hp (by omega);rcases cd p listed.size with h'|h'
    ·simp[h']at h1 h2;rw[h2]at h1;cases h1
    ·simp[Array.getElem?_eq_none h']at h1
 have hme:∀(K:Act->tW->Prop) (a:Act) (w:tW),an oi (yielded ops a.tmps)=true->kJ P oi a w (λv w'=>C w'/\K (a.put oi.dst v) w')->mOp P ops C es i K a w:=λK a w hw h=>by unfold mOp;simp only[hi,hw,if_true,hEi];exact h
 intro fuel;induction fuel with
 |zero =>
  intro listed a w _ hinv hlow hr hw hC H;refine⟨λh=>(by rw[h]at hr;cases hr),λj hj=>?_⟩;by_cases hji:j=i
  ·subst hji;exact hme _ _ _ hw H
  ·have:=ready_mono hj hji;obtain⟨_,_,_,h2⟩:=nJ H;rw[h2.1]at this;cases this
 |succ fuel ih =>
  intro listed a w hfree hinv hlow hr hw hC H;refine⟨λh=>(by rw[h]at hr;cases hr),λj hj=>?_⟩;by_cases hji:j=i
  ·subst hji;exact hme _ _ _ hw H
  ·have hEj:=hno listed j hinv hlow hr hj hji;obtain⟨hjun,oj,hoj,hall⟩:=mem_ready.1 hj;have hnot:=nZ hr hall;obtain⟨h1,h2,h3⟩:=Oper.apart_spec (hfree j oj hoj hji hjun hnot);have hsi:∀cs b,oi.op≠.select cs b:=λcs b=>hsel i oi cs b hi;have hsj:∀cs b,oj.op≠.select cs b:=λcs b=>hsel j oj cs b hoj
   have hfree':∀k ok,ops[k]?=some ok->k≠i->(listed.setIfInBounds j true).getD k true=false ->
     (∀e∈ok.after,bh md e=true->e.on≠i)->oi.apart ops ok=true:=λk ok hk hki hun hno=>by
    refine hfree k ok hk hki ?_ hno;by_cases hjk:j=k
    ·subst hjk;exact hjun
    ·rw[getD_set_ne true hjk]at hun;exact hun
   have UE:∀k,es.contains k=true->i<k->(listed.setIfInBounds j true).getD k true=false:=λk hk hik=>by
    have hjk:j≠k:=by rintro rfl;rw[hEj]at hk;cases hk
    rw[getD_set_ne true hjk];exact hinv k hk hik
   have hlow':∀k,k<i->(listed.setIfInBounds j true).getD k true=true:=λk hk=>by
    by_cases hjk:j=k
    ·subst hjk;rw[hlow j hk]at hjun;cases hjun
    ·rw[getD_set_ne true hjk];exact hlow k hk
   have key:∀u,(∀v w',C w'->lN P md ops C es Q (fuel+1) (listed.setIfInBounds i true) (a.put oi.dst v) w'->lN P md ops C es Q fuel ((listed.setIfInBounds i true).setIfInBounds j true) ((a.put oi.dst v).put oj.dst u) w') ->
     lN P md ops C es Q (fuel+1) (listed.setIfInBounds j true) (a.put oj.dst u) w:=λu hu=>by
    refine ih (listed.setIfInBounds j true) (a.put oj.dst u) w hfree' UE hlow' (ready_mono hr (Ne.symm hji)) (by rw[wanted_put oi a oj.dst u h3];exact hw) hC ?_;unfold kJ at *;rw[execOp_put oi hsi a oj.dst u h3];refine gi (λv w' h'=>⟨h'.1,?_⟩) H;have:=hu v w' h'.1 h'.2;rw[ch _ _ hji,<-Act.put_comm a v u h2];exact this
   cases YJ:an oj (yielded ops a.tmps)with
   |false =>refine nK hoj YJ (key undef λv w' _ h'=>?_);have h4:=h'.2 j (ready_mono hj hji);unfold mOp at h4;simp only[hoj,wanted_put oj a oi.dst v h1,YJ,ao,if_false]at h4;exact h4
   |true =>
    have J6:∀v w',lN P md ops C es Q (fuel+1) (listed.setIfInBounds i true) (a.put oi.dst v) w'->∃u,(∀w,C w->fO P oj a w u)/\lN P md ops C es Q fuel ((listed.setIfInBounds i true).setIfInBounds j true) ((a.put oi.dst v).put oj.dst u) w':=λv w' h'=>by have h4:=h'.2 j (ready_mono hj hji);unfold mOp at h4;simp only[hoj,wanted_put oj a oi.dst v h1,YJ,if_true,hEj,ao,if_false]at h4;unfold fO at *;rw[execOp_put oj hsj a oi.dst v h1]at h4;exact h4
    obtain⟨v0,w0,_,h0⟩:=nJ H;obtain⟨u,hu,_⟩:=J6 v0 w0 h0;refine gT.mOp hoj hEj (.inl ⟨YJ,hu⟩) (key u λv w' _ h'=>?_);obtain⟨u',hu',hk⟩:=J6 v w' h';rw[C5 (hu w hC) (hu' w hC)];exact hk
def chainB(md:Region.Mode)(ops:Array Oper):List Nat->Bool
 |e1::e2::r=>decide (e1<e2)&&(match ops[e2]? with|some o=>o.after.any (λe=>bh md e&&e.on==e1)|none=>false)&&chainB md ops (e2::r)
 |_=>true
theorem xL{md:Region.Mode}{ops:Array Oper}:∀(e:Nat) (r:List Nat),chainB md ops (e::r)=true->∀j∈r,e<j
 |_,[],_,j,hj=>by cases hj
 |e,e2::r,h,j,hj=>by
  simp only[chainB,bj,decide_eq_true_eq]at h;rcases List.mem_cons.1 hj with rfl|hj
  ·exact h.1.1
  ·have:=xL e2 r h.2 j hj;omega
theorem mH{md:Region.Mode}{ops:Array Oper}:∀(es:List Nat),chainB md ops es=true->∀i j,i∈es->j∈es->i<j->∃p,p∈es/\i<=p/\p<j/\∃oj,ops[j]?=some oj/\∃e∈oj.after,bh md e=true/\e.on=p
 |[],_,i,_,hi,_,_=>by cases hi
 |[e],_,i,j,hi,hj,hlt=>by simp at hi hj;omega
 |e1::e2::r,h,i,j,hi,hj,hlt=>by
  have h0:=h;simp only[chainB,bj,decide_eq_true_eq]at h;obtain⟨⟨h1,h2⟩,h3⟩:=h;by_cases hj1:j=e1
  ·subst hj1;rcases List.mem_cons.1 hi with rfl|hi
   ·omega
   ·have:=xL j (e2::r) h0 i hi;omega
  ·have hj':j∈e2::r:=by
    rcases List.mem_cons.1 hj with h|h
    ·exact absurd h hj1
    ·exact h
   by_cases hi1:i=e1
   ·subst hi1;by_cases hj2:j=e2
    ·subst hj2;split at h2
     ·rename_i o ho
      obtain⟨e,he,hb⟩:=Array.any_eq_true'.1 h2;simp only[bj,beq_iff_eq]at hb;exact⟨i,by simp,cH _,hlt,o,ho,e,he,hb.1,hb.2⟩
     ·cases h2
    ·have hlow:e2<j:=by
      rcases List.mem_cons.1 hj' with h|h
      ·exact absurd h hj2
      ·exact xL e2 r h3 j h
     obtain⟨p,hp,hip,hpj,rest⟩:=mH (e2::r) h3 e2 j (by simp) hj' hlow;exact⟨p,cw _ hp,by omega,hpj,rest⟩
   ·have hi':i∈e2::r:=by
     rcases List.mem_cons.1 hi with h|h
     ·exact absurd h hi1
     ·exact h
    obtain⟨p,hp,hip,hpj,rest⟩:=mH (e2::r) h3 i j hi' hj' hlt;exact⟨p,cw _ hp,hip,hpj,rest⟩
def ahN(P:Program)(ops:Array Oper)(C:tW->Prop)(es:List Nat)(Q:Act->tW->Prop):Nat->List Oper->Act->tW->Prop
 |_,[],a,w=>Q a w
 |k,o::rest,a,w=>if an o (yielded ops a.tmps)then
   (if es.contains k then kJ P o a w (λv w'=>C w'/\ahN P ops C es Q (k+1) rest (a.put o.dst v) w')
    else ∃v,(∀w,C w->fO P o a w v)/\ahN P ops C es Q (k+1) rest (a.put o.dst v) w)
  else ahN P ops C es Q (k+1) rest (a.put o.dst undef) w
theorem C6{Q:Act->tW->Prop}(hs:Region.noSelect ops=true)(hc:chainB md ops es=true):∀(l:List Oper) (k:Nat) (listed:Array Bool) (a:Act) (w:tW),(∀j,l[j]?=ops[k+j]?) -> cr md ops l.length k listed=true->(∀j,k<=j->j<ops.size->listed.getD j true=false)->(∀j,j<k->listed.getD j true=true)->C w->ahN P ops C es Q k l a w->lN P md ops C es Q l.length listed a w
 |[],_,_,_,_,_,hB,_,_,_,h=>⟨by simpa [cr]using hB,h⟩
 |o::l,k,listed,a,w,hl,hB,J7,hlow,hC,h=>by
  have h0:ops[k]?=some o:=by simpa using(hl 0).symm
  have hks:k<ops.size:=(Array.getElem?_eq_some_iff.1 h0).1;simp only[cQ,cr,bj]at hB;obtain⟨⟨hr,hf⟩,hB'⟩:=hB;have hl':∀j,l[j]?=ops[k+1+j]?:=λj=>by have:=hl (j+1);simpa [Nat.add_assoc,Nat.add_comm 1 j]using this
  have abC:∀j,k+1<=j->j<ops.size->(listed.setIfInBounds k true).getD j true=false:=λj h1 h2=>by rw[getD_set_ne true (by omega)];exact J7 j (by omega) h2
  have hlow':∀j,j<k+1->(listed.setIfInBounds k true).getD j true=true:=λj h1=>by
   by_cases hjk:k=j
   ·subst hjk;rcases cd k listed.size with h'|h'
    ·simp[h']
    ·simp
   ·rw[getD_set_ne true hjk];exact hlow j (by omega)
  have go:∀a' w',C w'->ahN P ops C es Q (k+1) l a' w'->lN P md ops C es Q l.length (listed.setIfInBounds k true) a' w':=λa' w' J5 h'=>C6 hs hc l (k+1) _ a' w' hl' hB' abC hlow' J5 h';have hr':k∈ba md ops listed:=by simpa using hr
  unfold ahN at h;cases hw:an o (yielded ops a.tmps)with
  |false =>
   simp only[hw,ao,if_false]at h
   exact yQ h0 (bt hs) (v:=undef) (λK a' w' J5 hy hk=>by
    cases hw':an o (yielded ops a'.tmps)with
    |false=>exact nK h0 hw' hk
    |true =>
     cases hE:es.contains k with
     |false=>exact hy.mOp h0 hE hk
     |true =>
      rcases hy with⟨_,hv⟩ |⟨hx,_⟩
      ·unfold mOp;simp only[h0,hw',if_true,hE];have h3:=hv w' J5;unfold fO at h3;unfold kJ;generalize(execOp a'.eval o).run P w'=r at *;cases r with
       |ok n w2 =>
        cases n<;>simp only[ah1]at h3<;>simp only[ahU]
        case value u=>rw[h3.1,h3.2];exact⟨J5,hk⟩
        case skip=>rw[h3.1];exact⟨J5,hk⟩
       |halt x w2=>simp only[ah1]at h3
      ·rw[hw']at hx;cases hx) l.length listed a w (cj h0 hf) hr' hC (.inr ⟨hw,rfl⟩) (go _ _ hC h)
  |true =>
   simp only[hw,if_true]at h;cases hE:es.contains k with
   |false =>simp only[hE,ao,if_false]at h;obtain⟨v,hv,hk⟩:=h;exact yQ h0 (bt hs) (λK a' w' _ hy hk=>hy.mOp h0 hE hk) l.length listed a w (cj h0 hf) hr' hC (.inl ⟨hw,hv⟩) (go _ _ hC hk)
   |true =>
    simp only[hE,if_true]at h;refine Mr h0 (bt hs) hE (λj hj hkj=>?_) l.length listed a w (cj h0 hf) (λj hj hkj=>?_) hlow hr' hw hC (gi (λv w' h'=>⟨h'.1,go _ _ h'.1 h'.2⟩) h)
    ·obtain⟨p,hp,rest⟩:=mH es hc k j (by simpa using hE) (by simpa using hj) hkj;exact⟨p,by simpa using hp,rest⟩
    ·obtain⟨p,_,_,_,oj,hoj,_⟩:=mH es hc k j (by simpa using hE) (by simpa using hj) hkj;exact J7 j (by omega) (Array.getElem?_eq_some_iff.1 hoj).1
theorem aZ{id:Nat}{Q:Exit->Act->tW->Prop}{a:Act}{w:tW}{l:List Oper}(es:List Nat)(C:tW->Prop)(hm:P.follows .mixedOrders=true)(hB:cI .any l.toArray=true)(hc:chainB .any l.toArray es=true)(hC:C w.drew)(h:ahN P l.toArray C es (λa' w'=>Q .normal a' w') 0 l a w.drew):(Code.region id l.toArray true).wp P Q a w:=by
 simp only[cI,bj]at hB;refine wp_region_any hm (yP (C:=C) (es:=es) (Q:=λa' w'=>Q .normal a' w') (λ_ w' _ h=>h) _ _ _ _ hC ?_)
 have J7:∀j,0<=j->j<l.toArray.size->(cR l.toArray.size false).getD j true=false:=λj _ hj=>by
  have hj':j<l.length:=by simpa using hj
  simp[hj']
 have:=C6 (C:=C) (md:=.any) hB.1 hc l 0 (cR l.toArray.size false) a w.drew (by simp) (by simpa using hB.2) J7 (λj hj=>by omega) hC h
 simpa using this
theorem fC{o:Oper}(hgd:o.guard=none)(x:Nat->Option Bool):an o x=true:=by simp[an,hgd]
theorem J8(s:Sem Value)(w:tW)(f:FuncId)(args:tAV)(w':tW):(do pure (Next.value (<-s)):Sem Next).run P w≠.ok (.enter f args) w':=by
 intro h;rw[Sem.run_bind]at h;cases hr:s.run P w with
 |ok v w2=>rw[hr]at h;simp[Result.andThen]at h
 |halt x w2=>rw[hr]at h;simp[Result.andThen]at h
theorem Ic(s:Sem Unit)(w:tW)(f:FuncId)(args:tAV)(w':tW):(do s;pure Next.skip:Sem Next).run P w≠.ok (.enter f args) w':=by
 intro h;rw[Sem.run_bind]at h;cases hr:s.run P w with
 |ok v w2=>rw[hr]at h;simp[Result.andThen]at h
 |halt x w2=>rw[hr]at h;simp[Result.andThen]at h
def yR(o:Oper):Bool:=match o.op with
 |.call _|.go _|.defer _|.nilCheck _|.pick .. | .send .. | .recv .. | .select ..=>false
 |_=>true
theorem EV(o:Oper)(h:yR o=true)(ρ:Operand->Value)(w:tW)(f:FuncId)(args:tAV)(w':tW):(execOp ρ o).run P w≠.ok (.enter f args) w':=by
 cases hop:o.op<;>simp only[yR,hop]at h<;>simp only[execOp,hop]<;>first
  |exact absurd h Bool.false_ne_true
  |exact J8 _ _ _ _ _
  |exact Ic _ _ _ _ _
  |simp
theorem xu{o:Oper}{a:Act}(h:yR o=true)(v:Value)(w:tW)(hq:o.quietAt P a C w v):fO P o a w v:=by
 have hn:=EV (P:=P) o h a.eval w;unfold Oper.quietAt at hq;unfold fO;generalize(execOp a.eval o).run P w=r at *;cases r with
 |ok n w' =>
  cases n<;>simp only[Oper.quietUpon]at hq<;>simp only[ah1]
  case value u=>exact hq
  case skip=>exact hq
  case enter f args=>exact hn f args w' rfl
 |halt x w'=>simp only[Oper.quietUpon]at hq
theorem aB{Q:Act->tW->Prop}{k:Nat}{o:Oper}{rest:List Oper}{a:Act}{w:tW}(hgd:o.guard=none)(hE:es.contains k=false)(hp:yR o=true)(h:∀K:Act->Prop,(∀a',ahN P ops C es Q (k+1) rest a' w->K a')->o.quiet P a C K):ahN P ops C es Q k (o::rest) a w:=by unfold ahN;rw[iP9 (fC hgd _),hE];obtain⟨v,h1,h2⟩:=h _ (λ_ h=>h);exact⟨v,λw hw=>xu hp v w (h1 w hw),h2⟩
theorem aF{Q:Act->tW->Prop}{k:Nat}{o:Oper}{rest:List Oper}{a:Act}{w:tW}(hgd:o.guard=none)(hE:es.contains k=true)(h:∀K:Act->tW->Prop,(∀a' w',a'.defers=a.defers->C w'->ahN P ops C es Q (k+1) rest a' w'->K a' w')->o.wp P a w K (λ_ _ _=>False)):ahN P ops C es Q k (o::rest) a w:=by
 unfold ahN;rw[iP9 (fC hgd _),iP9 hE];have h1:=h (λa' w'=>a'.defers=a.defers/\C w'/\ahN P ops C es Q (k+1) rest a' w') (λa' w' h1 h2 h3=>⟨h1,h2,h3⟩);unfold Oper.wp at h1;unfold kJ;generalize(execOp a.eval o).run P w=r at *;cases r with
 |ok n w' =>
  cases n<;>simp only[Oper.upon]at h1<;>simp only[ahU]
  case value u=>exact h1.2
  case skip=>exact h1.2
  case defer d =>
   have h2:=h1.1;have h3:(({a with defers:=d::a.defers}:Act).put o.dst undef).defers=d::a.defers:=by unfold Act.put;split<;>rfl
   rw[h3]at h2;have:=congrArg cJ h2;simp at this
  case enter f args =>
   refine h1.mono λe w'' he=>?_;cases e with
   |returned v=>exact⟨v,rfl,he.2⟩
   |panicked c=>exact he.elim
   |outgrown=>obtain⟨_,_,hf⟩:=he;exact hf.elim
  case row row args=>exact h1.mono λv w'' he=>he.2
 |halt x w'=>cases x<;>simp only[Oper.upon]at h1
theorem bq{Q:Act->tW->Prop}{k:Nat}{o:Oper}{rest:List Oper}{a:Act}{w:tW}(hgd:o.guard=none)(hE:es.contains k=false)(x:Operand)(ad:Addr)(ho:o.op=.nilCheck x)(hx:a.eval x=.pointer (some ad))(h:ahN P ops C es Q (k+1) rest (a.put o.dst (.pointer (some ad))) w):ahN P ops C es Q k (o::rest) a w:=by unfold ahN;rw[iP9 (fC hgd _),hE];refine⟨_,λw _=>?_,h⟩;unfold fO;simp only[execOp,ho,hx];exact⟨rfl,rfl⟩
theorem cu{Q:Act->tW->Prop}{k:Nat}{a:Act}{w:tW}(h:Q a w):ahN P ops C es Q k [] a w:=h
end
def Sl(w:tW)(e:TypeId)(size:Nat)(v:Value)(n:Nat)(xs:List Value):Prop:=w.ownsRow 0 e size v n xs
section
variable {w w' : World} {e : TypeId} {size : Nat} {v : Value} {n : Nat} {xs : List Value} {S : Nat -> Prop}
theorem Sl.nil(w:tW)(e:TypeId)(size:Nat):Sl w e size (.slice none 0 0) 0 []:=World.ownsRow_nil w 0 e size
theorem Sl.ah(h:Sl w e size v n xs)(m:aa S w w')(hS:∀k,v.ownBlock=some k->¬S k):Sl w' e size v n xs:=by
 refine⟨h.1,?_⟩;rcases h.2 with hn |⟨g,cap,cur,rfl,hb,hg,rest⟩
 ·exact .inl hn
 ·exact .inr ⟨g,cap,cur,rfl,hb,(m.block g (Array.getElem?_eq_some_iff.1 hg).1 (hS g rfl)).trans hg,rest⟩
theorem Sl.lt(h:Sl w e size v n xs)(k:Nat)(hk:v.ownBlock=some k):k<w.heap.size:=(World.ownsRow.lt h k hk).2
theorem Sl.view(h:Sl w e size v n xs):∃o cap,v=.slice o n cap/\(0<n->∃g cs,o=some ⟨g,0,none⟩/\aq w g cs e/\cs.toList.take (n*size)=xs/\n<=cap/\cap<=maxLen):=by
 rcases h.2 with⟨rfl,rfl⟩ |⟨g,cap,cur,rfl,_,hg,hn,hm,_,ht⟩
 ·exact⟨none,0,rfl,λh=>absurd h (by omega)⟩
 ·exact⟨_,cap,rfl,λ_=>⟨g,cur,rfl,hg,ht,hn,hm⟩⟩
theorem aa.J9{row:Option Nat}(h:w.grownBy w' row):aa (λk=>row=some k) w w' :=
 ⟨h.os,h.tape,h.output,h.size,λk hk hs=>h.block k hk (λe=>hs e.symm)⟩
theorem EW{P:Program}(w:tW)(t ty e:TypeId)(i:TypeInfo)(z:Value)(size bytes:Nat)(ht:P.underlying t=some (.slice e))(hi:P.info? e=some i)(hz:i.zero=some z)(hsize:i.size=size) (hby:i.bytes=bytes) (hzs:z.cells.size=size) (hsz:0<size)(v:Value) (n:Nat) (xs:List Value) (hown:Sl w e size v n xs)(a:Addr) (m c:Nat) (news:List Value) (hl:news.length=m*size) (hnews:∀j u,news[j]?=some u->w.cell? (a.add j)=some u) (h1:∀u∈news,u.oneCell'=true)(h63:n+m<=maxLen) (hbytes:(n+m)*bytes<=140737488355328):∃v' w',(Builtin.append_ #[t,t] ty #[v,.slice (some a) m c]).run P w=.ok v' w'/\Sl w' e size v' (n+m) (xs++news)/\aa (λk=>v.ownBlock=some k) w w' /\ (∀k,v'.ownBlock=some k->v.ownBlock=some k\/w.heap.size<=k):=by
 obtain⟨v',w',hr,h2,h3,_⟩:=run_append_own (P:=P) w 0 t ty e i z size bytes ht hi hz hsize hby hzs hsz v n xs hown a m c news hl hnews h1 h63 hbytes (cb _);refine⟨v',w',hr,h2,aa.J9 h3,?_⟩;intro k hk;rcases hown.2 with⟨rfl,rfl⟩ |⟨g,cap,cur,rfl,_,hg,hn,hm,hcs,htk⟩
 ·obtain⟨v2,w2,hr2,h22,_⟩:=run_append_own (P:=P) w w.heap.size t ty e i z size bytes ht hi hz hsize hby hzs hsz _ 0 xs ⟨hown.1,.inl ⟨rfl,rfl⟩⟩ a m c news hl hnews h1 h63 hbytes (cH _);rw[hr]at hr2;cases hr2;exact .inr (World.ownsRow.lt h22 k hk).1
 ·by_cases hroom:n+m<=cap
  ·have hfit:n*i.size+news.length<=cur.size:=by rw[hl,hcs,hsize,<-cc];exact Nat.mul_le_mul_right _ hroom
   have hr2:=run_append_room (P:=P) w t ty e i ht hi g n cap cur hg a m c news (by rw[hl,hsize]) hnews h1 hroom hfit;rw[hr]at hr2;cases hr2;exact .inl hk
  ·obtain⟨v2,w2,hr2,h22,_⟩:=run_append_arg_grows (P:=P) w t ty e i z size bytes ht hi hz hsize hby hzs hsz ⟨g,0,none⟩ n cap xs hown.1 (World.ownsRow.cells hown (g:=g) rfl) a m c news hl hnews (by omega) h63 hbytes;rw[hr]at hr2;cases hr2;exact .inr (World.ownsRow.lt h22 k hk).1
theorem cZ{P:Program}(w:tW){o:Oper}{a:Act}{K:Act->tW->Prop}{Q:Exit->Act->tW->Prop}(s x:Operand)(t:TypeId)(ho:o.op=.call {callee:=.builtin .append,args:=#[s,x],argTypes:=#[t,t]})(e:TypeId) (i:TypeInfo) (z:Value) (size bytes:Nat) (ht:P.underlying t=some (.slice e)) (hi:P.info? e=some i) (hz:i.zero=some z)(hsize:i.size=size) (hby:i.bytes=bytes) (hzs:z.cells.size=size) (hsz:0<size)(v:Value) (n:Nat) (xs:List Value) (hs:a.eval s=v) (hown:Sl w e size v n xs)(ad:Addr) (m c:Nat) (news:List Value) (hx:a.eval x=.slice (some ad) m c) (hl:news.length=m*size) (hnews:∀j u,news[j]?=some u->w.cell? (ad.add j)=some u) (h1:∀u∈news,u.oneCell'=true)(h63:n+m<=maxLen) (hbytes:(n+m)*bytes<=140737488355328)(h:∀v' w',Sl w' e size v' (n+m) (xs++news)->aa (λk=>v.ownBlock=some k) w w'->(∀k,v'.ownBlock=some k->v.ownBlock=some k\/w.heap.size<=k)->K (a.put o.dst v') w'):o.wp P a w K Q:=by obtain⟨v',w',hr,h2,h3,h4⟩:=EW (P:=P) w t o.type e i z size bytes ht hi hz hsize hby hzs hsz v n xs hown ad m c news hl hnews h1 h63 hbytes;unfold Oper.wp execOp;simp only[ho,resolve,invoke,builtin,Sem.run_bind,Sem.run_pure,Result.andThen_ok,List.map_toArray,cx,List.map_nil,hs,hx,hr];exact h v' w' h2 h3 h4
theorem aJ{P:Program}(w:tW){ops:Array Oper}{rest:List Oper}{o:Oper}{a:Act}{Q:Exit->Act->tW->Prop}(hgd:o.guard=none)(s x:Operand)(t:TypeId)(ho:o.op=.call {callee:=.builtin .append,args:=#[s,x],argTypes:=#[t,t]})(e:TypeId) (i:TypeInfo) (z:Value) (size bytes:Nat) (ht:P.underlying t=some (.slice e)) (hi:P.info? e=some i) (hz:i.zero=some z)(hsize:i.size=size) (hby:i.bytes=bytes) (hzs:z.cells.size=size) (hsz:0<size)(v:Value) (n:Nat) (xs:List Value) (hs:a.eval s=v) (hown:Sl w e size v n xs)(ad:Addr) (m c:Nat) (news:List Value) (hx:a.eval x=.slice (some ad) m c) (hl:news.length=m*size) (hnews:∀j u,news[j]?=some u->w.cell? (ad.add j)=some u) (h1:∀u∈news,u.oneCell'=true)(h63:n+m<=maxLen) (hbytes:(n+m)*bytes<=140737488355328)(h:∀v' w',Sl w' e size v' (n+m) (xs++news)->aa (λk=>v.ownBlock=some k) w w'->(∀k,v'.ownBlock=some k->v.ownBlock=some k\/w.heap.size<=k)->wpList P ops Q rest (a.put o.dst v') w'):wpList P ops Q (o::rest) a w :=
 wpList_plain hgd λ_ hK=>cZ w s x t ho e i z size bytes ht hi hz hsize hby hzs hsz v n xs hs hown ad m c news hx hl hnews h1 h63 hbytes λv' w' h2 h3 h4=>hK _ _ (h v' w' h2 h3 h4)
end
theorem flat_get{α:Type}(f:α->List Value)(c:Nat)(hf:∀x,(f x).length=c):∀(l:List α) (i j:Nat) (hi:i<l.length),j<c->(l.flatMap f)[i*c+j]?=(f l[i])[j]?
 |x::l,0,j,_,hj=>by rw[ar,List.getElem?_append_left (by rw[hf];omega)];simp
 |x::l,i+1,j,hi,hj=>by
  rw[ar,List.getElem?_append_right (by rw[hf,cc];omega),hf];have:(i+1)*c+j-c=i*c+j:=by rw[cc];omega
  rw[this,flat_get f c hf l i j (by simpa using hi) hj];simp
theorem UF{α:Type}(f:α->List Value)(c:Nat)(hf:∀x,(f x).length=c)(l:List α):(l.flatMap f).length=l.length*c:=by
 induction l with
 |nil=>simp
 |cons x l ih=>rw[ar,List.length_append,hf,ih,cQ,cc];omega
theorem bA{w:tW}{g:Nat}{cs:tAV}{e:TypeId}{k:Nat}{xs:List Value}(hb:aq w g cs e)(ht:cs.toList.take k=xs)(j:Nat)(hj:j<k):w.cell? ⟨g,j,none⟩=xs[j]?:=by rw[hb.cell j,<-ht,List.getElem?_take,iP9 hj];simp
theorem dO{α:Type}(f:α->List Value)(c:Nat)(hf:∀x,(f x).length=c):∀(l:List α) (k j:Nat) (hk:k<l.length) (_:j<c) (v:Value) (y:α) (_:(f l[k]).set j v=f y),(l.flatMap f).set (k*c+j) v=(l.set k y).flatMap f
 |x::l,0,j,_,hj,v,y,hy=>by have hl:=hf x;simp only[List.getElem_cons_zero]at hy;rw[ar,cD,ar,<-hy,Nat.zero_mul,Nat.zero_add,List.set_append,iP9 (by omega)]
 |x::l,k+1,j,hk,hj,v,y,hy=>by
  have hl:=hf x;have e:(k+1)*c+j=c+(k*c+j):=by rw[cc];omega
  rw[ar,cG,ar,<-dO f c hf l k j (by simpa using hk) hj v y (by simpa using hy),List.set_append,iN9 (by omega),e,hl,show c+(k*c+j)-c=k*c+j by omega]
theorem Sl.az{w:tW}{e e':TypeId}{size n k:Nat}{v:Value}{xs:List Value}{cs:tAV}(h:Sl w e size v n xs)(hb:aq w k cs e')(he:e≠e'):v.ownBlock≠some k:=by
 intro hk;rcases h.2 with⟨rfl,rfl⟩ |⟨g,cap,cur,rfl,_,hg,_⟩
 ·cases hk
 ·cases hk;unfold aq at hb;rw[hg]at hb;cases hb;exact he rfl
theorem Sl.apart{w:tW}{e e':TypeId}{size size' n n' k:Nat}{v v':Value}{xs xs':List Value}(h:Sl w e size v n xs)(h':Sl w e' size' v' n' xs')(he:e≠e')(hk:v.ownBlock=some k):v'.ownBlock≠some k:=by
 rcases h.2 with⟨rfl,rfl⟩ |⟨g,cap,cur,rfl,_,hg,_⟩
 ·cases hk
 ·cases hk;exact h'.az hg (Ne.symm he)
def ahI(l:tLB):Bool :=
 decide (l.length<=16)&&(match l with | []=>false|c::_=>di (c.toNat:Int))&&l.all (λc=>jd (c.toNat:Int))
theorem je{s:tBA}(h:0<s.size):s.toList.isEmpty=false:=by rw[ByteArray.toList_eq,List.isEmpty_eq_false_iff_exists_mem];exact⟨s.data[0]'h,by simp⟩
theorem iH{s:tBA}(h:s.size=0):s.toList.isEmpty=true:=by rw[ByteArray.toList_eq];have:s.data=#[]:=b9 h;simp[this]
theorem Ka{s:tBA}(h:0<s.size):ahI s.data.toList=(decide (s.size<=16)&&di (s[0].toNat:Int)&&s.data.toList.all (λc=>jd (c.toNat:Int))):=by
 have e:s.data.toList=s[0]::s.data.toList.tail:=by
  have:s.data.toList≠[]:=by intro h';have:=congrArg cJ h';simp at this;have h2:s.size=s.data.size:=rfl;rw[h2,this]at h;simp at h
  conv=>lhs;rw[<-List.cons_head_tail this]
  congr 1;rw[List.head_eq_getElem];rfl
 have hl:s.data.toList.length=s.size:=by simp
 unfold ahI;rw[hl]
 conv=>lhs;rw[e]
 conv=>rhs;rw[e]
theorem C8{s:tBA}(h:s.size=0):ahI s.data.toList=false:=by have:s.data=#[]:=b9 h;simp[this,ahI]
theorem Gg(s:tBA)(k:Nat)(h:k<s.size):s.data.toList.take (k+1)=s.data.toList.take k++[s[k]]:=by rw[List.take_succ_eq_append_getElem (by simpa using h)];rfl
theorem C9{s:tBA}{p:UInt8->Bool}{k:Nat}(h:k<s.size)(hp:p s[k]=false):s.data.toList.all p=false:=by rw[List.all_eq_false];exact⟨s[k],by rw[<-Array.mem_def];exact Array.getElem_mem h,by simp[hp]⟩
theorem fo{a b:Bool}(h:a=b):Ending.returned (.bool a)=.returned (.bool b):=by rw[h]
theorem Da(s:tBA)(w:tW)(hs:s.size<=maxLen):Calls prog 33 #[.string s] w λe w'=>e=.returned (.bool (ahI s.data.toList))/\w'=w:=by
 unfold maxLen at hs;by_cases h0:0<s.size
 ·have he:=je h0;have HN:ae (_=_):=Ka h0;by_cases h1:s.size<=16
  ·have hb:((s.size:Int)<=16):=by omega
   cases h2:di (s[0].toNat:Int)with
   |false =>go_enter func33,ntmps33;go_wp2_with (go_at_call 58;refine(qD _ _).mono ?_;rintro e w' ⟨rfl,rfl⟩);go_ret;exact⟨fo (by rw[HN.o,h2];simp),rfl⟩
   |true =>
    go_enter func33,ntmps33;go_wp2_with (go_at_call 58;refine(qD _ _).mono ?_;rintro e w' ⟨rfl,rfl⟩);go_loop [3] (λi=>∃k:Nat,k<=s.size/\i=.int .i64 k/\(s.data.toList.take k).all (λc=>jd (c.toNat:Int))=true) (λi=>s.size-(intOf i).toNat)
    case atStart=>exact⟨0,cb _,rfl,rfl⟩
    case round =>
     obtain⟨k,hk,rfl,hall⟩:=hrel;have HA:=ak hall;clear hall;by_cases hlt:k<s.size
     ·cases hp:jd (s[k].toNat:Int)with
      |false =>go_wp2_with (go_at_call 60;refine(yO _ _).mono ?_;rintro e w' ⟨rfl,rfl⟩);go_ret;exact⟨fo (by rw[HN.o,C9 hlt hp];simp),rfl⟩
      |true =>
       go_wp2_with (go_at_call 60;refine(yO _ _).mono ?_;rintro e w' ⟨rfl,rfl⟩);go_round
       case rel=>exact⟨k+1,by omega,by go_num,by rw[Gg s k hlt];simp[HA.o,hp]⟩
       case measure=>simp[intOf];omega
     ·go_wp2;go_ret;have ht:s.data.toList.take k=s.data.toList:=List.take_of_length_le (by simp;omega);exact⟨fo (by rw[HN.o,h2,<-ht,HA.o];simp[h1]),rfl⟩
  ·have hb:¬((s.size:Int)<=16):=by omega
   go_enter func33,ntmps33;go_wp2_with (go_at_call 58;refine(qD _ _).mono ?_;rintro e w' ⟨rfl,rfl⟩);go_ret;exact⟨fo (by rw[HN.o];simp[h1]),rfl⟩
 ·have he:=iH (s:=s) (by omega);have hz:ae (_=_):=C8 (s:=s) (by omega);go_enter func33,ntmps33;go_wp2;go_ret;exact⟨fo hz.o.symm,rfl⟩
def T(l:tLB):tBA:=⟨l.toArray⟩
def strs(l:List tBA):tAV:=(l.map Value.string).toArray
def gW:List tBA:=[T [109,111,118],T [97,100,100],T [115,117,98],T [109,117,108],T [100,105,118],T [109,111,100],T [97,110,100],T [111,114],T [120,111,114],T [108,115,104],T [114,115,104],T [97,115,104],T [110,101,103]]
theorem Bz(w:tW):Calls prog 67 #[] w λe w'=>e=.returned (.slice (some ⟨w.heap.size,0,none⟩) 13 13)/\aq w' w.heap.size (strs gW) 9/\aa af w w':=by go_enter func67,ntmps67;go_wp2;go_ret;exact⟨rfl,aq.new _ _ _,(aa.refl _ _).alloc _⟩
def fD:List tBA:=[T [106,97],T [106,101,113],T [106,110,101],T [106,103,116],T [106,103,101],T [106,108,116],T [106,108,101],T [106,115,103,116],T [106,115,103,101],T [106,115,108,116],T [106,115,108,101],T [106,115,101,116]]
def bO:List tBA:=[T [103,101,116],T [112,117,116],T [100,101,108],T [108,111,103]]
theorem yS(w:tW):Calls prog 68 #[] w λe w'=>e=.returned (.slice (some ⟨w.heap.size,0,none⟩) 12 12)/\aq w' w.heap.size (strs fD) 9/\aa af w w':=by go_enter func68,ntmps68;go_wp2;go_ret;exact⟨rfl,aq.new _ _ _,(aa.refl _ _).alloc _⟩
theorem BA(w:tW):Calls prog 42 #[] w λe w'=>e=.returned (.slice (some ⟨w.heap.size,0,none⟩) 4 4)/\aq w' w.heap.size (strs bO) 9/\aa af w w':=by go_enter func42,ntmps42;go_wp2;go_ret;exact⟨rfl,aq.new _ _ _,(aa.refl _ _).alloc _⟩
def ahH(s:tBA):List tBA->Int
 |[]=>-1
 |x::l=>if x=s then 0 else if ahH s l<0 then -1 else ahH s l+1
theorem Kb(l:List tBA)(k:Nat)(h:k<l.length):(strs l)[k]?=some (Value.string l[k]):=by simp[strs,h]
theorem kK(s:tBA):∀(l:List tBA),(∀j,(hj:j<l.length)->l[j]≠s)->ahH s l=-1
 |[],_=>rfl
 |x::l,h=>by have h0:x≠s:=h 0 (by simp);have ih:=kK s l (λj hj=>h (j+1) (by simp;omega));simp[ahH,h0,ih]
theorem og(s:tBA):∀(l:List tBA) (k:Nat) (hk:k<l.length),(∀j,(hj:j<l.length)->j<k->l[j]≠s)->l[k]=s->ahH s l=k
 |x::l,0,_,_,h=>by simp at h;simp[ahH,h]
 |x::l,k+1,hk,h,he=>by have h0:x≠s:=h 0 (by simp) (by omega);have ih:=og s l k (by simpa using hk) (λj hj hjk=>h (j+1) (by simp;omega) (by omega)) (by simpa using he);simp[ahH,h0,ih];omega
theorem toList_inj{a b:tBA}(h:a.toList=b.toList):a=b:=by rw[ByteArray.toList_eq,ByteArray.toList_eq]at h;cases a;cases b;simpa using h
theorem mV{a b:tBA}(h:a≠b):(a.toList==b.toList)=false:=by rw[beq_eq_false_iff_ne];exact λe=>h (toList_inj e)
theorem uM{a b:tBA}(h:a=b):(a.toList==b.toList)=true:=by simp[h]
theorem aV{a b:Int}(h:a=b):Ending.returned (.int .i64 a)=.returned (.int .i64 b):=by rw[h]
theorem vX(s:tBA)(b:Nat)(l:List tBA)(w:tW)(hl:l.length<=1000)(h:aq w b (strs l) 9):Calls prog 41 #[.string s,.slice (some ⟨b,0,none⟩) l.length l.length] w λe w'=>e=.returned (.int .i64 (ahH s l))/\w'=w:=by
 go_enter func41,ntmps41;go_wp2;go_loop [5] (λi=>∃k:Nat,k<=l.length/\i=.int .i64 k/\∀j,(hj:j<l.length)->j<k->l[j]≠s) (λi=>l.length-(intOf i).toNat)
 case atStart=>exact⟨0,cb _,rfl,λj _ h=>absurd h (Nat.not_lt_zero _)⟩
 case round =>
  obtain⟨k,hk,rfl,hn⟩:=hrel;have HN:ae _:=hn;clear hn;by_cases hlt:k<l.length
  ·have hc:=h.cell k;rw[Kb l k hlt]at hc;by_cases he:l[k]=s
   ·have hpl:=og s l k hlt (λj hj hjk=>HN.o j hj hjk) he;have HP:=ak hpl;clear hpl;go_wp2;go_ret;exact⟨aV HP.o.symm,rfl⟩
   ·have hb:=mV he;have HE:ae _:=he;clear he;go_wp2;go_round
    case rel=>exact⟨k+1,by omega,by go_num,λj hj hjk=>by
     by_cases e:j=k
     ·subst e;exact HE.o
     ·exact HN.o j hj (by omega)⟩
    case measure=>simp[intOf];omega
  ·have HP:ae (ahH s l=-1):=kK s l (λj hj=>HN.o j hj (by omega));go_wp2;go_ret;exact⟨aV HP.o.symm,rfl⟩
def BL(b:tBA):tLB:=b.data.toList
theorem UG(b:tBA):T (BL b)=b:=rfl
theorem UH(b:tBA):(BL b).length=b.size:=rfl
def jQ(s:tBA)(c:Int):Int :=
 if h:s.size=3 then
  if s.extract 0 2=(if c=115 then T [115,116]else T [108,100])/\((s[2].toNat:Int)=49\/(s[2].toNat:Int)=50\/(s[2].toNat:Int)=52\/(s[2].toNat:Int)=56)then(s[2].toNat:Int)-48 else 0
 else 0
theorem UI{s:tBA}{c:Int}(h:s.size≠3):jQ s c=0:=by simp[jQ,h]
theorem UJ{s:tBA}{c:Int}(h:s.size=3):jQ s c=(if s.extract 0 2=(if c=115 then T [115,116]else T [108,100])/\((s[2].toNat:Int)=49\/(s[2].toNat:Int)=50\/(s[2].toNat:Int)=52\/(s[2].toNat:Int)=56)then(s[2].toNat:Int)-48 else 0):=by unfold jQ;rw[dif_pos h]
theorem Ms(s:tBA)(c:Int)(w:tW)(hs:s.size<=maxLen)(hb:((s.size:Int) != 3)=false)(hgt:2<s.size)(H3:ae (s.size=3)):Calls prog 69 #[.string s,.int .u8 c] w λe w'=>e=.returned (.int .i64 (jQ s c))/\w'=w:=by
 unfold maxLen at hs;have hl:s[2].toNat<256:=(s[2]).toNat_lt;have HF:ae (_=_):=UJ (c:=c) H3.o;by_cases hc:c=115
 ·subst hc;by_cases hp:s.extract 0 2=T [115,116]
  ·have hp':((s.extract 0 2).toList==[115,116])=true:=by rw[hp];simp[T]
   have HP:ae _:=hp;clear hp;by_cases hn:(s[2].toNat:Int)=49\/(s[2].toNat:Int)=50\/(s[2].toNat:Int)=52\/(s[2].toNat:Int)=56
   ·have HV:ae (jQ s 115=(s[2].toNat:Int)-48):=by rw[ae,HF.o,iP9 ⟨by simp[HP.o],hn⟩]
    have hge:48<=(s[2].toNat:Int):=by omega
    rcases hn with hn|hn|hn|hn
    all_goals
     go_enter func69,ntmps69;go_wp2;go_ret;exact⟨aV (by rw[HV.o];omega),rfl⟩
   ·have HV:ae (jQ s 115=0):=by rw[ae,HF.o,iN9 (λe=>hn e.2)]
    have h1:((s[2].toNat:Int)-48==1)=false:=by simp;omega
    have h2:((s[2].toNat:Int)-48==2)=false:=by simp;omega
    have h3:((s[2].toNat:Int)-48==4)=false:=by simp;omega
    have h4:((s[2].toNat:Int)-48==8)=false:=by simp;omega
    clear hn;go_enter func69,ntmps69;go_wp2;go_ret;exact⟨aV HV.o.symm,rfl⟩
  ·have hp':((s.extract 0 2).toList==[115,116])=false:=by simpa [T]using mV hp
   have HV:ae (jQ s 115=0):=by rw[ae,HF.o,iN9 (λe=>hp (by simpa using e.1))]
   clear hp;go_enter func69,ntmps69;go_wp2;go_ret;exact⟨aV HV.o.symm,rfl⟩
 ·have hc':(c==115)=false:=by simp[hc]
  have HC:=ak hc;clear hc;by_cases hp:s.extract 0 2=T [108,100]
  ·have hp':((s.extract 0 2).toList==[108,100])=true:=by rw[hp];simp[T]
   have HP:ae _:=hp;clear hp;by_cases hn:(s[2].toNat:Int)=49\/(s[2].toNat:Int)=50\/(s[2].toNat:Int)=52\/(s[2].toNat:Int)=56
   ·have HV:ae (jQ s c=(s[2].toNat:Int)-48):=by rw[ae,HF.o,iP9 ⟨by rw[iN9 HC.o];exact HP.o,hn⟩]
    rcases hn with hn|hn|hn|hn
    all_goals
     go_enter func69,ntmps69;go_wp2;go_ret;exact⟨aV (by rw[HV.o];omega),rfl⟩
   ·have HV:ae (jQ s c=0):=by rw[ae,HF.o,iN9 (λe=>hn e.2)]
    have h1:((s[2].toNat:Int)-48==1)=false:=by simp;omega
    have h2:((s[2].toNat:Int)-48==2)=false:=by simp;omega
    have h3:((s[2].toNat:Int)-48==4)=false:=by simp;omega
    have h4:((s[2].toNat:Int)-48==8)=false:=by simp;omega
    clear hn;go_enter func69,ntmps69;go_wp2;go_ret;exact⟨aV HV.o.symm,rfl⟩
  ·have hp':((s.extract 0 2).toList==[108,100])=false:=by simpa [T]using mV hp
   have HV:ae (jQ s c=0):=by rw[ae,HF.o,iN9 (λe=>hp (by have:=e.1;rwa [iN9 HC.o]at this))]
   clear hp;go_enter func69,ntmps69;go_wp2;go_ret;exact⟨aV HV.o.symm,rfl⟩
theorem Kc(s:tBA)(c:Int)(w:tW)(hs:s.size<=maxLen):Calls prog 69 #[.string s,.int .u8 c] w λe w'=>e=.returned (.int .i64 (jQ s c))/\w'=w:=by
 by_cases h3:s.size=3
 ·exact Ms s c w hs (by simp;omega) (by omega) h3
 ·unfold maxLen at hs;have hb:((s.size:Int) != 3)=true:=by simp;omega
  have HF:ae (jQ s c=0):=UI h3;clear h3;go_enter func69,ntmps69;go_wp2;go_ret;exact⟨aV HF.o.symm,rfl⟩
def fM(s:tBA):tBA:=if 2<s.size/\s.extract (s.size-2) s.size=T [51,50]then s.extract 0 (s.size-2)else s
def aD(s:tBA):Int :=
 if 0<=ahH (fM s) gW then 114
 else if 0<=ahH s fD then 106
 else if 0<jQ s 108 then 108
 else if 0<jQ s 115 then 115
 else if s=T [119,105,100,101]then 119
 else if s=T [104,101,108,112]then 104
 else if s=T [99,97,108,108]then 99
 else if s=T [101,120,105,116]then 101
 else 0
theorem aa.of_nil{S:Nat->Prop}{w w':tW}(h:aa af w w'):aa S w w':=h.mono (λ_ _ e=>e.elim)
theorem rJ{a b:Int}(h:a=b):Ending.returned (.int .u8 a)=.returned (.int .u8 b):=by rw[h]
theorem xx(s:tBA)(b:Nat)(w:tW)(h:aq w b (strs gW) 9):Calls prog 41 #[.string s,.slice (some ⟨b,0,none⟩) 13 13] w λe w'=>e=.returned (.int .i64 (ahH s gW))/\w'=w :=
 vX s b gW w (by decide) h
theorem uN(s:tBA)(b:Nat)(w:tW)(h:aq w b (strs fD) 9):Calls prog 41 #[.string s,.slice (some ⟨b,0,none⟩) 12 12] w λe w'=>e=.returned (.int .i64 (ahH s fD))/\w'=w :=
 vX s b fD w (by decide) h
theorem EX(s:tBA)(b:Nat)(w:tW)(h:aq w b (strs bO) 9):Calls prog 41 #[.string s,.slice (some ⟨b,0,none⟩) 4 4] w λe w'=>e=.returned (.int .i64 (ahH s bO))/\w'=w :=
 vX s b bO w (by decide) h
theorem dK{a:tBA}{l:tLB}(h:a≠T l):(a.toList==l)=false:=by have:=mV h;simpa [T]using this
theorem dX{a:tBA}{l:tLB}(h:a=T l):(a.toList==l)=true:=by rw[h];simp[T]
theorem eG(s:tBA)(w:tW)(hs:s.size<=maxLen):Calls prog 38 #[.string s] w λe w'=>e=.returned (.int .u8 (aD s))/\aa af w w':=by
 have hs':=hs;unfold maxLen at hs';have HS:ae (_=_):=aD.eq_1 s;generalize hbs:fM s=base at HS
 have hcase:(2<s.size/\((s.extract (s.size-2) s.size).toList==[51,50])=true/\s.extract 0 (s.size-2)=base) \/
   (2<s.size/\((s.extract (s.size-2) s.size).toList==[51,50])=false/\s=base)\/(¬2<s.size/\s=base):=by
  subst hbs;unfold fM;by_cases h2:2<s.size
  ·by_cases h32:s.extract (s.size-2) s.size=T [51,50]
   ·exact .inl ⟨h2,dX h32,(iP9 ⟨h2,h32⟩).symm⟩
   ·exact .inr (.inl ⟨h2,dK h32,(iN9 (λe=>h32 e.2)).symm⟩)
  ·exact .inr (.inr ⟨h2,(iN9 (λe=>h2 e.1)).symm⟩)
 clear hbs;rcases hcase with⟨h2,hq,rfl⟩ |⟨h2,hq,rfl⟩ |⟨h2,rfl⟩
 all_goals
  go_enter func38,ntmps38;go_wp2_with fail;refine(Bz _).mono ?_;rintro e w1 ⟨rfl,b1,m1⟩;go_wp2_with fail;refine(xx _ _ _ b1).mono ?_;rintro e w2 ⟨rfl,rfl⟩;have HS2:=HS.o;clear HS;split at HS2
  ·rename_i t1
   have HV:=ak HS2;clear HS2;go_wp2;go_ret;exact⟨rJ HV.o.symm,m1⟩
  rename_i t1
  have HS:=ak HS2;clear HS2;go_wp2_with fail;refine(yS _).mono ?_;rintro e w3 ⟨rfl,b3,m3⟩;go_wp2_with fail;refine(uN _ _ _ b3).mono ?_;rintro e w4 ⟨rfl,rfl⟩;by_cases t2:0<=ahH s fD
  ·have HV:ae (aD s=106):=by rw[ae,HS.o,iP9 t2]
   go_wp2;go_ret;exact⟨rJ HV.o.symm,m1.trans m3⟩
  rw[iN9 t2]at HS;go_wp2_with fail;refine(Kc _ _ _ hs).mono ?_;rintro e w5 ⟨rfl,rfl⟩;by_cases t3:0<jQ s 108
  ·have HV:ae (aD s=108):=by rw[ae,HS.o,iP9 t3]
   go_wp2;go_ret;exact⟨rJ HV.o.symm,m1.trans m3⟩
  rw[iN9 t3]at HS;go_wp2_with fail;refine(Kc _ _ _ hs).mono ?_;rintro e w6 ⟨rfl,rfl⟩;by_cases t4:0<jQ s 115
  ·have HV:ae (aD s=115):=by rw[ae,HS.o,iP9 t4]
   go_wp2;go_ret;exact⟨rJ HV.o.symm,m1.trans m3⟩
  rw[iN9 t4]at HS;by_cases t5:s=T [119,105,100,101]
  ·have q5:=dX t5;have HV:ae (aD s=119):=by rw[ae,HS.o,iP9 t5]
   clear t5;go_wp2;go_ret;exact⟨rJ HV.o.symm,m1.trans m3⟩
  have q5:=dK t5;rw[iN9 t5]at HS;clear t5;by_cases t6:s=T [104,101,108,112]
  ·have q6:=dX t6;have HV:ae (aD s=104):=by rw[ae,HS.o,iP9 t6]
   clear t6;go_wp2;go_ret;exact⟨rJ HV.o.symm,m1.trans m3⟩
  have q6:=dK t6;rw[iN9 t6]at HS;clear t6;by_cases t7:s=T [99,97,108,108]
  ·have q7:=dX t7;have HV:ae (aD s=99):=by rw[ae,HS.o,iP9 t7]
   clear t7;go_wp2;go_ret;exact⟨rJ HV.o.symm,m1.trans m3⟩
  have q7:=dK t7;rw[iN9 t7]at HS;clear t7;by_cases t8:s=T [101,120,105,116]
  ·have q8:=dX t8;have HV:ae (aD s=101):=by rw[ae,HS.o,iP9 t8]
   clear t8;go_wp2;go_ret;exact⟨rJ HV.o.symm,m1.trans m3⟩
  have q8:=dK t8;rw[iN9 t8]at HS;clear t8;go_wp2;go_ret;exact⟨rJ HS.o.symm,m1.trans m3⟩
theorem UK{a b:tBA}(h:a≠b):(a==b)=false:=by
 cases c:(a==b)with
 |false=>rfl
 |true=>exact absurd ((MapKept.bytes_beq a b).1 c) h
theorem yT(a:tBA):(a==a)=true:=(MapKept.bytes_beq a a).2 rfl
def ah3(s:tBA):List (tBA×Value)->Nat->Option (Nat×Value)
 |[],_=>none
 |(k,v)::l,i=>if s==k then some (i,v)else ah3 s l (i+1)
def Mt(e:MapEntry):Value×Value:=(e.key,e.val)
def kvC(p:tBA×Value):Value×Value:=(.string p.1,p.2)
theorem mI(s:tBA):∀(l:List MapEntry) (kv:List (tBA×Value)) (i:Nat),l.map Mt=kv.map kvC->Instr.findNow .string (.string s) l i=some (ah3 s kv i)
 |[],[],_,_=>rfl
 |[],_::_,_,h=>by simp at h
 |_::_,[],_,h=>by simp at h
 |e::l,(k,v)::kv,i,h=>by
  rw[cx,cx]at h;injection h with h1 h2;injection h1 with h3 h4;unfold Instr.findNow ah3;rw[h3];simp only[Instr.sameNow];by_cases c:(s==k)=true
  ·rw[c];simp only[if_true];rw[h4]
  ·have c':(s==k)=false:=by simpa using c
   rw[c'];simp only[ao,if_false];exact mI s l kv (i+1) h2
theorem rM(s:tBA):∀(kv:List (tBA×Value)) (i:Nat),(ah3 s kv i).map (·.2)=(kv.find? (λp=>s==p.1)).map (·.2)
 |[],_=>rfl
 |(k,v)::kv,i=>by
  unfold ah3;rw[List.find?_cons];by_cases c:(s==k)=true
  ·simp[c]
  ·have c':(s==k)=false:=by simpa using c
   simp only[c',ao,if_false];exact rM s kv (i+1)
def MapOf(w:tW)(b:Nat)(f:tBA->Option Value):Prop:=∃(es:Array MapEntry) (clock:Nat) (kv:List (tBA×Value)),w.heap[b]?=some (.map es clock)/\es.toList.map Mt=kv.map kvC/\∀s,(kv.find? (λp=>s==p.1)).map (·.2)=f s
theorem MapOf.lt{w:tW}{b:Nat}{f:tBA->Option Value}(h:MapOf w b f):b<w.heap.size:=by obtain⟨_,_,_,hb,_⟩:=h;exact(Array.getElem?_eq_some_iff.1 hb).1
theorem MapOf.ah{w w':tW}{b:Nat}{f:tBA->Option Value}{S:Nat->Prop}(h:MapOf w b f)(m:aa S w w')(hS:¬S b):MapOf w' b f:=by have hl:=h.lt;obtain⟨es,clock,kv,hb,h2⟩:=h;exact⟨es,clock,kv,(m.block b hl hS).trans hb,h2⟩
theorem MapOf.az{w:tW}{b g:Nat}{f:tBA->Option Value}{cs:tAV}{t:TypeId}(h:MapOf w b f)(hb:aq w g cs t):g≠b:=by intro e;subst e;obtain⟨_,_,_,h1,_⟩:=h;have:w.heap[g]?=some (.cells cs t (0,0)):=hb;rw[h1]at this;cases this
theorem MapOf.lookup{P:Program}{w:tW}{b:Nat}{f:tBA->Option Value}(h:MapOf w b f){t kt et:TypeId}(hm:P.underlying t=some (.map kt et))(hk:P.underlying kt=some .string){z:Value}(hz:(zeroValue et).run P w=.ok z w)(s:tBA):(Instr.lookup t (.map (some b)) (.string s) true).run P w=.ok (.tuple #[(f s).getD z,.bool (f s).isSome]) w:=by
 obtain⟨es,clock,kv,hb,he,hf⟩:=h;have hc:(Instr.checkKey es.isEmpty 10000 kt (.string s)).run P w=.ok () w:=MapKept.run_checkKey (k:=.string s) hk (by simp[MapKept.IsKey]) _ 9999;have hfn:=MapKept.run_findKey (P:=P) (w:=w) hk (mI s es.toList kv 0 he);have hv:=rM s kv 0;rw[hf s]at hv;unfold Instr.lookup;simp only[Sem.run_bind,run_underlying hm,MapKept.run_getObj_map hb,hc,hfn,Result.andThen,Sem.run_pure];cases hq:ah3 s kv 0 with
 |none =>rw[hq]at hv;rw[<-hv];simp[hz,Result.andThen]
 |some q =>rw[hq]at hv;rw[<-hv];simp
theorem Aw(s:tBA):∀(kv:List (tBA×Value)) (i j:Nat) (v:Value),ah3 s kv i=some (j,v)->∃n,j=i+n/\n<kv.length/\(∃v',kv[n]?=some (s,v'))/\∀u s',((kv.set n (s,u)).find? (λp=>s'==p.1)).map (·.2)=if s'=s then some u else(kv.find? (λp=>s'==p.1)).map (·.2)
 |[],_,_,_,h=>by simp[ah3]at h
 |(k,w)::kv,i,j,v,h=>by
  unfold ah3 at h;by_cases c:(s==k)=true
  ·rw[iP9 c]at h;cases h;have e:s=k:=(MapKept.bytes_beq s k).1 c;subst e;refine⟨0,rfl,by simp,⟨w,rfl⟩,λu s'=>?_⟩;rw[cD,List.find?_cons,List.find?_cons];by_cases d:s'=s
   ·subst d;simp[yT]
   ·have d':(s'==s)=false:=UK d;simp only[d',iN9 d]
  ·rw[iN9 c]at h;obtain⟨n,e,hn,⟨v',hv'⟩,hs⟩:=Aw s kv (i+1) j v h;refine⟨n+1,by omega,by simpa using hn,⟨v',by simpa using hv'⟩,λu s'=>?_⟩;rw[cG,List.find?_cons,List.find?_cons];by_cases d:(s'==k)=true
   ·have e:s'=k:=(MapKept.bytes_beq s' k).1 d;subst e;have:s'≠s:=λe=>c (by rw[e];exact yT _);simp[this,yT]
   ·have d':(s'==k)=false:=by simpa using d
    simp only[d'];exact hs u s'
theorem uO(s:tBA):∀(kv:List (tBA×Value)) (i:Nat),ah3 s kv i=none->kv.find? (λp=>s==p.1)=none
 |[],_,_=>rfl
 |(k,w)::kv,i,h=>by
  unfold ah3 at h;by_cases c:(s==k)=true
  ·rw[iP9 c]at h;cases h
  ·rw[iN9 c]at h;have c':(s==k)=false:=by simpa using c
   rw[List.find?_cons];simp only[c'];exact uO s kv (i+1) h
theorem MapOf.update{P:Program}{w:tW}{b:Nat}{f:tBA->Option Value}(h:MapOf w b f){t kt et:TypeId}(hm:P.underlying t=some (.map kt et))(hk:P.underlying kt=some .string)(s:tBA)(u:Value):∃w',(Instr.mapUpdate t (.map (some b)) (.string s) u).run P w=.ok () w'/\MapOf w' b (λs'=>if s'=s then some u else f s')/\aa (λk=>k=b) w w':=by
 obtain⟨es,clock,kv,hb,he,hf⟩:=h;have hlt:=(Array.getElem?_eq_some_iff.1 hb).1;have hc:(Instr.checkKey false 10000 kt (.string s)).run P w=.ok () w:=MapKept.run_checkKey (k:=.string s) hk (by simp[MapKept.IsKey]) _ 9999;have hfn:=MapKept.run_findKey (P:=P) (w:=w) hk (mI s es.toList kv 0 he);have Ke:∀o:Obj,aa (λk=>k=b) w {w with heap:=w.heap.setIfInBounds b o}:=λo=>⟨rfl,rfl,rfl,by simp,λk _ hn=>(MapKept.heap_set hb).2 k hn⟩
 cases hq:ah3 s kv 0 with
 |none =>
  rw[hq]at hfn;refine⟨{w with heap:=w.heap.setIfInBounds b (.map (es.push {key:=.string s,val:=u,born:=clock}) (clock+1))},?_,⟨_,_,kv++[(s,u)],(MapKept.heap_set hb).1,?_,λs'=>?_⟩,Ke _⟩
  ·unfold Instr.mapUpdate;simp[run_underlying hm,MapKept.run_getObj_map hb,hc,hfn,MapKept.run_setObj_map _ hb,Result.andThen]
  ·simp[he,Mt,kvC]
  ·have hn:=uO s kv 0 hq;rw[List.find?_append];by_cases d:s'=s
   ·subst d;rw[hn];simp[yT]
   ·have d':(s'==s)=false:=UK d;show _=if s'=s then some u else f s'
    rw[iN9 d,<-hf s'];cases kv.find? (λp=>s'==p.1)with
    |none=>simp[d']
    |some q=>simp
 |some q =>
  obtain⟨j,v⟩:=q;rw[hq]at hfn;obtain⟨n,e,hn,⟨v',hv'⟩,hs⟩:=Aw s kv 0 j v hq;rw[Nat.zero_add]at e;subst e;have hjl:j<es.size:=by have:=congrArg cJ he;simp at this;omega
  have hej:Mt es[j]=kvC (s,v'):=by
   have:=congrArg (λl:List (Value×Value)=>l[j]?) he;simp only[List.getElem?_map,hv',cS]at this;rw[Array.getElem?_toList,Array.getElem?_eq_getElem hjl]at this
   simpa using this
  have hkey:es[j].key=.string s:=congrArg Prod.fst hej;have hst:(Instr.keyThatStays (((es[j]?).map (·.key)).getD (.string s)) (.string s)).run P w=.ok (.string s) w:=by rw[Array.getElem?_eq_getElem hjl,cS,Option.getD_some,hkey];exact MapKept.run_keyThatStays (d:=.string) (by simp[MapKept.IsKey])
  refine⟨{w with heap:=w.heap.setIfInBounds b (.map (es.modify j λe=>{e with key:=.string s,val:=u}) clock)},?_,⟨_,_,kv.set j (s,u),(MapKept.heap_set hb).1,?_,λs'=>?_⟩,Ke _⟩
  ·unfold Instr.mapUpdate;simp[run_underlying hm,MapKept.run_getObj_map hb,hc,hfn,hst,MapKept.run_setObj_map _ hb,Result.andThen]
  ·rw[List.map_set,<-he];refine List.ext_getElem (by simp) λt h1 h2=>?_;simp only[List.getElem_map,Array.getElem_toList,Array.getElem_modify,List.getElem_set];split
   ·rfl
   ·rfl
  ·rw[hs u s',hf s']
def ahJ(nm:tBA):List (tBA×Int)->Int
 |[]=>-1
 |(l,p)::ls=>if l=nm then p else ahJ nm ls
def Db(l:List tBA):List Value:=l.map Value.string
def jf(l:List Int):List Value:=l.map (Value.int .i64)
theorem Kf(nm:tBA)(l:List (tBA×Int))(k:Nat)(h:k<l.length):ahJ nm (l.drop k)=if l[k].1=nm then l[k].2 else ahJ nm (l.drop (k+1)):=by rw[List.drop_eq_getElem_cons h];rfl
theorem Sl.at{w:tW}{e:TypeId}{v:Value}{n:Nat}{xs:List Value}{o:Option Addr}{cap:Nat}(h:Sl w e 1 v n xs)(hv:v=.slice o n cap):∀k,k<n->∃g,o=some ⟨g,0,none⟩/\∀j,j<n->w.cell? ⟨g,j,none⟩=xs[j]?:=by intro k hk;obtain⟨o',cap',rfl,h2⟩:=h.view;cases hv;obtain⟨g,cs,rfl,hb,ht,_⟩:=h2 (by omega);exact⟨g,rfl,λj hj=>bA hb ht j (by omega)⟩
structure bz where
 name:tBA
 key:Int
 value:Int
 entries:Int
def bz.cells(m:bz):List Value:=[.string m.name,.int .i64 m.key,.int .i64 m.value,.int .i64 m.entries]
theorem bz.jB(m:bz):m.cells.length=4:=rfl
theorem Sl.at4{w:tW}{e:TypeId}{v:Value}{n:Nat}{ms:List bz}{o:Option Addr}{cap:Nat}(h:Sl w e 4 v n (ms.flatMap bz.cells))(hn:n=ms.length)(hv:v=.slice o n cap):∀k (_:k<ms.length),∃g,o=some ⟨g,0,none⟩/\∀j (hj:j<ms.length),w.cell? ⟨g,j*4,none⟩=some (.string ms[j].name)/\w.cell? ⟨g,j*4+1,none⟩=some (.int .i64 ms[j].key)/\w.cell? ⟨g,j*4+2,none⟩=some (.int .i64 ms[j].value)/\w.cell? ⟨g,j*4+3,none⟩=some (.int .i64 ms[j].entries):=by
 intro k hk;obtain⟨o',cap',rfl,h2⟩:=h.view;cases hv;obtain⟨g,cs,rfl,hb,ht,_⟩:=h2 (by omega);subst hn;refine⟨g,rfl,λj hj=>⟨?_,?_,?_,?_⟩⟩
 ·rw[bA hb ht _ (by omega)];exact flat_get bz.cells 4 bz.jB ms j 0 hj (by omega)
 ·rw[bA hb ht _ (by omega)];exact flat_get bz.cells 4 bz.jB ms j 1 hj (by omega)
 ·rw[bA hb ht _ (by omega)];exact flat_get bz.cells 4 bz.jB ms j 2 hj (by omega)
 ·rw[bA hb ht _ (by omega)];exact flat_get bz.cells 4 bz.jB ms j 3 hj (by omega)
theorem xM(fb off:Nat)(nm:tBA)(ls:List (tBA×Int))(vL vP:Value)(w:tW)(h4:w.cell? ⟨fb,off+4,none⟩=some vL)(h5:w.cell? ⟨fb,off+5,none⟩=some vP)(sL:Sl w 9 1 vL ls.length (Db (ls.map (·.1)))) (sP:Sl w 3 1 vP ls.length (jf (ls.map (·.2)))) (hb:ls.length<=1000000):Calls prog 14 #[.pointer (some ⟨fb,off,none⟩),.string nm] w λe w'=>e=.returned (.int .i64 (ahJ nm ls))/\w'=w:=by
 obtain⟨oL,cL,rfl,_⟩:=sL.view;obtain⟨oP,cP,rfl,_⟩:=sP.view;go_enter func14,ntmps14;go_wp2;go_loop [5] (λi=>∃k:Nat,k<=ls.length/\i=.int .i64 k/\ahJ nm (ls.drop k)=ahJ nm ls) (λi=>ls.length-(intOf i).toNat)
 case atStart=>exact⟨0,cb _,rfl,by simp⟩
 case round =>
  obtain⟨k,hk,rfl,hn⟩:=hrel;have HN:ae _:=hn;clear hn;by_cases hlt:k<ls.length
  ·obtain⟨gL,rfl,cellL⟩:=sL.at rfl k hlt;obtain⟨gP,rfl,abl⟩:=sP.at rfl k hlt;have c1:w.cell? ⟨gL,k,none⟩=some (.string ls[k].1):=by rw[cellL k hlt];simp[Db,hlt]
   have c2:w.cell? ⟨gP,k,none⟩=some (.int .i64 ls[k].2):=by rw[abl k hlt];simp[jf,hlt]
   clear cellL abl;have HD:ae (_=_):=Kf nm ls k hlt;by_cases he:ls[k].1=nm
   ·have q:=uM he;have HP:ae (ahJ nm ls=ls[k].2):=by rw[ae,<-HN.o,HD.o,iP9 he]
    clear he;go_wp2;go_ret;exact⟨aV HP.o.symm,rfl⟩
   ·have q:=mV he;have HP:ae (ahJ nm (ls.drop (k+1))=ahJ nm ls):=by rw[ae,<-HN.o,HD.o,iN9 he]
    clear he;go_wp2;go_round
    case rel=>exact⟨k+1,by omega,by go_num,HP.o⟩
    case measure=>simp[intOf];omega
  ·have HP:ae (ahJ nm ls=-1):=by rw[ae,<-HN.o,List.drop_eq_nil_of_le (by omega)];rfl
   go_wp2;go_ret;exact⟨aV HP.o.symm,rfl⟩
theorem Dc(pb:Nat)(nm:tBA)(ms:List bz)(vM:Value)(w:tW)(h0:w.cell? ⟨pb,0,none⟩=some vM)(sM:Sl w 64 4 vM ms.length (ms.flatMap bz.cells)) (hb:ms.length<=1000000):Calls prog 21 #[.pointer (some ⟨pb,0,none⟩),.string nm] w λe w'=>e=.returned (.int .i64 (ahH nm (ms.map (·.name))))/\w'=w:=by
 obtain⟨oM,cM,rfl,_⟩:=sM.view;go_enter func21,ntmps21;go_wp2;go_loop [5] (λi=>∃k:Nat,k<=ms.length/\i=.int .i64 k/\∀j,(hj:j<ms.length)->j<k->ms[j].name≠nm) (λi=>ms.length-(intOf i).toNat)
 case atStart=>exact⟨0,cb _,rfl,λj _ h=>absurd h (Nat.not_lt_zero _)⟩
 case round =>
  obtain⟨k,hk,rfl,hn⟩:=hrel;have HN:ae _:=hn;clear hn;by_cases hlt:k<ms.length
  ·obtain⟨g,rfl,cells⟩:=sM.at4 rfl rfl k hlt;obtain⟨c0,_,_,_⟩:=cells k hlt;clear cells;by_cases he:ms[k].name=nm
   ·have HP:ae (_=_):=og nm (ms.map (·.name)) k (by simpa using hlt) (λj hj hjk=>by simpa using HN.o j (by simpa using hj) hjk) (by simpa using he);have q:=uM he;clear he;go_wp2;go_ret;exact⟨aV HP.o.symm,rfl⟩
   ·have q:=mV he;have HE:ae _:=he;clear he;go_wp2;go_round
    case rel=>exact⟨k+1,by omega,by go_num,λj hj hjk=>by
     by_cases e:j=k
     ·subst e;exact HE.o
     ·exact HN.o j hj (by omega)⟩
    case measure=>simp[intOf];omega
  ·have HP:ae (ahH nm (ms.map (·.name))=-1):=by
    refine kK nm _ (λj hj=>?_);have hj':j<ms.length:=by simpa using hj
    simpa using HN.o j hj' (by omega)
   go_wp2;go_ret;exact⟨aV HP.o.symm,rfl⟩
theorem bZ(l:tLB):(T l).size=l.length:=by simp[T,ByteArray.size]
theorem jR(l m:tLB):T l++T m=T (l++m):=by apply ByteArray.ext;simp[T]
def xN(c base:Int):Int:=if 48<=c/\c<=57 then c-48 else if base=16/\97<=c/\c<=102 then c-87 else -1
theorem Gh(c base:Int)(w:tW)(hc:0<=c/\c<=255):Calls prog 124 #[.int .u8 c,.int .i64 base] w λe w'=>e=.returned (.int .i64 (xN c base))/\w'=w:=by
 by_cases h1:48<=c<;>by_cases h2:c<=57<;>by_cases hb:base=16<;>by_cases h3:97<=c<;>by_cases h4:c<=102
 all_goals
  first
  |(exfalso;omega)
  |(go_enter func124,ntmps124
    go_wp2;go_ret;exact⟨aV (by unfold xN;(repeat' split)<;>omega),rfl⟩)
structure aA where
 v:Nat
 minus:Bool
def aA.cells(n:aA):tAV:=#[.int .u64 ((n.v%18446744073709551616:Nat):Int),.bool (decide (18446744073709551616<=n.v)),.bool n.minus]
def aA.within(n:aA)(low high:Nat):Bool:=if 18446744073709551616<=n.v then false else if n.minus then decide (n.v<=low)else decide (n.v<=high)
def aA.bits(n:aA):Int:=if n.minus then(-(n.v:Int))%18446744073709551616 else((n.v%18446744073709551616:Nat):Int)
theorem Mv(n:aA)(low high:Nat)(w:tW)(hl:low<18446744073709551616)(hh:high<18446744073709551616):Calls prog 36 #[.agg n.cells,.int .u64 low,.int .u64 high] w λe w'=>e=.returned (.bool (n.within low high))/\aa af w w':=by
 obtain⟨v,mi⟩:=n;unfold aA.cells aA.within;dsimp only;by_cases hb:18446744073709551616<=v
 ·rw[decide_eq_true hb,iP9 hb];generalize((v%18446744073709551616:Nat):Int)=u;go_enter func36,ntmps36;go_wp2_with fail;go_ret;exact⟨rfl,(aa.refl _ _).alloc _⟩
 ·have hv:v%18446744073709551616=v:=Nat.mod_eq_of_lt (by omega);rw[decide_eq_false hb,iN9 hb,hv];cases mi with
  |true =>go_enter func36,ntmps36;go_wp2_with fail;go_ret;exact⟨fo (by simp),(aa.refl _ _).alloc _⟩
  |false =>go_enter func36,ntmps36;go_wp2_with fail;go_ret;exact⟨fo (by simp),(aa.refl _ _).alloc _⟩
theorem Q4(n:aA)(w:tW):Calls prog 39 #[.agg n.cells] w λe w'=>e=.returned (.int .u64 n.bits)/\aa af w w':=by
 obtain⟨v,mi⟩:=n;unfold aA.cells aA.bits;dsimp only;generalize decide (18446744073709551616<=v)=bg;cases mi with
 |true =>
  go_enter func39,ntmps39;go_wp2_with fail;go_ret;refine⟨?_,(aa.refl _ _).alloc _⟩;show Ending.returned (.int .u64 (IntKind.u64.wrap (-((v:Int)%18446744073709551616))))=_
  rw[show IntKind.u64.wrap (-((v:Int)%18446744073709551616))=-(v:Int)%18446744073709551616 by rw[show ∀x:Int,IntKind.u64.wrap x=x%18446744073709551616 from λx=>by simp[IntKind.wrap,IntKind.signed,IntKind.bits]];omega]
 |false =>go_enter func39,ntmps39;go_wp2_with fail;go_ret;exact⟨rfl,(aa.refl _ _).alloc _⟩
structure iw where
 op:Value
 d:Nat
 s:Nat
 jump:Int
 num:Int
 high:Int
 label:tBA
 name:tBA
def iw.cells(x:iw):tAV:=#[x.op,.int .u8 x.d,.int .u8 x.s,.int .i16 x.jump,.int .i32 x.num,.int .i32 x.high,.string x.label,.string x.name]
def iw.dG(x:iw):List Value:=[x.op,.int .u8 x.d,.int .u8 x.s,.int .i16 x.jump,.int .i32 x.num,.int .i32 x.high,.string x.label,.string x.name]
structure iw.Fit(x:iw):Prop where
 d:x.d<=15
 s:x.s<=15
 j0:-32768<=x.jump
 j1:x.jump<=32767
 n0:-2147483648<=x.num
 n1:x.num<=2147483647
 h0:-2147483648<=x.high
 h1:x.high<=2147483647
 l:x.label.size<=100
 m:x.name.size<=300
def iw.wide(x:iw):Nat:=(x.high%4294967296).toNat*4294967296+(x.num%4294967296).toNat
abbrev PK:=Nat
abbrev PK.comma:PK:=(0:Nat)
abbrev PK.opens:PK:=(1:Nat)
abbrev PK.shut:PK:=(2:Nat)
abbrev PK.result:PK:=(3:Nat)
abbrev PK.operand:PK:=(4:Nat)
abbrev PK.source:PK:=(5:Nat)
abbrev PK.number:PK:=(6:Nat)
abbrev PK.label:PK:=(7:Nat)
abbrev PK.offset:PK:=(8:Nat)
abbrev PK.wide:PK:=(9:Nat)
def PK.fills(p:PK):Nat :=
 match (p:Nat)with
 |0=>0
 |1=>0
 |2=>0
 |3=>1
 |4=>1
 |5=>2
 |6=>8
 |7=>4
 |8=>4
 |9=>10
 |_=>0
def abD(n:Nat):tLB:=114::ca (n:Int)
def aea(j:Int):tLB:=if 0<j then 43::ca j else if j<0 then ca j else []
def bT(x:iw):tLB:=if x.s=1 then [109,97,112,32]++BL x.name else Lib.decDigits x.wide
def PK.write(x:iw)(p:PK):tLB :=
 match (p:Nat)with
 |0=>[44,32]
 |1=>[91]
 |2=>[93]
 |3=>abD x.d
 |4=>abD x.d
 |5=>abD x.s
 |6=>ca x.num
 |7=>BL x.label
 |8=>aea x.jump
 |9=>bT x
 |_=>[]
def PK.right(x:iw)(p:PK):Bool :=
 match (p:Nat)with
 |0=>true
 |1=>true
 |2=>true
 |3=>decide (x.d<10)
 |4=>decide (x.d<=10)
 |5=>decide (x.s<=10)
 |6=>true
 |7=>true
 |8=>true
 |9=>decide (x.s=0)||(decide (x.s=1)&&decide (x.high=0))
 |_=>true
def dA(x:iw)(f:Nat):Bool :=
 (decide (f%2≠0)||decide (x.d=0))&&(decide (f &&& 2≠0)||decide (x.s=0))&&(decide (f &&& 4≠0)||decide (x.jump=0))&&(decide (f &&& 8≠0)||decide (x.num=0))
def dZ(ps:List PK):Nat:=ps.foldl (λf p=>f ||| p.fills) 0
structure eQ where
 code:Nat
 word:tLB
 parts:List PK
 slots:Nat
 jumps:Bool
 ends:Bool
 aX:Nat
 call:Bool
def iC(code:Nat)(word:tLB)(parts:List PK):eQ:=⟨code,word,parts,1,false,false,0,false⟩
def jg:List tLB:=[[103,101,116],[112,117,116],[100,101,108],[108,111,103]]
def eQ.write(o:eQ)(x:iw):tLB :=
 if o.call then(if x.s=1 then [99,97,108,108,32]++BL x.name else [104,101,108,112,32]++jg[(x.num-1).toNat]?.getD [])
 else o.word++(if o.parts=[]then []else [32])++o.parts.flatMap (PK.write x)
def eQ.needs(o:eQ)(x:iw):Bool :=
 if o.call then dA x 10&&(decide (x.s=1)||(decide (x.s=0)&&decide (1<=x.num)&&decide (x.num<5)))
 else o.parts.all (PK.right x)&&dA x (dZ o.parts)
def w32(l:tLB):tLB:=l++[51,50]
def lJ:List PK:=[.result,.comma,.source]
def lK:List PK:=[.result,.comma,.number]
def kr:List tLB:=[[109,111,118],[97,100,100],[115,117,98],[109,117,108],[100,105,118],[109,111,100],[97,110,100],[111,114],[120,111,114],[108,115,104],[114,115,104],[97,115,104]]
def CL(n:Nat)(w:tLB):List eQ:=[iC (1+n) w lJ,iC (17+n) (w32 w) lJ,iC (33+n) w lK,iC (49+n) (w32 w) lK]
def Mu:List eQ:=(kr.zipIdx.flatMap λx=>CL x.2 x.1)++[iC 13 [110,101,103] [.result],iC 29 [110,101,103,51,50] [.result]]
def oH:List PK:=[.operand,.comma,.source,.comma,.label]
def oI:List PK:=[.operand,.comma,.number,.comma,.label]
def pV:List tLB:=[[106,101,113],[106,110,101],[106,103,116],[106,103,101],[106,108,116],[106,108,101],[106,115,103,116],[106,115,103,101],[106,115,108,116],[106,115,108,101],[106,115,101,116]]
def Ie(n:Nat)(w:tLB):List eQ:=[iC (65+n) w oH,iC (97+n) w oI]
def abE:List eQ:={iC 64 [106,97] [.label]with ends:=true}::(pV.zipIdx.flatMap λx=>Ie x.2 x.1)
def Qb:List eQ:=abE.map λo=>{o with jumps:=true}
def lQ:List PK:=[.result,.comma,.opens,.source,.offset,.shut]
def jC:List PK:=[.opens,.operand,.offset,.shut,.comma,.source]
def gX:List PK:=[.opens,.operand,.offset,.shut,.comma,.number]
def qE:List tLB:=[[49],[50],[52],[56]]
def Qc(n:Nat)(w:tLB):List eQ:=[iC (128+n) ([108,100]++w) lQ,iC (132+n) ([115,116]++w) jC,iC (136+n) ([115,116]++w) gX]
def abF:List eQ:=qE.zipIdx.flatMap λx=>Qc x.2 x.1
def Ig:List eQ:=[{iC 192 [119,105,100,101] [.result,.comma,.wide]with slots:=2,aX:=2},⟨193,[],[],1,false,false,1,true⟩,{iC 194 [101,120,105,116] []with ends:=true}]
def ax:List eQ:=Mu++Qb++abF++Ig
theorem rO:ax.length=88:=by decide
def Env (w : World) : Prop := Lib.TabIs prog w "internal/strconv.uint64pow10" .u64 Lib.pow10Tab
theorem aa.below{w w':tW}(m:aa af w w'):Below w.heap.size w w':=⟨m.os,m.tape,m.output,m.size,λk hk=>m.block k hk id⟩
theorem Env.ah{w w':tW}(h:Env w)(m:aa af w w'):Env w':=Lib.tabBelow_of_tabIs h w' m.below
theorem aa.grow(w:tW)(k:Nat)(os:Array Obj):aa af w (Sort.grow (w.drewN k) os) :=
 ⟨rfl,rfl,rfl,by simp[World.drewN],λi hi _=>Sort.heap_grow_old (w.drewN k) os (by simpa [World.drewN]using hi)⟩
theorem UL(n:Int)(h0:-9223372036854775808<=n)(h1:n<=9223372036854775807)(w:tW)(hE:Env w):Calls prog 146 #[.int .i64 n] w λe w'=>e=.returned (.string (T (ca n)))/\aa af w w' :=
 (Any.strconv_Itoa li n h0 h1 w hE).mono λ_ _ ⟨he,k,os,hw⟩=>⟨he,hw ▸ aa.grow w k os⟩
theorem UM(n:Int)(h0:-9223372036854775808<=n)(h1:n<=9223372036854775807):(ca n).length<=21:=Lib.itoa_length_le n h0 h1
theorem UN(x:iw)(hx:x.Fit)(w:tW):Calls prog 142 #[.agg x.cells] w λe w'=>e=.returned (.bool (PK.source.right x))/\aa af w w':=by obtain⟨op,d,s,jump,num,high,label,name⟩:=x;have hs:=hx.s;clear hx;unfold iw.cells at *;simp only[PK.right]at *;go_enter func142,ntmps142;go_wp2_with fail;go_ret;exact⟨by simp;omega,(aa.refl _ _).alloc _⟩
theorem UO(x:iw)(hx:x.Fit)(w:tW):Calls prog 177 #[.agg x.cells] w λe w'=>e=.returned (.bool (PK.operand.right x))/\aa af w w':=by obtain⟨op,d,s,jump,num,high,label,name⟩:=x;have hs:=hx.d;clear hx;unfold iw.cells at *;simp only[PK.right]at *;go_enter func177,ntmps177;go_wp2_with fail;go_ret;exact⟨by simp;omega,(aa.refl _ _).alloc _⟩
theorem UQ(x:iw)(hx:x.Fit)(w:tW):Calls prog 136 #[.agg x.cells] w λe w'=>e=.returned (.bool (PK.result.right x))/\aa af w w':=by obtain⟨op,d,s,jump,num,high,label,name⟩:=x;have hs:=hx.d;clear hx;unfold iw.cells at *;simp only[PK.right]at *;go_enter func136,ntmps136;go_wp2_with fail;go_ret;exact⟨by simp;omega,(aa.refl _ _).alloc _⟩
theorem rP(x:iw)(w:tW):Calls prog 147 #[.agg x.cells] w λe w'=>e=.returned (.bool true)/\aa af w w':=by obtain⟨op,d,s,jump,num,high,label,name⟩:=x;unfold iw.cells at *;simp only at *;go_enter func147,ntmps147;go_wp2_with fail;go_ret;exact⟨rfl,(aa.refl _ _).alloc _⟩
theorem Q3(x:iw)(hx:x.Fit)(w:tW):Calls prog 205 #[.agg x.cells] w λe w'=>e=.returned (.bool (PK.wide.right x))/\aa af w w':=by
 obtain⟨op,d,s,jump,num,high,label,name⟩:=x;have hs:=hx.s;clear hx;unfold iw.cells at *;simp only[PK.right]at *;by_cases h0:s=0
 ·subst h0;go_enter func205,ntmps205;go_wp2_with fail;go_ret;exact⟨by simp,(aa.refl _ _).alloc _⟩
 ·by_cases h1:s=1
  ·subst h1;go_enter func205,ntmps205;go_wp2_with fail;go_ret;exact⟨by simp;rfl,(aa.refl _ _).alloc _⟩
  ·have q0:decide ((s:Int)=0)=false:=by simp;omega
   have q1:decide ((s:Int)=1)=false:=by simp;omega
   go_enter func205,ntmps205;go_wp2_with fail;go_ret;exact⟨by simp[h0,h1],(aa.refl _ _).alloc _⟩
abbrev E0:tBA:={data:=#[]}
theorem aq.eY{w:tW}{b:Nat}{v0 v1 v2 v3 v4 v5 v6 v7:Value}{t:TypeId}(h:aq w b #[v0,v1,v2,v3,v4,v5,v6,v7] t):w.cell? ⟨b,0,none⟩=some v0/\w.cell? ⟨b,1,none⟩=some v1/\w.cell? ⟨b,2,none⟩=some v2/\w.cell? ⟨b,3,none⟩=some v3/\w.cell? ⟨b,4,none⟩=some v4/\w.cell? ⟨b,5,none⟩=some v5/\w.cell? ⟨b,6,none⟩=some v6/\w.cell? ⟨b,7,none⟩=some v7 :=
 ⟨h.cell 0,h.cell 1,h.cell 2,h.cell 3,h.cell 4,h.cell 5,h.cell 6,h.cell 7⟩
structure bI where
 word:tBA:=E0
 is32:Bool:=false
 d:Int:=0
 s:Int:=0
 jump:Int:=0
 n:Int:=0
 label:tBA:=E0
 name:tBA:=E0
def bI.cells(i:bI):tAV:=#[.string i.word,.bool i.is32,.int .i64 i.d,.int .i64 i.s,.int .i64 i.jump,.int .u64 i.n,.string i.label,.string i.name]
theorem aq.Ih{w:tW}{z:Nat}{t:TypeId}{v0 v1 v2 v3 v4 v5 v6 v7:Value}(h:aq w z #[v0,v1,v2,v3,v4,v5,v6,v7] t)(a0 a1 a2 a3 a4 a5 a6 a7:Value):aq ((((((((w.setCell ⟨z,0,none⟩ a0).setCell ⟨z,1,none⟩ a1).setCell ⟨z,2,none⟩ a2).setCell ⟨z,3,none⟩ a3).setCell ⟨z,4,none⟩ a4).setCell ⟨z,5,none⟩ a5).setCell ⟨z,6,none⟩ a6).setCell ⟨z,7,none⟩ a7) z #[a0,a1,a2,a3,a4,a5,a6,a7] t:=by have h0:aq (w.setCell ⟨z,0,none⟩ a0) z #[a0,v1,v2,v3,v4,v5,v6,v7] t:=h.set 0 a0;have h1:aq ((w.setCell ⟨z,0,none⟩ a0).setCell ⟨z,1,none⟩ a1) z #[a0,a1,v2,v3,v4,v5,v6,v7] t:=h0.set 1 a1;have h2:aq (((w.setCell ⟨z,0,none⟩ a0).setCell ⟨z,1,none⟩ a1).setCell ⟨z,2,none⟩ a2) z #[a0,a1,a2,v3,v4,v5,v6,v7] t:=h1.set 2 a2;have h3:aq ((((w.setCell ⟨z,0,none⟩ a0).setCell ⟨z,1,none⟩ a1).setCell ⟨z,2,none⟩ a2).setCell ⟨z,3,none⟩ a3) z #[a0,a1,a2,a3,v4,v5,v6,v7] t:=h2.set 3 a3;have h4:aq (((((w.setCell ⟨z,0,none⟩ a0).setCell ⟨z,1,none⟩ a1).setCell ⟨z,2,none⟩ a2).setCell ⟨z,3,none⟩ a3).setCell ⟨z,4,none⟩ a4) z #[a0,a1,a2,a3,a4,v5,v6,v7] t:=h3.set 4 a4;have h5:aq ((((((w.setCell ⟨z,0,none⟩ a0).setCell ⟨z,1,none⟩ a1).setCell ⟨z,2,none⟩ a2).setCell ⟨z,3,none⟩ a3).setCell ⟨z,4,none⟩ a4).setCell ⟨z,5,none⟩ a5) z #[a0,a1,a2,a3,a4,a5,v6,v7] t:=h4.set 5 a5;have h6:aq (((((((w.setCell ⟨z,0,none⟩ a0).setCell ⟨z,1,none⟩ a1).setCell ⟨z,2,none⟩ a2).setCell ⟨z,3,none⟩ a3).setCell ⟨z,4,none⟩ a4).setCell ⟨z,5,none⟩ a5).setCell ⟨z,6,none⟩ a6) z #[a0,a1,a2,a3,a4,a5,a6,v7] t:=h5.set 6 a6;have h7:aq ((((((((w.setCell ⟨z,0,none⟩ a0).setCell ⟨z,1,none⟩ a1).setCell ⟨z,2,none⟩ a2).setCell ⟨z,3,none⟩ a3).setCell ⟨z,4,none⟩ a4).setCell ⟨z,5,none⟩ a5).setCell ⟨z,6,none⟩ a6).setCell ⟨z,7,none⟩ a7) z #[a0,a1,a2,a3,a4,a5,a6,a7] t:=h6.set 7 a7;exact h7
theorem aa.Ih{S:Nat->Prop}{w0 w:tW}{z:Nat}(h:aa S w0 w)(hz:S z\/w0.heap.size<=z)(a0 a1 a2 a3 a4 a5 a6 a7:Value):aa S w0 ((((((((w.setCell ⟨z,0,none⟩ a0).setCell ⟨z,1,none⟩ a1).setCell ⟨z,2,none⟩ a2).setCell ⟨z,3,none⟩ a3).setCell ⟨z,4,none⟩ a4).setCell ⟨z,5,none⟩ a5).setCell ⟨z,6,none⟩ a6).setCell ⟨z,7,none⟩ a7) :=
 (((((((h.set (a:=⟨z,0,none⟩) hz a0).set (a:=⟨z,1,none⟩) hz a1).set (a:=⟨z,2,none⟩) hz a2).set (a:=⟨z,3,none⟩) hz a3).set (a:=⟨z,4,none⟩) hz a4).set (a:=⟨z,5,none⟩) hz a5).set (a:=⟨z,6,none⟩) hz a6).set (a:=⟨z,7,none⟩) hz a7
theorem au{P:Program}{fn:Func}{p u:Tmp}{ty:TypeId}(h:fn.results=#[.cell p ty,.tmp u])(tmps:tAV)(w:tW)(g:Nat)(t:TypeId)(cs:tAV)(fr:Nat×Nat)(d:TypeDesc)(v:Value)(hp:tmps.getD p undef=.pointer (some ⟨g,0,none⟩)) (hv:tmps.getD u undef=v) (hg:w.heap[g]?=some (.cells cs t fr))(hu:P.underlying ty=some d) (hd:(match d with|.struct _|.array _ _=>true|_=>false)=true) (hi:(P.info? ty).map (·.size)=some cs.size):(results fn tmps).run P w=.ok (.tuple #[.agg cs,v]) w:=by rw[results_cell_tmp h,hp,hv];simp[asAddr,run_loadVar_row w g t ty cs fr d hg hu hd hi]
def NEG:tBA:=T [110,101,103]
def JA:tBA:=T [106,97]
def aG(c:UInt8):Bool:=jd (c.toNat:Int)
def aw(l:tLB):tLB:=l.dropWhile (λc=>c==32)
def aC(l:tLB):tLB×tLB:=((aw l).takeWhile aG,(aw l).dropWhile aG)
def aH(b:UInt8)(l:tLB):Bool:=(aw l).head?==some b
def aL(b:UInt8)(l:tLB):tLB:=if aH b l then(aw l).tail else aw l
def fP(l:tLB):Option tLB :=
 if l.all (λc=>decide (32<=(c.toNat:Int))&&decide ((c.toNat:Int)<=126))then some (l.takeWhile (λc=>c != 59))else none
def yU(n:Nat):tLB:=114::ca (n:Int)
def bC(w:tLB):Option Nat:=(List.range 11).find? (λn=>w==yU n)
def ku(c:UInt8):Nat:=if 48<=c.toNat/\c.toNat<=57 then c.toNat-48 else if 97<=c.toNat/\c.toNat<=102 then c.toNat-87 else 255
def ahZ(base:Nat):tLB->Nat->Option Nat
 |[],v=>some v
 |c::l,v=>if base<=ku c then none else ahZ base l (v*base+ku c)
def wR(w:tLB):Bool:=List.isPrefixOf [48,120] w
def jS(w:tLB):Nat:=if wR w then 16 else 10
def gY(w:tLB):tLB:=if wR w then w.drop 2 else w
def aU(w:tLB):Option Nat:=if gY w=[]\/20<w.length then none else ahZ (jS w) (gY w) 0
def aA.xO(n:aA):List Value:=[.bool n.minus,.int .u64 ((n.v%18446744073709551616:Nat):Int),.bool (decide (18446744073709551616<=n.v))]
def bJ(l:tLB):Option (aA×tLB) :=
 if aH 45 l&&(aL 45 l).head?==some 32 then none
 else(aU (aC (aL 45 l)).1).map (λv=>(⟨v,aH 45 l⟩,(aC (aL 45 l)).2))
def aA.aO(n:aA)(half:Nat):Option Int :=
 if 18446744073709551616<=n.v then none
 else if n.minus then(if n.v<=half then some (-(n.v:Int))else none)
 else(if n.v<half then some (n.v:Int)else none)
def aA.bT(n:aA):Option Nat :=
 if 18446744073709551616<=n.v then none
 else if n.minus then(if n.v<=9223372036854775808 then some ((18446744073709551616-n.v)%18446744073709551616)else none)
 else some n.v
structure bE where
 word:tLB
 rest:tLB
 d:Nat:=0
 s:Nat:=0
 jump:Int:=0
 num:Int:=0
 high:Int:=0
 label:tLB:=[]
 name:tLB:=[]
 far:Bool:=false
def bE.cells(op:Value)(r:bE):tAV:=#[.string (T r.word),.string (T r.rest),op,.int .u8 r.d,.int .u8 r.s,.int .i16 r.jump,.int .i32 r.num,.int .i32 r.high,.string (T r.label),.string (T r.name),.bool r.far]
def bE.mark(b:UInt8)(r:bE):Option bE:=if aH b r.rest then some {r with rest:=aL b r.rest}else none
def bE.pQ(r:bE):Option bE:=(bC (aC r.rest).1).map (λn=>{r with d:=n,rest:=(aC r.rest).2})
def bE.wS(r:bE):Option bE:=(bC (aC r.rest).1).map (λn=>{r with s:=n,rest:=(aC r.rest).2})
def bE.number(r:bE):Option bE:=(bJ r.rest).map (λx=>{r with num:=(x.1.aO 2147483648).getD 0,far:=r.far||(x.1.aO 2147483648).isNone,rest:=x.2})
def bE.lab(r:bE):Option bE:=if ahI (aC r.rest).1 then some {r with label:=(aC r.rest).1,rest:=(aC r.rest).2}else none
def bE.off(r:bE):Option bE :=
 if aH 45 r.rest then
  (aU (aC (aL 45 r.rest)).1).map (λv=>{r with jump:=((aA.mk v true).aO 32768).getD 0,far:=r.far||((aA.mk v true).aO 32768).isNone,rest:=(aC (aL 45 r.rest)).2})
 else if aH 43 r.rest then
  (aU (aC (aL 43 r.rest)).1).map (λv=>{r with jump:=((aA.mk v false).aO 32768).getD 0,far:=r.far||((aA.mk v false).aO 32768).isNone,rest:=(aC (aL 43 r.rest)).2})
 else some {r with rest:=aw r.rest}
def kR(v:Nat):Int:=(((v:Int)+2147483648)%4294967296)-2147483648
def bE.wide(r:bE):Option bE :=
 if(aC r.rest).1=[109,97,112]then
  (if ahI (aC (aC r.rest).2).1 then some {r with s:=1,name:=(aC (aC r.rest).2).1,rest:=(aC (aC r.rest).2).2}else none)
 else(bJ r.rest).map (λx=>{r with num:=kR (x.1.bT.getD 0),high:=kR ((x.1.bT.getD 0)/4294967296),far:=r.far||x.1.bT.isNone,rest:=x.2})
def bE.call(r:bE):Option bE :=
 if r.word=[99,97,108,108]then
  (if ahI (aC r.rest).1 then some {r with s:=1,name:=(aC r.rest).1,rest:=(aC r.rest).2}else none)
 else(jg.findIdx? (λh=>h==(aC r.rest).1)).map (λn=>{r with num:=(1+n:Nat),rest:=(aC r.rest).2})
def PK.read(p:PK)(r:bE):Option bE :=
 match (p:Nat)with
 |0=>r.mark 44
 |1=>r.mark 91
 |2=>r.mark 93
 |3=>r.pQ
 |4=>r.pQ
 |5=>r.wS
 |6=>r.number
 |7=>r.lab
 |8=>r.off
 |9=>r.wide
 |_=>none
def ahQ:List PK->bE->Option bE
 |[],r=>some r
 |p::ps,r=>(p.read r).bind (ahQ ps)
def eQ.words(o:eQ):List tLB:=if o.call then [[104,101,108,112],[99,97,108,108]]else [o.word]
def eQ.read(o:eQ)(r:bE):Option bE:=if o.call then r.call else ahQ o.parts r
structure bH where
 k:Nat
 r:bE
def bE.ins(r:bE):iw:=⟨.pointer none,r.d,r.s,r.jump,r.num,r.high,T r.label,T r.name⟩
def bH.o(x:bH):eQ:=ax[x.k]?.getD ⟨0,[],[],0,false,false,0,false⟩
def bH.fits(x:bH):Bool:=!x.r.far&&x.o.needs x.r.ins
def ahR(w l:tLB):Nat->List eQ->Option bH
 |_,[]=>none
 |k,o::os =>
  if o.words.contains w then
   (match o.read ⟨w,l,0,0,0,0,0,[],[],false⟩with
    |none=>ahR w l (k+1) os
    |some r=>if aw r.rest=[]then some ⟨k,{r with rest:=[]}⟩else ahR w l (k+1) os)
  else ahR w l (k+1) os
def kL(w l:tLB):Option bH:=ahR w l 0 ax
def gj(w:tLB):Bool:=ax.any (λo=>o.words.contains w)
structure bV where
 kind:Nat:=0
 name:tLB:=[]
 ns:List aA:=[⟨0,false⟩,⟨0,false⟩,⟨0,false⟩]
 x:bH:=⟨0,⟨[],[],0,0,0,0,0,[],[],false⟩⟩
def eu(w:tLB):Bool:=w==[109,97,112]||w==[102,117,110,99]||(bC w).isSome||gj w
def fH(l:tLB):Option bV :=
 if ahI (aC l).1 then
  (bJ (aC l).2).bind λa=>(bJ a.2).bind λb=>(bJ b.2).bind λc=>if aw c.2=[]then some {kind:=1,name:=(aC l).1,ns:=[a.1,b.1,c.1]}else none
 else none
def bY(t:tLB):Option bV :=
 (fP t).bind λl =>
  if aw l=[]then some {}
  else if aH 58 (aC l).2 then
   (if aw (aL 58 (aC l).2)=[]/\ahI (aC l).1=true/\eu (aC l).1=false then some {kind:=3,name:=(aC l).1}else none)
  else if(aC l).1=[109,97,112]then fH (aw (aC l).2)
  else if(aC l).1=[102,117,110,99]then
   (if ahI (aC (aw (aC l).2)).1=true/\aw (aC (aw (aC l).2)).2=[]then some {kind:=2,name:=(aC (aw (aC l).2)).1}else none)
  else(kL (aC l).1 (aw (aC l).2)).map λx=>{kind:=4,x:=x}
