import Derived.Test.YtnhcaifopaeohaaGreatDoorProg
import Derived.WalkKit
import Derived.WalkSpells
import Derived.WalkLawsBesides
import Derived.Deep.QuietTactic
import Derived.BigQuiet
import Derived.StillTailTactics
import Derived.ArgAppend
import Derived.Deep.RegionLaw
import Derived.MapKept
import Derived.Carry
namespace Go.Proofs.YtnhcaifopaeohaaGreatDoor
open Go.RowKit
set_option linter.all false
theorem hid {p:Prop} (h:p):Hid p:=h
def smallB (c:Int):Bool:=decide (97<=c)&&decide (c<=122)
def digitB (c:Int):Bool:=decide (48<=c)&&decide (c<=57)
def partB (c:Int):Bool:=digitB c||smallB c||(c==95)
def Blk (w:World) (b:Nat) (cs:Array Value) (t:TypeId):Prop:=w.heap[b]?=some (.cells cs t (0,0))
structure Mods (S:Nat->Prop) (w w':World):Prop where
 os:w'.os=w.os
 tape:w'.tape=w.tape
 output:w'.output=w.output
 size:w.heap.size<=w'.heap.size
 block:∀ k,k<w.heap.size->¬ S k->w'.heap[k]?=w.heap[k]?
section
variable {w w' w'' : World} {b : Nat} {cs : Array Value} {t : TypeId} {S S' : Nat -> Prop}
theorem Blk.cell (h:Blk w b cs t) (i:Nat):w.cell? ⟨b,i,none⟩=cs[i]?:=by
 simp [World.cell?,show w.heap[b]?=some (.cells cs t (0,0)) from h]
theorem Blk.frozen (h:Blk w b cs t) (i:Nat):w.frozen? ⟨b,i,none⟩=false:=by
 simp [World.frozen?,show w.heap[b]?=some (.cells cs t (0,0)) from h]
theorem Blk.lt (h:Blk w b cs t):b<w.heap.size:=(Array.getElem?_eq_some_iff.1 h).1
theorem Blk.drewN (h:Blk w b cs t) (n:Nat):Blk (w.drewN n) b cs t:=h
theorem Blk.drew (h:Blk w b cs t):Blk w.drew b cs t:=h
theorem Blk.set (h:Blk w b cs t) (i:Nat) (v:Value):Blk (w.setCell ⟨b,i,none⟩ v) b (cs.setIfInBounds i v) t:=by
 have h':w.heap[b]?=some (.cells cs t (0,0)):=h
 simp [Blk,World.setCell,Array.getElem?_modify,h']
theorem Blk.setOther (h:Blk w b cs t) {a:Addr} (ha:a.block≠b) (v:Value):Blk (w.setCell a v) b cs t:=by
 show (w.setCell a v).heap[b]?=_
 rw [Below.heap_setCell _ _ _ _ (Ne.symm ha)];exact h
theorem Blk.alloc (h:Blk w b cs t) (o:Obj):Blk (w.alloc o) b cs t:=by
 show (w.alloc o).heap[b]?=_
 rw [Below.heap_alloc _ _ _ h.lt];exact h
theorem Blk.new (w:World) (cs:Array Value) (t:TypeId):Blk (w.alloc (.cells cs t)) w.heap.size cs t:=heap_alloc_new w _
theorem Blk.mods (h:Blk w b cs t) (m:Mods S w w') (hb:¬ S b):Blk w' b cs t:=(m.block b h.lt hb).trans h
theorem Mods.refl (S:Nat->Prop) (w:World):Mods S w w:=⟨rfl,rfl,rfl,Nat.le_refl _,fun _ _ _=>rfl⟩
theorem Mods.drewN (h:Mods S w w') (n:Nat):Mods S w (w'.drewN n):=⟨h.os,h.tape,h.output,h.size,h.block⟩
theorem Mods.drew (h:Mods S w w'):Mods S w w'.drew:=⟨h.os,h.tape,h.output,h.size,h.block⟩
theorem Mods.set (h:Mods S w w') {a:Addr} (ha:S a.block\/w.heap.size<=a.block) (v:Value):Mods S w (w'.setCell a v) :=
 ⟨h.os,h.tape,h.output,by have:=h.size;simp [World.setCell];omega,fun k hk hs=>by
  rw [Below.heap_setCell _ _ _ _ (by rintro rfl;rcases ha with ha | ha;exact hs ha;omega)];exact h.block k hk hs⟩
theorem Mods.alloc (h:Mods S w w') (o:Obj):Mods S w (w'.alloc o) :=
 ⟨h.os,h.tape,h.output,by have:=h.size;simp;omega,fun k hk hs=>by
  rw [Below.heap_alloc _ _ _ (by have:=h.size;omega)];exact h.block k hk hs⟩
theorem Mods.trans (h:Mods S w w') (k:Mods S w' w''):Mods S w w'' :=
 ⟨k.os.trans h.os,k.tape.trans h.tape,k.output.trans h.output,Nat.le_trans h.size k.size,fun i hi hs=>(k.block i (Nat.lt_of_lt_of_le hi h.size) hs).trans (h.block i hi hs)⟩
theorem Mods.step (h:Mods S w w') (k:Mods S' w' w'') (hs:∀ i,i<w.heap.size->S' i->S i):Mods S w w'' :=
 ⟨k.os.trans h.os,k.tape.trans h.tape,k.output.trans h.output,Nat.le_trans h.size k.size,fun i hi hn =>
  (k.block i (Nat.lt_of_lt_of_le hi h.size) (fun e=>hn (hs i hi e))).trans (h.block i hi hn)⟩
theorem Mods.mono (h:Mods S w w') (hs:∀ i,i<w.heap.size->S i->S' i):Mods S' w w' :=
 ⟨h.os,h.tape,h.output,h.size,fun i hi hn=>h.block i hi (fun e=>hn (hs i hi e))⟩
end
def Only (b:Nat):Nat->Prop:=fun k=>k=b
def Nil':Nat->Prop:=fun _=>False
theorem Mods.setb {b:Nat} {w w':World} (h:Mods (Only b) w w') (i:Nat) (v:Value):Mods (Only b) w (w'.setCell ⟨b,i,none⟩ v):=h.set (a:=⟨b,i,none⟩) (.inl (show b=b from rfl)) v
structure Ext (S:Nat->Prop) (w0:World) where
 w:World
 m:Mods S w0 w
theorem Ext.ne (S:Nat->Prop) (w:World):Nonempty (Ext S w):=⟨⟨w,Mods.refl S w⟩⟩
theorem wp_region_ext {P:Program} {id:Nat} {Q:Exit->Act->World->Prop} {a:Act} {w:World} {l:List Oper} (S:Nat->Prop) (hm:P.follows .mixedOrders=true) (hB:Region.lexB .any l.toArray=true)
  (h:wpQuiet P l.toArray (fun w'=>∃ g:Ext S w,w'=g.w) (fun a'=>∀ w',(∃ g:Ext S w,w'=g.w)->Q .normal a' w') l a):(Code.region id l.toArray true).wp P Q a w :=
 wp_region_quiet (C:=fun w'=>∃ g:Ext S w,w'=g.w) hm hB ⟨⟨_,(Mods.refl S w).drew⟩,rfl⟩ (by simpa using h)
theorem Calls.ext_of {P:Program} {f:FuncId} {args:Array Value} {S:Nat->Prop} {w:World} {g:Ext S w} {v:Value}
  (h:Calls P f args g.w fun e w'=>e=.returned v/\Mods Nil' g.w w'):Calls P f args g.w fun e w''=>e=.returned v/\∃ g':Ext S w,w''=g'.w :=
 h.mono fun _ w' ⟨he,hm⟩=>⟨he,⟨w',g.m.trans (hm.mono (fun _ _ e=>e.elim))⟩,rfl⟩
theorem Ext.cell {S:Nat->Prop} {w:World} (g:Ext S w) {b:Nat} {cs:Array Value} {t:TypeId} (h:Blk w b cs t) (hb:¬ S b) (i:Nat):g.w.cell? ⟨b,i,none⟩=cs[i]? :=
 (h.mods g.m hb).cell i
theorem Ext.cells8 {S:Nat->Prop} {w:World} {b:Nat} {v0 v1 v2 v3 v4 v5 v6 v7:Value} {t:TypeId} (h:Blk w b #[v0,v1,v2,v3,v4,v5,v6,v7] t) (hb:¬ S b) :
  (∀ g:Ext S w,g.w.cell? ⟨b,0,none⟩=some v0)/\(∀ g:Ext S w,g.w.cell? ⟨b,1,none⟩=some v1)/\(∀ g:Ext S w,g.w.cell? ⟨b,2,none⟩=some v2)/\(∀ g:Ext S w,g.w.cell? ⟨b,3,none⟩=some v3) /\
  (∀ g:Ext S w,g.w.cell? ⟨b,4,none⟩=some v4)/\(∀ g:Ext S w,g.w.cell? ⟨b,5,none⟩=some v5)/\(∀ g:Ext S w,g.w.cell? ⟨b,6,none⟩=some v6)/\(∀ g:Ext S w,g.w.cell? ⟨b,7,none⟩=some v7) :=
 ⟨fun g=>g.cell h hb 0,fun g=>g.cell h hb 1,fun g=>g.cell h hb 2,fun g=>g.cell h hb 3,fun g=>g.cell h hb 4,fun g=>g.cell h hb 5,fun g=>g.cell h hb 6,fun g=>g.cell h hb 7⟩
theorem still_of_quiet {P:Program} {ops:Array Oper} {W:World} {Q:Act->Prop}:∀ (l:List Oper) (a:Act),wpQuiet P ops (fun w'=>w'=W) Q l a->wpStill P ops W Q l a
 | [],a,h=>h
 | o::rest,a,h=>by
  unfold wpQuiet at h;unfold wpStill
  split
  ·rename_i hw
   rw [if_pos hw] at h;obtain ⟨v,h1,h2⟩:=h
   have h3:=h1 W rfl
   have ih:=still_of_quiet rest _ h2
   unfold Oper.quietAt at h3;unfold Oper.still;generalize (execOp a.eval o).run P W=r at *
   cases r with
   | ok n w' =>
    cases n with
    | value u=>obtain ⟨rfl,rfl⟩:=h3;exact ⟨rfl,ih⟩
    | skip=>obtain ⟨rfl,rfl⟩:=h3;exact ⟨rfl,ih⟩
    | enter f args=>obtain ⟨rfl,hc⟩:=h3;exact ⟨rfl,v,hc,ih⟩
    | _=>exact h3.elim
   | _=>exact h3.elim
  ·rename_i hw
   rw [if_neg hw] at h;exact still_of_quiet rest _ h
theorem wp_region_qtail {P:Program} {id:Nat} {Q:Exit->Act->World->Prop} {a:Act} {w:World} {l:List Oper} (n:Nat) (hm:P.follows .mixedOrders=true) (hB:Region.lexTailB .any l.toArray n=true)
  (h:∀ W,W=w.drew->wpQuiet P l.toArray (fun w'=>w'=W) (fun a'=>wpList P l.toArray Q (l.drop n) a' W) (l.take n) a):(Code.region id l.toArray true).wp P Q a w :=
 wp_region_still_tail n hm hB (still_of_quiet _ _ (h _ rfl))
section
variable {P : Program} {ops : Array Oper} {md : Region.Mode} {C : World -> Prop} {es : List Nat}
def pureUpon (w:World) (v:Value):Result Next->Prop
 | .ok (.value u) w'=>w'=w/\u=v
 | .ok .skip w'=>w'=w/\v=undef
 | _=>False
def pureAt (P:Program) (o:Oper) (a:Act) (w:World) (v:Value):Prop:=pureUpon w v ((execOp a.eval o).run P w)
def effUpon (P:Program) (K:Value->World->Prop):Result Next->Prop
 | .ok (.value u) w'=>K u w'
 | .ok .skip w'=>K undef w'
 | .ok (.enter f args) w'=>Calls P f args w' (fun e w''=>∃ v,e=.returned v/\K v w'')
 | .ok (.row row args) w'=>Rows P row args w' K
 | _=>False
def effAt (P:Program) (o:Oper) (a:Act) (w:World) (K:Value->World->Prop):Prop:=effUpon P K ((execOp a.eval o).run P w)
theorem pureAt_one {o:Oper} {a:Act} {w:World} {u v:Value} (h:pureAt P o a w u) (h':pureAt P o a w v):u=v:=by
 unfold pureAt at *
 generalize (execOp a.eval o).run P w=r at *
 cases r with
 | ok n w' =>
  cases n<;>simp only [pureUpon] at h h'
  case value x=>exact h.2.symm.trans h'.2
  case skip=>exact h.2.trans h'.2.symm
 | halt x w'=>simp only [pureUpon] at h
theorem effUpon_mono {K K':Value->World->Prop} {r:Result Next} (h:∀ v w,K v w->K' v w) (hh:effUpon P K r):effUpon P K' r:=by
 cases r with
 | ok n w' =>
  cases n<;>simp only [effUpon] at hh ⊢
  case value u=>exact h _ _ hh
  case skip=>exact h _ _ hh
  case enter f args=>exact hh.mono fun e w'' ⟨v,he,hk⟩=>⟨v,he,h _ _ hk⟩
  case row row args=>exact hh.mono h
 | halt x w'=>simp only [effUpon] at hh
theorem effUpon_some {K:Value->World->Prop} {r:Result Next} (hh:effUpon P K r):∃ v w,K v w:=by
 cases r with
 | ok n w' =>
  cases n<;>simp only [effUpon] at hh
  case value u=>exact ⟨_,_,hh⟩
  case skip=>exact ⟨_,_,hh⟩
  case enter f args =>
   obtain ⟨_,w2,_,⟨v,_,hk⟩,_⟩:=hh []
   exact ⟨v,w2,hk⟩
  case row row args =>
   obtain ⟨v,w2,hk,_⟩:=hh (Frame.enter P 0 #[] .normal) []
   exact ⟨v,w2,hk⟩
 | halt x w'=>simp only [effUpon] at hh
def mOp (P:Program) (ops:Array Oper) (C:World->Prop) (es:List Nat) (i:Nat) (K:Act->World->Prop) (a:Act) (w:World):Prop :=
 match ops[i]? with
 | none=>K a w
 | some o=>if Region.wanted o (yielded ops a.tmps) then
   (if es.contains i then effAt P o a w (fun v w'=>C w'/\K (a.put o.dst v) w') else ∃ v,(∀ w,C w->pureAt P o a w v)/\K (a.put o.dst v) w)
  else K (a.put o.dst undef) w
theorem mOp_mono {i:Nat} {a:Act} {w:World} {K K':Act->World->Prop} (hC:C w) (h:∀ a w,C w->K a w->K' a w) (hh:mOp P ops C es i K a w):mOp P ops C es i K' a w:=by
 unfold mOp at *
 split
 ·exact h _ _ hC (by simpa [*] using hh)
 ·rename_i o ho
  simp only [ho] at hh
  split
  ·rename_i hw
   simp only [hw,if_true] at hh
   split
   ·rename_i he;simp only [he,if_true] at hh;exact effUpon_mono (fun v w' h'=>⟨h'.1,h _ _ h'.1 h'.2⟩) hh
   ·rename_i he;simp only [he] at hh;obtain ⟨v,h1,h2⟩:=hh;exact ⟨v,h1,h _ _ hC h2⟩
  ·rename_i hw;simp only [hw] at hh;exact h _ _ hC hh
def wpAnyM (P:Program) (md:Region.Mode) (ops:Array Oper) (C:World->Prop) (es:List Nat) (Q:Act->World->Prop):Nat->Array Bool->Act->World->Prop
 | 0,listed,a,w=>Region.ready md ops listed=[]/\Q a w
 | fuel+1,listed,a,w =>
  (Region.ready md ops listed=[]->Q a w) /\
  ∀ i∈Region.ready md ops listed,mOp P ops C es i (wpAnyM P md ops C es Q fuel (listed.setIfInBounds i true)) a w
theorem wpOp_of_mOp {i:Nat} {a:Act} {K K':Act->World->Prop} {Q':Exit->Act->World->Prop} {w:World} (hC:C w) (h:∀ a w',C w'->K a w'->K' a w') (hh:mOp P ops C es i K a w):wpOp P ops Q' i K' a w:=by
 unfold mOp at hh;unfold wpOp
 split
 ·rename_i ho;simp only [ho] at hh;exact h _ _ hC hh
 ·rename_i o ho
  simp only [ho] at hh
  split
  ·rename_i hw
   simp only [hw,if_true] at hh
   left
   unfold Oper.wp
   split at hh
   ·unfold effAt at hh;generalize (execOp a.eval o).run P w=r at *
    cases r with
    | ok n w' =>
     cases n<;>simp only [effUpon] at hh<;>simp only [Oper.upon]
     case value u=>exact h _ _ hh.1 hh.2
     case skip=>exact h _ _ hh.1 hh.2
     case enter f args=>exact hh.mono fun e w'' ⟨v,he,hk⟩=>by subst he;exact h _ _ hk.1 hk.2
     case row row args=>exact hh.mono fun v w'' hk=>h _ _ hk.1 hk.2
    | halt x w'=>simp only [effUpon] at hh
   ·obtain ⟨v,h1,h2⟩:=hh
    have h3:=h1 w hC
    unfold pureAt at h3;generalize (execOp a.eval o).run P w=r at *
    cases r with
    | ok n w' =>
     cases n<;>simp only [pureUpon] at h3<;>simp only [Oper.upon]
     case value u=>rw [h3.1,h3.2];exact h _ _ hC h2
     case skip=>rw [h3.1,<- h3.2];exact h _ _ hC h2
    | halt x w'=>simp only [pureUpon] at h3
  ·rename_i hw;simp only [hw] at hh;exact h _ _ hC hh
theorem wpAny_of_mix {Q:Act->World->Prop} {Q':Exit->Act->World->Prop} (hQ:∀ a w,C w->Q a w->Q' .normal a w):∀ (fuel:Nat) (listed:Array Bool) (a:Act) (w:World),C w ->
  wpAnyM P md ops C es Q fuel listed a w->wpAny P md ops Q' fuel listed a w
 | 0,_,_,_,hw,h=>⟨h.1,hQ _ _ hw h.2⟩
 | fuel+1,_,_,_,hw,h=>⟨fun h0=>hQ _ _ hw (h.1 h0),fun i hi=>wpOp_of_mOp hw (fun a' w' hw'=>wpAny_of_mix hQ fuel _ a' w' hw') (h.2 i hi)⟩
def YieldsM (P:Program) (ops:Array Oper) (C:World->Prop) (o:Oper) (v:Value) (a:Act):Prop :=
 (Region.wanted o (yielded ops a.tmps)=true/\∀ w,C w->pureAt P o a w v)\/(Region.wanted o (yielded ops a.tmps)=false/\v=undef)
theorem YieldsM.of_same {o:Oper} {v:Value} {a a':Act} (hy:YieldsM P ops C o v a) (he:execOp a'.eval o=execOp a.eval o)
  (hw:Region.wanted o (yielded ops a'.tmps)=Region.wanted o (yielded ops a.tmps)):YieldsM P ops C o v a':=by
 unfold YieldsM pureAt at *
 rw [he,hw];exact hy
theorem YieldsM.mOp {i:Nat} {o:Oper} {v:Value} {a:Act} (hi:ops[i]?=some o) (hE:es.contains i=false) (hy:YieldsM P ops C o v a) {K:Act->World->Prop} {w:World} (h:K (a.put o.dst v) w):mOp P ops C es i K a w:=by
 unfold Proofs.YtnhcaifopaeohaaGreatDoor.mOp
 simp only [hi]
 rcases hy with ⟨hw,hv⟩ | ⟨hw,rfl⟩
 ·simp only [hw,if_true,hE,Bool.false_eq_true,if_false];exact ⟨v,hv,h⟩
 ·simp only [hw,Bool.false_eq_true,if_false];exact h
theorem mOp_unwanted {i:Nat} {o:Oper} {a:Act} (hi:ops[i]?=some o) (hw:Region.wanted o (yielded ops a.tmps)=false) {K:Act->World->Prop} {w:World} (h:K (a.put o.dst undef) w):mOp P ops C es i K a w:=by
 unfold Proofs.YtnhcaifopaeohaaGreatDoor.mOp
 simp only [hi,hw,Bool.false_eq_true,if_false];exact h
theorem mOp_put {j:Nat} {oi oj:Oper} {v:Value} (hj:ops[j]?=some oj) (hap:oi.apart ops oj=true)
  (hsi:∀ cs b,oi.op≠.select cs b) (hsj:∀ cs b,oj.op≠.select cs b) {K:Act->World->Prop} {a:Act} {w:World}
  (hy:YieldsM P ops C oi v a) (h:mOp P ops C es j K (a.put oi.dst v) w) :
  mOp P ops C es j (fun a' w'=>YieldsM P ops C oi v a'/\K (a'.put oi.dst v) w') a w:=by
 obtain ⟨h1,h2,h3⟩:=Oper.apart_spec hap
 have keep:∀ (a:Act),YieldsM P ops C oi v a->∀ u,YieldsM P ops C oi v (a.put oj.dst u):=fun a hy u =>
  hy.of_same (execOp_put oi hsi a oj.dst u h3) (wanted_put oi a oj.dst u h3)
 unfold mOp at *
 simp only [hj] at *
 rw [wanted_put oj a oi.dst v h1] at h
 unfold effAt pureAt at *
 rw [execOp_put oj hsj a oi.dst v h1] at h
 split
 ·rename_i hw
  simp only [hw,if_true] at h
  split
  ·rename_i he
   simp only [he,if_true] at h
   exact effUpon_mono (fun u w' h'=>⟨h'.1,keep a hy u,by rw [<- Act.put_comm a v u h2];exact h'.2⟩) h
  ·rename_i he
   simp only [he] at h
   obtain ⟨u,hu,hn⟩:=h
   exact ⟨u,hu,keep a hy u,by rw [<- Act.put_comm a v u h2];exact hn⟩
 ·rename_i hw
  simp only [hw] at h
  exact ⟨keep a hy _,by rw [<- Act.put_comm a v undef h2];exact h⟩
theorem ready_not {i:Nat} {oj:Oper} {listed:Array Bool} (hr:i∈Region.ready md ops listed) (hall:∀ e∈oj.after,Region.binds md e=true->listed.getD e.on false=true) :
  ∀ e∈oj.after,Region.binds md e=true->e.on≠i:=fun e he hb heq=>by
 have h1:=hall e he hb
 have h0:=(mem_ready.1 hr).1
 rw [heq] at h1
 rcases Nat.lt_or_ge i listed.size with h' | h'
 ·simp [h'] at h0 h1;rw [h0] at h1;cases h1
 ·simp [Array.getElem?_eq_none h'] at h1
theorem wpAnyM_first {Q:Act->World->Prop} {i:Nat} {oi:Oper} {v:Value} (hi:ops[i]?=some oi) (hsel:∀ (j:Nat) (o:Oper) cs b,ops[j]?=some o->o.op≠.select cs b)
  (hE:∀ (K:Act->World->Prop) (a:Act) (w:World),C w->YieldsM P ops C oi v a->K (a.put oi.dst v) w->mOp P ops C es i K a w) :
  ∀ (fuel:Nat) (listed:Array Bool) (a:Act) (w:World),
   (∀ j oj,ops[j]?=some oj->j≠i->listed.getD j true=false->(∀ e∈oj.after,Region.binds md e=true->e.on≠i)->oi.apart ops oj=true) ->
   i∈Region.ready md ops listed->C w->YieldsM P ops C oi v a ->
   wpAnyM P md ops C es Q fuel (listed.setIfInBounds i true) (a.put oi.dst v) w->wpAnyM P md ops C es Q (fuel+1) listed a w:=by
 intro fuel
 induction fuel with
 | zero =>
  intro listed a w _ hr hC hy H
  refine ⟨fun h=>(by rw [h] at hr;cases hr),fun j hj=>?_⟩
  by_cases hji:j=i
  ·subst hji;exact hE _ _ _ hC hy H
  ·have:=ready_mono hj hji
   rw [H.1] at this
   cases this
 | succ fuel ih =>
  intro listed a w hfree hr hC hy H
  refine ⟨fun h=>(by rw [h] at hr;cases hr),fun j hj=>?_⟩
  by_cases hji:j=i
  ·subst hji;exact hE _ _ _ hC hy H
  ·have h1:=H.2 j (ready_mono hj hji)
   obtain ⟨hjun,oj,hoj,hall⟩:=mem_ready.1 hj
   have hnot:=ready_not hr hall
   have h2:=mOp_put hoj (hfree j oj hoj hji hjun hnot) (fun cs b=>hsel i oi cs b hi) (fun cs b=>hsel j oj cs b hoj) hy h1
   have hfree':∀ k ok,ops[k]?=some ok->k≠i->(listed.setIfInBounds j true).getD k true=false ->
     (∀ e∈ok.after,Region.binds md e=true->e.on≠i)->oi.apart ops ok=true:=fun k ok hk hki hun hno=>by
    refine hfree k ok hk hki ?_ hno
    by_cases hjk:j=k
    ·subst hjk;exact hjun
    ·rw [getD_set_ne true hjk] at hun;exact hun
   refine mOp_mono hC (fun a' w' hC' h3=>ih (listed.setIfInBounds j true) a' w' hfree' (ready_mono hr (Ne.symm hji)) hC' h3.1 ?_) h2
   rw [Array.setIfInBounds_comm _ _ hji];exact h3.2
theorem wpAnyM_act {Q:Act->World->Prop} {i:Nat} {oi:Oper} (hi:ops[i]?=some oi) (hsel:∀ (j:Nat) (o:Oper) cs b,ops[j]?=some o->o.op≠.select cs b) (hEi:es.contains i=true)
  (hch:∀ j,es.contains j=true->i<j->∃ p,es.contains p=true/\i<=p/\p<j/\∃ oj,ops[j]?=some oj/\∃ e∈oj.after,Region.binds md e=true/\e.on=p) :
  ∀ (fuel:Nat) (listed:Array Bool) (a:Act) (w:World),
   (∀ j oj,ops[j]?=some oj->j≠i->listed.getD j true=false->(∀ e∈oj.after,Region.binds md e=true->e.on≠i)->oi.apart ops oj=true) ->
   (∀ j,es.contains j=true->i<j->listed.getD j true=false)->(∀ j,j<i->listed.getD j true=true) ->
   i∈Region.ready md ops listed->Region.wanted oi (yielded ops a.tmps)=true->C w ->
   effAt P oi a w (fun v w'=>C w'/\wpAnyM P md ops C es Q fuel (listed.setIfInBounds i true) (a.put oi.dst v) w')->wpAnyM P md ops C es Q (fuel+1) listed a w:=by
 have hno:∀ (listed:Array Bool) (j:Nat),(∀ j,es.contains j=true->i<j->listed.getD j true=false)->(∀ j,j<i->listed.getD j true=true)->i∈Region.ready md ops listed->j∈Region.ready md ops listed->j≠i->es.contains j=false:=by
  intro listed j hinv hlow hr hj hji
  cases hc:es.contains j with
  | false=>rfl
  | true =>
   obtain ⟨hjun,oj,hoj,hall⟩:=mem_ready.1 hj
   have hlt:i<j:=by
    rcases Nat.lt_or_ge j i with h | h
    ·rw [hlow j h] at hjun;cases hjun
    ·omega
   obtain ⟨p,hp,hip,hpj,oj',hoj',e,he,hb,hon⟩:=hch j hc hlt;rw [hoj] at hoj'
   cases hoj'
   have h1:=hall e he hb
   rw [hon] at h1
   by_cases hpi:p=i
   ·subst hpi
    exact absurd hon (ready_not hr hall e he hb)
   ·have h2:=hinv p hp (by omega)
    rcases Nat.lt_or_ge p listed.size with h' | h'
    ·simp [h'] at h1 h2;rw [h2] at h1;cases h1
    ·simp [Array.getElem?_eq_none h'] at h1
 have hme:∀ (K:Act->World->Prop) (a:Act) (w:World),Region.wanted oi (yielded ops a.tmps)=true->effAt P oi a w (fun v w'=>C w'/\K (a.put oi.dst v) w')->mOp P ops C es i K a w:=fun K a w hw h=>by
  unfold mOp
  simp only [hi,hw,if_true,hEi]
  exact h
 intro fuel
 induction fuel with
 | zero =>
  intro listed a w _ hinv hlow hr hw hC H
  refine ⟨fun h=>(by rw [h] at hr;cases hr),fun j hj=>?_⟩
  by_cases hji:j=i
  ·subst hji;exact hme _ _ _ hw H
  ·have:=ready_mono hj hji
   obtain ⟨_,_,_,h2⟩:=effUpon_some H;rw [h2.1] at this
   cases this
 | succ fuel ih =>
  intro listed a w hfree hinv hlow hr hw hC H
  refine ⟨fun h=>(by rw [h] at hr;cases hr),fun j hj=>?_⟩
  by_cases hji:j=i
  ·subst hji;exact hme _ _ _ hw H
  ·have hEj:=hno listed j hinv hlow hr hj hji
   obtain ⟨hjun,oj,hoj,hall⟩:=mem_ready.1 hj
   have hnot:=ready_not hr hall
   obtain ⟨h1,h2,h3⟩:=Oper.apart_spec (hfree j oj hoj hji hjun hnot)
   have hsi:∀ cs b,oi.op≠.select cs b:=fun cs b=>hsel i oi cs b hi
   have hsj:∀ cs b,oj.op≠.select cs b:=fun cs b=>hsel j oj cs b hoj
   have hfree':∀ k ok,ops[k]?=some ok->k≠i->(listed.setIfInBounds j true).getD k true=false ->
     (∀ e∈ok.after,Region.binds md e=true->e.on≠i)->oi.apart ops ok=true:=fun k ok hk hki hun hno=>by
    refine hfree k ok hk hki ?_ hno
    by_cases hjk:j=k
    ·subst hjk;exact hjun
    ·rw [getD_set_ne true hjk] at hun;exact hun
   have hinv':∀ k,es.contains k=true->i<k->(listed.setIfInBounds j true).getD k true=false:=fun k hk hik=>by
    have hjk:j≠k:=by rintro rfl;rw [hEj] at hk;cases hk
    rw [getD_set_ne true hjk];exact hinv k hk hik
   have hlow':∀ k,k<i->(listed.setIfInBounds j true).getD k true=true:=fun k hk=>by
    by_cases hjk:j=k
    ·subst hjk;rw [hlow j hk] at hjun;cases hjun
    ·rw [getD_set_ne true hjk];exact hlow k hk
   have key:∀ u,(∀ v w',C w'->wpAnyM P md ops C es Q (fuel+1) (listed.setIfInBounds i true) (a.put oi.dst v) w'->wpAnyM P md ops C es Q fuel ((listed.setIfInBounds i true).setIfInBounds j true) ((a.put oi.dst v).put oj.dst u) w') ->
     wpAnyM P md ops C es Q (fuel+1) (listed.setIfInBounds j true) (a.put oj.dst u) w:=fun u hu=>by
    refine ih (listed.setIfInBounds j true) (a.put oj.dst u) w hfree' hinv' hlow' (ready_mono hr (Ne.symm hji)) (by rw [wanted_put oi a oj.dst u h3];exact hw) hC ?_
    unfold effAt at *
    rw [execOp_put oi hsi a oj.dst u h3]
    refine effUpon_mono (fun v w' h'=>⟨h'.1,?_⟩) H
    have:=hu v w' h'.1 h'.2
    rw [Array.setIfInBounds_comm _ _ hji,<- Act.put_comm a v u h2];exact this
   cases hwj:Region.wanted oj (yielded ops a.tmps) with
   | false =>
    refine mOp_unwanted hoj hwj (key undef fun v w' _ h'=>?_)
    have h4:=h'.2 j (ready_mono hj hji)
    unfold mOp at h4
    simp only [hoj,wanted_put oj a oi.dst v h1,hwj,Bool.false_eq_true,if_false] at h4
    exact h4
   | true =>
    have hall2:∀ v w',wpAnyM P md ops C es Q (fuel+1) (listed.setIfInBounds i true) (a.put oi.dst v) w'->∃ u,(∀ w,C w->pureAt P oj a w u)/\wpAnyM P md ops C es Q fuel ((listed.setIfInBounds i true).setIfInBounds j true) ((a.put oi.dst v).put oj.dst u) w':=fun v w' h'=>by
     have h4:=h'.2 j (ready_mono hj hji)
     unfold mOp at h4
     simp only [hoj,wanted_put oj a oi.dst v h1,hwj,if_true,hEj,Bool.false_eq_true,if_false] at h4
     unfold pureAt at *
     rw [execOp_put oj hsj a oi.dst v h1] at h4;exact h4
    obtain ⟨v0,w0,_,h0⟩:=effUpon_some H;obtain ⟨u,hu,_⟩:=hall2 v0 w0 h0
    refine YieldsM.mOp hoj hEj (.inl ⟨hwj,hu⟩) (key u fun v w' _ h'=>?_)
    obtain ⟨u',hu',hk⟩:=hall2 v w' h';rw [pureAt_one (hu w hC) (hu' w hC)];exact hk
def chainB (md:Region.Mode) (ops:Array Oper):List Nat->Bool
 | e1::e2::r=>decide (e1<e2)&&(match ops[e2]? with | some o=>o.after.any (fun e=>Region.binds md e&&e.on==e1) | none=>false)&&chainB md ops (e2::r)
 | _=>true
theorem chainB_low {md:Region.Mode} {ops:Array Oper}:∀ (e:Nat) (r:List Nat),chainB md ops (e::r)=true->∀ j∈r,e<j
 | _,[],_,j,hj=>by cases hj
 | e,e2::r,h,j,hj=>by
  simp only [chainB,Bool.and_eq_true,decide_eq_true_eq] at h
  rcases List.mem_cons.1 hj with rfl | hj
  ·exact h.1.1
  ·have:=chainB_low e2 r h.2 j hj
   omega
theorem chainB_spec {md:Region.Mode} {ops:Array Oper}:∀ (es:List Nat),chainB md ops es=true->∀ i j,i∈es->j∈es->i<j->∃ p,p∈es/\i<=p/\p<j/\∃ oj,ops[j]?=some oj/\∃ e∈oj.after,Region.binds md e=true/\e.on=p
 | [],_,i,_,hi,_,_=>by cases hi
 | [e],_,i,j,hi,hj,hlt=>by simp at hi hj;omega
 | e1::e2::r,h,i,j,hi,hj,hlt=>by
  have h0:=h
  simp only [chainB,Bool.and_eq_true,decide_eq_true_eq] at h
  obtain ⟨⟨h1,h2⟩,h3⟩:=h
  by_cases hj1:j=e1
  ·subst hj1
   rcases List.mem_cons.1 hi with rfl | hi
   ·omega
   ·have:=chainB_low j (e2::r) h0 i hi
    omega
  ·have hj':j∈e2::r:=by
    rcases List.mem_cons.1 hj with h | h
    ·exact absurd h hj1
    ·exact h
   by_cases hi1:i=e1
   ·subst hi1
    by_cases hj2:j=e2
    ·subst hj2
     split at h2
     ·rename_i o ho
      obtain ⟨e,he,hb⟩:=Array.any_eq_true'.1 h2
      simp only [Bool.and_eq_true,beq_iff_eq] at hb
      exact ⟨i,by simp,Nat.le_refl _,hlt,o,ho,e,he,hb.1,hb.2⟩
     ·cases h2
    ·have hlow:e2<j:=by
      rcases List.mem_cons.1 hj' with h | h
      ·exact absurd h hj2
      ·exact chainB_low e2 r h3 j h
     obtain ⟨p,hp,hip,hpj,rest⟩:=chainB_spec (e2::r) h3 e2 j (by simp) hj' hlow
     exact ⟨p,List.mem_cons_of_mem _ hp,by omega,hpj,rest⟩
   ·have hi':i∈e2::r:=by
     rcases List.mem_cons.1 hi with h | h
     ·exact absurd h hi1
     ·exact h
    obtain ⟨p,hp,hip,hpj,rest⟩:=chainB_spec (e2::r) h3 i j hi' hj' hlt
    exact ⟨p,List.mem_cons_of_mem _ hp,hip,hpj,rest⟩
def wpMix (P:Program) (ops:Array Oper) (C:World->Prop) (es:List Nat) (Q:Act->World->Prop):Nat->List Oper->Act->World->Prop
 | _,[],a,w=>Q a w
 | k,o::rest,a,w=>if Region.wanted o (yielded ops a.tmps) then
   (if es.contains k then effAt P o a w (fun v w'=>C w'/\wpMix P ops C es Q (k+1) rest (a.put o.dst v) w')
    else ∃ v,(∀ w,C w->pureAt P o a w v)/\wpMix P ops C es Q (k+1) rest (a.put o.dst v) w)
  else wpMix P ops C es Q (k+1) rest (a.put o.dst undef) w
theorem wpAnyM_lex {Q:Act->World->Prop} (hs:Region.noSelect ops=true) (hc:chainB md ops es=true):∀ (l:List Oper) (k:Nat) (listed:Array Bool) (a:Act) (w:World),(∀ j,l[j]?=ops[k+j]?) ->
  Region.lexFrom md ops l.length k listed=true->(∀ j,k<=j->j<ops.size->listed.getD j true=false)->(∀ j,j<k->listed.getD j true=true)->C w->wpMix P ops C es Q k l a w->wpAnyM P md ops C es Q l.length listed a w
 | [],_,_,_,_,_,hB,_,_,_,h=>⟨by simpa [Region.lexFrom] using hB,h⟩
 | o::l,k,listed,a,w,hl,hB,hup,hlow,hC,h=>by
  have h0:ops[k]?=some o:=by simpa using (hl 0).symm
  have hks:k<ops.size:=(Array.getElem?_eq_some_iff.1 h0).1
  simp only [List.length_cons,Region.lexFrom,Bool.and_eq_true] at hB
  obtain ⟨⟨hr,hf⟩,hB'⟩:=hB
  have hl':∀ j,l[j]?=ops[k+1+j]?:=fun j=>by have:=hl (j+1);simpa [Nat.add_assoc,Nat.add_comm 1 j] using this
  have hup':∀ j,k+1<=j->j<ops.size->(listed.setIfInBounds k true).getD j true=false:=fun j h1 h2=>by rw [getD_set_ne true (by omega)];exact hup j (by omega) h2
  have hlow':∀ j,j<k+1->(listed.setIfInBounds k true).getD j true=true:=fun j h1=>by
   by_cases hjk:k=j
   ·subst hjk
    rcases Nat.lt_or_ge k listed.size with h' | h'
    ·simp [h']
    ·simp
   ·rw [getD_set_ne true hjk];exact hlow j (by omega)
  have go:∀ a' w',C w'->wpMix P ops C es Q (k+1) l a' w'->wpAnyM P md ops C es Q l.length (listed.setIfInBounds k true) a' w':=fun a' w' hC' h'=>wpAnyM_lex hs hc l (k+1) _ a' w' hl' hB' hup' hlow' hC' h'
  have hr':k∈Region.ready md ops listed:=by simpa using hr
  unfold wpMix at h
  cases hw:Region.wanted o (yielded ops a.tmps) with
  | false =>
   simp only [hw,Bool.false_eq_true,if_false] at h
   exact wpAnyM_first h0 (Region.noSelect_spec hs) (v:=undef) (fun K a' w' hC' hy hk=>by
    cases hw':Region.wanted o (yielded ops a'.tmps) with
    | false=>exact mOp_unwanted h0 hw' hk
    | true =>
     cases hE:es.contains k with
     | false=>exact hy.mOp h0 hE hk
     | true =>
      rcases hy with ⟨_,hv⟩ | ⟨hx,_⟩
      ·unfold mOp
       simp only [h0,hw',if_true,hE]
       have h3:=hv w' hC'
       unfold pureAt at h3;unfold effAt;generalize (execOp a'.eval o).run P w'=r at *
       cases r with
       | ok n w2 =>
        cases n<;>simp only [pureUpon] at h3<;>simp only [effUpon]
        case value u=>rw [h3.1,h3.2];exact ⟨hC',hk⟩
        case skip=>rw [h3.1];exact ⟨hC',hk⟩
       | halt x w2=>simp only [pureUpon] at h3
      ·rw [hw'] at hx;cases hx) l.length listed a w (Region.free_spec h0 hf) hr' hC (.inr ⟨hw,rfl⟩) (go _ _ hC h)
  | true =>
   simp only [hw,if_true] at h
   cases hE:es.contains k with
   | false =>
    simp only [hE,Bool.false_eq_true,if_false] at h
    obtain ⟨v,hv,hk⟩:=h
    exact wpAnyM_first h0 (Region.noSelect_spec hs) (fun K a' w' _ hy hk=>hy.mOp h0 hE hk) l.length listed a w (Region.free_spec h0 hf) hr' hC (.inl ⟨hw,hv⟩) (go _ _ hC hk)
   | true =>
    simp only [hE,if_true] at h
    refine wpAnyM_act h0 (Region.noSelect_spec hs) hE (fun j hj hkj=>?_) l.length listed a w (Region.free_spec h0 hf) (fun j hj hkj=>?_) hlow hr' hw hC (effUpon_mono (fun v w' h'=>⟨h'.1,go _ _ h'.1 h'.2⟩) h)
    ·obtain ⟨p,hp,rest⟩:=chainB_spec es hc k j (by simpa using hE) (by simpa using hj) hkj
     exact ⟨p,by simpa using hp,rest⟩
    ·obtain ⟨p,_,_,_,oj,hoj,_⟩:=chainB_spec es hc k j (by simpa using hE) (by simpa using hj) hkj
     exact hup j (by omega) (Array.getElem?_eq_some_iff.1 hoj).1
theorem wp_region_mix {id:Nat} {Q:Exit->Act->World->Prop} {a:Act} {w:World} {l:List Oper} (es:List Nat) (C:World->Prop) (hm:P.follows .mixedOrders=true) (hB:Region.lexB .any l.toArray=true) (hc:chainB .any l.toArray es=true) (hC:C w.drew)
  (h:wpMix P l.toArray C es (fun a' w'=>Q .normal a' w') 0 l a w.drew):(Code.region id l.toArray true).wp P Q a w:=by
 simp only [Region.lexB,Bool.and_eq_true] at hB
 refine wp_region_any hm (wpAny_of_mix (C:=C) (es:=es) (Q:=fun a' w'=>Q .normal a' w') (fun _ w' _ h=>h) _ _ _ _ hC ?_)
 have hup:∀ j,0<=j->j<l.toArray.size->(Array.replicate l.toArray.size false).getD j true=false:=fun j _ hj=>by
  have hj':j<l.length:=by simpa using hj
  simp [hj']
 have:=wpAnyM_lex (C:=C) (md:=.any) hB.1 hc l 0 (Array.replicate l.toArray.size false) a w.drew (by simp) (by simpa using hB.2) hup (fun j hj=>by omega) hC h
 simpa using this
theorem wanted_free {o:Oper} (hgd:o.guard=none) (x:Nat->Option Bool):Region.wanted o x=true:=by simp [Region.wanted,hgd]
theorem run_val_not (s:Sem Value) (w:World) (f:FuncId) (args:Array Value) (w':World):(do pure (Next.value (<- s)):Sem Next).run P w≠.ok (.enter f args) w':=by
 intro h;rw [Sem.run_bind] at h
 cases hr:s.run P w with
 | ok v w2=>rw [hr] at h;simp [Result.andThen] at h
 | halt x w2=>rw [hr] at h;simp [Result.andThen] at h
theorem run_unit_not (s:Sem Unit) (w:World) (f:FuncId) (args:Array Value) (w':World):(do s;pure Next.skip:Sem Next).run P w≠.ok (.enter f args) w':=by
 intro h;rw [Sem.run_bind] at h
 cases hr:s.run P w with
 | ok v w2=>rw [hr] at h;simp [Result.andThen] at h
 | halt x w2=>rw [hr] at h;simp [Result.andThen] at h
def plainOp (o:Oper):Bool:=match o.op with
 | .call _ | .go _ | .defer _ | .nilCheck _ | .pick .. | .send .. | .recv .. | .select ..=>false
 | _=>true
theorem run_not_enter (o:Oper) (h:plainOp o=true) (ρ:Operand->Value) (w:World) (f:FuncId) (args:Array Value) (w':World):(execOp ρ o).run P w≠.ok (.enter f args) w':=by
 cases hop:o.op<;>simp only [plainOp,hop] at h<;>simp only [execOp,hop]<;>first
  | exact absurd h Bool.false_ne_true
  | exact run_val_not _ _ _ _ _
  | exact run_unit_not _ _ _ _ _
  | simp
theorem pure_of_plain {o:Oper} {a:Act} (h:plainOp o=true) (v:Value) (w:World) (hq:o.quietAt P a C w v):pureAt P o a w v:=by
 have hn:=run_not_enter (P:=P) o h a.eval w
 unfold Oper.quietAt at hq;unfold pureAt;generalize (execOp a.eval o).run P w=r at *
 cases r with
 | ok n w' =>
  cases n<;>simp only [Oper.quietUpon] at hq<;>simp only [pureUpon]
  case value u=>exact hq
  case skip=>exact hq
  case enter f args=>exact hn f args w' rfl
 | halt x w'=>simp only [Oper.quietUpon] at hq
theorem mix_pure {Q:Act->World->Prop} {k:Nat} {o:Oper} {rest:List Oper} {a:Act} {w:World} (hgd:o.guard=none) (hE:es.contains k=false) (hp:plainOp o=true)
  (h:∀ K:Act->Prop,(∀ a',wpMix P ops C es Q (k+1) rest a' w->K a')->o.quiet P a C K):wpMix P ops C es Q k (o::rest) a w:=by
 unfold wpMix;rw [if_pos (wanted_free hgd _),hE]
 obtain ⟨v,h1,h2⟩:=h _ (fun _ h=>h)
 exact ⟨v,fun w hw=>pure_of_plain hp v w (h1 w hw),h2⟩
theorem mix_act {Q:Act->World->Prop} {k:Nat} {o:Oper} {rest:List Oper} {a:Act} {w:World} (hgd:o.guard=none) (hE:es.contains k=true)
  (h:∀ K:Act->World->Prop,(∀ a' w',a'.defers=a.defers->C w'->wpMix P ops C es Q (k+1) rest a' w'->K a' w')->o.wp P a w K (fun _ _ _=>False)):wpMix P ops C es Q k (o::rest) a w:=by
 unfold wpMix;rw [if_pos (wanted_free hgd _),if_pos hE]
 have h1:=h (fun a' w'=>a'.defers=a.defers/\C w'/\wpMix P ops C es Q (k+1) rest a' w') (fun a' w' h1 h2 h3=>⟨h1,h2,h3⟩)
 unfold Oper.wp at h1;unfold effAt;generalize (execOp a.eval o).run P w=r at *
 cases r with
 | ok n w' =>
  cases n<;>simp only [Oper.upon] at h1<;>simp only [effUpon]
  case value u=>exact h1.2
  case skip=>exact h1.2
  case defer d =>
   have h2:=h1.1
   have h3:(({ a with defers:=d::a.defers }:Act).put o.dst undef).defers=d::a.defers:=by
    unfold Act.put;split<;>rfl
   rw [h3] at h2
   have:=congrArg List.length h2
   simp at this
  case enter f args =>
   refine h1.mono fun e w'' he=>?_
   cases e with
   | returned v=>exact ⟨v,rfl,he.2⟩
   | panicked c=>exact he.elim
   | outgrown=>obtain ⟨_,_,hf⟩:=he;exact hf.elim
  case row row args=>exact h1.mono fun v w'' he=>he.2
 | halt x w'=>cases x<;>simp only [Oper.upon] at h1
theorem mix_nilCheck {Q:Act->World->Prop} {k:Nat} {o:Oper} {rest:List Oper} {a:Act} {w:World} (hgd:o.guard=none) (hE:es.contains k=false) (x:Operand) (ad:Addr) (ho:o.op=.nilCheck x) (hx:a.eval x=.pointer (some ad))
  (h:wpMix P ops C es Q (k+1) rest (a.put o.dst (.pointer (some ad))) w):wpMix P ops C es Q k (o::rest) a w:=by
 unfold wpMix;rw [if_pos (wanted_free hgd _),hE]
 refine ⟨_,fun w _=>?_,h⟩
 unfold pureAt
 simp only [execOp,ho,hx]
 exact ⟨rfl,rfl⟩
theorem mix_nil {Q:Act->World->Prop} {k:Nat} {a:Act} {w:World} (h:Q a w):wpMix P ops C es Q k [] a w:=h
end
def Sl (w:World) (e:TypeId) (size:Nat) (v:Value) (n:Nat) (xs:List Value):Prop:=w.ownsRow 0 e size v n xs
section
variable {w w' : World} {e : TypeId} {size : Nat} {v : Value} {n : Nat} {xs : List Value} {S : Nat -> Prop}
theorem Sl.nil (w:World) (e:TypeId) (size:Nat):Sl w e size (.slice none 0 0) 0 []:=World.ownsRow_nil w 0 e size
theorem Sl.mods (h:Sl w e size v n xs) (m:Mods S w w') (hS:∀ k,v.ownBlock=some k->¬ S k):Sl w' e size v n xs:=by
 refine ⟨h.1,?_⟩
 rcases h.2 with hn | ⟨g,cap,cur,rfl,hb,hg,rest⟩
 ·exact .inl hn
 ·exact .inr ⟨g,cap,cur,rfl,hb,(m.block g (Array.getElem?_eq_some_iff.1 hg).1 (hS g rfl)).trans hg,rest⟩
theorem Sl.lt (h:Sl w e size v n xs) (k:Nat) (hk:v.ownBlock=some k):k<w.heap.size:=(World.ownsRow.lt h k hk).2
theorem Sl.view (h:Sl w e size v n xs):∃ o cap,v=.slice o n cap/\(0<n->∃ g cs,o=some ⟨g,0,none⟩/\Blk w g cs e/\cs.toList.take (n*size)=xs/\n<=cap/\cap<=maxLen):=by
 rcases h.2 with ⟨rfl,rfl⟩ | ⟨g,cap,cur,rfl,_,hg,hn,hm,_,ht⟩
 ·exact ⟨none,0,rfl,fun h=>absurd h (by omega)⟩
 ·exact ⟨_,cap,rfl,fun _=>⟨g,cur,rfl,hg,ht,hn,hm⟩⟩
theorem Mods.of_grown {row:Option Nat} (h:w.grownBy w' row):Mods (fun k=>row=some k) w w' :=
 ⟨h.os,h.tape,h.output,h.size,fun k hk hs=>h.block k hk (fun e=>hs e.symm)⟩
theorem run_append_sl {P:Program} (w:World) (t ty e:TypeId) (i:TypeInfo) (z:Value) (size bytes:Nat) (ht:P.underlying t=some (.slice e)) (hi:P.info? e=some i) (hz:i.zero=some z)
  (hsize:i.size=size) (hby:i.bytes=bytes) (hzs:z.cells.size=size) (hsz:0<size)
  (v:Value) (n:Nat) (xs:List Value) (hown:Sl w e size v n xs)
  (a:Addr) (m c:Nat) (news:List Value) (hl:news.length=m*size) (hnews:∀ j u,news[j]?=some u->w.cell? (a.add j)=some u) (h1:∀ u∈news,u.oneCell'=true)
  (h63:n+m<=maxLen) (hbytes:(n+m)*bytes<=140737488355328) :
  ∃ v' w',(Builtin.append_ #[t,t] ty #[v,.slice (some a) m c]).run P w=.ok v' w'/\Sl w' e size v' (n+m) (xs++news)/\Mods (fun k=>v.ownBlock=some k) w w' /\
   (∀ k,v'.ownBlock=some k->v.ownBlock=some k\/w.heap.size<=k):=by
 obtain ⟨v',w',hr,h2,h3,_⟩:=run_append_own (P:=P) w 0 t ty e i z size bytes ht hi hz hsize hby hzs hsz v n xs hown a m c news hl hnews h1 h63 hbytes (Nat.zero_le _)
 refine ⟨v',w',hr,h2,Mods.of_grown h3,?_⟩
 intro k hk
 rcases hown.2 with ⟨rfl,rfl⟩ | ⟨g,cap,cur,rfl,_,hg,hn,hm,hcs,htk⟩
 ·obtain ⟨v2,w2,hr2,h22,_⟩:=run_append_own (P:=P) w w.heap.size t ty e i z size bytes ht hi hz hsize hby hzs hsz _ 0 xs ⟨hown.1,.inl ⟨rfl,rfl⟩⟩ a m c news hl hnews h1 h63 hbytes (Nat.le_refl _)
  rw [hr] at hr2
  cases hr2
  exact .inr (World.ownsRow.lt h22 k hk).1
 ·by_cases hroom:n+m<=cap
  ·have hfit:n*i.size+news.length<=cur.size:=by rw [hl,hcs,hsize,<- Nat.add_mul];exact Nat.mul_le_mul_right _ hroom
   have hr2:=run_append_room (P:=P) w t ty e i ht hi g n cap cur hg a m c news (by rw [hl,hsize]) hnews h1 hroom hfit
   rw [hr] at hr2
   cases hr2
   exact .inl hk
  ·obtain ⟨v2,w2,hr2,h22,_⟩:=run_append_arg_grows (P:=P) w t ty e i z size bytes ht hi hz hsize hby hzs hsz ⟨g,0,none⟩ n cap xs hown.1 (World.ownsRow.cells hown (g:=g) rfl) a m c news hl hnews (by omega) h63 hbytes
   rw [hr] at hr2
   cases hr2
   exact .inr (World.ownsRow.lt h22 k hk).1
theorem wp_append_sl {P:Program} (w:World) {o:Oper} {a:Act} {K:Act->World->Prop} {Q:Exit->Act->World->Prop} (s x:Operand) (t:TypeId)
  (ho:o.op=.call { callee:=.builtin .append,args:=#[s,x],argTypes:=#[t,t] })
  (e:TypeId) (i:TypeInfo) (z:Value) (size bytes:Nat) (ht:P.underlying t=some (.slice e)) (hi:P.info? e=some i) (hz:i.zero=some z)
  (hsize:i.size=size) (hby:i.bytes=bytes) (hzs:z.cells.size=size) (hsz:0<size)
  (v:Value) (n:Nat) (xs:List Value) (hs:a.eval s=v) (hown:Sl w e size v n xs)
  (ad:Addr) (m c:Nat) (news:List Value) (hx:a.eval x=.slice (some ad) m c) (hl:news.length=m*size) (hnews:∀ j u,news[j]?=some u->w.cell? (ad.add j)=some u) (h1:∀ u∈news,u.oneCell'=true)
  (h63:n+m<=maxLen) (hbytes:(n+m)*bytes<=140737488355328)
  (h:∀ v' w',Sl w' e size v' (n+m) (xs++news)->Mods (fun k=>v.ownBlock=some k) w w'->(∀ k,v'.ownBlock=some k->v.ownBlock=some k\/w.heap.size<=k)->K (a.put o.dst v') w'):o.wp P a w K Q:=by
 obtain ⟨v',w',hr,h2,h3,h4⟩:=run_append_sl (P:=P) w t o.type e i z size bytes ht hi hz hsize hby hzs hsz v n xs hown ad m c news hl hnews h1 h63 hbytes
 unfold Oper.wp execOp
 simp only [ho,resolve,invoke,builtin,Sem.run_bind,Sem.run_pure,Result.andThen_ok,List.map_toArray,List.map_cons,List.map_nil,hs,hx,hr]
 exact h v' w' h2 h3 h4
theorem wpList_append_sl {P:Program} (w:World) {ops:Array Oper} {rest:List Oper} {o:Oper} {a:Act} {Q:Exit->Act->World->Prop} (hgd:o.guard=none) (s x:Operand) (t:TypeId)
  (ho:o.op=.call { callee:=.builtin .append,args:=#[s,x],argTypes:=#[t,t] })
  (e:TypeId) (i:TypeInfo) (z:Value) (size bytes:Nat) (ht:P.underlying t=some (.slice e)) (hi:P.info? e=some i) (hz:i.zero=some z)
  (hsize:i.size=size) (hby:i.bytes=bytes) (hzs:z.cells.size=size) (hsz:0<size)
  (v:Value) (n:Nat) (xs:List Value) (hs:a.eval s=v) (hown:Sl w e size v n xs)
  (ad:Addr) (m c:Nat) (news:List Value) (hx:a.eval x=.slice (some ad) m c) (hl:news.length=m*size) (hnews:∀ j u,news[j]?=some u->w.cell? (ad.add j)=some u) (h1:∀ u∈news,u.oneCell'=true)
  (h63:n+m<=maxLen) (hbytes:(n+m)*bytes<=140737488355328)
  (h:∀ v' w',Sl w' e size v' (n+m) (xs++news)->Mods (fun k=>v.ownBlock=some k) w w'->(∀ k,v'.ownBlock=some k->v.ownBlock=some k\/w.heap.size<=k)->wpList P ops Q rest (a.put o.dst v') w'):wpList P ops Q (o::rest) a w :=
 wpList_plain hgd fun _ hK=>wp_append_sl w s x t ho e i z size bytes ht hi hz hsize hby hzs hsz v n xs hs hown ad m c news hx hl hnews h1 h63 hbytes fun v' w' h2 h3 h4=>hK _ _ (h v' w' h2 h3 h4)
end
theorem flat_get {α:Type} (f:α->List Value) (c:Nat) (hf:∀ x,(f x).length=c):∀ (l:List α) (i j:Nat) (hi:i<l.length),j<c->(l.flatMap f)[i*c+j]?=(f l[i])[j]?
 | x::l,0,j,_,hj=>by
  rw [List.flatMap_cons,List.getElem?_append_left (by rw [hf];omega)];simp
 | x::l,i+1,j,hi,hj=>by
  rw [List.flatMap_cons,List.getElem?_append_right (by rw [hf,Nat.add_mul];omega),hf]
  have:(i+1)*c+j - c=i*c+j:=by rw [Nat.add_mul];omega
  rw [this,flat_get f c hf l i j (by simpa using hi) hj]
  simp
theorem flat_len {α:Type} (f:α->List Value) (c:Nat) (hf:∀ x,(f x).length=c) (l:List α):(l.flatMap f).length=l.length*c:=by
 induction l with
 | nil=>simp
 | cons x l ih=>rw [List.flatMap_cons,List.length_append,hf,ih,List.length_cons,Nat.add_mul];omega
theorem take_cell {w:World} {g:Nat} {cs:Array Value} {e:TypeId} {k:Nat} {xs:List Value} (hb:Blk w g cs e) (ht:cs.toList.take k=xs) (j:Nat) (hj:j<k):w.cell? ⟨g,j,none⟩=xs[j]?:=by
 rw [hb.cell j,<- ht,List.getElem?_take,if_pos hj];simp
theorem flat_set {α:Type} (f:α->List Value) (c:Nat) (hf:∀ x,(f x).length=c):∀ (l:List α) (k j:Nat) (hk:k<l.length) (_:j<c) (v:Value) (y:α) (_:(f l[k]).set j v=f y),(l.flatMap f).set (k*c+j) v=(l.set k y).flatMap f
 | x::l,0,j,_,hj,v,y,hy=>by
  have hl:=hf x
  simp only [List.getElem_cons_zero] at hy
  rw [List.flatMap_cons,List.set_cons_zero,List.flatMap_cons,<- hy,Nat.zero_mul,Nat.zero_add,List.set_append,if_pos (by omega)]
 | x::l,k+1,j,hk,hj,v,y,hy=>by
  have hl:=hf x
  have e:(k+1)*c+j=c+(k*c+j):=by rw [Nat.add_mul];omega
  rw [List.flatMap_cons,List.set_cons_succ,List.flatMap_cons,<- flat_set f c hf l k j (by simpa using hk) hj v y (by simpa using hy),List.set_append,if_neg (by omega),e,hl,show c+(k*c+j) - c=k*c+j by omega]
theorem Sl.notBlk {w:World} {e e':TypeId} {size n k:Nat} {v:Value} {xs:List Value} {cs:Array Value} (h:Sl w e size v n xs) (hb:Blk w k cs e') (he:e≠e'):v.ownBlock≠some k:=by
 intro hk
 rcases h.2 with ⟨rfl,rfl⟩ | ⟨g,cap,cur,rfl,_,hg,_⟩
 ·cases hk
 ·cases hk
  unfold Blk at hb;rw [hg] at hb
  cases hb
  exact he rfl
theorem Sl.apart {w:World} {e e':TypeId} {size size' n n' k:Nat} {v v':Value} {xs xs':List Value} (h:Sl w e size v n xs) (h':Sl w e' size' v' n' xs') (he:e≠e') (hk:v.ownBlock=some k):v'.ownBlock≠some k:=by
 rcases h.2 with ⟨rfl,rfl⟩ | ⟨g,cap,cur,rfl,_,hg,_⟩
 ·cases hk
 ·cases hk
  exact h'.notBlk hg (Ne.symm he)
def nameB (l:List UInt8):Bool :=
 decide (l.length<=16)&&(match l with | []=>false | c::_=>smallB (c.toNat:Int))&&l.all (fun c=>partB (c.toNat:Int))
theorem isEmpty_of_pos {s:ByteArray} (h:0<s.size):s.toList.isEmpty=false:=by
 rw [ByteArray.toList_eq,List.isEmpty_eq_false_iff_exists_mem]
 exact ⟨s.data[0]'h,by simp⟩
theorem isEmpty_of_zero {s:ByteArray} (h:s.size=0):s.toList.isEmpty=true:=by
 rw [ByteArray.toList_eq]
 have:s.data=#[]:=Array.eq_empty_of_size_eq_zero h
 simp [this]
theorem nameB_of {s:ByteArray} (h:0<s.size):nameB s.data.toList=(decide (s.size<=16)&&smallB (s[0].toNat:Int)&&s.data.toList.all (fun c=>partB (c.toNat:Int))):=by
 have e:s.data.toList=s[0]::s.data.toList.tail:=by
  have:s.data.toList≠[]:=by intro h';have:=congrArg List.length h';simp at this;have h2:s.size=s.data.size:=rfl;rw [h2,this] at h;simp at h
  conv=>lhs;rw [<- List.cons_head_tail this]
  congr 1
  rw [List.head_eq_getElem];rfl
 have hl:s.data.toList.length=s.size:=by simp
 unfold nameB;rw [hl]
 conv=>lhs;rw [e]
 conv=>rhs;rw [e]
theorem nameB_zero {s:ByteArray} (h:s.size=0):nameB s.data.toList=false:=by
 have:s.data=#[]:=Array.eq_empty_of_size_eq_zero h
 simp [this,nameB]
theorem take_snoc (s:ByteArray) (k:Nat) (h:k<s.size):s.data.toList.take (k+1)=s.data.toList.take k++[s[k]]:=by
 rw [List.take_succ_eq_append_getElem (by simpa using h)];rfl
theorem all_of_not {s:ByteArray} {p:UInt8->Bool} {k:Nat} (h:k<s.size) (hp:p s[k]=false):s.data.toList.all p=false:=by
 rw [List.all_eq_false]
 exact ⟨s[k],by rw [<- Array.mem_def];exact Array.getElem_mem h,by simp [hp]⟩
theorem ret_bool {a b:Bool} (h:a=b):Ending.returned (.bool a)=.returned (.bool b):=by rw [h]
def T (l:List UInt8):ByteArray:=⟨l.toArray⟩
def placeM (s:ByteArray):List ByteArray->Int
 | []=>-1
 | x::l=>if x=s then 0 else if placeM s l<0 then -1 else placeM s l+1
theorem placeM_none (s:ByteArray):∀ (l:List ByteArray),(∀ j,(hj:j<l.length)->l[j]≠s)->placeM s l=-1
 | [],_=>rfl
 | x::l,h=>by
  have h0:x≠s:=h 0 (by simp)
  have ih:=placeM_none s l (fun j hj=>h (j+1) (by simp;omega))
  simp [placeM,h0,ih]
theorem placeM_at (s:ByteArray):∀ (l:List ByteArray) (k:Nat) (hk:k<l.length),(∀ j,(hj:j<l.length)->j<k->l[j]≠s)->l[k]=s->placeM s l=k
 | x::l,0,_,_,h=>by simp at h;simp [placeM,h]
 | x::l,k+1,hk,h,he=>by
  have h0:x≠s:=h 0 (by simp) (by omega)
  have ih:=placeM_at s l k (by simpa using hk) (fun j hj hjk=>h (j+1) (by simp;omega) (by omega)) (by simpa using he)
  simp [placeM,h0,ih];omega
theorem toList_inj {a b:ByteArray} (h:a.toList=b.toList):a=b:=by
 rw [ByteArray.toList_eq,ByteArray.toList_eq] at h
 cases a;cases b;simpa using h
theorem str_ne {a b:ByteArray} (h:a≠b):(a.toList==b.toList)=false:=by
 rw [beq_eq_false_iff_ne];exact fun e=>h (toList_inj e)
theorem str_eq {a b:ByteArray} (h:a=b):(a.toList==b.toList)=true:=by simp [h]
theorem ret_i64 {a b:Int} (h:a=b):Ending.returned (.int .i64 a)=.returned (.int .i64 b):=by rw [h]
def BL (b:ByteArray):List UInt8:=b.data.toList
theorem T_BL (b:ByteArray):T (BL b)=b:=rfl
theorem BL_len (b:ByteArray):(BL b).length=b.size:=rfl
theorem Mods.of_nil {S:Nat->Prop} {w w':World} (h:Mods Nil' w w'):Mods S w w':=h.mono (fun _ _ e=>e.elim)
theorem lit_ne {a:ByteArray} {l:List UInt8} (h:a≠T l):(a.toList==l)=false:=by
 have:=str_ne h;simpa [T] using this
theorem lit_eq {a:ByteArray} {l:List UInt8} (h:a=T l):(a.toList==l)=true:=by
 rw [h];simp [T]
theorem ba_ne {a b:ByteArray} (h:a≠b):(a==b)=false:=by
 cases c:(a==b) with
 | false=>rfl
 | true=>exact absurd ((MapKept.bytes_beq a b).1 c) h
theorem ba_self (a:ByteArray):(a==a)=true:=(MapKept.bytes_beq a a).2 rfl
def kvFind (s:ByteArray):List (ByteArray × Value)->Nat->Option (Nat × Value)
 | [],_=>none
 | (k,v)::l,i=>if s==k then some (i,v) else kvFind s l (i+1)
def entC (e:MapEntry):Value × Value:=(e.key,e.val)
def kvC (p:ByteArray × Value):Value × Value:=(.string p.1,p.2)
theorem findNow_str (s:ByteArray):∀ (l:List MapEntry) (kv:List (ByteArray × Value)) (i:Nat),l.map entC=kv.map kvC->Instr.findNow .string (.string s) l i=some (kvFind s kv i)
 | [],[],_,_=>rfl
 | [],_::_,_,h=>by simp at h
 | _::_,[],_,h=>by simp at h
 | e::l,(k,v)::kv,i,h=>by
  rw [List.map_cons,List.map_cons] at h
  injection h with h1 h2
  injection h1 with h3 h4
  unfold Instr.findNow kvFind;rw [h3]
  simp only [Instr.sameNow]
  by_cases c:(s==k)=true
  ·rw [c];simp only [if_true];rw [h4]
  ·have c':(s==k)=false:=by simpa using c
   rw [c']
   simp only [Bool.false_eq_true,if_false]
   exact findNow_str s l kv (i+1) h2
theorem kvFind_val (s:ByteArray):∀ (kv:List (ByteArray × Value)) (i:Nat),(kvFind s kv i).map (·.2)=(kv.find? (fun p=>s==p.1)).map (·.2)
 | [],_=>rfl
 | (k,v)::kv,i=>by
  unfold kvFind;rw [List.find?_cons]
  by_cases c:(s==k)=true
  ·simp [c]
  ·have c':(s==k)=false:=by simpa using c
   simp only [c',Bool.false_eq_true,if_false]
   exact kvFind_val s kv (i+1)
def MapOf (w:World) (b:Nat) (f:ByteArray->Option Value):Prop:=∃ (es:Array MapEntry) (clock:Nat) (kv:List (ByteArray × Value)),w.heap[b]?=some (.map es clock)/\es.toList.map entC=kv.map kvC/\∀ s,(kv.find? (fun p=>s==p.1)).map (·.2)=f s
theorem MapOf.new (w:World):MapOf (w.alloc (.map #[] 0)) w.heap.size (fun _=>none):=⟨#[],0,[],heap_alloc_new w _,rfl,fun _=>rfl⟩
theorem MapOf.lt {w:World} {b:Nat} {f:ByteArray->Option Value} (h:MapOf w b f):b<w.heap.size:=by
 obtain ⟨_,_,_,hb,_⟩:=h
 exact (Array.getElem?_eq_some_iff.1 hb).1
theorem MapOf.mods {w w':World} {b:Nat} {f:ByteArray->Option Value} {S:Nat->Prop} (h:MapOf w b f) (m:Mods S w w') (hS:¬ S b):MapOf w' b f:=by
 have hl:=h.lt
 obtain ⟨es,clock,kv,hb,h2⟩:=h
 exact ⟨es,clock,kv,(m.block b hl hS).trans hb,h2⟩
theorem MapOf.notBlk {w:World} {b g:Nat} {f:ByteArray->Option Value} {cs:Array Value} {t:TypeId} (h:MapOf w b f) (hb:Blk w g cs t):g≠b:=by
 intro e;subst e;obtain ⟨_,_,_,h1,_⟩:=h
 have:w.heap[g]?=some (.cells cs t (0,0)):=hb
 rw [h1] at this
 cases this
theorem MapOf.lookup {P:Program} {w:World} {b:Nat} {f:ByteArray->Option Value} (h:MapOf w b f) {t kt et:TypeId} (hm:P.underlying t=some (.map kt et)) (hk:P.underlying kt=some .string) {z:Value} (hz:(zeroValue et).run P w=.ok z w) (s:ByteArray) :
  (Instr.lookup t (.map (some b)) (.string s) true).run P w=.ok (.tuple #[(f s).getD z,.bool (f s).isSome]) w:=by
 obtain ⟨es,clock,kv,hb,he,hf⟩:=h
 have hc:(Instr.checkKey es.isEmpty 10000 kt (.string s)).run P w=.ok () w:=MapKept.run_checkKey (k:=.string s) hk (by simp [MapKept.IsKey]) _ 9999
 have hfn:=MapKept.run_findKey (P:=P) (w:=w) hk (findNow_str s es.toList kv 0 he)
 have hv:=kvFind_val s kv 0
 rw [hf s] at hv;unfold Instr.lookup
 simp only [Sem.run_bind,run_underlying hm,MapKept.run_getObj_map hb,hc,hfn,Result.andThen,Sem.run_pure]
 cases hq:kvFind s kv 0 with
 | none =>
  rw [hq] at hv;rw [<- hv]
  simp [hz,Result.andThen]
 | some q =>
  rw [hq] at hv;rw [<- hv]
  simp
theorem kvFind_at (s:ByteArray):∀ (kv:List (ByteArray × Value)) (i j:Nat) (v:Value),kvFind s kv i=some (j,v)->∃ n,j=i+n/\n<kv.length/\(∃ v',kv[n]?=some (s,v'))/\∀ u s',((kv.set n (s,u)).find? (fun p=>s'==p.1)).map (·.2)=if s'=s then some u else (kv.find? (fun p=>s'==p.1)).map (·.2)
 | [],_,_,_,h=>by simp [kvFind] at h
 | (k,w)::kv,i,j,v,h=>by
  unfold kvFind at h
  by_cases c:(s==k)=true
  ·rw [if_pos c] at h
   cases h
   have e:s=k:=(MapKept.bytes_beq s k).1 c
   subst e
   refine ⟨0,rfl,by simp,⟨w,rfl⟩,fun u s'=>?_⟩
   rw [List.set_cons_zero,List.find?_cons,List.find?_cons]
   by_cases d:s'=s
   ·subst d;simp [ba_self]
   ·have d':(s'==s)=false:=ba_ne d
    simp only [d',if_neg d]
  ·rw [if_neg c] at h
   obtain ⟨n,e,hn,⟨v',hv'⟩,hs⟩:=kvFind_at s kv (i+1) j v h
   refine ⟨n+1,by omega,by simpa using hn,⟨v',by simpa using hv'⟩,fun u s'=>?_⟩
   rw [List.set_cons_succ,List.find?_cons,List.find?_cons]
   by_cases d:(s'==k)=true
   ·have e:s'=k:=(MapKept.bytes_beq s' k).1 d
    subst e
    have:s'≠s:=fun e=>c (by rw [e];exact ba_self _)
    simp [this,ba_self]
   ·have d':(s'==k)=false:=by simpa using d
    simp only [d']
    exact hs u s'
theorem kvFind_none (s:ByteArray):∀ (kv:List (ByteArray × Value)) (i:Nat),kvFind s kv i=none->kv.find? (fun p=>s==p.1)=none
 | [],_,_=>rfl
 | (k,w)::kv,i,h=>by
  unfold kvFind at h
  by_cases c:(s==k)=true
  ·rw [if_pos c] at h;cases h
  ·rw [if_neg c] at h
   have c':(s==k)=false:=by simpa using c
   rw [List.find?_cons]
   simp only [c']
   exact kvFind_none s kv (i+1) h
theorem MapOf.update {P:Program} {w:World} {b:Nat} {f:ByteArray->Option Value} (h:MapOf w b f) {t kt et:TypeId} (hm:P.underlying t=some (.map kt et)) (hk:P.underlying kt=some .string) (s:ByteArray) (u:Value) :
  ∃ w',(Instr.mapUpdate t (.map (some b)) (.string s) u).run P w=.ok () w'/\MapOf w' b (fun s'=>if s'=s then some u else f s')/\Mods (fun k=>k=b) w w':=by
 obtain ⟨es,clock,kv,hb,he,hf⟩:=h
 have hlt:=(Array.getElem?_eq_some_iff.1 hb).1
 have hc:(Instr.checkKey false 10000 kt (.string s)).run P w=.ok () w:=MapKept.run_checkKey (k:=.string s) hk (by simp [MapKept.IsKey]) _ 9999
 have hfn:=MapKept.run_findKey (P:=P) (w:=w) hk (findNow_str s es.toList kv 0 he)
 have hmods:∀ o:Obj,Mods (fun k=>k=b) w { w with heap:=w.heap.setIfInBounds b o }:=fun o=>⟨rfl,rfl,rfl,by simp,fun k _ hn=>(MapKept.heap_set hb).2 k hn⟩
 cases hq:kvFind s kv 0 with
 | none =>
  rw [hq] at hfn
  refine ⟨{ w with heap:=w.heap.setIfInBounds b (.map (es.push { key:=.string s,val:=u,born:=clock }) (clock+1)) },?_,⟨_,_,kv++[(s,u)],(MapKept.heap_set hb).1,?_,fun s'=>?_⟩,hmods _⟩
  ·unfold Instr.mapUpdate
   simp [run_underlying hm,MapKept.run_getObj_map hb,hc,hfn,MapKept.run_setObj_map _ hb,Result.andThen]
  ·simp [he,entC,kvC]
  ·have hn:=kvFind_none s kv 0 hq
   rw [List.find?_append]
   by_cases d:s'=s
   ·subst d;rw [hn]
    simp [ba_self]
   ·have d':(s'==s)=false:=ba_ne d
    show _=if s'=s then some u else f s'
    rw [if_neg d,<- hf s']
    cases kv.find? (fun p=>s'==p.1) with
    | none=>simp [d']
    | some q=>simp
 | some q =>
  obtain ⟨j,v⟩:=q;rw [hq] at hfn
  obtain ⟨n,e,hn,⟨v',hv'⟩,hs⟩:=kvFind_at s kv 0 j v hq
  rw [Nat.zero_add] at e;subst e
  have hjl:j<es.size:=by
   have:=congrArg List.length he
   simp at this
   omega
  have hej:entC es[j]=kvC (s,v'):=by
   have:=congrArg (fun l:List (Value × Value)=>l[j]?) he
   simp only [List.getElem?_map,hv',Option.map_some] at this
   rw [Array.getElem?_toList,Array.getElem?_eq_getElem hjl] at this
   simpa using this
  have hkey:es[j].key=.string s:=congrArg Prod.fst hej
  have hst:(Instr.keyThatStays (((es[j]?).map (·.key)).getD (.string s)) (.string s)).run P w=.ok (.string s) w:=by
   rw [Array.getElem?_eq_getElem hjl,Option.map_some,Option.getD_some,hkey]
   exact MapKept.run_keyThatStays (d:=.string) (by simp [MapKept.IsKey])
  refine ⟨{ w with heap:=w.heap.setIfInBounds b (.map (es.modify j fun e=>{ e with key:=.string s,val:=u }) clock) },?_,⟨_,_,kv.set j (s,u),(MapKept.heap_set hb).1,?_,fun s'=>?_⟩,hmods _⟩
  ·unfold Instr.mapUpdate
   simp [run_underlying hm,MapKept.run_getObj_map hb,hc,hfn,hst,MapKept.run_setObj_map _ hb,Result.andThen]
  ·rw [List.map_set,<- he]
   refine List.ext_getElem (by simp) fun t h1 h2=>?_
   simp only [List.getElem_map,Array.getElem_toList,Array.getElem_modify,List.getElem_set]
   split
   ·rfl
   ·rfl
  ·rw [hs u s',hf s']
theorem Sl.at {w:World} {e:TypeId} {v:Value} {n:Nat} {xs:List Value} {o:Option Addr} {cap:Nat} (h:Sl w e 1 v n xs) (hv:v=.slice o n cap):∀ k,k<n->∃ g,o=some ⟨g,0,none⟩/\∀ j,j<n->w.cell? ⟨g,j,none⟩=xs[j]?:=by
 intro k hk;obtain ⟨o',cap',rfl,h2⟩:=h.view
 cases hv
 obtain ⟨g,cs,rfl,hb,ht,_⟩:=h2 (by omega)
 exact ⟨g,rfl,fun j hj=>take_cell hb ht j (by omega)⟩
theorem T_size (l:List UInt8):(T l).size=l.length:=by simp [T,ByteArray.size]
theorem T_app (l m:List UInt8):T l++T m=T (l++m):=by
 apply ByteArray.ext;simp [T]
end Go.Proofs.YtnhcaifopaeohaaGreatDoor
