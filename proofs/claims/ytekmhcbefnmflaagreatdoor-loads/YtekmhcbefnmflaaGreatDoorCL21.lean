import Derived.Great.BuildSlice
import Derived.Shelf.Strings.Cut
import Derived.Shelf.Strings.Split
import Derived.Test.YtekmhcbefnmflaaGreatDoorCL04
import Derived.Test.YtekmhcbefnmflaaGreatDoorCL13
import Derived.Test.YtekmhcbefnmflaaGreatDoorCL20
namespace Go.Proofs.YtekmhcbefnmflaaGreatDoor
open Go.RowKit Tryz
open List renaming takeWhile_cons->ab,getElem_mem->an,isPrefixOf->ao,append_assoc->ar,size_toArray->bh,length->ee
open Nat renaming le_refl->bt
open Bool renaming true->eJ,false->eE
open Decidable renaming decide->eS
open Ending renaming returned->fR
open Obj renaming cells->eR
open Option renaming none->ez,some->eC
open Value renaming string->eI,bool->fS,tuple->gb,agg->fW,pointer->ia,slice->eK
open _root_.Go renaming Value->eM,Calls->fL,bodyPost_ret->iz,Ending->kx,TypeId->gh,Oper->fY,Operand->oR,wpList_store_row->oX,wpList_load_row->pC,wpList->nB,info_parts->lO
set_option linter.all false
set_option maxRecDepth 100000
set_option maxHeartbeats 4000000
theorem Zw(wT w:tW)(v:eM)(bs:tLN)(x:tLB)(hO:aT 0 wT v bs ax)(m:aa ah wT w)(hE:Env w)(hx:ee x<=1000000):fL prog 106 #[v,eI (T x)] w λe w'=>e=fR (fS (iy x))/\aa ah w w':=by
 have HR:=ai (Pj x w hE hx);have HB:=ai (λw' m'=>LH wT w' v bs x hO (m.trans m'));have HX:af (iy x=(x==[109,97,112]||x==[102,117,110,99]||(dz x).isSome||l8 x)):=rfl;obtain⟨o,c,rfl,_⟩:=hO.sl.view;generalize iy x=rx at *;generalize(dz x).isSome=rr at *;generalize l8 x=bb at *;by_cases h1:x=[109,97,112]
 ·have hq:((T x).toList==[109,97,112])=eJ:=gi (by rw[h1]);have X9:af (rx=eJ):=by rw[af,HX.o,h1];rfl
  clear h1;go_in;go_wp2_with fail;go_ret;rw[X9.o];exact⟨rfl,aA⟩
 ·have hq:=fP (λe=>h1 (px e));have hb1:(x==[109,97,112])=eE:=by simpa using h1
  by_cases h2:x=[102,117,110,99]
  ·have hq2:((T x).toList==[102,117,110,99])=eJ:=gi (by rw[h2]);have X9:af (rx=eJ):=by rw[af,HX.o,h2];rfl
   clear h1 h2 hb1;go_in;go_wp2_with fail;go_ret;rw[X9.o];exact⟨rfl,aA⟩
  ·have hq2:=fP (λe=>h2 (px e));have hb2:(x==[102,117,110,99])=eE:=by simpa using h2
   have X9:af (rx=(rr||bb)):=by rw[af,HX.o,hb1,hb2];rfl
   clear HX hb1 hb2 h1 h2;cases rr with
   |true =>go_in;go_wp2_with fail;refine HR.o.mono ?_;rintro e w1 ⟨rfl,m1⟩;go_wp2_with fail;go_ret;rw[X9.o];exact⟨rfl,m1⟩
   |false =>go_in;go_wp2_with fail;refine HR.o.mono ?_;rintro e w1 ⟨rfl,m1⟩;go_wp2_with fail;refine(HB.o _ m1).mono ?_;rintro e w2 ⟨rfl,rfl⟩;go_wp2_with fail;go_ret;rw[X9.o];exact⟨rfl,m1⟩
def wo(w:tW):Prop:=∃m,w.cell? ⟨1,0,ez⟩=eC (vI m)
theorem cell_kept{w w':tW}(m:aa ah w w'){b i:Nat}{v:eM}(h:w.cell? ⟨b,i,ez⟩=eC v):w'.cell? ⟨b,i,ez⟩=eC v:=by
 unfold World.cell? at *;by_cases hb:b<w.heap.size
 ·simp only at *;rw[m.block b hb id];exact h
 ·simp only at h;rw[Array.getElem?_eq_none (by omega)]at h;cases h
theorem wo.ae{w w':tW}(h:wo w)(m:aa ah w w'):wo w':=by obtain⟨x,hx⟩:=h;exact⟨x,cell_kept m hx⟩
theorem wN(p:UInt8->Bool):∀l:tLB,(∀d∈l,p d=eJ)->l.takeWhile p=l
 |[],_=>rfl
 |c::l,h=>by rw[ab,iP9 (h c (by simp)),wN p l (λd hd=>h d (by simp[hd]))]
theorem index_one(l:tLB)(c:UInt8):(Lib.index l [c]=-1/\∀d∈l,d≠c)\/(∃k:Nat,Lib.index l [c]=k/\l.takeWhile (λd=>d != c)=l.take k/\k<ee l):=by
 induction l with
 |nil=>left;exact⟨rfl,by simp⟩
 |cons b l ih =>
  rw[Lib.index];by_cases h:b=c
  ·right;subst h;refine⟨0,?_,by simp[ab],by simp⟩;rw[iP9 (by simp[ao])];rfl
  ·have hp:ao [c] (b::l)=eE:=by simp only[ao,Bool.and_true,beq_eq_false_iff_ne];exact λe=>h e.symm
   rw[iN9 (by simp[hp])];rcases ih with⟨h1,h2⟩ |⟨k,h1,h2,h3⟩
   ·left;refine⟨by rw[h1];rfl,?_⟩;intro d hd;rcases List.mem_cons.1 hd with rfl|hd
    ·exact h
    ·exact h2 d hd
   ·right;refine⟨k+1,?_,?_,by simpa using h3⟩
    ·rw[h1,iN9 (by simp)];rfl
    ·rw[ab,iP9 (by simpa using h),h2];rfl
theorem VA(l:tLB)(c:UInt8):(Lib.cut l [c]).1=l.takeWhile (λd=>d != c):=by
 unfold Lib.cut;rcases index_one l c with⟨h1,h2⟩ |⟨k,h1,h2,h3⟩
 ·rw[h1,iN9 (by decide)];show l=_
  symm
  exact wN _ l (λd hd=>by simpa using h2 d hd)
 ·rw[h1,iP9 (by omega),h2];simp
theorem VB(l:tLB)(w:tW)(hM:wo w)(hl:ee l<=1000000):fL prog 184 #[eI (T l),eI ⟨#[59]⟩] w λe w'=>(∃a b,e=fR (gb #[eI (T (l.takeWhile (λd=>d != 59))),eI a,fS b]))/\aa ah w w':=by
 obtain⟨m,hm⟩:=hM;have h:=Any.strings_Cut lcu (T l) ⟨#[59]⟩ m w (by rw[bS];omega) hm;have e:∀l,(T l).data.toList=l:=λl=>by simp[T]
 rw[e,VA]at h;exact h.mono (λ_ _ ⟨he,n,hw⟩=>⟨⟨_,_,he⟩,by rw[hw];exact aA.drewN n⟩)
def pE(c:UInt8):Bool:=eS (32<=(c.toNat:Int))&&eS ((c.toNat:Int)<=126)
theorem Zx{l:tLB}(h:∀d∈l,pE d=eJ):sQ l=eC (l.takeWhile (λc=>c != 59)):=by unfold sQ;exact iP9 (List.all_eq_true.2 h)
theorem Zy{l:tLB}{k:Nat}(hk:k<ee l)(h:pE l[k]=eE):sQ l=ez:=by unfold sQ;rw[iN9];intro e;have:=List.all_eq_true.1 e l[k] (an hk);have h2:pE l[k]=eJ:=this;rw[h]at h2;cases h2
theorem BH(t:tLB)(w:tW)(hM:wo w)(hl:ee t<=1000000):fL prog 101 #[eI (T t)] w λe w'=>e=fR (gb #[fW #[eI (T ((sQ t).getD []))],fS (sQ t).isSome])/\aa ah w w':=by
 have zA:=ai (λk (hk:k<ee t) (h:pE t[k]=false)=>Zy hk h);have AY:af ((∀d∈t,pE d=eJ)->sQ t=eC (t.takeWhile (λc=>c != 59))):=Zx;have HCU:=ai (λw' h=>VB t w' h hl);have HM:=ai hM;clear hM;generalize sQ t=nl at *;generalize t.takeWhile (λc=>c != 59)=tw at *;have hs:=bS t;have fQ:=ai (ak.new w #[eI ⟨#[]⟩] 211);have dU:af (aa ah w (w.alloc (eR #[eI ⟨#[]⟩] 211))):=aq;go_in;go_wp2_with fail;go_loop [10] (λv=>∃k:Nat,k<=ee t/\v=vI k/\∀j (hj:j<k) (h:j<ee t),pE t[j]=eJ) (λv=>ee t-(intOf v).toNat)
 case atStart=>exact⟨0,Nat.zero_le _,rfl,λj hj=>absurd hj (Nat.not_lt_zero _)⟩
 case round =>
  obtain⟨k,hk,rfl,hj⟩:=hrel;have HJ:=ai hj;clear hj;by_cases hlt:k<ee t
  ·have hg:(T t)[k]'(by rw[hs];exact hlt)=t[k]:=rfl;have hb:=(t[k]).toNat_lt;have TC:af (pE t[k]=(eS (32<=((t[k]).toNat:Int))&&eS (((t[k]).toNat:Int)<=126))):=rfl;have HN:=ai (zA.o k hlt)
   have HJ2:af (pE t[k]=eJ->∀j (hj:j<k+1) (h:j<ee t),pE t[j]=eJ):=λhc j hj h=>by
    rcases Nat.lt_or_ge j k with e|e
    ·exact HJ.o j e h
    ·have:j=k:=by omega
     subst this;exact hc
   generalize CK:pE t[k]=bo at *;by_cases h1:(t[k]).toNat<32
   ·have h1':((t[k]).toNat:Int)<32:=by omega
    have HX:=ai (HN.o (by rw[TC.o,decide_eq_false (by omega)];rfl));clear HN HJ2 TC;go_wp2_with fail;refine iz (aw results101 _ _ w.heap.size 211 _ (0,0) _ _ rfl rfl fQ.o underlying211 rfl (by kernel_rfl)) rfl ⟨?_,dU.o⟩;rw[HX.o];rfl
   ·have h1':eS (((t[k]).toNat:Int)<32)=eE:=by simp;omega
    by_cases h2:126<(t[k]).toNat
    ·have h2':(126:Int)<((t[k]).toNat:Int):=by omega
     have HX:=ai (HN.o (by rw[TC.o,decide_eq_false (show ¬((t[k]).toNat:Int)<=126 by omega),Bool.and_false]));clear HN HJ2 TC;go_wp2_with fail;refine iz (aw results101 _ _ w.heap.size 211 _ (0,0) _ _ rfl rfl fQ.o underlying211 rfl (by kernel_rfl)) rfl ⟨?_,dU.o⟩;rw[HX.o];rfl
    ·have h2':eS ((126:Int)<((t[k]).toNat:Int))=eE:=by simp;omega
     have HJ3:=ai (HJ2.o (by rw[TC.o,decide_eq_true (by omega),decide_eq_true (by omega)];rfl));clear HN HJ2 TC;go_wp2_with fail;go_round
     case rel=>exact⟨k+1,by omega,by go_num,HJ3.o⟩
     case measure=>simp[intOf];omega
  ·have HX:=ai (AY.o (λd hd=>by obtain⟨j,hj,rfl⟩:=List.getElem_of_mem hd;exact HJ.o j (by omega) hj));go_wp2_with fail;refine(HCU.o _ (HM.o.ae dU.o)).mono ?_;rintro e w1 ⟨⟨sa,sb,rfl⟩,m1⟩;have DZ:=ai (fQ.o.ae m1 id);have dB:=ai (dU.o.trans m1);have z0:=DZ.o.c0;have zf:=DZ.o.frozen;clear m1 fQ dU;go_wp2_with fail;refine iz (aw results101 _ _ w.heap.size 211 _ (0,0) _ _ rfl rfl (DZ.o.set 0 _) underlying211 rfl (by kernel_rfl)) rfl ⟨?_,dB.o.set (.inr (bt _)) _⟩;rw[HX.o];rfl
def aD:bE:=⟨0,eE⟩
def Jg(k:Nat)(nm:tBA)(a b c:bE)(op:eM)(d s:Nat)(j n h:Int)(lb nn:tBA)(f:Bool):tAV :=
 #[vI k,eI nm,fS a.minus,vU ((a.v%18446744073709551616:Nat):Int),fS (eS (18446744073709551616<=a.v)),fS b.minus,vU ((b.v%18446744073709551616:Nat):Int),fS (eS (18446744073709551616<=b.v)),
  fS c.minus,vU ((c.v%18446744073709551616:Nat):Int),fS (eS (18446744073709551616<=c.v)),op,vB d,vB s,.int .i16 j,vJ n,vJ h,eI lb,eI nn,fS f]
theorem fO(k:Nat)(nm:tBA)(a b c:bE)(op:Option Addr)(d s:Nat)(j n h:Int)(lb nn:tBA)(f:Bool):(Jg k nm a b c (ia op) d s j n h lb nn f).all (·.oneCell')=eJ:=by simp[Jg,Value.oneCell']
def jx(k:Nat)(nm:tBA)(a b c:bE):tAV:=Jg k nm a b c (vO) 0 0 0 0 0 ⟨#[]⟩ ⟨#[]⟩ eE
def fJ.cells(bs:tLN)(x:fJ):tAV :=
 if x.kind=4 then Jg 4 ⟨#[]⟩ aD aD aD (vP (bs[x.x.k]?.getD 0)) x.x.r.d x.x.r.s x.x.r.jump x.x.r.num x.x.r.high (T x.x.r.label) (T x.x.r.name) x.x.fits
 else jx x.kind (T x.name) (x.ns.getD 0 aD) (x.ns.getD 1 aD) (x.ns.getD 2 aD)
def bD(w:tW)(bs:tLN)(o:Option fJ)(e:kx)(w':tW):Prop :=
 aa ah w w'/\match o with
  |some x=>e=fR (gb #[fW (x.cells bs),fS eJ])
  |none=>∃k nm a b c op d s j n h lb nn f,e=fR (gb #[fW (Jg k nm a b c (ia op) d s j n h lb nn f),fS eE])
def CL(nm:tLB)(a b c:bE)(l:tLB):Option fJ:=if aC l=[]then eC {kind:=1,name:=nm,ns:=[a,b,c]}else ez
def lY(nm:tLB)(k:Nat)(a b c:bE)(l:tLB):Option fJ :=
 if k=0 then(gT l).bind λx=>(gT x.2).bind λy=>(gT y.2).bind λz=>CL nm x.1 y.1 z.1 z.2
 else if k=1 then(gT l).bind λy=>(gT y.2).bind λz=>CL nm a y.1 z.1 z.2
 else if k=2 then(gT l).bind λz=>CL nm a b z.1 z.2
 else CL nm a b c l
theorem VC(l:tLB):gy l=if nameB (aQ l).1 then lY (aQ l).1 0 aD aD aD (aQ l).2 else ez:=by unfold gy lY CL;rfl
theorem ak.LJ{w:tW}{z i:Nat}{t:gh}{cs ds:tAV}(h:ak w z cs t)(v0 v1 v2:eM)(hd:((cs.setIfInBounds i v0).setIfInBounds (i+1) v1).setIfInBounds (i+2) v2=ds):ak (((w.setCell ⟨z,i,ez⟩ v0).setCell ⟨z,i+1,ez⟩ v1).setCell ⟨z,i+2,ez⟩ v2) z ds t:=by rw[<-hd];exact((h.set i v0).set (i+1) v1).set (i+2) v2
theorem aa.LJ{S:Nat->Prop}{w0 w:tW}{z:Nat}(h:aa S w0 w)(hz:S z\/w0.heap.size<=z)(i j k:Nat)(v0 v1 v2:eM):aa S w0 (((w.setCell ⟨z,i,ez⟩ v0).setCell ⟨z,j,ez⟩ v1).setCell ⟨z,k,ez⟩ v2) :=
 ((h.set (a:=⟨z,i,ez⟩) hz v0).set (a:=⟨z,j,ez⟩) hz v1).set (a:=⟨z,k,ez⟩) hz v2
theorem CO{P:Program}{o:fY}{a:Act}{C:tW->Prop}{K:Act->Prop}(ty:gh)(x:oR)(ho:o.op=.load ty x)(g:Nat) (hx:a.eval x=vP g) (t:gh) (cs:tAV) (d:TypeDesc) (hg:∀w,C w->w.heap[g]?=eC (eR cs t (0,0)))(hu:P.underlying ty=eC d) (hd:(match d with|.struct _|.array _ _=>eJ|_=>eE)=eJ) (hi:(P.info? ty).map (·.size)=eC cs.size)(h:K (a.put o.dst (fW cs))):o.quiet P a C K:=by refine⟨fW cs,λw hw=>?_,h⟩;unfold Oper.quietAt execOp;simp only[ho,hx,Instr.loadAt,Instr.sureAddr,Sem.run_bind,Sem.run_pure,Result.andThen_ok,run_loadVar_row w g t ty cs (0,0) d (hg w hw) hu hd hi];exact⟨rfl,rfl⟩
structure Bt(w0:tW)(I K R:Nat)(l:tLB)(nm:tBA)(a b c:bE)(w:tW):Prop where
 yU:ak w I #[eI (T l)] 211
 ln:ak w K (jx 1 nm a b c) 143
 res:ak w R (jx 0 ⟨#[]⟩ aD aD aD) 143
 md:aa ah w0 w
 lt:w0.heap.size<=I/\I≠K/\I≠R/\K≠R/\w0.heap.size<=K/\w0.heap.size<=R
theorem Bt.quiet{w0 w w':tW}{I K R:Nat}{l:tLB}{nm:tBA}{a b c:bE}(h:Bt w0 I K R l nm a b c w)(m:aa ah w w'):Bt w0 I K R l nm a b c w' :=
 ⟨h.yU.ae m id,h.ln.ae m id,h.res.ae m id,h.md.trans m,h.lt⟩
theorem Bt.read{w0 w w':tW}{I K R:Nat}{l l':tLB}{nm:tBA}{a b c:bE}(h:Bt w0 I K R l nm a b c w)(p:bG w I 0 #[eI (T l)] 211 l' w'):Bt w0 I K R l' nm a b c w':=by obtain⟨h1,h2,h3,h4,h5,h6⟩:=h.lt;exact⟨p.1.blk,h.ln.ae p.2 (λe=>h2 (show K=I from e).symm),h.res.ae p.2 (λe=>h3 (show R=I from e).symm),h.md.step p.2 (λi hi e=>by have:i=I:=e;omega),h.lt⟩
theorem VD(w:tW)(bs:tLN)(l:tLB)(hl:ee l<=1000000):fL prog 107 #[fW #[eI (T l)]] w λe w'=>bD w bs (gy l) e w':=by
 have hwl:=jY l;have HL:=ai (VC l);have zA:af (∀e w',gy l=ez->aa ah w w'->(∃nm a b c,e=fR (gb #[fW (jx 1 nm a b c),fS eE]))->bD w bs (gy l) e w'):=λe w' h1 h2 h3=>by obtain⟨nm,a,b,c,he⟩:=h3;refine⟨h2,?_⟩;rw[h1];exact⟨1,nm,a,b,c,ez,0,0,0,0,0,⟨#[]⟩,⟨#[]⟩,eE,he⟩
 have LK:af (∀e w' nm a b c,gy l=eC {kind:=1,name:=nm,ns:=[a,b,c]}->aa ah w w'->e=fR (gb #[fW (jx 1 (T nm) a b c),fS eJ])->bD w bs (gy l) e w'):=λe w' nm a b c h1 h2 h3=>by refine⟨h2,?_⟩;rw[h1];exact h3
 have Q1:=ai (λw' (h':lN w' w.heap.size 0 #[.string (T l)] 211 l)=>pV _ 0 _ _ l w' h' hl);generalize bD w bs (gy l)=LP at *;generalize gy l=mp at *;generalize nameB (aQ l).1=nb at *;generalize aQ l=wl at *;obtain⟨nm,l0⟩:=wl;dsimp only at *
 have HW0:af (Bt w w.heap.size (w.heap.size+2) (w.heap.size+1) l ⟨#[]⟩ aD aD aD ((((w.alloc (eR #[eI (T l)] 211)).alloc (eR (jx 0 ⟨#[]⟩ aD aD aD) 143)).alloc (eR (jx 0 ⟨#[]⟩ aD aD aD) 143)).setRow (w.heap.size+2) (jx 1 ⟨#[]⟩ aD aD aD))):=by
  have h2:ak ((w.alloc (eR #[eI (T l)] 211)).alloc (eR (jx 0 ⟨#[]⟩ aD aD aD) 143)) (w.heap.size+1) (jx 0 ⟨#[]⟩ aD aD aD) 143:=by
   have:=ak.new (w.alloc (eR #[eI (T l)] 211)) (jx 0 ⟨#[]⟩ aD aD aD) 143
   simpa using this
  have h3:ak (((w.alloc (eR #[eI (T l)] 211)).alloc (eR (jx 0 ⟨#[]⟩ aD aD aD) 143)).alloc (eR (jx 0 ⟨#[]⟩ aD aD aD) 143)) (w.heap.size+2) (jx 0 ⟨#[]⟩ aD aD aD) 143:=by
   have:=ak.new ((w.alloc (eR #[eI (T l)] 211)).alloc (eR (jx 0 ⟨#[]⟩ aD aD aD) 143)) (jx 0 ⟨#[]⟩ aD aD aD) 143
   simpa using this
  refine⟨ak.AZ (((ak.new w _ _).alloc _).alloc _) (by omega) _,h3.setRow _,ak.AZ (h2.alloc _) (by omega) _,(((aq.alloc _).alloc _)).setRow (.inr (by omega)) _,by omega⟩
 have YK:af (ak (((w.alloc (eR #[eI (T l)] 211)).alloc (eR (jx 0 ⟨#[]⟩ aD aD aD) 143)).alloc (eR (jx 0 ⟨#[]⟩ aD aD aD) 143)) (w.heap.size+2) (jx 0 ⟨#[]⟩ aD aD aD) 143):=by
  have:=ak.new ((w.alloc (eR #[eI (T l)] 211)).alloc (eR (jx 0 ⟨#[]⟩ aD aD aD) 143)) (jx 0 ⟨#[]⟩ aD aD aD) 143
  simpa [af]using this
 go_in;go_wp2_with (refine oX rfl 143 (.tmp 4) (.tmp 7) rfl (w.heap.size+2) (jx 1 ⟨#[]⟩ aD aD aD) rfl rfl 143 _ YK.o (by kernel_rfl) rfl (fO ..) ?_);refine(Q1.o _ ⟨HW0.o.yU,rfl⟩).mono ?_;rintro e w1 ⟨rfl,hp1⟩;have HW1:=ai (HW0.o.read hp1);clear hp1 HW0 YK Q1;generalize hK:w.heap.size+2=K at *;generalize hR:w.heap.size+1=R at *;generalize hI:w.heap.size=I at *;have k1:=HW1.o.ln.c1;have kf:=HW1.o.ln.frozen;generalize CP:w1.setCell ⟨K,1,ez⟩ (eI (T nm))=Wn;have HW2:af (Bt w I K R l0 (T nm) aD aD aD Wn):=by obtain⟨h1,h2,h3,h4,h5,h6⟩:=HW1.o.lt;rw[<-CP];exact⟨HW1.o.yU.setOther (a:=⟨K,1,ez⟩) (λe=>h2 (show K=I from e).symm) _,HW1.o.ln.set 1 _,HW1.o.res.setOther (a:=⟨K,1,ez⟩) (λe=>h4 (show K=R from e)) _,HW1.o.md.set (a:=⟨K,1,ez⟩) (.inr h5) _,HW1.o.lt⟩
 cases nb with
 |false =>
  have HZ:af (mp=ez):=HL.o;go_upto_region 5 with fail
  try rw[CP]
  clear CP k1 kf HW1;go_wp2_with (first |(refine pC rfl 143 (.tmp 4) rfl K rfl 143 (jx 1 (T nm) aD aD aD) (0,0) _ HW2.o.ln underlying143 rfl (by kernel_rfl) ?_) |(refine oX rfl 143 (.tmp 2) (.tmp 15) rfl R (jx 1 (T nm) aD aD aD) rfl rfl 143 _ HW2.o.res (by kernel_rfl) rfl (fO ..) ?_));refine iz (aw results107 _ _ R 143 _ (0,0) _ _ rfl rfl HW2.o.res.dC underlying143 rfl (by kernel_rfl)) rfl ?_;exact zA.o _ _ HZ.o (HW2.o.md.dC (.inr HW2.o.lt.2.2.2.2.2)) ⟨_,_,_,_,rfl⟩
 |true =>
  have fQ:af (lY nm 0 aD aD aD l0=mp):=HL.o.symm;go_upto_region 6 with fail
  try rw[CP]
  clear CP k1 kf HW1 HL;go_wp2_with fail;go_loopg [16] 3 (λq v wx=>∃(k:Nat) (a b c:bE) (l1:tLB),k<=3/\v=vI k/\Bt w I K R l1 (T nm) a b c wx/\lY nm k a b c l1=mp/\l1.length<=1000000/\q=3-k)
  case atStart=>exact⟨0,aD,aD,aD,l0,by omega,rfl,HW2.o,fQ.o,by omega,rfl⟩
  case round =>
   obtain⟨k,a,b,c,l1,hk,rfl,hW,hG,hl1,rfl⟩:=hrel;have HW:=ai hW;have HR:=ai hG;clear hW hG HW2 fQ;obtain rfl|rfl|rfl|rfl:k=0\/k=1\/k=2\/k=3:=by omega
   case inl =>
    have HMN:=ai (ue I 0 _ _ l1 wr ⟨HW.o.yU,rfl⟩ hl1);have HG:af (lY nm 0 a b c l1=(gT l1).bind λz=>lY nm 1 z.1 b c z.2):=by rw[af];unfold lY;rfl
    go_wp2_with fail;refine HMN.o.mono ?_;intro e w2 hn;obtain⟨n,l2,rfl,hp2,hle,hx⟩:=hn;have HW2:=ai (HW.o.read hp2);have HX:=ai hx;clear hp2 hx HMN;have k0:=HW2.o.ln.c2;have k1:=HW2.o.ln.c3;have k2:=HW2.o.ln.c4;have kf:=HW2.o.ln.frozen;generalize CP:((w2.setCell ⟨K,2,ez⟩ (fS n.minus)).setCell ⟨K,3,ez⟩ (vU ((n.v%18446744073709551616:Nat):Int))).setCell ⟨K,4,ez⟩ (fS (eS (18446744073709551616<=n.v)))=Wn
    have HW3:af (Bt w I K R l2 (T nm) n b c Wn):=by
     obtain⟨h1,h2,h3,h4,h5,h6⟩:=HW2.o.lt;rw[<-CP];refine⟨?_,ak.LJ HW2.o.ln _ _ _ rfl,?_,aa.LJ HW2.o.md (.inr h5) _ _ _ _ _ _,HW2.o.lt⟩
     ·iterate 3 refine ak.setOther ?_ (λe=>h2 (show K=I from e).symm) _
      exact HW2.o.yU
     ·iterate 3 refine ak.setOther ?_ (λe=>h4 (show K=R from e)) _
      exact HW2.o.res
    have XQ:af (bE.fB n=fW #[fS n.minus,vU ((n.v%18446744073709551616:Nat):Int),fS (eS (18446744073709551616<=n.v))]):=rfl;rw[XQ.o];generalize hu:((n.v%18446744073709551616:Nat):Int)=u at *;generalize hbg:eS (18446744073709551616<=n.v)=bg at *;cases hnl:gT l1 with
    |none =>
     have HZ:af (mp=ez):=by rw[af,<-HR.o,HG.o,hnl];rfl
     go_upto_region 11 with fail
     try rw[CP]
     clear CP k0 k1 k2 kf;go_wp2_with (first |(refine pC rfl 143 (.tmp 4) rfl K rfl 143 (jx 1 (T nm) n b c) (0,0) _ HW3.o.ln underlying143 rfl (by kernel_rfl) ?_) |(refine oX rfl 143 (.tmp 2) (.tmp 28) rfl R (jx 1 (T nm) n b c) rfl rfl 143 _ HW3.o.res (by kernel_rfl) rfl (fO ..) ?_));refine iz (aw results107 _ _ R 143 _ (0,0) _ _ rfl rfl HW3.o.res.dC underlying143 rfl (by kernel_rfl)) rfl ?_;exact zA.o _ _ HZ.o (HW3.o.md.dC (.inr HW3.o.lt.2.2.2.2.2)) ⟨_,_,_,_,rfl⟩
    |some z =>
     have hz:=HX.o z hnl;have iO:af (lY nm 1 n b c l2=mp):=by rw[af,<-HR.o,HG.o,hnl,hz];rfl
     clear hnl hz;go_upto_region 12 with fail
     try rw[CP]
     clear CP k0 k1 k2 kf;go_wp2_with fail;go_roundg 2
     case measure=>omega
     case rel=>exact⟨1,n,b,c,l2,by omega,by go_num,HW3.o,iO.o,by omega,rfl⟩
   case inr.inl =>
    have HMN:=ai (ue I 0 _ _ l1 wr ⟨HW.o.yU,rfl⟩ hl1);have HG:af (lY nm 1 a b c l1=(gT l1).bind λz=>lY nm 2 a z.1 c z.2):=by rw[af];unfold lY;rfl
    go_wp2_with fail;refine HMN.o.mono ?_;intro e w2 hn;obtain⟨n,l2,rfl,hp2,hle,hx⟩:=hn;have HW2:=ai (HW.o.read hp2);have HX:=ai hx;clear hp2 hx HMN;have k0:=HW2.o.ln.c5;have k1:=HW2.o.ln.c6;have k2:=HW2.o.ln.c7;have kf:=HW2.o.ln.frozen;generalize CP:((w2.setCell ⟨K,5,ez⟩ (fS n.minus)).setCell ⟨K,6,ez⟩ (vU ((n.v%18446744073709551616:Nat):Int))).setCell ⟨K,7,ez⟩ (fS (eS (18446744073709551616<=n.v)))=Wn
    have HW3:af (Bt w I K R l2 (T nm) a n c Wn):=by
     obtain⟨h1,h2,h3,h4,h5,h6⟩:=HW2.o.lt;rw[<-CP];refine⟨?_,ak.LJ HW2.o.ln _ _ _ rfl,?_,aa.LJ HW2.o.md (.inr h5) _ _ _ _ _ _,HW2.o.lt⟩
     ·iterate 3 refine ak.setOther ?_ (λe=>h2 (show K=I from e).symm) _
      exact HW2.o.yU
     ·iterate 3 refine ak.setOther ?_ (λe=>h4 (show K=R from e)) _
      exact HW2.o.res
    have XQ:af (bE.fB n=fW #[fS n.minus,vU ((n.v%18446744073709551616:Nat):Int),fS (eS (18446744073709551616<=n.v))]):=rfl;rw[XQ.o];generalize hu:((n.v%18446744073709551616:Nat):Int)=u at *;generalize hbg:eS (18446744073709551616<=n.v)=bg at *;cases hnl:gT l1 with
    |none =>
     have HZ:af (mp=ez):=by rw[af,<-HR.o,HG.o,hnl];rfl
     go_upto_region 11 with fail
     try rw[CP]
     clear CP k0 k1 k2 kf;go_wp2_with (first |(refine pC rfl 143 (.tmp 4) rfl K rfl 143 (jx 1 (T nm) a n c) (0,0) _ HW3.o.ln underlying143 rfl (by kernel_rfl) ?_) |(refine oX rfl 143 (.tmp 2) (.tmp 28) rfl R (jx 1 (T nm) a n c) rfl rfl 143 _ HW3.o.res (by kernel_rfl) rfl (fO ..) ?_));refine iz (aw results107 _ _ R 143 _ (0,0) _ _ rfl rfl HW3.o.res.dC underlying143 rfl (by kernel_rfl)) rfl ?_;exact zA.o _ _ HZ.o (HW3.o.md.dC (.inr HW3.o.lt.2.2.2.2.2)) ⟨_,_,_,_,rfl⟩
    |some z =>
     have hz:=HX.o z hnl;have iO:af (lY nm 2 a n c l2=mp):=by rw[af,<-HR.o,HG.o,hnl,hz];rfl
     clear hnl hz;go_upto_region 12 with fail
     try rw[CP]
     clear CP k0 k1 k2 kf;go_wp2_with fail;go_roundg 1
     case measure=>omega
     case rel=>exact⟨2,a,n,c,l2,by omega,by go_num,HW3.o,iO.o,by omega,rfl⟩
   case inr.inr.inl =>
    have HMN:=ai (ue I 0 _ _ l1 wr ⟨HW.o.yU,rfl⟩ hl1);have HG:af (lY nm 2 a b c l1=(gT l1).bind λz=>lY nm 3 a b z.1 z.2):=by rw[af];unfold lY;rfl
    go_wp2_with fail;refine HMN.o.mono ?_;intro e w2 hn;obtain⟨n,l2,rfl,hp2,hle,hx⟩:=hn;have HW2:=ai (HW.o.read hp2);have HX:=ai hx;clear hp2 hx HMN;have k0:=HW2.o.ln.c8;have k1:=HW2.o.ln.c9;have k2:=HW2.o.ln.c10;have kf:=HW2.o.ln.frozen;generalize CP:((w2.setCell ⟨K,8,ez⟩ (fS n.minus)).setCell ⟨K,9,ez⟩ (vU ((n.v%18446744073709551616:Nat):Int))).setCell ⟨K,10,ez⟩ (fS (eS (18446744073709551616<=n.v)))=Wn
    have HW3:af (Bt w I K R l2 (T nm) a b n Wn):=by
     obtain⟨h1,h2,h3,h4,h5,h6⟩:=HW2.o.lt;rw[<-CP];refine⟨?_,ak.LJ HW2.o.ln _ _ _ rfl,?_,aa.LJ HW2.o.md (.inr h5) _ _ _ _ _ _,HW2.o.lt⟩
     ·iterate 3 refine ak.setOther ?_ (λe=>h2 (show K=I from e).symm) _
      exact HW2.o.yU
     ·iterate 3 refine ak.setOther ?_ (λe=>h4 (show K=R from e)) _
      exact HW2.o.res
    have XQ:af (bE.fB n=fW #[fS n.minus,vU ((n.v%18446744073709551616:Nat):Int),fS (eS (18446744073709551616<=n.v))]):=rfl;rw[XQ.o];generalize hu:((n.v%18446744073709551616:Nat):Int)=u at *;generalize hbg:eS (18446744073709551616<=n.v)=bg at *;cases hnl:gT l1 with
    |none =>
     have HZ:af (mp=ez):=by rw[af,<-HR.o,HG.o,hnl];rfl
     go_upto_region 11 with fail
     try rw[CP]
     clear CP k0 k1 k2 kf;go_wp2_with (first |(refine pC rfl 143 (.tmp 4) rfl K rfl 143 (jx 1 (T nm) a b n) (0,0) _ HW3.o.ln underlying143 rfl (by kernel_rfl) ?_) |(refine oX rfl 143 (.tmp 2) (.tmp 28) rfl R (jx 1 (T nm) a b n) rfl rfl 143 _ HW3.o.res (by kernel_rfl) rfl (fO ..) ?_));refine iz (aw results107 _ _ R 143 _ (0,0) _ _ rfl rfl HW3.o.res.dC underlying143 rfl (by kernel_rfl)) rfl ?_;exact zA.o _ _ HZ.o (HW3.o.md.dC (.inr HW3.o.lt.2.2.2.2.2)) ⟨_,_,_,_,rfl⟩
    |some z =>
     have hz:=HX.o z hnl;have iO:af (lY nm 3 a b n l2=mp):=by rw[af,<-HR.o,HG.o,hnl,hz];rfl
     clear hnl hz;go_upto_region 12 with fail
     try rw[CP]
     clear CP k0 k1 k2 kf;go_wp2_with fail;go_roundg 0
     case measure=>omega
     case rel=>exact⟨3,a,b,n,l2,by omega,by go_num,HW3.o,iO.o,by omega,rfl⟩
   case inr.inr.inr =>
    have Zz:af (mp=if aC l1=[]then eC {kind:=1,name:=nm,ns:=[a,b,c]}else ez):=HR.o.symm;have El:=ai (λw' (h':ak w' I #[.string (T l1)] 211)=>lI I 0 _ _ l1 w' ⟨h',rfl⟩)
    have HKg:af (∀g:Ext (λk=>k=I\/k=R) wr,ak g.w K (jx 1 (T nm) a b c) 143):=λg=>HW.o.ln.ae g.m (λe=>by
     obtain⟨h1,h2,h3,h4,h5,h6⟩:=HW.o.lt;rcases e with e|e
     ·exact h2 e.symm
     ·exact h4 e)
    have HWd:=ai (HW.o.quiet aU);go_upto_region 13 with fail;refine bR [1,2] (λw'=>∃e:Ext (λk=>k=I\/k=R) wr,w'=e.w) (by kernel_rfl) (by kernel_rfl) (by kernel_rfl) ⟨⟨_,aU⟩,rfl⟩ ?_;refine aG rfl rfl rfl ?_;intro K' hK';refine CO 143 (.tmp 4) rfl K rfl 143 (jx 1 (T nm) a b c) _ (λw' ⟨g,hg⟩=>by rw[hg];exact HKg.o g) underlying143 rfl (by kernel_rfl) ?_;refine hK' _ ?_;clear hK' K';simp only[Act.put,sA9,sB9,sC9];refine aN rfl rfl ?_;intro K' hK';go_big_op;refine(El.o _ HWd.o.yU).mono ?_;rintro e w2 ⟨rfl,hp2⟩;have HW2:=ai (HWd.o.read hp2);have X2:af (aa (λk=>k=I\/k=R) wr w2):=aU.trans (hp2.2.mono (λi _ e=>.inl e));refine hK' _ _ rfl ⟨⟨_,X2.o⟩,rfl⟩ ?_;clear hK' K' hp2 HWd HW El
    try simp only[Act.put,sA9,sB9,sC9]
    refine aN rfl rfl ?_;intro K' hK';refine wp_store_row 143 (.tmp 2) (.tmp 30) rfl R (jx 1 (T nm) a b c) rfl rfl 143 _ HW2.o.res (by kernel_rfl) rfl (fO ..) ?_;refine hK' _ _ rfl ⟨⟨_,X2.o.dC (.inl (.inr rfl))⟩,rfl⟩ ?_;clear hK' K';simp only[Act.put,sA9,sB9,sC9];refine aG rfl rfl rfl ?_;intro K' hK';go_big_quiet_op;go_big_quiet_on;refine dR ?_
    try simp only[Exit.then]
    go_wp2_with fail;refine iz (aw results107 _ _ R 143 _ (0,0) _ _ rfl rfl HW2.o.res.dC underlying143 rfl (by kernel_rfl)) rfl ?_;by_cases hd:aC l1=[]
    ·rw[iP9 hd]at Zz;exact LK.o _ _ nm a b c Zz.o (HW2.o.md.dC (.inr HW2.o.lt.2.2.2.2.2)) (by rw[decide_eq_true hd];rfl)
    ·rw[iN9 hd]at Zz;exact zA.o _ _ Zz.o (HW2.o.md.dC (.inr HW2.o.lt.2.2.2.2.2)) ⟨_,_,_,_,by rw[decide_eq_false hd];rfl⟩
theorem BJ(l:tLB):aQ (aC l)=aQ l:=by unfold aQ;rw[BZ]
structure LQ(w0:tW)(I R:Nat)(l:tLB)(w:tW):Prop where
 yU:ak w I #[eI (T l)] 211
 res:ak w R (jx 0 ⟨#[]⟩ aD aD aD) 143
 md:aa ah w0 w
 lt:w0.heap.size<=I/\I≠R/\w0.heap.size<=R
theorem LQ.quiet{w0 w w':tW}{I R:Nat}{l:tLB}(h:LQ w0 I R l w)(m:aa ah w w'):LQ w0 I R l w':=⟨h.yU.ae m id,h.res.ae m id,h.md.trans m,h.lt⟩
theorem LQ.read{w0 w w':tW}{I R:Nat}{l l':tLB}(h:LQ w0 I R l w)(p:bG w I 0 #[eI (T l)] 211 l' w'):LQ w0 I R l' w':=by obtain⟨h1,h2,h3⟩:=h.lt;exact⟨p.1.blk,h.res.ae p.2 (λe=>h2 (show R=I from e).symm),h.md.step p.2 (λi hi e=>by have:i=I:=e;omega),h.lt⟩
theorem nH{t l:tLB}(h:sQ t=eC l):dP t=if aC l=[]then eC {} else if bB 58 (aQ l).2 then (if aC (bC 58 (aQ l).2)=[]/\nameB (aQ l).1=eJ/\iy (aQ l).1=eE then eC {kind:=3,name:=(aQ l).1}else ez) else if(aQ l).1=[109,97,112]then gy (aC (aQ l).2) else if(aQ l).1=[102,117,110,99]then (if nameB (aQ (aC (aQ l).2)).1=eJ/\aC (aQ (aC (aQ l).2)).2=[]then eC {kind:=2,name:=(aQ (aC (aQ l).2)).1}else ez) else(nj (aQ l).1 (aC (aQ l).2)).map λx=>{kind:=4,x:=x}:=by unfold dP;rw[h];rfl
theorem LU{t:tLB}(h:sQ t=ez):dP t=ez:=by unfold dP;rw[h];rfl
theorem iZ{t l:tLB}(h:sQ t=eC l):ee l<=ee t:=by
 unfold sQ at h;split at h
 ·cases h;exact(List.takeWhile_sublist _).length_le
 ·cases h
theorem bD.no{w w':tW}{bs:tLN}{t:tLB}{e:kx}(h:dP t=ez)(m:aa ah w w')(he:∃k nm a b c op d s j n h lb nn f,e=fR (gb #[fW (Jg k nm a b c (ia op) d s j n h lb nn f),fS eE])):bD w bs (dP t) e w':=⟨m,by rw[h];exact he⟩
theorem bD.yes{w w':tW}{bs:tLN}{t:tLB}{e:kx}{x:fJ}(h:dP t=eC x)(m:aa ah w w')(he:e=fR (gb #[fW (x.cells bs),fS eJ])):bD w bs (dP t) e w':=⟨m,by rw[h];exact he⟩
theorem Q2(wT w:tW)(v:eM)(bs:tLN)(t:tLB)(hO:aT 0 wT v bs ax)(m:aa ah wT w)(hE:Env w)(hM:wo w)(ht:ee t<=1000000)(l:tLB)(hn:sQ t=eC l)(hs:aC l≠[])(hk:bB 58 (aQ l).2=eJ):fL prog 53 #[v,eI (T t)] w λe w'=>bD w bs (dP t) e w':=by
 have xu:=ai (λw' h=>BH t w' h ht);have HM:=ai hM;have HE:=ai hE;have fQ:=ai (ak.new w (jx 0 ⟨#[]⟩ aD aD aD) 143);have dU:af (aa ah w (w.alloc (eR (jx 0 ⟨#[]⟩ aD aD aD) 143))):=aq;have LV:af (dP t=if aC (bC 58 (aQ l).2)=[]/\nameB (aQ l).1=eJ/\iy (aQ l).1=eE then eC {kind:=3,name:=(aQ l).1}else ez):=by rw[af,nH hn,iN9 hs,iP9 hk]
 have HPY:af (∀e w',(aC (bC 58 (aQ l).2)=[]/\nameB (aQ l).1=eJ/\iy (aQ l).1=eE)->aa ah w w'->e=fR (gb #[fW (jx 3 (T (aQ l).1) aD aD aD),fS eJ])->bD w bs (dP t) e w'):=λe w' h1 h2 h3=>bD.yes (x:={kind:=3,name:=(aQ l).1}) (by rw[LV.o,iP9 h1]) h2 h3;have TD:af (∀e w',¬(aC (bC 58 (aQ l).2)=[]/\nameB (aQ l).1=eJ/\iy (aQ l).1=eE)->aa ah w w'->e=fR (gb #[fW (jx 3 (T (aQ l).1) aD aD aD),fS eE])->bD w bs (dP t) e w'):=λe w' h1 h2 h3=>bD.no (by rw[LV.o,iN9 h1]) h2 ⟨3,_,_,_,_,ez,0,0,0,0,0,_,_,eE,h3⟩;have El:af (∀I w',ak w' I #[eI (T l)] 211->fL prog 102 #[vP I] w' λe w''=>e=fR (fS eE)/\bG w' I 0 #[eI (T l)] 211 (aC l) w''):=λI w' h'=>by have:=lI I 0 _ _ l w' ⟨h',rfl⟩;rw[decide_eq_false hs]at this;exact this
 have hwl:=jY l;have VE:af (∀I w',ak w' I #[eI (T (aC l))] 211->fL prog 103 #[vP I] w' λe w''=>e=fR (eI (T (aQ l).1))/\bG w' I 0 #[eI (T (aC l))] 211 (aQ l).2 w''):=λI w' h'=>by have:=iA I 0 _ _ (aC l) w' ⟨h',rfl⟩ (by have:=iL l;have:=iZ hn;omega);rw[BJ]at this;exact this
 have pW:af (∀I w',ak w' I #[eI (T (aQ l).2)] 211->fL prog 104 #[vP I,vB 58] w' λe w''=>e=fR (fS eJ)/\bG w' I 0 #[eI (T (aQ l).2)] 211 (bC 58 (aQ l).2) w''):=λI w' h'=>by have:=iY I 0 _ _ (aQ l).2 58 w' ⟨h',rfl⟩ (by have:=iZ hn;omega);rw[hk]at this;exact this
 have HD2:=ai (λI w' (h':ak w' I #[.string (T (bC 58 (aQ l).2))] 211)=>lI I 0 _ _ _ w' ⟨h',rfl⟩);have HIN:=ai (λw'=>by have:=tZ (T (aQ l).1) w' (by rw[bS];unfold maxLen;have:=iZ hn;omega);rw[show(T (aQ l).1).data.toList=(aQ l).1 by simp[T]]at this;exact this);have K1:af (∀w',aa ah w w'->fL prog 106 #[v,eI (T (aQ l).1)] w' λe w''=>e=fR (fS (iy (aQ l).1))/\aa ah w' w''):=λw' m'=>Zw wT w' v bs _ hO (m.trans m') (hE.ae m') (by have:=iZ hn;omega);clear LV;have hnl:=iZ hn;rw[hn]at xu;obtain⟨vo,vc,rfl,_⟩:=hO.sl.view;generalize iy (aQ l).1=rs at *;generalize nameB (aQ l).1=nb at *;generalize hdd:eS (aC (bC 58 (aQ l).2)=[])=dd at *;have Q0:af (aC (bC 58 (aQ l).2)=[]↔dd=eJ):=by rw[af,<-hdd];simp
 generalize aC (bC 58 (aQ l).2)=r3 at *;generalize bC 58 (aQ l).2=r2 at *;generalize bD w bs (dP t)=LP at *;go_in;go_wp2_with fail;refine(xu.o _ (HM.o.ae dU.o)).mono ?_;rintro e w1 ⟨rfl,m1⟩;generalize aQ l=wl at *;obtain⟨x,r1⟩:=wl;dsimp only at *;have HW1:af (∀cs,LQ w w1.heap.size w.heap.size l (w1.alloc (eR cs 211))\/True):=λ_=>.inr trivial
 have HW2:af (LQ w w1.heap.size w.heap.size (l) (w1.alloc (eR #[eI (T (l))] 211))) :=
  ⟨ak.new _ _ _,(fQ.o.ae m1 id).alloc _,(dU.o.trans m1).alloc _,by
   have h1:=(dU.o.trans m1).size;have h2:=(fQ.o.ae m1 id).lt;omega⟩
 have HMs:=ai (dU.o.trans m1);clear m1 xu fQ dU HW1;generalize hI:w1.heap.size=I at *;generalize hR:w.heap.size=R at *;go_wp2_with fail;refine(El.o I _ HW2.o.yU).mono ?_;rintro e w2 ⟨rfl,hp2⟩;have HW3:=ai (HW2.o.read hp2);clear hp2 El HW2;go_wp2_with fail;refine(VE.o I _ HW3.o.yU).mono ?_;rintro e w3 ⟨rfl,hp3⟩;have Hy:=ai (HW3.o.read hp3);clear hp3 VE HW3;go_wp2_with fail;refine(pW.o I _ Hy.o.yU).mono ?_;rintro e w4 ⟨rfl,yu⟩;have sN:=ai (Hy.o.read yu);clear yu pW Hy;go_wp2_with fail;refine(HD2.o I _ sN.o.yU).mono ?_;rintro e w5 ⟨rfl,hp5⟩;have mO:=ai (sN.o.read hp5);clear hp5 HD2 sN;cases dd with
 |false =>
  have LX:af (¬(r3=[]/\nb=eJ/\rs=eE)):=λh=>by have:=Q0.o.1 h.1;cases this
  go_wp2_with (refine oX rfl 143 (.tmp 4) (.tmp 40) rfl R (jx 3 (T x) aD aD aD) rfl rfl 143 _ mO.o.res (by kernel_rfl) rfl (fO ..) ?_);refine iz (aw results53 _ _ R 143 _ (0,0) _ _ rfl rfl mO.o.res.dC underlying143 rfl (by kernel_rfl)) rfl ?_;exact TD.o _ _ LX.o (mO.o.md.dC (.inr mO.o.lt.2.2)) rfl
 |true =>
  have HD3:=ai (Q0.o.2 rfl);go_wp2_with fail;refine(HIN.o _).mono ?_;rintro e w6 ⟨rfl,rfl⟩;cases nb with
  |false =>
   have LX:af (¬(r3=[]/\eE=eJ/\rs=eE)):=λh=>by cases h.2.1
   go_wp2_with (refine oX rfl 143 (.tmp 4) (.tmp 40) rfl R (jx 3 (T x) aD aD aD) rfl rfl 143 _ mO.o.res (by kernel_rfl) rfl (fO ..) ?_);refine iz (aw results53 _ _ R 143 _ (0,0) _ _ rfl rfl mO.o.res.dC underlying143 rfl (by kernel_rfl)) rfl ?_;exact TD.o _ _ LX.o (mO.o.md.dC (.inr mO.o.lt.2.2)) rfl
  |true =>
   go_wp2_with fail;refine(K1.o _ mO.o.md).mono ?_;rintro e w7 ⟨rfl,m7⟩;have tL:=ai (mO.o.quiet m7);clear m7;cases rs with
   |true =>
    have LX:af (¬(r3=[]/\eJ=eJ/\eJ=eE)):=λh=>by cases h.2.2
    go_wp2_with (refine oX rfl 143 (.tmp 4) (.tmp 40) rfl R (jx 3 (T x) aD aD aD) rfl rfl 143 _ tL.o.res (by kernel_rfl) rfl (fO ..) ?_);refine iz (aw results53 _ _ R 143 _ (0,0) _ _ rfl rfl tL.o.res.dC underlying143 rfl (by kernel_rfl)) rfl ?_;exact TD.o _ _ LX.o (tL.o.md.dC (.inr tL.o.lt.2.2)) rfl
   |false =>go_wp2_with (refine oX rfl 143 (.tmp 4) (.tmp 40) rfl R (jx 3 (T x) aD aD aD) rfl rfl 143 _ tL.o.res (by kernel_rfl) rfl (fO ..) ?_);refine iz (aw results53 _ _ R 143 _ (0,0) _ _ rfl rfl tL.o.res.dC underlying143 rfl (by kernel_rfl)) rfl ?_;exact HPY.o _ _ ⟨HD3.o,by simp⟩ (tL.o.md.dC (.inr tL.o.lt.2.2)) rfl
theorem Q3(wT w:tW)(v:eM)(bs:tLN)(t:tLB)(hO:aT 0 wT v bs ax)(m:aa ah wT w)(hE:Env w)(hM:wo w)(ht:ee t<=1000000)(l:tLB)(hn:sQ t=eC l)(hs:aC l≠[])(hk:bB 58 (aQ l).2=eE)(hw:(aQ l).1=[109,97,112]):fL prog 53 #[v,eI (T t)] w λe w'=>bD w bs (dP t) e w':=by
 have xu:=ai (λw' h=>BH t w' h ht);have HM:=ai hM;have HE:=ai hE;have fQ:=ai (ak.new w (jx 0 ⟨#[]⟩ aD aD aD) 143);have dU:af (aa ah w (w.alloc (eR (jx 0 ⟨#[]⟩ aD aD aD) 143))):=aq;have LV:af (dP t=gy (aC (aQ l).2)):=by rw[af,nH hn,iN9 hs,iN9 (by simp[hk]),iP9 hw]
 have VF:af (∀w',fL prog 107 #[fW #[eI (T (aC (aQ l).2))]] w' λe w''=>bD w' bs (gy (aC (aQ l).2)) e w''):=λw'=>VD w' bs _ (by have:=iL (aQ l).2;have:=jY l;have:=iZ hn;omega);have El:af (∀I w',ak w' I #[eI (T l)] 211->fL prog 102 #[vP I] w' λe w''=>e=fR (fS eE)/\bG w' I 0 #[eI (T l)] 211 (aC l) w''):=λI w' h'=>by have:=lI I 0 _ _ l w' ⟨h',rfl⟩;rw[decide_eq_false hs]at this;exact this
 have hwl:=jY l;have VE:af (∀I w',ak w' I #[eI (T (aC l))] 211->fL prog 103 #[vP I] w' λe w''=>e=fR (eI (T (aQ l).1))/\bG w' I 0 #[eI (T (aC l))] 211 (aQ l).2 w''):=λI w' h'=>by have:=iA I 0 _ _ (aC l) w' ⟨h',rfl⟩ (by have:=iL l;have:=iZ hn;omega);rw[BJ]at this;exact this
 have pW:af (∀I w',ak w' I #[eI (T (aQ l).2)] 211->fL prog 104 #[vP I,vB 58] w' λe w''=>e=fR (fS eE)/\bG w' I 0 #[eI (T (aQ l).2)] 211 (aC (aQ l).2) w''):=λI w' h'=>by have:=iY I 0 _ _ (aQ l).2 58 w' ⟨h',rfl⟩ (by have:=iZ hn;omega);rw[hk,mM hk]at this;exact this
 have hq:((T (aQ l).1).toList==[109,97,112])=eJ:=gi (by rw[hw]);have HPY:af (∀e w' x,gy (aC (aQ l).2)=eC x->aa ah w w'->e=fR (gb #[fW (x.cells bs),fS eJ])->bD w bs (dP t) e w'):=λe w' x h1 h2 h3=>bD.yes (by rw[LV.o,h1]) h2 h3;have TD:af (∀e w',gy (aC (aQ l).2)=ez->aa ah w w'->(∃k nm a b c op d s j n h lb nn f,e=fR (gb #[fW (Jg k nm a b c (ia op) d s j n h lb nn f),fS eE]))->bD w bs (dP t) e w'):=λe w' h1 h2 h3=>bD.no (by rw[LV.o,h1]) h2 h3
 have HCX:af (∀x,gy (aC (aQ l).2)=eC x->∃nm a b c,x.cells bs=jx 1 nm a b c):=λx hx=>by
  unfold gy at hx;split at hx
  ·obtain⟨a,_,hx⟩:=Option.bind_eq_some_iff.1 hx;obtain⟨b,_,hx⟩:=Option.bind_eq_some_iff.1 hx;obtain⟨c,_,hx⟩:=Option.bind_eq_some_iff.1 hx;split at hx
   ·cases hx;exact⟨_,_,_,_,rfl⟩
   ·cases hx
  ·cases hx
 clear LV;have hnl:=iZ hn;rw[hn]at xu;obtain⟨vo,vc,rfl,_⟩:=hO.sl.view;generalize bD w bs (dP t)=LP at *;go_in;go_wp2_with fail;refine(xu.o _ (HM.o.ae dU.o)).mono ?_;rintro e w1 ⟨rfl,m1⟩;generalize gy (aC (aQ l).2)=mp at *;generalize aC (aQ l).2=r2 at *;generalize aQ l=wl at *;obtain⟨x,r1⟩:=wl;dsimp only at *;have HW1:af (∀cs,LQ w w1.heap.size w.heap.size l (w1.alloc (eR cs 211))\/True):=λ_=>.inr trivial
 have HW2:af (LQ w w1.heap.size w.heap.size (l) (w1.alloc (eR #[eI (T (l))] 211))) :=
  ⟨ak.new _ _ _,(fQ.o.ae m1 id).alloc _,(dU.o.trans m1).alloc _,by
   have h1:=(dU.o.trans m1).size;have h2:=(fQ.o.ae m1 id).lt;omega⟩
 have HMs:=ai (dU.o.trans m1);clear m1 xu fQ dU HW1;generalize hI:w1.heap.size=I at *;generalize hR:w.heap.size=R at *;clear hw;go_wp2_with fail;refine(El.o I _ HW2.o.yU).mono ?_;rintro e w2 ⟨rfl,hp2⟩;have HW3:=ai (HW2.o.read hp2);clear hp2 El HW2;go_wp2_with fail;refine(VE.o I _ HW3.o.yU).mono ?_;rintro e w3 ⟨rfl,hp3⟩;have Hy:=ai (HW3.o.read hp3);clear hp3 VE HW3;go_wp2_with fail;refine(pW.o I _ Hy.o.yU).mono ?_;rintro e w4 ⟨rfl,yu⟩;have sN:=ai (Hy.o.read yu);clear yu pW Hy;have i0:=sN.o.yU.c0;go_wp2_with fail;refine(VF.o _).mono ?_;intro e w5 hpo;obtain⟨m5,hpo⟩:=hpo;have mO:=ai (sN.o.quiet m5);clear m5 sN VF;cases hmp:mp with
 |none =>rw[hmp]at hpo;obtain⟨k,nm,a,b,c,op,dd,ss,jj,nn,hh,lb,nm2,ff,rfl⟩:=hpo;go_wp2_with (refine oX rfl 143 (.tmp 4) (.tmp 47) rfl R (Jg k nm a b c (ia op) dd ss jj nn hh lb nm2 ff) rfl rfl 143 _ mO.o.res (by kernel_rfl) rfl (fO ..) ?_);refine iz (aw results53 _ _ R 143 _ (0,0) _ _ rfl rfl mO.o.res.dC underlying143 rfl (by kernel_rfl)) rfl ?_;exact TD.o _ _ hmp (mO.o.md.dC (.inr mO.o.lt.2.2)) ⟨k,nm,a,b,c,op,dd,ss,jj,nn,hh,lb,nm2,ff,rfl⟩
 |some y =>rw[hmp]at hpo;have he:e=fR (gb #[fW (y.cells bs),fS eJ]):=hpo;obtain⟨nm,a,b,c,hy⟩:=HCX.o y hmp;have HY:=ai hy;rw[hy]at he;subst he;clear hpo hy;go_wp2_with (refine oX rfl 143 (.tmp 4) (.tmp 47) rfl R (jx 1 nm a b c) rfl rfl 143 _ mO.o.res (by kernel_rfl) rfl (fO ..) ?_);refine iz (aw results53 _ _ R 143 _ (0,0) _ _ rfl rfl mO.o.res.dC underlying143 rfl (by kernel_rfl)) rfl ?_;exact HPY.o _ _ y hmp (mO.o.md.dC (.inr mO.o.lt.2.2)) (by rw[HY.o];rfl)
theorem Q4(wT w:tW)(v:eM)(bs:tLN)(t:tLB)(hO:aT 0 wT v bs ax)(m:aa ah wT w)(hE:Env w)(hM:wo w)(ht:ee t<=1000000)(l:tLB)(hn:sQ t=eC l)(hs:aC l≠[])(hk:bB 58 (aQ l).2=eE)(hw:(aQ l).1=[102,117,110,99]):fL prog 53 #[v,eI (T t)] w λe w'=>bD w bs (dP t) e w':=by
 have xu:=ai (λw' h=>BH t w' h ht);have HM:=ai hM;have HE:=ai hE;have fQ:=ai (ak.new w (jx 0 ⟨#[]⟩ aD aD aD) 143);have dU:af (aa ah w (w.alloc (eR (jx 0 ⟨#[]⟩ aD aD aD) 143))):=aq;have LV:af (dP t=if nameB (aQ (aC (aQ l).2)).1=eJ/\aC (aQ (aC (aQ l).2)).2=[]then eC {kind:=2,name:=(aQ (aC (aQ l).2)).1}else ez):=by rw[af,nH hn,iN9 hs,iN9 (by simp[hk]),iN9 (by rw[hw];decide),iP9 hw]
 have hl2:ee (aC (aQ l).2)<=1000000:=by have:=iL (aQ l).2;have:=jY l;have:=iZ hn;omega
 have HNA:=ai (λI w' (h':ak w' I #[.string (T (aC (aQ l).2))] 211)=>pV I 0 _ _ _ w' ⟨h',rfl⟩ hl2);have HD2:=ai (λI w' (h':ak w' I #[.string (T (aQ (aC (aQ l).2)).2)] 211)=>lI I 0 _ _ _ w' ⟨h',rfl⟩);have HPY:af (∀e w',(nameB (aQ (aC (aQ l).2)).1=eJ/\aC (aQ (aC (aQ l).2)).2=[])->aa ah w w'->e=fR (gb #[fW (jx 2 (T (aQ (aC (aQ l).2)).1) aD aD aD),fS eJ])->bD w bs (dP t) e w'):=λe w' h1 h2 h3=>bD.yes (x:={kind:=2,name:=(aQ (aC (aQ l).2)).1}) (by rw[LV.o,iP9 h1]) h2 h3;have TD:af (∀e w',¬(nameB (aQ (aC (aQ l).2)).1=eJ/\aC (aQ (aC (aQ l).2)).2=[])->aa ah w w'->e=fR (gb #[fW (jx 2 (T (aQ (aC (aQ l).2)).1) aD aD aD),fS eE])->bD w bs (dP t) e w'):=λe w' h1 h2 h3=>bD.no (by rw[LV.o,iN9 h1]) h2 ⟨2,_,_,_,_,ez,0,0,0,0,0,_,_,eE,h3⟩;have El:af (∀I w',ak w' I #[eI (T l)] 211->fL prog 102 #[vP I] w' λe w''=>e=fR (fS eE)/\bG w' I 0 #[eI (T l)] 211 (aC l) w''):=λI w' h'=>by have:=lI I 0 _ _ l w' ⟨h',rfl⟩;rw[decide_eq_false hs]at this;exact this
 have hwl:=jY l;have VE:af (∀I w',ak w' I #[eI (T (aC l))] 211->fL prog 103 #[vP I] w' λe w''=>e=fR (eI (T (aQ l).1))/\bG w' I 0 #[eI (T (aC l))] 211 (aQ l).2 w''):=λI w' h'=>by have:=iA I 0 _ _ (aC l) w' ⟨h',rfl⟩ (by have:=iL l;have:=iZ hn;omega);rw[BJ]at this;exact this
 have pW:af (∀I w',ak w' I #[eI (T (aQ l).2)] 211->fL prog 104 #[vP I,vB 58] w' λe w''=>e=fR (fS eE)/\bG w' I 0 #[eI (T (aQ l).2)] 211 (aC (aQ l).2) w''):=λI w' h'=>by have:=iY I 0 _ _ (aQ l).2 58 w' ⟨h',rfl⟩ (by have:=iZ hn;omega);rw[hk,mM hk]at this;exact this
 have hq:((T (aQ l).1).toList==[109,97,112])=eE:=fP (λe=>by rw[hw]at e;exact absurd (px e) (by decide));have hq2:((T (aQ l).1).toList==[102,117,110,99])=eJ:=gi (by rw[hw]);clear LV;have hnl:=iZ hn;rw[hn]at xu;obtain⟨vo,vc,rfl,_⟩:=hO.sl.view;generalize bD w bs (dP t)=LP at *;go_in;go_wp2_with fail;refine(xu.o _ (HM.o.ae dU.o)).mono ?_;rintro e w1 ⟨rfl,m1⟩;generalize hdd:eS (aC (aQ (aC (aQ l).2)).2=[])=dd at *;have Q0:af (aC (aQ (aC (aQ l).2)).2=[]↔dd=eJ):=by rw[af,<-hdd];simp
 generalize aC (aQ (aC (aQ l).2)).2=r4 at *;generalize nameB (aQ (aC (aQ l).2)).1=nb at *;generalize aQ (aC (aQ l).2)=wl2 at *;obtain⟨nm,r3⟩:=wl2;generalize aC (aQ l).2=r2 at *;generalize aQ l=wl at *;obtain⟨x,r1⟩:=wl;dsimp only at *;have HW1:af (∀cs,LQ w w1.heap.size w.heap.size l (w1.alloc (eR cs 211))\/True):=λ_=>.inr trivial
 have HW2:af (LQ w w1.heap.size w.heap.size (l) (w1.alloc (eR #[eI (T (l))] 211))) :=
  ⟨ak.new _ _ _,(fQ.o.ae m1 id).alloc _,(dU.o.trans m1).alloc _,by
   have h1:=(dU.o.trans m1).size;have h2:=(fQ.o.ae m1 id).lt;omega⟩
 have HMs:=ai (dU.o.trans m1);clear m1 xu fQ dU HW1;generalize hI:w1.heap.size=I at *;generalize hR:w.heap.size=R at *;clear hw hdd;go_wp2_with fail;refine(El.o I _ HW2.o.yU).mono ?_;rintro e w2 ⟨rfl,hp2⟩;have HW3:=ai (HW2.o.read hp2);clear hp2 El HW2;go_wp2_with fail;refine(VE.o I _ HW3.o.yU).mono ?_;rintro e w3 ⟨rfl,hp3⟩;have Hy:=ai (HW3.o.read hp3);clear hp3 VE HW3;go_wp2_with fail;refine(pW.o I _ Hy.o.yU).mono ?_;rintro e w4 ⟨rfl,yu⟩;have sN:=ai (Hy.o.read yu);clear yu pW Hy;go_wp2_with fail;refine(HNA.o I _ sN.o.yU).mono ?_;rintro e w5 ⟨rfl,hp5⟩;have mO:=ai (sN.o.read hp5);clear hp5 HNA sN;cases nb with
 |false =>
  have LX:af (¬(eE=eJ/\r4=[])):=λh=>by cases h.1
  go_wp2_with (refine oX rfl 143 (.tmp 4) (.tmp 56) rfl R (jx 2 (T nm) aD aD aD) rfl rfl 143 _ mO.o.res (by kernel_rfl) rfl (fO ..) ?_);refine iz (aw results53 _ _ R 143 _ (0,0) _ _ rfl rfl mO.o.res.dC underlying143 rfl (by kernel_rfl)) rfl ?_;exact TD.o _ _ LX.o (mO.o.md.dC (.inr mO.o.lt.2.2)) rfl
 |true =>
  go_wp2_with fail;refine(HD2.o I _ mO.o.yU).mono ?_;rintro e w6 ⟨rfl,hp6⟩;have tL:=ai (mO.o.read hp6);clear hp6 HD2 mO;cases dd with
  |false =>
   have LX:af (¬(eJ=eJ/\r4=[])):=λh=>by have:=Q0.o.1 h.2;cases this
   go_wp2_with (refine oX rfl 143 (.tmp 4) (.tmp 56) rfl R (jx 2 (T nm) aD aD aD) rfl rfl 143 _ tL.o.res (by kernel_rfl) rfl (fO ..) ?_);refine iz (aw results53 _ _ R 143 _ (0,0) _ _ rfl rfl tL.o.res.dC underlying143 rfl (by kernel_rfl)) rfl ?_;exact TD.o _ _ LX.o (tL.o.md.dC (.inr tL.o.lt.2.2)) rfl
  |true =>have HD3:=ai (Q0.o.2 rfl);go_wp2_with (refine oX rfl 143 (.tmp 4) (.tmp 56) rfl R (jx 2 (T nm) aD aD aD) rfl rfl 143 _ tL.o.res (by kernel_rfl) rfl (fO ..) ?_);refine iz (aw results53 _ _ R 143 _ (0,0) _ _ rfl rfl tL.o.res.dC underlying143 rfl (by kernel_rfl)) rfl ?_;exact HPY.o _ _ ⟨by simp,HD3.o⟩ (tL.o.md.dC (.inr tL.o.lt.2.2)) rfl
theorem Q5(wT w:tW)(v:eM)(bs:tLN)(t:tLB)(hO:aT 0 wT v bs ax)(m:aa ah wT w)(hE:Env w)(hM:wo w)(ht:ee t<=1000000)(l:tLB)(hn:sQ t=eC l)(hs:aC l≠[])(hk:bB 58 (aQ l).2=eE)(hw1:(aQ l).1≠[109,97,112])(hw2:(aQ l).1≠[102,117,110,99]):fL prog 53 #[v,eI (T t)] w λe w'=>bD w bs (dP t) e w':=by
 have xu:=ai (λw' h=>BH t w' h ht);have HM:=ai hM;have HE:=ai hE;have fQ:=ai (ak.new w (jx 0 ⟨#[]⟩ aD aD aD) 143);have dU:af (aa ah w (w.alloc (eR (jx 0 ⟨#[]⟩ aD aD aD) 143))):=aq;have LV:af (dP t=(nj (aQ l).1 (aC (aQ l).2)).map λx=>{kind:=4,x:=x}):=by rw[af,nH hn,iN9 hs,iN9 (by simp[hk]),iN9 hw1,iN9 hw2]
 have hl2:ee (aC (aQ l).2)<=1000000:=by have:=iL (aQ l).2;have:=jY l;have:=iZ hn;omega
 have UO:af (∀w',aa ah w w'->fL prog 109 #[v,eI (T (aQ l).1),fW #[eI (T (aC (aQ l).2))]] w' λe w''=>uL w' bs (nj (aQ l).1 (aC (aQ l).2)) e w''):=λw' m'=>opsRead_any wT w' v bs _ _ hO (m.trans m') (hE.ae m') hl2;have HPY:af (∀e w' y,nj (aQ l).1 (aC (aQ l).2)=eC y->aa ah w w'->e=fR (gb #[fW (Jg 4 ⟨#[]⟩ aD aD aD (vP (bs[y.k]?.getD 0)) y.r.d y.r.s y.r.jump y.r.num y.r.high (T y.r.label) (T y.r.name) y.fits),fS eJ])->bD w bs (dP t) e w'):=λe w' y h1 h2 h3=>bD.yes (x:={kind:=4,x:=y}) (by rw[LV.o,h1];rfl) h2 h3;have TD:af (∀e w',nj (aQ l).1 (aC (aQ l).2)=ez->aa ah w w'->e=fR (gb #[fW (Jg 4 ⟨#[]⟩ aD aD aD (vO) 0 0 0 0 0 ⟨#[]⟩ ⟨#[]⟩ eE),fS eE])->bD w bs (dP t) e w'):=λe w' h1 h2 h3=>bD.no (by rw[LV.o,h1];rfl) h2 ⟨4,_,_,_,_,ez,0,0,0,0,0,_,_,eE,h3⟩;have El:af (∀I w',ak w' I #[eI (T l)] 211->fL prog 102 #[vP I] w' λe w''=>e=fR (fS eE)/\bG w' I 0 #[eI (T l)] 211 (aC l) w''):=λI w' h'=>by have:=lI I 0 _ _ l w' ⟨h',rfl⟩;rw[decide_eq_false hs]at this;exact this
 have hwl:=jY l;have VE:af (∀I w',ak w' I #[eI (T (aC l))] 211->fL prog 103 #[vP I] w' λe w''=>e=fR (eI (T (aQ l).1))/\bG w' I 0 #[eI (T (aC l))] 211 (aQ l).2 w''):=λI w' h'=>by have:=iA I 0 _ _ (aC l) w' ⟨h',rfl⟩ (by have:=iL l;have:=iZ hn;omega);rw[BJ]at this;exact this
 have pW:af (∀I w',ak w' I #[eI (T (aQ l).2)] 211->fL prog 104 #[vP I,vB 58] w' λe w''=>e=fR (fS eE)/\bG w' I 0 #[eI (T (aQ l).2)] 211 (aC (aQ l).2) w''):=λI w' h'=>by have:=iY I 0 _ _ (aQ l).2 58 w' ⟨h',rfl⟩ (by have:=iZ hn;omega);rw[hk,mM hk]at this;exact this
 have hq:=fP (λe=>hw1 (px e));have hq2:=fP (λe=>hw2 (px e));clear LV;have hnl:=iZ hn;rw[hn]at xu;obtain⟨vo,vc,rfl,_⟩:=hO.sl.view;generalize bD w bs (dP t)=LP at *;go_in;go_wp2_with fail;refine(xu.o _ (HM.o.ae dU.o)).mono ?_;rintro e w1 ⟨rfl,m1⟩;generalize nj (aQ l).1 (aC (aQ l).2)=rp at *;generalize aC (aQ l).2=r2 at *;generalize aQ l=wl at *;obtain⟨x,r1⟩:=wl;dsimp only at *;have HW1:af (∀cs,LQ w w1.heap.size w.heap.size l (w1.alloc (eR cs 211))\/True):=λ_=>.inr trivial
 have HW2:af (LQ w w1.heap.size w.heap.size (l) (w1.alloc (eR #[eI (T (l))] 211))) :=
  ⟨ak.new _ _ _,(fQ.o.ae m1 id).alloc _,(dU.o.trans m1).alloc _,by
   have h1:=(dU.o.trans m1).size;have h2:=(fQ.o.ae m1 id).lt;omega⟩
 have HMs:=ai (dU.o.trans m1);clear m1 xu fQ dU HW1;generalize hI:w1.heap.size=I at *;generalize hR:w.heap.size=R at *;clear hw1 hw2;go_wp2_with fail;refine(El.o I _ HW2.o.yU).mono ?_;rintro e w2 ⟨rfl,hp2⟩;have HW3:=ai (HW2.o.read hp2);clear hp2 El HW2;go_wp2_with fail;refine(VE.o I _ HW3.o.yU).mono ?_;rintro e w3 ⟨rfl,hp3⟩;have Hy:=ai (HW3.o.read hp3);clear hp3 VE HW3;go_wp2_with fail;refine(pW.o I _ Hy.o.yU).mono ?_;rintro e w4 ⟨rfl,yu⟩;have sN:=ai (Hy.o.read yu);clear yu pW Hy;have i0:=sN.o.yU.c0;go_wp2_with fail;refine(UO.o _ sN.o.md).mono ?_;intro e w5 hpo;obtain⟨m5,he⟩:=hpo;have mO:af (∀cs,LQ w I R r2 (w5.alloc (eR cs 141))):=λcs=>sN.o.quiet (m5.alloc _);clear m5 sN UO i0;cases hrp:rp with
 |none =>rw[hrp]at he;dsimp only[yT]at he;subst he;go_wp2_with (refine oX rfl 143 (.tmp 4) (.tmp 71) rfl R (Jg 4 ⟨#[]⟩ aD aD aD (vO) 0 0 0 0 0 ⟨#[]⟩ ⟨#[]⟩ eE) rfl rfl 143 _ (mO.o _).res (by kernel_rfl) rfl (fO ..) ?_);refine iz (aw results53 _ _ R 143 _ (0,0) _ _ rfl rfl (mO.o _).res.dC underlying143 rfl (by kernel_rfl)) rfl ?_;exact TD.o _ _ hrp ((mO.o _).md.dC (.inr (mO.o #[]).lt.2.2)) rfl
 |some y =>rw[hrp]at he;dsimp only[fG.cells]at he;subst he;generalize hyf:y.fits=yf at *;generalize hyp:bs[y.k]?.getD 0=yb at *;go_wp2_with (refine oX rfl 143 (.tmp 4) (.tmp 71) rfl R (Jg 4 ⟨#[]⟩ aD aD aD (vP yb) y.r.d y.r.s y.r.jump y.r.num y.r.high (T y.r.label) (T y.r.name) yf) rfl rfl 143 _ (mO.o _).res (by kernel_rfl) rfl (fO ..) ?_);refine iz (aw results53 _ _ R 143 _ (0,0) _ _ rfl rfl (mO.o _).res.dC underlying143 rfl (by kernel_rfl)) rfl ?_;exact HPY.o _ _ y hrp ((mO.o _).md.dC (.inr (mO.o #[]).lt.2.2)) (by rw[hyf,hyp];rfl)
def linesP:tLB->List tLB
 |[]=>[[]]
 |c::l=>if c=10 then []::linesP l else match linesP l with
  |[]=>[[c]]
  |h::t=>(c::h)::t
theorem EY:∀(l:tLB),(∀d∈l,d≠10)->linesP l=[l]
 |[],_=>rfl
 |c::l,h=>by rw[linesP,iN9 (h c (by simp)),EY l (λd hd=>h d (by simp[hd]))]
theorem CQ:∀(l:tLB) (k:Nat),l.takeWhile (λd=>d != 10)=l.take k->k<ee l->linesP l=l.take k::linesP (l.drop (k+1))
 |[],k,_,hk=>absurd hk (Nat.not_lt_zero _)
 |c::l,0,h,_=>by
  by_cases e:c=10
  ·subst e;rw[linesP,iP9 rfl];rfl
  ·rw[ab,iP9 (by simpa using e)]at h;simp at h
 |c::l,k+1,h,hk=>by
  by_cases e:c=10
  ·subst e;rw[ab,iN9 (by simp)]at h;simp at h
  ·rw[ab,iP9 (by simpa using e)]at h;have ih:=CQ l k (by simpa using h) (by simpa using hk);rw[linesP,iN9 e,ih];rfl
theorem A7:∀(k:Nat) (s:tBA),Lib.countB s ⟨#[10]⟩=k->Lib.splitB ⟨#[10]⟩ 0 k s=(linesP (BL s)).map T
 |k,s,hc=>by
  rcases index_one (BL s) 10 with⟨h1,h2⟩ |⟨i,h1,h2,h3⟩
  ·have hi:Lib.indexB s ⟨#[10]⟩=-1:=h1;rw[Lib.splitB_miss _ _ _ _ hi,EY _ h2];rfl
  ·have hi:Lib.indexB s ⟨#[10]⟩=(i:Int):=h1;have hh:=Lib.countB_hit s ⟨#[10]⟩ i (by decide) hi;rw[hc]at hh
   have hb:BL (s.extract (i+(ByteArray.mk #[10]).size) s.size)=(BL s).drop (i+1):=by
    show(s.extract (i+1) s.size).data.toList=s.data.toList.drop (i+1)
    have:=nr (BL s) (i+1);rw[Yk]at this;rw[this];simp[T,BL]
   have ht:s.extract 0 i=T ((BL s).take i):=by have:=zG (BL s) i;rw[Yk]at this;exact this
   match k,hh with
   |0,hh=>omega
   |k+1,hh =>rw[Lib.splitB_hit _ _ _ _ i hi,A7 k _ (by omega),hb,CQ _ i h2 h3,Nat.add_zero,ht];rfl
theorem LY(l:tLB)(w:tW)(hM:wo w)(hl:ee l<=1000000):fL prog 52 #[eI (T l),eI ⟨#[10]⟩] w λe w'=>∃n,e=fR (eK (eC ⟨w.heap.size,0,ez⟩) (ee (linesP l)) n)/\w'=w.alloc (eR ((linesP l).map (λt=>Value.string (T t))).toArray 9):=by
 obtain⟨m,hm⟩:=hM;have h:=Any.strings_Split lsp (by kernel_rfl) (T l) ⟨#[10]⟩ m w (by rw[bS];omega) hm (by decide);have e:=A7 _ (T l) rfl;have hb:BL (T l)=l:=by simp[BL,T]
 rw[hb]at e;have hn:=Lib.splitB_all ⟨#[10]⟩ (by decide) 0 _ (T l) rfl;rw[e,List.length_map]at hn;refine h.mono (λe' w' ⟨h1,h2⟩=>⟨Lib.countB (T l) ⟨#[10]⟩+1,?_,?_⟩)
 ·rw[h1,hn]
 ·rw[h2,e,List.map_map];rfl
def parseP:List tLB->Bool->Nat->List fJ->List fJ ⊕ Nat
 |[],_,_,acc=>.inl acc
 |t::ts,nY,n,acc=>match dP t with
  |none=>.inr (n+1)
  |some x=>if(nY||x.kind==2)=eE/\(x.kind=3\/x.kind=4)then .inr (n+1)else parseP ts (nY||x.kind==2) (n+1) (acc++[x])
theorem Jh(ts:List tLB)(k:Nat)(hk:k<ee ts)(nY:Bool)(n:Nat)(acc:List fJ):parseP (ts.drop k) nY n acc=match dP ts[k]with
  |none=>.inr (n+1)
  |some x=>if(nY||x.kind==2)=eE/\(x.kind=3\/x.kind=4)then .inr (n+1)else parseP (ts.drop (k+1)) (nY||x.kind==2) (n+1) (acc++[x]):=by
 rw[List.drop_eq_getElem_cons hk,parseP]
structure jD(w0:tW)(v:eM)(bs:tLN)(ls:List fJ)(w:tW):Prop where
 sl:Sl w 143 20 v (ee ls) (ls.flatMap (λx=>(x.cells bs).toList))
 own:∀k,v.ownBlock=eC k->w0.heap.size<=k
 md:aa ah w0 w
theorem jD.quiet{w0 w w':tW}{v:eM}{bs:tLN}{ls:List fJ}(h:jD w0 v bs ls w)(m:aa ah w w'):jD w0 v bs ls w':=⟨h.sl.ae m (λ_ _=>id),h.own,h.md.trans m⟩
theorem jD.nil(w:tW)(bs:tLN):jD w (vN) bs [] w:=⟨Sl.nil _ _ _,(λk h=>by cases h),aA⟩
theorem jD.app{w0 w w':tW}{v v':eM}{bs:tLN}{ls:List fJ}{x:fJ}(h:jD w0 v bs ls w)(s:Sl w' 143 20 v' (ee ls+1) (ls.flatMap (λx=>(x.cells bs).toList)++(x.cells bs).toList))(m:aa (λk=>v.ownBlock=eC k) w w')(lv:∀k,v'.ownBlock=eC k->v.ownBlock=eC k\/w.heap.size<=k):jD w0 v' bs (ls++[x]) w':=by
 refine⟨by simpa using s,λk hk=>?_,h.md.step m (λi hi e=>by have:=h.own i e;omega)⟩;rcases lv k hk with e|e
 ·exact h.own k e
 ·have:=h.md.size;omega
theorem gV(bs:tLN)(x:fJ):(x.cells bs).size=20:=by unfold fJ.cells;split<;>rfl
theorem cells_one(bs:tLN)(x:fJ):(x.cells bs).all (·.oneCell')=eJ:=by unfold fJ.cells;split<;>exact fO ..
theorem rF(bs:tLN)(x:fJ):(x.cells bs)[0]?=eC (vI x.kind):=by
 unfold fJ.cells;split
 ·rename_i h;rw[h];rfl
 ·rfl
theorem CR:(prog.info? 143).map (λi=>(i.zero,i.size,i.bytes))=eC (eC (fW (jx 0 ⟨#[]⟩ aD aD aD)),20,160):=by kernel_rfl
def LZ(w:tW)(bs:tLN)(r:List fJ ⊕ Nat)(e:kx)(w':tW):Prop:=match r with
 |.inr n=>e=fR (gb #[vN,vI n])/\aa ah w w'
 |.inl ls=>∃v,e=fR (gb #[v,vI 0])/\jD w v bs ls w'
theorem aby{t:tLB}{l:tLB}:t∈linesP l->ee t<=ee l:=by
 induction l generalizing t with
 |nil=>intro h;simp[linesP]at h;subst h;exact bt _
 |cons c l ih =>
  intro h;rw[linesP]at h;split at h
  ·rcases List.mem_cons.1 h with rfl|h
   ·simp
   ·have:=ih h;simp;omega
  ·cases hl:linesP l with
   |nil=>rw[hl]at h;simp at h;subst h;simp
   |cons a b =>
    rw[hl]at h;rcases List.mem_cons.1 h with rfl|h
    ·have:=ih (t:=a) (by rw[hl];simp);simp;omega
    ·have:=ih (t:=t) (by rw[hl];simp[h]);simp;omega
theorem EZ(l:tLB):ee (linesP l)<=ee l+1:=by
 induction l with
 |nil=>simp[linesP]
 |cons c l ih =>
  rw[linesP];split
  ·simp;omega
  ·cases hl:linesP l with
   |nil=>simp
   |cons a b=>rw[hl]at ih;simp at ih ⊢;omega
theorem CS:∀(l pre z:tLV),ee z=ee l->(l.zipIdx (ee pre)).foldl (λ(cs:tAV) x=>cs.setIfInBounds (0+x.2) x.1) (pre++z).toArray=(pre++l).toArray
 |[],pre,z,h=>by have :=List.length_eq_zero_iff.1 h;subst this;rfl
 |a::l,pre,[],h=>by cases h
 |a::l,pre,b::z,h=>by
  rw[List.zipIdx_cons,List.foldl_cons];have e:((pre++b::z).toArray.setIfInBounds (0+ee pre) a)=((pre++[a])++z).toArray:=by rw[Nat.zero_add,List.setIfInBounds_toArray,List.set_append_right _ _ (bt _),Nat.sub_self,List.set_cons_zero,ar];rfl
  have ih:=CS l (pre++[a]) z (by simpa using h);rw[List.length_append,List.length_singleton]at ih;show(l.zipIdx (ee pre+1)).foldl _ ((pre++b::z).toArray.setIfInBounds (0+ee pre) a)=_
  rw[e,ih,ar];rfl
theorem VG(cs z:tAV)(hc:cs.size=20)(hz:z.size=20):Instr.fill (λi=>eC (i*20,20)) z [(0,fW cs)]=eC cs:=by
 obtain⟨l⟩:=cs;obtain⟨m⟩:=z;simp only[bh]at hc hz;have h:=CS l [] m (by omega);have hcl:(Value.agg l.toArray).cells=l.toArray:=rfl;simp only[Instr.fill,hcl,bh,hc,hz];rw[iN9 (by decide)];simp only[List.nil_append,List.length_nil]at h
 simpa using h
theorem yV{ops:Array fY}{rest:List fY}{o:fY}{a:Act}{w:tW}{Q:Exit->Act->tW->Prop}(hg:o.guard=ez)(x:oR)(ho:o.op=.buildSlice 83 1 #[(0,x)])(cs:tAV) (hx:a.eval x=fW cs) (hc:cs.size=20)(h:nB prog ops Q rest (a.put o.dst (eK (eC ⟨w.heap.size,0,ez⟩) 1 1)) (w.alloc (eR cs 143))):nB prog ops Q (o::rest) a w:=by obtain⟨iP,hiP,sK,hsP,wJ⟩:=lO CR;refine wpList_buildSlice hg 83 143 1 _ ho cs iP _ underlying83 hiP sK (by rw[hsP];decide) (by rw[hsP];decide) ?_ h;rw[hsP];simp only[List.map_toArray,List.map_cons,List.map_nil,hx];exact VG cs _ hc (by simp)
theorem gz{P:Program}{ops:Array fY}{rest:List fY}{o:fY}{a:Act}{w:tW}{Q:Exit->Act->tW->Prop}(hgd:o.guard=ez)(ty:gh)(x y:oR)(ho:o.op=.store ty x y)(g:Nat) (cells:tAV) (hx:a.eval x=vP g) (hy:a.eval y=fW cells)(t:gh) (old:tAV) (hg:ak w g old t) (hi:(P.info? ty).map (·.size)=eC cells.size)(hold:old.size=cells.size) (h1:cells.all (·.oneCell')=eJ)(h:∀W,ak W g cells t->aa (Only g) w W->nB P ops Q rest (a.put o.dst undef) W):nB P ops Q (o::rest) a w :=
 oX hgd ty x y ho g cells hx hy t old hg hi hold h1 (h _ (hg.setRow cells) (aa.setRow (S:=Only g) aA (.inl rfl) _))
theorem aa.fresh{w W:tW}{o:Obj}(m:aa (Only w.heap.size) (w.alloc o) W):aa ah w W :=
 ((aa.refl ah w).alloc o).step m (λi hi e=>by have:i=w.heap.size:=e;omega)
set_option linter.all false
def Ji(t:tLB):Prop:=∃x,dP t=eC x/\1<=x.kind/\x.kind<=4
theorem VH(wT w:tW)(v:eM)(bs:tLN)(t:tLB)(hO:aT 0 wT v bs ax)(m:aa ah wT w)(hE:Env w)(hM:wo w)(ht:ee t<=1000000)(hq:Ji t):fL prog 53 #[v,eI (T t)] w λe w'=>bD w bs (dP t) e w':=by
 obtain⟨x,hx,h2,_⟩:=hq;cases hn:sQ t with
 |none=>rw[LU hn]at hx;cases hx
 |some l =>
  have hp:=nH hn;by_cases hs:aC l=[]
  ·rw[hp,iP9 hs]at hx;cases hx;exact absurd h2 (by decide)
  ·cases hk:bB 58 (aQ l).2 with
   |true=>exact Q2 wT w v bs t hO m hE hM ht l hn hs hk
   |false =>
    by_cases h1:(aQ l).1=[109,97,112]
    ·exact Q3 wT w v bs t hO m hE hM ht l hn hs hk h1
    ·by_cases h2:(aQ l).1=[102,117,110,99]
     ·exact Q4 wT w v bs t hO m hE hM ht l hn hs hk h2
     ·exact Q5 wT w v bs t hO m hE hM ht l hn hs hk h1 h2
set_option linter.all false
theorem parseM_any(wT w:tW)(v:eM)(bs:tLN)(l:tLB)(hO:aT 0 wT v bs ax)(m:aa ah wT w)(hE:Env w)(hM:wo w)(hl:ee l<=1000000)(hq:∀t∈linesP l,Ji t)(hs:∃ls,parseP (linesP l) eE 0 []=.inl ls):fL prog 22 #[v,eI (T l)] w λe w'=>LZ w bs (parseP (linesP l) eE 0 []) e w':=by
 have HSP:=ai (LY l w hM hl);have Ya:=ai (λt w' ht m'=>VH wT w' v bs t hO (m.trans m') (hE.ae m') (hM.ae m') (by have:=aby ht;omega) (hq t ht));have HQ:=ai hq;have HS:=ai hs;have HNL:af (ee (linesP l)<=1000001):=by have:=EZ l;rw[af];omega
 have uf:af (∀e w' u ls,parseP (linesP l) eE 0 []=.inl ls->jD w u bs ls w'->e=fR (gb #[u,vI 0])->LZ w bs (parseP (linesP l) eE 0 []) e w'):=λe w' u ls h1 h2 h3=>by rw[h1];exact⟨u,h3,h2⟩
 have HDR:af (∀k (hk:k<ee (linesP l)) nY n acc,parseP ((linesP l).drop k) nY n acc=match dP (linesP l)[k]with
  |none=>.inr (n+1)
  |some x=>if(nY||x.kind==2)=eE/\(x.kind=3\/x.kind=4)then .inr (n+1)else parseP ((linesP l).drop (k+1)) (nY||x.kind==2) (n+1) (acc++[x])):=λk hk nY n acc=>Jh _ k hk nY n acc
 obtain⟨iP,hiP,sK,hsP,wJ⟩:=lO CR;obtain⟨vo,vc,rfl,_⟩:=hO.sl.view;generalize LZ w bs (parseP (linesP l) eE 0 [])=PA at *;clear hO m hE hM hq hs;generalize linesP l=ts at *;have HP0:af (∃pr,pr=parseP ts eE 0 []):=⟨_,rfl⟩
 generalize hpr:parseP ts eE 0 []=pr at *;have ZA:af (parseP (ts.drop 0) eE 0 []=pr):=hpr;clear hpr HP0;go_in;go_wp2_with fail;refine HSP.o.mono ?_;rintro e w1 ⟨nc,rfl,hw1⟩;have HTB:af (ak w1 w.heap.size (ts.map (λt=>Value.string (T t))).toArray 9):=by rw[hw1];exact ak.new w _ _
 have HA0:af (jD w (vN) bs [] w1):=by rw[hw1];exact(jD.nil w bs).quiet aq
 have dB:=ai HA0.o.md;have yJ:af (w1.heap.size=w.heap.size+1):=by rw[af,hw1];simp
 clear hw1 HSP;have hnl:=HNL.o;go_wp2_with fail;go_loopg [6,7,15] (ee ts) (λq v6 v7 v15 wx=>∃(k:Nat) (nY:Bool) (acc:List fJ),k<=ee ts/\v15=vI k/\v7=fS nY/\jD w v6 bs acc wx/\aa ah w1 wx/\parseP (ts.drop k) nY k acc=pr/\acc.length=k/\q=ee ts-k)
 case atStart=>exact⟨0,eE,[],Nat.zero_le _,rfl,rfl,HA0.o,aA,ZA.o,rfl,rfl⟩
 case round =>
  obtain⟨k,nY,acc,hk,rfl,rfl,hA,hmk,hP,hak,rfl⟩:=hrel;have HA:=ai hA;have HP:=ai hP;have xx:=ai hmk;have HAK:=ai hak;clear hA hP hmk hak HA0 ZA;by_cases hlt:k<ee ts
  ·have t0:wr.cell? ⟨w.heap.size,k,ez⟩=eC (eI (T ts[k])):=by rw[(HTB.o.ae xx.o id).cell k];simp[hlt]
   have HD:af (pr=match dP ts[k]with
    |none=>.inr (k+1)
    |some x=>if(nY||x.kind==2)=eE/\(x.kind=3\/x.kind=4)then .inr (k+1)else parseP (ts.drop (k+1)) (nY||x.kind==2) (k+1) (acc++[x])):=by rw[af,<-HP.o];exact HDR.o k hlt nY k acc
   have HL1:=ai (Ya.o ts[k] wr (an hlt) HA.o.md);have GH:=ai (HQ.o ts[k] (an hlt));clear HDR HP;generalize ts[k]=t at *;go_wp2_with fail;refine HL1.o.mono ?_;intro e w2 hpo;obtain⟨m2,hpo⟩:=hpo;have HA2:=ai (HA.o.quiet m2);have dV:=ai (xx.o.trans m2);clear m2 HA xx HL1 t0;obtain⟨x,hlp,hk2,hk4⟩:=GH.o;rw[hlp]at hpo;have he:e=fR (gb #[fW (x.cells bs),fS eJ]):=hpo;subst he;clear hpo;have jS:=ai (gV bs x);have HC0:=ai (rF bs x);have E4:=ai (cells_one bs x);have HD2:af (pr=if(nY||x.kind==2)=eE/\(x.kind=3\/x.kind=4)then .inr (k+1)else parseP (ts.drop (k+1)) (nY||x.kind==2) (k+1) (acc++[x])):=by rw[af,HD.o,hlp]
   have HB2:=ai (ak.new w2 (jx 0 ⟨#[]⟩ aD aD aD) 143);have HAP:af (∀(wA wB:tW) (vB:eM),jD w u6 bs acc wA->Sl wB 143 20 vB (ee acc+1) (acc.flatMap (λx=>(x.cells bs).toList)++(x.cells bs).toList)->aa (λk=>u6.ownBlock=eC k) wA wB->(∀k,vB.ownBlock=eC k->u6.ownBlock=eC k\/wA.heap.size<=k)->jD w vB bs (acc++[x]) wB):=λwA wB vB h=>h.app;have HN:af (¬((nY||x.kind==2)=eE/\(x.kind=3\/x.kind=4))):=λhc=>by obtain⟨ls,h⟩:=HS.o;have h2:=HD2.o;rw[h,iP9 hc]at h2;cases h2
   have HE2:af (parseP (ts.drop (k+1)) (nY||x.kind==2) (k+1) (acc++[x])=pr):=by rw[af,HD2.o,iN9 HN.o]
   clear HD hlp HD2 HQ GH;generalize x.cells bs=cs at *;go_upto_region 7 with(refine gz rfl 143 (.tmp 10) (.tmp 24) rfl w2.heap.size (cs) rfl rfl 143 _ HB2.o (by rw[jS.o];kernel_rfl) (by rw[jS.o];rfl) (E4.o) ?_;intro W3 hB3 yt)
   have lq:=ai (HA2.o.quiet yt.fresh);have eH:=ai (dV.o.trans yt.fresh);have HB3:=ai hB3;have c0:=(hB3.cell 0).trans HC0.o;clear hB3 yt HB2 HA2 dV;generalize hB:w2.heap.size=B at *;generalize TE:(nY||x.kind==2)=b7 at *;have TF:=ai TE;clear TE;go_cut [7] (λv7 wx=>v7=fS b7/\wx=W3)
   case first =>
    cases nY with
    |true =>
     have e7:b7=eJ:=by rw[<-TF.o];rfl
     go_wp2_with fail;go_meet;exact⟨by rw[e7],rfl⟩
    |false =>
     by_cases hx2:x.kind=2
     ·have q2:((x.kind:Int)==2)=eJ:=by rw[hx2];rfl
      have e7:b7=eJ:=by rw[<-TF.o,hx2];rfl
      go_wp2_with fail;go_meet;exact⟨by rw[e7],rfl⟩
     ·have q2:((x.kind:Int)==2)=eE:=by simp;omega
      have e7:b7=eE:=by rw[<-TF.o];simpa using hx2
      go_wp2_with fail;go_meet;exact⟨by rw[e7],rfl⟩
   case rest =>
   obtain⟨rfl,hw⟩:=hcut;have hw':=hw.symm;subst hw'
   have hcs:b7=eJ\/(b7=eE/\((x.kind:Int)==3)=eE/\((x.kind:Int)==4)=eE):=by
    cases hb:b7 with
    |true=>exact .inl rfl
    |false =>have hn:=HN.o;rw[hb]at hn;have h3:¬(x.kind=3\/x.kind=4):=λh=>hn ⟨rfl,h⟩;exact .inr ⟨rfl,by simp;omega,by simp;omega⟩
   rcases hcs with rfl |⟨rfl,q3,q4⟩
   all_goals
    go_upto_region 10 with fail;obtain⟨o6,c6,h6,_⟩:=lq.o.sl.view;have hal:=HAK.o;have Yb:af (∀os,jD w u6 bs acc (W3.alloc os)):=λos=>lq.o.quiet aq;have jh:af (∀os,aa ah w1 (W3.alloc os)):=λos=>eH.o.alloc _;subst h6;have HOn:af (∀u∈cs.toList,u.oneCell'=eJ):=λu hu=>by have:=E4.o;rw[Array.all_eq_true_iff_forall_mem]at this;exact this u (by simpa using hu)
    go_wp2_with (first |(refine pC rfl 143 (.tmp 10) rfl B rfl 143 cs (0,0) _ HB3.o underlying143 rfl (by rw[jS.o];kernel_rfl) ?_) |(refine yV rfl (.tmp 51) rfl cs rfl jS.o ?_) |(at_builtin;refine aP _ rfl (.tmp 50) (.tmp 52) 83 rfl 143 iP (fW (jx 0 ⟨#[]⟩ aD aD aD)) 20 160 underlying83 hiP sK hsP wJ rfl (by decide) (eK o6 (ee acc) c6) (ee acc) (acc.flatMap (λx=>(x.cells bs).toList)) rfl (Yb.o _).sl ⟨W3.heap.size,0,ez⟩ 1 1 cs.toList rfl (by rw[Array.length_toList,jS.o]) (aY _ _ _ _ rfl) HOn.o (by unfold maxLen;omega) (by omega) ?_;intro vA wA sA mA lA;have HAA:=ai (HAP.o _ _ _ (Yb.o _) sA mA lA);have Ge:=ai ((jh.o _).step mA (λi hi e=>by have h1:=lq.o.own i e;have h2:=yJ.o;have h3:i=w.heap.size:=(by omega);subst h3;exact lq.o.sl.ay (HTB.o.ae eH.o id) (by decide) e));clear sA mA lA));go_roundg (ee ts-(k+1))
    case measure=>omega
    case rel=>exact⟨k+1,_,acc++[x],by omega,by go_num,rfl,HAA.o,Ge.o,HE2.o,by simp[hal],rfl⟩
  ·have hke:k=ee ts:=by omega
   subst hke;have HE2:af (pr=.inl acc):=by rw[af,<-HP.o,List.drop_length];rfl
   obtain⟨o6,c6,h6,_⟩:=HA.o.sl.view;go_wp2_with fail;exact uf.o _ _ _ acc HE2.o HA.o rfl
