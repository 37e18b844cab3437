import Derived.Test.YthnphhgpfedeeaaGreatDoorCF49
import Derived.Conc.MuLone
namespace Go.Proofs.YthnphhgpfedeeaaGreatDoor
open Go.RowKit Tryz
open Go.RowKit Go.MuLone
open _root_.Array renaming replicate_succ->al,replicate_zero->an
open List renaming length_zip->ab,take_succ_cons->ao,drop_succ_cons->ar,append_toArray->aE,size_toArray->ba,push_toArray->bh,length_cons->bj,cons_append->bq
set_option linter.all false
set_option maxRecDepth 100000
set_option maxHeartbeats 2000000
abbrev maT:List TypeId:=[71,122,5,85,148]
structure vZ(F:Nat->Prop)(wT:tW)(tv:Value)(bs:List Nat)(mp:Nat)(vF:Value)(fs:List aS)(cg:List Nat)(w:tW):Prop where
 blk:∃c0 c1 c3,ak w mp #[c0,c1,vF,c3] 71
 lf:cg.length=fs.length
 vT:Sl w 75 2 vF fs.length ((fs.zip cg).flatMap Fx)
 code:∀i (h:i<fs.length) (h':i<cg.length),mI w bs cg[i] (aM fs[i].code) (atS 0 fs[i].code)
 tab:aH 0 wT tv bs aq
 md:iL maT wT w
 nM:¬F mp
 nF:∀k,vF.ownBlock=some k->¬F k
 nC:∀g∈cg,¬F g
 base:∀k,F k->wT.heap.size<=k
theorem vZ.ag{F:Nat->Prop}{wT:tW}{tv:Value}{bs:List Nat}{mp:Nat}{vF:Value}{fs:List aS}{cg:List Nat}{w w':tW}(h:vZ F wT tv bs mp vF fs cg w)(m:aa F w w'):vZ F wT tv bs mp vF fs cg w':=by obtain⟨c0,c1,c3,hb⟩:=h.blk;refine⟨⟨c0,c1,c3,hb.ag m h.nM⟩,h.lf,h.vT.ag m h.nF,λi a b=>(h.code i a b).ag m (h.nC _ (List.getElem_mem b)),h.tab,h.md.step m (λi hi hF=>by have:=h.base i hF;omega),h.nM,h.nF,h.nC,h.base⟩
theorem vZ.quiet{F:Nat->Prop}{wT:tW}{tv:Value}{bs:List Nat}{mp:Nat}{vF:Value}{fs:List aS}{cg:List Nat}{w w':tW}(h:vZ F wT tv bs mp vF fs cg w)(m:aa ae w w'):vZ F wT tv bs mp vF fs cg w':=h.ag (m.mono (λ_ _ h=>h.elim))
theorem vZ.at'{F:Nat->Prop}{wT:tW}{tv:Value}{bs:List Nat}{mp:Nat}{vF:Value}{fs:List aS}{cg:List Nat}{w:tW}(h:vZ F wT tv bs mp vF fs cg w)(fn slot:Nat)(x:PI)(hf:fn<fs.length)(hx:(x,slot)∈atS 0 (jy fs fn).code):∃gF cF gC,vF=.slice (some ⟨gF,0,none⟩) fs.length cF/\w.cell? ⟨mp,2,none⟩=some vF/\w.cell? ⟨gF,fn*2+1,none⟩=some (.slice (some ⟨gC,0,none⟩) (aM (jy fs fn).code) (aM (jy fs fn).code))/\w.cell? ⟨gF,fn*2,none⟩=some (.string (T (jy fs fn).name))/\∀j (hj:j<(x.ins bs).cells.size),w.cell? ⟨gC,slot*8+j,none⟩=some (x.ins bs).cells[j]:=by
 have hfn:jy fs fn=fs[fn]:=by unfold jy;rw[List.getD_eq_getElem?_getD,List.getElem?_eq_getElem hf];rfl
 rw[hfn]at hx ⊢;have hc:fn<cg.length:=by rw[h.lf];exact hf
 obtain⟨c0,c1,c3,hb⟩:=h.blk;obtain⟨oF,cF,rfl,hvw⟩:=h.vT.view;obtain⟨gF,cs,rfl,hg,ht,_⟩:=hvw (by omega);obtain⟨cs2,hb2,hsz,hcs⟩:=(h.code fn hf hc).ex;have hz:fn<(fs.zip cg).length:=by rw[ab,h.lf];omega
 have hrow:∀j,j<2->w.cell? ⟨gF,fn*2+j,none⟩=(Fx (fs[fn],cg[fn]))[j]?:=λj hj=>by rw[aW hg ht _ (by omega),kr Fx 2 (fs.zip cg) (λ_ _=>rfl) fn j hz hj];simp
 refine⟨gF,cF,cg[fn],rfl,hb.cell 2,hrow 1 (by omega),hrow 0 (by omega),λj hj=>?_⟩;have hj8:j<8:=hj;have e:=hcs (x,slot) hx j hj8;simp only at e;have e2:w.cell? ⟨cg[fn],slot*8+j,none⟩=cs2[slot*8+j]?:=hb2.cell (slot*8+j);rw[e2,e]
 have:((x.ins bs).dU)[j]?=(x.ins bs).cells[j]?:=by
  show _=((x.ins bs).dU.toArray)[j]?
  rw[List.getElem?_toArray]
 rw[this,Array.getElem?_eq_getElem hj]
def akB(F:Nat->Prop)(b:Nat)(fs:List aS):Prop:=∀f∈fs,∀p∈atS 0 f.code,(dz p.1.o.code).t=6->p.1.s≠1->p.1.num<4 ->
 (∀w a s,eW F w b a s->bR fs.length s->(∀k,w.heap.size<=k->F k)->akA F w b a s)/\∀s,bR fs.length s->IQ fs.length s
def MJ(F:Nat->Prop)(b:Nat)(fs:List aS):Prop:=∀f∈fs,∀p∈atS 0 f.code,∀(bs:List Nat) (w:tW) (a:Ad) (s:bP) (f9:Fn) (c9:tAV),eW F w b a s->bR fs.length s->(∀k,w.heap.size<=k->F k)->DoAt w f9 c9 (dz p.1.o.code)->MF fs.length s.ms.length p.1 ->
 ((dz p.1.o.code).t=1\/(dz p.1.o.code).t=2->∀w',aa ae w w'->Calls prog 216 #[.agg (p.1.ins bs).cells,.int .i64 s.r.top.slot] w' λe w''=>e=.returned (.int .i64 ((p.1.target s.r.top.slot).toNat:Nat))/\aa ae w' w'') ->
 ∃k,f9=.func k/\pE k/\Calls prog k (#[pt b,.agg (p.1.ins bs).cells]++c9) w λe w'=>dG F w b a (doP (dz p.1.o.code) p.1 s) e w'
def xU(fs:List aS):Prop:=∀f∈fs,∀p∈atS 0 f.code,(dz p.1.o.code).t=6->p.1.s≠1->p.1.num<4->∀s,bR fs.length s->IQ fs.length s
theorem akM{F:Nat->Prop}{b:Nat}{fs:List aS}(h:akB F b fs):MJ F b fs:=λf hf p hp bs w a s f9 c9 hs ho hF hD hx hT=>anE hs ho hF p.1 bs f9 c9 hD hx hT (λh6 h1 h4=>(h f hf p hp h6 h1 h4).1 w a s hs ho hF)
theorem ajE{F:Nat->Prop}{b:Nat}{fs:List aS}(h:akB F b fs):xU fs:=λf hf p hp h6 h1 h4=>(h f hf p hp h6 h1 h4).2
def MK(F:Nat->Prop)(w:tW)(b:Nat)(a:Ad)(fs:List aS)(mn fu:Nat)(D:Nat×bP)(q:Nat)(wx:tW):Prop :=
 ∃a1 s1,eW F wx b a1 s1/\bR fs.length s1/\(s1.r.ended=true\/Cc fs s1)/\s1.ms.length=mn/\s1.r.fuel=fu/\s1.r.used<=fu/\q=fu-s1.r.used/\followP fs (q+2) s1=D/\a1.mb=a.mb/\a1.vM=a.vM/\aa F w wx
theorem Va(d:VS)(x:PI)(s:bP):(doP d x s).2.r.fuel=s.r.fuel/\(doP d x s).2.r.used=s.r.used:=by
 have hs:∀(r:aC) (n:Nat) (v:MV),(r.eY n v).fuel=r.fuel/\(r.eY n v).used=r.used:=λr n v=>⟨rfl,rfl⟩
 have hss:∀(vs:List MV) (r:aC) (n:Nat),(r.kP n vs).fuel=r.fuel/\(r.kP n vs).used=r.used:=λvs=>by
  induction vs with
  |nil=>intro r n;exact⟨rfl,rfl⟩
  |cons v vs ih=>intro r n;exact ih _ _
 have ha:∀(r:aC) (v:MV),(r.answer v).fuel=r.fuel/\(r.answer v).used=r.used:=λr v=>hss _ _ _
 have hp:∀t key val,(Fz s t key val).1.r=s.r:=λt key val=>by
  unfold Fz;split
  ·rfl
  ·split<;>rfl
 have hd:∀t key,(FB s t key).1.r=s.r:=λt key=>by unfold FB;split<;>rfl
 unfold doP;split
 ·split<;>exact⟨rfl,rfl⟩
 ·split
  ·exact⟨rfl,rfl⟩
  ·split<;>exact⟨rfl,rfl⟩
 ·exact⟨rfl,rfl⟩
 ·split<;>exact⟨rfl,rfl⟩
 ·split<;>exact⟨rfl,rfl⟩
 ·exact⟨rfl,rfl⟩
 ·split
  ·split
   ·exact⟨rfl,rfl⟩
   ·exact hss _ _ _
  ·split
   ·unfold QC;split
    ·exact⟨rfl,rfl⟩
    ·split
     ·exact⟨rfl,rfl⟩
     ·exact ha _ _
   ·split
    ·unfold QD;split
     ·exact⟨rfl,rfl⟩
     ·split
      ·exact⟨rfl,rfl⟩
      ·split
       ·exact⟨rfl,rfl⟩
       ·show((Fz _ _ _ _).1.r.answer _).fuel=_/\((Fz _ _ _ _).1.r.answer _).used=_
        rw[hp];exact ha _ _
    ·split
     ·unfold QF;split
      ·exact⟨rfl,rfl⟩
      ·split
       ·exact⟨rfl,rfl⟩
       ·show((FB _ _ _).1.r.answer _).fuel=_/\((FB _ _ _).1.r.answer _).used=_
        rw[hd];exact ha _ _
     ·unfold IL;split
      ·exact⟨rfl,rfl⟩
      ·split
       ·exact⟨rfl,rfl⟩
       ·exact ha {s.r with log:=_} _
 ·split
  ·split<;>exact⟨rfl,rfl⟩
  ·exact ha s.r.pop _
theorem vZ.op{F:Nat->Prop}{wT:tW}{tv:Value}{bs:List Nat}{mp:Nat}{vF:Value}{fs:List aS}{cg:List Nat}{w:tW}(h:vZ F wT tv bs mp vF fs cg w)(x:PI)(hx:eU x):∃bo f9 c9,(x.ins bs).op=pt bo/\∀w',iL maT wT w'->(∀w'',aa ae w' w''->w''.cell? ⟨bo,2,none⟩=some (.int .i64 x.o.slots))/\w'.cell? ⟨bo,2,none⟩=some (.int .i64 x.o.slots)/\w'.cell? ⟨bo,9,none⟩=some (.func f9 #[] c9)/\DoAt w' f9 c9 (dz x.o.code):=by
 have hk:=hx.k;have hlen:bs.length=88:=h.tab.len.trans dZ;have hat:=h.tab.at' x.k (by omega) (by rw[dZ];exact hk);have ho:aq[x.k]'(by rw[dZ];exact hk)=x.o:=by unfold PI.o;rw[List.getElem?_eq_getElem (by rw[dZ];exact hk)];rfl
 rw[ho]at hat;obtain⟨o1,n1,c1,f6,c6,k7,c7,k8,c8,f9,c9,hb,hs⟩:=hat.ex;refine⟨bs[x.k]'(by omega),f9,c9,?_,λw' m=>⟨λw'' m2=>((hb.eG m (by decide)).ag m2 id).cell 2,?_,?_,hs.dn.blk (λ_ _ t ht h=>h.eG m ((show ∀t∈alF,t ∉ maT by decide) t ht))⟩⟩
 ·show Value.pointer (some ⟨bs[x.k]?.getD 0,0,none⟩)=_
  rw[List.getElem?_eq_getElem (by omega)];rfl
 ·exact(hb.eG m (by decide)).cell 2
 ·exact(hb.eG m (by decide)).cell 9
theorem aa.Lm{w W:tW}{o:Obj}(m:aa (Only w.heap.size) (w.alloc o) W):aa ae w W:=((aa.refl ae w).alloc o).step m (λi hi e=>by have e':i=w.heap.size:=e;omega)
theorem lD(fs:List aS)(n:Nat)(s:bP)(he:s.r.ended=false):followP fs (n+1) s=if(gD fs s).1=0 then followP fs n (gD fs s).2 else gD fs s:=by
 show(if s.r.ended then _ else _)=_
 rw[he];rfl
def aa4:tAV:=#[.pointer none,.int .u8 0,.int .u8 0,.int .i16 0,.int .i32 0,.int .i32 0,.string ⟨#[]⟩,.string ⟨#[]⟩]
theorem DoAt.fn{w:tW}{f:Fn}{c:tAV}{d:VS}(h:DoAt w f c d):∃k,f=.func k/\pE k:=by
 unfold DoAt at h;split at h
 ·exact⟨_,h.1,enters_of func204 (by kernel_rfl) rfl⟩
 ·exact⟨_,h.1,enters_of func230 (by kernel_rfl) rfl⟩
 ·exact⟨_,h.1,enters_of func118 (by kernel_rfl) rfl⟩
 ·exact⟨_,h.1,enters_of func233 (by kernel_rfl) rfl⟩
 ·exact⟨_,h.1,enters_of func235 (by kernel_rfl) rfl⟩
 ·exact⟨_,h.1,enters_of func127 (by kernel_rfl) rfl⟩
 ·exact⟨_,h.1,enters_of func131 (by kernel_rfl) rfl⟩
 ·exact⟨_,h.1,enters_of func132 (by kernel_rfl) rfl⟩
theorem Lp{F:Nat->Prop}(w:tW)(b:Nat)(a:Ad)(s:bP)(fs:List aS)(h:eW F w b a s)(ho:bR fs.length s)(Wh:s.r.ended=true\/Cc fs s)(hF:∀k,w.heap.size<=k->F k)(hu:s.r.used<=s.r.fuel)(hfu:s.r.fuel<=5000)(hco:qK fs s.ms.length)(wT:tW) (tv:Value) (bs:List Nat) (mp:Nat) (vF:Value) (cg:List Nat) (hC:vZ F wT tv bs mp vF fs cg w) (hH:MJ F b fs) (hK:xU fs):Calls prog 33 #[pt mp,pt b] w λe w'=>dG F w b a (followP fs (s.r.fuel-s.r.used+2) s) e w':=by
 have HC:af (vZ F wT tv bs mp vF fs cg w):=hC;have O7:af (qK fs s.ms.length):=hco;have HH:af (MJ F b fs):=hH;have HK:af (xU fs):=hK;have HF:af (∀k,w.heap.size<=k->F k):=hF;have iA:af (MK F w b a fs s.ms.length s.r.fuel (followP fs (s.r.fuel-s.r.used+2) s) (s.r.fuel-s.r.used) w):=⟨a,s,h,ho,Wh,rfl,rfl,hu,rfl,rfl,rfl,rfl,ax⟩
 have HFU:af (s.r.fuel<=5000):=hfu;clear h ho Wh hF hu hfu hco hC hH hK;generalize followP fs (s.r.fuel-s.r.used+2) s=D at *;generalize s.r.fuel-s.r.used=N at *;generalize s.r.fuel=fu at *;generalize s.ms.length=mn at *;clear s;generalize hPP:(λe w'=>dG F w b a D e w')=PP;have HPP:af (∀e w',dG F w b a D e w'->PP e w'):=λe w' hd=>by rw[<-hPP];exact hd
 clear hPP;go_enter func33,ntmps33;go_wp2_with fail;go_loopg [9] N (λq v9 wx=>MK F w b a fs mn fu D q wx)
 case atStart=>exact iA.o
 case round =>
  obtain⟨a1,s1,hS,hO,hP,hm,hf,hu,hq,hD,e1,e2,hM⟩:=hrel;have HS:af (eW F wr b a1 s1):=hS;have HO:af (bR fs.length s1):=hO;have HM:af (aa F w wr):=hM;have Js:af (a1.mb=a.mb/\a1.vM=a.vM):=⟨e1,e2⟩
  clear hS hO hM e1 e2 iA;have nD:af (Calls prog 58 #[pt b] wr λe w'=>e=.returned (.bool s1.r.ended)/\aa ae wr w'):=Qn wr b a1.rb a1.mb a1.vM a1.vC a1.vL s1.r HS.o.run;by_cases he:s1.r.ended=true
  ·have O0:af (∀w',aa ae wr w'->PP (.returned (.tuple #[])) w'):=λw' m=>HPP.o _ _ (by
    have e0:D=(0,s1):=by rw[<-hD];show(if s1.r.ended then _ else _)=_;rw[iP9 he]
    rw[e0];exact⟨rfl,HM.o.trans (m.mono (λ_ _ h=>h.elim)),a1,HS.o.quiet m,Js.o.1,Js.o.2⟩)
   rw[he]at nD;clear he hP hm hf hu hq hD HS HO HM Js HC O7 HH HF HFU HPP;go_wp2_with fail;refine nD.o.mono ?_;rintro e w1 ⟨rfl,m1⟩;have HF1:=ai (O0.o w1 m1);clear O0 m1;go_wp2_with fail;go_end0;exact HF1.o
  ·have he':s1.r.ended=false:=by simpa using he
   rw[he']at nD;have Wh:Cc fs s1:=hP.elim (λe=>absurd e he) id;have HPC:af (Cc fs s1):=Wh;have hfn:=HO.o.top.fn;have hmem:=tN fs _ hfn;have hat:=tO fs _ _ Wh.at';have FH:af _:=O7.o.ins _ hmem _ hat;have HAT:af ((s1.ins fs,s1.r.top.slot)∈atS 0 (jy fs s1.r.top.fn).code):=hat;have aeT:s1.r.top.slot+(s1.ins fs).o.slots<=aM (jy fs s1.r.top.fn).code:=by have:=KW _ 0 _ hat;simp only at this;have e:(yV fs s1.r.top.fn s1.r.top.slot)=s1.ins fs:=rfl;rw[e]at this;omega
   have hsl1:1<=(s1.ins fs).o.slots:=by rcases FH.o.2.1.slots with e|e<;>(have e':(s1.ins fs).o.slots=_:=e;omega)
   have hlen:=O7.o.len _ hmem;have PM:af (∀w',aa F wr w'->vZ F wT tv bs mp vF fs cg w'):=λw' m=>(HC.o.ag HM.o).ag m;obtain⟨bo,f9,c9,hop,hOp⟩:=HC.o.op (s1.ins fs) FH.o.2.1;obtain⟨k9,hk9,en9⟩:=(hOp w HC.o.md).2.2.2.fn;subst hk9;have HN:af (∀w' k,aa F wr w'->w'.heap.size<=k->F k):=λw' k m hk=>HF.o k (Nat.le_trans HM.o.size (Nat.le_trans m.size hk));have zK:af (∀w',aa F wr w'->(∀w'',aa ae w' w''->w''.cell? ⟨bo,2,none⟩=some (.int .i64 (s1.ins fs).o.slots))/\w'.cell? ⟨bo,2,none⟩=some (.int .i64 (s1.ins fs).o.slots)/\w'.cell? ⟨bo,9,none⟩=some (.func (.func k9) #[] c9)/\DoAt w' (.func k9) c9 (dz (s1.ins fs).o.code)):=λw' m=>hOp w' (PM.o w' m).md;have acP:af (∀w',aa ae wr w'->Calls prog 57 #[pt b] w' λe w''=>e=.returned (.tuple #[.int .i64 s1.r.top.fn,.int .i64 s1.r.top.slot])/\aa ae w' w''):=λw' m=>vX w' b a1.rb a1.mb a1.vM a1.vC a1.vL s1.r (HS.o.run.quiet m) HO.o.pos;have HCA:af (∀w',aa F wr w'->∃gF cF gC,vF=.slice (some ⟨gF,0,none⟩) fs.length cF/\w'.cell? ⟨mp,2,none⟩=some vF/\w'.cell? ⟨gF,s1.r.top.fn*2+1,none⟩=some (.slice (some ⟨gC,0,none⟩) (aM (jy fs s1.r.top.fn).code) (aM (jy fs s1.r.top.fn).code))/\w'.cell? ⟨gF,s1.r.top.fn*2,none⟩=some (.string (T (jy fs s1.r.top.fn).name))/\∀j (hj:j<((s1.ins fs).ins bs).cells.size),w'.cell? ⟨gC,s1.r.top.slot*8+j,none⟩=some ((s1.ins fs).ins bs).cells[j]):=λw' m=>(PM.o w' m).at' _ _ _ hfn HAT.o;have HTG:af (∀w' w'',aa F wr w'->aa ae w' w''->(dz (s1.ins fs).o.code).t=1\/(dz (s1.ins fs).o.code).t=2->Calls prog 216 #[.agg ((s1.ins fs).ins bs).cells,.int .i64 s1.r.top.slot] w'' λe w3=>e=.returned (.int .i64 (((s1.ins fs).target s1.r.top.slot).toNat:Nat))/\aa ae w'' w3):=λw' w'' m m' h12=>by have hA:=(zK.o w'' (m.trans (m'.mono (λ_ _ h=>h.elim)))).1;have h0:0<=(s1.ins fs).target s1.r.top.slot:=(FH.o.2.2.1 h12).1;have:=ajV w'' bo (s1.ins fs).o.slots hA (s1.ins fs).d (s1.ins fs).s (s1.ins fs).num (s1.ins fs).high (s1.ins fs).jump ByteArray.empty (T (s1.ins fs).name) s1.r.top.slot (by omega) (by have:=QV _ FH.o.2.1;have e:(yV fs s1.r.top.fn s1.r.top.slot).o.slots=(s1.ins fs).o.slots:=rfl;simp only at this;omega) FH.o.1.j;rw[Int.toNat_of_nonneg h0];unfold di.cells;rw[hop];exact this
   have Rk:af (s1.r.used=fu->∀w',aa ae wr w'->Calls prog 59 #[pt b,.int .i64 (s1.ins fs).o.slots] w' λe w''=>e=aX 1/\aa ae w' w''):=λe w' m=>Qp w' b a1.rb a1.mb a1.vM a1.vC a1.vL s1.r (HS.o.run.quiet m) _ (by omega);have Jp:af (s1.r.used≠fu->∀w',aa ae wr w'->Calls prog 59 #[pt b,.int .i64 (s1.ins fs).o.slots] w' λe w''=>e=.returned (.tuple #[])/\(eW F w'' b a1 (s1.begin (s1.ins fs).o.slots)/\aa F w' w'')/\aa (λk=>k=b\/Own a1.vC k) w' w''):=λe w' m=>by have afa:=HFU.o;exact(Qq w' b a1.rb a1.mb a1.vM a1.vC a1.vL s1.r (HS.o.run.quiet m) HO.o.pos (s1.ins fs).o.slots (by omega) (by omega) (by omega)).mono (λe2 w'' hh=>⟨hh.1,(HS.o.quiet m).UT hh.2.2 _ hh.2.1 rfl,hh.2.2⟩)
   have HTY:af (∀w',aa ae wr w'->∀k,(k=b\/Own a1.vC k)->∃t∈[125,190],Ty w' k t):=λw' m=>(HS.o.quiet m).US;have hOb:=HO.o.begin (s1.ins fs).o.slots;have FU:af (∀w',aa F wr w'->eW F w' b a1 (s1.begin (s1.ins fs).o.slots)->Calls prog k9 (#[pt b,.agg ((s1.ins fs).ins bs).cells]++c9) w' λe w''=>dG F w' b a1 (s1.did fs) e w''):=λw' m hst=>by have hbt:=DW s1 HO.o.pos (s1.ins fs).o.slots;obtain⟨k',hk',_,hcall⟩:=HH.o _ hmem _ hat bs w' a1 _ (.func k9) c9 hst hOb (λk hk=>HN.o w' k m hk) (zK.o w' m).2.2.2 (by have:=FH.o.1;rw[<-hm]at this;exact this) (λh12 w'' m'=>by rw[hbt];exact HTG.o w' w'' m m' h12);injection hk' with hk';subst hk';exact hcall
   have HKP:af (s1.r.used≠fu->(s1.did fs).1=0->∀w5 a5,aa F wr w5->eW F w5 b a5 (s1.did fs).2.gx->a5.mb=a1.mb->a5.vM=a1.vM->MK F w b a fs mn fu D (gk-1) w5):=λhne h0 w5 a5 m5 h5 em ev=>by
    obtain⟨ks,km⟩:=Lj hOb (by exact hm) (s1.ins fs) FH.o.1 (λh6 h1 h4=>HK.o _ hmem _ hat h6 h1 h4 _ hOb);have aa5:=U7 (by rw[hm];exact O7.o) HO.o Wh he' h0;obtain⟨fu1,fu2⟩:=Va (dz (s1.ins fs).o.code) (s1.ins fs) (s1.begin (s1.ins fs).o.slots);have ku:(s1.did fs).2.gx.r.used=s1.r.used+1:=fu2;have kf:(s1.did fs).2.gx.r.fuel=s1.r.fuel:=fu1;refine⟨a5,(s1.did fs).2.gx,h5,bR.gx ks,?_,km,by rw[kf];exact hf,by rw[ku];omega,by rw[ku];omega,?_,em.trans Js.o.1,ev.trans Js.o.2,HM.o.trans m5⟩
    ·rcases aa5 with hd|hd
     ·exact .inl hd
     ·exact .inr (Cc.of ks.pos hd)
    ·rw[<-hD,show gk-1+2=gk+1 by omega,show gk+2=(gk+1)+1 by omega,lD fs _ _ he'];have em:gD fs s1=(0,(s1.did fs).2.gx):=by unfold gD;rw[iN9 (by omega),iP9 h0]
     rw[em,iP9 rfl]
   have Xa:af (∀w5,aa F wr w5->(s1.r.used=fu->eW F w5 b a1 s1->PP (aX 1) w5)/\(s1.r.used≠fu->(s1.did fs).1≠0->∀a5,eW F w5 b a5 (s1.did fs).2->a5.mb=a1.mb->a5.vM=a1.vM->PP (aX (s1.did fs).1) w5)):=λw5 m5=>by
    refine⟨λhE h5=>HPP.o _ _ ?_,λhne h0 a5 h5 em ev=>HPP.o _ _ ?_⟩
    ·have eD:D=(1,s1):=by
      rw[<-hD,show gk+2=(gk+1)+1 by omega,lD fs _ _ he'];have em:gD fs s1=(1,s1):=by unfold gD;rw[iP9 (by omega)]
      rw[em];rfl
     rw[eD];exact⟨rfl,HM.o.trans m5,a1,h5,Js.o.1,Js.o.2⟩
    ·have eD:D=s1.did fs:=by
      rw[<-hD,show gk+2=(gk+1)+1 by omega,lD fs _ _ he'];have em:gD fs s1=s1.did fs:=by unfold gD;rw[iN9 (by omega),iN9 h0]
      rw[em,iN9 h0]
     rw[eD];exact⟨(iN9 h0).symm,HM.o.trans m5,a5,h5,em.trans Js.o.1,ev.trans Js.o.2⟩
   have aeI:af (0<(s1.did fs).2.r.calls.length):=(Lj hOb (by exact hm) (s1.ins fs) FH.o.1 (λh6 h1 h4=>HK.o _ hmem _ hat h6 h1 h4 _ hOb)).1.pos;have nE:af (((s1.ins fs).ins bs).cells=#[pt bo,.int .u8 (s1.ins fs).d,.int .u8 (s1.ins fs).s,.int .i16 (s1.ins fs).jump,.int .i32 (s1.ins fs).num,.int .i32 (s1.ins fs).high,.string ByteArray.empty,.string (T (s1.ins fs).name)]):=by unfold af di.cells;rw[hop];rfl
   clear hop hOp hD hf PM HC O7 HH HK HF HFU HPP FH HAT HPC hOb hmem hat Wh hP he HTG HN Js HM HO hm;unfold pE at en9;generalize s1.did fs=dd at *;generalize hxx:s1.ins fs=x at *;clear hxx;generalize s1.begin x.o.slots=sb at *;generalize aM (jy fs s1.r.top.fn).code=nS at *;generalize(jy fs s1.r.top.fn).name=nm at *;generalize s1.r.top.fn=fn at *;generalize s1.r.top.slot=sl at *;generalize x.o.slots=xs at *;go_wp2_with fail;refine nD.o.mono ?_;rintro e w1 ⟨rfl,m1⟩;have M1:af (aa ae wr w1):=m1;clear m1 nD;go_wp2_with fail;refine(acP.o _ M1.o).mono ?_;rintro e w2 ⟨rfl,m2⟩;have M2:af (aa ae wr w2):=M1.o.trans m2;clear m2 M1 acP;obtain⟨gF,cF,gC,jZ,y1,y2,_,y3⟩:=HCA.o w2 (M2.o.mono (λ_ _ h=>h.elim));subst jZ;have HY3:=ai y3;have Ru:af ((x.ins bs).cells.size=8):=rfl;have GM:af ((x.ins bs).cells.all (·.oneCell')=true):=by unfold af;rw[nE.o];simp[Value.oneCell']
   have HB2:af (ak (w2.alloc (.cells aa4 138)) w2.heap.size aa4 138):=ak.new w2 _ _;have HZI:af (aa4=#[.pointer none,.int .u8 0,.int .u8 0,.int .i16 0,.int .i32 0,.int .i32 0,.string ⟨#[]⟩,.string ⟨#[]⟩]):=rfl;clear y3 HCA;generalize hcs:(x.ins bs).cells=cs at *;clear hcs;have hY3:=HY3.o;go_upto_region 3 with(first |(refine oW rfl 138 (.tmp 24) rfl gC (sl*8) rfl cs _ HY3.o underlying138 rfl (by rw[Ru.o];kernel_rfl) ?_) |(rw[<-HZI.o];refine dF rfl 138 (.tmp 6) (.tmp 25) rfl w2.heap.size cs rfl rfl 138 _ HB2.o (by rw[Ru.o];kernel_rfl) (by rw[Ru.o];rfl) GM.o ?_;intro W3 hB3 uy))
   have M3:af (aa ae wr W3):=M2.o.trans uy.Lm;rw[nE.o]at hB3;have HB3:af (ak W3 w2.heap.size #[pt bo,.int .u8 x.d,.int .u8 x.s,.int .i16 x.jump,.int .i32 x.num,.int .i32 x.high,.string ByteArray.empty,.string (T x.name)] 138):=hB3;clear hB3 uy HB2 M2 HY3 hY3 GM Ru HZI y1 y2;generalize w2.heap.size=gI at *;simp only[Act.put];obtain⟨_,o2,_,_⟩:=zK.o W3 (M3.o.mono (λ_ _ h=>h.elim));have z0:=HB3.o.cell 0;by_cases hE:s1.r.used=fu
   ·have Fe:=ai (Rk.o hE _ M3.o);have HT1:af (∀w',aa ae wr w'->PP (aX 1) w'):=λw' m=>(Xa.o w' (m.mono (λ_ _ h=>h.elim))).1 hE (HS.o.quiet m);clear Rk Jp FU HKP Xa zK HS hE;go_wp2_with fail;refine Fe.o.mono ?_;rintro e w4 ⟨rfl,m4⟩;exact⟨rfl,HT1.o w4 (M3.o.trans m4)⟩
   ·have Fe:=ai (Jp.o hE _ M3.o);have aeJ:=ai (HKP.o hE);have aeK:af (∀w5,aa F wr w5->dd.1≠0->∀a5,eW F w5 b a5 dd.2->a5.mb=a1.mb->a5.vM=a1.vM->PP (aX dd.1) w5):=λw5 m5 h0=>(Xa.o w5 m5).2 hE h0;have hgk:0<gk:=by omega
    clear Rk Jp HKP Xa HS hu;go_wp2_with fail;refine Fe.o.mono ?_;rintro e w4 ⟨rfl,⟨hS4,m4⟩,m4'⟩;have HS4:af (eW F w4 b a1 sb):=hS4;have M4:af (aa F wr w4):=(M3.o.mono (λ_ _ h=>h.elim)).trans m4;have gq:=ai (HB3.o.eG (iL.of m4' (HTY.o W3 M3.o)) (by decide));clear hS4 m4 m4' Fe HB3 M3 HTY o2 z0;have o9:∀e:Ext ae w4,e.w.cell? ⟨bo,9,none⟩=some (.func (.func k9) #[] c9):=λe=>(zK.o e.w (M4.o.trans (e.m.mono (λ_ _ h=>h.elim)))).2.2.1;have z0:∀e:Ext ae w4,e.w.cell? ⟨gI,0,none⟩=some (pt bo):=λe=>(gq.o.ag e.m id).cell 0;have z1:∀e:Ext ae w4,e.w.cell? ⟨gI,1,none⟩=some (.int .u8 x.d):=λe=>(gq.o.ag e.m id).cell 1;have z2:∀e:Ext ae w4,e.w.cell? ⟨gI,2,none⟩=some (.int .u8 x.s):=λe=>(gq.o.ag e.m id).cell 2;have z3:∀e:Ext ae w4,e.w.cell? ⟨gI,3,none⟩=some (.int .i16 x.jump):=λe=>(gq.o.ag e.m id).cell 3;have z4:∀e:Ext ae w4,e.w.cell? ⟨gI,4,none⟩=some (.int .i32 x.num):=λe=>(gq.o.ag e.m id).cell 4;have z5:∀e:Ext ae w4,e.w.cell? ⟨gI,5,none⟩=some (.int .i32 x.high):=λe=>(gq.o.ag e.m id).cell 5;have z6:∀e:Ext ae w4,e.w.cell? ⟨gI,6,none⟩=some (.string ByteArray.empty):=λe=>(gq.o.ag e.m id).cell 6;have z7:∀e:Ext ae w4,e.w.cell? ⟨gI,7,none⟩=some (.string (T x.name)):=λe=>(gq.o.ag e.m id).cell 7
    haveI:Nonempty (Ext ae w4):=Ext.ne _ _
    have HDX:af (∀w',aa ae w4 w'->Calls prog k9 (#[pt b,.agg #[pt bo,.int .u8 x.d,.int .u8 x.s,.int .i16 x.jump,.int .i32 x.num,.int .i32 x.high,.string ByteArray.empty,.string (T x.name)]]++c9) w' λe w''=>dG F w' b a1 dd e w''):=λw' m=>by have:=FU.o w' (M4.o.trans (m.mono (λ_ _ h=>h.elim))) (HS4.o.quiet m);rw[nE.o]at this;exact this
    clear FU zK HS4;go_upto_region 4 with fail;refine dC 7 [] (λw'=>∃e:Ext ae w4,w'=e.w) (by kernel_rfl) (by kernel_rfl) ⟨⟨_,aJ⟩,rfl⟩ ?_;simp only[ao,List.take_zero,ar,List.drop_zero]
    iterate 2 (refine aA rfl rfl rfl ?_;intro K' hK;go_big_quiet_op;go_big_quiet_on)
    refine bV rfl rfl _ ⟨bo,0,none⟩ rfl rfl ?_;simp only[Act.put,sA9,sB9,sC9]
    iterate 4 (refine aA rfl rfl rfl ?_;intro K' hK;go_big_quiet_op;go_big_quiet_on)
    refine bX ?_;clear o9 z0 z1 z2 z3 z4 z5 z6 z7;go_wp2_with fail;refine(HDX.o _ aJ).mono ?_;rintro e w6 ⟨Yz,m6,a6,ZU,em6,ev6⟩;have M6:af (aa F wr w6):=M4.o.trans ((((aa.refl ae w4).drew).mono (λ_ _ h=>h.elim)).trans m6);by_cases h0:dd.1=0
    ·rw[iP9 h0]at Yz;subst Yz;have Q8:af (Calls prog 60 #[pt b] w6 λe w'=>e=.returned (.tuple #[])/\MK F w b a fs mn fu D (gk-1) w'):=by refine(UD w6 b a6.rb a6.mb a6.vM a6.vC a6.vL dd.2.r ZU.run aeI.o).mono (λe w' hh=>⟨hh.1,?_⟩);obtain⟨k1,k2⟩:=ZU.FD hh.2.2 _ hh.2.1 rfl;exact aeJ.o h0 w' a6 (M6.o.trans k2) k1 em6 ev6
     clear M6 m6 ZU em6 ev6 HDX gq M4;go_wp2_with fail;refine Q8.o.mono ?_;rintro e w7 ⟨rfl,hr7⟩;have HR7:=ai hr7;clear hr7 Q8;go_wp2_with fail;go_roundg (gk-1)
     case measure=>omega
     case rel=>exact HR7.o
    ·rw[iN9 h0]at Yz;subst Yz;exact⟨rfl,aeK.o w6 M6.o h0 a6 ZU em6 ev6⟩
abbrev muL:Go.Conc.Locks.MuLink:={lock:=26,unlock:=27,ilock:=51,iunlock:=52,lockSlow:=91,unlockSlow:=94,disable:=87,enable:=89,acquire:=90,relMerge:=92,cas32:=88,add32:=93,tMutex:=67,tIMutex:=65,tPMutex:=119,tPIMutex:=181,tPI32:=183,tUP:=185,tNoCopy:=63,tU32:=37}
theorem Vc:Go.Conc.Locks.MuLib prog muL :=
 ⟨func26,func27,func51,func52,func87,func89,func90,func92,func88,func93,underlying65,runUnderlying65,sizeOf65,isAgg65,zeroValue65,underlying67,runUnderlying67,sizeOf67,isAgg67,zeroValue67,underlying119,runUnderlying119,sizeOf119,isAgg119,zeroValue119,underlying181,runUnderlying181,sizeOf181,isAgg181,zeroValue181,underlying183,runUnderlying183,sizeOf183,isAgg183,zeroValue183,underlying185,runUnderlying185,sizeOf185,isAgg185,zeroValue185,underlying63,runUnderlying63,sizeOf63,isAgg63,zeroValue63,underlying21,runUnderlying21,sizeOf21,isAgg21,zeroValue21,(by kernel_rfl)⟩
theorem QW(w:tW):(convert 30 9 (.slice none 0 0)).run prog w=.ok (.string (strOf [])) w:=by rw[run_convert_bytes_string w 30 9 5 none 0 0 underlying30 underlying5 underlying9];rfl
theorem IV{w:tW}{v:Value}{n:Nat}{l:List Nat}(h:pH w v n l)(hb:∀x∈l,x<256):∃o cap,v=.slice o n cap/\(convert 30 9 v).run prog w=.ok (.string (strOf l)) w:=by
 have h0:=h;rcases h.2 with⟨rfl,rfl⟩ |⟨g,cap,cur,lo,hi,rfl,hg,_⟩
 ·have:l=[]:=List.length_eq_zero_iff.1 h.1;subst this;exact⟨_,_,rfl,QW w⟩
 ·exact⟨_,_,rfl,Ca w g n cap l hb h0⟩
theorem DY{F:Nat->Prop}{w:tW}{b:Nat}{a:Ad}{s:bP}{fn:Nat}(h:eW F w b a s)(ho:bR fn s):Calls prog 34 #[pt b] w λe w'=>e=.returned (.agg #[.int .i64 0,.string ByteArray.empty,.int .i64 0,.int .u64 s.r.r0,.string (strOf (s.gs.getD s.r.inp [])),a.vL,.int .i64 s.r.used])/\aa ae w w':=by
 obtain⟨oL,cL,KM,_⟩:=h.log.view;obtain⟨o,cap,hv,_⟩:=IV (h.qU.sl _ ho.inp) (ho.gs.at _ ho.inp).2
 have HH:af (∀w',aa ae w w'->aB w' b a.rb a.mb a.vM a.vC a.vL s.r/\ak w' (a.rb.getD s.r.inp 0) #[.slice o (s.gs.getD s.r.inp []).length cap] 122/\(convert 30 9 (.slice o (s.gs.getD s.r.inp []).length cap)).run prog w'=.ok (.string (strOf (s.gs.getD s.r.inp []))) w'):=λw' m=>by
  have h':=h.quiet m;refine⟨h'.run,?_,?_⟩
  ·rw[<-hv];exact h'.qU.blk _ ho.inp
  ·obtain⟨o2,c2,hv2,hc2⟩:=IV (h'.qU.sl _ ho.inp) (ho.gs.at _ ho.inp).2;rw[<-hv];exact hc2
 rw[KM]at HH ⊢;clear h ho hv KM;generalize strOf (s.gs.getD s.r.inp [])=str at *;generalize(s.gs.getD s.r.inp []).length=n at *;generalize s.r.log.length=nL at *;go_enter func34,ntmps34;go_upto_region 1 with fail;have eZ:af (aa ae w (w.alloc (.cells #[.int .i64 0,.string ⟨#[]⟩,.int .i64 0,.int .u64 0,.string ⟨#[]⟩,.slice none 0 0,.int .i64 0] 34)).drew):=aj.drew;have qY:af (ak (w.alloc (.cells #[.int .i64 0,.string ⟨#[]⟩,.int .i64 0,.int .u64 0,.string ⟨#[]⟩,.slice none 0 0,.int .i64 0] 34)).drew w.heap.size #[.int .i64 0,.string ⟨#[]⟩,.int .i64 0,.int .u64 0,.string ⟨#[]⟩,.slice none 0 0,.int .i64 0] 34):=(ak.new w _ _).ag (aa.refl ae _).drew id;refine bJ 21 (by kernel_rfl) (by kernel_rfl) ?_;intro W hW;rw[<-hW]at eZ qY;clear hW;obtain⟨hr,hg,hcv⟩:=HH.o W eZ.o;have x1:W.cell? ⟨b,1,none⟩=some (.pointer (some ⟨a.rb.getD s.r.inp 0,0,none⟩)):=hr.blk.cell 1;have x4:W.cell? ⟨b,4,none⟩=some (.int .i64 s.r.used):=hr.blk.cell 4;have x5:W.cell? ⟨b,5,none⟩=some (.slice oL nL cL):=hr.blk.cell 5;have x6:W.cell? ⟨b,6,none⟩=some (.int .u64 s.r.r0):=hr.blk.cell 6;have y0:W.cell? ⟨a.rb.getD s.r.inp 0,0,none⟩=some (.slice o n cap):=hg.cell 0;clear hr hg HH;generalize a.rb.getD s.r.inp 0=R at *;simp only[ao,List.take_zero,ar,List.drop_zero]
 repeat(go_big_quiet_step (fail))
 refine wpQuiet_nil ?_;have z0:=qY.o.cell 0;have z1:=qY.o.cell 1;have z2:=qY.o.cell 2;have z3:=qY.o.cell 3;have z4:=qY.o.cell 4;have z5:=qY.o.cell 5;have z6:=qY.o.cell 6;have zf:=qY.o.frozen;clear x1 x4 x5 x6 y0 hcv;go_wp2_with fail;refine bodyPost_ret (results_cell_row results34 _ _ w.heap.size 34 _ (0,0) _ rfl (((((((qY.o.set 0 _).set 1 _).set 2 _).set 3 _).set 4 _).set 5 _).set 6 _) underlying34 rfl (by kernel_rfl)) rfl ⟨rfl,?_⟩;have q:∀{X:tW} (i:Nat) (u:Value),aa ae w X->aa ae w (X.setCell ⟨w.heap.size,i,none⟩ u):=λi u m=>m.set (a:=⟨w.heap.size,i,none⟩) (Or.inr (Nat.le_refl _)) u;exact q 6 _ (q 5 _ (q 4 _ (q 3 _ (q 2 _ (q 1 _ (q 0 _ eZ.o))))))
theorem Lr{F:Nat->Prop}{w:tW}{b:Nat}{a:Ad}{s:bP}{fs:List aS}(h:eW F w b a s)(ho:bR fs.length s){wT:tW}{tv:Value}{bs:List Nat}{mp:Nat}{vF:Value}{cg:List Nat}(hC:vZ F wT tv bs mp vF fs cg w)(t:Nat):Calls prog 32 #[pt mp,pt b,.int .i64 t] w λe w'=>e=.returned (.agg #[.int .i64 t,.string (T (jy fs s.r.top.fn).name),.int .i64 s.r.top.slot,.int .u64 s.r.r0,.string (strOf (s.gs.getD s.r.inp [])),a.vL,.int .i64 s.r.used])/\aa ae w w':=by
 obtain⟨oL,cL,KM,_⟩:=h.log.view;have hfn:=ho.top.fn;have Gf:af (∀w',aa ae w w'->Calls prog 34 #[pt b] w' λe w''=>e=.returned (.agg #[.int .i64 0,.string ByteArray.empty,.int .i64 0,.int .u64 s.r.r0,.string (strOf (s.gs.getD s.r.inp [])),a.vL,.int .i64 s.r.used])/\aa ae w' w''):=λw' m=>DY (h.quiet m) ho;have O8:af (∀w',aa ae w w'->Calls prog 57 #[pt b] w' λe w''=>e=.returned (.tuple #[.int .i64 s.r.top.fn,.int .i64 s.r.top.slot])/\aa ae w' w''):=λw' m=>vX w' b a.rb a.mb a.vM a.vC a.vL s.r (h.run.quiet m) ho.pos
 have HCA:af (∀w',aa ae w w'->∃gF cF,vF=.slice (some ⟨gF,0,none⟩) fs.length cF/\w'.cell? ⟨mp,2,none⟩=some vF/\w'.cell? ⟨gF,s.r.top.fn*2,none⟩=some (.string (T (jy fs s.r.top.fn).name))):=λw' m=>by
  have Nj:=hC.quiet m;have aeL:jy fs s.r.top.fn=fs[s.r.top.fn]:=by unfold jy;rw[List.getD_eq_getElem?_getD,List.getElem?_eq_getElem hfn];rfl
  rw[aeL];obtain⟨c0,c1,c3,hb⟩:=Nj.blk;obtain⟨oF,cF,rfl,hvw⟩:=Nj.vT.view;obtain⟨gF,cs,rfl,hg,ht,_⟩:=hvw (by omega);have hz:s.r.top.fn<(fs.zip cg).length:=by rw[ab,Nj.lf];omega
  refine⟨gF,cF,rfl,hb.cell 2,?_⟩;have:w'.cell? ⟨gF,s.r.top.fn*2+0,none⟩=(Fx ((fs.zip cg)[s.r.top.fn]))[0]?:=by rw[aW hg ht _ (by omega),kr Fx 2 (fs.zip cg) (λ_ _=>rfl) s.r.top.fn 0 hz (by omega)]
  rw[Nat.add_zero]at this;rw[this];simp[Fx]
 rw[KM]at Gf ⊢;clear h ho hC KM;generalize strOf (s.gs.getD s.r.inp [])=str at *;generalize s.r.log.length=nL at *;generalize T (jy fs s.r.top.fn).name=nm at *;generalize s.r.top.fn=fn at *;generalize s.r.top.slot=sl at *;have eX:af (aa ae w (w.alloc (.cells #[.int .i64 0,.string ⟨#[]⟩,.int .i64 0,.int .u64 0,.string ⟨#[]⟩,.slice none 0 0,.int .i64 0] 34))):=aj;have HB0:af (ak (w.alloc (.cells #[.int .i64 0,.string ⟨#[]⟩,.int .i64 0,.int .u64 0,.string ⟨#[]⟩,.slice none 0 0,.int .i64 0] 34)) w.heap.size #[.int .i64 0,.string ⟨#[]⟩,.int .i64 0,.int .u64 0,.string ⟨#[]⟩,.slice none 0 0,.int .i64 0] 34):=ak.new w _ _;go_enter func32,ntmps32;go_upto_region 1 with fail;generalize w.alloc (.cells #[.int .i64 0,.string ⟨#[]⟩,.int .i64 0,.int .u64 0,.string ⟨#[]⟩,.slice none 0 0,.int .i64 0] 34)=W0 at *;go_wp2_with fail;refine(Gf.o _ eX.o).mono ?_;rintro e w1 ⟨rfl,m1⟩;have dh:af (aa ae w w1):=eX.o.trans m1;have HB1:=ai (HB0.o.ag m1 id);clear m1 HB0 eX Gf;have GM:af ((#[.int .i64 0,.string ByteArray.empty,.int .i64 0,.int .u64 s.r.r0,.string str,.slice oL nL cL,.int .i64 s.r.used]:tAV).all (·.oneCell')=true):=by unfold af;simp[Value.oneCell']
 have HB2:af (ak (w1.alloc (.cells #[.int .i64 0,.string ⟨#[]⟩,.int .i64 0,.int .u64 0,.string ⟨#[]⟩,.slice none 0 0,.int .i64 0] 34)) w1.heap.size #[.int .i64 0,.string ⟨#[]⟩,.int .i64 0,.int .u64 0,.string ⟨#[]⟩,.slice none 0 0,.int .i64 0] 34):=ak.new w1 _ _;go_wp2_with (refine dF rfl 34 (.tmp 7) (.tmp 11) rfl w1.heap.size _ rfl rfl 34 _ HB2.o (by kernel_rfl) rfl GM.o ?_;intro W3 hB3 uy);have dw:af (aa ae w W3):=dh.o.trans uy.Lm;have HB3:=ai hB3;have acQ:=ai (HB1.o.ag uy.Lm id);have HGL:af (w1.heap.size<W3.heap.size/\w.heap.size<w1.heap.size):=⟨hB3.lt,HB1.o.lt⟩
 clear hB3 uy HB2 HB1 GM dh;generalize w1.heap.size=gR at *;refine(O8.o _ dw.o).mono ?_;rintro e w4 ⟨rfl,m4⟩;have fU:af (aa ae w w4):=dw.o.trans m4;have gq:=ai (HB3.o.ag m4 id);have ZV:=ai (acQ.o.ag m4 id);clear m4 HB3 acQ dw O8;go_upto_region 3 with fail;have HMe:af (∀e:Ext (Only gR) w4,aa ae w e.w):=λe=>fU.o.step e.m (λi hi he=>by have h1:i=gR:=he;have h2:=HGL.o.2;omega);obtain⟨gF,cF,jZ,_,_⟩:=HCA.o w4 fU.o;subst jZ;have y1:∀e:Ext (Only gR) w4,e.w.cell? ⟨mp,2,none⟩=some (.slice (some ⟨gF,0,none⟩) fs.length cF):=λe=>by obtain⟨g',c',h1,h2,_⟩:=HCA.o e.w (HMe.o e);exact h2
 have y2:∀e:Ext (Only gR) w4,e.w.cell? ⟨gF,fn*2,none⟩=some (.string nm):=λe=>by obtain⟨g',c',h1,_,h3⟩:=HCA.o e.w (HMe.o e);cases h1;exact h3
 haveI:Nonempty (Ext (Only gR) w4):=Ext.ne _ _
 have Jn:af (gR≠w.heap.size):=λe=>by have:=HGL.o.2;omega
 have qY:af (ak w4.drew gR #[.int .i64 0,.string ByteArray.empty,.int .i64 0,.int .u64 s.r.r0,.string str,.slice oL nL cL,.int .i64 s.r.used] 34):=gq.o.ag (aa.refl ae _).drew id;have HBe:af (ak w4.drew w.heap.size #[.int .i64 0,.string ⟨#[]⟩,.int .i64 0,.int .u64 0,.string ⟨#[]⟩,.slice none 0 0,.int .i64 0] 34):=ZV.o.ag (aa.refl ae _).drew id;have eZ:af (aa ae w w4.drew):=fU.o.drew;clear HCA HMe gq ZV;refine bE [11,13,15] (λw'=>∃e:Ext (Only gR) w4,w'=e.w) (by kernel_rfl) (by kernel_rfl) (by kernel_rfl) ⟨⟨_,aJ⟩,rfl⟩ ?_
 iterate 2 (refine aA rfl rfl rfl ?_;intro K' hK;go_big_quiet_op;go_big_quiet_on)
 refine bV rfl rfl _ ⟨mp,0,none⟩ rfl rfl ?_;simp only[Act.put,sA9,sB9,sC9]
 iterate 8 (refine aA rfl rfl rfl ?_;intro K' hK;go_big_quiet_op;go_big_quiet_on)
 have E0:af (aa (Only gR) w4 w4.drew):=aJ;have z0:=qY.o.cell 0;have f0:=qY.o.frozen;refine aF rfl rfl ?_;intro K' hK;go_big_op;refine hK _ _ rfl ⟨⟨_,E0.o.aY 0 _⟩,rfl⟩ ?_;clear hK K' z0 f0
 try simp only[Act.put,sA9,sB9,sC9]
 have G0:af (ak ((w4.setCell ⟨gR,0,none⟩ (.int .i64 t)).drew) gR #[.int .i64 t,.string ByteArray.empty,.int .i64 0,.int .u64 s.r.r0,.string str,.slice oL nL cL,.int .i64 s.r.used] 34):=qY.o.set 0 _;have H0:af (ak ((w4.setCell ⟨gR,0,none⟩ (.int .i64 t)).drew) w.heap.size #[.int .i64 0,.string ⟨#[]⟩,.int .i64 0,.int .u64 0,.string ⟨#[]⟩,.slice none 0 0,.int .i64 0] 34):=HBe.o.setOther (a:=⟨gR,0,none⟩) Jn.o _;have J0:af (aa ae w ((w4.setCell ⟨gR,0,none⟩ (.int .i64 t)).drew)):=eZ.o.set (a:=⟨gR,0,none⟩) (.inr (by have:=HGL.o.2;simp only;omega)) _;have E1:af (aa (Only gR) w4 ((w4.setCell ⟨gR,0,none⟩ (.int .i64 t)).drew)):=E0.o.aY 0 _;clear qY HBe eZ E0;generalize(w4.setCell ⟨gR,0,none⟩ (.int .i64 t)).drew=V1 at *
 iterate 1 (refine aA rfl rfl rfl ?_;intro K' hK;go_big_quiet_op;go_big_quiet_on)
 have z1:=G0.o.cell 1;have f1:=G0.o.frozen;refine aF rfl rfl ?_;intro K' hK;go_big_op;refine hK _ _ rfl ⟨⟨_,E1.o.aY 1 _⟩,rfl⟩ ?_;clear hK K' z1 f1
 try simp only[Act.put,sA9,sB9,sC9]
 have G1:af (ak (V1.setCell ⟨gR,1,none⟩ (.string nm)) gR #[.int .i64 t,.string nm,.int .i64 0,.int .u64 s.r.r0,.string str,.slice oL nL cL,.int .i64 s.r.used] 34):=G0.o.set 1 _;have H1:af (ak (V1.setCell ⟨gR,1,none⟩ (.string nm)) w.heap.size #[.int .i64 0,.string ⟨#[]⟩,.int .i64 0,.int .u64 0,.string ⟨#[]⟩,.slice none 0 0,.int .i64 0] 34):=H0.o.setOther (a:=⟨gR,1,none⟩) Jn.o _;have J1:af (aa ae w (V1.setCell ⟨gR,1,none⟩ (.string nm))):=J0.o.set (a:=⟨gR,1,none⟩) (.inr (by have:=HGL.o.2;simp only;omega)) _;have E2:af (aa (Only gR) w4 (V1.setCell ⟨gR,1,none⟩ (.string nm))):=E1.o.aY 1 _;clear G0 H0 J0 E1;generalize V1.setCell ⟨gR,1,none⟩ (.string nm)=V2 at *
 iterate 1 (refine aA rfl rfl rfl ?_;intro K' hK;go_big_quiet_op;go_big_quiet_on)
 have z2:=G1.o.cell 2;have f2:=G1.o.frozen;refine aF rfl rfl ?_;intro K' hK;go_big_op;refine hK _ _ rfl ⟨⟨_,E2.o.aY 2 _⟩,rfl⟩ ?_;clear hK K' z2 f2
 try simp only[Act.put,sA9,sB9,sC9]
 have G2:af (ak (V2.setCell ⟨gR,2,none⟩ (.int .i64 sl)) gR #[.int .i64 t,.string nm,.int .i64 sl,.int .u64 s.r.r0,.string str,.slice oL nL cL,.int .i64 s.r.used] 34):=G1.o.set 2 _;have H2:af (ak (V2.setCell ⟨gR,2,none⟩ (.int .i64 sl)) w.heap.size #[.int .i64 0,.string ⟨#[]⟩,.int .i64 0,.int .u64 0,.string ⟨#[]⟩,.slice none 0 0,.int .i64 0] 34):=H1.o.setOther (a:=⟨gR,2,none⟩) Jn.o _;have J2:af (aa ae w (V2.setCell ⟨gR,2,none⟩ (.int .i64 sl))):=J1.o.set (a:=⟨gR,2,none⟩) (.inr (by have:=HGL.o.2;simp only;omega)) _;have E3:af (aa (Only gR) w4 (V2.setCell ⟨gR,2,none⟩ (.int .i64 sl))):=E2.o.aY 2 _;clear G1 H1 J1 E2;generalize V2.setCell ⟨gR,2,none⟩ (.int .i64 sl)=V3 at *;refine bX ?_;have iT:=G2;have uM:=H2;have sW:=J2;clear y1 y2;simp only[Exit.then];have x0:=iT.o.cell 0;have x1:=iT.o.cell 1;have x2:=iT.o.cell 2;have x3:=iT.o.cell 3;have x4:=iT.o.cell 4;have x5:=iT.o.cell 5;have x6:=iT.o.cell 6;have z0:=uM.o.cell 0;have z1:=uM.o.cell 1;have z2:=uM.o.cell 2;have z3:=uM.o.cell 3;have z4:=uM.o.cell 4;have z5:=uM.o.cell 5;have z6:=uM.o.cell 6;have zf:=uM.o.frozen;go_wp2_with fail;refine bodyPost_ret (results_cell_row results32 _ _ w.heap.size 34 _ (0,0) _ rfl (((((((uM.o.set 0 _).set 1 _).set 2 _).set 3 _).set 4 _).set 5 _).set 6 _) underlying34 rfl (by kernel_rfl)) rfl ⟨rfl,?_⟩;have q:∀{X:tW} (i:Nat) (u:Value),aa ae w X->aa ae w (X.setCell ⟨w.heap.size,i,none⟩ u):=λi u m=>m.set (a:=⟨w.heap.size,i,none⟩) (Or.inr (Nat.le_refl _)) u;exact q 6 _ (q 5 _ (q 4 _ (q 3 _ (q 2 _ (q 1 _ (q 0 _ sW.o))))))
theorem Vd(w:tW)(s:tBA)(v:Value)(hv:∃o n c,v=.slice o n c)(bn:Nat)(nm:tBA)(hb:ak w bn #[.string nm] 9):Calls prog 29 #[.agg #[.string s,v],pt bn] w λe w'=>e=.returned (.bool (s.toList==nm.toList))/\aa ae w w':=by obtain⟨o,n,c,rfl⟩:=hv;have HM:af (aa ae w (w.alloc (.cells #[.string s,.slice o n c] 75))):=aj;have x0:=(hb.ag HM.o id).cell 0;clear hb;go_enter func29,ntmps29;go_wp2_with fail;go_ret;exact⟨rfl,HM.o⟩
theorem aa6{a b:tLB}(h:T a=T b):a=b:=by
 have:=congrArg (λx:tBA=>x.data.toList) h
 simpa [T]using this
def FI(fs:List aS)(nm:tLB):Int:=match xQ fs nm with
 |none=>-1
 |some i=>i
theorem Ls(fs:List aS)(nm:tLB)(k:Nat)(hk:k<fs.length)(h:∀i (hi:i<fs.length),i<k->fs[i].name≠nm)(he:fs[k].name=nm):xQ fs nm=some k:=by
 unfold xQ;rw[List.findIdx?_eq_some_iff_getElem];refine⟨hk,by simpa using he,λj hj=>?_⟩
 simpa using h j (by omega) hj
theorem Lt(fs:List aS)(nm:tLB)(h:∀i (hi:i<fs.length),fs[i].name≠nm):xQ fs nm=none:=by
 unfold xQ;rw[List.findIdx?_eq_none_iff];intro f hf;obtain⟨i,hi,rfl⟩:=List.getElem_of_mem hf
 simpa using h i hi
theorem an3{w:tW}{fs:List aS}{cg:List Nat}{oF:Option Addr}{n cF:Nat}(hl:cg.length=fs.length)(hF:Sl w 75 2 (.slice oF n cF) fs.length ((fs.zip cg).flatMap Fx))(k:Nat)(hk:k<fs.length)(hk':k<cg.length):∃gF,oF=some ⟨gF,0,none⟩/\w.cell? ⟨gF,k*2,none⟩=some (.string (T fs[k].name))/\w.cell? ⟨gF,k*2+1,none⟩=some (.slice (some ⟨cg[k],0,none⟩) (aM fs[k].code) (aM fs[k].code)):=by
 obtain⟨o2,c2,hv2,aeM⟩:=hF.view;obtain⟨gF,cs,ho,hg,ht,_⟩:=aeM (by omega);injection hv2 with h1 _ _;rw[<-h1]at ho;have hz:k<(fs.zip cg).length:=by rw[ab];omega
 have hrow:∀j,j<2->w.cell? ⟨gF,k*2+j,none⟩=(Fx (fs[k],cg[k]))[j]?:=λj hj=>by rw[aW hg ht _ (by omega),kr Fx 2 (fs.zip cg) (λ_ _=>rfl) k j hz hj];simp
 exact⟨gF,ho,hrow 0 (by omega),hrow 1 (by omega)⟩
theorem Lu(w:tW)(fs:List aS)(cg:List Nat)(vF:Value)(hl:cg.length=fs.length)(hn:fs.length<=1000)(hF:Sl w 75 2 vF fs.length ((fs.zip cg).flatMap Fx))(bn:Nat)(nm:tLB)(hb:ak w bn #[.string (T nm)] 9):Calls prog 28 #[vF,.func (.func 29) #[] #[pt bn]] w λe w'=>e=.returned (.int .i64 (FI fs nm))/\aa ae w w':=by
 have en:∀args w,(callFunc 29 args).run prog w=.ok (.enter 29 args) w:=enters_of func29 (by kernel_rfl) rfl
 have HC:af (∀w',aa ae w w'->∀k (hk:k<fs.length) (hk':k<cg.length),Calls prog 29 #[.agg #[.string (T fs[k].name),.slice (some ⟨cg[k],0,none⟩) (aM fs[k].code) (aM fs[k].code)],pt bn] w' λe w''=>e=.returned (.bool (decide (fs[k].name=nm)))/\aa ae w' w''):=λw' m k hk hk'=>by
  have:=Vd w' (T fs[k].name) (.slice (some ⟨cg[k],0,none⟩) (aM fs[k].code) (aM fs[k].code)) ⟨_,_,_,rfl⟩ bn (T nm) (hb.ag m id)
  have e:((T fs[k].name).toList==(T nm).toList)=decide (fs[k].name=nm):=by
   by_cases h:fs[k].name=nm
   ·rw[h];simp
   ·rw[uR (λe=>h (aa6 e)),decide_eq_false h]
  rw[e]at this;exact this
 obtain⟨oF,cF,rfl,hvw⟩:=hF.view;have HR:af (∀w',aa ae w w'->∀k (hk:k<fs.length) (hk':k<cg.length),∃gF,oF=some ⟨gF,0,none⟩/\w'.cell? ⟨gF,k*2,none⟩=some (.string (T fs[k].name))/\w'.cell? ⟨gF,k*2+1,none⟩=some (.slice (some ⟨cg[k],0,none⟩) (aM fs[k].code) (aM fs[k].code))):=λw' m k hk hk'=>an3 hl (hF.ag m (λ_ _=>id)) k hk hk';clear hF hb hvw;go_enter func28,ntmps28;go_wp2_with fail;go_loopw [8] (λv8 wl=>∃k:Nat,k<=fs.length/\v8=.int .i64 k/\aa ae w wl/\∀i (hi:i<fs.length),i<k->fs[i].name≠nm) (λv8 _=>fs.length-(intOf v8).toNat)
 case atStart=>exact⟨0,Nat.zero_le _,rfl,ax,λi _ h=>absurd h (Nat.not_lt_zero _)⟩
 case round =>
  obtain⟨k,hk,rfl,hM,hN⟩:=hrel;have HM:af (aa ae w wr):=hM;have HN:af (∀i (hi:i<fs.length),i<k->fs[i].name≠nm):=hN;clear hM hN;by_cases hlt:k<fs.length
  ·have hlt':k<cg.length:=by omega
   obtain⟨gF,ho,y0,y1⟩:=HR.o wr HM.o k hlt hlt';subst ho;have HK:=ai (HC.o wr HM.o k hlt hlt');clear HC;by_cases he:fs[k].name=nm
   ·have HI:af (FI fs nm=(k:Int)):=by unfold af FI;rw[Ls fs nm k hlt HN.o he]
    rw[decide_eq_true he]at HK;generalize T fs[k].name=tn at *;generalize aM fs[k].code=sn at *;generalize cg[k]=ck at *;clear he HR HN;go_wp2_with fail;refine HK.o.mono ?_;rintro e w1 ⟨rfl,m1⟩;have M1:=ai (HM.o.trans m1);clear m1 y0 y1;go_wp2_with fail;go_ret;exact⟨by rw[HI.o];rfl,M1.o⟩
   ·have Cz:af (∀i (hi:i<fs.length),i<k+1->fs[i].name≠nm):=λi hi h=>by
     by_cases hik:i=k
     ·subst hik;exact he
     ·exact HN.o i hi (by omega)
    rw[decide_eq_false he]at HK;generalize T fs[k].name=tn at *;generalize aM fs[k].code=sn at *;generalize cg[k]=ck at *;clear he HR HN;go_wp2_with fail;refine HK.o.mono ?_;rintro e w1 ⟨rfl,m1⟩;have M1:=ai (HM.o.trans m1);clear m1 y0 y1;go_wp2_with fail;go_roundw
    case rel=>exact⟨k+1,by omega,by go_num,M1.o,Cz.o⟩
    case measure=>simp[intOf];omega
  ·have hkk:k=fs.length:=by omega
   subst hkk;have HI:af (FI fs nm=-1):=by unfold af FI;rw[Lt fs nm (λi hi=>HN.o i hi hi)]
   clear HC HR HN;go_wp2_with fail;go_ret;exact⟨by rw[HI.o];rfl,HM.o⟩
def IW(t:Nat)(r:Bool):FrameMode:=.panicking [{v:=.iface 31 (.int .i64 t),recovered:=r}]
theorem MM(W:tW)(v:Value)(xt:TypeId):(Instr.typeAssert (.iface 31 v) xt 31 true).run prog W=.ok (.tuple #[v,.bool true]) W:=by kernel_rfl
theorem QX(w:tW)(x y z:Value):CallsD prog 31 #[x,y,z] .returning w λe u' w'=>e=.returned (.tuple #[])/\u'=.returning/\w'=w:=by refine callsD_of_wpS func31 rfl λc₀ cs hu=>?_;simp only[ntmps31,ba,bj,List.length_nil,Nat.reduceAdd,Nat.reduceSub,al,an,bh,aE,List.nil_append,bq];apply wpS_seq;apply wpS_region;simp[wpOpsS,go_sem,recoverD,hu,Exit.thenS];refine wpS_of_wp ?_;generalize hQ:(λe a' w'=>bodyPostS prog f31 c₀ cs (λe u' w'=>e=.returned (.tuple #[])/\u'=.returning/\w'=w) e a' (c₀::cs) w')=Q;go_wp2_with fail;subst hQ;refine⟨rfl,.returning,?_,.tuple #[],by simp[results,results31,go_sem],rfl,rfl,rfl⟩;cases c₀;simp_all
theorem QY(w:tW)(g0 g1 g2 mp b t:Nat)(cs:tAV)(old:tAV)(h0:ak w g0 #[pt mp] 56)(h1:ak w g1 #[pt b] 77)(h2:ak w g2 old 34)(ho:old.size=7)(hc:cs.size=7)(hc1:cs.all (·.oneCell')=true)(hT:Calls prog 32 #[pt mp,pt b,.int .i64 t] w λe w'=>e=.returned (.agg cs)/\aa ae w w'):CallsD prog 31 #[pt g0,pt g1,pt g2] (IW t false) w λe u' w'=>e=.returned (.tuple #[])/\u'=IW t true/\ak w' g2 cs 34/\aa (Only g2) w w':=by refine callsD_of_wpS func31 rfl λc₀ cz hu=>?_;have y0:=h0.cell 0;have y1:=h1.cell 0;have HT:=ai hT;have H2:=ai h2;have GM:=ai hc1;have HO:af (old.size=cs.size):=ho.trans hc.symm;have HC:=ai hc;clear h0 h1 h2 hT hc1 ho hc;unfold IW at hu;simp only[ntmps31,ba,bj,List.length_nil,Nat.reduceAdd,Nat.reduceSub,al,an,bh,aE,List.nil_append,bq];apply wpS_seq;apply wpS_region;simp[wpOpsS,go_sem,recoverD,hu,Exit.thenS];refine wpS_of_wp ?_;generalize hQ:(λe a' w'=>bodyPostS prog f31 c₀ cz (λe u' w'=>e=.returned (.tuple #[])/\u'=IW t true/\ak w' g2 cs 34/\aa (Only g2) w w') e a' _ w')=Q;have hta:=MM;go_wp2_with (rw[MM]);refine HT.o.mono ?_;rintro e w1 ⟨rfl,m1⟩;have HB1:=ai (H2.o.ag m1 id);have dh:af (aa (Only g2) w w1):=m1.mono (λ_ _ h=>h.elim);clear m1 HT H2 y0 y1;go_wp2_with (refine dF rfl 34 (.tmp 2) (.tmp 15) rfl g2 cs rfl rfl 34 _ HB1.o (by rw[HC.o];kernel_rfl) HO.o GM.o ?_;intro W3 hB3 uy);subst hQ;exact⟨rfl,IW t true,rfl,.tuple #[],by simp[results,results31,go_sem],rfl,rfl,hB3,dh.o.trans uy⟩
