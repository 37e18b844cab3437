import Derived.Conc.MuLone
import Derived.Test.YtekmhcbefnmflaaGreatDoorCL32
import Derived.Test.YtekmhcbefnmflaaGreatDoorCL37
namespace Go.Proofs.YtekmhcbefnmflaaGreatDoor
open Go.RowKit Tryz
open Go.RowKit Go.MuLone
open _root_.Array renaming replicate_succ->cH,replicate_zero->cI
open Bool renaming and_eq_true->bh,true->eJ,false->eE
open List renaming getElem_of_mem->ab,getElem_mem->ar,replicate->b5,mem_cons_of_mem->b9,mem_singleton->cj,cons_append->cw,eq_of_mem_replicate->cx,length_zip->cD,nil_append->cG,take_succ_cons->cN,drop_succ_cons->cQ,append_toArray->cR,mem_cons_self->cW,size_toArray->cX,push_toArray->cY,length_take->de,length_cons->dj,length->ee
open Nat renaming le_trans->an,le_refl->ao,not_lt_zero->bt,zero_le->cb,le_of_lt->cy
open Decidable renaming decide->eS
open Ending renaming returned->fR
open Obj renaming cells->eR
open Option renaming some->eC,none->ez
open Value renaming slice->eK,string->eI,agg->fW,bool->fS,tuple->gb
open _root_.Go renaming TypeId->gh,Value->eM,Calls->fL,convert->rm,bodyPost_ret->iz,results_cell_row->mz,callsD_of_wpS->CC,wpS_region->CI,undef->kh,leaves_cons->tD
set_option linter.all false
set_option maxRecDepth 100000
set_option maxHeartbeats 2000000
theorem ab2(m k n q:Nat)(d s v:MV)(hd:d.Ok n q)(hs:s.Ok n q)(h:rkP m k d s=eC v):v.Ok n q:=by
 unfold rkP at h;split at h
 ·cases h;exact hs
 ·split at h
  ·cases h;exact MV.Ok.num (Ow _)
  ·cases h
 ·split at h
  ·cases h;exact MV.Ok.num (Na _ _ _ _ hd.1 hs.1)
  ·cases h
 ·split at h
  ·cases h;exact MV.Ok.num (Ow _)
  ·cases h
 ·split at h
  ·split at h
   ·cases h;exact⟨Na _ _ _ _ hd.1 hs.1,hd.2⟩
   ·cases h
  ·split at h
   ·cases h;exact MV.Ok.num (Na _ _ _ _ hd.1 hs.1)
   ·cases h
theorem Fz:∀(l:tLN),(∀b∈l,b<256)->leN l<256 ^ ee l
 |[],_=>by show 0<1;decide
 |x::l,h=>by
  have h1:=h x (by simp);have h2:=Fz l (λb hb=>h b (by simp[hb]));show x+256*leN l<256 ^ (ee l+1)
  rw[Nat.pow_succ];omega
theorem DN(num:Nat):∀(k A:Nat) (l:tLN),(∀b∈l,b<256)->∀b∈putB l A num k,b<256
 |0,_,_,h,b,hb=>h b hb
 |k+1,A,l,h,b,hb=>by
  rcases List.mem_or_eq_of_mem_set hb with hb|rfl
  ·exact DN num k A l h b hb
  ·exact Nat.mod_lt _ (by decide)
theorem Xe{gs:List tLN}(hg:G9 gs)(v:MV)(j:Int)(k:Nat)(hk:k<=8)(hq:v.bq.getD 0<ee gs):WQ gs v j k<18446744073709551616:=by
 unfold WQ;have hb:∀b∈((gs.getD (v.bq.getD 0) []).drop (atU v j)).take k,b<256:=λb hb=>(hg.at _ hq).2 b (List.mem_of_mem_drop (List.mem_of_mem_take hb));have h1:=Fz _ hb;have h2:ee (((gs.getD (v.bq.getD 0) []).drop (atU v j)).take k)<=8:=by rw[de];omega
 have h3:256 ^ ee (((gs.getD (v.bq.getD 0) []).drop (atU v j)).take k)<=256 ^ 8:=Nat.pow_le_pow_right (by decide) h2;have h4:(256:Nat) ^ 8=18446744073709551616:=by decide
 omega
theorem OB{gs:List tLN}{n m:Nat}(v:MV)(hv:v.Ok n m)(j:Int)(k:Nat)(h:jL gs v j k=0):v.bq.getD 0<n:=by
 unfold jL at h;by_cases h2:v.so=2
 ·obtain⟨q,hq,hlt⟩:=hv.pt h2;rw[hq];exact hlt
 ·rw[iP9 (by simpa using h2)]at h;exact absurd h (by decide)
def Kk(fn:Nat)(s:bZ):Prop:=dD fn (Sj s).2/\dD fn (Sk s).2/\dD fn (Sm s).2/\(Sj s).2.ms.length=ee s.ms/\(Sk s).2.ms.length=ee s.ms/\(Sm s).2.ms.length=ee s.ms
theorem Xf(x:PI):x.WS<18446744073709551616:=by unfold PI.WS;omega
theorem OC{fn:Nat}{s:bZ}(ho:dD fn s):dD fn (Kg s).2:=by
 unfold Kg;split
 ·exact ho
 ·split
  ·exact ho
  ·rename_i h2
   exact ho.logged _ (ho.bq 1).1 (by have:=ho.log.1;omega)
theorem OD(s:bZ):(Kg s).2.ms=s.ms:=by
 unfold Kg;split
 ·rfl
 ·split<;>rfl
theorem Nj{fn mn:Nat}{s:bZ}(ho:dD fn s)(hm:ee s.ms=mn)(x:PI)(hx:Oz fn mn x)(hH:(dw x.o.code).t=6->x.s≠1->x.num<4->Kk fn s):dD fn (doP (dw x.o.code) x s).2/\(doP (dw x.o.code) x s).2.ms.length=mn:=by
 have hc:=hx.call;have hw:=hx.wide;have hz:=hx.size;generalize dw x.o.code=dd at *;obtain⟨t,m,k,bq⟩:=dd;simp only at hc hw hz hH;unfold doP;simp only;split
 ·cases hv:rkP m k (s.r.bq x.d) (zm bq x s)with
  |none=>exact⟨ho,hm⟩
  |some v=>exact⟨ho.ik _ _ (ab2 m k _ _ _ _ v (ho.bq _) (OA ho bq x) hv),hm⟩
 ·cases hv:soP m k (s.r.bq x.d) (zm bq x s)with
  |none=>exact⟨ho,hm⟩
  |some v =>
   cases v with
   |true=>exact⟨ho.mI _,hm⟩
   |false=>exact⟨ho,hm⟩
 ·exact⟨ho.mI _,hm⟩
 ·split
  ·rename_i ht
   exact⟨ho.ik _ _ (MV.Ok.num (Xe ho.gs _ _ _ (hz (.inl rfl)).2 (OB _ (ho.bq _) _ _ ht))),hm⟩
  ·exact⟨ho,hm⟩
 ·split
  ·rename_i ht
   have hr:jL s.gs (s.r.bq x.d) x.jump k=0:=by
    unfold storeT at ht;by_cases h1:(zm bq x s).so=0
    ·rw[iN9 (by simp[h1])]at ht;exact ht
    ·rw[iP9 (by simpa using h1)]at ht;exact absurd ht (by decide)
   have hq:=OB _ (ho.bq x.d) _ _ hr;have hg:=ho.gs.at _ hq;exact⟨ho.adA _ hq _ ⟨by rw[Kf];exact hg.1,DN _ _ _ _ hg.2⟩ (λ_ _ _ _ _=>Kf _ _ _ _),hm⟩
  ·exact⟨ho,hm⟩
 ·refine⟨ho.ik _ _ ?_,hm⟩;by_cases h1:x.s=1
  ·rw[iP9 h1];obtain⟨n0,n1⟩:=hw rfl h1;exact⟨(by decide:0<18446744073709551616),.inr (.inl ⟨rfl,rfl,_,rfl,by omega⟩)⟩
  ·rw[iN9 h1];exact MV.Ok.num (Xf x)
 ·by_cases h1:x.s=1
  ·rw[iP9 h1];obtain⟨n0,n1⟩:=(hc rfl).1 h1;by_cases h8:ee s.r.calls=8
   ·rw[iP9 h8];exact⟨ho,hm⟩
   ·rw[iN9 h8];exact⟨ho.call (by have:=ho.deep;omega) _ (by omega),hm⟩
  ·rw[iN9 h1];by_cases e4:x.num<4
   ·obtain⟨k1,k2,k3,l1,l2,l3⟩:=hH rfl h1 e4;split
    ·exact⟨k1,by rw[l1];exact hm⟩
    ·split
     ·exact⟨k2,by rw[l2];exact hm⟩
     ·split
      ·exact⟨k3,by rw[l3];exact hm⟩
      ·exact⟨OC ho,by rw[OD];exact hm⟩
   ·rw[iN9 (by omega),iN9 (by omega),iN9 (by omega)];exact⟨OC ho,by rw[OD];exact hm⟩
 ·by_cases h1:ee s.r.calls=1
  ·rw[iP9 h1];split
   ·exact⟨ho.finish _,hm⟩
   ·exact⟨ho,hm⟩
  ·rw[iN9 h1];exact⟨ho.back h1,hm⟩
abbrev maT:List gh:=[79,182,5,179,419]
structure AA(F:Nat->Prop)(wT:tW)(tv:eM)(bs:tLN)(mp:Nat)(vF:eM)(fs:List cZ)(cg:tLN)(w:tW):Prop where
 blk:∃c0 c1 c3,ak w mp #[c0,c1,vF,c3] 79
 lf:ee cg=ee fs
 yw:Sl w 82 2 vF (ee fs) ((fs.zip cg).flatMap Fq)
 code:∀i (h:i<ee fs) (h':i<ee cg),pG w bs cg[i] (aL fs[i].code) (atS 0 fs[i].code)
 tab:aT 0 wT tv bs ax
 md:kJ maT wT w
 nM:¬F mp
 nF:∀k,vF.ownBlock=eC k->¬F k
 nC:∀g∈cg,¬F g
 base:∀k,F k->wT.heap.size<=k
theorem AA.ae{F:Nat->Prop}{wT:tW}{tv:eM}{bs:tLN}{mp:Nat}{vF:eM}{fs:List cZ}{cg:tLN}{w w':tW}(h:AA F wT tv bs mp vF fs cg w)(m:aa F w w'):AA F wT tv bs mp vF fs cg w':=by obtain⟨c0,c1,c3,hb⟩:=h.blk;refine⟨⟨c0,c1,c3,hb.ae m h.nM⟩,h.lf,h.yw.ae m h.nF,λi a b=>(h.code i a b).ae m (h.nC _ (ar b)),h.tab,h.md.step m (λi hi hF=>by have:=h.base i hF;omega),h.nM,h.nF,h.nC,h.base⟩
theorem AA.quiet{F:Nat->Prop}{wT:tW}{tv:eM}{bs:tLN}{mp:Nat}{vF:eM}{fs:List cZ}{cg:tLN}{w w':tW}(h:AA F wT tv bs mp vF fs cg w)(m:aa ah w w'):AA F wT tv bs mp vF fs cg w':=h.ae (m.mono (λ_ _ h=>h.elim))
theorem AA.at'{F:Nat->Prop}{wT:tW}{tv:eM}{bs:tLN}{mp:Nat}{vF:eM}{fs:List cZ}{cg:tLN}{w:tW}(h:AA F wT tv bs mp vF fs cg w)(fn slot:Nat)(x:PI)(hf:fn<ee fs)(hx:(x,slot)∈atS 0 (kV fs fn).code):∃gF cF gC,vF=eK (eC ⟨gF,0,ez⟩) (ee fs) cF/\w.cell? ⟨mp,2,ez⟩=eC vF/\w.cell? ⟨gF,fn*2+1,ez⟩=eC (eK (eC ⟨gC,0,ez⟩) (aL (kV fs fn).code) (aL (kV fs fn).code))/\w.cell? ⟨gF,fn*2,ez⟩=eC (eI (T (kV fs fn).name))/\∀j (hj:j<(x.ins bs).cells.size),w.cell? ⟨gC,slot*8+j,ez⟩=eC (x.ins bs).cells[j]:=by
 have hfn:kV fs fn=fs[fn]:=by unfold kV;rw[List.getD_eq_getElem?_getD,List.getElem?_eq_getElem hf];rfl
 rw[hfn]at hx ⊢;have hc:fn<ee cg:=by rw[h.lf];exact hf
 obtain⟨c0,c1,c3,hb⟩:=h.blk;obtain⟨oF,cF,rfl,hvw⟩:=h.yw.view;obtain⟨gF,cs,rfl,hg,ht,_⟩:=hvw (by omega);obtain⟨cs2,hb2,hsz,hcs⟩:=(h.code fn hf hc).ex;have hz:fn<ee (fs.zip cg):=by rw[cD,h.lf];omega
 have hrow:∀j,j<2->w.cell? ⟨gF,fn*2+j,ez⟩=(Fq (fs[fn],cg[fn]))[j]?:=λj hj=>by rw[aX hg ht _ (by omega),qt Fq 2 (fs.zip cg) (λ_ _=>rfl) fn j hz hj];simp
 refine⟨gF,cF,cg[fn],rfl,hb.cell 2,hrow 1 (by omega),hrow 0 (by omega),λj hj=>?_⟩;have hj8:j<8:=hj;have e:=hcs (x,slot) hx j hj8;simp only at e;have e2:=hb2.cell (slot*8+j);rw[e2,e]
 have:((x.ins bs).di)[j]?=(x.ins bs).cells[j]?:=by
  show _=((x.ins bs).di.toArray)[j]?
  rw[List.getElem?_toArray]
 rw[this,Array.getElem?_eq_getElem hj]
def OE(F:Nat->Prop)(b:Nat)(fs:List cZ):Prop:=∀f∈fs,∀p∈atS 0 f.code,∀(bs:tLN) (w:tW) (a:Ad) (s:bZ) (f9:Fn) (c9:tAV),jk F w b a s->dD (ee fs) s->(∀k,w.heap.size<=k->F k)->DoAt w f9 c9 (dw p.1.o.code)->Oz (ee fs) (ee s.ms) p.1 ->
 ((dw p.1.o.code).t=1\/(dw p.1.o.code).t=2->∀w',aa ah w w'->fL prog 235 #[fW (p.1.ins bs).cells,vI s.r.top.slot] w' λe w''=>e=fR (vI ((p.1.target s.r.top.slot).toNat:Nat))/\aa ah w' w'') ->
 ∃k,f9=.func k/\ym k/\fL prog k (#[pt b,fW (p.1.ins bs).cells]++c9) w λe w'=>gX F w b a (doP (dw p.1.o.code) p.1 s) e w'
def zw(fs:List cZ):Prop:=∀f∈fs,∀p∈atS 0 f.code,(dw p.1.o.code).t=6->p.1.s≠1->p.1.num<4->∀s,dD (ee fs) s->Kk (ee fs) s
def OG(F:Nat->Prop)(w:tW)(b:Nat)(a:Ad)(fs:List cZ)(mn fu:Nat)(D:Nat×bZ)(q:Nat)(wx:tW):Prop :=
 ∃a1 s1,jk F wx b a1 s1/\dD (ee fs) s1/\(s1.r.ended=eJ\/Hf fs s1)/\s1.ms.length=mn/\s1.r.fuel=fu/\s1.r.used<=fu/\q=fu-s1.r.used/\followP fs (q+2) s1=D/\a1.mb=a.mb/\a1.vM=a.vM/\aa F w wx
theorem Xg(d:UR)(x:PI)(s:bZ):(doP d x s).2.r.fuel=s.r.fuel/\(doP d x s).2.r.used=s.r.used:=by
 have hs:∀(r:aH) (n:Nat) (v:MV),(r.ik n v).fuel=r.fuel/\(r.ik n v).used=r.used:=λr n v=>⟨rfl,rfl⟩
 have hss:∀(vs:List MV) (r:aH) (n:Nat),(r.nV n vs).fuel=r.fuel/\(r.nV n vs).used=r.used:=λvs=>by
  induction vs with
  |nil=>intro r n;exact⟨rfl,rfl⟩
  |cons v vs ih=>intro r n;exact ih _ _
 have ha:∀(r:aH) (v:MV),(r.answer v).fuel=r.fuel/\(r.answer v).used=r.used:=λr v=>hss _ _ _
 have hp:∀t key val,(Ha s t key val).1.r=s.r:=λt key val=>by
  unfold Ha;split
  ·rfl
  ·split<;>rfl
 have hd:∀t key,(Hd s t key).1.r=s.r:=λt key=>by unfold Hd;split<;>rfl
 unfold doP;split
 ·split<;>exact⟨rfl,rfl⟩
 ·split
  ·exact⟨rfl,rfl⟩
  ·split<;>exact⟨rfl,rfl⟩
 ·exact⟨rfl,rfl⟩
 ·split<;>exact⟨rfl,rfl⟩
 ·split<;>exact⟨rfl,rfl⟩
 ·exact⟨rfl,rfl⟩
 ·split
  ·split
   ·exact⟨rfl,rfl⟩
   ·exact hss _ _ _
  ·split
   ·unfold Sj;split
    ·exact⟨rfl,rfl⟩
    ·split
     ·exact⟨rfl,rfl⟩
     ·exact ha _ _
   ·split
    ·unfold Sk;split
     ·exact⟨rfl,rfl⟩
     ·split
      ·exact⟨rfl,rfl⟩
      ·split
       ·exact⟨rfl,rfl⟩
       ·show((Ha _ _ _ _).1.r.answer _).fuel=_/\((Ha _ _ _ _).1.r.answer _).used=_
        rw[hp];exact ha _ _
    ·split
     ·unfold Sm;split
      ·exact⟨rfl,rfl⟩
      ·split
       ·exact⟨rfl,rfl⟩
       ·show((Hd _ _ _).1.r.answer _).fuel=_/\((Hd _ _ _).1.r.answer _).used=_
        rw[hd];exact ha _ _
     ·unfold Kg;split
      ·exact⟨rfl,rfl⟩
      ·split
       ·exact⟨rfl,rfl⟩
       ·exact ha {s.r with log:=_} _
 ·split
  ·split<;>exact⟨rfl,rfl⟩
  ·exact ha s.r.pop _
theorem Xh(rb mb:tLN)(k:Nat)(d s:MV)(he:ym (KM k))(hof:∀w',fL prog (KM k) #[vU d.bits,vU s.bits,vU (64:Nat)] w' λe w''=>e=fR (vU (ofP k d.bits s.bits 64))/\w''=w')(b:Nat)(w1:tW)(hb:ak w1 b #[xD (KM k)] 311):fL prog 225 #[fW (d.cells rb mb).toArray,fW (s.cells rb mb).toArray,pt b] w1 λe w''=>e=rkE rb mb (rkP 2 k d s)/\aa ah w1 w'':=by
 by_cases h1:d.so=0
 ·by_cases h2:s.so=0
  ·rw[show rkP 2 k d s=eC (qp (ofP k d.bits s.bits 64))from iP9 ⟨h1,h2⟩];exact aak w1 rb mb d s h1 h2 b _ hb _ he hof
  ·rw[show rkP 2 k d s=ez from iN9 (λh=>h2 h.2)];exact aam w1 rb mb d s h1 h2 b _ hb
 ·rw[show rkP 2 k d s=ez from iN9 (λh=>h1 h.1)];exact aal w1 rb mb d s h1 b _ hb
theorem AA.op{F:Nat->Prop}{wT:tW}{tv:eM}{bs:tLN}{mp:Nat}{vF:eM}{fs:List cZ}{cg:tLN}{w:tW}(h:AA F wT tv bs mp vF fs cg w)(x:PI)(hx:kz x):∃bo f9 c9,(x.ins bs).op=pt bo/\∀w',kJ maT wT w'->(∀w'',aa ah w' w''->w''.cell? ⟨bo,2,ez⟩=eC (vI x.o.slots))/\w'.cell? ⟨bo,2,ez⟩=eC (vI x.o.slots)/\w'.cell? ⟨bo,9,ez⟩=eC (.func f9 #[] c9)/\DoAt w' f9 c9 (dw x.o.code):=by
 have hk:=hx.k;have hlen:=h.tab.len.trans eZ;have hat:=h.tab.at' x.k (by omega) (by rw[eZ];exact hk);have ho:ax[x.k]'(by rw[eZ];exact hk)=x.o:=by unfold PI.o;rw[List.getElem?_eq_getElem (by rw[eZ];exact hk)];rfl
 rw[ho]at hat;obtain⟨o1,n1,c1,f6,c6,k7,c7,k8,c8,f9,c9,hb,hs⟩:=hat.ex;refine⟨bs[x.k]'(by omega),f9,c9,?_,λw' m=>⟨λw'' m2=>((hb.fV m (by decide)).ae m2 id).cell 2,?_,?_,hs.dn.blk (λ_ _ t ht h=>h.fV m ((show ∀t∈PX,t ∉ maT by decide) t ht))⟩⟩
 ·show Value.pointer (eC ⟨bs[x.k]?.getD 0,0,ez⟩)=_
  rw[List.getElem?_eq_getElem (by omega)];rfl
 ·exact(hb.fV m (by decide)).cell 2
 ·exact(hb.fV m (by decide)).cell 9
theorem aa.Nk{w W:tW}{o:Obj}(m:aa (Only w.heap.size) (w.alloc o) W):aa ah w W:=((aa.refl ah w).alloc o).step m (λi hi e=>by have e':i=w.heap.size:=e;omega)
theorem mJ(fs:List cZ)(n:Nat)(s:bZ)(he:s.r.ended=eE):followP fs (n+1) s=if(iK fs s).1=0 then followP fs n (iK fs s).2 else iK fs s:=by
 show(if s.r.ended then _ else _)=_
 rw[he];rfl
def adF:tAV:=#[vO,vB 0,vB 0,.int .i16 0,vJ 0,vJ 0,eI ⟨#[]⟩,eI ⟨#[]⟩]
theorem DoAt.fn{w:tW}{f:Fn}{c:tAV}{d:UR}(h:DoAt w f c d):∃k,f=.func k/\ym k:=by
 unfold DoAt at h;split at h
 ·exact⟨_,h.1,enters_of func223 (by kernel_rfl) rfl⟩
 ·exact⟨_,h.1,enters_of func249 (by kernel_rfl) rfl⟩
 ·exact⟨_,h.1,enters_of func125 (by kernel_rfl) rfl⟩
 ·exact⟨_,h.1,enters_of func252 (by kernel_rfl) rfl⟩
 ·exact⟨_,h.1,enters_of func254 (by kernel_rfl) rfl⟩
 ·exact⟨_,h.1,enters_of func134 (by kernel_rfl) rfl⟩
 ·exact⟨_,h.1,enters_of func138 (by kernel_rfl) rfl⟩
 ·exact⟨_,h.1,enters_of func139 (by kernel_rfl) rfl⟩
theorem Nl{F:Nat->Prop}(w:tW)(b:Nat)(a:Ad)(s:bZ)(fs:List cZ)(h:jk F w b a s)(ho:dD (ee fs) s)(TM:s.r.ended=eJ\/Hf fs s)(hF:∀k,w.heap.size<=k->F k)(hu:s.r.used<=s.r.fuel)(hfu:s.r.fuel<=5000)(hco:sw fs (ee s.ms))(wT:tW) (tv:eM) (bs:tLN) (mp:Nat) (vF:eM) (cg:tLN) (hC:AA F wT tv bs mp vF fs cg w) (hH:OE F b fs) (hK:zw fs):fL prog 42 #[pt mp,pt b] w λe w'=>gX F w b a (followP fs (s.r.fuel-s.r.used+2) s) e w':=by
 have HC:=ai hC;have Q9:=ai hco;have HH:=ai hH;have HK:=ai hK;have HF:=ai hF;have fQ:af (OG F w b a fs (ee s.ms) s.r.fuel (followP fs (s.r.fuel-s.r.used+2) s) (s.r.fuel-s.r.used) w):=⟨a,s,h,ho,TM,rfl,rfl,hu,rfl,rfl,rfl,rfl,aA⟩
 have HFU:=ai hfu;clear h ho TM hF hu hfu hco hC hH hK;generalize followP fs (s.r.fuel-s.r.used+2) s=D at *;generalize s.r.fuel-s.r.used=N at *;generalize s.r.fuel=fu at *;generalize ee s.ms=mn at *;clear s;generalize hPP:(λe w'=>gX F w b a D e w')=PP;have HPP:af (∀e w',gX F w b a D e w'->PP e w'):=λe w' hd=>by rw[<-hPP];exact hd
 clear hPP;go_in;go_wp2_with fail;go_loopg [9] N (λq v9 wx=>OG F w b a fs mn fu D q wx)
 case atStart=>exact fQ.o
 case round =>
  obtain⟨a1,s1,hS,hO,hP,hm,hf,hu,hq,hD,e1,e2,hM⟩:=hrel;have HS:=ai hS;have HO:=ai hO;have HM:=ai hM;have Yi:af (a1.mb=a.mb/\a1.vM=a.vM):=⟨e1,e2⟩
  clear hS hO hM e1 e2 fQ;have sV:af (fL prog 83 #[pt b] wr λe w'=>e=fR (fS s1.r.ended)/\aa ah wr w'):=R8 wr b a1.rb a1.mb a1.vM a1.vC a1.vL s1.r HS.o.run;by_cases he:s1.r.ended=eJ
  ·have Q8:af (∀w',aa ah wr w'->PP (fR (gb #[])) w'):=λw' m=>HPP.o _ _ (by
    have e0:D=(0,s1):=by rw[<-hD];show(if s1.r.ended then _ else _)=_;rw[iP9 he]
    rw[e0];exact⟨rfl,HM.o.trans (m.mono (λ_ _ h=>h.elim)),a1,HS.o.quiet m,Yi.o.1,Yi.o.2⟩)
   rw[he]at sV;clear he hP hm hf hu hq hD HS HO HM Yi HC Q9 HH HF HFU HPP;go_wp2_with fail;refine sV.o.mono ?_;rintro e w1 ⟨rfl,m1⟩;have HF1:=ai (Q8.o w1 m1);clear Q8 m1;go_wp2_with fail;go_end0;exact HF1.o
  ·have he':s1.r.ended=eE:=by simpa using he
   rw[he']at sV;have TM:=hP.elim (λe=>absurd e he) id;have HPC:=ai TM;have hfn:=HO.o.top.fn;have hmem:=uY fs _ hfn;have hat:=uZ fs _ _ TM.at';have Ho:af _:=Q9.o.ins _ hmem _ hat;have HAT:af ((s1.ins fs,s1.r.top.slot)∈atS 0 (kV fs s1.r.top.fn).code):=hat;have afS:s1.r.top.slot+(s1.ins fs).o.slots<=aL (kV fs s1.r.top.fn).code:=by have:=ML _ 0 _ hat;simp only at this;have e:(Az fs s1.r.top.fn s1.r.top.slot)=s1.ins fs:=rfl;rw[e]at this;omega
   have hsl1:1<=(s1.ins fs).o.slots:=by rcases Ho.o.2.1.slots with e|e<;>(have e':(s1.ins fs).o.slots=_:=e;omega)
   have hlen:=Q9.o.len _ hmem;have MI:=ai (λw' (m:aa F wr w')=>(HC.o.ae HM.o).ae m);obtain⟨bo,f9,c9,hop,hOp⟩:=HC.o.op (s1.ins fs) Ho.o.2.1;obtain⟨k9,hk9,en9⟩:=(hOp w HC.o.md).2.2.2.fn;subst hk9;have HN:=ai (λw' k (m:aa F wr w') (hk:w'.heap.size<=k)=>HF.o k (an HM.o.size (an m.size hk)));have Bv:=ai (λw' m=>hOp w' (MI.o w' m).md);have adG:af (∀w',aa ah wr w'->fL prog 82 #[pt b] w' λe w''=>e=fR (gb #[vI s1.r.top.fn,vI s1.r.top.slot])/\aa ah w' w''):=λw' m=>DF w' b a1.rb a1.mb a1.vM a1.vC a1.vL s1.r (HS.o.run.quiet m) HO.o.pos;have XW:=ai (λw' m=>(MI.o w' m).at' _ _ _ hfn HAT.o);have HTG:af (∀w' w'',aa F wr w'->aa ah w' w''->(dw (s1.ins fs).o.code).t=1\/(dw (s1.ins fs).o.code).t=2->fL prog 235 #[fW ((s1.ins fs).ins bs).cells,vI s1.r.top.slot] w'' λe w3=>e=fR (vI (((s1.ins fs).target s1.r.top.slot).toNat:Nat))/\aa ah w'' w3):=λw' w'' m m' h12=>by have hA:=(Bv.o w'' (m.trans (m'.mono (λ_ _ h=>h.elim)))).1;have h0:0<=(s1.ins fs).target s1.r.top.slot:=(Ho.o.2.2.1 h12).1;have:=Bc w'' bo (s1.ins fs).o.slots hA (s1.ins fs).d (s1.ins fs).s (s1.ins fs).num (s1.ins fs).high (s1.ins fs).jump ByteArray.empty (T (s1.ins fs).name) s1.r.top.slot (by omega) (by have:=Fp _ Ho.o.2.1;have e:(Az fs s1.r.top.fn s1.r.top.slot).o.slots=(s1.ins fs).o.slots:=rfl;simp only at this;omega) Ho.o.1.j;rw[Int.toNat_of_nonneg h0];unfold dQ.cells;rw[hop];exact this
   have TC:af (s1.r.used=fu->∀w',aa ah wr w'->fL prog 84 #[pt b,vI (s1.ins fs).o.slots] w' λe w''=>e=gN 1/\aa ah w' w''):=λe w' m=>R9 w' b a1.rb a1.mb a1.vM a1.vC a1.vL s1.r (HS.o.run.quiet m) _ (by omega);have KL:af (s1.r.used≠fu->∀w',aa ah wr w'->fL prog 84 #[pt b,vI (s1.ins fs).o.slots] w' λe w''=>e=fR (gb #[])/\(jk F w'' b a1 (s1.begin (s1.ins fs).o.slots)/\aa F w' w'')/\aa (λk=>k=b\/Own a1.vC k) w' w''):=λe w' m=>by have af8:=HFU.o;exact(Sa w' b a1.rb a1.mb a1.vM a1.vC a1.vL s1.r (HS.o.run.quiet m) HO.o.pos (s1.ins fs).o.slots (by omega) (by omega) (by omega)).mono (λe2 w'' hh=>⟨hh.1,(HS.o.quiet m).WV hh.2.2 _ hh.2.1 rfl,hh.2.2⟩)
   have HTY:=ai (λw' (m:aa ah wr w')=>(HS.o.quiet m).aaS);have hOb:=HO.o.begin (s1.ins fs).o.slots;have Hw:af (∀w',aa F wr w'->jk F w' b a1 (s1.begin (s1.ins fs).o.slots)->fL prog k9 (#[pt b,fW ((s1.ins fs).ins bs).cells]++c9) w' λe w''=>gX F w' b a1 (s1.did fs) e w''):=λw' m hst=>by have hbt:=Fy s1 HO.o.pos (s1.ins fs).o.slots;obtain⟨k',hk',_,hcall⟩:=HH.o _ hmem _ hat bs w' a1 _ (.func k9) c9 hst hOb (λk hk=>HN.o w' k m hk) (Bv.o w' m).2.2.2 (by have:=Ho.o.1;rw[<-hm]at this;exact this) (λh12 w'' m'=>by rw[hbt];exact HTG.o w' w'' m m' h12);injection hk' with hk';subst hk';exact hcall
   have HKP:af (s1.r.used≠fu->(s1.did fs).1=0->∀w5 a5,aa F wr w5->jk F w5 b a5 (s1.did fs).2.jw->a5.mb=a1.mb->a5.vM=a1.vM->OG F w b a fs mn fu D (gk-1) w5):=λhne h0 w5 a5 m5 h5 em ev=>by
    obtain⟨ks,km⟩:=Nj hOb (by exact hm) (s1.ins fs) Ho.o.1 (λh6 h1 h4=>HK.o _ hmem _ hat h6 h1 h4 _ hOb);have ab3:=Xb (by rw[hm];exact Q9.o) HO.o TM he' h0;obtain⟨fu1,fu2⟩:=Xg (dw (s1.ins fs).o.code) (s1.ins fs) (s1.begin (s1.ins fs).o.slots);have ku:(s1.did fs).2.jw.r.used=s1.r.used+1:=fu2;have kf:(s1.did fs).2.jw.r.fuel=s1.r.fuel:=fu1;refine⟨a5,(s1.did fs).2.jw,h5,dD.jw ks,?_,km,by rw[kf];exact hf,by rw[ku];omega,by rw[ku];omega,?_,em.trans Yi.o.1,ev.trans Yi.o.2,HM.o.trans m5⟩
    ·rcases ab3 with hd|hd
     ·exact .inl hd
     ·exact .inr (Hf.of ks.pos hd)
    ·rw[<-hD,show gk-1+2=gk+1 by omega,show gk+2=(gk+1)+1 by omega,mJ fs _ _ he'];have em:iK fs s1=(0,(s1.did fs).2.jw):=by unfold iK;rw[iN9 (by omega),iP9 h0]
     rw[em,iP9 rfl]
   have Zu:af (∀w5,aa F wr w5->(s1.r.used=fu->jk F w5 b a1 s1->PP (gN 1) w5)/\(s1.r.used≠fu->(s1.did fs).1≠0->∀a5,jk F w5 b a5 (s1.did fs).2->a5.mb=a1.mb->a5.vM=a1.vM->PP (gN (s1.did fs).1) w5)):=λw5 m5=>by
    refine⟨λhE h5=>HPP.o _ _ ?_,λhne h0 a5 h5 em ev=>HPP.o _ _ ?_⟩
    ·have eD:D=(1,s1):=by
      rw[<-hD,show gk+2=(gk+1)+1 by omega,mJ fs _ _ he'];have em:iK fs s1=(1,s1):=by unfold iK;rw[iP9 (by omega)]
      rw[em];rfl
     rw[eD];exact⟨rfl,HM.o.trans m5,a1,h5,Yi.o.1,Yi.o.2⟩
    ·have eD:D=s1.did fs:=by
      rw[<-hD,show gk+2=(gk+1)+1 by omega,mJ fs _ _ he'];have em:iK fs s1=s1.did fs:=by unfold iK;rw[iN9 (by omega),iN9 h0]
      rw[em,iN9 h0]
     rw[eD];exact⟨(iN9 h0).symm,HM.o.trans m5,a5,h5,em.trans Yi.o.1,ev.trans Yi.o.2⟩
   have afx:af (0<ee (s1.did fs).2.r.calls):=(Nj hOb (by exact hm) (s1.ins fs) Ho.o.1 (λh6 h1 h4=>HK.o _ hmem _ hat h6 h1 h4 _ hOb)).1.pos;have jS:af (((s1.ins fs).ins bs).cells=#[pt bo,vB (s1.ins fs).d,vB (s1.ins fs).s,.int .i16 (s1.ins fs).jump,vJ (s1.ins fs).num,vJ (s1.ins fs).high,eI ByteArray.empty,eI (T (s1.ins fs).name)]):=by unfold af dQ.cells;rw[hop];rfl
   clear hop hOp hD hf MI HC Q9 HH HK HF HFU HPP Ho HAT HPC hOb hmem hat TM hP he HTG HN Yi HM HO hm;unfold ym at en9;generalize s1.did fs=dd at *;generalize hxx:s1.ins fs=x at *;clear hxx;generalize s1.begin x.o.slots=sb at *;generalize aL (kV fs s1.r.top.fn).code=nS at *;generalize(kV fs s1.r.top.fn).name=nm at *;generalize s1.r.top.fn=fn at *;generalize s1.r.top.slot=sl at *;generalize x.o.slots=xs at *;go_wp2_with fail;refine sV.o.mono ?_;rintro e w1 ⟨rfl,m1⟩;have M1:=ai m1;clear m1 sV;go_wp2_with fail;refine(adG.o _ M1.o).mono ?_;rintro e w2 ⟨rfl,m2⟩;have M2:=ai (M1.o.trans m2);clear m2 M1 adG;obtain⟨gF,cF,gC,qi,y1,y2,_,y3⟩:=XW.o w2 (M2.o.mono (λ_ _ h=>h.elim));subst qi;have HY3:=ai y3;have TN:af ((x.ins bs).cells.size=8):=rfl;have E4:af ((x.ins bs).cells.all (·.oneCell')=eJ):=by unfold af;rw[jS.o];simp[Value.oneCell']
   have HB2:=ai (ak.new w2 adF 141);have HZI:af (adF=#[vO,vB 0,vB 0,.int .i16 0,vJ 0,vJ 0,eI ⟨#[]⟩,eI ⟨#[]⟩]):=rfl;clear y3 XW;generalize hcs:(x.ins bs).cells=cs at *;clear hcs;have hY3:=HY3.o;go_upto_region 3 with(first |(refine Ay rfl 141 (.tmp 24) rfl gC (sl*8) rfl cs _ HY3.o underlying141 rfl (by rw[TN.o];kernel_rfl) ?_) |(rw[<-HZI.o];refine eY rfl 141 (.tmp 6) (.tmp 25) rfl w2.heap.size cs rfl rfl 141 _ HB2.o (by rw[TN.o];kernel_rfl) (by rw[TN.o];rfl) E4.o ?_;intro W3 hB3 yt))
   have M3:=ai (M2.o.trans yt.Nk);rw[jS.o]at hB3;have HB3:=ai hB3;clear hB3 yt HB2 M2 HY3 hY3 E4 TN HZI y1 y2;generalize w2.heap.size=gI at *;simp only[Act.put];obtain⟨_,o2,_,_⟩:=Bv.o W3 (M3.o.mono (λ_ _ h=>h.elim));have z0:=HB3.o.cell 0;by_cases hE:s1.r.used=fu
   ·have JO:=ai (TC.o hE _ M3.o);have HT1:=ai (λw' m=>(Zu.o w' (m.mono (λ_ _ h=>h.elim))).1 hE (HS.o.quiet m));clear TC KL Hw HKP Zu Bv HS hE;go_wp2_with fail;refine JO.o.mono ?_;rintro e w4 ⟨rfl,m4⟩;exact⟨rfl,HT1.o w4 (M3.o.trans m4)⟩
   ·have JO:=ai (KL.o hE _ M3.o);have afy:=ai (HKP.o hE);have afz:=ai (λw5 m5 h0=>(Zu.o w5 m5).2 hE h0);have hgk:0<gk:=by omega
    clear TC KL HKP Zu HS hu;go_wp2_with fail;refine JO.o.mono ?_;rintro e w4 ⟨rfl,⟨hS4,m4⟩,m4'⟩;have HS4:=ai hS4;have M4:=ai ((M3.o.mono (λ_ _ h=>h.elim)).trans m4);have iH:=ai (HB3.o.fV (kJ.of m4' (HTY.o W3 M3.o)) (by decide));clear hS4 m4 m4' JO HB3 M3 HTY o2 z0;have o9:=λ(e:Ext ah w4)=>(Bv.o e.w (M4.o.trans (e.m.mono (λ_ _ h=>h.elim)))).2.2.1;have z0:=λ(e:Ext ah w4)=>(iH.o.ae e.m id).c0;have z1:=λ(e:Ext ah w4)=>(iH.o.ae e.m id).c1;have z2:=λ(e:Ext ah w4)=>(iH.o.ae e.m id).c2;have z3:=λ(e:Ext ah w4)=>(iH.o.ae e.m id).c3;have z4:=λ(e:Ext ah w4)=>(iH.o.ae e.m id).c4;have z5:=λ(e:Ext ah w4)=>(iH.o.ae e.m id).c5;have z6:=λ(e:Ext ah w4)=>(iH.o.ae e.m id).c6;have z7:=λ(e:Ext ah w4)=>(iH.o.ae e.m id).c7
    haveI:Nonempty (Ext ah w4):=Ext.ne _ _
    have HDX:=ai (λw' m=>by have:=Hw.o w' (M4.o.trans (m.mono (λ_ _ h=>h.elim))) (HS4.o.quiet m);rw[jS.o]at this;exact this);clear Hw Bv HS4;go_upto_region 4 with fail;refine dS 7 [] (λw'=>∃e:Ext ah w4,w'=e.w) (by kernel_rfl) (by kernel_rfl) ⟨⟨_,aU⟩,rfl⟩ ?_;simp only[cN,List.take_zero,cQ,List.drop_zero]
    iterate 2 (refine aG rfl rfl rfl ?_;intro K' hK;go_big_quiet_op;go_big_quiet_on)
    refine eF rfl rfl _ ⟨bo,0,ez⟩ rfl rfl ?_;simp only[Act.put,sA9,sB9,sC9]
    iterate 4 (refine aG rfl rfl rfl ?_;intro K' hK;go_big_quiet_op;go_big_quiet_on)
    refine dR ?_;clear o9 z0 z1 z2 z3 z4 z5 z6 z7;go_wp2_with fail;refine(HDX.o _ aU).mono ?_;rintro e w6 ⟨he6,m6,a6,hS6,em6,ev6⟩;have M6:=ai (M4.o.trans ((((aa.refl ah w4).drew).mono (λ_ _ h=>h.elim)).trans m6));by_cases h0:dd.1=0
    ·rw[iP9 h0]at he6;subst he6;have HNX:af (fL prog 85 #[pt b] w6 λe w'=>e=fR (gb #[])/\OG F w b a fs mn fu D (gk-1) w'):=by refine(WC w6 b a6.rb a6.mb a6.vM a6.vC a6.vL dd.2.r hS6.run afx.o).mono (λe w' hh=>⟨hh.1,?_⟩);obtain⟨k1,k2⟩:=hS6.WY hh.2.2 _ hh.2.1 rfl;exact afy.o h0 w' a6 (M6.o.trans k2) k1 em6 ev6
     clear M6 m6 hS6 em6 ev6 HDX iH M4;go_wp2_with fail;refine HNX.o.mono ?_;rintro e w7 ⟨rfl,hr7⟩;have HR7:=ai hr7;clear hr7 HNX;go_wp2_with fail;go_roundg (gk-1)
     case measure=>omega
     case rel=>exact HR7.o
    ·rw[iN9 h0]at he6;subst he6;exact⟨rfl,afz.o w6 M6.o h0 a6 hS6 em6 ev6⟩
abbrev muL:Go.Conc.Locks.MuLink:={lock:=20,unlock:=21,ilock:=50,iunlock:=51,lockSlow:=96,unlockSlow:=99,disable:=92,enable:=94,acquire:=95,relMerge:=97,cas32:=93,add32:=98,tMutex:=75,tIMutex:=73,tPMutex:=132,tPIMutex:=202,tPI32:=204,tUP:=206,tNoCopy:=70,tU32:=71}
theorem Kl:Go.Conc.Locks.MuLib prog muL :=
 ⟨func20,func21,func50,func51,func92,func94,func95,func97,func93,func98,underlying73,runUnderlying73,sizeOf73,isAgg73,zeroValue73,underlying75,runUnderlying75,sizeOf75,isAgg75,zeroValue75,underlying132,runUnderlying132,sizeOf132,isAgg132,zeroValue132,underlying202,runUnderlying202,sizeOf202,isAgg202,zeroValue202,underlying204,runUnderlying204,sizeOf204,isAgg204,zeroValue204,underlying206,runUnderlying206,sizeOf206,isAgg206,zeroValue206,underlying70,runUnderlying70,sizeOf70,isAgg70,zeroValue70,underlying21,runUnderlying21,sizeOf21,isAgg21,zeroValue21,(by kernel_rfl)⟩
theorem SG(w:tW):(rm 162 9 (vN)).run prog w=.ok (eI (strOf [])) w:=by rw[run_convert_bytes_string w 162 9 5 ez 0 0 underlying162 underlying5 underlying9];rfl
theorem Km{w:tW}{v:eM}{n:Nat}{l:tLN}(h:Bi w v n l)(hb:∀x∈l,x<256):∃o cap,v=eK o n cap/\(rm 162 9 v).run prog w=.ok (eI (strOf l)) w:=by
 have h0:=h;rcases h.2 with⟨rfl,rfl⟩ |⟨g,cap,cur,lo,hi,rfl,hg,_⟩
 ·have :=List.length_eq_zero_iff.1 h.1;subst this;exact⟨_,_,rfl,SG w⟩
 ·exact⟨_,_,rfl,MW w g n cap l hb h0⟩
theorem FB{F:Nat->Prop}{w:tW}{b:Nat}{a:Ad}{s:bZ}{fn:Nat}(h:jk F w b a s)(ho:dD fn s):fL prog 43 #[pt b] w λe w'=>e=fR (fW #[vI 0,eI ByteArray.empty,vI 0,vU s.r.r0,eI (strOf (s.gs.getD s.r.inp [])),a.vL,vI s.r.used])/\aa ah w w':=by
 obtain⟨oL,cL,Ni,_⟩:=h.log.view;obtain⟨o,cap,hv,_⟩:=Km (h.Bj.sl _ ho.inp) (ho.gs.at _ ho.inp).2
 have HH:af (∀w',aa ah w w'->aV w' b a.rb a.mb a.vM a.vC a.vL s.r/\ak w' (a.rb.getD s.r.inp 0) #[eK o (ee (s.gs.getD s.r.inp [])) cap] 182/\(rm 162 9 (eK o (ee (s.gs.getD s.r.inp [])) cap)).run prog w'=.ok (eI (strOf (s.gs.getD s.r.inp []))) w'):=λw' m=>by
  have h':=h.quiet m;refine⟨h'.run,?_,?_⟩
  ·rw[<-hv];exact h'.Bj.blk _ ho.inp
  ·obtain⟨o2,c2,hv2,hc2⟩:=Km (h'.Bj.sl _ ho.inp) (ho.gs.at _ ho.inp).2;rw[<-hv];exact hc2
 rw[Ni]at HH ⊢;clear h ho hv Ni;generalize strOf (s.gs.getD s.r.inp [])=str at *;generalize(s.gs.getD s.r.inp []).length=n at *;generalize ee s.r.log=nL at *;go_in;go_upto_region 1 with fail;have gu:af (aa ah w (w.alloc (eR #[vI 0,eI ⟨#[]⟩,vI 0,vU 0,eI ⟨#[]⟩,vN,vI 0] 56)).drew):=aq.drew;have tI:af (ak (w.alloc (eR #[vI 0,eI ⟨#[]⟩,vI 0,vU 0,eI ⟨#[]⟩,vN,vI 0] 56)).drew w.heap.size #[vI 0,eI ⟨#[]⟩,vI 0,vU 0,eI ⟨#[]⟩,vN,vI 0] 56):=(ak.new w _ _).ae (aa.refl ah _).drew id;refine bU 21 (by kernel_rfl) (by kernel_rfl) ?_;intro W hW;rw[<-hW]at gu tI;clear hW;obtain⟨hr,hg,hcv⟩:=HH.o W gu.o;have x1:=hr.blk.c1;have x4:=hr.blk.c4;have x5:=hr.blk.c5;have x6:=hr.blk.c6;have y0:=hg.c0;clear hr hg HH;generalize a.rb.getD s.r.inp 0=R at *;simp only[cN,List.take_zero,cQ,List.drop_zero]
 repeat(go_big_quiet_step (fail))
 refine wpQuiet_nil ?_;have z0:=tI.o.cell 0;have z1:=tI.o.cell 1;have z2:=tI.o.cell 2;have z3:=tI.o.cell 3;have z4:=tI.o.cell 4;have z5:=tI.o.cell 5;have z6:=tI.o.cell 6;have zf:=tI.o.frozen;clear x1 x4 x5 x6 y0 hcv;go_wp2_with fail;refine iz (mz results43 _ _ w.heap.size 56 _ (0,0) _ rfl (((((((tI.o.set 0 _).set 1 _).set 2 _).set 3 _).set 4 _).set 5 _).set 6 _) underlying56 rfl (by kernel_rfl)) rfl ⟨rfl,?_⟩;have q:∀{X:tW} (i:Nat) (u:eM),aa ah w X->aa ah w (X.setCell ⟨w.heap.size,i,ez⟩ u):=λi u m=>m.set (a:=⟨w.heap.size,i,ez⟩) (Or.inr (ao _)) u;exact q 6 _ (q 5 _ (q 4 _ (q 3 _ (q 2 _ (q 1 _ (q 0 _ gu.o))))))
theorem Nn{F:Nat->Prop}{w:tW}{b:Nat}{a:Ad}{s:bZ}{fs:List cZ}(h:jk F w b a s)(ho:dD (ee fs) s){wT:tW}{tv:eM}{bs:tLN}{mp:Nat}{vF:eM}{cg:tLN}(hC:AA F wT tv bs mp vF fs cg w)(t:Nat):fL prog 41 #[pt mp,pt b,vI t] w λe w'=>e=fR (fW #[vI t,eI (T (kV fs s.r.top.fn).name),vI s.r.top.slot,vU s.r.r0,eI (strOf (s.gs.getD s.r.inp [])),a.vL,vI s.r.used])/\aa ah w w':=by
 obtain⟨oL,cL,Ni,_⟩:=h.log.view;have hfn:=ho.top.fn;have K1:=ai (λw' (m:aa ah w w')=>FB (h.quiet m) ho);have HPL:af (∀w',aa ah w w'->fL prog 82 #[pt b] w' λe w''=>e=fR (gb #[vI s.r.top.fn,vI s.r.top.slot])/\aa ah w' w''):=λw' m=>DF w' b a.rb a.mb a.vM a.vC a.vL s.r (h.run.quiet m) ho.pos
 have XW:af (∀w',aa ah w w'->∃gF cF,vF=eK (eC ⟨gF,0,ez⟩) (ee fs) cF/\w'.cell? ⟨mp,2,ez⟩=eC vF/\w'.cell? ⟨gF,s.r.top.fn*2,ez⟩=eC (eI (T (kV fs s.r.top.fn).name))):=λw' m=>by
  have O8:=hC.quiet m;have afA:kV fs s.r.top.fn=fs[s.r.top.fn]:=by unfold kV;rw[List.getD_eq_getElem?_getD,List.getElem?_eq_getElem hfn];rfl
  rw[afA];obtain⟨c0,c1,c3,hb⟩:=O8.blk;obtain⟨oF,cF,rfl,hvw⟩:=O8.yw.view;obtain⟨gF,cs,rfl,hg,ht,_⟩:=hvw (by omega);have hz:s.r.top.fn<ee (fs.zip cg):=by rw[cD,O8.lf];omega
  refine⟨gF,cF,rfl,hb.cell 2,?_⟩;have:w'.cell? ⟨gF,s.r.top.fn*2+0,ez⟩=(Fq ((fs.zip cg)[s.r.top.fn]))[0]?:=by rw[aX hg ht _ (by omega),qt Fq 2 (fs.zip cg) (λ_ _=>rfl) s.r.top.fn 0 hz (by omega)]
  rw[Nat.add_zero]at this;rw[this];simp[Fq]
 rw[Ni]at K1 ⊢;clear h ho hC Ni;generalize strOf (s.gs.getD s.r.inp [])=str at *;generalize ee s.r.log=nL at *;generalize T (kV fs s.r.top.fn).name=nm at *;generalize s.r.top.fn=fn at *;generalize s.r.top.slot=sl at *;have dU:af (aa ah w (w.alloc (eR #[vI 0,eI ⟨#[]⟩,vI 0,vU 0,eI ⟨#[]⟩,vN,vI 0] 56))):=aq;have HB0:=ai (ak.new w #[vI 0,eI ⟨#[]⟩,vI 0,vU 0,eI ⟨#[]⟩,vN,vI 0] 56);go_in;go_upto_region 1 with fail;generalize w.alloc (eR #[vI 0,eI ⟨#[]⟩,vI 0,vU 0,eI ⟨#[]⟩,vN,vI 0] 56)=W0 at *;go_wp2_with fail;refine(K1.o _ dU.o).mono ?_;rintro e w1 ⟨rfl,m1⟩;have dB:=ai (dU.o.trans m1);have HB1:=ai (HB0.o.ae m1 id);clear m1 HB0 dU K1;have E4:af ((#[vI 0,eI ByteArray.empty,vI 0,vU s.r.r0,eI str,eK oL nL cL,vI s.r.used]:tAV).all (·.oneCell')=eJ):=by unfold af;simp[Value.oneCell']
 have HB2:=ai (ak.new w1 #[vI 0,eI ⟨#[]⟩,vI 0,vU 0,eI ⟨#[]⟩,vN,vI 0] 56);go_wp2_with (refine eY rfl 56 (.tmp 7) (.tmp 11) rfl w1.heap.size _ rfl rfl 56 _ HB2.o (by kernel_rfl) rfl E4.o ?_;intro W3 hB3 yt);have eH:=ai (dB.o.trans yt.Nk);have HB3:=ai hB3;have adH:=ai (HB1.o.ae yt.Nk id);have HGL:af (w1.heap.size<W3.heap.size/\w.heap.size<w1.heap.size):=⟨hB3.lt,HB1.o.lt⟩
 clear hB3 yt HB2 HB1 E4 dB;generalize w1.heap.size=gR at *;refine(HPL.o _ eH.o).mono ?_;rintro e w4 ⟨rfl,m4⟩;have jh:=ai (eH.o.trans m4);have iH:=ai (HB3.o.ae m4 id);have aaU:=ai (adH.o.ae m4 id);clear m4 HB3 adH eH HPL;go_upto_region 3 with fail;have HMe:af (∀e:Ext (Only gR) w4,aa ah w e.w):=λe=>jh.o.step e.m (λi hi he=>by have h1:i=gR:=he;have h2:=HGL.o.2;omega);obtain⟨gF,cF,qi,_,_⟩:=XW.o w4 jh.o;subst qi;have y1:∀e:Ext (Only gR) w4,e.w.cell? ⟨mp,2,ez⟩=eC (eK (eC ⟨gF,0,ez⟩) (ee fs) cF):=λe=>by obtain⟨g',c',h1,h2,_⟩:=XW.o e.w (HMe.o e);exact h2
 have y2:∀e:Ext (Only gR) w4,e.w.cell? ⟨gF,fn*2,ez⟩=eC (eI nm):=λe=>by obtain⟨g',c',h1,_,h3⟩:=XW.o e.w (HMe.o e);cases h1;exact h3
 haveI:Nonempty (Ext (Only gR) w4):=Ext.ne _ _
 have Ht:af (gR≠w.heap.size):=λe=>by have:=HGL.o.2;omega
 have tI:=ai (iH.o.ae (aa.refl ah _).drew id);have HBe:=ai (aaU.o.ae (aa.refl ah _).drew id);have gu:=ai jh.o.drew;clear XW HMe iH aaU;refine bR [11,13,15] (λw'=>∃e:Ext (Only gR) w4,w'=e.w) (by kernel_rfl) (by kernel_rfl) (by kernel_rfl) ⟨⟨_,aU⟩,rfl⟩ ?_
 iterate 2 (refine aG rfl rfl rfl ?_;intro K' hK;go_big_quiet_op;go_big_quiet_on)
 refine eF rfl rfl _ ⟨mp,0,ez⟩ rfl rfl ?_;simp only[Act.put,sA9,sB9,sC9]
 iterate 8 (refine aG rfl rfl rfl ?_;intro K' hK;go_big_quiet_op;go_big_quiet_on)
 have E0:af (aa (Only gR) w4 w4.drew):=aU;have z0:=tI.o.cell 0;have f0:=tI.o.frozen;refine aN rfl rfl ?_;intro K' hK;go_big_op;refine hK _ _ rfl ⟨⟨_,E0.o.bz 0 _⟩,rfl⟩ ?_;clear hK K' z0 f0
 try simp only[Act.put,sA9,sB9,sC9]
 have G0:af (ak ((w4.setCell ⟨gR,0,ez⟩ (vI t)).drew) gR #[vI t,eI ByteArray.empty,vI 0,vU s.r.r0,eI str,eK oL nL cL,vI s.r.used] 56):=tI.o.set 0 _;have H0:af (ak ((w4.setCell ⟨gR,0,ez⟩ (vI t)).drew) w.heap.size #[vI 0,eI ⟨#[]⟩,vI 0,vU 0,eI ⟨#[]⟩,vN,vI 0] 56):=HBe.o.setOther (a:=⟨gR,0,ez⟩) Ht.o _;have J0:af (aa ah w ((w4.setCell ⟨gR,0,ez⟩ (vI t)).drew)):=gu.o.set (a:=⟨gR,0,ez⟩) (.inr (by have:=HGL.o.2;simp only;omega)) _;have E1:af (aa (Only gR) w4 ((w4.setCell ⟨gR,0,ez⟩ (vI t)).drew)):=E0.o.bz 0 _;clear tI HBe gu E0;generalize(w4.setCell ⟨gR,0,ez⟩ (vI t)).drew=V1 at *
 iterate 1 (refine aG rfl rfl rfl ?_;intro K' hK;go_big_quiet_op;go_big_quiet_on)
 have z1:=G0.o.cell 1;have f1:=G0.o.frozen;refine aN rfl rfl ?_;intro K' hK;go_big_op;refine hK _ _ rfl ⟨⟨_,E1.o.bz 1 _⟩,rfl⟩ ?_;clear hK K' z1 f1
 try simp only[Act.put,sA9,sB9,sC9]
 have G1:af (ak (V1.setCell ⟨gR,1,ez⟩ (eI nm)) gR #[vI t,eI nm,vI 0,vU s.r.r0,eI str,eK oL nL cL,vI s.r.used] 56):=G0.o.set 1 _;have H1:af (ak (V1.setCell ⟨gR,1,ez⟩ (eI nm)) w.heap.size #[vI 0,eI ⟨#[]⟩,vI 0,vU 0,eI ⟨#[]⟩,vN,vI 0] 56):=H0.o.setOther (a:=⟨gR,1,ez⟩) Ht.o _;have J1:af (aa ah w (V1.setCell ⟨gR,1,ez⟩ (eI nm))):=J0.o.set (a:=⟨gR,1,ez⟩) (.inr (by have:=HGL.o.2;simp only;omega)) _;have E2:af (aa (Only gR) w4 (V1.setCell ⟨gR,1,ez⟩ (eI nm))):=E1.o.bz 1 _;clear G0 H0 J0 E1;generalize V1.setCell ⟨gR,1,ez⟩ (eI nm)=V2 at *
 iterate 1 (refine aG rfl rfl rfl ?_;intro K' hK;go_big_quiet_op;go_big_quiet_on)
 have z2:=G1.o.cell 2;have f2:=G1.o.frozen;refine aN rfl rfl ?_;intro K' hK;go_big_op;refine hK _ _ rfl ⟨⟨_,E2.o.bz 2 _⟩,rfl⟩ ?_;clear hK K' z2 f2
 try simp only[Act.put,sA9,sB9,sC9]
 have G2:af (ak (V2.setCell ⟨gR,2,ez⟩ (vI sl)) gR #[vI t,eI nm,vI sl,vU s.r.r0,eI str,eK oL nL cL,vI s.r.used] 56):=G1.o.set 2 _;have H2:af (ak (V2.setCell ⟨gR,2,ez⟩ (vI sl)) w.heap.size #[vI 0,eI ⟨#[]⟩,vI 0,vU 0,eI ⟨#[]⟩,vN,vI 0] 56):=H1.o.setOther (a:=⟨gR,2,ez⟩) Ht.o _;have J2:af (aa ah w (V2.setCell ⟨gR,2,ez⟩ (vI sl))):=J1.o.set (a:=⟨gR,2,ez⟩) (.inr (by have:=HGL.o.2;simp only;omega)) _;have E3:af (aa (Only gR) w4 (V2.setCell ⟨gR,2,ez⟩ (vI sl))):=E2.o.bz 2 _;clear G1 H1 J1 E2;generalize V2.setCell ⟨gR,2,ez⟩ (vI sl)=V3 at *;refine dR ?_;have jr:=G2;have tK:=H2;have yq:=J2;clear y1 y2;simp only[Exit.then];have x0:=jr.o.cell 0;have x1:=jr.o.cell 1;have x2:=jr.o.cell 2;have x3:=jr.o.cell 3;have x4:=jr.o.cell 4;have x5:=jr.o.cell 5;have x6:=jr.o.cell 6;have z0:=tK.o.cell 0;have z1:=tK.o.cell 1;have z2:=tK.o.cell 2;have z3:=tK.o.cell 3;have z4:=tK.o.cell 4;have z5:=tK.o.cell 5;have z6:=tK.o.cell 6;have zf:=tK.o.frozen;go_wp2_with fail;refine iz (mz results41 _ _ w.heap.size 56 _ (0,0) _ rfl (((((((tK.o.set 0 _).set 1 _).set 2 _).set 3 _).set 4 _).set 5 _).set 6 _) underlying56 rfl (by kernel_rfl)) rfl ⟨rfl,?_⟩;have q:∀{X:tW} (i:Nat) (u:eM),aa ah w X->aa ah w (X.setCell ⟨w.heap.size,i,ez⟩ u):=λi u m=>m.set (a:=⟨w.heap.size,i,ez⟩) (Or.inr (ao _)) u;exact q 6 _ (q 5 _ (q 4 _ (q 3 _ (q 2 _ (q 1 _ (q 0 _ yq.o))))))
theorem Xi(w:tW)(s:tBA)(v:eM)(hv:∃o n c,v=eK o n c)(bn:Nat)(nm:tBA)(hb:ak w bn #[eI nm] 9):fL prog 38 #[fW #[eI s,v],pt bn] w λe w'=>e=fR (fS (s.toList==nm.toList))/\aa ah w w':=by obtain⟨o,n,c,rfl⟩:=hv;have HM:af (aa ah w (w.alloc (eR #[eI s,eK o n c] 82))):=aq;have x0:=(hb.ae HM.o id).cell 0;clear hb;go_in;go_wp2_with fail;go_ret;exact⟨rfl,HM.o⟩
theorem ab4{a b:tLB}(h:T a=T b):a=b:=by
 have:=congrArg (λx:tBA=>x.data.toList) h
 simpa [T]using this
def Hq(fs:List cZ)(nm:tLB):Int:=match zn fs nm with
 |none=>-1
 |some i=>i
theorem Np(fs:List cZ)(nm:tLB)(k:Nat)(hk:k<ee fs)(h:∀i (hi:i<ee fs),i<k->fs[i].name≠nm)(he:fs[k].name=nm):zn fs nm=eC k:=by
 unfold zn;rw[List.findIdx?_eq_some_iff_getElem];refine⟨hk,by simpa using he,λj hj=>?_⟩
 simpa using h j (by omega) hj
theorem Nq(fs:List cZ)(nm:tLB)(h:∀i (hi:i<ee fs),fs[i].name≠nm):zn fs nm=ez:=by
 unfold zn;rw[List.findIdx?_eq_none_iff];intro f hf;obtain⟨i,hi,rfl⟩:=ab hf
 simpa using h i hi
theorem adI{w:tW}{fs:List cZ}{cg:tLN}{oF:Option Addr}{n cF:Nat}(hl:ee cg=ee fs)(hF:Sl w 82 2 (eK oF n cF) (ee fs) ((fs.zip cg).flatMap Fq))(k:Nat)(hk:k<ee fs)(hk':k<ee cg):∃gF,oF=eC ⟨gF,0,ez⟩/\w.cell? ⟨gF,k*2,ez⟩=eC (eI (T fs[k].name))/\w.cell? ⟨gF,k*2+1,ez⟩=eC (eK (eC ⟨cg[k],0,ez⟩) (aL fs[k].code) (aL fs[k].code)):=by
 obtain⟨o2,c2,hv2,afB⟩:=hF.view;obtain⟨gF,cs,ho,hg,ht,_⟩:=afB (by omega);injection hv2 with h1 _ _;rw[<-h1]at ho;have hz:k<ee (fs.zip cg):=by rw[cD];omega
 have hrow:∀j,j<2->w.cell? ⟨gF,k*2+j,ez⟩=(Fq (fs[k],cg[k]))[j]?:=λj hj=>by rw[aX hg ht _ (by omega),qt Fq 2 (fs.zip cg) (λ_ _=>rfl) k j hz hj];simp
 exact⟨gF,ho,hrow 0 (by omega),hrow 1 (by omega)⟩
theorem Nr(w:tW)(fs:List cZ)(cg:tLN)(vF:eM)(hl:ee cg=ee fs)(hn:ee fs<=1000)(hF:Sl w 82 2 vF (ee fs) ((fs.zip cg).flatMap Fq))(bn:Nat)(nm:tLB)(hb:ak w bn #[eI (T nm)] 9):fL prog 37 #[vF,.func (.func 38) #[] #[pt bn]] w λe w'=>e=fR (vI (Hq fs nm))/\aa ah w w':=by
 have en:∀args w,(callFunc 38 args).run prog w=.ok (.enter 38 args) w:=enters_of func38 (by kernel_rfl) rfl
 have HC:af (∀w',aa ah w w'->∀k (hk:k<ee fs) (hk':k<ee cg),fL prog 38 #[fW #[eI (T fs[k].name),eK (eC ⟨cg[k],0,ez⟩) (aL fs[k].code) (aL fs[k].code)],pt bn] w' λe w''=>e=fR (fS (eS (fs[k].name=nm)))/\aa ah w' w''):=λw' m k hk hk'=>by
  have:=Xi w' (T fs[k].name) (eK (eC ⟨cg[k],0,ez⟩) (aL fs[k].code) (aL fs[k].code)) ⟨_,_,_,rfl⟩ bn (T nm) (hb.ae m id)
  have e:((T fs[k].name).toList==(T nm).toList)=eS (fs[k].name=nm):=by
   by_cases h:fs[k].name=nm
   ·rw[h];simp
   ·rw[qF (λe=>h (ab4 e)),decide_eq_false h]
  rw[e]at this;exact this
 obtain⟨oF,cF,rfl,hvw⟩:=hF.view;have HR:=ai (λw' (m:aa ah w w') k (hk:k<ee fs) (hk':k<ee cg)=>adI hl (hF.ae m (λ_ _=>id)) k hk hk');clear hF hb hvw;go_in;go_wp2_with fail;go_loopw [8] (λv8 wl=>∃k:Nat,k<=ee fs/\v8=vI k/\aa ah w wl/\∀i (hi:i<ee fs),i<k->fs[i].name≠nm) (λv8 _=>ee fs-(intOf v8).toNat)
 case atStart=>exact⟨0,cb _,rfl,aA,λi _ h=>absurd h (bt _)⟩
 case round =>
  obtain⟨k,hk,rfl,hM,hN⟩:=hrel;have HM:=ai hM;have HN:=ai hN;clear hM hN;by_cases hlt:k<ee fs
  ·have hlt':k<ee cg:=by omega
   obtain⟨gF,ho,y0,y1⟩:=HR.o wr HM.o k hlt hlt';subst ho;have HK:=ai (HC.o wr HM.o k hlt hlt');clear HC;by_cases he:fs[k].name=nm
   ·have HI:af (Hq fs nm=(k:Int)):=by unfold af Hq;rw[Np fs nm k hlt HN.o he]
    rw[decide_eq_true he]at HK;generalize T fs[k].name=tn at *;generalize aL fs[k].code=sn at *;generalize cg[k]=ck at *;clear he HR HN;go_wp2_with fail;refine HK.o.mono ?_;rintro e w1 ⟨rfl,m1⟩;have M1:=ai (HM.o.trans m1);clear m1 y0 y1;go_wp2_with fail;go_ret;exact⟨by rw[HI.o];rfl,M1.o⟩
   ·have Eg:af (∀i (hi:i<ee fs),i<k+1->fs[i].name≠nm):=λi hi h=>by
     by_cases hik:i=k
     ·subst hik;exact he
     ·exact HN.o i hi (by omega)
    rw[decide_eq_false he]at HK;generalize T fs[k].name=tn at *;generalize aL fs[k].code=sn at *;generalize cg[k]=ck at *;clear he HR HN;go_wp2_with fail;refine HK.o.mono ?_;rintro e w1 ⟨rfl,m1⟩;have M1:=ai (HM.o.trans m1);clear m1 y0 y1;go_wp2_with fail;go_roundw
    case rel=>exact⟨k+1,by omega,by go_num,M1.o,Eg.o⟩
    case measure=>simp[intOf];omega
  ·have hkk:k=ee fs:=by omega
   subst hkk;have HI:af (Hq fs nm=-1):=by unfold af Hq;rw[Nq fs nm (λi hi=>HN.o i hi hi)]
   clear HC HR HN;go_wp2_with fail;go_ret;exact⟨by rw[HI.o];rfl,HM.o⟩
def Kn(t:Nat)(r:Bool):FrameMode:=.panicking [{v:=.iface 52 (vI t),recovered:=r}]
theorem OH(W:tW)(v:eM)(xt:gh):(Instr.typeAssert (.iface 52 v) xt 52 eJ).run prog W=.ok (gb #[v,fS eJ]) W:=by kernel_rfl
theorem SH(w:tW)(x y z:eM):CallsD prog 40 #[x,y,z] .returning w λe u' w'=>e=fR (gb #[])/\u'=.returning/\w'=w:=by refine CC func40 rfl λc₀ cs hu=>?_;simp only[ntmps40,cX,dj,List.length_nil,Nat.reduceAdd,Nat.reduceSub,cH,cI,cY,cR,cG,cw];apply wpS_seq;apply CI;simp[wpOpsS,go_sem,recoverD,hu,Exit.thenS];refine wpS_of_wp ?_;generalize hQ:(λe a' w'=>bodyPostS prog f40 c₀ cs (λe u' w'=>e=fR (gb #[])/\u'=.returning/\w'=w) e a' (c₀::cs) w')=Q;go_wp2_with fail;subst hQ;refine⟨rfl,.returning,?_,gb #[],by simp[results,results40,go_sem],rfl,rfl,rfl⟩;cases c₀;simp_all
theorem SI(w:tW)(g0 g1 g2 mp b t:Nat)(cs:tAV)(old:tAV)(h0:ak w g0 #[pt mp] 61)(h1:ak w g1 #[pt b] 118)(h2:ak w g2 old 56)(ho:old.size=7)(hc:cs.size=7)(hc1:cs.all (·.oneCell')=eJ)(hT:fL prog 41 #[pt mp,pt b,vI t] w λe w'=>e=fR (fW cs)/\aa ah w w'):CallsD prog 40 #[pt g0,pt g1,pt g2] (Kn t eE) w λe u' w'=>e=fR (gb #[])/\u'=Kn t eJ/\ak w' g2 cs 56/\aa (Only g2) w w':=by refine CC func40 rfl λc₀ cz hu=>?_;have y0:=h0.cell 0;have y1:=h1.cell 0;have HT:=ai hT;have H2:=ai h2;have E4:=ai hc1;have HO:=ai (ho.trans hc.symm);have HC:=ai hc;clear h0 h1 h2 hT hc1 ho hc;unfold Kn at hu;simp only[ntmps40,cX,dj,List.length_nil,Nat.reduceAdd,Nat.reduceSub,cH,cI,cY,cR,cG,cw];apply wpS_seq;apply CI;simp[wpOpsS,go_sem,recoverD,hu,Exit.thenS];refine wpS_of_wp ?_;generalize hQ:(λe a' w'=>bodyPostS prog f40 c₀ cz (λe u' w'=>e=fR (gb #[])/\u'=Kn t eJ/\ak w' g2 cs 56/\aa (Only g2) w w') e a' _ w')=Q;have hta:=OH;go_wp2_with (rw[OH]);refine HT.o.mono ?_;rintro e w1 ⟨rfl,m1⟩;have HB1:=ai (H2.o.ae m1 id);have dB:af (aa (Only g2) w w1):=m1.mono (λ_ _ h=>h.elim);clear m1 HT H2 y0 y1;go_wp2_with (refine eY rfl 56 (.tmp 2) (.tmp 15) rfl g2 cs rfl rfl 56 _ HB1.o (by rw[HC.o];kernel_rfl) HO.o E4.o ?_;intro W3 hB3 yt);subst hQ;exact⟨rfl,Kn t eJ,rfl,gb #[],by simp[results,results40,go_sem],rfl,rfl,hB3,dB.o.trans yt⟩
theorem FC{fs:List cZ}{mn:Nat}(hco:sw fs mn)(hk:zw fs):∀(n:Nat) (s:bZ),dD (ee fs) s->ee s.ms=mn->(s.r.ended=eJ\/Hf fs s)->dD (ee fs) (followP fs n s).2/\(followP fs n s).2.ms.length=mn
 |0,s,ho,hm,_=>⟨ho,hm⟩
 |n+1,s,ho,hm,hp=>by
  by_cases he:s.r.ended=eJ
  ·have:followP fs (n+1) s=(0,s):=by unfold followP;rw[iP9 he]
   rw[this];exact⟨ho,hm⟩
  ·have he':s.r.ended=eE:=by simpa using he
   rw[mJ fs n s he'];have TM:=hp.elim (λe=>absurd e he) id;have hmem:=uY fs _ ho.top.fn;have hat:=uZ fs _ _ TM.at';have hins:=hco.ins _ hmem _ hat;have hob:=ho.begin (s.ins fs).o.slots;have hd:=Nj hob (by exact hm) (s.ins fs) hins.1 (λh6 h1 h4=>hk _ hmem _ hat h6 h1 h4 _ hob);by_cases hu:s.r.used=s.r.fuel
   ·have em:iK fs s=(1,s):=by unfold iK;rw[iP9 hu]
    rw[em];exact⟨ho,hm⟩
   ·by_cases h0:(s.did fs).1=0
    ·have em:iK fs s=(0,(s.did fs).2.jw):=by unfold iK;rw[iN9 hu,iP9 h0]
     rw[em,iP9 rfl];have ab3:=Xb (by rw[hm];exact hco) ho TM he' h0;refine FC hco hk n _ (dD.jw hd.1) hd.2 ?_;rcases ab3 with hd'|hd'
     ·exact .inl hd'
     ·exact .inr (Hf.of hd.1.pos hd')
    ·have em:iK fs s=s.did fs:=by unfold iK;rw[iN9 hu,iN9 h0]
     rw[em,iN9 h0];exact hd
theorem Ko(fn F q n:Nat):Fu fn F q n=⟨[⟨fn,0,0,[{},wy q 0,qp n,{},{},{},{},{},{},{},wy (q+1) 64],q+1⟩],F,0,[],0,eE,q⟩:=rfl
theorem G9.more{gs:List tLN}(h:G9 gs){x:tLN}(hx:ee x<=1000/\∀b∈x,b<256):G9 (gs++[x]):=λg hg=>by
 rcases List.mem_append.1 hg with hg|hg
 ·exact h g hg
 ·rw[List.mem_singleton.1 hg];exact hx
theorem OI(s:tBA):ee (kF (nW s))<=32/\∀b∈kF (nW s),b<256:=by
 refine⟨?_,λb hb=>?_⟩
 ·have h1:ee (kF (nW s))=(nW s).size:=by unfold kF;rw[List.length_map];rfl
  rw[h1];unfold nW;rw[ByteArray.size_extract];omega
 ·unfold kF at hb;obtain⟨c,_,rfl⟩:=List.mem_map.1 hb;exact c.toNat_lt
theorem Xj:ee dx<=1000/\∀b∈dx,b<256:=by refine⟨by decide,λb hb=>?_⟩;rw[cx hb];decide
theorem Xk{fn' fn:Nat}{gs:List tLN}{ms:List BB}(hf:fn<fn')(hg:G9 gs)(hm:∀m∈ms,Sw gs m)(hn:(lg ms).Nodup)(inp:tBA)(fuel:Int):dD fn' (uW gs ms fn inp fuel):=by
 have hsz:(nW inp).size<=32:=by unfold nW;rw[ByteArray.size_extract];omega
 unfold uW;rw[Ko];have hlen:ee (gs++[kF (nW inp)]++[dx])=ee gs+2:=by simp
 refine⟨by simp,by simp,?_,?_,?_,⟨by simp,by simp⟩,?_,?_⟩
 ·intro f hf';simp only[cj]at hf';subst hf';refine⟨hf,by simp only;rw[hlen];omega,rfl,?_⟩;intro v hv;simp only;rw[hlen];simp only[List.mem_cons,List.not_mem_nil,or_false]at hv;rcases hv with rfl|rfl|rfl|rfl|rfl|rfl|rfl|rfl|rfl|rfl|rfl
  all_goals first|exact MV.Ok.zero _ _|exact MV.Ok.ptr (by omega) (by omega)|exact MV.Ok.num (by omega)
 ·exact(hg.more ⟨by have:=(OI inp).1;omega,(OI inp).2⟩).more Xj
 ·simp only;rw[hlen];omega
 ·intro m hm';exact((hm m hm').grow _).grow _
 ·unfold Nc;simp only[List.map_cons,List.map_nil,cw,cG];have hlt:∀q∈lg ms,q<ee gs:=λq hq=>by unfold lg at hq;obtain⟨m,hm',hq⟩:=List.mem_flatMap.1 hq;obtain⟨e,he,rfl⟩:=List.mem_map.1 hq;exact((hm m hm').er e he).1
  rw[List.nodup_cons,List.nodup_cons];refine⟨λh=>?_,λh=>?_,hn⟩
  ·rcases List.mem_cons.1 h with h|h
   ·omega
   ·have:=hlt _ h;omega
  ·have:=hlt _ h;omega
theorem Xl{fs:List cZ}{mn fn:Nat}(hco:sw fs mn)(hf:fn<ee fs)(gs:List tLN)(ms:List BB)(inp:tBA)(fuel:Int):Hf fs (uW gs ms fn inp fuel):=by unfold uW;rw[Ko];exact⟨hco.first _ (uY fs fn hf),λp hp=>by simp[aH.om]at hp⟩
theorem Xm{fs:List cZ}{nm:tLB}{k:Nat}(h:zn fs nm=eC k):k<ee fs:=by unfold zn at h;exact(List.findIdx?_eq_some_iff_getElem.1 h).1
def pK(a:Ad)(k:Nat):Prop:=k∈a.rb\/(∃v∈a.vs,v.ownBlock=eC k)\/k∈a.mb\/∃v∈a.ve,v.ownBlock=eC k
def Whole(mp:Nat)(vF:eM)(cg:tLN)(a:Ad)(k:Nat):Prop:=k=mp\/pK a k\/vF.ownBlock=eC k\/k∈cg\/a.vM.ownBlock=eC k
structure eU(c0 c1:eM)(wT:tW)(tv:eM)(bs:tLN)(mp:Nat)(vF:eM)(fs:List cZ)(cg:tLN)(a:Ad)(gs:List tLN)(ms:List BB)(w:tW):Prop where
 blk:ak w mp #[c0,c1,vF,a.vM] 79
 lf:ee cg=ee fs
 yw:Sl w 82 2 vF (ee fs) ((fs.zip cg).flatMap Fq)
 code:∀i (h:i<ee fs) (h':i<ee cg),pG w bs cg[i] (aL fs[i].code) (atS 0 fs[i].code)
 tab:aT 0 wT tv bs ax
 md:kJ maT wT w
 Bj:yx w a.rb a.vs gs
 maps:uX w a.rb a.mb a.vM a.ve ms
 gok:G9 gs
 mok:∀m∈ms,Sw gs m
 own:(lg ms).Nodup
 base:∀k,pK a k->wT.heap.size<=k
 OJ:wT.heap.size<=mp
theorem qy{α:Type}{l:List α}{x:α}(d:α)(h:x∈l):∃i,i<ee l/\l.getD i d=x:=by obtain⟨i,hi,rfl⟩:=ab h;exact⟨i,hi,by rw[List.getD_eq_getElem?_getD,List.getElem?_eq_getElem hi];rfl⟩
section
variable {c0 c1 : eM} {wT : World} {tv : eM} {bs : List Nat} {mp : Nat} {vF : eM} {fs : List cZ} {cg : List Nat} {a : Ad} {gs : List (List Nat)} {ms : List BB} {w w' : World}
theorem pG.ty{g n:Nat}{l:List (PI×Nat)}(h:pG w bs g n l):Ty w g 141:=by obtain⟨cs,hb,_⟩:=h.ex;exact hb.ty
theorem eU.OK(h:eU c0 c1 wT tv bs mp vF fs cg a gs ms w){k:Nat}(hk:pK a k):∃t∈[182,5,179,419],Ty w k t:=by
 rcases hk with hk |⟨v,hv,hk⟩|hk |⟨v,hv,hk⟩
 ·obtain⟨i,hi,rfl⟩:=qy 0 hk;exact⟨_,by simp,(h.Bj.blk i (by rw[<-h.Bj.lr];exact hi)).ty⟩
 ·obtain⟨i,hi,rfl⟩:=qy kh hv;exact⟨_,by simp,(h.Bj.sl i (by rw[<-h.Bj.lv];exact hi)).ty hk⟩
 ·obtain⟨i,hi,rfl⟩:=qy 0 hk;exact⟨_,by simp,(h.maps.blk i (by rw[<-h.maps.lm];exact hi)).ty⟩
 ·obtain⟨i,hi,rfl⟩:=qy kh hv;exact⟨_,by simp,(h.maps.sl i (by rw[<-h.maps.le];exact hi)).ty hk⟩
theorem eU.zx(h:eU c0 c1 wT tv bs mp vF fs cg a gs ms w){k:Nat}{t:gh}(ht:Ty w k t)(hn:t ∉ [182,5,179,419]):¬pK a k:=λhk=>by
 obtain⟨u,hu,hk⟩:=h.OK hk;exact hn (ht.one hk ▸ hu)
theorem eU.aap(h:eU c0 c1 wT tv bs mp vF fs cg a gs ms w){k:Nat}(hk:pK a k):k<w.heap.size:=by obtain⟨t,_,cs,fr,e⟩:=h.OK hk;obtain⟨hlt,_⟩:=Array.getElem?_eq_some_iff.1 e;exact hlt
theorem eU.adJ(h:eU c0 c1 wT tv bs mp vF fs cg a gs ms w):¬pK a mp/\(∀k,vF.ownBlock=eC k->¬pK a k)/\∀g∈cg,¬pK a g :=
 ⟨h.zx h.blk.ty (by decide),λk hk=>h.zx (h.yw.ty hk) (by decide),λg hg=>by obtain⟨i,hi,rfl⟩:=ab hg;exact h.zx (h.code i (by rw[<-h.lf];exact hi) hi).ty (by decide)⟩
theorem eU.aaV(h:eU c0 c1 wT tv bs mp vF fs cg a gs ms w):mp<w.heap.size/\(∀k,vF.ownBlock=eC k->k<w.heap.size)/\∀g∈cg,g<w.heap.size :=
 ⟨h.blk.lt,λk hk=>h.yw.lt k hk,λg hg=>by obtain⟨i,hi,rfl⟩:=ab hg;obtain⟨cs,fr,e⟩:=(h.code i (by rw[<-h.lf];exact hi) hi).ty;obtain⟨hlt,_⟩:=Array.getElem?_eq_some_iff.1 e;exact hlt⟩
theorem eU.adK{S:Nat->Prop}(h:eU c0 c1 wT tv bs mp vF fs cg a gs ms w)(m:aa S w w')(hS:∀k,k<wT.heap.size->S k->∃t∈maT,Ty wT k t)(hW:∀k,S k->¬Whole mp vF cg a k):eU c0 c1 wT tv bs mp vF fs cg a gs ms w':=by
 have q:∀k,Whole mp vF cg a k->¬S k:=λk hk hs=>hW k hs hk;have qf:=λk hk=>q k (.inr (.inl hk));have g0:∀(l:tLN) i,i<ee l->l.getD i 0∈l:=λl i hi=>by rw[List.getD_eq_getElem?_getD,List.getElem?_eq_getElem hi];exact ar _
 have g1:∀(l:tLV) i,i<ee l->l.getD i kh∈l:=λl i hi=>by rw[List.getD_eq_getElem?_getD,List.getElem?_eq_getElem hi];exact ar _
 refine⟨h.blk.ae m (q _ (.inl rfl)),h.lf,h.yw.ae m (λk hk=>q _ (.inr (.inr (.inl hk)))),λi a b=>(h.code i a b).ae m (q _ (.inr (.inr (.inr (.inl (ar b)))))),h.tab,h.md.step m hS,?_,?_,h.gok,h.mok,h.own,h.base,h.OJ⟩
 ·exact⟨h.Bj.lr,h.Bj.lv,λi hi=>(h.Bj.blk i hi).ae m (qf _ (.inl (g0 _ _ (by rw[h.Bj.lr];exact hi)))),λi hi=>(h.Bj.sl i hi).ae m (λk hk=>qf _ (.inr (.inl ⟨_,g1 _ _ (by rw[h.Bj.lv];exact hi),hk⟩))),h.Bj.inj,h.Bj.Sb⟩
 ·exact⟨h.maps.lm,h.maps.le,h.maps.Eo.ae m (λk hk=>q _ (.inr (.inr (.inr (.inr hk))))),λi hi=>(h.maps.blk i hi).ae m (qf _ (.inr (.inr (.inl (g0 _ _ (by rw[h.maps.lm];exact hi)))))),λi hi=>(h.maps.sl i hi).ae m (λk hk=>qf _ (.inr (.inr (.inr ⟨_,g1 _ _ (by rw[h.maps.le];exact hi),hk⟩)))),h.maps.inj,h.maps.aaj⟩
theorem eU.ae{S:Nat->Prop}(h:eU c0 c1 wT tv bs mp vF fs cg a gs ms w)(m:aa S w w')(hS:∀k,S k->wT.heap.size<=k/\¬Whole mp vF cg a k):eU c0 c1 wT tv bs mp vF fs cg a gs ms w':=h.adK m (λk hk hs=>by have:=(hS k hs).1;omega) (λk hs=>(hS k hs).2)
theorem eU.quiet(h:eU c0 c1 wT tv bs mp vF fs cg a gs ms w)(m:aa ah w w'):eU c0 c1 wT tv bs mp vF fs cg a gs ms w':=h.ae m (λ_ h=>h.elim)
theorem eU.turn(h:eU c0 c1 wT tv bs mp vF fs cg a gs ms w)(v:eM):eU v c1 wT tv bs mp vF fs cg a gs ms (w.setCell ⟨mp,0,ez⟩ v):=by have m:aa (Only mp) w (w.setCell ⟨mp,0,ez⟩ v):=aA.bz 0 v;have mT:=kJ.of m (λk hk=>⟨79,List.mem_singleton.2 rfl,by have e:k=mp:=hk;subst e;exact h.blk.ty⟩);refine⟨h.blk.set 0 v,h.lf,h.yw.fV mT (by decide),λi a b=>(h.code i a b).ae mT ((h.code i a b).ty.nt (by decide)),h.tab,h.md.step m (λi hi hs=>by have:=h.OJ;rw[show i=mp from hs]at hi;omega),h.Bj.fV mT (by decide) (by decide),h.maps.fV mT (by decide) (by decide) (by decide),h.gok,h.mok,h.own,h.base,h.OJ⟩
theorem eU.cd(h:eU c0 c1 wT tv bs mp vF fs cg a gs ms w){F:Nat->Prop}(hF:∀k,F k->pK a k\/w.heap.size<=k):AA F wT tv bs mp vF fs cg w:=by obtain⟨n1,n2,n3⟩:=h.adJ;obtain⟨l1,l2,l3⟩:=h.aaV;refine⟨⟨c0,c1,a.vM,h.blk⟩,h.lf,h.yw,h.code,h.tab,h.md,λhk=>(hF _ hk).elim n1 (λe=>by omega),λk hk hf=>(hF _ hf).elim (n2 k hk) (λe=>by have:=l2 k hk;omega),λg hg hf=>(hF _ hf).elim (n3 g hg) (λe=>by have:=l3 g hg;omega),λk hk=>(hF k hk).elim (h.base k) (λe=>an h.md.size e)⟩
end
def wz(r:WT)(vL:eM):tAV:=#[vI r.trap,eI (T r.fn),vI r.slot,vU r.r0,eI (strOf r.inp),vL,vI r.used]
def sG:tAV:=#[vI 0,eI ⟨#[]⟩,vI 0,vU 0,eI ⟨#[]⟩,vN,vI 0]
section
variable {c0 c1 : eM} {wT : World} {tv : eM} {bs : List Nat} {mp : Nat} {vF : eM} {fs : List cZ} {cg : List Nat} {a : Ad} {gs : List (List Nat)} {ms : List BB} {w w' : World} {F : Nat -> Prop}
theorem eU.fresh(h:eU c0 c1 wT tv bs mp vF fs cg a gs ms w)(k:Nat)(hk:w.heap.size<=k):wT.heap.size<=k/\¬Whole mp vF cg a k:=by
 obtain⟨l1,l2,l3⟩:=h.aaV;refine⟨an h.md.size hk,λhw=>?_⟩;rcases hw with rfl|hw|hw|hw|hw
 ·omega
 ·have:=h.aap hw;omega
 ·have:=l2 k hw;omega
 ·have:=l3 k hw;omega
 ·have:=h.maps.Eo.lt k hw;omega
theorem yx.adL{rb:tLN}{vs:tLV}(h:yx w rb vs gs):(∀x∈rb,x<w.heap.size)/\∀v∈vs,∀k,v.ownBlock=eC k->k<w.heap.size:=by
 refine⟨λx hx=>?_,λv hv k hk=>?_⟩
 ·obtain⟨i,hi,rfl⟩:=qy 0 hx;exact(h.blk i (by rw[<-h.lr];exact hi)).lt
 ·obtain⟨i,hi,rfl⟩:=qy kh hv;exact(h.sl i (by rw[<-h.lv];exact hi)).lt k hk
theorem aaq(fs:List cZ)(d:Nat×bZ)(h:d.1=0)(vL:eM):#[vI 0,eI ByteArray.empty,vI 0,vU d.2.r.r0,eI (strOf (d.2.gs.getD d.2.r.inp [])),vL,vI d.2.r.used]=wz (uV fs d) vL:=by unfold uV;rw[iP9 h];rfl
theorem SK(fs:List cZ)(d:Nat×bZ)(h:d.1≠0)(vL:eM):#[vI d.1,eI (T (kV fs d.2.r.top.fn).name),vI d.2.r.top.slot,vU d.2.r.r0,eI (strOf (d.2.gs.getD d.2.r.inp [])),vL,vI d.2.r.used]=wz (uV fs d) vL:=by unfold uV;rw[iN9 h];rfl
theorem Xn(fs:List cZ)(d:Nat×bZ):(uV fs d).log=d.2.r.log:=by unfold uV;split<;>rfl
theorem Kq(r:WT)(o:Option Addr)(n c:Nat):(wz r (eK o n c)).all (·.oneCell')=eJ:=by unfold wz;simp[Value.oneCell']
theorem Xo(h:eU c0 c1 wT tv bs mp vF fs cg a gs ms w)(m:aa ah w w'){fn:Nat}{inp:tBA}{fuel:Int}{b R S:Nat}{v1 v2 vC:eM}(hr:aV w' b (a.rb++[R]++[S]) a.mb a.vM vC (vN) (Fu fn (min (max fuel 0) 5000).toNat (ee gs) (nW inp).size))(hg:yx w' (a.rb++[R]++[S]) (a.vs++[v1]++[v2]) (gs++[kF (nW inp)]++[dx]))(hF:∀k,pK a k->F k)(hb:F b)(hR:F R)(hS:F S)(h1:∀k,v1.ownBlock=eC k->F k)(h2:∀k,v2.ownBlock=eC k->F k)(hC:∀k,vC.ownBlock=eC k->F k):jk F w' b ⟨a.rb++[R]++[S],a.mb,a.vs++[v1]++[v2],a.ve,a.vM,vC,vN⟩ (uW gs ms fn inp fuel):=by
 have hin:∀m∈ms,m.In (ee a.rb):=λm hm e he=>by rw[h.Bj.lr];exact((h.mok m hm).er e he).1
 refine⟨hr,hg,Sl.nil _ _ _,?_,hb,hC,λk hk=>(by cases hk),?_,?_,λx hx=>hF x (.inr (.inr (.inl hx))),λv hv k hk=>hF k (.inr (.inr (.inr ⟨v,hv,hk⟩)))⟩
 ·exact((h.maps.quiet m).grow R hin).grow S (λm hm e he=>by rw[List.length_append];have:=hin m hm e he;omega)
 ·intro x hx;simp only[List.mem_append,cj]at hx;rcases hx with(hx|rfl)|rfl
  ·exact hF x (.inl hx)
  ·exact hR
  ·exact hS
 ·intro v hv k hk;simp only[List.mem_append,cj]at hv;rcases hv with(hv|rfl)|rfl
  ·exact hF k (.inr (.inl ⟨v,hv,hk⟩))
  ·exact h1 k hk
  ·exact h2 k hk
theorem aar(h:eU c0 c1 wT tv bs mp vF fs cg a gs ms w)(hF:∀k,F k->pK a k\/w.heap.size<=k)(m:aa F w w'){b:Nat}{a':Ad}{s:bZ}(hs:jk F w' b a' s)(ho:dD (ee fs) s)(ev:a'.vM=a.vM):eU c0 c1 wT tv bs mp vF fs cg a' s.gs s.ms w'/\∀k,pK a' k->F k:=by
 have hc:=h.cd hF
 have hf:∀k,pK a' k->F k:=λk hk=>by
  rcases hk with hk |⟨v,hv,hk⟩|hk |⟨v,hv,hk⟩
  ·exact hs.fr k hk
  ·exact hs.fv v hv k hk
  ·exact hs.fm k hk
  ·exact hs.fe v hv k hk
 have hc':=hc.ae m;refine⟨⟨by rw[ev];exact h.blk.ae m hc.nM,hc'.lf,hc'.yw,hc'.code,hc'.tab,hc'.md,hs.Bj,hs.maps,ho.gs,ho.maps,?_,λk hk=>hc.base k (hf k hk),h.OJ⟩,hf⟩;have:=ho.own;unfold Nc at this;exact(List.nodup_append.1 (List.nodup_cons.1 this).2).2.1
end
def Hr(c1:eM)(wT:tW)(tv:eM)(bs:tLN)(mp:Nat)(vF:eM)(fs:List cZ)(cg:tLN)(a:Ad)(w:tW)(d:WT×List tLN×List BB)(e:Ending)(w':tW):Prop :=
 ∃vL a',e=fR (fW (wz d.1 vL))/\Sl w' 53 1 vL (ee d.1.log) (WR d.1.log)/\eU (vJ 0) c1 wT tv bs mp vF fs cg a' d.2.1 d.2.2 w'/\a'.mb=a.mb/\a'.vM=a.vM/\(∀k,pK a' k->pK a k\/w.heap.size<=k)/\aa (λk=>k=mp\/pK a k) w w'
theorem Xp{c1:eM}{wT:tW}{tv:eM}{bs:tLN}{mp:Nat}{vF:eM}{fs:List cZ}{cg:tLN}{a:Ad}{gs:List tLN}{ms:List BB}{w:tW}(h:eU (vJ 0) c1 wT tv bs mp vF fs cg a gs ms w)(hco:sw fs (ee ms))(hH:∀F b,OE F b fs)(hK:zw fs)(hn:ee fs<=1000)(nm:tLB)(inp:tBA)(hs:inp.size<=9223372036854775807)(fuel:Int)(hf:-9223372036854775808<=fuel/\fuel<=9223372036854775807):fL prog 18 #[pt mp,eI (T nm),eI inp,vI fuel] w λe w'=>Hr c1 wT tv bs mp vF fs cg a w (zo fs gs ms nm inp fuel) e w':=by
 have hmf:∀(fn:Fn) (first cap:tAV) (w:tW),(Instr.makeFunc fn first cap).run prog w=.ok (.func fn first cap) w:=λ_ _ _ _=>rfl;have HH:=ai h;have Oc:=ai h.blk.lt;have HFR:=ai h.fresh;clear h;have dB:af (aa ah w (((w.alloc (eR #[pt mp] 61)).alloc (eR #[eI (T nm)] 9)).alloc (eR sG 56))):=(((aa.refl ah w).alloc _).alloc _).alloc _;have iH:af (ak (((w.alloc (eR #[pt mp] 61)).alloc (eR #[eI (T nm)] 9)).alloc (eR sG 56)) w.heap.size #[pt mp] 61):=(ak.new w _ _).ae (((aa.refl ah _).alloc _).alloc _) id;have jr:af (ak (((w.alloc (eR #[pt mp] 61)).alloc (eR #[eI (T nm)] 9)).alloc (eR sG 56)) (w.heap.size+1) #[eI (T nm)] 9):=by have:=(ak.new (w.alloc (eR #[pt mp] 61)) #[eI (T nm)] 9).ae ((aa.refl ah _).alloc (eR sG 56)) id;rw[World.size_alloc]at this;exact this
 have ZV:af (ak (((w.alloc (eR #[pt mp] 61)).alloc (eR #[eI (T nm)] 9)).alloc (eR sG 56)) (w.heap.size+1+1) sG 56):=by have:=ak.new ((w.alloc (eR #[pt mp] 61)).alloc (eR #[eI (T nm)] 9)) sG 56;rw[World.size_alloc,World.size_alloc]at this;exact this
 go_enter_defers func18,ntmps18;go_upto_region 1 with fail;have hz:w.heap.size+1+1=w.heap.size+2:=rfl;have HZR:af (sG=#[vI 0,eI ⟨#[]⟩,vI 0,vU 0,eI ⟨#[]⟩,vN,vI 0]):=rfl;rw[<-HZR.o];generalize((w.alloc (eR #[pt mp] 61)).alloc (eR #[eI (T nm)] 9)).alloc (eR sG 56)=W1 at *;have aas:=ai (HH.o.quiet dB.o);obtain⟨oF,cF,qi,_⟩:=HH.o.yw.view;obtain⟨oM,cM,Ol,_⟩:=HH.o.maps.Eo.view;subst qi;have HVM:=ai Ol;clear Ol hz;have HG8:af (w.heap.size<w.heap.size+1+1):=by unfold af;omega
 have HG5:af (w.heap.size<w.heap.size+1):=by unfold af;omega
 have HG4:af (w.heap.size<=w.heap.size):=ao _;have afC:af (w.heap.size+1+1≠w.heap.size+1):=by unfold af;omega
 generalize w.heap.size+1+1=g8 at *;generalize w.heap.size+1=g5 at *;have x4:=iH.o.cell 0;have GH:=ai (Go.MuLone.lock_free Kl ⟨mp,0,ez⟩ W1 (aas.o.blk.cell 0) (aas.o.blk.frozen 0));go_upto_region 1 with fail;go_wp2_with fail;refine GH.o.mono ?_;rintro e w2 ⟨rfl,rfl⟩;clear x4 GH;have Xq:af (eU (vJ 1) c1 wT tv bs mp (eK oF (ee fs) cF) fs cg a gs ms (W1.setCell ⟨mp,0,ez⟩ (vJ 1))):=aas.o.turn _;have dV:af (aa (λk=>k=mp\/pK a k) w (W1.setCell ⟨mp,0,ez⟩ (vJ 1))):=(dB.o.mono (λ_ _ h=>h.elim)).trans (((aa.refl (Only mp) W1).bz 0 _).mono (λ_ _ h=>.inl h));have ab5:af (ak (W1.setCell ⟨mp,0,ez⟩ (vJ 1)) w.heap.size #[pt mp] 61):=iH.o.setOther (a:=⟨mp,0,ez⟩) (by have:=Oc.o;simp only;omega) _;have adM:af (ak (W1.setCell ⟨mp,0,ez⟩ (vJ 1)) g5 #[eI (T nm)] 9):=jr.o.setOther (a:=⟨mp,0,ez⟩) (by have:=Oc.o;have:=HG5.o;simp only;omega) _;have adN:af (ak (W1.setCell ⟨mp,0,ez⟩ (vJ 1)) g8 sG 56):=ZV.o.setOther (a:=⟨mp,0,ez⟩) (by have:=Oc.o;have:=HG8.o;simp only;omega) _;clear aas dB iH jr ZV;generalize W1.setCell ⟨mp,0,ez⟩ (vJ 1)=W2 at *;have x4:=ab5.o.cell 0;have y2:=Xq.o.blk.c2;have HIX:=ai (Nr W2 fs cg _ Xq.o.lf hn Xq.o.yw g5 nm adM.o);go_upto_region 3 with fail;go_wp2_with fail;refine HIX.o.mono ?_;rintro e w3 ⟨rfl,m3⟩;clear x4 y2 HIX;have Er:=ai (Xq.o.quiet m3);have eH:=ai (dV.o.trans (m3.mono (λ_ _ h=>h.elim)));have aat:=ai (ab5.o.ae m3 id);have aau:=ai (adN.o.ae m3 id);clear m3 Xq dV ab5 adM adN;cases hix:zn fs nm with
 |none =>
  have HI:af (Hq fs nm=-1):=by unfold af Hq;rw[hix]
  have XU:af (zo fs gs ms nm inp fuel=({},gs,ms)):=by unfold af zo;rw[hix]
  rw[HI.o];have HZ1:af (sG.all (·.oneCell')=eJ):=by unfold af sG;simp[Value.oneCell']
  clear HI HH hix afC HVM;go_upto_region 5 with fail;go_wp2_with (rw[<-HZR.o];refine eY rfl 56 (.tmp 8) (.tmp 26) rfl g8 sG rfl rfl 56 _ aau.o (by kernel_rfl) rfl HZ1.o ?_;intro W4 hB4 UQ);have iH:=ai hB4;have ab6:=ai (Er.o.ae UQ (λk hk=>by rw[show k=g8 from hk];exact HFR.o g8 (cy HG8.o)));have jh:=ai (eH.o.step UQ (λk hk e=>by have h1:k=g8:=e;have:=HG8.o;omega));refine tD (f:=21) (args:=#[vP mp]) (by simp) (by simp[go_sem]) ?_;refine(Go.MuLone.unlock_deferred Kl ⟨mp,0,ez⟩ .returning W4 (ab6.o.blk.cell 0) (ab6.o.blk.frozen 0)).mono ?_;rintro e u' w5 ⟨rfl,rfl,rfl⟩;have jr:af (ak (W4.setCell ⟨mp,0,ez⟩ (vJ 0)) g8 sG 56):=iH.o.setOther (a:=⟨mp,0,ez⟩) (by have:=Oc.o;have:=HG8.o;simp only;omega) _;refine⟨_,mz results18 _ _ g8 56 _ (0,0) _ rfl jr.o underlying56 rfl (by kernel_rfl),?_⟩;rw[XU.o];exact⟨vN,a,rfl,Sl.nil _ _ _,ab6.o.turn _,rfl,rfl,λk hk=>.inl hk,jh.o.trans (((aa.refl (Only mp) W4).bz 0 _).mono (λ_ _ h=>.inl h))⟩
 |some fn =>
  have HI:af (Hq fs nm=(fn:Int)):=by unfold af Hq;rw[hix]
  have XU:af (zo fs gs ms nm inp fuel=(uV fs (He fs gs ms fn inp fuel),(He fs gs ms fn inp fuel).2.gs,(He fs gs ms fn inp fuel).2.ms)):=by unfold af zo;rw[hix]
  have hfn:=Xm hix;rw[HI.o];clear HI hix HH HZR;have x4:=aat.o.cell 0;have y3:w3.cell? ⟨mp,3,ez⟩=eC (eK oM (ee ms) cM):=by rw[<-HVM.o];exact Er.o.blk.cell 3
  have HST:=ai (Sh w3 a.rb a.mb a.vs gs Er.o.Bj oM (ee ms) cM fn inp hs fuel hf);have HFN:=ai hfn;go_upto_region 6 with fail;go_wp2_with fail;refine HST.o.mono ?_;rintro e w4 ⟨b,R,S,v1,v2,vC,rfl,hr4,hg4,m4,lb,lC,lR,lS,l1,l2⟩;clear x4 y3 HST;have aav:af (ak (w4.alloc (eR #[vP b] 118)) w4.heap.size #[pt b] 118):=ak.new w4 _ _;have m5:aa ah w4 (w4.alloc (eR #[vP b] 118)):=(aa.refl ah w4).alloc _;have jK:=ai m5;have afD:=ai aav.o.lt;have sW:=ai hr4;have ab7:=ai hg4;have ab8:=ai m4;have HLO:af (w3.heap.size<=b/\(∀k,vC.ownBlock=eC k->w3.heap.size<=k)/\w3.heap.size<=R/\w3.heap.size<=S/\(∀k,v1.ownBlock=eC k->w3.heap.size<=k)/\(∀k,v2.ownBlock=eC k->w3.heap.size<=k)):=⟨lb,lC,lR,lS,l1,l2⟩
  clear m5 hr4 hg4 m4 lb lC lR lS l1 l2;go_upto_region 7 with fail;generalize w4.alloc (eR #[vP b] 118)=W5 at *;have HW3:=ai aat.o.lt;have HW8:=ai aau.o.lt;have Hy:=ai ab8.o.size;obtain⟨F,hF⟩:∃F:Nat->Prop,F=λk=>pK a k\/(w3.heap.size<=k/\k≠w4.heap.size):=⟨_,rfl⟩
  have HF:af (∀k,F k↔pK a k\/(w3.heap.size<=k/\k≠w4.heap.size)):=λk=>by rw[hF]
  clear hF;have HFF:af (∀k,F k->pK a k\/w3.heap.size<=k):=λk hk=>((HF.o k).1 hk).elim .inl (λh=>.inr h.1);have xu:af (∀k,w.heap.size<=k->¬pK a k):=λk hk h=>(HFR.o k hk).2 (.inr (.inl h))
  have DM:af (¬F w.heap.size/\¬F g8/\¬F w4.heap.size):=by
   have h1:=HW3.o;have h2:=HW8.o;have h3:=HG8.o;have h4:=Hy.o;refine⟨λh=>?_,λh=>?_,λh=>?_⟩
   ·exact((HF.o _).1 h).elim (xu.o _ (ao _)) (λe=>by omega)
   ·exact((HF.o _).1 h).elim (xu.o _ (cy h3)) (λe=>by omega)
   ·exact((HF.o _).1 h).elim (xu.o _ (by omega)) (λe=>e.2 rfl)
  have HMQ:=ai (ab8.o.trans jK.o);have Yd:af (jk F W5 b ⟨a.rb++[R]++[S],a.mb,a.vs++[v1]++[v2],a.ve,a.vM,vC,vN⟩ (uW gs ms fn inp fuel)):=by obtain⟨lb,lC,lR,lS,l1,l2⟩:=HLO.o;obtain⟨q1,q2⟩:=ab7.o.adL;have up:=λk (h1:w3.heap.size<=k) (h2:k<w4.heap.size)=>(HF.o k).2 (.inr ⟨h1,by omega⟩);have hr:=sW.o.quiet jK.o;rw[<-HVM.o]at hr;exact Xo Er.o HMQ.o hr (ab7.o.quiet jK.o) (λk hk=>(HF.o k).2 (.inl hk)) (up b lb sW.o.blk.lt) (up R lR (q1 R (by simp))) (up S lS (q1 S (by simp))) (λk hk=>up k (l1 k hk) (q2 v1 (by simp) k hk)) (λk hk=>up k (l2 k hk) (q2 v2 (by simp) k hk)) (λk hk=>up k (lC k hk) (sW.o.calls.lt k hk))
  have hso:=Xk HFN.o Er.o.gok Er.o.mok Er.o.own inp fuel;have hsp:=Xl hco HFN.o gs ms inp fuel;have ab9:=ai ((Er.o.cd HFF.o).quiet HMQ.o)
  have HFO:af (fL prog 42 #[pt mp,pt b] W5 λe w'=>gX F W5 b ⟨a.rb++[R]++[S],a.mb,a.vs++[v1]++[v2],a.ve,a.vM,vC,vN⟩ (He fs gs ms fn inp fuel) e w') :=
   Nl W5 b _ (uW gs ms fn inp fuel) fs Yd.o hso (.inr hsp) (λk hk=>(HF.o k).2 (.inr (by have:=Hy.o;have:=afD.o;omega))) (cb _) (by show Ov fuel<=5000;unfold Ov;omega) hco wT tv bs mp _ cg ab9.o (hH F b) hK
  have AY:af (dD (ee fs) (He fs gs ms fn inp fuel).2):=(FC hco hK _ _ hso rfl (.inr hsp)).1;have aca:=ai (aat.o.ae HMQ.o id);have adO:=ai (aau.o.ae HMQ.o id);clear Yd hso hsp aat aau sW ab7 HLO ab8 jK hco hH hK hs hf hn;generalize He fs gs ms fn inp fuel=d at *;generalize w4.heap.size=g10 at *;have x4:=aca.o.cell 0;have x10:=aav.o.cell 0;go_upto_region 8 with fail;go_wp2_with fail;refine HFO.o.mono ?_;rintro e w6 ⟨he6,m6,a6,hS6,em6,ev6⟩;clear x4 x10 HFO;have acb:=ai ((HMQ.o.mono (λ_ _ h=>h.elim)).trans m6);obtain⟨adP,hFt⟩:=aar Er.o HFF.o acb.o hS6 AY.o ev6;have Kr:=ai adP;have HFT:=ai (λk hk=>(HFF.o k (hFt k hk)).imp id (λh=>an (cy HW3.o) h));have yq:=ai (eH.o.trans (acb.o.mono (λk hlt hk=>(HFF.o k hk).elim .inr (λh=>absurd hlt (Nat.not_lt.2 h)))));have adQ:=ai (ab9.o.ae m6);have adR:=ai (aca.o.ae m6 DM.o.1);have aaw:=ai (adO.o.ae m6 DM.o.2.1);have Xr:=ai (aav.o.ae m6 DM.o.2.2);have I4:=ai hS6;have HE6:af (a6.mb=a.mb/\a6.vM=a.vM):=⟨em6,ev6⟩
  clear adP hFt m6 hS6 em6 ev6 ab9 aca adO aav eH acb Er HMQ HFF DM xu;obtain⟨oL,cL,Ni,_⟩:=I4.o.log.view;have Q9:af ((wz (uV fs d) a6.vL).all (·.oneCell')=eJ):=by unfold af;rw[Ni];exact Kq _ _ _ _
  have TN:af ((wz (uV fs d) a6.vL).size=7):=rfl;have HLG:af (Sl w6 53 1 a6.vL (ee (uV fs d).log) (WR (uV fs d).log)):=by unfold af;rw[Xn];exact I4.o.log
  have sV:af (∀W (tm:tAV),tm.getD 8 kh=pt g8->aa (Only g8) w6 W->ak W g8 (wz (uV fs d) a6.vL) 56->Leaves prog f18 tm (λe w'=>Hr c1 wT tv bs mp (eK oF (ee fs) cF) fs cg a w (zo fs gs ms nm inp fuel) e w') [{target:=.fn (.func 21) #[],args:=#[vP mp]}] .returning W):=λW tm htm m7 hB7=>by
   have acd:=Kr.o.ae m7 (λk hk=>by
    have e:k=g8:=hk;subst e;refine⟨(HFR.o k (cy HG8.o)).1,λhw=>?_⟩;have ht:=aaw.o.ty;rcases hw with rfl|hw|hw|hw|hw
    ·have:=Oc.o;have:=HG8.o;omega
    ·exact Kr.o.zx ht (by decide) hw
    ·exact absurd (ht.one (Kr.o.yw.ty hw)) (by decide)
    ·obtain⟨i,hi,rfl⟩:=ab hw;exact absurd (ht.one (Kr.o.code i (by rw[<-Kr.o.lf];exact hi) hi).ty) (by decide)
    ·exact absurd (ht.one (Kr.o.maps.Eo.ty hw)) (by decide))
   refine tD (f:=21) (args:=#[vP mp]) (by simp) (by simp[go_sem]) ?_;refine(Go.MuLone.unlock_deferred Kl ⟨mp,0,ez⟩ .returning W (acd.blk.cell 0) (acd.blk.frozen 0)).mono ?_;rintro e u' w5 ⟨rfl,rfl,rfl⟩;have ZV:ak (W.setCell ⟨mp,0,ez⟩ (vJ 0)) g8 (wz (uV fs d) a6.vL) 56:=hB7.setOther (a:=⟨mp,0,ez⟩) (by have:=Oc.o;have:=HG8.o;simp only;omega) _;refine⟨_,mz results18 _ _ g8 56 _ (0,0) _ htm ZV underlying56 rfl (by kernel_rfl),?_⟩;rw[XU.o];have mU:aa (Only mp) W (W.setCell ⟨mp,0,ez⟩ (vJ 0)):=(aa.refl (Only mp) W).bz 0 _;refine⟨a6.vL,a6,rfl,?_,acd.turn _,HE6.o.1,HE6.o.2,HFT.o,(yq.o.step m7 (λk hk e=>by have h1:k=g8:=e;have:=HG8.o;omega)).trans (mU.mono (λ_ _ h=>.inl h))⟩;refine(HLG.o.ae m7 (λk hk e=>?_)).ae mU (λk hk e=>?_)
   ·have h1:k=g8:=e;subst h1;exact absurd (aaw.o.ty.one (HLG.o.ty hk)) (by decide)
   ·have h1:k=mp:=e;subst h1;exact absurd (Kr.o.blk.ty.one (HLG.o.ty hk)) (by decide)
  by_cases h0:d.1=0
  ·rw[iP9 h0]at he6;subst he6;have K1:af (fL prog 43 #[pt b] w6 λe w'=>e=fR (fW (wz (uV fs d) a6.vL))/\aa ah w6 w'):=by rw[<-aaq fs d h0];exact FB I4.o AY.o
   have x10:=Xr.o.cell 0;clear XU HLG Kr HFT yq adQ adR Xr I4 HE6 AY Ni;generalize wz (uV fs d) a6.vL=cs at *;go_upto_region 9 with fail;go_wp2_with fail;refine K1.o.mono ?_;rintro e w7 ⟨rfl,m7⟩;have J4:=ai m7;have afE:=ai (aaw.o.ae m7 id);clear x10 K1 m7;go_wp2_with (refine eY rfl 56 (.tmp 8) (.tmp 40) rfl g8 cs rfl rfl 56 _ afE.o (by rw[TN.o];kernel_rfl) (by rw[TN.o];rfl) Q9.o ?_;intro W8 hB8 hm8);refine tD (f:=40) (args:=#[pt w.heap.size,pt g10,pt g8]) (by simp) (by simp[go_sem]) ?_;refine(SH W8 _ _ _).mono ?_;rintro e u' w9 ⟨rfl,rfl,rfl⟩;exact sV.o w9 _ rfl ((J4.o.mono (λ_ _ h=>h.elim)).trans hm8) hB8
  ·rw[iN9 h0]at he6;subst he6;have HTS:af (fL prog 41 #[pt mp,pt b,vI d.1] w6 λe w'=>e=fR (fW (wz (uV fs d) a6.vL))/\aa ah w6 w'):=by rw[<-SK fs d h0];exact Nn I4.o AY.o adQ.o d.1
   refine tD (f:=40) (args:=#[pt w.heap.size,pt g10,pt g8]) (by simp) (by simp[go_sem]) ?_;refine(SI w6 w.heap.size g10 g8 mp b d.1 _ sG adR.o Xr.o aaw.o rfl TN.o Q9.o HTS.o).mono ?_;rintro e u' w9 ⟨rfl,rfl,hB9,m9⟩;exact sV.o w9 _ rfl m9 hB9
def Xt(vM:eM)(mb:tLN)(n:Nat):Ad:=⟨[],mb,[],b5 n (vN),vM,vN,vN⟩
def FD(m:aW):Prop:=(1<=m.key/\m.key<=8)/\(1<=m.value/\m.value<=16)/\m.entries<=8
theorem oh.mch{wT:tW}{tv:eM}{bs:tLN}{b:Nat}{vF vM:eM}{fs:List cZ}{gs:tLN}{ms:List aW}{mb:tLN}{w:tW}(h:oh wT bs b vF vM fs gs ms mb w)(ht:aT 0 wT tv bs ax)(hm:∀m∈ms,FD m):eU (vJ 0) (.int .u32 0) wT tv bs b vF fs gs (Xt vM mb (ee ms)) [] (ji ms) w:=by
 have hl:ee (ji ms)=ee ms:=by unfold ji;rw[List.length_map]
 have hve:∀i,i<ee ms->(b5 (ee ms) (Value.slice ez 0 0)).getD i kh=vN:=λi hi=>by rw[List.getD_eq_getElem?_getD,List.getElem?_replicate_of_lt hi];rfl
 have hnm:∀i (hi:i<ee ms),(ji ms).getD i zl=⟨ms[i].name,ms[i].key,ms[i].value,ms[i].entries,[]⟩:=λi hi=>by unfold ji;rw[List.getD_eq_getElem?_getD,List.getElem?_map,List.getElem?_eq_getElem hi];rfl
 have hmb:∀i (hi:i<ee mb),mb.getD i 0=mb[i]:=λi hi=>by rw[List.getD_eq_getElem?_getD,List.getElem?_eq_getElem hi];rfl
 refine⟨h.blk,h.lf,h.yw,h.code,ht,h.md.mono (λ_ _ h=>h.elim),⟨rfl,rfl,λi hi=>absurd hi (bt _),λi hi=>absurd hi (bt _),λi j hi=>absurd hi (bt _),λi j k hi=>absurd hi (bt _)⟩,⟨?_,?_,?_,?_,?_,?_,?_⟩,λg hg=>(by cases hg),?_,?_,?_,h.lo⟩
 ·rw[hl];exact h.lm
 ·rw[hl];exact List.length_replicate
 ·rw[hl];exact h.Eo
 ·intro i hi;rw[hl]at hi;have hi':i<ee mb:=by rw[h.lm];exact hi
  rw[hnm i hi];show ak w (mb.getD i 0) #[_,_,_,_,(b5 (ee ms) (Value.slice ez 0 0)).getD i kh] _
  rw[hve i hi,hmb i hi'];exact h.maps i hi hi'
 ·intro i hi;rw[hl]at hi;rw[hnm i hi];show Sl w _ _ ((b5 (ee ms) (Value.slice ez 0 0)).getD i kh) _ _
  rw[hve i hi];exact Sl.nil _ _ _
 ·intro i j hi hj e;rw[hl]at hi hj;have hi':i<ee mb:=by rw[h.lm];exact hi
  have hj':j<ee mb:=by rw[h.lm];exact hj
  have e':mb.getD i 0=mb.getD j 0:=e;rw[hmb i hi',hmb j hj']at e';exact(List.getElem_inj h.nd).1 e'
 ·intro i j k hi hj e;rw[hl]at hi;have e':((b5 (ee ms) (Value.slice ez 0 0)).getD i kh).ownBlock=eC k:=e;rw[hve i hi]at e';cases e'
 ·intro m hm';unfold ji at hm';obtain⟨p,hp,rfl⟩:=List.mem_map.1 hm';obtain⟨h1,h2,h3⟩:=hm p hp;exact⟨h1,h2,h3,cb _,(λe he=>by cases he),(λe he=>by cases he),List.Pairwise.nil⟩
 ·have:lg (ji ms)=[]:=by unfold lg ji;rw[List.flatMap_map];exact List.flatMap_eq_nil_iff.2 (λx _=>rfl)
  rw[this];exact List.nodup_nil
 ·intro k hk;rcases hk with hk |⟨v,hv,hk⟩|hk |⟨v,hv,hk⟩
  ·cases hk
  ·cases hv
  ·exact h.ownB k hk
  ·rw[cx hv]at hk;cases hk
def mQ(w:tW)(d:List aW×List cZ×PR)(e:Ending)(w':tW):Prop :=
 if d.2.2.bad then e=fR (gb #[vO,vI 7])/\aa ah w w'
 else ∃sb bs b vF vM gs mb tv wT,e=fR (gb #[pt sb,vI 0])/\aT 0 wT tv bs ax/\aa ah w wT/\(∀f∈d.2.1,∀x∈f.code,kz x)/\oh wT bs b vF vM d.2.1 gs d.1 mb w'/\ak w' sb #[pt b] 63/\w.heap.size<=sb/\aa ah w w'
theorem FE(w:tW)(s:tBA)(d:List aW×List cZ×PR)(h:fL prog 17 #[eI s] w λe w'=>zk w d e w'):fL prog 10 #[eI s] w λe w'=>mQ w d e w':=by
 have HL:=ai h;clear h;unfold zk at HL;go_in;go_wp2_with fail;refine HL.o.mono ?_;intro e w1 hp;by_cases hb:d.2.2.bad=eJ
 ·rw[iP9 hb]at hp;obtain⟨rfl,m1⟩:=hp;have HM:=ai m1;clear m1 HL;go_wp2_with fail;go_ret2;unfold mQ;rw[iP9 hb];exact⟨rfl,HM.o⟩
 ·rw[iN9 hb]at hp;obtain⟨bs,b,vF,vM,gs,mb,tv,wT,rfl,hO,mT,hP,hA⟩:=hp;have HO:=ai hO;have TI:=ai mT;have HP:=ai hP;have HA:=ai hA;have HM:=ai (mT.trans hA.md);clear hO mT hP hA HL;go_wp2_with fail;go_ret2;unfold mQ;rw[iN9 hb];have mA:aa ah w1 (w1.alloc (eR #[pt b] 63)):=aq;refine⟨w1.heap.size,bs,b,vF,vM,gs,mb,tv,wT,rfl,HO.o,TI.o,HP.o,HA.o.quiet mA,ak.new w1 _ _,HM.o.size,HM.o.trans mA⟩
theorem Xu{c1:eM}{wT:tW}{tv:eM}{bs:tLN}{mp:Nat}{vF:eM}{fs:List cZ}{cg:tLN}{a:Ad}{gs:List tLN}{ms:List BB}{w:tW}(h:eU (vJ 0) c1 wT tv bs mp vF fs cg a gs ms w)(sb:Nat)(hsb:ak w sb #[pt mp] 63)(hco:sw fs (ee ms))(hH:∀F b,OE F b fs)(hK:zw fs)(hn:ee fs<=1000)(nm:tLB)(inp:tBA)(hs:inp.size<=9223372036854775807)(fuel:Int)(hf:-9223372036854775808<=fuel/\fuel<=9223372036854775807):fL prog 11 #[pt sb,eI (T nm),eI inp,vI fuel] w λe w'=>Hr c1 wT tv bs mp vF fs cg a w (zo fs gs ms nm inp fuel) e w':=by
 have dB:af (aa ah w (w.alloc (eR sG 56))):=(aa.refl ah w).alloc _;have HB1:=ai (ak.new w sG 56);have HZR:af (sG=#[vI 0,eI ⟨#[]⟩,vI 0,vU 0,eI ⟨#[]⟩,vN,vI 0]):=rfl;have yJ:=ai (hsb.ae dB.o id);have HRN:=ai (Xp (h.quiet dB.o) hco hH hK hn nm inp hs fuel hf);have HFR:=ai h.fresh;clear h hsb hco hH hK hs hf hn;go_in;go_upto_region 1 with fail;rw[<-HZR.o];generalize w.alloc (eR sG 56)=W1 at *;have x0:=yJ.o.cell 0;go_wp2_with fail;refine HRN.o.mono ?_;rintro e w2 ⟨vL,a',rfl,hL,hMC,h1,h2,h3,m2⟩;obtain⟨oL,cL,Ni,_⟩:=hL.view;have Q9:af ((wz (zo fs gs ms nm inp fuel).1 vL).all (·.oneCell')=eJ):=by unfold af;rw[Ni];exact Kq _ _ _ _
 have TN:af ((wz (zo fs gs ms nm inp fuel).1 vL).size=7):=rfl;have HL:=ai hL;have HMC:=ai hMC;have HE:af (a'.mb=a.mb/\a'.vM=a.vM):=⟨h1,h2⟩
 have HF:=ai (λk hk=>(h3 k hk).imp id (λh=>an dB.o.size h));have HB2:=ai (HB1.o.ae m2 (λhk=>(HFR.o _ (ao _)).2 (hk.elim (λe=>.inl e) (λe=>.inr (.inl e)))));have dV:=ai ((dB.o.mono (λ_ _ h=>h.elim)).trans m2);have Ht:af (w.heap.size≠mp):=λe=>(HFR.o _ (ao _)).2 (.inl e);clear hL hMC h1 h2 h3 m2 Ni x0 HRN yJ HB1 dB;generalize hcs:wz (zo fs gs ms nm inp fuel).1 vL=cs at *;go_wp2_with (refine eY rfl 56 (.tmp 8) (.tmp 16) rfl w.heap.size cs rfl rfl 56 _ HB2.o (by rw[TN.o];kernel_rfl) (by rw[TN.o];rfl) Q9.o ?_;intro W3 hB3 yt);refine iz (mz results11 _ _ w.heap.size 56 _ (0,0) _ rfl hB3 underlying56 rfl (by rw[TN.o];kernel_rfl)) rfl ⟨vL,a',by rw[hcs],?_,HMC.o.ae yt (λk hk=>?_),HE.o.1,HE.o.2,HF.o,dV.o.step yt (λk hk e=>by have h1:k=w.heap.size:=e;omega)⟩
 ·exact HL.o.ae yt (λk hk e=>by have h1:k=w.heap.size:=e;subst h1;exact absurd (HB2.o.ty.one (HL.o.ty hk)) (by decide))
 ·have e:k=w.heap.size:=hk;subst e;refine⟨(HFR.o _ (ao _)).1,λhw=>?_⟩;have ht:=HB2.o.ty;rcases hw with hw|hw|hw|hw|hw
  ·exact Ht.o hw
  ·exact HMC.o.zx ht (by decide) hw
  ·exact absurd (ht.one (HMC.o.yw.ty hw)) (by decide)
  ·obtain⟨i,hi,hw⟩:=ab hw;rw[<-hw]at ht;exact absurd (ht.one (HMC.o.code i (by rw[<-HMC.o.lf];exact hi) hi).ty) (by decide)
  ·exact absurd (ht.one (HMC.o.maps.Eo.ty hw)) (by decide)
theorem wZ{c:Bool}{r:PR}(h:(az c r).bad=eE):r.bad=eE/\c=eJ:=by unfold az at h;simp only[Bool.or_eq_false_iff,Bool.not_eq_false']at h;exact h
theorem Xv{r:PR}(h:(oneP r).2.bad=eE):r.bad=eE:=by
 unfold oneP at h;obtain⟨l,bd⟩:=r;cases l with
 |nil=>cases h
 |cons b l=>exact h
theorem aaW{n:Nat}{r:PR}(h:(aR n r).2.bad=eE):r.bad=eE:=by
 unfold aR at h;by_cases hl:ee r.rest<n
 ·rw[iP9 hl]at h;cases h
 ·rw[iN9 hl]at h;exact h
theorem FH(n:Nat)(r:PR):ee (aR n r).1<=n:=by
 unfold aR;by_cases hl:ee r.rest<n
 ·rw[iP9 hl];simp only;omega
 ·rw[iN9 hl,de];omega
theorem aaX{r:PR}(h:(dJ r).2.bad=eE):r.bad=eE:=Xv (aaW (wZ h).1)
theorem Ns{most:Nat}{r:PR}(h:(bX most r).2.bad=eE):r.bad=eE/\1<=(bX most r).1/\(bX most r).1<=most:=by unfold bX at h ⊢;obtain⟨h1,hc⟩:=wZ h;simp only[bh,decide_eq_true_eq]at hc;exact⟨Xv h1,hc⟩
theorem mapM{r:PR}(h:(gZ r).2.bad=eE):r.bad=eE/\FD (gZ r).1:=by unfold gZ at h ⊢;simp only at h ⊢;obtain⟨h1,c1⟩:=Ns h;obtain⟨h2,c2⟩:=Ns h1;obtain⟨h3,c3⟩:=Ns h2;exact⟨aaX h3,c3,c2,c1.2⟩
theorem aaY:∀(k:Nat) (r:PR) (last:tLB) (acc:List aW),(mapsP k r last acc).2.bad=eE->(∀m∈acc,FD m)->r.bad=eE/\∀m∈(mapsP k r last acc).1,FD m
 |0,r,last,acc,h,ha=>⟨h,ha⟩
 |k+1,r,last,acc,h,ha=>by
  rw[mapsP]at h ⊢;have h1:=aaY k _ _ _ h
  have hb:(az (Ea last (gZ r).1.name) (gZ r).2).bad=eE:=by
   by_cases hq:(az (Ea last (gZ r).1.name) (gZ r).2).bad=eJ
   ·exact absurd (nG k _ _ _ hq) (by rw[h];decide)
   ·simpa using hq
  obtain⟨h2,hm⟩:=mapM (wZ hb).1;refine⟨h2,(h1 (λm hm'=>?_)).2⟩;rcases List.mem_append.1 hm' with hm'|hm'
  ·exact ha m hm'
  ·rw[List.mem_singleton.1 hm'];exact hm
def SL(o:dX)(n:Nat):Bool:=o.parts.any (λp=>eS ((p:Nat)=n))
theorem DP:∀o∈ax,((dw o.code).t=1\/(dw o.code).t=2->o.jumps=eJ)/\((dw o.code).t≠2->(dw o.code).t<=6->o.ends=eE)/\((dw o.code).t=6->o.call=eJ/\o.aJ=1)/\((dw o.code).t=5->o.aJ=2)/\((dw o.code).t=3\/(dw o.code).t=4->0<(dw o.code).k/\(dw o.code).k<=8)/\(o.call=eE->(SL o 3=eJ\/SL o 4=eJ\/dM o.parts%2=0)/\(SL o 5=eJ\/SL o 9=eJ\/dM o.parts &&& 2=0)):=by decide +kernel
theorem wg{o:dX}{x:dQ}{n:Nat}(h:o.parts.all (PK.right x)=eJ)(hp:SL o n=eJ):∃p:PK,(p:Nat)=n/\PK.right x p=eJ:=by unfold SL at hp;obtain⟨p,hm,he⟩:=List.any_eq_true.1 hp;exact⟨p,by simpa using he,List.all_eq_true.1 h p hm⟩
theorem Nt{o:dX}(ho:o∈ax)(x:dQ)(h:o.needs x=eJ):x.d<11/\x.s<11/\(o.call=eJ->x.s≠1->1<=x.num/\x.num<=4):=by
 obtain⟨_,_,_,_,_,hf⟩:=DP o ho;unfold dX.needs at h;by_cases hc:o.call=eJ
 ·rw[iP9 hc]at h;simp only[cK,bh,Bool.or_eq_true,decide_eq_true_eq]at h;obtain⟨⟨⟨⟨h1,h2⟩,h3⟩,h4⟩,h5⟩:=h;refine⟨?_,?_,λ_ hs=>?_⟩
  ·rcases h1 with h1|h1
   ·exact absurd rfl h1
   ·omega
  ·rcases h5 with h5 |⟨⟨h5,_⟩,_⟩<;>omega
  ·rcases h5 with h5 |⟨⟨_,h6⟩,h7⟩
   ·exact absurd h5 hs
   ·exact⟨h6,by omega⟩
 ·rw[iN9 hc]at h;have hc':o.call=eE:=by simpa using hc
  obtain⟨f1,f2⟩:=hf hc';obtain⟨hr,hoth⟩:=Bool.and_eq_true_iff.1 h;simp only[cK,bh,Bool.or_eq_true,decide_eq_true_eq]at hoth;obtain⟨⟨⟨h1,h2⟩,h3⟩,h4⟩:=hoth;refine⟨?_,?_,λe=>absurd e hc⟩
  ·rcases f1 with f1|f1|f1
   ·obtain⟨p,rfl,e⟩:=wg hr f1;have:x.d<10:=by simpa [PK.right]using e
    omega
   ·obtain⟨p,rfl,e⟩:=wg hr f1;have:x.d<=10:=by simpa [PK.right]using e
    omega
   ·rcases h1 with h1|h1
    ·exact absurd f1 h1
    ·omega
  ·rcases f2 with f2|f2|f2
   ·obtain⟨p,rfl,e⟩:=wg hr f2;have:x.s<=10:=by simpa [PK.right]using e
    omega
   ·obtain⟨p,rfl,e⟩:=wg hr f2;have:x.s=0\/x.s=1/\x.high=0:=by simpa [PK.right]using e
    omega
   ·rcases h2 with h2|h2
    ·exact absurd f2 h2
    ·omega
theorem Nu{l:tLB}{x:PI}(h:gp l=eC x):x.o.needs (x.ins [])=eJ:=by
 unfold gp at h;split at h
 ·cases h
 cases hb:gU (at' l 0)with
 |none=>rw[hb]at h;cases h
 |some k =>
  rw[hb]at h;simp only at h;split at h
  ·cases h
  split at h
  ·cases h
  by_cases hn:(ax[k]?.getD kg).needs (PI.ins [] ⟨k,at' l 1%16,at' l 1/16,eP (at' l 2+256*at' l 3),bI (l.drop 4),if 1<(ax[k]?.getD kg).slots then bI (l.drop 12)else 0,[]⟩)=eJ
  ·rw[iP9 hn]at h;injection h with h;rw[<-h];exact hn
  ·rw[iN9 hn]at h;cases h
structure Cin(l:List PI)(st:List Bool):Prop where
 ok:∀x∈l,kz x/\x.o.needs (x.ins [])=eJ
 st:∀i,st[i]?.getD eE=eJ->∃x,(x,i)∈atS 0 l
theorem Kt(sl:tLB):∀(f a:Nat) (acc:List PI) (st:List Bool) (l:List PI) (st':List Bool),codeL sl (ee sl/8) f a acc st=eC (l,st')->Cin acc st->aL acc=a->a<=ee sl/8->Cin l st'/\aL l<=ee sl/8
 |0,a,acc,st,l,st',h,_,_,_=>by cases h
 |f+1,a,acc,st,l,st',h,hi,hs,ha=>by
  rw[codeL]at h;split at h
  ·rename_i hlt
   cases hx:gp (sl.drop (a*8))with
   |none=>rw[hx]at h;cases h
   |some x =>
    rw[hx]at h;simp only at h;have hlen:=Df _ _ hx;rw[List.length_drop]at hlen;have e:aL (acc++[x])=a+x.o.slots:=by unfold aL at hs ⊢;rw[List.map_append,List.sum_append,hs];simp
    refine Kt sl f _ _ _ l st' h ⟨λy hy=>?_,λi hi'=>?_⟩ e (by omega)
    ·rcases List.mem_append.1 hy with hy|hy
     ·exact hi.ok y hy
     ·rw[List.mem_singleton.1 hy];exact⟨GN _ _ hx,Nu hx⟩
    ·rw[G6,hs];by_cases hia:i=a
     ·subst hia;exact⟨x,List.mem_append.2 (.inr (by simp))⟩
     ·rw[List.getElem?_set_ne (λe=>hia e.symm)]at hi';obtain⟨y,hy⟩:=hi.st i hi';exact⟨y,List.mem_append.2 (.inl hy)⟩
  ·injection h with h;injection h with h1 h2;subst h1 h2;exact⟨hi,by rw[hs];exact ha⟩
theorem OM(st:List Bool):∀(l:List PI) (s:Nat),leadP st s l=eJ->∀p∈atS s l,p.1.o.jumps=eJ->0<=p.1.target p.2/\st[(p.1.target p.2).toNat]?.getD eE=eJ
 |x::l,s,h,p,hp,hj=>by
  rw[leadP,bh]at h;rw[atS]at hp;rcases List.mem_cons.1 hp with rfl|hp
  ·rw[iP9 hj,bh]at h;exact⟨by simpa using h.1.1,h.1.2⟩
  ·exact OM st l _ h.2 p hp hj
theorem OO:∀(l:List PI) (s:Nat) (p:PI×Nat),p∈atS s l->(∃y,(y,p.2+p.1.o.slots)∈atS s l)\/l.getLast?=eC p.1
 |x::l,s,p,hp=>by
  rw[atS]at hp;rcases List.mem_cons.1 hp with rfl|hp
  ·cases l with
   |nil=>exact .inr rfl
   |cons y l=>exact .inl ⟨y,by rw[atS,atS];simp⟩
  ·rcases OO l _ p hp with⟨y,hy⟩|hy
   ·exact .inl ⟨y,by rw[atS];exact b9 _ hy⟩
   ·refine .inr ?_;rw[List.getLast?_cons,hy];rfl
structure aax(f:cZ):Prop where
 ok:∀x∈f.code,kz x/\x.o.needs (x.ins [])=eJ
 lead:∀p∈atS 0 f.code,p.1.o.jumps=eJ->0<=p.1.target p.2/\lD f (p.1.target p.2).toNat
 last:qd f.code=eJ
theorem Xw{sl:tLB}{r:PR}(h:(codeP sl r).2.bad=eE)(nm:tLB):r.bad=eE/\aax ⟨nm,(codeP sl r).1⟩/\aL (codeP sl r).1<=ee sl/8:=by
 unfold codeP at h ⊢;split at h
 ·cases h
 ·rename_i l st he
  simp only at h ⊢;obtain⟨h1,c1⟩:=wZ h;obtain⟨h2,c2⟩:=wZ h1;obtain⟨hi,hl⟩:=Kt sl _ _ _ _ _ _ he ⟨λx hx=>(by cases hx),λi hi=>(by rw[List.getElem?_replicate]at hi;split at hi<;>cases hi)⟩ rfl (cb _);refine⟨h2,⟨hi.ok,λp hp hj=>?_,c2⟩,hl⟩
  ·obtain⟨a,b⟩:=OM st l 0 c1 p hp hj;exact⟨a,hi.st _ b⟩
theorem DQ:∀(hs:List bY) (r:PR) (acc:List cZ),r.bad=eJ->(codesP hs r acc).2.bad=eJ
 |[],r,acc,h=>h
 |x::hs,r,acc,h=>by
  rw[codesP];refine DQ hs _ _ ?_
  have ht:(aR (x.slots*8) r).2.bad=eJ:=by
   unfold aR;split
   ·rfl
   ·exact h
  unfold codeP;split
  ·rfl
  ·simp[az,ht]
theorem DR:∀(k:Nat) (r:PR) (last:tLB) (all:Nat) (acc:List bY),r.bad=eJ->(headsP k r last all acc).2.2.bad=eJ
 |0,r,last,all,acc,h=>h
 |k+1,r,last,all,acc,h=>by
  rw[headsP];refine DR k _ _ _ _ ?_;by_cases hq:(az (Ea last (eV r).1.name) (eV r).2).bad=eJ
  ·exact hq
  ·have h1:=(wZ (by simpa using hq)).1;unfold eV kR at h1;have:=aaX (Xv (Xv h1));rw[h]at this;cases this
theorem SN(c:Bool)(r:PR)(h:r.bad=eJ):(az c r).bad=eJ:=by simp[az,h]
theorem Nv(r:PR)(h:r.bad=eJ):(dF r).2.bad=eJ:=by
 have ho:(oneP r).2.bad=eJ:=by
  by_cases hq:(oneP r).2.bad=eJ
  ·exact hq
  ·have:=Xv (r:=r) (by simpa using hq);rw[h]at this;cases this
 unfold dF;simp only;have hh:=DR (oneP r).1 (az (eS ((oneP r).1<=16)) (oneP r).2) [] 0 [] (by simp[az,ho]);split
 ·rename_i hb;exact hb
 ·rename_i hb
  exact absurd (SN _ _ hh) hb
theorem Ku:∀(hs:List bY) (r:PR) (acc:List cZ) (n:Nat),(codesP hs r acc).2.bad=eE->(∀h∈hs,h.slots<=n)->(∀f∈acc,aax f/\aL f.code<=n)->r.bad=eE/\∀f∈(codesP hs r acc).1,aax f/\aL f.code<=n
 |[],r,acc,n,h,_,ha=>⟨h,ha⟩
 |x::hs,r,acc,n,h,hn,ha=>by
  rw[codesP]at h ⊢
  have hb:(codeP (aR (x.slots*8) r).1 (aR (x.slots*8) r).2).2.bad=eE:=by
   by_cases hq:(codeP (aR (x.slots*8) r).1 (aR (x.slots*8) r).2).2.bad=eJ
   ·exact absurd (DQ hs _ _ hq) (by rw[h];decide)
   ·simpa using hq
  obtain⟨h2,hf,hl⟩:=Xw hb x.name;refine⟨aaW h2,(Ku hs _ _ n h (λy hy=>hn y (b9 _ hy)) (λf hf'=>?_)).2⟩;rcases List.mem_append.1 hf' with hf'|hf'
  ·exact ha f hf'
  ·rw[List.mem_singleton.1 hf'];refine⟨hf,?_⟩;have h3:=FH (x.slots*8) r;have h4:=hn x (cW ..);simp only;omega
theorem Kv:∀(k:Nat) (r:PR) (last:tLB) (all:Nat) (acc:List bY),(∀h∈acc,h.slots<=all)->(∀h∈(headsP k r last all acc).1,h.slots<=(headsP k r last all acc).2.1)/\all<=(headsP k r last all acc).2.1
 |0,r,last,all,acc,ha=>⟨ha,ao _⟩
 |k+1,r,last,all,acc,ha=>by
  rw[headsP]
  have ih:=Kv k (az (Ea last (eV r).1.name) (eV r).2) (eV r).1.name (all+(eV r).1.slots) (acc++[(eV r).1]) (λh hh=>by
   rcases List.mem_append.1 hh with hh|hh
   ·have:=ha h hh;omega
   ·rw[List.mem_singleton.1 hh];omega)
  exact⟨ih.1,by omega⟩
theorem Xx{r:PR}(h:(dF r).2.bad=eE):∀f∈(dF r).1,aax f/\aL f.code<=200:=by
 unfold dF at h ⊢;simp only at h ⊢;split at h
 ·rename_i hb
  rw[hb]at h;cases h
 ·rename_i hb
  have hq:(az (eS ((headsP (oneP r).1 (az (eS ((oneP r).1<=16)) (oneP r).2) [] 0 []).2.1<=200)) (headsP (oneP r).1 (az (eS ((oneP r).1<=16)) (oneP r).2) [] 0 []).2.2).bad=eE:=by simpa using hb
  have hc:=(wZ hq).2;have hall:=(Kv (oneP r).1 (az (eS ((oneP r).1<=16)) (oneP r).2) [] 0 [] (λh hh=>by cases hh)).1;have afF:=of_decide_eq_true hc;rw[iN9 hb];exact(Ku _ _ _ 200 h (λx hx=>an (hall x hx) afF) (λf hf=>by cases hf)).2
theorem OP(m f:Nat):∀(l:List PI) (r:PR),(wu m f l r).bad=eE->r.bad=eE/\∀x∈l,(x.aJ=1->jt x.num f=eJ)/\(x.aJ=2->jt x.num m=eJ)
 |[],r,h=>⟨h,λx hx=>by cases hx⟩
 |x::l,r,h=>by
  obtain⟨h1,h2⟩:=OP m f l (DB m f x r) h;unfold DB at h1;split at h1
  ·rename_i e
   obtain⟨h3,h4⟩:=wZ h1;refine⟨h3,λy hy=>?_⟩;rcases List.mem_cons.1 hy with rfl|hy
   ·exact⟨λ_=>h4,λe2=>by rw[e]at e2;cases e2⟩
   ·exact h2 y hy
  ·rename_i e
   split at h1
   ·rename_i e2
    obtain⟨h3,h4⟩:=wZ h1;refine⟨h3,λy hy=>?_⟩;rcases List.mem_cons.1 hy with rfl|hy
    ·exact⟨λe3=>absurd e3 e,λ_=>h4⟩
    ·exact h2 y hy
   ·rename_i e2
    refine⟨h1,λy hy=>?_⟩;rcases List.mem_cons.1 hy with rfl|hy
    ·exact⟨λe3=>absurd e3 e,λe3=>absurd e3 e2⟩
    ·exact h2 y hy
theorem OQ(m f:Nat):∀(l:List cZ) (r:PR),(uS m f l r).bad=eE->r.bad=eE/\∀g∈l,∀x∈g.code,(x.aJ=1->jt x.num f=eJ)/\(x.aJ=2->jt x.num m=eJ)
 |[],r,h=>⟨h,λx hx=>by cases hx⟩
 |g::l,r,h=>by
  obtain⟨h1,h2⟩:=OQ m f l (wu m f g.code r) h;obtain⟨h3,h4⟩:=OP m f g.code r h1;refine⟨h3,λy hy=>?_⟩;rcases List.mem_cons.1 hy with rfl|hy
  ·exact h4
  ·exact h2 y hy
theorem PI.adS{x:PI}(h:x.k<88):x.o∈ax:=by
 have hkt:x.k<ee ax:=by rw[eZ];exact h
 have e2:x.o=ax[x.k]:=by simp[PI.o,hkt]
 rw[e2];exact ar hkt
theorem Xy{s:tLB}(h:(bQ s).2.2.bad=eE):sw (bQ s).2.1 (ee (bQ s).1)/\∀m∈(bQ s).1,FD m:=by
 unfold bQ at h ⊢;simp only at h ⊢;generalize hm:mapsP (oneP (az (eS ((oneP (az ((aR 4 ⟨s,eE⟩).1==[83,80,79,76]) (aR 4 ⟨s,eE⟩).2)).1=2)) (oneP (az ((aR 4 ⟨s,eE⟩).1==[83,80,79,76]) (aR 4 ⟨s,eE⟩).2)).2)).1 _ [] []=mp at *;obtain⟨ms,q5⟩:=mp;simp only at h ⊢;obtain⟨h1,_⟩:=wZ h;obtain⟨h2,hN⟩:=OQ _ _ _ _ h1;have hF:=Xx h2
 have hq5:q5.bad=eE:=by
  by_cases hq:q5.bad=eJ
  ·exact absurd (Nv q5 hq) (by rw[h2];decide)
  ·simpa using hq
 refine⟨⟨λf hf=>?_,λf hf=>by have:=(hF f hf).2;omega,λf hf p hp=>?_⟩,?_⟩
 ·have hl:=(hF f hf).1.last;unfold qd at hl;unfold lD;cases hc:f.code with
  |nil=>rw[hc]at hl;cases hl
  |cons x l=>exact⟨x,by rw[atS];simp⟩
 ·have hx:=BM _ _ _ hp;obtain⟨hok,hnd⟩:=(hF f hf).1.ok _ hx;have hmem:=PI.adS hok.k;obtain⟨n1,n2,n3⟩:=Nt hmem _ hnd;obtain⟨r1,r2,r3,r4,r5,_⟩:=DP _ hmem;obtain⟨u1,u2⟩:=hN f hf _ hx
  have isn:∀(k:Int) (n:Nat),jt k n=eJ->0<=k/\k<n:=λk n e=>by
   unfold jt at e
   simpa using e
  refine⟨⟨n1,n2,hok.j,hok.n,λh6=>⟨λhs=>isn _ _ (u1 ?_),n3 (r3 h6).1⟩,λh5 hs=>isn _ _ (u2 ?_),r5⟩,hok,λh12=>(hF f hf).1.lead p hp (r1 h12),λh2 h6=>?_⟩
  ·unfold PI.aJ;rw[iP9 hs];exact(r3 h6).2
  ·unfold PI.aJ;rw[iP9 hs];exact r4 h5
  ·rcases OO _ _ _ hp with hy|hy
   ·exact hy
   ·have hl:=(hF f hf).1.last;unfold qd at hl;rw[hy]at hl;simp only at hl;rw[r2 h2 h6]at hl;cases hl
 ·have:=aaY _ _ _ _ (by rw[hm];exact hq5) (λm hm'=>by cases hm');rw[hm]at this;exact this.2
theorem OT(r:PR):(oneP r).1<=255:=by
 unfold oneP;split
 ·exact cb _
 ·rename_i b l _
  have:=b.toNat_lt;simp only;omega
theorem FI(r:PR):ee (dJ r).1<=255:=an (FH _ _) (OT r)
theorem DS:∀(k:Nat) (r:PR) (last:tLB) (acc:List aW),(∀m∈acc,ee m.name<=255)->∀m∈(mapsP k r last acc).1,ee m.name<=255
 |0,r,last,acc,h=>h
 |k+1,r,last,acc,h=>by
  rw[mapsP];refine DS k _ _ _ (λm hm=>?_);rcases List.mem_append.1 hm with hm|hm
  ·exact h m hm
  ·rw[List.mem_singleton.1 hm];exact FI r
theorem Bk:∀(k:Nat) (r:PR) (last:tLB) (all:Nat) (acc:List bY),(∀h∈acc,ee h.name<=255)->∀h∈(headsP k r last all acc).1,ee h.name<=255
 |0,r,last,all,acc,h=>h
 |k+1,r,last,all,acc,h=>by
  rw[headsP];refine Bk k _ _ _ _ (λm hm=>?_);rcases List.mem_append.1 hm with hm|hm
  ·exact h m hm
  ·rw[List.mem_singleton.1 hm];exact FI r
theorem Bl:∀(hs:List bY) (r:PR) (acc:List cZ),(∀h∈hs,ee h.name<=255)->(∀f∈acc,ee f.name<=255)->∀f∈(codesP hs r acc).1,ee f.name<=255
 |[],r,acc,_,h=>h
 |x::hs,r,acc,hh,h=>by
  rw[codesP];refine Bl hs _ _ (λy hy=>hh y (b9 _ hy)) (λm hm=>?_);rcases List.mem_append.1 hm with hm|hm
  ·exact h m hm
  ·rw[List.mem_singleton.1 hm];exact hh x (cW ..)
theorem Kw(r:PR):∀f∈(dF r).1,ee f.name<=255:=by
 unfold dF;simp only;split
 ·intro f hf;cases hf
 ·exact Bl _ _ _ (Bk _ _ _ _ _ (λh hh=>by cases hh)) (λf hf=>by cases hf)
theorem DT{s:tLB}(h:(bQ s).2.2.bad=eE):(∀f∈(bQ s).2.1,ee f.name<=255/\f.code.length<=2000)/\(∀m∈(bQ s).1,ee m.name<=255/\m.key<256/\m.value<256/\m.entries<256)/\(bQ s).2.1.length<=1000/\(bQ s).1.length<=1000:=by
 have hm:=(Xy h).2;have e:∃(k:Nat) (r:PR),k<=255/\(bQ s).1=(mapsP k r [] []).1/\(bQ s).2.1=(dF (mapsP k r [] []).2).1:=⟨_,_,OT _,rfl,rfl⟩
 obtain⟨k,r,hk,e1,e2⟩:=e;rw[e1]at hm ⊢;rw[e2];obtain⟨c1,c2,_⟩:=Dk (mapsP k r [] []).2;refine⟨λf hf=>⟨Kw _ f hf,c2 f hf⟩,λm hm'=>?_,by omega,by rw[Aj];simp;omega⟩;obtain⟨a,b,c⟩:=hm m hm';exact⟨DS k r [] [] (λm hm=>by cases hm) m hm',by omega,by omega,by omega⟩
