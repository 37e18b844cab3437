import Derived.Test.YtekmhcbefnmflaaGreatDoorCL36
namespace Go.Proofs.YtekmhcbefnmflaaGreatDoor
open Go.RowKit Tryz
open _root_.Array renaming replicate->dy
open List renaming length_append->ab,getElem_mem->an,length_map->ao,length_dropLast->ar,mem_or_eq_of_mem_set->bh,take_succ_cons->bt,drop_succ_cons->b5,length_set->b9,dropLast_concat->cj,take_zero->cw,drop_zero->cx,dropLast_concat_getLast->cy,length_cons->cI,eq_of_mem_replicate->cN,getLast_eq_getElem->cQ,map_append->cW,take_of_length_le->cX,dropLast_eq_take->cY,dropLast_subset->de,flatMap_cons->dp,getElem_map->dq,length->ee
open Nat renaming lt_irrefl->cb,le_refl->cD,add_sub_cancel->cG,add_assoc->cH,mul_le_mul_right->dj
open Option renaming map_some->cR,map_none->dt,some->eC,none->ez
open Region renaming noSelect->du
open Bool renaming true->eJ,false->eE
open Decidable renaming decide->eS
open Ending renaming returned->fR,panicked->s9
open Obj renaming cells->eR
open Value renaming slice->eK,agg->fW,tuple->gb,pointer->ia,bool->fS,string->eI,func->eL
open _root_.Go renaming Value->eM,Calls->fL,Addr->ju,wpQuiet_nil->lz,bodyPost_ret->iz,Program->jz,TypeId->gh,Oper->fY,wpList->nB,undef->kh,grownCap->pL,bytesRow->tB,Ending->kx,FuncId->kO,results_cell_row->mz
set_option linter.all false
set_option maxRecDepth 100000
set_option maxHeartbeats 1000000
theorem aa.Ke{w w':tW}{g n cap:Nat}(j:Nat)(us:tLV):aa (Own (eK (eC ⟨g,0,ez⟩) n cap)) w w'->aa (Own (eK (eC ⟨g,0,ez⟩) n cap)) w (w'.setCells g j us):=by
 induction us generalizing j w' with
 |nil=>exact id
 |cons u us ih=>exact λm=>ih (j+1) (m.pH j u)
theorem MS(w:tW)(b:Nat)(rb mb:tLN)(vM vC vL:eM)(r:aH)(h:aV w b rb mb vM vC vL r)(hp:0<ee r.calls)(v:MV):fL prog 319 #[vP b,fW (v.cells rb mb).toArray] w λe w'=>e=fR (gb #[])/\aV w' b rb mb vM vC vL (r.answer v)/\aa (Own vC) w w':=by
 obtain⟨g,cap,K,rfl,_,_,hT,hC,hF,hR,hS⟩:=h.kit hp;have HT:=ai (λw' m=>hT w' vL r (h.quiet m) rfl);have HC:=ai (λw' (m:aa ah w w')=>h.quiet m);have HK:af (∀w',aV w' b rb mb vM (eK (eC ⟨g,0,ez⟩) (ee r.calls) cap) vL r->∀c,c<4->w'.cell? ⟨g,K+3+c,ez⟩=((r.bq 0).cells rb mb)[c]?):=λw' h' c hc4=>by have:=hC w' vL r h' rfl (3+0*4+c) (by omega);rw[MV.G7 rb mb _ (hR w' vL r h' rfl) 0 c (by omega) hc4]at this;rw[<-cH,<-cH]at this;exact this
 have HX:=ai (λw' h'=>by
  have:=aV.WB hp hR hS w' vL r h' rfl 0 (by omega) v
  rwa [Nat.zero_mul,Nat.add_zero]at this)
 have HY:af (∀w',aV w' b rb mb vM (eK (eC ⟨g,0,ez⟩) (ee r.calls) cap) vL (r.ik 0 v)->aV (w'.setCells g (K+3+4) z20) b rb mb vM (eK (eC ⟨g,0,ez⟩) (ee r.calls) cap) vL (r.answer v)/\∀ty c,(Builtin.clear_ #[361] ty #[eK (eC ⟨g,K+3+4,ez⟩) 5 c]).run prog w'=.ok (gb #[]) (w'.setCells g (K+3+4) z20)):=λw' h'=>by
  refine⟨?_,λty c=>MR w' ty g (K+3+4) c (λj hj=>?_) (λj _=>hF w' vL _ h' (aH.jf _ _ _) _)⟩
  ·have:=aV.nV hp hR hS vL (List.replicate 5 {}) w' _ h' (aH.jf _ _ _) 1 (by decide);rw[abO]at this;exact this
  ·have:=hC w' vL _ h' (aH.jf _ _ _) (3+4+j) (by omega);rw[<-cH,<-cH]at this;rw[this,List.getElem?_eq_getElem (by rw[jT.fI rb mb _ (hR w' vL _ h' (aH.jf _ _ _))];omega)];rfl
 have HF:=ai (λw' h'=>hF w' vL r h' rfl);clear h hT hC hF hR hS;show fL _ _ #[_,fW #[vI v.so,vU v.bits,ia (v.bq.map λr=>⟨rb.getD r 0,0,ez⟩),ia (v.tab.map λt=>⟨mb.getD t 0,0,ez⟩)]] _ _
 generalize r.answer v=r2 at *;generalize r.ik 0 v=r1 at *;generalize r.bq 0=v0 at *;generalize v.bq.map (λr=>(⟨rb.getD r 0,0,ez⟩:ju))=p2 at *;generalize v.tab.map (λt=>(⟨mb.getD t 0,0,ez⟩:ju))=p3 at *;have HB:=ai (ak.new w #[vI v.so,vU v.bits,ia p2,ia p3] 190);have HA:af (aa ah w (w.alloc (eR #[vI v.so,vU v.bits,ia p2,ia p3] 190))):=aq;go_in;go_wp2_with fail;refine(HT.o _ HA.o).mono ?_;rintro e w1 ⟨rfl,m1⟩;have gu:=ai ((HA.o.trans m1).drew);have tI:=ai ((HB.o.ae m1 id).ae (aa.refl ah w1).drew id);clear HT m1 HA HB;go_upto_region 2 with fail;refine bU 5 (by kernel_rfl) (by kernel_rfl) ?_;intro W hW;rw[<-hW]at gu tI;clear hW;have x0:=tI.o.c0;have x1:=tI.o.c1;have x2:=tI.o.c2;have x3:=tI.o.c3;simp only[bt,cw,b5,cx]
 repeat(go_big_quiet_step (fail))
 refine lz ?_;have hr:=HC.o W gu.o;have y0:W.cell? ⟨g,K+3,ez⟩=eC (vI v0.so):=HK.o W hr 0 (by omega);have y1:W.cell? ⟨g,K+3+1,ez⟩=eC (vU v0.bits):=HK.o W hr 1 (by omega);have y2:W.cell? ⟨g,K+3+2,ez⟩=eC (ia (v0.bq.map λr=>⟨rb.getD r 0,0,ez⟩)):=HK.o W hr 2 (by omega);have y3:W.cell? ⟨g,K+3+3,ez⟩=eC (ia (v0.tab.map λt=>⟨mb.getD t 0,0,ez⟩)):=HK.o W hr 3 (by omega);have yf:=HF.o W hr;have HR:=ai (HX.o W hr);have dV:af (aa (Own (eK (eC ⟨g,0,ez⟩) (ee r.calls) cap)) w ((((W.setCell ⟨g,K+3,ez⟩ (vI v.so)).setCell ⟨g,K+3+1,ez⟩ (vU v.bits)).setCell ⟨g,K+3+2,ez⟩ (ia p2)).setCell ⟨g,K+3+3,ez⟩ (ia p3))):=((((gu.o.own _).pH _ _).pH _ _).pH _ _).pH _ _;clear HC hr HX HF HK x0 x1 x2 x3 tI;go_upto_region 3 with fail;generalize(((W.setCell ⟨g,K+3,ez⟩ (vI v.so)).setCell ⟨g,K+3+1,ez⟩ (vU v.bits)).setCell ⟨g,K+3+2,ez⟩ (ia p2)).setCell ⟨g,K+3+3,ez⟩ (ia p3)=W3 at *;obtain⟨hr4,hcl⟩:=HY.o W3 HR.o;have sW:=ai hr4;clear hr4 y0 y1 y2 y3 yf HY;go_wp2_with fail;go_end0;exact⟨rfl,sW.o,dV.o.Ke _ _⟩
theorem aai(w:tW)(G:Nat)(v:eM)(h:ak w G #[v] 182):fL prog 318 #[vP G] w λe w'=>e=fR (gb #[])/\w'=w.setCell ⟨G,0,ez⟩ (vN):=by have x0:=h.c0;have xf:=h.frozen;clear h;go_in;go_wp2_with fail;go_end0;exact⟨rfl,rfl⟩
def aH.finish(r:aH)(n:Nat):aH:={r with r0:=n,ended:=eJ}
def aH.pop(r:aH):aH:={r with calls:=r.calls.dropLast}
theorem aV.fin{w:tW}{b:Nat}{rb mb:tLN}{vM vC vL:eM}{r:aH}(h:aV w b rb mb vM vC vL r)(n:Nat):aV ((w.setCell ⟨b,6,ez⟩ (vU n)).setCell ⟨b,7,ez⟩ (fS eJ)) b rb mb vM vC vL (r.finish n) :=
 ⟨(h.blk.set 6 _).set 7 _,h.calls.ae (((aa.refl (Only b) w).bz 6 _).bz 7 _) (λk hk e=>by cases(show k=b from e);exact h.calls.ay h.blk (by decide) hk),h.regs,h.depth⟩
theorem WN(w:tW)(b:Nat)(rb mb:tLN)(vM vC vL:eM)(r:aH)(h:aV w b rb mb vM vC vL r)(hp:ee r.calls=1)(hv:(r.bq 0).so=0):fL prog 264 #[vP b] w λe w'=>e=fR (gb #[])/\aV w' b rb mb vM vC vL (r.finish (r.bq 0).bits)/\aa (Only b) w w':=by
 have HG:af (∀w',aa ah w w'->fL prog 224 #[vP b,vB 0] w' λe w''=>e=fR (fW #[vI (r.bq 0).so,vU (r.bq 0).bits,ia ((r.bq 0).bq.map λr=>⟨rb.getD r 0,0,ez⟩),ia ((r.bq 0).tab.map λt=>⟨mb.getD t 0,0,ez⟩)])/\aa ah w' w''):=λw' m=>qu w' b rb mb vM vC vL r (h.quiet m) (by omega) 0 (by omega);have HN:af (∀w',fL prog 226 #[fW #[vI (r.bq 0).so,vU (r.bq 0).bits,ia ((r.bq 0).bq.map λr=>⟨rb.getD r 0,0,ez⟩),ia ((r.bq 0).tab.map λt=>⟨mb.getD t 0,0,ez⟩)]] w' λe w''=>e=fR (vU (r.bq 0).bits)/\aa ah w' w''):=λw'=>vZ w' rb mb (r.bq 0) hv;have HH:=ai h;clear h hv;generalize r.bq 0=v at *;generalize v.bq.map (λr=>(⟨rb.getD r 0,0,ez⟩:ju))=p2 at *;generalize v.tab.map (λt=>(⟨mb.getD t 0,0,ez⟩:ju))=p3 at *;go_in;go_wp2_with fail;refine(HG.o _ aA).mono ?_;rintro e w1 ⟨rfl,m1⟩;have dB:=ai m1;clear m1 HG;go_upto_region 1 with fail;have dV:=ai (dB.o.alloc (eR #[vI v.so,vU v.bits,ia p2,ia p3] 190));have HB2:=ai (ak.new w1 #[vI v.so,vU v.bits,ia p2,ia p3] 190);generalize w1.alloc (eR #[vI v.so,vU v.bits,ia p2,ia p3] 190)=W2 at *;generalize w1.heap.size=B at *;obtain⟨oC,cC,rfl,_⟩:=HH.o.calls.view;have h2:=HH.o.quiet dV.o;have x2:W2.cell? ⟨b,2,ez⟩=eC (eK oC 1 cC):=by rw[<-hp];exact h2.blk.cell 2
 have z0:=HB2.o.c0;have z1:=HB2.o.c1;have z2:=HB2.o.c2;have z3:=HB2.o.c3;clear h2 HB2;go_wp2_with fail;refine(HN.o _).mono ?_;rintro e w3 ⟨rfl,m3⟩;have eH:=ai (dV.o.trans m3);have h3:=HH.o.quiet eH.o;have x6:=h3.blk.c6;have x7:=h3.blk.c7;have xf:=h3.blk.frozen;have HF:=ai (h3.fin v.bits);clear h3 z0 z1 z2 z3 x2 m3 HN;go_wp2_with fail;exact iz (results_none results264 _ _ _) rfl ⟨rfl,HF.o,(((eH.o.mono (λ_ _ h=>h.elim)).bz 6 _).bz 7 _)⟩
theorem WO(w:tW)(b:Nat)(rb mb:tLN)(vM vC vL:eM)(r:aH)(h:aV w b rb mb vM vC vL r)(hp:ee r.calls=1)(hv:(r.bq 0).so≠0):fL prog 264 #[vP b] w λe w'=>e=gN 2/\aa ah w w':=by
 have HG:af (∀w',aa ah w w'->fL prog 224 #[vP b,vB 0] w' λe w''=>e=fR (fW #[vI (r.bq 0).so,vU (r.bq 0).bits,ia ((r.bq 0).bq.map λr=>⟨rb.getD r 0,0,ez⟩),ia ((r.bq 0).tab.map λt=>⟨mb.getD t 0,0,ez⟩)])/\aa ah w' w''):=λw' m=>qu w' b rb mb vM vC vL r (h.quiet m) (by omega) 0 (by omega);have HN:af (∀w',fL prog 226 #[fW #[vI (r.bq 0).so,vU (r.bq 0).bits,ia ((r.bq 0).bq.map λr=>⟨rb.getD r 0,0,ez⟩),ia ((r.bq 0).tab.map λt=>⟨mb.getD t 0,0,ez⟩)]] w' λe w''=>e=gN 2/\aa ah w' w''):=λw'=>Aw w' rb mb (r.bq 0) hv;have HH:=ai h;clear h hv;generalize r.bq 0=v at *;generalize v.bq.map (λr=>(⟨rb.getD r 0,0,ez⟩:ju))=p2 at *;generalize v.tab.map (λt=>(⟨mb.getD t 0,0,ez⟩:ju))=p3 at *;go_in;go_wp2_with fail;refine(HG.o _ aA).mono ?_;rintro e w1 ⟨rfl,m1⟩;have dB:=ai m1;clear m1 HG;go_upto_region 1 with fail;have dV:=ai (dB.o.alloc (eR #[vI v.so,vU v.bits,ia p2,ia p3] 190));have HB2:=ai (ak.new w1 #[vI v.so,vU v.bits,ia p2,ia p3] 190);generalize w1.alloc (eR #[vI v.so,vU v.bits,ia p2,ia p3] 190)=W2 at *;generalize w1.heap.size=B at *;obtain⟨oC,cC,rfl,_⟩:=HH.o.calls.view;have h2:=HH.o.quiet dV.o;have x2:W2.cell? ⟨b,2,ez⟩=eC (eK oC 1 cC):=by rw[<-hp];exact h2.blk.cell 2
 have z0:=HB2.o.c0;have z1:=HB2.o.c1;have z2:=HB2.o.c2;have z3:=HB2.o.c3;clear h2 HB2;go_wp2_with fail;refine(HN.o _).mono ?_;rintro e w3 ⟨rfl,m3⟩;exact⟨rfl,rfl,dV.o.trans m3⟩
theorem DI{α:Type}(enc:α->tLV)(k:Nat):∀(l:List α),(∀x∈l,ee (enc x)=k)->(l.flatMap enc).take ((ee l-1)*k)=l.dropLast.flatMap enc
 |[],_=>by simp
 |[x],h=>by simp
 |x::y::l,h=>by have ih:=DI enc k (y::l) (λz hz=>h z (by simp[hz]));have hx:=h x (by simp);rw[List.dropLast_cons_cons,dp (xs:=(y::l).dropLast),dp (xs:=y::l),List.take_append,<-ih];simp only[cI]at *;rw[cX (by rw[hx,cG,Nat.add_mul,Nat.one_mul];exact Nat.le_add_left _ _),hx,show(ee l+1+1-1)*k-k=(ee l+1-1)*k by rw[cG,cG,Nat.add_mul,Nat.one_mul];omega]
theorem aV.adt{w:tW}{b g cap:Nat}{rb mb:tLN}{vM vL:eM}{r:aH}(h:aV w b rb mb vM (eK (eC ⟨g,0,ez⟩) (ee r.calls) cap) vL r)(hp:1<ee r.calls):aV (w.setCell ⟨b,2,ez⟩ (eK (eC ⟨g,0,ez⟩) (ee r.calls-1) cap)) b rb mb vM (eK (eC ⟨g,0,ez⟩) (ee r.pop.calls) cap) vL r.pop:=by
 have hl:ee r.pop.calls=ee r.calls-1:=ar;refine⟨by rw[hl];exact h.blk.set 2 _,?_,λf hf=>h.regs f (de _ hf),by have:=h.depth;omega⟩
 have hs:Sl w 273 48 (eK (eC ⟨g,0,ez⟩) (ee r.pop.calls) cap) (ee r.pop.calls) (r.pop.calls.flatMap (jT.cells rb mb)):=by
  have hlen:(r.pop.calls.flatMap (jT.cells rb mb))=(r.calls.flatMap (jT.cells rb mb)).take (ee r.pop.calls*48):=by rw[hl];exact(DI _ 48 r.calls (λf hf=>jT.fI rb mb f (h.regs f hf))).symm
  have hll:=h.calls.len;refine⟨by rw[hlen,List.length_take,hll,hl];exact Nat.min_eq_left (dj _ (by omega)),.inr ?_⟩;rcases h.calls.2 with⟨h',_⟩ |⟨g',cap',cur,h',h0,hg,hn,hm,hs,ht⟩
  ·cases h'
  ·cases h';refine⟨g,cap,cur,rfl,h0,hg,by omega,hm,hs,?_⟩;rw[hlen,<-ht,List.take_take,Nat.min_eq_left (by rw[hl];exact dj _ (by omega))]
 exact hs.ae ((aa.refl (Only b) w).bz 2 _) (λk hk e=>by cases(show k=b from e);exact hs.ay h.blk (by decide) hk)
def aH.back(r:aH):aH:=r.pop.answer (r.bq 0)
theorem Sg(w:tW)(b:Nat)(rb mb:tLN)(vM vC vL:eM)(r:aH)(h:aV w b rb mb vM vC vL r)(hp:1<ee r.calls)(vG:eM)(hG:ak w (rb.getD r.top.qA 0) #[vG] 182):fL prog 264 #[vP b] w λe w'=>∃WI,e=fR (gb #[])/\aV w' b rb mb vM WI vL r.back/\WI.ownBlock=vC.ownBlock/\∃w2,aa ah w w2/\aa (λk=>k=b\/Own vC k) (w2.setCell ⟨rb.getD r.top.qA 0,0,ez⟩ (vN)) w':=by
 obtain⟨g,cap,K,rfl,_,_,hT,hC,hF,hR,hS⟩:=h.kit (by omega);have HG:af (∀w',aa ah w w'->fL prog 224 #[vP b,vB 0] w' λe w''=>e=fR (fW #[vI (r.bq 0).so,vU (r.bq 0).bits,ia ((r.bq 0).bq.map λr=>⟨rb.getD r 0,0,ez⟩),ia ((r.bq 0).tab.map λt=>⟨mb.getD t 0,0,ez⟩)])/\aa ah w' w''):=λw' m=>qu w' b rb mb vM _ vL r (h.quiet m) (by omega) 0 (by omega)
 have HT:af (∀w',aa ah w w'->(fL prog 165 #[vP b] w' λe w''=>e=fR (ia (eC ⟨g,K,ez⟩))/\aa ah w' w'')/\w'.cell? ⟨g,K+47,ez⟩=eC (vP (rb.getD r.top.qA 0))):=λw' m=>⟨hT w' vL r (h.quiet m) rfl,by
  rw[hC w' vL r (h.quiet m) rfl 47 (by omega)];unfold jT.cells;rw[List.getElem?_append_right (by rw[ab,uT,hR w' vL r (h.quiet m) rfl];simp),ab,uT,hR w' vL r (h.quiet m) rfl];rfl⟩
 have HH:af (∀w',aa ah w w'->aV w' b rb mb vM (eK (eC ⟨g,0,ez⟩) (ee r.calls) cap) vL r/\ak w' (rb.getD r.top.qA 0) #[vG] 182):=λw' m=>⟨h.quiet m,hG.ae m id⟩
 have HD:af (∀w',aa ah w w'->aV (w'.setCell ⟨rb.getD r.top.qA 0,0,ez⟩ (vN)) b rb mb vM (eK (eC ⟨g,0,ez⟩) (ee r.calls) cap) vL r):=λw' m=>by
  have h':=h.quiet m;have g':=hG.ae m id;have m1:=(aa.refl (Only (rb.getD r.top.qA 0)) w').bz 0 (vN);refine⟨h'.blk.ae m1 (λe=>?_),h'.calls.ae m1 (λk hk e=>?_),h'.regs,h'.depth⟩
  ·rw[<-show b=_ from e]at g';have hb:=h'.blk;unfold ak at hb g';rw[hb]at g';cases g'
  ·cases(show k=_ from e);exact h'.calls.ay g' (by decide) hk
 have HAN:af (∀w',aV w' b rb mb vM (eK (eC ⟨g,0,ez⟩) (ee r.pop.calls) cap) vL r.pop->fL prog 319 #[vP b,fW #[vI (r.bq 0).so,vU (r.bq 0).bits,ia ((r.bq 0).bq.map λr=>⟨rb.getD r 0,0,ez⟩),ia ((r.bq 0).tab.map λt=>⟨mb.getD t 0,0,ez⟩)]] w' λe w''=>e=fR (gb #[])/\aV w'' b rb mb vM (eK (eC ⟨g,0,ez⟩) (ee r.pop.calls) cap) vL r.back/\aa (Own (eK (eC ⟨g,0,ez⟩) (ee r.pop.calls) cap)) w' w''):=λw' h'=>MS w' b rb mb vM _ vL r.pop h' (by have:ee r.pop.calls=ee r.calls-1:=ar;omega) (r.bq 0);have hd:=h.depth;clear h hT hC hF hR hS hG;generalize r.bq 0=v at *;generalize v.bq.map (λr=>(⟨rb.getD r 0,0,ez⟩:ju))=p2 at *;generalize v.tab.map (λt=>(⟨mb.getD t 0,0,ez⟩:ju))=p3 at *;generalize rb.getD r.top.qA 0=G at *;go_in;go_wp2_with fail;refine(HG.o _ aA).mono ?_;rintro e w1 ⟨rfl,m1⟩;have dB:=ai m1;clear m1 HG;go_upto_region 1 with fail;have dV:=ai (dB.o.alloc (eR #[vI v.so,vU v.bits,ia p2,ia p3] 190));have HB2:=ai (ak.new w1 #[vI v.so,vU v.bits,ia p2,ia p3] 190);generalize w1.alloc (eR #[vI v.so,vU v.bits,ia p2,ia p3] 190)=W2 at *;generalize w1.heap.size=B at *;have x2:=(HH.o W2 dV.o).1.blk.c2;have hq:((ee r.calls:Nat):Int)≠1:=by omega
 go_wp2_with fail;obtain⟨hT2,_⟩:=HT.o W2 dV.o;refine hT2.mono ?_;rintro e w3 ⟨rfl,m3⟩;have eH:=ai (dV.o.trans m3);have HB3:=ai (HB2.o.ae m3 id);have y47:=(HT.o w3 eH.o).2;clear hT2 m3 dV HB2 x2 HT;go_wp2_with fail;refine(aai w3 G vG (HH.o w3 eH.o).2).mono ?_;rintro e w4 ⟨rfl,rfl⟩;have h4:=HD.o w3 eH.o;have KL:af (B≠G):=by rintro rfl;have h1:=HB3.o;have h2:=(HH.o w3 eH.o).2;unfold ak at h1 h2;rw[h1]at h2;cases h2
 have iH:af (ak (w3.setCell ⟨G,0,ez⟩ (vN)).drew B #[vI v.so,vU v.bits,ia p2,ia p3] 190):=(HB3.o.setOther (Ne.symm KL.o) _).ae (aa.refl ah _).drew id;have sW:=ai (h4.quiet (aa.refl ah _).drew);have jh:af (aa ah (w3.setCell ⟨G,0,ez⟩ (vN)) (w3.setCell ⟨G,0,ez⟩ (vN)).drew):=(aa.refl ah _).drew;clear h4 HB3 HD HH y47 KL;go_upto_region 5 with fail;refine bU 14 (by kernel_rfl) (by kernel_rfl) ?_;intro W hW;rw[<-hW]at iH sW jh;clear hW;have x2:=sW.o.blk.c2;have xf:=sW.o.blk.frozen
 have hcap:ee r.calls<=cap:=by
  rcases sW.o.calls.2 with⟨h',_⟩ |⟨g',cap',cur,h',h0,hg,hn,hm,hs,ht⟩
  ·cases h'
  ·cases h';exact hn
 have hi:((ee r.calls:Int)-1)=((ee r.calls-1:Nat):Int):=by omega
 have HP:=ai (sW.o.adt hp);have hk:ee r.calls-1<=cap:=by omega
 simp only[bt,cw,b5,cx];generalize ee r.calls-1=k at *
 repeat(go_big_quiet_step (fail))
 refine lz ?_;have jK:af (aa (λj=>j=b\/Own (eK (eC ⟨g,0,ez⟩) (ee r.calls) cap) j) (w3.setCell ⟨G,0,ez⟩ (vN)) (W.setCell ⟨b,2,ez⟩ (eK (eC ⟨g,0,ez⟩) k cap))):=(jh.o.mono (λ_ _ h=>h.elim)).set (a:=⟨b,2,ez⟩) (.inl (.inl rfl)) _;have HBb:af (b≠B):=by rintro rfl;have h1:=iH.o;have h2:=sW.o.blk;unfold ak at h1 h2;rw[h1]at h2;cases h2
 have jr:af (ak (W.setCell ⟨b,2,ez⟩ (eK (eC ⟨g,0,ez⟩) k cap)) B #[vI v.so,vU v.bits,ia p2,ia p3] 190):=iH.o.setOther HBb.o _;clear sW iH jh HBb;go_upto_region 6 with fail;generalize W.setCell ⟨b,2,ez⟩ (eK (eC ⟨g,0,ez⟩) k cap)=W5 at *;have z0:=jr.o.c0;have z1:=jr.o.c1;have z2:=jr.o.c2;have z3:=jr.o.c3;clear jr x2 xf hi hk hcap;go_wp2_with fail;refine(HAN.o _ HP.o).mono ?_;rintro e w6 ⟨rfl,hr6,m6⟩;have Je:=ai hr6;have yq:=ai m6;clear hr6 m6 HAN;go_wp2_with fail;go_end0;exact⟨_,rfl,Je.o,rfl,w3,eH.o,jK.o.trans (yq.o.mono (λ_ _ h=>.inr h))⟩
theorem run_loadVar_rowM{P:jz}(w:tW)(g off:Nat)(ty:gh)(cs:tAV)(d:TypeDesc)(hc:∀j (h:j<cs.size),w.cell? ⟨g,off+j,ez⟩=eC cs[j])(hu:P.underlying ty=eC d) (hd:(match (generalizing:=false) d with|.struct _|.array _ _=>eJ|_=>eE)=eJ) (hi:(P.info? ty).map (·.size)=eC cs.size):(loadVar ty ⟨g,off,ez⟩).run P w=.ok (fW cs) w:=by
 have hl:=run_loadCells_list (P:=P) w ⟨g,off,ez⟩ cs.toList (λj v hv=>by
   have hadd:(⟨g,off,ez⟩:ju).add j=⟨g,off+j,ez⟩:=by unfold Addr.add;split<;>simp_all
   obtain⟨hj,hv⟩:=List.getElem?_eq_some_iff.1 hv;rw[hadd,hc j (by simpa using hj)]
   simpa using hv)
 cases hq:P.info? ty with
 |none=>simp[hq]at hi
 |some i =>
  have hs:i.size=cs.size:=by simpa [hq]using hi
  have hagg:(isAgg ty).run P w=.ok eJ w:=by unfold isAgg;rw[Sem.run_bind,run_underlying hu w];cases d<;>simp_all
  simp only[Array.length_toList,Array.toArray_toList]at hl;simp[loadVar,Sem.run_bind,hagg,sizeOf,typeInfo,hq,hs,hl]
theorem Ay{P:jz}{ops:Array fY}{rest:List fY}{o:fY}{a:Act}{w:tW}{Q:Exit->Act->tW->Prop}(hgd:o.guard=ez)(ty:gh)(x:Operand)(ho:o.op=.load ty x)(g off:Nat) (hx:a.eval x=ia (eC ⟨g,off,ez⟩)) (cs:tAV) (d:TypeDesc) (hc:∀j (h:j<cs.size),w.cell? ⟨g,off+j,ez⟩=eC cs[j])(hu:P.underlying ty=eC d) (hd:(match (generalizing:=false) d with|.struct _|.array _ _=>eJ|_=>eE)=eJ) (hi:(P.info? ty).map (·.size)=eC cs.size)(h:nB P ops Q rest (a.put o.dst (fW cs)) w):nB P ops Q (o::rest) a w :=
 wpList_plain hgd λ_ hK=>by unfold Oper.wp execOp;simp only[ho,hx,Instr.loadAt,Instr.sureAddr,Sem.run_bind,Sem.run_pure,Result.andThen_ok,run_loadVar_rowM w g off ty cs d hc hu hd hi];exact hK _ _ h
theorem eY{P:jz}{ops:Array fY}{rest:List fY}{o:fY}{a:Act}{w:tW}{Q:Exit->Act->tW->Prop}(hgd:o.guard=ez)(ty:gh)(x y:Operand)(ho:o.op=.store ty x y)(g:Nat) (cells:tAV) (hx:a.eval x=vP g) (hy:a.eval y=fW cells)(t:gh) (old:tAV) (hg:ak w g old t) (hi:(P.info? ty).map (·.size)=eC cells.size)(hold:old.size=cells.size) (h1:cells.all (·.oneCell')=eJ)(h:∀W,ak W g cells t->aa (Only g) w W->nB P ops Q rest (a.put o.dst kh) W):nB P ops Q (o::rest) a w :=
 wpList_store_row hgd ty x y ho g cells hx hy t old hg hi hold h1 (h _ (setRow_heap w g old cells t (0,0) hg) (Bh cells))
def aH.G8(r:aH)(fn k:Nat):aH:=(r.enter fn k).nV 1 ((r.top.regs.drop 1).take 5)
def atU(v:MV)(j:Int):Nat:=(((v.bits:Int)+j)%18446744073709551616).toNat
def leN:tLN->Nat
 |[]=>0
 |b::l=>b+256*leN l
def putB(l:tLN)(A num:Nat):Nat->tLN
 |0=>l
 |k+1=>(putB l A num k).set (A+k) (num/2 ^ (8*k)%256)
theorem Kf(l:tLN)(A num k:Nat):ee (putB l A num k)=ee l:=by
 induction k with
 |zero=>rfl
 |succ k ih=>rw[putB,b9,ih]
def jL(gs:List tLN)(v:MV)(j:Int)(s:Nat):Nat:=if v.so≠2 then 2 else if atU v j+s<=ee (gs.getD (v.bq.getD 0) []) then 0 else 3
def WQ(gs:List tLN)(v:MV)(j:Int)(s:Nat):Nat:=leN (((gs.getD (v.bq.getD 0) []).drop (atU v j)).take s)
def storeT(gs:List tLN)(v:MV)(j:Int)(s:Nat)(x:MV):Nat:=if x.so≠0 then 2 else jL gs v j s
def abP(gs:List tLN)(v:MV)(j:Int)(s:Nat)(x:MV):List tLN:=gs.set (v.bq.getD 0) (putB (gs.getD (v.bq.getD 0) []) (atU v j) x.bits s)
def MV.Pt(v:MV)(n:Nat):Prop:=v.so=2->∃q,v.bq=eC q/\q<n
def G9(gs:List tLN):Prop:=∀g∈gs,ee g<=1000/\∀b∈g,b<256
section
variable {w : World} {rb mb : List Nat} {vs : List eM} {gs : List (List Nat)}
theorem G9.at(h:G9 gs)(q:Nat)(hq:q<ee gs):ee (gs.getD q [])<=1000/\∀b∈gs.getD q [],b<256:=by rw[List.getD_eq_getElem?_getD,List.getElem?_eq_getElem hq];exact h _ (an _)
end
def WR(l:tLN):tLV:=l.map λ(n:Nat)=>Value.int .u64 n
def aH.logged(r:aH)(n:Nat):aH:=aH.answer {r with log:=r.log++[n]} (qp 0)
def kF(s:tBA):tLN:=s.data.toList.map (·.toNat)
def nW(s:tBA):tBA:=s.extract 0 (min s.size 32)
theorem MT(w:tW)(inp:tBA)(hi:inp.size<=1000):∃cap W1,(convert 9 162 (eI inp)).run prog w=.ok (eK (eC ⟨w.heap.size,0,ez⟩) inp.size cap) W1/\aa ah w W1/\Bi W1 (eK (eC ⟨w.heap.size,0,ez⟩) inp.size cap) inp.size (kF inp)/\W1.heap.size=w.heap.size+1:=by
 have hc:=run_bytes_of_string (P:=prog) w 9 162 5 inp underlying9 underlying162 underlying5;have h1:=grownCap_ge w inp.size 0 5;have h2:=grownCap_le_maxLen w inp.size 0 5 (by unfold maxLen;omega);refine⟨_,_,hc,((aa.refl ah w).drew).alloc _,⟨?_,.inr ⟨w.heap.size,pL w inp.size 0 5,tB inp (pL w inp.size 0 5),(tB inp (pL w inp.size 0 5)).size,(tB inp (pL w inp.size 0 5)).size+1,rfl,?_,h1,h2,.inr ?_,?_⟩⟩,?_⟩
 ·unfold kF;rw[ao];rfl
 ·exact heap_alloc_new w.drew _
 ·unfold tB;rw[Array.size_append,Array.size_map];exact Nat.le_add_right _ _
 ·unfold tB KR kF;rw[Array.toList_append,Array.toList_map,List.take_append_of_le_length (by rw[ao];exact cD _),cX (by rw[ao];exact cD _),List.map_map];rfl
 ·rw[World.size_alloc];rfl
theorem yx.MU{w w':tW}{rb:tLN}{vs:tLV}{gs:List tLN}(h:yx w rb vs gs){b:Nat}{cs:tAV}{t t':gh}{size n:Nat}{v:eM}{xs:tLV}(hb:ak w b cs t)(h1:t≠182)(h2:t≠5)(hs:Sl w t' size v n xs)(h3:t'≠182)(h4:t'≠5)(m:aa (λk=>k=b\/Own v k) w w'):yx w' rb vs gs :=
 h.ae m (λi hi e=>by
  rcases e with e|e
  ·have:=h.blk i hi;rw[e]at this;unfold ak at this hb;rw[hb]at this;cases this;exact h1 rfl
  ·exact hs.ay (h.blk i hi) h3 e) (λi k hi hk e=>by
  rcases e with e|e
  ·subst e;exact(h.sl i hi).ay hb h2 hk
  ·exact(h.sl i hi).apart hs h4 hk e)
theorem yx.addN{w:tW}{rb:tLN}{vs:tLV}{gs:List tLN}(h:yx w rb vs gs)(N:Nat)(ho:∀i,i<ee gs->rb.getD i 0<N/\∀k,(vs.getD i kh).ownBlock=eC k->k<N)(b:Nat)(v:eM)(g:tLN)(hb:ak w b #[v] 182)(hs:Bi w v (ee g) g)(h1:N<=b)(h2:∀k,v.ownBlock=eC k->N<=k):yx w (rb++[b]) (vs++[v]) (gs++[g]):=by
 have e1:=h.lr;have e2:=h.lv;refine⟨by simp[e1],by simp[e2],λi hi=>?_,λi hi=>?_,λi j hi hj e=>?_,λi j k hi hj e e'=>?_⟩
 all_goals simp only[ab,cI,List.length_nil]at *
 ·rw[ed,ed,e1,e2];by_cases hh:i<ee gs
  ·rw[iP9 hh,iP9 hh];exact h.blk i hh
  ·rw[iN9 hh,iN9 hh,iP9 (by omega),iP9 (by omega)];exact hb
 ·rw[ed,ed,e2];by_cases hh:i<ee gs
  ·rw[iP9 hh,iP9 hh];exact h.sl i hh
  ·rw[iN9 hh,iN9 hh,iP9 (by omega),iP9 (by omega)];exact hs
 ·rw[ed,ed,e1]at e;by_cases hi':i<ee gs<;>by_cases hj':j<ee gs
  ·rw[iP9 hi',iP9 hj']at e;exact h.inj i j hi' hj' e
  ·rw[iP9 hi',iN9 hj',iP9 (by omega)]at e;have:=(ho i hi').1;omega
  ·rw[iN9 hi',iP9 hj',iP9 (by omega)]at e;have:=(ho j hj').1;omega
  ·omega
 ·rw[ed,e2]at e e';by_cases hi':i<ee gs<;>by_cases hj':j<ee gs
  ·rw[iP9 hi']at e;rw[iP9 hj']at e';exact h.Sb i j k hi' hj' e e'
  ·rw[iP9 hi']at e;rw[iN9 hj',iP9 (by omega)]at e';have:=(ho i hi').2 k e;have:=h2 k e';omega
  ·rw[iN9 hi',iP9 (by omega)]at e;rw[iP9 hj']at e';have:=(ho j hj').2 k e';have:=h2 k e;omega
  ·omega
def Fu(fn F q n:Nat):aH:=(((({fuel:=F,inp:=q}:aH).enter fn (q+1)).ik 1 (wy q 0)).ik 2 (qp n))
theorem Sh(w:tW)(rb mb:tLN)(vs:tLV)(gs:List tLN)(hR:yx w rb vs gs)(oM:Option ju)(nM cM:Nat)(fn:Nat)(s:tBA)(hs:s.size<=9223372036854775807)(fuel:Int)(hf:-9223372036854775808<=fuel/\fuel<=9223372036854775807):fL prog 39 #[eK oM nM cM,vI fn,eI s,vI fuel] w λe w'=>∃b R S v1 v2 vC,e=fR (vP b)/\aV w' b (rb++[R]++[S]) mb (eK oM nM cM) vC (vN) (Fu fn (min (max fuel 0) 5000).toNat (ee gs) (nW s).size)/\yx w' (rb++[R]++[S]) (vs++[v1]++[v2]) (gs++[kF (nW s)]++[dx])/\aa ah w w'/\w.heap.size<=b/\(∀k,vC.ownBlock=eC k->w.heap.size<=k)/\w.heap.size<=R/\w.heap.size<=S/\(∀k,v1.ownBlock=eC k->w.heap.size<=k)/\(∀k,v2.ownBlock=eC k->w.heap.size<=k):=by
 have hmin:min (s.size:Int) 32=((min s.size 32:Nat):Int):=by omega
 have hfu:min (max fuel 0) 5000=(((min (max fuel 0) 5000).toNat:Nat):Int):=by omega
 generalize(min (max fuel 0) 5000).toNat=F at *;have HIS:af ((s.extract 0 (min s.size 32)).size<=32):=by unfold af;rw[ByteArray.size_extract];omega
 unfold nW;generalize afs:s.extract 0 (min s.size 32)=inp at *;obtain⟨cap,W1,hcv,m1,hb1,hsz⟩:=MT w inp (by have:=HIS.o;omega);have HCV:=ai hcv;have HLR:=ai hR.lr;have HLV:=ai hR.lv;have HRQ:af (yx (W1.alloc (eR #[eK (eC ⟨w.heap.size,0,ez⟩) inp.size cap] 182)) (rb++[W1.heap.size]) (vs++[eK (eC ⟨w.heap.size,0,ez⟩) inp.size cap]) (gs++[kF inp])):=by have hl:=hb1.1;refine hR.add (m1.alloc _) _ _ _ (ak.new W1 _ _) (by rw[hl];exact hb1.ae ((aa.refl ah W1).alloc _) (λ_ _=>id)) (by omega) (λk hk=>by cases hk;exact cD _)
 have dV:=ai (m1.alloc (eR #[eK (eC ⟨w.heap.size,0,ez⟩) inp.size cap] 182));have HS2:af ((W1.alloc (eR #[eK (eC ⟨w.heap.size,0,ez⟩) inp.size cap] 182)).heap.size=W1.heap.size+1):=World.size_alloc _ _;have TL:=ai hsz;clear hcv m1 hb1 hsz hR;go_in;go_upto_region 3 with(first|rw[HCV.o]|rw[afs,HCV.o])
 generalize W1.alloc (eR #[eK (eC ⟨w.heap.size,0,ez⟩) inp.size cap] 182)=W2 at *;rw[<-HS2.o];clear HCV;generalize hRe:W1.heap.size=R at *;have HRe:=ai hRe;have HRN:af (w.heap.size<=R):=by have:=TL.o;have:=HRe.o;unfold af;omega
 clear hRe;have HB3:=ai (ak.new W2 #[eK oM nM cM,vP R,vN,vI F,vI 0,vN,vU 0,fS eE] 185);have eH:=ai (dV.o.alloc (eR #[eK oM nM cM,vP R,vN,vI F,vI 0,vN,vU 0,fS eE] 185));have tJ:af (yx (W2.alloc (eR #[eK oM nM cM,vP R,vN,vI F,vI 0,vN,vU 0,fS eE] 185)) (rb++[R]) (vs++[eK (eC ⟨w.heap.size,0,ez⟩) inp.size cap]) (gs++[kF inp])):=HRQ.o.quiet ((aa.refl ah W2).alloc _);have HBN:=ai dV.o.size;generalize W2.alloc (eR #[eK oM nM cM,vP R,vN,vI F,vI 0,vN,vU 0,fS eE] 185)=W3 at *;generalize W2.heap.size=b at *;have HGR:af ((rb++[R]).getD (ee gs) 0=R):=by unfold af;rw[ed,HLR.o,iN9 (cb _),iP9 rfl]
 have lq:af (aV W3 b (rb++[R]) mb (eK oM nM cM) (vN) (vN) {fuel:=F,inp:=ee gs}):=⟨by rw[HGR.o];exact HB3.o,Sl.nil _ _ _,(λf hf=>by cases hf),by show 0<=8;omega⟩
 have HEN:=ai (Sd W3 b (rb++[R]) mb _ _ _ _ lq.o (by show 0<8;omega) fn ⟨by show ee gs<ee (rb++[R]);rw[ab,HLR.o];exact Nat.lt_succ_self _,λf hf=>by cases hf⟩);clear HRQ HB3;go_wp2_with fail;refine HEN.o.mono ?_;rintro e w4 ⟨vC,rfl,hr4,m4,l4,g4,s4⟩;have sW:=ai ((tJ.o.MU lq.o.blk (by decide) (by decide) lq.o.calls (by decide) (by decide) m4).addN W3.heap.size (λi hi=>⟨(tJ.o.blk i hi).lt,λk hk=>(tJ.o.sl i hi).lt k hk⟩) _ _ _ g4 (s4.bys rfl) (Nat.le_succ _) (λk hk=>by cases hk;exact cD _));have jh:=ai ((eH.o.mono (λ_ _ h=>h.elim)).trans (m4.mono (λ_ _ h=>h.elim id (λh=>by cases h))));have Tp:af (∀k,vC.ownBlock=eC k->w.heap.size<=k):=λk hk=>(l4 k hk).elim (λh=>by cases h) (λh=>by have:=eH.o.size;omega);have Ib:af (ee (rb++[R])=ee gs+1):=by unfold af;rw[ab,HLR.o];rfl
 have Yb:af (aV w4 b (rb++[R]++[W3.heap.size+1]) mb (eK oM nM cM) vC (vN) (({fuel:=F,inp:=ee gs}:aH).enter fn (ee gs+1))):=by rw[<-Ib.o];exact hr4
 have HSN:af (w.heap.size<=W3.heap.size+1):=by have:=eH.o.size;unfold af;omega
 have HSV:=ai eH.o.size;generalize W3.heap.size+1=S at *;have HGS:af ((rb++[R]++[S]).getD (ee gs) 0=R):=by unfold af;rw[kY _ _ _ _ (by rw[Ib.o];omega)];exact HGR.o
 clear hr4 m4 l4 g4 s4 HEN tJ lq eH
 have xz:af (∀fn':aH,0<(({fuel:=F,inp:=ee gs}:aH).enter fn (ee gs+1)).calls.length):=λ_=>by
  unfold aH.enter;rw[aH.jf];show 0<ee ([]++[_])
  exact Nat.succ_pos _
 generalize hr0:({fuel:=F,inp:=ee gs}:aH).enter fn (ee gs+1)=r0 at *;have HVP:af (∀w',fL prog 80 #[vP R,vU 0] w' λe w''=>e=fR (fW #[vI 2,vU 0,vP R,vO])/\aa ah w' w''):=λw'=>by have:=Kc w' (rb++[R]++[S]) mb (ee gs) 0;rw[HGS.o]at this;unfold wy MV.cells at this;simp only[cR,dt,HGS.o]at this;exact this
 have HST:af (∀w',aa ah w4 w'->fL prog 79 #[vP b,vB 1,fW #[vI 2,vU 0,vP R,vO]] w' λe w''=>e=fR (gb #[])/\aV w'' b (rb++[R]++[S]) mb (eK oM nM cM) vC (vN) (r0.ik 1 (wy (ee gs) 0))/\aa (Own vC) w' w''):=λw' m=>by have:=BN w' b (rb++[R]++[S]) mb _ _ _ _ (Yb.o.quiet m) (xz.o r0) 1 (by omega) (wy (ee gs) 0);unfold wy MV.cells at this;simp only[cR,dt,HGS.o]at this;exact this
 go_wp2_with fail;refine(HVP.o _).mono ?_;rintro e w5 ⟨rfl,m5⟩;have jK:=ai m5;clear m5 HVP;go_wp2_with fail;refine(HST.o _ jK.o).mono ?_;rintro e w6 ⟨rfl,hr6,m6⟩;have h5:=Yb.o.quiet jK.o;have Je:=ai ((sW.o.quiet jK.o).MU h5.blk (by decide) (by decide) h5.calls (by decide) (by decide) (m6.mono (λ_ _ h=>.inr h)));have HA6:=ai hr6;have yq:af (aa (λk=>k=b\/Own vC k) w w6):=((jh.o.mono (λ_ _ h=>.inl h)).trans (jK.o.mono (λ_ _ h=>h.elim))).trans (m6.mono (λ_ _ h=>.inr h));have z0:w6.cell? ⟨R,0,ez⟩=eC (eK (eC ⟨w.heap.size,0,ez⟩) inp.size cap):=by have hb:=Je.o.blk (ee gs) (by simp only[ab,cI,List.length_nil];omega);rw[HGS.o]at hb;rw[kY _ _ _ _ (by rw[ab,HLV.o];exact Nat.lt_succ_self _),ed,HLV.o,iN9 (cb _),iP9 rfl]at hb;exact hb.cell 0
 have HVN:af (∀w',fL prog 81 #[vU inp.size] w' λe w''=>e=fR (fW #[vI 0,vU inp.size,vO,vO])/\aa ah w' w''):=λw'=>DH w' [] [] inp.size;have pO:af (0<(r0.ik 1 (wy (ee gs) 0)).calls.length):=by unfold af;rw[aH.jf];exact xz.o r0
 have HS7:af (∀w',aa ah w6 w'->fL prog 79 #[vP b,vB 2,fW #[vI 0,vU inp.size,vO,vO]] w' λe w''=>e=fR (gb #[])/\aV w'' b (rb++[R]++[S]) mb (eK oM nM cM) vC (vN) (Fu fn F (ee gs) inp.size)/\aa (Own vC) w' w''):=λw' m=>by have:=BN w' b (rb++[R]++[S]) mb _ _ _ _ (HA6.o.quiet m) pO.o 2 (by omega) (qp inp.size);unfold Fu;rw[hr0];exact this
 have hwr:IntKind.u64.wrap (inp.size:Int)=inp.size:=IntWalk.u64_in _ (by have:=HIS.o;omega);clear hr6 m6 h5 HST sW Yb jh jK;go_wp2_with fail;refine(HVN.o _).mono ?_;rintro e w7 ⟨rfl,m7⟩;have J4:=ai m7;clear m7 HVN z0;go_wp2_with fail;refine(HS7.o _ J4.o).mono ?_;rintro e w8 ⟨rfl,hr8,m8⟩;have HA8:=ai hr8;have Gf:=ai m8;clear hr8 m8 HS7;go_wp2_with fail;go_ret;have h7:=HA6.o.quiet J4.o;have hm:=(yq.o.trans (J4.o.mono (λ_ _ h=>h.elim))).trans (Gf.o.mono (λ_ _ h=>.inr h));exact⟨b,R,S,_,_,vC,rfl,HA8.o,(Je.o.quiet J4.o).MU h7.blk (by decide) (by decide) h7.calls (by decide) (by decide) (Gf.o.mono (λ_ _ h=>.inr h)),(aa.refl ah w).step hm (λk hk e=>by rcases e with e|e;(have:=HBN.o;omega);(have:=Tp.o k e;omega)),HBN.o,Tp.o,HRN.o,HSN.o,λk hk=>by cases hk;exact cD _,λk hk=>by cases hk;exact HSV.o⟩
def strOf(l:tLN):tBA:=⟨(l.map UInt8.ofNat).toArray⟩
theorem MW(w:tW)(g n cap:Nat)(l:tLN)(hb:∀b∈l,b<256)(h:Bi w (eK (eC ⟨g,0,ez⟩) n cap) n l):(convert 162 9 (eK (eC ⟨g,0,ez⟩) n cap)).run prog w=.ok (eI (strOf l)) w:=by
 have hl:=h.1
 have key:=run_convert_bytes_back (P:=prog) w 162 9 5 ⟨g,0,ez⟩ cap (l.map UInt8.ofNat) underlying162 underlying5 underlying9 (λj hj=>by
  have hadd:(⟨g,0,ez⟩:ju).add j=⟨g,j,ez⟩:=by unfold Addr.add;split<;>simp_all
  have hj':j<ee l:=by simpa using hj
  rw[hadd,(h.cell j (by omega)).1,List.getD_eq_getElem?_getD,List.getElem?_eq_getElem hj'];have:=hb l[j] (an _);simp only[dq,Option.getD_some];rw[show(UInt8.ofNat l[j]).toNat=l[j]from by rw[UInt8.toNat_ofNat'];omega])
 rw[ao,hl]at key;exact key
def tH(x:Int):Nat:=(x%18446744073709551616).toNat
def s64(n:Nat):Int:=RowKit.wrap64 (n:Int)
def adu(a k:Nat):Nat:=tH (s64 a/2 ^ k)
def adv(a k:Nat):Nat:=tH (s64 (tH ((a:Int)*4294967296))/4294967296/2 ^ k)
def Si(n:Nat):Nat:=n%4294967296
def ofP(k a b n:Nat):Nat:=match k with
 |0=>tH ((a:Int)+b)
 |1=>tH ((a:Int)-b)
 |2=>tH ((a:Int)*b)
 |3=>if b=0 then 0 else a/b
 |4=>if b=0 then a else a%b
 |5=>a &&& b
 |6=>a ||| b
 |7=>a ^^^ b
 |8=>tH ((a:Int)*2 ^ (b%n))
 |9=>a/2 ^ (b%n)
 |10=>if n=64 then adu a (b%n)else adv a (b%n)
 |_=>tH (-(a:Int))
def rkP(m k:Nat)(d s:MV):Option MV:=match m with
 |0=>eC s
 |1=>if s.so=0 then eC (qp (Si s.bits))else ez
 |2=>if d.so=0/\s.so=0 then eC (qp (ofP k d.bits s.bits 64))else ez
 |3=>if d.so=0/\s.so=0 then eC (qp (Si (ofP k (Si d.bits) (Si s.bits) 32)))else ez
 |_=>if d.so=2 then(if s.so=0 then eC {d with bits:=ofP k d.bits s.bits 64}else ez)else if d.so=0/\s.so=0 then eC (qp (ofP k d.bits s.bits 64))else ez
def cmP(k a b:Nat):Bool:=match k with
 |0=>eS (b<a)
 |1=>eS (b<=a)
 |2=>eS (a<b)
 |3=>eS (a<=b)
 |_=>eS (a &&& b≠0)
def csP(k:Nat)(a b:Int):Bool:=match k with
 |0=>eS (b<a)
 |1=>eS (b<=a)
 |2=>eS (a<b)
 |_=>eS (a<=b)
def soP(m k:Nat)(d s:MV):Option Bool:=match m with
 |0=>eC (d.eqB s)
 |1=>eC (!d.eqB s)
 |2=>if d.so=0/\s.so=0 then eC (cmP k d.bits s.bits)else ez
 |_=>if d.so=0/\s.so=0 then eC (csP k (s64 d.bits) (s64 s.bits))else ez
structure BB where
 name:tLB
 key:Nat
 value:Nat
 most:Nat
 kZ:List (tLN×Nat)
structure bZ where
 r:aH
 gs:List tLN
 ms:List BB
def zl:BB:=⟨[],0,0,0,[]⟩
def oW(gs:List tLN)(v:MV)(n:Nat):tLN:=((gs.getD (v.bq.getD 0) []).drop (atU v 0)).take n
def abQ:tLN->tLN->Bool
 |[],[]=>eE
 |[],_::_=>eJ
 |_::_,[]=>eE
 |a::l,b::m=>if a<b then eJ else if b<a then eE else abQ l m
def DJ(l:List (tLN×Nat))(key:tLN):Nat:=l.countP (λe=>abQ e.1 key)
def MX(l:List (tLN×Nat))(key:tLN):Bool:=eS (DJ l key<ee l)&&eS ((l.getD (DJ l key) ([],0)).1=key)
def MZ(l:List (tLN×Nat))(key:tLN):Nat:=(l.getD (DJ l key) ([],0)).2
def bZ.mapOf(s:bZ)(t:Nat):BB:=s.ms.getD t zl
def bZ.ans(s:bZ)(v:MV):bZ:={s with r:=s.r.answer v}
def bZ.t1(s:bZ):Nat:=(s.r.bq 1).tab.getD 0
def Sj(s:bZ):Nat×bZ :=
 if(s.r.bq 1).so≠1 then(2,s)
 else if jL s.gs (s.r.bq 2) 0 (s.mapOf s.t1).key≠0 then(jL s.gs (s.r.bq 2) 0 (s.mapOf s.t1).key,s)
 else(0,s.ans (if MX (s.mapOf s.t1).kZ (oW s.gs (s.r.bq 2) (s.mapOf s.t1).key)then wy (MZ (s.mapOf s.t1).kZ (oW s.gs (s.r.bq 2) (s.mapOf s.t1).key)) 0 else qp 0))
def Ha(s:bZ)(t:Nat)(key val:tLN):bZ×Bool :=
 if MX (s.mapOf t).kZ key then({s with gs:=s.gs.set (MZ (s.mapOf t).kZ key) val},eJ)
 else if(s.mapOf t).kZ.length=(s.mapOf t).most then(s,eE)
 else({s with gs:=s.gs++[val],ms:=s.ms.set t {s.mapOf t with kZ:=(s.mapOf t).kZ.take (DJ (s.mapOf t).kZ key)++(key,ee s.gs)::(s.mapOf t).kZ.drop (DJ (s.mapOf t).kZ key)}},eJ)
def Sk(s:bZ):Nat×bZ :=
 if(s.r.bq 1).so≠1 then(2,s)
 else if jL s.gs (s.r.bq 2) 0 (s.mapOf s.t1).key≠0 then(jL s.gs (s.r.bq 2) 0 (s.mapOf s.t1).key,s)
 else if jL s.gs (s.r.bq 3) 0 (s.mapOf s.t1).value≠0 then(jL s.gs (s.r.bq 3) 0 (s.mapOf s.t1).value,s)
 else(0,(Ha s s.t1 (oW s.gs (s.r.bq 2) (s.mapOf s.t1).key) (oW s.gs (s.r.bq 3) (s.mapOf s.t1).value)).1.ans (qp (if(Ha s s.t1 (oW s.gs (s.r.bq 2) (s.mapOf s.t1).key) (oW s.gs (s.r.bq 3) (s.mapOf s.t1).value)).2 then 0 else 1)))
def Hd(s:bZ)(t:Nat)(key:tLN):bZ×Bool :=
 if MX (s.mapOf t).kZ key then({s with gs:=s.gs.set (MZ (s.mapOf t).kZ key) [],ms:=s.ms.set t {s.mapOf t with kZ:=(s.mapOf t).kZ.take (DJ (s.mapOf t).kZ key)++(s.mapOf t).kZ.drop (DJ (s.mapOf t).kZ key+1)}},eJ)
 else(s,eE)
def Sm(s:bZ):Nat×bZ :=
 if(s.r.bq 1).so≠1 then(2,s)
 else if jL s.gs (s.r.bq 2) 0 (s.mapOf s.t1).key≠0 then(jL s.gs (s.r.bq 2) 0 (s.mapOf s.t1).key,s)
 else(0,(Hd s s.t1 (oW s.gs (s.r.bq 2) (s.mapOf s.t1).key)).1.ans (qp (if(Hd s s.t1 (oW s.gs (s.r.bq 2) (s.mapOf s.t1).key)).2 then 0 else 1)))
def Kg(s:bZ):Nat×bZ :=
 if(s.r.bq 1).so≠0 then(2,s)
 else if ee s.r.log=20 then(5,s)
 else(0,{s with r:=s.r.logged (s.r.bq 1).bits})
def zm(bq:Bool)(x:PI)(s:bZ):MV:=if bq then s.r.bq x.s else qp (tH x.num)
def PI.WS(x:PI):Nat:=(x.high%4294967296).toNat*4294967296+(x.num%4294967296).toNat
def doP(d:UR)(x:PI)(s:bZ):Nat×bZ:=match d.t with
 |0=>match rkP d.m d.k (s.r.bq x.d) (zm d.bq x s)with
  |none=>(2,s)
  |some v=>(0,{s with r:=s.r.ik x.d v})
 |1=>match soP d.m d.k (s.r.bq x.d) (zm d.bq x s)with
  |none=>(2,s)
  |some b=>(0,if b then{s with r:=s.r.mI (x.target s.r.top.slot).toNat}else s)
 |2=>(0,{s with r:=s.r.mI (x.target s.r.top.slot).toNat})
 |3=>if jL s.gs (s.r.bq x.s) x.jump d.k=0 then(0,{s with r:=s.r.ik x.d (qp (WQ s.gs (s.r.bq x.s) x.jump d.k))})else(jL s.gs (s.r.bq x.s) x.jump d.k,s)
 |4=>if storeT s.gs (s.r.bq x.d) x.jump d.k (zm d.bq x s)=0 then(0,{s with gs:=abP s.gs (s.r.bq x.d) x.jump d.k (zm d.bq x s)})else(storeT s.gs (s.r.bq x.d) x.jump d.k (zm d.bq x s),s)
 |5=>(0,{s with r:=s.r.ik x.d (if x.s=1 then mmap x.num.toNat else qp x.WS)})
 |6=>if x.s=1 then(if ee s.r.calls=8 then(4,s)else(0,{s with r:=s.r.G8 x.num.toNat (ee s.gs),gs:=s.gs++[dx]}))
  else if x.num=1 then Sj s else if x.num=2 then Sk s else if x.num=3 then Sm s else Kg s
 |_=>if ee s.r.calls=1 then(if(s.r.bq 0).so=0 then(0,{s with r:=s.r.finish (s.r.bq 0).bits})else(2,s))
  else(0,{s with r:=s.r.back,gs:=s.gs.set s.r.top.qA []})
def adw:PI:=⟨0,0,0,0,0,0,[]⟩
def Az(fs:List cZ)(fn slot:Nat):PI:=match (atS 0 (fs.getD fn ⟨[],[]⟩).code).find? (λp=>p.2==slot)with
 |none=>adw
 |some p=>p.1
def bZ.ins(fs:List cZ)(s:bZ):PI:=Az fs s.r.top.fn s.r.top.slot
def bZ.begin(s:bZ)(n:Nat):bZ:={s with r:=s.r.begin n}
def bZ.jw(s:bZ):bZ:={s with r:=s.r.jw}
def bZ.did(fs:List cZ)(s:bZ):Nat×bZ:=doP (dw (s.ins fs).o.code) (s.ins fs) (s.begin (s.ins fs).o.slots)
def iK(fs:List cZ)(s:bZ):Nat×bZ :=
 if s.r.used=s.r.fuel then(1,s)
 else if(s.did fs).1=0 then(0,(s.did fs).2.jw)else s.did fs
def followP(fs:List cZ):Nat->bZ->Nat×bZ
 |0,s=>(0,s)
 |n+1,s=>if s.r.ended then(0,s)else if(iK fs s).1=0 then followP fs n (iK fs s).2 else iK fs s
structure WT where
 trap:Nat:=0
 fn:tLB:=[]
 slot:Nat:=0
 r0:Nat:=0
 inp:tLN:=[]
 log:tLN:=[]
 used:Nat:=0
def uV(fs:List cZ)(d:Nat×bZ):WT :=
 if d.1=0 then⟨0,[],0,d.2.r.r0,d.2.gs.getD d.2.r.inp [],d.2.r.log,d.2.r.used⟩
 else⟨d.1,(fs.getD d.2.r.top.fn ⟨[],[]⟩).name,d.2.r.top.slot,d.2.r.r0,d.2.gs.getD d.2.r.inp [],d.2.r.log,d.2.r.used⟩
def Ov(fuel:Int):Nat:=(min (max fuel 0) 5000).toNat
def uW(gs:List tLN)(ms:List BB)(fn:Nat)(inp:tBA)(fuel:Int):bZ:=⟨Fu fn (Ov fuel) (ee gs) (nW inp).size,gs++[kF (nW inp)]++[dx],ms⟩
def He(fs:List cZ)(gs:List tLN)(ms:List BB)(fn:Nat)(inp:tBA)(fuel:Int):Nat×bZ:=followP fs (Ov fuel+2) (uW gs ms fn inp fuel)
def zn(fs:List cZ)(name:tLB):Option Nat:=fs.findIdx? (λf=>f.name==name)
def zo(fs:List cZ)(gs:List tLN)(ms:List BB)(name:tLB)(inp:tBA)(fuel:Int):WT×List tLN×List BB:=match zn fs name with
 |none=>({},gs,ms)
 |some fn=>(uV fs (He fs gs ms fn inp fuel),(He fs gs ms fn inp fuel).2.gs,(He fs gs ms fn inp fuel).2.ms)
def ji(ms:List aW):List BB:=ms.map λm=>⟨m.name,m.key,m.value,m.entries,[]⟩
theorem Fv(x:Int):IntKind.u64.wrap x=((tH x:Nat):Int):=by unfold tH;simp only[IntKind.wrap,IntKind.bits,IntKind.signed,Bool.false_and,Bool.false_eq_true,if_false];omega
theorem oZ(x:Int):tH x<18446744073709551616:=by unfold tH;omega
theorem aft(w:tW)(a b n:Nat):fL prog 210 #[vU a,vU b,vU n] w λe w'=>e=fR (vU (ofP 2 a b n))/\w'=w:=by go_in;go_wp2_with fail;go_ret;exact⟨congrArg (λx=>Ending.returned (vU x)) (Fv _),rfl⟩
theorem Na(k a b n:Nat)(ha:a<18446744073709551616)(hb:b<18446744073709551616):ofP k a b n<18446744073709551616:=by
 unfold ofP;split
 ·exact oZ _
 ·exact oZ _
 ·exact oZ _
 ·split
  ·omega
  ·have :=Nat.div_le_self a b;omega
 ·split
  ·exact ha
  ·have :=Nat.mod_le a b;omega
 ·exact Nat.lt_of_le_of_lt Nat.and_le_left ha
 ·exact Nat.or_lt_two_pow (n:=64) ha hb
 ·exact Nat.xor_lt_two_pow (n:=64) ha hb
 ·exact oZ _
 ·have:a/2 ^ (b%n)<=a:=Nat.div_le_self a _;omega
 ·split
  ·exact oZ _
  ·exact oZ _
 ·exact oZ _
theorem Ow(n:Nat):Si n<18446744073709551616:=by unfold Si;omega
def Ty(w:tW)(k:Nat)(t:gh):Prop:=∃cs fr,w.heap[k]?=eC (eR cs t fr)
theorem Ty.one{w:tW}{k:Nat}{t u:gh}(h:Ty w k t)(h':Ty w k u):t=u:=by obtain⟨cs,fr,e⟩:=h;obtain⟨cs',fr',e'⟩:=h';rw[e]at e';injection e' with e';injection e' with _ e' _
theorem ak.ty{w:tW}{b:Nat}{cs:tAV}{t:gh}(h:ak w b cs t):Ty w b t:=⟨cs,_,h⟩
theorem Sl.ty{w:tW}{e:gh}{size n k:Nat}{v:eM}{xs:tLV}(h:Sl w e size v n xs)(hk:v.ownBlock=eC k):Ty w k e:=by
 rcases h.2 with⟨rfl,_⟩ |⟨g,cap,cur,rfl,_,hg,_⟩
 ·cases hk
 ·cases hk;exact⟨_,_,hg⟩
theorem Bi.ty{w:tW}{n k:Nat}{v:eM}{l:tLN}(h:Bi w v n l)(hk:v.ownBlock=eC k):Ty w k 5:=by
 rcases h.2 with⟨rfl,_⟩ |⟨g,cap,cur,lo,hi,rfl,hg,_⟩
 ·cases hk
 ·cases hk;exact⟨_,_,hg⟩
def kJ(L:List gh)(w w':tW):Prop:=aa (λk=>∃t∈L,Ty w k t) w w'
section
variable {w w' : World} {L : List gh}
theorem kJ.of{S:Nat->Prop}(m:aa S w w')(h:∀k,S k->∃t∈L,Ty w k t):kJ L w w':=m.mono (λk _ hk=>h k hk)
theorem Ty.nt{k:Nat}{t:gh}(h:Ty w k t)(hL:t ∉ L):¬ ∃u∈L,Ty w k u:=fun⟨u,hu,hk⟩=>hL (h.one hk ▸ hu)
theorem ak.fV{b:Nat}{cs:tAV}{t:gh}(h:ak w b cs t)(m:kJ L w w')(hL:t ∉ L):ak w' b cs t:=h.ae m (h.ty.nt hL)
theorem Sl.fV{e:gh}{size n:Nat}{v:eM}{xs:tLV}(h:Sl w e size v n xs)(m:kJ L w w')(hL:e ∉ L):Sl w' e size v n xs:=h.ae m (λ_ hk=>(h.ty hk).nt hL)
theorem Bi.fV{n:Nat}{v:eM}{l:tLN}(h:Bi w v n l)(m:kJ L w w')(hL:5 ∉ L):Bi w' v n l:=h.ae m (λ_ hk=>(h.ty hk).nt hL)
theorem yx.fV{rb:tLN}{vs:tLV}{gs:List tLN}(h:yx w rb vs gs)(m:kJ L w w')(h1:182 ∉ L)(h2:5 ∉ L):yx w' rb vs gs :=
 ⟨h.lr,h.lv,λi hi=>(h.blk i hi).fV m h1,λi hi=>(h.sl i hi).fV m h2,h.inj,h.Sb⟩
theorem aV.fV{b:Nat}{rb mb:tLN}{vM vC vL:eM}{r:aH}(h:aV w b rb mb vM vC vL r)(m:kJ L w w')(h1:185 ∉ L)(h2:273 ∉ L):aV w' b rb mb vM vC vL r :=
 ⟨h.blk.fV m h1,h.calls.fV m h2,h.regs,h.depth⟩
end
def meC(rb:tLN)(e:tLN×Nat):tLV:=[eI (strOf e.1),vP (rb.getD e.2 0)]
structure uX(w:tW)(rb mb:tLN)(vM:eM)(ve:tLV)(ms:List BB):Prop where
 lm:ee mb=ee ms
 le:ee ve=ee ms
 Eo:Sl w 114 1 vM (ee ms) (mb.flatMap mpC)
 blk:∀i,i<ee ms->ak w (mb.getD i 0) #[eI (T (ms.getD i zl).name),vI (ms.getD i zl).key,vI (ms.getD i zl).value,vI (ms.getD i zl).most,ve.getD i kh] 179
 sl:∀i,i<ee ms->Sl w 419 2 (ve.getD i kh) (ee (ms.getD i zl).kZ) ((ms.getD i zl).kZ.flatMap (meC rb))
 inj:∀i j,i<ee ms->j<ee ms->mb.getD i 0=mb.getD j 0->i=j
 aaj:∀i j k,i<ee ms->j<ee ms->(ve.getD i kh).ownBlock=eC k->(ve.getD j kh).ownBlock=eC k->i=j
theorem uX.fV{w w':tW}{L:List gh}{rb mb:tLN}{vM:eM}{ve:tLV}{ms:List BB}(h:uX w rb mb vM ve ms)(m:kJ L w w')(h1:114 ∉ L)(h2:179 ∉ L)(h3:419 ∉ L):uX w' rb mb vM ve ms :=
 ⟨h.lm,h.le,h.Eo.fV m h1,λi hi=>(h.blk i hi).fV m h2,λi hi=>(h.sl i hi).fV m h3,h.inj,h.aaj⟩
theorem uX.quiet{w w':tW}{rb mb:tLN}{vM:eM}{ve:tLV}{ms:List BB}(h:uX w rb mb vM ve ms)(m:aa ah w w'):uX w' rb mb vM ve ms :=
 ⟨h.lm,h.le,h.Eo.ae m (λ_ _=>id),λi hi=>(h.blk i hi).ae m id,λi hi=>(h.sl i hi).ae m (λ_ _=>id),h.inj,h.aaj⟩
def BB.In(m:BB)(n:Nat):Prop:=∀e∈m.kZ,e.2<n
theorem WU(rb:tLN)(x:Nat)(l:List (tLN×Nat))(h:∀e∈l,e.2<ee rb):l.flatMap (meC (rb++[x]))=l.flatMap (meC rb) :=
 si _ _ l (λe he=>by unfold meC;rw[kY _ _ _ _ (h e he)])
theorem uX.grow{w:tW}{rb mb:tLN}{vM:eM}{ve:tLV}{ms:List BB}(h:uX w rb mb vM ve ms)(x:Nat)(hi:∀m∈ms,m.In (ee rb)):uX w (rb++[x]) mb vM ve ms :=
 ⟨h.lm,h.le,h.Eo,h.blk,λi hi'=>by rw[WU rb x _ (λe he=>hi (ms.getD i zl) (by rw[List.getD_eq_getElem?_getD,List.getElem?_eq_getElem hi'];exact an hi') e he)];exact h.sl i hi',h.inj,h.aaj⟩
structure Ad where
 rb:tLN
 mb:tLN
 vs:tLV
 ve:tLV
 vM:eM
 vC:eM
 vL:eM
structure jk(F:Nat->Prop)(w:tW)(b:Nat)(a:Ad)(s:bZ):Prop where
 run:aV w b a.rb a.mb a.vM a.vC a.vL s.r
 Bj:yx w a.rb a.vs s.gs
 log:Sl w 53 1 a.vL (ee s.r.log) (WR s.r.log)
 maps:uX w a.rb a.mb a.vM a.ve s.ms
 fb:F b
 fc:∀k,a.vC.ownBlock=eC k->F k
 fl:∀k,a.vL.ownBlock=eC k->F k
 fr:∀x∈a.rb,F x
 fv:∀v∈a.vs,∀k,v.ownBlock=eC k->F k
 fm:∀x∈a.mb,F x
 fe:∀v∈a.ve,∀k,v.ownBlock=eC k->F k
section
variable {F : Nat -> Prop} {w w' : World} {b : Nat} {a : Ad} {s : bZ}
theorem jk.quiet(h:jk F w b a s)(m:aa ah w w'):jk F w' b a s :=
 ⟨h.run.quiet m,h.Bj.quiet m,h.log.ae m (λ_ _=>id),h.maps.quiet m,h.fb,h.fc,h.fl,h.fr,h.fv,h.fm,h.fe⟩
theorem jk.aaS(h:jk F w b a s)(k:Nat)(hk:k=b\/Own a.vC k):∃t∈[185,273],Ty w k t:=by
 rcases hk with rfl|hk
 ·exact⟨_,by simp,h.run.blk.ty⟩
 ·exact⟨_,by simp,h.run.calls.ty hk⟩
theorem jk.WV(h:jk F w b a s)(m:aa (λk=>k=b\/Own a.vC k) w w')(r:aH)(hr:aV w' b a.rb a.mb a.vM a.vC a.vL r)(hl:r.log=s.r.log):jk F w' b a {s with r:=r}/\aa F w w':=by
 have mT:=kJ.of m h.aaS;refine⟨⟨hr,h.Bj.fV mT (by decide) (by decide),?_,h.maps.fV mT (by decide) (by decide) (by decide),h.fb,h.fc,h.fl,h.fr,h.fv,h.fm,h.fe⟩,m.mono (λk _ hk=>?_)⟩
 ·show Sl w' _ _ _ (ee r.log) (WR r.log)
  rw[hl];exact h.log.fV mT (by decide)
 ·rcases hk with rfl|hk
  ·exact h.fb
  ·exact h.fc k hk
theorem jk.quiet'(h:jk F w b a s)(m:aa ah w w'):jk F w' b a s/\aa F w w':=⟨h.quiet m,m.mono (λ_ _ h=>h.elim)⟩
end
def gX(F:Nat->Prop)(w:tW)(b:Nat)(a:Ad)(d:Nat×bZ)(e:kx)(w':tW):Prop :=
 e=(if d.1=0 then fR (gb #[])else gN d.1)/\aa F w w'/\∃a',jk F w' b a' d.2/\a'.mb=a.mb/\a'.vM=a.vM
theorem gX.ok{F:Nat->Prop}{w w':tW}{b:Nat}{a:Ad}{s:bZ}(h:jk F w' b a s/\aa F w w'):gX F w b a (0,s) (fR (gb #[])) w':=⟨rfl,h.2,a,h.1,rfl,rfl⟩
theorem gX.trap{F:Nat->Prop}{w w':tW}{b:Nat}{a:Ad}{s:bZ}{t:Nat}(ht:t≠0)(h:jk F w b a s)(m:aa ah w w'):gX F w b a (t,s) (gN t) w':=⟨(iN9 ht).symm,(h.quiet' m).2,a,(h.quiet' m).1,rfl,rfl⟩
theorem wY{P:jz}{id:Nat}{Q:Exit->Act->tW->Prop}{a:Act}{w:tW}{l:List fY}(S:Nat->Prop)(n:Nat)(es:tLN)(hm:P.follows .mixedOrders=eJ)(hB:(du l.toArray&&eS (n<l.toArray.size)&&Region.sinkB .any l.toArray n&&Region.chainB .any l.toArray n&&chainB .any l.toArray es&&lexX .any l.toArray es (λj=>eS (j<n)) (Region.seqB .any l.toArray (l.toArray.size-n) n) (List.range' 0 (ee (l.take n))) (dy l.toArray.size eE))=eJ)(h:Nonempty (Ext S w)->af (aa S w w.drew)->wpMix P l.toArray (λw'=>∃e:Ext S w,w'=e.w) es (λa' w'=>nB P l.toArray Q (l.drop n) a' w') 0 (l.take n) a w.drew):(Code.region id l.toArray eJ).wp P Q a w :=
 dS n es _ hm hB ⟨⟨_,aU⟩,rfl⟩ (h (Ext.ne _ _) aU)
theorem pJ{P:jz}{id:Nat}{Q:Exit->Act->tW->Prop}{a:Act}{w:tW}{l:List fY}(S:Nat->Prop)(p:Nat)(es ks:tLN)(E:List PanicEntry->tW->Prop)(hm:P.follows .mixedOrders=eJ)(hB:(du l.toArray&&lexX .any l.toArray es (λi=>i != p) (λlisted=>Region.ready .any l.toArray listed==[p]) ks (dy l.toArray.size eE)&&chainB .any l.toArray es&&es.contains p&&eS (ee ks<l.toArray.size))=eJ)(hQ:∀c a' w',a'.defers=a.defers->E c w'->Q (.panic c) a' w')(h:Nonempty (Ext S w)->af (aa S w w.drew)->wpMixL P l.toArray (λw'=>∃e:Ext S w,w'=e.w) es (yA P l.toArray p a.defers E) ks a w.drew):(Code.region id l.toArray eJ).wp P Q a w :=
 C8 p es ks _ E hm hB ⟨⟨_,aU⟩,rfl⟩ hQ (h (Ext.ne _ _) aU)
def QA(w:tW)(f:kO)(args:tAV)(ek:kx):Prop:=∀w',aa ah w w'->fL prog f args w' λe w''=>e=ek/\aa ah w' w''
def QE(W:tW)(f:kO)(args:tAV)(ek:kx):Prop:=∀w',af (aa ah W w')->fL prog f args w' λe w''=>e=ek/\af (aa ah W w'')
theorem QA.to{w W:tW}{f:kO}{args:tAV}{ek:kx}(h:QA w f args ek)(m:aa ah w W):af (QE W f args ek):=λw' m'=>(h w' (m.trans m'.o)).mono λ_ _ hh=>⟨hh.1,m'.o.trans hh.2⟩
theorem Sn{W w':tW}{f:kO}{args:tAV}{ek:kx}(h:af (QE W f args ek))(m:af (aa ah W w')):fL prog f args w' λe w''=>e=ek/\af (aa ah W w''):=h.o w' m
theorem QA.all{w:tW}{f:kO}{args:tAV}{ek:kx}(h:∀w',fL prog f args w' λe w''=>e=ek/\aa ah w' w''):QA w f args ek:=λw' _=>h w'
theorem QA.same{w:tW}{f:kO}{args:tAV}{ek:kx}(h:∀w',fL prog f args w' λe w''=>e=ek/\w''=w'):QA w f args ek:=λw' _=>(h w').mono λ_ _ hh=>⟨hh.1,hh.2 ▸ aA⟩
theorem ak.four{w:tW}{b:Nat}{a0 a1 a2 a3:eM}{t:gh}(h:ak w b #[a0,a1,a2,a3] t):w.cell? ⟨b,0,ez⟩=eC a0/\w.cell? ⟨b,1,ez⟩=eC a1/\w.cell? ⟨b,2,ez⟩=eC a2/\w.cell? ⟨b,3,ez⟩=eC a3/\∀i,w.frozen? ⟨b,i,ez⟩=eE:=⟨h.cell 0,h.cell 1,h.cell 2,h.cell 3,h.frozen⟩
theorem ak.four'{w:tW}{b:Nat}{a0 a1 a2 a3:eM}{t:gh}(h:ak w b #[a0,a1,a2,a3] t):(∀e:Ext ah w,e.w.cell? ⟨b,0,ez⟩=eC a0)/\(∀e:Ext ah w,e.w.cell? ⟨b,1,ez⟩=eC a1)/\(∀e:Ext ah w,e.w.cell? ⟨b,2,ez⟩=eC a2)/\∀e:Ext ah w,e.w.cell? ⟨b,3,ez⟩=eC a3 :=
 ⟨λe=>(h.ae e.m id).cell 0,λe=>(h.ae e.m id).cell 1,λe=>(h.ae e.m id).cell 2,λe=>(h.ae e.m id).cell 3⟩
theorem ak.one'{w:tW}{b:Nat}{v:eM}{t:gh}(h:ak w b #[v] t)(e:Ext ah w):e.w.cell? ⟨b,0,ez⟩=eC v:=(h.ae e.m id).cell 0
theorem aaT{w X:tW}{b:Nat}{v0 v1 v2 v3:eM}(m:aa ah w X)(hb:w.heap.size<=b):aa ah w ((((X.setCell ⟨b,0,ez⟩ v0).setCell ⟨b,1,ez⟩ v1).setCell ⟨b,2,ez⟩ v2).setCell ⟨b,3,ez⟩ v3) :=
 (((m.set (a:=⟨b,0,ez⟩) (.inr hb) v0).set (a:=⟨b,1,ez⟩) (.inr hb) v1).set (a:=⟨b,2,ez⟩) (.inr hb) v2).set (a:=⟨b,3,ez⟩) (.inr hb) v3
structure V3(w W:tW)(d0 d1 d2 d3 s0 s1 s2 s3:eM):Prop where
 m:af (aa ah w W)
 d:af (ak W w.heap.size #[d0,d1,d2,d3] 190)
 s:af (ak W (w.heap.size+1) #[s0,s1,s2,s3] 190)
 b:af (ak W (w.heap.size+1+1) #[vI 0,vU 0,vO,vO] 190)
theorem V3.of(w:tW)(d0 d1 d2 d3 s0 s1 s2 s3:eM):V3 w (((w.alloc (eR #[d0,d1,d2,d3] 190)).alloc (eR #[s0,s1,s2,s3] 190)).alloc (eR #[vI 0,vU 0,vO,vO] 190)) d0 d1 d2 d3 s0 s1 s2 s3:=by
 refine⟨(aq.alloc _).alloc _,((ak.new w _ _).alloc _).alloc _,?_,?_⟩
 ·have:=(ak.new (w.alloc (eR #[d0,d1,d2,d3] 190)) #[s0,s1,s2,s3] 190).alloc (eR #[vI 0,vU 0,vO,vO] 190)
  rwa [World.size_alloc]at this
 ·have:=ak.new ((w.alloc (eR #[d0,d1,d2,d3] 190)).alloc (eR #[s0,s1,s2,s3] 190)) #[vI 0,vU 0,vO,vO] 190
  rwa [World.size_alloc,World.size_alloc]at this
theorem Ox(w:tW)(D S:tAV)(t u:gh):aa ah w ((w.alloc (eR D t)).alloc (eR S u))/\ak ((w.alloc (eR D t)).alloc (eR S u)) w.heap.size D t /\ ak ((w.alloc (eR D t)).alloc (eR S u)) (w.heap.size+1) S u:=by
 refine⟨aq.alloc _,(ak.new w D t).alloc _,?_⟩;have:=ak.new (w.alloc (eR D t)) S u
 rwa [World.size_alloc]at this
theorem abR(w:tW)(d0 d1 d2 d3 s0 s1 s2 s3:eM)(b:Nat)(fk:kO)(hb:ak w b #[xD fk] 311)(nd ns R:eM)(v0 v1:Int)(v2 v3:Option ju)(en:ym fk)(hd:QA w 226 #[fW #[d0,d1,d2,d3]] (fR nd))(hs:QA w 226 #[fW #[s0,s1,s2,s3]] (fR ns))(ho:QA w fk #[nd,ns,vU 64] (fR R))(hv:QA w 81 #[R] (fR (fW #[vI v0,vU v1,ia v2,ia v3]))):fL prog 225 #[fW #[d0,d1,d2,d3],fW #[s0,s1,s2,s3],pt b] w λe w'=>e=fR (fW #[vI v0,vU v1,ia v2,ia v3])/\aa ah w w':=by
 unfold ym at en;have V0:=V3.of w d0 d1 d2 d3 s0 s1 s2 s3;have c0:=ai (hb.ae V0.m.o id);clear hb;have HD:=hd.to V0.m.o;have HS:=hs.to V0.m.o;have HO:=ho.to V0.m.o;have HV:=hv.to V0.m.o;clear hd hs ho hv;go_in;go_upto_region 1 with fail;generalize((w.alloc (eR #[d0,d1,d2,d3] 190)).alloc (eR #[s0,s1,s2,s3] 190)).alloc (eR #[vI 0,vU 0,vO,vO] 190)=W3 at *;obtain⟨x0,x1,x2,x3⟩:=V0.d.o.four';obtain⟨y0,y1,y2,y3⟩:=V0.s.o.four';have q0:=c0.o.one';have HM:=V0.m;refine wY ah 7 [2,4,5,6] (by kernel_rfl) (by kernel_rfl) (λ_ M0=>?_);simp only[bt,cw,b5,cx]
 iterate 2 (refine aG rfl rfl rfl ?_;intro K hK;go_big_quiet_op;go_big_quiet_on)
 refine aN rfl rfl ?_;intro K hK;go_big_op;refine(Sn HD M0).mono ?_;rintro e u1 ⟨rfl,M1⟩;refine hK _ _ rfl ⟨⟨_,M1.o⟩,rfl⟩ ?_;clear hK K
 iterate 1 (refine aG rfl rfl rfl ?_;intro K hK;go_big_quiet_op;go_big_quiet_on)
 refine aN rfl rfl ?_;intro K hK;go_big_op;refine(Sn HS M1).mono ?_;rintro e u2 ⟨rfl,M2⟩;refine hK _ _ rfl ⟨⟨_,M2.o⟩,rfl⟩ ?_;clear hK K;refine aN rfl rfl ?_;intro K hK;go_big_op;refine(Sn HO M2).mono ?_;rintro e u3 ⟨rfl,M3⟩;refine hK _ _ rfl ⟨⟨_,M3.o⟩,rfl⟩ ?_;clear hK K;refine aN rfl rfl ?_;intro K hK;go_big_op;refine(Sn HV M3).mono ?_;rintro e u4 ⟨rfl,M4⟩;refine hK _ _ rfl ⟨⟨_,M4.o⟩,rfl⟩ ?_;clear hK K;refine dR ?_;clear q0;have HB:=ai (V0.b.o.ae M4.o id);clear x0 x1 x2 x3 y0 y1 y2 y3;obtain⟨z0,z1,z2,z3,zf⟩:=HB.o.four;go_wp2_with fail;refine iz (mz results225 _ _ (w.heap.size+1+1) 190 _ (0,0) _ rfl ((((HB.o.set 0 _).set 1 _).set 2 _).set 3 _) underlying190 rfl (by kernel_rfl)) rfl ⟨rfl,?_⟩;exact aaT (HM.o.trans M4.o) (by omega)
theorem abS(w:tW)(d0 d1 d2 d3 s0 s1 s2 s3:eM)(b:Nat)(fk:kO)(hb:ak w b #[xD fk] 311)(t:Nat)(hd:QA w 226 #[fW #[d0,d1,d2,d3]] (gN t)):fL prog 225 #[fW #[d0,d1,d2,d3],fW #[s0,s1,s2,s3],pt b] w λe w'=>e=gN t/\aa ah w w':=by
 have V0:=V3.of w d0 d1 d2 d3 s0 s1 s2 s3;have c0:=ai (hb.ae V0.m.o id);clear hb;have HD:=hd.to V0.m.o;clear hd;go_in;go_upto_region 1 with fail;generalize((w.alloc (eR #[d0,d1,d2,d3] 190)).alloc (eR #[s0,s1,s2,s3] 190)).alloc (eR #[vI 0,vU 0,vO,vO] 190)=W3 at *;obtain⟨x0,x1,x2,x3⟩:=V0.d.o.four';obtain⟨y0,y1,y2,y3⟩:=V0.s.o.four';have q0:=c0.o.one';have HM:=V0.m;refine pJ ah 2 [2] [0,1,3] (λc w'=>s9 c=gN t/\aa ah w w') (by kernel_rfl) (by kernel_rfl) (λc a' w' hd' hm=>⟨hd',hm⟩) (λ_ M0=>?_)
 iterate 3 (refine qj rfl rfl rfl rfl ?_;intro K hK;(conv=>(arg 2;whnf));go_big_quiet_op;go_big_quiet_on)
 refine mixL_pan rfl rfl rfl ?_;intro QQ hQQ hLO
 conv=>(arg 2;whnf)
 go_big_op;refine(Sn HD M0).mono ?_;rintro e up ⟨rfl,MP⟩;exact hQQ _ _ ⟨rfl,HM.o.trans MP.o⟩
theorem abT(w:tW)(d0 d1 d2 d3 s0 s1 s2 s3:eM)(b:Nat)(fk:kO)(hb:ak w b #[xD fk] 311)(nd:eM)(t:Nat)(hd:QA w 226 #[fW #[d0,d1,d2,d3]] (fR nd))(hs:QA w 226 #[fW #[s0,s1,s2,s3]] (gN t)):fL prog 225 #[fW #[d0,d1,d2,d3],fW #[s0,s1,s2,s3],pt b] w λe w'=>e=gN t/\aa ah w w':=by
 have V0:=V3.of w d0 d1 d2 d3 s0 s1 s2 s3;have c0:=ai (hb.ae V0.m.o id);clear hb;have HD:=hd.to V0.m.o;have HS:=hs.to V0.m.o;clear hd hs;go_in;go_upto_region 1 with fail;generalize((w.alloc (eR #[d0,d1,d2,d3] 190)).alloc (eR #[s0,s1,s2,s3] 190)).alloc (eR #[vI 0,vU 0,vO,vO] 190)=W3 at *;obtain⟨x0,x1,x2,x3⟩:=V0.d.o.four';obtain⟨y0,y1,y2,y3⟩:=V0.s.o.four';have q0:=c0.o.one';have HM:=V0.m;refine pJ ah 4 [2,4] [0,1,2,3] (λc w'=>s9 c=gN t/\aa ah w w') (by kernel_rfl) (by kernel_rfl) (λc a' w' hd' hm=>⟨hd',hm⟩) (λ_ M0=>?_)
 iterate 2 (refine qj rfl rfl rfl rfl ?_;intro K hK;(conv=>(arg 2;whnf));go_big_quiet_op;go_big_quiet_on)
 refine C9 rfl rfl rfl ?_;intro K hK
 conv=>(arg 2;whnf)
 go_big_op;refine(Sn HD M0).mono ?_;rintro e u1 ⟨rfl,M1⟩;refine hK _ _ rfl ⟨⟨_,M1.o⟩,rfl⟩ ?_;clear hK K
 iterate 1 (refine qj rfl rfl rfl rfl ?_;intro K hK;(conv=>(arg 2;whnf));go_big_quiet_op;go_big_quiet_on)
 refine mixL_pan rfl rfl rfl ?_;intro QQ hQQ hLO
 conv=>(arg 2;whnf)
 go_big_op;refine(Sn HS M1).mono ?_;rintro e up ⟨rfl,MP⟩;exact hQQ _ _ ⟨rfl,HM.o.trans MP.o⟩
theorem aak(w:tW)(rb mb:tLN)(d s:MV)(hd:d.so=0)(hs:s.so=0)(b:Nat)(fk:kO)(hb:ak w b #[xD fk] 311)(R:Nat)(en:ym fk)(hof:∀w',fL prog fk #[vU d.bits,vU s.bits,vU 64] w' λe w''=>e=fR (vU R)/\w''=w'):fL prog 225 #[fW (d.cells rb mb).toArray,fW (s.cells rb mb).toArray,pt b] w λe w'=>e=fR (fW ((qp R).cells rb mb).toArray)/\aa ah w w' :=
 abR w _ _ _ _ _ _ _ _ b fk hb _ _ _ _ _ _ _ en (.all λw'=>vZ w' rb mb d hd) (.all λw'=>vZ w' rb mb s hs) (.same hof) (.all λw'=>DH w' rb mb R)
theorem aal(w:tW)(rb mb:tLN)(d s:MV)(hd:d.so≠0)(b:Nat)(fk:kO)(hb:ak w b #[xD fk] 311):fL prog 225 #[fW (d.cells rb mb).toArray,fW (s.cells rb mb).toArray,pt b] w λe w'=>e=gN 2/\aa ah w w' :=
 abS w _ _ _ _ _ _ _ _ b fk hb 2 (.all λw'=>Aw w' rb mb d hd)
theorem aam(w:tW)(rb mb:tLN)(d s:MV)(hd:d.so=0)(hs:s.so≠0)(b:Nat)(fk:kO)(hb:ak w b #[xD fk] 311):fL prog 225 #[fW (d.cells rb mb).toArray,fW (s.cells rb mb).toArray,pt b] w λe w'=>e=gN 2/\aa ah w w' :=
 abT w _ _ _ _ _ _ _ _ b fk hb _ 2 (.all λw'=>vZ w' rb mb d hd) (.all λw'=>Aw w' rb mb s hs)
theorem adx(w:tW)(d0 d1 d2 d3:eM)(s0 s1:Int)(s2 s3:Option ju) :fL prog 204 #[fW #[d0,d1,d2,d3],fW #[vI s0,vU s1,ia s2,ia s3]] w λe w'=>e=fR (fW #[vI s0,vU s1,ia s2,ia s3])/\aa ah w w':=by have V0:=V3.of w d0 d1 d2 d3 (vI s0) (vU s1) (ia s2) (ia s3);go_in;go_upto_region 1 with fail;generalize((w.alloc (eR #[d0,d1,d2,d3] 190)).alloc (eR #[vI s0,vU s1,ia s2,ia s3] 190)).alloc (eR #[vI 0,vU 0,vO,vO] 190)=W3 at *;obtain⟨y0,y1,y2,y3,_⟩:=V0.s.o.four;obtain⟨z0,z1,z2,z3,zf⟩:=V0.b.o.four;go_wp2_with fail;refine iz (mz results204 _ _ (w.heap.size+1+1) 190 _ (0,0) _ rfl ((((V0.b.o.set 0 _).set 1 _).set 2 _).set 3 _) underlying190 rfl (by kernel_rfl)) rfl ⟨rfl,?_⟩;exact aaT V0.m.o (by omega)
theorem aan(w:tW)(rb mb:tLN)(d s:MV) :fL prog 204 #[fW (d.cells rb mb).toArray,fW (s.cells rb mb).toArray] w λe w'=>e=fR (fW (s.cells rb mb).toArray)/\aa ah w w' :=
 adx w _ _ _ _ _ _ _ _
def rkE(rb mb:tLN)(v:Option MV):kx:=match v with
 |none=>gN 2
 |some v=>fR (fW (v.cells rb mb).toArray)
def WW(w:tW)(rb mb:tLN)(f:Fn)(c:tAV)(m k:Nat)(d s:MV):Prop:=∃fk,f=.func fk/\ym fk/\∀w',aa ah w w'->fL prog fk (#[fW (d.cells rb mb).toArray,fW (s.cells rb mb).toArray]++c) w' λe w''=>e=rkE rb mb (rkP m k d s)/\aa ah w' w''
def Sq(bq:Bool)(X:dQ)(r:aH):MV:=if bq then r.bq X.s else qp (tH X.num)
theorem Sr(w:tW)(b:Nat)(rb mb:tLN)(vM vC vL:eM)(r:aH)(h:aV w b rb mb vM vC vL r)(hp:0<ee r.calls)(X:dQ)(hX:X.s<11):fL prog 118 #[pt b,fW X.cells] w λe w'=>e=fR (fW ((r.bq X.s).cells rb mb).toArray)/\aa ah w w':=by
 have HR:af (∀w',aa ah w w'->fL prog 224 #[pt b,vB X.s] w' λe w''=>e=fR (fW #[vI (r.bq X.s).so,vU (r.bq X.s).bits,ia ((r.bq X.s).bq.map λr=>⟨rb.getD r 0,0,ez⟩),ia ((r.bq X.s).tab.map λt=>⟨mb.getD t 0,0,ez⟩)])/\aa ah w' w''):=λw' m=>qu w' b rb mb vM vC vL r (h.quiet m) hp X.s hX;clear h;generalize r.bq X.s=v at *;show fL _ _ #[_,fW #[X.op,vB X.d,vB X.s,.int .i16 X.jump,vJ X.num,vJ X.high,eI X.label,eI X.name]] _ λe w'=>e=fR (fW #[vI v.so,vU v.bits,ia (v.bq.map λr=>⟨rb.getD r 0,0,ez⟩),ia (v.tab.map λt=>⟨mb.getD t 0,0,ez⟩)])/\_
 generalize v.bq.map (λr=>(⟨rb.getD r 0,0,ez⟩:ju))=v2 at *;generalize v.tab.map (λt=>(⟨mb.getD t 0,0,ez⟩:ju))=v3 at *;generalize v.so=v0 at *;generalize v.bits=v1 at *;obtain⟨m3,b1,b2⟩:=Ox w #[X.op,vB X.d,vB X.s,.int .i16 X.jump,vJ X.num,vJ X.high,eI X.label,eI X.name] #[vI 0,vU 0,vO,vO] 141 190;have eH:=ai m3;have B1:=ai b1;have HB3:=ai b2;clear m3 b1 b2;go_in;go_upto_region 1 with fail;generalize(w.alloc (eR #[X.op,vB X.d,vB X.s,.int .i16 X.jump,vJ X.num,vJ X.high,eI X.label,eI X.name] 141)).alloc (eR #[vI 0,vU 0,vO,vO] 190)=W3 at *;have x2:=B1.o.cell 2;go_wp2_with fail;refine(HR.o _ eH.o).mono ?_;rintro e w1 ⟨rfl,m1⟩;have M1:=ai m1;have iH:=ai (HB3.o.ae m1 id);have z0:=iH.o.cell 0;have z1:=iH.o.cell 1;have z2:=iH.o.cell 2;have z3:=iH.o.cell 3;have zf:=iH.o.frozen;clear m1 x2;go_wp2_with fail;refine iz (mz results118 _ _ (w.heap.size+1) 190 _ (0,0) _ rfl ((((iH.o.set 0 _).set 1 _).set 2 _).set 3 _) underlying190 rfl (by kernel_rfl)) rfl ⟨rfl,?_⟩;have q:∀{Y:tW} (i:Nat) (u:eM),aa ah w Y->aa ah w (Y.setCell ⟨w.heap.size+1,i,ez⟩ u):=λi u m=>m.set (a:=⟨w.heap.size+1,i,ez⟩) (Or.inr (by simp only;omega)) u;exact q 3 _ (q 2 _ (q 1 _ (q 0 _ (eH.o.trans M1.o))))
theorem Su(w:tW)(b:Nat)(rb mb:tLN)(X:dQ):fL prog 119 #[pt b,fW X.cells] w λe w'=>e=fR (fW ((qp (tH X.num)).cells rb mb).toArray)/\aa ah w w':=by
 have HV:af (∀w',fL prog 81 #[vU (IntKind.u64.wrap X.num)] w' λe w''=>e=fR (fW #[vI 0,vU (tH X.num),vO,vO])/\aa ah w' w''):=λw'=>by rw[Fv];exact DH w' rb mb _
 show fL _ _ #[_,fW #[X.op,vB X.d,vB X.s,.int .i16 X.jump,vJ X.num,vJ X.high,eI X.label,eI X.name]] _ λe w'=>e=fR (fW #[vI 0,vU (tH X.num),vO,vO])/\_
 generalize tH X.num=R at *;obtain⟨m3,b1,b2⟩:=Ox w #[X.op,vB X.d,vB X.s,.int .i16 X.jump,vJ X.num,vJ X.high,eI X.label,eI X.name] #[vI 0,vU 0,vO,vO] 141 190;have eH:=ai m3;have B1:=ai b1;have HB3:=ai b2;clear m3 b1 b2;go_in;go_upto_region 1 with fail;generalize(w.alloc (eR #[X.op,vB X.d,vB X.s,.int .i16 X.jump,vJ X.num,vJ X.high,eI X.label,eI X.name] 141)).alloc (eR #[vI 0,vU 0,vO,vO] 190)=W3 at *;have x4:=B1.o.cell 4;go_wp2_with fail;refine(HV.o _).mono ?_;rintro e w1 ⟨rfl,m1⟩;have M1:=ai m1;have iH:=ai (HB3.o.ae m1 id);have z0:=iH.o.cell 0;have z1:=iH.o.cell 1;have z2:=iH.o.cell 2;have z3:=iH.o.cell 3;have zf:=iH.o.frozen;clear m1 x4;go_wp2_with fail;refine iz (mz results119 _ _ (w.heap.size+1) 190 _ (0,0) _ rfl ((((iH.o.set 0 _).set 1 _).set 2 _).set 3 _) underlying190 rfl (by kernel_rfl)) rfl ⟨rfl,?_⟩;have q:∀{Y:tW} (i:Nat) (u:eM),aa ah w Y->aa ah w (Y.setCell ⟨w.heap.size+1,i,ez⟩ u):=λi u m=>m.set (a:=⟨w.heap.size+1,i,ez⟩) (Or.inr (by simp only;omega)) u;exact q 3 _ (q 2 _ (q 1 _ (q 0 _ (eH.o.trans M1.o))))
theorem Kh(w:tW)(b:Nat)(rb mb:tLN)(vM vC vL:eM)(r:aH)(h:aV w b rb mb vM vC vL r)(hp:0<ee r.calls)(X:dQ)(bq:Bool)(hX:bq=eJ->X.s<11):fL prog (PW bq) #[pt b,fW X.cells] w λe w'=>e=fR (fW ((Sq bq X r).cells rb mb).toArray)/\aa ah w w':=by
 cases bq with
 |true=>exact Sr w b rb mb vM vC vL r h hp X (hX rfl)
 |false=>exact Su w b rb mb X
theorem Fw(bq:Bool):ym (PW bq):=by
 cases bq with
 |true=>exact enters_of func118 (by kernel_rfl) rfl
 |false=>exact enters_of func119 (by kernel_rfl) rfl
theorem ak.WX{w:tW}{b:Nat}{a0 a1 a2 a3 a4 a5 a6 a7:eM}{t:gh}(h:ak w b #[a0,a1,a2,a3,a4,a5,a6,a7] t):(∀e:Ext ah w,e.w.cell? ⟨b,0,ez⟩=eC a0)/\(∀e:Ext ah w,e.w.cell? ⟨b,1,ez⟩=eC a1)/\(∀e:Ext ah w,e.w.cell? ⟨b,2,ez⟩=eC a2)/\(∀e:Ext ah w,e.w.cell? ⟨b,3,ez⟩=eC a3)/\(∀e:Ext ah w,e.w.cell? ⟨b,4,ez⟩=eC a4)/\(∀e:Ext ah w,e.w.cell? ⟨b,5,ez⟩=eC a5)/\(∀e:Ext ah w,e.w.cell? ⟨b,6,ez⟩=eC a6)/\∀e:Ext ah w,e.w.cell? ⟨b,7,ez⟩=eC a7 :=
 ⟨λe=>(h.ae e.m id).cell 0,λe=>(h.ae e.m id).cell 1,λe=>(h.ae e.m id).cell 2,λe=>(h.ae e.m id).cell 3,λe=>(h.ae e.m id).cell 4,λe=>(h.ae e.m id).cell 5,λe=>(h.ae e.m id).cell 6,λe=>(h.ae e.m id).cell 7⟩
def QS(w:tW)(f:kO)(args:tAV)(R:tW->Prop)(F:Nat->Prop):Prop:=∀w',aa ah w w'->fL prog f args w' λe w''=>e=fR (gb #[])/\R w''/\aa F w' w''
theorem QS.at'{w w' W:tW}{f:kO}{args:tAV}{R:tW->Prop}{F:Nat->Prop}(h:QS w f args R F)(m:af (aa ah w W))(m':af (aa ah W w')):fL prog f args w' λe w''=>e=fR (gb #[])/\af (R w''/\aa F w w'') :=
 (h w' (m.o.trans m'.o)).mono λ_ _ hh=>⟨hh.1,hh.2.1,(aa.of_nil (m.o.trans m'.o)).trans hh.2.2⟩
def QR(w:tW)(f:kO)(args:tAV)(R:kx->tW->Prop):Prop:=∀w',aa ah w w'->fL prog f args w' λe w''=>(e=fR (gb #[])\/∃t,e=gN t)/\af (R e w'')
theorem ady(w:tW)(a0 a1 a2 a3 a4 a5 a6 a7:eM)(b:Nat)(b1 b2:Nat)(fk fo:kO)(cr:tAV)(hb1:ak w b1 #[eL (.func fk) #[] cr] 228)(hb2:ak w b2 #[xD fo] 309)(en:ym fk)(eno:ym fo)(d s:eM)(hg:QA w 224 #[pt b,a1] (fR d))(ho:QA w fo #[pt b,fW #[a0,a1,a2,a3,a4,a5,a6,a7]] (fR s))(v:eM)(hk:QA w fk (#[d,s]++cr) (fR v))(R:tW->Prop)(F:Nat->Prop)(hS:QS w 79 #[pt b,a1,v] R F):fL prog 223 #[pt b,fW #[a0,a1,a2,a3,a4,a5,a6,a7],pt b1,pt b2] w λe w'=>e=fR (gb #[])/\R w'/\aa F w w':=by
 unfold ym at en eno;have HM:=ai ((aa.refl ah w).alloc (eR #[a0,a1,a2,a3,a4,a5,a6,a7] 141));have BI:=ai (ak.new w #[a0,a1,a2,a3,a4,a5,a6,a7] 141);have c1:=ai (hb1.ae HM.o id);have c2:=ai (hb2.ae HM.o id);have HG:=hg.to HM.o;have HO:=ho.to HM.o;have HK:=hk.to HM.o;clear hb1 hb2 hg ho hk;go_in;go_upto_region 1 with fail;generalize w.alloc (eR #[a0,a1,a2,a3,a4,a5,a6,a7] 141)=W3 at *;obtain⟨x0,x1,x2,x3,x4,x5,x6,x7⟩:=BI.o.WX;have p0:=c1.o.one';have q0:=c2.o.one';refine wY ah 13 [7,11,12] (by kernel_rfl) (by kernel_rfl) (λ_ M0=>?_);simp only[bt,cw,b5,cx]
 iterate 7 (refine aG rfl rfl rfl ?_;intro K hK;go_big_quiet_op;go_big_quiet_on)
 refine aN rfl rfl ?_;intro K hK;go_big_op;refine(Sn HG M0).mono ?_;rintro e u1 ⟨rfl,M1⟩;refine hK _ _ rfl ⟨⟨_,M1.o⟩,rfl⟩ ?_;clear hK K
 iterate 3 (refine aG rfl rfl rfl ?_;intro K hK;go_big_quiet_op;go_big_quiet_on)
 refine aN rfl rfl ?_;intro K hK;go_big_op;refine(Sn HO M1).mono ?_;rintro e u2 ⟨rfl,M2⟩;refine hK _ _ rfl ⟨⟨_,M2.o⟩,rfl⟩ ?_;clear hK K;refine aN rfl rfl ?_;intro K hK;go_big_op;refine(Sn HK M2).mono ?_;rintro e u3 ⟨rfl,M3⟩;refine hK _ _ rfl ⟨⟨_,M3.o⟩,rfl⟩ ?_;clear hK K;refine dR ?_;clear x0 x1 x2 x3 x4 x5 x6 x7 p0 q0;go_wp2_with fail;refine(hS.at' HM M3).mono ?_;rintro e w4 ⟨rfl,hr⟩;go_wp2_with fail;go_end0;exact⟨rfl,hr.o⟩
theorem adz(w:tW)(a0 a1 a2 a3 a4 a5 a6 a7:eM)(b:Nat)(b1 b2:Nat)(fk fo:kO)(cr:tAV)(hb1:ak w b1 #[eL (.func fk) #[] cr] 228)(hb2:ak w b2 #[xD fo] 309)(en:ym fk)(eno:ym fo)(d s:eM)(hg:QA w 224 #[pt b,a1] (fR d))(ho:QA w fo #[pt b,fW #[a0,a1,a2,a3,a4,a5,a6,a7]] (fR s))(t:Nat)(hk:QA w fk (#[d,s]++cr) (gN t)):fL prog 223 #[pt b,fW #[a0,a1,a2,a3,a4,a5,a6,a7],pt b1,pt b2] w λe w'=>e=gN t/\aa ah w w':=by
 unfold ym at en eno;have HM:=ai ((aa.refl ah w).alloc (eR #[a0,a1,a2,a3,a4,a5,a6,a7] 141));have BI:=ai (ak.new w #[a0,a1,a2,a3,a4,a5,a6,a7] 141);have c1:=ai (hb1.ae HM.o id);have c2:=ai (hb2.ae HM.o id);have HG:=hg.to HM.o;have HO:=ho.to HM.o;have HK:=hk.to HM.o;clear hb1 hb2 hg ho hk;go_in;go_upto_region 1 with fail;generalize w.alloc (eR #[a0,a1,a2,a3,a4,a5,a6,a7] 141)=W3 at *;obtain⟨x0,x1,x2,x3,x4,x5,x6,x7⟩:=BI.o.WX;have p0:=c1.o.one';have q0:=c2.o.one';refine pJ ah 12 [7,11,12] [0,1,2,3,4,5,6,7,8,9,10,11] (λc w'=>s9 c=gN t/\aa ah w w') (by kernel_rfl) (by kernel_rfl) (λc a' w' hd' hm=>⟨hd',hm⟩) (λ_ M0=>?_)
 iterate 7 (refine qj rfl rfl rfl rfl ?_;intro K hK;(conv=>(arg 2;whnf));go_big_quiet_op;go_big_quiet_on)
 refine C9 rfl rfl rfl ?_;intro K hK
 conv=>(arg 2;whnf)
 go_big_op;refine(Sn HG M0).mono ?_;rintro e u1 ⟨rfl,M1⟩;refine hK _ _ rfl ⟨⟨_,M1.o⟩,rfl⟩ ?_;clear hK K
 iterate 3 (refine qj rfl rfl rfl rfl ?_;intro K hK;(conv=>(arg 2;whnf));go_big_quiet_op;go_big_quiet_on)
 refine C9 rfl rfl rfl ?_;intro K hK
 conv=>(arg 2;whnf)
 go_big_op;refine(Sn HO M1).mono ?_;rintro e u2 ⟨rfl,M2⟩;refine hK _ _ rfl ⟨⟨_,M2.o⟩,rfl⟩ ?_;clear hK K;refine mixL_pan rfl rfl rfl ?_;intro QQ hQQ hLO
 conv=>(arg 2;whnf)
 go_big_op;refine(Sn HK M2).mono ?_;rintro e up ⟨rfl,MP⟩;exact hQQ _ _ ⟨rfl,HM.o.trans MP.o⟩
theorem abU(w:tW)(b:Nat)(rb mb:tLN)(vM vC vL:eM)(r:aH)(h:aV w b rb mb vM vC vL r)(hp:0<ee r.calls)(X:dQ)(hd:X.d<11)(bq:Bool)(hX:bq=eJ->X.s<11)(b1 b2:Nat)(fr:Fn)(cr:tAV)(hb1:ak w b1 #[eL fr #[] cr] 228)(hb2:ak w b2 #[xD (PW bq)] 309)(m k:Nat)(hk:WW w rb mb fr cr m k (r.bq X.d) (Sq bq X r))(v:MV)(hv:rkP m k (r.bq X.d) (Sq bq X r)=eC v):fL prog 223 #[pt b,fW X.cells,pt b1,pt b2] w λe w'=>e=fR (gb #[])/\aV w' b rb mb vM vC vL (r.ik X.d v)/\aa (Own vC) w w':=by obtain⟨fk,rfl,en,hkk⟩:=hk;rw[hv]at hkk;exact ady w _ _ _ _ _ _ _ _ b b1 b2 fk _ cr hb1 hb2 en (Fw bq) _ _ (λw' m=>qu w' b rb mb vM vC vL r (h.quiet m) hp X.d hd) (λw' m=>Kh w' b rb mb vM vC vL r (h.quiet m) hp X bq hX) _ hkk _ _ (λw' m=>BN w' b rb mb vM vC vL r (h.quiet m) hp X.d hd v)
theorem abV(w:tW)(b:Nat)(rb mb:tLN)(vM vC vL:eM)(r:aH)(h:aV w b rb mb vM vC vL r)(hp:0<ee r.calls)(X:dQ)(hd:X.d<11)(bq:Bool)(hX:bq=eJ->X.s<11)(b1 b2:Nat)(fr:Fn)(cr:tAV)(hb1:ak w b1 #[eL fr #[] cr] 228)(hb2:ak w b2 #[xD (PW bq)] 309)(m k:Nat)(hk:WW w rb mb fr cr m k (r.bq X.d) (Sq bq X r))(hv:rkP m k (r.bq X.d) (Sq bq X r)=ez):fL prog 223 #[pt b,fW X.cells,pt b1,pt b2] w λe w'=>e=gN 2/\aa ah w w':=by obtain⟨fk,rfl,en,hkk⟩:=hk;rw[hv]at hkk;exact adz w _ _ _ _ _ _ _ _ b b1 b2 fk _ cr hb1 hb2 en (Fw bq) _ _ (λw' m=>qu w' b rb mb vM vC vL r (h.quiet m) hp X.d hd) (λw' m=>Kh w' b rb mb vM vC vL r (h.quiet m) hp X bq hX) 2 hkk
theorem afu(w:tW)(a0 a1 a2 a3 a4 a5 a6 a7:eM)(b:Nat)(R:kx->tW->Prop)(hl:QR w 264 #[pt b] R):fL prog 139 #[pt b,fW #[a0,a1,a2,a3,a4,a5,a6,a7]] w λe w'=>R e w':=by
 have HM:=ai ((aa.refl ah w).alloc (eR #[a0,a1,a2,a3,a4,a5,a6,a7] 141));have BI:=ai (ak.new w #[a0,a1,a2,a3,a4,a5,a6,a7] 141);go_in;go_upto_region 1 with fail;generalize w.alloc (eR #[a0,a1,a2,a3,a4,a5,a6,a7] 141)=W3 at *;go_wp2_with fail;refine(hl _ HM.o).mono ?_;rintro e w4 ⟨he,HR⟩;rcases he with rfl |⟨t,rfl⟩
 ·go_wp2_with fail
  first|go_end0|refine bodyPost_ret (results_none rfl _ _ _) rfl ?_
  exact HR.o
 ·exact⟨rfl,HR.o⟩
theorem Nb(w:tW)(b:Nat)(X:dQ)(R:kx->tW->Prop)(hL:∀w',aa ah w w'->fL prog 264 #[pt b] w' λe w''=>(e=fR (gb #[])\/∃t,e=gN t)/\R e w''):fL prog 139 #[pt b,fW X.cells] w λe w'=>R e w':=afu w _ _ _ _ _ _ _ _ b R hL
def MV.Ok(n m:Nat)(v:MV):Prop:=v.bits<18446744073709551616/\(v.so=0/\v.bq=ez/\v.tab=ez\/v.so=1/\v.bq=ez/\(∃t,v.tab=eC t/\t<m)\/v.so=2/\v.tab=ez/\∃q,v.bq=eC q/\q<n)
structure Sv(fn n m:Nat)(f:jT):Prop where
 fn:f.fn<fn
 qA:f.qA<n
 len:ee f.regs=11
 regs:∀v∈f.regs,v.Ok n m
structure Sw(gs:List tLN)(m:BB):Prop where
 key:1<=m.key/\m.key<=8
 val:1<=m.value/\m.value<=16
 most:m.most<=8
 len:ee m.kZ<=m.most
 ek:∀e∈m.kZ,ee e.1=m.key/\∀b∈e.1,b<256
 er:∀e∈m.kZ,e.2<ee gs/\(gs.getD e.2 []).length=m.value
 srt:m.kZ.Pairwise (λa b=>abQ a.1 b.1=eJ)
def lg(ms:List BB):tLN:=ms.flatMap (λm=>m.kZ.map (·.2))
def Nc(s:bZ):tLN:=s.r.inp::(s.r.calls.map (·.qA)++lg s.ms)
structure dD(fn:Nat)(s:bZ):Prop where
 pos:0<ee s.r.calls
 deep:ee s.r.calls<=8
 frs:∀f∈s.r.calls,Sv fn (ee s.gs) (ee s.ms) f
 gs:G9 s.gs
 inp:s.r.inp<ee s.gs
 log:ee s.r.log<=20/\∀n∈s.r.log,n<18446744073709551616
 maps:∀m∈s.ms,Sw s.gs m
 own:(Nc s).Nodup
theorem MV.Ok.zero(n m:Nat):MV.Ok n m {}:=⟨by decide,.inl ⟨rfl,rfl,rfl⟩⟩
theorem MV.Ok.num{n m k:Nat}(h:k<18446744073709551616):MV.Ok n m (qp k):=⟨h,.inl ⟨rfl,rfl,rfl⟩⟩
theorem MV.Ok.ptr{n m q k:Nat}(h:q<n)(hk:k<18446744073709551616):MV.Ok n m (wy q k):=⟨hk,.inr (.inr ⟨rfl,rfl,q,rfl,h⟩)⟩
theorem MV.Ok.grow{n n' m:Nat}{v:MV}(h:v.Ok n m)(hn:n<=n'):v.Ok n' m:=by
 refine⟨h.1,?_⟩;rcases h.2 with h|h |⟨a,b,q,hq,hl⟩
 ·exact .inl h
 ·exact .inr (.inl h)
 ·exact .inr (.inr ⟨a,b,q,hq,by omega⟩)
theorem Sv.grow{fn n n' m:Nat}{f:jT}(h:Sv fn n m f)(hn:n<=n'):Sv fn n' m f:=⟨h.fn,by have:=h.qA;omega,h.len,λv hv=>(h.regs v hv).grow hn⟩
section
variable {fn : Nat} {s : bZ}
theorem dD.Oy(h:dD fn s):s.r.top∈s.r.calls:=by rw[aH.Au _ h.pos];exact an _
theorem dD.top(h:dD fn s):Sv fn (ee s.gs) (ee s.ms) s.r.top:=h.frs _ h.Oy
theorem dD.bq(h:dD fn s)(n:Nat):(s.r.bq n).Ok (ee s.gs) (ee s.ms):=by
 unfold aH.bq;rw[List.getD_eq_getElem?_getD];by_cases hn:n<ee s.r.top.regs
 ·rw[List.getElem?_eq_getElem hn];exact h.top.regs _ (an _)
 ·rw[List.getElem?_eq_none (by omega)];exact MV.Ok.zero _ _
theorem zq{α β:Type}(g:α->β)(l:List α)(i:Nat)(x:α)(h:∀y,l[i]?=eC y->g x=g y):(l.set i x).map g=l.map g:=by
 apply List.ext_getElem?;intro j;rw[List.getElem?_map,List.getElem?_map,List.getElem?_set];by_cases hij:i=j
 ·subst hij;rw[iP9 rfl];by_cases hl:i<ee l
  ·rw[iP9 hl,List.getElem?_eq_getElem hl];simp only[cR];rw[h _ (List.getElem?_eq_getElem hl)]
  ·rw[iN9 hl,List.getElem?_eq_none (by omega)]
 ·rw[iN9 hij]
theorem dD.eX(h:dD fn s)(f:jT)(hf:Sv fn (ee s.gs) (ee s.ms) f)(hs:f.qA=s.r.top.qA):dD fn {s with r:=s.r.eX f}:=by
 have hl:ee (s.r.eX f).calls=ee s.r.calls:=aH.jQ _ _;refine⟨by show 0<ee (s.r.eX f).calls;rw[hl];exact h.pos,by show(s.r.eX f).calls.length<=8;rw[hl];exact h.deep,λg hg=>?_,h.gs,h.inp,h.log,h.maps,?_⟩
 ·rcases bh hg with hg|rfl
  ·exact h.frs g hg
  ·exact hf
 ·have:(s.r.eX f).calls.map (·.qA)=s.r.calls.map (·.qA):=zq _ _ _ _ (λy hy=>by
   have e:y=s.r.top:=by rw[aH.Au _ h.pos];rw[List.getElem?_eq_getElem (by have:=h.pos;omega)]at hy;exact(Option.some.inj hy).symm
   rw[e];exact hs)
  show(s.r.inp::((s.r.eX f).calls.map (·.qA)++lg s.ms)).Nodup
  rw[this];exact h.own
theorem dD.ik(h:dD fn s)(d:Nat)(v:MV)(hv:v.Ok (ee s.gs) (ee s.ms)):dD fn {s with r:=s.r.ik d v} :=
 h.eX _ ⟨h.top.fn,h.top.qA,by show(s.r.top.regs.set d v).length=11;rw[b9];exact h.top.len,λu hu=>by
  rcases bh hu with hu|rfl
  ·exact h.top.regs u hu
  ·exact hv⟩ rfl
theorem dD.mI(h:dD fn s)(n:Nat):dD fn {s with r:=s.r.mI n}:=h.eX _ ⟨h.top.fn,h.top.qA,h.top.len,h.top.regs⟩ rfl
theorem dD.jw(h:dD fn s):dD fn s.jw:=h.eX _ ⟨h.top.fn,h.top.qA,h.top.len,h.top.regs⟩ rfl
theorem dD.begin(h:dD fn s)(n:Nat):dD fn (s.begin n):=by
 have h1:dD fn {s with r:={s.r with used:=s.r.used+1}}:=⟨h.pos,h.deep,h.frs,h.gs,h.inp,h.log,h.maps,h.own⟩
 exact h1.mI _
theorem dD.nV(vs:List MV):∀{s:bZ} (_:dD fn s) (d:Nat) (_:∀v∈vs,v.Ok (ee s.gs) (ee s.ms)),dD fn {s with r:=s.r.nV d vs}:=by
 induction vs with
 |nil=>intro s h d _;exact h
 |cons v vs ih=>intro s h d hv;exact ih (h.ik d v (hv v (by simp))) (d+1) (λu hu=>hv u (by simp[hu]))
theorem dD.answer(h:dD fn s)(v:MV)(hv:v.Ok (ee s.gs) (ee s.ms)):dD fn {s with r:=s.r.answer v} :=
 dD.nV _ (h.ik 0 v hv) 1 (λu hu=>by rw[cN hu];exact MV.Ok.zero _ _)
theorem dD.finish(h:dD fn s)(n:Nat):dD fn {s with r:=s.r.finish n}:=⟨h.pos,h.deep,h.frs,h.gs,h.inp,h.log,h.maps,h.own⟩
theorem dD.logged(h:dD fn s)(n:Nat)(hn:n<18446744073709551616)(hl:ee s.r.log<20):dD fn {s with r:=s.r.logged n}:=by
 have h1:dD fn {s with r:={s.r with log:=s.r.log++[n]}}:=⟨h.pos,h.deep,h.frs,h.gs,h.inp,⟨by show(s.r.log++[n]).length<=20;rw[ab];exact hl,λk hk=>by
  rcases List.mem_append.1 hk with hk|hk
  ·exact h.log.2 k hk
  ·rw[List.mem_singleton.1 hk];exact hn⟩,h.maps,h.own⟩
 exact h1.answer _ (MV.Ok.num (by decide))
theorem Sw.grow{gs:List tLN}{m:BB}(h:Sw gs m)(g:tLN):Sw (gs++[g]) m :=
 ⟨h.key,h.val,h.most,h.len,h.ek,λe he=>⟨by rw[ab];exact Nat.lt_succ_of_lt (h.er e he).1,by rw[kY _ _ _ _ (h.er e he).1];exact(h.er e he).2⟩,h.srt⟩
theorem Nf:ee dx<=1000/\∀b∈dx,b<256:=by decide
theorem dD.call(h:dD fn s)(hd:ee s.r.calls<8)(f:Nat)(hf:f<fn):dD fn {s with r:=s.r.G8 f (ee s.gs),gs:=s.gs++[dx]}:=by
 have hl:ee (s.gs++[dx])=ee s.gs+1:=ab
 have h1:dD fn {s with r:=s.r.pI f (ee s.gs),gs:=s.gs++[dx]}:=by
  refine⟨by show 0<ee (s.r.calls++[_]);simp,by show(s.r.calls++[_]).length<=8;rw[ab];exact hd,λg hg=>?_,λg hg=>?_,by show s.r.inp<ee (s.gs++[dx]);have:=h.inp;omega,h.log,λm hm=>(h.maps m hm).grow _,?_⟩
  ·rcases List.mem_append.1 hg with hg|hg
   ·exact(h.frs g hg).grow (by show ee s.gs<=ee (s.gs++[dx]);omega)
   ·rw[List.mem_singleton.1 hg];exact⟨hf,by show ee s.gs<ee (s.gs++[dx]);omega,rfl,λv hv=>by rw[cN hv];exact MV.Ok.zero _ _⟩
  ·rcases List.mem_append.1 hg with hg|hg
   ·exact h.gs g hg
   ·rw[List.mem_singleton.1 hg];exact Nf
  ·have ho:=h.own
   have hlt:∀q∈Nc s,q<ee s.gs:=λq hq=>by
    rcases List.mem_cons.1 hq with rfl|hq
    ·exact h.inp
    ·rcases List.mem_append.1 hq with hq|hq
     ·obtain⟨g,hg,rfl⟩:=List.mem_map.1 hq;exact(h.frs g hg).qA
     ·obtain⟨m,hm,hq⟩:=List.mem_flatMap.1 hq;obtain⟨e,he,rfl⟩:=List.mem_map.1 hq;exact((h.maps m hm).er e he).1
   show(s.r.inp::((s.r.calls++[(⟨f,0,0,z11,ee s.gs⟩:jT)]).map (·.qA)++lg s.ms)).Nodup
   have hp:(s.r.inp::((s.r.calls++[(⟨f,0,0,z11,ee s.gs⟩:jT)]).map (·.qA)++lg s.ms)).Perm (ee s.gs::Nc s):=by rw[cW,List.map_cons,List.map_nil,List.append_assoc];exact(List.Perm.cons _ List.perm_middle).trans (List.Perm.swap _ _ _)
   rw[hp.nodup_iff];exact List.nodup_cons.2 ⟨λhq=>cb _ (hlt _ hq),ho⟩
 have h2:=h1.ik 10 (wy (ee s.gs) 64) (MV.Ok.ptr (by show ee s.gs<ee (s.gs++[dx]);omega) (by decide));exact dD.nV _ h2 1 (λu hu=>by have hm:=List.mem_of_mem_drop (List.mem_of_mem_take hu);exact(h.top.regs u hm).grow (by show ee s.gs<=ee (s.gs++[dx]);omega))
theorem Sy(l:List tLN)(q i:Nat)(g:tLN)(hq:q<ee l):(l.set q g).getD i []=if i=q then g else l.getD i []:=uU l g [] i q hq
theorem dD.adA(h:dD fn s)(q:Nat)(hq:q<ee s.gs)(g:tLN)(hg:ee g<=1000/\∀b∈g,b<256)(hm:∀m∈s.ms,∀e∈m.kZ,e.2=q->ee g=ee (s.gs.getD q [])):dD fn {s with gs:=s.gs.set q g}:=by
 have hl:ee (s.gs.set q g)=ee s.gs:=b9;refine⟨h.pos,h.deep,λf hf=>?_,λx hx=>?_,by show _<ee (s.gs.set q g);rw[hl];exact h.inp,h.log,λm hm'=>?_,h.own⟩
 ·exact(h.frs f hf).grow (by show _<=ee (s.gs.set q g);omega)
 ·rcases bh hx with hx|rfl
  ·exact h.gs x hx
  ·exact hg
 ·have k:=h.maps m hm';refine⟨k.key,k.val,k.most,k.len,k.ek,λe he=>⟨by show _<ee (s.gs.set q g);rw[hl];exact(k.er e he).1,?_⟩,k.srt⟩;show((s.gs.set q g).getD e.2 []).length=_
  rw[Sy _ _ _ _ hq];by_cases hh:e.2=q
  ·rw[iP9 hh,hm m hm' e he hh,<-hh];exact(k.er e he).2
  ·rw[iN9 hh];exact(k.er e he).2
theorem dD.back(h:dD fn s)(hc:ee s.r.calls≠1):dD fn {s with r:=s.r.back,gs:=s.gs.set s.r.top.qA []}:=by
 have hpos:=h.pos
 have hlast:s.r.calls=s.r.calls.dropLast++[s.r.top]:=by
  have hne:s.r.calls≠[]:=λe=>by rw[e]at hpos;exact cb _ hpos
  have e1:=cy hne;rw[aH.Au _ h.pos,<-cQ hne];exact e1.symm
 have hnot:∀m∈s.ms,∀e∈m.kZ,e.2≠s.r.top.qA:=λm hm e he hq=>by have ho:=h.own;unfold Nc at ho;have ho2:=(List.nodup_append.1 (List.nodup_cons.1 ho).2).2.2;exact ho2 s.r.top.qA (List.mem_map.2 ⟨_,h.Oy,rfl⟩) e.2 (List.mem_flatMap.2 ⟨m,hm,List.mem_map.2 ⟨e,he,rfl⟩⟩) hq.symm
 have h0:=h.adA s.r.top.qA h.top.qA [] ⟨by decide,λb hb=>by cases hb⟩ (λm hm e he hq=>absurd hq (hnot m hm e he));have hl:ee (s.gs.set s.r.top.qA [])=ee s.gs:=b9
 have h1:dD fn {s with r:=s.r.pop,gs:=s.gs.set s.r.top.qA []}:=by
  refine⟨by show 0<ee s.r.calls.dropLast;rw[ar];omega,by show ee s.r.calls.dropLast<=8;rw[ar];have:=h.deep;omega,λf hf=>h0.frs f (de _ hf),h0.gs,h0.inp,h0.log,h0.maps,?_⟩;show(s.r.inp::(s.r.calls.dropLast.map (·.qA)++lg s.ms)).Nodup
  have ho:=h.own;unfold Nc at ho;rw[hlast,cW]at ho
  have hsub:(s.r.inp::(s.r.calls.dropLast.map (·.qA)++lg s.ms)).Sublist (s.r.inp::(s.r.calls.dropLast.map (·.qA)++List.map (·.qA) [s.r.top]++lg s.ms)) :=
   List.Sublist.cons_cons _ (List.Sublist.append (List.sublist_append_left _ _) (List.Sublist.refl _))
  exact ho.sublist hsub
 exact h1.answer (s.r.bq 0) ((h.bq 0).grow (by show _<=ee (s.gs.set s.r.top.qA []);omega))
end
section
variable {F : Nat -> Prop} {w w' : World} {b : Nat} {a : Ad} {s : bZ} {fn : Nat}
theorem jk.WY(h:jk F w b a s)(m:aa (Own a.vC) w w')(r:aH)(hr:aV w' b a.rb a.mb a.vM a.vC a.vL r)(hl:r.log=s.r.log):jk F w' b a {s with r:=r}/\aa F w w':=h.WV (m.mono (λ_ _ h=>.inr h)) r hr hl
theorem jk.backTo(h:jk F w b a s)(q:Nat)(hq:q<ee s.gs)(WI:eM)(hC:WI.ownBlock=a.vC.ownBlock)(r:aH)(hl:r.log=s.r.log)(w2:tW)(m1:aa ah w w2)(m2:aa (λk=>k=b\/Own a.vC k) (w2.setCell ⟨a.rb.getD q 0,0,ez⟩ (vN)) w')(hr:aV w' b a.rb a.mb a.vM WI a.vL r):jk F w' b {a with vs:=a.vs.set q (vN),vC:=WI} {s with r:=r,gs:=s.gs.set q []}/\aa F w w':=by
 have h2:=h.quiet m1;have hm:a.rb.getD q 0∈a.rb:=by have hv:=h.Bj.lr;rw[List.getD_eq_getElem?_getD,List.getElem?_eq_getElem (by omega)];exact an _
 have mG:aa (Only (a.rb.getD q 0)) w2 (w2.setCell ⟨a.rb.getD q 0,0,ez⟩ (vN)):=aA.bz 0 _;have mT:kJ [182] w2 (w2.setCell ⟨a.rb.getD q 0,0,ez⟩ (vN)):=kJ.of mG (λk hk=>⟨182,by simp,by cases(show k=_ from hk);exact(h2.Bj.blk q hq).ty⟩);have hR2:=h2.Bj.die q hq;have hb3:=h2.run.fV mT (by decide) (by decide)
 have mT2:kJ [185,273] (w2.setCell ⟨a.rb.getD q 0,0,ez⟩ (vN)) w':=kJ.of m2 (λk hk=>by
  rcases hk with rfl|hk
  ·exact⟨_,by simp,hb3.blk.ty⟩
  ·exact⟨_,by simp,hb3.calls.ty hk⟩)
 refine⟨⟨hr,hR2.fV mT2 (by decide) (by decide),?_,(h2.maps.fV mT (by decide) (by decide) (by decide)).fV mT2 (by decide) (by decide) (by decide),h.fb,λk hk=>h.fc k (hC ▸ hk),h.fl,h.fr,λv hv k hk=>?_,h.fm,h.fe⟩,?_⟩
 ·show Sl w' _ _ _ (ee r.log) (WR r.log)
  rw[hl];exact(h2.log.fV mT (by decide)).fV mT2 (by decide)
 ·rcases bh hv with hv|rfl
  ·exact h.fv v hv k hk
  ·cases hk
 ·refine((m1.mono (λ_ _ h=>h.elim)).trans (mG.mono (λk _ hk=>?_))).trans (m2.mono (λk _ hk=>?_))
  ·cases(show k=_ from hk);exact h.fr _ hm
  ·rcases hk with rfl|hk
   ·exact h.fb
   ·exact h.fc k hk
theorem MV.Ok.pt{n m:Nat}{v:MV}(h:v.Ok n m):v.Pt n:=λh2=>by
 rcases h.2 with⟨e,_⟩ |⟨e,_⟩ |⟨_,_,q,e,hq⟩
 ·rw[e]at h2;cases h2
 ·rw[e]at h2;cases h2
 ·exact⟨q,e,hq⟩
end
theorem aH.Sz(vs:List MV):∀(r:aH) (n:Nat),(r.nV n vs).log=r.log:=by
 induction vs with
 |nil=>intro r n;rfl
 |cons v vs ih=>intro r n;exact ih _ _
theorem aH.Ng(r:aH)(v:MV):(r.answer v).log=r.log:=aH.Sz _ _ _
structure Oz(fn mn:Nat)(x:PI):Prop where
 d:x.d<11
 s:x.s<11
 j:-32768<=x.jump/\x.jump<=32767
 n:-2147483648<=x.num/\x.num<=2147483647
 call:(dw x.o.code).t=6->(x.s=1->0<=x.num/\x.num<fn)/\(x.s≠1->1<=x.num/\x.num<=4)
 wide:(dw x.o.code).t=5->x.s=1->0<=x.num/\x.num<mn
 size:(dw x.o.code).t=3\/(dw x.o.code).t=4->0<(dw x.o.code).k/\(dw x.o.code).k<=8
theorem gX.from{F:Nat->Prop}{w w1 w':tW}{b:Nat}{a:Ad}{d:Nat×bZ}{e:kx}(h:gX F w1 b a d e w')(m:aa ah w w1):gX F w b a d e w':=⟨h.1,(m.mono (λ_ _ h=>h.elim)).trans h.2.1,h.2.2⟩
theorem OA{fn:Nat}{s:bZ}(ho:dD fn s)(bq:Bool)(x:PI):(zm bq x s).Ok (ee s.gs) (ee s.ms):=by
 unfold zm;cases bq with
 |true=>exact ho.bq _
 |false=>exact MV.Ok.num (oZ _)
def kV(fs:List cZ)(i:Nat):cZ:=fs.getD i ⟨[],[]⟩
def lD(f:cZ)(slot:Nat):Prop:=∃x,(x,slot)∈atS 0 f.code
structure sw(fs:List cZ)(mn:Nat):Prop where
 first:∀f∈fs,lD f 0
 len:∀f∈fs,aL f.code<=1000
 ins:∀f∈fs,∀p∈atS 0 f.code,Oz (ee fs) mn p.1/\kz p.1/\((dw p.1.o.code).t=1\/(dw p.1.o.code).t=2->0<=p.1.target p.2/\lD f (p.1.target p.2).toNat)/\((dw p.1.o.code).t≠2->(dw p.1.o.code).t<=6->lD f (p.2+p.1.o.slots))
def aH.om(r:aH):List (Nat×Nat):=r.calls.map λf=>(f.fn,f.next)
theorem uY(fs:List cZ)(i:Nat)(h:i<ee fs):kV fs i∈fs:=by unfold kV;rw[List.getD_eq_getElem?_getD,List.getElem?_eq_getElem h];exact an _
theorem uZ(fs:List cZ)(fn slot:Nat)(h:lD (kV fs fn) slot):(Az fs fn slot,slot)∈atS 0 (kV fs fn).code:=by
 obtain⟨x,hx⟩:=h;unfold Az;cases hf:(atS 0 (fs.getD fn ⟨[],[]⟩).code).find? (λp=>p.2==slot)with
 |none =>have:=List.find?_eq_none.1 hf (x,slot) hx;simp at this
 |some p =>
  have h1:=List.mem_of_find?_eq_some hf;have h2:=List.find?_some hf;simp only;have e:p.2=slot:=by simpa using h2
  rw[<-e];exact h1
theorem SA(r:aH)(hp:0<ee r.calls)(f:jT)(h1:f.fn=r.top.fn)(h2:f.next=r.top.next):(r.eX f).om=r.om :=
 zq _ _ _ _ (λy hy=>by
  have e:y=r.top:=by rw[aH.Au _ hp];rw[List.getElem?_eq_getElem (by omega)]at hy;exact(Option.some.inj hy).symm
  rw[e,h1,h2])
theorem qx(r:aH)(hp:0<ee r.calls)(d:Nat)(v:MV):(r.ik d v).om=r.om:=SA r hp _ rfl rfl
theorem Fx(vs:List MV):∀(r:aH) (_:0<ee r.calls) (d:Nat),(r.nV d vs).om=r.om:=by
 induction vs with
 |nil=>intro r _ d;rfl
 |cons v vs ih=>intro r hp d;exact(ih _ (by rw[aH.jf];exact hp) _).trans (qx r hp d v)
theorem nX(r:aH)(hp:0<ee r.calls)(v:MV):(r.answer v).om=r.om:=(Fx _ _ (by rw[aH.jf];exact hp) _).trans (qx r hp 0 v)
def SB(fs:List cZ)(l:List (Nat×Nat)):Prop:=∀p∈l,lD (kV fs p.1) p.2
structure Hf(fs:List cZ)(s:bZ):Prop where
 at':lD (kV fs s.r.top.fn) s.r.top.slot
 low:SB fs s.r.om.dropLast
theorem Ki(r:aH)(hp:0<ee r.calls):r.om=r.om.dropLast++[(r.top.fn,r.top.next)]:=by
 have hne:r.om≠[]:=λe=>by have:=congrArg List.length e;unfold aH.om at this;rw[ao]at this;simp at this;rw[this]at hp;exact cb _ hp
 have e1:=cy hne;have e2:r.om.getLast hne=(r.top.fn,r.top.next):=by rw[cQ];unfold aH.om;simp only[dq,ao];rw[aH.Au _ hp]
 rw[e2]at e1;exact e1.symm
theorem xX(r:aH)(hp:0<ee r.calls)(f:jT):(r.eX f).om=r.om.dropLast++[(f.fn,f.next)]:=by
 have h1:=Ki (r.eX f) (by rw[aH.jQ];exact hp);rw[aH.qw r hp]at h1;have h2:(r.eX f).om.dropLast=r.om.dropLast:=by unfold aH.om aH.eX;simp only;rw[List.map_set,cY,cY,b9,ao];rw[List.take_set_of_le (by omega)]
 rw[h2]at h1;exact h1
theorem Hf.of{fs:List cZ}{s:bZ}(hp:0<ee s.r.calls)(h:SB fs s.r.om):Hf fs s.jw:=by
 have hl:=Ki s.r hp;refine⟨?_,?_⟩
 ·show lD (kV fs (s.r.eX _).top.fn) (s.r.eX _).top.slot
  rw[aH.qw s.r hp];exact h (s.r.top.fn,s.r.top.next) (by rw[hl];exact List.mem_append_right _ (List.mem_singleton.2 rfl))
 ·show SB fs (s.r.eX _).om.dropLast
  rw[xX s.r hp,cj];exact λp hp'=>h p (by rw[hl];exact List.mem_append_left _ hp')
theorem SC(s:bZ)(hp:0<ee s.r.calls)(n:Nat):(s.begin n).r.om=s.r.om.dropLast++[(s.r.top.fn,s.r.top.slot+n)]:=xX {s.r with used:=s.r.used+1} hp _
theorem Fy(s:bZ)(hp:0<ee s.r.calls)(n:Nat):(s.begin n).r.top={s.r.top with next:=s.r.top.slot+n}:=aH.qw {s.r with used:=s.r.used+1} hp _
theorem SE(s:bZ)(n:Nat):ee (s.begin n).r.calls=ee s.r.calls:=aH.jQ _ _
theorem WZ(s:bZ)(hp:0<ee s.r.calls):(Sj s).2.r.om=s.r.om/\(Sk s).2.r.om=s.r.om/\(Sm s).2.r.om=s.r.om/\(Kg s).2.r.om=s.r.om:=by
 refine⟨?_,?_,?_,?_⟩
 ·unfold Sj;split
  ·rfl
  ·split
   ·rfl
   ·exact nX _ hp _
 ·have e:∀t key val,(Ha s t key val).1.r=s.r:=λt key val=>by
   unfold Ha;split
   ·rfl
   ·split<;>rfl
  unfold Sk;split
  ·rfl
  ·split
   ·rfl
   ·split
    ·rfl
    ·show((Ha _ _ _ _).1.r.answer _).om=_
     rw[e];exact nX _ hp _
 ·have e:∀t key,(Hd s t key).1.r=s.r:=λt key=>by unfold Hd;split<;>rfl
  unfold Sm;split
  ·rfl
  ·split
   ·rfl
   ·show((Hd _ _ _).1.r.answer _).om=_
    rw[e];exact nX _ hp _
 ·unfold Kg;split
  ·rfl
  ·split
   ·rfl
   ·exact nX {s.r with log:=_} hp _
theorem Nh(r:aH)(fn k:Nat):(r.G8 fn k).om=r.om++[(fn,0)]:=by
 have h0:0<ee (r.pI fn k).calls:=by show 0<ee (r.calls++[_]);simp
 have h1:0<ee (r.enter fn k).calls:=by unfold aH.enter;rw[aH.jf];exact h0
 unfold aH.G8;rw[Fx _ _ h1];unfold aH.enter;rw[qx _ h0];unfold aH.om aH.pI;simp only[cW,List.map_cons,List.map_nil]
theorem Xa(r:aH)(hp:1<ee r.calls):r.back.om=r.om.dropLast:=by unfold aH.back;rw[nX _ (by show 0<ee r.calls.dropLast;rw[ar];omega)];unfold aH.om aH.pop;simp only;rw[List.map_dropLast]
theorem Xb{fs:List cZ}{s:bZ}(hc:sw fs (ee s.ms))(ho:dD (ee fs) s)(hp:Hf fs s)(he:s.r.ended=eE)(h0:(s.did fs).1=0):(s.did fs).2.r.ended=eJ\/SB fs (s.did fs).2.r.om:=by
 have hf:=uY fs _ ho.top.fn;have hx:=uZ fs _ _ hp.at';obtain⟨hi,_,hj,hn⟩:=hc.ins _ hf _ hx;have hpos:=ho.pos;have hb:=SC s hpos (s.ins fs).o.slots;have hbt:=Fy s hpos (s.ins fs).o.slots;have hbl:0<ee (s.begin (s.ins fs).o.slots).r.calls:=by rw[SE];exact hpos
 have DL:(dw (s.ins fs).o.code).t≠2->(dw (s.ins fs).o.code).t<=6->SB fs (s.begin (s.ins fs).o.slots).r.om:=λh2 h6 p hp'=>by
  rw[hb]at hp';rcases List.mem_append.1 hp' with hp'|hp'
  ·exact hp.low p hp'
  ·rw[List.mem_singleton.1 hp'];exact hn h2 h6
 have hgo:(dw (s.ins fs).o.code).t=1\/(dw (s.ins fs).o.code).t=2->SB fs ((s.begin (s.ins fs).o.slots).r.mI ((s.ins fs).target (s.begin (s.ins fs).o.slots).r.top.slot).toNat).om:=λh12 p hp'=>by
  have e:=xX (s.begin (s.ins fs).o.slots).r hbl {(s.begin (s.ins fs).o.slots).r.top with next:=((s.ins fs).target (s.begin (s.ins fs).o.slots).r.top.slot).toNat};have hp2:p∈((s.begin (s.ins fs).o.slots).r.eX {(s.begin (s.ins fs).o.slots).r.top with next:=((s.ins fs).target (s.begin (s.ins fs).o.slots).r.top.slot).toNat}).om:=hp';rw[e,hb,cj]at hp2;rcases List.mem_append.1 hp2 with hp2|hp2
  ·exact hp.low p hp2
  ·rw[List.mem_singleton.1 hp2];rw[hbt];exact(hj h12).2
 unfold bZ.did at h0 ⊢;generalize hdd:dw (s.ins fs).o.code=dd at *;obtain⟨t,m,k,bq⟩:=dd;simp only at DL hgo;have hee:(s.begin (s.ins fs).o.slots).r.ended=eE:=he;generalize s.begin (s.ins fs).o.slots=s1 at *;unfold doP at h0 ⊢;simp only at h0 ⊢;split at h0
 ·cases hv:rkP m k (s1.r.bq (s.ins fs).d) (zm bq (s.ins fs) s1)with
  |none=>rw[hv]at h0;cases h0
  |some v=>exact .inr (by simp only;rw[qx _ hbl];exact DL (by decide) (by decide))
 ·cases hv:soP m k (s1.r.bq (s.ins fs).d) (zm bq (s.ins fs) s1)with
  |none=>rw[hv]at h0;cases h0
  |some v =>
   cases v with
   |true=>exact .inr (hgo (.inl rfl))
   |false=>exact .inr (DL (by decide) (by decide))
 ·exact .inr (hgo (.inr rfl))
 ·by_cases ht:jL s1.gs (s1.r.bq (s.ins fs).s) (s.ins fs).jump k=0
  ·rw[iP9 ht];exact .inr (by simp only;rw[qx _ hbl];exact DL (by decide) (by decide))
  ·rw[iN9 ht]at h0;exact absurd h0 ht
 ·by_cases ht:storeT s1.gs (s1.r.bq (s.ins fs).d) (s.ins fs).jump k (zm bq (s.ins fs) s1)=0
  ·rw[iP9 ht];exact .inr (DL (by decide) (by decide))
  ·rw[iN9 ht]at h0;exact absurd h0 ht
 ·exact .inr (by simp only;rw[qx _ hbl];exact DL (by decide) (by decide))
 ·have hs6:=DL (by decide) (by decide);have hcall:=hi.call;rw[show(dw (Az fs s.r.top.fn s.r.top.slot).o.code).t=6 from congrArg UR.t hdd]at hcall;obtain⟨q1,q2,q3,q4⟩:=WZ s1 hbl;by_cases h1:(s.ins fs).s=1
  ·rw[iP9 h1]at h0 ⊢;by_cases h8:ee s1.r.calls=8
   ·rw[iP9 h8]at h0;cases h0
   ·rw[iN9 h8];refine .inr (λp hp'=>?_);simp only at hp';rw[Nh]at hp';rcases List.mem_append.1 hp' with hp'|hp'
    ·exact hs6 p hp'
    ·rw[List.mem_singleton.1 hp'];have hn2:0<=(s.ins fs).num/\(s.ins fs).num<ee fs:=(hcall rfl).1 h1
     exact hc.first _ (uY fs _ (by
      show(s.ins fs).num.toNat<ee fs
      omega))
  ·rw[iN9 h1]at h0 ⊢;right;split
   ·rw[q1];exact hs6
   ·split
    ·rw[q2];exact hs6
    ·split
     ·rw[q3];exact hs6
     ·rw[q4];exact hs6
 ·by_cases h1:ee s1.r.calls=1
  ·rw[iP9 h1]at h0 ⊢;by_cases h2:(s1.r.bq 0).so=0
   ·rw[iP9 h2];exact .inl rfl
   ·rw[iN9 h2]at h0;cases h0
  ·rw[iN9 h1];refine .inr ?_;simp only;rw[Xa _ (by omega),hb,cj];exact hp.low
