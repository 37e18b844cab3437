import Derived.Test.YtekmhcbefnmflaaGreatDoorCL27
namespace Go.Proofs.YtekmhcbefnmflaaGreatDoor
open Go.RowKit Tryz
open List renaming take_zero->bt,take_succ_cons->b5,drop_succ_cons->b9,foldl_append->cb,getElem_mem->cj,length->ee
open Nat renaming le_succ_of_le->ab,le_trans->an,le_refl->ao,zero_le->ar
open Option renaming bind_eq_some_iff->bh,none->ez,some->eC
open Bool renaming false->eE,true->eJ
open Decidable renaming decide->eS
open Ending renaming returned->fR
open Obj renaming cells->eR,map->kq
open Value renaming agg->fW,string->eI,bool->fS,slice->eK,map->jn
open _root_.Go renaming Value->eM,Calls->fL,wpQuiet_nil->lz,wpList_load_row->pC
set_option linter.all false
set_option maxRecDepth 100000
set_option maxHeartbeats 4000000
theorem abF(bs:tLN)(x:fJ)(h:x.kind=4):x.cells bs=Jg 4 ⟨#[]⟩ aD aD aD (vP (bs[x.x.k]?.getD 0)) x.x.r.d x.x.r.s x.x.r.jump x.x.r.num x.x.r.high (T x.x.r.label) (T x.x.r.name) x.x.fits:=by unfold fJ.cells;rw[iP9 h]
theorem Rm(wO w0 w:tW)(b bm bM bF:Nat)(vF vL:eM)(lb:tLN)(o:OL)(k:WK)(bs:tLN)(x:fJ)(hO:dY wO bm vF lb o w0)(h:ig w0 b bm vF bM bF vL k w)(hx:x.kind=4)(hA:∀W,aa ah w0 W->eu W (bs[x.x.k]?.getD 0) x.x.o)(hne:k.funcs≠[])(hl:ee k.funcs<=ee o.fs)(hl2:ee o.fs<=1000001)(hs:k.slots<=2000002):fL prog 142 #[vP b,fW (x.cells bs)] w λe w'=>e=fR (vI (rV o k x))/\ig w0 b bm vF bM bF vL (iC k x) w':=by
 have HF:af (rV o k x=if x.x.fits=eE then 3
  else if(x.x.o.jumps&&!rU (o.fs.getD (ee k.funcs-1) {}) x.x.r.label)=eJ then 5
  else if(eS ((if x.x.r.s=1 then x.x.o.aJ else 0)=2)&&eS (o.maps.count x.x.r.name=0))=eJ then 5
  else if 200<k.slots+x.x.o.slots then 1 else 0):=rfl
 have HHL:af (∀w',ig w0 b bm vF bM bF vL (iC k x) w'->fL prog 266 #[vP b,eI (T x.x.r.label)] w' λe w''=>e=fR (fS (rU (o.fs.getD (ee k.funcs-1) {}) x.x.r.label))/\aa ah w' w''):=λw' h'=>V5 wO w0 w' b bm bM bF vF vL lb o (iC k x) x.x.r.label hO h' hne hl hl2;have Bz:af (∀w',aa ah w0 w'->fL prog 71 #[fW #[vP (bs[x.x.k]?.getD 0),vB x.x.r.d,vB x.x.r.s,.int .i16 x.x.r.jump,vJ x.x.r.num,vJ x.x.r.high,eI (T x.x.r.label),eI (T x.x.r.name)]] w' λe w''=>e=fR (vI ((if x.x.r.s=1 then x.x.o.aJ else 0:Nat):Int))/\aa ah w' w''):=λw' m=>rT w' _ x.x.o (hA w' m) _ _ _ _ _ _ _;have GH:=ai (λw' (m:aa ah w0 w')=>(hO.quiet m).maps.look x.x.r.name);have hs2:=x.x.zX;have ZH:=ai hA;have Ye:=ai h;have HST:af (∀W,ig w0 b bm vF bM bF vL k W->ig w0 b bm vF bM bF vL (iC k x) (W.setCell ⟨b,6,ez⟩ (vI ((k.slots:Int)+x.x.o.slots)))):=λW hW=>hW.code rfl;have I4:af (((iC k x).slots:Int)=(k.slots:Int)+x.x.o.slots):=by rw[af];simp[iC]
 obtain⟨vo,vc,qi,_⟩:=hO.sl.view;subst qi;obtain⟨vq,rfl⟩:=h.vl;rw[abF bs x hx];unfold Jg aD;dsimp only;clear h hx hO hA;generalize rV o k x=r at *;generalize rU (o.fs.getD (ee k.funcs-1) {}) x.x.r.label=hb at *;generalize bs[x.x.k]?.getD 0=bo at *;generalize o.maps.count x.x.r.name=mc at *;generalize T x.x.r.label=lab at *;generalize T x.x.r.name=nam at *;generalize hcs:(#[vI ((4:Nat):Int),eI ⟨#[]⟩,fS eE,vU ((0%18446744073709551616:Nat):Int),fS (eS (18446744073709551616<=0)),fS eE,vU ((0%18446744073709551616:Nat):Int),fS (eS (18446744073709551616<=0)),fS eE,vU ((0%18446744073709551616:Nat):Int),fS (eS (18446744073709551616<=0)),vP bo,vB x.x.r.d,vB x.x.r.s,.int .i16 x.x.r.jump,vJ x.x.r.num,vJ x.x.r.high,eI lab,eI nam,fS x.x.fits]:tAV)=cs at *;have jS:=ai hcs.symm;clear hcs;have GQ:af (aa ah w (w.alloc (eR cs 143))):=aq;have KP:=ai (ak.new w cs 143);have HW1:=ai (Ye.o.quiet GQ.o);go_in;go_upto_region 1 with fail;generalize w.alloc (eR cs 143)=w1 at *;generalize w.heap.size=B at *;have gu:af (aa ah w1 w1.drew):=aU;refine bU 13 (by kernel_rfl) (by kernel_rfl) ?_;intro W hW;rw[<-hW]at gu;clear hW;have HW2:=ai (HW1.o.quiet gu.o);have HB2:=ai (KP.o.ae gu.o id);obtain⟨p1,p2,p3,p4,p5,p6,p7,p8,p9,p10,p11,CK,_⟩:=(ZH.o W HW2.o.md).ex;have c11:W.cell? ⟨B,11,ez⟩=eC (vP bo):=(HB2.o.cell 11).trans (by rw[jS.o];rfl);have b6:=HW2.o.blk.c6;have o2:=CK.cell 2;have bf:=HW2.o.blk.frozen;have HBb:af (B≠b):=λe=>HB2.o.apart HW2.o.blk (by decide) e;have HOb:af (bo≠b):=λe=>CK.apart HW2.o.blk (by decide) e;have sN:=HST.o W HW2.o;have jr:af (ak (W.setCell ⟨b,6,ez⟩ (vI ((k.slots:Int)+x.x.o.slots))) B cs 143):=HB2.o.setOther (a:=⟨b,6,ez⟩) HBb.o.symm _;have sN:=ai sN;clear CK HW1 KP GQ Ye HST;generalize x.x.o.slots=os at *;generalize k.slots=ks at *;simp only[b5,bt,b9,List.drop_zero]
 repeat(go_big_quiet_step (fail))
 refine lz ?_;go_upto_region 2 with fail;generalize W.setCell ⟨b,6,ez⟩ (vI ((ks:Int)+os))=w5 at *;clear c11 b6 o2 bf HW2 HB2 gu;have HBC:af (∀W,ak W B cs 143->W.cell? ⟨B,11,ez⟩=eC (vP bo)/\W.cell? ⟨B,17,ez⟩=eC (eI lab)/\W.cell? ⟨B,19,ez⟩=eC (fS x.x.fits)):=λW hb=>⟨(hb.cell 11).trans (by rw[jS.o];rfl),(hb.cell 17).trans (by rw[jS.o];rfl),(hb.cell 19).trans (by rw[jS.o];rfl)⟩
 have TK:af (∀W,ak W B cs 143->W.cell? ⟨B,12,ez⟩=eC (vB x.x.r.d)/\W.cell? ⟨B,13,ez⟩=eC (vB x.x.r.s)/\W.cell? ⟨B,14,ez⟩=eC (.int .i16 x.x.r.jump)/\W.cell? ⟨B,15,ez⟩=eC (vJ x.x.r.num)/\W.cell? ⟨B,16,ez⟩=eC (vJ x.x.r.high)/\W.cell? ⟨B,18,ez⟩=eC (eI nam)):=λW hb=>⟨(hb.cell 12).trans (by rw[jS.o];rfl),(hb.cell 13).trans (by rw[jS.o];rfl),(hb.cell 14).trans (by rw[jS.o];rfl),(hb.cell 15).trans (by rw[jS.o];rfl),(hb.cell 16).trans (by rw[jS.o];rfl),(hb.cell 18).trans (by rw[jS.o];rfl)⟩
 have HOJ:af (∀W,aa ah w0 W->W.cell? ⟨bo,3,ez⟩=eC (fS x.x.o.jumps)):=λW m=>by obtain⟨p1,p2,p3,p4,p5,p6,p7,p8,p9,p10,p11,CK,_⟩:=(ZH.o W m).ex;exact CK.cell 3
 clear ZH jS;generalize afk:(if x.x.r.s=1 then x.x.o.aJ else 0)=rf at *;generalize x.x.o.jumps=oj at *;generalize x.x.r.d=xd at *;generalize x.x.r.s=xs at *;generalize x.x.r.jump=xj at *;generalize x.x.r.num=xn at *;generalize x.x.r.high=xh at *;generalize x.x.fits=xf at *;clear afk;obtain⟨c11,c17,c19⟩:=HBC.o w5 jr.o;have o3:=HOJ.o w5 sN.o.md;cases xf with
 |false =>
  have HR:af (r=3):=by rw[af,HF.o,iP9 rfl]
  go_wp2_with fail;go_ret;exact⟨bT (by rw[HR.o];rfl),sN.o⟩
 |true =>
  have VZ:af (r=if(oj&&!hb)=eJ then 5 else if(eS (rf=2)&&eS (mc=0))=eJ then 5 else if 200<ks+os then 1 else 0):=by rw[af,HF.o,iN9 (by decide)]
  cases oj with
  |true =>
   go_wp2_with fail;refine(HHL.o _ sN.o).mono ?_;rintro e w6 ⟨rfl,m6⟩;have mO:=ai (sN.o.quiet m6);have tK:=ai (jr.o.ae m6 id);clear m6 sN jr;cases hb with
   |false =>
    have HR:af (r=5):=by rw[af,VZ.o,iP9 (by decide)]
    go_wp2_with fail;go_ret;exact⟨bT (by rw[HR.o];rfl),mO.o⟩
   |true =>
    have Mj:af (r=if(eS (rf=2)&&eS (mc=0))=eJ then 5 else if 200<ks+os then 1 else 0):=by rw[af,VZ.o,iN9 (by decide)]
    go_upto_region 6 with fail;have hw6:=mO.o;have hb6:=tK.o;have d11:=λ(e:Ext ah w6)=>(HBC.o e.w (tK.o.ae e.m id)).1;have d17:=λ(e:Ext ah w6)=>(HBC.o e.w (tK.o.ae e.m id)).2.1;have d12:=λ(e:Ext ah w6)=>(TK.o e.w (tK.o.ae e.m id)).1;have d13:=λ(e:Ext ah w6)=>(TK.o e.w (tK.o.ae e.m id)).2.1;have d14:=λ(e:Ext ah w6)=>(TK.o e.w (tK.o.ae e.m id)).2.2.1;have d15:=λ(e:Ext ah w6)=>(TK.o e.w (tK.o.ae e.m id)).2.2.2.1;have d16:=λ(e:Ext ah w6)=>(TK.o e.w (tK.o.ae e.m id)).2.2.2.2.1;have d18:=λ(e:Ext ah w6)=>(TK.o e.w (tK.o.ae e.m id)).2.2.2.2.2;have dm:=λ(e:Ext ah w6)=>(mO.o.quiet e.m).blk.c0;have dl:=λ(e:Ext ah w6)=>GH.o e.w (mO.o.md.trans e.m);have Mk:=ai (λ(e:Ext ah w6)=>Bz.o e.w (mO.o.md.trans e.m));clear hw6 hb6 c11 c17 c19 o3;have ne1:=Ext.ne ah w6;refine fZ ah (by kernel_rfl) (by kernel_rfl) ?_
    have Rn:af (∀w2,aa ah w6 w2->ig w0 b bm (eK vo (ee o.fs) vc) bM bF (jn vq) (iC k x) w2/\w2.cell? ⟨b,6,ez⟩=eC (vI ((ks:Int)+os))):=λw2 m=>⟨mO.o.quiet m,by
     have:=(mO.o.quiet m).blk.cell 6;rw[I4.o]at this;exact this⟩
    by_cases h2:rf=2
    ·subst h2;by_cases h0:mc=0
     ·subst h0;have HR:af (r=5):=by rw[af,Mj.o,iP9 (by decide)]
      repeat(go_big_quiet_step (first |(go_at_call 71;exact Calls.mV (Mk.o _))))
      refine lz ?_;rintro w2 ⟨e2,JF⟩;have m2:aa ah w6 w2:=by rw[JF];exact e2.m
      clear JF e2;obtain⟨hW2,b6⟩:=Rn.o w2 m2;have HW2:=ai hW2;clear hW2 m2 Rn;go_wp2_with fail;go_ret;exact⟨bT (by rw[HR.o];rfl),HW2.o⟩
     ·have hq0:((mc:Int)==0)=eE:=by simp;omega
      have HR:af (r=if 200<ks+os then 1 else 0):=by rw[af,Mj.o,iN9 (by simp;omega)]
      repeat(go_big_quiet_step (first |(go_at_call 71;exact Calls.mV (Mk.o _))))
      refine lz ?_;rintro w2 ⟨e2,JF⟩;have m2:aa ah w6 w2:=by rw[JF];exact e2.m
      clear JF e2;obtain⟨hW2,b6⟩:=Rn.o w2 m2;have HW2:=ai hW2;clear hW2 m2 Rn;by_cases h3:200<ks+os
      ·have iO:af (r=1):=by rw[af,HR.o,iP9 h3]
       have h3':(200:Int)<(ks:Int)+os:=by omega
       go_wp2_with fail;go_ret;exact⟨bT (by rw[iO.o];rfl),HW2.o⟩
      ·have iO:af (r=0):=by rw[af,HR.o,iN9 h3]
       have h3':¬(200:Int)<(ks:Int)+os:=by omega
       go_wp2_with fail;go_ret;exact⟨bT (by rw[iO.o];rfl),HW2.o⟩
    ·have hq2:((rf:Int)==2)=eE:=by simp;omega
     have HR:af (r=if 200<ks+os then 1 else 0):=by rw[af,Mj.o,iN9 (by simp;omega)]
     repeat(go_big_quiet_step (first |(go_at_call 71;exact Calls.mV (Mk.o _))))
     refine lz ?_;rintro w2 ⟨e2,JF⟩;have m2:aa ah w6 w2:=by rw[JF];exact e2.m
     clear JF e2;obtain⟨hW2,b6⟩:=Rn.o w2 m2;have HW2:=ai hW2;clear hW2 m2 Rn;by_cases h3:200<ks+os
     ·have iO:af (r=1):=by rw[af,HR.o,iP9 h3]
      have h3':(200:Int)<(ks:Int)+os:=by omega
      go_wp2_with fail;go_ret;exact⟨bT (by rw[iO.o];rfl),HW2.o⟩
     ·have iO:af (r=0):=by rw[af,HR.o,iN9 h3]
      have h3':¬(200:Int)<(ks:Int)+os:=by omega
      go_wp2_with fail;go_ret;exact⟨bT (by rw[iO.o];rfl),HW2.o⟩
  |false =>
   have Mj:af (r=if(eS (rf=2)&&eS (mc=0))=eJ then 5 else if 200<ks+os then 1 else 0):=by rw[af,VZ.o,iN9 (by simp)]
   go_upto_region 6 with fail;have hw6:=sN.o;have hb6:=jr.o;have d11:=λ(e:Ext ah w5)=>(HBC.o e.w (jr.o.ae e.m id)).1;have d17:=λ(e:Ext ah w5)=>(HBC.o e.w (jr.o.ae e.m id)).2.1;have d12:=λ(e:Ext ah w5)=>(TK.o e.w (jr.o.ae e.m id)).1;have d13:=λ(e:Ext ah w5)=>(TK.o e.w (jr.o.ae e.m id)).2.1;have d14:=λ(e:Ext ah w5)=>(TK.o e.w (jr.o.ae e.m id)).2.2.1;have d15:=λ(e:Ext ah w5)=>(TK.o e.w (jr.o.ae e.m id)).2.2.2.1;have d16:=λ(e:Ext ah w5)=>(TK.o e.w (jr.o.ae e.m id)).2.2.2.2.1;have d18:=λ(e:Ext ah w5)=>(TK.o e.w (jr.o.ae e.m id)).2.2.2.2.2;have dm:=λ(e:Ext ah w5)=>(sN.o.quiet e.m).blk.c0;have dl:=λ(e:Ext ah w5)=>GH.o e.w (sN.o.md.trans e.m);have Mk:=ai (λ(e:Ext ah w5)=>Bz.o e.w (sN.o.md.trans e.m));clear hw6 hb6 c11 c17 c19 o3;have ne1:=Ext.ne ah w5;refine fZ ah (by kernel_rfl) (by kernel_rfl) ?_
   have Rn:af (∀w2,aa ah w5 w2->ig w0 b bm (eK vo (ee o.fs) vc) bM bF (jn vq) (iC k x) w2/\w2.cell? ⟨b,6,ez⟩=eC (vI ((ks:Int)+os))):=λw2 m=>⟨sN.o.quiet m,by
    have:=(sN.o.quiet m).blk.cell 6;rw[I4.o]at this;exact this⟩
   by_cases h2:rf=2
   ·subst h2;by_cases h0:mc=0
    ·subst h0;have HR:af (r=5):=by rw[af,Mj.o,iP9 (by decide)]
     repeat(go_big_quiet_step (first |(go_at_call 71;exact Calls.mV (Mk.o _))))
     refine lz ?_;rintro w2 ⟨e2,JF⟩;have m2:aa ah w5 w2:=by rw[JF];exact e2.m
     clear JF e2;obtain⟨hW2,b6⟩:=Rn.o w2 m2;have HW2:=ai hW2;clear hW2 m2 Rn;go_wp2_with fail;go_ret;exact⟨bT (by rw[HR.o];rfl),HW2.o⟩
    ·have hq0:((mc:Int)==0)=eE:=by simp;omega
     have HR:af (r=if 200<ks+os then 1 else 0):=by rw[af,Mj.o,iN9 (by simp;omega)]
     repeat(go_big_quiet_step (first |(go_at_call 71;exact Calls.mV (Mk.o _))))
     refine lz ?_;rintro w2 ⟨e2,JF⟩;have m2:aa ah w5 w2:=by rw[JF];exact e2.m
     clear JF e2;obtain⟨hW2,b6⟩:=Rn.o w2 m2;have HW2:=ai hW2;clear hW2 m2 Rn;by_cases h3:200<ks+os
     ·have iO:af (r=1):=by rw[af,HR.o,iP9 h3]
      have h3':(200:Int)<(ks:Int)+os:=by omega
      go_wp2_with fail;go_ret;exact⟨bT (by rw[iO.o];rfl),HW2.o⟩
     ·have iO:af (r=0):=by rw[af,HR.o,iN9 h3]
      have h3':¬(200:Int)<(ks:Int)+os:=by omega
      go_wp2_with fail;go_ret;exact⟨bT (by rw[iO.o];rfl),HW2.o⟩
   ·have hq2:((rf:Int)==2)=eE:=by simp;omega
    have HR:af (r=if 200<ks+os then 1 else 0):=by rw[af,Mj.o,iN9 (by simp;omega)]
    repeat(go_big_quiet_step (first |(go_at_call 71;exact Calls.mV (Mk.o _))))
    refine lz ?_;rintro w2 ⟨e2,JF⟩;have m2:aa ah w5 w2:=by rw[JF];exact e2.m
    clear JF e2;obtain⟨hW2,b6⟩:=Rn.o w2 m2;have HW2:=ai hW2;clear hW2 m2 Rn;by_cases h3:200<ks+os
    ·have iO:af (r=1):=by rw[af,HR.o,iP9 h3]
     have h3':(200:Int)<(ks:Int)+os:=by omega
     go_wp2_with fail;go_ret;exact⟨bT (by rw[iO.o];rfl),HW2.o⟩
    ·have iO:af (r=0):=by rw[af,HR.o,iN9 h3]
     have h3':¬(200:Int)<(ks:Int)+os:=by omega
     go_wp2_with fail;go_ret;exact⟨bT (by rw[iO.o];rfl),HW2.o⟩
def oN(w0:tW)(b bm bM bF:Nat)(vF:eM)(k:WK)(r:Nat)(e:Ending)(w':tW):Prop:=e=fR (vI r)/\∃vL,ig w0 b bm vF bM bF vL k w'
def firstP(o:OL):List fJ->WK->Nat->Nat×Nat
 |[],_,_=>(0,0)
 |x::ls,k,n=>if fD o k x=0 then firstP o ls (kD k x) (n+1)else(fD o k x,n+1)
theorem JG(o:OL)(ls:List fJ)(i:Nat)(h:i<ee ls)(k:WK)(n:Nat):firstP o (ls.drop i) k n=if fD o k ls[i]=0 then firstP o (ls.drop (i+1)) (kD k ls[i]) (n+1)else(fD o k ls[i],n+1):=by rw[List.drop_eq_getElem_cons h];rfl
structure Ml(ls:List fJ)(i:Nat)(k:WK):Prop where
 m:k.maps.Nodup
 f:k.funcs.Nodup
 n:ee k.funcs=ee (au (ls.take i)).fs
 s:k.slots<=2*i
 ml:ee k.maps<=i
 ll:ee k.labels<=i
theorem kW(o:OL)(f:tM):ee (o.dK f).fs=ee o.fs:=by simp[OL.dK]
theorem Ml.step{ls:List fJ}{i:Nat}{k:WK}(h:Ml ls i k)(o:OL)(hi:i<ee ls)(hz:fD o k ls[i]=0):Ml ls (i+1) (kD k ls[i]):=by
 obtain⟨h1,h2,h3,h4,h5,h6⟩:=h;have hs:=gW ls i hi;generalize ls[i]=x at *;unfold fD at hz;unfold kD;by_cases k1:x.kind=1
 ·rw[iP9 k1]at hz ⊢;unfold ql at hz;split at hz
  ·cases hz
  split at hz
  ·cases hz
  rename_i _ hc
  refine⟨List.nodup_cons.2 ⟨λhm=>hc (List.count_pos_iff.2 hm),h1⟩,h2,?_,an h4 (by omega),by simpa [ze]using h5,ab h6⟩;rw[hs,bV,iP9 k1];exact h3
 rw[iN9 k1]at hz ⊢;by_cases k2:x.kind=2
 ·rw[iP9 k2]at hz ⊢;unfold nT at hz;split at hz
  ·cases hz
  rename_i hc
  refine⟨h1,List.nodup_cons.2 ⟨λhm=>hc (List.count_pos_iff.2 hm),h2⟩,?_,an h4 (by omega),ab h5,ar _⟩;rw[hs,bV,iN9 k1,iP9 k2];simp[jP,h3]
 rw[iN9 k2]at hz ⊢;by_cases k3:x.kind=3
 ·rw[iP9 k3]at hz ⊢;refine⟨h1,h2,?_,an h4 (by omega),ab h5,by simpa [uQ]using h6⟩;rw[hs,bV,iN9 k1,iN9 k2,iP9 k3,kW];exact h3
 rw[iN9 k3]at hz ⊢;by_cases k4:x.kind=4
 ·rw[iP9 k4]at hz ⊢;have:=x.x.zX;refine⟨h1,h2,?_,by show k.slots+x.x.o.slots<=_;omega,ab h5,ab h6⟩;rw[hs,bV,iN9 k1,iN9 k2,iN9 k3,iP9 k4,kW];exact h3
 ·rw[iN9 k4]at hz ⊢;refine⟨h1,h2,?_,an h4 (by omega),ab h5,ab h6⟩;rw[hs,bV,iN9 k1,iN9 k2,iN9 k3,iN9 k4];exact h3
theorem Be(o:OL)(x:fJ):ee o.fs<=ee (bV o x).fs:=by
 unfold bV;split
 ·exact ao _
 split
 ·simp
 split
 ·rw[kW];exact ao _
 split
 ·rw[kW];exact ao _
 ·exact ao _
theorem JH:∀(ls:List fJ) (o:OL),ee o.fs<=ee (ls.foldl bV o).fs
 |[],_=>ao _
 |x::ls,o=>an (Be o x) (JH ls (bV o x))
theorem rW(ls:List fJ)(i:Nat):ee (au (ls.take i)).fs<=ee (au ls).fs:=by
 have h:=JH (ls.drop i) (au (ls.take i));have e:(ls.drop i).foldl bV (au (ls.take i))=au ls:=by unfold au;rw[<-cb,List.take_append_drop]
 rwa [e]at h
theorem JI(ls:List fJ)(i:Nat)(hi:i<ee ls)(h2:ls[i].kind=2):ee (au (ls.take i)).fs<ee (au ls).fs:=by have h:=rW ls (i+1);rw[gW ls i hi,bV,iN9 (by omega),iP9 h2]at h;simp at h;omega
def Ai(w:tW)(p:Nat×Nat)(e:Ending)(w':tW):Prop:=e=fR (.tuple #[vI p.1,vI p.2])/\aa ah w w'
theorem Mm(ls:List fJ):ee (au ls).fs<=ee ls:=by
 have:=(jE ls (ee ls) (ao _)).2
 rwa [List.take_length]at this
set_option linter.all false
theorem ZW(wO w0 w:tW)(b bm bM bF:Nat)(vF vL:eM)(lb:tLN)(o:OL)(k:WK)(bs:tLN)(x:fJ)(hO:dY wO bm vF lb o w0)(h:ig w0 b bm vF bM bF vL k w)(hA:x.kind=4->∀W,aa ah w0 W->eu W (bs[x.x.k]?.getD 0) x.x.o)(hM:k.maps.Nodup) (hx2:1<=x.kind/\x.kind<=4) (hFn:k.funcs.Nodup) (Oi:x.kind=3\/x.kind=4->k.funcs≠[]) (h2:x.kind=2->ee k.funcs<ee o.fs) (hl:ee k.funcs<=ee o.fs) (hl2:ee o.fs<=1000001) (hs:k.slots<=2000002) (hm:ee k.maps<=1000001) (hlb:ee k.labels<=1000001):fL prog 59 #[vP b,fW (x.cells bs)] w λe w'=>oN w0 b bm bM bF vF (kD k x) (fD o k x) e w':=by
 obtain⟨vo,vc,qi,_⟩:=hO.sl.view;have E4:af (x.kind=1->∀w',ig w0 b bm vF bM bF vL k w'->fL prog 140 #[vP b,fW (x.cells bs)] w' λe w''=>oN w0 b bm bM bF vF (kD k x) (fD o k x) e w''):=λhx w' h'=>(V4 w0 w' b bm bM bF vF vL k bs x h' ⟨_,_,_,qi⟩ hx hm hM).mono λe w'' hp=>⟨by rw[fD,iP9 hx];exact hp.1,vL,by rw[kD,iP9 hx];exact hp.2⟩
 have HC2:af (x.kind=2->∀w',ig w0 b bm vF bM bF vL k w'->fL prog 141 #[vP b,fW (x.cells bs)] w' λe w''=>oN w0 b bm bM bF vF (kD k x) (fD o k x) e w''):=λhx w' h'=>(Rl wO w0 w' b bm bM bF vF vL lb o k bs x hO h' hx (h2 hx) hl2 hFn).mono λe w'' hp=>⟨by rw[fD,iN9 (by omega),iP9 hx];exact hp.1,by rw[kD,iN9 (by omega),iP9 hx];exact hp.2⟩
 have HC4:af (x.kind=4->∀w',ig w0 b bm vF bM bF vL k w'->fL prog 142 #[vP b,fW (x.cells bs)] w' λe w''=>oN w0 b bm bM bF vF (kD k x) (fD o k x) e w''):=λhx w' h'=>(Rm wO w0 w' b bm bM bF vF vL lb o k bs x hO h' hx (hA hx) (Oi (.inr hx)) hl hl2 hs).mono λe w'' hp=>⟨by rw[fD,iN9 (by omega),iN9 (by omega),iN9 (by omega),iP9 hx];exact hp.1,vL,by rw[kD,iN9 (by omega),iN9 (by omega),iN9 (by omega),iP9 hx];exact hp.2⟩
 have Rk:af (x.kind=3->∀e w',e=fR (vI (vW k x))->ig w0 b bm vF bM bF vL (uQ k x) w'->oN w0 b bm bM bF vF (kD k x) (fD o k x) e w'):=λhx e w' h1 h2=>⟨by rw[fD,iN9 (by omega),iN9 (by omega),iP9 hx];exact h1,vL,by rw[kD,iN9 (by omega),iN9 (by omega),iP9 hx];exact h2⟩
 have Ib:af (x.kind=3->∃bL,vL=jn (eC bL)/\∀W,ig w0 b bm vF bM bF vL k W->eQ W bL k.labels/\∀W',eQ W' bL (x.name::k.labels)->aa (λi=>i=bL) W W'->ig w0 b bm vF bM bF vL (uQ k x) W'):=λhx=>by obtain⟨bL,h1,_⟩:=h.ls (Oi (.inl hx));subst h1;refine⟨bL,rfl,λW hW=>⟨?_,λW' hc m=>hW.lab (Oi (.inl hx)) hc m⟩⟩;obtain⟨bL',h1,h2,_⟩:=hW.ls (Oi (.inl hx));injection h1 with h1;injection h1 with h1;subst h1;exact h2
 have jS:=ai (gV bs x);have YK:=ai (rF bs x);have Hz:=ai (nK bs x);have HO1:=ai (cells_one bs x);have HLF:af (vW k x=if 0<k.labels.count x.name then 4 else 0):=rfl;have hcn:k.labels.count x.name<=1000001:=an List.count_le_length hlb;have Ye:=ai h;subst qi;obtain⟨vq,rfl⟩:=h.vl;clear h hO hA hM hFn Oi h2;have Mk:af (∀e w',oN w0 b bm bM bF (eK vo (ee o.fs) vc) (kD k x) (fD o k x) e w'->∃n:Nat,e=fR (vI n)):=λe w' hp=>⟨_,hp.1⟩
 generalize oN w0 b bm bM bF (eK vo (ee o.fs) vc) (kD k x) (fD o k x)=RP at *;generalize vW k x=lf at *;generalize x.cells bs=cs at *;have GQ:af (aa ah w (w.alloc (eR cs 143))):=aq;have HB1:=ai (ak.new w cs 143);have HW1:=ai (Ye.o.quiet GQ.o);go_in;go_upto_region 1 with fail;generalize w.alloc (eR cs 143)=w1 at *;generalize w.heap.size=B at *;have c0:=(HB1.o.cell 0).trans YK.o;have hcase:x.kind=1\/x.kind=2\/x.kind=3\/x.kind=4:=by omega
 rcases hcase with hx|hx|hx|hx
 ·have q1:((x.kind:Int)==1)=eJ:=by rw[hx];rfl
  have HC:=E4.o hx;clear hx;go_wp2_with (refine pC rfl 143 (.tmp 3) rfl B rfl 143 cs (0,0) _ HB1.o underlying143 rfl (by rw[jS.o];kernel_rfl) ?_);refine(HC _ HW1.o).mono ?_;intro e w2 hp;obtain⟨n,rfl⟩:=Mk.o e w2 hp;have HP:=ai hp;clear hp;go_wp2_with fail;exact HP.o
 ·have q1:((x.kind:Int)==1)=eE:=by rw[hx];rfl
  have q2:((x.kind:Int)==2)=eJ:=by rw[hx];rfl
  have HC:=HC2.o hx;clear hx;go_wp2_with (refine pC rfl 143 (.tmp 3) rfl B rfl 143 cs (0,0) _ HB1.o underlying143 rfl (by rw[jS.o];kernel_rfl) ?_);refine(HC _ HW1.o).mono ?_;intro e w2 hp;obtain⟨n,rfl⟩:=Mk.o e w2 hp;have HP:=ai hp;clear hp;go_wp2_with fail;exact HP.o
 ·have q1:((x.kind:Int)==1)=eE:=by rw[hx];rfl
  have q2:((x.kind:Int)==2)=eE:=by rw[hx];rfl
  have q3:((x.kind:Int)==3)=eJ:=by rw[hx];rfl
  have HC:=ai (Rk.o hx);obtain⟨bL,hbL,hLL⟩:=Ib.o hx;injection hbL with hbL;subst hbL;have HL:=ai hLL;have HN:=ai (Hz.o (by omega));clear hx hLL;go_upto_region 7 with fail;have gu:af (aa ah w1 w1.drew):=aU;refine bU 8 (by kernel_rfl) (by kernel_rfl) ?_;intro W hW;rw[<-hW]at gu;clear hW c0;have HW2:=ai (HW1.o.quiet gu.o);have HB2:=ai (HB1.o.ae gu.o id);have c1:=(HB2.o.cell 1).trans HN.o;have b4:=HW2.o.blk.c4;obtain⟨hcL,hst⟩:=HL.o W HW2.o;have hlk:=hcL.look x.name;obtain⟨w5,ZG,Ra,m5⟩:=hcL.put x.name;have sN:=ai (hst w5 Ra m5);have jr:=ai (HB2.o.ae m5 (λe=>hcL.ay HB2.o e));have HC5:=ai Ra;have HLC:af ((x.name::k.labels).count x.name=k.labels.count x.name+1):=List.count_cons_self ..;clear Ra m5 hst hcL;generalize k.labels.count x.name=cn at *;simp only[b5,bt,b9,List.drop_zero]
  repeat(go_big_quiet_step (fail))
  refine lz ?_;clear hlk c1 b4 HW2 HB2 gu;go_upto_region 8 with fail;have gu:af (aa ah w5 w5.drew):=aU;refine kC (by kernel_rfl) (by kernel_rfl) ?_;intro W7 hW7;rw[<-hW7]at gu;clear hW7 ZG;have tL:=ai (sN.o.quiet gu.o);have c1:=((jr.o.ae gu.o id).cell 1).trans HN.o;have b4:=tL.o.blk.c4;have hlk:=(HC5.o.ae gu.o id).look x.name;rw[HLC.o]at hlk;clear gu sN jr HC5;by_cases h0:0<cn
  ·have HR:af (lf=4):=by rw[af,HLF.o,iP9 h0]
   have hq:((1:Int)<((cn+1:Nat):Int)):=by omega
   repeat(go_big_quiet_step (fail))
   refine lz ?_;go_wp2_with fail;exact HC.o _ _ (bT (by rw[HR.o];rfl)) tL.o
  ·have hc0:cn=0:=by omega
   subst hc0;have HR:af (lf=0):=by rw[af,HLF.o,iN9 h0]
   repeat(go_big_quiet_step (fail))
   refine lz ?_;go_wp2_with fail;exact HC.o _ _ (bT (by rw[HR.o];rfl)) tL.o
 ·have q1:((x.kind:Int)==1)=eE:=by rw[hx];rfl
  have q2:((x.kind:Int)==2)=eE:=by rw[hx];rfl
  have q3:((x.kind:Int)==3)=eE:=by rw[hx];rfl
  have q4:((x.kind:Int)==4)=eJ:=by rw[hx];rfl
  have HC:=HC4.o hx;clear hx;go_wp2_with (refine pC rfl 143 (.tmp 3) rfl B rfl 143 cs (0,0) _ HB1.o underlying143 rfl (by rw[jS.o];kernel_rfl) ?_);refine(HC _ HW1.o).mono ?_;intro e w2 hp;obtain⟨n,rfl⟩:=Mk.o e w2 hp;have HP:=ai hp;clear hp;go_wp2_with fail;exact HP.o
set_option linter.all false
theorem Ro(wT wL wO w:tW)(v vL vF:eM)(bm:Nat)(lb bs:tLN)(ls:List fJ)(hT:aT 0 wT v bs ax)(m:aa ah wT w)(hL:jD wL vL bs ls w)(hO:dY wO bm vF lb (au ls) w)(hin:InF ls)(hk4:∀x∈ls,x.kind=4->x.x.k<ee ax)(hnl:ee ls<=1000001)(hkk:∀x∈ls,1<=x.kind/\x.kind<=4)(h0:(firstP (au ls) ls {} 0).1=0):fL prog 25 #[vL,fW #[jn (eC bm),vF]] w λe w'=>Ai w (firstP (au ls) ls {} 0) e w':=by
 have Bv:af (∀w',aa ah w w'->∀x∈ls,x.kind=4->eu w' (bs[x.x.k]?.getD 0) x.x.o):=λw' m' x hx h4=>by
  have h1:=hk4 x hx h4;have h2:x.x.k<ee bs:=by rw[hT.len];exact h1
  have:=(hT.ae (m.trans m')).at' x.x.k h2 h1;rw[List.getElem?_eq_getElem h2];unfold fG.o;rw[List.getElem?_eq_getElem h1];exact this
 have Ya:=ai hL;have hol:=an (Mm ls) hnl
 have HFL:af (∀i (hi:i<ee ls) (b bM bF:Nat) (vl:eM) (k:WK) (w':tW),Ml ls i k->ig w b bm vF bM bF vl k w'->fL prog 59 #[vP b,fW (ls[i].cells bs)] w' λe w''=>oN w b bm bM bF vF (kD k ls[i]) (fD (au ls) k ls[i]) e w''):=λi hi b bM bF vl k w' hk hw=>by
  have hm:=rW ls i;refine ZW wO w w' b bm bM bF vF vl lb (au ls) k bs ls[i] hO hw (λh4 W hW=>Bv.o W hW _ (cj hi) h4) hk.m (hkk _ (cj hi)) hk.f (λOi=>?_) (λh2=>?_) (by rw[hk.n];exact hm) hol ?_ ?_ ?_
  ·have:=hin i hi Oi;intro e;have hn:=hk.n;rw[e]at hn;exact this (List.length_eq_zero_iff.1 hn.symm)
  ·rw[hk.n];exact JI ls i hi h2
  ·have:=hk.s;omega
  ·have:=hk.ml;omega
  ·have:=hk.ll;omega
 have HDR:af (∀i (h:i<ee ls) k n,firstP (au ls) (ls.drop i) k n=if fD (au ls) k ls[i]=0 then firstP (au ls) (ls.drop (i+1)) (kD k ls[i]) (n+1)else(fD (au ls) k ls[i],n+1)):=λi h k n=>JG _ ls i h k n;have Um:af (∀e w',e=fR (.tuple #[vI (firstP (au ls) ls {} 0).1,vI (firstP (au ls) ls {} 0).2])->aa ah w w'->Ai w (firstP (au ls) ls {} 0) e w'):=λe w' h1 h2=>⟨h1,h2⟩
 obtain⟨oL,cL,rfl,_⟩:=hL.sl.view;obtain⟨oF,cF,qi,_⟩:=hO.sl.view;have AY:af (Ml ls 0 {}):=⟨List.nodup_nil,List.nodup_nil,by rw[bt];rfl,ar _,ar _,ar _⟩
 have HST:=ai (λi k (hi:i<ee ls) (h:Ml ls i k) (hz:fD (au ls) k ls[i]=0)=>h.step (au ls) hi hz);have hmm:=@run_makeMap prog;generalize Ai w (firstP (au ls) ls {} 0)=RP at *;have ZA:af (firstP (au ls) (ls.drop 0) {} 0=firstP (au ls) ls {} 0):=rfl;have HZ:=ai h0;clear h0;generalize firstP (au ls) ls {} 0=pr at *;clear hT m hL hO hin hk4 hkk;subst qi;generalize au ls=o at *
 have HW0:af (ig w (w.heap.size+1+1+1) bm (eK oF (ee o.fs) cF) (w.heap.size+1) (w.heap.size+1+1) (jn ez) {} ((((w.alloc (eR #[jn (eC bm),eK oF (ee o.fs) cF] 91)).alloc (kq #[] 0)).alloc (kq #[] 0)).alloc (eR #[jn (eC bm),eK oF (ee o.fs) cF,jn (eC (w.heap.size+1)),jn (eC (w.heap.size+1+1)),jn ez,vI (-1),vI 0] 160))):=by
  have e1:(w.alloc (eR #[jn (eC bm),eK oF (ee o.fs) cF] 91)).heap.size=w.heap.size+1:=by simp
  have e2:((w.alloc (eR #[jn (eC bm),eK oF (ee o.fs) cF] 91)).alloc (kq #[] 0)).heap.size=w.heap.size+1+1:=by simp
  have e3:(((w.alloc (eR #[jn (eC bm),eK oF (ee o.fs) cF] 91)).alloc (kq #[] 0)).alloc (kq #[] 0)).heap.size=w.heap.size+1+1+1:=by simp
  have m1:=eQ.new (w.alloc (eR #[jn (eC bm),eK oF (ee o.fs) cF] 91));have m2:=eQ.new ((w.alloc (eR #[jn (eC bm),eK oF (ee o.fs) cF] 91)).alloc (kq #[] 0));rw[e1]at m1;rw[e2]at m2;have hb:=ak.new (((w.alloc (eR #[jn (eC bm),eK oF (ee o.fs) cF] 91)).alloc (kq #[] 0)).alloc (kq #[] 0)) #[jn (eC bm),eK oF (ee o.fs) cF,jn (eC (w.heap.size+1)),jn (eC (w.heap.size+1+1)),jn ez,vI (-1),vI 0] 160;rw[e3]at hb;refine⟨hb,(m1.ae ((aa.refl ah _).alloc _) id).ae ((aa.refl ah _).alloc _) id,m2.ae ((aa.refl ah _).alloc _) id,⟨_,rfl⟩,λh=>absurd rfl h,by omega,by omega,((aq.alloc _).alloc _).alloc _⟩
 go_in;go_upto_region 1 with fail;go_wp2_with fail;generalize((((w.alloc (eR #[jn (eC bm),eK oF (ee o.fs) cF] 91)).alloc (kq #[] 0)).alloc (kq #[] 0)).alloc (eR #[jn (eC bm),eK oF (ee o.fs) cF,jn (eC (w.heap.size+1)),jn (eC (w.heap.size+1+1)),jn ez,vI (-1),vI 0] 160))=w4 at *;generalize w.heap.size+1+1+1=b at *;generalize w.heap.size+1+1=bF at *;generalize w.heap.size+1=bM at *;go_loopg [16] (ee ls) (λq v16 wx=>∃(i:Nat) (k:WK) (vl:eM),i<=ee ls/\v16=vI i/\ig w b bm (eK oF (ee o.fs) cF) bM bF vl k wx/\Ml ls i k/\firstP o (ls.drop i) k i=pr/\q=ee ls-i)
 case atStart=>exact⟨0,_,_,ar _,rfl,HW0.o,AY.o,ZA.o,rfl⟩
 case round =>
  obtain⟨i,k,vl,hi,rfl,hA,hok,hpr,rfl⟩:=hrel;have HA:=ai hA;have HK:=ai hok;have HP:=ai hpr;clear hA hok hpr HW0 AY ZA;by_cases hlt:i<ee ls
  ·obtain⟨g,cL',hv,hcl,hrow⟩:=Ya.o.row i hlt;injection hv with hv1 hv2 hv3;subst hv1;have HRW:=hrow wr HA.o.md;have HD:af (pr=if fD o k ls[i]=0 then firstP o (ls.drop (i+1)) (kD k ls[i]) (i+1)else(fD o k ls[i],i+1)):=by rw[af,<-HP.o];exact HDR.o i hlt k i
   have HS:=ai (λhz=>HST.o i k hlt HK.o hz);have HF:=ai (λw' hw=>HFL.o i hlt b bM bF vl k w' HK.o hw);clear hrow hv3 HFL Bv HDR HST HP HK;generalize fD o k ls[i]=r at *;generalize kD k ls[i]=k' at *;generalize ls[i]=x at *;have jS:=ai (gV bs x);have E4:=ai (cells_one bs x);have HB2:=ai (ak.new wr (jx 0 ⟨#[]⟩ aD aD aD) 143);generalize x.cells bs=cs at *;go_upto_region 5 with(first |(refine eW rfl 143 (.tmp 19) rfl g (i*20) rfl cs _ HRW underlying143 rfl (by rw[jS.o];kernel_rfl) ?_) |(refine gz rfl 143 (.tmp 8) (.tmp 20) rfl wr.heap.size cs rfl rfl 143 _ HB2.o (by rw[jS.o];kernel_rfl) (by rw[jS.o];rfl) E4.o ?_;intro W3 hB3 yt))
   have lq:=ai (HA.o.quiet yt.fresh);have HB3:=ai hB3;clear HA HB2 HRW yt hB3;generalize wr.heap.size=B at *;go_wp2_with (refine pC rfl 143 (.tmp 8) rfl B rfl 143 cs (0,0) _ HB3.o underlying143 rfl (by rw[jS.o];kernel_rfl) ?_);refine(HF.o _ lq.o).mono ?_;rintro e w5 ⟨rfl,vl',hw5⟩;have sN:=ai hw5;clear hw5 lq HF HB3;by_cases hr:r=0
   ·have HS2:=ai (HS.o hr);clear HS;subst hr;have pO:af (firstP o (ls.drop (i+1)) k' (i+1)=pr):=by rw[af,HD.o,iP9 rfl]
    go_wp2_with fail;go_roundg (ee ls-(i+1))
    case measure=>omega
    case rel=>exact⟨i+1,k',vl',by omega,by go_num,sN.o,HS2.o,pO.o,rfl⟩
   ·exfalso;have h1:=HZ.o;rw[HD.o,iN9 hr]at h1;exact hr h1
  ·have pO:af (pr=(0,0)):=by rw[af,<-HP.o,List.drop_eq_nil_of_le (by omega)];rfl
   go_wp2_with fail;refine Um.o _ _ ?_ HA.o.md;rw[pO.o];rfl
theorem Bf(w l:tLB):∀(os:List dX) (k:Nat) (p:fG),readFrom w l k os=eC p->p.k<k+ee os
 |[],k,p,h=>by simp[readFrom]at h
 |o::os,k,p,h=>by
  rw[readFrom]at h;have ih:=Bf w l os (k+1) p;split at h
  ·split at h
   ·have:=ih h;simp;omega
   ·split at h
    ·injection h with h;subst h;simp
    ·have:=ih h;simp;omega
  ·have:=ih h;simp;omega
theorem Mo{l:tLB}{x:fJ}(h:gy l=eC x):x.kind=1:=by
 unfold gy at h;split at h
 ·simp only[bh]at h;obtain⟨a,_,b,_,c,_,h⟩:=h;split at h
  ·injection h with h;subst h;rfl
  ·cases h
 ·cases h
theorem V6{t:tLB}{x:fJ}(h:dP t=eC x)(h4:x.kind=4):x.x.k<ee ax:=by
 unfold dP at h;simp only[bh]at h;obtain⟨l,_,h⟩:=h;split at h
 ·injection h with h;subst h;cases h4
 split at h
 ·split at h
  ·injection h with h;subst h;cases h4
  ·cases h
 split at h
 ·have:=Mo h;omega
 split at h
 ·split at h
  ·injection h with h;subst h;cases h4
  ·cases h
 ·rw[Option.map_eq_some_iff]at h;obtain⟨p,hp,rfl⟩:=h;have:=Bf _ _ ax 0 p hp
  simpa using this
structure JJ(nY:Bool)(ls:List fJ):Prop where
 row:∀x∈ls,x.kind=4->x.x.k<ee ax
 inf:InF ls
 fn:nY=eJ->(au ls).fs≠[]
theorem JK(ls:List fJ)(x:fJ):au (ls++[x])=bV (au ls) x:=by unfold au;rw[cb];rfl
theorem adl(o:OL)(x:fJ)(h:o.fs≠[]\/x.kind=2):(bV o x).fs≠[]:=by
 rcases h with h|h
 ·have:=Be o x;intro e;rw[e]at this;have h0:=Nat.le_zero.1 this;exact h (List.length_eq_zero_iff.1 h0)
 ·rw[bV,iN9 (by omega),iP9 h];simp
theorem JJ.app{nY:Bool}{ls:List fJ}{x:fJ}(h:JJ nY ls)(hx:x.kind=4->x.x.k<ee ax)(hn:¬((nY||x.kind==2)=eE/\(x.kind=3\/x.kind=4))):JJ (nY||x.kind==2) (ls++[x]):=by
 refine⟨λy hy h4=>?_,λk hk Oi=>?_,λhf=>?_⟩
 ·rcases List.mem_append.1 hy with h1|h1
  ·exact h.row y h1 h4
  ·have:y=x:=by simpa using h1
   subst this;exact hx h4
 ·rcases Nat.lt_or_ge k (ee ls) with e|e
  ·rw[List.getElem_append_left e]at Oi;rw[List.take_append_of_le_length (by omega)];exact h.inf k e Oi
  ·have hk':k=ee ls:=by simp at hk;omega
   subst hk';have ex:(ls++[x])[ee ls]'hk=x:=by simp
   rw[ex]at Oi;rw[List.take_left']
   ·apply h.fn;cases nY with
    |true=>rfl
    |false =>exfalso;refine hn ⟨?_,Oi⟩;simp;omega
   ·rfl
 ·rw[JK];refine adl _ _ ?_;cases nY with
  |true=>exact .inl (h.fn rfl)
  |false=>exact .inr (by simpa using hf)
theorem JL:∀(ts:List tLB) (nY:Bool) (n:Nat) (acc ls:List fJ),parseP ts nY n acc=.inl ls->JJ nY acc->∃f,JJ f ls
 |[],nY,n,acc,ls,h,hk=>by rw[parseP]at h;injection h with h;subst h;exact⟨nY,hk⟩
 |t::ts,nY,n,acc,ls,h,hk=>by
  rw[parseP]at h;cases hl:dP t with
  |none=>rw[hl]at h;cases h
  |some x =>
   rw[hl]at h;simp only at h;split at h
   ·cases h
   ·rename_i hn
    exact JL ts _ _ _ ls h (hk.app (V6 hl) hn)
theorem Bg:∀(ts:List tLB) (nY:Bool) (n:Nat) (acc ls:List fJ),parseP ts nY n acc=.inl ls->ee ls=ee acc+ee ts
 |[],nY,n,acc,ls,h=>by rw[parseP]at h;injection h with h;subst h;simp
 |t::ts,nY,n,acc,ls,h=>by
  rw[parseP]at h;cases hl:dP t with
  |none=>rw[hl]at h;cases h
  |some x =>
   rw[hl]at h;simp only at h;split at h
   ·cases h
   ·have:=Bg ts _ _ _ ls h;simp at this ⊢;omega
theorem Rp{l:tLB}{ls:List fJ}(h:parseP (linesP l) eE 0 []=.inl ls):InF ls/\(∀x∈ls,x.kind=4->x.x.k<ee ax)/\ls.length<=ee l+1:=by obtain⟨f,hf⟩:=JL _ _ _ _ _ h ⟨λx hx=>(by cases hx),λk hk=>absurd hk (Nat.not_lt_zero _),λe=>by cases e⟩;refine⟨hf.inf,hf.row,?_⟩;have h1:=Bg _ _ _ _ _ h;have h2:=EZ l;simp at h1;omega
theorem xO(n:bE)(w:tW)(hn:0<=(n.dL 9223372036854775808).getD 0/\(n.dL 9223372036854775808).getD 0<256):fL prog 146 #[n.fB] w λe w'=>e=fR (vB ((n.dL 9223372036854775808).getD 0))/\aa ah w w':=by have HS:=ai (ma n);generalize(n.dL 9223372036854775808).isSome=sm at *;generalize(n.dL 9223372036854775808).getD 0=sg at *;unfold bE.fB at *;generalize eS (18446744073709551616<=n.v)=ng at *;generalize((n.v%18446744073709551616:Nat):Int)=nv at *;generalize n.minus=nm at *;obtain⟨h0,h1⟩:=hn;have HM:af (aa ah w (w.alloc (eR #[fS nm,vU nv,fS ng] 136))):=aq;go_in;go_wp2_with fail;refine(HS.o _).mono ?_;rintro e w2 ⟨rfl,m2⟩;have dV:=ai (HM.o.trans m2);clear m2 HM;go_wp2_with fail;go_ret;exact⟨rfl,dV.o⟩
def tO(n:bE):Int:=(n.dL 9223372036854775808).getD 0
theorem Rq(kd:Nat)(nm:tBA)(a b c:bE)(w:tW)(ha:0<=tO a/\tO a<256)(hb:0<=tO b/\tO b<256)(hc:0<=tO c/\tO c<256):fL prog 62 #[fW (jx kd nm a b c)] w λe w'=>e=fR (fW #[eI nm,vB (tO a),vB (tO b),vB (tO c)])/\aa ah w w':=by
 have VL:af (∀w,fL prog 146 #[a.fB] w λe w'=>e=fR (vB (tO a))/\aa ah w w'):=λw=>xO a w ha;have HSB:af (∀w,fL prog 146 #[b.fB] w λe w'=>e=fR (vB (tO b))/\aa ah w w'):=λw=>xO b w hb;have HSC:af (∀w,fL prog 146 #[c.fB] w λe w'=>e=fR (vB (tO c))/\aa ah w w'):=λw=>xO c w hc;unfold bE.fB jx Jg at *;generalize tO a=sa at *;generalize eS (18446744073709551616<=a.v)=ag at *;generalize((a.v%18446744073709551616:Nat):Int)=av at *;generalize a.minus=am at *;generalize tO b=sb at *;generalize eS (18446744073709551616<=b.v)=bg at *;generalize((b.v%18446744073709551616:Nat):Int)=bv at *;generalize b.minus=bm at *;generalize tO c=sc at *;generalize eS (18446744073709551616<=c.v)=cg at *;generalize((c.v%18446744073709551616:Nat):Int)=cv at *;generalize c.minus=cm at *;generalize hcs:(#[vI kd,eI nm,fS am,vU av,fS ag,fS bm,vU bv,fS bg,fS cm,vU cv,fS cg,vO,vB (0:Nat),vB (0:Nat),.int .i16 0,vJ 0,vJ 0,eI ⟨#[]⟩,eI ⟨#[]⟩,fS eE]:tAV)=cs at *;have jS:=ai hcs.symm;clear hcs;have HB0:af (ak ((w.alloc (eR cs 143)).alloc (eR #[eI ⟨#[]⟩,vB 0,vB 0,vB 0] 113)) w.heap.size cs 143):=(ak.new w _ _).alloc _
 have fQ:af (ak ((w.alloc (eR cs 143)).alloc (eR #[eI ⟨#[]⟩,vB 0,vB 0,vB 0] 113)) (w.heap.size+1) #[eI ⟨#[]⟩,vB 0,vB 0,vB 0] 113):=by
  have:=ak.new (w.alloc (eR cs 143)) #[eI ⟨#[]⟩,vB 0,vB 0,vB 0] 113;have e:(w.alloc (eR cs 143)).heap.size=w.heap.size+1:=by simp
  rw[e]at this;exact this
 have dU:af (aa ah w ((w.alloc (eR cs 143)).alloc (eR #[eI ⟨#[]⟩,vB 0,vB 0,vB 0] 113))):=aq.alloc _;have Ht:af (w.heap.size≠w.heap.size+1):=by rw[af];omega
 have Tu:af (w.heap.size<=w.heap.size+1):=by rw[af];omega
 go_in;go_upto_region 1 with fail;generalize(w.alloc (eR cs 143)).alloc (eR #[eI ⟨#[]⟩,vB 0,vB 0,vB 0] 113)=w1 at *;generalize w.heap.size+1=R at *;have HWR:=ai Tu.o;generalize hB:w.heap.size=B at *;have Yf:=ai (λ(e:Ext (Only R) w1)=>HB0.o.ae e.m (λh=>Ht.o h));have d1:∀e:Ext (Only R) w1,e.w.cell? ⟨B,1,ez⟩=eC (eI nm):=λe=>((Yf.o e).cell 1).trans (by rw[jS.o];rfl);have d2:∀e:Ext (Only R) w1,e.w.cell? ⟨B,2,ez⟩=eC (fS am):=λe=>((Yf.o e).cell 2).trans (by rw[jS.o];rfl);have d3:∀e:Ext (Only R) w1,e.w.cell? ⟨B,3,ez⟩=eC (vU av):=λe=>((Yf.o e).cell 3).trans (by rw[jS.o];rfl);have d4:∀e:Ext (Only R) w1,e.w.cell? ⟨B,4,ez⟩=eC (fS ag):=λe=>((Yf.o e).cell 4).trans (by rw[jS.o];rfl);have d5:∀e:Ext (Only R) w1,e.w.cell? ⟨B,5,ez⟩=eC (fS bm):=λe=>((Yf.o e).cell 5).trans (by rw[jS.o];rfl);have d6:∀e:Ext (Only R) w1,e.w.cell? ⟨B,6,ez⟩=eC (vU bv):=λe=>((Yf.o e).cell 6).trans (by rw[jS.o];rfl);have d7:∀e:Ext (Only R) w1,e.w.cell? ⟨B,7,ez⟩=eC (fS bg):=λe=>((Yf.o e).cell 7).trans (by rw[jS.o];rfl);have d8:∀e:Ext (Only R) w1,e.w.cell? ⟨B,8,ez⟩=eC (fS cm):=λe=>((Yf.o e).cell 8).trans (by rw[jS.o];rfl);have d9:∀e:Ext (Only R) w1,e.w.cell? ⟨B,9,ez⟩=eC (vU cv):=λe=>((Yf.o e).cell 9).trans (by rw[jS.o];rfl);have d10:∀e:Ext (Only R) w1,e.w.cell? ⟨B,10,ez⟩=eC (fS cg):=λe=>((Yf.o e).cell 10).trans (by rw[jS.o];rfl)
 haveI:Nonempty (Ext (Only R) w1):=Ext.ne _ _
 refine bR [5,9,13,15] (λw'=>∃e:Ext (Only R) w1,w'=e.w) (by kernel_rfl) (by kernel_rfl) (by kernel_rfl) ⟨⟨_,aU⟩,rfl⟩ ?_
 iterate 5 (refine aG rfl rfl rfl ?_;intro K hK;go_big_quiet_op;go_big_quiet_on)
 refine aN rfl rfl ?_;intro K hK;go_big_op;refine(VL.o _).mono ?_;rintro e w2 ⟨rfl,m2⟩;have Mw2:=ai (aU.trans m2);refine hK _ _ rfl ⟨⟨_,Mw2.o.mono (λ_ _ h=>h.elim)⟩,rfl⟩ ?_;clear hK K m2
 iterate 3 (refine aG rfl rfl rfl ?_;intro K hK;go_big_quiet_op;go_big_quiet_on)
 refine aN rfl rfl ?_;intro K hK;go_big_op;refine(HSB.o _).mono ?_;rintro e w3 ⟨rfl,m2⟩;have Mw3:=ai (Mw2.o.trans m2);refine hK _ _ rfl ⟨⟨_,Mw3.o.mono (λ_ _ h=>h.elim)⟩,rfl⟩ ?_;clear hK K m2
 iterate 3 (refine aG rfl rfl rfl ?_;intro K hK;go_big_quiet_op;go_big_quiet_on)
 refine aN rfl rfl ?_;intro K hK;go_big_op;refine(HSC.o _).mono ?_;rintro e w4 ⟨rfl,m2⟩;have Mw4:=ai (Mw3.o.trans m2);refine hK _ _ rfl ⟨⟨_,Mw4.o.mono (λ_ _ h=>h.elim)⟩,rfl⟩ ?_;clear hK K m2
 iterate 1 (refine aG rfl rfl rfl ?_;intro K hK;go_big_quiet_op;go_big_quiet_on)
 refine aN rfl rfl ?_;intro K hK;have hr:=fQ.o.ae Mw4.o id;have r0:=hr.cell 0;have r1:=hr.cell 1;have r2:=hr.cell 2;have r3:=hr.cell 3;have rf:=hr.frozen;have KO:af (ak ((((w4.setCell ⟨R,0,ez⟩ (eI nm)).setCell ⟨R,1,ez⟩ (vB sa)).setCell ⟨R,2,ez⟩ (vB sb)).setCell ⟨R,3,ez⟩ (vB sc)) R #[eI nm,vB sa,vB sb,vB sc] 113):=(((hr.set 0 _).set 1 _).set 2 _).set 3 _;have jK:af (aa (Only R) w1 ((((w4.setCell ⟨R,0,ez⟩ (eI nm)).setCell ⟨R,1,ez⟩ (vB sa)).setCell ⟨R,2,ez⟩ (vB sb)).setCell ⟨R,3,ez⟩ (vB sc))):=((((Mw4.o.mono (λ_ _ h=>h.elim)).bz _ _).bz _ _).bz _ _).bz _ _;go_big_op;refine hK _ _ rfl ⟨⟨_,jK.o⟩,rfl⟩ ?_;clear hK K hr r0 r1 r2 r3 rf;refine dR ?_;simp only[Exit.then];have HMF:=dU.o.step jK.o (λi hi e=>by have e':i=R:=e;have:=HWR.o;omega);go_wp2_with fail;exact bodyPost_ret (results_cell_row results62 _ _ R 113 #[eI nm,vB sa,vB sb,vB sc] (0,0) _ rfl KO.o underlying113 rfl (by kernel_rfl)) rfl ⟨rfl,HMF⟩
theorem Mq(w:tW)(b:Nat)(o:dX)(hA:eu w b o)(d:Int)(s:Nat)(num high jump:Int)(label name:tBA)(slot target:Nat)(hs:slot<=30000)(ht:target<=30000)(ho:o.slots<=2):fL prog 63 #[fW #[vP b,vB d,vB s,.int .i16 jump,vJ num,vJ high,eI label,eI name],vI slot,vI target] w λe w'=>e=fR (.int .i16 ((target:Int)-slot-o.slots))/\aa ah w w':=by have hA1:=hA.ae (aA.alloc (eR #[vP b,vB d,vB s,.int .i16 jump,vJ num,vJ high,eI label,eI name] 141));obtain⟨p1,p2,p3,p4,p5,p6,p7,p8,p9,p10,p11,CK,_⟩:=hA1.ex;have o2:=CK.cell 2;have HM:af (aa ah w (w.alloc (eR #[vP b,vB d,vB s,.int .i16 jump,vJ num,vJ high,eI label,eI name] 141))):=aq;clear CK hA1 hA;generalize o.slots=os at *;go_in;go_wp2_with fail;go_ret;exact⟨rfl,HM.o⟩
