import Derived.Test.YthnphhgpfedeeaaGreatDoorCK54
namespace Go.Proofs.YthnphhgpfedeeaaGreatDoor
open Go.RowKit Tryz
open List renaming map_append->ab,mem_cons_of_mem->al,length_append->ao,range'->ar,mem_map_of_mem->ba,nodup_append->bh,mem_append_right->bt,range_eq_range'->b5,range'_append_1->b9,mem_append_left->cj,map_cons->cq,filter_append->cw,countP_append->cx,pairwise_cons->cD,filter_congr->cG,getElem_mem->cH,length->eJ
open Nat renaming le_refl->bj,sub_self->cy
open Bool renaming false->fj,true->fR
open Ending renaming returned->fW
open Option renaming some->eK,none->eL
open Value renaming string->eR,slice->eS,agg->fY,tuple->jl
open _root_.Go renaming Value->fa,Calls->fS,TypeId->ju
set_option linter.all false
set_option maxRecDepth 100000
set_option maxHeartbeats 1000000
set_option linter.all false
set_option linter.all false
theorem dB.turned{c0 c1:fa}{wT:tW}{tv:fa}{bs:tLN}{mp:Nat}{vF:fa}{fs:List bz}{cg:tLN}{a:Ad}{gs:List tLN}{ms:List iK}{w w':tW}(h:dB c0 c1 wT tv bs mp vF fs cg a gs ms w)(m:aa (λk=>k=mp\/jf a k) w w'):ep Xg w w':=ep.of m (λk hk=>by
 rcases hk with rfl|hk
 ·exact⟨_,by simp,h.blk.ty⟩
 ·obtain⟨t,ht,hy⟩:=h.zM hk;exact⟨t,al _ ht,hy⟩)
set_option linter.all false
def OU(gs:List tLN)(e:tLN×Nat):tLV:=[eR (strOf e.1),eR (strOf (gs.getD e.2 []))]
structure EnL(gs:List tLN)(w0 w:tW)(v:fa)(l:List (tLN×Nat)):Prop where
 sl:Sl w 47 2 v (eJ l) (l.flatMap (OU gs))
 lo:∀k,v.ownBlock=eK k->w0.heap.size<=k
 md:aa af w0 w
theorem EnL.quiet{gs:List tLN}{w0 w w':tW}{v:fa}{l:List (tLN×Nat)}(h:EnL gs w0 w v l)(m:aa af w w'):EnL gs w0 w' v l:=⟨h.sl.ai m (λ_ _=>id),h.lo,h.md.trans m⟩
theorem agb{w:tW}{rb:tLN}{o:Option Addr}{n c:Nat}{l:List (tLN×Nat)}(h:Sl w 148 2 (eS o n c) (eJ l) (l.flatMap (meC rb)))(k:Nat)(hk:k<eJ l):∃g,o=eK ⟨g,0,eL⟩/\w.cell? ⟨g,k*2,eL⟩=eK (eR (strOf l[k].1))/\w.cell? ⟨g,k*2+1,eL⟩=eK (vP (rb.getD l[k].2 0)):=by
 obtain⟨o2,c2,hv,h2⟩:=h.view;obtain⟨g,cs,ho,hg,ht,_⟩:=h2 (by omega);injection hv with h1 _ _;rw[<-h1]at ho;have hrow:∀j,j<2->w.cell? ⟨g,k*2+j,eL⟩=(meC rb l[k])[j]?:=λj hj=>by rw[aV hg ht _ (by omega),jY (meC rb) 2 l (λ_ _=>rfl) k j hk hj]
 exact⟨g,ho,hrow 0 (by omega),hrow 1 (by omega)⟩
theorem Td:(prog.info? 47).map (λi=>(i.zero,i.size,i.bytes))=eK (eK (fY #[eR ByteArray.empty,eR ByteArray.empty]),2,32):=by kernel_rfl
theorem XH(w:tW)(mb:Nat)(nm c1 c2 c3 vE:fa)(rb:tLN)(vs:tLV)(gs:List tLN)(ks:List (tLN×Nat))(hB:au w mb #[nm,c1,c2,c3,vE] 85)(hS:Sl w 148 2 vE (eJ ks) (ks.flatMap (meC rb)))(hR:pH w rb vs gs)(hG:yC gs)(hin:∀e∈ks,e.2<eJ gs/\0<eJ (gs.getD e.2 []))(hl:eJ ks<=8):fS prog 35 #[pt mb] w λe w'=>∃v,e=fW v/\EnL gs w w' v ks:=by
 obtain⟨iS,hiS,hzS,hsS,hbS⟩:=info_parts Td;obtain⟨oE,cE,hvE,_⟩:=hS.view;subst hvE;obtain⟨N,hN⟩:∃N,N=eJ ks:=⟨_,rfl⟩
 have EG:=aq hN;rw[<-hN]at hl hB hS;have HS:=aq hS;have HR:=aq hR;have HG:=aq hG;have NU:=aq hin;have x4:=hB.cell 4;clear hB hS hR hG hin hN;go_in;go_upto_block 0 with fail;clear x4;go_wp2_with fail;go_loopg [3,11] 9 (λq v iv wx=>∃(k:Nat),iv=vI k/\EnL gs w wx v (ks.take k)/\k<=N/\q=9-k)
 case atStart=>exact⟨0,rfl,⟨Sl.nil _ _ _,λk h=>(by cases h),ax⟩,Nat.zero_le _,rfl⟩
 case round =>
  obtain⟨k,rfl,hL,hkn,rfl⟩:=hrel;have hlk:eJ (ks.take k)=k:=by rw[List.length_take,<-EG.o];omega
  obtain⟨o1,c1',rfl,_⟩:=hL.sl.view;rw[hlk]at hL;rw[hlk];have HL:=aq hL;clear hL;by_cases hlt:k<N
  ·have hko:k<eJ ks:=by rw[<-EG.o];exact hlt
   obtain⟨g,rfl,y0,y1⟩:=agb (EG.o ▸ HS.o.ai HL.o.md (λ_ _=>id)) k hko;obtain⟨hq,hp⟩:=NU.o ks[k] (cH hko);obtain⟨oQ,cQ,hvQ,hoQ⟩:=HR.o.view _ hq;obtain⟨gQ,hgQ,_⟩:=hoQ hp;have hbq:=HR.o.blk _ hq;have hsq:=HR.o.sl _ hq;rw[hvQ,hgQ]at hbq hsq;have HBQ:=aq (λw' (m:aa af wr w')=>((hbq.ai HL.o.md id).ai m id).c0);have WM:=aq (λw' (m:aa af wr w')=>rZ w' gQ _ cQ _ (HG.o.at _ hq).2 ((hsq.ai HL.o.md (λ_ _=>id)).ai m (λ_ _=>id)));have MK:=aq (List.take_succ_eq_append_getElem hko);have Yt:ah (OU gs ks[k]=[eR (strOf ks[k].1),eR (strOf (gs.getD ks[k].2 []))]):=rfl;clear hq hp hvQ hoQ hgQ hbq hsq NU;generalize ks[k]=e at *;generalize strOf e.1=sk at *;generalize gs.getD e.2 []=bq at *;generalize rb.getD e.2 0=R at *;generalize eJ bq=nq at *;generalize strOf bq=sv at *;go_upto_region 5 with fail;have bP:ah (aa af wr (wr.alloc (.cells #[eR sk,vP R] 148))):=aw;have HE2:=aq (au.new wr #[eR sk,vP R] 148);generalize wr.alloc (.cells #[eR sk,vP R] 148)=w2 at *;generalize wr.heap.size=E at *;have z0:=λ(e:Ext af w2)=>(HE2.o.ai e.m id).c0;have z1:=λ(e:Ext af w2)=>(HE2.o.ai e.m id).c1;have zq:=λ(e:Ext af w2)=>HBQ.o _ (bP.o.trans e.m);have zc:=λ(e:Ext af w2)=>WM.o _ (bP.o.trans e.m);clear y0 y1 HBQ WM;refine gj af 11 [10] (by kernel_rfl) (by kernel_rfl) (λ_ M0=>?_);simp only[List.take_succ_cons,List.take_zero,List.drop_succ_cons,List.drop_zero]
   iterate 5 (refine aG rfl rfl rfl ?_;intro K hK;go_big_quiet_op;go_big_quiet_on)
   refine dL rfl rfl _ ⟨R,0,eL⟩ rfl rfl ?_;simp only[Act.put,sA9,sB9,sC9]
   iterate 4 (refine aG rfl rfl rfl ?_;intro K hK;go_big_quiet_op;go_big_quiet_on)
   refine aH rfl rfl ?_;intro K hK;go_big_op;refine hK _ _ rfl ⟨⟨_,M0.o.alloc _⟩,rfl⟩ ?_;clear hK K;refine bZ ?_;clear z0 z1 zq zc;have NY:=aq (HL.o.quiet (bP.o.trans ((ax.alloc (.cells #[eR sk,eR sv] 47)).drew)));have qJ:ah (∀j u,(#[eR sk,eR sv]:tAV).toList[j]?=eK u->(w2.alloc (.cells #[eR sk,eR sv] 47)).drew.cell? ((⟨w2.heap.size,0,eL⟩:Addr).add j)=eK u):=bH w2 #[eR sk,eR sv] 47 _ rfl;clear HL M0;generalize(w2.alloc (.cells #[eR sk,eR sv] 47)).drew=w3 at *;have Bl:ah (Sl w3 47 2 (eS o1 k c1') k ((ks.take k).flatMap (OU gs))):=by have:=NY.o.sl;rw[hlk]at this;exact this
   go_wp2_with (at_builtin;refine aQ _ rfl (.tmp 15) (.tmp 25) 42 rfl 47 iS (fY #[eR ByteArray.empty,eR ByteArray.empty]) 2 32 underlying42 hiS hzS hsS hbS rfl (by decide) (eS o1 k c1') k ((ks.take k).flatMap (OU gs)) rfl Bl.o ⟨w2.heap.size,0,eL⟩ 1 1 (#[eR sk,eR sv]:tAV).toList rfl rfl qJ.o (by simp[Value.oneCell']) (by unfold maxLen;omega) (by omega) ?_;intro v5 w5 s5 m5 l5;obtain⟨o5,c5,hv5,_⟩:=s5.view;subst hv5)
   have Zw:ah (EnL gs w w5 (eS o5 (k+1) c5) (ks.take (k+1))):=by
    unfold ah;rw[MK.o];refine⟨?_,λq hq=>?_,NY.o.md.step m5 (λi hi e=>by have:=NY.o.lo i e;omega)⟩
    ·rw[ao,hlk,List.flatMap_append,List.flatMap_singleton,Yt.o];exact s5
    ·rcases l5 q hq with e|e
     ·exact NY.o.lo q e
     ·have:=NY.o.md.size;omega
   clear s5 m5 l5 NY Bl qJ;go_roundg (9-(k+1))
   case measure=>omega
   case rel=>exact⟨k+1,by go_num,Zw.o,by omega,rfl⟩
  ·have hkk:k=N:=by omega
   have HE:ah (ks.take k=ks):=List.take_of_length_le (by rw[<-EG.o];omega);rw[HE.o]at HL;go_wp2_with fail;go_ret;exact⟨_,rfl,HL.o⟩
set_option linter.all false
theorem XI{c1:fa}{wT:tW}{tv:fa}{bs:tLN}{mp:Nat}{vF:fa}{fs:List bz}{cg:tLN}{a:Ad}{gs:List tLN}{m:iK}{w:tW}(h:dB (vJ 0) c1 wT tv bs mp vF fs cg a gs [m] w):fS prog 21 #[pt mp,eR (T m.name)] w λe w'=>∃o c,e=fW (jl #[eS o (eJ m.aP) c,vI 0])/\Sl w' 47 2 (eS o (eJ m.aP) c) (eJ m.aP) (m.aP.flatMap (OU gs))/\dB (vJ 0) c1 wT tv bs mp vF fs cg a gs [m] w'/\aa (Only mp) w w':=by
 have LM:=aq (Go.MuLone.lock_free KC ⟨mp,0,eL⟩ w (h.blk.cell 0) (h.blk.frozen 0));have Oi:=aq (h.turn (vJ 1));have HMO:ah (aa (Only mp) w (w.setCell ⟨mp,0,eL⟩ (vJ 1))):=ax.bA 0 _;obtain⟨g0,hmb⟩:=List.length_eq_one_iff.1 h.maps.lm;obtain⟨oM,cM,wE,h2⟩:=h.maps.uW.view;obtain⟨gM,cs,rfl,hg,ht,_⟩:=h2 (by simp);have hok:=h.mok m (by simp);have HW0:ah (∀w',aa (Only mp) w w'->dB (vJ 1) c1 wT tv bs mp vF fs cg a gs [m] w'->w'.cell? ⟨gM,0,eL⟩=eK (pt g0)):=λw' _ h'=>by have hs:=h'.maps.uW;obtain⟨o2,c2,hv2,h3⟩:=hs.view;obtain⟨g3,cs3,ho3,hg3,ht3,_⟩:=h3 (by simp);rw[wE]at hv2;cases hv2;cases ho3;rw[aV hg3 ht3 0 (by simp),hmb];rfl
 have JU:ah (∀w',dB (vJ 1) c1 wT tv bs mp vF fs cg a gs [m] w'->au w' g0 #[eR (T m.name),vI m.key,vI m.value,vI m.most,a.ve.getD 0 undef] 85/\fS prog 35 #[pt g0] w' λe w2=>∃v,e=fW v/\EnL gs w' w2 v m.aP):=λw' h'=>by
  have hb:=h'.maps.blk 0 (by simp);have hs:=h'.maps.sl 0 (by simp);rw[hmb]at hb;refine⟨hb,XH w' g0 _ _ _ _ _ a.rb a.vs gs m.aP hb hs h'.kL h'.gok (λe he=>?_) ?_⟩
  ·have h1:=hok.er e he;have h2:=hok.val;omega
  ·have h1:=hok.len;have h2:=hok.most;omega
 have aeC:=wE;clear h hg ht h2 hok;go_enter_defers func21,ntmps21;go_upto_region 1 with fail;go_wp2_with fail;refine LM.o.mono ?_;rintro e w2 ⟨rfl,rfl⟩;clear LM;generalize w.setCell ⟨mp,0,eL⟩ (vJ 1)=W at *;have y3:W.cell? ⟨mp,3,eL⟩=eK (eS (eK ⟨gM,0,eL⟩) 1 cM):=(Oi.o.blk.cell 3).trans (congrArg eK aeC);have q0:=HW0.o W HMO.o Oi.o;obtain⟨hb,hen⟩:=JU.o W Oi.o;have r0:=hb.cell 0;have HE:=aq hen;clear hb hen HW0 JU wE aeC hmb;go_upto_region 3 with fail;go_upto_block 0 with fail;clear y3;go_wp2_with fail;go_loopg [20] 1 (λq iv wx=>iv=vI 0/\wx=W/\q=1)
 case atStart=>exact⟨rfl,rfl,rfl⟩
 case round =>obtain⟨rfl,rfl,rfl⟩:=hrel;go_wp2_with fail;refine HE.o.mono ?_;rintro e w3 ⟨v,rfl,hL⟩;obtain⟨o,c,rfl,_⟩:=hL.sl.view;have HL:=aq hL;have EX:=aq (Oi.o.quiet hL.md);have agc:=aq (HMO.o.trans (hL.md.mono (λ_ _ h=>h.elim)));clear hL HE Oi HMO q0 r0;go_wp2_with fail;refine leaves_cons (f:=27) (args:=#[vP mp]) (by simp) (by simp[go_sem]) ?_;refine(Go.MuLone.unlock_deferred KC ⟨mp,0,eL⟩ .returning w3 (EX.o.blk.cell 0) (EX.o.blk.frozen 0)).mono ?_;rintro e u' w5 ⟨rfl,rfl,rfl⟩;have mU:aa (Only mp) w3 (w3.setCell ⟨mp,0,eL⟩ (vJ 0)):=(aa.refl (Only mp) w3).bA 0 _;refine⟨jl #[eS o (eJ m.aP) c,vI 0],?_,o,c,rfl,HL.o.sl.ai mU (λq hq e=>by have e':q=mp:=e;subst e';exact absurd (EX.o.blk.ty.one (HL.o.sl.ty hq)) (by decide)),EX.o.turn _,agc.o.trans mU⟩;exact results_tmp2 results21 _ _ _
theorem XJ{c1:fa}{wT:tW}{tv:fa}{bs:tLN}{mp:Nat}{vF:fa}{fs:List bz}{cg:tLN}{a:Ad}{gs:List tLN}{m:iK}{w:tW}(h:dB (vJ 0) c1 wT tv bs mp vF fs cg a gs [m] w)(sb:Nat)(hsb:au w sb #[pt mp] 58):fS prog 15 #[pt sb,eR (T m.name)] w λe w'=>∃o c,e=fW (jl #[eS o (eJ m.aP) c,vI 0])/\Sl w' 47 2 (eS o (eJ m.aP) c) (eJ m.aP) (m.aP.flatMap (OU gs))/\dB (vJ 0) c1 wT tv bs mp vF fs cg a gs [m] w'/\aa (Only mp) w w':=by have HF:=aq (XI h);have x0:=hsb.cell 0;clear h hsb;go_in;go_wp2_with fail;refine HF.o.mono ?_;rintro e w1 ⟨o,c,rfl,hR⟩;have HR:=aq hR;clear hR HF x0;go_wp2_with fail;go_ret2;exact⟨o,c,rfl,HR.o⟩
set_option linter.all false
def agd:bz:=⟨[100,101,108],[⟨0,2,1,0,0,0,[]⟩,⟨85,1,1,0,0,0,[]⟩,⟨86,0,0,0,3,0,[]⟩,⟨87,0,0,0,0,0,[]⟩]⟩
def age:bz:=⟨[103,101,116],[⟨0,2,1,0,0,0,[]⟩,⟨85,1,1,0,0,0,[]⟩,⟨86,0,0,0,1,0,[]⟩,⟨52,0,0,2,0,0,[]⟩,⟨73,0,0,0,0,0,[]⟩,⟨87,0,0,0,0,0,[]⟩,⟨2,0,0,0,1000,0,[]⟩,⟨87,0,0,0,0,0,[]⟩]⟩
def agf:bz:=⟨[112,117,116],[⟨0,2,1,0,0,0,[]⟩,⟨0,3,1,0,0,0,[]⟩,⟨6,3,0,0,1,0,[]⟩,⟨85,1,1,0,0,0,[]⟩,⟨86,0,0,0,2,0,[]⟩,⟨87,0,0,0,0,0,[]⟩]⟩
def jH:List bz:=[agd,age,agf]
def lN(es:List (tLN×Nat)):iK:=⟨[109],1,1,4,es⟩
def kS(fn q:Nat)(G:List tLN)(ms:List iK):aX:=⟨Ea fn 99 q 2,G,ms⟩
def kN(s:aX):aX:=(fJ jH s).2
theorem wS{s:aX}{n:Nat}(h1:s.r.ended=fj)(h2:(fJ jH s).1=0):followP jH (n+1) s=followP jH n (fJ jH s).2:=by rw[followP,iN9 (by rw[h1];decide),iP9 h2]
theorem sj{s:aX}{s':aX}(h1:s.r.used≠s.r.fuel)(h2:s.did jH=(0,s')):fJ jH s=(0,s'.dG):=by rw[fJ,iN9 h1,h2];rfl
theorem En{G:List tLN}{q a b:Nat}(hq:G.getD q []=[a,b]):(aZ G (eY q 0) 0 1=0/\aS G (eY q 0) 1=[a])/\aZ G (eY q 1) 0 1=0/\aS G (eY q 1) 1=[b]:=by
 have h1:∀o,o<=1->aZ G (eY q o) 0 1=0:=λo ho=>by
  have e:lq (eY q o) 0=o:=by unfold lq eY;simp only;omega
  rw[aZ,iN9 (λh=>h rfl),iP9];rw[e];show o+1<=eJ (G.getD q [])
  rw[hq];show o+1<=2
  omega
 refine⟨⟨h1 0 (by decide),?_⟩,h1 1 (by decide),?_⟩
 ·show((G.getD q []).drop (lq (eY q 0) 0)).take 1=_
  rw[hq];rfl
 ·show((G.getD q []).drop (lq (eY q 1) 0)).take 1=_
  rw[hq];rfl
theorem XK{r:aJ}{G:List tLN}{es:List (tLN×Nat)}{q a b:Nat}(hq:G.getD q []=[a,b])(h1:r.aD 1=mmap 0)(h2:r.aD 2=eY q 0)(h3:r.aD 3=eY q 1):nR ⟨r,G,[lN es]⟩=(0,if aT es [a]then⟨r.answer (dI 0),G.set (aY es [a]) [b],[lN es]⟩else if eJ es=4 then⟨r.answer (dI 1),G,[lN es]⟩else⟨r.answer (dI 0),G++[[b]],[lN (es.take (aL es [a])++([a],eJ G)::es.drop (aL es [a]))]⟩):=by
 obtain⟨⟨e1,e2⟩,e3,e4⟩:=En hq;have t:(⟨r,G,[lN es]⟩:aX).t1=0:=by unfold aX.t1;rw[h1];rfl
 have tm:(⟨r,G,[lN es]⟩:aX).mapOf 0=lN es:=rfl;have tk:(lN es).key=1:=rfl;have tv:(lN es).value=1:=rfl;unfold nR;simp only[t,tm,tk,tv,h1,h2,h3,e1,e2,e3,e4];unfold lJ;simp only[tm];cases hf:aT es [a]with
 |true=>simp[lN,hf,aX.ans,mmap]
 |false =>
  by_cases h4:eJ es=4
  ·simp[lN,hf,h4,aX.ans,mmap]
  ·simp[lN,hf,h4,aX.ans,mmap]
theorem XL{r:aJ}{G:List tLN}{es:List (tLN×Nat)}{q a b:Nat}(hq:G.getD q []=[a,b])(h1:r.aD 1=mmap 0)(h2:r.aD 2=eY q 0):oh ⟨r,G,[lN es]⟩=(0,if aT es [a]then⟨r.answer (dI 0),G.set (aY es [a]) [],[lN (es.take (aL es [a])++es.drop (aL es [a]+1))]⟩else⟨r.answer (dI 1),G,[lN es]⟩):=by
 obtain⟨⟨e1,e2⟩,_⟩:=En hq;have t:(⟨r,G,[lN es]⟩:aX).t1=0:=by unfold aX.t1;rw[h1];rfl
 have tm:(⟨r,G,[lN es]⟩:aX).mapOf 0=lN es:=rfl;have tk:(lN es).key=1:=rfl;unfold oh;simp only[t,tm,tk,h1,h2,e1,e2];unfold tC;simp only[tm];cases hf:aT es [a]with
 |true=>simp[lN,hf,aX.ans,mmap]
 |false=>simp[lN,hf,aX.ans,mmap]
theorem XM{r:aJ}{G:List tLN}{es:List (tLN×Nat)}{q a b:Nat}(hq:G.getD q []=[a,b])(h1:r.aD 1=mmap 0)(h2:r.aD 2=eY q 0):pJ ⟨r,G,[lN es]⟩=(0,⟨r.answer (if aT es [a]then eY (aY es [a]) 0 else dI 0),G,[lN es]⟩):=by
 obtain⟨⟨e1,e2⟩,_⟩:=En hq;have t:(⟨r,G,[lN es]⟩:aX).t1=0:=by unfold aX.t1;rw[h1];rfl
 have tm:(⟨r,G,[lN es]⟩:aX).mapOf 0=lN es:=rfl;have tk:(lN es).key=1:=rfl;unfold pJ;simp only[t,tm,tk,h1,h2,e1,e2];cases hf:aT es [a]<;>simp[lN,hf,aX.ans,mmap]
def YH(q:Nat)(G:List tLN)(ms:List iK):aX:=kN (kN (kN (kN (kS 2 q G ms))))
theorem acN(q:Nat)(G:List tLN)(ms:List iK):followP jH 101 (kS 2 q G ms)=followP jH 97 (YH q G ms):=by kernel_rfl
theorem aaS(q:Nat)(G:List tLN)(ms:List iK):(YH q G ms).did jH=nR ((YH q G ms).begin 1):=by kernel_rfl
def rP(q:Nat):aJ:=((YH q [] []).begin 1).r
theorem acO(q:Nat)(G:List tLN)(ms:List iK):(YH q G ms).begin 1=⟨rP q,G,ms⟩:=by kernel_rfl
theorem XN(q:Nat):(rP q).aD 1=mmap 0/\(rP q).aD 2=eY q 0/\(rP q).aD 3=eY q 1:=⟨by kernel_rfl,by kernel_rfl,by kernel_rfl⟩
theorem Ii(q b:Nat)(G:List tLN)(ms:List iK):followP jH 96 (aX.dG ⟨(rP q).answer (dI b),G,ms⟩)=(0,⟨(followP jH 96 (aX.dG ⟨(rP q).answer (dI b),[],[]⟩)).2.r,G,ms⟩):=by kernel_rfl
theorem qy(q b:Nat):(followP jH 96 (aX.dG ⟨(rP q).answer (dI b),[],[]⟩)).2.r.r0=b/\(followP jH 96 (aX.dG ⟨(rP q).answer (dI b),[],[]⟩)).2.r.inp=q:=⟨by kernel_rfl,by kernel_rfl⟩
theorem XO(q:Nat)(G:List tLN)(ms:List iK):(YH q G ms).r.used≠(YH q G ms).r.fuel/\(YH q G ms).r.ended=fj:=by
 have h1:(YH q G ms).r.used=4:=by kernel_rfl
 have h2:(YH q G ms).r.fuel=99:=by kernel_rfl
 exact⟨by rw[h1,h2];decide,by kernel_rfl⟩
theorem aaT{G:List tLN}{es:List (tLN×Nat)}{q a b:Nat}(hq:G.getD q []=[a,b]):∃r,r.inp=q/\r.r0=(if aT es [a]then 0 else if eJ es=4 then 1 else 0)/\followP jH 101 (kS 2 q G [lN es]) = (0,⟨r,if aT es [a]then G.set (aY es [a]) [b]else if eJ es=4 then G else G++[[b]],[lN (if aT es [a]then es else if eJ es=4 then es else es.take (aL es [a])++([a],eJ G)::es.drop (aL es [a]))]⟩):=by
 obtain⟨u1,u2⟩:=XO q G [lN es];obtain⟨r1,r2,r3⟩:=XN q;have hd:=aaS q G [lN es];rw[acO,XK hq r1 r2 r3]at hd;have hs:=sj u1 hd;rw[acN,show(97:Nat)=96+1 from rfl,wS u2 (by rw[hs]),hs];cases hf:aT es [a]with
 |true=>exact⟨_,(qy q 0).2,(qy q 0).1,Ii q 0 _ _⟩
 |false =>
  by_cases h4:eJ es=4
  ·simp only[h4];exact⟨_,(qy q 1).2,(qy q 1).1,Ii q 1 _ _⟩
  ·simp only[h4];exact⟨_,(qy q 0).2,(qy q 0).1,Ii q 0 _ _⟩
def YI(q:Nat)(G:List tLN)(ms:List iK):aX:=kN (kN (kS 0 q G ms))
def rD(q:Nat):aJ:=((YI q [] []).begin 1).r
theorem acP(q:Nat)(G:List tLN)(ms:List iK):followP jH 101 (kS 0 q G ms)=followP jH 99 (YI q G ms):=by kernel_rfl
theorem aaU(q:Nat)(G:List tLN)(ms:List iK):(YI q G ms).did jH=oh ((YI q G ms).begin 1):=by kernel_rfl
theorem acQ(q:Nat)(G:List tLN)(ms:List iK):(YI q G ms).begin 1=⟨rD q,G,ms⟩:=by kernel_rfl
theorem XP(q:Nat):(rD q).aD 1=mmap 0/\(rD q).aD 2=eY q 0:=⟨by kernel_rfl,by kernel_rfl⟩
theorem OV(q b:Nat)(G:List tLN)(ms:List iK):followP jH 98 (aX.dG ⟨(rD q).answer (dI b),G,ms⟩)=(0,⟨(followP jH 98 (aX.dG ⟨(rD q).answer (dI b),[],[]⟩)).2.r,G,ms⟩):=by kernel_rfl
theorem zQ(q b:Nat):(followP jH 98 (aX.dG ⟨(rD q).answer (dI b),[],[]⟩)).2.r.r0=b/\(followP jH 98 (aX.dG ⟨(rD q).answer (dI b),[],[]⟩)).2.r.inp=q:=⟨by kernel_rfl,by kernel_rfl⟩
theorem XQ(q:Nat)(G:List tLN)(ms:List iK):(YI q G ms).r.used≠(YI q G ms).r.fuel/\(YI q G ms).r.ended=fj:=by
 have h1:(YI q G ms).r.used=2:=by kernel_rfl
 have h2:(YI q G ms).r.fuel=99:=by kernel_rfl
 exact⟨by rw[h1,h2];decide,by kernel_rfl⟩
theorem aaV{G:List tLN}{es:List (tLN×Nat)}{q a b:Nat}(hq:G.getD q []=[a,b]):∃r,r.inp=q/\r.r0=(if aT es [a]then 0 else 1)/\followP jH 101 (kS 0 q G [lN es]) = (0,⟨r,if aT es [a]then G.set (aY es [a]) []else G,[lN (if aT es [a]then es.take (aL es [a])++es.drop (aL es [a]+1)else es)]⟩):=by
 obtain⟨u1,u2⟩:=XQ q G [lN es];obtain⟨r1,r2⟩:=XP q;have hd:=aaU q G [lN es];rw[acQ,XL hq r1 r2]at hd;have hs:=sj u1 hd;rw[acP,show(99:Nat)=98+1 from rfl,wS u2 (by rw[hs]),hs];cases hf:aT es [a]with
 |true=>exact⟨_,(zQ q 0).2,(zQ q 0).1,OV q 0 _ _⟩
 |false=>exact⟨_,(zQ q 1).2,(zQ q 1).1,OV q 1 _ _⟩
def YJ(q:Nat)(G:List tLN)(ms:List iK):aX:=kN (kN (kS 1 q G ms))
def rG(q:Nat):aJ:=((YJ q [] []).begin 1).r
theorem acR(q:Nat)(G:List tLN)(ms:List iK):followP jH 101 (kS 1 q G ms)=followP jH 99 (YJ q G ms):=by kernel_rfl
theorem aaW(q:Nat)(G:List tLN)(ms:List iK):(YJ q G ms).did jH=pJ ((YJ q G ms).begin 1):=by kernel_rfl
theorem get_at(q:Nat)(G:List tLN)(ms:List iK):(YJ q G ms).begin 1=⟨rG q,G,ms⟩:=by kernel_rfl
theorem XR(q:Nat):(rG q).aD 1=mmap 0/\(rG q).aD 2=eY q 0:=⟨by kernel_rfl,by kernel_rfl⟩
theorem XT(q:Nat)(G:List tLN)(ms:List iK):(YJ q G ms).r.used≠(YJ q G ms).r.fuel/\(YJ q G ms).r.ended=fj:=by
 have h1:(YJ q G ms).r.used=2:=by kernel_rfl
 have h2:(YJ q G ms).r.fuel=99:=by kernel_rfl
 exact⟨by rw[h1,h2];decide,by kernel_rfl⟩
theorem get_none(q:Nat)(G:List tLN)(ms:List iK):followP jH 98 (aX.dG ⟨(rG q).answer (dI 0),G,ms⟩)=(0,⟨(followP jH 98 (aX.dG ⟨(rG q).answer (dI 0),[],[]⟩)).2.r,G,ms⟩):=by kernel_rfl
theorem Gd(q:Nat):(followP jH 98 (aX.dG ⟨(rG q).answer (dI 0),[],[]⟩)).2.r.r0=1000/\(followP jH 98 (aX.dG ⟨(rG q).answer (dI 0),[],[]⟩)).2.r.inp=q:=⟨by kernel_rfl,by kernel_rfl⟩
def kG3(q p:Nat)(G:List tLN)(ms:List iK):aX:=kN (aX.dG ⟨(rG q).answer (eY p 0),G,ms⟩)
def rL(q p:Nat):aJ:=((kG3 q p [] []).begin 1).r
theorem aeD(q p:Nat)(G:List tLN)(ms:List iK):followP jH 98 (aX.dG ⟨(rG q).answer (eY p 0),G,ms⟩)=followP jH 97 (kG3 q p G ms):=by kernel_rfl
theorem acS(q p:Nat)(G:List tLN)(ms:List iK):(kG3 q p G ms).did jH=if aZ G (eY p 0) 0 1=0 then(0,⟨(rL q p).eV 0 (dI (BD G (eY p 0) 0 1)),G,ms⟩)else(aZ G (eY p 0) 0 1,⟨rL q p,G,ms⟩):=by kernel_rfl
theorem aaX(q p:Nat)(G:List tLN)(ms:List iK):(kG3 q p G ms).r.used≠(kG3 q p G ms).r.fuel/\(kG3 q p G ms).r.ended=fj:=by
 have h1:(kG3 q p G ms).r.used=4:=by kernel_rfl
 have h2:(kG3 q p G ms).r.fuel=99:=by kernel_rfl
 exact⟨by rw[h1,h2];decide,by kernel_rfl⟩
theorem acT(q p b:Nat)(G:List tLN)(ms:List iK):followP jH 96 (aX.dG ⟨(rL q p).eV 0 (dI b),G,ms⟩)=(0,⟨(followP jH 96 (aX.dG ⟨(rL q p).eV 0 (dI b),[],[]⟩)).2.r,G,ms⟩):=by kernel_rfl
theorem OW(q p b:Nat):(followP jH 96 (aX.dG ⟨(rL q p).eV 0 (dI b),[],[]⟩)).2.r.r0=b/\(followP jH 96 (aX.dG ⟨(rL q p).eV 0 (dI b),[],[]⟩)).2.r.inp=q:=⟨by kernel_rfl,by kernel_rfl⟩
theorem aaY{G:List tLN}{es:List (tLN×Nat)}{q a b x:Nat}(hq:G.getD q []=[a,b])(hx:aT es [a]=fR->G.getD (aY es [a]) []=[x]):∃r,r.inp=q/\r.r0=(if aT es [a]then x else 1000)/\followP jH 101 (kS 1 q G [lN es])=(0,⟨r,G,[lN es]⟩):=by
 obtain⟨u1,u2⟩:=XT q G [lN es];obtain⟨r1,r2⟩:=XR q;have hd:=aaW q G [lN es];rw[get_at,XM hq r1 r2]at hd;have hs:=sj u1 hd;rw[acR,show(99:Nat)=98+1 from rfl,wS u2 (by rw[hs]),hs];cases hf:aT es [a]with
 |false=>exact⟨_,(Gd q).2,(Gd q).1,get_none q _ _⟩
 |true =>
  have hx':=hx hf;generalize aY es [a]=p at *;obtain⟨v1,v2⟩:=aaX q p G [lN es];have hl:=acS q p G [lN es]
  have e1:aZ G (eY p 0) 0 1=0:=by
   rw[aZ,iN9 (λh=>h rfl),iP9];show 0+1<=eJ (G.getD p [])
   rw[hx'];exact bj 1
  have e2:BD G (eY p 0) 0 1=x:=by
   show leN (((G.getD p []).drop (lq (eY p 0) 0)).take 1)=x
   rw[hx'];show x+256*0=x
   omega
  rw[iP9 e1,e2]at hl;have ht:=sj v1 hl;refine⟨_,(OW q p x).2,(OW q p x).1,?_⟩;show followP jH 98 (aX.dG ⟨(rG q).answer (eY p 0),G,[lN es]⟩)=_
  rw[aeD,show(97:Nat)=96+1 from rfl,wS v2 (by rw[ht]),ht];exact acT q p x _ _
set_option linter.all false
def mH(is:Nat->Nat)(a:Nat):tLN:=(List.range a).filter (λk=>is k != 0)
def Eo(is:Nat->Nat)(a:Nat):tLN:=((ar (a+1) (255-a))).filter (λk=>is k != 0)
def Te(is:Nat->Nat)(a:Nat):tLN:=if is a=0 then []else [a]
theorem vY(is:Nat->Nat){a:Nat}(ha:a<256):mH is 256=mH is a++Te is a++Eo is a:=by
 unfold mH Te Eo
 have e:List.range 256=List.range a++[a]++ar (a+1) (255-a):=by
  rw[b5,b5];have h1:=(b9:ar 0 a++ar (0+a) 1=_)
  have h2:=(b9:ar 0 (a+1)++ar (0+(a+1)) (255-a)=_)
  rw[Nat.zero_add]at h1 h2;rw[show(256:Nat)=a+1+(255-a) by omega,<-h2,<-h1];rfl
 rw[e,cw,cw];by_cases h:is a=0
 ·simp[h]
 ·simp[h]
theorem Cm{is:Nat->Nat}{a k:Nat}(h:k∈mH is a):k<a/\is k≠0:=by
 unfold mH at h
 simpa using h
theorem vZ{is:Nat->Nat}{a k:Nat}(h:k∈Eo is a):a<k/\k<256/\is k≠0:=by unfold Eo at h;rw[List.mem_filter,List.mem_range'_1]at h;refine⟨by omega,by omega,by simpa using h.2⟩
theorem Er{is js:Nat->Nat}{a:Nat}(h:∀k,k≠a->js k=is k):mH js a=mH is a :=
 cG λk hk=>by rw[h k (by have:=List.mem_range.1 hk;omega)]
theorem Ba{is js:Nat->Nat}{a:Nat}(h:∀k,k≠a->js k=is k):Eo js a=Eo is a :=
 cG λk hk=>by rw[h k (by have:=(List.mem_range'_1.1 hk).1;omega)]
structure KI(is:Nat->Nat)(gs:List tLN)(es:List (tLN×Nat)):Prop where
 keys:es.map (·.1)=(mH is 256).map (λk=>[k])
 vals:∀e∈es,∀k,e.1=[k]->gs.getD e.2 []=[is k-1]
 aD:∀e∈es,e.2<eJ gs
 nd:(es.map (·.2)).Nodup
theorem NB(a b:Nat):ltNs [a] [b]=decide (a<b):=by
 unfold ltNs;by_cases h:a<b
 ·simp[h]
 ·by_cases h':b<a
  ·simp[h,h']
  ·simp[h,h',ltNs]
theorem mI{l:List (tLN×Nat)}{ks:tLN}(h:l.map (·.1)=ks.map (λk=>[k])){e:tLN×Nat}(he:e∈l):∃k∈ks,e.1=[k]:=by have:e.1∈l.map (·.1):=ba he;rw[h]at this;obtain⟨k,hk,hke⟩:=List.mem_map.1 this;exact⟨k,hk,hke.symm⟩
theorem KI.cut{is:Nat->Nat}{gs:List tLN}{es:List (tLN×Nat)}(h:KI is gs es){a:Nat}(ha:a<256):∃eA eB,eA.map (·.1)=(mH is a).map (λk=>[k])/\eB.map (·.1)=(Eo is a).map (λk=>[k])/\aL es [a]=eJ eA /\ ((is a=0/\es=eA++eB/\aT es [a]=fj)\/(is a≠0/\∃q,es=eA++([a],q)::eB/\aT es [a]=fR/\aY es [a]=q)):=by
 have hk:=h.keys;rw[vY is ha,ab,ab]at hk;obtain⟨e1,eB,hes,h1,hB⟩:=List.map_eq_append_iff.1 hk;obtain⟨eA,eM,he1,hA,hM⟩:=List.map_eq_append_iff.1 h1;have fA:eA.countP (λe=>ltNs e.1 [a])=eJ eA:=by rw[List.countP_eq_length];intro e he;obtain⟨k,hk,ek⟩:=mI hA he;rw[ek,NB];exact decide_eq_true (Cm hk).1
 have fB:eB.countP (λe=>ltNs e.1 [a])=0:=by rw[List.countP_eq_zero];intro e he;obtain⟨k,hk,ek⟩:=mI hB he;rw[ek,NB];have:=(vZ hk).1;simp;omega
 refine⟨eA,eB,hA,hB,?_⟩;unfold Te at hM;by_cases h0:is a=0
 ·rw[iP9 h0]at hM;have eM0:=List.map_eq_nil_iff.1 hM;subst eM0;rw[List.append_nil]at he1;subst he1;have hf:aL es [a]=eJ e1:=by unfold aL;rw[hes,cx,fA,fB];rfl
  refine⟨hf,.inl ⟨h0,hes,?_⟩⟩;unfold aT;rw[hf];by_cases hl:eJ e1<eJ es
  ·have hB0:0<eJ eB:=by rw[hes,ao]at hl;omega
   have e0:es.getD (eJ e1) ([],0)=eB[0]:=by rw[hes,List.getD_eq_getElem?_getD,List.getElem?_append_right (bj _),cy,List.getElem?_eq_getElem hB0];rfl
   obtain⟨k,hk,ek⟩:=mI hB (cH hB0);rw[e0,ek];have:=(vZ hk).1;simp;omega
  ·rw[decide_eq_false hl];rfl
 ·rw[iN9 h0]at hM;have hl1:eJ eM=1:=by have:=congrArg List.length hM;simpa using this
  obtain⟨m,rfl⟩:=List.length_eq_one_iff.1 hl1;have hm1:m.1=[a]:=by simpa using hM
  obtain⟨m1,q⟩:=m;simp only at hm1;subst hm1;have aaZ:es=eA++([a],q)::eB:=by rw[hes,he1];simp
  have hf:aL es [a]=eJ eA:=by unfold aL;rw[aaZ,cx,fA,List.countP_cons,fB];simp[NB]
  have e0:es.getD (eJ eA) ([],0)=([a],q):=by rw[aaZ,List.getD_eq_getElem?_getD,List.getElem?_append_right (bj _),cy];rfl
  refine⟨hf,.inr ⟨h0,q,aaZ,?_,?_⟩⟩
  ·unfold aT;rw[hf,e0];have:eJ eA<eJ es:=by rw[aaZ,ao,List.length_cons];omega
   simp[this]
  ·unfold aY;rw[hf,e0]
set_option linter.all false
def mJ(is:Nat->Nat)(a x:Nat):Nat->Nat:=λk=>if k=a then x else is k
theorem pO(is:Nat->Nat)(a x:Nat):∀k,k≠a->mJ is a x k=is k:=λk h=>iN9 h
theorem Bb(is:Nat->Nat)(a x:Nat):mJ is a x a=x:=iP9 rfl
theorem wU(G:List tLN)(q i:Nat)(x:tLN)(hq:q<eJ G):(G.set q x).getD i []=if i=q then x else G.getD i []:=by
 rw[List.getD_eq_getElem?_getD,List.getD_eq_getElem?_getD,List.getElem?_set];by_cases h:i=q
 ·subst h;simp[hq]
 ·rw[iN9 (λe=>h e.symm),iN9 h]
theorem wV(G X:List tLN)(i:Nat)(h:i<eJ G):(G++X).getD i []=G.getD i []:=by rw[List.getD_eq_getElem?_getD,List.getElem?_append_left h,List.getD_eq_getElem?_getD]
section
variable {is : Nat -> Nat} {gs : List (List Nat)} {es : List (List Nat × Nat)} {a v : Nat}
theorem KI.ext(h:KI is gs es)(X:List tLN):KI is (gs++X) es:=⟨h.keys,λe he k hk=>by rw[wV _ _ _ (h.aD e he)];exact h.vals e he k hk,λe he=>by have:=h.aD e he;rw[ao];omega,h.nd⟩
theorem KI.old(h:KI is gs es)(ha:a<256)(h0:is a≠0):aT es [a]=fR/\aY es [a]<eJ gs/\gs.getD (aY es [a]) []=[is a-1]/\KI (mJ is a (v+1)) (gs.set (aY es [a]) [v]) es:=by
 obtain⟨eA,eB,hA,hB,hn,h1 |⟨_,q,hes,hf,hq⟩⟩:=h.cut ha
 ·exact absurd h1.1 h0
 have hm:([a],q)∈es:=by rw[hes];simp
 have hql:=h.aD _ hm;rw[hq];refine⟨hf,hql,h.vals _ hm a rfl,?_,λe he k hk=>?_,λe he=>by rw[List.length_set];exact h.aD e he,h.nd⟩
 ·rw[h.keys,vY is ha,vY (mJ is a (v+1)) ha,Er (pO is a _),Ba (pO is a _)];unfold Te;rw[Bb,iN9 h0,iN9 (by omega)]
 ·rw[wU _ _ _ _ hql];by_cases e2:e.2=q
  ·have hnd:=h.nd
   have:e=([a],q):=by
    have h1:es.Pairwise (λx y=>x.2≠y.2):=by
     have:=h.nd
     rwa [List.Nodup,List.pairwise_map]at this
    rw[hes]at h1 he;rw[List.pairwise_append,cD]at h1;rcases List.mem_append.1 he with he|he
    ·exact absurd e2 (h1.2.2 e he ([a],q) (by simp))
    ·rcases List.mem_cons.1 he with he|he
     ·exact he
     ·exact absurd e2.symm (h1.2.1.1 e he)
   rw[this]at hk;have:k=a:=by simpa using hk.symm
   subst this;rw[iP9 e2,Bb];rfl
  ·rw[iN9 e2,h.vals e he k hk,pO];intro hka;subst hka
   have:e.2=q:=by
    rw[hes]at he;rcases List.mem_append.1 he with he|he
    ·obtain⟨k',hk',XU⟩:=mI hA he;rw[XU]at hk;have:=(Cm hk').1;simp at hk;omega
    ·rcases List.mem_cons.1 he with he|he
     ·rw[he]
     ·obtain⟨k',hk',XU⟩:=mI hB he;rw[XU]at hk;have:=(vZ hk').1;simp at hk;omega
   exact e2 this
theorem KI.new(h:KI is gs es)(ha:a<256)(h0:is a=0):aT es [a]=fj/\KI (mJ is a (v+1)) (gs++[[v]]) (es.take (aL es [a])++([a],eJ gs)::es.drop (aL es [a])):=by
 obtain⟨eA,eB,hA,hB,hn,hc⟩:=h.cut ha
 obtain⟨hes,hf⟩:es=eA++eB/\aT es [a]=fj:=by
  rcases hc with⟨_,x,y⟩|h1
  ·exact⟨x,y⟩
  ·exact absurd h0 h1.1
 have e1:es.take (aL es [a])=eA:=by rw[hn,hes,List.take_left]
 have e2:es.drop (aL es [a])=eB:=by rw[hn,hes,List.drop_left]
 rw[e1,e2]
 have hin:∀e,e∈eA++([a],eJ gs)::eB->e∈es\/e=([a],eJ gs):=λe he=>by
  rcases List.mem_append.1 he with he|he
  ·exact .inl (by rw[hes];exact cj _ he)
  ·rcases List.mem_cons.1 he with he|he
   ·exact .inr he
   ·exact .inl (by rw[hes];exact bt _ he)
 refine⟨hf,?_,λe he k hk=>?_,λe he=>?_,?_⟩
 ·rw[vY (mJ is a (v+1)) ha,Er (pO is a _),Ba (pO is a _),ab,cq,hA,hB];unfold Te;rw[Bb,iN9 (by omega)];simp
 ·rcases hin e he with he'|rfl
  ·rw[wV _ _ _ (h.aD e he'),h.vals e he' k hk,pO];intro hka;subst hka;rw[hes]at he';rcases List.mem_append.1 he' with he|he
   ·obtain⟨k',hk',XU⟩:=mI hA he;rw[XU]at hk;have:=(Cm hk').1;simp at hk;omega
   ·obtain⟨k',hk',XU⟩:=mI hB he;rw[XU]at hk;have:=(vZ hk').1;simp at hk;omega
  ·have:k=a:=by simpa using hk.symm
   subst this;rw[Bb];simp
 ·rw[ao];rcases hin e he with he|rfl
  ·have:=h.aD e he;simp;omega
  ·simp
 ·have hnd:=h.nd;rw[hes,ab]at hnd;rw[ab,cq];have hnot:eJ gs ∉ es.map (·.2):=λhm=>by obtain⟨e,he,hee⟩:=List.mem_map.1 hm;have:=h.aD e he;omega
  rw[hes,ab,List.mem_append]at hnot;rw[bh]at hnd ⊢;refine⟨hnd.1,List.nodup_cons.2 ⟨λhm=>hnot (.inr hm),hnd.2.1⟩,λx hx y hy=>?_⟩;rcases List.mem_cons.1 hy with rfl|hy
  ·intro e;subst e;exact hnot (.inl hx)
  ·exact hnd.2.2 x hx y hy
theorem KI.gone(h:KI is gs es)(ha:a<256)(h0:is a≠0):aT es [a]=fR/\aY es [a]<eJ gs/\KI (mJ is a 0) (gs.set (aY es [a]) []) (es.take (aL es [a])++es.drop (aL es [a]+1))/\(es.take (aL es [a])++es.drop (aL es [a]+1)).length+1=eJ es:=by
 obtain⟨eA,eB,hA,hB,hn,h1 |⟨_,q,hes,hf,hq⟩⟩:=h.cut ha
 ·exact absurd h1.1 h0
 have e1:es.take (aL es [a])=eA:=by rw[hn,hes,List.take_left]
 have e2:es.drop (aL es [a]+1)=eB:=by rw[hn,hes,show eA++([a],q)::eB=(eA++[([a],q)])++eB by simp,show eJ eA+1=eJ (eA++[([a],q)]) by simp,List.drop_left]
 have hm:([a],q)∈es:=by rw[hes];simp
 have hql:=h.aD _ hm;rw[e1,e2,hq]
 have hin:∀e,e∈eA++eB->e∈es:=λe he=>by
  rw[hes];rcases List.mem_append.1 he with he|he
  ·exact cj _ he
  ·exact bt _ (al _ he)
 have hnd:=h.nd;rw[hes,ab,cq,bh,List.nodup_cons]at hnd;refine⟨hf,hql,⟨?_,λe he k hk=>?_,λe he=>by rw[List.length_set];exact h.aD e (hin e he),?_⟩,by rw[hes];simp;omega⟩
 ·rw[vY (mJ is a 0) ha,Er (pO is a _),Ba (pO is a _),ab,hA,hB];unfold Te;rw[Bb,iP9 rfl];simp
 ·have hka:k≠a:=λhka=>by
   subst hka;rcases List.mem_append.1 he with he|he
   ·obtain⟨k',hk',XU⟩:=mI hA he;rw[XU]at hk;have:=(Cm hk').1;simp at hk;omega
   ·obtain⟨k',hk',XU⟩:=mI hB he;rw[XU]at hk;have:=(vZ hk').1;simp at hk;omega
  have hne:e.2≠q:=λe2=>by
   rcases List.mem_append.1 he with he|he
   ·exact hnd.2.2 e.2 (ba he) q (by simp) e2
   ·have hh:e.2∈eB.map (·.2):=ba he;rw[e2]at hh;exact hnd.2.1.1 hh
  rw[wU _ _ _ _ hql,iN9 hne,h.vals e (hin e he) k hk,pO is a 0 k hka]
 ·rw[ab,bh];exact⟨hnd.1,hnd.2.1.2,λx hx y hy=>hnd.2.2 x hx y (al _ hy)⟩
end
def kWant(op:Nat)(is:Nat->Nat)(c a v:Nat):Nat×(Nat->Nat)×Nat:=match op with
 |0=>if is a=0 then(1,mJ is a 0,c)else(0,mJ is a 0,c-1)
 |1=>(if is a=0 then 1000 else is a-1,is,c)
 |_=>if is a=0/\c=4 then(1,is,c)else if is a=0 then(0,mJ is a (v+1),c+1)else(0,mJ is a (v+1),c)
theorem Tf{is:Nat->Nat}{a:Nat}(h:is a=0):mJ is a 0=is:=by
 funext k;unfold mJ;by_cases e:k=a
 ·rw[iP9 e,e,h]
 ·rw[iN9 e]
def zR(op:Nat):tLB:=match op with
 |0=>[100,101,108]
 |1=>[103,101,116]
 |_=>[112,117,116]
theorem acU(op:Nat)(hop:op<3)(gs:List tLN)(ms:List iK)(inp:tBA)(h2:(gN inp).size=2):pM jH gs ms (zR op) inp 99=(r9 jH (followP jH 101 (kS op (eJ gs) (gs++[fw (gN inp)]++[bS]) ms)),(followP jH 101 (kS op (eJ gs) (gs++[fw (gN inp)]++[bS]) ms)).2.gs,(followP jH 101 (kS op (eJ gs) (gs++[fw (gN inp)]++[bS]) ms)).2.ms):=by
 have hi:xK jH (zR op)=eK op:=by
  have:op=0\/op=1\/op=2:=by omega
  rcases this with rfl|rfl|rfl<;>decide
 have e:Kw 99=99:=by decide
 simp only[pM,hi,EW,pK,h2,e,kS]
theorem NC{r:aJ}{G:List tLN}{ms:List iK}:r9 jH (0,⟨r,G,ms⟩)=⟨0,[],0,r.r0,G.getD r.inp [],r.log,r.used⟩:=rfl
theorem acV{is:Nat->Nat}{gs:List tLN}{es:List (tLN×Nat)}(h:KI is gs es)(op a v:Nat)(hop:op<3)(ha:a<256)(inp:tBA)(hi:fw (gN inp)=[a,v])(h2:(gN inp).size=2):(pM jH gs [lN es] (zR op) inp 99).1.trap=0/\(pM jH gs [lN es] (zR op) inp 99).1.r0=(kWant op is (eJ es) a v).1/\(pM jH gs [lN es] (zR op) inp 99).1.inp=[a,v] /\ ∃es',(pM jH gs [lN es] (zR op) inp 99).2.2=[lN es']/\KI (kWant op is (eJ es) a v).2.1 (pM jH gs [lN es] (zR op) inp 99).2.1 es'/\es'.length=(kWant op is (eJ es) a v).2.2:=by
 rw[acU op hop gs _ inp h2,hi];have hG:KI is (gs++[[a,v]]++[bS]) es:=(h.ext _).ext _;have hl:eJ gs<eJ (gs++[[a,v]]++[bS]):=by simp
 have hq:(gs++[[a,v]]++[bS]).getD (eJ gs) []=[a,v]:=by rw[wV _ _ _ (by simp),List.getD_eq_getElem?_getD,List.getElem?_append_right (bj _),cy];rfl
 have hne:∀e∈es,e.2≠gs.length:=λe he=>by have:=h.aD e he;omega
 have hfq:aT es [a]=fR->aY es [a]≠gs.length:=λhf=>by
  obtain⟨eA,eB,_,_,_,h1 |⟨_,q,hes,_,hq⟩⟩:=h.cut ha
  ·rw[h1.2.2]at hf;cases hf
  ·rw[hq];exact hne ([a],q) (by rw[hes];simp)
 have agh:op=0\/op=1\/op=2:=by omega
 generalize gs++[[a,v]]++[bS]=G at *;generalize eJ gs=q at *;rcases agh with rfl|rfl|rfl
 ·obtain⟨r,r1,r2,r3⟩:=aaV (es:=es) hq;rw[r3,NC,r1,r2];unfold kWant;by_cases h0:is a=0
  ·obtain⟨hf,_⟩:=hG.new (v:=v) ha h0;simp only[h0,hf,Tf,↓reduceIte];exact⟨trivial,by first|exact True.intro|rfl,hq,es,rfl,hG,by first|exact True.intro|rfl⟩
  ·obtain⟨hf,hlt,hk,hlen⟩:=hG.gone ha h0;simp only[h0,hf,↓reduceIte];refine⟨trivial,by first|exact True.intro|rfl,?_,_,rfl,hk,by omega⟩;show(G.set (aY es [a]) []).getD q []=_
   rw[wU _ _ _ _ hlt,iN9 (λe=>hfq hf e.symm),hq]
 ·have hx:aT es [a]=fR->G.getD (aY es [a]) []=[is a-1]:=λhf=>by
   by_cases h0:is a=0
   ·have:=(hG.new (v:=v) ha h0).1;rw[this]at hf;cases hf
   ·exact(hG.old (v:=v) ha h0).2.2.1
  obtain⟨r,r1,r2,r3⟩:=aaY (es:=es) hq hx;rw[r3,NC,r1,r2];unfold kWant;by_cases h0:is a=0
  ·obtain⟨hf,_⟩:=hG.new (v:=v) ha h0;simp only[h0,hf,↓reduceIte];exact⟨trivial,by first|exact True.intro|rfl,hq,es,rfl,hG,by first|exact True.intro|rfl⟩
  ·obtain⟨hf,_⟩:=hG.old (v:=v) ha h0;simp only[h0,hf,↓reduceIte];exact⟨trivial,by first|exact True.intro|rfl,hq,es,rfl,hG,by first|exact True.intro|rfl⟩
 ·obtain⟨r,r1,r2,r3⟩:=aaT (es:=es) hq;rw[r3,NC,r1,r2];unfold kWant;by_cases h0:is a=0
  ·obtain⟨hf,hk⟩:=hG.new (v:=v) ha h0;by_cases h4:eJ es=4
   ·simp only[h0,hf,h4,↓reduceIte];exact⟨trivial,by first|exact True.intro|rfl,hq,es,rfl,hG,by first|exact True.intro|exact h4⟩
   ·simp only[h0,hf,h4,↓reduceIte];refine⟨trivial,by first|exact True.intro|rfl,?_,_,rfl,hk,?_⟩
    ·show(G++[[v]]).getD q []=_
     rw[wV _ _ _ hl,hq]
    ·have hn:aL es [a]<=eJ es:=List.countP_le_length;simp;omega
  ·obtain⟨hf,hlt,_,hk⟩:=hG.old (v:=v) ha h0;simp only[h0,hf,↓reduceIte];refine⟨trivial,by first|exact True.intro|rfl,?_,es,rfl,hk,by first|exact True.intro|rfl⟩;show(G.set (aY es [a]) [v]).getD q []=_
   rw[wU _ _ _ _ hlt,iN9 (λe=>hfq hf e.symm),hq]
set_option linter.all false
structure KD where
 sb:Nat
 c1:fa
 wT:tW
 tv:fa
 bs:tLN
 mp:Nat
 vF:fa
 cg:tLN
 a:Ad
structure KD.At(d:KD)(gs:List tLN)(es:List (tLN×Nat))(w:tW):Prop where
 blk:au w d.sb #[pt d.mp] 58
 IE:dB (vJ 0) d.c1 d.wT d.tv d.bs d.mp d.vF jH d.cg d.a gs [lN es] w
def KD.S(d:KD)(k:Nat):Prop:=k=d.mp\/jf d.a k
def KD.W(d:KD)(k:Nat):Prop:=Whole d.mp d.vF d.cg d.a k
theorem dB.KT{c0 c1:fa}{wT:tW}{tv:fa}{bs:tLN}{mp:Nat}{vF:fa}{fs:List bz}{cg:tLN}{a:Ad}{gs:List tLN}{ms:List iK}{w:tW}(h:dB c0 c1 wT tv bs mp vF fs cg a gs ms w){k:Nat}(hk:Whole mp vF cg a k):k<w.heap.size:=by
 obtain⟨h1,h2,h3⟩:=h.Xn;rcases hk with rfl|hk|hk|hk|hk
 ·exact h1
 ·exact h.OK hk
 ·exact h2 k hk
 ·exact h3 k hk
 ·exact h.maps.uW.lt k hk
structure K2(w0:tW)(d1 d2:KD):Prop where
 lo1:∀k,d1.W k->w0.heap.size<=k
 lo2:∀k,d2.W k->w0.heap.size<=k
 sep:∀k,d1.W k->¬d2.W k
 t12:∀k,k<d2.wT.heap.size->d1.S k->∃t∈Xg,Ty d2.wT k t
 t21:∀k,k<d1.wT.heap.size->d2.S k->∃t∈Xg,Ty d1.wT k t
theorem K2.flip{w0:tW}{d1 d2:KD}(h:K2 w0 d1 d2):K2 w0 d2 d1:=⟨h.lo2,h.lo1,λk h2 h1=>h.sep k h1 h2,h.t21,h.t12⟩
def KD.Next(d d':KD)(w:tW):Prop:=d'.sb=d.sb/\d'.wT=d.wT/\d'.mp=d.mp/\d'.vF=d.vF/\d'.cg=d.cg/\d'.a.vM=d.a.vM/\∀k,jf d'.a k->jf d.a k\/w.heap.size<=k
theorem K2.next{w0 w:tW}{d1 d2 d':KD}{gs:List tLN}{es:List (tLN×Nat)}(h:K2 w0 d1 d2)(hw:w0.heap.size<=w.heap.size)(h2:d2.At gs es w)(hn:d1.Next d' w):K2 w0 d' d2:=by
 obtain⟨_,eT,em,eF,ec,ev,hf⟩:=hn;have hS:∀k,d'.S k->d1.S k\/w.heap.size<=k:=λk hk=>hk.elim (λe=>.inl (.inl (e.trans em))) (λe=>(hf k e).imp .inr id)
 have hW:∀k,d'.W k->d1.W k\/w.heap.size<=k:=λk hk=>by
  unfold KD.W Whole at hk ⊢;rw[em,eF,ec,ev]at hk;rcases hk with e|e|e|e|e
  ·exact .inl (.inl e)
  ·exact(hf k e).imp (λh=>.inr (.inl h)) id
  ·exact .inl (.inr (.inr (.inl e)))
  ·exact .inl (.inr (.inr (.inr (.inl e))))
  ·exact .inl (.inr (.inr (.inr (.inr e))))
 refine⟨λk hk=>(hW k hk).elim (h.lo1 k) (λe=>by omega),h.lo2,λk hk h2'=>?_,λk hk hs=>?_,λk hk hs=>by rw[eT]at hk ⊢;exact h.t21 k hk hs⟩
 ·rcases hW k hk with e|e
  ·exact h.sep k e h2'
  ·have:=h2.IE.KT h2';omega
 ·rcases hS k hs with e|e
  ·exact h.t12 k hk e
  ·have:=h2.IE.md.size;omega
theorem KD.At.quiet{d:KD}{gs:List tLN}{es:List (tLN×Nat)}{w w':tW}(h:d.At gs es w)(m:aa af w w'):d.At gs es w':=⟨h.blk.ai m id,h.IE.quiet m⟩
theorem KD.At.frame{w0 w w':tW}{d1 d2:KD}{g1 g2:List tLN}{e1 e2:List (tLN×Nat)}(h2:d2.At g2 e2 w)(h1:d1.At g1 e1 w)(h:K2 w0 d1 d2)(m:aa d1.S w w'):d2.At g2 e2 w' :=
 ⟨h2.blk.cK (h1.IE.turned m) (by decide),h2.IE.Xo m h.t12 (λk hs hw=>h.sep k (hs.elim .inl (λe=>.inr (.inl e))) hw)⟩
def whT:List ju:=[58,71,122,5,85,148,75,138,82]
theorem dB.XV{c0 c1:fa}{wT:tW}{tv:fa}{bs:tLN}{mp:Nat}{vF:fa}{fs:List bz}{cg:tLN}{a:Ad}{gs:List tLN}{ms:List iK}{w:tW}(h:dB c0 c1 wT tv bs mp vF fs cg a gs ms w){k:Nat}(hk:Whole mp vF cg a k):∃t∈whT,Ty w k t:=by
 rcases hk with rfl|hk|hk|hk|hk
 ·exact⟨_,by simp[whT],h.blk.ty⟩
 ·obtain⟨t,ht,hy⟩:=h.zM hk;refine⟨t,?_,hy⟩;simp only[List.mem_cons,List.not_mem_nil,or_false]at ht;rcases ht with rfl|rfl|rfl|rfl<;>simp[whT]
 ·exact⟨_,by simp[whT],h.wY.ty hk⟩
 ·obtain⟨i,hi,rfl⟩:=List.getElem_of_mem hk;exact⟨_,by simp[whT],(h.code i (by rw[<-h.lf];exact hi) hi).ty⟩
 ·exact⟨_,by simp[whT],h.maps.uW.ty hk⟩
theorem KD.At.set{d:KD}{gs:List tLN}{es:List (tLN×Nat)}{w w':tW}{G:Nat}{t:ju}(h:d.At gs es w)(ty:Ty w G t)(ht:t ∉ whT)(hG:d.wT.heap.size<=G)(m:aa (Only G) w w'):d.At gs es w':=by
 refine⟨h.blk.ai m (λe=>?_),h.IE.Xo m (λk hk e=>?_) (λk e hw=>?_)⟩
 ·have e':d.sb=G:=e;rw[<-e']at ty;exact ht (by rw[ty.one h.blk.ty];simp[whT])
 ·have e':k=G:=e;omega
 ·have e':k=G:=e;subst e';obtain⟨u,hu,hy⟩:=h.IE.XV hw;exact ht (ty.one hy ▸ hu)
def lD(N:Nat)(w0:tW)(sb1 Bc:Nat)(g1:List tLN)(e1:List (tLN×Nat))(g2:List tLN)(e2:List (tLN×Nat))(w:tW):Prop:=∃d1 d2:KD,d1.sb=sb1/\d2.sb=Bc/\d1.At g1 e1 w/\d2.At g2 e2 w/\K2 w0 d1 d2/\aa af w0 w/\d1.wT.heap.size<=N/\d2.wT.heap.size<=N
section
variable {N : Nat} {w0 w w' : World} {sb1 Bc : Nat} {g1 g2 : List (List Nat)} {e1 e2 : List (List Nat × Nat)}
theorem lD.quiet(h:lD N w0 sb1 Bc g1 e1 g2 e2 w)(m:aa af w w'):lD N w0 sb1 Bc g1 e1 g2 e2 w':=by obtain⟨d1,d2,r1,r2,h1,h2,hk,hm,n1,n2⟩:=h;exact⟨d1,d2,r1,r2,h1.quiet m,h2.quiet m,hk,hm.trans m,n1,n2⟩
theorem lD.flip(h:lD N w0 sb1 Bc g1 e1 g2 e2 w):lD N w0 Bc sb1 g2 e2 g1 e1 w:=by obtain⟨d1,d2,r1,r2,h1,h2,hk,hm,n1,n2⟩:=h;exact⟨d2,d1,r2,r1,h2,h1,hk.flip,hm,n2,n1⟩
theorem lD.set{G:Nat}{t:ju}(h:lD N w0 sb1 Bc g1 e1 g2 e2 w)(hG:N<=G)(hw:w0.heap.size<=G)(ty:Ty w G t)(ht:t ∉ whT)(m:aa (Only G) w w'):lD N w0 sb1 Bc g1 e1 g2 e2 w':=by obtain⟨d1,d2,r1,r2,h1,h2,hk,hm,n1,n2⟩:=h;exact⟨d1,d2,r1,r2,h1.set ty ht (by omega) m,h2.set ty ht (by omega) m,hk,hm.step m (λk hk' e=>by have e':k=G:=e;omega),n1,n2⟩
theorem lD.run(hco:lK jH 1)(hH:∀F b,Eg F b jH)(hK:oW jH)(h:lD N w0 sb1 Bc g1 e1 g2 e2 w){is:Nat->Nat}(hi:KI is g1 e1)(op a v:Nat)(hop:op<3)(ha:a<256)(inp:tBA)(hn:fw (gN inp)=[a,v])(hs:(gN inp).size=2)(hz:inp.size<=1000) :fS prog 12 #[pt sb1,eR (T (zR op)),eR inp,vI 99] w λe w'=>∃g e' R o c,e=fW (fY (kM R (eS o (eJ R.log) c)))/\R.trap=0/\R.r0=(kWant op is (eJ e1) a v).1/\R.inp=[a,v]/\KI (kWant op is (eJ e1) a v).2.1 g e'/\e'.length=(kWant op is (eJ e1) a v).2.2/\lD N w0 sb1 Bc g e' g2 e2 w'/\w.heap.size<=w'.heap.size/\∀B cs t,t ∉ Xg->au w B cs t->au w' B cs t:=by obtain⟨d1,d2,rfl,rfl,h1,h2,hk,hm,n1,n2⟩:=h;obtain⟨k1,k2,k3,es',k4,k5,k6⟩:=acV hi op a v hop ha inp hn hs;refine(KK h1.IE d1.sb h1.blk hco hH hK (by decide) (zR op) inp (by omega) 99 (by decide)).mono ?_;rintro e w' ⟨vL,a',rfl,hL,hC,_,ev,hft,m⟩;obtain⟨o,c,rfl,_⟩:=hL.view;rw[k4]at hC;have m':aa d1.S w w':=m;have t1:=h1.IE.turned m';refine⟨_,es',_,o,c,rfl,k1,k2,k3,k5,k6,⟨⟨d1.sb,d1.c1,d1.wT,d1.tv,d1.bs,d1.mp,d1.vF,d1.cg,a'⟩,d2,rfl,rfl,⟨h1.blk.cK t1 (by decide),hC⟩,h2.frame h1 hk m',hk.next hm.size h2 ⟨rfl,rfl,rfl,rfl,rfl,ev,hft⟩,hm.step m' (λk hk' e=>?_),n1,n2⟩,m.size,λB cs t ht hB=>hB.cK t1 ht⟩;have:=hk.lo1 k (e.elim .inl (λe=>.inr (.inl e)));omega
theorem lD.ent(h:lD N w0 sb1 Bc g1 e1 g2 e2 w) :fS prog 15 #[pt sb1,eR ⟨#[109]⟩] w λe w'=>∃o c,e=fW (jl #[eS o (eJ e1) c,vI 0])/\Sl w' 47 2 (eS o (eJ e1) c) (eJ e1) (e1.flatMap (OU g1))/\lD N w0 sb1 Bc g1 e1 g2 e2 w'/\(∀B cs t,t ∉ Xg->au w B cs t->au w' B cs t)/\∀v n xs,Sl w 47 2 v n xs->Sl w' 47 2 v n xs:=by obtain⟨d1,d2,rfl,rfl,h1,h2,hk,hm,n1,n2⟩:=h;refine(XJ h1.IE d1.sb h1.blk).mono ?_;rintro e w' ⟨o,c,rfl,hs,hC,m⟩;have m':aa d1.S w w':=m.mono (λ_ _ h=>.inl h);have t1:=h1.IE.turned m';refine⟨o,c,rfl,hs,⟨d1,d2,rfl,rfl,⟨h1.blk.cK t1 (by decide),hC⟩,h2.frame h1 hk m',hk,hm.step m' (λk hk' e=>?_),n1,n2⟩,λB cs t ht hB=>hB.cK t1 ht,λv n xs h=>h.cK t1 (by decide)⟩;have:=hk.lo1 k (e.elim .inl (λe=>.inr (.inl e)));omega
end

theorem aeJ(x:Int)(l:List Int):b8 (x::l)=UInt8.ofNat x.toNat::b8 l:=rfl
theorem agi:b8 []=[]:=rfl
theorem BM{α:Type}{R:α->α->Prop}(ha:∀x y,R x y->¬R y x):∀{l k:List α},l.Pairwise R->k.Pairwise R->(∀x,x∈l↔x∈k)->l=k
 |[],[],_,_,_=>rfl
 |[],b::k,_,_,h=>absurd ((h b).2 (by simp)) (by simp)
 |a::l,[],_,_,h=>absurd ((h a).1 (by simp)) (by simp)
 |a::l,b::k,h1,h2,h=>by
  rw[cD]at h1 h2
  have e:a=b:=by
   by_cases e:a=b
   ·exact e
   ·exfalso
    have p1:a∈k:=by
     rcases List.mem_cons.1 ((h a).1 (by simp))with c|c
     ·exact absurd c e
     ·exact c
    have p2:b∈l:=by
     rcases List.mem_cons.1 ((h b).2 (by simp))with c|c
     ·exact absurd c.symm e
     ·exact c
    exact ha _ _ (h1.1 b p2) (h2.1 a p1)
  subst e;congr 1;refine BM ha h1.2 h2.2 (λx=>⟨λhx=>?_,λhx=>?_⟩)
  ·rcases List.mem_cons.1 ((h x).1 (al _ hx))with c|c
   ·subst c;exact absurd (h1.1 _ hx) (λr=>ha _ _ r r)
   ·exact c
  ·rcases List.mem_cons.1 ((h x).2 (al _ hx))with c|c
   ·subst c;exact absurd (h2.1 _ hx) (λr=>ha _ _ r r)
   ·exact c
theorem sw{α:Type}{nm:α->tBA}{L L1 L2:List α}(p1:L1.Perm L)(p2:L2.Perm L)(nd:(L.map nm).Nodup)(s1:L1.Pairwise (λx y=>jA (nm y) (nm x)=fj))(s2:L2.Pairwise (λx y=>jA (nm y) (nm x)=fj)):L1=L2:=by
 have strict:∀{K:List α},K.Perm L->K.Pairwise (λx y=>jA (nm y) (nm x)=fj)->K.Pairwise (λx y=>jA (nm x) (nm y)=fR):=fun{K} p s=>by
  have h2:=((p.map nm).nodup_iff).2 nd;have h3:=List.pairwise_map.1 h2;refine(s.and h3).imp (fun{x y} h=>?_);cases c:jA (nm x) (nm y)with
  |true=>rfl
  |false=>exact absurd (FP c h.1) h.2
 refine BM (R:=λx y=>jA (nm x) (nm y)=fR) (λx y h c=>?_) (strict p1 s1) (strict p2 s2) (λx=>by rw[p1.mem_iff,p2.mem_iff]);rw[Ry h]at c;cases c
set_option linter.all false
def kepB(d:Us)(x:PI):Bool:=match d.t with
 |0=>decide (d.m=0\/(d.m=2/\d.k=2)\/(d.m=4/\d.k=0))
 |1=>decide (d.m=0)
 |2=>fj
 |3=>fR
 |4=>fj
 |5=>decide (x.s=1)
 |6=>decide (x.s≠1/\1<=x.num/\x.num<=3)
 |_=>fR
theorem XW(w:tW)(rb mb:tLN)(f:Fn)(c:tAV)(m k:Nat)(h:ic w f c m k)(hm:m=0\/(m=2/\k=2)\/(m=4/\k=0))(d s:MV)(hd:d.bits<18446744073709551616)(hs:s.bits<18446744073709551616):Ow w rb mb f c m k d s:=by
 rcases hm with rfl |⟨rfl,rfl⟩ |⟨rfl,rfl⟩
 ·unfold ic at h;obtain⟨rfl,rfl⟩:=h;exact⟨_,rfl,enters_of func185 (by kernel_rfl) rfl,λw' _=>aav w' rb mb d s⟩
 ·unfold ic at h;obtain⟨rfl,b,rfl,hb⟩:=h;exact⟨_,rfl,enters_of func206 (by kernel_rfl) rfl,λw' mm=>Eh rb mb 2 d s (enters_of func191 (by kernel_rfl) rfl) (λw'=>afT w' _ _ _) b w' (hb.ai mm id)⟩
 ·exact aaA w rb mb f c 0 h d s (enters_of func188 (by kernel_rfl) rfl) (λw'=>afS w' _ _ _)
theorem ND(w:tW)(rb mb:tLN)(f:Fn)(c:tAV)(m k:Nat)(h:px w f c m k)(hm:m=0)(d s:MV)(hE:Ng w rb mb d s):Ox w rb mb f c m k d s:=by unfold px at h;subst hm;obtain⟨rfl,rfl⟩:=h;exact⟨_,rfl,enters_of func217 (by kernel_rfl) rfl,λw' mm=>WX w' rb mb d s (hE.ai mm)⟩
theorem acW{F:Nat->Prop}{w:tW}{b:Nat}{a:Ad}{s:aX}{fn:Nat}(h:dX F w b a s)(ho:bT fn s)(hF:∀k,w.heap.size<=k->F k)(x:PI)(bs:tLN)(f9:Fn)(c9:tAV)(hD:DoAt w f9 c9 (dU x.o.code))(hx:OA fn (eJ s.ms) x)(hT:(dU x.o.code).t=1\/(dU x.o.code).t=2->∀w',aa af w w'->fS prog 216 #[fY (x.ins bs).cells,vI s.r.top.slot] w' λe w''=>e=fW (vI ((x.target s.r.top.slot).toNat:Nat))/\aa af w' w'')(Ij:kepB (dU x.o.code) x=fR) (hH:OB F w b a s):∃k,f9=.func k/\ou k/\fS prog k (#[pt b,fY (x.ins bs).cells]++c9) w λe w'=>bJ F w b a (doP (dU x.o.code) x s) e w':=by
 have hr:=h.run;have hc:=hx.call;have hw:=hx.wide;have hz:=hx.size;generalize dU x.o.code=dd at *;obtain⟨t,m,k,aD⟩:=dd;have hd1:=(ho.aD x.d).1;have hd2:(B6 aD (x.ins bs) s.r).bits<18446744073709551616:=(Hz ho aD x).1;unfold DoAt at hD;simp only at hD hT hc hw hz;split at hD
 ·obtain⟨rfl,b1,b2,fr,cr,rfl,hb1,hb2,hk⟩:=hD;refine⟨_,rfl,enters_of func204 (by kernel_rfl) rfl,?_⟩;cases hv:rkP m k (s.r.aD x.d) (yD aD x s)with
  |none =>rw[show doP ⟨0,m,k,aD⟩ x s=(2,s) by simp only[doP,hv]];exact(acn w b a.rb a.mb a.vM a.vC a.vL s.r hr ho.pos (x.ins bs) hx.d aD (λ_=>hx.s) b1 b2 fr cr hb1 hb2 m k (XW w a.rb a.mb fr cr m k hk (by simpa [kepB]using Ij) _ _ hd1 hd2) hv).mono (λe w' hh=>by rw[hh.1];exact bJ.trap (by decide) h hh.2)
  |some v =>rw[show doP ⟨0,m,k,aD⟩ x s=(0,{s with r:=s.r.eV x.d v}) by simp only[doP,hv]];exact(acm w b a.rb a.mb a.vM a.vC a.vL s.r hr ho.pos (x.ins bs) hx.d aD (λ_=>hx.s) b1 b2 fr cr hb1 hb2 m k (XW w a.rb a.mb fr cr m k hk (by simpa [kepB]using Ij) _ _ hd1 hd2) v hv).mono (λe w' hh=>by rw[hh.1];exact bJ.ok (h.vD hh.2.2 _ hh.2.1 rfl))
 ·obtain⟨rfl,b1,b2,fr,cr,rfl,hb1,hb2,hk⟩:=hD;refine⟨_,rfl,enters_of func230 (by kernel_rfl) rfl,?_⟩;have hE:=h.afY _ _ (ho.aD x.d) (Hz ho aD x);cases hv:soP m k (s.r.aD x.d) (yD aD x s)with
  |none =>rw[show doP ⟨1,m,k,aD⟩ x s=(2,s) by simp only[doP,hv]];exact(aay w b a.rb a.mb a.vM a.vC a.vL s.r hr ho.pos (x.ins bs) hx.d aD (λ_=>hx.s) b1 b2 fr cr hb1 hb2 m k (ND w a.rb a.mb fr cr m k hk (by simpa [kepB]using Ij) _ _ hE) hv).mono (λe w' hh=>by rw[hh.1];exact bJ.trap (by decide) h hh.2)
  |some v =>
   cases v with
   |false =>rw[show doP ⟨1,m,k,aD⟩ x s=(0,s) by simp only[doP,hv];rfl];exact(Sn w b a.rb a.mb a.vM a.vC a.vL s.r hr ho.pos (x.ins bs) hx.d aD (λ_=>hx.s) b1 b2 fr cr hb1 hb2 m k (ND w a.rb a.mb fr cr m k hk (by simpa [kepB]using Ij) _ _ hE) hv).mono (λe w' hh=>by rw[hh.1];exact bJ.ok (h.quiet' hh.2))
   |true =>rw[show doP ⟨1,m,k,aD⟩ x s=(0,{s with r:=s.r.gZ (x.target s.r.top.slot).toNat}) by simp only[doP,hv];rfl];exact(aaz w b a.rb a.mb a.vM a.vC a.vL s.r hr ho.pos (x.ins bs) hx.d aD (λ_=>hx.s) b1 b2 fr cr hb1 hb2 m k (ND w a.rb a.mb fr cr m k hk (by simpa [kepB]using Ij) _ _ hE) hv _ (hT (.inl rfl))).mono (λe w' hh=>by rw[hh.1];exact bJ.ok (h.vD hh.2.2 _ hh.2.1 rfl))
 ·simp[kepB]at Ij
 ·obtain⟨rfl,b1,rfl,hb1⟩:=hD;refine⟨_,rfl,enters_of func233 (by kernel_rfl) rfl,?_⟩;have hkb:=hz (.inl rfl);have hl:=λw' (mm:aa af w w')=>aaq (mb:=a.mb) (h.kL.quiet mm) ho.gs (s.r.aD x.s) (ho.aD x.s).pt x.jump k hkb;by_cases ht:aZ s.gs (s.r.aD x.s) x.jump k=0
  ·rw[show doP ⟨3,m,k,aD⟩ x s=(0,{s with r:=s.r.eV x.d (dI (BD s.gs (s.r.aD x.s) x.jump k))})from iP9 ht];simp only[iP9 ht]at hl;exact(aei w b a.rb a.mb a.vM a.vC a.vL s.r hr ho.pos (x.ins bs) hx.d hx.s b1 k hb1 _ hl).mono (λe w' hh=>by rw[hh.1];exact bJ.ok (h.vD hh.2.2 _ hh.2.1 rfl))
  ·rw[show doP ⟨3,m,k,aD⟩ x s=(aZ s.gs (s.r.aD x.s) x.jump k,s)from iN9 ht];simp only[iN9 ht]at hl;exact(aej w b a.rb a.mb a.vM a.vC a.vL s.r hr ho.pos (x.ins bs) hx.d hx.s b1 k hb1 _ hl).mono (λe w' hh=>by rw[hh.1];exact bJ.trap ht h hh.2)
 ·simp[kepB]at Ij
 ·obtain⟨rfl,rfl⟩:=hD;refine⟨_,rfl,enters_of func127 (by kernel_rfl) rfl,?_⟩;have h1:x.s=1:=by simpa [kepB]using Ij
  obtain⟨n0,n1⟩:=hw rfl h1;rw[show doP ⟨5,m,k,aD⟩ x s=(0,{s with r:=s.r.eV x.d (mmap x.num.toNat)}) by simp only[doP,iP9 h1]];have hnn:=Int.toNat_of_nonneg n0;have hlt:x.num.toNat<eJ s.ms:=by omega
  obtain⟨oM,cM,wE,hvw⟩:=h.maps.uW.view;obtain⟨g,cs,rfl,hg,htk,_⟩:=hvw (by omega);have hcell:∀w',aa af w w'->w'.cell? ⟨g,x.num.toNat,eL⟩=eK (vP (a.mb.getD x.num.toNat 0)):=λw' mm=>by have hs:=h.maps.uW.ai mm (λ_ _=>id);rw[wE]at hs;obtain⟨g',hg',hcs⟩:=hs.at rfl x.num.toNat hlt;cases hg';rw[hcs _ hlt];have hl:=h.maps.lm;have :=jY RW 1 a.mb (λ_ _=>rfl) x.num.toNat 0 (by omega) (by omega);rw[Nat.mul_one,Nat.add_zero]at this;rw[this,List.getD_eq_getElem?_getD,List.getElem?_eq_getElem (l:=a.mb) (i:=x.num.toNat) (by omega)];rfl
  have hm:∀w',aa af w w'->fS prog 240 #[pt b,vI (x.ins bs).num] w' λe w''=>e=fW (fY ((mmap x.num.toNat).cells a.rb a.mb).toArray)/\aa af w' w'':=λw' mm=>by have hr':=hr.quiet mm;rw[wE]at hr';have:=WN w' b a.rb a.mb g (eJ s.ms) cM a.vC a.vL s.r hr' x.num.toNat hlt (hcell w' mm);rw[hnn]at this;exact this
  exact(acp w b a.rb a.mb a.vM a.vC a.vL s.r hr ho.pos (x.ins bs) hx.d h1 hx.n.1 hx.n.2 _ hm).mono (λe w' hh=>by rw[hh.1];exact bJ.ok (h.vD hh.2.2 _ hh.2.1 rfl))
 ·obtain⟨rfl,rfl⟩:=hD;refine⟨_,rfl,enters_of func131 (by kernel_rfl) rfl,?_⟩;obtain⟨h1,n0,n1⟩:x.s≠1/\1<=x.num/\x.num<=3:=by simpa [kepB,and_assoc]using Ij
  have hmh:=hH;by_cases e1:x.num=1
  ·rw[show doP ⟨6,m,k,aD⟩ x s=pJ s by simp only[doP,iN9 h1,e1];rfl];exact WY w b (x.ins bs) h1 e1 _ (λw' mm=>(hmh w' mm).1.mono (λe w2 hh=>⟨hh.either,hh.from mm⟩))
  ·by_cases e2:x.num=2
   ·rw[show doP ⟨6,m,k,aD⟩ x s=nR s by simp only[doP,iN9 h1,e2];rfl];exact WZ w b (x.ins bs) h1 e2 _ (λw' mm=>(hmh w' mm).2.1.mono (λe w2 hh=>⟨hh.either,hh.from mm⟩))
   ·have e3:x.num=3:=by omega
    rw[show doP ⟨6,m,k,aD⟩ x s=oh s by simp only[doP,iN9 h1,e3];rfl];exact Xa w b (x.ins bs) h1 e3 _ (λw' mm=>(hmh w' mm).2.2.mono (λe w2 hh=>⟨hh.either,hh.from mm⟩))
 ·rename_i t' n0 n1 n2 n3 n4 n5 n6
  obtain⟨rfl,rfl⟩:=hD;refine⟨_,rfl,enters_of func132 (by kernel_rfl) rfl,?_⟩;have e7:doP ⟨t,m,k,aD⟩ x s=doP ⟨7,m,k,aD⟩ x s:=by unfold doP;simp only
  rw[e7];by_cases h1:eJ s.r.calls=1
  ·by_cases h2:(s.r.aD 0).so=0
   ·rw[show doP ⟨7,m,k,aD⟩ x s=(0,{s with r:=s.r.finish (s.r.aD 0).bits}) by simp only[doP,iP9 h1,iP9 h2]];refine Ni w b (x.ins bs) _ (λw' mm=>?_);exact(WE w' b a.rb a.mb a.vM a.vC a.vL s.r (hr.quiet mm) h1 h2).mono (λe w2 hh=>⟨.inl hh.1,by rw[hh.1];exact(bJ.ok ((h.quiet mm).WQ (hh.2.2.mono (λk _ hk=>.inl hk)) _ hh.2.1 rfl)).from mm⟩)
   ·rw[show doP ⟨7,m,k,aD⟩ x s=(2,s) by simp only[doP,iP9 h1,iN9 h2]];refine Ni w b (x.ins bs) _ (λw' mm=>?_);exact(WG w' b a.rb a.mb a.vM a.vC a.vL s.r (hr.quiet mm) h1 h2).mono (λe w2 hh=>⟨.inr ⟨2,hh.1⟩,by rw[hh.1];exact(bJ.trap (by decide) (h.quiet mm) hh.2).from mm⟩)
  ·rw[show doP ⟨7,m,k,aD⟩ x s=(0,{s with r:=s.r.back,gs:=s.gs.set s.r.top.oJ []}) by simp only[doP,iN9 h1]];refine Ni w b (x.ins bs) _ (λw' mm=>?_);have hq:=ho.top.oJ;have h':=h.quiet mm;refine(Sa w' b a.rb a.mb a.vM a.vC a.vL s.r h'.run (by have:=ho.pos;omega) _ (h'.kL.blk _ hq)).mono ?_;rintro e w3 ⟨WA,rfl,hr3,hC,w2,m1,m2⟩;obtain⟨k1,k2⟩:=h'.backTo _ hq WA hC s.r.back (aJ.yE _ _) w2 m1 m2 hr3;have hp:bJ F w' b a (0,{s with r:=s.r.back,gs:=s.gs.set s.r.top.oJ []}) (fW (jl #[])) w3:=⟨rfl,k2,_,k1,rfl,rfl⟩
   exact⟨.inl rfl,hp.from mm⟩
def XX(fs:List bz):Prop:=∀f∈fs,∀p∈atS 0 f.code,kepB (dU p.1.o.code) p.1=fR
theorem XY{fs:List bz}(h:(fs.all λf=>(atS 0 f.code).all λp=>kepB (dU p.1.o.code) p.1)=fR):XX fs:=λf hf p hp=>List.all_eq_true.1 (List.all_eq_true.1 h f hf) p hp
theorem Ge{fs:List bz}(h:XX fs)(F:Nat->Prop)(b:Nat):Eg F b fs:=λf hf p hp bs w a s f9 c9 hs ho hF hD hx hT=>acW hs ho hF p.1 bs f9 c9 hD hx hT (h f hf p hp) (KR hs ho hF)
theorem BN(fs:List bz):oW fs:=λ_ _ _ _ _ _ _ _ ho=>Ig ho
