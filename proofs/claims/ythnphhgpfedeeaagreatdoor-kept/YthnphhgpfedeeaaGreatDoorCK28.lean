import Derived.Test.YthnphhgpfedeeaaGreatDoorCK26
namespace Go.Proofs.YthnphhgpfedeeaaGreatDoor
open Go.RowKit Tryz
open List renaming getElem_mem->ao,take_succ_cons->bh,drop_succ_cons->bj,getElem_append_right->bt,drop_eq_getElem_cons->b5,take_zero->b9,count_cons_self->cq,count_le_length->cw,drop_zero->cx,mem_or_eq_of_mem_set->cy,drop_length->cD,length_set->cI,getElem_cons_zero->cJ,length_append->cN,foldl_append->cP,length_cons->cW,length->eJ
open Nat renaming le_trans->ab,le_succ_of_le->al,le_refl->ar,zero_le->ba,sub_self->cj,not_lt_zero->cH
open Option renaming bind_eq_some_iff->cG,getD_some->cY,none->eL,some->eK
open Bool renaming false->fj,true->fR
open Decidable renaming decide->gh
open Ending renaming returned->fW
open Obj renaming cells->fL,map->lz
open Value renaming string->eR,agg->fY,slice->eS,bool->fX,map->kq
open _root_.Go renaming Ending->mz,maxLen->jz,Value->fa,Calls->fS,info_parts->oY,wpQuiet_nil->mS,wpList_load_row->rl
set_option linter.all false
set_option maxRecDepth 100000
set_option maxHeartbeats 4000000
theorem Vr(q:PR):(jE q).1<65536:=by
 have h1:=jW q;have h2:=jW (oneP q).2;show(oneP q).1+256*(oneP (oneP q).2).1<65536
 omega
def JF(l:List gL):Nat:=(l.map (·.slots)).sum
theorem JG(l:List gL)(h:gL)(hm:h∈l):h.slots<=JF l:=by
 induction l with
 |nil=>cases hm
 |cons x l ih =>
  simp only[JF,List.map_cons,List.sum_cons]at *;rcases List.mem_cons.1 hm with rfl|hm
  ·omega
  ·have:=ih hm;omega
theorem N8(n:Nat)(q:PR):eJ (dK n q).1<=n:=by
 unfold dK;split
 ·simp;omega
 ·simp;omega
def Az(w:tW)(b:Nat)(bs:tLN)(q:PR)(fs:List bz)(e:mz)(w':tW):Prop :=
 ∃v vs,e=fW v/\eu w' b q/\pR w' w.heap.size bs v fs vs/\aa (Only b) w w'
theorem set_mid{α:Type}(acc l:List α)(x y:α):(acc++x::l).set (eJ acc) y=(acc++[y])++l:=by rw[List.set_append,iN9 (by omega),cj,List.set_cons_zero,List.append_assoc];rfl
theorem oH{α:Type}(acc l:List α)(x:α)(h:eJ acc<eJ (acc++x::l)):(acc++x::l)[eJ acc]=x:=by rw[bt (ar _)];simp
theorem FI(w:tW)(b:Nat)(q:PR)(h:eu w b q)(hl:eJ q.rest<=jz)(wT:tW)(tv:fa)(bs:tLN)(hT:aM 0 wT tv bs az)(mT:aa af wT w)(hbT:wT.heap.size<=b):fS prog 100 #[vP b,tv] w λe w'=>Az w b bs (jU q).2 (jU q).1 e w':=by
 obtain⟨iF,hiF,hzF,hsF,QZ⟩:=oY yj;obtain⟨iN,hiN,hzN,hsN,hbN⟩:=oY Ut;have hb:=au.lt h;have H1:=aq (λw h=>l8 b q w h hl);have l1:=jW q;have hl1:=ab (gX q) hl;have hfp:jU q=(let hd:=headsP (oneP q).1 (aO (gh ((oneP q).1<=16)) (oneP q).2) [] 0 [];let q3:=aO (gh (hd.2.1<=200)) hd.2.2;if q3.bad then([],q3)else codesP hd.1 q3 []):=rfl;simp only at hfp;have abG:ah _:=hfp;clear hfp;generalize oneP q=r1 at *;obtain⟨n,q1⟩:=r1;simp only at *;have hd:gh ((n:Int)<=16)=gh (n<=16):=by simp;omega
 have hl2:eJ (aO (gh (n<=16)) q1).rest<=jz:=hl1;have HQ:ah (∃q2,aO (gh (n<=16)) q1=q2):=⟨_,rfl⟩
 obtain⟨q2,hq2⟩:=HQ.o;rw[hq2]at hl2 abG;have Zh:=aq hq2;clear hq2 HQ;have HFP:=aq abG.o;clear abG;have HT:=aq hT;have Ew:=aq mT;obtain⟨oT,cT,hv,_⟩:=hT.sl.view;subst hv;clear hT mT;go_in;go_wp2_with fail;refine(H1.o _ h).mono ?_;rintro e w1 ⟨rfl,h1,m1⟩;go_wp2_with fail;refine(dx b _ _ _ h1).mono ?_;rintro e w2 ⟨rfl,h2,m2⟩;have hI:sW w b (aO (gh (n<=16)) q1) (vN) (vN) [] w2:=⟨h2,Sl.nil _ _ _,Sl.nil _ _ _,λk hk=>(by cases hk),λk hk=>(by cases hk),m1.trans m2⟩
 rw[Zh.o]at hI;clear h1 h2 m1 m2 hd;have HI0:ah _:=hI;clear hI;go_upto_block 0 with fail;go_cut [5,6,8] (λv vS all wx=>∃(hs:List gL) (tot:Nat) (q3:PR),sW w b q3 v vS hs wx/\headsP n q2 [] 0 []=(hs,tot,q3)/\all=vI tot/\hs.length=n/\tot=JF hs/\tot<=n*65536/\q3.rest.length<=jz)
 case first =>
  go_wp2_with fail;go_loopg [5,6,7,8,19] n (λg v vS last all i wl=>∃(k:Nat) (acc:List gL) (tot:Nat) (r:PR) (nH:tLB),i=vI k/\last=eR (T nH)/\all=vI tot/\sW w b r v vS acc wl/\headsP (n-k) r nH tot acc=headsP n q2 [] 0 []/\k<=n/\g=n-k/\acc.length=k/\tot=JF acc/\tot<=k*65536/\r.rest.length<=jz)
  case atStart=>exact⟨0,[],0,q2,[],rfl,rfl,rfl,HI0.o,rfl,ba _,rfl,rfl,rfl,ba _,hl2⟩
  case round =>
   obtain⟨k,acc,tot,r,nH,rfl,rfl,rfl,hI2,gq,hk,rfl,hal,htot,hbd,hrl⟩:=hrel;have HR:ah _:=gq;have ZR:=aq htot;clear gq HI0 htot;by_cases hkn:k<n
   ·obtain⟨j,hj⟩:∃j,n-k=j+1:=⟨n-k-1,by omega⟩
    have HJ:=aq hj;have jh:headsP j (aO (ltL nH (dV r).1) (jE (dV r).2).2) (dV r).1 (tot+(jE (dV r).2).1) (acc++[⟨(dV r).1,(jE (dV r).2).1⟩])=headsP n q2 [] 0 []:=by rw[<-HR.o,hj];rfl
    clear HR hj;have HN:=aq (λw h=>Ar b r w h hrl);have z1:=ab (uU r) hrl;generalize dV r=p0 at *;obtain⟨nm,r0⟩:=p0;simp only at *;have H2:=aq (λw h=>GR b r0 w h z1);have z2:=ab (zt r0) z1;have y2:=Vr r0;generalize jE r0=p1 at *;obtain⟨sn,r1⟩:=p1;simp only at *;have tH:ah _:=jh;clear jh;have TA:ah (ltL nH nm=Op.bytesLess (T nH).toList (T nm).toList):=rfl;obtain⟨o5,c5,rfl,_⟩:=hI2.sf.view;obtain⟨o6,c6,rfl,_⟩:=hI2.ss.view;subst hal;go_wp2_with fail;refine(HN.o _ hI2.rd).mono ?_;rintro e w3 ⟨rfl,h3,m3⟩;have hI3:=hI2.read h3 m3;have HI3:=aq hI3;clear h3 m3 hI2 hI3;go_wp2_with (at_builtin;go_loud (refine aQ _ rfl (.tmp 22) (.tmp 26) 88 rfl 96 iF (fY #[eR E0,vN]) 2 40 underlying88 hiF hzF hsF QZ rfl (by decide) (eS o5 (eJ acc) c5) (eJ acc) ((acc.map rQ).flatMap nW) rfl (HI3.o.alloc _).sf ⟨w3.heap.size,0,eL⟩ 1 1 [eR (T nm),vN] rfl rfl (bH _ _ _ _ rfl) (ZQ _ _ _ _) (by unfold jz;omega) (by omega) ?_;intro vA wA sA mA lA;have Gr:=aq ((HI3.o.alloc _).app sA mA lA);obtain⟨oA,cA,rfl,_⟩:=Sl.view sA;clear sA mA lA HI3));refine(H2.o _ Gr.o.rd).mono ?_;rintro e w4 ⟨rfl,h4,m4⟩;have hM4:=Gr.o.read h4 m4;have gG:=aq hM4;clear h4 m4 hM4 Gr;go_wp2_with (at_builtin;go_loud (refine aQ _ rfl (.tmp 28) (.tmp 31) 40 rfl 3 iN (vI 0) 1 8 underlying40 hiN hzN hsN hbN rfl (by decide) (eS o6 (eJ acc) c6) (eJ acc) (sU acc) rfl (gG.o.alloc _).ss ⟨w4.heap.size,0,eL⟩ 1 1 [vI sn] rfl rfl (bH _ _ _ _ rfl) (Zc _) (by unfold jz;omega) (by omega) ?_;intro vB wB sB mB lB;have Vs:=aq ((gG.o.alloc _).app sB mB lB);obtain⟨oB,cB,rfl,_⟩:=Sl.view sB;clear sB mB lB gG;obtain⟨gA,kA,gB,kB,eA,eB,x0,x1,_⟩:=Vs.o.at (eJ acc) (by simp);simp only[cN,cW,List.length_nil,Value.slice.injEq]at eA eB;obtain⟨rfl,_,rfl⟩:=eA;obtain⟨rfl,_,rfl⟩:=eB;simp only[bt (ar _),cj,cJ]at x0 x1));refine(dx b _ _ _ Vs.o.rd).mono ?_;rintro e wC ⟨rfl,hC,mC⟩;have hIC:=Vs.o.read hC mC;obtain⟨gA',kA',gB',kB',eA,eB,v0,v1,_⟩:=hIC.at (eJ acc) (by simp);simp only[cN,cW,List.length_nil,Value.slice.injEq]at eA eB;obtain⟨⟨rfl⟩,_,rfl⟩:=eA;obtain⟨⟨rfl⟩,_,rfl⟩:=eB;simp only[bt (ar _),cj,cJ]at v0 v1;have HIC:ah (sW w b (aO (ltL nH nm) r1) (eS (eK ⟨gA,0,eL⟩) (eJ acc+1) cA) (eS (eK ⟨gB,0,eL⟩) (eJ acc+1) cB) (acc++[⟨nm,sn⟩]) wC):=hIC;clear hIC hC mC x0 x1 Vs;go_wp2_with fail;go_roundg (n-(eJ acc+1))
    case measure=>omega
    case rel=>exact⟨eJ acc+1,acc++[⟨nm,sn⟩],tot+sn,aO (ltL nH nm) r1,nm,by go_num,rfl,by go_num,HIC.o,by rw[show n-(eJ acc+1)=j by have:=HJ.o;omega];exact tH.o,by omega,rfl,by simp,by rw[ZR.o];simp[JF],by omega,z2⟩
   ·obtain rfl:k=n:=by omega
    have HE:ah (headsP k q2 [] 0 []=(acc,tot,r)):=by rw[ah,<-HR.o,cj];rfl
    go_wp2_with fail;go_meet;exact⟨acc,tot,r,hI2,HE.o,rfl,hal,ZR.o,hbd,hrl⟩
 case rest =>
 obtain⟨hs,tot,q3,hI,hE,rfl,hal,htot,hbd,hrl⟩:=hcut;subst hal;rw[hE]at HFP;simp only at HFP;have HI:=aq hI;have ZR:=aq htot;clear hE HI0 hI htot;have hd2:gh ((tot:Int)<=200)=gh (tot<=200):=by simp;omega
 go_wp2_with fail;refine(dx b _ _ _ HI.o.rd).mono ?_;rintro e w4 ⟨rfl,h4,m4⟩;have TB:=HI.o.read h4 m4;have hq4:(aO (gh (tot<=200)) q3).bad=fj->tot<=200:=λe=>by simp[aO]at e;omega
 have HQ4:ah _:=hq4;have hr4:eJ (aO (gh (tot<=200)) q3).rest<=jz:=hrl;clear hq4 h4 m4 hd2;generalize aO (gh (tot<=200)) q3=q4 at *;obtain⟨N9,adJ⟩:=q4;have c1:w4.cell? ⟨b,1,eL⟩=eK (fX adJ):=au.cell TB.rd 1;cases adJ with
 |true =>simp only[if_true]at HFP;have HI4:ah _:=TB;clear TB;go_wp2_with fail;go_ret;rw[HFP.o];exact⟨_,[],rfl,HI4.o.rd,⟨rfl,Sl.nil _ _ _,λi h=>absurd h (cH _),λf h=>(by cases h),λk h=>(by cases h),λu h=>(by cases h),λi j h=>absurd h (cH _)⟩,HI4.o.md⟩
 |false =>
  simp only[Bool.false_eq_true,if_false]at HFP;have ht:=HQ4.o rfl;have HS:ah (∀h∈hs,h.slots<=200):=λh hm=>by have:=JG hs h hm;rw[<-ZR.o]at this;omega
  obtain⟨o5,c5,rfl,_⟩:=TB.sf.view;obtain⟨o6,c6,rfl,_⟩:=TB.ss.view;have HFs:=aq (TB.fns bs);have HI4:=aq TB;clear TB;go_wp2_with fail;go_loopg [64] (eJ hs) (λg i wl=>∃(k:Nat) (acc:List bz) (vs:tLV) (r:PR),i=vI k/\pR wl w.heap.size bs (eS o5 (eJ hs) c5) (acc++(hs.drop k).map jF) (vs++List.replicate (eJ hs-k) (vN))/\eu wl b r/\Sl wl 3 1 (eS o6 (eJ hs) c6) (eJ hs) (sU hs)/\aa (Only b) w wl/\codesP (hs.drop k) r acc=codesP hs ⟨N9,fj⟩ []/\k<=eJ hs/\g=eJ hs-k/\acc.length=k/\vs.length=k/\r.rest.length<=jz)
  case atStart=>exact⟨0,[],[],⟨N9,fj⟩,rfl,HFs.o,HI4.o.rd,HI4.o.ss,HI4.o.md,rfl,ba _,rfl,rfl,rfl,hr4⟩
  case round =>
   obtain⟨k,acc,vs,r,rfl,hF,hR,hSS,hM,hcp,hk,rfl,hal,hvl,hrl2⟩:=hrel;have HF:=aq hF;have HR:=aq hR;have HSS:=aq hSS;have HM:=aq hM;have HCp:=aq hcp;clear hF hR hSS hM hcp HFs HI4;by_cases hkn:k<eJ hs
   ·obtain⟨gS,rfl,cS⟩:=HSS.o.at rfl k hkn;have y1:=cS k hkn;have e1:(sU hs)[k]?=eK (vI (hs[k].slots:Nat)):=by simp[sU,hkn]
    rw[e1]at y1;have hsl:=HS.o hs[k] (ao hkn);obtain⟨hdk,hdt⟩:∃x,hs.drop k=x::hs.drop (k+1)/\x=hs[k]:=⟨_,b5 hkn,rfl⟩
    obtain⟨hdr,hdx⟩:=hdt;rw[<-hdx]at y1 hsl;obtain⟨nm,sn⟩:=hdk;simp only at y1 hsl;have hF3:=HF.o;rw[hdr,show eJ hs-k=(eJ hs-(k+1))+1 by omega,List.replicate_succ,List.map_cons]at hF3;have TD:codesP (hs.drop (k+1)) (codeP (dK (sn*8) r).1 (dK (sn*8) r).2).2 (acc++[⟨nm,(codeP (dK (sn*8) r).1 (dK (sn*8) r).2).1⟩])=codesP hs ⟨N9,fj⟩ []:=by rw[<-HCp.o,hdr];rfl
    clear HF HCp e1 cS hdr hdx;have HTk:ah (∀w,eu w b r->fS prog 97 #[vP b,vI ((sn:Int)*8)] w λe w'=>e=fW (eR (T (dK (sn*8) r).1))/\eu w' b (dK (sn*8) r).2/\aa (Only b) w w'):=λw h=>by rw[show((sn:Int)*8)=((sn*8:Nat):Int) by omega];exact qd b r (sn*8) w h hrl2 (by unfold jz;omega)
    have htl:=N8 (sn*8) r;have htr:=ab (take_len (sn*8) r) hrl2;generalize dK (sn*8) r=tk at *;obtain⟨tl,rk⟩:=tk;simp only at *;have HCd:=aq (λw5 (h5:eu w5 b rk) (m5:aa (Only b) w w5)=>code_any w5 b rk h5 wT _ bs HT.o (Ew.o.step m5 (λi hi e=>by have:i=b:=e;omega)) hbT tl (by omega));have hcr:(codeP tl rk).2.rest=rk.rest:=by unfold codeP;split<;>rfl
    rw[<-hcr]at htr;generalize codeP tl rk=ck at *;obtain⟨code,rc⟩:=ck;simp only at *;have Yz:=aq hF3;have Q0:ah _:=TD;clear hF3 TD hcr;obtain⟨o5',c5',e5,f5⟩:=Yz.o.sl.view;have hfl:eJ (acc++jF ⟨nm,sn⟩::(hs.drop (k+1)).map jF)=eJ hs:=by simp;omega
    rw[hfl]at e5 f5;cases e5;obtain⟨g,csg,rfl,_⟩:=f5 (by omega);have HFl:=aq hfl;clear f5 hfl;subst hal;go_wp2_with fail;refine(HTk.o _ HR.o).mono ?_;rintro e w5 ⟨rfl,h5,m5⟩;have HF5:ah _:=Yz.o.read HR.o m5;have IB:=aq (HSS.o.ai m5 (λk hk e=>HSS.o.aA HR.o (by decide) (hk.trans (congrArg eK e))));have jo:=aq (HM.o.trans m5);have hsz5:=m5.size;clear m5 HSS HM HR;go_wp2_with fail;refine(HCd.o _ h5 jo.o).mono ?_;rintro e w6 ⟨vc,rfl,h6,s6,abH,m6,ok6⟩;obtain⟨oc,cc,rfl,_⟩:=s6.view;have hF6:=HF5.o.read h5 m6;have NR:=aq (IB.o.ai m6 (λk hk e=>IB.o.aA h5 (by decide) (hk.trans (congrArg eK e))));have xW:=aq (jo.o.trans m6);obtain⟨csg,hbg,hsb⟩:=(show Sl w6 96 2 (eS (eK ⟨g,0,eL⟩) (eJ hs) c5) (eJ hs) _ from HFl.o ▸ hF6.sl).blk
    obtain⟨y3,hy3⟩:∃y3,w6.cell? ⟨g,eJ acc*2+1,eL⟩=eK y3:=by
     rw[hbg.cell,hsb.get _ (by omega)];have hz:eJ acc<(((acc++jF ⟨nm,sn⟩::(hs.drop (eJ acc+1)).map jF).map (·.name)).zip (vs++vN::List.replicate (eJ hs-(eJ acc+1)) (vN))).length:=by simp;omega
     rw[flat_get nW 2 (λ_=>rfl) _ (eJ acc) 1 hz (by omega)];exact⟨_,rfl⟩
    have fy3:=hbg.frozen (eJ acc*2+1);have hmd:=λ(h':eJ acc<(acc++jF ⟨nm,sn⟩::(hs.drop (eJ acc+1)).map jF).length)=>oH _ _ _ h';have hput:=hF6.put (eJ acc) (by simp) HFl.o.symm oc (eJ code) cc code rfl s6 ok6 (λk hk=>ab jo.o.size (abH k hk)) (λu hu k hk e=>by obtain⟨i,hi,rfl⟩:=List.getElem_of_mem hu;have h1:=(HF5.o.cd i (by rw[<-HF5.o.len];exact hi) hi).lt k hk;have h2:=abH k e;omega);rw[hmd,set_mid]at hput;rw[show eJ acc=eJ vs by omega,set_mid]at hput;rw[hvl]at hput;have afu:=aq hput;have afv:ah (eu (w6.setCell ⟨g,eJ acc*2+1,eL⟩ (eS oc (eJ code) cc)) b rc):=au.setOther h6 (λe=>by simp only at e;subst e;unfold eu au at h6;unfold au at hbg;rw[h6]at hbg;cases hbg) _;have afw:ah (Sl (w6.setCell ⟨g,eJ acc*2+1,eL⟩ (eS oc (eJ code) cc)) 3 1 (eS (eK ⟨gS,0,eL⟩) (eJ hs) c6) (eJ hs) (sU hs)):=NR.o.ai ((aa.refl (Only g) w6).bA _ _) (λk hk e=>NR.o.aA hbg (by decide) (hk.trans (congrArg eK e)));have afx:ah (aa (Only b) w (w6.setCell ⟨g,eJ acc*2+1,eL⟩ (eS oc (eJ code) cc))):=xW.o.set (.inr (hF6.own g rfl)) _;clear hput hF6 NR xW h6 s6 abH m6 ok6 hbg hsb hmd HF5 IB jo h5;go_wp2_with fail;go_roundg (eJ hs-(eJ acc+1))
    case measure=>omega
    case rel=>exact⟨eJ acc+1,acc++[⟨nm,code⟩],vs++[eS oc (eJ code) cc],rc,by go_num,afu.o,afv.o,afw.o,afx.o,Q0.o,by omega,rfl,by simp,by simp[hvl],htr⟩
   ·obtain rfl:k=eJ hs:=by omega
    have HE:ah (codesP hs ⟨N9,fj⟩ []=(acc,r)):=by rw[ah,<-HCp.o,cD];rfl
    have hF2:=HF.o;rw[cD,cj]at hF2;simp only[List.map_nil,List.append_nil,List.replicate_zero]at hF2;have HF2:ah _:=hF2;clear hF2;go_wp2_with fail;go_ret;rw[HFP.o,HE.o];exact⟨_,vs,rfl,HR.o,HF2.o,HM.o⟩
theorem kG(w:tW)(b:Nat)(o:fO)(hA:dO w b o)(d:Int)(s:Nat)(num high jump:Int)(label name:tBA):fS prog 84 #[fY #[vP b,vB d,vB s,.int .i16 jump,vJ num,vJ high,eR label,eR name]] w λe w'=>e=fW (vI ((if s=1 then o.bD else 0:Nat):Int))/\aa af w w':=by
 have hA1:=(hA.ai (ax.alloc (fL #[vP b,vB d,vB s,.int .i16 jump,vJ num,vJ high,eR label,eR name] 138))).cells;obtain⟨_,_,_,z5⟩:=hA1;generalize o.bD=rf at *;by_cases h1:s=1
 ·subst h1;simp only[Int.cast_ofNat_Int]at *;go_in;go_wp2_with fail;go_ret;exact⟨rfl,aw⟩
 ·have h2:¬((s:Int)=1):=by omega
  go_in;go_wp2_with fail;go_ret;exact⟨rfl,aw⟩
theorem ZS(b:Nat)(q:PR)(n slot:Nat)(w:tW)(h:eu w b q)(hl:eJ q.rest<=jz):fS prog 264 #[vP b,vI n,vI slot] w λe w'=>e=fW (eR (T (Ak n slot q).1))/\eu w' b (Ak n slot q).2/\aa (Only b) w w':=by
 have H1:=aq (λw h=>l8 b q w h hl);have hl1:=ab (gX q) hl;have Yu:Ak n slot q=dV (aO (gh ((jE (aO (gh ((oneP q).1=n)) (oneP q).2)).1=slot)) (jE (aO (gh ((oneP q).1=n)) (oneP q).2)).2):=rfl;rw[Yu];clear Yu;generalize oneP q=r1 at *;obtain⟨a,q1⟩:=r1;simp only at *;have hl2:eJ (aO (gh (a=n)) q1).rest<=jz:=hl1;have hd:((a:Int)==(n:Int))=gh (a=n):=by rw[Bool.eq_iff_iff];simp;omega
 obtain⟨q2,hq2⟩:∃q2,aO (gh (a=n)) q1=q2:=⟨_,rfl⟩
 rw[hq2]at hl2 ⊢;have Zh:=aq hq2;clear hq2;have H2:=aq (λw h=>GR b q2 w h hl2);have hl3:=ab (zt q2) hl2;generalize jE q2=r2 at *;obtain⟨c,q3⟩:=r2;simp only at *;have hl4:eJ (aO (gh (c=slot)) q3).rest<=jz:=hl3;have hd2:((c:Int)==(slot:Int))=gh (c=slot):=by rw[Bool.eq_iff_iff];simp;omega
 obtain⟨q4,hq4⟩:∃q4,aO (gh (c=slot)) q3=q4:=⟨_,rfl⟩
 rw[hq4]at hl4 ⊢;have HQ4:=aq hq4;clear hq4;have H4:=aq (λw h=>Ar b q4 w h hl4);generalize dV q4=r4 at *;obtain⟨nm,q5⟩:=r4;simp only at *;go_in;go_wp2_with fail;refine(H1.o _ h).mono ?_;rintro e w1 ⟨rfl,h1,m1⟩;go_wp2_with fail;refine(dx b _ _ _ h1).mono ?_;rintro e w2 ⟨rfl,h2,m2⟩;rw[Zh.o]at h2;go_wp2_with fail;refine(H2.o _ h2).mono ?_;rintro e w3 ⟨rfl,h3,m3⟩;go_wp2_with fail;refine(dx b _ _ _ h3).mono ?_;rintro e w4 ⟨rfl,h4,m4⟩;rw[HQ4.o]at h4;go_wp2_with fail;refine(H4.o _ h4).mono ?_;rintro e w5 ⟨rfl,h5,m5⟩;go_wp2_with fail;go_ret;exact⟨rfl,h5,(((m1.trans m2).trans m3).trans m4).trans m5⟩
theorem Oa{w:tW}{ms:List aB}{v:fa}{n:Nat}(h:Sl w 100 4 v n (ms.flatMap aB.cells))(hn:n=eJ ms){o:Option Addr}{c:Nat}(hv:v=eS o n c)(k:Nat)(hk:k<eJ ms):∃g,o=eK ⟨g,0,eL⟩/\w.cell? ⟨g,k*4,eL⟩=eK (eR (T ms[k].name))/\w.cell? ⟨g,k*4+1,eL⟩=eK (vB ms[k].key)/\w.cell? ⟨g,k*4+2,eL⟩=eK (vB ms[k].value)/\w.cell? ⟨g,k*4+3,eL⟩=eK (vB ms[k].entries):=by
 obtain⟨o',c',hv',h2⟩:=h.view;rw[hv]at hv';cases hv';obtain⟨g,cs,rfl,hb,ht,_⟩:=h2 (by omega);have key:∀j,j<4->w.cell? ⟨g,k*4+j,eL⟩=(aB.cells ms[k])[j]?:=λj hj=>by rw[hb.cell (k*4+j),<-Array.getElem?_toList,<-List.getElem?_take_of_lt (show k*4+j<n*4 by omega),ht];exact flat_get aB.cells 4 (λ_=>rfl) ms k j hk hj
 exact⟨g,rfl,key 0 (by omega),key 1 (by omega),key 2 (by omega),key 3 (by omega)⟩
theorem Md(w:tW)(ms:List aB)(hm:eJ ms<=1000)(vM:fa)(hM:Sl w 100 4 vM (eJ ms) (ms.flatMap aB.cells))(nm:tLB):fS prog 265 #[vM,eR (T nm)] w λe w'=>e=fW (fX (jd ms nm))/\aa af w w':=by
 obtain⟨oM,cM,rfl,_⟩:=hM.view;have HM:=aq hM;clear hM;go_in;go_wp2_with fail;go_loopw [9] (λi wl=>∃k:Nat,k<=eJ ms/\i=vI k/\jd (ms.drop k) nm=jd ms nm/\aa af w wl) (λi _=>eJ ms-(intOf i).toNat)
 case atStart=>exact⟨0,ba _,rfl,rfl,ax⟩
 case round =>
  obtain⟨k,hk,rfl,hn,hMd⟩:=hrel;have HN:ah _:=hn;have fK:=aq hMd;clear hn hMd;by_cases hlt:k<eJ ms
  ·obtain⟨g,rfl,q0,q1,q2,q3⟩:=Oa (HM.o.ai fK.o (λ_ _=>id)) rfl rfl k hlt;have HD:ah (jd ms nm=((ms[k].name==nm)||jd (ms.drop (k+1)) nm)):=by rw[ah,<-HN.o,b5 hlt];rfl
   generalize ms[k].name=mn at *;generalize ms[k].key=mk at *;generalize ms[k].value=mv at *;generalize ms[k].entries=me at *;by_cases he:mn=nm
   ·subst he;have HF:ah (jd ms mn=fR):=by rw[ah,HD.o];simp
    go_wp2_with fail;go_ret;exact⟨by rw[HF.o];rfl,fK.o.alloc _⟩
   ·have HF:ah (jd (ms.drop (k+1)) nm=jd ms nm):=by rw[ah,HD.o,beq_false_of_ne he];simp
    have hne:((T mn).toList==(T nm).toList)=fj:=tY λe=>he (congrArg BL e);go_wp2_with fail;go_roundw
    case rel=>exact⟨k+1,by omega,by go_num,HF.o,fK.o.alloc _⟩
    case measure=>simp[intOf];omega
  ·obtain rfl:k=eJ ms:=by omega
   have HF:ah (jd ms nm=fj):=by rw[ah,<-HN.o,cD];rfl
   go_wp2_with fail;go_ret;exact⟨by rw[HF.o];rfl,fK.o⟩
theorem gy{P:Program}{id:Nat}{Q:Exit->Act->tW->Prop}{a:Act}{w:tW}{l:List Oper}(hm:P.follows .mixedOrders=fR)(hB:Region.lexB .any l.toArray=fR)(h:∀W,W=w.drew->wpQuiet P l.toArray (λw'=>w'=W) (λa'=>Q .normal a' W) l a):(Code.region id l.toArray fR).wp P Q a w :=
 wp_region_still_lit hm hB (jO _ _ (h _ rfl))
structure WK where
 maps:List tLB:=[]
 funcs:List tLB:=[]
 labels:List tLB:=[]
 slots:Nat:=0
def rR(f:tK)(x:tLB):Bool:=(gK f.bX x).isSome&&gh ((gK f.bX x).getD 0<f.slots)
def qg(k:WK)(x:fE):Nat:=if kD (x.ns.getD 0 aF) (x.ns.getD 1 aF) (x.ns.getD 2 aF)=fj then 3 else if 0<k.maps.count x.name then 4 else if 8<eJ k.maps+1 then 1 else 0
def uV(k:WK)(x:fE):WK:={k with maps:=x.name::k.maps}
def nJ(o:OL)(k:WK)(x:fE):Nat:=if 0<k.funcs.count x.name then 4 else if 16<eJ k.funcs+1 then 1 else if(o.fs.getD (eJ k.funcs) {}).ends=fj then 6 else 0
def je(k:WK)(x:fE):WK:={k with funcs:=x.name::k.funcs,labels:=[]}
def wz(k:WK)(x:fE):Nat:=if 0<k.labels.count x.name then 4 else 0
def qh(k:WK)(x:fE):WK:={k with labels:=x.name::k.labels}
def rT(o:OL)(k:WK)(x:fE):Nat :=
 if x.x.fits=fj then 3
 else if(x.x.o.jumps&&!rR (o.fs.getD (eJ k.funcs-1) {}) x.x.r.label)=fR then 5
 else if(gh ((if x.x.r.s=1 then x.x.o.bD else 0)=2)&&gh (o.maps.count x.x.r.name=0))=fR then 5
 else if 200<k.slots+x.x.o.slots then 1 else 0
def iq(k:WK)(x:fE):WK:={k with slots:=k.slots+x.x.o.slots}
def eG(o:OL)(k:WK)(x:fE):Nat:=if x.kind=1 then qg k x else if x.kind=2 then nJ o k x else if x.kind=3 then wz k x else if x.kind=4 then rT o k x else 0
def jk(k:WK)(x:fE):WK:=if x.kind=1 then uV k x else if x.kind=2 then je k x else if x.kind=3 then qh k x else if x.kind=4 then iq k x else k
structure gp(w0:tW)(b bm:Nat)(vF:fa)(bM bF:Nat)(vL:fa)(k:WK)(w:tW):Prop where
 blk:au w b #[kq (eK bm),vF,kq (eK bM),kq (eK bF),vL,vI ((eJ k.funcs:Int)-1),vI k.slots] 168
 ms:ed w bM k.maps
 fs:ed w bF k.funcs
 vl:∃q,vL=kq q
 ls:k.funcs≠[]->∃bL,vL=kq (eK bL)/\ed w bL k.labels/\bL≠bM/\bL≠bF/\w0.heap.size<=bL
 ne:bM≠bF
 lo:w0.heap.size<=b/\w0.heap.size<=bM/\w0.heap.size<=bF
 md:aa af w0 w
section
variable {w0 w w' : World} {b bm bM bF : Nat} {vF vL : fa} {k : WK}
theorem gp.quiet(h:gp w0 b bm vF bM bF vL k w)(m:aa af w w'):gp w0 b bm vF bM bF vL k w' :=
 ⟨h.blk.ai m id,h.ms.ai m id,h.fs.ai m id,h.vl,λhn=>by obtain⟨bL,h1,h2,h3⟩:=h.ls hn;exact⟨bL,h1,h2.ai m id,h3⟩,h.ne,h.lo,h.md.trans m⟩
theorem gp.map{x:fE}(h:gp w0 b bm vF bM bF vL k w)(hc:ed w' bM (x.name::k.maps))(m:aa (λi=>i=bM) w w'):gp w0 b bm vF bM bF vL (uV k x) w' :=
 ⟨h.blk.ai m (λe=>h.ms.aA h.blk e),hc,h.fs.ai m (λe=>h.ne e.symm),h.vl,λhn=>by obtain⟨bL,h1,h2,h3,h4⟩:=h.ls hn;exact⟨bL,h1,h2.ai m (λe=>h3 e),h3,h4⟩,h.ne,h.lo,h.md.step m (λi hi e=>by have:=h.lo.2.1;have e':=e;omega)⟩
theorem gp.lab{x:fE}{bL:Nat}(h:gp w0 b bm vF bM bF (kq (eK bL)) k w)(hn:k.funcs≠[])(hc:ed w' bL (x.name::k.labels))(m:aa (λi=>i=bL) w w'):gp w0 b bm vF bM bF (kq (eK bL)) (qh k x) w':=by obtain⟨bL',h1,h2,h3,h4,h5⟩:=h.ls hn;injection h1 with h1;injection h1 with h1;subst h1;exact⟨h.blk.ai m (λe=>h2.aA h.blk e),h.ms.ai m (λe=>h3 e.symm),h.fs.ai m (λe=>h4 e.symm),h.vl,λ_=>⟨_,rfl,hc,h3,h4,h5⟩,h.ne,h.lo,h.md.step m (λi hi e=>by have e':=e;omega)⟩
theorem gp.code{x:fE}{n:Int}(h:gp w0 b bm vF bM bF vL k w)(hn:n=(k.slots:Int)+x.x.o.slots):gp w0 b bm vF bM bF vL (iq k x) (w.setCell ⟨b,6,eL⟩ (vI n)):=by
 have m:aa (Only b) w (w.setCell ⟨b,6,eL⟩ (vI n)):=ax.bA _ _;refine⟨?_,h.ms.ai m (λe=>h.ms.aA h.blk (show _=b from e).symm),h.fs.ai m (λe=>h.fs.aA h.blk (show _=b from e).symm),h.vl,λhn=>?_,h.ne,h.lo,h.md.step m (λi hi e=>by have e':i=b:=e;have:=h.lo.1;omega)⟩
 ·subst hn;exact h.blk.set 6 _
 ·obtain⟨bL,h1,h2,h3⟩:=h.ls hn;exact⟨bL,h1,h2.ai m (λe=>h2.aA h.blk (show _=b from e).symm),h3⟩
theorem gp.func{x:fE}{n:Int}(h:gp w0 b bm vF bM bF vL k w)(hc:ed w' bF (x.name::k.funcs))(m:aa (λi=>i=bF) w w')(hn:n=eJ k.funcs):gp w0 b bm vF bM bF (kq (eK w'.heap.size)) (je k x) (((w'.alloc (lz #[] 0)).setCell ⟨b,4,eL⟩ (kq (eK w'.heap.size))).setCell ⟨b,5,eL⟩ (vI n)):=by
 have hb':=h.blk.ai m (λe=>h.fs.aA h.blk e);have hM':=h.ms.ai m (λe=>h.ne e);have m1:aa af w' (w'.alloc (lz #[] 0)):=aw;have m2:aa (Only b) (w'.alloc (lz #[] 0)) (((w'.alloc (lz #[] 0)).setCell ⟨b,4,eL⟩ (kq (eK w'.heap.size))).setCell ⟨b,5,eL⟩ (vI n)):=(ax.bA _ _).bA _ _;have hb1:=hb'.ai m1 id;have hs:=m.size;have h0:=h.md.size;have hMl:=hM'.lt;have hFl:=hc.lt;refine⟨?_,(hM'.ai m1 id).ai m2 (λe=>(hM'.ai m1 id).aA hb1 (show _=b from e).symm),(hc.ai m1 id).ai m2 (λe=>(hc.ai m1 id).aA hb1 (show _=b from e).symm),⟨_,rfl⟩,λ_=>⟨_,rfl,?_,by omega,by omega,by omega⟩,h.ne,h.lo,((h.md.step m (λi hi e=>by have e':=e;have:=h.lo.2.2;omega)).trans m1).step m2 (λi hi e=>by have e':i=b:=e;have:=h.lo.1;omega)⟩
 ·have:=(hb1.set 4 (kq (eK w'.heap.size))).set 5 (vI n);have e:(eJ (je k x).funcs:Int)-1=n:=by rw[hn];simp[je]
  rw[e];exact this
 ·have hl:=ed.new w';exact hl.ai m2 (λe=>hl.aA hb1 (show _=b from e).symm)
end
theorem Vt(w0 w:tW)(b bm bM bF:Nat)(vF vL:fa)(k:WK)(bs:tLN)(x:fE)(h:gp w0 b bm vF bM bF vL k w)(hv:∃o n c,vF=eS o n c)(hx:x.kind=1)(hl:eJ k.maps<=1000001)(hnd:k.maps.Nodup):fS prog 144 #[vP b,fY (x.cells bs)] w λe w'=>e=fW (vI (qg k x))/\gp w0 b bm vF bM bF vL (uV k x) w':=by
 have HFT:ah (∀w',fS prog 256 #[fY (x.cells bs)] w' λe w''=>e=fW (fX (kD (x.ns.getD 0 aF) (x.ns.getD 1 aF) (x.ns.getD 2 aF)))/\aa af w' w''):=λw'=>by rw[fE.cells,iN9 (by omega)];exact ZF _ _ _ _ _ w'
 have HF:ah (qg k x=if kD (x.ns.getD 0 aF) (x.ns.getD 1 aF) (x.ns.getD 2 aF)=fj then 3 else if 0<k.maps.count x.name then 4 else if 8<eJ k.maps+1 then 1 else 0):=rfl;have jI:=aq (gV bs x);have Bk:=aq (cells_one bs x);have Iz:=aq (nD bs x (by omega))
 have Yp:ah (∀W,ed W bM (x.name::k.maps)->0<k.maps.count x.name\/(Builtin.len_ #[105] 3 #[kq (eK bM)]).run prog W=.ok (vI ((eJ k.maps+1:Nat):Int)) W):=λW hW=>by
  by_cases e:0<k.maps.count x.name
  ·exact .inl e
  ·exact .inr (hW.size (List.nodup_cons.2 ⟨λhm=>e (List.count_pos_iff.2 hm),hnd⟩))
 have LM:ah (∀W,ed W bM (x.name::k.maps)->(Instr.lookup 105 (kq (eK bM)) (eR (T x.name)) fj).run prog W=.ok (vI ((k.maps.count x.name+1:Nat):Int)) W):=λW hW=>by
  have:=hW.look x.name
  rwa [cq]at this
 have hcn:k.maps.count x.name<=1000001:=ab cw hl;have YA:=aq h;obtain⟨vo,vn,vc,rfl⟩:=hv;obtain⟨vq,rfl⟩:=h.vl;clear h hx hnd;generalize qg k x=r at *;generalize kD (x.ns.getD 0 aF) (x.ns.getD 1 aF) (x.ns.getD 2 aF)=sf at *;generalize x.cells bs=cs at *;have K1:ah (aa af w (w.alloc (fL cs 160))):=aw;have GV:=aq (au.new w cs 160);have HW1:=aq (YA.o.quiet K1.o);go_in;go_upto_region 1 with fail;generalize w.alloc (fL cs 160)=w1 at *;generalize w.heap.size=B at *;have fK:ah (aa af w1 w1.drew):=aN;refine bK 8 (by kernel_rfl) (by kernel_rfl) ?_;intro W hW;rw[<-hW]at fK;clear hW;have HW2:=aq (HW1.o.quiet fK.o);have HB2:=aq (GV.o.ai fK.o id);have c1:=(HB2.o.cell 1).trans Iz.o;have b2:=HW2.o.blk.c2;have hlk:=HW2.o.ms.look x.name;obtain⟨w5,Yy,QT,m5⟩:=HW2.o.ms.put x.name;have sQ:=aq (HW2.o.map QT m5);have ji:=aq (HB2.o.ai m5 (λe=>HW2.o.ms.aA HB2.o e));have HC5:=aq QT;clear QT m5 YA HW1 GV K1;generalize k.maps.count x.name=cn at *;simp only[bh,b9,bj,cx]
 repeat(go_big_quiet_step (fail))
 refine mS ?_;clear hlk c1 b2 HW2 HB2 fK;go_wp2_with (refine rl rfl 160 (.tmp 3) rfl B rfl 160 cs (0,0) _ ji.o underlying160 rfl (by rw[jI.o];kernel_rfl) ?_);refine(HFT.o _).mono ?_;rintro e w6 ⟨rfl,m6⟩;have mV:=aq (sQ.o.quiet m6);have pT:=aq (ji.o.ai m6 id);clear m6 sQ ji HC5 Yy;cases sf with
 |false =>
  have HR:ah (r=3):=by rw[ah,HF.o,iP9 rfl]
  go_wp2_with fail;go_ret;exact⟨dD (by rw[HR.o];rfl),mV.o⟩
 |true =>
  go_upto_region 4 with fail;have fK:ah (aa af w6 w6.drew):=aN;refine gy (by kernel_rfl) (by kernel_rfl) ?_;intro W7 hW7;rw[<-hW7]at fK;clear hW7;have tJ:=aq (mV.o.quiet fK.o);have c1:=((pT.o.ai fK.o id).cell 1).trans Iz.o;have b2:=tJ.o.blk.c2;have hlk:=LM.o W7 tJ.o.ms;have zZ:=Yp.o W7 tJ.o.ms;clear fK mV pT;by_cases h0:0<cn
  ·have HR:ah (r=4):=by rw[ah,HF.o,iN9 (by decide),iP9 h0]
   have hq:((1:Int)<((cn+1:Nat):Int)):=by omega
   repeat(go_big_quiet_step (fail))
   refine mS ?_;go_wp2_with fail;go_ret;exact⟨dD (by rw[HR.o];rfl),tJ.o⟩
  ·have hc0:cn=0:=by omega
   subst hc0;have hle:=zZ.resolve_left h0;have HR:ah (r=if 8<eJ k.maps+1 then 1 else 0):=by rw[ah,HF.o,iN9 (by decide),iN9 h0]
   clear zZ;generalize eJ k.maps=ml at *;by_cases h8:8<ml+1
   ·have jh:ah (r=1):=by rw[ah,HR.o,iP9 h8]
    have hq:(8:Int)<((ml+1:Nat):Int):=by omega
    repeat(go_big_quiet_step (fail))
    refine mS ?_;go_wp2_with fail;go_ret;exact⟨dD (by rw[jh.o];rfl),tJ.o⟩
   ·have jh:ah (r=0):=by rw[ah,HR.o,iN9 h8]
    have hq:¬(8:Int)<((ml+1:Nat):Int):=by omega
    repeat(go_big_quiet_step (fail))
    refine mS ?_;go_wp2_with fail;go_ret;exact⟨dD (by rw[jh.o];rfl),tJ.o⟩
theorem dZ.jM{w0 w:tW}{bm:Nat}{oF:Option Addr}{nF cF:Nat}{lb:tLN}{o:OL}(h:dZ w0 bm (eS oF nF cF) lb o w)(i:Nat)(hi:i<eJ o.fs):∃g,oF=eK ⟨g,0,eL⟩/\nF=eJ o.fs/\o.fs.length<=cF/\∀w',aa af w w'->∀j (hj:j<(j9 (lb[i]?.getD 0) o.fs[i]).toArray.size),w'.cell? ⟨g,i*3+j,eL⟩=eK (j9 (lb[i]?.getD 0) o.fs[i]).toArray[j]:=by
 obtain⟨o',c',hv,hb⟩:=h.sl.view;injection hv with e1 e2 e3;subst e1 e3;obtain⟨g,cs,rfl,hb,ht,hc,_⟩:=hb (by omega);refine⟨g,rfl,e2,hc,λw' m j hj=>?_⟩;have hz:i<eJ (lb.zip o.fs):=by rw[List.length_zip,h.len];omega
 have hj':j<3:=hj;have hlb:i<eJ lb:=by rw[h.len];exact hi
 rw[aV (hb.ai m id) ht (i*3+j) (by omega),iX,flat_get (λx:Nat×tK=>j9 x.1 x.2) 3 (λ_=>rfl) (lb.zip o.fs) i j hz hj'];rw[List.getElem_zip,List.getElem?_eq_getElem hlb];simp only[cY,List.getElem_toArray];rw[List.getElem?_eq_getElem]
theorem Q1(wO w0 w:tW)(b bm bM bF:Nat)(vF vL:fa)(lb:tLN)(o:OL)(k:WK)(bs:tLN)(x:fE)(hO:dZ wO bm vF lb o w0)(h:gp w0 b bm vF bM bF vL k w)(hx:x.kind=2)(hl:eJ k.funcs<eJ o.fs)(hl2:eJ o.fs<=1000001)(hnd:k.funcs.Nodup):fS prog 145 #[vP b,fY (x.cells bs)] w λe w'=>e=fW (vI (nJ o k x))/\∃zT,gp w0 b bm vF bM bF zT (je k x) w':=by
 have HF:ah (nJ o k x=if 0<k.funcs.count x.name then 4 else if 16<eJ k.funcs+1 then 1 else if(o.fs.getD (eJ k.funcs) {}).ends=fj then 6 else 0):=rfl;have HGD:ah (o.fs.getD (eJ k.funcs) {}=o.fs[eJ k.funcs]):=by rw[ah,List.getD_eq_getElem?_getD,List.getElem?_eq_getElem hl];rfl
 have jI:=aq (gV bs x);have Bk:=aq (cells_one bs x);have Iz:=aq (nD bs x (by omega))
 have Yp:ah (∀W,ed W bF (x.name::k.funcs)->0<k.funcs.count x.name\/(Builtin.len_ #[105] 3 #[kq (eK bF)]).run prog W=.ok (vI ((eJ k.funcs+1:Nat):Int)) W):=λW hW=>by
  by_cases e:0<k.funcs.count x.name
  ·exact .inl e
  ·exact .inr (hW.size (List.nodup_cons.2 ⟨λhm=>e (List.count_pos_iff.2 hm),hnd⟩))
 have LM:ah (∀W,ed W bF (x.name::k.funcs)->(Instr.lookup 105 (kq (eK bF)) (eR (T x.name)) fj).run prog W=.ok (vI ((k.funcs.count x.name+1:Nat):Int)) W):=λW hW=>by
  have:=hW.look x.name
  rwa [cq]at this
 have hcn:k.funcs.count x.name<=1000001:=ab cw (by omega);have YA:=aq h;obtain⟨vo,vc,kC,_⟩:=hO.sl.view;subst kC;obtain⟨g,rfl,_,hvc,hrow⟩:=hO.jM _ hl;obtain⟨vq,rfl⟩:=h.vl;have HE:ah (∀W,aa af w0 W->W.cell? ⟨g,eJ k.funcs*3+1,eL⟩=eK (fX (o.fs.getD (eJ k.funcs) {}).ends)):=λW m=>by rw[HGD.o];exact hrow W m 1 (by show 1<3;decide)
 have LK:ah ((eJ (je k x).funcs:Int)-1=(eJ k.funcs:Int)):=by rw[ah];simp[je]
 clear h hx hnd hO hrow HGD;generalize nJ o k x=r at *;generalize(o.fs.getD (eJ k.funcs) {}).ends=en at *;generalize eJ o.fs=nF at *;generalize x.cells bs=cs at *;have K1:ah (aa af w (w.alloc (fL cs 160))):=aw;have GV:=aq (au.new w cs 160);have HW1:=aq (YA.o.quiet K1.o);go_in;go_upto_region 1 with fail;generalize w.alloc (fL cs 160)=w1 at *;generalize w.heap.size=B at *;have fK:ah (aa af w1 w1.drew):=aN;refine bK 8 (by kernel_rfl) (by kernel_rfl) ?_;intro W hW;rw[<-hW]at fK;clear hW;have HW2:=aq (HW1.o.quiet fK.o);have HB2:=aq (GV.o.ai fK.o id);have c1:=(HB2.o.cell 1).trans Iz.o;have b3:=HW2.o.blk.c3;have hlk:=HW2.o.fs.look x.name;obtain⟨w5,Yy,QT,m5⟩:=HW2.o.fs.put x.name;have HW8:=aq (HW2.o.func QT m5 rfl);have hb5:=HW2.o.blk.ai m5 (λe=>HW2.o.fs.aA HW2.o.blk e);have ji:=aq (HB2.o.ai m5 (λe=>HW2.o.fs.aA HB2.o e));have hbA:=hb5.alloc (lz #[] 0);have hbS:=hbA.set 4 (kq (eK w5.heap.size));have e4:=hbA.cell 4;have e5:=hbA.cell 5;have ef:=hbA.frozen;have e5':=hbS.cell 5;have ef':=hbS.frozen;have HBb:ah (B≠b):=λe=>ji.o.apart hb5 (by decide) e;have Vu:ah (au (((w5.alloc (lz #[] 0)).setCell ⟨b,4,eL⟩ (kq (eK w5.heap.size))).setCell ⟨b,5,eL⟩ (vI (eJ k.funcs))) B cs 160):=((ji.o.alloc _).setOther (a:=⟨b,4,eL⟩) HBb.o.symm _).setOther (a:=⟨b,5,eL⟩) HBb.o.symm _;have hmm:=@run_makeMap prog;have hi5:(eJ k.funcs:Int)-1+1=eJ k.funcs:=by omega
 clear QT m5 YA HW1 GV K1 hb5 hbA hbS;generalize hcn':k.funcs.count x.name=cn at *;generalize hfl:eJ k.funcs=fl at *;simp only[bh,b9,bj,cx]
 repeat(go_big_quiet_step (fail))
 refine mS ?_;clear hlk c1 b3 HW2 HB2 fK;go_upto_region 4 with fail;generalize((w5.alloc (lz #[] 0)).setCell ⟨b,4,eL⟩ (kq (eK w5.heap.size))).setCell ⟨b,5,eL⟩ (vI (fl:Int))=w8 at *;generalize w5.heap.size=bL at *;have fK:ah (aa af w8 w8.drew):=aN;refine gy (by kernel_rfl) (by kernel_rfl) ?_;intro W7 hW7;rw[<-hW7]at fK;clear hW7;have tJ:=aq (HW8.o.quiet fK.o);have c1:=((Vu.o.ai fK.o id).cell 1).trans Iz.o;have b2:=tJ.o.blk.c3;have hlk:=LM.o W7 tJ.o.fs;have zZ:=Yp.o W7 tJ.o.fs;clear fK HW8 Vu Yy e4 e5 ef e5' ef';by_cases h0:0<cn
 ·have HR:ah (r=4):=by rw[ah,HF.o,iP9 h0]
  have hq:((1:Int)<((cn+1:Nat):Int)):=by omega
  repeat(go_big_quiet_step (fail))
  refine mS ?_;go_wp2_with fail;go_ret;exact⟨dD (by rw[HR.o];rfl),_,tJ.o⟩
 ·have hc0:cn=0:=by omega
  subst hc0;have hle:=zZ.resolve_left h0;have HR:ah (r=if 16<fl+1 then 1 else if en=fj then 6 else 0):=by rw[ah,HF.o,iN9 h0]
  clear zZ;by_cases h8:16<fl+1
  ·have jh:ah (r=1):=by rw[ah,HR.o,iP9 h8]
   have hq:(16:Int)<((fl+1:Nat):Int):=by omega
   repeat(go_big_quiet_step (fail))
   refine mS ?_;go_wp2_with fail;go_ret;exact⟨dD (by rw[jh.o];rfl),_,tJ.o⟩
  ·have jh:ah (r=if en=fj then 6 else 0):=by rw[ah,HR.o,iN9 h8]
   have hq:¬(16:Int)<((fl+1:Nat):Int):=by omega
   repeat(go_big_quiet_step (fail))
   refine mS ?_;go_upto_region 8 with fail;have fK:ah (aa af W7 W7.drew):=aN;refine gy (by kernel_rfl) (by kernel_rfl) ?_;intro W9 hW9;rw[<-hW9]at fK;clear hW9;have HW9:=aq (tJ.o.quiet fK.o);have f1:=HW9.o.blk.c1;have f5:W9.cell? ⟨b,5,eL⟩=eK (vI fl):=by have:=HW9.o.blk.cell 5;rw[LK.o]at this;exact this
   have fe:=HE.o W9 HW9.o.md;clear fK tJ c1 b2 hlk hle;cases en with
   |false =>
    have tH:ah (r=6):=by rw[ah,jh.o,iP9 rfl]
    repeat(go_big_quiet_step (fail))
    refine mS ?_;go_wp2_with fail;go_ret;exact⟨dD (by rw[tH.o];rfl),_,HW9.o⟩
   |true =>
    have tH:ah (r=0):=by rw[ah,jh.o,iN9 (by decide)]
    repeat(go_big_quiet_step (fail))
    refine mS ?_;go_wp2_with fail;go_ret;exact⟨dD (by rw[tH.o];rfl),_,HW9.o⟩
theorem Vv(wO w0 w:tW)(b bm bM bF:Nat)(vF vL:fa)(lb:tLN)(o:OL)(k:WK)(y:tLB)(hO:dZ wO bm vF lb o w0)(h:gp w0 b bm vF bM bF vL k w)(hne:k.funcs≠[])(hl:eJ k.funcs<=eJ o.fs)(hl2:eJ o.fs<=1000001):fS prog 257 #[vP b,eR (T y)] w λe w'=>e=fW (fX (rR (o.fs.getD (eJ k.funcs-1) {}) y))/\aa af w w':=by
 have hp:=List.length_pos_iff.2 hne;obtain⟨n,hn⟩:∃n,n=eJ k.funcs-1:=⟨_,rfl⟩
 have hnl:n<eJ o.fs:=by omega
 have hgd:o.fs.getD n {}=o.fs[n]:=by rw[List.getD_eq_getElem?_getD,List.getElem?_eq_getElem hnl];rfl
 obtain⟨vo,vc,kC,_⟩:=hO.sl.view;subst kC;obtain⟨g,rfl,_,hvc,hrow⟩:=hO.jM _ hnl;have QU:ah (∀W,aa af w0 W->iW W (lb[n]?.getD 0) o.fs[n].bX):=λW m=>MapOf.ai (hO.bX n hnl) m id;have HR:ah (∀W,aa af w0 W->W.cell? ⟨g,n*3,eL⟩=eK (vI o.fs[n].slots)/\W.cell? ⟨g,n*3+1,eL⟩=eK (fX o.fs[n].ends)/\W.cell? ⟨g,n*3+2,eL⟩=eK (kq (eK (lb[n]?.getD 0)))):=λW m=>⟨hrow W m 0 (by show 0<3;decide),hrow W m 1 (by show 1<3;decide),hrow W m 2 (by show 2<3;decide)⟩
 have HF:ah (rR (o.fs.getD (eJ k.funcs-1) {}) y=((gK o.fs[n].bX y).isSome&&gh ((gK o.fs[n].bX y).getD 0<o.fs[n].slots))):=by rw[ah,<-hn,hgd];rfl
 have HB:ah (∀W,aa af w W->W.cell? ⟨b,1,eL⟩=eK (eS (eK ⟨g,0,eL⟩) (eJ o.fs) vc)/\W.cell? ⟨b,5,eL⟩=eK (vI (n:Int))):=λW m=>by
  have hb:=(h.quiet m).blk;refine⟨hb.cell 1,?_⟩;rw[hb.cell 5];have:((eJ k.funcs:Int)-1)=(n:Int):=by omega
  rw[this];rfl
 have JB:=aq h.md;clear hrow hO h hn hgd;generalize rR (o.fs.getD (eJ k.funcs-1) {}) y=r at *;generalize o.fs[n]=f at *;obtain⟨sl,en,las⟩:=f;dsimp only at *;generalize lb[n]?.getD 0=bl at *;generalize eJ o.fs=nF at *;have f1:=λ(e:Ext af w)=>(HB.o e.w e.m).1;have f5:=λ(e:Ext af w)=>(HB.o e.w e.m).2;have g0:=λ(e:Ext af w)=>(HR.o e.w (JB.o.trans e.m)).1;have g1:=λ(e:Ext af w)=>(HR.o e.w (JB.o.trans e.m)).2.1;have g2:=λ(e:Ext af w)=>(HR.o e.w (JB.o.trans e.m)).2.2
 haveI:Nonempty (Ext af w):=Ext.ne _ _
 go_in;go_upto_region 1 with fail;refine bQ [11,12] (λw'=>∃e:Ext af w,w'=e.w) (by kernel_rfl) (by kernel_rfl) (by kernel_rfl) ⟨⟨_,aN⟩,rfl⟩ ?_
 iterate 1 (refine aG rfl rfl rfl ?_;intro K hK;go_big_quiet_op;go_big_quiet_on)
 refine dL rfl rfl _ ⟨b,0,eL⟩ rfl rfl ?_;simp only[Act.put,sA9,sB9,sC9]
 iterate 4 (refine aG rfl rfl rfl ?_;intro K hK;go_big_quiet_op;go_big_quiet_on)
 refine dL rfl rfl _ ⟨b,0,eL⟩ rfl rfl ?_;simp only[Act.put,sA9,sB9,sC9]
 iterate 4 (refine aG rfl rfl rfl ?_;intro K hK;go_big_quiet_op;go_big_quiet_on)
 refine aH rfl rfl ?_;intro K hK;go_big_op;refine hK _ _ rfl ⟨⟨_,aN.alloc _⟩,rfl⟩ ?_;clear hK K;refine aH rfl rfl ?_;intro K hK;have hz:au ((w.alloc (fL #[vI 0,fX fj,kq eL] 164)).drew) w.heap.size #[vI 0,fX fj,kq eL] 164:=(au.new w _ _).drew;have z0:=hz.cell 0;have z1:=hz.cell 1;have z2:=hz.cell 2;have zf:=hz.frozen;have HZ3:ah (au ((w.alloc (fL #[vI sl,fX en,kq (eK bl)] 164)).drew) w.heap.size #[vI sl,fX en,kq (eK bl)] 164):=(au.new w _ _).drew;have dF:ah (aa af w ((w.alloc (fL #[vI sl,fX en,kq (eK bl)] 164)).drew)):=((aa.refl af w).alloc _).drew;go_big_op;refine hK _ _ rfl ⟨⟨_,dF.o⟩,rfl⟩ ?_;clear hK K hz z0 z1 z2 zf;refine bZ ?_;simp only[Exit.then];generalize(w.alloc (fL #[vI sl,fX en,kq (eK bl)] 164)).drew=w3 at *;generalize w.heap.size=C at *;have c0:=HZ3.o.c0;have c2:=HZ3.o.c2;have hlk:=(QU.o w3 (JB.o.trans dF.o)).look y;clear f1 f5 g0 g1 g2;generalize gK las y=lo at *;cases lo with
 |none =>
  have jh:ah (r=fj):=by rw[ah,HF.o];rfl
  simp only[Option.getD_none,Option.isSome_none]at hlk;go_wp2_with fail;go_ret;exact⟨by rw[jh.o];rfl,dF.o⟩
 |some q =>
  simp only[cY,Option.isSome_some]at hlk;have jh:ah (r=gh (q<sl)):=by rw[ah,HF.o];rfl
  go_wp2_with fail;go_ret;exact⟨by rw[jh.o];rfl,dF.o⟩
theorem abI(bs:tLN)(x:fE)(h:x.kind=4):x.cells bs=Jh 4 ⟨#[]⟩ aF aF aF (vP (bs[x.x.k]?.getD 0)) x.x.r.d x.x.r.s x.x.r.jump x.x.r.num x.x.r.high (T x.x.r.label) (T x.x.r.name) x.x.fits:=by unfold fE.cells;rw[iP9 h]
theorem Q2(wO w0 w:tW)(b bm bM bF:Nat)(vF vL:fa)(lb:tLN)(o:OL)(k:WK)(bs:tLN)(x:fE)(hO:dZ wO bm vF lb o w0)(h:gp w0 b bm vF bM bF vL k w)(hx:x.kind=4)(hA:∀W,aa af w0 W->dO W (bs[x.x.k]?.getD 0) x.x.o)(hne:k.funcs≠[])(hl:eJ k.funcs<=eJ o.fs)(hl2:eJ o.fs<=1000001)(hs:k.slots<=2000002):fS prog 146 #[vP b,fY (x.cells bs)] w λe w'=>e=fW (vI (rT o k x))/\gp w0 b bm vF bM bF vL (iq k x) w':=by
 have HF:ah (rT o k x=if x.x.fits=fj then 3
  else if(x.x.o.jumps&&!rR (o.fs.getD (eJ k.funcs-1) {}) x.x.r.label)=fR then 5
  else if(gh ((if x.x.r.s=1 then x.x.o.bD else 0)=2)&&gh (o.maps.count x.x.r.name=0))=fR then 5
  else if 200<k.slots+x.x.o.slots then 1 else 0):=rfl
 have HHL:ah (∀w',gp w0 b bm vF bM bF vL (iq k x) w'->fS prog 257 #[vP b,eR (T x.x.r.label)] w' λe w''=>e=fW (fX (rR (o.fs.getD (eJ k.funcs-1) {}) x.x.r.label))/\aa af w' w''):=λw' h'=>Vv wO w0 w' b bm bM bF vF vL lb o (iq k x) x.x.r.label hO h' hne hl hl2;have Da:ah (∀w',aa af w0 w'->fS prog 84 #[fY #[vP (bs[x.x.k]?.getD 0),vB x.x.r.d,vB x.x.r.s,.int .i16 x.x.r.jump,vJ x.x.r.num,vJ x.x.r.high,eR (T x.x.r.label),eR (T x.x.r.name)]] w' λe w''=>e=fW (vI ((if x.x.r.s=1 then x.x.o.bD else 0:Nat):Int))/\aa af w' w''):=λw' m=>kG w' _ x.x.o (hA w' m) _ _ _ _ _ _ _;have LM:=aq (λw' (m:aa af w0 w')=>(hO.quiet m).maps.look x.x.r.name);have hs2:=x.x.Aj;have ZE:=aq hA;have YA:=aq h;have HST:ah (∀W,gp w0 b bm vF bM bF vL k W->gp w0 b bm vF bM bF vL (iq k x) (W.setCell ⟨b,6,eL⟩ (vI ((k.slots:Int)+x.x.o.slots)))):=λW hW=>hW.code rfl;have NR:ah (((iq k x).slots:Int)=(k.slots:Int)+x.x.o.slots):=by rw[ah];simp[iq]
 obtain⟨vo,vc,kC,_⟩:=hO.sl.view;subst kC;obtain⟨vq,rfl⟩:=h.vl;rw[abI bs x hx];unfold Jh aF;dsimp only;clear h hx hO hA;generalize rT o k x=r at *;generalize rR (o.fs.getD (eJ k.funcs-1) {}) x.x.r.label=hb at *;generalize bs[x.x.k]?.getD 0=bo at *;generalize o.maps.count x.x.r.name=mc at *;generalize T x.x.r.label=lab at *;generalize T x.x.r.name=nam at *;generalize hcs:(#[vI ((4:Nat):Int),eR ⟨#[]⟩,fX fj,vU ((0%18446744073709551616:Nat):Int),fX (gh (18446744073709551616<=0)),fX fj,vU ((0%18446744073709551616:Nat):Int),fX (gh (18446744073709551616<=0)),fX fj,vU ((0%18446744073709551616:Nat):Int),fX (gh (18446744073709551616<=0)),vP bo,vB x.x.r.d,vB x.x.r.s,.int .i16 x.x.r.jump,vJ x.x.r.num,vJ x.x.r.high,eR lab,eR nam,fX x.x.fits]:tAV)=cs at *;have jI:=aq hcs.symm;clear hcs;have K1:ah (aa af w (w.alloc (fL cs 160))):=aw;have GV:=aq (au.new w cs 160);have HW1:=aq (YA.o.quiet K1.o);go_in;go_upto_region 1 with fail;generalize w.alloc (fL cs 160)=w1 at *;generalize w.heap.size=B at *;have fK:ah (aa af w1 w1.drew):=aN;refine bK 13 (by kernel_rfl) (by kernel_rfl) ?_;intro W hW;rw[<-hW]at fK;clear hW;have HW2:=aq (HW1.o.quiet fK.o);have HB2:=aq (GV.o.ai fK.o id);obtain⟨p1,p2,p3,p4,p5,p6,p7,p8,p9,p10,p11,CU,_⟩:=(ZE.o W HW2.o.md).ex;have c11:W.cell? ⟨B,11,eL⟩=eK (vP bo):=(HB2.o.cell 11).trans (by rw[jI.o];rfl);have b6:=HW2.o.blk.c6;have o2:=CU.cell 2;have bf:=HW2.o.blk.frozen;have HBb:ah (B≠b):=λe=>HB2.o.apart HW2.o.blk (by decide) e;have HOb:ah (bo≠b):=λe=>CU.apart HW2.o.blk (by decide) e;have sQ:=HST.o W HW2.o;have ji:ah (au (W.setCell ⟨b,6,eL⟩ (vI ((k.slots:Int)+x.x.o.slots))) B cs 160):=HB2.o.setOther (a:=⟨b,6,eL⟩) HBb.o.symm _;have sQ:=aq sQ;clear CU HW1 GV K1 YA HST;generalize x.x.o.slots=os at *;generalize k.slots=ks at *;simp only[bh,b9,bj,cx]
 repeat(go_big_quiet_step (fail))
 refine mS ?_;go_upto_region 2 with fail;generalize W.setCell ⟨b,6,eL⟩ (vI ((ks:Int)+os))=w5 at *;clear c11 b6 o2 bf HW2 HB2 fK;have HBC:ah (∀W,au W B cs 160->W.cell? ⟨B,11,eL⟩=eK (vP bo)/\W.cell? ⟨B,17,eL⟩=eK (eR lab)/\W.cell? ⟨B,19,eL⟩=eK (fX x.x.fits)):=λW hb=>⟨(hb.cell 11).trans (by rw[jI.o];rfl),(hb.cell 17).trans (by rw[jI.o];rfl),(hb.cell 19).trans (by rw[jI.o];rfl)⟩
 have Me:ah (∀W,au W B cs 160->W.cell? ⟨B,12,eL⟩=eK (vB x.x.r.d)/\W.cell? ⟨B,13,eL⟩=eK (vB x.x.r.s)/\W.cell? ⟨B,14,eL⟩=eK (.int .i16 x.x.r.jump)/\W.cell? ⟨B,15,eL⟩=eK (vJ x.x.r.num)/\W.cell? ⟨B,16,eL⟩=eK (vJ x.x.r.high)/\W.cell? ⟨B,18,eL⟩=eK (eR nam)):=λW hb=>⟨(hb.cell 12).trans (by rw[jI.o];rfl),(hb.cell 13).trans (by rw[jI.o];rfl),(hb.cell 14).trans (by rw[jI.o];rfl),(hb.cell 15).trans (by rw[jI.o];rfl),(hb.cell 16).trans (by rw[jI.o];rfl),(hb.cell 18).trans (by rw[jI.o];rfl)⟩
 have HOJ:ah (∀W,aa af w0 W->W.cell? ⟨bo,3,eL⟩=eK (fX x.x.o.jumps)):=λW m=>by obtain⟨p1,p2,p3,p4,p5,p6,p7,p8,p9,p10,p11,CU,_⟩:=(ZE.o W m).ex;exact CU.cell 3
 clear ZE jI;generalize afy:(if x.x.r.s=1 then x.x.o.bD else 0)=rf at *;generalize x.x.o.jumps=oj at *;generalize x.x.r.d=xd at *;generalize x.x.r.s=xs at *;generalize x.x.r.jump=xj at *;generalize x.x.r.num=xn at *;generalize x.x.r.high=xh at *;generalize x.x.fits=xf at *;clear afy;obtain⟨c11,c17,c19⟩:=HBC.o w5 ji.o;have o3:=HOJ.o w5 sQ.o.md;cases xf with
 |false =>
  have HR:ah (r=3):=by rw[ah,HF.o,iP9 rfl]
  go_wp2_with fail;go_ret;exact⟨dD (by rw[HR.o];rfl),sQ.o⟩
 |true =>
  have HF2:ah (r=if(oj&&!hb)=fR then 5 else if(gh (rf=2)&&gh (mc=0))=fR then 5 else if 200<ks+os then 1 else 0):=by rw[ah,HF.o,iN9 (by decide)]
  cases oj with
  |true =>
   go_wp2_with fail;refine(HHL.o _ sQ.o).mono ?_;rintro e w6 ⟨rfl,m6⟩;have mV:=aq (sQ.o.quiet m6);have pT:=aq (ji.o.ai m6 id);clear m6 sQ ji;cases hb with
   |false =>
    have HR:ah (r=5):=by rw[ah,HF2.o,iP9 (by decide)]
    go_wp2_with fail;go_ret;exact⟨dD (by rw[HR.o];rfl),mV.o⟩
   |true =>
    have Yz:ah (r=if(gh (rf=2)&&gh (mc=0))=fR then 5 else if 200<ks+os then 1 else 0):=by rw[ah,HF2.o,iN9 (by decide)]
    go_upto_region 6 with fail;have hw6:=mV.o;have hb6:=pT.o;have d11:=λ(e:Ext af w6)=>(HBC.o e.w (pT.o.ai e.m id)).1;have d17:=λ(e:Ext af w6)=>(HBC.o e.w (pT.o.ai e.m id)).2.1;have d12:=λ(e:Ext af w6)=>(Me.o e.w (pT.o.ai e.m id)).1;have d13:=λ(e:Ext af w6)=>(Me.o e.w (pT.o.ai e.m id)).2.1;have d14:=λ(e:Ext af w6)=>(Me.o e.w (pT.o.ai e.m id)).2.2.1;have d15:=λ(e:Ext af w6)=>(Me.o e.w (pT.o.ai e.m id)).2.2.2.1;have d16:=λ(e:Ext af w6)=>(Me.o e.w (pT.o.ai e.m id)).2.2.2.2.1;have d18:=λ(e:Ext af w6)=>(Me.o e.w (pT.o.ai e.m id)).2.2.2.2.2;have dm:=λ(e:Ext af w6)=>(mV.o.quiet e.m).blk.c0;have dl:=λ(e:Ext af w6)=>LM.o e.w (mV.o.md.trans e.m);have IC:=aq (λ(e:Ext af w6)=>Da.o e.w (mV.o.md.trans e.m));clear hw6 hb6 c11 c17 c19 o3;have ne1:=Ext.ne af w6;refine ig af (by kernel_rfl) (by kernel_rfl) ?_
    have Q3:ah (∀w2,aa af w6 w2->gp w0 b bm (eS vo (eJ o.fs) vc) bM bF (kq vq) (iq k x) w2/\w2.cell? ⟨b,6,eL⟩=eK (vI ((ks:Int)+os))):=λw2 m=>⟨mV.o.quiet m,by
     have:=(mV.o.quiet m).blk.cell 6;rw[NR.o]at this;exact this⟩
    by_cases h2:rf=2
    ·subst h2;by_cases h0:mc=0
     ·subst h0;have HR:ah (r=5):=by rw[ah,Yz.o,iP9 (by decide)]
      repeat(go_big_quiet_step (first |(go_at_call 84;exact Calls.oZ (IC.o _))))
      refine mS ?_;rintro w2 ⟨e2,JH⟩;have m2:aa af w6 w2:=by rw[JH];exact e2.m
      clear JH e2;obtain⟨hW2,b6⟩:=Q3.o w2 m2;have HW2:=aq hW2;clear hW2 m2 Q3;go_wp2_with fail;go_ret;exact⟨dD (by rw[HR.o];rfl),HW2.o⟩
     ·have hq0:((mc:Int)==0)=fj:=by simp;omega
      have HR:ah (r=if 200<ks+os then 1 else 0):=by rw[ah,Yz.o,iN9 (by simp;omega)]
      repeat(go_big_quiet_step (first |(go_at_call 84;exact Calls.oZ (IC.o _))))
      refine mS ?_;rintro w2 ⟨e2,JH⟩;have m2:aa af w6 w2:=by rw[JH];exact e2.m
      clear JH e2;obtain⟨hW2,b6⟩:=Q3.o w2 m2;have HW2:=aq hW2;clear hW2 m2 Q3;by_cases h3:200<ks+os
      ·have jh:ah (r=1):=by rw[ah,HR.o,iP9 h3]
       have h3':(200:Int)<(ks:Int)+os:=by omega
       go_wp2_with fail;go_ret;exact⟨dD (by rw[jh.o];rfl),HW2.o⟩
      ·have jh:ah (r=0):=by rw[ah,HR.o,iN9 h3]
       have h3':¬(200:Int)<(ks:Int)+os:=by omega
       go_wp2_with fail;go_ret;exact⟨dD (by rw[jh.o];rfl),HW2.o⟩
    ·have hq2:((rf:Int)==2)=fj:=by simp;omega
     have HR:ah (r=if 200<ks+os then 1 else 0):=by rw[ah,Yz.o,iN9 (by simp;omega)]
     repeat(go_big_quiet_step (first |(go_at_call 84;exact Calls.oZ (IC.o _))))
     refine mS ?_;rintro w2 ⟨e2,JH⟩;have m2:aa af w6 w2:=by rw[JH];exact e2.m
     clear JH e2;obtain⟨hW2,b6⟩:=Q3.o w2 m2;have HW2:=aq hW2;clear hW2 m2 Q3;by_cases h3:200<ks+os
     ·have jh:ah (r=1):=by rw[ah,HR.o,iP9 h3]
      have h3':(200:Int)<(ks:Int)+os:=by omega
      go_wp2_with fail;go_ret;exact⟨dD (by rw[jh.o];rfl),HW2.o⟩
     ·have jh:ah (r=0):=by rw[ah,HR.o,iN9 h3]
      have h3':¬(200:Int)<(ks:Int)+os:=by omega
      go_wp2_with fail;go_ret;exact⟨dD (by rw[jh.o];rfl),HW2.o⟩
  |false =>
   have Yz:ah (r=if(gh (rf=2)&&gh (mc=0))=fR then 5 else if 200<ks+os then 1 else 0):=by rw[ah,HF2.o,iN9 (by simp)]
   go_upto_region 6 with fail;have hw6:=sQ.o;have hb6:=ji.o;have d11:=λ(e:Ext af w5)=>(HBC.o e.w (ji.o.ai e.m id)).1;have d17:=λ(e:Ext af w5)=>(HBC.o e.w (ji.o.ai e.m id)).2.1;have d12:=λ(e:Ext af w5)=>(Me.o e.w (ji.o.ai e.m id)).1;have d13:=λ(e:Ext af w5)=>(Me.o e.w (ji.o.ai e.m id)).2.1;have d14:=λ(e:Ext af w5)=>(Me.o e.w (ji.o.ai e.m id)).2.2.1;have d15:=λ(e:Ext af w5)=>(Me.o e.w (ji.o.ai e.m id)).2.2.2.1;have d16:=λ(e:Ext af w5)=>(Me.o e.w (ji.o.ai e.m id)).2.2.2.2.1;have d18:=λ(e:Ext af w5)=>(Me.o e.w (ji.o.ai e.m id)).2.2.2.2.2;have dm:=λ(e:Ext af w5)=>(sQ.o.quiet e.m).blk.c0;have dl:=λ(e:Ext af w5)=>LM.o e.w (sQ.o.md.trans e.m);have IC:=aq (λ(e:Ext af w5)=>Da.o e.w (sQ.o.md.trans e.m));clear hw6 hb6 c11 c17 c19 o3;have ne1:=Ext.ne af w5;refine ig af (by kernel_rfl) (by kernel_rfl) ?_
   have Q3:ah (∀w2,aa af w5 w2->gp w0 b bm (eS vo (eJ o.fs) vc) bM bF (kq vq) (iq k x) w2/\w2.cell? ⟨b,6,eL⟩=eK (vI ((ks:Int)+os))):=λw2 m=>⟨sQ.o.quiet m,by
    have:=(sQ.o.quiet m).blk.cell 6;rw[NR.o]at this;exact this⟩
   by_cases h2:rf=2
   ·subst h2;by_cases h0:mc=0
    ·subst h0;have HR:ah (r=5):=by rw[ah,Yz.o,iP9 (by decide)]
     repeat(go_big_quiet_step (first |(go_at_call 84;exact Calls.oZ (IC.o _))))
     refine mS ?_;rintro w2 ⟨e2,JH⟩;have m2:aa af w5 w2:=by rw[JH];exact e2.m
     clear JH e2;obtain⟨hW2,b6⟩:=Q3.o w2 m2;have HW2:=aq hW2;clear hW2 m2 Q3;go_wp2_with fail;go_ret;exact⟨dD (by rw[HR.o];rfl),HW2.o⟩
    ·have hq0:((mc:Int)==0)=fj:=by simp;omega
     have HR:ah (r=if 200<ks+os then 1 else 0):=by rw[ah,Yz.o,iN9 (by simp;omega)]
     repeat(go_big_quiet_step (first |(go_at_call 84;exact Calls.oZ (IC.o _))))
     refine mS ?_;rintro w2 ⟨e2,JH⟩;have m2:aa af w5 w2:=by rw[JH];exact e2.m
     clear JH e2;obtain⟨hW2,b6⟩:=Q3.o w2 m2;have HW2:=aq hW2;clear hW2 m2 Q3;by_cases h3:200<ks+os
     ·have jh:ah (r=1):=by rw[ah,HR.o,iP9 h3]
      have h3':(200:Int)<(ks:Int)+os:=by omega
      go_wp2_with fail;go_ret;exact⟨dD (by rw[jh.o];rfl),HW2.o⟩
     ·have jh:ah (r=0):=by rw[ah,HR.o,iN9 h3]
      have h3':¬(200:Int)<(ks:Int)+os:=by omega
      go_wp2_with fail;go_ret;exact⟨dD (by rw[jh.o];rfl),HW2.o⟩
   ·have hq2:((rf:Int)==2)=fj:=by simp;omega
    have HR:ah (r=if 200<ks+os then 1 else 0):=by rw[ah,Yz.o,iN9 (by simp;omega)]
    repeat(go_big_quiet_step (first |(go_at_call 84;exact Calls.oZ (IC.o _))))
    refine mS ?_;rintro w2 ⟨e2,JH⟩;have m2:aa af w5 w2:=by rw[JH];exact e2.m
    clear JH e2;obtain⟨hW2,b6⟩:=Q3.o w2 m2;have HW2:=aq hW2;clear hW2 m2 Q3;by_cases h3:200<ks+os
    ·have jh:ah (r=1):=by rw[ah,HR.o,iP9 h3]
     have h3':(200:Int)<(ks:Int)+os:=by omega
     go_wp2_with fail;go_ret;exact⟨dD (by rw[jh.o];rfl),HW2.o⟩
    ·have jh:ah (r=0):=by rw[ah,HR.o,iN9 h3]
     have h3':¬(200:Int)<(ks:Int)+os:=by omega
     go_wp2_with fail;go_ret;exact⟨dD (by rw[jh.o];rfl),HW2.o⟩
def mf(w0:tW)(b bm bM bF:Nat)(vF:fa)(k:WK)(r:Nat)(e:mz)(w':tW):Prop:=e=fW (vI r)/\∃vL,gp w0 b bm vF bM bF vL k w'
def firstP(o:OL):List fE->WK->Nat->Nat×Nat
 |[],_,_=>(0,0)
 |x::ls,k,n=>if eG o k x=0 then firstP o ls (jk k x) (n+1)else(eG o k x,n+1)
theorem JI(o:OL)(ls:List fE)(i:Nat)(h:i<eJ ls)(k:WK)(n:Nat):firstP o (ls.drop i) k n=if eG o k ls[i]=0 then firstP o (ls.drop (i+1)) (jk k ls[i]) (n+1)else(eG o k ls[i],n+1):=by rw[b5 h];rfl
structure EK(ls:List fE)(i:Nat)(k:WK):Prop where
 m:k.maps.Nodup
 f:k.funcs.Nodup
 n:eJ k.funcs=eJ (aj (ls.take i)).fs
 s:k.slots<=2*i
 ml:eJ k.maps<=i
 ll:eJ k.labels<=i
theorem kH(o:OL)(f:tK):eJ (o.dQ f).fs=eJ o.fs:=by simp[OL.dQ]
theorem EK.step{ls:List fE}{i:Nat}{k:WK}(h:EK ls i k)(o:OL)(hi:i<eJ ls)(hz:eG o k ls[i]=0):EK ls (i+1) (jk k ls[i]):=by
 obtain⟨h1,h2,h3,h4,h5,h6⟩:=h;have hs:=gW ls i hi;generalize ls[i]=x at *;unfold eG at hz;unfold jk;by_cases k1:x.kind=1
 ·rw[iP9 k1]at hz ⊢;unfold qg at hz;split at hz
  ·cases hz
  split at hz
  ·cases hz
  rename_i _ hc
  refine⟨List.nodup_cons.2 ⟨λhm=>hc (List.count_pos_iff.2 hm),h1⟩,h2,?_,ab h4 (by omega),by simpa [uV]using h5,al h6⟩;rw[hs,cu,iP9 k1];exact h3
 rw[iN9 k1]at hz ⊢;by_cases k2:x.kind=2
 ·rw[iP9 k2]at hz ⊢;unfold nJ at hz;split at hz
  ·cases hz
  rename_i hc
  refine⟨h1,List.nodup_cons.2 ⟨λhm=>hc (List.count_pos_iff.2 hm),h2⟩,?_,ab h4 (by omega),al h5,ba _⟩;rw[hs,cu,iN9 k1,iP9 k2];simp[je,h3]
 rw[iN9 k2]at hz ⊢;by_cases k3:x.kind=3
 ·rw[iP9 k3]at hz ⊢;refine⟨h1,h2,?_,ab h4 (by omega),al h5,by simpa [qh]using h6⟩;rw[hs,cu,iN9 k1,iN9 k2,iP9 k3,kH];exact h3
 rw[iN9 k3]at hz ⊢;by_cases k4:x.kind=4
 ·rw[iP9 k4]at hz ⊢;have:=x.x.Aj;refine⟨h1,h2,?_,by show k.slots+x.x.o.slots<=_;omega,al h5,al h6⟩;rw[hs,cu,iN9 k1,iN9 k2,iN9 k3,iP9 k4,kH];exact h3
 ·rw[iN9 k4]at hz ⊢;refine⟨h1,h2,?_,ab h4 (by omega),al h5,al h6⟩;rw[hs,cu,iN9 k1,iN9 k2,iN9 k3,iN9 k4];exact h3
theorem Bv(o:OL)(x:fE):eJ o.fs<=eJ (cu o x).fs:=by
 unfold cu;split
 ·exact ar _
 split
 ·simp
 split
 ·rw[kH];exact ar _
 split
 ·rw[kH];exact ar _
 ·exact ar _
theorem JJ:∀(ls:List fE) (o:OL),eJ o.fs<=eJ (ls.foldl cu o).fs
 |[],_=>ar _
 |x::ls,o=>ab (Bv o x) (JJ ls (cu o x))
theorem rU(ls:List fE)(i:Nat):eJ (aj (ls.take i)).fs<=eJ (aj ls).fs:=by
 have h:=JJ (ls.drop i) (aj (ls.take i));have e:(ls.drop i).foldl cu (aj (ls.take i))=aj ls:=by unfold aj;rw[<-cP,List.take_append_drop]
 rwa [e]at h
theorem JK(ls:List fE)(i:Nat)(hi:i<eJ ls)(h2:ls[i].kind=2):eJ (aj (ls.take i)).fs<eJ (aj ls).fs:=by have h:=rU ls (i+1);rw[gW ls i hi,cu,iN9 (by omega),iP9 h2]at h;simp at h;omega
def wD(w:tW)(p:Nat×Nat)(e:mz)(w':tW):Prop:=e=fW (.tuple #[vI p.1,vI p.2])/\aa af w w'
theorem Mf(ls:List fE):eJ (aj ls).fs<=eJ ls:=by
 have:=(jt ls (eJ ls) (ar _)).2
 rwa [List.take_length]at this
set_option linter.all false
theorem ZT(wO w0 w:tW)(b bm bM bF:Nat)(vF vL:fa)(lb:tLN)(o:OL)(k:WK)(bs:tLN)(x:fE)(hO:dZ wO bm vF lb o w0)(h:gp w0 b bm vF bM bF vL k w)(hA:x.kind=4->∀W,aa af w0 W->dO W (bs[x.x.k]?.getD 0) x.x.o)(hM:k.maps.Nodup) (hx2:1<=x.kind/\x.kind<=4) (hFn:k.funcs.Nodup) (Ob:x.kind=3\/x.kind=4->k.funcs≠[]) (h2:x.kind=2->eJ k.funcs<eJ o.fs) (hl:eJ k.funcs<=eJ o.fs) (hl2:eJ o.fs<=1000001) (hs:k.slots<=2000002) (hm:eJ k.maps<=1000001) (hlb:eJ k.labels<=1000001):fS prog 72 #[vP b,fY (x.cells bs)] w λe w'=>mf w0 b bm bM bF vF (jk k x) (eG o k x) e w':=by
 obtain⟨vo,vc,kC,_⟩:=hO.sl.view;have Bk:ah (x.kind=1->∀w',gp w0 b bm vF bM bF vL k w'->fS prog 144 #[vP b,fY (x.cells bs)] w' λe w''=>mf w0 b bm bM bF vF (jk k x) (eG o k x) e w''):=λhx w' h'=>(Vt w0 w' b bm bM bF vF vL k bs x h' ⟨_,_,_,kC⟩ hx hm hM).mono λe w'' hp=>⟨by rw[eG,iP9 hx];exact hp.1,vL,by rw[jk,iP9 hx];exact hp.2⟩
 have TD:ah (x.kind=2->∀w',gp w0 b bm vF bM bF vL k w'->fS prog 145 #[vP b,fY (x.cells bs)] w' λe w''=>mf w0 b bm bM bF vF (jk k x) (eG o k x) e w''):=λhx w' h'=>(Q1 wO w0 w' b bm bM bF vF vL lb o k bs x hO h' hx (h2 hx) hl2 hFn).mono λe w'' hp=>⟨by rw[eG,iN9 (by omega),iP9 hx];exact hp.1,by rw[jk,iN9 (by omega),iP9 hx];exact hp.2⟩
 have HC4:ah (x.kind=4->∀w',gp w0 b bm vF bM bF vL k w'->fS prog 146 #[vP b,fY (x.cells bs)] w' λe w''=>mf w0 b bm bM bF vF (jk k x) (eG o k x) e w''):=λhx w' h'=>(Q2 wO w0 w' b bm bM bF vF vL lb o k bs x hO h' hx (hA hx) (Ob (.inr hx)) hl hl2 hs).mono λe w'' hp=>⟨by rw[eG,iN9 (by omega),iN9 (by omega),iN9 (by omega),iP9 hx];exact hp.1,vL,by rw[jk,iN9 (by omega),iN9 (by omega),iN9 (by omega),iP9 hx];exact hp.2⟩
 have Q0:ah (x.kind=3->∀e w',e=fW (vI (wz k x))->gp w0 b bm vF bM bF vL (qh k x) w'->mf w0 b bm bM bF vF (jk k x) (eG o k x) e w'):=λhx e w' h1 h2=>⟨by rw[eG,iN9 (by omega),iN9 (by omega),iP9 hx];exact h1,vL,by rw[jk,iN9 (by omega),iN9 (by omega),iP9 hx];exact h2⟩
 have FJ:ah (x.kind=3->∃bL,vL=kq (eK bL)/\∀W,gp w0 b bm vF bM bF vL k W->ed W bL k.labels/\∀W',ed W' bL (x.name::k.labels)->aa (λi=>i=bL) W W'->gp w0 b bm vF bM bF vL (qh k x) W'):=λhx=>by obtain⟨bL,h1,_⟩:=h.ls (Ob (.inl hx));subst h1;refine⟨bL,rfl,λW hW=>⟨?_,λW' hc m=>hW.lab (Ob (.inl hx)) hc m⟩⟩;obtain⟨bL',h1,h2,_⟩:=hW.ls (Ob (.inl hx));injection h1 with h1;injection h1 with h1;subst h1;exact h2
 have jI:=aq (gV bs x);have Tx:=aq (rE bs x);have Iz:=aq (nD bs x);have HO1:=aq (cells_one bs x);have HLF:ah (wz k x=if 0<k.labels.count x.name then 4 else 0):=rfl;have hcn:k.labels.count x.name<=1000001:=ab cw hlb;have YA:=aq h;subst kC;obtain⟨vq,rfl⟩:=h.vl;clear h hO hA hM hFn Ob h2;have IC:ah (∀e w',mf w0 b bm bM bF (eS vo (eJ o.fs) vc) (jk k x) (eG o k x) e w'->∃n:Nat,e=fW (vI n)):=λe w' hp=>⟨_,hp.1⟩
 generalize mf w0 b bm bM bF (eS vo (eJ o.fs) vc) (jk k x) (eG o k x)=RP at *;generalize wz k x=lf at *;generalize x.cells bs=cs at *;have K1:ah (aa af w (w.alloc (fL cs 160))):=aw;have HB1:=aq (au.new w cs 160);have HW1:=aq (YA.o.quiet K1.o);go_in;go_upto_region 1 with fail;generalize w.alloc (fL cs 160)=w1 at *;generalize w.heap.size=B at *;have c0:=(HB1.o.cell 0).trans Tx.o;have hcase:x.kind=1\/x.kind=2\/x.kind=3\/x.kind=4:=by omega
 rcases hcase with hx|hx|hx|hx
 ·have q1:((x.kind:Int)==1)=fR:=by rw[hx];rfl
  have HC:=Bk.o hx;clear hx;go_wp2_with (refine rl rfl 160 (.tmp 3) rfl B rfl 160 cs (0,0) _ HB1.o underlying160 rfl (by rw[jI.o];kernel_rfl) ?_);refine(HC _ HW1.o).mono ?_;intro e w2 hp;obtain⟨n,rfl⟩:=IC.o e w2 hp;have HP:=aq hp;clear hp;go_wp2_with fail;exact HP.o
 ·have q1:((x.kind:Int)==1)=fj:=by rw[hx];rfl
  have q2:((x.kind:Int)==2)=fR:=by rw[hx];rfl
  have HC:=TD.o hx;clear hx;go_wp2_with (refine rl rfl 160 (.tmp 3) rfl B rfl 160 cs (0,0) _ HB1.o underlying160 rfl (by rw[jI.o];kernel_rfl) ?_);refine(HC _ HW1.o).mono ?_;intro e w2 hp;obtain⟨n,rfl⟩:=IC.o e w2 hp;have HP:=aq hp;clear hp;go_wp2_with fail;exact HP.o
 ·have q1:((x.kind:Int)==1)=fj:=by rw[hx];rfl
  have q2:((x.kind:Int)==2)=fj:=by rw[hx];rfl
  have q3:((x.kind:Int)==3)=fR:=by rw[hx];rfl
  have HC:=aq (Q0.o hx);obtain⟨bL,hbL,hLL⟩:=FJ.o hx;injection hbL with hbL;subst hbL;have HL:=aq hLL;have HN:=aq (Iz.o (by omega));clear hx hLL;go_upto_region 7 with fail;have fK:ah (aa af w1 w1.drew):=aN;refine bK 8 (by kernel_rfl) (by kernel_rfl) ?_;intro W hW;rw[<-hW]at fK;clear hW c0;have HW2:=aq (HW1.o.quiet fK.o);have HB2:=aq (HB1.o.ai fK.o id);have c1:=(HB2.o.cell 1).trans HN.o;have b4:=HW2.o.blk.c4;obtain⟨hcL,hst⟩:=HL.o W HW2.o;have hlk:=hcL.look x.name;obtain⟨w5,Yy,QT,m5⟩:=hcL.put x.name;have sQ:=aq (hst w5 QT m5);have ji:=aq (HB2.o.ai m5 (λe=>hcL.aA HB2.o e));have HC5:=aq QT;have HLC:ah ((x.name::k.labels).count x.name=k.labels.count x.name+1):=cq ..;clear QT m5 hst hcL;generalize k.labels.count x.name=cn at *;simp only[bh,b9,bj,cx]
  repeat(go_big_quiet_step (fail))
  refine mS ?_;clear hlk c1 b4 HW2 HB2 fK;go_upto_region 8 with fail;have fK:ah (aa af w5 w5.drew):=aN;refine gy (by kernel_rfl) (by kernel_rfl) ?_;intro W7 hW7;rw[<-hW7]at fK;clear hW7 Yy;have tJ:=aq (sQ.o.quiet fK.o);have c1:=((ji.o.ai fK.o id).cell 1).trans HN.o;have b4:=tJ.o.blk.c4;have hlk:=(HC5.o.ai fK.o id).look x.name;rw[HLC.o]at hlk;clear fK sQ ji HC5;by_cases h0:0<cn
  ·have HR:ah (lf=4):=by rw[ah,HLF.o,iP9 h0]
   have hq:((1:Int)<((cn+1:Nat):Int)):=by omega
   repeat(go_big_quiet_step (fail))
   refine mS ?_;go_wp2_with fail;exact HC.o _ _ (dD (by rw[HR.o];rfl)) tJ.o
  ·have hc0:cn=0:=by omega
   subst hc0;have HR:ah (lf=0):=by rw[ah,HLF.o,iN9 h0]
   repeat(go_big_quiet_step (fail))
   refine mS ?_;go_wp2_with fail;exact HC.o _ _ (dD (by rw[HR.o];rfl)) tJ.o
 ·have q1:((x.kind:Int)==1)=fj:=by rw[hx];rfl
  have q2:((x.kind:Int)==2)=fj:=by rw[hx];rfl
  have q3:((x.kind:Int)==3)=fj:=by rw[hx];rfl
  have q4:((x.kind:Int)==4)=fR:=by rw[hx];rfl
  have HC:=HC4.o hx;clear hx;go_wp2_with (refine rl rfl 160 (.tmp 3) rfl B rfl 160 cs (0,0) _ HB1.o underlying160 rfl (by rw[jI.o];kernel_rfl) ?_);refine(HC _ HW1.o).mono ?_;intro e w2 hp;obtain⟨n,rfl⟩:=IC.o e w2 hp;have HP:=aq hp;clear hp;go_wp2_with fail;exact HP.o
set_option linter.all false
theorem Q4(wT wL wO w:tW)(v vL vF:fa)(bm:Nat)(lb bs:tLN)(ls:List fE)(hT:aM 0 wT v bs az)(m:aa af wT w)(hL:gJ wL vL bs ls w)(hO:dZ wO bm vF lb (aj ls) w)(hin:InF ls)(hk4:∀x∈ls,x.kind=4->x.x.k<eJ az)(hnl:eJ ls<=1000001)(hkk:∀x∈ls,1<=x.kind/\x.kind<=4)(h0:(firstP (aj ls) ls {} 0).1=0):fS prog 43 #[vL,fY #[kq (eK bm),vF]] w λe w'=>wD w (firstP (aj ls) ls {} 0) e w':=by
 have BU:ah (∀w',aa af w w'->∀x∈ls,x.kind=4->dO w' (bs[x.x.k]?.getD 0) x.x.o):=λw' m' x hx h4=>by
  have h1:=hk4 x hx h4;have h2:x.x.k<eJ bs:=by rw[hT.len];exact h1
  have:=(hT.ai (m.trans m')).at' x.x.k h2 h1;rw[List.getElem?_eq_getElem h2];unfold fD.o;rw[List.getElem?_eq_getElem h1];exact this
 have LK:=aq hL;have hol:=ab (Mf ls) hnl
 have Q5:ah (∀i (hi:i<eJ ls) (b bM bF:Nat) (vl:fa) (k:WK) (w':tW),EK ls i k->gp w b bm vF bM bF vl k w'->fS prog 72 #[vP b,fY (ls[i].cells bs)] w' λe w''=>mf w b bm bM bF vF (jk k ls[i]) (eG (aj ls) k ls[i]) e w''):=λi hi b bM bF vl k w' hk hw=>by
  have hm:=rU ls i;refine ZT wO w w' b bm bM bF vF vl lb (aj ls) k bs ls[i] hO hw (λh4 W hW=>BU.o W hW _ (ao hi) h4) hk.m (hkk _ (ao hi)) hk.f (λOb=>?_) (λh2=>?_) (by rw[hk.n];exact hm) hol ?_ ?_ ?_
  ·have:=hin i hi Ob;intro e;have hn:=hk.n;rw[e]at hn;exact this (List.length_eq_zero_iff.1 hn.symm)
  ·rw[hk.n];exact JK ls i hi h2
  ·have:=hk.s;omega
  ·have:=hk.ml;omega
  ·have:=hk.ll;omega
 have HDR:ah (∀i (h:i<eJ ls) k n,firstP (aj ls) (ls.drop i) k n=if eG (aj ls) k ls[i]=0 then firstP (aj ls) (ls.drop (i+1)) (jk k ls[i]) (n+1)else(eG (aj ls) k ls[i],n+1)):=λi h k n=>JI _ ls i h k n;have Ff:ah (∀e w',e=fW (.tuple #[vI (firstP (aj ls) ls {} 0).1,vI (firstP (aj ls) ls {} 0).2])->aa af w w'->wD w (firstP (aj ls) ls {} 0) e w'):=λe w' h1 h2=>⟨h1,h2⟩
 obtain⟨oL,cL,rfl,_⟩:=hL.sl.view;obtain⟨oF,cF,kC,_⟩:=hO.sl.view;have xx:ah (EK ls 0 {}):=⟨List.nodup_nil,List.nodup_nil,by rw[b9];rfl,ba _,ba _,ba _⟩
 have HST:=aq (λi k (hi:i<eJ ls) (h:EK ls i k) (hz:eG (aj ls) k ls[i]=0)=>h.step (aj ls) hi hz);have hmm:=@run_makeMap prog;generalize wD w (firstP (aj ls) ls {} 0)=RP at *;have QL:ah (firstP (aj ls) (ls.drop 0) {} 0=firstP (aj ls) ls {} 0):=rfl;have HZ:=aq h0;clear h0;generalize firstP (aj ls) ls {} 0=pr at *;clear hT m hL hO hin hk4 hkk;subst kC;generalize aj ls=o at *
 have HW0:ah (gp w (w.heap.size+1+1+1) bm (eS oF (eJ o.fs) cF) (w.heap.size+1) (w.heap.size+1+1) (kq eL) {} ((((w.alloc (fL #[kq (eK bm),eS oF (eJ o.fs) cF] 108)).alloc (lz #[] 0)).alloc (lz #[] 0)).alloc (fL #[kq (eK bm),eS oF (eJ o.fs) cF,kq (eK (w.heap.size+1)),kq (eK (w.heap.size+1+1)),kq eL,vI (-1),vI 0] 168))):=by
  have e1:(w.alloc (fL #[kq (eK bm),eS oF (eJ o.fs) cF] 108)).heap.size=w.heap.size+1:=by simp
  have e2:((w.alloc (fL #[kq (eK bm),eS oF (eJ o.fs) cF] 108)).alloc (lz #[] 0)).heap.size=w.heap.size+1+1:=by simp
  have e3:(((w.alloc (fL #[kq (eK bm),eS oF (eJ o.fs) cF] 108)).alloc (lz #[] 0)).alloc (lz #[] 0)).heap.size=w.heap.size+1+1+1:=by simp
  have m1:=ed.new (w.alloc (fL #[kq (eK bm),eS oF (eJ o.fs) cF] 108));have m2:=ed.new ((w.alloc (fL #[kq (eK bm),eS oF (eJ o.fs) cF] 108)).alloc (lz #[] 0));rw[e1]at m1;rw[e2]at m2;have hb:=au.new (((w.alloc (fL #[kq (eK bm),eS oF (eJ o.fs) cF] 108)).alloc (lz #[] 0)).alloc (lz #[] 0)) #[kq (eK bm),eS oF (eJ o.fs) cF,kq (eK (w.heap.size+1)),kq (eK (w.heap.size+1+1)),kq eL,vI (-1),vI 0] 168;rw[e3]at hb;refine⟨hb,(m1.ai ((aa.refl af _).alloc _) id).ai ((aa.refl af _).alloc _) id,m2.ai ((aa.refl af _).alloc _) id,⟨_,rfl⟩,λh=>absurd rfl h,by omega,by omega,((aw.alloc _).alloc _).alloc _⟩
 go_in;go_upto_region 1 with fail;go_wp2_with fail;generalize((((w.alloc (fL #[kq (eK bm),eS oF (eJ o.fs) cF] 108)).alloc (lz #[] 0)).alloc (lz #[] 0)).alloc (fL #[kq (eK bm),eS oF (eJ o.fs) cF,kq (eK (w.heap.size+1)),kq (eK (w.heap.size+1+1)),kq eL,vI (-1),vI 0] 168))=w4 at *;generalize w.heap.size+1+1+1=b at *;generalize w.heap.size+1+1=bF at *;generalize w.heap.size+1=bM at *;go_loopg [16] (eJ ls) (λq v16 wx=>∃(i:Nat) (k:WK) (vl:fa),i<=eJ ls/\v16=vI i/\gp w b bm (eS oF (eJ o.fs) cF) bM bF vl k wx/\EK ls i k/\firstP o (ls.drop i) k i=pr/\q=eJ ls-i)
 case atStart=>exact⟨0,_,_,ba _,rfl,HW0.o,xx.o,QL.o,rfl⟩
 case round =>
  obtain⟨i,k,vl,hi,rfl,hA,hok,hpr,rfl⟩:=hrel;have HA:=aq hA;have HK:=aq hok;have HP:=aq hpr;clear hA hok hpr HW0 xx QL;by_cases hlt:i<eJ ls
  ·obtain⟨g,cL',hv,hcl,hrow⟩:=LK.o.row i hlt;injection hv with hv1 hv2 hv3;subst hv1;have HRW:=hrow wr HA.o.md;have HD:ah (pr=if eG o k ls[i]=0 then firstP o (ls.drop (i+1)) (jk k ls[i]) (i+1)else(eG o k ls[i],i+1)):=by rw[ah,<-HP.o];exact HDR.o i hlt k i
   have HS:=aq (λhz=>HST.o i k hlt HK.o hz);have HF:=aq (λw' hw=>Q5.o i hlt b bM bF vl k w' HK.o hw);clear hrow hv3 Q5 BU HDR HST HP HK;generalize eG o k ls[i]=r at *;generalize jk k ls[i]=k' at *;generalize ls[i]=x at *;have jI:=aq (gV bs x);have Bk:=aq (cells_one bs x);have HB2:=aq (au.new wr (iA 0 ⟨#[]⟩ aF aF aF) 160);generalize x.cells bs=cs at *;go_upto_region 5 with(first |(refine eH rfl 160 (.tmp 19) rfl g (i*20) rfl cs _ HRW underlying160 rfl (by rw[jI.o];kernel_rfl) ?_) |(refine gx rfl 160 (.tmp 8) (.tmp 20) rfl wr.heap.size cs rfl rfl 160 _ HB2.o (by rw[jI.o];kernel_rfl) (by rw[jI.o];rfl) Bk.o ?_;intro W3 hB3 yK))
   have kT:=aq (HA.o.quiet yK.fresh);have HB3:=aq hB3;clear HA HB2 HRW yK hB3;generalize wr.heap.size=B at *;go_wp2_with (refine rl rfl 160 (.tmp 8) rfl B rfl 160 cs (0,0) _ HB3.o underlying160 rfl (by rw[jI.o];kernel_rfl) ?_);refine(HF.o _ kT.o).mono ?_;rintro e w5 ⟨rfl,vl',hw5⟩;have sQ:=aq hw5;clear hw5 kT HF HB3;by_cases hr:r=0
   ·have HS2:=aq (HS.o hr);clear HS;subst hr;have lU:ah (firstP o (ls.drop (i+1)) k' (i+1)=pr):=by rw[ah,HD.o,iP9 rfl]
    go_wp2_with fail;go_roundg (eJ ls-(i+1))
    case measure=>omega
    case rel=>exact⟨i+1,k',vl',by omega,by go_num,sQ.o,HS2.o,lU.o,rfl⟩
   ·exfalso;have h1:=HZ.o;rw[HD.o,iN9 hr]at h1;exact hr h1
  ·have lU:ah (pr=(0,0)):=by rw[ah,<-HP.o,List.drop_eq_nil_of_le (by omega)];rfl
   go_wp2_with fail;refine Ff.o _ _ ?_ HA.o.md;rw[lU.o];rfl
theorem Bw(w l:tLB):∀(os:List fO) (k:Nat) (p:fD),readFrom w l k os=eK p->p.k<k+eJ os
 |[],k,p,h=>by simp[readFrom]at h
 |o::os,k,p,h=>by
  rw[readFrom]at h;have ih:=Bw w l os (k+1) p;split at h
  ·split at h
   ·have:=ih h;simp;omega
   ·split at h
    ·injection h with h;subst h;simp
    ·have:=ih h;simp;omega
  ·have:=ih h;simp;omega
theorem Mg{l:tLB}{x:fE}(h:fZ l=eK x):x.kind=1:=by
 unfold fZ at h;split at h
 ·simp only[cG]at h;obtain⟨a,_,b,_,c,_,h⟩:=h;split at h
  ·injection h with h;subst h;rfl
  ·cases h
 ·cases h
theorem Vw{t:tLB}{x:fE}(h:dR t=eK x)(h4:x.kind=4):x.x.k<eJ az:=by
 unfold dR at h;simp only[cG]at h;obtain⟨l,_,h⟩:=h;split at h
 ·injection h with h;subst h;cases h4
 split at h
 ·split at h
  ·injection h with h;subst h;cases h4
  ·cases h
 split at h
 ·have:=Mg h;omega
 split at h
 ·split at h
  ·injection h with h;subst h;cases h4
  ·cases h
 ·rw[Option.map_eq_some_iff]at h;obtain⟨p,hp,rfl⟩:=h;have:=Bw _ _ az 0 p hp
  simpa using this
structure JL(nU:Bool)(ls:List fE):Prop where
 row:∀x∈ls,x.kind=4->x.x.k<eJ az
 inf:InF ls
 fn:nU=fR->(aj ls).fs≠[]
theorem JM(ls:List fE)(x:fE):aj (ls++[x])=cu (aj ls) x:=by unfold aj;rw[cP];rfl
theorem adK(o:OL)(x:fE)(h:o.fs≠[]\/x.kind=2):(cu o x).fs≠[]:=by
 rcases h with h|h
 ·have:=Bv o x;intro e;rw[e]at this;have h0:=Nat.le_zero.1 this;exact h (List.length_eq_zero_iff.1 h0)
 ·rw[cu,iN9 (by omega),iP9 h];simp
theorem JL.app{nU:Bool}{ls:List fE}{x:fE}(h:JL nU ls)(hx:x.kind=4->x.x.k<eJ az)(hn:¬((nU||x.kind==2)=fj/\(x.kind=3\/x.kind=4))):JL (nU||x.kind==2) (ls++[x]):=by
 refine⟨λy hy h4=>?_,λk hk Ob=>?_,λhf=>?_⟩
 ·rcases List.mem_append.1 hy with h1|h1
  ·exact h.row y h1 h4
  ·have:y=x:=by simpa using h1
   subst this;exact hx h4
 ·rcases Nat.lt_or_ge k (eJ ls) with e|e
  ·rw[List.getElem_append_left e]at Ob;rw[List.take_append_of_le_length (by omega)];exact h.inf k e Ob
  ·have hk':k=eJ ls:=by simp at hk;omega
   subst hk';have ex:(ls++[x])[eJ ls]'hk=x:=by simp
   rw[ex]at Ob;rw[List.take_left']
   ·apply h.fn;cases nU with
    |true=>rfl
    |false =>exfalso;refine hn ⟨?_,Ob⟩;simp;omega
   ·rfl
 ·rw[JM];refine adK _ _ ?_;cases nU with
  |true=>exact .inl (h.fn rfl)
  |false=>exact .inr (by simpa using hf)
theorem JN:∀(ts:List tLB) (nU:Bool) (n:Nat) (acc ls:List fE),parseP ts nU n acc=.inl ls->JL nU acc->∃f,JL f ls
 |[],nU,n,acc,ls,h,hk=>by rw[parseP]at h;injection h with h;subst h;exact⟨nU,hk⟩
 |t::ts,nU,n,acc,ls,h,hk=>by
  rw[parseP]at h;cases hl:dR t with
  |none=>rw[hl]at h;cases h
  |some x =>
   rw[hl]at h;simp only at h;split at h
   ·cases h
   ·rename_i hn
    exact JN ts _ _ _ ls h (hk.app (Vw hl) hn)
theorem Bz:∀(ts:List tLB) (nU:Bool) (n:Nat) (acc ls:List fE),parseP ts nU n acc=.inl ls->eJ ls=eJ acc+eJ ts
 |[],nU,n,acc,ls,h=>by rw[parseP]at h;injection h with h;subst h;simp
 |t::ts,nU,n,acc,ls,h=>by
  rw[parseP]at h;cases hl:dR t with
  |none=>rw[hl]at h;cases h
  |some x =>
   rw[hl]at h;simp only at h;split at h
   ·cases h
   ·have:=Bz ts _ _ _ ls h;simp at this ⊢;omega
theorem Q6{l:tLB}{ls:List fE}(h:parseP (linesP l) fj 0 []=.inl ls):InF ls/\(∀x∈ls,x.kind=4->x.x.k<eJ az)/\ls.length<=eJ l+1:=by obtain⟨f,hf⟩:=JN _ _ _ _ _ h ⟨λx hx=>(by cases hx),λk hk=>absurd hk (cH _),λe=>by cases e⟩;refine⟨hf.inf,hf.row,?_⟩;have h1:=Bz _ _ _ _ _ h;have h2:=Fx l;simp at h1;omega
theorem yl(n:bI)(w:tW)(hn:0<=(n.dC 9223372036854775808).getD 0/\(n.dC 9223372036854775808).getD 0<256):fS prog 150 #[n.dY] w λe w'=>e=fW (vB ((n.dC 9223372036854775808).getD 0))/\aa af w w':=by have HS:=aq (lV n);generalize(n.dC 9223372036854775808).isSome=sm at *;generalize(n.dC 9223372036854775808).getD 0=sg at *;unfold bI.dY at *;generalize gh (18446744073709551616<=n.v)=ng at *;generalize((n.v%18446744073709551616:Nat):Int)=nv at *;generalize n.minus=nm at *;obtain⟨h0,h1⟩:=hn;have HM:ah (aa af w (w.alloc (fL #[fX nm,vU nv,fX ng] 157))):=aw;go_in;go_wp2_with fail;refine(HS.o _).mono ?_;rintro e w2 ⟨rfl,m2⟩;have bP:=aq (HM.o.trans m2);clear m2 HM;go_wp2_with fail;go_ret;exact⟨rfl,bP.o⟩
def tL(n:bI):Int:=(n.dC 9223372036854775808).getD 0
theorem Q7(kd:Nat)(nm:tBA)(a b c:bI)(w:tW)(ha:0<=tL a/\tL a<256)(hb:0<=tL b/\tL b<256)(hc:0<=tL c/\tL c<256):fS prog 75 #[fY (iA kd nm a b c)] w λe w'=>e=fW (fY #[eR nm,vB (tL a),vB (tL b),vB (tL c)])/\aa af w w':=by
 have NY:ah (∀w,fS prog 150 #[a.dY] w λe w'=>e=fW (vB (tL a))/\aa af w w'):=λw=>yl a w ha;have HSB:ah (∀w,fS prog 150 #[b.dY] w λe w'=>e=fW (vB (tL b))/\aa af w w'):=λw=>yl b w hb;have HSC:ah (∀w,fS prog 150 #[c.dY] w λe w'=>e=fW (vB (tL c))/\aa af w w'):=λw=>yl c w hc;unfold bI.dY iA Jh at *;generalize tL a=sa at *;generalize gh (18446744073709551616<=a.v)=ag at *;generalize((a.v%18446744073709551616:Nat):Int)=av at *;generalize a.minus=am at *;generalize tL b=sb at *;generalize gh (18446744073709551616<=b.v)=bg at *;generalize((b.v%18446744073709551616:Nat):Int)=bv at *;generalize b.minus=bm at *;generalize tL c=sc at *;generalize gh (18446744073709551616<=c.v)=cg at *;generalize((c.v%18446744073709551616:Nat):Int)=cv at *;generalize c.minus=cm at *;generalize hcs:(#[vI kd,eR nm,fX am,vU av,fX ag,fX bm,vU bv,fX bg,fX cm,vU cv,fX cg,vO,vB (0:Nat),vB (0:Nat),.int .i16 0,vJ 0,vJ 0,eR ⟨#[]⟩,eR ⟨#[]⟩,fX fj]:tAV)=cs at *;have jI:=aq hcs.symm;clear hcs;have HB0:ah (au ((w.alloc (fL cs 160)).alloc (fL #[eR ⟨#[]⟩,vB 0,vB 0,vB 0] 100)) w.heap.size cs 160):=(au.new w _ _).alloc _
 have gq:ah (au ((w.alloc (fL cs 160)).alloc (fL #[eR ⟨#[]⟩,vB 0,vB 0,vB 0] 100)) (w.heap.size+1) #[eR ⟨#[]⟩,vB 0,vB 0,vB 0] 100):=by
  have:=au.new (w.alloc (fL cs 160)) #[eR ⟨#[]⟩,vB 0,vB 0,vB 0] 100;have e:(w.alloc (fL cs 160)).heap.size=w.heap.size+1:=by simp
  rw[e]at this;exact this
 have eW:ah (aa af w ((w.alloc (fL cs 160)).alloc (fL #[eR ⟨#[]⟩,vB 0,vB 0,vB 0] 100))):=aw.alloc _;have EB:ah (w.heap.size≠w.heap.size+1):=by rw[ah];omega
 have zZ:ah (w.heap.size<=w.heap.size+1):=by rw[ah];omega
 go_in;go_upto_region 1 with fail;generalize(w.alloc (fL cs 160)).alloc (fL #[eR ⟨#[]⟩,vB 0,vB 0,vB 0] 100)=w1 at *;generalize w.heap.size+1=R at *;have HWR:=aq zZ.o;generalize hB:w.heap.size=B at *;have TE:=aq (λ(e:Ext (Only R) w1)=>HB0.o.ai e.m (λh=>EB.o h));have d1:∀e:Ext (Only R) w1,e.w.cell? ⟨B,1,eL⟩=eK (eR nm):=λe=>((TE.o e).cell 1).trans (by rw[jI.o];rfl);have d2:∀e:Ext (Only R) w1,e.w.cell? ⟨B,2,eL⟩=eK (fX am):=λe=>((TE.o e).cell 2).trans (by rw[jI.o];rfl);have d3:∀e:Ext (Only R) w1,e.w.cell? ⟨B,3,eL⟩=eK (vU av):=λe=>((TE.o e).cell 3).trans (by rw[jI.o];rfl);have d4:∀e:Ext (Only R) w1,e.w.cell? ⟨B,4,eL⟩=eK (fX ag):=λe=>((TE.o e).cell 4).trans (by rw[jI.o];rfl);have d5:∀e:Ext (Only R) w1,e.w.cell? ⟨B,5,eL⟩=eK (fX bm):=λe=>((TE.o e).cell 5).trans (by rw[jI.o];rfl);have d6:∀e:Ext (Only R) w1,e.w.cell? ⟨B,6,eL⟩=eK (vU bv):=λe=>((TE.o e).cell 6).trans (by rw[jI.o];rfl);have d7:∀e:Ext (Only R) w1,e.w.cell? ⟨B,7,eL⟩=eK (fX bg):=λe=>((TE.o e).cell 7).trans (by rw[jI.o];rfl);have d8:∀e:Ext (Only R) w1,e.w.cell? ⟨B,8,eL⟩=eK (fX cm):=λe=>((TE.o e).cell 8).trans (by rw[jI.o];rfl);have d9:∀e:Ext (Only R) w1,e.w.cell? ⟨B,9,eL⟩=eK (vU cv):=λe=>((TE.o e).cell 9).trans (by rw[jI.o];rfl);have d10:∀e:Ext (Only R) w1,e.w.cell? ⟨B,10,eL⟩=eK (fX cg):=λe=>((TE.o e).cell 10).trans (by rw[jI.o];rfl)
 haveI:Nonempty (Ext (Only R) w1):=Ext.ne _ _
 refine bQ [5,9,13,15] (λw'=>∃e:Ext (Only R) w1,w'=e.w) (by kernel_rfl) (by kernel_rfl) (by kernel_rfl) ⟨⟨_,aN⟩,rfl⟩ ?_
 iterate 5 (refine aG rfl rfl rfl ?_;intro K hK;go_big_quiet_op;go_big_quiet_on)
 refine aH rfl rfl ?_;intro K hK;go_big_op;refine(NY.o _).mono ?_;rintro e w2 ⟨rfl,m2⟩;have Mw2:=aq (aN.trans m2);refine hK _ _ rfl ⟨⟨_,Mw2.o.mono (λ_ _ h=>h.elim)⟩,rfl⟩ ?_;clear hK K m2
 iterate 3 (refine aG rfl rfl rfl ?_;intro K hK;go_big_quiet_op;go_big_quiet_on)
 refine aH rfl rfl ?_;intro K hK;go_big_op;refine(HSB.o _).mono ?_;rintro e w3 ⟨rfl,m2⟩;have Mw3:=aq (Mw2.o.trans m2);refine hK _ _ rfl ⟨⟨_,Mw3.o.mono (λ_ _ h=>h.elim)⟩,rfl⟩ ?_;clear hK K m2
 iterate 3 (refine aG rfl rfl rfl ?_;intro K hK;go_big_quiet_op;go_big_quiet_on)
 refine aH rfl rfl ?_;intro K hK;go_big_op;refine(HSC.o _).mono ?_;rintro e w4 ⟨rfl,m2⟩;have Mw4:=aq (Mw3.o.trans m2);refine hK _ _ rfl ⟨⟨_,Mw4.o.mono (λ_ _ h=>h.elim)⟩,rfl⟩ ?_;clear hK K m2
 iterate 1 (refine aG rfl rfl rfl ?_;intro K hK;go_big_quiet_op;go_big_quiet_on)
 refine aH rfl rfl ?_;intro K hK;have hr:=gq.o.ai Mw4.o id;have r0:=hr.cell 0;have r1:=hr.cell 1;have r2:=hr.cell 2;have r3:=hr.cell 3;have rf:=hr.frozen;have KZ:ah (au ((((w4.setCell ⟨R,0,eL⟩ (eR nm)).setCell ⟨R,1,eL⟩ (vB sa)).setCell ⟨R,2,eL⟩ (vB sb)).setCell ⟨R,3,eL⟩ (vB sc)) R #[eR nm,vB sa,vB sb,vB sc] 100):=(((hr.set 0 _).set 1 _).set 2 _).set 3 _;have jo:ah (aa (Only R) w1 ((((w4.setCell ⟨R,0,eL⟩ (eR nm)).setCell ⟨R,1,eL⟩ (vB sa)).setCell ⟨R,2,eL⟩ (vB sb)).setCell ⟨R,3,eL⟩ (vB sc))):=((((Mw4.o.mono (λ_ _ h=>h.elim)).bA _ _).bA _ _).bA _ _).bA _ _;go_big_op;refine hK _ _ rfl ⟨⟨_,jo.o⟩,rfl⟩ ?_;clear hK K hr r0 r1 r2 r3 rf;refine bZ ?_;simp only[Exit.then];have Q8:=eW.o.step jo.o (λi hi e=>by have e':i=R:=e;have:=HWR.o;omega);go_wp2_with fail;exact bodyPost_ret (results_cell_row results75 _ _ R 100 #[eR nm,vB sa,vB sb,vB sc] (0,0) _ rfl KZ.o underlying100 rfl (by kernel_rfl)) rfl ⟨rfl,Q8⟩
theorem Mh(w:tW)(b:Nat)(o:fO)(hA:dO w b o)(d:Int)(s:Nat)(num high jump:Int)(label name:tBA)(slot target:Nat)(hs:slot<=30000)(ht:target<=30000)(ho:o.slots<=2):fS prog 76 #[fY #[vP b,vB d,vB s,.int .i16 jump,vJ num,vJ high,eR label,eR name],vI slot,vI target] w λe w'=>e=fW (.int .i16 ((target:Int)-slot-o.slots))/\aa af w w':=by have hA1:=hA.ai (ax.alloc (fL #[vP b,vB d,vB s,.int .i16 jump,vJ num,vJ high,eR label,eR name] 138));obtain⟨p1,p2,p3,p4,p5,p6,p7,p8,p9,p10,p11,CU,_⟩:=hA1.ex;have o2:=CU.cell 2;have HM:ah (aa af w (w.alloc (fL #[vP b,vB d,vB s,.int .i16 jump,vJ num,vJ high,eR label,eR name] 138))):=aw;clear CU hA1 hA;generalize o.slots=os at *;go_in;go_wp2_with fail;go_ret;exact⟨rfl,HM.o⟩
theorem ZU(n slot:Nat)(q:PR):eJ (Ak n slot q).2.rest<=eJ q.rest:=by refine ab (uU _) ?_;refine ab (zt _) ?_;exact gX q
theorem Q9{w:tW}{g n c:Nat}{bs:tLN}{l:List PI}(h:Sl w 138 8 (eS (eK ⟨g,0,eL⟩) n c) n (fH bs l))(hn:n=eJ l)(k:Nat)(hk:k<eJ l)(nm:tLB):Sl (w.setCell ⟨g,k*8+7,eL⟩ (eR (T nm))) 138 8 (eS (eK ⟨g,0,eL⟩) n c) n (fH bs (l.set k {l[k]with name:=nm})):=by
 have:=h.setAt (k*8+7) (eR (T nm)) (by omega);unfold fH at *
 rwa [iO (λx:PI=>(x.ins bs).eQ) 8 (λ_=>rfl) l k 7 hk (by omega) (eR (T nm)) {l[k]with name:=nm} rfl]at this
theorem pR.name{w:tW}{lo:Nat}{bs:tLN}{v:fa}{fs:List bz}{vs:tLV}(h:pR w lo bs v fs vs)(i:Nat)(hi:i<eJ fs)(hv:i<eJ vs){g n c:Nat}(he:vs[i]=eS (eK ⟨g,0,eL⟩) n c)(k:Nat)(hk:k<eJ fs[i].code)(nm:tLB):pR (w.setCell ⟨g,k*8+7,eL⟩ (eR (T nm))) lo bs v (fs.set i ⟨fs[i].name,fs[i].code.set k {fs[i].code[k]with name:=nm}⟩) vs:=by
 have m:aa (Only g) w (w.setCell ⟨g,k*8+7,eL⟩ (eR (T nm))):=ax.bA _ _;have hs:=h.cd i hi hv;have hg:vs[i].ownBlock=eK g:=by rw[he];rfl
 have hnm:(fs.set i ⟨fs[i].name,fs[i].code.set k {fs[i].code[k]with name:=nm}⟩).map (·.name)=fs.map (·.name):=by
  rw[List.map_set]
  exact List.ext_getElem (by simp) (λj h1 h2=>by
   rw[List.getElem_set];split
   ·rename_i e;subst e;simp
   ·rfl)
 refine⟨by simp[h.len],?_,λj h1 h2=>?_,λf hf x hx=>?_,h.own,h.ma,h.ne⟩
 ·rw[hnm,cI];exact h.sl.ai m (λk' hk' e=>hs.apart h.sl (by decide) hg (hk'.trans (congrArg eK e)))
 ·rw[cI]at h1;by_cases e:i=j
  ·subst e;simp only[List.getElem_set_self,cI];rw[he]at hs ⊢;have hn:n=eJ fs[i].code:=by obtain⟨o,cp,e1,_⟩:=hs.view;cases e1;rfl
   subst hn;exact Q9 hs rfl k hk nm
  ·rw[List.getElem_set_ne e];exact(h.cd j h1 h2).ai m (λk' hk' e'=>h.ne i j hv h2 e g hg (hk'.trans (congrArg eK e')))
 ·rcases cy hf with h'|h'
  ·exact h.ok f h' x hx
  ·subst h';rcases cy hx with h''|h''
   ·exact h.ok fs[i] (ao hi) x h''
   ·subst h'';have:=h.ok fs[i] (ao hi) fs[i].code[k] (ao hk);exact⟨this.k,this.d,this.s,this.j,this.n,this.h⟩
structure BX(w0:tW)(lo b:Nat)(bs:tLN)(q:PR)(vF:fa)(fs:List bz)(vs:tLV)(w:tW):Prop where
 rd:eu w b q
 fn:pR w lo bs vF fs vs
 md:aa (λk=>k=b\/lo<=k) w0 w
theorem BX.read{w0 w w':tW}{lo b:Nat}{bs:tLN}{q q':PR}{vF:fa}{fs:List bz}{vs:tLV}(h:BX w0 lo b bs q vF fs vs w)(hr:eu w' b q')(m:aa (Only b) w w'):BX w0 lo b bs q' vF fs vs w' :=
 ⟨hr,h.fn.read h.rd m,h.md.trans (m.mono (λ_ _ e=>.inl e))⟩
theorem BX.quiet{w0 w w':tW}{lo b:Nat}{bs:tLN}{q:PR}{vF:fa}{fs:List bz}{vs:tLV}(h:BX w0 lo b bs q vF fs vs w)(m:aa af w w'):BX w0 lo b bs q vF fs vs w' :=
 ⟨au.ai h.rd m id,h.fn.quiet m,h.md.trans (m.of_nil)⟩
theorem BX.name{w0 w:tW}{lo b:Nat}{bs:tLN}{q:PR}{vF:fa}{fs:List bz}{vs:tLV}(h:BX w0 lo b bs q vF fs vs w)(i:Nat)(hi:i<eJ fs)(hv:i<eJ vs){g n c:Nat}(he:vs[i]=eS (eK ⟨g,0,eL⟩) n c)(k:Nat)(hk:k<eJ fs[i].code)(nm:tLB):BX w0 lo b bs q vF (fs.set i ⟨fs[i].name,fs[i].code.set k {fs[i].code[k]with name:=nm}⟩) vs (w.setCell ⟨g,k*8+7,eL⟩ (eR (T nm))) :=
 ⟨au.setOther h.rd (λe=>(h.fn.cd i hi hv).aA h.rd (by decide) (by rw[he];exact congrArg eK e)) _,h.fn.name i hi hv he k hk nm,h.md.set (.inl (.inr (h.fn.ma _ (ao hv) g (by rw[he];rfl)))) _⟩
