import Derived.Test.YtekmhcbefnmflaaGreatDoorCL13
import Derived.Test.YtekmhcbefnmflaaGreatDoorCL14
namespace Go.Proofs.YtekmhcbefnmflaaGreatDoor
open Go.RowKit Tryz
open _root_.Array renaming length_toList->b5
open Int renaming cast_ofNat_Int->an
open List renaming not_mem_nil->ab,take_succ_eq_append_getElem->ao,mem_cons->ar,flatMap_append->bh,take_of_length_le->bt,length->ee
open Nat renaming le_refl->b9
open Bool renaming true->eJ,false->eE
open Ending renaming returned->fR
open Obj renaming cells->eR
open Option renaming some->eC,none->ez
open Value renaming agg->fW,slice->eK,string->eI,func->eL,bool->fS
open _root_.Go renaming Value->eM,maxLen->fX,Calls->fL,info_parts->lO,wpQuiet_nil->lz
set_option linter.all false
set_option maxRecDepth 100000
set_option maxHeartbeats 1000000
def P8(k:Nat):List dX:=(jX.zipIdx.take k).flatMap λx=>BC x.2 x.1
theorem UU(k:Nat)(h:k<12):P8 (k+1)=P8 k++BC k (jX[k]'h):=by
 have:∀k:Fin 12,P8 (k.1+1)=P8 k.1++BC k.1 (jX[k.1]'k.2):=by intro k;unfold P8;rw[ao (by simp;exact k.2),bh];simp;rfl
 exact this ⟨k,h⟩
theorem abr(uj:List AV)(hl:ee uj=12)(k:Nat)(hk:k<12)(w:tW):(Instr.index 231 (fW (arC uj).toArray) (vI k)).run prog w=.ok (fW (AV.cells (jX[k]'hk) (uj[k]'(by omega))).toArray) w:=by
 match uj,hl with
 |[a0,a1,a2,a3,a4,a5,a6,a7,a8,a9,a10,a11],_ =>
  have:k=0\/k=1\/k=2\/k=3\/k=4\/k=5\/k=6\/k=7\/k=8\/k=9\/k=10\/k=11:=by omega
  rcases this with rfl|rfl|rfl|rfl|rfl|rfl|rfl|rfl|rfl|rfl|rfl|rfl<;>rfl
theorem aT.lt{base:Nat}{w:tW}{v:eM}{bs:tLN}{os:List dX}(h:aT base w v bs os):∀b∈bs,b<w.heap.size:=λb hb=>by
 obtain⟨i,hi,rfl⟩:=List.getElem_of_mem hb;exact(h.at' i hi (by rw[<-h.len];exact hi)).lt
theorem aT.grow{base:Nat}{w0 wX w':tW}{v v':eM}{bs:tLN}{os:List dX}(cs:tLN)(ps:List dX)(h:aT base w0 v bs os)(m0:aa ah w0 wX)(hlen:ee cs=ee ps)(hc:cs.Pairwise (·<·))(hlo:∀c∈cs,w0.heap.size<=c)(hat:∀i (h:i<ee cs) (h':i<ee ps),eu wX cs[i] ps[i]) (hsl:Sl w' 138 1 v' (ee bs+ee cs) (bs.map gG++cs.map gG)) (m:aa (λk=>v.ownBlock=eC k) wX w') (ho:∀k,v'.ownBlock=eC k->v.ownBlock=eC k\/wX.heap.size<=k)(hb:base<=w0.heap.size):aT base w' v' (bs++cs) (os++ps):=by refine(h.ae m0).app hlen ?_ hat (λb hb'=>Nat.le_trans hb (hlo b hb')) hsl m ho (Nat.le_trans hb m0.size);rw[List.nodup_append];refine⟨h.nd,hc.imp (λh=>Nat.ne_of_lt h),λa ha b hb' e=>?_⟩;have h1:=h.lt a ha;have h2:=hlo b hb';omega
theorem PartsAt.new(w:tW)(pv:List (PK×PV))(h:∀x∈pv,x.2.Ok w x.1)(cs:tAV)(hc:cs.toList=pv.flatMap (λx=>x.2.cells x.1.fills))(n:Nat)(hn:ee pv=n)(hm:n<=100):PartsAt (w.alloc (eR cs 225)) (eK (eC ⟨w.heap.size,0,ez⟩) n n) (pv.map (·.1)):=by
 subst hn;have hl:=TT (λx:PK×PV=>x.2.cells x.1.fills) 4 (λ_=>rfl) pv;refine⟨pv,rfl,λx hx=>(h x hx).kp aq.kp,?_⟩;refine XX.sl ⟨b9 _,by unfold fX;omega,?_,?_,hl⟩ (ak.new w cs 225)
 ·rw[<-b5,hc,hl]
 ·rw[hc,bt (by rw[hl];exact b9 _)]
theorem PV.Ok.ae{w w':tW}{p:PK}{v:PV}(h:v.Ok w p)(m:aa ah w w'):v.Ok w' p:=h.kp m.kp
theorem uk:(prog.info? 138).map (λi=>(i.zero,i.size,i.bytes))=eC (eC (vO),1,8):=by kernel_rfl
theorem um(bs:tLN):∀u∈bs.map gG,u.oneCell'=eJ:=by intro u hu;obtain⟨b,_,rfl⟩:=List.mem_map.1 hu;rfl
theorem NT(k:Nat)(h:k<=12):ee (P8 k)=4*k:=by
 have:∀k:Fin 13,ee (P8 k.1)=4*k.1:=by decide +kernel
 exact this ⟨k,by omega⟩
theorem j8(w:tW)(c:Int)(code:Nat)(hc:c=code)(s:tBA)(word:tLB)(hs:s=T word)(v:eM)(ps:List PK)(f9:Fn)(c9:tAV)(hP:PartsAt w v ps)(hwl:ee word<=100)(hpl:ee ps<=10)(d:UR)(hd:dw code=d)(hD:DoAt w f9 c9 d):fL prog 116 #[vB c,eI s,v,eL f9 #[] c9] w λe w'=>∃b,e=fR (vP b)/\eu w' b (gY code word ps)/\w.heap.size<=b/\aa ah w w':=by subst hc hs hd;exact YS w code word v ps f9 c9 hP hwl hpl hD
theorem IM(k:Nat)(h:k<12):(T (jX[k]'h)).size<=90:=by
 have:∀k:Fin 12,(T (jX[k.1]'k.2)).size<=90:=by decide +kernel
 exact this ⟨k,h⟩
def Le(w:tW)(uj:List AV):Prop:=∀k (_:k<12) (h:k<ee uj),iR w uj[k].f1 uj[k].c1 (m64 k) (k-1)/\iR w uj[k].f2 uj[k].c2 (m32 k) (k-1)
theorem Le.kp{w w':tW}{uj:List AV}(h:Le w uj)(m:Kp w w'):Le w' uj:=λk a b=>⟨(h k a b).1.blk m.PY,(h k a b).2.blk m.PY⟩
theorem Le.ae{w w':tW}{uj:List AV}(h:Le w uj)(m:aa ah w w'):Le w' uj:=h.kp m.kp
theorem Gc(w:tW):fL prog 55 #[] w λe w'=>∃v bs,e=fR v/\aT w.heap.size w' v bs K0/\aa ah w w':=by
 obtain⟨iP,hiP,sK,hsP,wJ⟩:=lO uk;go_in;go_wp2_with fail;refine(lJ _).mono ?_;rintro e aw0 ⟨⟨qO,qP,qQ,qR,qU,qV⟩,rfl,UW,UX⟩;go_wp2_with fail;refine(gj _).mono ?_;rintro e aw1 ⟨⟨qW,qX,qY,qZ,ra,rj⟩,rfl,UY,Lf⟩;go_wp2_with fail;refine(oD _).mono ?_;rintro e Lg ⟨⟨rq,ru,ry,rz,rA,rC⟩,rfl,UZ,Gd⟩
 have U0:af (PartsAt (Lg.alloc (eR #[vI 1,eL qO #[] qP,eL (.func qQ) #[] qR,eL (.func qU) #[] qV,vI 0,eL qW #[] qX,eL (.func qY) #[] qZ,eL (.func ra) #[] rj,vI 2,eL rq #[] ru,eL (.func ry) #[] rz,eL (.func rA) #[] rC] 225)) (eK (eC ⟨Lg.heap.size,0,ez⟩) 3 3) lW):=PartsAt.new Lg [(.result,⟨qO,qP,qQ,qR,qU,qV⟩),(.comma,⟨qW,qX,qY,qZ,ra,rj⟩),(.source,⟨rq,ru,ry,rz,rA,rC⟩)] (by
  simp only[ar,ab,or_false];rintro x (rfl|rfl|rfl)
  ·exact((UW.ae Lf).ae Gd)
  ·exact(UY.ae Gd)
  ·exact UZ) _ rfl 3 rfl (by decide)
 have Tw:af (aa ah w (Lg.alloc (eR #[vI 1,eL qO #[] qP,eL (.func qQ) #[] qR,eL (.func qU) #[] qV,vI 0,eL qW #[] qX,eL (.func qY) #[] qZ,eL (.func ra) #[] rj,vI 2,eL rq #[] ru,eL (.func ry) #[] rz,eL (.func rA) #[] rC] 225))):=((((aa.refl ah w).trans UX).trans Lf).trans Gd).alloc _;clear UW UX UY Lf UZ Gd;simp only[PV.cells,PK.fills,an];go_wp2_with fail;generalize Lg.alloc (eR #[vI 1,eL qO #[] qP,eL (.func qQ) #[] qR,eL (.func qU) #[] qV,vI 0,eL qW #[] qX,eL (.func qY) #[] qZ,eL (.func ra) #[] rj,vI 2,eL rq #[] ru,eL (.func ry) #[] rz,eL (.func rA) #[] rC] 225)=W1 at *;generalize Lg.heap.size=g1 at *;refine(lJ _).mono ?_;rintro e bw0 ⟨⟨uo,uq,ur,uu,uw,uy⟩,rfl,bk0,U1⟩;go_wp2_with fail;refine(gj _).mono ?_;rintro e bw1 ⟨⟨uz,uA,uB,uC,uD,uE⟩,rfl,bk1,NU⟩;go_wp2_with fail;refine(uh _).mono ?_;rintro e bw2 ⟨⟨uF,uG,uH,uI,uJ,uK⟩,rfl,bk2,IP⟩
 have bHP:af (PartsAt (bw2.alloc (eR #[vI 1,eL uo #[] uq,eL (.func ur) #[] uu,eL (.func uw) #[] uy,vI 0,eL uz #[] uA,eL (.func uB) #[] uC,eL (.func uD) #[] uE,vI 8,eL uF #[] uG,eL (.func uH) #[] uI,eL (.func uJ) #[] uK] 225)) (eK (eC ⟨bw2.heap.size,0,ez⟩) 3 3) mZ):=PartsAt.new bw2 [(.result,⟨uo,uq,ur,uu,uw,uy⟩),(.comma,⟨uz,uA,uB,uC,uD,uE⟩),(.number,⟨uF,uG,uH,uI,uJ,uK⟩)] (by
  simp only[ar,ab,or_false];rintro x (rfl|rfl|rfl)
  ·exact((bk0.ae NU).ae IP)
  ·exact(bk1.ae IP)
  ·exact bk2) _ rfl 3 rfl (by decide)
 have bHM:=ai ((((Tw.o.trans U1).trans NU).trans IP).alloc (eR #[vI 1,eL uo #[] uq,eL (.func ur) #[] uu,eL (.func uw) #[] uy,vI 0,eL uz #[] uA,eL (.func uB) #[] uC,eL (.func uD) #[] uE,vI 8,eL uF #[] uG,eL (.func uH) #[] uI,eL (.func uJ) #[] uK] 225));have IQ:af (PartsAt (bw2.alloc (eR #[vI 1,eL uo #[] uq,eL (.func ur) #[] uu,eL (.func uw) #[] uy,vI 0,eL uz #[] uA,eL (.func uB) #[] uC,eL (.func uD) #[] uE,vI 8,eL uF #[] uG,eL (.func uH) #[] uI,eL (.func uJ) #[] uK] 225)) (eK (eC ⟨g1,0,ez⟩) 3 3) lW):=U0.o.ae (((((aa.refl ah _).trans U1).trans NU).trans IP).alloc _);clear U0 bk0 U1 bk1 NU bk2 IP;simp only[PV.cells,PK.fills,an];clear Tw;go_wp2_with fail;generalize bw2.alloc (eR #[vI 1,eL uo #[] uq,eL (.func ur) #[] uu,eL (.func uw) #[] uy,vI 0,eL uz #[] uA,eL (.func uB) #[] uC,eL (.func uD) #[] uE,vI 8,eL uF #[] uG,eL (.func uH) #[] uI,eL (.func uJ) #[] uK] 225)=W2 at *;generalize bw2.heap.size=g2 at *;refine(La _).mono ?_;rintro e w7 ⟨uj,hlen,rfl,m7,NQ⟩;have Tx:=ai NQ;clear NQ;have HI:af (∀(k:Nat) (hk:k<12) (W:tW),(Instr.index 231 (fW (arC uj).toArray) (vI k)).run prog W=.ok (fW (AV.cells (jX[k]'hk) (uj[k]'(by omega))).toArray) W):=λk hk W=>abr uj hlen k hk W;have xz:=ai (IQ.o.ae m7);have pO:=ai (bHP.o.ae m7);have HM:=ai (bHM.o.trans m7);clear IQ bHP bHM m7;generalize(arC uj).toArray=AC at *;go_wp2_with fail;go_loopw [3,17] (λo i wl=>∃(k:Nat) (bs:tLN),k<=12/\i=vI k/\aT w.heap.size wl o bs (P8 k)/\PartsAt wl (eK (eC ⟨g1,0,ez⟩) 3 3) lW/\PartsAt wl (eK (eC ⟨g2,0,ez⟩) 3 3) mZ/\aa ah w wl/\Le wl uj) (λ_ i _=>12-(intOf i).toNat)
 case atStart=>exact⟨0,[],by omega,rfl,aT.nil _ _,xz.o,pO.o,HM.o,Tx.o⟩
 case round =>
  obtain⟨k,bs,hk,rfl,hO,hP1,hP2,hM,hAr⟩:=hrel;clear xz pO HM Tx;have Tx:=ai hAr;clear hAr;by_cases hlt:k<12
  ·have hidx:=HI.o k hlt;have HST:af (P8 (k+1)=P8 k++[gY (1+k) (jX[k]) lW,gY (17+k) (w32 (jX[k])) lW,gY (33+k) (jX[k]) mZ,gY (49+k) (w32 (jX[k])) mZ]):=UU k hlt;have HW:=ai (IM k hlt);have NQ:=Tx.o k hlt (by omega);have Hw:=ai (YM k hlt);generalize jX[k]=wd at *;generalize uj[k]=av at *;obtain⟨f1,c1,f2,c2⟩:=av;have vH:=ai NQ;clear NQ;simp only[AV.cells]at hidx;have HO:af _:=hO;have xz:af _:=hP1;have pO:af _:=hP2;have HM:af _:=hM;clear hO hP1 hP2 hM;have hwd:=HW.o;have HL:af (ee bs<=100):=by have:=HO.o.len;rw[NT k (by omega)]at this;exact(by omega:ee bs<=100)
   go_upto_region 8 with fail;have hA:=ak.new wr #[eI (T wd),eL f1 #[] c1,eL f2 #[] c2] 230;have HNo:af (u3.ownBlock≠eC wr.heap.size):=λe=>by have:=HO.o.sl.lt _ e;simp at this
   have q0:∀g:Ext (λk=>u3.ownBlock=eC k) (wr.alloc (eR #[eI (T wd),eL f1 #[] c1,eL f2 #[] c2] 230)),g.w.cell? ⟨wr.heap.size,0,ez⟩=eC (eI (T wd)):=λg=>g.cell hA HNo.o 0;have q1:∀g:Ext (λk=>u3.ownBlock=eC k) (wr.alloc (eR #[eI (T wd),eL f1 #[] c1,eL f2 #[] c2] 230)),g.w.cell? ⟨wr.heap.size,1,ez⟩=eC (eL f1 #[] c1):=λg=>g.cell hA HNo.o 1;have q2:∀g:Ext (λk=>u3.ownBlock=eC k) (wr.alloc (eR #[eI (T wd),eL f1 #[] c1,eL f2 #[] c2] 230)),g.w.cell? ⟨wr.heap.size,2,ez⟩=eC (eL f2 #[] c2):=λg=>g.cell hA HNo.o 2;have ne1:=Ext.ne (λk=>u3.ownBlock=eC k) (wr.alloc (eR #[eI (T wd),eL f1 #[] c1,eL f2 #[] c2] 230));refine bR [7,8,17,18,26,27,37,38,39,40] (λw'=>∃g:Ext (λk=>u3.ownBlock=eC k) (wr.alloc (eR #[eI (T wd),eL f1 #[] c1,eL f2 #[] c2] 230)),w'=g.w) (by kernel_rfl) (by kernel_rfl) (by kernel_rfl) ⟨⟨_,aU⟩,rfl⟩ ?_;have X0:af (aa ah wr (wr.alloc (eR #[eI (T wd),eL f1 #[] c1,eL f2 #[] c2] 230)).drew):=aq.drew;have Y0:af (aa ah (wr.alloc (eR #[eI (T wd),eL f1 #[] c1,eL f2 #[] c2] 230)) (wr.alloc (eR #[eI (T wd),eL f1 #[] c1,eL f2 #[] c2] 230)).drew):=aU
   iterate 7 (refine aG rfl rfl rfl ?_;intro K hK;go_big_quiet_op;go_big_quiet_on)
   refine aN rfl rfl ?_;intro K hK;go_big_op;refine(kQ _ _ _ _ _ eJ (vH.o.1.ae X0.o)).mono ?_;rintro e v0 ⟨fb0,cb0,rfl,IU,hd0⟩;have HD0:=ai hd0;clear hd0;have X1:=ai (X0.o.trans IU);have Y1:=ai (Y0.o.trans IU);have HV0:=ai X1.o;refine hK _ _ rfl ⟨⟨_,Y1.o.mono (λ_ _ h=>h.elim)⟩,rfl⟩ ?_;have MB0:af _:=IU;clear hK K IU X0 Y0;refine aN rfl rfl ?_;intro K hK;go_big_op;refine(j8 _ _ (1+k) (by omega) _ wd (rfl) _ lW _ _ (xz.o.ae X1.o) (by have:=HW.o;rw[bS]at this;omega) (by decide) _ Hw.o.1 HD0.o).mono ?_;rintro e r0 ⟨b0,rfl,hr0,hb0,IV⟩;have X2:=ai (X1.o.trans IV);have Y2:=ai (Y1.o.trans IV);have fQ:af _:=hr0;have MR0:af _:=IV;have HB0:=ai hb0;refine hK _ _ rfl ⟨⟨_,Y2.o.mono (λ_ _ h=>h.elim)⟩,rfl⟩ ?_;clear hK K X1 Y1 hr0 hb0 IV
   iterate 8 (refine aG rfl rfl rfl ?_;intro K hK;go_big_quiet_op;go_big_quiet_on)
   refine aN rfl rfl ?_;intro K hK;go_big_op;refine(kQ _ _ _ _ _ eJ (vH.o.2.ae X2.o)).mono ?_;rintro e v1 ⟨fb1,cb1,rfl,IW,hd1⟩;have HD1:=ai hd1;clear hd1;have X3:=ai (X2.o.trans IW);have Y3:=ai (Y2.o.trans IW);refine hK _ _ rfl ⟨⟨_,Y3.o.mono (λ_ _ h=>h.elim)⟩,rfl⟩ ?_;have U2:af _:=IW;clear hK K IW X2 Y2;refine aN rfl rfl ?_;intro K hK;go_big_op;refine(j8 _ _ (17+k) (by omega) _ (w32 wd) ((yF wd [51,50]).symm) _ lW _ _ (xz.o.ae X3.o) (by have:=HW.o;rw[bS]at this;simp[w32];omega) (by decide) _ Hw.o.2.1 HD1.o).mono ?_;rintro e r1 ⟨b1,rfl,hr1,hb1,IX⟩;have X4:=ai (X3.o.trans IX);have Y4:=ai (Y3.o.trans IX);have DZ:af _:=hr1;have MR1:af _:=IX;have HB1:=ai hb1;refine hK _ _ rfl ⟨⟨_,Y4.o.mono (λ_ _ h=>h.elim)⟩,rfl⟩ ?_;clear hK K X3 Y3 hr1 hb1 IX
   iterate 7 (refine aG rfl rfl rfl ?_;intro K hK;go_big_quiet_op;go_big_quiet_on)
   refine aN rfl rfl ?_;intro K hK;go_big_op;refine(kQ _ _ _ _ _ eE (vH.o.1.ae X4.o)).mono ?_;rintro e v2 ⟨fb2,cb2,rfl,mb2,hd2⟩;have HD2:=ai hd2;clear hd2;have X5:=ai (X4.o.trans mb2);have Y5:=ai (Y4.o.trans mb2);refine hK _ _ rfl ⟨⟨_,Y5.o.mono (λ_ _ h=>h.elim)⟩,rfl⟩ ?_;have MB2:af _:=mb2;clear hK K mb2 X4 Y4;refine aN rfl rfl ?_;intro K hK;go_big_op;refine(j8 _ _ (33+k) (by omega) _ wd (rfl) _ mZ _ _ (pO.o.ae X5.o) (by have:=HW.o;rw[bS]at this;omega) (by decide) _ Hw.o.2.2.1 HD2.o).mono ?_;rintro e r2 ⟨b2,rfl,hr2,hb2,mr2⟩;have X6:=ai (X5.o.trans mr2);have Y6:=ai (Y5.o.trans mr2);have iO:af _:=hr2;have MR2:af _:=mr2;have HB2:=ai hb2;refine hK _ _ rfl ⟨⟨_,Y6.o.mono (λ_ _ h=>h.elim)⟩,rfl⟩ ?_;clear hK K X5 Y5 hr2 hb2 mr2
   iterate 9 (refine aG rfl rfl rfl ?_;intro K hK;go_big_quiet_op;go_big_quiet_on)
   refine aN rfl rfl ?_;intro K hK;go_big_op;refine(kQ _ _ _ _ _ eE (vH.o.2.ae X6.o)).mono ?_;rintro e v3 ⟨fb3,cb3,rfl,mb3,hd3⟩;have HD3:=ai hd3;clear hd3;have X7:=ai (X6.o.trans mb3);have Y7:=ai (Y6.o.trans mb3);refine hK _ _ rfl ⟨⟨_,Y7.o.mono (λ_ _ h=>h.elim)⟩,rfl⟩ ?_;have MB3:af _:=mb3;clear hK K mb3 X6 Y6;refine aN rfl rfl ?_;intro K hK;go_big_op;refine(j8 _ _ (49+k) (by omega) _ (w32 wd) ((yF wd [51,50]).symm) _ mZ _ _ (pO.o.ae X7.o) (by have:=HW.o;rw[bS]at this;simp[w32];omega) (by decide) _ Hw.o.2.2.2 HD3.o).mono ?_;rintro e r3 ⟨b3,rfl,hr3,hb3,mr3⟩;have X8:=ai (X7.o.trans mr3);have Y8:=ai (Y7.o.trans mr3);have tJ:af _:=hr3;have MR3:af _:=mr3;have HB3:=ai hb3;refine hK _ _ rfl ⟨⟨_,Y8.o.mono (λ_ _ h=>h.elim)⟩,rfl⟩ ?_;clear hK K X7 Y7 hr3 hb3 mr3;refine aN rfl rfl ?_;intro K hK;go_big_op;refine hK _ _ rfl ⟨⟨_,(Y8.o.alloc _).mono (λ_ _ h=>h.elim)⟩,rfl⟩ ?_;clear hK K;refine aN rfl rfl ?_;intro K hK;refine eG _ (.tmp 24) (.tmp 63) 86 rfl 138 iP (vO) 1 8 underlying86 hiP sK hsP wJ rfl (by decide) u3 (ee bs) (bs.map gG) rfl (HO.o.ae (X8.o.alloc _)).sl ⟨r3.heap.size,0,ez⟩ 4 4 [gG b0,gG b1,gG b2,gG b3] rfl rfl (aY _ _ _ _ rfl) (um [b0,b1,b2,b3]) (by have:=HL.o;unfold fX;omega) (by have:=HL.o;omega) ?_;intro vA wA sA mA lA;obtain⟨oA,cA,rfl,_⟩:=Sl.view sA;refine hK _ _ rfl ⟨⟨_,((Y8.o.alloc _).mono (λ_ _ h=>h.elim)).step mA (λ_ _ h=>h)⟩,rfl⟩ ?_;clear hK K;simp only[Act.put,sA9,sB9,sC9]
   iterate 1 (refine aG rfl rfl rfl ?_;intro K hK;go_big_quiet_op;go_big_quiet_on)
   refine dR ?_;have H01:b0<b1:=by have:=fQ.o.lt;have:=U2.o.size;have:=HB1.o;omega
   have H12:b1<b2:=by have:=DZ.o.lt;have:=MB2.o.size;have:=HB2.o;omega
   have H23:b2<b3:=by have:=iO.o.lt;have:=MB3.o.size;have:=HB3.o;omega
   have H0:wr.heap.size<=b0:=by have:=HB0.o;have:=HV0.o.size;omega
   have HG:af (aT w.heap.size wA (eK oA (ee bs+4) cA) (bs++[b0,b1,b2,b3]) (P8 k++[gY (1+k) wd lW,gY (17+k) (w32 wd) lW,gY (33+k) wd mZ,gY (49+k) (w32 wd) mZ])) :=
    aT.grow [b0,b1,b2,b3] _ HO.o (X8.o.alloc _) rfl (by simp;omega) (by simp;omega) (λi h h'=>by
     have hi:i=0\/i=1\/i=2\/i=3:=by simp at h;omega
     rcases hi with rfl|rfl|rfl|rfl
     ·exact((((((fQ.o.ae U2.o).ae MR1.o).ae MB2.o).ae MR2.o).ae MB3.o).ae MR3.o).ae aq
     ·exact((((DZ.o.ae MB2.o).ae MR2.o).ae MB3.o).ae MR3.o).ae aq
     ·exact((iO.o.ae MB3.o).ae MR3.o).ae aq
     ·exact tJ.o.ae aq) sA mA lA HM.o.size
   simp only[Exit.inBlock,Exit.then];have Ge:=ai ((HM.o.trans (X8.o.alloc _)).step mA (λi hi h=>by have:=HO.o.own i h;omega));have HQ1:=ai ((xz.o.ae (X8.o.alloc _)).kp (aa.F9 (HO.o.ae (X8.o.alloc _)).sl mA));have HQ2:=ai ((pO.o.ae (X8.o.alloc _)).kp (aa.F9 (HO.o.ae (X8.o.alloc _)).sl mA));have HQ3:=ai ((Tx.o.ae (X8.o.alloc _)).kp (aa.F9 (HO.o.ae (X8.o.alloc _)).sl mA));rw[<-HST.o]at HG;clear q0 q1 q2 ne1 hA hidx H01 H12 H23 H0;go_wp2_with fail;go_roundw
   case rel=>exact⟨k+1,_,by omega,by go_num,HG.o,HQ1.o,HQ2.o,Ge.o,HQ3.o⟩
   case measure=>simp[intOf];omega
  ·obtain rfl:k=12:=by omega
   have HO:=ai hO;have HM:af _:=hM;clear hO hM hP1 hP2;go_wp2_with fail;refine(lJ _).mono ?_;rintro e w8 ⟨⟨ya,yb,yc,yd,ye,yf⟩,rfl,ok8,m8⟩;have HP8:af (PartsAt (w8.alloc (eR #[vI 1,eL ya #[] yb,eL (.func yc) #[] yd,eL (.func ye) #[] yf] 225)) (eK (eC ⟨w8.heap.size,0,ez⟩) 1 1) [.result]):=PartsAt.new w8 [(.result,⟨ya,yb,yc,yd,ye,yf⟩)] (by simp only[ar,ab,or_false];rintro x rfl;exact ok8) _ rfl 1 rfl (by decide);have Gf:=ai ((HM.o.trans m8).alloc (eR #[vI 1,eL ya #[] yb,eL (.func yc) #[] yd,eL (.func ye) #[] yf] 225));have HO8:af (aT w.heap.size (w8.alloc (eR #[vI 1,eL ya #[] yb,eL (.func yc) #[] yd,eL (.func ye) #[] yf] 225)) u3 bs (P8 12)):=HO.o.ae (m8.alloc _);clear ok8 m8 HO HM;simp only[PV.cells,PK.fills];go_wp2_with fail;generalize w8.alloc (eR #[vI 1,eL ya #[] yb,eL (.func yc) #[] yd,eL (.func ye) #[] yf] 225)=W8 at *;generalize w8.heap.size=g8 at *;have HL:af (ee bs<=100):=by have:=HO8.o.len;rw[NT 12 (by omega)]at this;exact(by omega:ee bs<=100)
   have X0:af (aa ah W8 W8):=aA;refine(Ch _ 11).mono ?_;rintro e p0 ⟨fp0,cp0,rfl,mp0,hp0⟩;have ae0:=ai (hp0.1);clear hp0;have X1:=ai (X0.o.trans mp0);have MP0:af _:=mp0;clear mp0;go_wp2_with fail;refine(kQ _ _ _ _ _ eE ae0.o).mono ?_;rintro e v0 ⟨fb0,cb0,rfl,IU,hd0⟩;have HD0:=ai hd0;clear hd0;have X2:=ai (X1.o.trans IU);have MB0:af _:=IU;clear IU;go_wp2_with fail;refine(j8 _ _ 13 rfl _ [110,101,103] rfl _ [.result] _ _ (HP8.o.ae X2.o) (by decide) (by decide) _ rfl HD0.o).mono ?_;rintro e r0 ⟨b0,rfl,hr0,hb0,IV⟩;have X3:=ai (X2.o.trans IV);have fQ:af _:=hr0;have MR0:af _:=IV;have HB0:=ai hb0;clear hr0 hb0 IV;go_wp2_with fail;refine(yO _ 11).mono ?_;rintro e p1 ⟨fp1,cp1,rfl,mp1,hp1⟩;have ae1:=ai (hp1);clear hp1;have X4:=ai (X3.o.trans mp1);have MP1:af _:=mp1;clear mp1;go_wp2_with fail;refine(kQ _ _ _ _ _ eE ae1.o).mono ?_;rintro e v1 ⟨fb1,cb1,rfl,IW,hd1⟩;have HD1:=ai hd1;clear hd1;have X5:=ai (X4.o.trans IW);have U2:af _:=IW;clear IW;go_wp2_with fail;refine(j8 _ _ 29 rfl _ [110,101,103,51,50] rfl _ [.result] _ _ (HP8.o.ae X5.o) (by decide) (by decide) _ rfl HD1.o).mono ?_;rintro e r1 ⟨b1,rfl,hr1,hb1,IX⟩;have X6:=ai (X5.o.trans IX);have DZ:af _:=hr1;have MR1:af _:=IX;have HB1:=ai hb1;clear hr1 hb1 IX;go_wp2_with (at_builtin;refine aP _ rfl (.tmp 68) (.tmp 77) 86 rfl 138 iP (vO) 1 8 underlying86 hiP sK hsP wJ rfl (by decide) u3 (ee bs) (bs.map gG) rfl (HO8.o.ae (X6.o.alloc _)).sl ⟨r1.heap.size,0,ez⟩ 2 2 [gG b0,gG b1] rfl rfl (aY _ _ _ _ rfl) (um [b0,b1]) (by have:=HL.o;unfold fX;omega) (by have:=HL.o;omega) ?_;intro vA wA sA mA lA;obtain⟨oA,cA,rfl,_⟩:=Sl.view sA);have H01:b0<b1:=by have:=fQ.o.lt;have:=MP1.o.size;have:=U2.o.size;have:=HB1.o;omega
   have H0:W8.heap.size<=b0:=by have:=HB0.o;have:=X2.o.size;omega
   have HG:af (aT w.heap.size wA (eK oA (ee bs+2) cA) (bs++[b0,b1]) (P8 12++[gY 13 [110,101,103] [.result],gY 29 [110,101,103,51,50] [.result]])) :=
    aT.grow [b0,b1] _ HO8.o (X6.o.alloc _) rfl (by simp;omega) (by simp;omega) (λi h h'=>by
     have hi:i=0\/i=1:=by simp at h;omega
     rcases hi with rfl|rfl
     ·exact(((fQ.o.ae MP1.o).ae U2.o).ae MR1.o).ae aq
     ·exact DZ.o.ae aq) sA mA lA Gf.o.size
   have Ge:=ai ((Gf.o.trans (X6.o.alloc _)).step mA (λi hi h=>by have:=HO8.o.own i h;omega));clear H01 H0;go_ret;exact⟨_,_,rfl,HG.o,Ge.o⟩
def IY(k:Nat):List dX:={gY 64 [106,97] [.label]with ends:=eJ}::(sH.zipIdx.take k).flatMap λx=>FX x.2 x.1
theorem U3(k:Nat)(h:k<11):IY (k+1)=IY k++FX k (sH[k]'h):=by
 have:∀k:Fin 11,IY (k.1+1)=IY k.1++FX k.1 (sH[k.1]'k.2):=by intro k;unfold IY;rw[ao (by simp;exact k.2),bh];simp;rfl
 exact this ⟨k,h⟩
theorem BF(k:Nat)(h:k<=11):ee (IY k)=2*k+1:=by
 have:∀k:Fin 12,ee (IY k.1)=2*k.1+1:=by decide +kernel
 exact this ⟨k,by omega⟩
theorem abt(xE:List JV)(hl:ee xE=11)(k:Nat)(hk:k<11)(w:tW):(Instr.index 241 (fW (juC xE).toArray) (vI k)).run prog w=.ok (fW (JV.cells (sH[k]'hk) (xE[k]'(by omega))).toArray) w:=by
 match xE,hl with
 |[a0,a1,a2,a3,a4,a5,a6,a7,a8,a9,a10],_ =>
  have:k=0\/k=1\/k=2\/k=3\/k=4\/k=5\/k=6\/k=7\/k=8\/k=9\/k=10:=by omega
  rcases this with rfl|rfl|rfl|rfl|rfl|rfl|rfl|rfl|rfl|rfl|rfl<;>rfl
theorem Lh(k:Nat)(h:k<11):(T (sH[k]'h)).size<=90:=by
 have:∀k:Fin 11,(T (sH[k.1]'k.2)).size<=90:=by decide +kernel
 exact this ⟨k,h⟩
theorem aT.fresh{base:Nat}{w:tW}(cs:tLN)(os:List dX)(hlen:ee cs=ee os)(hc:cs.Pairwise (·<·))(hlo:∀c∈cs,base<=c)(hat:∀i (h:i<ee cs) (h':i<ee os),eu w cs[i] os[i])(arr:tAV)(ha:arr.toList=cs.map gG)(n:Nat) (hn:ee cs=n) (afX:n<=100) (hb:base<=w.heap.size):aT base (w.alloc (eR arr 138)) (eK (eC ⟨w.heap.size,0,ez⟩) n n) cs os:=by
 subst hn;refine⟨hlen,hc.imp (λh=>Nat.ne_of_lt h),?_,λi h h'=>(hat i h h').ae aq,hlo,λk hk=>?_⟩
 ·refine XX.sl ⟨b9 _,by unfold fX;omega,?_,?_,by simp⟩ (ak.new w arr 138)
  ·rw[<-b5,ha];simp
  ·rw[ha,bt (by simp)]
 ·cases hk;exact hb
def dX.asJ(o:dX):dX:={o with jumps:=eJ}
def qb(os:List dX)(k:Nat):List dX:=(os.take k).map dX.asJ++os.drop k
theorem Li(os:List dX):qb os 0=os:=by simp[qb]
theorem P9(os:List dX):qb os (ee os)=os.map dX.asJ:=by simp[qb]
theorem vK(os:List dX)(k:Nat):ee (qb os k)=ee os:=by simp[qb];omega
theorem Lj(os:List dX)(k:Nat)(h:k<ee os):qb os (k+1)=(qb os k).set k os[k].asJ:=by
 unfold qb;rw[ao h,List.drop_eq_getElem_cons h,List.map_append];have hl:ee ((os.take k).map dX.asJ)=k:=by simp;omega
 rw[List.set_append,iN9 (by omega),hl,Nat.sub_self,List.append_assoc];rfl
theorem U4(os:List dX)(k:Nat)(h:k<ee os):(qb os k)[k]'(by rw[vK];exact h)=os[k]:=by
 have hl:ee ((os.take k).map dX.asJ)=k:=by simp;omega
 have:(qb os k)[k]?=eC os[k]:=by unfold qb;rw[List.getElem?_append_right (by omega),hl,Nat.sub_self,List.getElem?_drop];simp[h]
 rw[List.getElem?_eq_getElem (by rw[vK];exact h)]at this;exact Option.some.inj this
theorem aT.ae2{base:Nat}{w:tW}{v:eM}{bs:tLN}{os:List dX}(h:aT base w v bs os)(k:Nat)(hk:k<ee bs)(hk':k<ee os):aT base (w.setCell ⟨bs[k],3,ez⟩ (fS eJ)) v bs (os.set k os[k].asJ):=by
 have hO:=h.at' k hk hk';have hsl:Sl (w.setCell ⟨bs[k],3,ez⟩ (fS eJ)) 138 1 v (ee bs) (bs.map gG):=by refine h.sl.ae ((aa.refl (Only bs[k]) w).bz 3 _) (λj hj e=>?_);rw[show j=bs[k]from e]at hj;exact hO.Ld h.sl hj
 refine⟨by simp[h.len],h.nd,hsl,λi h1 h2=>?_,h.lo,h.own⟩;by_cases e:i=k
 ·subst e;rw[List.getElem_set_self];exact hO.jumps
 ·rw[List.getElem_set_ne (Ne.symm e)];exact(h.at' i h1 (by simpa using h2)).other hO.yN (λe2=>e (((List.getElem_inj h.nd).1 e2).symm)) 3 _
def Ll(w:tW)(xE:List JV):Prop:=∀k (_:k<11) (h:k<ee xE),qM w xE[k].f1 xE[k].c1 (jmM k) (jmK k)
theorem Ll.kp{w w':tW}{xE:List JV}(h:Ll w xE)(m:Kp w w'):Ll w' xE:=λk a b=>(h k a b).blk m.PY
theorem Ll.ae{w w':tW}{xE:List JV}(h:Ll w xE)(m:aa ah w w'):Ll w' xE:=h.kp m.kp
theorem IZ(w:tW):fL prog 56 #[] w λe w'=>∃v bs,e=fR v/\aT w.heap.size w' v bs NJ/\aa ah w w':=by
 obtain⟨iP,hiP,sK,hsP,wJ⟩:=lO uk;go_in;go_wp2_with fail;refine(mD _).mono ?_;rintro e aw0 ⟨⟨qO,qP,qQ,qR,qU,qV⟩,rfl,UW,UX⟩;go_wp2_with fail;refine(gj _).mono ?_;rintro e aw1 ⟨⟨qW,qX,qY,qZ,ra,rj⟩,rfl,UY,Lf⟩;go_wp2_with fail;refine(oD _).mono ?_;rintro e Lg ⟨⟨rq,ru,ry,rz,rA,rC⟩,rfl,UZ,Gd⟩;go_wp2_with fail;refine(gj _).mono ?_;rintro e aw3 ⟨⟨Gg,Gh,Gi,Gj,Gl,Gm⟩,rfl,ak3,U5⟩;go_wp2_with fail;refine(xB _).mono ?_;rintro e aw4 ⟨⟨Gn,Gp,Gq,Gr,Gs,Gt⟩,rfl,ak4,Qa⟩
 have U0:af (PartsAt (aw4.alloc (eR #[vI 1,eL qO #[] qP,eL (.func qQ) #[] qR,eL (.func qU) #[] qV,vI 0,eL qW #[] qX,eL (.func qY) #[] qZ,eL (.func ra) #[] rj,vI 2,eL rq #[] ru,eL (.func ry) #[] rz,eL (.func rA) #[] rC,vI 0,eL Gg #[] Gh,eL (.func Gi) #[] Gj,eL (.func Gl) #[] Gm,vI 4,eL Gn #[] Gp,eL (.func Gq) #[] Gr,eL (.func Gs) #[] Gt] 225)) (eK (eC ⟨aw4.heap.size,0,ez⟩) 5 5) ni):=PartsAt.new aw4 [(.operand,⟨qO,qP,qQ,qR,qU,qV⟩),(.comma,⟨qW,qX,qY,qZ,ra,rj⟩),(.source,⟨rq,ru,ry,rz,rA,rC⟩),(.comma,⟨Gg,Gh,Gi,Gj,Gl,Gm⟩),(.label,⟨Gn,Gp,Gq,Gr,Gs,Gt⟩)] (by
  simp only[ar,ab,or_false];rintro x (rfl|rfl|rfl|rfl|rfl)
  ·exact((((UW.ae Lf).ae Gd).ae U5).ae Qa)
  ·exact(((UY.ae Gd).ae U5).ae Qa)
  ·exact((UZ.ae U5).ae Qa)
  ·exact(ak3.ae Qa)
  ·exact ak4) _ rfl 5 rfl (by decide)
 have Tw:af (aa ah w (aw4.alloc (eR #[vI 1,eL qO #[] qP,eL (.func qQ) #[] qR,eL (.func qU) #[] qV,vI 0,eL qW #[] qX,eL (.func qY) #[] qZ,eL (.func ra) #[] rj,vI 2,eL rq #[] ru,eL (.func ry) #[] rz,eL (.func rA) #[] rC,vI 0,eL Gg #[] Gh,eL (.func Gi) #[] Gj,eL (.func Gl) #[] Gm,vI 4,eL Gn #[] Gp,eL (.func Gq) #[] Gr,eL (.func Gs) #[] Gt] 225))):=((((((aa.refl ah w).trans UX).trans Lf).trans Gd).trans U5).trans Qa).alloc _;clear UW UX UY Lf UZ Gd ak3 U5 ak4 Qa;simp only[PV.cells,PK.fills,an];go_wp2_with fail;generalize aw4.alloc (eR #[vI 1,eL qO #[] qP,eL (.func qQ) #[] qR,eL (.func qU) #[] qV,vI 0,eL qW #[] qX,eL (.func qY) #[] qZ,eL (.func ra) #[] rj,vI 2,eL rq #[] ru,eL (.func ry) #[] rz,eL (.func rA) #[] rC,vI 0,eL Gg #[] Gh,eL (.func Gi) #[] Gj,eL (.func Gl) #[] Gm,vI 4,eL Gn #[] Gp,eL (.func Gq) #[] Gr,eL (.func Gs) #[] Gt] 225)=W1 at *;generalize aw4.heap.size=g1 at *;refine(mD _).mono ?_;rintro e bw0 ⟨⟨uo,uq,ur,uu,uw,uy⟩,rfl,bk0,U1⟩;go_wp2_with fail;refine(gj _).mono ?_;rintro e bw1 ⟨⟨uz,uA,uB,uC,uD,uE⟩,rfl,bk1,NU⟩;go_wp2_with fail;refine(uh _).mono ?_;rintro e bw2 ⟨⟨uF,uG,uH,uI,uJ,uK⟩,rfl,bk2,IP⟩;go_wp2_with fail;refine(gj _).mono ?_;rintro e bw3 ⟨⟨Ci,Cj,Ck,Cl,Cm,Cn⟩,rfl,bk3,Qb⟩;go_wp2_with fail;refine(xB _).mono ?_;rintro e bw4 ⟨⟨Co,Cq,Cr,Cs,Ct,Cu⟩,rfl,bk4,Lm⟩
 have bHP:af (PartsAt (bw4.alloc (eR #[vI 1,eL uo #[] uq,eL (.func ur) #[] uu,eL (.func uw) #[] uy,vI 0,eL uz #[] uA,eL (.func uB) #[] uC,eL (.func uD) #[] uE,vI 8,eL uF #[] uG,eL (.func uH) #[] uI,eL (.func uJ) #[] uK,vI 0,eL Ci #[] Cj,eL (.func Ck) #[] Cl,eL (.func Cm) #[] Cn,vI 4,eL Co #[] Cq,eL (.func Cr) #[] Cs,eL (.func Ct) #[] Cu] 225)) (eK (eC ⟨bw4.heap.size,0,ez⟩) 5 5) oz):=PartsAt.new bw4 [(.operand,⟨uo,uq,ur,uu,uw,uy⟩),(.comma,⟨uz,uA,uB,uC,uD,uE⟩),(.number,⟨uF,uG,uH,uI,uJ,uK⟩),(.comma,⟨Ci,Cj,Ck,Cl,Cm,Cn⟩),(.label,⟨Co,Cq,Cr,Cs,Ct,Cu⟩)] (by
  simp only[ar,ab,or_false];rintro x (rfl|rfl|rfl|rfl|rfl)
  ·exact((((bk0.ae NU).ae IP).ae Qb).ae Lm)
  ·exact(((bk1.ae IP).ae Qb).ae Lm)
  ·exact((bk2.ae Qb).ae Lm)
  ·exact(bk3.ae Lm)
  ·exact bk4) _ rfl 5 rfl (by decide)
 have bHM:=ai ((((((Tw.o.trans U1).trans NU).trans IP).trans Qb).trans Lm).alloc (eR #[vI 1,eL uo #[] uq,eL (.func ur) #[] uu,eL (.func uw) #[] uy,vI 0,eL uz #[] uA,eL (.func uB) #[] uC,eL (.func uD) #[] uE,vI 8,eL uF #[] uG,eL (.func uH) #[] uI,eL (.func uJ) #[] uK,vI 0,eL Ci #[] Cj,eL (.func Ck) #[] Cl,eL (.func Cm) #[] Cn,vI 4,eL Co #[] Cq,eL (.func Cr) #[] Cs,eL (.func Ct) #[] Cu] 225));have IQ:af (PartsAt (bw4.alloc (eR #[vI 1,eL uo #[] uq,eL (.func ur) #[] uu,eL (.func uw) #[] uy,vI 0,eL uz #[] uA,eL (.func uB) #[] uC,eL (.func uD) #[] uE,vI 8,eL uF #[] uG,eL (.func uH) #[] uI,eL (.func uJ) #[] uK,vI 0,eL Ci #[] Cj,eL (.func Ck) #[] Cl,eL (.func Cm) #[] Cn,vI 4,eL Co #[] Cq,eL (.func Cr) #[] Cs,eL (.func Ct) #[] Cu] 225)) (eK (eC ⟨g1,0,ez⟩) 5 5) ni):=U0.o.ae (((((((aa.refl ah _).trans U1).trans NU).trans IP).trans Qb).trans Lm).alloc _);clear U0 bk0 U1 bk1 NU bk2 IP bk3 Qb bk4 Lm;simp only[PV.cells,PK.fills,an];clear Tw;go_wp2_with fail;generalize bw4.alloc (eR #[vI 1,eL uo #[] uq,eL (.func ur) #[] uu,eL (.func uw) #[] uy,vI 0,eL uz #[] uA,eL (.func uB) #[] uC,eL (.func uD) #[] uE,vI 8,eL uF #[] uG,eL (.func uH) #[] uI,eL (.func uJ) #[] uK,vI 0,eL Ci #[] Cj,eL (.func Ck) #[] Cl,eL (.func Cm) #[] Cn,vI 4,eL Co #[] Cq,eL (.func Cr) #[] Cs,eL (.func Ct) #[] Cu] 225)=W2 at *;generalize bw4.heap.size=g2 at *;refine(xB _).mono ?_;rintro e cw0 ⟨⟨zI,zJ,zK,zL,zM,zN⟩,rfl,ck0,YZ⟩;have cHP:af (PartsAt (cw0.alloc (eR #[vI 4,eL zI #[] zJ,eL (.func zK) #[] zL,eL (.func zM) #[] zN] 225)) (eK (eC ⟨cw0.heap.size,0,ez⟩) 1 1) [.label]):=PartsAt.new cw0 [(.label,⟨zI,zJ,zK,zL,zM,zN⟩)] (by simp only[ar,ab,or_false];rintro x rfl;exact ck0) _ rfl 1 rfl (by decide);have Y9:=ai ((bHM.o.trans YZ).alloc (eR #[vI 4,eL zI #[] zJ,eL (.func zK) #[] zL,eL (.func zM) #[] zN] 225));have ER:af (PartsAt (cw0.alloc (eR #[vI 4,eL zI #[] zJ,eL (.func zK) #[] zL,eL (.func zM) #[] zN] 225)) (eK (eC ⟨g1,0,ez⟩) 5 5) ni):=IQ.o.ae (((aa.refl ah _).trans YZ).alloc _);have Qc:af (PartsAt (cw0.alloc (eR #[vI 4,eL zI #[] zJ,eL (.func zK) #[] zL,eL (.func zM) #[] zN] 225)) (eK (eC ⟨g2,0,ez⟩) 5 5) oz):=bHP.o.ae (((aa.refl ah _).trans YZ).alloc _);clear IQ bHP ck0 YZ;simp only[PV.cells,PK.fills,an];clear bHM;go_wp2_with fail;generalize cw0.alloc (eR #[vI 4,eL zI #[] zJ,eL (.func zK) #[] zL,eL (.func zM) #[] zN] 225)=W3 at *;generalize cw0.heap.size=g3 at *;refine(j8 _ _ 64 rfl _ [106,97] rfl _ [.label] _ _ cHP.o (by decide) (by decide) _ rfl ⟨rfl,rfl⟩).mono ?_;rintro e w4 ⟨b4,rfl,h4,l4,m4⟩;have h4e:=h4.ends;have hs4:aa ah w (w4.setCell ⟨b4,4,ez⟩ (fS eJ)):=(Y9.o.trans m4).set (.inr (by have:=Y9.o.size;simp only;omega)) _;have xz:af (PartsAt (w4.setCell ⟨b4,4,ez⟩ (fS eJ)) (eK (eC ⟨g1,0,ez⟩) 5 5) ni):=(ER.o.ae m4).kp (Kp.set h4.yN 4 _);have pO:af (PartsAt (w4.setCell ⟨b4,4,ez⟩ (fS eJ)) (eK (eC ⟨g2,0,ez⟩) 5 5) oz):=(Qc.o.ae m4).kp (Kp.set h4.yN 4 _);have H4:=ai h4e;have HM:=ai hs4;obtain⟨o1,n1,c1,f6,c6,k7,c7,k8,c8,f9,c9,hblk,_⟩:=h4.ex;have z4:=hblk.cell 4;have fz4:=hblk.frozen 4;simp at z4;have NV:af (w.heap.size<=b4):=by have:=Y9.o.size;exact(by omega:w.heap.size<=b4)
 clear hblk h4 h4e hs4 ER Qc cHP Y9 m4 l4;have HZ:af ((w4.setCell ⟨b4,4,ez⟩ (fS eJ)).heap.size=w4.heap.size):=by simp[af,World.setCell]
 go_wp2_with fail;generalize w4.setCell ⟨b4,4,ez⟩ (fS eJ)=W4 at *
 have KN:af (aT w.heap.size (W4.alloc (eR #[vP b4] 138)) (eK (eC ⟨w4.heap.size,0,ez⟩) 1 1) [b4] (IY 0)):=by
  rw[af,<-HZ.o]
  exact aT.fresh [b4] (IY 0) rfl (by simp) (by have:=NV.o;simpa using this) (λi h h'=>by
   have:i=0:=by simp at h;omega
   subst this;exact H4.o) _ rfl 1 rfl (by decide) HM.o.size
 have acW:af (PartsAt (W4.alloc (eR #[vP b4] 138)) (eK (eC ⟨g1,0,ez⟩) 5 5) ni):=xz.o.ae aq;have acX:af (PartsAt (W4.alloc (eR #[vP b4] 138)) (eK (eC ⟨g2,0,ez⟩) 5 5) oz):=pO.o.ae aq;have jK:=ai (HM.o.alloc (eR #[vP b4] 138));clear xz pO H4 HM NV z4 fz4;generalize W4.alloc (eR #[vP b4] 138)=W5 at *;clear HZ;generalize w4.heap.size=g5 at *;refine(P4 _).mono ?_;rintro e w7 ⟨xE,hlen,rfl,m7,hjr⟩;have Tx:=ai hjr;clear hjr;have HI:af (∀(k:Nat) (hk:k<11) (W:tW),(Instr.index 241 (fW (juC xE).toArray) (vI k)).run prog W=.ok (fW (JV.cells (sH[k]'hk) (xE[k]'(by omega))).toArray) W):=λk hk W=>abt xE hlen k hk W;have xz:=ai (acW.o.ae m7);have pO:=ai (acX.o.ae m7);have Za:=ai (KN.o.ae m7);have HM:=ai (jK.o.trans m7);clear acW acX KN jK m7;generalize(juC xE).toArray=AC at *;go_upto_block 0 with fail;go_cut [4] (λo wl=>∃bs,aT w.heap.size wl o bs (IY 11)/\aa ah w wl)
 case first =>
  go_wp2_with fail;go_loopw [4,31] (λo i wl=>∃(k:Nat) (bs:tLN),k<=11/\i=vI k/\aT w.heap.size wl o bs (IY k)/\PartsAt wl (eK (eC ⟨g1,0,ez⟩) 5 5) ni/\PartsAt wl (eK (eC ⟨g2,0,ez⟩) 5 5) oz/\aa ah w wl/\Ll wl xE) (λ_ i _=>11-(intOf i).toNat)
  case atStart=>exact⟨0,[b4],by omega,rfl,Za.o,xz.o,pO.o,HM.o,Tx.o⟩
  case round =>
   obtain⟨k,bs,hk,rfl,hO,hP1,hP2,hM,hAr⟩:=hrel;clear xz pO HM Za Tx;have Tx:=ai hAr;clear hAr;by_cases hlt:k<11
   ·have hidx:=HI.o k hlt;have HST:af (IY (k+1)=IY k++[gY (65+k) (sH[k]) ni,gY (97+k) (sH[k]) oz]):=U3 k hlt;have HW:=ai (Lh k hlt);have NQ:=Tx.o k hlt (by omega);have Hw:=ai (YN k hlt);generalize sH[k]=wd at *;generalize xE[k]=jv at *;obtain⟨f1,c1⟩:=jv;have vH:=ai NQ;clear NQ;simp only[JV.cells]at hidx;have HO:af _:=hO;have xz:af _:=hP1;have pO:af _:=hP2;have HM:af _:=hM;clear hO hP1 hP2 hM;have hwd:=HW.o;have HL:af (ee bs<=100):=by have:=HO.o.len;rw[BF k (by omega)]at this;exact(by omega:ee bs<=100)
    go_upto_region 10 with fail;have hA:=ak.new wr #[eI (T wd),eL f1 #[] c1] 240;have HNo:af (u4.ownBlock≠eC wr.heap.size):=λe=>by have:=HO.o.sl.lt _ e;simp at this
    have q0:∀g:Ext (λk=>u4.ownBlock=eC k) (wr.alloc (eR #[eI (T wd),eL f1 #[] c1] 240)),g.w.cell? ⟨wr.heap.size,0,ez⟩=eC (eI (T wd)):=λg=>g.cell hA HNo.o 0;have q1:∀g:Ext (λk=>u4.ownBlock=eC k) (wr.alloc (eR #[eI (T wd),eL f1 #[] c1] 240)),g.w.cell? ⟨wr.heap.size,1,ez⟩=eC (eL f1 #[] c1):=λg=>g.cell hA HNo.o 1;have ne1:=Ext.ne (λk=>u4.ownBlock=eC k) (wr.alloc (eR #[eI (T wd),eL f1 #[] c1] 240));refine bR [7,8,16,17,18,19] (λw'=>∃g:Ext (λk=>u4.ownBlock=eC k) (wr.alloc (eR #[eI (T wd),eL f1 #[] c1] 240)),w'=g.w) (by kernel_rfl) (by kernel_rfl) (by kernel_rfl) ⟨⟨_,aU⟩,rfl⟩ ?_;have X0:af (aa ah wr (wr.alloc (eR #[eI (T wd),eL f1 #[] c1] 240)).drew):=aq.drew;have Y0:af (aa ah (wr.alloc (eR #[eI (T wd),eL f1 #[] c1] 240)) (wr.alloc (eR #[eI (T wd),eL f1 #[] c1] 240)).drew):=aU
    iterate 7 (refine aG rfl rfl rfl ?_;intro K hK;go_big_quiet_op;go_big_quiet_on)
    refine aN rfl rfl ?_;intro K hK;go_big_op;refine(Cf _ _ _ _ _ eJ (vH.o.ae X0.o)).mono ?_;rintro e v0 ⟨fb0,cb0,rfl,IU,hd0⟩;have HD0:=ai hd0;clear hd0;have X1:=ai (X0.o.trans IU);have Y1:=ai (Y0.o.trans IU);refine hK _ _ rfl ⟨⟨_,Y1.o.mono (λ_ _ h=>h.elim)⟩,rfl⟩ ?_;have MB0:af _:=IU;clear hK K IU;refine aN rfl rfl ?_;intro K hK;go_big_op;refine(j8 _ _ (65+k) (by omega) _ wd rfl _ ni _ _ (xz.o.ae X1.o) (by have:=HW.o;rw[bS]at this;omega) (by decide) _ Hw.o.1 HD0.o).mono ?_;rintro e r0 ⟨b0,rfl,hr0,hb0,IV⟩;have X2:=ai (X1.o.trans IV);have Y2:=ai (Y1.o.trans IV);have fQ:af _:=hr0;have MR0:af _:=IV;have HB0:=ai hb0;refine hK _ _ rfl ⟨⟨_,Y2.o.mono (λ_ _ h=>h.elim)⟩,rfl⟩ ?_;clear hK K hr0 hb0 IV
    iterate 7 (refine aG rfl rfl rfl ?_;intro K hK;go_big_quiet_op;go_big_quiet_on)
    refine aN rfl rfl ?_;intro K hK;go_big_op;refine(Cf _ _ _ _ _ eE (vH.o.ae X2.o)).mono ?_;rintro e v1 ⟨fb1,cb1,rfl,IW,hd1⟩;have HD1:=ai hd1;clear hd1;have X3:=ai (X2.o.trans IW);have Y3:=ai (Y2.o.trans IW);refine hK _ _ rfl ⟨⟨_,Y3.o.mono (λ_ _ h=>h.elim)⟩,rfl⟩ ?_;have U2:af _:=IW;clear hK K IW;refine aN rfl rfl ?_;intro K hK;go_big_op;refine(j8 _ _ (97+k) (by omega) _ wd rfl _ oz _ _ (pO.o.ae X3.o) (by have:=HW.o;rw[bS]at this;omega) (by decide) _ Hw.o.2 HD1.o).mono ?_;rintro e r1 ⟨b1,rfl,hr1,hb1,IX⟩;have X4:=ai (X3.o.trans IX);have Y4:=ai (Y3.o.trans IX);have DZ:af _:=hr1;have MR1:af _:=IX;have HB1:=ai hb1;refine hK _ _ rfl ⟨⟨_,Y4.o.mono (λ_ _ h=>h.elim)⟩,rfl⟩ ?_;clear hK K hr1 hb1 IX;refine aN rfl rfl ?_;intro K hK;go_big_op;refine hK _ _ rfl ⟨⟨_,(Y4.o.alloc _).mono (λ_ _ h=>h.elim)⟩,rfl⟩ ?_;clear hK K;refine aN rfl rfl ?_;intro K hK;refine eG _ (.tmp 38) (.tmp 56) 86 rfl 138 iP (vO) 1 8 underlying86 hiP sK hsP wJ rfl (by decide) u4 (ee bs) (bs.map gG) rfl (HO.o.ae (X4.o.alloc _)).sl ⟨r1.heap.size,0,ez⟩ 2 2 [gG b0,gG b1] rfl rfl (aY _ _ _ _ rfl) (um [b0,b1]) (by have:=HL.o;unfold fX;omega) (by have:=HL.o;omega) ?_;intro vA wA sA mA lA;obtain⟨oA,cA,rfl,_⟩:=Sl.view sA;refine hK _ _ rfl ⟨⟨_,((Y4.o.alloc _).mono (λ_ _ h=>h.elim)).step mA (λ_ _ h=>h)⟩,rfl⟩ ?_;clear hK K;simp only[Act.put,sA9,sB9,sC9]
    iterate 1 (refine aG rfl rfl rfl ?_;intro K hK;go_big_quiet_op;go_big_quiet_on)
    refine dR ?_;have H01:b0<b1:=by have:=fQ.o.lt;have:=U2.o.size;have:=HB1.o;omega
    have H0:wr.heap.size<=b0:=by have:=HB0.o;have:=X1.o.size;omega
    have HG:af (aT w.heap.size wA (eK oA (ee bs+2) cA) (bs++[b0,b1]) (IY k++[gY (65+k) wd ni,gY (97+k) wd oz])) :=
     aT.grow [b0,b1] _ HO.o (X4.o.alloc _) rfl (by simp;omega) (by simp;omega) (λi h h'=>by
      have hi:i=0\/i=1:=by simp at h;omega
      rcases hi with rfl|rfl
      ·exact((fQ.o.ae U2.o).ae MR1.o).ae aq
      ·exact DZ.o.ae aq) sA mA lA HM.o.size
    simp only[Exit.inBlock,Exit.then];have Ge:=ai ((HM.o.trans (X4.o.alloc _)).step mA (λi hi h=>by have:=HO.o.own i h;omega));have HQ1:=ai ((xz.o.ae (X4.o.alloc _)).kp (aa.F9 (HO.o.ae (X4.o.alloc _)).sl mA));have HQ2:=ai ((pO.o.ae (X4.o.alloc _)).kp (aa.F9 (HO.o.ae (X4.o.alloc _)).sl mA));have HQ3:=ai ((Tx.o.ae (X4.o.alloc _)).kp (aa.F9 (HO.o.ae (X4.o.alloc _)).sl mA));rw[<-HST.o]at HG;clear q0 q1 ne1 hA hidx H01 H0;go_wp2_with fail;go_roundw
    case rel=>exact⟨k+1,_,by omega,by go_num,HG.o,HQ1.o,HQ2.o,Ge.o,HQ3.o⟩
    case measure=>simp[intOf];omega
   ·obtain rfl:k=11:=by omega
    go_wp2_with fail;go_meet;exact⟨bs,hO,hM⟩
 case rest =>
 obtain⟨bs,hO,hM⟩:=hcut;have hlen':=hO.len;rw[BF 11 (by omega)]at hlen';have HO:=ai hO;have HM:=ai hM;obtain⟨oV,cV,hv,_⟩:=hO.sl.view;subst hv;clear hO hM xz pO Za Tx;go_wp2_with fail;go_loopw [61] (λi wl=>∃(k:Nat),k<=ee bs/\i=vI k/\aT w.heap.size wl (eK oV (ee bs) cV) bs (qb (IY 11) k)/\aa ah w wl) (λi _=>ee bs-(intOf i).toNat)
 case atStart=>exact⟨0,by omega,rfl,by rw[Li];exact HO.o,HM.o⟩
 case round =>
  obtain⟨k,hk,rfl,hO,hM⟩:=hrel;clear HO HM;by_cases hlt:k<ee bs
  ·obtain⟨g,rfl,cs⟩:=hO.sl.at rfl k hlt;have ck:=cs k hlt;have e1:(bs.map gG)[k]?=eC (vP (bs[k])):=by simp[hlt,gG]
   rw[e1]at ck;have hk':k<ee (IY 11):=by rw[BF 11 (by omega)];omega
   have hat:=hO.at' k hlt (by rw[vK];exact hk');obtain⟨o1,n1,c1,f6,c6,k7,c7,k8,c8,f9,c9,hblk,_⟩:=hat.ex;have z3:=hblk.cell 3;have fz3:=hblk.frozen 3;simp at z3;have hset:=hO.ae2 k hlt (by rw[vK];exact hk');rw[U4 _ _ hk',<-Lj _ _ hk']at hset;have HS:af _:=hset;have HMs:af (aa ah w (wr.setCell ⟨bs[k],3,ez⟩ (fS eJ))):=hM.set (.inr (hO.lo _ (List.getElem_mem hlt))) _;clear hset hat hblk hO hM cs e1;generalize bs[k]=bk at *;go_wp2_with fail;go_roundw
   case rel=>exact⟨k+1,by omega,by go_num,HS.o,HMs.o⟩
   case measure=>simp[intOf];omega
  ·obtain rfl:k=ee bs:=by omega
   have HS:af (aT w.heap.size wr (eK oV (ee bs) cV) bs NJ):=by
    have h:=hO;have e:ee bs=ee (IY 11):=by rw[BF 11 (by omega)];omega
    rw[e,P9]at h;rw[e];exact h
   have HMs:af _:=hM;clear hO hM;go_wp2_with fail;go_ret;exact⟨_,_,rfl,HS.o,HMs.o⟩
structure xG(w:tW):Prop where
 c0:w.cell? ⟨0,0,ez⟩=eC (eI (T [49]))
 c1:w.cell? ⟨0,1,ez⟩=eC (eI (T [50]))
 c2:w.cell? ⟨0,2,ez⟩=eC (eI (T [52]))
 c3:w.cell? ⟨0,3,ez⟩=eC (eI (T [56]))
theorem qc{w w':tW}(m:aa ah w w'){b i:Nat}{v:eM}(h:w.cell? ⟨b,i,ez⟩=eC v):w'.cell? ⟨b,i,ez⟩=eC v:=by
 have hb:b<w.heap.size:=by refine Classical.byContradiction λhn=>?_;simp[World.cell?,Array.getElem?_eq_none (Nat.le_of_not_lt hn)]at h
 have e:=m.block b hb id;simp only[World.cell?]at h ⊢;rw[e];exact h
theorem xG.ae{w w':tW}(h:xG w)(m:aa ah w w'):xG w':=⟨qc m h.c0,qc m h.c1,qc m h.c2,qc m h.c3⟩
def Tz(k:Nat):List dX:=(tX.zipIdx.take k).flatMap λx=>NK x.2 x.1
theorem U6(k:Nat)(h:k<4):Tz (k+1)=Tz k++NK k (tX[k]'h):=by
 have:∀k:Fin 4,Tz (k.1+1)=Tz k.1++NK k.1 (tX[k.1]'k.2):=by intro k;unfold Tz;rw[ao (by simp;exact k.2),bh];simp;rfl
 exact this ⟨k,h⟩
theorem Zb(k:Nat)(h:k<=4):ee (Tz k)=3*k:=by
 have:∀k:Fin 5,ee (Tz k.1)=3*k.1:=by decide +kernel
 exact this ⟨k,by omega⟩
theorem U7(k:Nat)(hk:k<4)(w:tW):(Instr.index 244 (fW #[eI (T [49]),eI (T [50]),eI (T [52]),eI (T [56])]) (vI k)).run prog w=.ok (eI (T (tX[k]'hk))) w:=by
 have:k=0\/k=1\/k=2\/k=3:=by omega
 rcases this with rfl|rfl|rfl|rfl<;>rfl
theorem Lp(k:Nat)(h:k<4):(T (tX[k]'h)).size<=90:=by
 have:∀k:Fin 4,(T (tX[k.1]'k.2)).size<=90:=by decide +kernel
 exact this ⟨k,h⟩
theorem Lr(w:tW)(hE:xG w):fL prog 57 #[] w λe w'=>∃v bs,e=fR v/\aT w.heap.size w' v bs aa3/\aa ah w w':=by
 obtain⟨iP,hiP,sK,hsP,wJ⟩:=lO uk;have HE:=ai hE;clear hE;go_in;go_wp2_with fail;refine(lJ _).mono ?_;rintro e aw0 ⟨⟨qO,qP,qQ,qR,qU,qV⟩,rfl,UW,UX⟩;go_wp2_with fail;refine(gj _).mono ?_;rintro e aw1 ⟨⟨qW,qX,qY,qZ,ra,rj⟩,rfl,UY,Lf⟩;go_wp2_with fail;refine(xC _).mono ?_;rintro e Lg ⟨⟨rq,ru,ry,rz,rA,rC⟩,rfl,UZ,Gd⟩;go_wp2_with fail;refine(oD _).mono ?_;rintro e aw3 ⟨⟨Gg,Gh,Gi,Gj,Gl,Gm⟩,rfl,ak3,U5⟩;go_wp2_with fail;refine(ui _).mono ?_;rintro e aw4 ⟨⟨Gn,Gp,Gq,Gr,Gs,Gt⟩,rfl,ak4,Qa⟩;go_wp2_with fail;refine(zH _).mono ?_;rintro e aw5 ⟨⟨Zc,Zd,Ze,Zf,Zg,Zh⟩,rfl,ak5,am5⟩
 have U0:af (PartsAt (aw5.alloc (eR #[vI 1,eL qO #[] qP,eL (.func qQ) #[] qR,eL (.func qU) #[] qV,vI 0,eL qW #[] qX,eL (.func qY) #[] qZ,eL (.func ra) #[] rj,vI 0,eL rq #[] ru,eL (.func ry) #[] rz,eL (.func rA) #[] rC,vI 2,eL Gg #[] Gh,eL (.func Gi) #[] Gj,eL (.func Gl) #[] Gm,vI 4,eL Gn #[] Gp,eL (.func Gq) #[] Gr,eL (.func Gs) #[] Gt,vI 0,eL Zc #[] Zd,eL (.func Ze) #[] Zf,eL (.func Zg) #[] Zh] 225)) (eK (eC ⟨aw5.heap.size,0,ez⟩) 6 6) kN):=PartsAt.new aw5 [(.result,⟨qO,qP,qQ,qR,qU,qV⟩),(.comma,⟨qW,qX,qY,qZ,ra,rj⟩),(.opens,⟨rq,ru,ry,rz,rA,rC⟩),(.source,⟨Gg,Gh,Gi,Gj,Gl,Gm⟩),(.offset,⟨Gn,Gp,Gq,Gr,Gs,Gt⟩),(.shut,⟨Zc,Zd,Ze,Zf,Zg,Zh⟩)] (by
  simp only[ar,ab,or_false];rintro x (rfl|rfl|rfl|rfl|rfl|rfl)
  ·exact(((((UW.ae Lf).ae Gd).ae U5).ae Qa).ae am5)
  ·exact((((UY.ae Gd).ae U5).ae Qa).ae am5)
  ·exact(((UZ.ae U5).ae Qa).ae am5)
  ·exact((ak3.ae Qa).ae am5)
  ·exact(ak4.ae am5)
  ·exact ak5) _ rfl 6 rfl (by decide)
 have Tw:af (aa ah w (aw5.alloc (eR #[vI 1,eL qO #[] qP,eL (.func qQ) #[] qR,eL (.func qU) #[] qV,vI 0,eL qW #[] qX,eL (.func qY) #[] qZ,eL (.func ra) #[] rj,vI 0,eL rq #[] ru,eL (.func ry) #[] rz,eL (.func rA) #[] rC,vI 2,eL Gg #[] Gh,eL (.func Gi) #[] Gj,eL (.func Gl) #[] Gm,vI 4,eL Gn #[] Gp,eL (.func Gq) #[] Gr,eL (.func Gs) #[] Gt,vI 0,eL Zc #[] Zd,eL (.func Ze) #[] Zf,eL (.func Zg) #[] Zh] 225))):=(((((((aa.refl ah w).trans UX).trans Lf).trans Gd).trans U5).trans Qa).trans am5).alloc _;clear UW UX UY Lf UZ Gd ak3 U5 ak4 Qa ak5 am5;simp only[PV.cells,PK.fills,an];go_wp2_with fail;generalize aw5.alloc (eR #[vI 1,eL qO #[] qP,eL (.func qQ) #[] qR,eL (.func qU) #[] qV,vI 0,eL qW #[] qX,eL (.func qY) #[] qZ,eL (.func ra) #[] rj,vI 0,eL rq #[] ru,eL (.func ry) #[] rz,eL (.func rA) #[] rC,vI 2,eL Gg #[] Gh,eL (.func Gi) #[] Gj,eL (.func Gl) #[] Gm,vI 4,eL Gn #[] Gp,eL (.func Gq) #[] Gr,eL (.func Gs) #[] Gt,vI 0,eL Zc #[] Zd,eL (.func Ze) #[] Zf,eL (.func Zg) #[] Zh] 225)=W1 at *;generalize aw5.heap.size=g1 at *;refine(xC _).mono ?_;rintro e bw0 ⟨⟨uo,uq,ur,uu,uw,uy⟩,rfl,bk0,U1⟩;go_wp2_with fail;refine(mD _).mono ?_;rintro e bw1 ⟨⟨uz,uA,uB,uC,uD,uE⟩,rfl,bk1,NU⟩;go_wp2_with fail;refine(ui _).mono ?_;rintro e bw2 ⟨⟨uF,uG,uH,uI,uJ,uK⟩,rfl,bk2,IP⟩;go_wp2_with fail;refine(zH _).mono ?_;rintro e bw3 ⟨⟨Ci,Cj,Ck,Cl,Cm,Cn⟩,rfl,bk3,Qb⟩;go_wp2_with fail;refine(gj _).mono ?_;rintro e bw4 ⟨⟨Co,Cq,Cr,Cs,Ct,Cu⟩,rfl,bk4,Lm⟩;go_wp2_with fail;refine(oD _).mono ?_;rintro e bw5 ⟨⟨U8,U9,Va,Vb,Vc,Vd⟩,rfl,bk5,bm5⟩
 have bHP:af (PartsAt (bw5.alloc (eR #[vI 0,eL uo #[] uq,eL (.func ur) #[] uu,eL (.func uw) #[] uy,vI 1,eL uz #[] uA,eL (.func uB) #[] uC,eL (.func uD) #[] uE,vI 4,eL uF #[] uG,eL (.func uH) #[] uI,eL (.func uJ) #[] uK,vI 0,eL Ci #[] Cj,eL (.func Ck) #[] Cl,eL (.func Cm) #[] Cn,vI 0,eL Co #[] Cq,eL (.func Cr) #[] Cs,eL (.func Ct) #[] Cu,vI 2,eL U8 #[] U9,eL (.func Va) #[] Vb,eL (.func Vc) #[] Vd] 225)) (eK (eC ⟨bw5.heap.size,0,ez⟩) 6 6) jI):=PartsAt.new bw5 [(.opens,⟨uo,uq,ur,uu,uw,uy⟩),(.operand,⟨uz,uA,uB,uC,uD,uE⟩),(.offset,⟨uF,uG,uH,uI,uJ,uK⟩),(.shut,⟨Ci,Cj,Ck,Cl,Cm,Cn⟩),(.comma,⟨Co,Cq,Cr,Cs,Ct,Cu⟩),(.source,⟨U8,U9,Va,Vb,Vc,Vd⟩)] (by
  simp only[ar,ab,or_false];rintro x (rfl|rfl|rfl|rfl|rfl|rfl)
  ·exact(((((bk0.ae NU).ae IP).ae Qb).ae Lm).ae bm5)
  ·exact((((bk1.ae IP).ae Qb).ae Lm).ae bm5)
  ·exact(((bk2.ae Qb).ae Lm).ae bm5)
  ·exact((bk3.ae Lm).ae bm5)
  ·exact(bk4.ae bm5)
  ·exact bk5) _ rfl 6 rfl (by decide)
 have bHM:=ai (((((((Tw.o.trans U1).trans NU).trans IP).trans Qb).trans Lm).trans bm5).alloc (eR #[vI 0,eL uo #[] uq,eL (.func ur) #[] uu,eL (.func uw) #[] uy,vI 1,eL uz #[] uA,eL (.func uB) #[] uC,eL (.func uD) #[] uE,vI 4,eL uF #[] uG,eL (.func uH) #[] uI,eL (.func uJ) #[] uK,vI 0,eL Ci #[] Cj,eL (.func Ck) #[] Cl,eL (.func Cm) #[] Cn,vI 0,eL Co #[] Cq,eL (.func Cr) #[] Cs,eL (.func Ct) #[] Cu,vI 2,eL U8 #[] U9,eL (.func Va) #[] Vb,eL (.func Vc) #[] Vd] 225));have IQ:af (PartsAt (bw5.alloc (eR #[vI 0,eL uo #[] uq,eL (.func ur) #[] uu,eL (.func uw) #[] uy,vI 1,eL uz #[] uA,eL (.func uB) #[] uC,eL (.func uD) #[] uE,vI 4,eL uF #[] uG,eL (.func uH) #[] uI,eL (.func uJ) #[] uK,vI 0,eL Ci #[] Cj,eL (.func Ck) #[] Cl,eL (.func Cm) #[] Cn,vI 0,eL Co #[] Cq,eL (.func Cr) #[] Cs,eL (.func Ct) #[] Cu,vI 2,eL U8 #[] U9,eL (.func Va) #[] Vb,eL (.func Vc) #[] Vd] 225)) (eK (eC ⟨g1,0,ez⟩) 6 6) kN):=U0.o.ae ((((((((aa.refl ah _).trans U1).trans NU).trans IP).trans Qb).trans Lm).trans bm5).alloc _);clear U0 bk0 U1 bk1 NU bk2 IP bk3 Qb bk4 Lm bk5 bm5;simp only[PV.cells,PK.fills,an];clear Tw;go_wp2_with fail;generalize bw5.alloc (eR #[vI 0,eL uo #[] uq,eL (.func ur) #[] uu,eL (.func uw) #[] uy,vI 1,eL uz #[] uA,eL (.func uB) #[] uC,eL (.func uD) #[] uE,vI 4,eL uF #[] uG,eL (.func uH) #[] uI,eL (.func uJ) #[] uK,vI 0,eL Ci #[] Cj,eL (.func Ck) #[] Cl,eL (.func Cm) #[] Cn,vI 0,eL Co #[] Cq,eL (.func Cr) #[] Cs,eL (.func Ct) #[] Cu,vI 2,eL U8 #[] U9,eL (.func Va) #[] Vb,eL (.func Vc) #[] Vd] 225)=W2 at *;generalize bw5.heap.size=g2 at *;refine(xC _).mono ?_;rintro e cw0 ⟨⟨zI,zJ,zK,zL,zM,zN⟩,rfl,ck0,YZ⟩;go_wp2_with fail;refine(mD _).mono ?_;rintro e cw1 ⟨⟨Qd,Qe,Qf,Qg,Qh,Qi⟩,rfl,ck1,cm1⟩;go_wp2_with fail;refine(ui _).mono ?_;rintro e cw2 ⟨⟨Qj,Qk,Ql,Qm,Qn,Qo⟩,rfl,ck2,cm2⟩;go_wp2_with fail;refine(zH _).mono ?_;rintro e cw3 ⟨⟨Qp,Qq,Qr,Qs,Qt,Qu⟩,rfl,ck3,cm3⟩;go_wp2_with fail;refine(gj _).mono ?_;rintro e cw4 ⟨⟨Qv,Qw,Qx,Qy,Qz,QB⟩,rfl,ck4,cm4⟩;go_wp2_with fail;refine(uh _).mono ?_;rintro e cw5 ⟨⟨QC,QD,QF,QG,QH,QI⟩,rfl,ck5,Zi⟩
 have cHP:af (PartsAt (cw5.alloc (eR #[vI 0,eL zI #[] zJ,eL (.func zK) #[] zL,eL (.func zM) #[] zN,vI 1,eL Qd #[] Qe,eL (.func Qf) #[] Qg,eL (.func Qh) #[] Qi,vI 4,eL Qj #[] Qk,eL (.func Ql) #[] Qm,eL (.func Qn) #[] Qo,vI 0,eL Qp #[] Qq,eL (.func Qr) #[] Qs,eL (.func Qt) #[] Qu,vI 0,eL Qv #[] Qw,eL (.func Qx) #[] Qy,eL (.func Qz) #[] QB,vI 8,eL QC #[] QD,eL (.func QF) #[] QG,eL (.func QH) #[] QI] 225)) (eK (eC ⟨cw5.heap.size,0,ez⟩) 6 6) iW):=PartsAt.new cw5 [(.opens,⟨zI,zJ,zK,zL,zM,zN⟩),(.operand,⟨Qd,Qe,Qf,Qg,Qh,Qi⟩),(.offset,⟨Qj,Qk,Ql,Qm,Qn,Qo⟩),(.shut,⟨Qp,Qq,Qr,Qs,Qt,Qu⟩),(.comma,⟨Qv,Qw,Qx,Qy,Qz,QB⟩),(.number,⟨QC,QD,QF,QG,QH,QI⟩)] (by
  simp only[ar,ab,or_false];rintro x (rfl|rfl|rfl|rfl|rfl|rfl)
  ·exact(((((ck0.ae cm1).ae cm2).ae cm3).ae cm4).ae Zi)
  ·exact((((ck1.ae cm2).ae cm3).ae cm4).ae Zi)
  ·exact(((ck2.ae cm3).ae cm4).ae Zi)
  ·exact((ck3.ae cm4).ae Zi)
  ·exact(ck4.ae Zi)
  ·exact ck5) _ rfl 6 rfl (by decide)
 have Y9:=ai (((((((bHM.o.trans YZ).trans cm1).trans cm2).trans cm3).trans cm4).trans Zi).alloc (eR #[vI 0,eL zI #[] zJ,eL (.func zK) #[] zL,eL (.func zM) #[] zN,vI 1,eL Qd #[] Qe,eL (.func Qf) #[] Qg,eL (.func Qh) #[] Qi,vI 4,eL Qj #[] Qk,eL (.func Ql) #[] Qm,eL (.func Qn) #[] Qo,vI 0,eL Qp #[] Qq,eL (.func Qr) #[] Qs,eL (.func Qt) #[] Qu,vI 0,eL Qv #[] Qw,eL (.func Qx) #[] Qy,eL (.func Qz) #[] QB,vI 8,eL QC #[] QD,eL (.func QF) #[] QG,eL (.func QH) #[] QI] 225));have ER:af (PartsAt (cw5.alloc (eR #[vI 0,eL zI #[] zJ,eL (.func zK) #[] zL,eL (.func zM) #[] zN,vI 1,eL Qd #[] Qe,eL (.func Qf) #[] Qg,eL (.func Qh) #[] Qi,vI 4,eL Qj #[] Qk,eL (.func Ql) #[] Qm,eL (.func Qn) #[] Qo,vI 0,eL Qp #[] Qq,eL (.func Qr) #[] Qs,eL (.func Qt) #[] Qu,vI 0,eL Qv #[] Qw,eL (.func Qx) #[] Qy,eL (.func Qz) #[] QB,vI 8,eL QC #[] QD,eL (.func QF) #[] QG,eL (.func QH) #[] QI] 225)) (eK (eC ⟨g1,0,ez⟩) 6 6) kN):=IQ.o.ae ((((((((aa.refl ah _).trans YZ).trans cm1).trans cm2).trans cm3).trans cm4).trans Zi).alloc _);have Qc:af (PartsAt (cw5.alloc (eR #[vI 0,eL zI #[] zJ,eL (.func zK) #[] zL,eL (.func zM) #[] zN,vI 1,eL Qd #[] Qe,eL (.func Qf) #[] Qg,eL (.func Qh) #[] Qi,vI 4,eL Qj #[] Qk,eL (.func Ql) #[] Qm,eL (.func Qn) #[] Qo,vI 0,eL Qp #[] Qq,eL (.func Qr) #[] Qs,eL (.func Qt) #[] Qu,vI 0,eL Qv #[] Qw,eL (.func Qx) #[] Qy,eL (.func Qz) #[] QB,vI 8,eL QC #[] QD,eL (.func QF) #[] QG,eL (.func QH) #[] QI] 225)) (eK (eC ⟨g2,0,ez⟩) 6 6) jI):=bHP.o.ae ((((((((aa.refl ah _).trans YZ).trans cm1).trans cm2).trans cm3).trans cm4).trans Zi).alloc _);clear IQ bHP ck0 YZ ck1 cm1 ck2 cm2 ck3 cm3 ck4 cm4 ck5 Zi;simp only[PV.cells,PK.fills,an];clear bHM;have cE:=HE.o.ae Y9.o;have e0:=cE.c0;have e1:=cE.c1;have e2:=cE.c2;have e3:=cE.c3;clear cE;have HI:=ai U7;go_upto_block 0 with fail;generalize cw5.alloc (eR #[vI 0,eL zI #[] zJ,eL (.func zK) #[] zL,eL (.func zM) #[] zN,vI 1,eL Qd #[] Qe,eL (.func Qf) #[] Qg,eL (.func Qh) #[] Qi,vI 4,eL Qj #[] Qk,eL (.func Ql) #[] Qm,eL (.func Qn) #[] Qo,vI 0,eL Qp #[] Qq,eL (.func Qr) #[] Qs,eL (.func Qt) #[] Qu,vI 0,eL Qv #[] Qw,eL (.func Qx) #[] Qy,eL (.func Qz) #[] QB,vI 8,eL QC #[] QD,eL (.func QF) #[] QG,eL (.func QH) #[] QI] 225)=W3 at *;generalize cw5.heap.size=g3 at *;clear e0 e1 e2 e3;go_cut [4] (λo wl=>∃bs,aT w.heap.size wl o bs (Tz 4)/\aa ah w wl)
 case first =>
  go_wp2_with fail;go_loopw [4,31] (λo i wl=>∃(k:Nat) (bs:tLN),k<=4/\i=vI k/\aT w.heap.size wl o bs (Tz k)/\PartsAt wl (eK (eC ⟨g1,0,ez⟩) 6 6) kN/\PartsAt wl (eK (eC ⟨g2,0,ez⟩) 6 6) jI/\PartsAt wl (eK (eC ⟨g3,0,ez⟩) 6 6) iW/\aa ah w wl) (λ_ i _=>4-(intOf i).toNat)
  case atStart=>exact⟨0,[],by omega,rfl,aT.nil _ _,ER.o,Qc.o,cHP.o,Y9.o⟩
  case round =>
   obtain⟨k,bs,hk,rfl,hO,hP1,hP2,hP3,hM⟩:=hrel;clear ER Qc cHP Y9;by_cases hlt:k<4
   ·have hidx:=HI.o k hlt;have HST:af (Tz (k+1)=Tz k++[gY (128+k) ([108,100]++tX[k]) kN,gY (132+k) ([115,116]++tX[k]) jI,gY (136+k) ([115,116]++tX[k]) iW]):=U6 k hlt;have HW:=ai (Lp k hlt);have Hw:=ai (YO k hlt);have HPW:=ai (acL k hlt);generalize tX[k]=wd at *;have HO:af _:=hO;have xz:af _:=hP1;have pO:af _:=hP2;have HP3:af _:=hP3;have HM:af _:=hM;clear hO hP1 hP2 hP3 hM;have hwd:=HW.o;have HL:af (ee bs<=100):=by have:=HO.o.len;rw[Zb k (by omega)]at this;exact(by omega:ee bs<=100)
    go_wp2_with fail;go_quiet (fail);go_wp2_with fail;have X0:af (aa ah wr (wr.drewN nq)):=aA.drewN _;refine(PZ _ _ (2 ^ k) HPW.o).mono ?_;rintro e v0 ⟨fb0,cb0,rfl,IU,hd0⟩;have HD0:=ai hd0;clear hd0;have X1:=ai (X0.o.trans IU);have MB0:af _:=IU;clear IU;go_wp2_with fail;refine(j8 _ _ (128+k) (by omega) _ ([108,100]++wd) (yF _ wd).symm _ kN _ _ (xz.o.ae X1.o) (by have:=HW.o;rw[bS]at this;simp;omega) (by decide) _ Hw.o.1 HD0.o).mono ?_;rintro e r0 ⟨b0,rfl,hr0,hb0,IV⟩;have X2:=ai (X1.o.trans IV);have fQ:af _:=hr0;have MR0:af _:=IV;have HB0:=ai hb0;clear hr0 hb0 IV;go_wp2_with fail;refine(Cg _ _ (2 ^ k) eJ HPW.o).mono ?_;rintro e v1 ⟨fb1,cb1,rfl,IW,hd1⟩;have HD1:=ai hd1;clear hd1;have X3:=ai (X2.o.trans IW);have U2:af _:=IW;clear IW;go_wp2_with fail;refine(j8 _ _ (132+k) (by omega) _ ([115,116]++wd) (yF _ wd).symm _ jI _ _ (pO.o.ae X3.o) (by have:=HW.o;rw[bS]at this;simp;omega) (by decide) _ Hw.o.2.1 HD1.o).mono ?_;rintro e r1 ⟨b1,rfl,hr1,hb1,IX⟩;have X4:=ai (X3.o.trans IX);have DZ:af _:=hr1;have MR1:af _:=IX;have HB1:=ai hb1;clear hr1 hb1 IX;go_wp2_with fail;refine(Cg _ _ (2 ^ k) eE HPW.o).mono ?_;rintro e v2 ⟨fb2,cb2,rfl,mb2,hd2⟩;have HD2:=ai hd2;clear hd2;have X5:=ai (X4.o.trans mb2);have MB2:af _:=mb2;clear mb2;go_wp2_with fail;refine(j8 _ _ (136+k) (by omega) _ ([115,116]++wd) (yF _ wd).symm _ iW _ _ (HP3.o.ae X5.o) (by have:=HW.o;rw[bS]at this;simp;omega) (by decide) _ Hw.o.2.2 HD2.o).mono ?_;rintro e r2 ⟨b2,rfl,hr2,hb2,mr2⟩;have X6:=ai (X5.o.trans mr2);have iO:af _:=hr2;have MR2:af _:=mr2;have HB2:=ai hb2;clear hr2 hb2 mr2;go_wp2_with (at_builtin;refine aP _ rfl (.tmp 40) (.tmp 64) 86 rfl 138 iP (vO) 1 8 underlying86 hiP sK hsP wJ rfl (by decide) u4 (ee bs) (bs.map gG) rfl (HO.o.ae (X6.o.alloc _)).sl ⟨r2.heap.size,0,ez⟩ 3 3 [gG b0,gG b1,gG b2] rfl rfl (aY _ _ _ _ rfl) (um [b0,b1,b2]) (by have:=HL.o;unfold fX;omega) (by have:=HL.o;omega) ?_;intro vA wA sA mA lA;obtain⟨oA,cA,rfl,_⟩:=Sl.view sA);have H01:b0<b1:=by have:=fQ.o.lt;have:=U2.o.size;have:=HB1.o;omega
    have H12:b1<b2:=by have:=DZ.o.lt;have:=MB2.o.size;have:=HB2.o;omega
    have H0:wr.heap.size<=b0:=by have:=HB0.o;have:=X1.o.size;omega
    have HG:af (aT w.heap.size wA (eK oA (ee bs+3) cA) (bs++[b0,b1,b2]) (Tz k++[gY (128+k) ([108,100]++wd) kN,gY (132+k) ([115,116]++wd) jI,gY (136+k) ([115,116]++wd) iW])) :=
     aT.grow [b0,b1,b2] _ HO.o (X6.o.alloc _) rfl (by simp;omega) (by simp;omega) (λi h h'=>by
      have hi:i=0\/i=1\/i=2:=by simp at h;omega
      rcases hi with rfl|rfl|rfl
      ·exact((((fQ.o.ae U2.o).ae MR1.o).ae MB2.o).ae MR2.o).ae aq
      ·exact((DZ.o.ae MB2.o).ae MR2.o).ae aq
      ·exact iO.o.ae aq) sA mA lA HM.o.size
    have Ge:=ai ((HM.o.trans (X6.o.alloc _)).step mA (λi hi h=>by have:=HO.o.own i h;omega));have HK:=ai ((X6.o.alloc _).kp.trans (aa.F9 (HO.o.ae (X6.o.alloc _)).sl mA));rw[<-HST.o]at HG;clear H01 H12 H0 hidx;go_roundw
    case rel=>exact⟨k+1,_,by omega,by go_num,HG.o,xz.o.kp HK.o,pO.o.kp HK.o,HP3.o.kp HK.o,Ge.o⟩
    case measure=>simp[intOf];omega
   ·obtain rfl:k=4:=by omega
    go_wp2_with fail;go_meet;exact⟨bs,hO,hM⟩
 case rest =>
 obtain⟨bs,hO,hM⟩:=hcut;have HO:=ai hO;have HM:=ai hM;clear hO hM ER Qc cHP Y9;go_wp2_with fail;go_ret;exact⟨_,_,rfl,HO.o,HM.o⟩
abbrev aaM:tAV:=#[eI (T [103,101,116]),eL (.func 314) #[] #[],eI (T [112,117,116]),eL (.func 315) #[] #[],eI (T [100,101,108]),eL (.func 316) #[] #[],eI (T [108,111,103]),eL (.func 317) #[] #[]]
theorem j9(w:tW):fL prog 261 #[] w λe w'=>e=fR (fW aaM)/\aa ah w w':=by go_in;go_wp2_with fail;exact bodyPost_ret (results_cell_row results261 _ _ w.heap.size 324 _ (0,0) _ rfl (ak.new _ _ _) underlying324 rfl (by kernel_rfl)) rfl ⟨rfl,aq⟩
theorem Gu(o:dX)(ho:o.call=eJ)(x:dQ)(hx:x.Fit)(w:tW):fL prog 137 #[fW x.cells] w λe w'=>e=fR (fS (o.needs x))/\aa ah w w':=by
 have hw:o.needs x=(cK x 10&&(decide (x.s=1)||(decide (x.s=0)&&decide (1<=x.num)&&decide (x.num<5)))):=by unfold dX.needs;rw[ho,iP9 rfl]
 rw[hw];clear hw ho;have hO:=Ce x 10 (by decide);obtain⟨op,d,s,jump,num,high,label,name⟩:=x;generalize hob:cK ⟨op,d,s,jump,num,high,label,name⟩ 10=ob at *;clear hob;have hs:=hx.s;have n0:=hx.n0;have n1:=hx.n1;clear hx;unfold dQ.cells at *;simp only at *;have HO:af _:=hO;clear hO;cases ob with
 |false =>go_in;go_wp2_with fail;refine(HO.o _).mono ?_;rintro e w1 ⟨rfl,m1⟩;go_wp2_with fail;go_ret;exact⟨by simp,aq.trans m1⟩
 |true =>
  have hq:=ak.new w #[op,vB d,vB s,.int .i16 jump,vJ num,vJ high,eI label,eI name] 141;by_cases h1:s=1
  ·subst h1;go_in;go_wp2_with fail;refine(HO.o _).mono ?_;rintro e w1 ⟨rfl,m1⟩;have hq1:=hq.ae m1 id;have z2:=hq1.cell 2;simp at z2;go_wp2_with fail;go_ret;exact⟨by simp,aq.trans m1⟩
  ·have q1:decide ((s:Int)=1)=eE:=by simp;omega
   go_in;go_wp2_with fail;refine(HO.o _).mono ?_;rintro e w1 ⟨rfl,m1⟩;have hq1:=hq.ae m1 id;have z2:=hq1.cell 2;simp at z2;have y2:∀g:Ext ah w1,g.w.cell? ⟨w.heap.size,2,ez⟩=eC (vB s):=λg=>g.cell hq1 id 2;have y4:∀g:Ext ah w1,g.w.cell? ⟨w.heap.size,4,ez⟩=eC (vJ num):=λg=>g.cell hq1 id 4;have ne1:=Ext.ne ah w1;clear hq hq1;by_cases h0:s=0
   ·subst h0;by_cases ha:1<=num
    ·by_cases hb:num<5
     ·go_wp2_with fail;refine fZ ah (by kernel_rfl) (by kernel_rfl) ?_
      repeat(go_big_quiet_step ((go_at_call 261;exact Calls.mV (j9 _))))
      refine lz ?_;rintro w2 ⟨⟨wx,m2⟩,hwx⟩;simp only at hwx;subst hwx;go_wp2_with fail;go_ret;exact⟨by simp,(aq.trans m1).trans m2⟩
     ·have hb':decide (num<5)=eE:=by simp;omega
      go_wp2_with fail;refine fZ ah (by kernel_rfl) (by kernel_rfl) ?_
      repeat(go_big_quiet_step ((go_at_call 261;exact Calls.mV (j9 _))))
      refine lz ?_;rintro w2 ⟨⟨wx,m2⟩,hwx⟩;simp only at hwx;subst hwx;go_wp2_with fail;go_ret;exact⟨by simp,(aq.trans m1).trans m2⟩
    ·have ha':decide (1<=num)=eE:=by simp;omega
     go_wp2_with fail;refine fZ ah (by kernel_rfl) (by kernel_rfl) ?_
     repeat(go_big_quiet_step ((go_at_call 261;exact Calls.mV (j9 _))))
     refine lz ?_;rintro w2 ⟨⟨wx,m2⟩,hwx⟩;simp only at hwx;subst hwx;go_wp2_with fail;go_ret;exact⟨by simp,(aq.trans m1).trans m2⟩
   ·have h0':((s:Int)==0)=eE:=by simp;omega
    go_wp2_with fail;refine fZ ah (by kernel_rfl) (by kernel_rfl) ?_
    repeat(go_big_quiet_step ((go_at_call 261;exact Calls.mV (j9 _))))
    refine lz ?_;rintro w2 ⟨⟨wx,m2⟩,hwx⟩;simp only at hwx;subst hwx;go_wp2_with fail;go_ret;exact⟨by simp[h0,h1],(aq.trans m1).trans m2⟩
