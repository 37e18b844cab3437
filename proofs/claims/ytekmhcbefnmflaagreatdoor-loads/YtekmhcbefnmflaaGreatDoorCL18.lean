import Derived.Lib.AppendZerosOnto
import Derived.Test.YtekmhcbefnmflaaGreatDoorCL17
namespace Go.Proofs.YtekmhcbefnmflaaGreatDoor
open Go.RowKit Tryz
open List renaming take_succ_eq_append_getElem->an,flatMap_append->ao,flatMap_cons->ar,length_append->bh,nodup_append->bt,not_mem_nil->b5,getElem_mem->b9,mem_cons->cb,take_length->cj,flatMap_nil->cw,length->ee
open Nat renaming zero_le->ab
open Bool renaming true->eJ,false->eE
open Ending renaming returned->fR
open Obj renaming cells->eR
open Option renaming some->eC,none->ez
open Value renaming string->eI,bool->fS,func->eL,slice->eK
open _root_.Go renaming Value->eM,Calls->fL,info_parts->lO,grownCap->pL,maxLen->fX
set_option linter.all false
set_option maxRecDepth 100000
set_option maxHeartbeats 2000000
theorem QJ{r:dA}(h:r.word=[99,97,108,108]):r.call=if nameB (aQ r.rest).1 then eC {r with s:=1,name:=(aQ r.rest).1,rest:=(aQ r.rest).2}else ez:=by unfold dA.call;rw[iP9 h]
theorem ES{r:dA}(h:r.word≠[99,97,108,108]):r.call=(pT.findIdx? (λh=>h==(aQ r.rest).1)).map (λn=>{r with num:=(1+n:Nat),rest:=(aQ r.rest).2}):=by unfold dA.call;rw[iN9 h]
theorem QK(b:Nat)(op:eM)(r:dA)(w:tW)(h:ak w b (r.cells op) 297)(hl:ee r.rest<=1000000)(hm:r.word=[99,97,108,108]):fL prog 135 #[vP b] w λe w'=>bO w b op r.call e w':=by
 have hq:((T r.word).toList==[99,97,108,108])=eJ:=gi (by rw[hm]);have HN:af (∀w',ak w' b ({r with s:=1}.cells op) 297->fL prog 108 #[.pointer (eC ⟨b,1,ez⟩)] w' λe w''=>e=fR (.tuple #[eI (T (aQ r.rest).1),fS (nameB (aQ r.rest).1)])/\bG w' b 1 ({r with s:=1}.cells op) 297 (aQ r.rest).2 w''):=λw' h'=>pV _ 1 _ _ _ w' (lX (r:={r with s:=1}) h') hl
 have uf:af (∀e w',e=fR (fS (nameB (aQ r.rest).1))->aa (Only b) w w'->ak w' b ({r with s:=1,name:=(aQ r.rest).1,rest:=(aQ r.rest).2}.cells op) 297->bO w b op r.call e w'):=λe w' he hmd hbk=>by
  rw[QJ hm];cases hn:nameB (aQ r.rest).1 with
  |true=>rw[hn]at he;exact⟨by rw[he];rfl,hmd,λr' hr'=>by cases hr';exact hbk⟩
  |false=>rw[hn]at he;exact⟨by rw[he];rfl,hmd,λr' hr'=>by cases hr'⟩
 generalize bO w b op r.call=RP at *;generalize nameB (aQ r.rest).1=nb at *;generalize aQ r.rest=w1 at *;obtain⟨n1,l1⟩:=w1;dsimp only at *;have c0:=h.c0;have c4:=h.c4;have zf:=h.frozen;have HB0:af (ak (w.setCell ⟨b,4,ez⟩ (vB 1)) b ({r with s:=1}.cells op) 297):=h.set 4 _;have dU:af (aa (Only b) w (w.setCell ⟨b,4,ez⟩ (vB 1))):=aA.bz 4 _;clear h hl hm;go_in;go_wp2_with fail;refine(HN.o _ HB0.o).mono ?_;rintro e wa ⟨rfl,hp1⟩;have HB1:=ai hp1.rd;have dB:=ai (dU.o.trans hp1.2);clear hp1 HB0 dU HN c0 c4 zf;have z9:wa.cell? ⟨b,9,ez⟩=eC (eI (T r.name)):=HB1.o.cell 9;have zf:=HB1.o.frozen;go_wp2_with fail;exact uf.o _ _ rfl (dB.o.bz 9 _) (HB1.o.set 9 _)
theorem acY(k:Nat)(hk:k<4):∃f c,∀W,(Instr.index 324 (.agg aaM) (vI k)).run prog W=.ok (.agg #[eI (T (pT[k]?.getD [])),eL f #[] c]) W:=by
 obtain rfl|rfl|rfl|rfl:k=0\/k=1\/k=2\/k=3:=by omega
 ·exact⟨_,_,λW=>rfl⟩
 ·exact⟨_,_,λW=>rfl⟩
 ·exact⟨_,_,λW=>rfl⟩
 ·exact⟨_,_,λW=>rfl⟩
def zO(x:tLB)(k:Nat):Prop:=∀j,j<k->pT[j]?.getD []≠x
theorem Ve{x:tLB}{k:Nat}(hk:k<4)(h:zO x k)(e:pT[k]?.getD []=x):pT.findIdx? (λh=>h==x)=eC k:=by
 have hl:ee pT=4:=rfl;rw[List.findIdx?_eq_some_iff_getElem];refine⟨by omega,?_,λj hj=>?_⟩
 ·rw[List.getElem?_eq_getElem (by omega)]at e
  simpa using e
 ·have:=h j hj;rw[List.getElem?_eq_getElem (by omega)]at this
  simpa using this
theorem QL{x:tLB}(h:zO x 4):pT.findIdx? (λh=>h==x)=ez:=by
 rw[List.findIdx?_eq_none_iff];intro y hy;obtain⟨j,hj,rfl⟩:=List.getElem_of_mem hy;have:=h j (by simpa [pT]using hj);rw[List.getElem?_eq_getElem hj]at this
 simpa using this
theorem QM(b:Nat)(op:eM)(r:dA)(w:tW)(h:ak w b (r.cells op) 297)(hl:ee r.rest<=1000000)(hm:r.word≠[99,97,108,108]):fL prog 135 #[vP b] w λe w'=>bO w b op r.call e w':=by
 have hq:=fP (λe=>hm (px e));have hwl:=jY r.rest;have HW:=ai (iA b 1 _ _ r.rest w (lX h) hl);have uf:af (∀e w' k,k<4->e=fR (fS eJ)->aa (Only b) w w'->zO (aQ r.rest).1 k->pT[k]?.getD []=(aQ r.rest).1->ak w' b ({r with num:=(1+k:Nat),rest:=(aQ r.rest).2}.cells op) 297->bO w b op r.call e w'):=λe w' k hk he hmd h1 h2 hbk=>by rw[ES hm,Ve hk h1 h2];exact⟨by rw[he];rfl,hmd,λr' hr'=>by cases hr';exact hbk⟩
 have HPZ:af (∀e w',e=fR (fS eE)->aa (Only b) w w'->zO (aQ r.rest).1 4->bO w b op r.call e w'):=λe w' he hmd h1=>by rw[ES hm,QL h1];exact⟨by rw[he];rfl,hmd,λr' hr'=>by cases hr'⟩
 generalize bO w b op r.call=RP at *;generalize aQ r.rest=w1 at *;obtain⟨x,l1⟩:=w1;dsimp only at *;have c0:=h.c0;clear h hl;go_in;go_wp2_with fail;refine HW.o.mono ?_;rintro e wa ⟨rfl,hp1⟩;have HB1:=ai hp1.rd;have dB:=ai (hp1.2);clear hp1 HW c0 hq hm;go_wp2_with fail;refine(j9 _).mono ?_;rintro e wb ⟨rfl,m2⟩;have HB2:=ai (HB1.o.ae m2 id);have dV:=ai (dB.o.trans m2.of_nil);clear m2 HB1 dB;go_wp2_with fail;go_loopg [33] 4 (λq v wx=>∃k:Nat,k<=4/\v=vI k/\ak wx b ({r with rest:=l1}.cells op) 297/\aa (Only b) w wx/\zO x k/\q=4-k)
 case atStart=>exact⟨0,by omega,rfl,HB2.o,dV.o,λj hj=>absurd hj (Nat.not_lt_zero _),rfl⟩
 case round =>
  obtain⟨k,hk,rfl,hbk,hmk,hto,rfl⟩:=hrel;have pQ:=ai hbk;have xx:=ai hmk;have HTo:=ai hto;clear hbk hmk hto HB2 dV;by_cases hlt:k<4
  ·obtain⟨f,c,hI⟩:=acY k hlt;have ae3:=ai (λe w'=>uf.o e w' k hlt)
   have HTs:af (pT[k]?.getD []≠x->zO x (k+1)):=λhne j hj=>by
    rcases Nat.lt_or_ge j k with e|e
    ·exact HTo.o j e
    ·have:j=k:=by omega
     subst this;exact hne
   generalize pT[k]?.getD []=hw at *;have HB3:af (ak (wr.alloc (eR #[eI (T hw),eL f #[] c] 323)) b ({r with rest:=l1}.cells op) 297):=pQ.o.alloc _;have eH:=ai (xx.o.alloc (eR #[eI (T hw),eL f #[] c] 323));have hbl:=pQ.o.lt;have z6:wr.cell? ⟨b,6,ez⟩=eC (vJ r.num):=pQ.o.cell 6;have zf:=pQ.o.frozen;by_cases hx:hw=x
   ·have hq:((T x).toList==(T hw).toList)=eJ:=FV (by rw[hx]);have jh:af (aa (Only b) w ((wr.setCell ⟨b,6,ez⟩ (vJ (1+(k:Int)))).alloc (eR #[eI (T hw),eL f #[] c] 323))):=(xx.o.bz 6 _).alloc _
    have iH:af (ak ((wr.setCell ⟨b,6,ez⟩ (vJ (1+(k:Int)))).alloc (eR #[eI (T hw),eL f #[] c] 323)) b ({r with num:=(1+k:Nat),rest:=l1}.cells op) 297):=by
     have e:((1+k:Nat):Int)=1+(k:Int):=by omega
     have:=(pQ.o.set 6 (vJ (1+(k:Int)))).alloc (eR #[eI (T hw),eL f #[] c] 323);unfold dA.cells;dsimp only;rw[e];exact this
    have HX:=ai hx;clear hx;go_wp2_with fail;exact ae3.o _ _ rfl jh.o HTo.o HX.o iH.o
   ·have hq:=qF (λe=>hx (px e).symm);have HT2:=ai (HTs.o hx);clear hx;go_wp2_with fail;go_roundg (4-(k+1))
    case measure=>omega
    case rel=>exact⟨k+1,by omega,by go_num,HB3.o,eH.o,HT2.o,rfl⟩
  ·have hke:k=4:=by omega
   subst hke;go_wp2_with fail;exact HPZ.o _ _ rfl xx.o HTo.o
theorem Ls(b:Nat)(op:eM)(r:dA)(w:tW)(h:ak w b (r.cells op) 297)(hl:ee r.rest<=1000000):fL prog 135 #[vP b] w λe w'=>bO w b op r.call e w':=by
 by_cases hm:r.word=[99,97,108,108]
 ·exact QK b op r w h hl hm
 ·exact QM b op r w h hl hm
def I1:dX:=⟨193,[],[],1,eE,eE,1,eJ⟩
theorem Vf(w:tW)(b1:Nat)(hb:ak w b1 #[eI ⟨#[104,101,108,112]⟩,eI ⟨#[99,97,108,108]⟩] 9):EK w (eK (eC ⟨b1,0,ez⟩) 2 2) (.func 135) #[] 136 #[] 137 #[] (.func 138) #[] I1 where
 wr:=trivial
 nd:=λw' x _ hx=>by simpa using Gu I1 rfl x hx w'
 e7:=enters_of func136 (by kernel_rfl) rfl
 e8:=enters_of func137 (by kernel_rfl) rfl
 ws:=Sl.fresh hb rfl (by decide)
 rd:=⟨_,rfl,enters_of func135 (by kernel_rfl) rfl,λw' b op r _ _ h hl=>by simpa [dX.read,I1]using Ls b op r w' h hl⟩
 dn:=⟨rfl,rfl⟩
theorem PartsAt.none(w:tW):PartsAt w (vN) []:=⟨[],rfl,λx h=>(by cases h),Sl.nil _ _ _⟩
theorem Gv(w:tW):fL prog 58 #[] w λe w'=>∃v bs,e=fR v/\aT w.heap.size w' v bs FY/\aa ah w w':=by
 go_in;go_wp2_with fail;refine(lJ _).mono ?_;rintro e aw0 ⟨⟨qO,qP,qQ,qR,qU,qV⟩,rfl,UW,UX⟩;go_wp2_with fail;refine(gj _).mono ?_;rintro e aw1 ⟨⟨qW,qX,qY,qZ,ra,rj⟩,rfl,UY,Lf⟩;go_wp2_with fail;refine(PO _).mono ?_;rintro e Lg ⟨⟨rq,ru,ry,rz,rA,rC⟩,rfl,UZ,Gd⟩
 have U0:af (PartsAt (Lg.alloc (eR #[vI 1,eL qO #[] qP,eL (.func qQ) #[] qR,eL (.func qU) #[] qV,vI 0,eL qW #[] qX,eL (.func qY) #[] qZ,eL (.func ra) #[] rj,vI 10,eL rq #[] ru,eL (.func ry) #[] rz,eL (.func rA) #[] rC] 225)) (eK (eC ⟨Lg.heap.size,0,ez⟩) 3 3) [.result,.comma,.wide]):=PartsAt.new Lg [(.result,⟨qO,qP,qQ,qR,qU,qV⟩),(.comma,⟨qW,qX,qY,qZ,ra,rj⟩),(.wide,⟨rq,ru,ry,rz,rA,rC⟩)] (by
  simp only[cb,b5,or_false];rintro x (rfl|rfl|rfl)
  ·exact((UW.ae Lf).ae Gd)
  ·exact(UY.ae Gd)
  ·exact UZ) _ rfl 3 rfl (by decide)
 have Tw:af (aa ah w (Lg.alloc (eR #[vI 1,eL qO #[] qP,eL (.func qQ) #[] qR,eL (.func qU) #[] qV,vI 0,eL qW #[] qX,eL (.func qY) #[] qZ,eL (.func ra) #[] rj,vI 10,eL rq #[] ru,eL (.func ry) #[] rz,eL (.func rA) #[] rC] 225))):=((((aa.refl ah w).trans UX).trans Lf).trans Gd).alloc _;clear UW UX UY Lf UZ Gd;simp only[PV.cells,PK.fills,Int.cast_ofNat_Int];go_wp2_with fail;generalize Lg.alloc (eR #[vI 1,eL qO #[] qP,eL (.func qQ) #[] qR,eL (.func qU) #[] qV,vI 0,eL qW #[] qX,eL (.func qY) #[] qZ,eL (.func ra) #[] rj,vI 10,eL rq #[] ru,eL (.func ry) #[] rz,eL (.func rA) #[] rC] 225)=W1 at *;generalize Lg.heap.size=g1 at *;refine(j8 _ _ 192 rfl _ [119,105,100,101] rfl _ [.result,.comma,.wide] _ _ U0.o (by decide) (by decide) _ rfl ⟨rfl,rfl⟩).mono ?_;rintro e w4 ⟨b4,rfl,h4,l4,m4⟩;have h5:=(h4.slots 2).aJ 2;have NV:af (w.heap.size<=b4):=by have:=Tw.o.size;exact(by omega:w.heap.size<=b4)
 have jK:af (aa ah w ((w4.setCell ⟨b4,2,ez⟩ (vI 2)).setCell ⟨b4,5,ez⟩ (vI 2))):=((Tw.o.trans m4).set (.inr NV.o) _).set (.inr NV.o) _;have H5:=ai h5;obtain⟨o1,n1,c1,f6,c6,k7,c7,k8,c8,f9,c9,hblk,_⟩:=h4.ex;have z2:=hblk.cell 2;have fz2:=hblk.frozen 2;have hblk2:=hblk.set 2 (vI 2);have z5:=hblk2.cell 5;have fz5:=hblk2.frozen 5;simp at z2 z5;have HZ:af (((w4.setCell ⟨b4,2,ez⟩ (vI 2)).setCell ⟨b4,5,ez⟩ (vI 2)).heap.size=w4.heap.size):=by simp[af,World.setCell]
 have iH:=ai h4.lt;clear hblk hblk2 h4 h5 U0 Tw m4 l4;go_wp2_with fail;generalize(w4.setCell ⟨b4,2,ez⟩ (vI 2)).setCell ⟨b4,5,ez⟩ (vI 2)=W5 at *
 have HC:af (eu ((W5.alloc (eR #[eI ⟨#[104,101,108,112]⟩,eI ⟨#[99,97,108,108]⟩] 9)).alloc (eR #[vB 193,eK (eC ⟨w4.heap.size,0,ez⟩) 2 2,vI 1,fS eE,fS eE,vI 1,eL (.func 135) #[] #[],eL (.func 136) #[] #[],eL (.func 137) #[] #[],eL (.func 138) #[] #[]] 158)) (w4.heap.size+1) I1):=by
  have hb:ak ((W5.alloc (eR #[eI ⟨#[104,101,108,112]⟩,eI ⟨#[99,97,108,108]⟩] 9)).alloc (eR #[vB 193,eK (eC ⟨w4.heap.size,0,ez⟩) 2 2,vI 1,fS eE,fS eE,vI 1,eL (.func 135) #[] #[],eL (.func 136) #[] #[],eL (.func 137) #[] #[],eL (.func 138) #[] #[]] 158)) (w4.heap.size+1) #[vB 193,eK (eC ⟨w4.heap.size,0,ez⟩) 2 2,vI 1,fS eE,fS eE,vI 1,eL (.func 135) #[] #[],eL (.func 136) #[] #[],eL (.func 137) #[] #[],eL (.func 138) #[] #[]] 158:=by
   have:=ak.new (W5.alloc (eR #[eI ⟨#[104,101,108,112]⟩,eI ⟨#[99,97,108,108]⟩] 9)) #[vB 193,eK (eC ⟨w4.heap.size,0,ez⟩) 2 2,vI 1,fS eE,fS eE,vI 1,eL (.func 135) #[] #[],eL (.func 136) #[] #[],eL (.func 137) #[] #[],eL (.func 138) #[] #[]] 158;have e:(W5.alloc (eR #[eI ⟨#[104,101,108,112]⟩,eI ⟨#[99,97,108,108]⟩] 9)).heap.size=w4.heap.size+1:=by have:=HZ.o;simp;omega
   rw[e]at this;exact this
  have hb5:ak ((W5.alloc (eR #[eI ⟨#[104,101,108,112]⟩,eI ⟨#[99,97,108,108]⟩] 9)).alloc (eR #[vB 193,eK (eC ⟨w4.heap.size,0,ez⟩) 2 2,vI 1,fS eE,fS eE,vI 1,eL (.func 135) #[] #[],eL (.func 136) #[] #[],eL (.func 137) #[] #[],eL (.func 138) #[] #[]] 158)) w4.heap.size #[eI ⟨#[104,101,108,112]⟩,eI ⟨#[99,97,108,108]⟩] 9:=by have:=(ak.new W5 #[eI ⟨#[104,101,108,112]⟩,eI ⟨#[99,97,108,108]⟩] 9).alloc (eR #[vB 193,eK (eC ⟨w4.heap.size,0,ez⟩) 2 2,vI 1,fS eE,fS eE,vI 1,eL (.func 135) #[] #[],eL (.func 136) #[] #[],eL (.func 137) #[] #[],eL (.func 138) #[] #[]] 158);rw[HZ.o]at this;exact this
  exact⟨_,_,_,_,_,_,_,_,_,_,_,hb,Vf _ _ hb5⟩
 have H6:af (eu ((W5.alloc (eR #[eI ⟨#[104,101,108,112]⟩,eI ⟨#[99,97,108,108]⟩] 9)).alloc (eR #[vB 193,eK (eC ⟨w4.heap.size,0,ez⟩) 2 2,vI 1,fS eE,fS eE,vI 1,eL (.func 135) #[] #[],eL (.func 136) #[] #[],eL (.func 137) #[] #[],eL (.func 138) #[] #[]] 158)) b4 _):=H5.o.ae (aq.alloc _);have yq:af (aa ah w ((W5.alloc (eR #[eI ⟨#[104,101,108,112]⟩,eI ⟨#[99,97,108,108]⟩] 9)).alloc (eR #[vB 193,eK (eC ⟨w4.heap.size,0,ez⟩) 2 2,vI 1,fS eE,fS eE,vI 1,eL (.func 135) #[] #[],eL (.func 136) #[] #[],eL (.func 137) #[] #[],eL (.func 138) #[] #[]] 158))):=(jK.o.alloc _).alloc _;have I4:af (((W5.alloc (eR #[eI ⟨#[104,101,108,112]⟩,eI ⟨#[99,97,108,108]⟩] 9)).alloc (eR #[vB 193,eK (eC ⟨w4.heap.size,0,ez⟩) 2 2,vI 1,fS eE,fS eE,vI 1,eL (.func 135) #[] #[],eL (.func 136) #[] #[],eL (.func 137) #[] #[],eL (.func 138) #[] #[]] 158)).heap.size=w4.heap.size+2):=by have:=HZ.o;simp[af];omega
 clear H5 jK HZ;generalize(W5.alloc (eR #[eI ⟨#[104,101,108,112]⟩,eI ⟨#[99,97,108,108]⟩] 9)).alloc (eR #[vB 193,eK (eC ⟨w4.heap.size,0,ez⟩) 2 2,vI 1,fS eE,fS eE,vI 1,eL (.func 135) #[] #[],eL (.func 136) #[] #[],eL (.func 137) #[] #[],eL (.func 138) #[] #[]] 158)=W6 at *;refine(j8 _ _ 194 rfl _ [101,120,105,116] rfl _ [] _ _ (PartsAt.none W6) (by decide) (by decide) _ rfl ⟨rfl,rfl⟩).mono ?_;rintro e w7 ⟨b7,rfl,h7,l7,m7⟩;have h8:=h7.ends;have HL7:af (w4.heap.size+2<=b7):=by have:=I4.o;exact(by omega:w4.heap.size+2<=b7)
 have HLW:af (w.heap.size<=b7):=by have:=NV.o;have:=iH.o;have:=HL7.o;exact(by omega:w.heap.size<=b7)
 have Gf:af (aa ah w (w7.setCell ⟨b7,4,ez⟩ (fS eJ))):=(yq.o.trans m7).set (.inr HLW.o) _;have H8:=ai h8;have H84:af (eu (w7.setCell ⟨b7,4,ez⟩ (fS eJ)) b4 _):=(H6.o.ae m7).other h7.yN (by have:=iH.o;have:=HL7.o;omega) 4 _;have H8C:af (eu (w7.setCell ⟨b7,4,ez⟩ (fS eJ)) (w4.heap.size+1) I1):=(HC.o.ae m7).other h7.yN (by have:=HL7.o;omega) 4 _;obtain⟨o2,n2,c2',f6',c6',k7',c7',k8',c8',f9',c9',hblk',_⟩:=h7.ex;have y4:=hblk'.cell 4;have fy4:=hblk'.frozen 4;simp at y4;have HZ8:af ((w7.setCell ⟨b7,4,ez⟩ (fS eJ)).heap.size=w7.heap.size):=by simp[af,World.setCell]
 clear hblk' h7 h8 m7 l7 HC H6 yq;go_wp2_with fail;go_ret;refine⟨_,[b4,w4.heap.size+1,b7],rfl,?_,Gf.o.alloc _⟩;show aT w.heap.size _ (eK (eC ⟨w7.heap.size,0,ez⟩) 3 3) _ _
 rw[<-HZ8.o];refine aT.fresh [b4,w4.heap.size+1,b7] FY rfl ?_ ?_ ?_ _ rfl 3 rfl (by decide) Gf.o.size
 ·have:=iH.o;have:=HL7.o;simp;omega
 ·have:=NV.o;have:=iH.o;have:=HL7.o;simp;omega
 ·intro i h h';have hi:i=0\/i=1\/i=2:=by simp at h;omega
  rcases hi with rfl|rfl|rfl
  ·exact H84.o
  ·exact H8C.o
  ·exact H8.o
theorem Vg(w:tW)(n:Nat)(h0:0<n)(hn:n<=1000):fL prog 110 #[vN,vI n] w λe w'=>∃cap,e=fR (eK (eC ⟨w.heap.size,0,ez⟩) 0 cap)/\Sl w' 138 1 (eK (eC ⟨w.heap.size,0,ez⟩) 0 cap) 0 []/\aa ah w w':=by
 obtain⟨iP,hiP,sK,hsP,wJ⟩:=lO uk;have hold:(Builtin.firstCells iP.size 0 (vN)).run prog w.drew=.ok ([]:tLV).toArray w.drew:=run_firstCells_none w.drew iP.size 0 0 0
 have hrz:=λty=>by
  have h:=Lib.run_append_grow_zeros w 86 3 ty 138 iP (vO) .i64 .i64 underlying86 underlying3 hiP sK ez 0 0 [] hold n h0 (by rw[hsP];decide) (by omega) (by omega) (by rw[wJ];omega)
   (by rw[wJ,Nat.zero_add];exact growslice_fits (by omega) (by omega))
  rw[Nat.zero_add]at h;exact h
 have hGn:n<=pL w n 0 138:=grownCap_ge w _ _ _;have hGm:=grownCap_le_maxLen w n 0 138 (by unfold fX;omega);have hsz:(([]:tLV).toArray++Builtin.zeroCells (Value.pointer ez).cells n++Builtin.zeroCells (Value.pointer ez).cells (pL w n 0 138-n)).size=pL w n 0 138:=by simp[Builtin.zeroCells,Value.cells];omega
 generalize([]:tLV).toArray++Builtin.zeroCells (Value.pointer ez).cells n++Builtin.zeroCells (Value.pointer ez).cells (pL w n 0 138-n)=cs at *;generalize pL w n 0 138=G at *;have hS:Sl (w.drew.alloc (eR cs 138)) 138 1 (eK (eC ⟨w.heap.size,0,ez⟩) 0 G) 0 []:=XX.sl ⟨ab _,hGm,by omega,by simp,rfl⟩ (ak.new w.drew cs 138);have HS:af _:=hS;unfold fX at hGm;clear hold hS;go_in;go_wp2_with (at_builtin;refine Lib.wpList_append_run _ rfl _ _ _ _ rfl _ _ rfl rfl _ _ (hrz _) ?_)
 all_goals
  go_ret;exact⟨G,rfl,HS.o,aU.alloc _⟩
structure Seg where
 g:Nat
 c:Nat
 bs:tLN
 os:List dX
def Seg.val(s:Seg):eM:=eK (eC ⟨s.g,0,ez⟩) (ee s.bs) s.c
theorem aT.keep{base:Nat}{w w':tW}{v u:eM}{bs:tLN}{os:List dX}{n:Nat}{xs:tLV}(h:aT base w v bs os)(hu:Sl w 138 1 u n xs)(m:aa (λk=>u.ownBlock=eC k) w w')(hne:∀k,v.ownBlock=eC k->u.ownBlock≠eC k):aT base w' v bs os:=by have hk:=aa.F9 hu m;refine⟨h.len,h.nd,h.sl.ae m (λk hk' e=>hne k hk' e),λi h1 h2=>?_,h.lo,h.own⟩;have ha:=h.at' i h1 h2;exact ha.kpb hk (m.block _ ha.lt (λe=>ha.Ld hu e))
structure QN(w0:tW)(bA:List Seg)(k:Nat)(v:eM)(w:tW):Prop where
 acc:aT 0 w v ((bA.take k).flatMap Seg.bs) ((bA.take k).flatMap Seg.os)
 each:∀s∈bA,aT 0 w s.val s.bs s.os
 own:∀s∈bA,v.ownBlock≠eC s.g
 new:∀j,v.ownBlock=eC j->w0.heap.size<=j
 md:aa ah w0 w
theorem Lt(bA:List Seg)(k:Nat)(hs:∀s∈bA,ee s.bs<=100):ee ((bA.take k).flatMap Seg.bs)<=100*ee bA:=by
 have h:∀l:List Seg,(∀s∈l,ee s.bs<=100)->ee (l.flatMap Seg.bs)<=100*ee l:=by
  intro l;induction l with
  |nil=>intro _;simp
  |cons x l ih =>intro hl;have h1:=hl x (by simp);have h2:=ih (λs hs=>hl s (List.mem_cons_of_mem _ hs));rw[ar,bh,List.length_cons];omega
 have h1:=h (bA.take k) (λs hs'=>hs s (List.mem_of_mem_take hs'));have h2:ee (bA.take k)<=ee bA:=by simp;omega
 omega
theorem Gw(bA:List Seg)(k:Nat)(h:k<ee bA):ee ((bA.take (k+1)).flatMap Seg.bs)=ee ((bA.take k).flatMap Seg.bs)+ee bA[k].bs:=by rw[an h,ao,bh];simp
theorem Zj(bA:List Seg)(h0:0<ee bA)(h:∀s∈bA,0<ee s.bs):0<ee (bA.flatMap Seg.bs):=by
 match bA,h0,h with
 |s::l,_,h =>have:=h s List.mem_cons_self;rw[ar,bh];omega
theorem QN.step{w0 w w':tW}{bA:List Seg}{k:Nat}{v v':eM}(h:QN w0 bA k v w)(hk:k<ee bA)(hnd:(bA.flatMap Seg.bs).Nodup)(hsl:Sl w' 138 1 v' (ee ((bA.take k).flatMap Seg.bs)+ee bA[k].bs) (((bA.take k).flatMap Seg.bs).map gG++bA[k].bs.map gG)) (m:aa (λj=>v.ownBlock=eC j) w w') (ho:∀j,v'.ownBlock=eC j->v.ownBlock=eC j\/w.heap.size<=j):QN w0 bA (k+1) v' w':=by
 have e1:(bA.take (k+1)).flatMap Seg.bs=(bA.take k).flatMap Seg.bs++bA[k].bs:=by rw[an hk,ao];simp
 have e2:(bA.take (k+1)).flatMap Seg.os=(bA.take k).flatMap Seg.os++bA[k].os:=by rw[an hk,ao];simp
 have hs:=h.each bA[k] (b9 hk);refine⟨?_,λs hs'=>?_,λs hs' e=>?_,λj hj=>?_,h.md.step m (λi hi e=>by have:=h.new i e;omega)⟩
 ·rw[e1,e2];refine h.acc.app hs.len ?_ hs.at' hs.lo hsl m ho (ab _);rw[<-e1];have e3:bA.flatMap Seg.bs=(bA.take (k+1)).flatMap Seg.bs++(bA.drop (k+1)).flatMap Seg.bs:=by rw[<-ao,List.take_append_drop]
  rw[e3]at hnd;exact(List.nodup_append.1 hnd).1
 ·exact(h.each s hs').keep h.acc.sl m (λj hj e=>h.own s hs' (by rw[e];cases hj;rfl))
 ·rcases ho _ e with e'|e'
  ·exact h.own s hs' e'
  ·have:=(h.each s hs').sl.lt s.g rfl;omega
 ·rcases ho j hj with e|e
  ·exact h.new j e
  ·have:=h.md.size;omega
theorem Lu(w:tW)(g c:Nat)(bA:List Seg)(hS:Sl w 86 1 (eK (eC ⟨g,0,ez⟩) (ee bA) c) (ee bA) (bA.map Seg.val))(he:∀s∈bA,aT 0 w s.val s.bs s.os)(hb:∀s∈bA,0<ee s.bs/\s.bs.length<=100)(hl:ee bA<=10)(h0:0<ee bA)(hnd:(bA.flatMap Seg.bs).Nodup):fL prog 54 #[eK (eC ⟨g,0,ez⟩) (ee bA) c] w λe w'=>∃v,e=fR v/\aT 0 w' v (bA.flatMap Seg.bs) (bA.flatMap Seg.os)/\aa ah w w':=by
 obtain⟨iP,hiP,sK,hsP,wJ⟩:=lO uk;have hcell:∀(k:Nat) (hk:k<ee bA),w.cell? ⟨g,k,ez⟩=eC (eK (eC ⟨bA[k].g,0,ez⟩) (ee bA[k].bs) bA[k].c):=by intro k hk;obtain⟨g',hg',cs⟩:=hS.at rfl k hk;cases hg';rw[cs k hk];simp[hk,Seg.val]
 have afY:=hS.lt g rfl
 have ae4:∀s∈bA,g≠s.g:=by
  intro s hs e;have h1:=(he s hs).sl;rcases h1.2 with⟨h1,_⟩ |⟨g1,_,_,hv,_,hb1,_⟩
  ·cases h1
  ·cases hv;rcases hS.2 with⟨h2,_⟩ |⟨g2,_,_,hv2,_,hb2,_⟩
   ·cases h2
   ·cases hv2;rw[e]at hb2;rw[hb1]at hb2;cases hb2
 have HC:=ai hcell;have HE:=ai he;have HB:=ai hb;have HND:af _:=hnd;obtain⟨F,HF⟩:∃F:Nat->Nat,af (∀k,F k=ee ((bA.take k).flatMap Seg.bs)):=⟨λk=>ee ((bA.take k).flatMap Seg.bs),λ_=>rfl⟩
 obtain⟨X,HX⟩:∃X:Nat->tLV,af (∀k,X k=((bA.take k).flatMap Seg.bs).map gG):=⟨λk=>((bA.take k).flatMap Seg.bs).map gG,λ_=>rfl⟩
 have Vh:af (∀k,F k<=1000):=λk=>by have:=Lt bA k (λs hs=>(HB.o s hs).2);rw[HF.o k];omega
 have HST:af (∀k (hk:k<ee bA),F (k+1)=F k+ee bA[k].bs):=λk hk=>by rw[HF.o,HF.o];exact Gw bA k hk
 have Zk:af (F 0=0):=by rw[af,HF.o];rfl
 have HP:af (0<F (ee bA)):=by rw[af,HF.o,cj];exact Zj bA h0 (λs hs=>(HB.o s hs).1)
 clear hcell he hb hnd hS ae4;go_in;go_upto_block 0 with fail;go_cut [3] (λsv wl=>sv=vI (F (ee bA))/\wl=w)
 case first =>
  go_wp2_with fail;go_loop [3,11] (λsv i=>∃k:Nat,k<=ee bA/\i=vI k/\sv=vI (F k)) (λ_ i=>ee bA-(intOf i).toNat)
  case atStart=>exact⟨0,ab _,rfl,by rw[Zk.o];rfl⟩
  case round =>
   obtain⟨k,hk,rfl,rfl⟩:=hrel;by_cases hlt:k<ee bA
   ·have ck:=HC.o k hlt;have e1:=HST.o k hlt;have e2:=Vh.o k;have e3:=Vh.o (k+1);have HK:=ai e1;rw[e1]at e3;clear e1;generalize ee bA[k].bs=sn at *;generalize bA[k].g=sg at *;generalize bA[k].c=sc at *;go_wp2_with fail;go_round
    case rel=>exact⟨k+1,by omega,by go_num,by rw[HK.o];go_num⟩
    case measure=>simp[intOf];omega
   ·obtain rfl:k=ee bA:=by omega
    go_wp2_with fail;go_meet;exact⟨rfl,rfl⟩
 case rest =>
 obtain⟨rfl,hw⟩:=hcut;have hw':=hw.symm;clear hw;subst hw';have hp:=HP.o;have hm:=Vh.o (ee bA);go_wp2_with fail;refine(Vg _ _ hp hm).mono ?_;rintro e w1 ⟨cap,rfl,s1,m1⟩;have HR:af (QN w bA 0 (eK (eC ⟨w.heap.size,0,ez⟩) 0 cap) w1):=⟨⟨rfl,List.nodup_nil,s1,λi h=>absurd h (by simp),λb h=>(by cases h),λ_ _=>ab _⟩,λs hs=>(HE.o s hs).ae m1,λs hs e=>by have h1:=(HE.o s hs).sl.lt s.g rfl;have h2:w.heap.size=s.g:=Option.some.inj e;omega,λj hj=>by cases hj;exact Nat.le_refl _,m1⟩
 clear s1 m1;generalize F (ee bA)=FL at *;go_wp2_with fail;go_loopw [6,27] (λv i wl=>∃k:Nat,k<=ee bA/\i=vI k/\QN w bA k v wl) (λ_ i _=>ee bA-(intOf i).toNat)
 case atStart=>exact⟨0,ab _,rfl,HR.o⟩
 case round =>
  obtain⟨k,hk,rfl,hr⟩:=hrel;clear HR;have HR:=ai hr;by_cases hlt:k<ee bA
  ·have hlt':=hlt;have ck:=qc hr.md (HC.o k hlt);have HSg:=ai (hr.each bA[k] (b9 hlt'));have hbk:=HB.o bA[k] (b9 hlt')
   have HNw:af (∀j u,(bA[k].bs.map gG)[j]?=eC u->wr.cell? ((⟨bA[k].g,0,ez⟩:Addr).add j)=eC u):=λj u hu=>by
    obtain⟨g',hg',cs⟩:=HSg.o.sl.at rfl 0 hbk.1;cases hg';have hadd:(⟨bA[k].g,0,ez⟩:Addr).add j=⟨bA[k].g,j,ez⟩:=by unfold Addr.add;split<;>simp_all
    have hj:j<ee bA[k].bs:=by
     have:=(List.getElem?_eq_some_iff.1 hu).1
     simpa using this
    rw[hadd,cs j hj];exact hu
   have e2:=Vh.o k;have e3:=Vh.o (k+1);rw[HST.o k hlt']at e3;have HSl:af (Sl wr 138 1 u6 (F k) (X k)):=by have:=hr.acc.sl;rw[af,HF.o,HX.o];exact this
   have acZ:af (∀v' w',Sl w' 138 1 v' (F k+ee bA[k].bs) (X k++bA[k].bs.map gG)->aa (λj=>u6.ownBlock=eC j) wr w'->(∀j,v'.ownBlock=eC j->u6.ownBlock=eC j\/wr.heap.size<=j)->QN w bA (k+1) v' w'):=λv' w' s m l=>by rw[HF.o,HX.o]at s;exact HR.o.step hlt' HND.o s m l
   have XP:af (ee (bA[k].bs.map gG)=ee bA[k].bs*1):=by simp[af]
   have Eg:af (∀u∈bA[k].bs.map gG,u.oneCell'=eJ):=um _;clear hr HSg;generalize bA[k].bs.map gG=nws at *;generalize ee bA[k].bs=sn at *;generalize bA[k].g=sg at *;generalize bA[k].c=sc at *;generalize X k=xk at *;generalize F k=fk at *;go_wp2_with (at_builtin;refine aP _ rfl (.tmp 31) (.tmp 32) 86 rfl 138 iP (vO) 1 8 underlying86 hiP sK hsP wJ rfl (by decide) u6 fk xk rfl HSl.o ⟨sg,0,ez⟩ sn sc nws rfl XP.o HNw.o Eg.o (by unfold fX;omega) (by omega) ?_;intro vA wA sA mA lA;obtain⟨oA,cA,rfl,_⟩:=Sl.view sA);go_roundw
   case rel=>exact⟨k+1,by omega,by go_num,acZ.o _ _ sA mA lA⟩
   case measure=>simp[intOf];omega
  ·obtain rfl:k=ee bA:=by omega
   have hA:=HR.o.acc;rw[cj]at hA;have HA:af _:=hA;clear hA hr;go_wp2_with fail;go_ret;exact⟨_,rfl,HA.o,HR.o.md⟩
theorem aT.base{base b2:Nat}{w:tW}{v:eM}{bs:tLN}{os:List dX}(h:aT base w v bs os)(hb:b2<=base):aT b2 w v bs os :=
 ⟨h.len,h.nd,h.sl,h.at',λb hb'=>Nat.le_trans hb (h.lo b hb'),λk hk=>Nat.le_trans hb (h.own k hk)⟩
theorem aT.Cv{base:Nat}{w:tW}{v:eM}{bs:tLN}{os:List dX}(h:aT base w v bs os)(h0:0<ee os):∃g c,v=eK (eC ⟨g,0,ez⟩) (ee bs) c:=by obtain⟨o,c,rfl,hh⟩:=h.sl.view;obtain⟨g,cs,rfl,_⟩:=hh (by rw[h.len];exact h0);exact⟨g,c,rfl⟩
theorem zP(w:tW)(hE:xG w):fL prog 23 #[] w λe w'=>∃v bs,e=fR v/\aT 0 w' v bs ax/\aa ah w w':=by
 have HE:=ai hE;clear hE;go_in;go_wp2_with fail;refine(Gc _).mono ?_;rintro e w1 ⟨v1,bs1,rfl,o1,m1⟩;obtain⟨g1,c1,rfl⟩:=o1.Cv (by decide);have O1:af _:=o1;have M1:af _:=m1;clear o1 m1;go_wp2_with fail;refine(IZ _).mono ?_;rintro e w2 ⟨v2,bs2,rfl,o2,m2⟩;obtain⟨g2,c2,rfl⟩:=o2.Cv (by decide);have O2:af _:=o2;have M2:af _:=m2;clear o2 m2;go_wp2_with fail;refine(Lr _ (HE.o.ae (M1.o.trans M2.o))).mono ?_;rintro e w3 ⟨v3,bs3,rfl,o3,m3⟩;obtain⟨g3,c3,rfl⟩:=o3.Cv (by decide);have O3:af _:=o3;have M3:af _:=m3;clear o3 m3;go_wp2_with fail;refine(Gv _).mono ?_;rintro e w4 ⟨v4,bs4,rfl,o4,m4⟩;obtain⟨g4,c4,rfl⟩:=o4.Cv (by decide);have O4:af _:=o4;have M4:af _:=m4;clear o4 m4;have l1:ee bs1=50:=O1.o.len.trans (by decide);have l2:ee bs2=23:=O2.o.len.trans (by decide);have l3:ee bs3=12:=O3.o.len.trans (by decide);have l4:ee bs4=3:=O4.o.len.trans (by decide)
 have HK:af (∃bA:List Seg,bA=[⟨g1,c1,bs1,K0⟩,⟨g2,c2,bs2,NJ⟩,⟨g3,c3,bs3,aa3⟩,⟨g4,c4,bs4,FY⟩]/\(∀s∈bA,aT 0 w4 s.val s.bs s.os)/\(∀s∈bA,0<ee s.bs/\s.bs.length<=100)/\(bA.flatMap Seg.bs).Nodup):=by
  refine⟨_,rfl,?_,?_,?_⟩
  ·simp only[cb,b5,or_false];rintro s (rfl|rfl|rfl|rfl)
   ·exact(((O1.o.ae M2.o).ae M3.o).ae M4.o).base (ab _)
   ·exact((O2.o.ae M3.o).ae M4.o).base (ab _)
   ·exact(O3.o.ae M4.o).base (ab _)
   ·exact O4.o.base (ab _)
  ·simp only[cb,b5,or_false];rintro s (rfl|rfl|rfl|rfl)<;>simp only<;>omega
  ·have a1:=O1.o.lt;have a2:=O2.o.lt;have a3:=O3.o.lt;have b2:=O2.o.lo;have b3:=O3.o.lo;have b4:=O4.o.lo;have s2:=M2.o.size;have s3:=M3.o.size;simp only[ar,cw,List.append_nil];rw[bt,bt,bt];refine⟨O1.o.nd,⟨O2.o.nd,⟨O3.o.nd,O4.o.nd,λa ha b hb e=>?_⟩,λa ha b hb e=>?_⟩,λa ha b hb e=>?_⟩
   ·have:=a3 a ha;have:=b4 b hb;omega
   ·rcases List.mem_append.1 hb with hb|hb
    ·have:=a2 a ha;have:=b3 b hb;omega
    ·have:=a2 a ha;have:=b4 b hb;omega
   ·rcases List.mem_append.1 hb with hb|hb
    ·have:=a1 a ha;have:=b2 b hb;omega
    ·rcases List.mem_append.1 hb with hb|hb
     ·have:=a1 a ha;have:=b3 b hb;omega
     ·have:=a1 a ha;have:=b4 b hb;omega
 have HM:=ai (((M1.o.trans M2.o).trans M3.o).trans M4.o);rw[l1,l2,l3,l4]
 have HS:af (Sl (w4.alloc (eR #[eK (eC ⟨g1,0,ez⟩) 50 c1,eK (eC ⟨g2,0,ez⟩) 23 c2,eK (eC ⟨g3,0,ez⟩) 12 c3,eK (eC ⟨g4,0,ez⟩) 3 c4] 86)) 86 1 (eK (eC ⟨w4.heap.size,0,ez⟩) 4 4) 4 [eK (eC ⟨g1,0,ez⟩) 50 c1,eK (eC ⟨g2,0,ez⟩) 23 c2,eK (eC ⟨g3,0,ez⟩) 12 c3,eK (eC ⟨g4,0,ez⟩) 3 c4]) :=
  XX.sl ⟨Nat.le_refl _,by unfold fX;decide,rfl,rfl,rfl⟩ (ak.new w4 _ 86)
 clear O1 O2 O3 O4 M1 M2 M3 M4 HE;go_wp2_with fail;obtain⟨bA,he,h1,h2,h3⟩:=HK.o;have hS:Sl (w4.alloc (eR #[eK (eC ⟨g1,0,ez⟩) 50 c1,eK (eC ⟨g2,0,ez⟩) 23 c2,eK (eC ⟨g3,0,ez⟩) 12 c3,eK (eC ⟨g4,0,ez⟩) 3 c4] 86)) 86 1 (eK (eC ⟨w4.heap.size,0,ez⟩) (ee bA) 4) (ee bA) (bA.map Seg.val):=by rw[he];simp only[List.map_cons,List.map_nil,Seg.val,l1,l2,l3,l4];exact HS.o
 have hC:=Lu _ _ _ bA hS (λs hs=>(h1 s hs).ae aq) h2 (by rw[he];simp) (by rw[he];simp) h3;have e4:ee bA=4:=by rw[he];rfl
 rw[e4]at hC;refine hC.mono ?_;rintro e w5 ⟨v5,rfl,o5,m5⟩
 have O5:af (aT 0 w5 v5 (bA.flatMap Seg.bs) ax):=by
  have e5:bA.flatMap Seg.os=ax:=by rw[he];simp only[ar,cw,List.append_nil,ax,List.append_assoc]
  rw[af,<-e5];exact o5
 have M5:=ai ((HM.o.alloc _).trans m5);clear o5 m5 hC hS;go_wp2_with fail;go_ret;exact⟨_,_,rfl,O5.o,M5.o⟩
