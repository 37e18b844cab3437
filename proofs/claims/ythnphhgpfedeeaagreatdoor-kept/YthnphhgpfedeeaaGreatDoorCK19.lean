import Derived.Test.YthnphhgpfedeeaaGreatDoorCK15
import Derived.Test.YthnphhgpfedeeaaGreatDoorCK04
import Derived.Great.BuildSlice
namespace Go.Proofs.YthnphhgpfedeeaaGreatDoor
open Go.RowKit Tryz
open List renaming takeWhile_cons->ab,getElem_mem->al,isPrefixOf->ao,append_assoc->ar,size_toArray->ba,drop_length->bt,length->eJ
open Nat renaming zero_le->bh,le_refl->bj
open Bool renaming false->fj,true->fR
open Decidable renaming decide->gh
open Ending renaming returned->fW
open Obj renaming cells->fL
open Option renaming none->eL,some->eK
open Or renaming inl->jn,inr->ij
open Value renaming slice->eS,string->eR,bool->fX,agg->fY,tuple->jl,pointer->ia
open _root_.Go renaming Calls->fS,Value->fa,bodyPost_ret->kx,Ending->mz,TypeId->ju,Oper->iz,Operand->pd,wpList_store_row->pA,wpList_load_row->rl,wpList->n9,info_parts->oY
set_option linter.all false
set_option maxRecDepth 100000
set_option maxHeartbeats 4000000
structure NS(wT:tW)(b:Nat)(o:fO)(x l:tLB)(va:Option Addr)(vn vc:Nat)(k6:FuncId)(c6:tAV)(k8:FuncId)(c8:tAV):Prop where
 c1:∀w,aa af wT w->w.cell? ⟨b,1,eL⟩=eK (eS va vn vc)
 c6':∀w,aa af wT w->w.cell? ⟨b,6,eL⟩=eK (.func (.func k6) #[] c6)
 c8':∀w,aa af wT w->w.cell? ⟨b,8,eL⟩=eK (.func (.func k8) #[] c8)
 ct:∀w,aa af wT w->fS prog 255 #[eS va vn vc,eR (T x)] w λe w'=>e=fW (fX (o.words.contains x))/\w'=w
 e6:ou k6
 e8:ou k8
 rd:∀w b',aa af wT w->wT.heap.size<=b'->(∀w'',aa (Only b') w w''->Env w'')->au w b' ((BP x l).cells (vP b)) 269->eJ l<=1000000->fS prog k6 (#[vP (b')]++c6) w λe w''=>bV w b' (vP b) (o.read (BP x l)) e w''
 nd:∀w (y:dM),aa af wT w->y.Fit->fS prog k8 (#[fY y.cells]++c8) w λe w''=>e=fW (fX (o.needs y))/\aa af w w''
theorem dO.does{wT:tW}{b:Nat}{o:fO}(h:dO wT b o)(x l:tLB):∃va vn vc k6 c6 k8 c8,NS wT b o x l va vn vc k6 c6 k8 c8:=by
 obtain⟨o1,n1,c1,f6,c6,k7,c7,k8,c8,f9,c9,hblk,GL⟩:=h.ex;have hw:=Fu o;obtain⟨k6,hf6,hen,hrd⟩:=GL.rd.ex;subst hf6
 exact⟨o1,n1,c1,k6,c6,k8,c8,{
  c1:=λw m=>(hblk.ai m id).cell 1
  c6':=λw m=>(hblk.ai m id).cell 6
  c8':=λw m=>(hblk.ai m id).cell 8
  ct:=λw m=>xA _ x _ w (GL.ws.ai m (λ_ _=>id)) hw.1 (by omega)
  e6:=hen
  e8:=GL.e8
  rd:=λw b' m _ hE hb hl=>hrd w b' _ (BP x l) m.kp hE hb hl
  nd:=λw y m hy=>GL.nd w y m.kp hy}⟩
def dH.pins(op:fa)(r:dH):dM:=⟨op,r.d,r.s,r.jump,r.num,r.high,T r.label,T r.name⟩
theorem dH.rA.fit{r:dH}(h:r.rA)(op:fa):(r.pins op).Fit :=
 ⟨h.d,h.s,h.j0,h.j1,h.n0,h.n1,h.h0,h.h1,by show(T r.label).size<=100;rw[di];exact h.l,by show(T r.name).size<=300;rw[di];exact h.m⟩
theorem opsRead_any(wT w:tW)(v:fa)(bs:tLN)(x l:tLB)(hO:aM 0 wT v bs az)(m:aa af wT w)(hE:Env w)(hl:eJ l<=1000000):fS prog 143 #[v,eR (T x),fY #[eR (T l)]] w λe w'=>uT w bs (ni x l) e w':=by
 have hO1:=hO.ai m;obtain⟨o,c,rfl,hcell⟩:=Je hO1;have Ir:=aq (λk hk=>(UX hO1 k hk).does x l);have HC:=aq hcell;have adq:=fF;have HST:ah (∀k (hk:k<eJ az),readFrom x l k (az.drop k)=match xY az[k] x l k with|some y=>eK y|none=>readFrom x l (k+1) (az.drop (k+1))):=λk hk=>EE x l k hk;have nu:ah (readFrom x l (eJ az) (az.drop (eJ az))=eL):=by rw[ah,bt];rfl
 have adr:ah (ni x l=readFrom x l 0 (az.drop 0)):=rfl;have HOO:ah (∀k (hk:k<eJ az),(fD.o ⟨k,BP x l⟩)=az[k]):=λk hk=>by simp[fD.o,hk]
 have HE:=aq hE;clear hO hO1 m hcell hE;have HPZ:ah (∀e w',ni x l=eL->aa af w w'->e=fW (jl #[fY yZ,fX fj,fX fj])->uT w bs (ni x l) e w'):=λe w' h1 h2 h3=>⟨h2,by rw[h1];exact h3⟩
 have HPS:ah (∀e w' y,ni x l=eK y->aa af w w'->e=fW (jl #[fY (y.cells bs),fX y.fits,fX fR])->uT w bs (ni x l) e w'):=λe w' y h1 h2 h3=>⟨h2,by rw[h1];exact h3⟩
 generalize uT w bs (ni x l)=RP at *;generalize ni x l=rp at *;have Ym:ah (au ((w.alloc (fL #[eR (T l)] 229)).alloc (fL yZ 138)) w.heap.size #[eR (T l)] 229):=(au.new w _ _).alloc _
 have gq:ah (au ((w.alloc (fL #[eR (T l)] 229)).alloc (fL yZ 138)) (w.heap.size+1) yZ 138):=by
  have:=au.new (w.alloc (fL #[eR (T l)] 229)) yZ 138
  simpa [ah]using this
 have eW:ah (aa af w ((w.alloc (fL #[eR (T l)] 229)).alloc (fL yZ 138))):=aw.alloc _;go_in;go_upto_block 0 with fail;unfold yZ at Ym gq eW;generalize(w.alloc (fL #[eR (T l)] 229)).alloc (fL #[vO,vB 0,vB 0,.int .i16 0,vJ 0,vJ 0,eR ⟨#[]⟩,eR ⟨#[]⟩] 138)=w1 at *;obtain⟨F,hF⟩:∃F:Nat->Option fD,∀k,readFrom x l k (az.drop k)=F k:=⟨_,λ_=>rfl⟩
 have ads:=aq (λk hk=>by have:=HST.o k hk;rw[hF,hF]at this;exact this);have abg:ah (F (eJ az)=eL):=by rw[ah,<-hF];exact nu.o
 have adt:ah (rp=F 0):=by rw[ah,<-hF];exact adr.o
 clear hF HST nu adr;have agp:=aq gq.o.lt;generalize hLb:w.heap.size=Lb at *;generalize hRb:Lb+1=Rb at *;have HLR:ah (Lb≠Rb):=by rw[ah];omega
 go_wp2_with fail;go_loopg [14] (eJ az) (λq v wx=>∃k:Nat,k<=eJ az/\v=vI k/\au wx Lb #[eR (T l)] 229/\au wx Rb #[vO,vB 0,vB 0,.int .i16 0,vJ 0,vJ 0,eR ⟨#[]⟩,eR ⟨#[]⟩] 138/\aa af w wx/\rp=F k/\q=eJ az-k)
 case atStart=>exact⟨0,bh _,rfl,Ym.o,gq.o,eW.o,adt.o,rfl⟩
 case round =>
  obtain⟨k,hk,rfl,hlb,hrb,hmk,NK,rfl⟩:=hrel;have HLk:=aq hlb;have wj:=aq hrb;have xQ:=aq hmk;have HFk:=aq NK;clear hlb hrb hmk NK Ym gq eW adt;by_cases hlt:k<eJ az
  ·obtain⟨va,vn,vc,k6,c6,k8,c8,HD⟩:=Ir.o k hlt;have HT:=aq (ads.o k hlt);have Eu:ah (∀r,fD.o ⟨k,r⟩=az[k]):=λr=>by simp[fD.o,hlt]
   obtain⟨g,rfl,hg⟩:=HC.o k hlt;have q0:=hg wr xQ.o;have q1:=HD.c1 wr xQ.o;have QF:=aq HD;have Yp:=aq (HD.ct wr xQ.o);clear HD hg HC Ir ads abg HOO;generalize az[k]=ok at *;generalize hbk:bs[k]?.getD 0=bk at *;cases hc:ok.words.contains x with
   |false =>
    have HN:ah (rp=F (k+1)):=by rw[ah,HFk.o,HT.o,xY,hc]<;>rfl
    go_wp2_with fail;refine Yp.o.mono ?_;rintro e w2 ⟨rfl,rfl⟩;rw[hc];go_wp2_with fail;go_roundg (eJ az-(k+1))
    case measure=>omega
    case rel=>exact⟨k+1,by omega,by go_num,HLk.o,wj.o,xQ.o,HN.o,rfl⟩
   |true =>
    have Zv:ah (xY ok x l k=match ok.read (BP x l)with|none=>eL|some r=>if aC r.rest=[]then eK ⟨k,{r with rest:=[]}⟩else eL):=by rw[ah,xY,iP9 hc]<;>rfl
    have y0:=HLk.o.c0;have q6:∀cs t,(wr.alloc (fL cs t)).cell? ⟨bk,6,eL⟩=eK (.func (.func k6) #[] c6):=λcs t=>QF.o.c6' _ (xQ.o.alloc _);have hen:=QF.o.e6;unfold ou at hen;go_wp2_with fail;refine Yp.o.mono ?_;rintro e w2 ⟨rfl,rfl⟩;rw[hc];go_wp2_with fail;have HB3:=aq (au.new w2 ((BP x l).cells (vP bk)) 269);have dF:ah (∀cs t,aa af w (w2.alloc (fL cs t))):=λcs t=>xQ.o.alloc _;have U3:ah (∀cs t,au (w2.alloc (fL cs t)) Lb #[eR (T l)] 229):=λcs t=>HLk.o.alloc _;have tH:ah (∀cs t,au (w2.alloc (fL cs t)) Rb #[vO,vB 0,vB 0,.int .i16 0,vJ 0,vJ 0,eR ⟨#[]⟩,eR ⟨#[]⟩] 138):=λcs t=>wj.o.alloc _;have hLl:=HLk.o.lt;have hRl:=wj.o.lt;have hws:=xQ.o.size;refine(QF.o.rd _ w2.heap.size (dF.o _ _) hws (λw'' m=>HE.o.ai ((dF.o _ _).step m (λi hi e=>by have:i=w2.heap.size:=e;omega))) HB3.o hl).mono ?_;intro e w3 hpo;obtain⟨rfl,yK,hat⟩:=hpo;generalize hBB:w2.heap.size=B at *;have gG:=aq ((dF.o _ _).step yK (λi hi e=>by have:i=B:=e;omega));have NQ:=aq ((U3.o _ _).ai yK (λe=>by have:Lb=B:=e;omega));have Ai:=aq ((tH.o _ _).ai yK (λe=>by have:Rb=B:=e;omega));have HAT:=aq hat;clear yK hat HB3 dF U3 tH Yp y0 q6 hen q0 q1 HLk wj xQ;cases hx:ok.read (BP x l)with
    |none =>
     have HN:ah (rp=F (k+1)):=by rw[ah,HFk.o,HT.o,Zv.o,hx]
     go_wp2_with fail;go_roundg (eJ az-(k+1))
     case measure=>omega
     case rel=>exact⟨k+1,by omega,by go_num,NQ.o,Ai.o,gG.o,HN.o,rfl⟩
    |some r1 =>
     have hb1:=HAT.o r1 hx;have HF1:=aq (QC ok _ r1 hx (U2 x l));have EF:=aq (kZ B 1 _ _ r1.rest w3 (lM hb1));clear hb1 HAT;by_cases hd:aC r1.rest=[]
     ·have HN:ah (rp=eK ⟨k,{r1 with rest:=[]}⟩):=by rw[ah,HFk.o,HT.o,Zv.o,hx];dsimp only;rw[iP9 hd]
      have HFI:ah ((fD.mk k {r1 with rest:=[]}).fits=(!r1.far&&ok.needs (r1.pins (vP bk)))):=by unfold fD.fits;rw[Eu.o];exact congrArg _ (QD ok _ _ ⟨rfl,rfl,rfl,rfl,rfl⟩)
      have HYC:ah ((fD.mk k {r1 with rest:=[]}).cells bs=(r1.pins (vP bk)).cells):=by unfold fD.cells;dsimp only;rw[hbk];rfl
      rw[hd]at EF;go_wp2_with fail;refine EF.o.mono ?_;rintro e w4 ⟨rfl,Cf⟩;have iH:=aq Cf.rd;have jo:=aq (gG.o.step Cf.2 (λi hi e=>by have:i=B:=e;omega));have KZ:=aq (Ai.o.ai Cf.2 (λe=>by have:Rb=B:=e;omega));clear Cf EF gG NQ Ai;have U4:¬Only Rb B:=λe=>by have:B=Rb:=e;omega
      have HMg:=aq (λ(g:Ext (Only Rb) w4)=>jo.o.step g.m (λi hi e=>by have:i=Rb:=e;omega));have e2:∀g:Ext (Only Rb) w4,g.w.cell? ⟨B,2,eL⟩=eK (vP bk):=λg=>g.cell iH.o U4 2;have e3:∀g:Ext (Only Rb) w4,g.w.cell? ⟨B,3,eL⟩=eK (vB r1.d):=λg=>g.cell iH.o U4 3;have e4:∀g:Ext (Only Rb) w4,g.w.cell? ⟨B,4,eL⟩=eK (vB r1.s):=λg=>g.cell iH.o U4 4;have e5:∀g:Ext (Only Rb) w4,g.w.cell? ⟨B,5,eL⟩=eK (.int .i16 r1.jump):=λg=>g.cell iH.o U4 5;have e6:∀g:Ext (Only Rb) w4,g.w.cell? ⟨B,6,eL⟩=eK (vJ r1.num):=λg=>g.cell iH.o U4 6;have e7:∀g:Ext (Only Rb) w4,g.w.cell? ⟨B,7,eL⟩=eK (vJ r1.high):=λg=>g.cell iH.o U4 7;have e8:∀g:Ext (Only Rb) w4,g.w.cell? ⟨B,8,eL⟩=eK (eR (T r1.label)):=λg=>g.cell iH.o U4 8;have e9:∀g:Ext (Only Rb) w4,g.w.cell? ⟨B,9,eL⟩=eK (eR (T r1.name)):=λg=>g.cell iH.o U4 9;have e10:∀g:Ext (Only Rb) w4,g.w.cell? ⟨B,10,eL⟩=eK (fX r1.far):=λg=>g.cell iH.o U4 10;have c8e:=λg=>QF.o.c8' g.w (HMg.o g);have ne1:=Ext.ne (Only Rb) w4;have afj:=QF.o.e8;unfold ou at afj;have HND:ah (∀g:Ext (Only Rb) w4,fS prog k8 (#[fY #[vP bk,vB r1.d,vB r1.s,.int .i16 r1.jump,vJ r1.num,vJ r1.high,eR (T r1.label),eR (T r1.name)]]++c8) g.w λe w''=>e=fW (fX (ok.needs (r1.pins (vP bk))))/\aa af g.w w''):=λg=>QF.o.nd g.w (r1.pins (vP bk)) (HMg.o g) (HF1.o.fit _);have adu:ah (∀w' fi,aa af w w'->(!r1.far&&ok.needs (r1.pins (vP bk)))=fi->RP (fW (jl #[fY #[vP bk,vB r1.d,vB r1.s,.int .i16 r1.jump,vJ r1.num,vJ r1.high,eR (T r1.label),eR (T r1.name)],fX fi,fX fR])) w'):=λw' fi hm hfi=>by refine HPS.o _ w' _ HN.o hm ?_;rw[HFI.o,hfi,HYC.o];rfl
      clear iH HMg QF HPS HFI HYC HPZ HT Zv Eu HN HFk;generalize ok.needs (r1.pins (vP bk))=nq at *;go_upto_region 7 with fail;generalize r1.far=fr at *;cases fr with
      |false =>
       refine bQ [12,14] (λw'=>∃e:Ext (Only Rb) w4,w'=e.w) (by kernel_rfl) (by kernel_rfl) (by kernel_rfl) ⟨⟨_,aN⟩,rfl⟩ ?_
       iterate 6 (refine aG rfl rfl rfl ?_;intro K hK;go_big_quiet_op;go_big_quiet_on)
       refine ko rfl rfl rfl ?_;intro K hK;go_big_quiet_op;go_big_quiet_on;refine o8 rfl rfl _ ⟨bk,0,eL⟩ rfl rfl ?_;simp only[Act.put,sA9,sB9,sC9]
       iterate 4 (refine ko rfl rfl rfl ?_;intro K hK;go_big_quiet_op;go_big_quiet_on)
       refine tT rfl rfl ?_;intro K hK;go_big_op;refine(HND.o ⟨w4.drew,aN⟩).mono ?_;rintro e w5 ⟨rfl,m5⟩;have xW:=aq ((jo.o.drew).trans m5);have NT:=aq ((KZ.o.drew).ai m5 id);have X5:ah (aa (Only Rb) w4 w5):=aN.trans m5.of_nil;refine hK _ _ rfl ⟨⟨_,X5.o⟩,rfl⟩ ?_;clear hK K m5 jo KZ HND
       try simp only[Act.put,sA9,sB9,sC9]
       refine y9 rfl rfl _ _ _ _ rfl rfl ?_;simp only[Act.put,Act.eval,sA9,sB9,sC9];obtain⟨r0,r1',r2,r3,r4,r5,r6,r7⟩:=NT.o.jB;have rf:=NT.o.frozen;refine aH rfl rfl ?_;intro K hK;go_big_op;refine hK _ _ rfl ⟨⟨_,aa.uf X5.o (jn rfl) _ _ _ _ _ _ _ _⟩,rfl⟩ ?_;clear hK K r0 r1' r2 r3 r4 r5 r6 r7 rf
       try simp only[Act.put,sA9,sB9,sC9]
       iterate 2 (refine aG rfl rfl rfl ?_;intro K hK;go_big_quiet_op;go_big_quiet_on)
       refine bZ ?_
       try simp only[Exit.then]
       go_wp2_with fail;refine kx (jS results143 _ _ Rb 138 _ (0,0) _ _ _ rfl rfl rfl (au.uf NT.o _ _ _ _ _ _ _ _) underlying138 rfl (by kernel_rfl)) rfl ?_;exact adu.o _ _ (aa.uf xW.o (ij (by omega)) _ _ _ _ _ _ _ _) (by simp)
      |true =>
       have xW:=aq jo.o.drew;have NT:=aq KZ.o.drew;have X5:ah (aa (Only Rb) w4 w4.drew):=aN;clear jo KZ HND;refine bQ [12,14] (λw'=>∃e:Ext (Only Rb) w4,w'=e.w) (by kernel_rfl) (by kernel_rfl) (by kernel_rfl) ⟨⟨_,aN⟩,rfl⟩ ?_
       change wpMix _ _ _ _ _ _ _ _ w4.drew
       generalize w4.drew=W at *
       iterate 6 (refine aG rfl rfl rfl ?_;intro K hK;go_big_quiet_op;go_big_quiet_on)
       iterate 7 (refine Jg rfl ?_;simp only[Act.put,sA9,sB9,sC9])
       refine y9 rfl rfl _ _ _ _ rfl rfl ?_;simp only[Act.put,Act.eval,sA9,sB9,sC9];obtain⟨r0,r1',r2,r3,r4,r5,r6,r7⟩:=NT.o.jB;have rf:=NT.o.frozen;refine aH rfl rfl ?_;intro K hK;go_big_op;refine hK _ _ rfl ⟨⟨_,aa.uf X5.o (jn rfl) _ _ _ _ _ _ _ _⟩,rfl⟩ ?_;clear hK K r0 r1' r2 r3 r4 r5 r6 r7 rf
       try simp only[Act.put,sA9,sB9,sC9]
       iterate 2 (refine aG rfl rfl rfl ?_;intro K hK;go_big_quiet_op;go_big_quiet_on)
       refine bZ ?_
       try simp only[Exit.then]
       go_wp2_with fail;refine kx (jS results143 _ _ Rb 138 _ (0,0) _ _ _ rfl rfl rfl (au.uf NT.o _ _ _ _ _ _ _ _) underlying138 rfl (by kernel_rfl)) rfl ?_;exact adu.o _ _ (aa.uf xW.o (ij (by omega)) _ _ _ _ _ _ _ _) (by simp)
     ·have HN:ah (rp=F (k+1)):=by rw[ah,HFk.o,HT.o,Zv.o,hx];dsimp only;rw[iN9 hd]
      have hd':gh (aC r1.rest=[])=fj:=by simpa using hd
      rw[hd']at EF;go_wp2_with fail;refine EF.o.mono ?_;rintro e w4 ⟨rfl,Cf⟩;have jo:=aq (gG.o.step Cf.2 (λi hi e=>by have:i=B:=e;omega));have Zw:=aq (NQ.o.ai Cf.2 (λe=>by have:Lb=B:=e;omega));have KZ:=aq (Ai.o.ai Cf.2 (λe=>by have:Rb=B:=e;omega));clear Cf EF gG NQ Ai;go_wp2_with fail;go_roundg (eJ az-(k+1))
      case measure=>omega
      case rel=>exact⟨k+1,by omega,by go_num,Zw.o,KZ.o,jo.o,HN.o,rfl⟩
  ·have hke:k=eJ az:=by omega
   have HN:ah (rp=eL):=by rw[ah,HFk.o,hke];exact abg.o
   have r0:=wj.o.jB;obtain⟨r0,r1,r2,r3,r4,r5,r6,r7⟩:=r0;have rf:=wj.o.frozen;go_wp2_with fail;refine kx (jS results143 _ _ Rb 138 _ (0,0) _ _ _ rfl rfl rfl (au.uf wj.o _ _ _ _ _ _ _ _) underlying138 rfl (by kernel_rfl)) rfl ?_;exact HPZ.o _ _ HN.o (aa.uf xQ.o (ij (by omega)) _ _ _ _ _ _ _ _) rfl
theorem Zx(wT w:tW)(v:fa)(bs:tLN)(x:tLB)(hO:aM 0 wT v bs az)(m:aa af wT w)(hE:Env w)(hx:eJ x<=1000000):fS prog 140 #[v,eR (T x)] w λe w'=>e=fW (fX (ik x))/\aa af w w':=by
 have HR:=aq (Pf x w hE hx);have HB:=aq (λw' m'=>LB wT w' v bs x hO (m.trans m'));have HX:ah (ik x=(x==[109,97,112]||x==[102,117,110,99]||(dw x).isSome||kQ x)):=rfl;obtain⟨o,c,rfl,_⟩:=hO.sl.view;generalize ik x=rx at *;generalize(dw x).isSome=rr at *;generalize kQ x=bb at *;by_cases h1:x=[109,97,112]
 ·have hq:((T x).toList==[109,97,112])=fR:=xO (by rw[h1]);have Yr:ah (rx=fR):=by rw[ah,HX.o,h1];rfl
  clear h1;go_in;go_wp2_with fail;go_ret;rw[Yr.o];exact⟨rfl,ax⟩
 ·have hq:=tZ (λe=>h1 (pg e));have hb1:(x==[109,97,112])=fj:=by simpa using h1
  by_cases h2:x=[102,117,110,99]
  ·have hq2:((T x).toList==[102,117,110,99])=fR:=xO (by rw[h2]);have Yr:ah (rx=fR):=by rw[ah,HX.o,h2];rfl
   clear h1 h2 hb1;go_in;go_wp2_with fail;go_ret;rw[Yr.o];exact⟨rfl,ax⟩
  ·have hq2:=tZ (λe=>h2 (pg e));have hb2:(x==[102,117,110,99])=fj:=by simpa using h2
   have Yr:ah (rx=(rr||bb)):=by rw[ah,HX.o,hb1,hb2];rfl
   clear HX hb1 hb2 h1 h2;cases rr with
   |true =>go_in;go_wp2_with fail;refine HR.o.mono ?_;rintro e w1 ⟨rfl,m1⟩;go_wp2_with fail;go_ret;rw[Yr.o];exact⟨rfl,m1⟩
   |false =>go_in;go_wp2_with fail;refine HR.o.mono ?_;rintro e w1 ⟨rfl,m1⟩;go_wp2_with fail;refine(HB.o _ m1).mono ?_;rintro e w2 ⟨rfl,rfl⟩;go_wp2_with fail;go_ret;rw[Yr.o];exact⟨rfl,m1⟩
def lY(w:tW):Prop:=∃m,w.cell? ⟨1,0,eL⟩=eK (vI m)
theorem cell_kept{w w':tW}(m:aa af w w'){b i:Nat}{v:fa}(h:w.cell? ⟨b,i,eL⟩=eK v):w'.cell? ⟨b,i,eL⟩=eK v:=by
 unfold World.cell? at *;by_cases hb:b<w.heap.size
 ·simp only at *;rw[m.block b hb id];exact h
 ·simp only at h;rw[Array.getElem?_eq_none (by omega)]at h;cases h
theorem lY.ai{w w':tW}(h:lY w)(m:aa af w w'):lY w':=by obtain⟨x,hx⟩:=h;exact⟨x,cell_kept m hx⟩
theorem xB(p:UInt8->Bool):∀l:tLB,(∀d∈l,p d=fR)->l.takeWhile p=l
 |[],_=>rfl
 |c::l,h=>by rw[ab,iP9 (h c (by simp)),xB p l (λd hd=>h d (by simp[hd]))]
theorem index_one(l:tLB)(c:UInt8):(Lib.index l [c]=-1/\∀d∈l,d≠c)\/(∃k:Nat,Lib.index l [c]=k/\l.takeWhile (λd=>d != c)=l.take k/\k<eJ l):=by
 induction l with
 |nil=>left;exact⟨rfl,by simp⟩
 |cons b l ih =>
  rw[Lib.index];by_cases h:b=c
  ·right;subst h;refine⟨0,?_,by simp[ab],by simp⟩;rw[iP9 (by simp[ao])];rfl
  ·have hp:ao [c] (b::l)=fj:=by simp only[ao,Bool.and_true,beq_eq_false_iff_ne];exact λe=>h e.symm
   rw[iN9 (by simp[hp])];rcases ih with⟨h1,h2⟩ |⟨k,h1,h2,h3⟩
   ·left;refine⟨by rw[h1];rfl,?_⟩;intro d hd;rcases List.mem_cons.1 hd with rfl|hd
    ·exact h
    ·exact h2 d hd
   ·right;refine⟨k+1,?_,?_,by simpa using h3⟩
    ·rw[h1,iN9 (by simp)];rfl
    ·rw[ab,iP9 (by simpa using h),h2];rfl
theorem U5(l:tLB)(c:UInt8):(Lib.cut l [c]).1=l.takeWhile (λd=>d != c):=by
 unfold Lib.cut;rcases index_one l c with⟨h1,h2⟩ |⟨k,h1,h2,h3⟩
 ·rw[h1,iN9 (by decide)];show l=_
  symm
  exact xB _ l (λd hd=>by simpa using h2 d hd)
 ·rw[h1,iP9 (by omega),h2];simp
theorem U6(l:tLB)(w:tW)(hM:lY w)(hl:eJ l<=1000000):fS prog 249 #[eR (T l),eR ⟨#[59]⟩] w λe w'=>(∃a b,e=fW (jl #[eR (T (l.takeWhile (λd=>d != 59))),eR a,fX b]))/\aa af w w':=by
 obtain⟨m,hm⟩:=hM;have h:=Any.strings_Cut lcu (T l) ⟨#[59]⟩ m w (by rw[di];omega) hm;have e:∀l,(T l).data.toList=l:=λl=>by simp[T]
 rw[e,U5]at h;exact h.mono (λ_ _ ⟨he,n,hw⟩=>⟨⟨_,_,he⟩,by rw[hw];exact ax.drewN n⟩)
def ny(c:UInt8):Bool:=gh (32<=(c.toNat:Int))&&gh ((c.toNat:Int)<=126)
theorem Zy{l:tLB}(h:∀d∈l,ny d=fR):kr l=eK (l.takeWhile (λc=>c != 59)):=by unfold kr;exact iP9 (List.all_eq_true.2 h)
theorem Zz{l:tLB}{k:Nat}(hk:k<eJ l)(h:ny l[k]=fj):kr l=eL:=by unfold kr;rw[iN9];intro e;have:=List.all_eq_true.1 e l[k] (al hk);have h2:ny l[k]=fR:=this;rw[h]at h2;cases h2
theorem Cg(t:tLB)(w:tW)(hM:lY w)(hl:eJ t<=1000000):fS prog 135 #[eR (T t)] w λe w'=>e=fW (jl #[fY #[eR (T ((kr t).getD []))],fX (kr t).isSome])/\aa af w w':=by
 have xC:=aq (λk (hk:k<eJ t) (h:ny t[k]=false)=>Zz hk h);have xx:ah ((∀d∈t,ny d=fR)->kr t=eK (t.takeWhile (λc=>c != 59))):=Zy;have HCU:=aq (λw' h=>U6 t w' h hl);have HM:=aq hM;clear hM;generalize kr t=nl at *;generalize t.takeWhile (λc=>c != 59)=tw at *;have hs:=di t;have gq:=aq (au.new w #[eR ⟨#[]⟩] 229);have eW:ah (aa af w (w.alloc (fL #[eR ⟨#[]⟩] 229))):=aw;go_in;go_wp2_with fail;go_loop [10] (λv=>∃k:Nat,k<=eJ t/\v=vI k/\∀j (hj:j<k) (h:j<eJ t),ny t[j]=fR) (λv=>eJ t-(intOf v).toNat)
 case atStart=>exact⟨0,bh _,rfl,λj hj=>absurd hj (Nat.not_lt_zero _)⟩
 case round =>
  obtain⟨k,hk,rfl,hj⟩:=hrel;have HJ:=aq hj;clear hj;by_cases hlt:k<eJ t
  ·have hg:(T t)[k]'(by rw[hs];exact hlt)=t[k]:=rfl;have hb:=(t[k]).toNat_lt;have Tw:ah (ny t[k]=(gh (32<=((t[k]).toNat:Int))&&gh (((t[k]).toNat:Int)<=126))):=rfl;have HN:=aq (xC.o k hlt)
   have Iw:ah (ny t[k]=fR->∀j (hj:j<k+1) (h:j<eJ t),ny t[j]=fR):=λhc j hj h=>by
    rcases Nat.lt_or_ge j k with e|e
    ·exact HJ.o j e h
    ·have:j=k:=by omega
     subst this;exact hc
   generalize CU:ny t[k]=bo at *;by_cases h1:(t[k]).toNat<32
   ·have h1':((t[k]).toNat:Int)<32:=by omega
    have HX:=aq (HN.o (by rw[Tw.o,decide_eq_false (by omega)];rfl));clear HN Iw Tw;go_wp2_with fail;refine kx (ay results135 _ _ w.heap.size 229 _ (0,0) _ _ rfl rfl gq.o underlying229 rfl (by kernel_rfl)) rfl ⟨?_,eW.o⟩;rw[HX.o];rfl
   ·have h1':gh (((t[k]).toNat:Int)<32)=fj:=by simp;omega
    by_cases h2:126<(t[k]).toNat
    ·have h2':(126:Int)<((t[k]).toNat:Int):=by omega
     have HX:=aq (HN.o (by rw[Tw.o,decide_eq_false (show ¬((t[k]).toNat:Int)<=126 by omega),Bool.and_false]));clear HN Iw Tw;go_wp2_with fail;refine kx (ay results135 _ _ w.heap.size 229 _ (0,0) _ _ rfl rfl gq.o underlying229 rfl (by kernel_rfl)) rfl ⟨?_,eW.o⟩;rw[HX.o];rfl
    ·have h2':gh ((126:Int)<((t[k]).toNat:Int))=fj:=by simp;omega
     have HJ3:=aq (Iw.o (by rw[Tw.o,decide_eq_true (by omega),decide_eq_true (by omega)];rfl));clear HN Iw Tw;go_wp2_with fail;go_round
     case rel=>exact⟨k+1,by omega,by go_num,HJ3.o⟩
     case measure=>simp[intOf];omega
  ·have HX:=aq (xx.o (λd hd=>by obtain⟨j,hj,rfl⟩:=List.getElem_of_mem hd;exact HJ.o j (by omega) hj));go_wp2_with fail;refine(HCU.o _ (HM.o.ai eW.o)).mono ?_;rintro e w1 ⟨⟨sa,sb,rfl⟩,m1⟩;have yT:=aq (gq.o.ai m1 id);have bU:=aq (eW.o.trans m1);have z0:=yT.o.c0;have zf:=yT.o.frozen;clear m1 gq eW;go_wp2_with fail;refine kx (ay results135 _ _ w.heap.size 229 _ (0,0) _ _ rfl rfl (yT.o.set 0 _) underlying229 rfl (by kernel_rfl)) rfl ⟨?_,bU.o.set (ij (bj _)) _⟩;rw[HX.o];rfl
def aF:bI:=⟨0,fj⟩
def Jh(k:Nat)(nm:tBA)(a b c:bI)(op:fa)(d s:Nat)(j n h:Int)(lb nn:tBA)(f:Bool):tAV :=
 #[vI k,eR nm,fX a.minus,vU ((a.v%18446744073709551616:Nat):Int),fX (gh (18446744073709551616<=a.v)),fX b.minus,vU ((b.v%18446744073709551616:Nat):Int),fX (gh (18446744073709551616<=b.v)),
  fX c.minus,vU ((c.v%18446744073709551616:Nat):Int),fX (gh (18446744073709551616<=c.v)),op,vB d,vB s,.int .i16 j,vJ n,vJ h,eR lb,eR nn,fX f]
theorem fM(k:Nat)(nm:tBA)(a b c:bI)(op:Option Addr)(d s:Nat)(j n h:Int)(lb nn:tBA)(f:Bool):(Jh k nm a b c (ia op) d s j n h lb nn f).all (·.oneCell')=fR:=by simp[Jh,Value.oneCell']
def iA(k:Nat)(nm:tBA)(a b c:bI):tAV:=Jh k nm a b c (vO) 0 0 0 0 0 ⟨#[]⟩ ⟨#[]⟩ fj
def fE.cells(bs:tLN)(x:fE):tAV :=
 if x.kind=4 then Jh 4 ⟨#[]⟩ aF aF aF (vP (bs[x.x.k]?.getD 0)) x.x.r.d x.x.r.s x.x.r.jump x.x.r.num x.x.r.high (T x.x.r.label) (T x.x.r.name) x.x.fits
 else iA x.kind (T x.name) (x.ns.getD 0 aF) (x.ns.getD 1 aF) (x.ns.getD 2 aF)
def bE(w:tW)(bs:tLN)(o:Option fE)(e:mz)(w':tW):Prop :=
 aa af w w'/\match o with
  |some x=>e=fW (jl #[fY (x.cells bs),fX fR])
  |none=>∃k nm a b c op d s j n h lb nn f,e=fW (jl #[fY (Jh k nm a b c (ia op) d s j n h lb nn f),fX fj])
def CV(nm:tLB)(a b c:bI)(l:tLB):Option fE:=if aC l=[]then eK {kind:=1,name:=nm,ns:=[a,b,c]}else eL
def j8(nm:tLB)(k:Nat)(a b c:bI)(l:tLB):Option fE :=
 if k=0 then(fT l).bind λx=>(fT x.2).bind λy=>(fT y.2).bind λz=>CV nm x.1 y.1 z.1 z.2
 else if k=1 then(fT l).bind λy=>(fT y.2).bind λz=>CV nm a y.1 z.1 z.2
 else if k=2 then(fT l).bind λz=>CV nm a b z.1 z.2
 else CV nm a b c l
theorem U7(l:tLB):fZ l=if nameB (aK l).1 then j8 (aK l).1 0 aF aF aF (aK l).2 else eL:=by unfold fZ j8 CV;rfl
theorem au.LC{w:tW}{z i:Nat}{t:ju}{cs ds:tAV}(h:au w z cs t)(v0 v1 v2:fa)(hd:((cs.setIfInBounds i v0).setIfInBounds (i+1) v1).setIfInBounds (i+2) v2=ds):au (((w.setCell ⟨z,i,eL⟩ v0).setCell ⟨z,i+1,eL⟩ v1).setCell ⟨z,i+2,eL⟩ v2) z ds t:=by rw[<-hd];exact((h.set i v0).set (i+1) v1).set (i+2) v2
theorem aa.LC{S:Nat->Prop}{w0 w:tW}{z:Nat}(h:aa S w0 w)(hz:S z\/w0.heap.size<=z)(i j k:Nat)(v0 v1 v2:fa):aa S w0 (((w.setCell ⟨z,i,eL⟩ v0).setCell ⟨z,j,eL⟩ v1).setCell ⟨z,k,eL⟩ v2) :=
 ((h.set (a:=⟨z,i,eL⟩) hz v0).set (a:=⟨z,j,eL⟩) hz v1).set (a:=⟨z,k,eL⟩) hz v2
theorem CW{P:Program}{o:iz}{a:Act}{C:tW->Prop}{K:Act->Prop}(ty:ju)(x:pd)(ho:o.op=.load ty x)(g:Nat) (hx:a.eval x=vP g) (t:ju) (cs:tAV) (d:TypeDesc) (hg:∀w,C w->w.heap[g]?=eK (fL cs t (0,0)))(hu:P.underlying ty=eK d) (hd:(match d with|.struct _|.array _ _=>fR|_=>fj)=fR) (hi:(P.info? ty).map (·.size)=eK cs.size)(h:K (a.put o.dst (fY cs))):o.quiet P a C K:=by refine⟨fY cs,λw hw=>?_,h⟩;unfold Oper.quietAt execOp;simp only[ho,hx,Instr.loadAt,Instr.sureAddr,Sem.run_bind,Sem.run_pure,Result.andThen_ok,run_loadVar_row w g t ty cs (0,0) d (hg w hw) hu hd hi];exact⟨rfl,rfl⟩
structure rC(w0:tW)(I K R:Nat)(l:tLB)(nm:tBA)(a b c:bI)(w:tW):Prop where
 za:au w I #[eR (T l)] 229
 ln:au w K (iA 1 nm a b c) 160
 res:au w R (iA 0 ⟨#[]⟩ aF aF aF) 160
 md:aa af w0 w
 lt:w0.heap.size<=I/\I≠K/\I≠R/\K≠R/\w0.heap.size<=K/\w0.heap.size<=R
theorem rC.quiet{w0 w w':tW}{I K R:Nat}{l:tLB}{nm:tBA}{a b c:bI}(h:rC w0 I K R l nm a b c w)(m:aa af w w'):rC w0 I K R l nm a b c w' :=
 ⟨h.za.ai m id,h.ln.ai m id,h.res.ai m id,h.md.trans m,h.lt⟩
theorem rC.read{w0 w w':tW}{I K R:Nat}{l l':tLB}{nm:tBA}{a b c:bI}(h:rC w0 I K R l nm a b c w)(p:aW w I 0 #[eR (T l)] 229 l' w'):rC w0 I K R l' nm a b c w':=by obtain⟨h1,h2,h3,h4,h5,h6⟩:=h.lt;exact⟨p.1.blk,h.ln.ai p.2 (λe=>h2 (show K=I from e).symm),h.res.ai p.2 (λe=>h3 (show R=I from e).symm),h.md.step p.2 (λi hi e=>by have:i=I:=e;omega),h.lt⟩
theorem U8(w:tW)(bs:tLN)(l:tLB)(hl:eJ l<=1000000):fS prog 141 #[fY #[eR (T l)]] w λe w'=>bE w bs (fZ l) e w':=by
 have hwl:=jP l;have HL:=aq (U7 l);have xC:ah (∀e w',fZ l=eL->aa af w w'->(∃nm a b c,e=fW (jl #[fY (iA 1 nm a b c),fX fj]))->bE w bs (fZ l) e w'):=λe w' h1 h2 h3=>by obtain⟨nm,a,b,c,he⟩:=h3;refine⟨h2,?_⟩;rw[h1];exact⟨1,nm,a,b,c,eL,0,0,0,0,0,⟨#[]⟩,⟨#[]⟩,fj,he⟩
 have LD:ah (∀e w' nm a b c,fZ l=eK {kind:=1,name:=nm,ns:=[a,b,c]}->aa af w w'->e=fW (jl #[fY (iA 1 (T nm) a b c),fX fR])->bE w bs (fZ l) e w'):=λe w' nm a b c h1 h2 h3=>by refine⟨h2,?_⟩;rw[h1];exact h3
 have HNM:=aq (λw' (h':lF w' w.heap.size 0 #[.string (T l)] 229 l)=>pY _ 0 _ _ l w' h' hl);generalize bE w bs (fZ l)=LP at *;generalize fZ l=mp at *;generalize nameB (aK l).1=nb at *;generalize aK l=wl at *;obtain⟨nm,l0⟩:=wl;dsimp only at *
 have HW0:ah (rC w w.heap.size (w.heap.size+2) (w.heap.size+1) l ⟨#[]⟩ aF aF aF ((((w.alloc (fL #[eR (T l)] 229)).alloc (fL (iA 0 ⟨#[]⟩ aF aF aF) 160)).alloc (fL (iA 0 ⟨#[]⟩ aF aF aF) 160)).setRow (w.heap.size+2) (iA 1 ⟨#[]⟩ aF aF aF))):=by
  have h2:au ((w.alloc (fL #[eR (T l)] 229)).alloc (fL (iA 0 ⟨#[]⟩ aF aF aF) 160)) (w.heap.size+1) (iA 0 ⟨#[]⟩ aF aF aF) 160:=by
   have:=au.new (w.alloc (fL #[eR (T l)] 229)) (iA 0 ⟨#[]⟩ aF aF aF) 160
   simpa using this
  have h3:au (((w.alloc (fL #[eR (T l)] 229)).alloc (fL (iA 0 ⟨#[]⟩ aF aF aF) 160)).alloc (fL (iA 0 ⟨#[]⟩ aF aF aF) 160)) (w.heap.size+2) (iA 0 ⟨#[]⟩ aF aF aF) 160:=by
   have:=au.new ((w.alloc (fL #[eR (T l)] 229)).alloc (fL (iA 0 ⟨#[]⟩ aF aF aF) 160)) (iA 0 ⟨#[]⟩ aF aF aF) 160
   simpa using this
  refine⟨au.oD (((au.new w _ _).alloc _).alloc _) (by omega) _,h3.setRow _,au.oD (h2.alloc _) (by omega) _,(((aw.alloc _).alloc _)).setRow (ij (by omega)) _,by omega⟩
 have Tx:ah (au (((w.alloc (fL #[eR (T l)] 229)).alloc (fL (iA 0 ⟨#[]⟩ aF aF aF) 160)).alloc (fL (iA 0 ⟨#[]⟩ aF aF aF) 160)) (w.heap.size+2) (iA 0 ⟨#[]⟩ aF aF aF) 160):=by
  have:=au.new ((w.alloc (fL #[eR (T l)] 229)).alloc (fL (iA 0 ⟨#[]⟩ aF aF aF) 160)) (iA 0 ⟨#[]⟩ aF aF aF) 160
  simpa [ah]using this
 go_in;go_wp2_with (refine pA rfl 160 (.tmp 4) (.tmp 7) rfl (w.heap.size+2) (iA 1 ⟨#[]⟩ aF aF aF) rfl rfl 160 _ Tx.o (by kernel_rfl) rfl (fM ..) ?_);refine(HNM.o _ ⟨HW0.o.za,rfl⟩).mono ?_;rintro e w1 ⟨rfl,hp1⟩;have HW1:=aq (HW0.o.read hp1);clear hp1 HW0 Tx HNM;generalize hK:w.heap.size+2=K at *;generalize hR:w.heap.size+1=R at *;generalize hI:w.heap.size=I at *;have k1:=HW1.o.ln.c1;have kf:=HW1.o.ln.frozen;generalize CX:w1.setCell ⟨K,1,eL⟩ (eR (T nm))=Wn;have HW2:ah (rC w I K R l0 (T nm) aF aF aF Wn):=by obtain⟨h1,h2,h3,h4,h5,h6⟩:=HW1.o.lt;rw[<-CX];exact⟨HW1.o.za.setOther (a:=⟨K,1,eL⟩) (λe=>h2 (show K=I from e).symm) _,HW1.o.ln.set 1 _,HW1.o.res.setOther (a:=⟨K,1,eL⟩) (λe=>h4 (show K=R from e)) _,HW1.o.md.set (a:=⟨K,1,eL⟩) (ij h5) _,HW1.o.lt⟩
 cases nb with
 |false =>
  have HZ:ah (mp=eL):=HL.o;go_upto_region 5 with fail
  try rw[CX]
  clear CX k1 kf HW1;go_wp2_with (first |(refine rl rfl 160 (.tmp 4) rfl K rfl 160 (iA 1 (T nm) aF aF aF) (0,0) _ HW2.o.ln underlying160 rfl (by kernel_rfl) ?_) |(refine pA rfl 160 (.tmp 2) (.tmp 15) rfl R (iA 1 (T nm) aF aF aF) rfl rfl 160 _ HW2.o.res (by kernel_rfl) rfl (fM ..) ?_));refine kx (ay results141 _ _ R 160 _ (0,0) _ _ rfl rfl HW2.o.res.dJ underlying160 rfl (by kernel_rfl)) rfl ?_;exact xC.o _ _ HZ.o (HW2.o.md.dJ (ij HW2.o.lt.2.2.2.2.2)) ⟨_,_,_,_,rfl⟩
 |true =>
  have gq:ah (j8 nm 0 aF aF aF l0=mp):=HL.o.symm;go_upto_region 6 with fail
  try rw[CX]
  clear CX k1 kf HW1 HL;go_wp2_with fail;go_loopg [16] 3 (λq v wx=>∃(k:Nat) (a b c:bI) (l1:tLB),k<=3/\v=vI k/\rC w I K R l1 (T nm) a b c wx/\j8 nm k a b c l1=mp/\l1.length<=1000000/\q=3-k)
  case atStart=>exact⟨0,aF,aF,aF,l0,by omega,rfl,HW2.o,gq.o,by omega,rfl⟩
  case round =>
   obtain⟨k,a,b,c,l1,hk,rfl,hW,hG,hl1,rfl⟩:=hrel;have HW:=aq hW;have HR:=aq hG;clear hW hG HW2 gq;obtain rfl|rfl|rfl|rfl:k=0\/k=1\/k=2\/k=3:=by omega
   case inl =>
    have Ji:=aq (uo I 0 _ _ l1 wr ⟨HW.o.za,rfl⟩ hl1);have HG:ah (j8 nm 0 a b c l1=(fT l1).bind λz=>j8 nm 1 z.1 b c z.2):=by rw[ah];unfold j8;rfl
    go_wp2_with fail;refine Ji.o.mono ?_;intro e w2 hn;obtain⟨n,l2,rfl,hp2,hle,hx⟩:=hn;have HW2:=aq (HW.o.read hp2);have HX:=aq hx;clear hp2 hx Ji;have k0:=HW2.o.ln.c2;have k1:=HW2.o.ln.c3;have k2:=HW2.o.ln.c4;have kf:=HW2.o.ln.frozen;generalize CX:((w2.setCell ⟨K,2,eL⟩ (fX n.minus)).setCell ⟨K,3,eL⟩ (vU ((n.v%18446744073709551616:Nat):Int))).setCell ⟨K,4,eL⟩ (fX (gh (18446744073709551616<=n.v)))=Wn
    have HW3:ah (rC w I K R l2 (T nm) n b c Wn):=by
     obtain⟨h1,h2,h3,h4,h5,h6⟩:=HW2.o.lt;rw[<-CX];refine⟨?_,au.LC HW2.o.ln _ _ _ rfl,?_,aa.LC HW2.o.md (ij h5) _ _ _ _ _ _,HW2.o.lt⟩
     ·iterate 3 refine au.setOther ?_ (λe=>h2 (show K=I from e).symm) _
      exact HW2.o.za
     ·iterate 3 refine au.setOther ?_ (λe=>h4 (show K=R from e)) _
      exact HW2.o.res
    have Yl:ah (bI.dY n=fY #[fX n.minus,vU ((n.v%18446744073709551616:Nat):Int),fX (gh (18446744073709551616<=n.v))]):=rfl;rw[Yl.o];generalize hu:((n.v%18446744073709551616:Nat):Int)=u at *;generalize hbg:gh (18446744073709551616<=n.v)=bg at *;cases hnl:fT l1 with
    |none =>
     have HZ:ah (mp=eL):=by rw[ah,<-HR.o,HG.o,hnl];rfl
     go_upto_region 11 with fail
     try rw[CX]
     clear CX k0 k1 k2 kf;go_wp2_with (first |(refine rl rfl 160 (.tmp 4) rfl K rfl 160 (iA 1 (T nm) n b c) (0,0) _ HW3.o.ln underlying160 rfl (by kernel_rfl) ?_) |(refine pA rfl 160 (.tmp 2) (.tmp 28) rfl R (iA 1 (T nm) n b c) rfl rfl 160 _ HW3.o.res (by kernel_rfl) rfl (fM ..) ?_));refine kx (ay results141 _ _ R 160 _ (0,0) _ _ rfl rfl HW3.o.res.dJ underlying160 rfl (by kernel_rfl)) rfl ?_;exact xC.o _ _ HZ.o (HW3.o.md.dJ (ij HW3.o.lt.2.2.2.2.2)) ⟨_,_,_,_,rfl⟩
    |some z =>
     have hz:=HX.o z hnl;have jh:ah (j8 nm 1 n b c l2=mp):=by rw[ah,<-HR.o,HG.o,hnl,hz];rfl
     clear hnl hz;go_upto_region 12 with fail
     try rw[CX]
     clear CX k0 k1 k2 kf;go_wp2_with fail;go_roundg 2
     case measure=>omega
     case rel=>exact⟨1,n,b,c,l2,by omega,by go_num,HW3.o,jh.o,by omega,rfl⟩
   case inr.inl =>
    have Ji:=aq (uo I 0 _ _ l1 wr ⟨HW.o.za,rfl⟩ hl1);have HG:ah (j8 nm 1 a b c l1=(fT l1).bind λz=>j8 nm 2 a z.1 c z.2):=by rw[ah];unfold j8;rfl
    go_wp2_with fail;refine Ji.o.mono ?_;intro e w2 hn;obtain⟨n,l2,rfl,hp2,hle,hx⟩:=hn;have HW2:=aq (HW.o.read hp2);have HX:=aq hx;clear hp2 hx Ji;have k0:=HW2.o.ln.c5;have k1:=HW2.o.ln.c6;have k2:=HW2.o.ln.c7;have kf:=HW2.o.ln.frozen;generalize CX:((w2.setCell ⟨K,5,eL⟩ (fX n.minus)).setCell ⟨K,6,eL⟩ (vU ((n.v%18446744073709551616:Nat):Int))).setCell ⟨K,7,eL⟩ (fX (gh (18446744073709551616<=n.v)))=Wn
    have HW3:ah (rC w I K R l2 (T nm) a n c Wn):=by
     obtain⟨h1,h2,h3,h4,h5,h6⟩:=HW2.o.lt;rw[<-CX];refine⟨?_,au.LC HW2.o.ln _ _ _ rfl,?_,aa.LC HW2.o.md (ij h5) _ _ _ _ _ _,HW2.o.lt⟩
     ·iterate 3 refine au.setOther ?_ (λe=>h2 (show K=I from e).symm) _
      exact HW2.o.za
     ·iterate 3 refine au.setOther ?_ (λe=>h4 (show K=R from e)) _
      exact HW2.o.res
    have Yl:ah (bI.dY n=fY #[fX n.minus,vU ((n.v%18446744073709551616:Nat):Int),fX (gh (18446744073709551616<=n.v))]):=rfl;rw[Yl.o];generalize hu:((n.v%18446744073709551616:Nat):Int)=u at *;generalize hbg:gh (18446744073709551616<=n.v)=bg at *;cases hnl:fT l1 with
    |none =>
     have HZ:ah (mp=eL):=by rw[ah,<-HR.o,HG.o,hnl];rfl
     go_upto_region 11 with fail
     try rw[CX]
     clear CX k0 k1 k2 kf;go_wp2_with (first |(refine rl rfl 160 (.tmp 4) rfl K rfl 160 (iA 1 (T nm) a n c) (0,0) _ HW3.o.ln underlying160 rfl (by kernel_rfl) ?_) |(refine pA rfl 160 (.tmp 2) (.tmp 28) rfl R (iA 1 (T nm) a n c) rfl rfl 160 _ HW3.o.res (by kernel_rfl) rfl (fM ..) ?_));refine kx (ay results141 _ _ R 160 _ (0,0) _ _ rfl rfl HW3.o.res.dJ underlying160 rfl (by kernel_rfl)) rfl ?_;exact xC.o _ _ HZ.o (HW3.o.md.dJ (ij HW3.o.lt.2.2.2.2.2)) ⟨_,_,_,_,rfl⟩
    |some z =>
     have hz:=HX.o z hnl;have jh:ah (j8 nm 2 a n c l2=mp):=by rw[ah,<-HR.o,HG.o,hnl,hz];rfl
     clear hnl hz;go_upto_region 12 with fail
     try rw[CX]
     clear CX k0 k1 k2 kf;go_wp2_with fail;go_roundg 1
     case measure=>omega
     case rel=>exact⟨2,a,n,c,l2,by omega,by go_num,HW3.o,jh.o,by omega,rfl⟩
   case inr.inr.inl =>
    have Ji:=aq (uo I 0 _ _ l1 wr ⟨HW.o.za,rfl⟩ hl1);have HG:ah (j8 nm 2 a b c l1=(fT l1).bind λz=>j8 nm 3 a b z.1 z.2):=by rw[ah];unfold j8;rfl
    go_wp2_with fail;refine Ji.o.mono ?_;intro e w2 hn;obtain⟨n,l2,rfl,hp2,hle,hx⟩:=hn;have HW2:=aq (HW.o.read hp2);have HX:=aq hx;clear hp2 hx Ji;have k0:=HW2.o.ln.c8;have k1:=HW2.o.ln.c9;have k2:=HW2.o.ln.c10;have kf:=HW2.o.ln.frozen;generalize CX:((w2.setCell ⟨K,8,eL⟩ (fX n.minus)).setCell ⟨K,9,eL⟩ (vU ((n.v%18446744073709551616:Nat):Int))).setCell ⟨K,10,eL⟩ (fX (gh (18446744073709551616<=n.v)))=Wn
    have HW3:ah (rC w I K R l2 (T nm) a b n Wn):=by
     obtain⟨h1,h2,h3,h4,h5,h6⟩:=HW2.o.lt;rw[<-CX];refine⟨?_,au.LC HW2.o.ln _ _ _ rfl,?_,aa.LC HW2.o.md (ij h5) _ _ _ _ _ _,HW2.o.lt⟩
     ·iterate 3 refine au.setOther ?_ (λe=>h2 (show K=I from e).symm) _
      exact HW2.o.za
     ·iterate 3 refine au.setOther ?_ (λe=>h4 (show K=R from e)) _
      exact HW2.o.res
    have Yl:ah (bI.dY n=fY #[fX n.minus,vU ((n.v%18446744073709551616:Nat):Int),fX (gh (18446744073709551616<=n.v))]):=rfl;rw[Yl.o];generalize hu:((n.v%18446744073709551616:Nat):Int)=u at *;generalize hbg:gh (18446744073709551616<=n.v)=bg at *;cases hnl:fT l1 with
    |none =>
     have HZ:ah (mp=eL):=by rw[ah,<-HR.o,HG.o,hnl];rfl
     go_upto_region 11 with fail
     try rw[CX]
     clear CX k0 k1 k2 kf;go_wp2_with (first |(refine rl rfl 160 (.tmp 4) rfl K rfl 160 (iA 1 (T nm) a b n) (0,0) _ HW3.o.ln underlying160 rfl (by kernel_rfl) ?_) |(refine pA rfl 160 (.tmp 2) (.tmp 28) rfl R (iA 1 (T nm) a b n) rfl rfl 160 _ HW3.o.res (by kernel_rfl) rfl (fM ..) ?_));refine kx (ay results141 _ _ R 160 _ (0,0) _ _ rfl rfl HW3.o.res.dJ underlying160 rfl (by kernel_rfl)) rfl ?_;exact xC.o _ _ HZ.o (HW3.o.md.dJ (ij HW3.o.lt.2.2.2.2.2)) ⟨_,_,_,_,rfl⟩
    |some z =>
     have hz:=HX.o z hnl;have jh:ah (j8 nm 3 a b n l2=mp):=by rw[ah,<-HR.o,HG.o,hnl,hz];rfl
     clear hnl hz;go_upto_region 12 with fail
     try rw[CX]
     clear CX k0 k1 k2 kf;go_wp2_with fail;go_roundg 0
     case measure=>omega
     case rel=>exact⟨3,a,b,n,l2,by omega,by go_num,HW3.o,jh.o,by omega,rfl⟩
   case inr.inr.inr =>
    have Yt:ah (mp=if aC l1=[]then eK {kind:=1,name:=nm,ns:=[a,b,c]}else eL):=HR.o.symm;have EF:=aq (λw' (h':au w' I #[.string (T l1)] 229)=>kZ I 0 _ _ l1 w' ⟨h',rfl⟩)
    have HKg:ah (∀g:Ext (λk=>k=I\/k=R) wr,au g.w K (iA 1 (T nm) a b c) 160):=λg=>HW.o.ln.ai g.m (λe=>by
     obtain⟨h1,h2,h3,h4,h5,h6⟩:=HW.o.lt;rcases e with e|e
     ·exact h2 e.symm
     ·exact h4 e)
    have HWd:=aq (HW.o.quiet aN);go_upto_region 13 with fail;refine bQ [1,2] (λw'=>∃e:Ext (λk=>k=I\/k=R) wr,w'=e.w) (by kernel_rfl) (by kernel_rfl) (by kernel_rfl) ⟨⟨_,aN⟩,rfl⟩ ?_;refine aG rfl rfl rfl ?_;intro K' hK';refine CW 160 (.tmp 4) rfl K rfl 160 (iA 1 (T nm) a b c) _ (λw' ⟨g,hg⟩=>by rw[hg];exact HKg.o g) underlying160 rfl (by kernel_rfl) ?_;refine hK' _ ?_;clear hK' K';simp only[Act.put,sA9,sB9,sC9];refine aH rfl rfl ?_;intro K' hK';go_big_op;refine(EF.o _ HWd.o.za).mono ?_;rintro e w2 ⟨rfl,hp2⟩;have HW2:=aq (HWd.o.read hp2);have X2:ah (aa (λk=>k=I\/k=R) wr w2):=aN.trans (hp2.2.mono (λi _ e=>jn e));refine hK' _ _ rfl ⟨⟨_,X2.o⟩,rfl⟩ ?_;clear hK' K' hp2 HWd HW EF
    try simp only[Act.put,sA9,sB9,sC9]
    refine aH rfl rfl ?_;intro K' hK';refine wp_store_row 160 (.tmp 2) (.tmp 30) rfl R (iA 1 (T nm) a b c) rfl rfl 160 _ HW2.o.res (by kernel_rfl) rfl (fM ..) ?_;refine hK' _ _ rfl ⟨⟨_,X2.o.dJ (jn (ij rfl))⟩,rfl⟩ ?_;clear hK' K';simp only[Act.put,sA9,sB9,sC9];refine aG rfl rfl rfl ?_;intro K' hK';go_big_quiet_op;go_big_quiet_on;refine bZ ?_
    try simp only[Exit.then]
    go_wp2_with fail;refine kx (ay results141 _ _ R 160 _ (0,0) _ _ rfl rfl HW2.o.res.dJ underlying160 rfl (by kernel_rfl)) rfl ?_;by_cases hd:aC l1=[]
    ·rw[iP9 hd]at Yt;exact LD.o _ _ nm a b c Yt.o (HW2.o.md.dJ (ij HW2.o.lt.2.2.2.2.2)) (by rw[decide_eq_true hd];rfl)
    ·rw[iN9 hd]at Yt;exact xC.o _ _ Yt.o (HW2.o.md.dJ (ij HW2.o.lt.2.2.2.2.2)) ⟨_,_,_,_,by rw[decide_eq_false hd];rfl⟩


theorem Ch(l:tLB):aK (aC l)=aK l:=by unfold aK;rw[Cs]
structure LF(w0:tW)(I R:Nat)(l:tLB)(w:tW):Prop where
 za:au w I #[eR (T l)] 229
 res:au w R (iA 0 ⟨#[]⟩ aF aF aF) 160
 md:aa af w0 w
 lt:w0.heap.size<=I/\I≠R/\w0.heap.size<=R
theorem LF.quiet{w0 w w':tW}{I R:Nat}{l:tLB}(h:LF w0 I R l w)(m:aa af w w'):LF w0 I R l w':=⟨h.za.ai m id,h.res.ai m id,h.md.trans m,h.lt⟩
theorem LF.read{w0 w w':tW}{I R:Nat}{l l':tLB}(h:LF w0 I R l w)(p:aW w I 0 #[eR (T l)] 229 l' w'):LF w0 I R l' w':=by obtain⟨h1,h2,h3⟩:=h.lt;exact⟨p.1.blk,h.res.ai p.2 (λe=>h2 (show R=I from e).symm),h.md.step p.2 (λi hi e=>by have:i=I:=e;omega),h.lt⟩
theorem nz{t l:tLB}(h:kr t=eK l):dR t=if aC l=[]then eK {} else if bC 58 (aK l).2 then (if aC (bu 58 (aK l).2)=[]/\nameB (aK l).1=fR/\ik (aK l).1=fj then eK {kind:=3,name:=(aK l).1}else eL) else if(aK l).1=[109,97,112]then fZ (aC (aK l).2) else if(aK l).1=[102,117,110,99]then (if nameB (aK (aC (aK l).2)).1=fR/\aC (aK (aC (aK l).2)).2=[]then eK {kind:=2,name:=(aK (aC (aK l).2)).1}else eL) else(ni (aK l).1 (aC (aK l).2)).map λx=>{kind:=4,x:=x}:=by unfold dR;rw[h];rfl
theorem LG{t:tLB}(h:kr t=eL):dR t=eL:=by unfold dR;rw[h];rfl
theorem iV{t l:tLB}(h:kr t=eK l):eJ l<=eJ t:=by
 unfold kr at h;split at h
 ·cases h;exact(List.takeWhile_sublist _).length_le
 ·cases h
theorem bE.no{w w':tW}{bs:tLN}{t:tLB}{e:mz}(h:dR t=eL)(m:aa af w w')(he:∃k nm a b c op d s j n h lb nn f,e=fW (jl #[fY (Jh k nm a b c (ia op) d s j n h lb nn f),fX fj])):bE w bs (dR t) e w':=⟨m,by rw[h];exact he⟩
theorem bE.yes{w w':tW}{bs:tLN}{t:tLB}{e:mz}{x:fE}(h:dR t=eK x)(m:aa af w w')(he:e=fW (jl #[fY (x.cells bs),fX fR])):bE w bs (dR t) e w':=⟨m,by rw[h];exact he⟩
theorem QG(wT w:tW)(v:fa)(bs:tLN)(t:tLB)(hO:aM 0 wT v bs az)(m:aa af wT w)(hE:Env w)(hM:lY w)(ht:eJ t<=1000000)(l:tLB)(hn:kr t=eK l)(hs:aC l≠[])(hk:bC 58 (aK l).2=fR):fS prog 71 #[v,eR (T t)] w λe w'=>bE w bs (dR t) e w':=by
 have qJ:=aq (λw' h=>Cg t w' h ht);have HM:=aq hM;have HE:=aq hE;have gq:=aq (au.new w (iA 0 ⟨#[]⟩ aF aF aF) 160);have eW:ah (aa af w (w.alloc (fL (iA 0 ⟨#[]⟩ aF aF aF) 160))):=aw;have LH:ah (dR t=if aC (bu 58 (aK l).2)=[]/\nameB (aK l).1=fR/\ik (aK l).1=fj then eK {kind:=3,name:=(aK l).1}else eL):=by rw[ah,nz hn,iN9 hs,iP9 hk]
 have HPY:ah (∀e w',(aC (bu 58 (aK l).2)=[]/\nameB (aK l).1=fR/\ik (aK l).1=fj)->aa af w w'->e=fW (jl #[fY (iA 3 (T (aK l).1) aF aF aF),fX fR])->bE w bs (dR t) e w'):=λe w' h1 h2 h3=>bE.yes (x:={kind:=3,name:=(aK l).1}) (by rw[LH.o,iP9 h1]) h2 h3;have Iy:ah (∀e w',¬(aC (bu 58 (aK l).2)=[]/\nameB (aK l).1=fR/\ik (aK l).1=fj)->aa af w w'->e=fW (jl #[fY (iA 3 (T (aK l).1) aF aF aF),fX fj])->bE w bs (dR t) e w'):=λe w' h1 h2 h3=>bE.no (by rw[LH.o,iN9 h1]) h2 ⟨3,_,_,_,_,eL,0,0,0,0,0,_,_,fj,h3⟩;have EF:ah (∀I w',au w' I #[eR (T l)] 229->fS prog 136 #[vP I] w' λe w''=>e=fW (fX fj)/\aW w' I 0 #[eR (T l)] 229 (aC l) w''):=λI w' h'=>by have:=kZ I 0 _ _ l w' ⟨h',rfl⟩;rw[decide_eq_false hs]at this;exact this
 have hwl:=jP l;have U9:ah (∀I w',au w' I #[eR (T (aC l))] 229->fS prog 137 #[vP I] w' λe w''=>e=fW (eR (T (aK l).1))/\aW w' I 0 #[eR (T (aC l))] 229 (aK l).2 w''):=λI w' h'=>by have:=il I 0 _ _ (aC l) w' ⟨h',rfl⟩ (by have:=iy l;have:=iV hn;omega);rw[Ch]at this;exact this
 have qz:ah (∀I w',au w' I #[eR (T (aK l).2)] 229->fS prog 138 #[vP I,vB 58] w' λe w''=>e=fW (fX fR)/\aW w' I 0 #[eR (T (aK l).2)] 229 (bu 58 (aK l).2) w''):=λI w' h'=>by have:=iT I 0 _ _ (aK l).2 58 w' ⟨h',rfl⟩ (by have:=iV hn;omega);rw[hk]at this;exact this
 have HD2:=aq (λI w' (h':au w' I #[.string (T (bu 58 (aK l).2))] 229)=>kZ I 0 _ _ _ w' ⟨h',rfl⟩);have NU:=aq (λw'=>by have:=uk (T (aK l).1) w' (by rw[di];unfold maxLen;have:=iV hn;omega);rw[show(T (aK l).1).data.toList=(aK l).1 by simp[T]]at this;exact this);have IQ:ah (∀w',aa af w w'->fS prog 140 #[v,eR (T (aK l).1)] w' λe w''=>e=fW (fX (ik (aK l).1))/\aa af w' w''):=λw' m'=>Zx wT w' v bs _ hO (m.trans m') (hE.ai m') (by have:=iV hn;omega);clear LH;have hnl:=iV hn;rw[hn]at qJ;obtain⟨vo,vc,rfl,_⟩:=hO.sl.view;generalize ik (aK l).1=rs at *;generalize nameB (aK l).1=nb at *;generalize hdd:gh (aC (bu 58 (aK l).2)=[])=dd at *;have QF:ah (aC (bu 58 (aK l).2)=[]↔dd=fR):=by rw[ah,<-hdd];simp
 generalize aC (bu 58 (aK l).2)=r3 at *;generalize bu 58 (aK l).2=r2 at *;generalize bE w bs (dR t)=LP at *;go_in;go_wp2_with fail;refine(qJ.o _ (HM.o.ai eW.o)).mono ?_;rintro e w1 ⟨rfl,m1⟩;generalize aK l=wl at *;obtain⟨x,r1⟩:=wl;dsimp only at *;have HW1:ah (∀cs,LF w w1.heap.size w.heap.size l (w1.alloc (fL cs 229))\/True):=λ_=>ij trivial
 have HW2:ah (LF w w1.heap.size w.heap.size (l) (w1.alloc (fL #[eR (T (l))] 229))) :=
  ⟨au.new _ _ _,(gq.o.ai m1 id).alloc _,(eW.o.trans m1).alloc _,by
   have h1:=(eW.o.trans m1).size;have h2:=(gq.o.ai m1 id).lt;omega⟩
 have HMs:=aq (eW.o.trans m1);clear m1 qJ gq eW HW1;generalize hI:w1.heap.size=I at *;generalize hR:w.heap.size=R at *;go_wp2_with fail;refine(EF.o I _ HW2.o.za).mono ?_;rintro e w2 ⟨rfl,hp2⟩;have HW3:=aq (HW2.o.read hp2);clear hp2 EF HW2;go_wp2_with fail;refine(U9.o I _ HW3.o.za).mono ?_;rintro e w3 ⟨rfl,hp3⟩;have Ev:=aq (HW3.o.read hp3);clear hp3 U9 HW3;go_wp2_with fail;refine(qz.o I _ Ev.o.za).mono ?_;rintro e w4 ⟨rfl,Cf⟩;have sQ:=aq (Ev.o.read Cf);clear Cf qz Ev;go_wp2_with fail;refine(HD2.o I _ sQ.o.za).mono ?_;rintro e w5 ⟨rfl,hp5⟩;have mV:=aq (sQ.o.read hp5);clear hp5 HD2 sQ;cases dd with
 |false =>
  have EG:ah (¬(r3=[]/\nb=fR/\rs=fj)):=λh=>by have:=QF.o.1 h.1;cases this
  go_wp2_with (refine pA rfl 160 (.tmp 4) (.tmp 40) rfl R (iA 3 (T x) aF aF aF) rfl rfl 160 _ mV.o.res (by kernel_rfl) rfl (fM ..) ?_);refine kx (ay results71 _ _ R 160 _ (0,0) _ _ rfl rfl mV.o.res.dJ underlying160 rfl (by kernel_rfl)) rfl ?_;exact Iy.o _ _ EG.o (mV.o.md.dJ (ij mV.o.lt.2.2)) rfl
 |true =>
  have HD3:=aq (QF.o.2 rfl);go_wp2_with fail;refine(NU.o _).mono ?_;rintro e w6 ⟨rfl,rfl⟩;cases nb with
  |false =>
   have EG:ah (¬(r3=[]/\fj=fR/\rs=fj)):=λh=>by cases h.2.1
   go_wp2_with (refine pA rfl 160 (.tmp 4) (.tmp 40) rfl R (iA 3 (T x) aF aF aF) rfl rfl 160 _ mV.o.res (by kernel_rfl) rfl (fM ..) ?_);refine kx (ay results71 _ _ R 160 _ (0,0) _ _ rfl rfl mV.o.res.dJ underlying160 rfl (by kernel_rfl)) rfl ?_;exact Iy.o _ _ EG.o (mV.o.md.dJ (ij mV.o.lt.2.2)) rfl
  |true =>
   go_wp2_with fail;refine(IQ.o _ mV.o.md).mono ?_;rintro e w7 ⟨rfl,m7⟩;have tJ:=aq (mV.o.quiet m7);clear m7;cases rs with
   |true =>
    have EG:ah (¬(r3=[]/\fR=fR/\fR=fj)):=λh=>by cases h.2.2
    go_wp2_with (refine pA rfl 160 (.tmp 4) (.tmp 40) rfl R (iA 3 (T x) aF aF aF) rfl rfl 160 _ tJ.o.res (by kernel_rfl) rfl (fM ..) ?_);refine kx (ay results71 _ _ R 160 _ (0,0) _ _ rfl rfl tJ.o.res.dJ underlying160 rfl (by kernel_rfl)) rfl ?_;exact Iy.o _ _ EG.o (tJ.o.md.dJ (ij tJ.o.lt.2.2)) rfl
   |false =>go_wp2_with (refine pA rfl 160 (.tmp 4) (.tmp 40) rfl R (iA 3 (T x) aF aF aF) rfl rfl 160 _ tJ.o.res (by kernel_rfl) rfl (fM ..) ?_);refine kx (ay results71 _ _ R 160 _ (0,0) _ _ rfl rfl tJ.o.res.dJ underlying160 rfl (by kernel_rfl)) rfl ?_;exact HPY.o _ _ ⟨HD3.o,by simp⟩ (tJ.o.md.dJ (ij tJ.o.lt.2.2)) rfl
theorem QH(wT w:tW)(v:fa)(bs:tLN)(t:tLB)(hO:aM 0 wT v bs az)(m:aa af wT w)(hE:Env w)(hM:lY w)(ht:eJ t<=1000000)(l:tLB)(hn:kr t=eK l)(hs:aC l≠[])(hk:bC 58 (aK l).2=fj)(hw:(aK l).1=[109,97,112]):fS prog 71 #[v,eR (T t)] w λe w'=>bE w bs (dR t) e w':=by
 have qJ:=aq (λw' h=>Cg t w' h ht);have HM:=aq hM;have HE:=aq hE;have gq:=aq (au.new w (iA 0 ⟨#[]⟩ aF aF aF) 160);have eW:ah (aa af w (w.alloc (fL (iA 0 ⟨#[]⟩ aF aF aF) 160))):=aw;have LH:ah (dR t=fZ (aC (aK l).2)):=by rw[ah,nz hn,iN9 hs,iN9 (by simp[hk]),iP9 hw]
 have wu:ah (∀w',fS prog 141 #[fY #[eR (T (aC (aK l).2))]] w' λe w''=>bE w' bs (fZ (aC (aK l).2)) e w''):=λw'=>U8 w' bs _ (by have:=iy (aK l).2;have:=jP l;have:=iV hn;omega);have EF:ah (∀I w',au w' I #[eR (T l)] 229->fS prog 136 #[vP I] w' λe w''=>e=fW (fX fj)/\aW w' I 0 #[eR (T l)] 229 (aC l) w''):=λI w' h'=>by have:=kZ I 0 _ _ l w' ⟨h',rfl⟩;rw[decide_eq_false hs]at this;exact this
 have hwl:=jP l;have U9:ah (∀I w',au w' I #[eR (T (aC l))] 229->fS prog 137 #[vP I] w' λe w''=>e=fW (eR (T (aK l).1))/\aW w' I 0 #[eR (T (aC l))] 229 (aK l).2 w''):=λI w' h'=>by have:=il I 0 _ _ (aC l) w' ⟨h',rfl⟩ (by have:=iy l;have:=iV hn;omega);rw[Ch]at this;exact this
 have qz:ah (∀I w',au w' I #[eR (T (aK l).2)] 229->fS prog 138 #[vP I,vB 58] w' λe w''=>e=fW (fX fj)/\aW w' I 0 #[eR (T (aK l).2)] 229 (aC (aK l).2) w''):=λI w' h'=>by have:=iT I 0 _ _ (aK l).2 58 w' ⟨h',rfl⟩ (by have:=iV hn;omega);rw[hk,mO hk]at this;exact this
 have hq:((T (aK l).1).toList==[109,97,112])=fR:=xO (by rw[hw]);have HPY:ah (∀e w' x,fZ (aC (aK l).2)=eK x->aa af w w'->e=fW (jl #[fY (x.cells bs),fX fR])->bE w bs (dR t) e w'):=λe w' x h1 h2 h3=>bE.yes (by rw[LH.o,h1]) h2 h3;have Iy:ah (∀e w',fZ (aC (aK l).2)=eL->aa af w w'->(∃k nm a b c op d s j n h lb nn f,e=fW (jl #[fY (Jh k nm a b c (ia op) d s j n h lb nn f),fX fj]))->bE w bs (dR t) e w'):=λe w' h1 h2 h3=>bE.no (by rw[LH.o,h1]) h2 h3
 have HCX:ah (∀x,fZ (aC (aK l).2)=eK x->∃nm a b c,x.cells bs=iA 1 nm a b c):=λx hx=>by
  unfold fZ at hx;split at hx
  ·obtain⟨a,_,hx⟩:=Option.bind_eq_some_iff.1 hx;obtain⟨b,_,hx⟩:=Option.bind_eq_some_iff.1 hx;obtain⟨c,_,hx⟩:=Option.bind_eq_some_iff.1 hx;split at hx
   ·cases hx;exact⟨_,_,_,_,rfl⟩
   ·cases hx
  ·cases hx
 clear LH;have hnl:=iV hn;rw[hn]at qJ;obtain⟨vo,vc,rfl,_⟩:=hO.sl.view;generalize bE w bs (dR t)=LP at *;go_in;go_wp2_with fail;refine(qJ.o _ (HM.o.ai eW.o)).mono ?_;rintro e w1 ⟨rfl,m1⟩;generalize fZ (aC (aK l).2)=mp at *;generalize aC (aK l).2=r2 at *;generalize aK l=wl at *;obtain⟨x,r1⟩:=wl;dsimp only at *;have HW1:ah (∀cs,LF w w1.heap.size w.heap.size l (w1.alloc (fL cs 229))\/True):=λ_=>ij trivial
 have HW2:ah (LF w w1.heap.size w.heap.size (l) (w1.alloc (fL #[eR (T (l))] 229))) :=
  ⟨au.new _ _ _,(gq.o.ai m1 id).alloc _,(eW.o.trans m1).alloc _,by
   have h1:=(eW.o.trans m1).size;have h2:=(gq.o.ai m1 id).lt;omega⟩
 have HMs:=aq (eW.o.trans m1);clear m1 qJ gq eW HW1;generalize hI:w1.heap.size=I at *;generalize hR:w.heap.size=R at *;clear hw;go_wp2_with fail;refine(EF.o I _ HW2.o.za).mono ?_;rintro e w2 ⟨rfl,hp2⟩;have HW3:=aq (HW2.o.read hp2);clear hp2 EF HW2;go_wp2_with fail;refine(U9.o I _ HW3.o.za).mono ?_;rintro e w3 ⟨rfl,hp3⟩;have Ev:=aq (HW3.o.read hp3);clear hp3 U9 HW3;go_wp2_with fail;refine(qz.o I _ Ev.o.za).mono ?_;rintro e w4 ⟨rfl,Cf⟩;have sQ:=aq (Ev.o.read Cf);clear Cf qz Ev;have i0:=sQ.o.za.c0;go_wp2_with fail;refine(wu.o _).mono ?_;intro e w5 hpo;obtain⟨m5,hpo⟩:=hpo;have mV:=aq (sQ.o.quiet m5);clear m5 sQ wu;cases hmp:mp with
 |none =>rw[hmp]at hpo;obtain⟨k,nm,a,b,c,op,dd,ss,jj,nn,hh,lb,nm2,ff,rfl⟩:=hpo;go_wp2_with (refine pA rfl 160 (.tmp 4) (.tmp 47) rfl R (Jh k nm a b c (ia op) dd ss jj nn hh lb nm2 ff) rfl rfl 160 _ mV.o.res (by kernel_rfl) rfl (fM ..) ?_);refine kx (ay results71 _ _ R 160 _ (0,0) _ _ rfl rfl mV.o.res.dJ underlying160 rfl (by kernel_rfl)) rfl ?_;exact Iy.o _ _ hmp (mV.o.md.dJ (ij mV.o.lt.2.2)) ⟨k,nm,a,b,c,op,dd,ss,jj,nn,hh,lb,nm2,ff,rfl⟩
 |some y =>rw[hmp]at hpo;have he:e=fW (jl #[fY (y.cells bs),fX fR]):=hpo;obtain⟨nm,a,b,c,hy⟩:=HCX.o y hmp;have HY:=aq hy;rw[hy]at he;subst he;clear hpo hy;go_wp2_with (refine pA rfl 160 (.tmp 4) (.tmp 47) rfl R (iA 1 nm a b c) rfl rfl 160 _ mV.o.res (by kernel_rfl) rfl (fM ..) ?_);refine kx (ay results71 _ _ R 160 _ (0,0) _ _ rfl rfl mV.o.res.dJ underlying160 rfl (by kernel_rfl)) rfl ?_;exact HPY.o _ _ y hmp (mV.o.md.dJ (ij mV.o.lt.2.2)) (by rw[HY.o];rfl)
theorem QI(wT w:tW)(v:fa)(bs:tLN)(t:tLB)(hO:aM 0 wT v bs az)(m:aa af wT w)(hE:Env w)(hM:lY w)(ht:eJ t<=1000000)(l:tLB)(hn:kr t=eK l)(hs:aC l≠[])(hk:bC 58 (aK l).2=fj)(hw:(aK l).1=[102,117,110,99]):fS prog 71 #[v,eR (T t)] w λe w'=>bE w bs (dR t) e w':=by
 have qJ:=aq (λw' h=>Cg t w' h ht);have HM:=aq hM;have HE:=aq hE;have gq:=aq (au.new w (iA 0 ⟨#[]⟩ aF aF aF) 160);have eW:ah (aa af w (w.alloc (fL (iA 0 ⟨#[]⟩ aF aF aF) 160))):=aw;have LH:ah (dR t=if nameB (aK (aC (aK l).2)).1=fR/\aC (aK (aC (aK l).2)).2=[]then eK {kind:=2,name:=(aK (aC (aK l).2)).1}else eL):=by rw[ah,nz hn,iN9 hs,iN9 (by simp[hk]),iN9 (by rw[hw];decide),iP9 hw]
 have hl2:eJ (aC (aK l).2)<=1000000:=by have:=iy (aK l).2;have:=jP l;have:=iV hn;omega
 have HNA:=aq (λI w' (h':au w' I #[.string (T (aC (aK l).2))] 229)=>pY I 0 _ _ _ w' ⟨h',rfl⟩ hl2);have HD2:=aq (λI w' (h':au w' I #[.string (T (aK (aC (aK l).2)).2)] 229)=>kZ I 0 _ _ _ w' ⟨h',rfl⟩);have HPY:ah (∀e w',(nameB (aK (aC (aK l).2)).1=fR/\aC (aK (aC (aK l).2)).2=[])->aa af w w'->e=fW (jl #[fY (iA 2 (T (aK (aC (aK l).2)).1) aF aF aF),fX fR])->bE w bs (dR t) e w'):=λe w' h1 h2 h3=>bE.yes (x:={kind:=2,name:=(aK (aC (aK l).2)).1}) (by rw[LH.o,iP9 h1]) h2 h3;have Iy:ah (∀e w',¬(nameB (aK (aC (aK l).2)).1=fR/\aC (aK (aC (aK l).2)).2=[])->aa af w w'->e=fW (jl #[fY (iA 2 (T (aK (aC (aK l).2)).1) aF aF aF),fX fj])->bE w bs (dR t) e w'):=λe w' h1 h2 h3=>bE.no (by rw[LH.o,iN9 h1]) h2 ⟨2,_,_,_,_,eL,0,0,0,0,0,_,_,fj,h3⟩;have EF:ah (∀I w',au w' I #[eR (T l)] 229->fS prog 136 #[vP I] w' λe w''=>e=fW (fX fj)/\aW w' I 0 #[eR (T l)] 229 (aC l) w''):=λI w' h'=>by have:=kZ I 0 _ _ l w' ⟨h',rfl⟩;rw[decide_eq_false hs]at this;exact this
 have hwl:=jP l;have U9:ah (∀I w',au w' I #[eR (T (aC l))] 229->fS prog 137 #[vP I] w' λe w''=>e=fW (eR (T (aK l).1))/\aW w' I 0 #[eR (T (aC l))] 229 (aK l).2 w''):=λI w' h'=>by have:=il I 0 _ _ (aC l) w' ⟨h',rfl⟩ (by have:=iy l;have:=iV hn;omega);rw[Ch]at this;exact this
 have qz:ah (∀I w',au w' I #[eR (T (aK l).2)] 229->fS prog 138 #[vP I,vB 58] w' λe w''=>e=fW (fX fj)/\aW w' I 0 #[eR (T (aK l).2)] 229 (aC (aK l).2) w''):=λI w' h'=>by have:=iT I 0 _ _ (aK l).2 58 w' ⟨h',rfl⟩ (by have:=iV hn;omega);rw[hk,mO hk]at this;exact this
 have hq:((T (aK l).1).toList==[109,97,112])=fj:=tZ (λe=>by rw[hw]at e;exact absurd (pg e) (by decide));have hq2:((T (aK l).1).toList==[102,117,110,99])=fR:=xO (by rw[hw]);clear LH;have hnl:=iV hn;rw[hn]at qJ;obtain⟨vo,vc,rfl,_⟩:=hO.sl.view;generalize bE w bs (dR t)=LP at *;go_in;go_wp2_with fail;refine(qJ.o _ (HM.o.ai eW.o)).mono ?_;rintro e w1 ⟨rfl,m1⟩;generalize hdd:gh (aC (aK (aC (aK l).2)).2=[])=dd at *;have QF:ah (aC (aK (aC (aK l).2)).2=[]↔dd=fR):=by rw[ah,<-hdd];simp
 generalize aC (aK (aC (aK l).2)).2=r4 at *;generalize nameB (aK (aC (aK l).2)).1=nb at *;generalize aK (aC (aK l).2)=wl2 at *;obtain⟨nm,r3⟩:=wl2;generalize aC (aK l).2=r2 at *;generalize aK l=wl at *;obtain⟨x,r1⟩:=wl;dsimp only at *;have HW1:ah (∀cs,LF w w1.heap.size w.heap.size l (w1.alloc (fL cs 229))\/True):=λ_=>ij trivial
 have HW2:ah (LF w w1.heap.size w.heap.size (l) (w1.alloc (fL #[eR (T (l))] 229))) :=
  ⟨au.new _ _ _,(gq.o.ai m1 id).alloc _,(eW.o.trans m1).alloc _,by
   have h1:=(eW.o.trans m1).size;have h2:=(gq.o.ai m1 id).lt;omega⟩
 have HMs:=aq (eW.o.trans m1);clear m1 qJ gq eW HW1;generalize hI:w1.heap.size=I at *;generalize hR:w.heap.size=R at *;clear hw hdd;go_wp2_with fail;refine(EF.o I _ HW2.o.za).mono ?_;rintro e w2 ⟨rfl,hp2⟩;have HW3:=aq (HW2.o.read hp2);clear hp2 EF HW2;go_wp2_with fail;refine(U9.o I _ HW3.o.za).mono ?_;rintro e w3 ⟨rfl,hp3⟩;have Ev:=aq (HW3.o.read hp3);clear hp3 U9 HW3;go_wp2_with fail;refine(qz.o I _ Ev.o.za).mono ?_;rintro e w4 ⟨rfl,Cf⟩;have sQ:=aq (Ev.o.read Cf);clear Cf qz Ev;go_wp2_with fail;refine(HNA.o I _ sQ.o.za).mono ?_;rintro e w5 ⟨rfl,hp5⟩;have mV:=aq (sQ.o.read hp5);clear hp5 HNA sQ;cases nb with
 |false =>
  have EG:ah (¬(fj=fR/\r4=[])):=λh=>by cases h.1
  go_wp2_with (refine pA rfl 160 (.tmp 4) (.tmp 56) rfl R (iA 2 (T nm) aF aF aF) rfl rfl 160 _ mV.o.res (by kernel_rfl) rfl (fM ..) ?_);refine kx (ay results71 _ _ R 160 _ (0,0) _ _ rfl rfl mV.o.res.dJ underlying160 rfl (by kernel_rfl)) rfl ?_;exact Iy.o _ _ EG.o (mV.o.md.dJ (ij mV.o.lt.2.2)) rfl
 |true =>
  go_wp2_with fail;refine(HD2.o I _ mV.o.za).mono ?_;rintro e w6 ⟨rfl,hp6⟩;have tJ:=aq (mV.o.read hp6);clear hp6 HD2 mV;cases dd with
  |false =>
   have EG:ah (¬(fR=fR/\r4=[])):=λh=>by have:=QF.o.1 h.2;cases this
   go_wp2_with (refine pA rfl 160 (.tmp 4) (.tmp 56) rfl R (iA 2 (T nm) aF aF aF) rfl rfl 160 _ tJ.o.res (by kernel_rfl) rfl (fM ..) ?_);refine kx (ay results71 _ _ R 160 _ (0,0) _ _ rfl rfl tJ.o.res.dJ underlying160 rfl (by kernel_rfl)) rfl ?_;exact Iy.o _ _ EG.o (tJ.o.md.dJ (ij tJ.o.lt.2.2)) rfl
  |true =>have HD3:=aq (QF.o.2 rfl);go_wp2_with (refine pA rfl 160 (.tmp 4) (.tmp 56) rfl R (iA 2 (T nm) aF aF aF) rfl rfl 160 _ tJ.o.res (by kernel_rfl) rfl (fM ..) ?_);refine kx (ay results71 _ _ R 160 _ (0,0) _ _ rfl rfl tJ.o.res.dJ underlying160 rfl (by kernel_rfl)) rfl ?_;exact HPY.o _ _ ⟨by simp,HD3.o⟩ (tJ.o.md.dJ (ij tJ.o.lt.2.2)) rfl
theorem QJ(wT w:tW)(v:fa)(bs:tLN)(t:tLB)(hO:aM 0 wT v bs az)(m:aa af wT w)(hE:Env w)(hM:lY w)(ht:eJ t<=1000000)(l:tLB)(hn:kr t=eK l)(hs:aC l≠[])(hk:bC 58 (aK l).2=fj)(hw1:(aK l).1≠[109,97,112])(hw2:(aK l).1≠[102,117,110,99]):fS prog 71 #[v,eR (T t)] w λe w'=>bE w bs (dR t) e w':=by
 have qJ:=aq (λw' h=>Cg t w' h ht);have HM:=aq hM;have HE:=aq hE;have gq:=aq (au.new w (iA 0 ⟨#[]⟩ aF aF aF) 160);have eW:ah (aa af w (w.alloc (fL (iA 0 ⟨#[]⟩ aF aF aF) 160))):=aw;have LH:ah (dR t=(ni (aK l).1 (aC (aK l).2)).map λx=>{kind:=4,x:=x}):=by rw[ah,nz hn,iN9 hs,iN9 (by simp[hk]),iN9 hw1,iN9 hw2]
 have hl2:eJ (aC (aK l).2)<=1000000:=by have:=iy (aK l).2;have:=jP l;have:=iV hn;omega
 have Cd:ah (∀w',aa af w w'->fS prog 143 #[v,eR (T (aK l).1),fY #[eR (T (aC (aK l).2))]] w' λe w''=>uT w' bs (ni (aK l).1 (aC (aK l).2)) e w''):=λw' m'=>opsRead_any wT w' v bs _ _ hO (m.trans m') (hE.ai m') hl2;have HPY:ah (∀e w' y,ni (aK l).1 (aC (aK l).2)=eK y->aa af w w'->e=fW (jl #[fY (Jh 4 ⟨#[]⟩ aF aF aF (vP (bs[y.k]?.getD 0)) y.r.d y.r.s y.r.jump y.r.num y.r.high (T y.r.label) (T y.r.name) y.fits),fX fR])->bE w bs (dR t) e w'):=λe w' y h1 h2 h3=>bE.yes (x:={kind:=4,x:=y}) (by rw[LH.o,h1];rfl) h2 h3;have Iy:ah (∀e w',ni (aK l).1 (aC (aK l).2)=eL->aa af w w'->e=fW (jl #[fY (Jh 4 ⟨#[]⟩ aF aF aF (vO) 0 0 0 0 0 ⟨#[]⟩ ⟨#[]⟩ fj),fX fj])->bE w bs (dR t) e w'):=λe w' h1 h2 h3=>bE.no (by rw[LH.o,h1];rfl) h2 ⟨4,_,_,_,_,eL,0,0,0,0,0,_,_,fj,h3⟩;have EF:ah (∀I w',au w' I #[eR (T l)] 229->fS prog 136 #[vP I] w' λe w''=>e=fW (fX fj)/\aW w' I 0 #[eR (T l)] 229 (aC l) w''):=λI w' h'=>by have:=kZ I 0 _ _ l w' ⟨h',rfl⟩;rw[decide_eq_false hs]at this;exact this
 have hwl:=jP l;have U9:ah (∀I w',au w' I #[eR (T (aC l))] 229->fS prog 137 #[vP I] w' λe w''=>e=fW (eR (T (aK l).1))/\aW w' I 0 #[eR (T (aC l))] 229 (aK l).2 w''):=λI w' h'=>by have:=il I 0 _ _ (aC l) w' ⟨h',rfl⟩ (by have:=iy l;have:=iV hn;omega);rw[Ch]at this;exact this
 have qz:ah (∀I w',au w' I #[eR (T (aK l).2)] 229->fS prog 138 #[vP I,vB 58] w' λe w''=>e=fW (fX fj)/\aW w' I 0 #[eR (T (aK l).2)] 229 (aC (aK l).2) w''):=λI w' h'=>by have:=iT I 0 _ _ (aK l).2 58 w' ⟨h',rfl⟩ (by have:=iV hn;omega);rw[hk,mO hk]at this;exact this
 have hq:=tZ (λe=>hw1 (pg e));have hq2:=tZ (λe=>hw2 (pg e));clear LH;have hnl:=iV hn;rw[hn]at qJ;obtain⟨vo,vc,rfl,_⟩:=hO.sl.view;generalize bE w bs (dR t)=LP at *;go_in;go_wp2_with fail;refine(qJ.o _ (HM.o.ai eW.o)).mono ?_;rintro e w1 ⟨rfl,m1⟩;generalize ni (aK l).1 (aC (aK l).2)=rp at *;generalize aC (aK l).2=r2 at *;generalize aK l=wl at *;obtain⟨x,r1⟩:=wl;dsimp only at *;have HW1:ah (∀cs,LF w w1.heap.size w.heap.size l (w1.alloc (fL cs 229))\/True):=λ_=>ij trivial
 have HW2:ah (LF w w1.heap.size w.heap.size (l) (w1.alloc (fL #[eR (T (l))] 229))) :=
  ⟨au.new _ _ _,(gq.o.ai m1 id).alloc _,(eW.o.trans m1).alloc _,by
   have h1:=(eW.o.trans m1).size;have h2:=(gq.o.ai m1 id).lt;omega⟩
 have HMs:=aq (eW.o.trans m1);clear m1 qJ gq eW HW1;generalize hI:w1.heap.size=I at *;generalize hR:w.heap.size=R at *;clear hw1 hw2;go_wp2_with fail;refine(EF.o I _ HW2.o.za).mono ?_;rintro e w2 ⟨rfl,hp2⟩;have HW3:=aq (HW2.o.read hp2);clear hp2 EF HW2;go_wp2_with fail;refine(U9.o I _ HW3.o.za).mono ?_;rintro e w3 ⟨rfl,hp3⟩;have Ev:=aq (HW3.o.read hp3);clear hp3 U9 HW3;go_wp2_with fail;refine(qz.o I _ Ev.o.za).mono ?_;rintro e w4 ⟨rfl,Cf⟩;have sQ:=aq (Ev.o.read Cf);clear Cf qz Ev;have i0:=sQ.o.za.c0;go_wp2_with fail;refine(Cd.o _ sQ.o.md).mono ?_;intro e w5 hpo;obtain⟨m5,he⟩:=hpo;have mV:ah (∀cs,LF w I R r2 (w5.alloc (fL cs 138))):=λcs=>sQ.o.quiet (m5.alloc _);clear m5 sQ Cd i0;cases Yu:rp with
 |none =>rw[Yu]at he;dsimp only[yZ]at he;subst he;go_wp2_with (refine pA rfl 160 (.tmp 4) (.tmp 71) rfl R (Jh 4 ⟨#[]⟩ aF aF aF (vO) 0 0 0 0 0 ⟨#[]⟩ ⟨#[]⟩ fj) rfl rfl 160 _ (mV.o _).res (by kernel_rfl) rfl (fM ..) ?_);refine kx (ay results71 _ _ R 160 _ (0,0) _ _ rfl rfl (mV.o _).res.dJ underlying160 rfl (by kernel_rfl)) rfl ?_;exact Iy.o _ _ Yu ((mV.o _).md.dJ (ij (mV.o #[]).lt.2.2)) rfl
 |some y =>rw[Yu]at he;dsimp only[fD.cells]at he;subst he;generalize hyf:y.fits=yf at *;generalize hyp:bs[y.k]?.getD 0=yb at *;go_wp2_with (refine pA rfl 160 (.tmp 4) (.tmp 71) rfl R (Jh 4 ⟨#[]⟩ aF aF aF (vP yb) y.r.d y.r.s y.r.jump y.r.num y.r.high (T y.r.label) (T y.r.name) yf) rfl rfl 160 _ (mV.o _).res (by kernel_rfl) rfl (fM ..) ?_);refine kx (ay results71 _ _ R 160 _ (0,0) _ _ rfl rfl (mV.o _).res.dJ underlying160 rfl (by kernel_rfl)) rfl ?_;exact HPY.o _ _ y Yu ((mV.o _).md.dJ (ij (mV.o #[]).lt.2.2)) (by rw[hyf,hyp];rfl)
def linesP:tLB->List tLB
 |[]=>[[]]
 |c::l=>if c=10 then []::linesP l else match linesP l with
  |[]=>[[c]]
  |h::t=>(c::h)::t
theorem Fw:∀(l:tLB),(∀d∈l,d≠10)->linesP l=[l]
 |[],_=>rfl
 |c::l,h=>by rw[linesP,iN9 (h c (by simp)),Fw l (λd hd=>h d (by simp[hd]))]
theorem CY:∀(l:tLB) (k:Nat),l.takeWhile (λd=>d != 10)=l.take k->k<eJ l->linesP l=l.take k::linesP (l.drop (k+1))
 |[],k,_,hk=>absurd hk (Nat.not_lt_zero _)
 |c::l,0,h,_=>by
  by_cases e:c=10
  ·subst e;rw[linesP,iP9 rfl];rfl
  ·rw[ab,iP9 (by simpa using e)]at h;simp at h
 |c::l,k+1,h,hk=>by
  by_cases e:c=10
  ·subst e;rw[ab,iN9 (by simp)]at h;simp at h
  ·rw[ab,iP9 (by simpa using e)]at h;have ih:=CY l k (by simpa using h) (by simpa using hk);rw[linesP,iN9 e,ih];rfl
theorem Bj:∀(k:Nat) (s:tBA),Lib.countB s ⟨#[10]⟩=k->Lib.splitB ⟨#[10]⟩ 0 k s=(linesP (BL s)).map T
 |k,s,hc=>by
  rcases index_one (BL s) 10 with⟨h1,h2⟩ |⟨i,h1,h2,h3⟩
  ·have hi:Lib.indexB s ⟨#[10]⟩=-1:=h1;rw[Lib.splitB_miss _ _ _ _ hi,Fw _ h2];rfl
  ·have hi:Lib.indexB s ⟨#[10]⟩=(i:Int):=h1;have hh:=Lib.countB_hit s ⟨#[10]⟩ i (by decide) hi;rw[hc]at hh
   have hb:BL (s.extract (i+(ByteArray.mk #[10]).size) s.size)=(BL s).drop (i+1):=by
    show(s.extract (i+1) s.size).data.toList=s.data.toList.drop (i+1)
    have:=nj (BL s) (i+1);rw[YL]at this;rw[this];simp[T,BL]
   have ht:s.extract 0 i=T ((BL s).take i):=by have:=zX (BL s) i;rw[YL]at this;exact this
   match k,hh with
   |0,hh=>omega
   |k+1,hh =>rw[Lib.splitB_hit _ _ _ _ i hi,Bj k _ (by omega),hb,CY _ i h2 h3,Nat.add_zero,ht];rfl
theorem LJ(l:tLB)(w:tW)(hM:lY w)(hl:eJ l<=1000000):fS prog 70 #[eR (T l),eR ⟨#[10]⟩] w λe w'=>∃n,e=fW (eS (eK ⟨w.heap.size,0,eL⟩) (eJ (linesP l)) n)/\w'=w.alloc (fL ((linesP l).map (λt=>Value.string (T t))).toArray 9):=by
 obtain⟨m,hm⟩:=hM;have h:=Any.strings_Split lsp (by kernel_rfl) (T l) ⟨#[10]⟩ m w (by rw[di];omega) hm (by decide);have e:=Bj _ (T l) rfl;have hb:BL (T l)=l:=by simp[BL,T]
 rw[hb]at e;have hn:=Lib.splitB_all ⟨#[10]⟩ (by decide) 0 _ (T l) rfl;rw[e,List.length_map]at hn;refine h.mono (λe' w' ⟨h1,h2⟩=>⟨Lib.countB (T l) ⟨#[10]⟩+1,?_,?_⟩)
 ·rw[h1,hn]
 ·rw[h2,e,List.map_map];rfl
def parseP:List tLB->Bool->Nat->List fE->List fE ⊕ Nat
 |[],_,_,acc=>.inl acc
 |t::ts,nU,n,acc=>match dR t with
  |none=>.inr (n+1)
  |some x=>if(nU||x.kind==2)=fj/\(x.kind=3\/x.kind=4)then .inr (n+1)else parseP ts (nU||x.kind==2) (n+1) (acc++[x])
theorem Jj(ts:List tLB)(k:Nat)(hk:k<eJ ts)(nU:Bool)(n:Nat)(acc:List fE):parseP (ts.drop k) nU n acc=match dR ts[k]with
  |none=>.inr (n+1)
  |some x=>if(nU||x.kind==2)=fj/\(x.kind=3\/x.kind=4)then .inr (n+1)else parseP (ts.drop (k+1)) (nU||x.kind==2) (n+1) (acc++[x]):=by
 rw[List.drop_eq_getElem_cons hk,parseP]
structure gJ(w0:tW)(v:fa)(bs:tLN)(ls:List fE)(w:tW):Prop where
 sl:Sl w 160 20 v (eJ ls) (ls.flatMap (λx=>(x.cells bs).toList))
 own:∀k,v.ownBlock=eK k->w0.heap.size<=k
 md:aa af w0 w
theorem gJ.quiet{w0 w w':tW}{v:fa}{bs:tLN}{ls:List fE}(h:gJ w0 v bs ls w)(m:aa af w w'):gJ w0 v bs ls w':=⟨h.sl.ai m (λ_ _=>id),h.own,h.md.trans m⟩
theorem gJ.nil(w:tW)(bs:tLN):gJ w (vN) bs [] w:=⟨Sl.nil _ _ _,(λk h=>by cases h),ax⟩
theorem gJ.app{w0 w w':tW}{v v':fa}{bs:tLN}{ls:List fE}{x:fE}(h:gJ w0 v bs ls w)(s:Sl w' 160 20 v' (eJ ls+1) (ls.flatMap (λx=>(x.cells bs).toList)++(x.cells bs).toList))(m:aa (λk=>v.ownBlock=eK k) w w')(lv:∀k,v'.ownBlock=eK k->v.ownBlock=eK k\/w.heap.size<=k):gJ w0 v' bs (ls++[x]) w':=by
 refine⟨by simpa using s,λk hk=>?_,h.md.step m (λi hi e=>by have:=h.own i e;omega)⟩;rcases lv k hk with e|e
 ·exact h.own k e
 ·have:=h.md.size;omega
theorem gV(bs:tLN)(x:fE):(x.cells bs).size=20:=by unfold fE.cells;split<;>rfl
theorem cells_one(bs:tLN)(x:fE):(x.cells bs).all (·.oneCell')=fR:=by unfold fE.cells;split<;>exact fM ..
theorem rE(bs:tLN)(x:fE):(x.cells bs)[0]?=eK (vI x.kind):=by
 unfold fE.cells;split
 ·rename_i h;rw[h];rfl
 ·rfl
theorem CZ:(prog.info? 160).map (λi=>(i.zero,i.size,i.bytes))=eK (eK (fY (iA 0 ⟨#[]⟩ aF aF aF)),20,160):=by kernel_rfl
def GM(w:tW)(bs:tLN)(r:List fE ⊕ Nat)(e:mz)(w':tW):Prop:=match r with
 |.inr n=>e=fW (jl #[vN,vI n])/\aa af w w'
 |.inl ls=>∃v,e=fW (jl #[v,vI 0])/\gJ w v bs ls w'
theorem abA{t:tLB}{l:tLB}:t∈linesP l->eJ t<=eJ l:=by
 induction l generalizing t with
 |nil=>intro h;simp[linesP]at h;subst h;exact bj _
 |cons c l ih =>
  intro h;rw[linesP]at h;split at h
  ·rcases List.mem_cons.1 h with rfl|h
   ·simp
   ·have:=ih h;simp;omega
  ·cases hl:linesP l with
   |nil=>rw[hl]at h;simp at h;subst h;simp
   |cons a b =>
    rw[hl]at h;rcases List.mem_cons.1 h with rfl|h
    ·have:=ih (t:=a) (by rw[hl];simp);simp;omega
    ·have:=ih (t:=t) (by rw[hl];simp[h]);simp;omega
theorem Fx(l:tLB):eJ (linesP l)<=eJ l+1:=by
 induction l with
 |nil=>simp[linesP]
 |cons c l ih =>
  rw[linesP];split
  ·simp;omega
  ·cases hl:linesP l with
   |nil=>simp
   |cons a b=>rw[hl]at ih;simp at ih ⊢;omega
theorem C8:∀(l pre z:tLV),eJ z=eJ l->(l.zipIdx (eJ pre)).foldl (λ(cs:tAV) x=>cs.setIfInBounds (0+x.2) x.1) (pre++z).toArray=(pre++l).toArray
 |[],pre,z,h=>by have :=List.length_eq_zero_iff.1 h;subst this;rfl
 |a::l,pre,[],h=>by cases h
 |a::l,pre,b::z,h=>by
  rw[List.zipIdx_cons,List.foldl_cons];have e:((pre++b::z).toArray.setIfInBounds (0+eJ pre) a)=((pre++[a])++z).toArray:=by rw[Nat.zero_add,List.setIfInBounds_toArray,List.set_append_right _ _ (bj _),Nat.sub_self,List.set_cons_zero,ar];rfl
  have ih:=C8 l (pre++[a]) z (by simpa using h);rw[List.length_append,List.length_singleton]at ih;show(l.zipIdx (eJ pre+1)).foldl _ ((pre++b::z).toArray.setIfInBounds (0+eJ pre) a)=_
  rw[e,ih,ar];rfl
theorem Va(cs z:tAV)(hc:cs.size=20)(hz:z.size=20):Instr.fill (λi=>eK (i*20,20)) z [(0,fY cs)]=eK cs:=by
 obtain⟨l⟩:=cs;obtain⟨m⟩:=z;simp only[ba]at hc hz;have h:=C8 l [] m (by omega);have hcl:(Value.agg l.toArray).cells=l.toArray:=rfl;simp only[Instr.fill,hcl,ba,hc,hz];rw[iN9 (by decide)];simp only[List.nil_append,List.length_nil]at h
 simpa using h
theorem zb{ops:Array iz}{rest:List iz}{o:iz}{a:Act}{w:tW}{Q:Exit->Act->tW->Prop}(hg:o.guard=eL)(x:pd)(ho:o.op=.buildSlice 102 1 #[(0,x)])(cs:tAV) (hx:a.eval x=fY cs) (hc:cs.size=20)(h:n9 prog ops Q rest (a.put o.dst (eS (eK ⟨w.heap.size,0,eL⟩) 1 1)) (w.alloc (fL cs 160))):n9 prog ops Q (o::rest) a w:=by obtain⟨iP,hiP,sP,hsP,xz⟩:=oY CZ;refine wpList_buildSlice hg 102 160 1 _ ho cs iP _ underlying102 hiP sP (by rw[hsP];decide) (by rw[hsP];decide) ?_ h;rw[hsP];simp only[List.map_toArray,List.map_cons,List.map_nil,hx];exact Va cs _ hc (by simp)
theorem gx{P:Program}{ops:Array iz}{rest:List iz}{o:iz}{a:Act}{w:tW}{Q:Exit->Act->tW->Prop}(hgd:o.guard=eL)(ty:ju)(x y:pd)(ho:o.op=.store ty x y)(g:Nat) (cells:tAV) (hx:a.eval x=vP g) (hy:a.eval y=fY cells)(t:ju) (old:tAV) (hg:au w g old t) (hi:(P.info? ty).map (·.size)=eK cells.size)(hold:old.size=cells.size) (h1:cells.all (·.oneCell')=fR)(h:∀W,au W g cells t->aa (Only g) w W->n9 P ops Q rest (a.put o.dst undef) W):n9 P ops Q (o::rest) a w :=
 pA hgd ty x y ho g cells hx hy t old hg hi hold h1 (h _ (hg.setRow cells) (aa.setRow (S:=Only g) ax (jn rfl) _))
theorem aa.fresh{w W:tW}{o:Obj}(m:aa (Only w.heap.size) (w.alloc o) W):aa af w W :=
 ((aa.refl af w).alloc o).step m (λi hi e=>by have:i=w.heap.size:=e;omega)
set_option linter.all false
def Jk(t:tLB):Prop:=∃x,dR t=eK x/\1<=x.kind/\x.kind<=4
theorem Vb(wT w:tW)(v:fa)(bs:tLN)(t:tLB)(hO:aM 0 wT v bs az)(m:aa af wT w)(hE:Env w)(hM:lY w)(ht:eJ t<=1000000)(hq:Jk t):fS prog 71 #[v,eR (T t)] w λe w'=>bE w bs (dR t) e w':=by
 obtain⟨x,hx,h2,_⟩:=hq;cases hn:kr t with
 |none=>rw[LG hn]at hx;cases hx
 |some l =>
  have hp:=nz hn;by_cases hs:aC l=[]
  ·rw[hp,iP9 hs]at hx;cases hx;exact absurd h2 (by decide)
  ·cases hk:bC 58 (aK l).2 with
   |true=>exact QG wT w v bs t hO m hE hM ht l hn hs hk
   |false =>
    by_cases h1:(aK l).1=[109,97,112]
    ·exact QH wT w v bs t hO m hE hM ht l hn hs hk h1
    ·by_cases h2:(aK l).1=[102,117,110,99]
     ·exact QI wT w v bs t hO m hE hM ht l hn hs hk h2
     ·exact QJ wT w v bs t hO m hE hM ht l hn hs hk h1 h2
set_option linter.all false
theorem parseM_any(wT w:tW)(v:fa)(bs:tLN)(l:tLB)(hO:aM 0 wT v bs az)(m:aa af wT w)(hE:Env w)(hM:lY w)(hl:eJ l<=1000000)(hq:∀t∈linesP l,Jk t)(hs:∃ls,parseP (linesP l) fj 0 []=.inl ls):fS prog 41 #[v,eR (T l)] w λe w'=>GM w bs (parseP (linesP l) fj 0 []) e w':=by
 have HSP:=aq (LJ l w hM hl);have LK:=aq (λt w' ht m'=>Vb wT w' v bs t hO (m.trans m') (hE.ai m') (hM.ai m') (by have:=abA ht;omega) (hq t ht));have HQ:=aq hq;have HS:=aq hs;have QK:ah (eJ (linesP l)<=1000001):=by have:=Fx l;rw[ah];omega
 have uq:ah (∀e w' u ls,parseP (linesP l) fj 0 []=.inl ls->gJ w u bs ls w'->e=fW (jl #[u,vI 0])->GM w bs (parseP (linesP l) fj 0 []) e w'):=λe w' u ls h1 h2 h3=>by rw[h1];exact⟨u,h3,h2⟩
 have HDR:ah (∀k (hk:k<eJ (linesP l)) nU n acc,parseP ((linesP l).drop k) nU n acc=match dR (linesP l)[k]with
  |none=>.inr (n+1)
  |some x=>if(nU||x.kind==2)=fj/\(x.kind=3\/x.kind=4)then .inr (n+1)else parseP ((linesP l).drop (k+1)) (nU||x.kind==2) (n+1) (acc++[x])):=λk hk nU n acc=>Jj _ k hk nU n acc
 obtain⟨iP,hiP,sP,hsP,xz⟩:=oY CZ;obtain⟨vo,vc,rfl,_⟩:=hO.sl.view;generalize GM w bs (parseP (linesP l) fj 0 [])=PA at *;clear hO m hE hM hq hs;generalize linesP l=ts at *;have HP0:ah (∃pr,pr=parseP ts fj 0 []):=⟨_,rfl⟩
 generalize hpr:parseP ts fj 0 []=pr at *;have QL:ah (parseP (ts.drop 0) fj 0 []=pr):=hpr;clear hpr HP0;go_in;go_wp2_with fail;refine HSP.o.mono ?_;rintro e w1 ⟨nc,rfl,hw1⟩;have HTB:ah (au w1 w.heap.size (ts.map (λt=>Value.string (T t))).toArray 9):=by rw[hw1];exact au.new w _ _
 have HA0:ah (gJ w (vN) bs [] w1):=by rw[hw1];exact(gJ.nil w bs).quiet aw
 have bU:=aq HA0.o.md;have Bg:ah (w1.heap.size=w.heap.size+1):=by rw[ah,hw1];simp
 clear hw1 HSP;have hnl:=QK.o;go_wp2_with fail;go_loopg [6,7,15] (eJ ts) (λq v6 v7 v15 wx=>∃(k:Nat) (nU:Bool) (acc:List fE),k<=eJ ts/\v15=vI k/\v7=fX nU/\gJ w v6 bs acc wx/\aa af w1 wx/\parseP (ts.drop k) nU k acc=pr/\acc.length=k/\q=eJ ts-k)
 case atStart=>exact⟨0,fj,[],bh _,rfl,rfl,HA0.o,ax,QL.o,rfl,rfl⟩
 case round =>
  obtain⟨k,nU,acc,hk,rfl,rfl,hA,hmk,hP,hak,rfl⟩:=hrel;have HA:=aq hA;have HP:=aq hP;have xQ:=aq hmk;have HAK:=aq hak;clear hA hP hmk hak HA0 QL;by_cases hlt:k<eJ ts
  ·have t0:wr.cell? ⟨w.heap.size,k,eL⟩=eK (eR (T ts[k])):=by rw[(HTB.o.ai xQ.o id).cell k];simp[hlt]
   have HD:ah (pr=match dR ts[k]with
    |none=>.inr (k+1)
    |some x=>if(nU||x.kind==2)=fj/\(x.kind=3\/x.kind=4)then .inr (k+1)else parseP (ts.drop (k+1)) (nU||x.kind==2) (k+1) (acc++[x])):=by rw[ah,<-HP.o];exact HDR.o k hlt nU k acc
   have Tk:=aq (LK.o ts[k] wr (al hlt) HA.o.md);have LM:=aq (HQ.o ts[k] (al hlt));clear HDR HP;generalize ts[k]=t at *;go_wp2_with fail;refine Tk.o.mono ?_;intro e w2 hpo;obtain⟨m2,hpo⟩:=hpo;have HA2:=aq (HA.o.quiet m2);have bP:=aq (xQ.o.trans m2);clear m2 HA xQ Tk t0;obtain⟨x,hlp,hk2,hk4⟩:=LM.o;rw[hlp]at hpo;have he:e=fW (jl #[fY (x.cells bs),fX fR]):=hpo;subst he;clear hpo;have jI:=aq (gV bs x);have NV:=aq (rE bs x);have Bk:=aq (cells_one bs x);have HD2:ah (pr=if(nU||x.kind==2)=fj/\(x.kind=3\/x.kind=4)then .inr (k+1)else parseP (ts.drop (k+1)) (nU||x.kind==2) (k+1) (acc++[x])):=by rw[ah,HD.o,hlp]
   have HB2:=aq (au.new w2 (iA 0 ⟨#[]⟩ aF aF aF) 160);have HAP:ah (∀(wA wB:tW) (vB:fa),gJ w u6 bs acc wA->Sl wB 160 20 vB (eJ acc+1) (acc.flatMap (λx=>(x.cells bs).toList)++(x.cells bs).toList)->aa (λk=>u6.ownBlock=eK k) wA wB->(∀k,vB.ownBlock=eK k->u6.ownBlock=eK k\/wA.heap.size<=k)->gJ w vB bs (acc++[x]) wB):=λwA wB vB h=>h.app;have HN:ah (¬((nU||x.kind==2)=fj/\(x.kind=3\/x.kind=4))):=λhc=>by obtain⟨ls,h⟩:=HS.o;have h2:=HD2.o;rw[h,iP9 hc]at h2;cases h2
   have HE2:ah (parseP (ts.drop (k+1)) (nU||x.kind==2) (k+1) (acc++[x])=pr):=by rw[ah,HD2.o,iN9 HN.o]
   clear HD hlp HD2 HQ LM;generalize x.cells bs=cs at *;go_upto_region 7 with(refine gx rfl 160 (.tmp 10) (.tmp 24) rfl w2.heap.size (cs) rfl rfl 160 _ HB2.o (by rw[jI.o];kernel_rfl) (by rw[jI.o];rfl) (Bk.o) ?_;intro W3 hB3 yK)
   have kT:=aq (HA2.o.quiet yK.fresh);have dF:=aq (bP.o.trans yK.fresh);have HB3:=aq hB3;have c0:=(hB3.cell 0).trans NV.o;clear hB3 yK HB2 HA2 bP;generalize hB:w2.heap.size=B at *;generalize hb7:(nU||x.kind==2)=b7 at *;have BQ:=aq hb7;clear hb7;go_cut [7] (λv7 wx=>v7=fX b7/\wx=W3)
   case first =>
    cases nU with
    |true =>
     have e7:b7=fR:=by rw[<-BQ.o];rfl
     go_wp2_with fail;go_meet;exact⟨by rw[e7],rfl⟩
    |false =>
     by_cases hx2:x.kind=2
     ·have q2:((x.kind:Int)==2)=fR:=by rw[hx2];rfl
      have e7:b7=fR:=by rw[<-BQ.o,hx2];rfl
      go_wp2_with fail;go_meet;exact⟨by rw[e7],rfl⟩
     ·have q2:((x.kind:Int)==2)=fj:=by simp;omega
      have e7:b7=fj:=by rw[<-BQ.o];simpa using hx2
      go_wp2_with fail;go_meet;exact⟨by rw[e7],rfl⟩
   case rest =>
   obtain⟨rfl,hw⟩:=hcut;have hw':=hw.symm;subst hw'
   have hcs:b7=fR\/(b7=fj/\((x.kind:Int)==3)=fj/\((x.kind:Int)==4)=fj):=by
    cases hb:b7 with
    |true=>exact jn rfl
    |false =>have hn:=HN.o;rw[hb]at hn;have h3:¬(x.kind=3\/x.kind=4):=λh=>hn ⟨rfl,h⟩;exact ij ⟨rfl,by simp;omega,by simp;omega⟩
   rcases hcs with rfl |⟨rfl,q3,q4⟩
   all_goals
    go_upto_region 10 with fail;obtain⟨o6,c6,h6,_⟩:=kT.o.sl.view;have hal:=HAK.o;have Yv:ah (∀os,gJ w u6 bs acc (W3.alloc os)):=λos=>kT.o.quiet aw;have gG:ah (∀os,aa af w1 (W3.alloc os)):=λos=>dF.o.alloc _;subst h6;have HOn:ah (∀u∈cs.toList,u.oneCell'=fR):=λu hu=>by have:=Bk.o;rw[Array.all_eq_true_iff_forall_mem]at this;exact this u (by simpa using hu)
    go_wp2_with (first |(refine rl rfl 160 (.tmp 10) rfl B rfl 160 cs (0,0) _ HB3.o underlying160 rfl (by rw[jI.o];kernel_rfl) ?_) |(refine zb rfl (.tmp 51) rfl cs rfl jI.o ?_) |(at_builtin;refine aQ _ rfl (.tmp 50) (.tmp 52) 102 rfl 160 iP (fY (iA 0 ⟨#[]⟩ aF aF aF)) 20 160 underlying102 hiP sP hsP xz rfl (by decide) (eS o6 (eJ acc) c6) (eJ acc) (acc.flatMap (λx=>(x.cells bs).toList)) rfl (Yv.o _).sl ⟨W3.heap.size,0,eL⟩ 1 1 cs.toList rfl (by rw[Array.length_toList,jI.o]) (bH _ _ _ _ rfl) HOn.o (by unfold maxLen;omega) (by omega) ?_;intro vA wA sA mA lA;have HAA:=aq (HAP.o _ _ _ (Yv.o _) sA mA lA);have Gr:=aq ((gG.o _).step mA (λi hi e=>by have h1:=kT.o.own i e;have h2:=Bg.o;have h3:i=w.heap.size:=(by omega);subst h3;exact kT.o.sl.aA (HTB.o.ai dF.o id) (by decide) e));clear sA mA lA));go_roundg (eJ ts-(k+1))
    case measure=>omega
    case rel=>exact⟨k+1,_,acc++[x],by omega,by go_num,rfl,HAA.o,Gr.o,HE2.o,by simp[hal],rfl⟩
  ·have hke:k=eJ ts:=by omega
   subst hke;have HE2:ah (pr=.inl acc):=by rw[ah,<-HP.o,bt];rfl
   obtain⟨o6,c6,h6,_⟩:=HA.o.sl.view;go_wp2_with fail;exact uq.o _ _ _ acc HE2.o HA.o rfl
