import Derived.Test.YtekmhcbefnmflaaGreatDoorCL27
import Derived.Test.YtekmhcbefnmflaaGreatDoorCL34
namespace Go.Proofs.YtekmhcbefnmflaaGreatDoor
open Go.RowKit Tryz
open List renaming length->ee
open Value renaming string->eI,slice->eK
set_option linter.all false
set_option maxRecDepth 100000
set_option maxHeartbeats 2000000
set_option linter.all false
theorem DC{w:tW}{tv:Value}{bs:tLN}(hO:aT 0 w tv bs ax)(x:PI)(hx:kz x/\x.aJ=0):Calls prog 71 #[.agg #[vP (bs[x.k]?.getD 0),vB x.d,vB x.s,.int .i16 x.jump,vJ x.num,vJ x.high,eI ByteArray.empty,eI (T x.name)]] w λe w2=>e=.returned (vI 0)/\aa ah w w2:=by have:=rT w _ x.o (lT hO x hx.1.k) x.d x.s x.num x.high x.jump ByteArray.empty (T x.name);rw[show(if x.s=1 then x.o.aJ else 0)=0 from hx.2]at this;exact this
theorem aaf{w:tW}{o:Option Addr}{c:Nat}{a b:Value}(h:Sl w 109 2 (eK o 1 c) 1 [a,b]):∃g,o=some ⟨g,0,none⟩/\w.cell? ⟨g,0,none⟩=some a/\w.cell? ⟨g,1,none⟩=some b:=by obtain⟨o',c',hv,h2⟩:=h.view;cases hv;obtain⟨g,cs,rfl,hb,ht,_⟩:=h2 (by omega);exact⟨g,rfl,aX hb ht 0 (by omega),aX hb ht 1 (by omega)⟩
theorem G5{w:tW}{lo:Nat}{bs:tLN}{v:Value}{f:cZ}{vs:tLV}(h:xN w lo bs v [f] vs):∃oF cF oC cC,v=eK oF 1 cF/\Sl w 109 2 (eK oF 1 cF) 1 [eI (T f.name),eK oC (ee f.code) cC]/\Sl w 141 8 (eK oC (ee f.code) cC) (ee f.code) (kI bs f.code):=by obtain⟨oF,cF,qi,_⟩:=h.sl.view;obtain⟨vC,hvs⟩:=List.length_eq_one_iff.1 h.len;have sZ:=h.cd 0 (by simp) (by rw[hvs];simp);have hsl:=h.sl;simp only[hvs,List.getElem_cons_zero]at sZ hsl;obtain⟨oC,cC,hvC,_⟩:=sZ.view;subst hvC;rw[qi]at hsl;exact⟨oF,cF,oC,cC,qi,hsl,sZ⟩
theorem RX(wT w:tW)(tv:Value)(bs:tLN)(hT:aT 0 wT tv bs ax)(mT:aa ah wT w)(b:Nat)(hb:wT.heap.size<=b)(q:PR)(hR:jO w b q)(hl:ee q.rest<=maxLen)(o1:Option Addr)(n1 c1:Nat)(vF:Value)(vs:tLV)(f:cZ)(hF:xN w wT.heap.size bs vF [f] vs)(hc:ee f.code<=2000)(hr:∀x∈f.code,x.aJ=0):Calls prog 152 #[vP b,.agg #[eK o1 n1 c1,vF]] w λe w'=>e=.returned (.tuple #[])/\jO w' b (az (decide ((kR q).1=0)) (kR q).2)/\aa (Only b) w w':=by
 have H2:=ai (λW (h:jO W b q)=>Ob b q W h hl);have HFW:af (∀w',tF w b (kR q).2 w'->aT 0 w' tv bs ax/\xN w' wT.heap.size bs vF [f] vs):=λw' h=>⟨hT.ae (mT.step h.md (λi hi e=>by have e':i=b:=e;omega)),h.fns hR hF⟩
 have AY:af (∀x∈f.code,kz x/\x.aJ=0):=λx hx=>⟨hF.ok f (by simp) x hx,hr x hx⟩
 have m0:aa ah w (w.alloc (.cells #[eK o1 n1 c1,vF] 99)):=aq;have fQ:af (jO (w.alloc (.cells #[eK o1 n1 c1,vF] 99)) b q):=ak.alloc hR _;have HB0:=ai (ak.new w #[eK o1 n1 c1,vF] 99);have dU:=ai m0;have Oc:af (¬w.heap.size=b):=by have:=hR.lt;unfold af;omega
 obtain⟨oF,cF,oC,cC,hv,_,_⟩:=G5 hF;subst hv;have htw:=VY q;clear hT mT hF hR hr hl m0;generalize kR q=r1 at *;obtain⟨lf,q1⟩:=r1;simp only at *;go_in;go_wp2_with fail;refine(H2.o _ fQ.o).mono ?_;rintro e w1 ⟨rfl,h1,m1⟩;have hN:tF w b q1 w1:=⟨h1,(dU.o.mono (λ_ _ h=>h.elim)).trans m1⟩
 obtain⟨N0,hF1⟩:=HFW.o w1 hN;obtain⟨oF2,cF2,oC2,cC2,hv,hrow,sZ⟩:=G5 hF1;cases hv;obtain⟨gF,rfl,f0,f1⟩:=aaf hrow;have Zk:=ai f0;have HF1:=ai f1;have MI:=ai sZ;have HO:=ai N0;have HN:=ai hN;have x1:=(HB0.o.ae m1 Oc.o).c1;clear h1 m1 hN N0 hF1 hrow sZ f0 f1 HB0 fQ HFW H2 dU;generalize f.code=code at *;generalize T f.name=nm at *;go_wp2_with fail;clear x1;go_loopg [4,15] 1 (λq lv iv wx=>lv=vI lf/\((iv=vI 0/\aa ah w1 wx/\q=1)\/(iv=vI 1/\aa ah w1 wx/\q=0)))
 case atStart=>exact⟨rfl,.inl ⟨rfl,aA,rfl⟩⟩
 case round =>
  rcases hrel with⟨rfl,⟨rfl,hm,rfl⟩ |⟨rfl,hm,rfl⟩⟩
  ·have f0:=je hm Zk.o;have f1:=je hm HF1.o;go_wp2_with fail;have eH:=ai (hm.alloc (.cells #[eI nm,eK oC2 (ee code) cC2] 109));have HB3:=ai (ak.new wr #[eI nm,eK oC2 (ee code) cC2] 109);generalize wr.alloc (.cells #[eI nm,eK oC2 (ee code) cC2] 109)=w2 at *;generalize wr.heap.size=F at *;clear f0 f1 hm;go_loopg [4,7,23] (ee code) (λq lv sv iv wx=>lv=vI lf/\∃(j:Nat) (s:Int),iv=vI j/\sv=vI s/\0<=s/\s<=j*100/\aa ah w1 wx/\ak wx F #[eI nm,eK oC2 (ee code) cC2] 109/\j<=ee code/\q=ee code-j)
   case atStart=>exact⟨rfl,0,0,rfl,rfl,by omega,by omega,eH.o,HB3.o,Nat.zero_le _,rfl⟩
   case round =>
    clear eH HB3;obtain⟨rfl,j,s,rfl,rfl,hs0,hs1,hm,hbk,hj,rfl⟩:=hrel;by_cases hjl:j<ee code
    ·obtain⟨g,rfl,hg,y0,y1,y2,y3,y4,y5,y6,y7⟩:=oK (MI.o.ae hm (λ_ _=>id)) rfl rfl j hjl;have hx:=AY.o code[j] (List.getElem_mem hjl);have Bz:=ai (DC (HO.o.ae hm) code[j] hx);have tN:af (∀w',aa ah wr w'->w'.cell? ⟨bs[code[j].k]?.getD 0,2,none⟩=some (vI code[j].o.slots)/\w'.cell? ⟨g,j*8,none⟩=some (vP (bs[code[j].k]?.getD 0))):=λw' m=>⟨(lT (HO.o.ae (hm.trans m)) code[j] hx.1.k).cells.1,je m y0⟩
     have hsl:=Fp code[j] hx.1;have z1:=hbk.c1;have EJ:=ai hm;have HBr:=ai hbk;clear hm hbk hx;generalize code[j].o.slots=sn at *;generalize code[j].jump=jmp at *;generalize code[j].d=xd at *;generalize code[j].s=xs at *;generalize code[j].num=xn at *;generalize code[j].high=xh at *;generalize T code[j].name=xm at *;generalize bs[code[j].k]?.getD 0=bo at *;go_wp2_with fail;refine Bz.o.mono ?_;rintro e w5 ⟨rfl,m5⟩;obtain⟨u2,u0⟩:=tN.o w5 m5;have jK:=ai (EJ.o.trans m5);have jr:=ai (HBr.o.ae m5 id);clear m5 y0 y1 y2 y3 y4 y5 y6 y7 z1 Bz EJ HBr tN;go_wp2_with fail;go_roundg (ee code-(j+1))
     case measure=>omega
     case rel=>exact⟨rfl,j+1,s+sn,by go_num,by go_num,by omega,by push_cast;omega,jK.o,jr.o,by omega,rfl⟩
    ·go_wp2_with fail;go_roundg 0
     case measure=>omega
     case rel=>exact⟨rfl,.inr ⟨by go_num,hm,rfl⟩⟩
  ·have HNr:=ai (HN.o.quiet hm);have e:((lf:Int)==0)=decide (lf=0):=by rw[Bool.eq_iff_iff];simp
   clear hm;go_wp2_with fail;refine(dZ b q1 (decide (lf=0)) wr HNr.o.rd).mono ?_;rintro e w7 ⟨rfl,h7,m7⟩;have HN7:=ai (HNr.o.read h7 m7);clear h7 m7 HNr;go_wp2_with fail;go_end0;exact⟨rfl,HN7.o.rd,HN7.o.md⟩
theorem J5(w:tW)(tv:Value)(bs:tLN)(s:tBA)(d:List aW×List cZ×PR)(HD:af (∀w',aa ah w w'->Calls prog 74 #[tv,vI 1,eI s,.func (.func 152) #[] #[]] w' λe w''=>vX w' bs d e w'')):Calls prog 65 #[tv,eI s] w λe w'=>vX w bs d e w':=by
 have hB:=ak.new w #[vN,vN] 99;have HB:=ai hB;clear hB;go_in;go_wp2_with fail;refine(HD.o _ aq).mono ?_;rintro e w1 ⟨vM,vF,vs,rfl,m1,⟨oM,nM,cM,oF,nF,cF,rfl,rfl⟩,hgood⟩;have hB1:=HB.o.ae m1 id;have HB1:=ai hB1;have g0:=hB1.c0;have g1:=hB1.c1;have fg:=hB1.frozen;have dB:=ai (aq.trans m1);have HG:af _:=hgood;clear m1 hB1 hgood;have gu:af (aa (Only w.heap.size) w1 ((w1.setCell ⟨w.heap.size,0,none⟩ (eK oM nM cM)).setCell ⟨w.heap.size,1,none⟩ (eK oF nF cF))):=(aA.bz _ _).bz _ _;have KP:af (ak ((w1.setCell ⟨w.heap.size,0,none⟩ (eK oM nM cM)).setCell ⟨w.heap.size,1,none⟩ (eK oF nF cF)) w.heap.size #[eK oM nM cM,eK oF nF cF] 99):=(HB1.o.set 0 _).set 1 _;go_wp2_with fail;refine bodyPost_ret (aw results65 _ _ w.heap.size 99 _ (0,0) _ (.bool (!d.2.2.bad)) rfl rfl KP.o underlying99 rfl (by kernel_rfl)) rfl ?_;refine⟨eK oM nM cM,eK oF nF cF,vs,rfl,dB.o.step gu.o (λi hi e=>by have:i=w.heap.size:=e;omega),⟨_,_,_,_,_,_,rfl,rfl⟩,λhb=>?_⟩;obtain⟨hM,hF⟩:=HG.o hb;have hws:(w.alloc (.cells #[vN,vN] 99)).heap.size=w.heap.size+1:=by simp
 rw[hws]at hF;exact⟨hM.ae gu.o (λk hk e=>hM.ay HB1.o (by decide) (hk.trans (congrArg some e))),(hF.ae gu.o (λk hk e=>by have:=hF.own k hk;have:k=w.heap.size:=e;omega) (λu hu k hk e=>by have:=hF.rR u hu k hk;have:k=w.heap.size:=e;omega)).lower (by omega)⟩
