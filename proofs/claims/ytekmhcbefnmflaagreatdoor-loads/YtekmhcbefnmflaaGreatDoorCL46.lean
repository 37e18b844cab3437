import Derived.Test.YtekmhcbefnmflaaGreatDoorCL57
import Derived.Test.YtekmhcbefnmflaaGreatDoorCL38
import Derived.Test.YtekmhcbefnmflaaGreatDoorCL44
import Derived.Test.YtekmhcbefnmflaaGreatDoorCL42
import Derived.Test.YtekmhcbefnmflaaGreatDoorCL45
namespace Go.Proofs.YtekmhcbefnmflaaGreatDoor
open Go.RowKit Tryz
open List renaming length_map->ab,take_of_length_le->ao,getElem_mem->b5,not_mem_nil->b9,length->ee
open Nat renaming zero_le->an,le_refl->bh
open Option renaming isSome_none->ar,getD_none->bt,none->ez,some->eC
open Bool renaming true->eJ,false->eE
open Ending renaming returned->fR
open Obj renaming cells->eR
open Value renaming slice->eK,string->eI,tuple->gb,agg->fW
open _root_.Go renaming Value->eM,Calls->fL,info_parts->lO,maxLen->fX,Addr->ju
set_option linter.all false
set_option maxRecDepth 100000
set_option maxHeartbeats 2000000
set_option linter.all false
theorem XK{c1:eM}{mp:Nat}{vF vM:eM}{fs:List cZ}{cg:tLN}{w:tW}(hb:ak w mp #[vJ 0,c1,vF,vM] 79)(hl:ee cg=ee fs)(hf:Sl w 82 2 vF (ee fs) ((fs.zip cg).flatMap Fq))(hn:ee fs<=1000):fL prog 14 #[pt mp] w λe w'=>∃v,e=fR v/\Sl w' 9 1 v (ee fs) (kE (fs.map (·.name)))/\aa (Only mp) w w':=by
 obtain⟨iS,hiS,hzS,hsS,hbS⟩:=lO Cb;have GH:=ai (Go.MuLone.lock_free Kl ⟨mp,0,ez⟩ w (hb.cell 0) (hb.frozen 0));have HMO:af (aa (Only mp) w (w.setCell ⟨mp,0,ez⟩ (vJ 1))):=aA.bz 0 _;have ZF:af (ak (w.setCell ⟨mp,0,ez⟩ (vJ 1)) mp #[vJ 1,c1,vF,vM] 79):=hb.set 0 _;have HF:=ai (hf.ae HMO.o (λk hk e=>hf.ay hb (by decide) (hk.trans (congrArg eC e))));obtain⟨oF,cF,qi,_⟩:=hf.view;subst qi;clear hf hb;obtain⟨N,hN⟩:∃N,N=ee fs:=⟨_,rfl⟩
 have LX:=ai hN;have Q1:af (ee (fs.map (·.name))=N):=by unfold af;rw[ab,hN]
 have HC:=ai hl;clear hl;rw[<-hN]at hn ZF ⊢;have Zk:af (Sl (w.setCell ⟨mp,0,ez⟩ (vJ 1)) 82 2 (eK oF N cF) (ee fs) ((fs.zip cg).flatMap Fq)):=by unfold af;rw[hN];exact HF.o
 clear HF;go_enter_defers func14,ntmps14;go_upto_region 1 with fail;go_wp2_with fail;refine GH.o.mono ?_;rintro e w2 ⟨rfl,rfl⟩;clear GH;generalize w.setCell ⟨mp,0,ez⟩ (vJ 1)=W at *;have y2:=ZF.o.c2;have HF:=Zk;clear Zk;clear hN;go_upto_region 4 with fail;go_upto_block 0 with fail;clear y2;go_wp2_with fail;go_loopg [3,18] 1001 (λq v iv wx=>∃(k:Nat),iv=vI k/\tC W wx v ((fs.map (·.name)).take k)/\k<=N/\q=1001-k)
 case atStart=>exact⟨0,rfl,tC.nil aA,an _,rfl⟩
 case round =>
  obtain⟨k,rfl,hS,hkn,rfl⟩:=hrel;have hlk:ee ((fs.map (·.name)).take k)=k:=by rw[List.length_take,Q1.o];omega
  obtain⟨o1,c1',rfl,_⟩:=hS.view;rw[hlk]at hS;rw[hlk];have HS:=ai hS;clear hS;by_cases hlt:k<N
  ·have hko:k<ee fs:=by rw[<-LX.o];exact hlt
   obtain⟨gF,ho,y0,y1⟩:=adI HC.o (HF.o.ae HS.o.md (λ_ _=>id)) k hko (by rw[HC.o];exact hko);subst ho;have Ww:af ((fs.map (·.name)).take (k+1)=(fs.map (·.name)).take k++[fs[k].name]):=by unfold af;rw[List.take_succ_eq_append_getElem (by rw[Q1.o];exact hlt),List.getElem_map]
   generalize fs[k].name=nk at *;generalize aL fs[k].code=sk at *;generalize cg[k]'_=ck at *;clear hko HF LX;go_upto_region 7 with fail;have HS2:af (tC W (wr.alloc (eR #[eI (T nk),eK (eC ⟨ck,0,ez⟩) sk sk] 82)) (eK o1 k c1') ((fs.map (·.name)).take k)):=HS.o.quiet aq;have z0:(wr.alloc (eR #[eI (T nk),eK (eC ⟨ck,0,ez⟩) sk sk] 82)).cell? ⟨wr.heap.size,0,ez⟩=eC (eI (T nk)):=(ak.new wr _ _).cell 0;clear y0 y1 HS;generalize wr.alloc (eR #[eI (T nk),eK (eC ⟨ck,0,ez⟩) sk sk] 82)=w2 at *;have VL:af (tC W (w2.alloc (eR #[eI (T nk)] 9)) (eK o1 k c1') ((fs.map (·.name)).take k)):=HS2.o.quiet aq;have hsl:Sl (w2.alloc (eR #[eI (T nk)] 9)) 9 1 (eK o1 k c1') k (kE ((fs.map (·.name)).take k)):=by have:=VL.o.sl;rw[hlk]at this;exact this
   have tN:=ai hsl;clear hsl;go_wp2_with (at_builtin;refine aP _ rfl (.tmp 22) (.tmp 25) 29 rfl 9 iS (eI ByteArray.empty) 1 16 underlying29 hiS hzS hsS hbS rfl (by decide) (eK o1 k c1') k (kE ((fs.map (·.name)).take k)) rfl tN.o ⟨w2.heap.size,0,ez⟩ 1 1 (#[eI (T nk)]:tAV).toList rfl rfl (aY w2 #[eI (T nk)] 9 _ rfl) (by simp[Value.oneCell']) (by unfold fX;omega) (by omega) ?_;intro v5 w5 s5 m5 l5;obtain⟨o5,c5,hv5,_⟩:=s5.view;subst hv5);have Yd:af (tC W w5 (eK o5 (k+1) c5) ((fs.map (·.name)).take (k+1))):=by unfold af;rw[Ww.o];exact VL.o.app (by rw[hlk];exact s5) m5 l5
   clear s5 m5 l5 VL HS2 tN z0;go_roundg (1001-(k+1))
   case measure=>omega
   case rel=>exact⟨k+1,by go_num,Yd.o,by omega,rfl⟩
  ·have hkk:k=N:=by omega
   have HE:af ((fs.map (·.name)).take k=fs.map (·.name)):=ao (by rw[Q1.o];omega);rw[HE.o]at HS;subst hkk;have tN:af (Sl wr 9 1 (eK o1 k c1') k (kE (fs.map (·.name)))):=by have:=HS.o.sl;rw[Q1.o]at this;exact this
   have HB2:=ai (ZF.o.ae HS.o.md id);have afQ:=ai (HMO.o.trans (HS.o.md.mono (λ_ _ h=>h.elim)));clear HS HF ZF HMO;go_wp2_with fail;refine leaves_cons (f:=21) (args:=#[vP mp]) (by simp) (by simp[go_sem]) ?_;refine(Go.MuLone.unlock_deferred Kl ⟨mp,0,ez⟩ .returning wr (HB2.o.cell 0) (HB2.o.frozen 0)).mono ?_;rintro e u' w5 ⟨rfl,rfl,rfl⟩;have mU:aa (Only mp) wr (wr.setCell ⟨mp,0,ez⟩ (vJ 0)):=(aa.refl (Only mp) wr).bz 0 _;exact⟨eK o1 k c1',results_tmp results14 _ _ _,eK o1 k c1',rfl,tN.o.ae mU (λq hq e=>tN.o.ay HB2.o (by decide) (hq.trans (congrArg eC e))),afQ.o.trans mU⟩
theorem Tk{c1:eM}{mp sb:Nat}{vF vM:eM}{fs:List cZ}{cg:tLN}{w:tW}(hb:ak w mp #[vJ 0,c1,vF,vM] 79)(hl:ee cg=ee fs)(hf:Sl w 82 2 vF (ee fs) ((fs.zip cg).flatMap Fq))(hn:ee fs<=1000)(hsb:ak w sb #[pt mp] 63):fL prog 6 #[pt sb] w λe w'=>∃v,e=fR v/\Sl w' 9 1 v (ee fs) (kE (fs.map (·.name)))/\aa (Only mp) w w':=by
 have HF:=ai (XK hb hl hf hn);have x0:=hsb.c0;clear hb hl hf hsb;go_in;go_wp2_with fail;refine HF.o.mono ?_;rintro e w1 ⟨v,rfl,s,m⟩;have HR:af (∃v',Ending.returned v=fR v'/\Sl w1 9 1 v' (ee fs) (kE (fs.map (·.name)))/\aa (Only mp) w w1):=⟨v,rfl,s,m⟩
 obtain⟨o,c,rfl,_⟩:=s.view;clear s m HF x0;go_wp2_with fail;go_ret;exact HR.o
set_option linter.all false
def NG:tLB:=[109,97,112,32,109,32,49,32,49,32,49,10,102,117,110,99,32,109,97,105,110,10,109,111,118,32,114,48,44,32,50,10,109,117,108,32,114,48,44,32,50,49,10,101,120,105,116]
theorem NH(w:tW)(ob im:tBA)(hA:fL prog 8 #[eI (T NG)] w λe w'=>∃n:Int,e=fR (gb #[eI ob,vI 0,vI n])/\aa ah w w')(hK:∀w1 g,aa ah w w1->ak w1 g #[eI ob] 9->fL prog 9 #[eK (eC ⟨g,0,ez⟩) 1 1] w1 λe w2=>∃a:Int,e=fR (gb #[eI im,vI 0,vI a])/\aa ah w1 w2)(hL:∀w1,aa ah w w1->fL prog 10 #[eI im] w1 λe w2=>∃sb,e=fR (gb #[vP sb,vI 0])/\fL prog 11 #[vP sb,eI ⟨#[109,97,105,110]⟩,eI ⟨#[]⟩,vI 9] w2 λe w3=>∃(vL:eM) (f:tBA) (sl:Nat) (i:tBA),e=fR (fW #[vI 0,eI f,vI sl,vU 42,eI i,vL,vI 3])/\(∃o n c,vL=eK o n c)/\aa ah w w3):fL prog 4 #[] w λe w'=>e=fR (.bool eJ)/\aa ah w w':=by have HA:=ai hA;have HK:=ai hK;have HL:=ai hL;have HT:af ((⟨#[109,97,112,32,109,32,49,32,49,32,49,10,102,117,110,99,32,109,97,105,110,10,109,111,118,32,114,48,44,32,50,10,109,117,108,32,114,48,44,32,50,49,10,101,120,105,116]⟩:tBA)=T NG):=rfl;clear hA hK hL;go_in;go_wp2_with fail;rw[HT.o];refine HA.o.mono ?_;rintro e w1 ⟨n,rfl,m1⟩;have dB:=ai (m1.alloc (eR #[eI ob] 9));have HB1:=ai (ak.new w1 #[eI ob] 9);clear m1 HA;go_wp2_with fail;refine(HK.o _ _ dB.o HB1.o).mono ?_;rintro e w2 ⟨a,rfl,m2⟩;have dV:=ai (dB.o.trans m2);clear m2 HK HB1 dB;go_wp2_with fail;refine(HL.o _ dV.o).mono ?_;rintro e w3 ⟨sb,rfl,hR⟩;have HR:=ai hR;clear hR HL dV;go_wp2_with fail;refine HR.o.mono ?_;rintro e w4 ⟨vL,f,sl,i,rfl,⟨oL,nL,cL,rfl⟩,m4⟩;have jh:=ai m4;clear m4 HR;go_wp2_with fail;go_ret;exact⟨rfl,jh.o.alloc _⟩
set_option linter.all false
def aaF(s:tLB)(m:aW)(f:cZ):Prop:=∃q,lZ 1 s=([m],[f],q)/\az ((az (decide ((kR q).1=0)) (kR q).2).rest==[]) (az (decide ((kR q).1=0)) (kR q).2)=⟨[],eE⟩
theorem KK(w:tW)(wT:tW)(tv:eM)(bs:tLN)(hT:aT 0 wT tv bs ax)(mT:aa ah wT w)(s:tLB)(hs:ee s<=fX)(pm:aW)(f:cZ)(hf:aaF s pm f)(hr:∀x∈f.code,x.aJ=0):fL prog 65 #[tv,eI (T s)] w λe w'=>vX w bs ([pm],[f],⟨[],eE⟩) e w':=by obtain⟨q,h1,h2⟩:=hf;refine J5 w tv bs (T s) _ (λw' m=>?_);have:=J3 1 152 (enters_of func152 (by kernel_rfl) rfl) w' wT tv bs hT (mT.trans m) s hs (az (decide ((kR q).1=0)) (kR q).2) (λhb w b o1 c1 vF vs h m hbT hF=>by rw[h1]at h hF hb ⊢;exact RX wT w tv bs hT m b hbT q h hb.2.2.2 o1 _ c1 vF vs f hF (hb.2.2.1 f (by simp)) hr);rw[h1,h2]at this;exact this
set_option linter.all false
structure LM where
 gP:Nat
 cP:Nat
 a1:Option ju
 a2:Nat
 gF:Nat
 cF:Nat
 oC:Option ju
 cC:Nat
 nm:tLB
 code:List PI
 pm:aW
structure NI(tv:eM)(bs:tLN)(d:LM)(w:tW):Prop where
 ops:aT 0 w tv bs ax
 p0:w.cell? ⟨d.gP,0,ez⟩=eC (eK d.a1 1 d.a2)
 p1:w.cell? ⟨d.gP,1,ez⟩=eC (eK (eC ⟨d.gF,0,ez⟩) 1 d.cF)
 mp:Sl w 113 4 (eK d.a1 1 d.a2) 1 d.pm.cells
 fn:Sl w 109 2 (eK (eC ⟨d.gF,0,ez⟩) 1 d.cF) 1 [eI (T d.nm),eK d.oC (ee d.code) d.cC]
 cd:Sl w 141 8 (eK d.oC (ee d.code) d.cC) (ee d.code) (kI bs d.code)
 ok:∀x∈d.code,kz x/\x.aJ=0
 ln:ee d.code<=200
section
variable {tv : eM} {bs : List Nat} {d : LM} {w w' : World}
theorem NI.quiet(h:NI tv bs d w)(m:aa ah w w'):NI tv bs d w':=⟨h.ops.ae m,je m h.p0,je m h.p1,h.mp.ae m (λ_ _=>id),h.fn.ae m (λ_ _=>id),h.cd.ae m (λ_ _=>id),h.ok,h.ln⟩
theorem NI.row(h:NI tv bs d w):w.cell? ⟨d.gF,0,ez⟩=eC (eI (T d.nm))/\w.cell? ⟨d.gF,1,ez⟩=eC (eK d.oC (ee d.code) d.cC):=by obtain⟨g,e,h1,h2⟩:=aaf h.fn;cases e;exact⟨h1,h2⟩
end
theorem Es:(prog.info? 99).map (λi=>(i.zero,i.size,i.bytes))=eC (eC (fW #[vN,vN]),2,48):=by kernel_rfl
theorem ad5(w:tW)(hE:xG w)(g cap:Nat)(s:tLB)(hg:w.cell? ⟨g,0,ez⟩=eC (eI (T s)))(hs:ee s<=fX)(pm:aW)(f:cZ)(hf:aaF s pm f)(hr:∀x∈f.code,x.aJ=0)(hl:ee f.code<=200):fL prog 28 #[eK (eC ⟨g,0,ez⟩) 1 cap] w λe w'=>∃(tv:eM) (bs:tLN) (d:LM),(d.nm=f.name/\d.code=f.code/\d.pm=pm)/\e=fR (eK (eC ⟨d.gP,0,ez⟩) 1 d.cP)/\NI tv bs d w'/\aa ah w w':=by
 obtain⟨iP,hiP,sK,hsP,wJ⟩:=lO Es;have HG:=ai hg;have HTB:=ai (zP w hE);have HD:=ai (λwT w1 tv bs hT mT=>KK w1 wT tv bs hT mT s hs pm f hf hr);have AY:af (∀w' lo bs v vs,xN w' lo bs v [f] vs->∀x∈f.code,kz x/\x.aJ=0):=λw' lo bs v vs h x hx=>⟨h.ok f (by simp) x hx,hr x hx⟩
 clear hE hg hs hf hr;generalize T s=sk at *;go_in;go_wp2_with fail;refine HTB.o.mono ?_;rintro e wT ⟨tv,bs,rfl,hT,mT⟩;have HT:=ai hT;have TI:=ai mT;obtain⟨oT,cT,hvT,_⟩:=hT.sl.view;clear hT mT HTB;subst hvT;go_wp2_with fail;go_loopg [4,12] 1 (λq ov iv wx=>(iv=vI 0/\ov=vN/\aa ah wT wx/\q=1)\/(iv=vI 1/\(∃d:LM,(d.nm=f.name/\d.code=f.code/\d.pm=pm)/\ov=eK (eC ⟨d.gP,0,ez⟩) 1 d.cP/\NI (eK oT (ee bs) cT) bs d wx)/\aa ah wT wx/\q=0))
 case atStart=>exact .inl ⟨rfl,rfl,aA,rfl⟩
 case round =>
  rcases hrel with⟨rfl,rfl,hm,rfl⟩ |⟨rfl,⟨d,h1,rfl,h3⟩,hm,rfl⟩
  ·have c0:=je (TI.o.trans hm) HG.o;have HDr:=ai (HD.o wT wr _ bs HT.o hm);have EJ:=ai hm;clear hm HD;go_wp2_with fail;refine HDr.o.mono ?_;rintro e w2 ⟨vM,vF,vs,rfl,m2,_,hok⟩;obtain⟨hsm,hfn⟩:=hok rfl;obtain⟨oF,cF,oC,cC,rfl,hrow,sZ⟩:=G5 hfn;obtain⟨a1,a2,rfl,_⟩:=hsm.view;have hsm:Sl w2 113 4 (eK a1 1 a2) 1 pm.cells:=by simpa using hsm
   simp only[List.length_cons,List.length_nil,Nat.zero_add];have m3:aa ah w2 ((w2.alloc (eR #[eK a1 1 a2,eK oF 1 cF] 99)).alloc (eR #[eK a1 1 a2,eK oF 1 cF] 99)):=aq.alloc _;have eH:=ai (EJ.o.trans (m2.trans m3));have Jn:=ai (hsm.ae m3 (λ_ _=>id));have HRW:=ai (hrow.ae m3 (λ_ _=>id));have MI:=ai (sZ.ae m3 (λ_ _=>id));have afR:=ai (AY.o _ _ _ _ _ hfn);clear hok hsm hfn hrow sZ m2 m3 HDr c0;go_wp2_with (at_builtin;refine aP _ rfl (.tmp 24) (.tmp 26) 101 rfl 99 iP (fW #[vN,vN]) 2 48 underlying101 hiP sK hsP wJ rfl (by decide) (vN) 0 [] rfl (Sl.nil _ _ _) ⟨w2.heap.size+1,0,ez⟩ 1 1 [eK a1 1 a2,eK oF 1 cF] rfl rfl (aY _ _ _ _ (by simp)) (λu hu=>by simp at hu;rcases hu with rfl|rfl<;>rfl) (by unfold fX;omega) (by omega) ?_;intro v5 w5 s5' m5' l5;have s5:Sl w5 99 2 v5 1 [eK a1 1 a2,eK oF 1 cF]:=s5';have m5:aa ah _ w5:=m5'.mono (λ_ _ e=>by cases e);clear s5' m5');obtain⟨o5,c5,rfl,h5⟩:=s5.view;obtain⟨gP,cs,rfl,hb,ht,_⟩:=h5 (by omega);obtain⟨gF,rfl,_,_⟩:=aaf HRW.o;have jK:=ai (eH.o.trans m5);have HLA:af (NI (eK oT (ee bs) cT) bs ⟨gP,c5,a1,a2,gF,cF,oC,cC,f.name,f.code,pm⟩ w5):=⟨HT.o.ae jK.o,aX hb ht 0 (by omega),aX hb ht 1 (by omega),Jn.o.ae m5 (λ_ _=>id),HRW.o.ae m5 (λ_ _=>id),MI.o.ae m5 (λ_ _=>id),afR.o,hl⟩
   clear s5 m5 l5 h5 hb ht Jn HRW MI eH;go_roundg 0
   case measure=>omega
   case rel=>exact .inr ⟨by go_num,⟨_,⟨rfl,rfl,rfl⟩,rfl,HLA.o⟩,jK.o,rfl⟩
  ·have Zz:=ai (TI.o.trans hm);have HLA:=ai h3;have HEQ:=ai h1;clear hm h1 h3 HD;go_wp2_with fail;go_ret;exact⟨_,bs,d,HEQ.o,rfl,HLA.o,Zz.o⟩
theorem ack{tv:eM}{bs:tLN}{d:LM}{w:tW}(h:NI tv bs d w):fL prog 67 #[eK (eC ⟨d.gP,0,ez⟩) 1 d.cP] w λe w'=>e=fR (vI (-1))/\aa ah w w':=by
 have HL:=ai h;have HS0:=ai (MapOf.new w);have dU:af (aa ah w (w.alloc (.map #[] 0))):=aq;clear h;obtain⟨gP,cP,a1,a2,gF,cF,oC,cC,nm,code,pm⟩:=d;have hmm:=@run_makeMap prog;go_in;go_wp2_with fail;clear hmm;generalize w.alloc (.map #[] 0)=wB at *;obtain⟨B,hB⟩:∃B,B=w.heap.size:=⟨_,rfl⟩
 have HB:af (w.heap.size<=B):=by rw[hB];exact bh _
 rw[<-hB]at HS0
 try rw[<-hB]
 clear hB;go_loopg [13] 1 (λq iv wx=>(iv=vI 0/\MapOf wx B (λ_=>ez)/\aa ah w wx/\q=1)\/(iv=vI 1/\aa ah w wx/\q=0))
 case atStart=>exact .inl ⟨rfl,HS0.o,dU.o,rfl⟩
 case round =>
  clear HS0 dU;rcases hrel with⟨rfl,hs,hm,rfl⟩ |⟨rfl,hm,rfl⟩
  ·have c0:=(HL.o.quiet hm).p0;have c1:=(HL.o.quiet hm).p1;simp only at c0 c1;go_wp2_with fail;have dB:=ai (hm.alloc (eR #[eK a1 1 a2,eK (eC ⟨gF,0,ez⟩) 1 cF] 99));have yJ:af (MapOf (wr.alloc (eR #[eK a1 1 a2,eK (eC ⟨gF,0,ez⟩) 1 cF] 99)) B (λ_=>ez)):=hs.ae ((aa.refl ah _).alloc _) id;generalize wr.alloc (eR #[eK a1 1 a2,eK (eC ⟨gF,0,ez⟩) 1 cF] 99)=w1 at *;clear c0 c1 hs hm;go_loopg [21] 1 (λq iv wx=>(iv=vI 0/\MapOf wx B (λ_=>ez)/\aa ah w wx/\q=1)\/(iv=vI 1/\aa ah w wx/\q=0))
   case atStart=>exact .inl ⟨rfl,yJ.o,dB.o,rfl⟩
   case round =>
    clear yJ dB;rcases hrel with⟨rfl,hs,hm,rfl⟩ |⟨rfl,hm,rfl⟩
    ·obtain⟨f0,f1⟩:=(HL.o.quiet hm).row;simp only at f0 f1;have hF7:=(ak.new wr #[.string (T nm),.slice oC (ee code) cC] 109).c0;have hs2:MapOf (wr.alloc (eR #[eI (T nm),eK oC (ee code) cC] 109)) B (λ_=>ez):=hs.ae ((aa.refl ah _).alloc _) id;have hlk:=hs2.lookup (P:=prog) (t:=88) underlying88 underlying9 (zeroValue3 _) (T nm);obtain⟨w5,ZG,_,m5⟩:=hs2.update (P:=prog) (t:=88) underlying88 underlying9 (T nm) (vI 0);have jK:=ai ((hm.alloc _).step m5 (λb hb e=>by have:=HB.o;omega));simp only[bt,ar]at hlk;clear hs hs2 hm m5;go_wp2_with fail;go_roundg 0
     case measure=>omega
     case rel=>exact .inr ⟨by go_num,jK.o,rfl⟩
    ·go_wp2_with fail;go_roundg 0
     case measure=>omega
     case rel=>exact .inr ⟨by go_num,hm,rfl⟩
  ·go_wp2_with fail;go_ret;exact⟨rfl,hm⟩
theorem ad6{w:tW}{o:Option ju}{c:Nat}{m:aW}(h:Sl w 113 4 (eK o 1 c) 1 m.cells):∃g,o=eC ⟨g,0,ez⟩/\w.cell? ⟨g,0,ez⟩=eC (eI (T m.name))/\w.cell? ⟨g,1,ez⟩=eC (vB m.key)/\w.cell? ⟨g,2,ez⟩=eC (vB m.value)/\w.cell? ⟨g,3,ez⟩=eC (vB m.entries):=by obtain⟨o',c',hv,h2⟩:=h.view;cases hv;obtain⟨g,cs,rfl,hb,ht,_⟩:=h2 (by omega);exact⟨g,rfl,aX hb ht 0 (by omega),aX hb ht 1 (by omega),aX hb ht 2 (by omega),aX hb ht 3 (by omega)⟩
theorem acm{tv:eM}{bs:tLN}{d:LM}{w:tW}(h:NI tv bs d w):fL prog 68 #[eK (eC ⟨d.gP,0,ez⟩) 1 d.cP] w λe w'=>e=fR (vI (-1))/\aa ah w w':=by
 have HL:=ai h;have HS0:=ai (MapOf.new w);have dU:af (aa ah w (w.alloc (.map #[] 0))):=aq;clear h;obtain⟨gP,cP,a1,a2,gF,cF,oC,cC,nm,code,pm⟩:=d;have hmm:=@run_makeMap prog;go_in;go_wp2_with fail;clear hmm;generalize w.alloc (.map #[] 0)=wB at *;obtain⟨B,hB⟩:∃B,B=w.heap.size:=⟨_,rfl⟩
 have HB:af (w.heap.size<=B):=by rw[hB];exact bh _
 rw[<-hB]at HS0
 try rw[<-hB]
 clear hB;go_loopg [13] 1 (λq iv wx=>(iv=vI 0/\MapOf wx B (λ_=>ez)/\aa ah w wx/\q=1)\/(iv=vI 1/\aa ah w wx/\q=0))
 case atStart=>exact .inl ⟨rfl,HS0.o,dU.o,rfl⟩
 case round =>
  clear HS0 dU;rcases hrel with⟨rfl,hs,hm,rfl⟩ |⟨rfl,hm,rfl⟩
  ·have c0:=(HL.o.quiet hm).p0;have c1:=(HL.o.quiet hm).p1;simp only at c0 c1;go_wp2_with fail;have dB:=ai (hm.alloc (eR #[eK a1 1 a2,eK (eC ⟨gF,0,ez⟩) 1 cF] 99));have yJ:af (MapOf (wr.alloc (eR #[eK a1 1 a2,eK (eC ⟨gF,0,ez⟩) 1 cF] 99)) B (λ_=>ez)):=hs.ae ((aa.refl ah _).alloc _) id;generalize wr.alloc (eR #[eK a1 1 a2,eK (eC ⟨gF,0,ez⟩) 1 cF] 99)=w1 at *;clear c0 c1 hs hm;go_loopg [21] 1 (λq iv wx=>(iv=vI 0/\MapOf wx B (λ_=>ez)/\aa ah w wx/\q=1)\/(iv=vI 1/\aa ah w wx/\q=0))
   case atStart=>exact .inl ⟨rfl,yJ.o,dB.o,rfl⟩
   case round =>
    clear yJ dB;rcases hrel with⟨rfl,hs,hm,rfl⟩ |⟨rfl,hm,rfl⟩
    ·obtain⟨gM,hgM,f0,f1,f2,f3⟩:=ad6 (HL.o.quiet hm).mp;simp only at hgM f0 f1 f2 f3;subst hgM;go_upto_region 8 with fail;have TF:=ai (ak.new wr #[eI (T pm.name),vB pm.key,vB pm.value,vB pm.entries] 113);have HS7:af (MapOf (wr.alloc (eR #[eI (T pm.name),vB pm.key,vB pm.value,vB pm.entries] 113)) B (λ_=>ez)):=hs.ae ((aa.refl ah _).alloc _) id;have J4:=ai (hm.alloc (eR #[eI (T pm.name),vB pm.key,vB pm.value,vB pm.entries] 113));clear f0 f1 f2 f3 hs hm;generalize wr.alloc (eR #[eI (T pm.name),vB pm.key,vB pm.value,vB pm.entries] 113)=w7 at *;generalize wr.heap.size=M7 at *;have hlk:=HS7.o.lookup (P:=prog) (t:=257) underlying257 underlying9 (zeroValue113 _) (T pm.name);simp only[bt,ar]at hlk;have b0:=TF.o.c0;go_upto_region 9 with fail;have m8:aa ah w7 (w7.alloc (eR #[eI ⟨#[]⟩,vB 0,vB 0,vB 0] 113)):=aq;have HS8:=ai (HS7.o.ae m8 id);have Gf:=ai (J4.o.trans m8);have TP:=TF.o.ae m8 id;clear hlk b0 TF HS7 J4 m8;generalize w7.alloc (eR #[eI ⟨#[]⟩,vB 0,vB 0,vB 0] 113)=w8 at *;obtain⟨w9,ZG,_,m9⟩:=HS8.o.update (P:=prog) (t:=257) underlying257 underlying9 (T pm.name) (fW #[eI (T pm.name),vB pm.key,vB pm.value,vB pm.entries]);have HM9:=ai (Gf.o.step m9 (λb hb e=>by have:=HB.o;omega));have b0:=TP.c0;have b1:=TP.c1;have b2:=TP.c2;have b3:=TP.c3;clear m9 HS8 Gf TP;go_wp2_with fail;go_roundg 0
     case measure=>omega
     case rel=>exact .inr ⟨by go_num,HM9.o,rfl⟩
    ·go_wp2_with fail;go_roundg 0
     case measure=>omega
     case rel=>exact .inr ⟨by go_num,hm,rfl⟩
  ·go_wp2_with fail;go_ret;exact⟨rfl,hm⟩
theorem ad7{tv:eM}{bs:tLN}{d:LM}{w:tW}(h:NI tv bs d w)(o1 o2:Option ju)(n1 c1 n2 c2:Nat):fL prog 69 #[eK (eC ⟨d.gP,0,ez⟩) 1 d.cP,fW #[eK o1 n1 c1,eK o2 n2 c2]] w λe w'=>e=fR (vI (-1))/\aa ah w w':=by
 have HL:=ai h;have hl:=h.ln;have dU:af (aa ah w (w.alloc (eR #[eK o1 n1 c1,eK o2 n2 c2] 99))):=aq;clear h;obtain⟨gP,cP,a1,a2,gF,cF,oC,cC,nm,code,pm⟩:=d;simp only at hl;go_in;go_wp2_with fail;generalize w.alloc (eR #[eK o1 n1 c1,eK o2 n2 c2] 99)=wB at *;go_loopg [13] 1 (λq iv wx=>(iv=vI 0/\aa ah w wx/\q=1)\/(iv=vI 1/\aa ah w wx/\q=0))
 case atStart=>exact .inl ⟨rfl,dU.o,rfl⟩
 case round =>
  clear dU;rcases hrel with⟨rfl,hm,rfl⟩ |⟨rfl,hm,rfl⟩
  ·have c0:=(HL.o.quiet hm).p0;have c1:=(HL.o.quiet hm).p1;simp only at c0 c1;go_wp2_with fail;have dB:=ai (hm.alloc (eR #[eK a1 1 a2,eK (eC ⟨gF,0,ez⟩) 1 cF] 99));generalize wr.alloc (eR #[eK a1 1 a2,eK (eC ⟨gF,0,ez⟩) 1 cF] 99)=w1 at *;clear c0 c1 hm;go_loopg [21] 1 (λq iv wx=>(iv=vI 0/\aa ah w wx/\q=1)\/(iv=vI 1/\aa ah w wx/\q=0))
   case atStart=>exact .inl ⟨rfl,dB.o,rfl⟩
   case round =>
    clear dB;rcases hrel with⟨rfl,hm,rfl⟩ |⟨rfl,hm,rfl⟩
    ·obtain⟨f0,f1⟩:=(HL.o.quiet hm).row;simp only at f0 f1;go_wp2_with fail;have eH:=ai (hm.alloc (eR #[eI (T nm),eK oC (ee code) cC] 109));generalize wr.alloc (eR #[eI (T nm),eK oC (ee code) cC] 109)=w2 at *;clear f0 f1 hm;go_loopg [28] (ee code) (λq iv wx=>∃j:Nat,iv=vI j/\aa ah w wx/\j<=ee code/\q=ee code-j)
     case atStart=>exact⟨0,rfl,eH.o,an _,rfl⟩
     case round =>
      clear eH;obtain⟨j,rfl,hm,hj,rfl⟩:=hrel;by_cases hjl:j<ee code
      ·have hLr:=HL.o.quiet hm;obtain⟨g,rfl,hg,y0,y1,y2,y3,y4,y5,y6,y7⟩:=oK hLr.cd rfl rfl j hjl;have Bz:=ai (λw' (m:aa ah wr w')=>DC (hLr.ops.ae m) code[j] (hLr.ok _ (b5 hjl)));have EJ:=ai hm;clear hLr hm;generalize code[j].jump=jmp at *;generalize code[j].d=xd at *;generalize code[j].s=xs at *;generalize code[j].num=xn at *;generalize code[j].high=xh at *;generalize T code[j].name=xm at *;generalize bs[code[j].k]?.getD 0=b at *;go_wp2_with fail;refine(Bz.o _ aq).mono ?_;rintro e w5 ⟨rfl,m5⟩;have jK:=ai ((EJ.o.alloc _).trans m5);clear m5 y0 y1 y2 y3 y4 y5 y6 y7 Bz EJ;go_wp2_with fail;go_roundg (ee code-(j+1))
       case measure=>omega
       case rel=>exact⟨j+1,by go_num,jK.o,by omega,rfl⟩
      ·go_wp2_with fail;go_roundg 0
       case measure=>omega
       case rel=>exact .inr ⟨by go_num,hm,rfl⟩
    ·go_wp2_with fail;go_roundg 0
     case measure=>omega
     case rel=>exact .inr ⟨by go_num,hm,rfl⟩
  ·go_wp2_with fail;go_ret;exact⟨rfl,hm⟩
set_option linter.all false
theorem acn{tv:eM}{bs:tLN}{d:LM}{w:tW}(h:NI tv bs d w)(o1 o2:Option ju)(n1 c1 c2:Nat)(hF:Sl w 109 2 (eK o2 1 c2) 1 [eI (T d.nm),eK d.oC (ee d.code) d.cC]):fL prog 31 #[fW #[eK o1 n1 c1,eK o2 1 c2]] w λe w'=>e=fR (gb #[])/\aa ah w w':=by
 have HL:=ai h;have hl:=h.ln;have dU:af (aa ah w (w.alloc (eR #[eK o1 n1 c1,eK o2 1 c2] 99))):=aq;obtain⟨g2,rfl,f0,f1⟩:=aaf hF;have Zk:=ai f0;have HF1:=ai f1;clear h hF f0 f1;obtain⟨gP,cP,a1,a2,gF,cF,oC,cC,nm,code,pm⟩:=d;simp only at hl Zk HF1;go_in;go_wp2_with fail;generalize w.alloc (eR #[eK o1 n1 c1,eK (eC ⟨g2,0,ez⟩) 1 c2] 99)=wB at *;go_loopg [9] 1 (λq iv wx=>(iv=vI 0/\aa ah w wx/\q=1)\/(iv=vI 1/\aa ah w wx/\q=0))
 case atStart=>exact .inl ⟨rfl,dU.o,rfl⟩
 case round =>
  clear dU;rcases hrel with⟨rfl,hm,rfl⟩ |⟨rfl,hm,rfl⟩
  ·have f0:=je hm Zk.o;have f1:=je hm HF1.o;go_wp2_with fail;have eH:=ai (hm.alloc (eR #[eI (T nm),eK oC (ee code) cC] 109));have HB3:=ai (ak.new wr #[eI (T nm),eK oC (ee code) cC] 109);generalize wr.alloc (eR #[eI (T nm),eK oC (ee code) cC] 109)=w2 at *;generalize wr.heap.size=F at *;clear f0 f1 hm;go_loopg [16] (ee code) (λq iv wx=>∃j:Nat,iv=vI j/\aa ah w wx/\ak wx F #[eI (T nm),eK oC (ee code) cC] 109/\j<=ee code/\q=ee code-j)
   case atStart=>exact⟨0,rfl,eH.o,HB3.o,an _,rfl⟩
   case round =>
    clear eH HB3;obtain⟨j,rfl,hm,hb,hj,rfl⟩:=hrel;by_cases hjl:j<ee code
    ·have hLr:=HL.o.quiet hm;obtain⟨g,rfl,hg,y0,y1,y2,y3,y4,y5,y6,y7⟩:=oK hLr.cd rfl rfl j hjl;have Bz:=ai (DC hLr.ops code[j] (hLr.ok _ (b5 hjl)));have z1:=hb.c1;have EJ:=ai hm;have HBr:=ai hb;clear hLr hm hb;generalize code[j].jump=jmp at *;generalize code[j].d=xd at *;generalize code[j].s=xs at *;generalize code[j].num=xn at *;generalize code[j].high=xh at *;generalize T code[j].name=xm at *;generalize bs[code[j].k]?.getD 0=b at *;go_wp2_with fail;refine Bz.o.mono ?_;rintro e w5 ⟨rfl,m5⟩;have jK:=ai (EJ.o.trans m5);have jr:=ai (HBr.o.ae m5 id);clear m5 y0 y1 y2 y3 y4 y5 y6 y7 z1 Bz EJ HBr;go_wp2_with fail;go_roundg (ee code-(j+1))
     case measure=>omega
     case rel=>exact⟨j+1,by go_num,jK.o,jr.o,by omega,rfl⟩
    ·go_wp2_with fail;go_roundg 0
     case measure=>omega
     case rel=>exact .inr ⟨by go_num,hm,rfl⟩
  ·go_wp2_with fail;go_end0;exact⟨rfl,hm⟩
theorem ad8{tv:eM}{bs:tLN}{d:LM}{w:tW}(h:NI tv bs d w){vM vF:eM}(hM:Sl w 113 4 vM 1 d.pm.cells)(hF:Sl w 109 2 vF 1 [eI (T d.nm),eK d.oC (ee d.code) d.cC]):ZY w tv bs vM vF [d.pm] [⟨d.nm,d.code⟩] [eK d.oC (ee d.code) d.cC] :=
 ⟨by simpa using hM,rfl,hF,λi a b=>by
  have e:i=0:=by simp at a;omega
  subst e;exact h.cd,h.ops⟩
theorem aco{tv:eM}{bs:tLN}{d:LM}{w:tW}(h:NI tv bs d w)(o1 o2:Option ju)(c1 c2:Nat)(hM:Sl w 113 4 (eK o1 1 c1) 1 d.pm.cells)(hF:Sl w 109 2 (eK o2 1 c2) 1 [eI (T d.nm),eK d.oC (ee d.code) d.cC])(hs:aL d.code<=200):fL prog 30 #[eK (eC ⟨d.gP,0,ez⟩) 1 d.cP,fW #[eK o1 1 c1,eK o2 1 c2]] w λe w'=>e=fR (gb #[vI 0,vI 0])/\aa ah w w':=by
 have H1:=ai (λw' (m:aa ah w w')=>ack (h.quiet m));have H2:=ai (λw' (m:aa ah w w')=>acm (h.quiet m));have H3:=ai (λw' (m:aa ah w w')=>ad7 (h.quiet m) o1 o2 1 c1 1 c2)
 have H4:=ai (λw' m=>by
  have e:Ap [⟨d.nm,d.code⟩]=aL d.code:=by simp[Ap]
  have:=aac w' tv bs _ _ [d.pm] [⟨d.nm,d.code⟩] _ (ad8 (h.quiet m) (hM.ae m (λ_ _=>id)) (hF.ae m (λ_ _=>id))) (by show 1<=1000;decide) (by show 1<=1000;decide) (λf hf=>by rw[List.mem_singleton.1 hf];exact⟨h.ln,λx hx=>(h.ok x hx).1⟩) (λk=>by
   cases k with
   |zero=>exact an _
   |succ k=>rw[ao (by simp),e];omega)
  rw[e,show(decide (8<[d.pm].length)||decide (16<[cZ.mk d.nm d.code].length)||decide (200<aL d.code))=eE by simp;omega]at this;exact this)
 have HB0:=ai (ak.new w #[eK o1 1 c1,eK o2 1 c2] 99);have dU:af (aa ah w (w.alloc (eR #[eK o1 1 c1,eK o2 1 c2] 99))):=aq;clear h hM hF hs;go_in;go_wp2_with fail;refine(H1.o _ dU.o).mono ?_;rintro e w1 ⟨rfl,m1⟩;have dB:=ai (dU.o.trans m1);have HB1:=ai (HB0.o.ae m1 id);clear m1 dU HB0 H1;go_wp2_with fail;refine(H2.o _ dB.o).mono ?_;rintro e w2 ⟨rfl,m2⟩;have dV:=ai (dB.o.trans m2);have HB2:=ai (HB1.o.ae m2 id);clear m2 dB HB1 H2;have y0:=HB2.o.c0;have y1:=HB2.o.c1;go_wp2_with fail;refine(H3.o _ dV.o).mono ?_;rintro e w3 ⟨rfl,m3⟩;have eH:=ai (dV.o.trans m3);have HB3:=ai (HB2.o.ae m3 id);clear m3 dV HB2 H3 y0 y1;have y0:=HB3.o.c0;have y1:=HB3.o.c1;go_wp2_with fail;refine(H4.o _ eH.o).mono ?_;rintro e w4 ⟨rfl,m4⟩;have jh:=ai (eH.o.trans m4);clear m4 eH HB3 H4 y0 y1;go_wp2_with fail;go_ret2;exact⟨rfl,jh.o⟩
theorem acp(m:aW):∀u∈m.cells,u.oneCell'=eJ:=by intro u hu;simp only[aW.cells,List.mem_cons,b9,or_false]at hu;rcases hu with rfl|rfl|rfl|rfl<;>rfl
theorem ad9(w:tW)(o:Option ju)(c:Nat):fL prog 66 #[eK o 1 c] w λe w'=>e=fR (eK o 1 c)/\w'=w:=by go_in;go_wp2_with fail;go_ret;exact⟨rfl,rfl⟩
theorem aea{tv:eM}{bs:tLN}{d:LM}{w:tW}(h:NI tv bs d w):fL prog 29 #[eK (eC ⟨d.gP,0,ez⟩) 1 d.cP] w λe w'=>∃o1 c1 o2 c2,e=fR (fW #[eK o1 1 c1,eK o2 1 c2])/\Sl w' 113 4 (eK o1 1 c1) 1 d.pm.cells/\Sl w' 109 2 (eK o2 1 c2) 1 [eI (T d.nm),eK d.oC (ee d.code) d.cC]/\aa ah w w':=by
 obtain⟨iM,hiM,hzM,hsM,hbM⟩:=lO Af;obtain⟨iF,hiF,hzF,hsF,Ia⟩:=lO xM;have HL:=ai h;have dU:af (aa ah w ((w.alloc (eR #[vN,vN] 99)).alloc (eR #[vN,vN] 99))):=aq.alloc _;have fQ:af (ak ((w.alloc (eR #[vN,vN] 99)).alloc (eR #[vN,vN] 99)) w.heap.size #[vN,vN] 99):=(ak.new w _ _).alloc _
 have HB0:af (ak ((w.alloc (eR #[vN,vN] 99)).alloc (eR #[vN,vN] 99)) (w.heap.size+1) #[vN,vN] 99):=by
  have:=ak.new (w.alloc (eR #[vN,vN] 99)) #[vN,vN] 99
  rwa [World.size_alloc]at this
 clear h;obtain⟨gP,cP,a1,a2,gF,cF,oC,cC,nm,code,pm⟩:=d;go_in;go_wp2_with fail;generalize(w.alloc (eR #[vN,vN] 99)).alloc (eR #[vN,vN] 99)=wB at *;have HBw:af (w.heap.size<=w.heap.size+1/\w.heap.size+1≠w.heap.size):=⟨by omega,by omega⟩
 have HRw:af (w.heap.size<=w.heap.size):=bh _;obtain⟨S,hS⟩:∃S,S=w.heap.size:=⟨_,rfl⟩
 have HS:=ai hS;generalize w.heap.size+1=B at *;rw[<-hS]at fQ HBw HRw;rw[<-hS];clear hS;go_loopg [8] 1 (λq iv wx=>(iv=vI 0/\ak wx B #[vN,vN] 99/\ak wx S #[vN,vN] 99/\aa ah w wx/\q=1)\/(iv=vI 1/\(∃o1 c1 o2 c2,ak wx B #[eK o1 1 c1,eK o2 1 c2] 99/\Sl wx 113 4 (eK o1 1 c1) 1 pm.cells/\Sl wx 109 2 (eK o2 1 c2) 1 [eI (T nm),eK oC (ee code) cC])/\ak wx S #[vN,vN] 99/\aa ah w wx/\q=0))
 case atStart=>exact .inl ⟨rfl,HB0.o,fQ.o,dU.o,rfl⟩
 case round =>
  clear HB0 fQ dU;rcases hrel with⟨rfl,hb,hr,hm,rfl⟩ |⟨rfl,⟨o1,c1,o2,c2,hb,hsM,hsF⟩,hr,hm,rfl⟩
  ·have c0:=(HL.o.quiet hm).p0;have c1:=(HL.o.quiet hm).p1;simp only at c0 c1;have dB:af (aa ah wr (wr.alloc (eR #[eK a1 1 a2,eK (eC ⟨gF,0,ez⟩) 1 cF] 99))):=aq;have HBp:=ai (ak.new wr #[eK a1 1 a2,eK (eC ⟨gF,0,ez⟩) 1 cF] 99);have HPn:af (B≠wr.heap.size):=λe=>by have:=hb.lt;omega
   go_upto_region 5 with fail;have Mg:=ai (hb.ae dB.o id);have HRW:=ai (hr.ae dB.o id);have GM:=ai (hm.trans dB.o);clear c0 c1 hb hr hm dB;generalize wr.alloc (eR #[eK a1 1 a2,eK (eC ⟨gF,0,ez⟩) 1 cF] 99)=W at *;generalize wr.heap.size=P at *;have Jn:af (Sl W 113 4 (eK a1 1 a2) 1 pm.cells):=(HL.o.quiet GM.o).mp;have y0:=Mg.o.c0;have y1:=HBp.o.c0;go_upto_region 6 with(at_builtin;refine oQ _ rfl (.tmp 13) (.tmp 15) 96 rfl 113 iM (fW #[eI E0,vB 0,vB 0,vB 0]) 4 24 underlying96 hiM hzM hsM hbM rfl (by decide) (vN) 0 [] rfl (Sl.nil _ _ _) (eK a1 1 a2) 1 pm.cells rfl Jn.o (acp pm) (by unfold fX;omega) (by omega) ?_;intro v5 w5 s5' m5' l5;have s5:Sl w5 113 4 v5 1 pm.cells:=s5';have m5:aa ah W w5:=m5'.mono (λ_ _ e=>by cases e);clear s5' m5';obtain⟨o5,c5,rfl,_⟩:=Sl.view s5;have y2:=(Mg.o.ae m5 id).c0;have y3:=(Mg.o.ae m5 id).frozen 0)
   have tK:af (ak (w5.setCell ⟨B,0,ez⟩ (eK o5 1 c5)) B #[eK o5 1 c5,vN] 99):=(Mg.o.ae m5 id).set 0 _;have Je:af (ak (w5.setCell ⟨B,0,ez⟩ (eK o5 1 c5)) S #[vN,vN] 99):=(HRW.o.ae m5 id).setOther (a:=⟨B,0,ez⟩) HBw.o.2 _;have HP6:af (ak (w5.setCell ⟨B,0,ez⟩ (eK o5 1 c5)) P #[eK a1 1 a2,eK (eC ⟨gF,0,ez⟩) 1 cF] 99):=(HBp.o.ae m5 id).setOther (a:=⟨B,0,ez⟩) HPn.o _;have yq:af (aa ah w (w5.setCell ⟨B,0,ez⟩ (eK o5 1 c5))):=(GM.o.trans m5).set (a:=⟨B,0,ez⟩) (.inr (by rw[<-HS.o];exact HBw.o.1)) _;have I4:af (Sl (w5.setCell ⟨B,0,ez⟩ (eK o5 1 c5)) 113 4 (eK o5 1 c5) 1 pm.cells):=s5.ae ((aa.refl (Only B) w5).bz 0 _) (λk hk e=>s5.ay (Mg.o.ae m5 id) (by decide) (by rw[<-show k=B from e];exact hk));clear y0 y1 y2 y3 s5 m5 l5 Mg HRW HBp Jn GM;generalize w5.setCell ⟨B,0,ez⟩ (eK o5 1 c5)=W6 at *;have Wt:af (Sl W6 109 2 (eK (eC ⟨gF,0,ez⟩) 1 cF) 1 [eI (T nm),eK oC (ee code) cC]):=(HL.o.quiet yq.o).fn;have y0:=tK.o.c1;have y1:=HP6.o.c1;go_upto_region 7 with(at_builtin;refine oQ _ rfl (.tmp 19) (.tmp 21) 97 rfl 109 iF (fW #[eI E0,vN]) 2 40 underlying97 hiF hzF hsF Ia rfl (by decide) (vN) 0 [] rfl (Sl.nil _ _ _) (eK (eC ⟨gF,0,ez⟩) 1 cF) 1 [eI (T nm),eK oC (ee code) cC] rfl Wt.o (Oe _ _ _ _) (by unfold fX;omega) (by omega) ?_;intro v7 w7 s7' m7' l7;have s7:Sl w7 109 2 v7 1 [eI (T nm),eK oC (ee code) cC]:=s7';have m7:aa ah W6 w7:=m7'.mono (λ_ _ e=>by cases e);clear s7' m7';obtain⟨o7,c7,rfl,_⟩:=Sl.view s7;have y2:=(tK.o.ae m7 id).c1;have y3:=(tK.o.ae m7 id).frozen 1)
   have ZV:af (ak (w7.setCell ⟨B,1,ez⟩ (eK o7 1 c7)) B #[eK o5 1 c5,eK o7 1 c7] 99):=(tK.o.ae m7 id).set 1 _;have HR8:af (ak (w7.setCell ⟨B,1,ez⟩ (eK o7 1 c7)) S #[vN,vN] 99):=(Je.o.ae m7 id).setOther (a:=⟨B,1,ez⟩) HBw.o.2 _;have Gf:af (aa ah w (w7.setCell ⟨B,1,ez⟩ (eK o7 1 c7))):=(yq.o.trans m7).set (a:=⟨B,1,ez⟩) (.inr (by rw[<-HS.o];exact HBw.o.1)) _;have mB:aa (Only B) w7 (w7.setCell ⟨B,1,ez⟩ (eK o7 1 c7)):=(aa.refl (Only B) w7).bz 1 _;have hS5:=I4.o.ae m7 (λ_ _=>id);have HS8:=ai (hS5.ae mB (λk hk e=>hS5.ay (tK.o.ae m7 id) (by decide) (by rw[<-show k=B from e];exact hk)));have HF8:=ai (s7.ae mB (λk hk e=>s7.ay (tK.o.ae m7 id) (by decide) (by rw[<-show k=B from e];exact hk)));clear y0 y1 y2 y3 s7 m7 l7 mB hS5 tK Je HP6 yq I4 Wt;generalize w7.setCell ⟨B,1,ez⟩ (eK o7 1 c7)=W8 at *;go_wp2_with fail;go_roundg 0
   case measure=>omega
   case rel=>exact .inr ⟨by go_num,⟨_,_,_,_,ZV.o,HS8.o,HF8.o⟩,HR8.o,Gf.o,rfl⟩
  ·have HB:=ai hb;have HR:=ai hr;have HM:=ai hm;have Jn:=ai hsM;have Wt:=ai hsF;have HSO:=ai (λW=>abJ W o1 o2 1 c1 1 c2 (by omega) (by omega));have y0:=hb.c0;have y1:=hb.c1;clear hb hr hm hsM hsF;go_wp2_with fail;refine(HSO.o _).mono ?_;rintro e w2 ⟨rfl,m2⟩;have HB2:=ai (HB.o.ae m2 id);have iO:=ai (HR.o.ae m2 id);have dV:=ai (HM.o.trans m2);have acq:=ai (Jn.o.ae m2 (λ_ _=>id));have acr:=ai (Wt.o.ae m2 (λ_ _=>id));clear y0 y1 m2 HB HR HM Jn Wt HSO;have y0:=HB2.o.c0;have y3:=HB2.o.frozen 0;go_wp2_with fail;refine(ad9 w2 o1 c1).mono ?_;rintro e w2 ⟨rfl,rfl⟩;go_upto_region 10 with fail;have iH:af (ak (w2.setCell ⟨B,0,ez⟩ (eK o1 1 c1)) B #[eK o1 1 c1,eK o2 1 c2] 99):=HB2.o.set 0 _;have sW:af (ak (w2.setCell ⟨B,0,ez⟩ (eK o1 1 c1)) S #[vN,vN] 99):=iO.o.setOther (a:=⟨B,0,ez⟩) HBw.o.2 _;have mB:aa (Only B) w2 (w2.setCell ⟨B,0,ez⟩ (eK o1 1 c1)):=(aa.refl (Only B) w2).bz 0 _;have jh:af (aa ah w (w2.setCell ⟨B,0,ez⟩ (eK o1 1 c1))):=dV.o.set (a:=⟨B,0,ez⟩) (.inr (by rw[<-HS.o];exact HBw.o.1)) _;have aeb:=ai (acq.o.ae mB (λk hk e=>acq.o.ay HB2.o (by decide) (by rw[<-show k=B from e];exact hk)));have aec:=ai (acr.o.ae mB (λk hk e=>acr.o.ay HB2.o (by decide) (by rw[<-show k=B from e];exact hk)));clear y0 y3 mB HB2 iO dV acq acr;generalize w2.setCell ⟨B,0,ez⟩ (eK o1 1 c1)=w4 at *;have y0:=iH.o.c0;have y1:=iH.o.c1;have y2:=sW.o.c0;have y3:=sW.o.c1;have y4:=sW.o.frozen 0;have y5:=sW.o.frozen 1;go_wp2_with fail;refine bodyPost_ret (results_cell_row results29 _ _ S 99 #[eK o1 1 c1,eK o2 1 c2] (0,0) _ rfl ((sW.o.set 0 _).set 1 _) underlying99 rfl (by kernel_rfl)) rfl ?_;have mR:aa (Only S) w4 ((w4.setCell ⟨S,0,ez⟩ (eK o1 1 c1)).setCell ⟨S,1,ez⟩ (eK o2 1 c2)):=(aA.bz _ _).bz _ _;refine⟨_,_,_,_,rfl,aeb.o.ae mR (λk hk e=>aeb.o.ay sW.o (by decide) (by rw[<-show k=S from e];exact hk)),aec.o.ae mR (λk hk e=>aec.o.ay sW.o (by decide) (by rw[<-show k=S from e];exact hk)),jh.o.step mR (λi hi e=>by have h1:i=S:=e;have:=HS.o;omega)⟩
theorem aed(w:tW)(hE:xG w)(g cap:Nat)(o:tLB)(pm:aW)(hpm:ee pm.name<=255/\pm.key<=255/\pm.value<=255/\pm.entries<=255)(f:cZ)(hg:w.cell? ⟨g,0,ez⟩=eC (eI (T o)))(ho:ee o<=fX)(hd:aaF o pm f)(hl:ee f.code<=200)(hs:aL f.code<=200)(hn:ee f.name<=255)(hr:∀x∈f.code,x.aJ=0):fL prog 16 #[eK (eC ⟨g,0,ez⟩) 1 cap] w λr w'=>r=fR (gb #[eI (T (qo 2 [pm] [f])),vI 0,vI 0])/\aa ah w w':=by
 have aee:=ai (ad5 w hE g cap o hg ho pm f hd hr hl);clear hE hg ho hd hr;go_in;go_wp2_with fail;refine aee.o.mono ?_;rintro e w1 ⟨tv,bs,d,⟨hnm,sZ,hpe⟩,rfl,hL,mT⟩;have dB:=ai mT;have HL:=ai hL;have HF:af (f=⟨d.nm,d.code⟩):=by rw[hnm,sZ];rfl
 subst hpe;have TD:=ai hpm;have tN:af (aL d.code<=200):=by rw[sZ];exact hs
 have Q1:af (ee d.nm<=255):=by rw[hnm];exact hn
 clear mT aee hL hnm sZ hs hl hn hpm;have HJ:=ai (aea HL.o);go_wp2_with fail;refine HJ.o.mono ?_;rintro e w2 ⟨o1,c1,o2,c2,rfl,hM,hFn,m2⟩;have HL2:=ai (HL.o.quiet m2);have dV:=ai (dB.o.trans m2);have Jn:=ai hM;have Wt:=ai hFn;clear hM hFn m2 HL dB HJ;have mB:aa ah w2 (w2.alloc (eR #[eK o1 1 c1,eK o2 1 c2] 99)):=aq;have HB0:=ai (ak.new w2 #[eK o1 1 c1,eK o2 1 c2] 99);have GQ:=ai mB;have HFA:=ai (aco (HL2.o.quiet mB) o1 o2 c1 c2 (Jn.o.ae mB (λ_ _=>id)) (Wt.o.ae mB (λ_ _=>id)) tN.o);clear mB;go_wp2_with fail;refine HFA.o.mono ?_;rintro e w3 ⟨rfl,m3⟩;have HB3:=ai (HB0.o.ae m3 id);have eH:=ai (GQ.o.trans m3);clear HFA HB0 GQ m3;have Bz:=ai (acn (HL2.o.quiet eH.o) o1 o2 1 c1 c2 (Wt.o.ae eH.o (λ_ _=>id)));have y0:=HB3.o.c0;have y1:=HB3.o.c1;go_wp2_with fail;refine Bz.o.mono ?_;rintro e w4 ⟨rfl,m4⟩;have iH:=ai (HB3.o.ae m4 id);have jh:=ai (eH.o.trans m4);clear Bz HB3 eH m4 y0 y1;have y0:=iH.o.c0;have y1:=iH.o.c1;have HIM:af (fL prog 32 #[fW #[eK o1 1 c1,eK o2 1 c2]] w4 λe w'=>e=fR (eI (T (qo 2 [d.pm] [f])))/\aa ah w4 w'):=by unfold af;rw[HF.o];exact aaa w4 tv bs _ _ _ _ _ (ad8 (HL2.o.quiet jh.o) (Jn.o.ae jh.o (λ_ _=>id)) (Wt.o.ae jh.o (λ_ _=>id))) ⟨(by show 1<=255;decide),(by show 1<=100;decide),λm hm=>(by rw[List.mem_singleton.1 hm];exact TD.o),λf' hf'=>by rw[List.mem_singleton.1 hf'];exact⟨Q1.o,HL2.o.ln,λx hx=>(HL2.o.ok x hx).1⟩⟩
 go_wp2_with fail;refine HIM.o.mono ?_;rintro e w5 ⟨rfl,m5⟩;have jK:=ai ((dV.o.trans jh.o).trans m5);clear HIM iH jh m5 y0 y1;go_wp2_with fail;go_ret3;exact⟨rfl,jK.o⟩
set_option linter.all false
def O6:aW:=⟨[109],1,1,1⟩
def Ec:cZ:=⟨[109,97,105,110],[⟨2,0,0,0,2,0,[]⟩,⟨14,0,0,0,21,0,[]⟩,⟨87,0,0,0,0,0,[]⟩]⟩
def knO:tLB:=Xd [O6] [Ec]
def knI:tLB:=qo 2 [O6] [Ec]
def zz(t:tLB):List fJ:=match parseP (linesP t) eE 0 []with
 |.inl ls=>ls
 |.inr _=>[]
theorem acs{t:tLB}{ms0:List aW}{fs0:List cZ}(hb:ee t<=4000)(hr:parseP (linesP t) eE 0 []=.inl (zz t))(hf:(firstP (au (zz t)) (zz t) {} 0).1=0)(hl:(linesP t).all abZ=eJ)(hs:((zz t).all λx=>x.kind != 1||(decide (0<=tO (x.ns.getD 0 aD)/\tO (x.ns.getD 0 aD)<256)&&decide (0<=tO (x.ns.getD 1 aD)/\tO (x.ns.getD 1 aD)<256)&&decide (0<=tO (x.ns.getD 2 aD)/\tO (x.ns.getD 2 aD)<256)))=eJ)(hu:∀ms fs,ms.Perm (aZ (au (zz t)) (zz t)).ms->fs.Perm (aZ (au (zz t)) (zz t)).fs->fs.Pairwise (λx y=>mo (T y.name) (T x.name)=eE)->ms=ms0/\fs=fs0)(he:EOk ms0 fs0) (hn:∀f∈fs0,∀x∈f.code,ee x.name<=255) (hp:uR fs0<=1000) (hz:ee (qo 1 ms0 fs0)<=300000):TxM t (zz t):=by
 refine⟨by omega,hr,hf,λu hu=>ab0 (List.all_eq_true.1 hl u hu),λx hx h1=>?_,λms fs h1 _ h3 h4=>?_⟩
 ·have:=List.all_eq_true.1 hs x hx;rw[h1]at this
  simpa [and_assoc]using this
 ·obtain⟨rfl,rfl⟩:=hu ms fs h1 h3 h4;exact⟨he,hn,hp,hz⟩
theorem Tm(w:tW)(l:tLB)(hW:xG w)(hE:Env w)(hM:wo w)(ls:List fJ)(hT:TxM l ls):fL prog 8 #[eI (T l)] w λe w'=>∃s c n,e=fR (gb #[eI s,vI (c:Nat),vI (n:Nat)])/\Ep l s c n/\aa ah w w':=by
 have H:af (fL prog 15 #[eI (T l)] w λe w'=>∃s c n,e=fR (gb #[eI s,vI (c:Nat),vI (n:Nat)])/\Ep l s c n/\aa ah w w'):=aao w l hW hE hM ls hT;clear hW hE hM hT;generalize T l=s0 at *;go_in;go_wp2_with fail;refine H.o.mono ?_;rintro e w1 ⟨s,c,n,rfl,hq,m⟩;have HQ:af (Ep l s c n/\aa ah w w1):=⟨hq,m⟩
 clear hq m H;go_wp2_with fail;go_ret3;exact⟨s,c,n,rfl,HQ.o.1,HQ.o.2⟩
theorem aef:(ab1 NG).ms=[O6]:=by kernel_rfl
theorem aeg:(ab1 NG).fs=[Ec]:=by kernel_rfl
theorem aeh:adE NG=0:=by kernel_rfl
theorem acu{s:tBA}{c n:Nat}(h:Ep NG s c n):s=T knO/\c=0:=by
 have hl:¬4000<ee NG:=by decide +kernel
 have h1:=aeh;have h2:=aef;have h3:=aeg;unfold Ep at h;rw[iN9 hl]at h;unfold adE at h1;unfold ab1 at h2 h3;cases hp:parseP (linesP NG) eE 0 []with
 |inr k=>rw[hp]at h1;cases h1
 |inl ls =>rw[hp]at h h1 h2 h3;dsimp only at h h1 h2 h3;rw[iP9 h1]at h;obtain⟨hc,_,ms,fs,pm,_,pf,sf,rfl⟩:=h;rw[h2]at pm;rw[h3]at pf;rw[List.perm_singleton.1 pm,List.perm_singleton.1 pf];exact⟨rfl,hc⟩
theorem acv:(aZ (au (zz NG)) (zz NG)).ms=[O6]:=by kernel_rfl
theorem acw:(aZ (au (zz NG)) (zz NG)).fs=[Ec]:=by kernel_rfl
theorem acx:EOk [O6] [Ec]:=by refine⟨by decide,by decide,by decide,λf hf=>?_⟩;rw[List.mem_singleton.1 hf];refine⟨by decide,by decide,λx hx=>?_⟩;simp only[Ec,List.mem_cons,b9,or_false]at hx;rcases hx with rfl|rfl|rfl<;>exact⟨by decide,by decide,by decide,by decide,by decide,by decide⟩
theorem aei:TxM NG (zz NG):=acs (ms0:=[O6]) (fs0:=[Ec]) (by decide +kernel) (by kernel_rfl) (by kernel_rfl) (by decide +kernel) (by decide +kernel) (λms fs h1 h2 h3=>by
  rw[acv]at h1;rw[acw]at h2;exact⟨List.perm_singleton.1 h1,List.perm_singleton.1 h2⟩) acx (by decide +kernel) (by decide +kernel) (by decide +kernel)
theorem acy:aaF knO O6 Ec:=⟨⟨[0,0],eE⟩,by kernel_rfl,by kernel_rfl⟩
theorem acz:bQ knI=([O6],[Ec],⟨[],eE⟩):=by kernel_rfl
theorem XL:ee knI<=1000/\knO.length<=1000:=by decide +kernel
theorem aaG:sw [Ec] 1:=XE (by decide +kernel) (by decide +kernel)
theorem aaH:(ee Ec.code<=200/\aL Ec.code<=200/\Ec.name.length<=255)/\∀x∈Ec.code,x.aJ=0:=by decide +kernel
theorem XM:Nx [Ec]:=λf hf p hp=>List.all_eq_true.1 (List.all_eq_true.1 (show([Ec].all λf=>(atS 0 f.code).all λp=>triB (dw p.1.o.code))=eJ by decide +kernel) f hf) p hp
theorem acA:(zo [Ec] [] (ji [O6]) [109,97,105,110] ⟨#[]⟩ 9).1.trap=0/\(zo [Ec] [] (ji [O6]) [109,97,105,110] ⟨#[]⟩ 9).1.r0=42/\(zo [Ec] [] (ji [O6]) [109,97,105,110] ⟨#[]⟩ 9).1.used=3:=by decide +kernel
theorem acB(w:tW)(hE:xG w)(g:Nat)(hg:w.cell? ⟨g,0,ez⟩=eC (eI (T knO))):fL prog 9 #[eK (eC ⟨g,0,ez⟩) 1 1] w λr w'=>r=fR (gb #[eI (T knI),vI 0,vI 0])/\aa ah w w':=by obtain⟨⟨h1,h2,h3⟩,h4⟩:=aaH;have H:af (fL prog 16 #[eK (eC ⟨g,0,ez⟩) 1 1] w λr w'=>r=fR (gb #[eI (T knI),vI 0,vI 0])/\aa ah w w'):=aed w hE g 1 knO O6 (by decide) Ec hg (by have:=XL.2;unfold fX;omega) acy h1 h2 h3 h4;generalize T knI=im at *;clear hE hg h1 h2 h3 h4;go_in;go_wp2_with fail;refine H.o.mono ?_;rintro e w1 ⟨rfl,m⟩;have HM:=ai m;clear m H;go_wp2_with fail;go_ret3;exact⟨rfl,HM.o⟩
theorem FR(w:tW)(hW:xG w)(hE:Env w)(hM:wo w):fL prog 4 #[] w λe w'=>e=fR (.bool eJ)/\aa ah w w':=by
 refine NH w (T knO) (T knI) ((Tm w NG hW hE hM _ aei).mono λe w' ⟨s,c,n,h1,h2,h3⟩=>?_) (λw1 g m hb=>(acB w1 (hW.ae m) g hb.c0).mono λe w2 ⟨h1,h2⟩=>⟨0,h1,h2⟩) (λw1 m=>(KC w1 (hW.ae m) knI (by have:=XL.1;unfold fX;omega) [O6] [Ec] acz (by decide +kernel)).mono λe w2 ⟨sb,h1,h2⟩=>⟨sb,h1,?_⟩)
 ·obtain⟨rfl,rfl⟩:=acu h2;exact⟨n,h1,h3⟩
 ·obtain⟨bs,b,vF,vM,gs,mb,tv,wT,hB,hl,hm,hT,hMC,hk⟩:=h2;refine(Xu hMC sb hB aaG (SY XM) (KE XM) (by decide) [109,97,105,110] ⟨#[]⟩ (by decide) 9 (by decide)).mono ?_;rintro e w3 ⟨vL,a',rfl,hL,_,_,_,_,m3⟩;obtain⟨r1,r2,r3⟩:=acA;obtain⟨oL,cL,hv,_⟩:=hL.view;generalize(zo [Ec] [] (ji [O6]) [109,97,105,110] ⟨#[]⟩ 9).1=R at *;refine⟨vL,T R.fn,R.slot,strOf R.inp,?_,⟨_,_,_,hv⟩,((m.trans hm).step m3 (λk hk' e=>?_))⟩
  ·unfold wz;rw[r1,r2,r3];rfl
  ·have h1:=m.size;have h2:=hk k (e.elim .inl (λh=>.inr (.inl h)));omega
set_option linter.all false
theorem acC(w0 w:tW)(m0:aa ah w0 w)(hW:xG w)(Nw:tLB)(hs:ee Nw<=fX):((bQ Nw).2.2.bad=eJ->fL prog 10 #[eI (T Nw)] w λe w'=>e=fR (gb #[vO,vI 7])/\aa ah w w') /\ ((bQ Nw).2.2.bad=eE->fL prog 10 #[eI (T Nw)] w λe w'=>∃sb,e=fR (gb #[vP sb,vI 0])/\aa ah w w'/\pM w0 sb ((bQ Nw).2.1.map (·.name)) w'):=by
 have H:=FE w (T Nw) (bQ Nw) (Ka w hW Nw hs (λh=>DT h));refine⟨λhD=>H.mono λe w' h=>?_,λhD=>H.mono λe w' h=>?_⟩
 ·unfold mQ at h;rw[iP9 hD]at h;exact h
 ·unfold mQ at h;rw[iN9 (by rw[hD];decide)]at h;obtain⟨sb,bs,b,vF,vM,gs,mb,tv,wT,he,_,mT,_,hA,hB,_,m⟩:=h;refine⟨sb,he,m,λw3 m3=>?_⟩;have hb:=hA.blk.ae m3 (fun⟨_,e⟩=>hA.blk.tq e (by decide) rfl);have hf:=hA.yw.ae m3 (λk hk ⟨_,e⟩=>hA.yw.ay e (by decide) hk);have hsb:=hB.ae m3 (fun⟨_,e⟩=>hB.tq e (by decide) rfl);refine(Tk hb hA.lf hf (DT hD).2.2.1 hsb).mono λe w4 ⟨v,h1,h2,h3⟩=>⟨v,b,_,h1,by rw[ab];exact h2,hb,h3,?_⟩
  have:=hA.lo;have:=mT.size;have:=m0.size;omega
theorem acD(w:tW)(hW:xG w)(hE:Env w)(hM:wo w)(s:tBA)(hs:s.size<=fX):fL prog 3 #[eI s] w λe w'=>e=fR (.bool eJ)/\aa ah w w':=by
 have eT:T (BL s)=s:=rfl;have hl:ee (BL s)<=fX:=hs;obtain⟨h1,h2⟩:=KJ s;have H:=λw1 (m:aa ah w w1)=>acC w w1 m (hW.ae m) (BL s) hl;rw[eT]at H;cases hD:(bQ (BL s)).2.2.bad with
 |true=>exact XJ w (FR w hW hE hM) s (λw1 m=>(H w1 m).1 hD) hs (h2 hD)
 |false =>obtain⟨o,ho,hO⟩:=h1 hD;exact Tj w (FR w hW hE hM) s ((bQ (BL s)).2.1.map (·.name)) (by rw[ab];exact(DT hD).2.2.1) (λw1 m=>(H w1 m).2 hD) hs o ho (by rw[hO.nm,List.map_map];rfl)
