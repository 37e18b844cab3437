import Derived.Test.YtekmhcbefnmflaaGreatDoorCL33
import Derived.Test.YtekmhcbefnmflaaGreatDoorCL34
namespace Go.Proofs.YtekmhcbefnmflaaGreatDoor
open Go.RowKit Tryz
open List renaming getElem_mem->ab,take_of_length_le->an,length->ee
open Obj renaming cells->eR
open Value renaming slice->eK,string->eI
set_option linter.all false
set_option maxRecDepth 100000
set_option maxHeartbeats 2000000
theorem J6(wT w:tW)(tv:Value)(bs:tLN)(hT:aT 0 wT tv bs ax)(mT:aa ah wT w)(rb:Nat)(hrb:wT.heap.size<=rb)(q:PR)(hr:jO w rb q)(o1:Option Addr)(ml c1:Nat)(F5:ml<=1000)(vF:Value)(fs:List cZ)(vs:tLV)(hF:xN w wT.heap.size bs vF fs vs)(hfl:ee fs<=1000)(hcl:∀f∈fs,ee f.code<=2000):Calls prog 75 #[vP rb,.agg #[eK o1 ml c1,vF]] w λe w'=>e=.returned (.tuple #[])/\jO w' rb (uS ml (ee fs) fs q)/\aa (Only rb) w w':=by
 obtain⟨oF,cF,qi,_⟩:=hF.sl.view;subst qi;have HF:=ai (λw' q' (h:tF w rb q' w')=>h.fns hr hF);have HT:=ai (λw' q' (h:tF w rb q' w')=>hT.ae (mT.step h.md (λi hi e=>by have e':i=rb:=e;omega)));have HCL:=ai hcl;have Oc:=ai hr.lt;have HB0:=ai (ak.new w #[eK o1 ml c1,eK oF (ee fs) cF] 99);have HN0:af (tF w rb q (w.alloc (eR #[eK o1 ml c1,eK oF (ee fs) cF] 99))):=(tF.quiet ⟨hr,aA⟩ aq)
 have JO:af (∀w' q',tF (w.alloc (eR #[eK o1 ml c1,eK oF (ee fs) cF] 99)) rb q' w'->w'.cell? ⟨w.heap.size,0,none⟩=some (eK o1 ml c1)/\w'.cell? ⟨w.heap.size,1,none⟩=some (eK oF (ee fs) cF)):=λw' q' h=>by have hb:=HB0.o.ae h.md (show ¬w.heap.size=rb by have:=Oc.o;omega);exact⟨hb.cell 0,hb.cell 1⟩
 clear hF hT mT hr hcl;have HWB:af (aa (Only rb) w (w.alloc (eR #[eK o1 ml c1,eK oF (ee fs) cF] 99))):=aq;go_in;go_wp2_with fail;generalize w.alloc (eR #[eK o1 ml c1,eK oF (ee fs) cF] 99)=wB at *;generalize w.heap.size=B at *;go_loopg [11] (ee fs) (λg iv wx=>∃i:Nat,iv=vI i/\tF wB rb (uS ml (ee fs) (fs.take i) q) wx/\i<=ee fs/\g=ee fs-i)
 case atStart=>exact⟨0,rfl,⟨HN0.o.rd,aA⟩,Nat.zero_le _,rfl⟩
 case round =>
  obtain⟨i,rfl,hN,hi,rfl⟩:=hrel;have HN:=ai hN;clear hN;by_cases hil:i<ee fs
  ·have Wv:=HF.o wr _ ⟨HN.o.rd,HWB.o.step HN.o.md (λ_ _ e=>e)⟩;have hiv:i<ee vs:=by rw[Wv.len];exact hil
   obtain⟨gF,rfl,c0,c1'⟩:=Wv.XR i hil hiv;have sZ:=Wv.cd i hil hiv;have hcl:=HCL.o fs[i] (ab hil);have AY:=ai (Wv.ok fs[i] (ab hil));have Ww:af (uS ml (ee fs) (fs.take (i+1)) q=wu ml (ee fs) fs[i].code (uS ml (ee fs) (fs.take i) q)):=RW _ _ _ _ _ hil;generalize uS ml (ee fs) (fs.take i) q=q1 at *;generalize fs[i]=f at *;generalize vs[i]=vC at *;obtain⟨nm,code⟩:=f;simp only at *;obtain⟨oC,cC,rfl,_⟩:=sZ.view;have MI:=ai sZ;clear Wv sZ;go_wp2_with fail;have eH:af (aa ah wr (wr.alloc (eR #[eI (T nm),eK oC (ee code) cC] 109))):=aq;generalize wr.alloc (eR #[eI (T nm),eK oC (ee code) cC] 109)=w2 at *;obtain⟨wQ,hwQ⟩:∃wQ,wQ=wr:=⟨_,rfl⟩
   rw[<-hwQ]at eH HN MI;clear hwQ c0 c1';go_loopg [18] (ee code) (λg iv wx=>∃j:Nat,iv=vI j/\tF wQ rb (wu ml (ee fs) (code.take j) q1) wx/\j<=ee code/\g=ee code-j)
   case atStart=>exact⟨0,rfl,tF.quiet ⟨HN.o.rd,aA⟩ eH.o,Nat.zero_le _,rfl⟩
   case round =>
    obtain⟨j,rfl,hN2,hj,rfl⟩:=hrel;have Eg:=ai hN2;clear hN2;by_cases hjl:j<ee code
    ·have hN1:=Eg.o;have HWQ:=ai ((HWB.o.trans HN.o.md).trans hN1.md);have adq:=MI.o.ae hN1.md (λk hk e=>MI.o.ay HN.o.rd (by decide) (hk.trans (congrArg some e)));obtain⟨g,rfl,hg,y0,y1,y2,y3,y4,y5,y6,y7⟩:=oK adq rfl rfl j hjl;have hx:=AY.o code[j] (ab hjl);have HAT:=ai (λw' (m:aa ah wr w')=>lT ((HT.o wr _ ⟨hN1.rd,HWQ.o⟩).ae m) code[j] hx.k);have HTC:af (wu ml (ee fs) (code.take (j+1)) q1=DB ml (ee fs) code[j] (wu ml (ee fs) (code.take j) q1)):=RV _ _ _ _ _ hjl;have HNI:af (∀r,DB ml (ee fs) code[j] r=if(if code[j].s=1 then code[j].o.aJ else 0)=1 then az (jt code[j].num (ee fs)) r else if(if code[j].s=1 then code[j].o.aJ else 0)=2 then az (jt code[j].num ml) r else r):=λr=>rfl;rw[HNI.o]at HTC;have hrf:(if code[j].s=1 then code[j].o.aJ else 0)<=1000:=by have:=hx.refs;split<;>omega
     have hn1:=hx.n;clear HNI hx adq hN1;generalize wu ml (ee fs) (code.take j) q1=q2 at *;generalize code[j].o=o at *;generalize code[j].jump=jmp at *;generalize code[j].d=xd at *;generalize code[j].s=xs at *;generalize code[j].num=xn at *;generalize code[j].high=xh at *;generalize T code[j].name=xm at *;generalize bs[code[j].k]?.getD 0=bo at *;have Bz:af (∀w',aa ah wr w'->Calls prog 71 #[.agg #[vP bo,vB xd,vB xs,.int .i16 jmp,vJ xn,vJ xh,eI ByteArray.empty,eI xm]] w' λe w2=>e=.returned (vI ((if xs=1 then o.aJ else 0:Nat):Int))/\aa ah w' w2):=λw' m=>rT w' bo o (HAT.o w' m) xd xs xn xh jmp _ xm;generalize(if xs=1 then o.aJ else 0)=rf at *;have hbx:=ak.new wr #[vP bo,vB xd,vB xs,.int .i16 jmp,vJ xn,vJ xh,eI ByteArray.empty,eI xm] 141;have HMx:af (aa ah wr (wr.alloc (eR #[vP bo,vB xd,vB xs,.int .i16 jmp,vJ xn,vJ xh,eI ByteArray.empty,eI xm] 141))):=aq;go_wp2_with fail;refine(Bz.o _ HMx.o).mono ?_;rintro e w5 ⟨rfl,m5⟩;have jr:=ai (hbx.ae m5 id);have HN5:=ai (Eg.o.quiet (HMx.o.trans m5));have z4:=jr.o.c4;have hbb:=JO.o w5 q2 ⟨HN5.o.rd,HN.o.md.trans HN5.o.md⟩;obtain⟨bb0,bb1⟩:=hbb;clear hbx m5 y0 y1 y2 y3 y4 y5 y6 y7 Bz HAT HMx Eg;by_cases r1:rf=1
     ·subst r1;rw[iP9 rfl]at HTC;go_wp2_with fail;refine(MG _ _ _ _ _ hn1.1 hn1.2 (by omega)).mono ?_;rintro e w6 ⟨rfl,rfl⟩;go_wp2_with fail;refine(dZ rb q2 _ _ HN5.o.rd).mono ?_;rintro e w7 ⟨rfl,h7,m7⟩;have HN7:=ai (HN5.o.read h7 m7);clear h7 m7 z4 bb0 bb1 jr HN5;go_wp2_with fail;go_roundg (ee code-(j+1))
      case measure=>omega
      case rel=>exact⟨j+1,by go_num,by rw[HTC.o];exact HN7.o,by omega,rfl⟩
     ·by_cases r2:rf=2
      ·subst r2;rw[iN9 (by decide),iP9 rfl]at HTC;go_wp2_with fail;refine(MH _ _ _ _ _ hn1.1 hn1.2 (by omega)).mono ?_;rintro e w6 ⟨rfl,rfl⟩;go_wp2_with fail;refine(dZ rb q2 _ _ HN5.o.rd).mono ?_;rintro e w7 ⟨rfl,h7,m7⟩;have HN7:=ai (HN5.o.read h7 m7);clear h7 m7 z4 bb0 bb1 jr HN5;go_wp2_with fail;go_roundg (ee code-(j+1))
       case measure=>omega
       case rel=>exact⟨j+1,by go_num,by rw[HTC.o];exact HN7.o,by omega,rfl⟩
      ·have d1:decide ((rf:Int)=1)=false:=decide_eq_false (by omega);have d2:decide ((rf:Int)=2)=false:=decide_eq_false (by omega);rw[iN9 r1,iN9 r2]at HTC;go_wp2_with fail;go_roundg (ee code-(j+1))
       case measure=>omega
       case rel=>exact⟨j+1,by go_num,by rw[HTC.o];exact HN5.o,by omega,rfl⟩
    ·obtain rfl:j=ee code:=by omega
     go_wp2_with fail;go_roundg (ee fs-(i+1))
     case measure=>omega
     case rel =>refine⟨i+1,by go_num,?_,by omega,rfl⟩;have hN3:=Eg.o;rw[an (Nat.le_refl _)]at hN3;rw[Ww.o];exact⟨hN3.rd,HN.o.md.trans hN3.md⟩
  ·obtain rfl:i=ee fs:=by omega
   go_wp2_with fail;go_end0;have hN3:=HN.o;rw[an (Nat.le_refl _)]at hN3;exact⟨rfl,hN3.rd,HWB.o.trans hN3.md⟩
def bQ(s:tLB):List aW×List cZ×PR :=
 let a:=aR 4 ⟨s,false⟩
 let r1:=az (a.1==[83,80,79,76]) a.2
 let b:=oneP r1
 let r2:=az (decide (b.1=2)) b.2
 let c:=oneP r2
 let m:=mapsP c.1 (az (decide (c.1<=8)) c.2) [] []
 let f:=dF m.2
 let g:=uS (ee m.1) (ee f.1) f.1 f.2
 (m.1,f.1,az (g.rest==[]) g)
theorem J7(w:tW)(wT:tW)(tv:Value)(bs:tLN)(hT:aT 0 wT tv bs ax)(mT:aa ah wT w)(s:tLB)(hs:ee s<=maxLen):Calls prog 74 #[tv,vI 2,eI (T s),.func (.func 75) #[] #[]] w λe w'=>vX w bs (bQ s) e w' :=
 J3 2 75 (enters_of func75 (by kernel_rfl) rfl) w wT tv bs hT mT s hs (uS (ee (lZ 2 s).1) (ee (lZ 2 s).2.1) (lZ 2 s).2.1 (lZ 2 s).2.2) (fun⟨m5,f6,c6,_⟩ w b o1 c1 vF vs h m hb hF=>J6 wT w tv bs hT m b hb _ h o1 _ c1 m5 vF _ vs hF (by omega) c6)
theorem MJ(w:tW)(wT:tW)(tv:Value)(bs:tLN)(hT:aT 0 wT tv bs ax)(mT:aa ah wT w)(s:tLB)(hs:ee s<=maxLen):Calls prog 33 #[tv,eI (T s)] w λe w'=>vX w bs (bQ s) e w':=by
 have HD:=ai (λw' m=>J7 w' wT tv bs hT (mT.trans m) s hs);clear hT mT;generalize bQ s=d at *;have hB:=ak.new w #[vN,vN] 99;have HB:=ai hB;clear hB;go_in;go_wp2_with fail;refine(HD.o _ aq).mono ?_;rintro e w1 ⟨vM,vF,vs,rfl,m1,⟨oM,nM,cM,oF,nF,cF,rfl,rfl⟩,hgood⟩;have hB1:=HB.o.ae m1 id;have HB1:=ai hB1;have g0:=hB1.c0;have g1:=hB1.c1;have fg:=hB1.frozen;have dB:=ai (aq.trans m1);have HG:af _:=hgood;clear m1 hB1 hgood;have gu:af (aa (Only w.heap.size) w1 ((w1.setCell ⟨w.heap.size,0,none⟩ (eK oM nM cM)).setCell ⟨w.heap.size,1,none⟩ (eK oF nF cF))):=(aA.bz _ _).bz _ _;have KP:af (ak ((w1.setCell ⟨w.heap.size,0,none⟩ (eK oM nM cM)).setCell ⟨w.heap.size,1,none⟩ (eK oF nF cF)) w.heap.size #[eK oM nM cM,eK oF nF cF] 99):=(HB1.o.set 0 _).set 1 _;go_wp2_with fail;refine bodyPost_ret (aw results33 _ _ w.heap.size 99 _ (0,0) _ (.bool (!d.2.2.bad)) rfl rfl KP.o underlying99 rfl (by kernel_rfl)) rfl ?_;refine⟨eK oM nM cM,eK oF nF cF,vs,rfl,dB.o.step gu.o (λi hi e=>by have:i=w.heap.size:=e;omega),⟨_,_,_,_,_,_,rfl,rfl⟩,λhb=>?_⟩;obtain⟨hM,hF⟩:=HG.o hb;have hws:(w.alloc (eR #[vN,vN] 99)).heap.size=w.heap.size+1:=by simp
 rw[hws]at hF;exact⟨hM.ae gu.o (λk hk e=>hM.ay HB1.o (by decide) (hk.trans (congrArg some e))),(hF.ae gu.o (λk hk e=>by have:=hF.own k hk;have:k=w.heap.size:=e;omega) (λu hu k hk e=>by have:=hF.rR u hu k hk;have:k=w.heap.size:=e;omega)).lower (by omega)⟩
