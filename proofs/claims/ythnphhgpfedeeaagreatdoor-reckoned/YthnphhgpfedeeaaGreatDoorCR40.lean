import Derived.Test.YthnphhgpfedeeaaGreatDoorCR38
namespace Go.Proofs.YthnphhgpfedeeaaGreatDoor
open Go.RowKit Tryz
open List renaming take_succ_eq_append_getElem->ab,getElem_mem->an,take_of_length_le->ao,foldl_append->ba
open Nat renaming le_trans->al,le_refl->ar
set_option linter.all false
set_option maxRecDepth 100000
set_option maxHeartbeats 2000000
theorem KR(w:tW)(hE:sV w)(o:Option Addr)(cap:Nat)(aR:List tLB)(hb:0<aR.length->∃g cs,o=some ⟨g,0,none⟩/\ak w g cs 9/\∀k (h:k<aR.length),cs[k]?=some (.string (T aR[k])))(hn:aR.length<=maxLen)(hs:∀s∈aR,s.length<=maxLen)(hq0:∀q∈decsP aR,nI q/\q.1=[]):Calls prog 19 #[.slice o aR.length cap] w λr w'=>∃s e a,r=.returned (.tuple #[.string s,.int .i64 e,.int .i64 a])/\iD aR s e a/\aa ae w w':=by
 have H:af (Calls prog 25 #[.slice o aR.length cap] w λr w'=>∃s e a,r=.returned (.tuple #[.string s,.int .i64 e,.int .i64 a])/\iD aR s e a/\aa ae w w'):=Ya w hE o cap aR hb hn hs (λq h=>(hq0 q h).1) (λq h=>(hq0 q h).2);clear hb hs hE hq0;generalize aR.length=n at *;go_enter func19,ntmps19;go_wp2_with fail;refine H.o.mono ?_;rintro e w1 ⟨s,e,a,rfl,hq,m⟩;have HQ:af (iD aR s e a/\aa ae w w1):=⟨hq,m⟩
 clear hq m H;go_wp2_with fail;go_ret3;exact⟨s,e,a,rfl,HQ.o.1,HQ.o.2⟩
theorem BN{l:List (List az×List aS)}(h:(l.all λp=>decide (p.1.length=0)&&decide (p.2.length<=16)&&p.2.all λf=>decide (f.name.length<=255)&&decide (f.code.length<=200))=true):∀q∈l,nI q/\q.1=[]:=λq hq=>by
 have:=List.all_eq_true.1 h q hq;simp only[Bool.and_eq_true,decide_eq_true_eq]at this;obtain⟨⟨h1,h2⟩,h3⟩:=this;refine⟨⟨by omega,h2,λm hm=>?_,λf hf=>?_⟩,List.length_eq_zero_iff.1 h1⟩
 ·rw[List.length_eq_zero_iff.1 h1]at hm;cases hm
 ·have:=List.all_eq_true.1 h3 f hf
  simpa using this
def tJ(k:Int)(n:Nat):Bool:=decide (0<=k)&&decide (k<n)
def Yc(m f:Nat)(x:PI)(r:PR):PR:=if x.aO=1 then aI (tJ x.num f) r else if x.aO=2 then aI (tJ x.num m) r else r
def BO(m f:Nat)(l:List PI)(r:PR):PR:=l.foldl (λr x=>Yc m f x r) r
def BP(m f:Nat)(l:List aS)(r:PR):PR:=l.foldl (λr g=>BO m f g.code r) r
theorem Qf(m f:Nat)(l:List PI)(r:PR)(k:Nat)(h:k<l.length):BO m f (l.take (k+1)) r=Yc m f l[k] (BO m f (l.take k) r):=by unfold BO;rw[ab h,ba];rfl
theorem Qg(m f:Nat)(l:List aS)(r:PR)(k:Nat)(h:k<l.length):BP m f (l.take (k+1)) r=BO m f l[k].code (BP m f (l.take k) r):=by unfold BP;rw[ab h,ba];rfl
theorem KS(w:tW)(o:Option Addr)(n c:Nat)(k:Int)(h0:-2147483648<=k)(h1:k<=2147483647)(hn:n<=100000):Calls prog 101 #[.slice o n c,.int .i32 k] w λe w'=>e=.returned (.bool (tJ k n))/\w'=w:=by
 unfold tJ;by_cases hk:0<=k
 ·rw[decide_eq_true hk,Bool.true_and];go_enter func101,ntmps101;go_wp2_with fail;go_ret;exact⟨rfl,rfl⟩
 ·rw[decide_eq_false hk,Bool.false_and];go_enter func101,ntmps101;go_wp2_with fail;go_ret;exact⟨rfl,rfl⟩
theorem KT(w:tW)(o:Option Addr)(n c:Nat)(k:Int)(h0:-2147483648<=k)(h1:k<=2147483647)(hn:n<=100000):Calls prog 102 #[.slice o n c,.int .i32 k] w λe w'=>e=.returned (.bool (tJ k n))/\w'=w:=by
 unfold tJ;by_cases hk:0<=k
 ·rw[decide_eq_true hk,Bool.true_and];go_enter func102,ntmps102;go_wp2_with fail;go_ret;exact⟨rfl,rfl⟩
 ·rw[decide_eq_false hk,Bool.false_and];go_enter func102,ntmps102;go_wp2_with fail;go_ret;exact⟨rfl,rfl⟩
structure uz(w:tW)(rb:Nat)(q:PR)(w':tW):Prop where
 rd:dM w' rb q
 md:aa (Only rb) w w'
theorem uz.quiet{w w' w'':tW}{rb:Nat}{q:PR}(h:uz w rb q w')(m:aa ae w' w''):uz w rb q w'':=⟨h.rd.ag m id,h.md.trans (m.of_nil)⟩
theorem uz.read{w w' w'':tW}{rb:Nat}{q q':PR}(h:uz w rb q w')(hr:dM w'' rb q')(m:aa (Only rb) w' w''):uz w rb q' w'':=⟨hr,h.md.trans m⟩
theorem Iu(wT w:tW)(tv:Value)(bs:List Nat)(hT:aH 0 wT tv bs aq)(mT:aa ae wT w)(rb:Nat)(hrb:wT.heap.size<=rb)(q:PR)(hr:dM w rb q)(o1:Option Addr)(ml c1:Nat)(JG:ml<=1000)(vF:Value)(fs:List aS)(vs:List Value)(hF:pG w wT.heap.size bs vF fs vs)(hfl:fs.length<=1000)(hcl:∀f∈fs,f.code.length<=2000):Calls prog 62 #[.pointer (some ⟨rb,0,none⟩),.agg #[.slice o1 ml c1,vF]] w λe w'=>e=.returned (.tuple #[])/\dM w' rb (BP ml fs.length fs q)/\aa (Only rb) w w':=by
 obtain⟨oF,cF,jZ,_⟩:=hF.sl.view;subst jZ
 have HF:af (∀w' q',uz w rb q' w'->pG w' wT.heap.size bs (.slice oF fs.length cF) fs vs):=λw' q' h=>by have h2:uz w rb q' w':=h;exact hF.ag h2.md (λk hk e=>hF.sl.au hr (by decide) (hk.trans (congrArg some e))) (λu hu k hk e=>by obtain⟨i,hi,rfl⟩:=List.getElem_of_mem hu;exact(hF.cd i (by rw[<-hF.len];exact hi) hi).au hr (by decide) (hk.trans (congrArg some e)))
 have HT:af (∀w' q',uz w rb q' w'->aH 0 w' tv bs aq):=λw' q' h=>hT.ag (mT.step h.md (λi hi e=>by have e':i=rb:=e;omega));have XV:=ai hcl;have Ro:=ai hr.lt;have HB0:af (ak (w.alloc (.cells #[.slice o1 ml c1,.slice oF fs.length cF] 90)) w.heap.size #[.slice o1 ml c1,.slice oF fs.length cF] 90):=ak.new _ _ _;have HN0:af (uz w rb q (w.alloc (.cells #[.slice o1 ml c1,.slice oF fs.length cF] 90))):=(uz.quiet ⟨hr,ax⟩ aj)
 have Fe:af (∀w' q',uz (w.alloc (.cells #[.slice o1 ml c1,.slice oF fs.length cF] 90)) rb q' w'->w'.cell? ⟨w.heap.size,0,none⟩=some (.slice o1 ml c1)/\w'.cell? ⟨w.heap.size,1,none⟩=some (.slice oF fs.length cF)):=λw' q' h=>by have hb:=HB0.o.ag h.md (show ¬w.heap.size=rb by have:=Ro.o;omega);exact⟨hb.cell 0,hb.cell 1⟩
 clear hF hT mT hr hcl;have HWB:af (aa (Only rb) w (w.alloc (.cells #[.slice o1 ml c1,.slice oF fs.length cF] 90))):=aj;go_enter func62,ntmps62;go_wp2_with fail;generalize w.alloc (.cells #[.slice o1 ml c1,.slice oF fs.length cF] 90)=wB at *;generalize w.heap.size=B at *;go_loopg [11] fs.length (λg iv wx=>∃i:Nat,iv=.int .i64 i/\uz wB rb (BP ml fs.length (fs.take i) q) wx/\i<=fs.length/\g=fs.length-i)
 case atStart=>exact⟨0,rfl,⟨HN0.o.rd,ax⟩,Nat.zero_le _,rfl⟩
 case round =>
  obtain⟨i,rfl,hN,hi,rfl⟩:=hrel;have HN:=ai hN;clear hN;by_cases hil:i<fs.length
  ·have Cw:=HF.o wr _ ⟨HN.o.rd,HWB.o.step HN.o.md (λ_ _ e=>e)⟩;have CP:i<vs.length:=by rw[Cw.len];exact hil
   obtain⟨gF,rfl,c0,c1'⟩:=Cw.TI i hil CP;have pF:=Cw.cd i hil CP;have hcl:=XV.o fs[i] (an hil);have uH:af (∀x∈fs[i].code,eU x):=Cw.ok fs[i] (an hil);have Yd:af (BP ml fs.length (fs.take (i+1)) q=BO ml fs.length fs[i].code (BP ml fs.length (fs.take i) q)):=Qg _ _ _ _ _ hil;generalize BP ml fs.length (fs.take i) q=q1 at *;generalize fs[i]=f at *;generalize vs[i]=vC at *;obtain⟨nm,code⟩:=f;simp only at *;obtain⟨oC,cC,rfl,_⟩:=pF.view;have PM:=ai pF;clear Cw pF;go_wp2_with fail;have dw:af (aa ae wr (wr.alloc (.cells #[.string (T nm),.slice oC code.length cC] 96))):=aj;generalize wr.alloc (.cells #[.string (T nm),.slice oC code.length cC] 96)=w2 at *;obtain⟨wQ,hwQ⟩:∃wQ,wQ=wr:=⟨_,rfl⟩
   rw[<-hwQ]at dw HN PM;clear hwQ c0 c1';go_loopg [18] code.length (λg iv wx=>∃j:Nat,iv=.int .i64 j/\uz wQ rb (BO ml fs.length (code.take j) q1) wx/\j<=code.length/\g=code.length-j)
   case atStart=>exact⟨0,rfl,uz.quiet ⟨HN.o.rd,ax⟩ dw.o,Nat.zero_le _,rfl⟩
   case round =>
    obtain⟨j,rfl,hN2,hj,rfl⟩:=hrel;have Cz:=ai hN2;clear hN2;by_cases hjl:j<code.length
    ·have hN1:uz wQ rb (BO ml fs.length (code.take j) q1) wr:=Cz.o;have HWQ:af (aa (Only rb) w wr):=(HWB.o.trans HN.o.md).trans hN1.md;have acu:Sl wr 138 8 (.slice oC code.length cC) code.length (eu bs code):=PM.o.ag hN1.md (λk hk e=>PM.o.au HN.o.rd (by decide) (hk.trans (congrArg some e)));obtain⟨g,rfl,hg,y0,y1,y2,y3,y4,y5,y6,y7⟩:=kZ acu rfl rfl j hjl;have hx:=uH.o code[j] (an hjl);have HAT:af (∀w',aa ae wr w'->bY w' (bs[code[j].k]?.getD 0) code[j].o):=λw' m=>jI ((HT.o wr _ ⟨hN1.rd,HWQ.o⟩).ag m) code[j] hx.k;have HTC:af (BO ml fs.length (code.take (j+1)) q1=Yc ml fs.length code[j] (BO ml fs.length (code.take j) q1)):=Qf _ _ _ _ _ hjl;have HNI:af (∀r,Yc ml fs.length code[j] r=if(if code[j].s=1 then code[j].o.aO else 0)=1 then aI (tJ code[j].num fs.length) r else if(if code[j].s=1 then code[j].o.aO else 0)=2 then aI (tJ code[j].num ml) r else r):=λr=>rfl;rw[HNI.o]at HTC;have hrf:(if code[j].s=1 then code[j].o.aO else 0)<=1000:=by have:=hx.refs;split<;>omega
     have hn1:=hx.n;clear HNI hx acu hN1;generalize BO ml fs.length (code.take j) q1=q2 at *;generalize code[j].o=o at *;generalize code[j].jump=jmp at *;generalize code[j].d=xd at *;generalize code[j].s=xs at *;generalize code[j].num=xn at *;generalize code[j].high=xh at *;generalize T code[j].name=xm at *;generalize bs[code[j].k]?.getD 0=bo at *;have AY:af (∀w',aa ae wr w'->Calls prog 84 #[.agg #[.pointer (some ⟨bo,0,none⟩),.int .u8 xd,.int .u8 xs,.int .i16 jmp,.int .i32 xn,.int .i32 xh,.string ByteArray.empty,.string xm]] w' λe w2=>e=.returned (.int .i64 ((if xs=1 then o.aO else 0:Nat):Int))/\aa ae w' w2):=λw' m=>jJ w' bo o (HAT.o w' m) xd xs xn xh jmp _ xm;generalize(if xs=1 then o.aO else 0)=rf at *;have hbx:=ak.new wr #[.pointer (some ⟨bo,0,none⟩),.int .u8 xd,.int .u8 xs,.int .i16 jmp,.int .i32 xn,.int .i32 xh,.string ByteArray.empty,.string xm] 138;have HMx:af (aa ae wr (wr.alloc (.cells #[.pointer (some ⟨bo,0,none⟩),.int .u8 xd,.int .u8 xs,.int .i16 jmp,.int .i32 xn,.int .i32 xh,.string ByteArray.empty,.string xm] 138))):=aj;go_wp2_with fail;refine(AY.o _ HMx.o).mono ?_;rintro e w5 ⟨rfl,m5⟩;have iT:af (ak w5 wr.heap.size #[.pointer (some ⟨bo,0,none⟩),.int .u8 xd,.int .u8 xs,.int .i16 jmp,.int .i32 xn,.int .i32 xh,.string ByteArray.empty,.string xm] 138):=hbx.ag m5 id;have Ye:=ai (Cz.o.quiet (HMx.o.trans m5));have z4:w5.cell? ⟨wr.heap.size,4,none⟩=some (.int .i32 xn):=iT.o.cell 4;have hbb:=Fe.o w5 q2 ⟨Ye.o.rd,HN.o.md.trans Ye.o.md⟩;obtain⟨bb0,bb1⟩:=hbb;clear hbx m5 y0 y1 y2 y3 y4 y5 y6 y7 AY HAT HMx Cz;by_cases r1:rf=1
     ·subst r1;rw[iP9 rfl]at HTC;go_wp2_with fail;refine(KS _ _ _ _ _ hn1.1 hn1.2 (by omega)).mono ?_;rintro e w6 ⟨rfl,rfl⟩;go_wp2_with fail;refine(bI rb q2 _ _ Ye.o.rd).mono ?_;rintro e w7 ⟨rfl,h7,m7⟩;have HN7:=ai (Ye.o.read h7 m7);clear h7 m7 z4 bb0 bb1 iT Ye;go_wp2_with fail;go_roundg (code.length-(j+1))
      case measure=>omega
      case rel=>exact⟨j+1,by go_num,by rw[HTC.o];exact HN7.o,by omega,rfl⟩
     ·by_cases r2:rf=2
      ·subst r2;rw[iN9 (by decide),iP9 rfl]at HTC;go_wp2_with fail;refine(KT _ _ _ _ _ hn1.1 hn1.2 (by omega)).mono ?_;rintro e w6 ⟨rfl,rfl⟩;go_wp2_with fail;refine(bI rb q2 _ _ Ye.o.rd).mono ?_;rintro e w7 ⟨rfl,h7,m7⟩;have HN7:=ai (Ye.o.read h7 m7);clear h7 m7 z4 bb0 bb1 iT Ye;go_wp2_with fail;go_roundg (code.length-(j+1))
       case measure=>omega
       case rel=>exact⟨j+1,by go_num,by rw[HTC.o];exact HN7.o,by omega,rfl⟩
      ·have d1:decide ((rf:Int)=1)=false:=decide_eq_false (by omega);have d2:decide ((rf:Int)=2)=false:=decide_eq_false (by omega);rw[iN9 r1,iN9 r2]at HTC;go_wp2_with fail;go_roundg (code.length-(j+1))
       case measure=>omega
       case rel=>exact⟨j+1,by go_num,by rw[HTC.o];exact Ye.o,by omega,rfl⟩
    ·obtain rfl:j=code.length:=by omega
     go_wp2_with fail;go_roundg (fs.length-(i+1))
     case measure=>omega
     case rel =>refine⟨i+1,by go_num,?_,by omega,rfl⟩;have hN3:=Cz.o;rw[ao (ar _)]at hN3;rw[Yd.o];exact⟨hN3.rd,HN.o.md.trans hN3.md⟩
  ·obtain rfl:i=fs.length:=by omega
   go_wp2_with fail;go_end0;have hN3:=HN.o;rw[ao (ar _)]at hN3;exact⟨rfl,hN3.rd,HWB.o.trans hN3.md⟩
def dP(s:tLB):List az×List aS×PR :=
 let a:=bU 4 ⟨s,false⟩
 let r1:=aI (a.1==[83,80,79,76]) a.2
 let b:=oneP r1
 let r2:=aI (decide (b.1=2)) b.2
 let c:=oneP r2
 let m:=mapsP c.1 (aI (decide (c.1<=8)) c.2) [] []
 let f:=jH m.2
 let g:=BP m.1.length f.1.length f.1 f.2
 (m.1,f.1,aI (g.rest==[]) g)
theorem CS{s:tLB}{a1:tLB}{q1 q2:PR}{n3:Nat}{q3 q4:PR}{ms:List az}{q5:PR}{fs:List aS}{q6:PR}{q7:PR}(h1:bU 4 ⟨s,false⟩=(a1,q1))(h2:aI (a1==[83,80,79,76]) q1=q2)(h3:oneP q2=(n3,q3))(h4:aI (decide (n3=2)) q3=q4)(h5:mapsP (oneP q4).1 (aI (decide ((oneP q4).1<=8)) (oneP q4).2) [] []=(ms,q5))(h6:jH q5=(fs,q6))(h7:BP ms.length fs.length fs q6=q7):dP s=(ms,fs,aI (q7.rest==[]) q7):=by unfold dP;simp only[h1,h2,h3,h4,h5,h6,h7]
theorem Iw(w:tW)(wT:tW)(tv:Value)(bs:List Nat)(hT:aH 0 wT tv bs aq)(mT:aa ae wT w)(s:tLB)(hs:s.length<=maxLen):Calls prog 61 #[tv,.int .i64 2,.string (T s),.func (.func 62) #[] #[]] w λe w'=>mZ w bs (dP s) e w':=by
 obtain⟨oT,cT,hv,_⟩:=hT.sl.view;subst hv;have HT:=ai hT;have Cv:=ai mT;clear hT mT;have hTw:=Cv.o.size;obtain⟨a1,q1,h1⟩:∃a q,bU 4 ⟨s,false⟩=(a,q):=⟨_,_,rfl⟩
 obtain⟨q2,h2⟩:∃q2,aI (a1==[83,80,79,76]) q1=q2:=⟨_,rfl⟩
 obtain⟨n3,q3,h3⟩:∃a q,oneP q2=(a,q):=⟨_,_,rfl⟩
 obtain⟨q4,h4⟩:∃q,aI (decide (n3=2)) q3=q:=⟨_,rfl⟩
 obtain⟨ms,q5,h5⟩:∃a q,mapsP (oneP q4).1 (aI (decide ((oneP q4).1<=8)) (oneP q4).2) [] []=(a,q):=⟨_,_,rfl⟩
 obtain⟨fs,q6,h6⟩:∃a q,jH q5=(a,q):=⟨_,_,rfl⟩
 obtain⟨q7,h7⟩:∃q,BP ms.length fs.length fs q6=q:=⟨_,rfl⟩
 rw[CS h1 h2 h3 h4 h5 h6 h7];have l1:q1.rest.length<=maxLen:=by have:=take_len 4 ⟨s,false⟩;rw[h1]at this;exact al this hs
 have l2:q2.rest.length<=maxLen:=by rw[<-h2];exact l1
 have l3:q3.rest.length<=maxLen:=by have:=fP q2;rw[h3]at this;exact al this l2
 have l4:q4.rest.length<=maxLen:=by rw[<-h4];exact l3
 have l5:q5.rest.length<=maxLen:=by have:=yJ (oneP q4).1 (aI (decide ((oneP q4).1<=8)) (oneP q4).2) [] [];rw[h5]at this;exact al this (al (fP q4) l4)
 have m5:ms.length<=1000:=by have:=yO (oneP q4).1 (aI (decide ((oneP q4).1<=8)) (oneP q4).2) [] [];rw[h5]at this;have:=yN q4;simp at *;omega
 obtain⟨f6,c6,l6⟩:=Bi q5;rw[h6]at f6 c6 l6;simp only at f6 c6 l6;have l6':=al l6 l5;have C1:af (∀w b,dM w b ⟨s,false⟩->Calls prog 97 #[.pointer (some ⟨b,0,none⟩),.int .i64 4] w λe w'=>e=.returned (.string (T a1))/\dM w' b q1/\aa (Only b) w w'):=λw b h=>by have:=oq b ⟨s,false⟩ 4 w h hs (by decide);rw[h1]at this;exact this
 have C2:af (∀w b,dM w b q1->Calls prog 96 #[.pointer (some ⟨b,0,none⟩),.bool (a1==[83,80,79,76])] w λe w'=>e=.returned (.tuple #[])/\dM w' b q2/\aa (Only b) w w'):=λw b h=>by have:=bI b q1 (a1==[83,80,79,76]) w h;rw[h2]at this;exact this
 have C3:af (∀w b,dM w b q2->Calls prog 98 #[.pointer (some ⟨b,0,none⟩)] w λe w'=>e=.returned (.int .i64 n3)/\dM w' b q3/\aa (Only b) w w'):=λw b h=>by have:=kY b q2 w h l2;rw[h3]at this;exact this
 have C4:af (∀w b,dM w b q3->Calls prog 96 #[.pointer (some ⟨b,0,none⟩),.bool ((n3:Int)==2)] w λe w'=>e=.returned (.tuple #[])/\dM w' b q4/\aa (Only b) w w'):=λw b h=>by
  have:=bI b q3 (decide (n3=2)) w h;rw[h4]at this
  rwa [show((n3:Int)==2)=decide (n3=2) by rw[Bool.eq_iff_iff];simp;omega]
 have C5:af (∀w b,dM w b q4->Calls prog 99 #[.pointer (some ⟨b,0,none⟩)] w λe w'=>AZ w b q5 ms e w'):=λw b h=>by have:=Dq b q4 w h l4;rw[h5]at this;exact this
 have C6:af (∀w b,dM w b q5->aa ae wT w->wT.heap.size<=b->Calls prog 100 #[.pointer (some ⟨b,0,none⟩),.slice oT bs.length cT] w λe w'=>yL w b bs q6 fs e w'):=λw b h m hb=>by have:=Dv w b q5 h l5 wT _ bs HT.o m hb;rw[h6]at this;exact this
 have C7:af (∀w b o1 c1 vF vs,dM w b q6->aa ae wT w->wT.heap.size<=b->pG w wT.heap.size bs vF fs vs->Calls prog 62 #[.pointer (some ⟨b,0,none⟩),.agg #[.slice o1 ms.length c1,vF]] w λe w'=>e=.returned (.tuple #[])/\dM w' b q7/\aa (Only b) w w'):=λw b o1 c1 vF vs h m hb hF=>by have:=Iu wT w _ bs HT.o m b hb q6 h o1 ms.length c1 m5 vF fs vs hF (by omega) c6;rw[h7]at this;exact this
 clear h1 h2 h3 h4 h5 h6 h7 l1 l2 l3 l4 l5 l6 l6' m5 f6 c6 HT
 have D0:af (zM w ⟨s,false⟩ ((w.alloc (.cells #[.slice none 0 0,.slice none 0 0] 90)).alloc (.cells #[.string (T s),.bool false] 194))) :=
  ⟨by have:=ak.new (w.alloc (.cells #[.slice none 0 0,.slice none 0 0] 90)) #[.string (T s),.bool false] 194;simpa [dM]using this,(ak.new _ _ _).alloc _,aj.alloc _⟩
 have hcmp:((T a1).toList==[83,80,79,76])=(a1==[83,80,79,76]):=by simp[T]
 have hb:wT.heap.size<=w.heap.size+1:=by omega
 go_enter func61,ntmps61;go_wp2_with fail;refine(C1.o _ _ D0.o.rd).mono ?_;rintro e w1 ⟨rfl,h1,m1⟩;have D1:=ai (D0.o.read h1 m1);clear D0 h1 m1;go_wp2_with fail;refine(C2.o _ _ D1.o.rd).mono ?_;rintro e w2 ⟨rfl,h2,m2⟩;have D2:=ai (D1.o.read h2 m2);clear D1 h2 m2;go_wp2_with fail;refine(C3.o _ _ D2.o.rd).mono ?_;rintro e w3 ⟨rfl,h3,m3⟩;have D3:=ai (D2.o.read h3 m3);clear D2 h3 m3;go_wp2_with fail;refine(C4.o _ _ D3.o.rd).mono ?_;rintro e w4 ⟨rfl,h4,m4⟩;have D4:=ai (D3.o.read h4 m4);clear D3 h4 m4;go_wp2_with fail;refine(C5.o _ _ D4.o.rd).mono ?_;rintro e w5 ⟨vM,rfl,hM⟩;obtain⟨oM,cM,rfl,_⟩:=hM.sl.view;have D5:=ai (D4.o.read hM.rd hM.md);have iC:=ai hM.sl;have ZK:=ai hM.sl.lt;clear D4 hM;have TD:af (zM w q5 (w5.alloc (.cells #[.slice oM ms.length cM,.slice none 0 0] 90))):=⟨ak.alloc D5.o.rd _,D5.o.rs.alloc _,D5.o.md.alloc _⟩
 have HPb:af (ak (w5.alloc (.cells #[.slice oM ms.length cM,.slice none 0 0] 90)) w5.heap.size #[.slice oM ms.length cM,.slice none 0 0] 90):=ak.new _ _ _;have Kq:af (Sl (w5.alloc (.cells #[.slice oM ms.length cM,.slice none 0 0] 90)) 100 4 (.slice oM ms.length cM) ms.length (ms.flatMap az.cells)):=iC.o.ag ((aa.refl ae _).alloc _) (λ_ _=>id);have h5s:w.heap.size+1<w5.heap.size:=D5.o.rd.lt;clear D5 iC;go_wp2_with fail;refine(C6.o _ _ TD.o.rd (Cv.o.trans TD.o.md) hb).mono ?_;rintro e w6 ⟨vF,vs,rfl,h6,hF,m6⟩;obtain⟨oF,cF,rfl,_⟩:=hF.sl.view;have D6:af (zM w q6 w6):=TD.o.read h6 m6;have Bj:af (ak w6 w5.heap.size #[.slice oM ms.length cM,.slice none 0 0] 90):=HPb.o.ag m6 (show ¬w5.heap.size=w.heap.size+1 by omega);have sW:af (Sl w6 100 4 (.slice oM ms.length cM) ms.length (ms.flatMap az.cells)):=Kq.o.ag m6 (λk hk e=>Kq.o.au TD.o.rd (by decide) (hk.trans (congrArg some e)));have XE:af (pG w6 (w5.heap.size+1) bs (.slice oF fs.length cF) fs vs):=by have h':=hF;simp at h';exact h'
 clear h6 hF m6 TD HPb Kq;have y1:w6.cell? ⟨w5.heap.size,1,none⟩=some (.slice none 0 0):=Bj.o.cell 1;have f1:=Bj.o.frozen 1;have EY:af (ak (w6.setCell ⟨w5.heap.size,1,none⟩ (.slice oF fs.length cF)) w5.heap.size #[.slice oM ms.length cM,.slice oF fs.length cF] 90):=Bj.o.set 1 _;have D7:af (zM w q6 (w6.setCell ⟨w5.heap.size,1,none⟩ (.slice oF fs.length cF))):=⟨ak.setOther D6.o.rd (show w5.heap.size≠w.heap.size+1 by omega) _,ak.setOther D6.o.rs (show w5.heap.size≠w.heap.size by omega) _,D6.o.md.set (.inr (show w.heap.size<=w5.heap.size by omega)) _⟩
 have xG:af (Sl (w6.setCell ⟨w5.heap.size,1,none⟩ (.slice oF fs.length cF)) 100 4 (.slice oM ms.length cM) ms.length (ms.flatMap az.cells)):=sW.o.ag ((aa.refl (Only w5.heap.size) w6).aY _ _) (λk hk e=>sW.o.au Bj.o (by decide) (hk.trans (congrArg some e)));have HF7:af (pG (w6.setCell ⟨w5.heap.size,1,none⟩ (.slice oF fs.length cF)) (w5.heap.size+1) bs (.slice oF fs.length cF) fs vs):=XE.o.ag ((aa.refl (Only w5.heap.size) w6).aY _ _) (λk hk e=>by have:=XE.o.own k hk;have:k=w5.heap.size:=e;omega) (λu hu k hk e=>by have:=XE.o.l8 u hu k hk;have:k=w5.heap.size:=e;omega);have z0:(w6.setCell ⟨w5.heap.size,1,none⟩ (.slice oF fs.length cF)).cell? ⟨w5.heap.size,0,none⟩=some (.slice oM ms.length cM):=EY.o.cell 0;have z1:(w6.setCell ⟨w5.heap.size,1,none⟩ (.slice oF fs.length cF)).cell? ⟨w5.heap.size,1,none⟩=some (.slice oF fs.length cF):=EY.o.cell 1;clear Bj sW XE D6;go_wp2_with fail;refine(C7.o _ _ _ _ _ vs D7.o.rd (Cv.o.trans D7.o.md) hb (HF7.o.lower (by omega))).mono ?_;rintro e w8 ⟨rfl,h8,m8⟩;have D8:=ai (D7.o.read h8 m8);have TE:af (ak w8 w5.heap.size #[.slice oM ms.length cM,.slice oF fs.length cF] 90):=EY.o.ag m8 (show ¬w5.heap.size=w.heap.size+1 by omega);have FV:af (Sl w8 100 4 (.slice oM ms.length cM) ms.length (ms.flatMap az.cells)):=xG.o.ag m8 (λk hk e=>xG.o.au D7.o.rd (by decide) (hk.trans (congrArg some e)));have HF8:=ai (HF7.o.read D7.o.rd m8);clear h8 m8 D7 EY xG HF7 z0 z1 y1 f1;obtain⟨r7,b7⟩:=q7;have x0:w8.cell? ⟨w.heap.size+1,0,none⟩=some (.string (T r7)):=D8.o.rd.cell 0;go_wp2_with fail;refine(bI _ _ _ _ D8.o.rd).mono ?_;rintro e w9 ⟨rfl,h9,m9⟩;simp only;rw[show(T r7).toList=r7 by simp[T]]at h9;have D9:=ai (D8.o.read h9 m9);have TF:af (ak w9 w5.heap.size #[.slice oM ms.length cM,.slice oF fs.length cF] 90):=TE.o.ag m9 (show ¬w5.heap.size=w.heap.size+1 by omega);have HM9:af (Sl w9 100 4 (.slice oM ms.length cM) ms.length (ms.flatMap az.cells)):=FV.o.ag m9 (λk hk e=>FV.o.au D8.o.rd (by decide) (hk.trans (congrArg some e)));have HF9:=ai (HF8.o.read D8.o.rd m9);clear h9 m9 D8 TE FV HF8 x0;have HQ:af (∃q8,aI r7.isEmpty ⟨r7,b7⟩=q8):=⟨_,rfl⟩
 obtain⟨⟨r8,b8⟩,hq8⟩:=HQ.o;rw[hq8]at D9;have HQ8:=ai hq8;clear hq8 HQ;have x1:w9.cell? ⟨w.heap.size+1,1,none⟩=some (.bool b8):=D9.o.rd.cell 1;have g0:w9.cell? ⟨w.heap.size,0,none⟩=some (.slice none 0 0):=D9.o.rs.cell 0;have g1:w9.cell? ⟨w.heap.size,1,none⟩=some (.slice none 0 0):=D9.o.rs.cell 1;have fg:=D9.o.rs.frozen;cases b8 with
 |true =>go_wp2_with fail;refine bodyPost_ret (aw results61 _ _ w.heap.size 90 _ (0,0) _ _ rfl rfl ((D9.o.rs.set 0 _).set 1 _) underlying90 rfl (by kernel_rfl)) rfl ?_;rw[HQ8.o];exact⟨_,_,[],rfl,(D9.o.md.set (.inr (ar _)) _).set (.inr (ar _)) _,⟨_,_,_,_,_,_,rfl,rfl⟩,λh=>(by cases h)⟩
 |false =>have z0:w9.cell? ⟨w5.heap.size,0,none⟩=some (.slice oM ms.length cM):=TF.o.cell 0;have z1:w9.cell? ⟨w5.heap.size,1,none⟩=some (.slice oF fs.length cF):=TF.o.cell 1;have HB:af (ak ((w9.setCell ⟨w.heap.size,0,none⟩ (.slice oM ms.length cM)).setCell ⟨w.heap.size,1,none⟩ (.slice oF fs.length cF)) w.heap.size #[.slice oM ms.length cM,.slice oF fs.length cF] 90):=(D9.o.rs.set 0 _).set 1 _;have eZ:af (aa (Only w.heap.size) w9 ((w9.setCell ⟨w.heap.size,0,none⟩ (.slice oM ms.length cM)).setCell ⟨w.heap.size,1,none⟩ (.slice oF fs.length cF))):=(ax.aY _ _).aY _ _;go_wp2_with fail;refine bodyPost_ret (aw results61 _ _ w.heap.size 90 _ (0,0) _ _ rfl rfl HB.o underlying90 rfl (by kernel_rfl)) rfl ?_;rw[HQ8.o];exact⟨_,_,vs,rfl,D9.o.md.step eZ.o (λi hi e=>by have:i=w.heap.size:=e;omega),⟨_,_,_,_,_,_,rfl,rfl⟩,λ_=>⟨HM9.o.ag eZ.o (λk hk e=>HM9.o.au D9.o.rs (by decide) (hk.trans (congrArg some e))),((HF9.o.ag eZ.o (λk hk e=>by have:=HF9.o.own k hk;have:k=w.heap.size:=e;omega) (λu hu k hk e=>by have:=HF9.o.l8 u hu k hk;have:k=w.heap.size:=e;omega)).lower (by omega))⟩⟩
theorem KU(w:tW)(wT:tW)(tv:Value)(bs:List Nat)(hT:aH 0 wT tv bs aq)(mT:aa ae wT w)(s:tLB)(hs:s.length<=maxLen):Calls prog 36 #[tv,.string (T s)] w λe w'=>mZ w bs (dP s) e w':=by
 have HD:af (∀w',aa ae w w'->Calls prog 61 #[tv,.int .i64 2,.string (T s),.func (.func 62) #[] #[]] w' λe w''=>mZ w' bs (dP s) e w''):=λw' m=>Iw w' wT tv bs hT (mT.trans m) s hs;clear hT mT;generalize dP s=d at *;have hB:ak (w.alloc (.cells #[.slice none 0 0,.slice none 0 0] 90)) w.heap.size #[.slice none 0 0,.slice none 0 0] 90:=ak.new _ _ _;have HB:=ai hB;clear hB;go_enter func36,ntmps36;go_wp2_with fail;refine(HD.o _ aj).mono ?_;rintro e w1 ⟨vM,vF,vs,rfl,m1,⟨oM,nM,cM,oF,nF,cF,rfl,rfl⟩,hgood⟩;have hB1:=HB.o.ag m1 id;have HB1:=ai hB1;have g0:w1.cell? ⟨w.heap.size,0,none⟩=some (.slice none 0 0):=hB1.cell 0;have g1:w1.cell? ⟨w.heap.size,1,none⟩=some (.slice none 0 0):=hB1.cell 1;have fg:=hB1.frozen;have dh:af (aa ae w w1):=aj.trans m1;have HG:af _:=hgood;clear m1 hB1 hgood;have eZ:af (aa (Only w.heap.size) w1 ((w1.setCell ⟨w.heap.size,0,none⟩ (.slice oM nM cM)).setCell ⟨w.heap.size,1,none⟩ (.slice oF nF cF))):=(ax.aY _ _).aY _ _;have Pm:af (ak ((w1.setCell ⟨w.heap.size,0,none⟩ (.slice oM nM cM)).setCell ⟨w.heap.size,1,none⟩ (.slice oF nF cF)) w.heap.size #[.slice oM nM cM,.slice oF nF cF] 90):=(HB1.o.set 0 _).set 1 _;go_wp2_with fail;refine bodyPost_ret (aw results36 _ _ w.heap.size 90 _ (0,0) _ (.bool (!d.2.2.bad)) rfl rfl Pm.o underlying90 rfl (by kernel_rfl)) rfl ?_;refine⟨.slice oM nM cM,.slice oF nF cF,vs,rfl,dh.o.step eZ.o (λi hi e=>by have:i=w.heap.size:=e;omega),⟨_,_,_,_,_,_,rfl,rfl⟩,λhb=>?_⟩;obtain⟨hM,hF⟩:=HG.o hb;have hws:(w.alloc (.cells #[.slice none 0 0,.slice none 0 0] 90)).heap.size=w.heap.size+1:=by simp
 rw[hws]at hF;exact⟨hM.ag eZ.o (λk hk e=>hM.au HB1.o (by decide) (hk.trans (congrArg some e))),(hF.ag eZ.o (λk hk e=>by have:=hF.own k hk;have:k=w.heap.size:=e;omega) (λu hu k hk e=>by have:=hF.l8 u hu k hk;have:k=w.heap.size:=e;omega)).lower (by omega)⟩
