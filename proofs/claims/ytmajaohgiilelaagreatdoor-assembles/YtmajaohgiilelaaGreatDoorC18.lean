import Derived.Test.YtmajaohgiilelaaGreatDoorC14
import Derived.Test.YtmajaohgiilelaaGreatDoorC04
import Derived.Test.YtmajaohgiilelaaGreatDoorC17
namespace Go.Proofs.YtmajaohgiilelaaGreatDoor
open Go.RowKit Tryz
open List renaming takeWhile_cons->an,isPrefixOf->ao
set_option linter.all false
set_option maxRecDepth 100000
set_option maxHeartbeats 4000000
structure Qm(wT:tW)(b:Nat)(o:eQ)(x l:tLB)(va:Option Addr)(vn vc:Nat)(k6:FuncId)(c6:tAV)(k8:FuncId)(c8:tAV):Prop where
 c1:∀w,aa af wT w->w.cell? ⟨b,1,none⟩=some (.slice va vn vc)
 c6':∀w,aa af wT w->w.cell? ⟨b,6,none⟩=some (.func (.func k6) #[] c6)
 c8':∀w,aa af wT w->w.cell? ⟨b,8,none⟩=some (.func (.func k8) #[] c8)
 ct:∀w,aa af wT w->Calls prog 135 #[.slice va vn vc,.string (T x)] w λe w'=>e=.returned (.bool (o.words.contains x))/\w'=w
 e6:Ul k6
 e8:Ul k8
 rd:∀w b',aa af wT w->wT.heap.size<=b'->(∀w'',aa (Only b') w w''->Env w'')->aq w b' ((Cr x l).cells (.pointer (some ⟨b,0,none⟩))) 209->l.length<=1000000->Calls prog k6 (#[.pointer (some ⟨b',0,none⟩)]++c6) w λe w''=>bK w b' (.pointer (some ⟨b,0,none⟩)) (o.read (Cr x l)) e w''
 nd:∀w (y:iw),aa af wT w->y.Fit->Calls prog k8 (#[.agg y.cells]++c8) w λe w''=>e=.returned (.bool (o.needs y))/\aa af w w''
theorem dM.does{wT:tW}{b:Nat}{o:eQ}(h:dM wT b o)(x l:tLB):∃va vn vc k6 c6 k8 c8,Qm wT b o x l va vn vc k6 c6 k8 c8:=by
 obtain⟨o1,n1,c1,f6,c6,k7,c7,k8,c8,f9,c9,hblk,RM⟩:=h.ex;have hw:=Gu o;obtain⟨k6,hf6,hen,hrd⟩:=RM.rd.ex;subst hf6
 exact⟨o1,n1,c1,k6,c6,k8,c8,{
  c1:=λw m=>(hblk.ah m id).cell 1
  c6':=λw m=>(hblk.ah m id).cell 6
  c8':=λw m=>(hblk.ah m id).cell 8
  ct:=λw m=>xA _ x _ w (RM.ws.ah m (λ_ _=>id)) hw.1 (by omega)
  e6:=hen
  e8:=RM.e8
  rd:=λw b' m _ hE hb hl=>hrd w b' _ (Cr x l) m.kp hE hb hl
  nd:=λw y m hy=>RM.nd w y m.kp hy}⟩
def bE.pins(op:Value)(r:bE):iw:=⟨op,r.d,r.s,r.jump,r.num,r.high,T r.label,T r.name⟩
theorem bE.sV.fit{r:bE}(h:r.sV)(op:Value):(r.pins op).Fit :=
 ⟨h.d,h.s,h.j0,h.j1,h.n0,h.n1,h.h0,h.h1,by show(T r.label).size<=100;rw[bZ];exact h.l,by show(T r.name).size<=300;rw[bZ];exact h.m⟩
theorem ain(wT w:tW)(v:Value)(bs:List Nat)(x l:tLB)(hO:aR 0 wT v bs ax)(m:aa af wT w)(hE:Env w)(hl:l.length<=1000000):Calls prog 79 #[v,.string (T x),.agg #[.string (T l)]] w λe w'=>uV w bs (kL x l) e w':=by
 have hO1:=hO.ah m;obtain⟨o,c,rfl,hcell⟩:=KF hO1;have HDO:ae (∀k (hk:k<ax.length),∃va vn vc k6 c6 k8 c8,Qm w (bs[k]?.getD 0) ax[k] x l va vn vc k6 c6 k8 c8):=λk hk=>(Vz hO1 k hk).does x l;have HC:=ak hcell;have ac2:ax.length=88:=rO;have HST:ae (∀k (hk:k<ax.length),ahR x l k (ax.drop k)=match xV ax[k] x l k with|some y=>some y|none=>ahR x l (k+1) (ax.drop (k+1))):=λk hk=>E6 x l k hk;have Jg:ae (ahR x l ax.length (ax.drop ax.length)=none):=by rw[ae,List.drop_length];rfl
 have ac5:ae (kL x l=ahR x l 0 (ax.drop 0)):=rfl;have HOO:ae (∀k (hk:k<ax.length),(bH.o ⟨k,Cr x l⟩)=ax[k]):=λk hk=>by simp[bH.o,hk]
 have HE:=ak hE;clear hO hO1 m hcell hE;have Ur:ae (∀e w',kL x l=none->aa af w w'->e=.returned (.tuple #[.agg zz,.bool false,.bool false])->uV w bs (kL x l) e w'):=λe w' h1 h2 h3=>⟨h2,by rw[h1];exact h3⟩
 have HPS:ae (∀e w' y,kL x l=some y->aa af w w'->e=.returned (.tuple #[.agg (y.cells bs),.bool y.fits,.bool true])->uV w bs (kL x l) e w'):=λe w' y h1 h2 h3=>⟨h2,by rw[h1];exact h3⟩
 generalize uV w bs (kL x l)=RP at *;generalize kL x l=rp at *;have YU:ae (aq ((w.alloc (.cells #[.string (T l)] 155)).alloc (.cells zz 117)) w.heap.size #[.string (T l)] 155):=(aq.new w _ _).alloc _
 have iy:ae (aq ((w.alloc (.cells #[.string (T l)] 155)).alloc (.cells zz 117)) (w.heap.size+1) zz 117):=by
  have:=aq.new (w.alloc (.cells #[.string (T l)] 155)) zz 117
  simpa [ae]using this
 have gq:ae (aa af w ((w.alloc (.cells #[.string (T l)] 155)).alloc (.cells zz 117))):=((aa.refl _ _).alloc _).alloc _;go_enter func79,ntmps79;go_upto_block 0 with fail;unfold zz at YU iy gq;generalize(w.alloc (.cells #[.string (T l)] 155)).alloc (.cells #[.pointer none,.int .u8 0,.int .u8 0,.int .i16 0,.int .i32 0,.int .i32 0,.string ⟨#[]⟩,.string ⟨#[]⟩] 117)=w1 at *;obtain⟨F,hF⟩:∃F:Nat->Option bH,∀k,ahR x l k (ax.drop k)=F k:=⟨_,λ_=>rfl⟩
 have ac6:ae (∀k (hk:k<ax.length),F k=match xV ax[k] x l k with|some y=>some y|none=>F (k+1)):=λk hk=>by have:=HST.o k hk;rw[hF,hF]at this;exact this
 have abp:ae (F ax.length=none):=by rw[ae,<-hF];exact Jg.o
 have ac7:ae (rp=F 0):=by rw[ae,<-hF];exact ac5.o
 clear hF HST Jg ac5;have ahe:=ak iy.o.lt;generalize hLb:w.heap.size=Lb at *;generalize hRb:Lb+1=Rb at *;have HLR:ae (Lb≠Rb):=by rw[ae];omega
 go_wp2_with fail;go_loopg [14] ax.length (λq v wx=>∃k:Nat,k<=ax.length/\v=.int .i64 k/\aq wx Lb #[.string (T l)] 155/\aq wx Rb #[.pointer none,.int .u8 0,.int .u8 0,.int .i16 0,.int .i32 0,.int .i32 0,.string ⟨#[]⟩,.string ⟨#[]⟩] 117/\aa af w wx/\rp=F k/\q=ax.length-k)
 case atStart=>exact⟨0,Nat.zero_le _,rfl,YU.o,iy.o,gq.o,ac7.o,rfl⟩
 case round =>
  obtain⟨k,hk,rfl,hlb,hrb,hmk,hrk,rfl⟩:=hrel;have HLk:=ak hlb;have wU:=ak hrb;have uk:=ak hmk;have HFk:=ak hrk;clear hlb hrb hmk hrk YU iy gq ac7;by_cases hlt:k<ax.length
  ·obtain⟨va,vn,vc,k6,c6,k8,c8,HD⟩:=HDO.o k hlt;have HT:=ak (ac6.o k hlt);have HOk:ae (∀r,bH.o ⟨k,r⟩=ax[k]):=λr=>by simp[bH.o,hlt]
   obtain⟨g,rfl,hg⟩:=HC.o k hlt;have q0:=hg wr uk.o;have q1:=HD.c1 wr uk.o;have KP:=ak HD;have Yf:ae (Calls prog 135 #[.slice va vn vc,.string (T x)] wr λe w'=>e=.returned (.bool (ax[k].words.contains x))/\w'=wr):=HD.ct wr uk.o;clear HD hg HC HDO ac6 abp HOO;generalize ax[k]=ok at *;generalize hbk:bs[k]?.getD 0=bk at *;cases hc:ok.words.contains x with
   |false =>
    have HN:ae (rp=F (k+1)):=by rw[ae,HFk.o,HT.o,xV,hc];rfl
    go_wp2_with fail;refine Yf.o.mono ?_;rintro e w2 ⟨rfl,rfl⟩;rw[hc];go_wp2_with fail;go_roundg (ax.length-(k+1))
    case measure=>omega
    case rel=>exact⟨k+1,by omega,by go_num,HLk.o,wU.o,uk.o,HN.o,rfl⟩
   |true =>
    have HTR:ae (xV ok x l k=match ok.read (Cr x l)with|none=>none|some r=>if aw r.rest=[]then some ⟨k,{r with rest:=[]}⟩else none):=by rw[ae,xV,iP9 hc];rfl
    have y0:wr.cell? ⟨Lb,0,none⟩=some (.string (T l)):=HLk.o.cell 0;have q6:∀cs t,(wr.alloc (.cells cs t)).cell? ⟨bk,6,none⟩=some (.func (.func k6) #[] c6):=λcs t=>KP.o.c6' _ (uk.o.alloc _);have hen:=KP.o.e6;unfold Ul at hen;go_wp2_with fail;refine Yf.o.mono ?_;rintro e w2 ⟨rfl,rfl⟩;rw[hc];go_wp2_with fail;have HB3:ae (aq (w2.alloc (.cells ((Cr x l).cells (.pointer (some ⟨bk,0,none⟩))) 209)) w2.heap.size ((Cr x l).cells (.pointer (some ⟨bk,0,none⟩))) 209):=aq.new _ _ _;have fw:ae (∀cs t,aa af w (w2.alloc (.cells cs t))):=λcs t=>uk.o.alloc _;have xC:ae (∀cs t,aq (w2.alloc (.cells cs t)) Lb #[.string (T l)] 155):=λcs t=>HLk.o.alloc _;have EP:ae (∀cs t,aq (w2.alloc (.cells cs t)) Rb #[.pointer none,.int .u8 0,.int .u8 0,.int .i16 0,.int .i32 0,.int .i32 0,.string ⟨#[]⟩,.string ⟨#[]⟩] 117):=λcs t=>wU.o.alloc _;have hLl:Lb<w2.heap.size:=HLk.o.lt;have hRl:Rb<w2.heap.size:=wU.o.lt;have hws:w.heap.size<=w2.heap.size:=uk.o.size;refine(KP.o.rd _ w2.heap.size (fw.o _ _) hws (λw'' m=>HE.o.ah ((fw.o _ _).step m (λi hi e=>by have:i=w2.heap.size:=e;omega))) HB3.o hl).mono ?_;intro e w3 hpo;obtain⟨rfl,zG,hat⟩:=hpo;generalize hBB:w2.heap.size=B at *;have jJ:ae (aa af w w3):=(fw.o _ _).step zG (λi hi e=>by have:i=B:=e;omega);have BH:ae (aq w3 Lb #[.string (T l)] 155):=(xC.o _ _).ah zG (λe=>by have:Lb=B:=e;omega);have AP:ae (aq w3 Rb #[.pointer none,.int .u8 0,.int .u8 0,.int .i16 0,.int .i32 0,.int .i32 0,.string ⟨#[]⟩,.string ⟨#[]⟩] 117):=(EP.o _ _).ah zG (λe=>by have:Rb=B:=e;omega);have HAT:=ak hat;clear zG hat HB3 fw xC EP Yf y0 q6 hen q0 q1 HLk wU uk;cases hx:ok.read (Cr x l)with
    |none =>
     have HN:ae (rp=F (k+1)):=by rw[ae,HFk.o,HT.o,HTR.o,hx]
     go_wp2_with fail;go_roundg (ax.length-(k+1))
     case measure=>omega
     case rel=>exact⟨k+1,by omega,by go_num,BH.o,AP.o,jJ.o,HN.o,rfl⟩
    |some r1 =>
     have hb1:=HAT.o r1 hx;have HF1:ae r1.sV:=RN ok _ r1 hx (VE x l);have CP:ae (Calls prog 72 #[.pointer (some ⟨B,1,none⟩)] w3 λe w'=>e=.returned (.bool (decide (aw r1.rest=[])))/\aN w3 B 1 (r1.cells (.pointer (some ⟨bk,0,none⟩))) 209 (aw r1.rest) w'):=kW B 1 _ _ r1.rest w3 (nu hb1);clear hb1 HAT;by_cases hd:aw r1.rest=[]
     ·have HN:ae (rp=some ⟨k,{r1 with rest:=[]}⟩):=by rw[ae,HFk.o,HT.o,HTR.o,hx];dsimp only;rw[iP9 hd]
      have HFI:ae ((bH.mk k {r1 with rest:=[]}).fits=(!r1.far&&ok.needs (r1.pins (.pointer (some ⟨bk,0,none⟩))))):=by unfold bH.fits;rw[HOk.o];exact congrArg _ (RO ok _ _ ⟨rfl,rfl,rfl,rfl,rfl⟩)
      have HYC:ae ((bH.mk k {r1 with rest:=[]}).cells bs=(r1.pins (.pointer (some ⟨bk,0,none⟩))).cells):=by unfold bH.cells;dsimp only;rw[hbk];rfl
      rw[hd]at CP;go_wp2_with fail;refine CP.o.mono ?_;rintro e w4 ⟨rfl,CQ⟩;have yL:=ak CQ.rd;have mU:ae (aa af w w4):=jJ.o.step CQ.2 (λi hi e=>by have:i=B:=e;omega);have xW:ae (aq w4 Rb #[.pointer none,.int .u8 0,.int .u8 0,.int .i16 0,.int .i32 0,.int .i32 0,.string ⟨#[]⟩,.string ⟨#[]⟩] 117):=AP.o.ah CQ.2 (λe=>by have:Rb=B:=e;omega);clear CQ CP jJ BH AP;have hBR:¬Only Rb B:=λe=>by have:B=Rb:=e;omega
      have HMg:ae (∀g:Ext (Only Rb) w4,aa af w g.w):=λg=>mU.o.step g.m (λi hi e=>by have:i=Rb:=e;omega);have e2:∀g:Ext (Only Rb) w4,g.w.cell? ⟨B,2,none⟩=some (.pointer (some ⟨bk,0,none⟩)):=λg=>g.cell yL.o hBR 2;have e3:∀g:Ext (Only Rb) w4,g.w.cell? ⟨B,3,none⟩=some (.int .u8 r1.d):=λg=>g.cell yL.o hBR 3;have e4:∀g:Ext (Only Rb) w4,g.w.cell? ⟨B,4,none⟩=some (.int .u8 r1.s):=λg=>g.cell yL.o hBR 4;have e5:∀g:Ext (Only Rb) w4,g.w.cell? ⟨B,5,none⟩=some (.int .i16 r1.jump):=λg=>g.cell yL.o hBR 5;have e6:∀g:Ext (Only Rb) w4,g.w.cell? ⟨B,6,none⟩=some (.int .i32 r1.num):=λg=>g.cell yL.o hBR 6;have e7:∀g:Ext (Only Rb) w4,g.w.cell? ⟨B,7,none⟩=some (.int .i32 r1.high):=λg=>g.cell yL.o hBR 7;have e8:∀g:Ext (Only Rb) w4,g.w.cell? ⟨B,8,none⟩=some (.string (T r1.label)):=λg=>g.cell yL.o hBR 8;have e9:∀g:Ext (Only Rb) w4,g.w.cell? ⟨B,9,none⟩=some (.string (T r1.name)):=λg=>g.cell yL.o hBR 9;have e10:∀g:Ext (Only Rb) w4,g.w.cell? ⟨B,10,none⟩=some (.bool r1.far):=λg=>g.cell yL.o hBR 10;have c8e:∀g:Ext (Only Rb) w4,g.w.cell? ⟨bk,8,none⟩=some (.func (.func k8) #[] c8):=λg=>KP.o.c8' g.w (HMg.o g);have ne1:=Ext.ne (Only Rb) w4;have aeB:=KP.o.e8;unfold Ul at aeB;have HND:ae (∀g:Ext (Only Rb) w4,Calls prog k8 (#[.agg #[.pointer (some ⟨bk,0,none⟩),.int .u8 r1.d,.int .u8 r1.s,.int .i16 r1.jump,.int .i32 r1.num,.int .i32 r1.high,.string (T r1.label),.string (T r1.name)]]++c8) g.w λe w''=>e=.returned (.bool (ok.needs (r1.pins (.pointer (some ⟨bk,0,none⟩)))))/\aa af g.w w''):=λg=>KP.o.nd g.w (r1.pins (.pointer (some ⟨bk,0,none⟩))) (HMg.o g) (HF1.o.fit _);have ac8:ae (∀w' fi,aa af w w'->(!r1.far&&ok.needs (r1.pins (.pointer (some ⟨bk,0,none⟩))))=fi->RP (.returned (.tuple #[.agg #[.pointer (some ⟨bk,0,none⟩),.int .u8 r1.d,.int .u8 r1.s,.int .i16 r1.jump,.int .i32 r1.num,.int .i32 r1.high,.string (T r1.label),.string (T r1.name)],.bool fi,.bool true])) w'):=λw' fi hm hfi=>by refine HPS.o _ w' _ HN.o hm ?_;rw[HFI.o,hfi,HYC.o];rfl
      clear yL HMg KP HPS HFI HYC Ur HT HTR HOk HN HFk;generalize ok.needs (r1.pins (.pointer (some ⟨bk,0,none⟩)))=nq at *;go_upto_region 7 with fail;generalize r1.far=fr at *;cases fr with
      |false =>
       refine aZ [12,14] (λw'=>∃e:Ext (Only Rb) w4,w'=e.w) (by kernel_rfl) (by kernel_rfl) (by kernel_rfl) ⟨⟨_,(aa.refl _ _).drew⟩,rfl⟩ ?_
       iterate 6 (refine aB rfl rfl rfl ?_;intro K hK;go_big_quiet_op;go_big_quiet_on)
       refine eU rfl rfl rfl ?_;intro K hK;go_big_quiet_op;go_big_quiet_on;refine jU rfl rfl _ ⟨bk,0,none⟩ rfl rfl ?_;simp only[Act.put,sA9,sB9,sC9]
       iterate 4 (refine eU rfl rfl rfl ?_;intro K hK;go_big_quiet_op;go_big_quiet_on)
       refine Du rfl rfl ?_;intro K hK;go_big_op;refine(HND.o ⟨w4.drew,(aa.refl _ _).drew⟩).mono ?_;rintro e w5 ⟨rfl,m5⟩;have E5:ae (aa af w w5):=(mU.o.drew).trans m5;have HR6:ae (aq w5 Rb #[.pointer none,.int .u8 0,.int .u8 0,.int .i16 0,.int .i32 0,.int .i32 0,.string ⟨#[]⟩,.string ⟨#[]⟩] 117):=(xW.o.drew).ah m5 id;have X5:ae (aa (Only Rb) w4 w5):=((aa.refl _ _).drew).trans m5.of_nil;refine hK _ _ rfl ⟨⟨_,X5.o⟩,rfl⟩ ?_;clear hK K m5 mU xW HND
       try simp only[Act.put,sA9,sB9,sC9]
       refine jV rfl rfl _ _ _ _ rfl rfl ?_;simp only[Act.put,Act.eval,sA9,sB9,sC9];obtain⟨r0,r1',r2,r3,r4,r5,r6,r7⟩:=HR6.o.eY;have rf:=HR6.o.frozen;refine aF rfl rfl ?_;intro K hK;go_big_op;refine hK _ _ rfl ⟨⟨_,aa.Ih X5.o (.inl rfl) _ _ _ _ _ _ _ _⟩,rfl⟩ ?_;clear hK K r0 r1' r2 r3 r4 r5 r6 r7 rf
       try simp only[Act.put,sA9,sB9,sC9]
       iterate 2 (refine aB rfl rfl rfl ?_;intro K hK;go_big_quiet_op;go_big_quiet_on)
       refine cu ?_
       try simp only[Exit.then]
       go_wp2_with fail;refine bodyPost_ret (lg results79 _ _ Rb 117 _ (0,0) _ _ _ rfl rfl rfl (aq.Ih HR6.o _ _ _ _ _ _ _ _) underlying117 rfl (by kernel_rfl)) rfl ?_;exact ac8.o _ _ (aa.Ih E5.o (.inr (by omega)) _ _ _ _ _ _ _ _) (by simp)
      |true =>
       have E5:=ak mU.o.drew;have HR6:=ak xW.o.drew;have X5:ae (aa (Only Rb) w4 w4.drew):=(aa.refl _ _).drew;clear mU xW HND;refine aZ [12,14] (λw'=>∃e:Ext (Only Rb) w4,w'=e.w) (by kernel_rfl) (by kernel_rfl) (by kernel_rfl) ⟨⟨_,(aa.refl _ _).drew⟩,rfl⟩ ?_
       change ahN _ _ _ _ _ _ _ _ w4.drew
       generalize w4.drew=W at *
       iterate 6 (refine aB rfl rfl rfl ?_;intro K hK;go_big_quiet_op;go_big_quiet_on)
       iterate 7 (refine uW rfl ?_;simp only[Act.put,sA9,sB9,sC9])
       refine jV rfl rfl _ _ _ _ rfl rfl ?_;simp only[Act.put,Act.eval,sA9,sB9,sC9];obtain⟨r0,r1',r2,r3,r4,r5,r6,r7⟩:=HR6.o.eY;have rf:=HR6.o.frozen;refine aF rfl rfl ?_;intro K hK;go_big_op;refine hK _ _ rfl ⟨⟨_,aa.Ih X5.o (.inl rfl) _ _ _ _ _ _ _ _⟩,rfl⟩ ?_;clear hK K r0 r1' r2 r3 r4 r5 r6 r7 rf
       try simp only[Act.put,sA9,sB9,sC9]
       iterate 2 (refine aB rfl rfl rfl ?_;intro K hK;go_big_quiet_op;go_big_quiet_on)
       refine cu ?_
       try simp only[Exit.then]
       go_wp2_with fail;refine bodyPost_ret (lg results79 _ _ Rb 117 _ (0,0) _ _ _ rfl rfl rfl (aq.Ih HR6.o _ _ _ _ _ _ _ _) underlying117 rfl (by kernel_rfl)) rfl ?_;exact ac8.o _ _ (aa.Ih E5.o (.inr (by omega)) _ _ _ _ _ _ _ _) (by simp)
     ·have HN:ae (rp=F (k+1)):=by rw[ae,HFk.o,HT.o,HTR.o,hx];dsimp only;rw[iN9 hd]
      have hd':decide (aw r1.rest=[])=false:=by simpa using hd
      rw[hd']at CP;go_wp2_with fail;refine CP.o.mono ?_;rintro e w4 ⟨rfl,CQ⟩;have mU:ae (aa af w w4):=jJ.o.step CQ.2 (λi hi e=>by have:i=B:=e;omega);have HL5:ae (aq w4 Lb #[.string (T l)] 155):=BH.o.ah CQ.2 (λe=>by have:Lb=B:=e;omega);have xW:ae (aq w4 Rb #[.pointer none,.int .u8 0,.int .u8 0,.int .i16 0,.int .i32 0,.int .i32 0,.string ⟨#[]⟩,.string ⟨#[]⟩] 117):=AP.o.ah CQ.2 (λe=>by have:Rb=B:=e;omega);clear CQ CP jJ BH AP;go_wp2_with fail;go_roundg (ax.length-(k+1))
      case measure=>omega
      case rel=>exact⟨k+1,by omega,by go_num,HL5.o,xW.o,mU.o,HN.o,rfl⟩
  ·have hke:k=ax.length:=by omega
   have HN:ae (rp=none):=by rw[ae,HFk.o,hke];exact abp.o
   have r0:=wU.o.eY;obtain⟨r0,r1,r2,r3,r4,r5,r6,r7⟩:=r0;have rf:=wU.o.frozen;go_wp2_with fail;refine bodyPost_ret (lg results79 _ _ Rb 117 _ (0,0) _ _ _ rfl rfl rfl (aq.Ih wU.o _ _ _ _ _ _ _ _) underlying117 rfl (by kernel_rfl)) rfl ?_;exact Ur.o _ _ HN.o (aa.Ih uk.o (.inr (by omega)) _ _ _ _ _ _ _ _) rfl
theorem aab(wT w:tW)(v:Value)(bs:List Nat)(x:tLB)(hO:aR 0 wT v bs ax)(m:aa af wT w)(hE:Env w)(hx:x.length<=1000000):Calls prog 76 #[v,.string (T x)] w λe w'=>e=.returned (.bool (eu x))/\aa af w w':=by
 have HR:ae (Calls prog 132 #[.string (T x)] w λe w'=>e=.returned (.bool (bC x).isSome)/\aa af w w'):=Q7 x w hE hx;have HB:ae (∀w',aa af w w'->Calls prog 133 #[v,.string (T x)] w' λe w''=>e=.returned (.bool (gj x))/\w''=w'):=λw' m'=>MX wT w' v bs x hO (m.trans m');have HX:ae (eu x=(x==[109,97,112]||x==[102,117,110,99]||(bC x).isSome||gj x)):=rfl;obtain⟨o,c,rfl,_⟩:=hO.sl.view;generalize eu x=rx at *;generalize(bC x).isSome=rr at *;generalize gj x=bb at *;by_cases h1:x=[109,97,112]
 ·have hq:((T x).toList==[109,97,112])=true:=dX (by rw[h1]);have uH:ae (rx=true):=by rw[ae,HX.o,h1];rfl
  clear h1;go_enter func76,ntmps76;go_wp2_with fail;go_ret;rw[uH.o];exact⟨rfl,aa.refl _ _⟩
 ·have hq:((T x).toList==[109,97,112])=false:=dK (λe=>h1 (qo e));have hb1:(x==[109,97,112])=false:=by simpa using h1
  by_cases h2:x=[102,117,110,99]
  ·have hq2:((T x).toList==[102,117,110,99])=true:=dX (by rw[h2]);have uH:ae (rx=true):=by rw[ae,HX.o,h2];rfl
   clear h1 h2 hb1;go_enter func76,ntmps76;go_wp2_with fail;go_ret;rw[uH.o];exact⟨rfl,aa.refl _ _⟩
  ·have hq2:((T x).toList==[102,117,110,99])=false:=dK (λe=>h2 (qo e));have hb2:(x==[102,117,110,99])=false:=by simpa using h2
   have uH:ae (rx=(rr||bb)):=by rw[ae,HX.o,hb1,hb2];rfl
   clear HX hb1 hb2 h1 h2;cases rr with
   |true =>go_enter func76,ntmps76;go_wp2_with fail;refine HR.o.mono ?_;rintro e w1 ⟨rfl,m1⟩;go_wp2_with fail;go_ret;rw[uH.o];exact⟨rfl,m1⟩
   |false =>go_enter func76,ntmps76;go_wp2_with fail;refine HR.o.mono ?_;rintro e w1 ⟨rfl,m1⟩;go_wp2_with fail;refine(HB.o _ m1).mono ?_;rintro e w2 ⟨rfl,rfl⟩;go_wp2_with fail;go_ret;rw[uH.o];exact⟨rfl,m1⟩
def lV(w:tW):Prop:=∃m,w.cell? ⟨1,0,none⟩=some (.int .i64 m)
theorem cell_kept{w w':tW}(m:aa af w w'){b i:Nat}{v:Value}(h:w.cell? ⟨b,i,none⟩=some v):w'.cell? ⟨b,i,none⟩=some v:=by
 unfold World.cell? at *;by_cases hb:b<w.heap.size
 ·simp only at *;rw[m.block b hb id];exact h
 ·simp only at h;rw[Array.getElem?_eq_none (by omega)]at h;cases h
theorem lV.ah{w w':tW}(h:lV w)(m:aa af w w'):lV w':=by obtain⟨x,hx⟩:=h;exact⟨x,cell_kept m hx⟩
theorem xD(p:UInt8->Bool):∀l:tLB,(∀d∈l,p d=true)->l.takeWhile p=l
 |[],_=>rfl
 |c::l,h=>by rw[an,iP9 (h c (by simp)),xD p l (λd hd=>h d (by simp[hd]))]
theorem index_one(l:tLB)(c:UInt8):(Lib.index l [c]=-1/\∀d∈l,d≠c)\/(∃k:Nat,Lib.index l [c]=k/\l.takeWhile (λd=>d != c)=l.take k/\k<l.length):=by
 induction l with
 |nil=>left;exact⟨rfl,by simp⟩
 |cons b l ih =>
  rw[Lib.index];by_cases h:b=c
  ·right;subst h;refine⟨0,?_,by simp[an],by simp⟩;rw[iP9 (by simp[ao])];rfl
  ·have hp:ao [c] (b::l)=false:=by simp only[ao,Bool.and_true,beq_eq_false_iff_ne];exact λe=>h e.symm
   rw[iN9 (by simp[hp])];rcases ih with⟨h1,h2⟩ |⟨k,h1,h2,h3⟩
   ·left;refine⟨by rw[h1];rfl,?_⟩;intro d hd;rcases List.mem_cons.1 hd with rfl|hd
    ·exact h
    ·exact h2 d hd
   ·right;refine⟨k+1,?_,?_,by simpa using h3⟩
    ·rw[h1,iN9 (by simp)];rfl
    ·rw[an,iP9 (by simpa using h),h2];rfl
theorem VP(l:tLB)(c:UInt8):(Lib.cut l [c]).1=l.takeWhile (λd=>d != c):=by
 unfold Lib.cut;rcases index_one l c with⟨h1,h2⟩ |⟨k,h1,h2,h3⟩
 ·rw[h1,iN9 (by decide)];show l=_
  symm
  exact xD _ l (λd hd=>by simpa using h2 d hd)
 ·rw[h1,iP9 (by omega),h2];simp
theorem VQ(l:tLB)(w:tW)(hM:lV w)(hl:l.length<=1000000):Calls prog 128 #[.string (T l),.string ⟨#[59]⟩] w λe w'=>(∃a b,e=.returned (.tuple #[.string (T (l.takeWhile (λd=>d != 59))),.string a,.bool b]))/\aa af w w':=by
 obtain⟨m,hm⟩:=hM;have h:=Any.strings_Cut lcu (T l) ⟨#[59]⟩ m w (by rw[bZ];omega) hm;have e:∀l,(T l).data.toList=l:=λl=>by simp[T]
 rw[e,VP]at h;exact h.mono (λ_ _ ⟨he,n,hw⟩=>⟨⟨_,_,he⟩,by rw[hw];exact(aa.refl _ _).drewN n⟩)
def pg(c:UInt8):Bool:=decide (32<=(c.toNat:Int))&&decide ((c.toNat:Int)<=126)
theorem aac{l:tLB}(h:∀d∈l,pg d=true):fP l=some (l.takeWhile (λc=>c != 59)):=by unfold fP;exact iP9 (List.all_eq_true.2 h)
theorem aad{l:tLB}{k:Nat}(hk:k<l.length)(h:pg l[k]=false):fP l=none:=by unfold fP;rw[iN9];intro e;have:=List.all_eq_true.1 e l[k] (List.getElem_mem hk);have h2:pg l[k]=true:=this;rw[h]at h2;cases h2
theorem wu(t:tLB)(w:tW)(hM:lV w)(hl:t.length<=1000000):Calls prog 71 #[.string (T t)] w λe w'=>e=.returned (.tuple #[.agg #[.string (T ((fP t).getD []))],.bool (fP t).isSome])/\aa af w w':=by
 have AQ:ae (∀k (hk:k<t.length),pg t[k]=false->fP t=none):=λk hk h=>aad hk h;have Yd:ae ((∀d∈t,pg d=true)->fP t=some (t.takeWhile (λc=>c != 59))):=aac;have HCU:ae (∀w',lV w'->Calls prog 128 #[.string (T t),.string ⟨#[59]⟩] w' λe w''=>(∃a b,e=.returned (.tuple #[.string (T (t.takeWhile (λd=>d != 59))),.string a,.bool b]))/\aa af w' w''):=λw' h=>VQ t w' h hl;have HM:=ak hM;clear hM;generalize fP t=nl at *;generalize t.takeWhile (λc=>c != 59)=tw at *;have hs:(T t).size=t.length:=bZ t;have iy:ae (aq (w.alloc (.cells #[.string ⟨#[]⟩] 155)) w.heap.size #[.string ⟨#[]⟩] 155):=aq.new w _ _;have gq:ae (aa af w (w.alloc (.cells #[.string ⟨#[]⟩] 155))):=(aa.refl _ _).alloc _;go_enter func71,ntmps71;go_wp2_with fail;go_loop [10] (λv=>∃k:Nat,k<=t.length/\v=.int .i64 k/\∀j (hj:j<k) (h:j<t.length),pg t[j]=true) (λv=>t.length-(intOf v).toNat)
 case atStart=>exact⟨0,Nat.zero_le _,rfl,λj hj=>absurd hj (Nat.not_lt_zero _)⟩
 case round =>
  obtain⟨k,hk,rfl,hj⟩:=hrel;have HJ:=ak hj;clear hj;by_cases hlt:k<t.length
  ·have hg:(T t)[k]'(by rw[hs];exact hlt)=t[k]:=rfl;have hb:=(t[k]).toNat_lt;have HBO:ae (pg t[k]=(decide (32<=((t[k]).toNat:Int))&&decide (((t[k]).toNat:Int)<=126))):=rfl;have HN:=ak (AQ.o k hlt)
   have KG:ae (pg t[k]=true->∀j (hj:j<k+1) (h:j<t.length),pg t[j]=true):=λhc j hj h=>by
    rcases Nat.lt_or_ge j k with e|e
    ·exact HJ.o j e h
    ·have:j=k:=by omega
     subst this;exact hc
   generalize AR:pg t[k]=bo at *;by_cases h1:(t[k]).toNat<32
   ·have h1':((t[k]).toNat:Int)<32:=by omega
    have HX:ae (nl=none):=HN.o (by rw[HBO.o,decide_eq_false (by omega)];rfl);clear HN KG HBO;go_wp2_with fail;refine bodyPost_ret (au results71 _ _ w.heap.size 155 _ (0,0) _ _ rfl rfl iy.o underlying155 rfl (by kernel_rfl)) rfl ⟨?_,gq.o⟩;rw[HX.o];rfl
   ·have h1':decide (((t[k]).toNat:Int)<32)=false:=by simp;omega
    by_cases h2:126<(t[k]).toNat
    ·have h2':(126:Int)<((t[k]).toNat:Int):=by omega
     have HX:ae (nl=none):=HN.o (by rw[HBO.o,decide_eq_false (show ¬((t[k]).toNat:Int)<=126 by omega),Bool.and_false]);clear HN KG HBO;go_wp2_with fail;refine bodyPost_ret (au results71 _ _ w.heap.size 155 _ (0,0) _ _ rfl rfl iy.o underlying155 rfl (by kernel_rfl)) rfl ⟨?_,gq.o⟩;rw[HX.o];rfl
    ·have h2':decide ((126:Int)<((t[k]).toNat:Int))=false:=by simp;omega
     have HJ3:ae (∀j (hj:j<k+1) (h:j<t.length),pg t[j]=true):=KG.o (by rw[HBO.o,decide_eq_true (by omega),decide_eq_true (by omega)];rfl);clear HN KG HBO;go_wp2_with fail;go_round
     case rel=>exact⟨k+1,by omega,by go_num,HJ3.o⟩
     case measure=>simp[intOf];omega
  ·have HX:ae (nl=some tw):=Yd.o (λd hd=>by obtain⟨j,hj,rfl⟩:=List.getElem_of_mem hd;exact HJ.o j (by omega) hj);go_wp2_with fail;refine(HCU.o _ (HM.o.ah gq.o)).mono ?_;rintro e w1 ⟨⟨sa,sb,rfl⟩,m1⟩;have Ap:=ak (iy.o.ah m1 id);have iG:=ak (gq.o.trans m1);have z0:w1.cell? ⟨w.heap.size,0,none⟩=some (.string ⟨#[]⟩):=Ap.o.cell 0;have zf:=Ap.o.frozen;clear m1 iy gq;go_wp2_with fail;refine bodyPost_ret (au results71 _ _ w.heap.size 155 _ (0,0) _ _ rfl rfl (Ap.o.set 0 _) underlying155 rfl (by kernel_rfl)) rfl ⟨?_,iG.o.set (.inr (Nat.le_refl _)) _⟩;rw[HX.o];rfl
def ay:aA:=⟨0,false⟩
def ES(k:Nat)(nm:tBA)(a b c:aA)(op:Value)(d s:Nat)(j n h:Int)(lb nn:tBA)(f:Bool):tAV :=
 #[.int .i64 k,.string nm,.bool a.minus,.int .u64 ((a.v%18446744073709551616:Nat):Int),.bool (decide (18446744073709551616<=a.v)),.bool b.minus,.int .u64 ((b.v%18446744073709551616:Nat):Int),.bool (decide (18446744073709551616<=b.v)),
  .bool c.minus,.int .u64 ((c.v%18446744073709551616:Nat):Int),.bool (decide (18446744073709551616<=c.v)),op,.int .u8 d,.int .u8 s,.int .i16 j,.int .i32 n,.int .i32 h,.string lb,.string nn,.bool f]
theorem eF(k:Nat)(nm:tBA)(a b c:aA)(op:Option Addr)(d s:Nat)(j n h:Int)(lb nn:tBA)(f:Bool):(ES k nm a b c (.pointer op) d s j n h lb nn f).all (·.oneCell')=true:=by simp[ES,Value.oneCell']
def gx(k:Nat)(nm:tBA)(a b c:aA):tAV:=ES k nm a b c (.pointer none) 0 0 0 0 0 ⟨#[]⟩ ⟨#[]⟩ false
def bV.cells(bs:List Nat)(x:bV):tAV :=
 if x.kind=4 then ES 4 ⟨#[]⟩ ay ay ay (.pointer (some ⟨bs[x.x.k]?.getD 0,0,none⟩)) x.x.r.d x.x.r.s x.x.r.jump x.x.r.num x.x.r.high (T x.x.r.label) (T x.x.r.name) x.x.fits
 else gx x.kind (T x.name) (x.ns.getD 0 ay) (x.ns.getD 1 ay) (x.ns.getD 2 ay)
def aQ(w:tW)(bs:List Nat)(o:Option bV)(e:Ending)(w':tW):Prop :=
 aa af w w'/\match o with
  |some x=>e=.returned (.tuple #[.agg (x.cells bs),.bool true])
  |none=>∃k nm a b c op d s j n h lb nn f,e=.returned (.tuple #[.agg (ES k nm a b c (.pointer op) d s j n h lb nn f),.bool false])
def DD(nm:tLB)(a b c:aA)(l:tLB):Option bV:=if aw l=[]then some {kind:=1,name:=nm,ns:=[a,b,c]}else none
def nA(nm:tLB)(k:Nat)(a b c:aA)(l:tLB):Option bV :=
 if k=0 then(bJ l).bind λx=>(bJ x.2).bind λy=>(bJ y.2).bind λz=>DD nm x.1 y.1 z.1 z.2
 else if k=1 then(bJ l).bind λy=>(bJ y.2).bind λz=>DD nm a y.1 z.1 z.2
 else if k=2 then(bJ l).bind λz=>DD nm a b z.1 z.2
 else DD nm a b c l
theorem VR(l:tLB):fH l=if ahI (aC l).1 then nA (aC l).1 0 ay ay ay (aC l).2 else none:=by unfold fH nA DD;rfl
theorem aq.Nf{w:tW}{z i:Nat}{t:TypeId}{cs ds:tAV}(h:aq w z cs t)(v0 v1 v2:Value)(hd:((cs.setIfInBounds i v0).setIfInBounds (i+1) v1).setIfInBounds (i+2) v2=ds):aq (((w.setCell ⟨z,i,none⟩ v0).setCell ⟨z,i+1,none⟩ v1).setCell ⟨z,i+2,none⟩ v2) z ds t:=by rw[<-hd];exact((h.set i v0).set (i+1) v1).set (i+2) v2
theorem aa.Nf{S:Nat->Prop}{w0 w:tW}{z:Nat}(h:aa S w0 w)(hz:S z\/w0.heap.size<=z)(i j k:Nat)(v0 v1 v2:Value):aa S w0 (((w.setCell ⟨z,i,none⟩ v0).setCell ⟨z,j,none⟩ v1).setCell ⟨z,k,none⟩ v2) :=
 ((h.set (a:=⟨z,i,none⟩) hz v0).set (a:=⟨z,j,none⟩) hz v1).set (a:=⟨z,k,none⟩) hz v2
theorem DE{P:Program}{o:Oper}{a:Act}{C:tW->Prop}{K:Act->Prop}(ty:TypeId)(x:Operand)(ho:o.op=.load ty x)(g:Nat) (hx:a.eval x=.pointer (some ⟨g,0,none⟩)) (t:TypeId) (cs:tAV) (d:TypeDesc) (hg:∀w,C w->w.heap[g]?=some (.cells cs t (0,0)))(hu:P.underlying ty=some d) (hd:(match d with|.struct _|.array _ _=>true|_=>false)=true) (hi:(P.info? ty).map (·.size)=some cs.size)(h:K (a.put o.dst (.agg cs))):o.quiet P a C K:=by refine⟨.agg cs,λw hw=>?_,h⟩;unfold Oper.quietAt execOp;simp only[ho,hx,Instr.loadAt,Instr.sureAddr,Sem.run_bind,Sem.run_pure,Result.andThen_ok,run_loadVar_row w g t ty cs (0,0) d (hg w hw) hu hd hi];exact⟨rfl,rfl⟩
structure Cv(w0:tW)(I K R:Nat)(l:tLB)(nm:tBA)(a b c:aA)(w:tW):Prop where
 yM:aq w I #[.string (T l)] 155
 ln:aq w K (gx 1 nm a b c) 119
 res:aq w R (gx 0 ⟨#[]⟩ ay ay ay) 119
 md:aa af w0 w
 lt:w0.heap.size<=I/\I≠K/\I≠R/\K≠R/\w0.heap.size<=K/\w0.heap.size<=R
theorem Cv.quiet{w0 w w':tW}{I K R:Nat}{l:tLB}{nm:tBA}{a b c:aA}(h:Cv w0 I K R l nm a b c w)(m:aa af w w'):Cv w0 I K R l nm a b c w' :=
 ⟨h.yM.ah m id,h.ln.ah m id,h.res.ah m id,h.md.trans m,h.lt⟩
theorem Cv.read{w0 w w':tW}{I K R:Nat}{l l':tLB}{nm:tBA}{a b c:aA}(h:Cv w0 I K R l nm a b c w)(p:aN w I 0 #[.string (T l)] 155 l' w'):Cv w0 I K R l' nm a b c w':=by obtain⟨h1,h2,h3,h4,h5,h6⟩:=h.lt;exact⟨p.1.blk,h.ln.ah p.2 (λe=>h2 (show K=I from e).symm),h.res.ah p.2 (λe=>h3 (show R=I from e).symm),h.md.step p.2 (λi hi e=>by have:i=I:=e;omega),h.lt⟩
theorem VS(w:tW)(bs:List Nat)(l:tLB)(hl:l.length<=1000000):Calls prog 77 #[.agg #[.string (T l)]] w λe w'=>aQ w bs (fH l) e w':=by
 have hwl:=kX l;have HL:ae (fH l=if ahI (aC l).1 then nA (aC l).1 0 ay ay ay (aC l).2 else none):=VR l;have AQ:ae (∀e w',fH l=none->aa af w w'->(∃nm a b c,e=.returned (.tuple #[.agg (gx 1 nm a b c),.bool false]))->aQ w bs (fH l) e w'):=λe w' h1 h2 h3=>by obtain⟨nm,a,b,c,he⟩:=h3;refine⟨h2,?_⟩;rw[h1];exact⟨1,nm,a,b,c,none,0,0,0,0,0,⟨#[]⟩,⟨#[]⟩,false,he⟩
 have Ng:ae (∀e w' nm a b c,fH l=some {kind:=1,name:=nm,ns:=[a,b,c]}->aa af w w'->e=.returned (.tuple #[.agg (gx 1 (T nm) a b c),.bool true])->aQ w bs (fH l) e w'):=λe w' nm a b c h1 h2 h3=>by refine⟨h2,?_⟩;rw[h1];exact h3
 have HNM:ae (∀w',mX w' w.heap.size 0 #[.string (T l)] 155 l->Calls prog 78 #[.pointer (some ⟨w.heap.size,0,none⟩)] w' λe w''=>e=.returned (.tuple #[.string (T (aC l).1),.bool (ahI (aC l).1)])/\aN w' w.heap.size 0 #[.string (T l)] 155 (aC l).2 w''):=λw' h'=>qF _ 0 _ _ l w' h' hl;generalize aQ w bs (fH l)=LP at *;generalize fH l=mp at *;generalize ahI (aC l).1=nb at *;generalize aC l=wl at *;obtain⟨nm,l0⟩:=wl;dsimp only at *
 have HW0:ae (Cv w w.heap.size (w.heap.size+2) (w.heap.size+1) l ⟨#[]⟩ ay ay ay ((((w.alloc (.cells #[.string (T l)] 155)).alloc (.cells (gx 0 ⟨#[]⟩ ay ay ay) 119)).alloc (.cells (gx 0 ⟨#[]⟩ ay ay ay) 119)).setRow (w.heap.size+2) (gx 1 ⟨#[]⟩ ay ay ay))):=by
  have h2:aq ((w.alloc (.cells #[.string (T l)] 155)).alloc (.cells (gx 0 ⟨#[]⟩ ay ay ay) 119)) (w.heap.size+1) (gx 0 ⟨#[]⟩ ay ay ay) 119:=by
   have:=aq.new (w.alloc (.cells #[.string (T l)] 155)) (gx 0 ⟨#[]⟩ ay ay ay) 119
   simpa using this
  have h3:aq (((w.alloc (.cells #[.string (T l)] 155)).alloc (.cells (gx 0 ⟨#[]⟩ ay ay ay) 119)).alloc (.cells (gx 0 ⟨#[]⟩ ay ay ay) 119)) (w.heap.size+2) (gx 0 ⟨#[]⟩ ay ay ay) 119:=by
   have:=aq.new ((w.alloc (.cells #[.string (T l)] 155)).alloc (.cells (gx 0 ⟨#[]⟩ ay ay ay) 119)) (gx 0 ⟨#[]⟩ ay ay ay) 119
   simpa using this
  refine⟨aq.BG (((aq.new w _ _).alloc _).alloc _) (by omega) _,h3.setRow _,aq.BG (h2.alloc _) (by omega) _,(((((aa.refl _ _).alloc _).alloc _).alloc _)).setRow (.inr (by omega)) _,by omega⟩
 have HK0:ae (aq (((w.alloc (.cells #[.string (T l)] 155)).alloc (.cells (gx 0 ⟨#[]⟩ ay ay ay) 119)).alloc (.cells (gx 0 ⟨#[]⟩ ay ay ay) 119)) (w.heap.size+2) (gx 0 ⟨#[]⟩ ay ay ay) 119):=by
  have:=aq.new ((w.alloc (.cells #[.string (T l)] 155)).alloc (.cells (gx 0 ⟨#[]⟩ ay ay ay) 119)) (gx 0 ⟨#[]⟩ ay ay ay) 119
  simpa [ae]using this
 go_enter func77,ntmps77;go_wp2_with (refine wpList_store_row rfl 119 (.tmp 4) (.tmp 7) rfl (w.heap.size+2) (gx 1 ⟨#[]⟩ ay ay ay) rfl rfl 119 _ HK0.o (by kernel_rfl) rfl (eF ..) ?_);refine(HNM.o _ ⟨HW0.o.yM,rfl⟩).mono ?_;rintro e w1 ⟨rfl,hp1⟩;have HW1:ae (Cv w w.heap.size (w.heap.size+2) (w.heap.size+1) l0 ⟨#[]⟩ ay ay ay w1):=HW0.o.read hp1;clear hp1 HW0 HK0 HNM;generalize hK:w.heap.size+2=K at *;generalize hR:w.heap.size+1=R at *;generalize hI:w.heap.size=I at *;have k1:w1.cell? ⟨K,1,none⟩=some (.string ⟨#[]⟩):=HW1.o.ln.cell 1;have kf:=HW1.o.ln.frozen;generalize DF:w1.setCell ⟨K,1,none⟩ (.string (T nm))=Wn;have HW2:ae (Cv w I K R l0 (T nm) ay ay ay Wn):=by obtain⟨h1,h2,h3,h4,h5,h6⟩:=HW1.o.lt;rw[<-DF];exact⟨HW1.o.yM.setOther (a:=⟨K,1,none⟩) (λe=>h2 (show K=I from e).symm) _,HW1.o.ln.set 1 _,HW1.o.res.setOther (a:=⟨K,1,none⟩) (λe=>h4 (show K=R from e)) _,HW1.o.md.set (a:=⟨K,1,none⟩) (.inr h5) _,HW1.o.lt⟩
 cases nb with
 |false =>
  have HZ:ae (mp=none):=HL.o;go_upto_region 5 with fail
  try rw[DF]
  clear DF k1 kf HW1;go_wp2_with (first |(refine wpList_load_row rfl 119 (.tmp 4) rfl K rfl 119 (gx 1 (T nm) ay ay ay) (0,0) _ HW2.o.ln underlying119 rfl (by kernel_rfl) ?_) |(refine wpList_store_row rfl 119 (.tmp 2) (.tmp 15) rfl R (gx 1 (T nm) ay ay ay) rfl rfl 119 _ HW2.o.res (by kernel_rfl) rfl (eF ..) ?_));refine bodyPost_ret (au results77 _ _ R 119 _ (0,0) _ _ rfl rfl HW2.o.res.aI underlying119 rfl (by kernel_rfl)) rfl ?_;exact AQ.o _ _ HZ.o (HW2.o.md.aI (.inr HW2.o.lt.2.2.2.2.2)) ⟨_,_,_,_,rfl⟩
 |true =>
  have iy:ae (nA nm 0 ay ay ay l0=mp):=HL.o.symm;go_upto_region 6 with fail
  try rw[DF]
  clear DF k1 kf HW1 HL;go_wp2_with fail;go_loopg [16] 3 (λq v wx=>∃(k:Nat) (a b c:aA) (l1:tLB),k<=3/\v=.int .i64 k/\Cv w I K R l1 (T nm) a b c wx/\nA nm k a b c l1=mp/\l1.length<=1000000/\q=3-k)
  case atStart=>exact⟨0,ay,ay,ay,l0,by omega,rfl,HW2.o,iy.o,by omega,rfl⟩
  case round =>
   obtain⟨k,a,b,c,l1,hk,rfl,hW,hG,hl1,rfl⟩:=hrel;have HW:ae (Cv w I K R l1 (T nm) a b c wr):=hW;have HR:ae (nA nm k a b c l1=mp):=hG;clear hW hG HW2 iy;obtain rfl|rfl|rfl|rfl:k=0\/k=1\/k=2\/k=3:=by omega
   case inl =>
    have VT:ae (Calls prog 134 #[.pointer (some ⟨I,0,none⟩)] wr λe w'=>mq wr I 0 #[.string (T l1)] 155 l1 e w'):=uP I 0 _ _ l1 wr ⟨HW.o.yM,rfl⟩ hl1;have HG:ae (nA nm 0 a b c l1=(bJ l1).bind λz=>nA nm 1 z.1 b c z.2):=by rw[ae];unfold nA;rfl
    go_wp2_with fail;refine VT.o.mono ?_;intro e w2 hn;obtain⟨n,l2,rfl,hp2,hle,hx⟩:=hn;have HW2:ae (Cv w I K R l2 (T nm) a b c w2):=HW.o.read hp2;have HX:ae (∀z,bJ l1=some z->z=(n,l2)):=hx;clear hp2 hx VT;have k0:w2.cell? ⟨K,2,none⟩=some (.bool a.minus):=HW2.o.ln.cell 2;have k1:w2.cell? ⟨K,3,none⟩=some (.int .u64 ((a.v%18446744073709551616:Nat):Int)):=HW2.o.ln.cell 3;have k2:w2.cell? ⟨K,4,none⟩=some (.bool (decide (18446744073709551616<=a.v))):=HW2.o.ln.cell 4;have kf:=HW2.o.ln.frozen;generalize DF:((w2.setCell ⟨K,2,none⟩ (.bool n.minus)).setCell ⟨K,3,none⟩ (.int .u64 ((n.v%18446744073709551616:Nat):Int))).setCell ⟨K,4,none⟩ (.bool (decide (18446744073709551616<=n.v)))=Wn
    have HW3:ae (Cv w I K R l2 (T nm) n b c Wn):=by
     obtain⟨h1,h2,h3,h4,h5,h6⟩:=HW2.o.lt;rw[<-DF];refine⟨?_,aq.Nf HW2.o.ln _ _ _ rfl,?_,aa.Nf HW2.o.md (.inr h5) _ _ _ _ _ _,HW2.o.lt⟩
     ·iterate 3 refine aq.setOther ?_ (λe=>h2 (show K=I from e).symm) _
      exact HW2.o.yM
     ·iterate 3 refine aq.setOther ?_ (λe=>h4 (show K=R from e)) _
      exact HW2.o.res
    have Yc:ae (aA.dP n=.agg #[.bool n.minus,.int .u64 ((n.v%18446744073709551616:Nat):Int),.bool (decide (18446744073709551616<=n.v))]):=rfl;rw[Yc.o];generalize hu:((n.v%18446744073709551616:Nat):Int)=u at *;generalize hbg:decide (18446744073709551616<=n.v)=bg at *;cases hnl:bJ l1 with
    |none =>
     have HZ:ae (mp=none):=by rw[ae,<-HR.o,HG.o,hnl];rfl
     go_upto_region 11 with fail
     try rw[DF]
     clear DF k0 k1 k2 kf;go_wp2_with (first |(refine wpList_load_row rfl 119 (.tmp 4) rfl K rfl 119 (gx 1 (T nm) n b c) (0,0) _ HW3.o.ln underlying119 rfl (by kernel_rfl) ?_) |(refine wpList_store_row rfl 119 (.tmp 2) (.tmp 28) rfl R (gx 1 (T nm) n b c) rfl rfl 119 _ HW3.o.res (by kernel_rfl) rfl (eF ..) ?_));refine bodyPost_ret (au results77 _ _ R 119 _ (0,0) _ _ rfl rfl HW3.o.res.aI underlying119 rfl (by kernel_rfl)) rfl ?_;exact AQ.o _ _ HZ.o (HW3.o.md.aI (.inr HW3.o.lt.2.2.2.2.2)) ⟨_,_,_,_,rfl⟩
    |some z =>
     have hz:=HX.o z hnl;have jI:ae (nA nm 1 n b c l2=mp):=by rw[ae,<-HR.o,HG.o,hnl,hz];rfl
     clear hnl hz;go_upto_region 12 with fail
     try rw[DF]
     clear DF k0 k1 k2 kf;go_wp2_with fail;go_roundg 2
     case measure=>omega
     case rel=>exact⟨1,n,b,c,l2,by omega,by go_num,HW3.o,jI.o,by omega,rfl⟩
   case inr.inl =>
    have VT:ae (Calls prog 134 #[.pointer (some ⟨I,0,none⟩)] wr λe w'=>mq wr I 0 #[.string (T l1)] 155 l1 e w'):=uP I 0 _ _ l1 wr ⟨HW.o.yM,rfl⟩ hl1;have HG:ae (nA nm 1 a b c l1=(bJ l1).bind λz=>nA nm 2 a z.1 c z.2):=by rw[ae];unfold nA;rfl
    go_wp2_with fail;refine VT.o.mono ?_;intro e w2 hn;obtain⟨n,l2,rfl,hp2,hle,hx⟩:=hn;have HW2:ae (Cv w I K R l2 (T nm) a b c w2):=HW.o.read hp2;have HX:ae (∀z,bJ l1=some z->z=(n,l2)):=hx;clear hp2 hx VT;have k0:w2.cell? ⟨K,5,none⟩=some (.bool b.minus):=HW2.o.ln.cell 5;have k1:w2.cell? ⟨K,6,none⟩=some (.int .u64 ((b.v%18446744073709551616:Nat):Int)):=HW2.o.ln.cell 6;have k2:w2.cell? ⟨K,7,none⟩=some (.bool (decide (18446744073709551616<=b.v))):=HW2.o.ln.cell 7;have kf:=HW2.o.ln.frozen;generalize DF:((w2.setCell ⟨K,5,none⟩ (.bool n.minus)).setCell ⟨K,6,none⟩ (.int .u64 ((n.v%18446744073709551616:Nat):Int))).setCell ⟨K,7,none⟩ (.bool (decide (18446744073709551616<=n.v)))=Wn
    have HW3:ae (Cv w I K R l2 (T nm) a n c Wn):=by
     obtain⟨h1,h2,h3,h4,h5,h6⟩:=HW2.o.lt;rw[<-DF];refine⟨?_,aq.Nf HW2.o.ln _ _ _ rfl,?_,aa.Nf HW2.o.md (.inr h5) _ _ _ _ _ _,HW2.o.lt⟩
     ·iterate 3 refine aq.setOther ?_ (λe=>h2 (show K=I from e).symm) _
      exact HW2.o.yM
     ·iterate 3 refine aq.setOther ?_ (λe=>h4 (show K=R from e)) _
      exact HW2.o.res
    have Yc:ae (aA.dP n=.agg #[.bool n.minus,.int .u64 ((n.v%18446744073709551616:Nat):Int),.bool (decide (18446744073709551616<=n.v))]):=rfl;rw[Yc.o];generalize hu:((n.v%18446744073709551616:Nat):Int)=u at *;generalize hbg:decide (18446744073709551616<=n.v)=bg at *;cases hnl:bJ l1 with
    |none =>
     have HZ:ae (mp=none):=by rw[ae,<-HR.o,HG.o,hnl];rfl
     go_upto_region 11 with fail
     try rw[DF]
     clear DF k0 k1 k2 kf;go_wp2_with (first |(refine wpList_load_row rfl 119 (.tmp 4) rfl K rfl 119 (gx 1 (T nm) a n c) (0,0) _ HW3.o.ln underlying119 rfl (by kernel_rfl) ?_) |(refine wpList_store_row rfl 119 (.tmp 2) (.tmp 28) rfl R (gx 1 (T nm) a n c) rfl rfl 119 _ HW3.o.res (by kernel_rfl) rfl (eF ..) ?_));refine bodyPost_ret (au results77 _ _ R 119 _ (0,0) _ _ rfl rfl HW3.o.res.aI underlying119 rfl (by kernel_rfl)) rfl ?_;exact AQ.o _ _ HZ.o (HW3.o.md.aI (.inr HW3.o.lt.2.2.2.2.2)) ⟨_,_,_,_,rfl⟩
    |some z =>
     have hz:=HX.o z hnl;have jI:ae (nA nm 2 a n c l2=mp):=by rw[ae,<-HR.o,HG.o,hnl,hz];rfl
     clear hnl hz;go_upto_region 12 with fail
     try rw[DF]
     clear DF k0 k1 k2 kf;go_wp2_with fail;go_roundg 1
     case measure=>omega
     case rel=>exact⟨2,a,n,c,l2,by omega,by go_num,HW3.o,jI.o,by omega,rfl⟩
   case inr.inr.inl =>
    have VT:ae (Calls prog 134 #[.pointer (some ⟨I,0,none⟩)] wr λe w'=>mq wr I 0 #[.string (T l1)] 155 l1 e w'):=uP I 0 _ _ l1 wr ⟨HW.o.yM,rfl⟩ hl1;have HG:ae (nA nm 2 a b c l1=(bJ l1).bind λz=>nA nm 3 a b z.1 z.2):=by rw[ae];unfold nA;rfl
    go_wp2_with fail;refine VT.o.mono ?_;intro e w2 hn;obtain⟨n,l2,rfl,hp2,hle,hx⟩:=hn;have HW2:ae (Cv w I K R l2 (T nm) a b c w2):=HW.o.read hp2;have HX:ae (∀z,bJ l1=some z->z=(n,l2)):=hx;clear hp2 hx VT;have k0:w2.cell? ⟨K,8,none⟩=some (.bool c.minus):=HW2.o.ln.cell 8;have k1:w2.cell? ⟨K,9,none⟩=some (.int .u64 ((c.v%18446744073709551616:Nat):Int)):=HW2.o.ln.cell 9;have k2:w2.cell? ⟨K,10,none⟩=some (.bool (decide (18446744073709551616<=c.v))):=HW2.o.ln.cell 10;have kf:=HW2.o.ln.frozen;generalize DF:((w2.setCell ⟨K,8,none⟩ (.bool n.minus)).setCell ⟨K,9,none⟩ (.int .u64 ((n.v%18446744073709551616:Nat):Int))).setCell ⟨K,10,none⟩ (.bool (decide (18446744073709551616<=n.v)))=Wn
    have HW3:ae (Cv w I K R l2 (T nm) a b n Wn):=by
     obtain⟨h1,h2,h3,h4,h5,h6⟩:=HW2.o.lt;rw[<-DF];refine⟨?_,aq.Nf HW2.o.ln _ _ _ rfl,?_,aa.Nf HW2.o.md (.inr h5) _ _ _ _ _ _,HW2.o.lt⟩
     ·iterate 3 refine aq.setOther ?_ (λe=>h2 (show K=I from e).symm) _
      exact HW2.o.yM
     ·iterate 3 refine aq.setOther ?_ (λe=>h4 (show K=R from e)) _
      exact HW2.o.res
    have Yc:ae (aA.dP n=.agg #[.bool n.minus,.int .u64 ((n.v%18446744073709551616:Nat):Int),.bool (decide (18446744073709551616<=n.v))]):=rfl;rw[Yc.o];generalize hu:((n.v%18446744073709551616:Nat):Int)=u at *;generalize hbg:decide (18446744073709551616<=n.v)=bg at *;cases hnl:bJ l1 with
    |none =>
     have HZ:ae (mp=none):=by rw[ae,<-HR.o,HG.o,hnl];rfl
     go_upto_region 11 with fail
     try rw[DF]
     clear DF k0 k1 k2 kf;go_wp2_with (first |(refine wpList_load_row rfl 119 (.tmp 4) rfl K rfl 119 (gx 1 (T nm) a b n) (0,0) _ HW3.o.ln underlying119 rfl (by kernel_rfl) ?_) |(refine wpList_store_row rfl 119 (.tmp 2) (.tmp 28) rfl R (gx 1 (T nm) a b n) rfl rfl 119 _ HW3.o.res (by kernel_rfl) rfl (eF ..) ?_));refine bodyPost_ret (au results77 _ _ R 119 _ (0,0) _ _ rfl rfl HW3.o.res.aI underlying119 rfl (by kernel_rfl)) rfl ?_;exact AQ.o _ _ HZ.o (HW3.o.md.aI (.inr HW3.o.lt.2.2.2.2.2)) ⟨_,_,_,_,rfl⟩
    |some z =>
     have hz:=HX.o z hnl;have jI:ae (nA nm 3 a b n l2=mp):=by rw[ae,<-HR.o,HG.o,hnl,hz];rfl
     clear hnl hz;go_upto_region 12 with fail
     try rw[DF]
     clear DF k0 k1 k2 kf;go_wp2_with fail;go_roundg 0
     case measure=>omega
     case rel=>exact⟨3,a,b,n,l2,by omega,by go_num,HW3.o,jI.o,by omega,rfl⟩
   case inr.inr.inr =>
    have HME:ae (mp=if aw l1=[]then some {kind:=1,name:=nm,ns:=[a,b,c]}else none):=HR.o.symm;have CP:ae (∀w',aq w' I #[.string (T l1)] 155->Calls prog 72 #[.pointer (some ⟨I,0,none⟩)] w' λe w''=>e=.returned (.bool (decide (aw l1=[])))/\aN w' I 0 #[.string (T l1)] 155 (aw l1) w''):=λw' h'=>kW I 0 _ _ l1 w' ⟨h',rfl⟩
    have HKg:ae (∀g:Ext (λk=>k=I\/k=R) wr,aq g.w K (gx 1 (T nm) a b c) 119):=λg=>HW.o.ln.ah g.m (λe=>by
     obtain⟨h1,h2,h3,h4,h5,h6⟩:=HW.o.lt;rcases e with e|e
     ·exact h2 e.symm
     ·exact h4 e)
    have HWd:ae (Cv w I K R l1 (T nm) a b c wr.drew):=HW.o.quiet (aa.refl _ _).drew;go_upto_region 13 with fail;refine aZ [1,2] (λw'=>∃e:Ext (λk=>k=I\/k=R) wr,w'=e.w) (by kernel_rfl) (by kernel_rfl) (by kernel_rfl) ⟨⟨_,(aa.refl _ _).drew⟩,rfl⟩ ?_;refine aB rfl rfl rfl ?_;intro K' hK';refine DE 119 (.tmp 4) rfl K rfl 119 (gx 1 (T nm) a b c) _ (λw' ⟨g,hg⟩=>by rw[hg];exact HKg.o g) underlying119 rfl (by kernel_rfl) ?_;refine hK' _ ?_;clear hK' K';simp only[Act.put,sA9,sB9,sC9];refine aF rfl rfl ?_;intro K' hK';go_big_op;refine(CP.o _ HWd.o.yM).mono ?_;rintro e w2 ⟨rfl,hp2⟩;have HW2:ae (Cv w I K R (aw l1) (T nm) a b c w2):=HWd.o.read hp2;have X2:ae (aa (λk=>k=I\/k=R) wr w2):=((aa.refl _ _).drew).trans (hp2.2.mono (λi _ e=>.inl e));refine hK' _ _ rfl ⟨⟨_,X2.o⟩,rfl⟩ ?_;clear hK' K' hp2 HWd HW CP
    try simp only[Act.put,sA9,sB9,sC9]
    refine aF rfl rfl ?_;intro K' hK';refine wp_store_row 119 (.tmp 2) (.tmp 30) rfl R (gx 1 (T nm) a b c) rfl rfl 119 _ HW2.o.res (by kernel_rfl) rfl (eF ..) ?_;refine hK' _ _ rfl ⟨⟨_,X2.o.aI (.inl (.inr rfl))⟩,rfl⟩ ?_;clear hK' K';simp only[Act.put,sA9,sB9,sC9];refine aB rfl rfl rfl ?_;intro K' hK';go_big_quiet_op;go_big_quiet_on;refine cu ?_
    try simp only[Exit.then]
    go_wp2_with fail;refine bodyPost_ret (au results77 _ _ R 119 _ (0,0) _ _ rfl rfl HW2.o.res.aI underlying119 rfl (by kernel_rfl)) rfl ?_;by_cases hd:aw l1=[]
    ·rw[iP9 hd]at HME;exact Ng.o _ _ nm a b c HME.o (HW2.o.md.aI (.inr HW2.o.lt.2.2.2.2.2)) (by rw[decide_eq_true hd];rfl)
    ·rw[iN9 hd]at HME;exact AQ.o _ _ HME.o (HW2.o.md.aI (.inr HW2.o.lt.2.2.2.2.2)) ⟨_,_,_,_,by rw[decide_eq_false hd];rfl⟩
theorem CR(l:tLB):aC (aw l)=aC l:=by unfold aC;rw[Di]
structure Jh(w0:tW)(I R:Nat)(l:tLB)(w:tW):Prop where
 yM:aq w I #[.string (T l)] 155
 res:aq w R (gx 0 ⟨#[]⟩ ay ay ay) 119
 md:aa af w0 w
 lt:w0.heap.size<=I/\I≠R/\w0.heap.size<=R
theorem Jh.quiet{w0 w w':tW}{I R:Nat}{l:tLB}(h:Jh w0 I R l w)(m:aa af w w'):Jh w0 I R l w':=⟨h.yM.ah m id,h.res.ah m id,h.md.trans m,h.lt⟩
theorem Jh.read{w0 w w':tW}{I R:Nat}{l l':tLB}(h:Jh w0 I R l w)(p:aN w I 0 #[.string (T l)] 155 l' w'):Jh w0 I R l' w':=by obtain⟨h1,h2,h3⟩:=h.lt;exact⟨p.1.blk,h.res.ah p.2 (λe=>h2 (show R=I from e).symm),h.md.step p.2 (λi hi e=>by have:i=I:=e;omega),h.lt⟩
theorem pq{t l:tLB}(h:fP t=some l):bY t=if aw l=[]then some {} else if aH 58 (aC l).2 then (if aw (aL 58 (aC l).2)=[]/\ahI (aC l).1=true/\eu (aC l).1=false then some {kind:=3,name:=(aC l).1}else none) else if(aC l).1=[109,97,112]then fH (aw (aC l).2) else if(aC l).1=[102,117,110,99]then (if ahI (aC (aw (aC l).2)).1=true/\aw (aC (aw (aC l).2)).2=[]then some {kind:=2,name:=(aC (aw (aC l).2)).1}else none) else(kL (aC l).1 (aw (aC l).2)).map λx=>{kind:=4,x:=x}:=by unfold bY;rw[h];rfl
theorem Nh{t:tLB}(h:fP t=none):bY t=none:=by unfold bY;rw[h];rfl
theorem iW{t l:tLB}(h:fP t=some l):l.length<=t.length:=by
 unfold fP at h;split at h
 ·cases h;exact(List.takeWhile_sublist _).length_le
 ·cases h
theorem aQ.no{w w':tW}{bs:List Nat}{t:tLB}{e:Ending}(h:bY t=none)(m:aa af w w')(he:∃k nm a b c op d s j n h lb nn f,e=.returned (.tuple #[.agg (ES k nm a b c (.pointer op) d s j n h lb nn f),.bool false])):aQ w bs (bY t) e w':=⟨m,by rw[h];exact he⟩
theorem aQ.yes{w w':tW}{bs:List Nat}{t:tLB}{e:Ending}{x:bV}(h:bY t=some x)(m:aa af w w')(he:e=.returned (.tuple #[.agg (x.cells bs),.bool true])):aQ w bs (bY t) e w':=⟨m,by rw[h];exact he⟩
theorem R9(wT w:tW)(v:Value)(bs:List Nat)(t:tLB)(hO:aR 0 wT v bs ax)(m:aa af wT w)(hE:Env w)(hM:lV w)(ht:t.length<=1000000)(hn:fP t=none):Calls prog 46 #[v,.string (T t)] w λe w'=>aQ w bs (bY t) e w':=by
 have rH:ae (∀w',lV w'->Calls prog 71 #[.string (T t)] w' λe w''=>e=.returned (.tuple #[.agg #[.string (T ((fP t).getD []))],.bool (fP t).isSome])/\aa af w' w''):=λw' h=>wu t w' h ht;have HM:=ak hM;have HE:=ak hE;have iy:ae (aq (w.alloc (.cells (gx 0 ⟨#[]⟩ ay ay ay) 119)) w.heap.size (gx 0 ⟨#[]⟩ ay ay ay) 119):=aq.new w _ _;have gq:ae (aa af w (w.alloc (.cells (gx 0 ⟨#[]⟩ ay ay ay) 119))):=(aa.refl _ _).alloc _;have uI:ae (∀e w',aa af w w'->(∃k nm a b c op d s j n h lb nn f,e=.returned (.tuple #[.agg (ES k nm a b c (.pointer op) d s j n h lb nn f),.bool false]))->aQ w bs (bY t) e w'):=λe w'=>aQ.no (Nh hn);rw[hn]at rH;obtain⟨vo,vc,rfl,_⟩:=hO.sl.view;generalize aQ w bs (bY t)=LP at *;go_enter func46,ntmps46;go_wp2_with fail;refine(rH.o _ (HM.o.ah gq.o)).mono ?_;rintro e w1 ⟨rfl,m1⟩;have HW1:ae (∀cs,Jh w w1.heap.size w.heap.size [] (w1.alloc (.cells cs 155))\/True):=λ_=>.inr trivial
 have HW2:ae (Jh w w1.heap.size w.heap.size ([]) (w1.alloc (.cells #[.string (T ([]))] 155))) :=
  ⟨aq.new _ _ _,(iy.o.ah m1 id).alloc _,(gq.o.trans m1).alloc _,by
   have h1:=(gq.o.trans m1).size;have h2:=(iy.o.ah m1 id).lt;omega⟩
 have Zi:=ak (gq.o.trans m1);clear m1 rH iy gq HW1;generalize hI:w1.heap.size=I at *;generalize hR:w.heap.size=R at *;go_wp2_with (refine wpList_store_row rfl 119 (.tmp 4) (.tmp 24) rfl R (gx 0 ⟨#[]⟩ ay ay ay) rfl rfl 119 _ HW2.o.res (by kernel_rfl) rfl (eF ..) ?_);refine bodyPost_ret (au results46 _ _ R 119 _ (0,0) _ _ rfl rfl HW2.o.res.aI underlying119 rfl (by kernel_rfl)) rfl ?_;exact uI.o _ _ (HW2.o.md.aI (.inr HW2.o.lt.2.2)) ⟨0,_,_,_,_,none,0,0,0,0,0,_,_,false,rfl⟩
theorem Sa(wT w:tW)(v:Value)(bs:List Nat)(t:tLB)(hO:aR 0 wT v bs ax)(m:aa af wT w)(hE:Env w)(hM:lV w)(ht:t.length<=1000000)(l:tLB)(hn:fP t=some l)(hs:aw l=[]):Calls prog 46 #[v,.string (T t)] w λe w'=>aQ w bs (bY t) e w':=by
 have rH:ae (∀w',lV w'->Calls prog 71 #[.string (T t)] w' λe w''=>e=.returned (.tuple #[.agg #[.string (T ((fP t).getD []))],.bool (fP t).isSome])/\aa af w' w''):=λw' h=>wu t w' h ht;have HM:=ak hM;have HE:=ak hE;have iy:ae (aq (w.alloc (.cells (gx 0 ⟨#[]⟩ ay ay ay) 119)) w.heap.size (gx 0 ⟨#[]⟩ ay ay ay) 119):=aq.new w _ _;have gq:ae (aa af w (w.alloc (.cells (gx 0 ⟨#[]⟩ ay ay ay) 119))):=(aa.refl _ _).alloc _;have uI:ae (∀e w',aa af w w'->e=.returned (.tuple #[.agg (bV.cells bs {}),.bool true])->aQ w bs (bY t) e w'):=λe w'=>aQ.yes (by rw[pq hn,iP9 hs]);have CP:ae (∀I w',aq w' I #[.string (T l)] 155->Calls prog 72 #[.pointer (some ⟨I,0,none⟩)] w' λe w''=>e=.returned (.bool true)/\aN w' I 0 #[.string (T l)] 155 (aw l) w''):=λI w' h'=>by have:=kW I 0 _ _ l w' ⟨h',rfl⟩;rw[decide_eq_true hs]at this;exact this
 have hnl:=iW hn;rw[hn]at rH;obtain⟨vo,vc,rfl,_⟩:=hO.sl.view;generalize aQ w bs (bY t)=LP at *;go_enter func46,ntmps46;go_wp2_with fail;refine(rH.o _ (HM.o.ah gq.o)).mono ?_;rintro e w1 ⟨rfl,m1⟩;have HW1:ae (∀cs,Jh w w1.heap.size w.heap.size l (w1.alloc (.cells cs 155))\/True):=λ_=>.inr trivial
 have HW2:ae (Jh w w1.heap.size w.heap.size (l) (w1.alloc (.cells #[.string (T (l))] 155))) :=
  ⟨aq.new _ _ _,(iy.o.ah m1 id).alloc _,(gq.o.trans m1).alloc _,by
   have h1:=(gq.o.trans m1).size;have h2:=(iy.o.ah m1 id).lt;omega⟩
 have Zi:=ak (gq.o.trans m1);clear m1 rH iy gq HW1;generalize hI:w1.heap.size=I at *;generalize hR:w.heap.size=R at *;go_wp2_with fail;refine(CP.o I _ HW2.o.yM).mono ?_;rintro e w2 ⟨rfl,hp2⟩;have HW3:=ak (HW2.o.read hp2);clear hp2 CP HW2;go_wp2_with (refine wpList_store_row rfl 119 (.tmp 4) (.tmp 24) rfl R (gx 0 ⟨#[]⟩ ay ay ay) rfl rfl 119 _ HW3.o.res (by kernel_rfl) rfl (eF ..) ?_);refine bodyPost_ret (au results46 _ _ R 119 _ (0,0) _ _ rfl rfl HW3.o.res.aI underlying119 rfl (by kernel_rfl)) rfl ?_;exact uI.o _ _ (HW3.o.md.aI (.inr HW3.o.lt.2.2)) rfl
theorem Sb(wT w:tW)(v:Value)(bs:List Nat)(t:tLB)(hO:aR 0 wT v bs ax)(m:aa af wT w)(hE:Env w)(hM:lV w)(ht:t.length<=1000000)(l:tLB)(hn:fP t=some l)(hs:aw l≠[])(hk:aH 58 (aC l).2=true):Calls prog 46 #[v,.string (T t)] w λe w'=>aQ w bs (bY t) e w':=by
 have rH:ae (∀w',lV w'->Calls prog 71 #[.string (T t)] w' λe w''=>e=.returned (.tuple #[.agg #[.string (T ((fP t).getD []))],.bool (fP t).isSome])/\aa af w' w''):=λw' h=>wu t w' h ht;have HM:=ak hM;have HE:=ak hE;have iy:ae (aq (w.alloc (.cells (gx 0 ⟨#[]⟩ ay ay ay) 119)) w.heap.size (gx 0 ⟨#[]⟩ ay ay ay) 119):=aq.new w _ _;have gq:ae (aa af w (w.alloc (.cells (gx 0 ⟨#[]⟩ ay ay ay) 119))):=(aa.refl _ _).alloc _;have Ni:ae (bY t=if aw (aL 58 (aC l).2)=[]/\ahI (aC l).1=true/\eu (aC l).1=false then some {kind:=3,name:=(aC l).1}else none):=by rw[ae,pq hn,iN9 hs,iP9 hk]
 have HPY:ae (∀e w',(aw (aL 58 (aC l).2)=[]/\ahI (aC l).1=true/\eu (aC l).1=false)->aa af w w'->e=.returned (.tuple #[.agg (gx 3 (T (aC l).1) ay ay ay),.bool true])->aQ w bs (bY t) e w'):=λe w' h1 h2 h3=>aQ.yes (x:={kind:=3,name:=(aC l).1}) (by rw[Ni.o,iP9 h1]) h2 h3;have Yi:ae (∀e w',¬(aw (aL 58 (aC l).2)=[]/\ahI (aC l).1=true/\eu (aC l).1=false)->aa af w w'->e=.returned (.tuple #[.agg (gx 3 (T (aC l).1) ay ay ay),.bool false])->aQ w bs (bY t) e w'):=λe w' h1 h2 h3=>aQ.no (by rw[Ni.o,iN9 h1]) h2 ⟨3,_,_,_,_,none,0,0,0,0,0,_,_,false,h3⟩;have CP:ae (∀I w',aq w' I #[.string (T l)] 155->Calls prog 72 #[.pointer (some ⟨I,0,none⟩)] w' λe w''=>e=.returned (.bool false)/\aN w' I 0 #[.string (T l)] 155 (aw l) w''):=λI w' h'=>by have:=kW I 0 _ _ l w' ⟨h',rfl⟩;rw[decide_eq_false hs]at this;exact this
 have hwl:=kX l;have VU:ae (∀I w',aq w' I #[.string (T (aw l))] 155->Calls prog 73 #[.pointer (some ⟨I,0,none⟩)] w' λe w''=>e=.returned (.string (T (aC l).1))/\aN w' I 0 #[.string (T (aw l))] 155 (aC l).2 w''):=λI w' h'=>by have:=iL I 0 _ _ (aw l) w' ⟨h',rfl⟩ (by have:=iY l;have:=iW hn;omega);rw[CR]at this;exact this
 have vY:ae (∀I w',aq w' I #[.string (T (aC l).2)] 155->Calls prog 74 #[.pointer (some ⟨I,0,none⟩),.int .u8 58] w' λe w''=>e=.returned (.bool true)/\aN w' I 0 #[.string (T (aC l).2)] 155 (aL 58 (aC l).2) w''):=λI w' h'=>by have:=jh I 0 _ _ (aC l).2 58 w' ⟨h',rfl⟩ (by have:=iW hn;omega);rw[hk]at this;exact this
 have HD2:ae (∀I w',aq w' I #[.string (T (aL 58 (aC l).2))] 155->Calls prog 72 #[.pointer (some ⟨I,0,none⟩)] w' λe w''=>e=.returned (.bool (decide (aw (aL 58 (aC l).2)=[])))/\aN w' I 0 #[.string (T (aL 58 (aC l).2))] 155 (aw (aL 58 (aC l).2)) w''):=λI w' h'=>kW I 0 _ _ _ w' ⟨h',rfl⟩;have Ji:ae (∀w',Calls prog 75 #[.string (T (aC l).1)] w' λe w''=>e=.returned (.bool (ahI (aC l).1))/\w''=w'):=λw'=>by have:=BB (T (aC l).1) w' (by rw[bZ];unfold maxLen;have:=iW hn;omega);rw[show(T (aC l).1).data.toList=(aC l).1 by simp[T]]at this;exact this
 have Gi:ae (∀w',aa af w w'->Calls prog 76 #[v,.string (T (aC l).1)] w' λe w''=>e=.returned (.bool (eu (aC l).1))/\aa af w' w''):=λw' m'=>aab wT w' v bs _ hO (m.trans m') (hE.ah m') (by have:=iW hn;omega);clear Ni;have hnl:=iW hn;rw[hn]at rH;obtain⟨vo,vc,rfl,_⟩:=hO.sl.view;generalize eu (aC l).1=rs at *;generalize ahI (aC l).1=nb at *;generalize hdd:decide (aw (aL 58 (aC l).2)=[])=dd at *;have KP:ae (aw (aL 58 (aC l).2)=[]↔dd=true):=by rw[ae,<-hdd];simp
 generalize aw (aL 58 (aC l).2)=r3 at *;generalize aL 58 (aC l).2=r2 at *;generalize aQ w bs (bY t)=LP at *;go_enter func46,ntmps46;go_wp2_with fail;refine(rH.o _ (HM.o.ah gq.o)).mono ?_;rintro e w1 ⟨rfl,m1⟩;generalize aC l=wl at *;obtain⟨x,r1⟩:=wl;dsimp only at *;have HW1:ae (∀cs,Jh w w1.heap.size w.heap.size l (w1.alloc (.cells cs 155))\/True):=λ_=>.inr trivial
 have HW2:ae (Jh w w1.heap.size w.heap.size (l) (w1.alloc (.cells #[.string (T (l))] 155))) :=
  ⟨aq.new _ _ _,(iy.o.ah m1 id).alloc _,(gq.o.trans m1).alloc _,by
   have h1:=(gq.o.trans m1).size;have h2:=(iy.o.ah m1 id).lt;omega⟩
 have Zi:=ak (gq.o.trans m1);clear m1 rH iy gq HW1;generalize hI:w1.heap.size=I at *;generalize hR:w.heap.size=R at *;go_wp2_with fail;refine(CP.o I _ HW2.o.yM).mono ?_;rintro e w2 ⟨rfl,hp2⟩;have HW3:=ak (HW2.o.read hp2);clear hp2 CP HW2;go_wp2_with fail;refine(VU.o I _ HW3.o.yM).mono ?_;rintro e w3 ⟨rfl,hp3⟩;have Nj:=ak (HW3.o.read hp3);clear hp3 VU HW3;go_wp2_with fail;refine(vY.o I _ Nj.o.yM).mono ?_;rintro e w4 ⟨rfl,CQ⟩;have sZ:=ak (Nj.o.read CQ);clear CQ vY Nj;go_wp2_with fail;refine(HD2.o I _ sZ.o.yM).mono ?_;rintro e w5 ⟨rfl,hp5⟩;have ow:=ak (sZ.o.read hp5);clear hp5 HD2 sZ;cases dd with
 |false =>
  have HNN:ae (¬(r3=[]/\nb=true/\rs=false)):=λh=>by have:=KP.o.1 h.1;cases this
  go_wp2_with (refine wpList_store_row rfl 119 (.tmp 4) (.tmp 40) rfl R (gx 3 (T x) ay ay ay) rfl rfl 119 _ ow.o.res (by kernel_rfl) rfl (eF ..) ?_);refine bodyPost_ret (au results46 _ _ R 119 _ (0,0) _ _ rfl rfl ow.o.res.aI underlying119 rfl (by kernel_rfl)) rfl ?_;exact Yi.o _ _ HNN.o (ow.o.md.aI (.inr ow.o.lt.2.2)) rfl
 |true =>
  have HD3:ae (r3=[]):=KP.o.2 rfl;go_wp2_with fail;refine(Ji.o _).mono ?_;rintro e w6 ⟨rfl,rfl⟩;cases nb with
  |false =>
   have HNN:ae (¬(r3=[]/\false=true/\rs=false)):=λh=>by cases h.2.1
   go_wp2_with (refine wpList_store_row rfl 119 (.tmp 4) (.tmp 40) rfl R (gx 3 (T x) ay ay ay) rfl rfl 119 _ ow.o.res (by kernel_rfl) rfl (eF ..) ?_);refine bodyPost_ret (au results46 _ _ R 119 _ (0,0) _ _ rfl rfl ow.o.res.aI underlying119 rfl (by kernel_rfl)) rfl ?_;exact Yi.o _ _ HNN.o (ow.o.md.aI (.inr ow.o.lt.2.2)) rfl
  |true =>
   go_wp2_with fail;refine(Gi.o _ ow.o.md).mono ?_;rintro e w7 ⟨rfl,m7⟩;have uJ:=ak (ow.o.quiet m7);clear m7;cases rs with
   |true =>
    have HNN:ae (¬(r3=[]/\true=true/\true=false)):=λh=>by cases h.2.2
    go_wp2_with (refine wpList_store_row rfl 119 (.tmp 4) (.tmp 40) rfl R (gx 3 (T x) ay ay ay) rfl rfl 119 _ uJ.o.res (by kernel_rfl) rfl (eF ..) ?_);refine bodyPost_ret (au results46 _ _ R 119 _ (0,0) _ _ rfl rfl uJ.o.res.aI underlying119 rfl (by kernel_rfl)) rfl ?_;exact Yi.o _ _ HNN.o (uJ.o.md.aI (.inr uJ.o.lt.2.2)) rfl
   |false =>go_wp2_with (refine wpList_store_row rfl 119 (.tmp 4) (.tmp 40) rfl R (gx 3 (T x) ay ay ay) rfl rfl 119 _ uJ.o.res (by kernel_rfl) rfl (eF ..) ?_);refine bodyPost_ret (au results46 _ _ R 119 _ (0,0) _ _ rfl rfl uJ.o.res.aI underlying119 rfl (by kernel_rfl)) rfl ?_;exact HPY.o _ _ ⟨HD3.o,by simp⟩ (uJ.o.md.aI (.inr uJ.o.lt.2.2)) rfl
