import Derived.Test.YtmajaohgiilelaaGreatDoorC26
import Derived.Deep.Upon
import Derived.Test.YtmajaohgiilelaaGreatDoorC02
namespace Go.Proofs.YtmajaohgiilelaaGreatDoor
open Go.RowKit Tryz
open Go.RowKit Go.Sort
open _root_.Array renaming length_toList->cI
open Lib renaming compareBytes->ao
open List renaming length_append->an,drop_eq_getElem_cons->ar,getElem_mem->ba,getElem_append_left->bh,length_cons->bt,getElem_set->b9,zipWith_cons_cons->cb,ext_getElem->cc,zipWith->cd,append_assoc->ch,flatMap_cons->cj,mem_or_eq_of_mem_set->cr,length_nil->cw,append_nil->cx,length_set->cy,drop_eq_nil_of_le->cD,cons_lt_cons_iff->cG,map_cons->cH,getElem_of_mem->cJ,flatMap_append->cQ,length_zipWith->cR,drop_length->cW
open Nat renaming zero_le->bj,le_refl->ca,le_trans->cS,lt_of_lt_of_le->cT
open Option renaming map_some->cX
set_option linter.all false
set_option maxRecDepth 100000
set_option maxHeartbeats 4000000
theorem Bb(nm:tBA):∀(l:List tBA),ahH nm l<0↔nm ∉ l
 |[]=>by simp[ahH]
 |x::l=>by
  have ih:=Bb nm l;rw[ahH];by_cases h:x=nm
  ·rw[iP9 h];simp[h]
  ·rw[iN9 h];split
   ·rename_i hp
    simp[ih.1 hp,Ne.symm h]
   ·rename_i hp
    have:nm∈l:=Classical.byContradiction λhn=>hp (ih.2 hn);simp[this];omega
theorem NV:∀k,k<88->(ax[k]?.getD bU).code<=255:=by decide +kernel
theorem iQ{i j:bI}(hw:i.word=j.word)(h3:i.is32=j.is32)(hs:(i.s<0)↔(j.s<0)):Aq i=Aq j:=by unfold Aq;rw[hw,h3];simp only[hs]
structure Shape(x:PI)(i:bI):Prop where
 op:Aq i=x.o.code
 s:zQ i=x.s
 n:∀n num:Int,(num=if x.aX≠0 then n else x.num)->(x.aX≠0->0<=n/\n<4294967296)->bS (lM i n)=bS num/\(i.word=WIDE->bS (lM i n/4294967296)=bS x.high)
 w:i.word=WIDE↔x.o.slots≠1
theorem bu:aD WIDE=119/\aD CALL=99/\aD lY=104/\WIDE≠lY/\CALL≠lY/\CALL≠WIDE/\lY≠WIDE:=by decide +kernel
theorem Wz:∀k:Nat,k<4->(1:Int)+ahH (bO[k]?.getD E0) bO=(k:Int)+1:=by decide +kernel
theorem NW{l:tLB}(h:l≠[]):T l≠E0:=by
 intro e;apply h;have:=congrArg (λb:tBA=>b.data.toList) e
 simpa [T]using this
def zV(n slot:Nat)(x:PI):tLB:=if x.aX=0 then []else b8 [(n:Int)]++b8 (dY slot)++dH (T x.name)
def ah5(n:Nat):Nat->List PI->tLB
 |_,[]=>[]
 |slot,x::c=>zV n slot x++ah5 n (slot+x.o.slots) c
def ah6:List PI->Nat
 |[]=>0
 |x::c=>(if x.aX=0 then 0 else 1)+ah6 c
def ah7:Nat->List qd->tLB
 |_,[]=>[]
 |n,f::fs=>ah5 n 0 f.code++ah7 (n+1) fs
def ah8:List qd->Nat
 |[]=>0
 |f::fs=>ah6 f.code+ah8 fs
def dU:List qd->Nat
 |[]=>0
 |f::fs=>f.code.length+dU fs
theorem NZ(n slot:Nat)(c:List PI)(j:Nat)(h:j<c.length):ah5 n slot (c.drop j)=zV n slot c[j]++ah5 n (slot+c[j].o.slots) (c.drop (j+1)):=by rw[ar h];rfl
theorem N0(c:List PI)(j:Nat)(h:j<c.length):ah6 (c.drop j)=(if c[j].aX=0 then 0 else 1)+ah6 (c.drop (j+1)):=by rw[ar h];rfl
theorem N7(fs:List qd)(k n:Nat)(h:k<fs.length):ah7 n (fs.drop k)=ah5 n 0 fs[k].code++ah7 (n+1) (fs.drop (k+1)):=by rw[ar h];rfl
theorem N8(fs:List qd)(k:Nat)(h:k<fs.length):ah8 (fs.drop k)=ah6 fs[k].code+ah8 (fs.drop (k+1)):=by rw[ar h];rfl
theorem D9(fs:List qd)(k:Nat)(h:k<fs.length):dU (fs.drop k)=fs[k].code.length+dU (fs.drop (k+1)):=by rw[ar h];rfl
theorem SV(n slot:Nat)(x:PI)(h:x.name.length<=255):(zV n slot x).length<=259:=by
 unfold zV;split
 ·simp
 ·simp only[an,gQ,dS,bZ,bt,cw,dY];omega
theorem SY(w:tW)(tv vO:Value)(l:tLB)(bs:List Nat)(vM vF:Value)(ms:List dD)(fs:List qd)(vs:List Value)(hP:xq w tv bs vM vF ms fs vs)(hE:EOk ms fs)(hn:∀f∈fs,∀x∈f.code,x.name.length<=255)(ht:dU fs<=1000)(hO:Out w vO l)(hl:l.length<=300000):Calls prog 53 #[vO,vF] w λe w'=>nV w vO (l++b8 (dY (ah8 fs))++ah7 0 fs) e w':=by
 obtain⟨iU,Mj,Mk,Ml,Mm⟩:=iO;obtain⟨oF,cF,uZ,_⟩:=hP.rows.view;subst uZ;have HP:=ak hP;have HE:=ak hE;have HN:=ak hn;have HO:=ak hO;have HI0:ae (EI w (.slice none 0 0) [] w):=⟨Sl.nil _ _ _,aa.refl _ _,λk h=>by cases h⟩
 have hfl:=hE.f;have HT:=ak ht;have HLF:ae (∀k (h:k<fs.length),dU (fs.drop k)=fs[k].code.length+dU (fs.drop (k+1))):=λk h=>D9 fs k h;clear hP hE hn hO ht;go_enter func53,ntmps53;go_wp2_with fail;go_loopg [5,6,14] fs.length (λg u5 u6 u14 wx=>∃(k c:Nat) (a:tLB),k<=fs.length/\u14=.int .i64 k/\u6=.int .i64 c/\EI w u5 a wx/\a++ah7 k (fs.drop k)=ah7 0 fs/\c+ah8 (fs.drop k)=ah8 fs/\a.length+259*dU (fs.drop k)<=259*dU fs/\c<=200*k/\g=fs.length-k)
 case atStart=>exact⟨0,0,[],bj _,rfl,rfl,HI0.o,rfl,Nat.zero_add _,by simp,bj _,rfl⟩
 case round =>
  obtain⟨k,c,a,hk,rfl,rfl,hI,hR,hC,hLn,hc1,rfl⟩:=hrel;have HI:=ak hI;have HR:=ak hR;have HC:=ak hC;have HLn:=ak hLn;have HPr:=HP.o.quiet hI.md;clear hI hR hC hLn HI0;by_cases hkl:k<fs.length
  ·have Fh:k<vs.length:=by rw[HPr.len];exact hkl
   obtain⟨gF,rfl,c0,c1⟩:=HPr.atF k hkl Fh;have hok:=HE.o.fn fs[k] (ba hkl);have hcd:=HPr.code k hkl Fh;have Fb:ae (∀w',aa af w w'->aR 0 w' tv bs ax/\iZ w' vs[k] bs fs[k].code):=λw' m=>⟨(HP.o.quiet m).ops,(HP.o.quiet m).code k hkl Fh⟩
   have HD:ae (a++(ah5 k 0 fs[k].code++ah7 (k+1) (fs.drop (k+1)))=ah7 0 fs):=by rw[ae,<-HR.o,N7 fs k k hkl]
   have HD2:ae (c+(ah6 fs[k].code+ah8 (fs.drop (k+1)))=ah8 fs):=by rw[ae,<-HC.o,N8 fs k hkl]
   have HL2:ae (a.length+259*fs[k].code.length+259*dU (fs.drop (k+1))<=259*dU fs):=by have h1:=HLn.o;rw[D9 fs k hkl]at h1;rw[ae];omega
   have HNx:ae (∀x∈fs[k].code,x.name.length<=255):=HN.o fs[k] (ba hkl);generalize fs[k]=f at *;generalize vs[k]=vC at *;obtain⟨nm,code⟩:=f;simp only at *;obtain⟨o1,o2,o3⟩:=hok;obtain⟨oC,cC,rfl,_⟩:=hcd.view;have Lg:=ak Fb.o;have Yd:=ak o3;have HIa:ae (EI w u5 a (wr.alloc (.cells #[.string (T nm),.slice oC code.length cC] 145))):=HI.o.quiet ((aa.refl _ _).alloc _);have htt:=HT.o;clear Fb hcd HPr HR HC HI o3 HLn;go_wp2_with fail;generalize wr.alloc (.cells #[.string (T nm),.slice oC code.length cC] 145)=W at *;go_loopg [5,6,9,22] code.length (λg v5 v6 v9 v22 wx=>∃(j c' sl:Nat) (a':tLB),j<=code.length/\v22=.int .i64 j/\v6=.int .i64 c'/\v9=.int .i64 sl/\EI w v5 a' wx/\a'++ah5 k sl (code.drop j)=a++ah5 k 0 code/\c'+ah6 (code.drop j)=c+ah6 code/\a'.length<=a.length+259*j/\c'<=c+j/\sl<=2*j/\g=code.length-j)
   case atStart=>exact⟨0,c,0,a,bj _,rfl,rfl,rfl,HIa.o,rfl,rfl,ca _,ca _,ca _,rfl⟩
   case round =>
    clear c0 c1 HIa;obtain⟨j,c',sl,a',hjm,rfl,rfl,rfl,hI,hR,hC,hll,hcl,hsl,rfl⟩:=hrel;have HI:=ak hI;have HR:=ak hR;have HC:=ak hC;have Ff:=ak hll;clear hR hC hll;by_cases hjl:j<code.length
    ·obtain⟨g,lab,rfl,hg,y0,y1,y2,y3,y4,y5,y6,y7⟩:=DZ (Lg.o wr hI.md).2 rfl rfl j hjl;have hx:=Yd.o code[j] (ba hjl);have HD3:ae (a'++(zV k sl code[j]++ah5 k (sl+code[j].o.slots) (code.drop (j+1)))=a++ah5 k 0 code):=by rw[ae,<-HR.o,NZ k sl code j hjl]
     have Wk:ae (c'+((if(if code[j].s=1 then code[j].o.aX else 0)=0 then 0 else 1)+ah6 (code.drop (j+1)))=c+ah6 code):=by rw[ae,<-HC.o,N0 code j hjl];rfl
     have HAT:ae (∀w',aa af w w'->dM w' (bs[code[j].k]?.getD 0) code[j].o):=λw' m=>Nz (Lg.o w' m).1 code[j] hx.k;have aeM:=hx.slots;have HRU:ae (zV k sl code[j]=if(if code[j].s=1 then code[j].o.aX else 0)=0 then []else b8 [(k:Int)]++b8 (dY sl)++dH (T code[j].name)):=rfl;have HNm:ae (code[j].name.length<=255):=HNx.o _ (ba hjl);have HUL:ae ((zV k sl code[j]).length<=259):=SV k sl code[j] HNm.o;have Au:ae (∀w',aa af w w'->Calls prog 113 #[.agg #[.pointer (some ⟨bs[code[j].k]?.getD 0,0,none⟩),.int .u8 code[j].d,.int .u8 code[j].s,.int .i16 code[j].jump,.int .i32 code[j].num,.int .i32 code[j].high,.string lab,.string (T code[j].name)]] w' λe w2=>e=.returned (.int .i64 ((if code[j].s=1 then code[j].o.aX else 0:Nat):Int))/\aa af w' w2):=λw' m=>DQ w' _ code[j].o (HAT.o w' m) code[j].d code[j].s code[j].num code[j].high code[j].jump lab _;clear hx HR HC hI;generalize(if code[j].s=1 then code[j].o.aX else 0)=rf at *;generalize zV k sl code[j]=pu at *;generalize code[j].o=o at *;generalize code[j].jump=jmp at *;generalize code[j].d=xd at *;generalize code[j].s=xs at *;generalize code[j].num=xn at *;generalize code[j].high=xh at *;generalize code[j].name=xm at *;generalize bs[code[j].k]?.getD 0=b at *;go_upto_region 10 with fail;have HB1:ae (aq (wr.alloc (.cells #[.pointer (some ⟨b,0,none⟩),.int .u8 xd,.int .u8 xs,.int .i16 jmp,.int .i32 xn,.int .i32 xh,.string lab,.string (T xm)] 117)) wr.heap.size #[.pointer (some ⟨b,0,none⟩),.int .u8 xd,.int .u8 xs,.int .i16 jmp,.int .i32 xn,.int .i32 xh,.string lab,.string (T xm)] 117):=aq.new wr _ _;have HI1:ae (EI w u5 a' (wr.alloc (.cells #[.pointer (some ⟨b,0,none⟩),.int .u8 xd,.int .u8 xs,.int .i16 jmp,.int .i32 xn,.int .i32 xh,.string lab,.string (T xm)] 117))):=HI.o.quiet ((aa.refl _ _).alloc _);generalize wr.alloc (.cells #[.pointer (some ⟨b,0,none⟩),.int .u8 xd,.int .u8 xs,.int .i16 jmp,.int .i32 xn,.int .i32 xh,.string lab,.string (T xm)] 117)=w1 at *;generalize wr.heap.size=B at *;clear y0 y1 y2 y3 y4 y5 y6 y7 hg HI;have z0:=HB1.o.cell 0;have z1:=HB1.o.cell 1;have z2:=HB1.o.cell 2;have z3:=HB1.o.cell 3;have z4:=HB1.o.cell 4;have z5:=HB1.o.cell 5;have z6:=HB1.o.cell 6;have z7:=HB1.o.cell 7;go_wp2_with fail;refine(Au.o _ HI1.o.md).mono ?_;rintro e w3 ⟨rfl,m3⟩;have HI3:=ak (HI1.o.quiet m3);have HB3:=ak (HB1.o.ah m3 id);clear m3 HI1 HB1 z0 z1 z2 z3 z4 z5 z6 z7;by_cases h0:rf=0
     ·subst h0;have HP0:ae (pu=[]):=by rw[ae,HRU.o,iP9 rfl]
      have HCx:ae (c'+ah6 (code.drop (j+1))=c+ah6 code):=by have:=Wk.o;rw[iP9 rfl]at this;rw[ae];omega
      obtain⟨p1,p2,p3,p4,p5,p6,p7,p8,p9,p10,p11,AR,_⟩:=(HAT.o w3 HI3.o.md).ex;have z0:=HB3.o.cell 0;have ob2:=AR.cell 2;have HDx:ae (a'++ah5 k (sl+o.slots) (code.drop (j+1))=a++ah5 k 0 code):=by have:=HD3.o;rw[HP0.o]at this;exact this
      clear AR;generalize o.slots=os at *;go_wp2_with fail;go_roundg (code.length-(j+1))
      case measure=>omega
      case rel=>exact⟨j+1,c',sl+os,a',by omega,by go_num,rfl,by go_num,HI3.o,HDx.o,HCx.o,by have:=Ff.o;omega,by omega,by omega,rfl⟩
     ·have HP0:ae (pu=b8 [(k:Int)]++b8 (dY sl)++dH (T xm)):=by rw[ae,HRU.o,iN9 h0]
      have HCx:ae (c'+1+ah6 (code.drop (j+1))=c+ah6 code):=by have:=Wk.o;rw[iN9 h0]at this;rw[ae];omega
      have HDx:ae (a'++pu++ah5 k (sl+o.slots) (code.drop (j+1))=a++ah5 k 0 code):=by rw[ae,ch];exact HD3.o
      have hq0:((rf:Int)==0)=false:=by simp;omega
      have HAL:ae (a'.length<=259000):=by have h1:=Ff.o;have h2:=HL2.o;rw[ae];omega
      have HKB:ae (∀x∈[(k:Int)],0<=x/\x<=255):=λx hx=>by simp at hx;subst hx;omega
      have HI4:ae (∀os,EI w u5 a' (w3.alloc os)):=λos=>HI3.o.quiet ((aa.refl _ _).alloc _);have yL:ae (∀os,aq (w3.alloc os) B #[.pointer (some ⟨b,0,none⟩),.int .u8 xd,.int .u8 xs,.int .i16 jmp,.int .i32 xn,.int .i32 xh,.string lab,.string (T xm)] 117):=λos=>HB3.o.alloc _;have aeN:ae (∀os vA wA,Sl wA 5 1 vA (a'.length+1) (uL a'++[(k:Int)].map (Value.int .u8))->aa (λi=>u5.ownBlock=some i) (w3.alloc os) wA->(∀i,vA.ownBlock=some i->u5.ownBlock=some i\/(w3.alloc os).heap.size<=i)->EI w vA (a'++b8 [(k:Int)]) wA/\aq wA B #[.pointer (some ⟨b,0,none⟩),.int .u8 xd,.int .u8 xs,.int .i16 jmp,.int .i32 xn,.int .i32 xh,.string lab,.string (T xm)] 117):=λos vA wA sA mA lA=>⟨(HI4.o os).step (Out.app HKB.o rfl sA) mA lA,(yL.o os).ah mA (λe=>Sl.az (HI4.o os).dW (yL.o os) (by decide) e)⟩
      clear Wk HD3 HRU Au;go_wp2_with (at_builtin;go_loud (refine aJ _ rfl (.tmp 29) (.tmp 32) 62 rfl 5 iU (.int .u8 0) 1 1 underlying62 Mj Mk Ml Mm rfl (by decide) u5 a'.length (uL a') rfl (HI4.o _).dW ⟨w3.heap.size,0,none⟩ 1 1 ([(k:Int)].map (Value.int .u8)) rfl rfl (aT _ _ _ _ rfl) (yu _) (by have:=HAL.o;unfold maxLen;omega) (by have:=HAL.o;omega) ?_;intro vA wA sA mA lA;obtain⟨hIA,hBA⟩:=aeN.o _ _ _ sA mA lA;have HIA:ae (EI w vA (a'++b8 [(k:Int)]) wA):=hIA;have Q5:ae (aq wA B #[.pointer (some ⟨b,0,none⟩),.int .u8 xd,.int .u8 xs,.int .i16 jmp,.int .i32 xn,.int .i32 xh,.string lab,.string (T xm)] 117):=hBA;clear hIA hBA sA mA lA));refine(D5 wA vA (a'++b8 [(k:Int)]) HIA.o.dW (by have:=HAL.o;rw[an,gQ];simp only[bt,cw];omega) sl).mono ?_;rintro e w5 ⟨v5,rfl,s5,m5,l5⟩;have ET:ae (EI w v5 (a'++b8 [(k:Int)]++b8 (dY sl)) w5):=HIA.o.step s5 m5 l5;have qG:ae (aq w5 B #[.pointer (some ⟨b,0,none⟩),.int .u8 xd,.int .u8 xs,.int .i16 jmp,.int .i32 xn,.int .i32 xh,.string lab,.string (T xm)] 117):=Q5.o.ah m5 (λe=>Sl.az HIA.o.dW Q5.o (by decide) e);clear s5 m5 l5 HIA Q5;have z7:=qG.o.cell 7;go_wp2_with fail;refine(Ba w5 v5 (a'++b8 [(k:Int)]++b8 (dY sl)) ET.o.dW (by have:=HAL.o;rw[an,an,gQ,gQ];simp only[bt,cw,dY];omega) (T xm) (by rw[bZ];exact HNm.o)).mono ?_;rintro e w6 ⟨v6,rfl,s6,m6,l6⟩
      have HI6:ae (EI w v6 (a'++pu) w6):=by
       have:=ET.o.step s6 m6 l6;rw[ae,HP0.o]
       simpa [ch]using this
      have Qu:ae (aq w6 B #[.pointer (some ⟨b,0,none⟩),.int .u8 xd,.int .u8 xs,.int .i16 jmp,.int .i32 xn,.int .i32 xh,.string lab,.string (T xm)] 117):=qG.o.ah m6 (λe=>Sl.az ET.o.dW qG.o (by decide) e);clear s6 m6 l6 ET qG z7;obtain⟨p1,p2,p3,p4,p5,p6,p7,p8,p9,p10,p11,AR,_⟩:=(HAT.o w6 HI6.o.md).ex;have z0:=Qu.o.cell 0;have ob2:=AR.cell 2;clear AR;generalize o.slots=os at *;go_wp2_with fail;go_roundg (code.length-(j+1))
      case measure=>omega
      case rel=>exact⟨j+1,c'+1,sl+os,a'++pu,by omega,by go_num,by go_num,by go_num,HI6.o,HDx.o,HCx.o,by have:=Ff.o;have:=HUL.o;rw[an];omega,by omega,by omega,rfl⟩
    ·obtain rfl:j=code.length:=by omega
     have HRx:ae (a'=a++ah5 k 0 code):=by have:=HR.o;rw[cW,ah5,cx]at this;exact this
     have HCx:ae (c'=c+ah6 code):=by have:=HC.o;rw[cW,ah6]at this;rw[ae];omega
     have HIz:=HI.o;go_wp2_with fail;go_roundg (fs.length-(k+1))
     case measure=>omega
     case rel=>exact⟨k+1,c',a',by omega,by go_num,rfl,HI.o,by rw[HRx.o,ch];exact HD.o,by rw[HCx.o,Nat.add_assoc];exact HD2.o,by have h1:=Ff.o;have h2:=HL2.o;omega,by omega,rfl⟩
  ·have HRx:ae (a=ah7 0 fs):=by have:=HR.o;rw[cD (by omega),ah7,cx]at this;exact this
   have HCx:ae (c=ah8 fs):=by have:=HC.o;rw[cD (by omega),ah8]at this;rw[ae];omega
   have HAL:ae (a.length<=259000):=by have h1:=HLn.o;have h2:=HT.o;rw[ae];omega
   have HOr:=ak (HO.o.quiet HI.o.md);have HMr:=ak HI.o.md;clear HR HC HLn;obtain⟨ov,cv,hvO,_⟩:=HOr.o.view;subst hvO;go_wp2_with fail;refine(D5 wr _ l HOr.o (by omega) c).mono ?_;rintro e w5 ⟨v5,rfl,s5,m5,l5⟩;have Uz:∀i,u5.ownBlock=some i->(Value.slice ov l.length cv).ownBlock≠some i:=λi h1 h2=>by have h3:=HI.o.own i h1;have h4:=Sl.lt HO.o i h2;omega
   have ET:ae (Out w5 u5 a):=HI.o.dW.ah m5 (λi h1 h2=>Uz i h1 h2);have Ye:=ak s5;have HL2:ae ((l++b8 (dY c)).length=l.length+2):=by rw[ae,an,gQ];rfl
   obtain⟨o6,c6,h6,hb6⟩:=Ye.o.view;obtain⟨g6,cs6,rfl,_,_,hc6,hm6⟩:=hb6 (by rw[HL2.o];omega);have mU:ae (aa (λi=>(Value.slice ov l.length cv).ownBlock=some i) w w5):=(HMr.o.mono (λ_ _ h=>h.elim)).trans m5
   have HOW:ae (∀i,v5.ownBlock=some i->(Value.slice ov l.length cv).ownBlock=some i\/w.heap.size<=i):=λi hi=>by
    rcases l5 i hi with h|h
    ·exact .inl h
    ·have:=HMr.o.size;exact .inr (by omega)
   have uI:ae (∀e w',nV w (.slice ov l.length cv) (l++b8 (dY c)++a) e w'->nV w (.slice ov l.length cv) (l++b8 (dY (ah8 fs))++ah7 0 fs) e w'):=λe w' h=>by rw[<-HRx.o,<-HCx.o];exact h
   clear s5 m5 l5 Uz HOr;rw[HL2.o]at h6 hc6;rcases ET.o.2 with⟨h5,hx5⟩ |⟨g5,cap5,aeO,h5,_,hg5,hx5⟩
   ·subst h5 h6
    have ha:a=[]:=by
     cases a with
     |nil=>rfl
     |cons y ys=>simp[uL]at hx5
    subst ha;go_wp2_with fail;go_ret;exact uI.o _ _ ⟨_,rfl,by rw[cx];exact Ye.o,mU.o,HOW.o⟩
   ·subst h5 h6;have hb5:aq w5 g5 aeO 5:=hg5;obtain⟨hx1,hx2,hx3,hx4⟩:=hx5
    have rH:ae (∀j u,(uL a)[j]?=some u->w5.cell? ((⟨g5,0,none⟩:Addr).add j)=some u):=λj u hu=>by
     have hadd:(⟨g5,0,none⟩:Addr).add j=⟨g5,j,none⟩:=by unfold Addr.add;split<;>simp_all
     have hj:j<(uL a).length:=(List.getElem?_eq_some_iff.1 hu).1;have hj2:j<a.length*1:=by rw[<-hx4,List.length_take]at hj;omega
     rw[hadd,bA hb5 hx4 j hj2];exact hu
    have JT:ae (∀u∈uL a,u.oneCell'=true):=λu hu=>by unfold uL at hu;obtain⟨y,_,rfl⟩:=List.mem_map.1 hu;rfl
    have HNL:ae ((uL a).length=a.length*1):=by rw[ae];unfold uL;simp
    have HO6:ae (Sl w5 5 1 (.slice (some ⟨g6,0,none⟩) (l.length+2) c6) (l.length+2) (uL (l++b8 (dY c)))):=by have:=Ye.o;rw[Out,HL2.o]at this;exact this
    clear hb5 hg5 hx4;go_wp2_with (at_builtin;refine aJ w5 rfl (.tmp 53) (.tmp 54) 62 rfl 5 iU (.int .u8 0) 1 1 underlying62 Mj Mk Ml Mm rfl (by decide) (.slice (some ⟨g6,0,none⟩) (l.length+2) c6) (l.length+2) (uL (l++b8 (dY c))) rfl HO6.o ⟨g5,0,none⟩ a.length cap5 (uL a) rfl HNL.o rH.o JT.o (by have:=HAL.o;unfold maxLen;omega) (by have:=HAL.o;omega) ?_;intro v7 w7 s7 m7 l7);go_ret;refine uI.o _ _ ⟨_,rfl,?_,D4 mU.o HOW.o m7,qY HOW.o l7 mU.o.size⟩;rw[Out,zR,an,HL2.o];exact s7
theorem N9{w:tW}{v:Value}{l:tLB}(h:Out w v l)(h0:0<l.length):Sem.run prog (convert 62 9 v) w=.ok (.string (T l)) w:=by
 obtain⟨o,c,rfl,h2⟩:=Sl.view h;obtain⟨g,cs,rfl,hb,ht,_⟩:=h2 h0;have key:=run_convert_bytes_back (P:=prog) w 62 9 5 ⟨g,0,none⟩ c l underlying62 underlying5 underlying9 ?_
 ·exact key
 ·intro j hj;have hadd:(⟨g,0,none⟩:Addr).add j=⟨g,j,none⟩:=by unfold Addr.add;split<;>simp_all
  rw[hadd,bA hb ht j (by omega)];simp[uL,hj]
theorem Lh(w:tW)(tv:Value)(bs:List Nat)(vM vF:Value)(ms:List dD)(fs:List qd)(vs:List Value)(hP:xq w tv bs vM vF ms fs vs)(hE:EOk ms fs)(hn:∀f∈fs,∀x∈f.code,x.name.length<=255)(ht:dU fs<=1000)(hl:(xg 1 ms fs).length<=300000):Calls prog 28 #[.agg #[vM,vF]] w λe w'=>e=.returned (.string (T (xg 1 ms fs++b8 (dY (ah8 fs))++ah7 0 fs)))/\aa af w w':=by
 obtain⟨oM,cM,Jv,_⟩:=hP.maps.view;obtain⟨oF,cF,uZ,_⟩:=hP.rows.view;subst Jv uZ;have HP:=ak hP;have HEN:ae (∀w',xq w' tv bs (.slice oM ms.length cM) (.slice oF fs.length cF) ms fs vs->Calls prog 54 #[.int .u8 1,.agg #[.slice oM ms.length cM,.slice oF fs.length cF]] w' λe w2=>∃v,e=.returned v/\EI w' v (xg 1 ms fs) w2):=λw' h=>Wy 1 (by decide) w' tv bs _ _ ms fs vs h hE;have KZ:ae (∀w' v,xq w' tv bs (.slice oM ms.length cM) (.slice oF fs.length cF) ms fs vs->Out w' v (xg 1 ms fs)->Calls prog 53 #[v,.slice oF fs.length cF] w' λe w2=>nV w' v (xg 1 ms fs++b8 (dY (ah8 fs))++ah7 0 fs) e w2):=λw' v h h2=>SY w' tv v _ bs _ _ ms fs vs h hE hn ht h2 hl;have HL:ae (0<(xg 1 ms fs++b8 (dY (ah8 fs))++ah7 0 fs).length):=by rw[ae];simp[xg]
 clear hP hE hn ht hl;have fq:ae (xq (w.alloc (.cells #[.slice oM ms.length cM,.slice oF fs.length cF] 85)) tv bs (.slice oM ms.length cM) (.slice oF fs.length cF) ms fs vs):=HP.o.quiet ((aa.refl _ _).alloc _);have HB1:ae (aq (w.alloc (.cells #[.slice oM ms.length cM,.slice oF fs.length cF] 85)) w.heap.size #[.slice oM ms.length cM,.slice oF fs.length cF] 85):=aq.new w _ _;have iG:ae (aa af w (w.alloc (.cells #[.slice oM ms.length cM,.slice oF fs.length cF] 85))):=(aa.refl _ _).alloc _;generalize xg 1 ms fs++b8 (dY (ah8 fs))++ah7 0 fs=res at *;generalize xg 1 ms fs=enc at *;go_enter func28,ntmps28;go_upto_region 1 with fail;generalize w.alloc (.cells #[.slice oM ms.length cM,.slice oF fs.length cF] 85)=w1 at *;generalize w.heap.size=B at *;have d0:∀e:Ext af w1,e.w.cell? ⟨B,0,none⟩=some (.slice oM ms.length cM):=λe=>(HB1.o.ah e.m id).cell 0;have d1:∀e:Ext af w1,e.w.cell? ⟨B,1,none⟩=some (.slice oF fs.length cF):=λe=>(HB1.o.ah e.m id).cell 1
 haveI:Nonempty (Ext af w1):=Ext.ne _ _
 refine aZ [1,4,5] (λw'=>∃e:Ext af w1,w'=e.w) (by kernel_rfl) (by kernel_rfl) (by kernel_rfl) ⟨⟨_,(aa.refl _ _).drew⟩,rfl⟩ ?_
 iterate 1 (refine aB rfl rfl rfl ?_;intro K hK;go_big_quiet_op;go_big_quiet_on)
 refine aF rfl rfl ?_;intro K hK;go_big_op;refine(HEN.o _ (fq.o.quiet ((aa.refl _ _).drew))).mono ?_;rintro e w2 ⟨v2,rfl,hI2⟩;have HI2:ae (EI w1 v2 enc w2):=⟨hI2.dW,((aa.refl _ _).drew).trans hI2.md,λk hk=>by have:=hI2.own k hk;simpa using this⟩
 refine hK _ _ rfl ⟨⟨_,HI2.o.md⟩,rfl⟩ ?_;clear hK K hI2
 iterate 2 (refine aB rfl rfl rfl ?_;intro K hK;go_big_quiet_op;go_big_quiet_on)
 refine aF rfl rfl ?_;intro K hK;go_big_op;refine(KZ.o w2 v2 (fq.o.quiet HI2.o.md) HI2.o.dW).mono ?_;rintro e w3 ⟨v3,rfl,s3,m3,l3⟩;have HI3:ae (EI w1 v3 res w3):=HI2.o.step s3 m3 l3;refine hK _ _ rfl ⟨⟨_,HI3.o.md⟩,rfl⟩ ?_;clear hK K s3 m3 l3;refine aF rfl rfl ?_;intro K hK;have hcv:=N9 HI3.o.dW HL.o;go_big_op;refine hK _ _ rfl ⟨⟨_,HI3.o.md⟩,rfl⟩ ?_;clear hK K hcv
 iterate 1 (refine aB rfl rfl rfl ?_;intro K hK;go_big_quiet_op;go_big_quiet_on)
 refine cu ?_;simp only[Exit.then];go_wp2_with fail;go_ret;exact⟨rfl,iG.o.trans HI3.o.md⟩
theorem zW{α β:Type}(f:α->List β)(n:Nat):∀(l:List α),(∀x∈l,(f x).length<=n)->(l.flatMap f).length<=l.length*n
 |[],_=>by simp
 |x::l,h=>by rw[cj,an,bt,Nat.succ_mul];have h1:=h x (by simp);have h2:=zW f n l (λy hy=>h y (by simp[hy]));omega
section
variable {α : Type} [Inhabited α]
theorem yz(enc:α->List Value)(k:Nat)(hk:∀x,(enc x).length=k)(l:List α):(flatK enc k l.toArray).toList=l.flatMap enc:=by
 have hl:(l.flatMap enc).length=l.length*k:=by
  induction l with
  |nil=>simp
  |cons x l ih=>rw[cj,an,ih,hk,bt,Nat.succ_mul,Nat.add_comm]
 refine cc (by rw[cI,size_flatK,hl];rfl) λt h1 h2=>?_;have ht:t<l.length*k:=by rw[<-hl];exact h2
 have k0:0<k:=by
  rcases Nat.eq_zero_or_pos k with h|h
  ·subst h;simp at ht
  ·exact h
 have hi:t/k<l.length:=Nat.div_lt_of_lt_mul (by rw[Nat.mul_comm];exact ht);have hc:=Nat.mod_lt t k0;have e:=flat_get enc k hk l (t/k) (t%k) hi hc;rw[Nat.div_add_mod' t k,List.getElem?_eq_getElem h2]at e;have e1:(flatK enc k l.toArray).toList[t]=(flatK enc k l.toArray)[t]!:=by rw[getElem!_pos (flatK enc k l.toArray) t (by simpa using h1)];simp
 rw[e1,get_flatK enc k l.toArray t (by simpa using ht)];have e2:l.toArray[t/k]! = l[t/k]:=by rw[getElem!_pos l.toArray (t/k) (by simpa using hi)];simp
 rw[e2];have e3:(enc l[t/k])[t%k]?=some (enc l[t/k])[t%k]!:=by rw[getElem!_pos (enc l[t/k]) (t%k) (by rw[hk];exact hc),List.getElem?_eq_getElem (by rw[hk];exact hc)]
 rw[e3]at e;exact(Option.some.inj e).symm
theorem S9{d d':Array α}{n:Nat}(hn:n=d.size)(h:PermIn 0 n d d'):d'.toList.Perm d.toList:=by
 obtain⟨hs,_,hp⟩:=h;subst hn;have e1:(d'.extract 0 d.size).toList=d'.toList:=by rw[<-hs];simp
 have e2:(d.extract 0 d.size).toList=d.toList:=by simp
 rwa [e1,e2]at hp
theorem Li{lt:α->α->Bool}{d:Array α}{n:Nat}(hn:n=d.size)(h:SortedIn lt 0 n d):d.toList.Pairwise (λx y=>lt y x=false):=by
 rw[List.pairwise_iff_getElem];intro i j hi hj hij;have:=h i j (bj _) hij (by rw[hn];simpa using hj);rw[getElem!_pos d i (by simpa using hi),getElem!_pos d j (by simpa using hj)]at this
 simpa using this
theorem WA{w:tW}{g:Nat}{o:Obj}{os:Array Obj}(h:w.heap[g]?=some o):(grow w os).heap[g]?=some o:=by
 have hg:=(Array.getElem?_eq_some_iff.1 h).1;show(w.heap++os)[g]?=_
 rw[Array.getElem?_append_left hg,h]
theorem Jy{w:tW}{e:TypeId}(enc:α->List Value)(k:Nat)(hk:∀x,(enc x).length=k){g cap n:Nat}{l l':List α}(hl:l'.length=l.length)(hs:Sl w e k (.slice (some ⟨g,0,none⟩) l.length cap) l.length (l.flatMap enc))(os:Array Obj):Sl (sortWorldK enc k w g 0 n l'.toArray os) e k (.slice (some ⟨g,0,none⟩) l.length cap) l.length (l'.flatMap enc)/\aa (λb=>b=g) w (sortWorldK enc k w g 0 n l'.toArray os):=by
 have hF:=yz enc k hk l';have hFs:(flatK enc k l'.toArray).size=l.length*k:=by rw[size_flatK];simp[hl]
 have hlen:(l'.flatMap enc).length=l.length*k:=by rw[<-hF,cI,hFs]
 generalize flatK enc k l'.toArray=F at hF hFs;rcases hs.2 with⟨h,_⟩ |⟨g',cap',cur,h,h0,hg,hn,hm,hcs,ht⟩
 ·cases h
 cases h
 have hb:(sortWorldK enc k w g 0 n l'.toArray os).heap[g]?=some (.cells (putCells id 0 (flatK enc k l'.toArray) cur) e):=by
  refine WA ?_;show(w.heap.modify g _)[g]?=_
  rw[Array.getElem?_modify,iP9 rfl,hg];rfl
 refine⟨⟨hlen,.inr ⟨g,cap,_,rfl,h0,hb,hn,hm,?_,?_⟩⟩,⟨rfl,rfl,rfl,?_,λb hb1 hb2=>?_⟩⟩
 ·unfold putCells;rw[Array.size_mapIdx,hcs]
 ·rw[<-yz enc k hk l'];have ahg:(flatK enc k l'.toArray).size=l.length*k:=by rw[size_flatK];simp[hl]
  have ahh:l.length*k<=cur.size:=by rw[hcs];exact Nat.mul_le_mul_right _ hn
  refine cc (by simp[putCells,hl];omega) λt h1 h2=>?_;have h3:t<(flatK enc k l'.toArray).size:=by simpa using h2
  rw[List.getElem_take];simp only[putCells,Array.getElem_toList,Array.getElem_mapIdx];rw[iP9 ⟨bj _,by omega⟩,Nat.sub_zero,getElem!_pos _ t h3];rfl
 ·show w.heap.size<=(w.heap.modify g _++os).size
  simp
 ·show(w.heap.modify g _++os)[b]?=_
  rw[Array.getElem?_append_left (by simpa using hb1),Array.getElem?_modify,iN9 (λe=>hb2 e.symm)]
theorem Ta{w:tW}{e:TypeId}(enc:α->List Value)(k:Nat)(hk:∀x,(enc x).length=k){g cap:Nat}{l:List α}(hs:Sl w e k (.slice (some ⟨g,0,none⟩) l.length cap) l.length (l.flatMap enc)):HoldsK enc k w g 0 l.toArray/\g<w.heap.size:=by
 rcases hs.2 with⟨h',_⟩ |⟨g',cap',cs,h',_,hg,_,_,_,ht⟩
 ·cases h'
 cases h';have hb:aq w g cs e:=hg;refine⟨λj hj=>?_,hb.lt⟩;rw[Nat.zero_add];refine⟨?_,hb.frozen _⟩;have hj':j<l.length*k:=by rw[size_flatK]at hj;simpa using hj
 rw[bA hb ht j hj',<-yz enc k hk l,getElem!_pos _ j hj,List.getElem?_eq_getElem (by simpa using hj)];simp
theorem Qy{ρ:Go.Shelf.Ren}(L:SlLaysF0.n6 prog ρ)(k:Nat)(aE:∀w,(isAgg (ρ.t 24)).run prog w=.ok true w)(zE:∀w,(Go.sizeOf (ρ.t 24)).run prog w=.ok k w)(enc:α->List Value)(hk:∀x,(enc x).length=k)(h1:∀x,∀v∈enc x,v.oneCell'=true)(cf:α->α->Int)(hO:SWO (ltOf cf))(f:Nat)(eg:∀args w,(callFunc f args).run prog w=.ok (.enter f args) w) (hcmp:∀(w:tW) x y,Calls prog f #[.agg (enc x).toArray,.agg (enc y).toArray] w λe w'=>e=.returned (.int .i64 (cf x y))/\∃q os',w'=grow (w.drewN q) os')(w:tW) (e:TypeId) (v:Value) (l:List α) (g cap:Nat) (hv:v=.slice (some ⟨g,0,none⟩) l.length cap) (hl:l.length<=1000000) (hs:Sl w e k v l.length (l.flatMap enc)):Calls prog (ρ.f 6) #[v,.func (.func f) #[] #[]] w λr w'=>r=.returned (.tuple #[])/\∃l':List α,l'.Perm l/\l'.Pairwise (λx y=>ltOf cf y x=false)/\Sl w' e k v l'.length (l'.flatMap enc)/\aa (λb=>v.ownBlock=some b) w w':=by
 subst hv;obtain⟨hH,hg⟩:=Ta enc k hk hs;have hcon:=AnyQ.slices_SortFunc L k aE zE enc hk h1 cf hO f #[] g 0 cap l.toArray w eg (λm os dk _ x y=>hcmp _ x y) hH hg (by simp;omega);refine hcon.mono ?_;rintro r w' ⟨rfl,d',n,os,hp,wW,rfl⟩;have hp':=S9 rfl hp;have hs':=Li (d:=d') (by rw[hp.1]) wW;have e1:d'.toList.length=l.length:=by rw[hp'.length_eq]
 obtain⟨hA,hB⟩:=Jy (n:=n) enc k hk (l':=d'.toList) e1 hs os;refine⟨rfl,d'.toList,by simpa using hp',hs',?_,?_⟩
 ·rw[e1];exact hA
 ·exact⟨hB.os,hB.tape,hB.output,hB.size,λb hb hn=>hB.block b hb (λe=>hn (by rw[e];rfl))⟩
end
theorem Qz:∀a b:tLB,decide (ao a b<0)=decide (a<b)
 |[],[]=>by simp[ao,List.lt_irrefl]
 |[],b::bs=>by simp[ao]
 |a::as',[]=>by simp[ao]
 |a::as',b::bs=>by
  unfold ao;by_cases h:a<b
  ·rw[iP9 h];simp[cG,h]
  ·rw[iN9 h];by_cases h2:b<a
   ·rw[iP9 h2];have h3:¬a=b:=λe=>by subst e;exact h h2
    simp[cG,h,h3]
   ·rw[iN9 h2];have h3:a=b:=by apply UInt8.toNat_inj.1;have h4:¬a.toNat<b.toNat:=λe=>h (UInt8.lt_iff_toNat_lt.2 e);have h5:¬b.toNat<a.toNat:=λe=>h2 (UInt8.lt_iff_toNat_lt.2 e);omega
    subst h3;rw[Qz as' bs];simp
section
variable {α : Type} (nm : α -> List UInt8)
def cfN(x y:α):Int:=ao (nm x) (nm y)
theorem ltN(x y:α):ltOf (cfN nm) x y=jO (T (nm x)) (T (nm y)):=by
 unfold ltOf cfN;rw[Qz,Jw];have e:∀l:tLB,(T l).toList=l:=λl=>by rw[ByteArray.toList_eq];simp[T]
 rw[e,e]
theorem adj:SWO (ltOf (cfN nm)) where
 irrefl x:=by rw[ltN];exact D6 _
 trans x y z h1 h2:=by rw[ltN]at *;exact Bc h1 h2
 ntrans x y z h1 h2:=by rw[ltN]at *;exact GR h2 h1
end
theorem QA(w:tW)(a b:tLB):Calls prog 121 #[.string (T a),.string (T b)] w λe w'=>e=.returned (.int .i64 (ao a b))/\w'=w:=by
 have h:=Any.strings_Compare lc (T a) (T b) w;have e:∀l:tLB,(T l).data.toList=l:=λl=>by simp[T]
 rw[e,e]at h;exact h
theorem Lj(w:tW):Calls prog 217 #[.int .u64 0] w λe w'=>e=.returned (.int .i64 0)/\w'=w:=by have h:=Any.bits_Len lb 0 w (by omega) (by omega);refine h.mono ?_;rintro e w' ⟨rfl,rfl⟩;exact⟨rfl,rfl⟩
theorem Tc(w:tW)(a b:tLB)(x1 x2 x3 y1 y2 y3:Int):Calls prog 120 #[.agg #[.string (T a),.int .u8 x1,.int .u8 x2,.int .u8 x3],.agg #[.string (T b),.int .u8 y1,.int .u8 y2,.int .u8 y3]] w λe w'=>e=.returned (.int .i64 (ao a b))/\∃q os',w'=grow (w.drewN q) os':=by have hcon:=λW=>QA W a b;generalize ao a b=r at *;generalize T a=ta at *;generalize T b=tb at *;go_enter func120,ntmps120;go_wp2_with fail;refine(hcon _).mono ?_;rintro e w' ⟨rfl,rfl⟩;go_wp2_with fail;go_ret;exact⟨rfl,0,_,by rw[alloc_eq_grow,alloc_eq_grow,grow_grow];rfl⟩
theorem Td(w:tW)(a b:tLB)(o1 o2:Option Addr)(n1 c1 n2 c2:Nat):Calls prog 123 #[.agg #[.string (T a),.slice o1 n1 c1],.agg #[.string (T b),.slice o2 n2 c2]] w λe w'=>e=.returned (.int .i64 (ao a b))/\∃q os',w'=grow (w.drewN q) os':=by have hcon:=λW=>QA W a b;generalize ao a b=r at *;generalize T a=ta at *;generalize T b=tb at *;go_enter func123,ntmps123;go_wp2_with fail;refine(hcon _).mono ?_;rintro e w' ⟨rfl,rfl⟩;go_wp2_with fail;go_ret;exact⟨rfl,0,_,by rw[alloc_eq_grow,alloc_eq_grow,grow_grow];rfl⟩
structure iJ where
 f:qd
 o:Option Addr
 n:Nat
 c:Nat
def iJ.v(x:iJ):Value:=.slice x.o x.n x.c
def iJ.cells(x:iJ):List Value:=[.string (T x.f.name),.slice x.o x.n x.c]
theorem Oa(w:tW)(v:Value)(l:List dD)(g cap:Nat)(hv:v=.slice (some ⟨g,0,none⟩) l.length cap)(hl:l.length<=1000000)(hs:Sl w 141 4 v l.length (l.flatMap dD.cells)):Calls prog 119 #[v,.func (.func 120) #[] #[]] w λr w'=>r=.returned (.tuple #[])/\∃l':List dD,l'.Perm l/\l'.Pairwise (λx y=>jO (T y.name) (T x.name)=false)/\Sl w' 141 4 v l'.length (l'.flatMap dD.cells)/\aa (λb=>v.ownBlock=some b) w w':=by
 have eg:∀args w,(callFunc 120 args).run prog w=.ok (.enter 120 args) w:=enters_of func120 (by kernel_rfl) rfl;have inh:Inhabited dD:=⟨⟨[],0,0,0⟩⟩
 have h:=Qy soM 4 isAgg141 sizeOf141 dD.cells (λ_=>rfl) (λx v hv=>by simp[dD.cells]at hv;rcases hv with rfl|rfl|rfl|rfl<;>rfl) (cfN dD.name) (adj _) 120 eg (λw x y=>Tc w x.name y.name _ _ _ _ _ _) w 141 v l g cap hv hl hs;refine h.mono ?_;rintro r w' ⟨rfl,l',hp,hq,hs',hm⟩;exact⟨rfl,l',hp,hq.imp (fun{x y} e=>by rw[<-ltN dD.name];exact e),hs',hm⟩
theorem Ob(w:tW)(v:Value)(l:List iJ)(g cap:Nat)(hv:v=.slice (some ⟨g,0,none⟩) l.length cap)(hl:l.length<=1000000)(hs:Sl w 145 2 v l.length (l.flatMap iJ.cells)):Calls prog 122 #[v,.func (.func 123) #[] #[]] w λr w'=>r=.returned (.tuple #[])/\∃l':List iJ,l'.Perm l/\l'.Pairwise (λx y=>jO (T y.f.name) (T x.f.name)=false)/\Sl w' 145 2 v l'.length (l'.flatMap iJ.cells)/\aa (λb=>v.ownBlock=some b) w w':=by
 have eg:∀args w,(callFunc 123 args).run prog w=.ok (.enter 123 args) w:=enters_of func123 (by kernel_rfl) rfl;have inh:Inhabited iJ:=⟨⟨⟨[],[]⟩,none,0,0⟩⟩
 have h:=Qy soF 2 isAgg145 sizeOf145 iJ.cells (λ_=>rfl) (λx v hv=>by simp[iJ.cells]at hv;rcases hv with rfl|rfl<;>rfl) (cfN (λx:iJ=>x.f.name)) (adj _) 123 eg (λw x y=>Td w x.f.name y.f.name _ _ _ _ _ _) w 145 v l g cap hv hl hs;refine h.mono ?_;rintro r w' ⟨rfl,l',hp,hq,hs',hm⟩;exact⟨rfl,l',hp,hq.imp (fun{x y} e=>by rw[<-ltN (λx:iJ=>x.f.name)];exact e),hs',hm⟩
theorem WB(w:tW)(f:Value)(hf:f=.func (.func 120) #[] #[]):Calls prog 257 #[.slice none 0 0,.int .i64 0,.int .i64 0,f] w λe w'=>e=.returned (.tuple #[])/\aa af w w':=by
 subst hf;go_enter func257,ntmps257;go_wp2_with fail;go_loopg [8] 1 (λg iv wx=>iv=.int .i64 1/\aa af w wx/\g=1)
 case atStart=>exact⟨rfl,aa.refl _ _,rfl⟩
 case round =>obtain⟨rfl,HM,rfl⟩:=hrel;go_wp2_with fail;go_end0;exact⟨rfl,HM⟩
theorem WC(w:tW)(f:Value)(hf:f=.func (.func 120) #[] #[]):Calls prog 216 #[.slice none 0 0,.int .i64 0,.int .i64 0,.int .i64 0,f] w λe w'=>e=.returned (.tuple #[])/\aa af w w':=by
 subst hf;go_enter func216,ntmps216;go_wp2_with fail;go_loopg [1,2,3] 1 (λg a b c wx=>a=.int .i64 0/\b=.int .i64 0/\c=.int .i64 0/\aa af w wx/\g=1)
 case atStart=>exact⟨rfl,rfl,rfl,aa.refl _ _,rfl⟩
 case round =>obtain⟨rfl,rfl,rfl,HM,rfl⟩:=hrel;go_wp2_with fail;refine(WB _ _ rfl).mono ?_;rintro e w2 ⟨rfl,m2⟩;go_wp2_with fail;refine bodyPost_ret (results_none rfl _ _ _) rfl ?_;exact⟨rfl,HM.trans m2⟩
theorem Te(w:tW):Calls prog 119 #[.slice none 0 0,.func (.func 120) #[] #[]] w λe w'=>e=.returned (.tuple #[])/\aa af w w':=by go_enter func119,ntmps119;go_wp2_with fail;refine(Lj _).mono ?_;rintro e w1 ⟨rfl,rfl⟩;go_wp2_with fail;refine(WC _ _ rfl).mono ?_;rintro e w2 ⟨rfl,m2⟩;go_wp2_with fail;go_end0;exact⟨rfl,m2⟩
theorem WD(w:tW)(f:Value)(hf:f=.func (.func 123) #[] #[]):Calls prog 268 #[.slice none 0 0,.int .i64 0,.int .i64 0,f] w λe w'=>e=.returned (.tuple #[])/\aa af w w':=by
 subst hf;go_enter func268,ntmps268;go_wp2_with fail;go_loopg [8] 1 (λg iv wx=>iv=.int .i64 1/\aa af w wx/\g=1)
 case atStart=>exact⟨rfl,aa.refl _ _,rfl⟩
 case round =>obtain⟨rfl,HM,rfl⟩:=hrel;go_wp2_with fail;go_end0;exact⟨rfl,HM⟩
theorem WE(w:tW)(f:Value)(hf:f=.func (.func 123) #[] #[]):Calls prog 219 #[.slice none 0 0,.int .i64 0,.int .i64 0,.int .i64 0,f] w λe w'=>e=.returned (.tuple #[])/\aa af w w':=by
 subst hf;go_enter func219,ntmps219;go_wp2_with fail;go_loopg [1,2,3] 1 (λg a b c wx=>a=.int .i64 0/\b=.int .i64 0/\c=.int .i64 0/\aa af w wx/\g=1)
 case atStart=>exact⟨rfl,rfl,rfl,aa.refl _ _,rfl⟩
 case round =>obtain⟨rfl,rfl,rfl,HM,rfl⟩:=hrel;go_wp2_with fail;refine(WD _ _ rfl).mono ?_;rintro e w2 ⟨rfl,m2⟩;go_wp2_with fail;refine bodyPost_ret (results_none rfl _ _ _) rfl ?_;exact⟨rfl,HM.trans m2⟩
theorem Tf(w:tW):Calls prog 122 #[.slice none 0 0,.func (.func 123) #[] #[]] w λe w'=>e=.returned (.tuple #[])/\aa af w w':=by go_enter func122,ntmps122;go_wp2_with fail;refine(Lj _).mono ?_;rintro e w1 ⟨rfl,rfl⟩;go_wp2_with fail;refine(WE _ _ rfl).mono ?_;rintro e w2 ⟨rfl,m2⟩;go_wp2_with fail;go_end0;exact⟨rfl,m2⟩
theorem Tg(w:tW)(v:Value)(l:List dD)(hl:l.length<=1000000)(hs:Sl w 141 4 v l.length (l.flatMap dD.cells)):Calls prog 119 #[v,.func (.func 120) #[] #[]] w λr w'=>r=.returned (.tuple #[])/\∃l':List dD,l'.Perm l/\l'.Pairwise (λx y=>jO (T y.name) (T x.name)=false)/\Sl w' 141 4 v l'.length (l'.flatMap dD.cells)/\aa (λb=>v.ownBlock=some b) w w':=by
 rcases hs.2 with⟨h',hn⟩ |⟨g,cap,cs,h',_⟩
 case inr=>exact Oa w v l g cap h' hl hs
 case inl =>have e:l=[]:=List.length_eq_zero_iff.1 (by omega);subst e;rw[h'];refine(Te w).mono ?_;rintro r w' ⟨rfl,m⟩;exact⟨rfl,[],List.Perm.refl _,List.Pairwise.nil,Sl.nil _ _ _,m.os,m.tape,m.output,m.size,λb hb _=>m.block b hb id⟩
theorem Th(w:tW)(v:Value)(l:List iJ)(hl:l.length<=1000000)(hs:Sl w 145 2 v l.length (l.flatMap iJ.cells)):Calls prog 122 #[v,.func (.func 123) #[] #[]] w λr w'=>r=.returned (.tuple #[])/\∃l':List iJ,l'.Perm l/\l'.Pairwise (λx y=>jO (T y.f.name) (T x.f.name)=false)/\Sl w' 145 2 v l'.length (l'.flatMap iJ.cells)/\aa (λb=>v.ownBlock=some b) w w':=by
 rcases hs.2 with⟨h',hn⟩ |⟨g,cap,cs,h',_⟩
 case inr=>exact Ob w v l g cap h' hl hs
 case inl =>have e:l=[]:=List.length_eq_zero_iff.1 (by omega);subst e;rw[h'];refine(Tf w).mono ?_;rintro r w' ⟨rfl,m⟩;exact⟨rfl,[],List.Perm.refl _,List.Pairwise.nil,Sl.nil _ _ _,m.os,m.tape,m.output,m.size,λb hb _=>m.block b hb id⟩
theorem Ti(w:tW)(vM vF:Value)(ms:List dD)(rs:List iJ)(Kl:ms.length<=1000000)(hrl:rs.length<=1000000)(hM:Sl w 141 4 vM ms.length (ms.flatMap dD.cells))(hF:Sl w 145 2 vF rs.length (rs.flatMap iJ.cells)):Calls prog 57 #[.agg #[vM,vF]] w λr w'=>r=.returned (.tuple #[])/\∃(ms':List dD) (rs':List iJ),ms'.Perm ms/\ms'.Pairwise (λx y=>jO (T y.name) (T x.name)=false)/\rs'.Perm rs/\rs'.Pairwise (λx y=>jO (T y.f.name) (T x.f.name)=false) /\ Sl w' 141 4 vM ms'.length (ms'.flatMap dD.cells)/\Sl w' 145 2 vF rs'.length (rs'.flatMap iJ.cells)/\aa (λb=>vM.ownBlock=some b\/vF.ownBlock=some b) w w':=by
 obtain⟨oM,cM,Jv,_⟩:=hM.view;obtain⟨oF,cF,uZ,_⟩:=hF.view;have m0:aa af w (w.alloc (.cells #[vM,vF] 85)):=(aa.refl _ _).alloc _;have hb0:=aq.new w #[vM,vF] 85
 have H1:ae (Calls prog 119 #[vM,.func (.func 120) #[] #[]] (w.alloc (.cells #[vM,vF] 85)) λr w'=>r=.returned (.tuple #[])/\∃l':List dD,l'.Perm ms/\l'.Pairwise (λx y=>jO (T y.name) (T x.name)=false)/\Sl w' 141 4 vM l'.length (l'.flatMap dD.cells)/\aa (λb=>vM.ownBlock=some b) (w.alloc (.cells #[vM,vF] 85)) w') :=
  Tg _ vM ms Kl (hM.ah m0 (λ_ _=>id))
 have H2:ae (∀w',aa (λb=>vM.ownBlock=some b) (w.alloc (.cells #[vM,vF] 85)) w'->aq w' w.heap.size #[vM,vF] 85/\Calls prog 122 #[vF,.func (.func 123) #[] #[]] w' λr w''=>r=.returned (.tuple #[])/\∃l':List iJ,l'.Perm rs/\l'.Pairwise (λx y=>jO (T y.f.name) (T x.f.name)=false)/\Sl w'' 145 2 vF l'.length (l'.flatMap iJ.cells)/\aa (λb=>vF.ownBlock=some b) w' w''):=λw' m=>by refine⟨hb0.ah m ((hM.ah m0 (λ_ _=>id)).az hb0 (by decide)),Th _ vF rs hrl ((hF.ah m0 (λ_ _=>id)).ah m (λk hk e=>?_))⟩;exact hM.apart hF (by decide) e hk
 have H3:ae (∀w' w'' (ms':List dD),Sl w' 141 4 vM ms'.length (ms'.flatMap dD.cells)->aa (λb=>vF.ownBlock=some b) w' w''->Sl w'' 141 4 vM ms'.length (ms'.flatMap dD.cells)):=λw' w'' ms' h m=>h.ah m (λk hk e=>hM.apart hF (by decide) hk e);have gq:=ak m0;subst Jv uZ;clear hM hF hb0 m0;go_enter func57,ntmps57;go_wp2_with fail;refine H1.o.mono ?_;rintro e w1 ⟨rfl,ms',p1,q1,s1,m1⟩;have hb1:=(H2.o w1 m1).1.cell 1;have z1:w1.cell? ⟨w.heap.size,1,none⟩=some (.slice oF rs.length cF):=hb1;have HC:ae (Calls prog 122 #[.slice oF rs.length cF,.func (.func 123) #[] #[]] w1 λr w''=>r=.returned (.tuple #[])/\∃l':List iJ,l'.Perm rs/\l'.Pairwise (λx y=>jO (T y.f.name) (T x.f.name)=false)/\Sl w'' 145 2 (.slice oF rs.length cF) l'.length (l'.flatMap iJ.cells)/\aa (λb=>(Value.slice oF rs.length cF).ownBlock=some b) w1 w''):=(H2.o w1 m1).2;have fq:ae (ms'.Perm ms/\ms'.Pairwise (λx y=>jO (T y.name) (T x.name)=false)/\Sl w1 141 4 (.slice oM ms.length cM) ms'.length (ms'.flatMap dD.cells)/\aa (λb=>(Value.slice oM ms.length cM).ownBlock=some b) (w.alloc (.cells #[.slice oM ms.length cM,.slice oF rs.length cF] 85)) w1):=⟨p1,q1,s1,m1⟩
 clear hb1 p1 q1 s1 m1 H1 H2;go_wp2_with fail;refine HC.o.mono ?_;rintro e w2 ⟨rfl,rs',p2,q2,s2,m2⟩;have eT:ae (rs'.Perm rs/\rs'.Pairwise (λx y=>jO (T y.f.name) (T x.f.name)=false)/\Sl w2 145 2 (.slice oF rs.length cF) rs'.length (rs'.flatMap iJ.cells)/\aa (λb=>(Value.slice oF rs.length cF).ownBlock=some b) w1 w2):=⟨p2,q2,s2,m2⟩
 clear p2 q2 s2 m2 HC z1;go_wp2_with fail;go_end0;obtain⟨p1,q1,s1,m1⟩:=fq.o;obtain⟨p2,q2,s2,m2⟩:=eT.o;refine⟨rfl,ms',rs',p1,q1,p2,q2,H3.o _ _ _ s1 m2,s2,?_⟩;have hm:=gq.o;exact⟨m2.os.trans (m1.os.trans hm.os),m2.tape.trans (m1.tape.trans hm.tape),m2.output.trans (m1.output.trans hm.output),cS hm.size (cS m1.size m2.size),λk hk hn=>by rw[m2.block k (cT hk (cS hm.size m1.size)) (λe=>hn (.inr e)),m1.block k (cT hk hm.size) (λe=>hn (.inl e)),hm.block k hk id]⟩
structure BS where
 ms:List dD:=[]
 fs:List qd:=[]
 slot:Nat:=0
def pT(x:bV):dD:=⟨x.name,(uF (x.ns.getD 0 ay)).toNat,(uF (x.ns.getD 1 ay)).toNat,(uF (x.ns.getD 2 ay)).toNat⟩
def bH.pi(x:bH)(j:Int):PI:=⟨x.k,x.r.d,x.r.s,j,x.r.num,x.r.high,x.r.name⟩
def zX(o:OL)(last slot:Nat)(x:bH):Int:=if x.o.jumps then(((dC (o.fs.getD last {}).aP x.r.label).getD 0:Nat):Int)-slot-x.o.slots else x.r.jump
def Be(o:OL)(last slot:Nat)(x:bH):PI:=x.pi (zX o last slot x)
def BS.last(b:BS):qd:=b.fs.getD (b.fs.length-1) ⟨[],[]⟩
def eW(o:OL)(b:BS)(x:bV):BS :=
 if x.kind=1 then{b with ms:=b.ms++[pT x]}
 else if x.kind=2 then{b with fs:=b.fs++[⟨x.name,[]⟩],slot:=0}
 else if x.kind=4 then{b with fs:=b.fs.set (b.fs.length-1) ⟨b.last.name,b.last.code++[Be o (b.fs.length-1) b.slot x.x]⟩,slot:=b.slot+x.x.o.slots}
 else b
def aK(o:OL)(ls:List bV):BS:=ls.foldl (eW o) {}
theorem tU(o:OL)(ls:List bV)(k:Nat)(h:k<ls.length):aK o (ls.take (k+1))=eW o (aK o (ls.take k)) ls[k]:=by unfold aK;rw[List.take_succ_eq_append_getElem h,List.foldl_append];rfl
theorem wC(o:OL)(ls:List bV):∀k,k<=ls.length->(aK o (ls.take k)).fs.length=(ai (ls.take k)).fs.length/\(aK o (ls.take k)).slot<=2*k/\(aK o (ls.take k)).ms.length<=k/\(aK o (ls.take k)).fs.length<=k/\(∀f∈(aK o (ls.take k)).fs,f.code.length<=k)
 |0,_=>by rw[List.take_zero];exact⟨rfl,ca _,ca _,ca _,λf hf=>(by cases hf)⟩
 |k+1,h=>by
  obtain⟨h1,h2,h3,h4,h5⟩:=wC o ls k (by omega);rw[gy ls k (by omega),tU o ls k (by omega)];generalize ai (ls.take k)=ol at *;generalize aK o (ls.take k)=b at *;generalize ls[k]=x;have h6:∀f∈b.fs,f.code.length<=k+1:=λf hf=>by have:=h5 f hf;omega
  unfold bG eW;by_cases k1:x.kind=1
  ·rw[iP9 k1,iP9 k1];exact⟨h1,by simp only;omega,by simp;omega,by simp only;omega,h6⟩
  rw[iN9 k1,iN9 k1];by_cases k2:x.kind=2
  ·rw[iP9 k2,iP9 k2];refine⟨by simp[h1],bj _,by simp only;omega,by simp;omega,λf hf=>?_⟩;rcases List.mem_append.1 hf with hf|hf
   ·exact h6 f hf
   ·rw[List.mem_singleton.1 hf];exact bj _
  rw[iN9 k2,iN9 k2];by_cases k3:x.kind=3
  ·rw[iP9 k3,iN9 (by omega)];exact⟨by rw[lW];exact h1,by omega,by omega,by omega,h6⟩
  rw[iN9 k3];by_cases k4:x.kind=4
  ·rw[iP9 k4,iP9 k4];have:=x.x.yh;refine⟨by rw[lW];simpa using h1,by simp only;omega,by simp only;omega,by simp;omega,λf hf=>?_⟩;rcases cr hf with hf|rfl
   ·exact h6 f hf
   ·simp only[an,List.length_singleton]
    have:b.last.code.length<=k:=by
     unfold BS.last;cases hq:b.fs[b.fs.length-1]? with
     |none =>rw[List.getD_eq_getElem?_getD,hq];exact bj _
     |some f =>rw[List.getD_eq_getElem?_getD,hq];exact h5 f (List.mem_of_getElem? hq)
    omega
  ·rw[iN9 k4,iN9 k4];exact⟨h1,by omega,by omega,by omega,h6⟩
structure pU(w0:tW)(P:Nat)(bs:List Nat)(vM vF:Value)(ms:List dD)(fs:List qd)(vs:List Value)(w:tW):Prop where
 blk:aq w P #[vM,vF] 85
 maps:Sl w 141 4 vM ms.length (ms.flatMap dD.cells)
 len:vs.length=fs.length
 rows:Sl w 145 2 vF fs.length (((fs.map (·.name)).zip vs).flatMap GJ)
 code:∀i (_:i<fs.length) (_:i<vs.length),iZ w vs[i] bs fs[i].code
 lo:w0.heap.size<=P
 zY:∀k,vM.ownBlock=some k->w0.heap.size<=k
 vG:∀k,vF.ownBlock=some k->w0.heap.size<=k
 Tj:∀u∈vs,∀k,u.ownBlock=some k->w0.heap.size<=k
 ne:∀i j (_:i<vs.length) (_:j<vs.length),i≠j->∀k,vs[i].ownBlock=some k->vs[j].ownBlock≠some k
 md:aa af w0 w
section
variable {w0 w w' : World} {P : Nat} {bs : List Nat} {vM vF v' : Value} {ms : List dD} {fs : List qd} {vs : List Value}
theorem iZ.az{v:Value}{code:List PI}{k:Nat}{cs:tAV}{e':TypeId}(h:iZ w v bs code)(hb:aq w k cs e')(he:117≠e'):v.ownBlock≠some k:=by obtain⟨_,_,h2⟩:=h;exact h2.az hb he
theorem iZ.apart{v:Value}{code:List PI}{k n' size':Nat}{e':TypeId}{xs':List Value}(h:iZ w v bs code)(h':Sl w e' size' v' n' xs')(he:117≠e')(hk:v.ownBlock=some k):v'.ownBlock≠some k:=by obtain⟨_,_,h2⟩:=h;exact h2.apart h' he hk
theorem iZ.lt{v:Value}{code:List PI}(h:iZ w v bs code)(k:Nat)(hk:v.ownBlock=some k):k<w.heap.size:=by obtain⟨_,_,h2⟩:=h;exact h2.lt k hk
theorem pU.quiet(h:pU w0 P bs vM vF ms fs vs w)(m:aa af w w'):pU w0 P bs vM vF ms fs vs w' :=
 ⟨h.blk.ah m id,h.maps.ah m (λ_ _=>id),h.len,h.rows.ah m (λ_ _=>id),λi a b=>(h.code i a b).ah m (λ_ _=>id),h.lo,h.zY,h.vG,h.Tj,h.ne,h.md.trans m⟩
theorem pU.uy{u:Value}(h:pU w0 P bs vM vF ms fs vs w)(hu:u∈vs):∃code,iZ w u bs code:=by obtain⟨i,hi,rfl⟩:=cJ hu;exact⟨_,h.code i (by rw[<-h.len];exact hi) hi⟩
theorem pU.aav(h:pU w0 P bs vM vF ms fs vs w)(m:aa (λk=>vM.ownBlock=some k) w w'):aq w' P #[vM,vF] 85 :=
 h.blk.ah m (λe=>h.maps.az h.blk (by decide) e)
theorem pU.map(h:pU w0 P bs vM vF ms fs vs w)(x:dD)(s:Sl w' 141 4 v' (ms.length+1) (ms.flatMap dD.cells++dD.cells x))(m:aa (λk=>vM.ownBlock=some k) w w')(l:∀k,v'.ownBlock=some k->vM.ownBlock=some k\/w.heap.size<=k):pU w0 P bs v' vF (ms++[x]) fs vs (w'.setCell ⟨P,0,none⟩ v'):=by
 have hB:=h.aav m;have mP:aa (Only P) w' (w'.setCell ⟨P,0,none⟩ v'):=(aa.refl _ _).bP _ _;have hP:∀{e:TypeId} {size n:Nat} {v:Value} {xs:List Value},Sl w' e size v n xs->e≠85->∀k,v.ownBlock=some k->¬Only P k:=λs he k hk e=>s.az hB he (hk.trans (congrArg some e));have hrow:Sl w' 145 2 vF fs.length (((fs.map (·.name)).zip vs).flatMap GJ):=h.rows.ah m (λk hk e=>h.rows.apart h.maps (by decide) hk e);have hcode:∀i (_:i<fs.length) (_:i<vs.length),iZ w' vs[i] bs fs[i].code:=λi a b=>(h.code i a b).ah m (λk hk e=>(h.code i a b).apart h.maps (by decide) hk e);refine⟨hB.set 0 v',?_,h.len,hrow.ah mP (hP hrow (by decide)),λi a b=>(hcode i a b).ah mP (λk hk e=>(hcode i a b).az hB (by decide) (hk.trans (congrArg some e))),h.lo,λk hk=>?_,h.vG,h.Tj,h.ne,?_⟩
 ·have:=s.ah mP (hP s (by decide))
  simpa using this
 ·rcases l k hk with e|e
  ·exact h.zY k e
  ·have:=h.md.size;omega
 ·refine(h.md.step m (λi hi e=>by have:=h.zY i e;omega)).step mP (λi hi e=>?_);have e':i=P:=e;have:=h.lo;omega
theorem pU.func(h:pU w0 P bs vM vF ms fs vs w)(nm:tLB)(s:Sl w' 145 2 v' (fs.length+1) (((fs.map (·.name)).zip vs).flatMap GJ++GJ (nm,.slice none 0 0)))(m:aa (λk=>vF.ownBlock=some k) w w')(l:∀k,v'.ownBlock=some k->vF.ownBlock=some k\/w.heap.size<=k):pU w0 P bs vM v' ms (fs++[⟨nm,[]⟩]) (vs++[.slice none 0 0]) (w'.setCell ⟨P,1,none⟩ v'):=by
 have hB:aq w' P #[vM,vF] 85:=h.blk.ah m (λe=>h.rows.az h.blk (by decide) e);have mP:aa (Only P) w' (w'.setCell ⟨P,1,none⟩ v'):=(aa.refl _ _).bP _ _;have hP:∀{e:TypeId} {size n:Nat} {v:Value} {xs:List Value},Sl w' e size v n xs->e≠85->∀k,v.ownBlock=some k->¬Only P k:=λs he k hk e=>s.az hB he (hk.trans (congrArg some e));have hmap:Sl w' 141 4 vM ms.length (ms.flatMap dD.cells):=h.maps.ah m (λk hk e=>h.maps.apart h.rows (by decide) hk e);have hcode:∀i (_:i<fs.length) (_:i<vs.length),iZ w' vs[i] bs fs[i].code:=λi a b=>(h.code i a b).ah m (λk hk e=>(h.code i a b).apart h.rows (by decide) hk e);refine⟨hB.set 1 v',hmap.ah mP (hP hmap (by decide)),by simp[h.len],?_,λi a b=>?_,h.lo,h.zY,λk hk=>?_,λu hu k hk=>?_,λi j hi hj hij k hk=>?_,?_⟩
 ·have:=s.ah mP (hP s (by decide));have e:((fs++[(⟨nm,[]⟩:qd)]).map (·.name)).zip (vs++[Value.slice none 0 0])=((fs.map (·.name)).zip vs)++[(nm,Value.slice none 0 0)]:=by rw[List.map_append,List.zip_append (by simp[h.len])];rfl
  rw[e,cQ]
  simpa using this
 ·by_cases hi:i<fs.length
  ·have hi':i<vs.length:=by rw[h.len];exact hi
   simp only[bh hi,bh hi'];exact(hcode i hi hi').ah mP (λk hk e=>(hcode i hi hi').az hB (by decide) (hk.trans (congrArg some e)))
  ·have e1:i=fs.length:=by simp at a;omega
   have e2:i=vs.length:=by rw[h.len];exact e1
   have e3:(fs++[(⟨nm,[]⟩:qd)])[i]=⟨nm,[]⟩:=by subst e1;simp
   have e4:(vs++[Value.slice none 0 0])[i]=.slice none 0 0:=by subst e2;simp
   rw[e3,e4];exact⟨[],rfl,Sl.nil _ _ _⟩
 ·rcases l k hk with e|e
  ·exact h.vG k e
  ·have:=h.md.size;omega
 ·rcases List.mem_append.1 hu with hu|hu
  ·exact h.Tj u hu k hk
  ·rw[List.mem_singleton.1 hu]at hk;cases hk
 ·by_cases hi':i<vs.length
  ·rw[bh hi']at hk;by_cases hj':j<vs.length
   ·rw[bh hj'];exact h.ne i j hi' hj' hij k hk
   ·have e2:j=vs.length:=by simp at hj;omega
    have e4:(vs++[Value.slice none 0 0])[j]=.slice none 0 0:=by subst e2;simp
    rw[e4];intro e;cases e
  ·have e2:i=vs.length:=by simp at hi;omega
   have e4:(vs++[Value.slice none 0 0])[i]=.slice none 0 0:=by subst e2;simp
   rw[e4]at hk;cases hk
 ·refine(h.md.step m (λi hi e=>by have:=h.vG i e;omega)).step mP (λi hi e=>?_);have e':i=P:=e;have:=h.lo;omega
theorem pU.instr{g c k:Nat}{u:Value}{x:PI}{lab:tBA}(hk:k<fs.length)(Fh:k<vs.length){nf:Nat}(hnf:nf=fs.length)(h:pU w0 P bs vM (.slice (some ⟨g,0,none⟩) nf c) ms fs vs w)(hu:vs[k]=u){aP:List tBA} (hl1:aP.length=fs[k].code.length) (s:Sl w' 117 8 v' (fs[k].code.length+1) (vD bs (fs[k].code.zip aP)++(x.mK bs lab).dG)) (m:aa (λk=>u.ownBlock=some k) w w') (l:∀k,v'.ownBlock=some k->u.ownBlock=some k\/w.heap.size<=k):pU w0 P bs vM (.slice (some ⟨g,0,none⟩) nf c) ms (fs.set k ⟨fs[k].name,fs[k].code++[x]⟩) (vs.set k v') (w'.setCell ⟨g,k*2+1,none⟩ v'):=by
 subst hnf hu;have hown:(Value.slice (some ⟨g,0,none⟩) fs.length c).ownBlock=some g:=rfl;have hck:=h.code k hk Fh;have hB:aq w' P #[vM,.slice (some ⟨g,0,none⟩) fs.length c] 85:=h.blk.ah m (λe=>hck.az h.blk (by decide) e);have hmap:Sl w' 141 4 vM ms.length (ms.flatMap dD.cells):=h.maps.ah m (λk' hk' e=>hck.apart h.maps (by decide) e hk');have hrow:Sl w' 145 2 (.slice (some ⟨g,0,none⟩) fs.length c) fs.length (((fs.map (·.name)).zip vs).flatMap GJ):=h.rows.ah m (λk' hk' e=>hck.apart h.rows (by decide) e hk');have hcode:∀i (_:i<fs.length) (_:i<vs.length),i≠k->iZ w' vs[i] bs fs[i].code:=λi a b hik=>(h.code i a b).ah m (λk' hk' e=>h.ne i k b Fh hik k' hk' e)
 have hnew:iZ w' v' bs (fs[k].code++[x]):=by
  refine⟨aP++[lab],by simp[hl1],?_⟩;have e:(fs[k].code++[x]).zip (aP++[lab])=fs[k].code.zip aP++[(x,lab)]:=by rw[List.zip_append hl1.symm];rfl
  rw[e];have:=s;unfold vD at *;rw[cQ]
  simpa using this
 have mg:aa (Only g) w' (w'.setCell ⟨g,k*2+1,none⟩ v'):=(aa.refl _ _).bP _ _;have hgI:∀{v:Value} {code:List PI},iZ w' v bs code->∀k',v.ownBlock=some k'->¬Only g k':=λhc k' hk' e=>hc.apart hrow (by decide) hk' (by rw[hown];exact congrArg some (show g=k' from e.symm));have hkz:k<((fs.map (·.name)).zip vs).length:=by simp;omega
 have hnm:(fs.set k ⟨fs[k].name,fs[k].code++[x]⟩).map (·.name)=fs.map (·.name):=by
  rw[List.map_set]
  exact cc (by simp) (λi h1 h2=>by
   rw[b9];split
   ·rename_i e;subst e;simp
   ·rfl)
 refine⟨hB.ah mg (λe=>hrow.az hB (by decide) (by rw[hown];exact congrArg some (show g=P from e.symm))),hmap.ah mg (λk' hk' e=>hmap.apart hrow (by decide) hk' (by rw[hown];exact congrArg some (show g=k' from e.symm))),by simp[h.len],?_,λi a b=>?_,h.lo,h.zY,h.vG,λu hu k' hk'=>?_,λi j hi hj hij k' hk'=>?_,?_⟩
 ·have:=hrow.setAt (k*2+1) v' (by omega);rw[dO GJ 2 (λ_=>rfl) _ k 1 hkz (by omega) v' (fs[k].name,v') (by rw[Wh _ _ k (by simpa using hk) Fh];simp[GJ])]at this;rw[hnm,cy]
  have e:((fs.map (·.name)).zip vs).set k (fs[k].name,v')=(fs.map (·.name)).zip (vs.set k v'):=by
   refine cc (by simp) (λi h1 h2=>?_);rw[b9];split
   ·rename_i e;subst e;simp
   ·rename_i e
    simp[e]
  rw[e]at this;exact this
 ·rw[cy]at a b;by_cases e:k=i
  ·subst e;simp only[b9,if_true];exact hnew.ah mg (hgI hnew)
  ·simp only[e,if_false,b9];exact(hcode i a b (Ne.symm e)).ah mg (hgI (hcode i a b (Ne.symm e)))
 ·rcases cr hu with h'|h'
  ·exact h.Tj u h' k' hk'
  ·subst h';rcases l k' hk' with e|e
   ·exact h.Tj _ (ba Fh) k' e
   ·have:=h.md.size;omega
 ·rw[cy]at hi hj;rw[b9]at hk' ⊢
  have hnn:∀i' (_:i'<vs.length),k≠i'->∀k',vs[i'].ownBlock=some k'->v'.ownBlock≠some k':=λi' hi' hik k' hk' e=>by
   rcases l k' e with e2|e2
   ·exact h.ne i' k hi' Fh (Ne.symm hik) k' hk' e2
   ·have:=(h.code i' (by rw[<-h.len];exact hi') hi').lt k' hk';omega
  by_cases e:k=i
  ·subst e;rw[iP9 rfl]at hk';rw[iN9 hij];intro e2;exact hnn j hj hij k' e2 hk'
  ·rw[iN9 e]at hk';by_cases e2:k=j
   ·subst e2;rw[iP9 rfl];exact hnn i hi e k' hk'
   ·rw[iN9 e2];exact h.ne i j hi hj hij k' hk'
 ·refine(h.md.step m (λi hi e=>by have:=h.Tj _ (ba Fh) i e;omega)).step mg (λi hi e=>?_);have e':i=g:=e;have:=h.vG g hown;omega
theorem pU.new(w0:tW)(bs:List Nat)(w:tW)(m:aa af w0 w):pU w0 w.heap.size bs (.slice none 0 0) (.slice none 0 0) [] [] [] (w.alloc (.cells #[.slice none 0 0,.slice none 0 0] 85)) :=
 ⟨aq.new w _ _,Sl.nil _ _ _,rfl,Sl.nil _ _ _,λi h=>absurd h (Nat.not_lt_zero _),m.size,λk h=>(by cases h),λk h=>(by cases h),λu h=>(by cases h),λi j h=>absurd h (Nat.not_lt_zero _),m.alloc _⟩
end
theorem jG{P:Program}{o:Oper}{a:Act}{w:tW}{K:Act->tW->Prop}{Q:Exit->Act->tW->Prop}(t e:TypeId)(n:Nat)(x:Operand)(ho:o.op=.buildSlice t 1 #[(0,x)])(cs:tAV)(hx:a.eval x=.agg cs)(hn:cs.size=n)(i:TypeInfo)(z:Value)(hu:P.underlying t=some (.slice e)) (hi:P.info? e=some i) (hz:i.zero=some z) (hs:i.size=n) (h0:0<n) (h1:n<=1000)(h:K (a.put o.dst (.slice (some ⟨w.heap.size,0,none⟩) 1 1)) (w.alloc (.cells cs e))):o.wp P a w K Q:=by refine wp_buildSlice t e 1 _ ho cs i z hu hi hz (by rw[hs];omega) (by rw[hs];omega) ?_ h;rw[hs];simp only[List.map_toArray,cH,List.map_nil,hx];exact GD n _ _ hn (by simp)
structure GU(w0:tW)(R A P bm:Nat)(vO:Value)(bs:List Nat)(vM vF:Value)(b:BS)(vs:List Value)(w:tW):Prop where
 bd:pU w0 P bs vM vF b.ms b.fs vs w
 res:aq w R #[.slice none 0 0,.slice none 0 0] 85
 all:aq w A #[.map (some bm),vO] 77
 ne:R≠P
section
variable {w0 w w' : World} {R A P bm : Nat} {vO vM vF v' : Value} {bs : List Nat} {b : BS} {vs : List Value}
theorem GU.quiet(h:GU w0 R A P bm vO bs vM vF b vs w)(m:aa af w w'):GU w0 R A P bm vO bs vM vF b vs w':=⟨h.bd.quiet m,h.res.ah m id,h.all.ah m id,h.ne⟩
theorem GU.map{x:bV}(o:OL)(hx:x.kind=1)(h:GU w0 R A P bm vO bs vM vF b vs w)(s:Sl w' 141 4 v' (b.ms.length+1) (b.ms.flatMap dD.cells++dD.cells (pT x)))(m:aa (λk=>vM.ownBlock=some k) w w')(l:∀k,v'.ownBlock=some k->vM.ownBlock=some k\/w.heap.size<=k):GU w0 R A P bm vO bs v' vF (eW o b x) vs (w'.setCell ⟨P,0,none⟩ v'):=by
 have mP:aa (Only P) w' (w'.setCell ⟨P,0,none⟩ v'):=(aa.refl _ _).bP _ _;have hB:=h.bd.aav m;have hr:aq w' R #[.slice none 0 0,.slice none 0 0] 85:=h.res.ah m (λe=>h.bd.maps.az h.res (by decide) e);have ha:aq w' A #[.map (some bm),vO] 77:=h.all.ah m (λe=>h.bd.maps.az h.all (by decide) e);have e:eW o b x={b with ms:=b.ms++[pT x]}:=by unfold eW;rw[iP9 hx]
 rw[e];exact⟨h.bd.map (pT x) s m l,hr.ah mP (λe=>h.ne e),ha.ah mP (λe=>ha.apart hB (by decide) e),h.ne⟩
theorem GU.func{x:bV}(o:OL)(hx:x.kind=2)(h:GU w0 R A P bm vO bs vM vF b vs w)(s:Sl w' 145 2 v' (b.fs.length+1) (((b.fs.map (·.name)).zip vs).flatMap GJ++GJ (x.name,.slice none 0 0)))(m:aa (λk=>vF.ownBlock=some k) w w')(l:∀k,v'.ownBlock=some k->vF.ownBlock=some k\/w.heap.size<=k):GU w0 R A P bm vO bs vM v' (eW o b x) (vs++[.slice none 0 0]) (w'.setCell ⟨P,1,none⟩ v'):=by
 have mP:aa (Only P) w' (w'.setCell ⟨P,1,none⟩ v'):=(aa.refl _ _).bP _ _;have hB:aq w' P #[vM,vF] 85:=h.bd.blk.ah m (λe=>h.bd.rows.az h.bd.blk (by decide) e);have hr:aq w' R #[.slice none 0 0,.slice none 0 0] 85:=h.res.ah m (λe=>h.bd.rows.az h.res (by decide) e);have ha:aq w' A #[.map (some bm),vO] 77:=h.all.ah m (λe=>h.bd.rows.az h.all (by decide) e);have e:eW o b x={b with fs:=b.fs++[⟨x.name,[]⟩],slot:=0}:=by unfold eW;rw[iN9 (by omega),iP9 hx]
 rw[e];exact⟨h.bd.func x.name s m l,hr.ah mP (λe=>h.ne e),ha.ah mP (λe=>ha.apart hB (by decide) e),h.ne⟩
theorem GU.instr{x:bV}(o:OL)(hx:x.kind=4){g c n:Nat}{u:Value}{lab:tBA}(hn:n=b.fs.length-1)(hk:n<b.fs.length)(Fh:n<vs.length){nf:Nat}(hnf:nf=b.fs.length)(h:GU w0 R A P bm vO bs vM (.slice (some ⟨g,0,none⟩) nf c) b vs w)(hu:vs[n]=u){aP:List tBA} (hl1:aP.length=b.fs[n].code.length) (s:Sl w' 117 8 v' (b.fs[n].code.length+1) (vD bs (b.fs[n].code.zip aP)++((Be o n b.slot x.x).mK bs lab).dG)) (m:aa (λk=>u.ownBlock=some k) w w') (l:∀k,v'.ownBlock=some k->u.ownBlock=some k\/w.heap.size<=k):GU w0 R A P bm vO bs vM (.slice (some ⟨g,0,none⟩) nf c) (eW o b x) (vs.set n v') (w'.setCell ⟨g,n*2+1,none⟩ v'):=by
 have hI:=h.bd.instr hk Fh hnf hu hl1 s m l;have hcode:=h.bd.code n hk Fh;rw[hu]at hcode;have mg:aa (Only g) w' (w'.setCell ⟨g,n*2+1,none⟩ v'):=(aa.refl _ _).bP _ _;have hr:aq w' R #[.slice none 0 0,.slice none 0 0] 85:=h.res.ah m (λe=>hcode.az h.res (by decide) e);have ha:aq w' A #[.map (some bm),vO] 77:=h.all.ah m (λe=>hcode.az h.all (by decide) e);have hrow:Sl w' 145 2 (.slice (some ⟨g,0,none⟩) nf c) b.fs.length (((b.fs.map (·.name)).zip vs).flatMap GJ):=h.bd.rows.ah m (λk' hk' e=>hcode.apart h.bd.rows (by decide) e hk')
 have e:eW o b x={b with fs:=b.fs.set n ⟨b.fs[n].name,b.fs[n].code++[Be o n b.slot x.x]⟩,slot:=b.slot+x.x.o.slots}:=by
  unfold eW;rw[iN9 (by omega),iN9 (by omega),iP9 hx];have hl:b.last=b.fs[n]:=by unfold BS.last;rw[<-hn,List.getD_eq_getElem?_getD,List.getElem?_eq_getElem hk];rfl
  rw[hl,<-hn]
 rw[e];exact⟨hI,hr.ah mg (λe=>hrow.az hr (by decide) (congrArg some (show g=R from e.symm))),ha.ah mg (λe=>hrow.az ha (by decide) (congrArg some (show g=A from e.symm))),h.ne⟩
end
def Jz(f:qd):Value->iJ
 |.slice o n c=>⟨f,o,n,c⟩
 |_=>⟨f,none,0,0⟩
theorem yA:∀(fs:List qd) (vs:List Value),vs.length=fs.length->(∀u∈vs,∃o n c,u=.slice o n c)->(cd Jz fs vs).flatMap iJ.cells=((fs.map (·.name)).zip vs).flatMap GJ/\(cd Jz fs vs).map (·.f)=fs/\(cd Jz fs vs).map iJ.v=vs
 |[],[],_,_=>⟨rfl,rfl,rfl⟩
 |f::fs,v::vs,h,hs=>by
  obtain⟨h1,h2,h3⟩:=yA fs vs (by simpa using h) (λu hu=>hs u (by simp[hu]));obtain⟨o,n,c,rfl⟩:=hs v (by simp);refine⟨?_,?_,?_⟩
  ·rw[cb,cj,h1];rfl
  ·rw[cb,cH,h2];rfl
  ·rw[cb,cH,h3];rfl
 |[],_::_,h,_=>by simp at h
 |_::_,[],h,_=>by simp at h
theorem pU.slices{w0 w:tW}{P:Nat}{bs:List Nat}{vM vF:Value}{ms:List dD}{fs:List qd}{vs:List Value}(h:pU w0 P bs vM vF ms fs vs w):∀u∈vs,∃o n c,u=.slice o n c:=λu hu=>by
 obtain⟨code,hc⟩:=h.uy hu;obtain⟨o,c,hv,_⟩:=hc.view;exact⟨o,_,c,hv⟩
theorem GU.sorted{w0 w w':tW}{R A P bm:Nat}{vO vM vF:Value}{bs:List Nat}{b:BS}{vs:List Value}(h:GU w0 R A P bm vO bs vM vF b vs w){tv:Value}{ms':List dD}{rs':List iJ}(hp:rs'.Perm (cd Jz b.fs vs))(sM:Sl w' 141 4 vM ms'.length (ms'.flatMap dD.cells))(sF:Sl w' 145 2 vF rs'.length (rs'.flatMap iJ.cells))(m:aa (λk=>vM.ownBlock=some k\/vF.ownBlock=some k\/k=R) w w')(hO:aR 0 w' tv bs ax):xq w' tv bs vM vF ms' (rs'.map (·.f)) (rs'.map iJ.v)/\(rs'.map (·.f)).Perm b.fs:=by
 obtain⟨h1,h2,h3⟩:=yA b.fs vs h.bd.len h.bd.slices;refine⟨⟨sM,by simp,?_,λi hi hi'=>?_,hO⟩,?_⟩
 ·have e:(((rs'.map (·.f)).map (·.name)).zip (rs'.map iJ.v)).flatMap GJ=rs'.flatMap iJ.cells:=by rw[List.map_map,List.zip_map',List.flatMap_map];rfl
  rw[e,List.length_map];exact sF
 ·have hi2:i<rs'.length:=by simpa using hi
  have hm:rs'[i]∈cd Jz b.fs vs:=hp.mem_iff.1 (ba hi2);obtain⟨j,hj,e⟩:=cJ hm;have hjf:j<b.fs.length:=by rw[cR]at hj;omega
  have hjv:j<vs.length:=by rw[cR]at hj;omega
  have e1:rs'[i].f=b.fs[j]:=by have:=congrArg (λl:List qd=>l[j]?) h2;simp only[List.getElem?_map,List.getElem?_eq_getElem hj,List.getElem?_eq_getElem hjf,cX,Option.some.injEq]at this;rw[<-e];exact this
  have e2:rs'[i].v=vs[j]:=by have:=congrArg (λl:List Value=>l[j]?) h3;simp only[List.getElem?_map,List.getElem?_eq_getElem hj,List.getElem?_eq_getElem hjv,cX,Option.some.injEq]at this;rw[<-e];exact this
  simp only[List.getElem_map];rw[e1,e2];have hc:=h.bd.code j hjf hjv;refine hc.ah m (λk hk hS=>?_);rcases hS with hS|hS|hS
  ·exact hc.apart h.bd.maps (by decide) hk hS
  ·exact hc.apart h.bd.rows (by decide) hk hS
  ·exact hc.az h.res (by decide) (hk.trans (congrArg some hS))
 ·have:=hp.map (·.f);rw[h2]at this;exact this
