import Derived.Test.YthnphhgpfedeeaaGreatDoorCR30
import Derived.Deep.Upon
namespace Go.Proofs.YthnphhgpfedeeaaGreatDoor
open Go.RowKit Tryz
open List renaming getElem_mem->ab,length_append->al,drop_eq_getElem_cons->an,length_cons->ar,append_nil->ba,take_add_one->bh,drop_eq_nil_of_le->bj,append_assoc->bt,flatMap_cons->b5,drop_length->b9,take_length->ca,length_nil->cb,length_set->cj,flatMap_append->cq,getElem_of_mem->cw,getElem_map->cy,any_eq_true->cD
open Nat renaming zero_le->ao,le_refl->cx
set_option linter.all false
set_option maxRecDepth 100000
set_option maxHeartbeats 4000000
def zw(n slot:Nat)(x:PI):tLB:=if x.aO=0 then []else b8 [(n:Int)]++b8 (ko slot)++fC (T x.name)
def prefC(n:Nat):Nat->List PI->tLB
 |_,[]=>[]
 |slot,x::c=>zw n slot x++prefC n (slot+x.o.slots) c
def pcntC:List PI->Nat
 |[]=>0
 |x::c=>(if x.aO=0 then 0 else 1)+pcntC c
def prefF:Nat->List aS->tLB
 |_,[]=>[]
 |n,f::fs=>prefC n 0 f.code++prefF (n+1) fs
def pcntR:List aS->Nat
 |[]=>0
 |f::fs=>pcntC f.code+pcntR fs
def dE:List aS->Nat
 |[]=>0
 |f::fs=>f.code.length+dE fs
theorem Kv(n slot:Nat)(c:List PI)(j:Nat)(h:j<c.length):prefC n slot (c.drop j)=zw n slot c[j]++prefC n (slot+c[j].o.slots) (c.drop (j+1)):=by rw[an h];rfl
theorem Kw(c:List PI)(j:Nat)(h:j<c.length):pcntC (c.drop j)=(if c[j].aO=0 then 0 else 1)+pcntC (c.drop (j+1)):=by rw[an h];rfl
theorem Kx(fs:List aS)(k n:Nat)(h:k<fs.length):prefF n (fs.drop k)=prefC n 0 fs[k].code++prefF (n+1) (fs.drop (k+1)):=by rw[an h];rfl
theorem Ky(fs:List aS)(k:Nat)(h:k<fs.length):pcntR (fs.drop k)=pcntC fs[k].code+pcntR (fs.drop (k+1)):=by rw[an h];rfl
theorem Br(fs:List aS)(k:Nat)(h:k<fs.length):dE (fs.drop k)=fs[k].code.length+dE (fs.drop (k+1)):=by rw[an h];rfl
theorem PD(n slot:Nat)(x:PI)(h:x.name.length<=255):(zw n slot x).length<=259:=by
 unfold zw;split
 ·simp
 ·simp only[al,gY,gZ,bG,ar,cb,ko];omega
theorem PE(w:tW)(tv vO:Value)(l:tLB)(bs:List Nat)(vM vF:Value)(ms:List az)(fs:List aS)(vs:List Value)(hP:tC w tv bs vM vF ms fs vs)(hE:EOk ms fs)(hn:∀f∈fs,∀x∈f.code,x.name.length<=255)(ht:dE fs<=1000)(hO:Out w vO l)(hl:l.length<=300000):Calls prog 73 #[vO,vF] w λe w'=>lh w vO (l++b8 (ko (pcntR fs))++prefF 0 fs) e w':=by
 obtain⟨iU,E8,E9,Fa,Fb⟩:=dx;obtain⟨oF,cF,jZ,_⟩:=hP.rows.view;subst jZ;have HP:=ai hP;have HE:=ai hE;have HN:=ai hn;have HO:=ai hO;have HI0:af (EI w (.slice none 0 0) [] w):=⟨Sl.nil _ _ _,ax,λk h=>by cases h⟩
 have hfl:=hE.f;have HT:=ai ht;have HLF:af (∀k (h:k<fs.length),dE (fs.drop k)=fs[k].code.length+dE (fs.drop (k+1))):=λk h=>Br fs k h;clear hP hE hn hO ht;go_enter func73,ntmps73;go_wp2_with fail;go_loopg [5,6,14] fs.length (λg u5 u6 u14 wx=>∃(k c:Nat) (a:tLB),k<=fs.length/\u14=.int .i64 k/\u6=.int .i64 c/\EI w u5 a wx/\a++prefF k (fs.drop k)=prefF 0 fs/\c+pcntR (fs.drop k)=pcntR fs/\a.length+259*dE (fs.drop k)<=259*dE fs/\c<=200*k/\g=fs.length-k)
 case atStart=>exact⟨0,0,[],ao _,rfl,rfl,HI0.o,rfl,Nat.zero_add _,by simp,ao _,rfl⟩
 case round =>
  obtain⟨k,c,a,hk,rfl,rfl,hI,hR,hC,hLn,hc1,rfl⟩:=hrel;have HI:=ai hI;have HR:=ai hR;have HC:=ai hC;have HLn:=ai hLn;have XM:=HP.o.quiet hI.md;clear hI hR hC hLn HI0;by_cases hkl:k<fs.length
  ·have zn:k<vs.length:=by rw[XM.len];exact hkl
   obtain⟨gF,rfl,c0,c1⟩:=XM.TI k hkl zn;have hok:=HE.o.fn fs[k] (ab hkl);have pF:=XM.code k hkl zn;have zK:af (∀w',aa ae w w'->aH 0 w' tv bs aq/\gX w' vs[k] bs fs[k].code):=λw' m=>⟨(HP.o.quiet m).ops,(HP.o.quiet m).code k hkl zn⟩
   have HD:af (a++(prefC k 0 fs[k].code++prefF (k+1) (fs.drop (k+1)))=prefF 0 fs):=by rw[af,<-HR.o,Kx fs k k hkl]
   have HD2:af (c+(pcntC fs[k].code+pcntR (fs.drop (k+1)))=pcntR fs):=by rw[af,<-HC.o,Ky fs k hkl]
   have HL2:af (a.length+259*fs[k].code.length+259*dE (fs.drop (k+1))<=259*dE fs):=by have h1:=HLn.o;rw[Br fs k hkl]at h1;rw[af];omega
   have HNx:af (∀x∈fs[k].code,x.name.length<=255):=HN.o fs[k] (ab hkl);generalize fs[k]=f at *;generalize vs[k]=vC at *;obtain⟨nm,code⟩:=f;simp only at *;obtain⟨o1,o2,o3⟩:=hok;obtain⟨oC,cC,rfl,_⟩:=pF.view;have Hf:=ai zK.o;have uH:=ai o3;have HIa:af (EI w u5 a (wr.alloc (.cells #[.string (T nm),.slice oC code.length cC] 96))):=HI.o.quiet aj;have htt:=HT.o;clear zK pF XM HR HC HI o3 HLn;go_wp2_with fail;generalize wr.alloc (.cells #[.string (T nm),.slice oC code.length cC] 96)=W at *;go_loopg [5,6,9,22] code.length (λg v5 v6 v9 v22 wx=>∃(j c' sl:Nat) (a':tLB),j<=code.length/\v22=.int .i64 j/\v6=.int .i64 c'/\v9=.int .i64 sl/\EI w v5 a' wx/\a'++prefC k sl (code.drop j)=a++prefC k 0 code/\c'+pcntC (code.drop j)=c+pcntC code/\a'.length<=a.length+259*j/\c'<=c+j/\sl<=2*j/\g=code.length-j)
   case atStart=>exact⟨0,c,0,a,ao _,rfl,rfl,rfl,HIa.o,rfl,rfl,cx _,cx _,cx _,rfl⟩
   case round =>
    clear c0 c1 HIa;obtain⟨j,c',sl,a',hjm,rfl,rfl,rfl,hI,hR,hC,hll,hcl,hsl,rfl⟩:=hrel;have HI:=ai hI;have HR:=ai hR;have HC:=ai hC;have FY:=ai hll;clear hR hC hll;by_cases hjl:j<code.length
    ·obtain⟨g,lab,rfl,hg,y0,y1,y2,y3,y4,y5,y6,y7⟩:=Bl (Hf.o wr hI.md).2 rfl rfl j hjl;have hx:=uH.o code[j] (ab hjl);have HD3:af (a'++(zw k sl code[j]++prefC k (sl+code[j].o.slots) (code.drop (j+1)))=a++prefC k 0 code):=by rw[af,<-HR.o,Kv k sl code j hjl]
     have Ph:af (c'+((if(if code[j].s=1 then code[j].o.aO else 0)=0 then 0 else 1)+pcntC (code.drop (j+1)))=c+pcntC code):=by rw[af,<-HC.o,Kw code j hjl];rfl
     have HAT:af (∀w',aa ae w w'->bY w' (bs[code[j].k]?.getD 0) code[j].o):=λw' m=>jI (Hf.o w' m).1 code[j] hx.k;have aei:=hx.slots;have HRU:af (zw k sl code[j]=if(if code[j].s=1 then code[j].o.aO else 0)=0 then []else b8 [(k:Int)]++b8 (ko sl)++fC (T code[j].name)):=rfl;have HNm:af (code[j].name.length<=255):=HNx.o _ (ab hjl);have HUL:af ((zw k sl code[j]).length<=259):=PD k sl code[j] HNm.o;have AY:af (∀w',aa ae w w'->Calls prog 84 #[.agg #[.pointer (some ⟨bs[code[j].k]?.getD 0,0,none⟩),.int .u8 code[j].d,.int .u8 code[j].s,.int .i16 code[j].jump,.int .i32 code[j].num,.int .i32 code[j].high,.string lab,.string (T code[j].name)]] w' λe w2=>e=.returned (.int .i64 ((if code[j].s=1 then code[j].o.aO else 0:Nat):Int))/\aa ae w' w2):=λw' m=>jJ w' _ code[j].o (HAT.o w' m) code[j].d code[j].s code[j].num code[j].high code[j].jump lab _;clear hx HR HC hI;generalize(if code[j].s=1 then code[j].o.aO else 0)=rf at *;generalize zw k sl code[j]=pu at *;generalize code[j].o=o at *;generalize code[j].jump=jmp at *;generalize code[j].d=xd at *;generalize code[j].s=xs at *;generalize code[j].num=xn at *;generalize code[j].high=xh at *;generalize code[j].name=xm at *;generalize bs[code[j].k]?.getD 0=b at *;go_upto_region 10 with fail;have HB1:af (ak (wr.alloc (.cells #[.pointer (some ⟨b,0,none⟩),.int .u8 xd,.int .u8 xs,.int .i16 jmp,.int .i32 xn,.int .i32 xh,.string lab,.string (T xm)] 138)) wr.heap.size #[.pointer (some ⟨b,0,none⟩),.int .u8 xd,.int .u8 xs,.int .i16 jmp,.int .i32 xn,.int .i32 xh,.string lab,.string (T xm)] 138):=ak.new wr _ _;have HI1:af (EI w u5 a' (wr.alloc (.cells #[.pointer (some ⟨b,0,none⟩),.int .u8 xd,.int .u8 xs,.int .i16 jmp,.int .i32 xn,.int .i32 xh,.string lab,.string (T xm)] 138))):=HI.o.quiet aj;generalize wr.alloc (.cells #[.pointer (some ⟨b,0,none⟩),.int .u8 xd,.int .u8 xs,.int .i16 jmp,.int .i32 xn,.int .i32 xh,.string lab,.string (T xm)] 138)=w1 at *;generalize wr.heap.size=B at *;clear y0 y1 y2 y3 y4 y5 y6 y7 hg HI;have z0:=HB1.o.cell 0;have z1:=HB1.o.cell 1;have z2:=HB1.o.cell 2;have z3:=HB1.o.cell 3;have z4:=HB1.o.cell 4;have z5:=HB1.o.cell 5;have z6:=HB1.o.cell 6;have z7:=HB1.o.cell 7;go_wp2_with fail;refine(AY.o _ HI1.o.md).mono ?_;rintro e w3 ⟨rfl,m3⟩;have HI3:=ai (HI1.o.quiet m3);have HB3:=ai (HB1.o.ag m3 id);clear m3 HI1 HB1 z0 z1 z2 z3 z4 z5 z6 z7;by_cases h0:rf=0
     ·subst h0;have ZB:af (pu=[]):=by rw[af,HRU.o,iP9 rfl]
      have HCx:af (c'+pcntC (code.drop (j+1))=c+pcntC code):=by have:=Ph.o;rw[iP9 rfl]at this;rw[af];omega
      obtain⟨p1,p2,p3,p4,p5,p6,p7,p8,p9,p10,p11,yD,_⟩:=(HAT.o w3 HI3.o.md).ex;have z0:=HB3.o.cell 0;have ob2:=yD.cell 2;have HDx:af (a'++prefC k (sl+o.slots) (code.drop (j+1))=a++prefC k 0 code):=by have:=HD3.o;rw[ZB.o]at this;exact this
      clear yD;generalize o.slots=os at *;go_wp2_with fail;go_roundg (code.length-(j+1))
      case measure=>omega
      case rel=>exact⟨j+1,c',sl+os,a',by omega,by go_num,rfl,by go_num,HI3.o,HDx.o,HCx.o,by have:=FY.o;omega,by omega,by omega,rfl⟩
     ·have ZB:af (pu=b8 [(k:Int)]++b8 (ko sl)++fC (T xm)):=by rw[af,HRU.o,iN9 h0]
      have HCx:af (c'+1+pcntC (code.drop (j+1))=c+pcntC code):=by have:=Ph.o;rw[iN9 h0]at this;rw[af];omega
      have HDx:af (a'++pu++prefC k (sl+o.slots) (code.drop (j+1))=a++prefC k 0 code):=by rw[af,bt];exact HD3.o
      have hq0:((rf:Int)==0)=false:=by simp;omega
      have HAL:af (a'.length<=259000):=by have h1:=FY.o;have h2:=HL2.o;rw[af];omega
      have HKB:af (∀x∈[(k:Int)],0<=x/\x<=255):=λx hx=>by simp at hx;subst hx;omega
      have HI4:af (∀os,EI w u5 a' (w3.alloc os)):=λos=>HI3.o.quiet aj;have gq:af (∀os,ak (w3.alloc os) B #[.pointer (some ⟨b,0,none⟩),.int .u8 xd,.int .u8 xs,.int .i16 jmp,.int .i32 xn,.int .i32 xh,.string lab,.string (T xm)] 138):=λos=>HB3.o.alloc _;have aej:af (∀os vA wA,Sl wA 5 1 vA (a'.length+1) (rj a'++[(k:Int)].map (Value.int .u8))->aa (λi=>u5.ownBlock=some i) (w3.alloc os) wA->(∀i,vA.ownBlock=some i->u5.ownBlock=some i\/(w3.alloc os).heap.size<=i)->EI w vA (a'++b8 [(k:Int)]) wA/\ak wA B #[.pointer (some ⟨b,0,none⟩),.int .u8 xd,.int .u8 xs,.int .i16 jmp,.int .i32 xn,.int .i32 xh,.string lab,.string (T xm)] 138):=λos vA wA sA mA lA=>⟨(HI4.o os).step (Out.app HKB.o rfl sA) mA lA,(gq.o os).ag mA (λe=>Sl.au (HI4.o os).mV (gq.o os) (by decide) e)⟩
      clear Ph HD3 HRU AY;go_wp2_with (at_builtin;go_loud (refine aL _ rfl (.tmp 29) (.tmp 32) 30 rfl 5 iU (.int .u8 0) 1 1 underlying30 E8 E9 Fa Fb rfl (by decide) u5 a'.length (rj a') rfl (HI4.o _).mV ⟨w3.heap.size,0,none⟩ 1 1 ([(k:Int)].map (Value.int .u8)) rfl rfl (aV _ _ _ _ rfl) (vK _) (by have:=HAL.o;unfold maxLen;omega) (by have:=HAL.o;omega) ?_;intro vA wA sA mA lA;obtain⟨hIA,hBA⟩:=aej.o _ _ _ sA mA lA;have HIA:af (EI w vA (a'++b8 [(k:Int)]) wA):=hIA;have VN:af (ak wA B #[.pointer (some ⟨b,0,none⟩),.int .u8 xd,.int .u8 xs,.int .i16 jmp,.int .i32 xn,.int .i32 xh,.string lab,.string (T xm)] 138):=hBA;clear hIA hBA sA mA lA));refine(Bq wA vA (a'++b8 [(k:Int)]) HIA.o.mV (by have:=HAL.o;rw[al,gY];simp only[ar,cb];omega) sl).mono ?_;rintro e w5 ⟨v5,rfl,s5,m5,l5⟩;have Jt:af (EI w v5 (a'++b8 [(k:Int)]++b8 (ko sl)) w5):=HIA.o.step s5 m5 l5;have iT:af (ak w5 B #[.pointer (some ⟨b,0,none⟩),.int .u8 xd,.int .u8 xs,.int .i16 jmp,.int .i32 xn,.int .i32 xh,.string lab,.string (T xm)] 138):=VN.o.ag m5 (λe=>Sl.au HIA.o.mV VN.o (by decide) e);clear s5 m5 l5 HIA VN;have z7:=iT.o.cell 7;go_wp2_with fail;refine(yQ w5 v5 (a'++b8 [(k:Int)]++b8 (ko sl)) Jt.o.mV (by have:=HAL.o;rw[al,al,gY,gY];simp only[ar,cb,ko];omega) (T xm) (by rw[bG];exact HNm.o)).mono ?_;rintro e w6 ⟨v6,rfl,s6,m6,l6⟩
      have HI6:af (EI w v6 (a'++pu) w6):=by
       have:=Jt.o.step s6 m6 l6;rw[af,ZB.o]
       simpa [bt]using this
      have uM:af (ak w6 B #[.pointer (some ⟨b,0,none⟩),.int .u8 xd,.int .u8 xs,.int .i16 jmp,.int .i32 xn,.int .i32 xh,.string lab,.string (T xm)] 138):=iT.o.ag m6 (λe=>Sl.au Jt.o.mV iT.o (by decide) e);clear s6 m6 l6 Jt iT z7;obtain⟨p1,p2,p3,p4,p5,p6,p7,p8,p9,p10,p11,yD,_⟩:=(HAT.o w6 HI6.o.md).ex;have z0:=uM.o.cell 0;have ob2:=yD.cell 2;clear yD;generalize o.slots=os at *;go_wp2_with fail;go_roundg (code.length-(j+1))
      case measure=>omega
      case rel=>exact⟨j+1,c'+1,sl+os,a'++pu,by omega,by go_num,by go_num,by go_num,HI6.o,HDx.o,HCx.o,by have:=FY.o;have:=HUL.o;rw[al];omega,by omega,by omega,rfl⟩
    ·obtain rfl:j=code.length:=by omega
     have HRx:af (a'=a++prefC k 0 code):=by have:=HR.o;rw[b9,prefC,ba]at this;exact this
     have HCx:af (c'=c+pcntC code):=by have:=HC.o;rw[b9,pcntC]at this;rw[af];omega
     have HIz:=HI.o;go_wp2_with fail;go_roundg (fs.length-(k+1))
     case measure=>omega
     case rel=>exact⟨k+1,c',a',by omega,by go_num,rfl,HI.o,by rw[HRx.o,bt];exact HD.o,by rw[HCx.o,Nat.add_assoc];exact HD2.o,by have h1:=FY.o;have h2:=HL2.o;omega,by omega,rfl⟩
  ·have HRx:af (a=prefF 0 fs):=by have:=HR.o;rw[bj (by omega),prefF,ba]at this;exact this
   have HCx:af (c=pcntR fs):=by have:=HC.o;rw[bj (by omega),pcntR]at this;rw[af];omega
   have HAL:af (a.length<=259000):=by have h1:=HLn.o;have h2:=HT.o;rw[af];omega
   have HOr:=ai (HO.o.quiet HI.o.md);have NI:=ai HI.o.md;clear HR HC HLn;obtain⟨ov,cv,hvO,_⟩:=HOr.o.view;subst hvO;go_wp2_with fail;refine(Bq wr _ l HOr.o (by omega) c).mono ?_;rintro e w5 ⟨v5,rfl,s5,m5,l5⟩;have hda:∀i,u5.ownBlock=some i->(Value.slice ov l.length cv).ownBlock≠some i:=λi h1 h2=>by have h3:=HI.o.own i h1;have h4:=Sl.lt HO.o i h2;omega
   have Jt:af (Out w5 u5 a):=HI.o.mV.ag m5 (λi h1 h2=>hda i h1 h2);have VT:=ai s5;have HL2:af ((l++b8 (ko c)).length=l.length+2):=by rw[af,al,gY];rfl
   obtain⟨o6,c6,h6,hb6⟩:=VT.o.view;obtain⟨g6,cs6,rfl,_,_,hc6,hm6⟩:=hb6 (by rw[HL2.o];omega);have iC:af (aa (λi=>(Value.slice ov l.length cv).ownBlock=some i) w w5):=(NI.o.mono (λ_ _ h=>h.elim)).trans m5
   have HOW:af (∀i,v5.ownBlock=some i->(Value.slice ov l.length cv).ownBlock=some i\/w.heap.size<=i):=λi hi=>by
    rcases l5 i hi with h|h
    ·exact .inl h
    ·have:=NI.o.size;exact .inr (by omega)
   have rQ:af (∀e w',lh w (.slice ov l.length cv) (l++b8 (ko c)++a) e w'->lh w (.slice ov l.length cv) (l++b8 (ko (pcntR fs))++prefF 0 fs) e w'):=λe w' h=>by rw[<-HRx.o,<-HCx.o];exact h
   clear s5 m5 l5 hda HOr;rw[HL2.o]at h6 hc6;rcases Jt.o.2 with⟨h5,hx5⟩ |⟨g5,cap5,aek,h5,_,hg5,hx5⟩
   ·subst h5 h6
    have ha:a=[]:=by
     cases a with
     |nil=>rfl
     |cons y ys=>simp[rj]at hx5
    subst ha;go_wp2_with fail;go_ret;exact rQ.o _ _ ⟨_,rfl,by rw[ba];exact VT.o,iC.o,HOW.o⟩
   ·subst h5 h6;have hb5:ak w5 g5 aek 5:=hg5;obtain⟨hx1,hx2,hx3,hx4⟩:=hx5
    have uF:af (∀j u,(rj a)[j]?=some u->w5.cell? ((⟨g5,0,none⟩:Addr).add j)=some u):=λj u hu=>by
     have hadd:(⟨g5,0,none⟩:Addr).add j=⟨g5,j,none⟩:=by unfold Addr.add;split<;>simp_all
     have hj:j<(rj a).length:=(List.getElem?_eq_some_iff.1 hu).1;have hj2:j<a.length*1:=by rw[<-hx4,List.length_take]at hj;omega
     rw[hadd,aW hb5 hx4 j hj2];exact hu
    have VP:af (∀u∈rj a,u.oneCell'=true):=λu hu=>by unfold rj at hu;obtain⟨y,_,rfl⟩:=List.mem_map.1 hu;rfl
    have HNL:af ((rj a).length=a.length*1):=by rw[af];unfold rj;simp
    have HO6:af (Sl w5 5 1 (.slice (some ⟨g6,0,none⟩) (l.length+2) c6) (l.length+2) (rj (l++b8 (ko c)))):=by have:=VT.o;rw[Out,HL2.o]at this;exact this
    clear hb5 hg5 hx4;go_wp2_with (at_builtin;refine aL w5 rfl (.tmp 53) (.tmp 54) 30 rfl 5 iU (.int .u8 0) 1 1 underlying30 E8 E9 Fa Fb rfl (by decide) (.slice (some ⟨g6,0,none⟩) (l.length+2) c6) (l.length+2) (rj (l++b8 (ko c))) rfl HO6.o ⟨g5,0,none⟩ a.length cap5 (rj a) rfl HNL.o uF.o VP.o (by have:=HAL.o;unfold maxLen;omega) (by have:=HAL.o;omega) ?_;intro v7 w7 s7 m7 l7);go_ret;refine rQ.o _ _ ⟨_,rfl,?_,Bp iC.o HOW.o m7,oz HOW.o l7 iC.o.size⟩;rw[Out,xH,al,HL2.o];exact s7
theorem Dy(bs:List Nat):∀l:List PI,nG bs (l.zip (List.replicate l.length ByteArray.empty))=eu bs l
 |[]=>rfl
 |x::l=>by have ih:=Dy bs l;unfold nG eu at ih ⊢;rw[ar,List.replicate_succ,List.zip_cons_cons,b5,b5,ih];rfl
theorem XN{w:tW}{tv:Value}{bs:List Nat}{vM vF:Value}{ms:List az}{fs:List aS}{vs:List Value}(h:We w tv bs vM vF ms fs vs):tC w tv bs vM vF ms fs vs :=
 ⟨h.maps,h.len,h.rows,λi a b=>⟨List.replicate fs[i].code.length ByteArray.empty,List.length_replicate,by rw[Dy];exact h.code i a b⟩,h.ops⟩
theorem Bt{w:tW}{v:Value}{l:tLB}(h:Out w v l)(h0:0<l.length):Sem.run prog (convert 30 9 v) w=.ok (.string (T l)) w:=by
 obtain⟨o,c,rfl,h2⟩:=Sl.view h;obtain⟨g,cs,rfl,hb,ht,_⟩:=h2 h0;have key:=run_convert_bytes_back (P:=prog) w 30 9 5 ⟨g,0,none⟩ c l underlying30 underlying5 underlying9 ?_
 ·exact key
 ·intro j hj;have hadd:(⟨g,0,none⟩:Addr).add j=⟨g,j,none⟩:=by unfold Addr.add;split<;>simp_all
  rw[hadd,aW hb ht j (by omega)];simp[rj,hj]
theorem XO(w:tW)(tv:Value)(bs:List Nat)(vM vF:Value)(ms:List az)(fs:List aS)(vs:List Value)(hP:We w tv bs vM vF ms fs vs)(hE:EOk ms fs):Calls prog 50 #[.agg #[vM,vF]] w λe w'=>e=.returned (.string (T (ib 2 ms fs)))/\aa ae w w':=by
 obtain⟨oM,cM,yR,_⟩:=hP.maps.view;obtain⟨oF,cF,jZ,_⟩:=hP.rows.view;subst yR jZ;have HP:=ai hP;have HE:=ai hE;have HL:af (0<(ib 2 ms fs).length):=by rw[af];simp[ib]
 clear hP hE;go_enter func50,ntmps50;go_wp2_with fail;refine(He 2 (by decide) _ tv bs _ _ ms fs vs (XN (HP.o.quiet aj)) HE.o).mono ?_;rintro e w2 ⟨v,rfl,hI⟩;have hcv:=Bt hI.mV HL.o;have HI:af (aa ae w w2):=aj.trans hI.md;clear hI;go_wp2_with fail;go_ret;exact⟨rfl,HI.o⟩
theorem TN(w:tW)(b:Nat)(nm:tBA)(hb:ak w b #[.string nm] 9)(a:tBA)(vC:Value)(o:Option Addr)(n c:Nat)(hv:vC=.slice o n c):Calls prog 158 #[.agg #[.string a,vC],.pointer (some ⟨b,0,none⟩)] w λe w'=>e=.returned (.bool (a.toList==nm.toList))/\aa ae w w':=by subst hv;have c0:w.cell? ⟨b,0,none⟩=some (.string nm):=hb.cell 0;have hbl:=hb.lt;clear hb;go_enter func158,ntmps158;go_wp2_with fail;go_ret;exact⟨rfl,aj⟩
theorem TP(w:tW)(b:Nat)(nm:tBA)(hb:ak w b #[.string nm] 9)(rows:List (tLB×Value))(hv:∀x∈rows,∃o n c,x.2=.slice o n c)(vF:Value)(hF:Sl w 96 2 vF rows.length (rows.flatMap mF))(hl:rows.length<=1000):Calls prog 157 #[vF,.func (.func 158) #[] #[.pointer (some ⟨b,0,none⟩)]] w λe w'=>e=.returned (.int .i64 (placeM nm (rows.map (λx=>T x.1))))/\aa ae w w':=by
 obtain⟨oF,cF,jZ,_⟩:=hF.view;subst jZ;have HF:=ai hF;have HB:=ai hb;have HV:=ai hv;clear hF hb hv;have ae2:=enters_of (P:=prog) func158 (by kernel_rfl) rfl;go_enter func157,ntmps157;go_wp2_with fail;go_loopg [8] rows.length (λg iv wx=>∃k:Nat,k<=rows.length/\iv=.int .i64 k/\aa ae w wx/\(∀j,(hj:j<rows.length)->j<k->T rows[j].1≠nm)/\g=rows.length-k)
 case atStart=>exact⟨0,ao _,rfl,ax,λj _ h=>absurd h (Nat.not_lt_zero _),rfl⟩
 case round =>
  obtain⟨k,hk,rfl,hmd,hn,rfl⟩:=hrel;have HN:=ai hn;have nP:=ai hmd;clear hn hmd;by_cases hlt:k<rows.length
  ·obtain⟨o',cap',hvv,h2⟩:=(HF.o.ag nP.o (λ_ _=>id)).view;cases hvv;obtain⟨g,cs,rfl,hb',ht',_⟩:=h2 (by omega);have c0:wr.cell? ⟨g,k*2,none⟩=some (.string (T rows[k].1)):=by rw[aW hb' ht' (k*2) (by omega)];exact flat_get mF 2 (λ_=>rfl) rows k 0 hlt (by omega)
   have c1:wr.cell? ⟨g,k*2+1,none⟩=some rows[k].2:=by rw[aW hb' ht' (k*2+1) (by omega)];exact flat_get mF 2 (λ_=>rfl) rows k 1 hlt (by omega)
   obtain⟨o1,n1,k1,hrv⟩:=HV.o rows[k] (ab hlt);rw[hrv]at c1;have HEQ:af (Calls prog 158 #[.agg #[.string (T rows[k].1),.slice o1 n1 k1],.pointer (some ⟨b,0,none⟩)] wr λe w'=>e=.returned (.bool ((T rows[k].1).toList==nm.toList))/\aa ae wr w'):=TN wr b nm (HB.o.ag nP.o id) (T rows[k].1) _ o1 n1 k1 rfl;have O8:af (T rows[k].1=nm->placeM nm (rows.map (λx=>T x.1))=k):=λhe=>ym nm (rows.map (λx=>T x.1)) k (by simpa using hlt) (λj hj hjk=>by simpa using HN.o j (by simpa using hj) hjk) (by simpa using he)
   have Cz:af (T rows[k].1≠nm->∀j,(hj:j<rows.length)->j<k+1->T rows[j].1≠nm):=λhe j hj hjk=>by
    by_cases e:j=k
    ·subst e;exact he
    ·exact HN.o j hj (by omega)
   clear hb' ht' h2 hrv
   have HEB:af (((T rows[k].1).toList==nm.toList)=decide (T rows[k].1=nm)):=by
    rw[af];by_cases he:T rows[k].1=nm
    ·rw[En he];simp[he]
    ·rw[uR he];simp[he]
   generalize T rows[k].1=tk at *;go_wp2_with fail;refine HEQ.o.mono ?_;rintro e w2 ⟨rfl,m2⟩;rw[HEB.o];have dD:=ai (nP.o.trans m2);clear HEB HEQ m2;by_cases he:tk=nm
   ·have hd:decide (tk=nm)=true:=by simpa using he
    have HP:=ai (O8.o he);rw[hd];clear hd he;go_wp2_with fail;go_ret;exact⟨dB HP.o.symm,dD.o⟩
   ·have hd:decide (tk=nm)=false:=by simpa using he
    have Jo:=ai (Cz.o he);rw[hd];clear hd he;go_wp2_with fail;go_roundg (rows.length-(k+1))
    case measure=>omega
    case rel=>exact⟨k+1,by omega,by go_num,dD.o,Jo.o,rfl⟩
  ·have HP:af (placeM nm (rows.map (λx=>T x.1))=-1):=by
    refine rC nm _ (λj hj=>?_);have hj':j<rows.length:=by simpa using hj
    simpa using HN.o j hj' (by omega)
   go_wp2_with fail;go_ret;exact⟨dB HP.o.symm,nP.o⟩
theorem Hg(w:tW)(nm:tBA)(rows:List (tLB×Value))(hv:∀x∈rows,∃o n c,x.2=.slice o n c)(vM vF:Value)(o1:Option Addr)(n1 c1:Nat)(hM:vM=.slice o1 n1 c1)(hF:Sl w 96 2 vF rows.length (rows.flatMap mF))(hl:rows.length<=1000):Calls prog 85 #[.agg #[vM,vF],.string nm] w λe w'=>e=.returned (.int .i64 (placeM nm (rows.map (λx=>T x.1))))/\aa ae w w':=by
 subst hM;obtain⟨oF,cF,jZ,_⟩:=hF.view;subst jZ
 have HI:af (∀w',aa ae w w'->∀b,ak w' b #[.string nm] 9->Calls prog 157 #[.slice oF rows.length cF,.func (.func 158) #[] #[.pointer (some ⟨b,0,none⟩)]] w' λe w2=>e=.returned (.int .i64 (placeM nm (rows.map (λx=>T x.1))))/\aa ae w' w2) :=
  λw' m b hb=>TP w' b nm hb rows hv _ (hF.ag m (λ_ _=>id)) hl
 clear hv hF;go_enter func85,ntmps85;go_wp2_with fail;refine(HI.o _ (aj.alloc _) (w.heap.size+1) ?_).mono ?_
 ·have:=ak.new (w.alloc (.cells #[.slice o1 n1 c1,.slice oF rows.length cF] 90)) #[.string nm] 9;rw[show(w.alloc (.cells #[.slice o1 n1 c1,.slice oF rows.length cF] 90)).heap.size=w.heap.size+1 by simp]at this;exact this
 ·rintro e w2 ⟨rfl,m2⟩;go_wp2_with fail;go_ret;exact⟨rfl,(aj.alloc _).trans m2⟩
theorem Hl(w:tW)(tv:Value)(bs:List Nat)(vM vF:Value)(ms:List az)(fs:List aS)(vs:List Value)(hP:tC w tv bs vM vF ms fs vs)(hE:EOk ms fs)(hn:∀f∈fs,∀x∈f.code,x.name.length<=255)(ht:dE fs<=1000)(hl:(ib 1 ms fs).length<=300000):Calls prog 44 #[.agg #[vM,vF]] w λe w'=>e=.returned (.string (T (ib 1 ms fs++b8 (ko (pcntR fs))++prefF 0 fs)))/\aa ae w w':=by
 obtain⟨oM,cM,yR,_⟩:=hP.maps.view;obtain⟨oF,cF,jZ,_⟩:=hP.rows.view;subst yR jZ;have HP:=ai hP;have Kz:af (∀w',tC w' tv bs (.slice oM ms.length cM) (.slice oF fs.length cF) ms fs vs->Calls prog 74 #[.int .u8 1,.agg #[.slice oM ms.length cM,.slice oF fs.length cF]] w' λe w2=>∃v,e=.returned v/\EI w' v (ib 1 ms fs) w2):=λw' h=>He 1 (by decide) w' tv bs _ _ ms fs vs h hE;have Rs:af (∀w' v,tC w' tv bs (.slice oM ms.length cM) (.slice oF fs.length cF) ms fs vs->Out w' v (ib 1 ms fs)->Calls prog 73 #[v,.slice oF fs.length cF] w' λe w2=>lh w' v (ib 1 ms fs++b8 (ko (pcntR fs))++prefF 0 fs) e w2):=λw' v h h2=>PE w' tv v _ bs _ _ ms fs vs h hE hn ht h2 hl;have HL:af (0<(ib 1 ms fs++b8 (ko (pcntR fs))++prefF 0 fs).length):=by rw[af];simp[ib]
 clear hP hE hn ht hl;have qQ:af (tC (w.alloc (.cells #[.slice oM ms.length cM,.slice oF fs.length cF] 90)) tv bs (.slice oM ms.length cM) (.slice oF fs.length cF) ms fs vs):=HP.o.quiet aj;have HB1:af (ak (w.alloc (.cells #[.slice oM ms.length cM,.slice oF fs.length cF] 90)) w.heap.size #[.slice oM ms.length cM,.slice oF fs.length cF] 90):=ak.new w _ _;have dh:af (aa ae w (w.alloc (.cells #[.slice oM ms.length cM,.slice oF fs.length cF] 90))):=aj;generalize ib 1 ms fs++b8 (ko (pcntR fs))++prefF 0 fs=res at *;generalize ib 1 ms fs=enc at *;go_enter func44,ntmps44;go_upto_region 1 with fail;generalize w.alloc (.cells #[.slice oM ms.length cM,.slice oF fs.length cF] 90)=w1 at *;generalize w.heap.size=B at *;have d0:∀e:Ext ae w1,e.w.cell? ⟨B,0,none⟩=some (.slice oM ms.length cM):=λe=>(HB1.o.ag e.m id).cell 0;have d1:∀e:Ext ae w1,e.w.cell? ⟨B,1,none⟩=some (.slice oF fs.length cF):=λe=>(HB1.o.ag e.m id).cell 1
 haveI:Nonempty (Ext ae w1):=Ext.ne _ _
 refine bE [1,4,5] (λw'=>∃e:Ext ae w1,w'=e.w) (by kernel_rfl) (by kernel_rfl) (by kernel_rfl) ⟨⟨_,aJ⟩,rfl⟩ ?_
 iterate 1 (refine aA rfl rfl rfl ?_;intro K hK;go_big_quiet_op;go_big_quiet_on)
 refine aF rfl rfl ?_;intro K hK;go_big_op;refine(Kz.o _ (qQ.o.quiet aJ)).mono ?_;rintro e w2 ⟨v2,rfl,hI2⟩;have HI2:af (EI w1 v2 enc w2):=⟨hI2.mV,aJ.trans hI2.md,λk hk=>by have:=hI2.own k hk;simpa using this⟩
 refine hK _ _ rfl ⟨⟨_,HI2.o.md⟩,rfl⟩ ?_;clear hK K hI2
 iterate 2 (refine aA rfl rfl rfl ?_;intro K hK;go_big_quiet_op;go_big_quiet_on)
 refine aF rfl rfl ?_;intro K hK;go_big_op;refine(Rs.o w2 v2 (qQ.o.quiet HI2.o.md) HI2.o.mV).mono ?_;rintro e w3 ⟨v3,rfl,s3,m3,l3⟩;have HI3:af (EI w1 v3 res w3):=HI2.o.step s3 m3 l3;refine hK _ _ rfl ⟨⟨_,HI3.o.md⟩,rfl⟩ ?_;clear hK K s3 m3 l3;refine aF rfl rfl ?_;intro K hK;have hcv:=Bt HI3.o.mV HL.o;go_big_op;refine hK _ _ rfl ⟨⟨_,HI3.o.md⟩,rfl⟩ ?_;clear hK K hcv
 iterate 1 (refine aA rfl rfl rfl ?_;intro K hK;go_big_quiet_op;go_big_quiet_on)
 refine bX ?_;simp only[Exit.then];go_wp2_with fail;go_ret;exact⟨rfl,dh.o.trans HI3.o.md⟩
theorem Bu{P:Program}(w:tW)(t ty e:TypeId)(i:TypeInfo)(z:Value)(size bytes:Nat)(ht:P.underlying t=some (.slice e))(hi:P.info? e=some i)(hz:i.zero=some z)(hsize:i.size=size) (hby:i.bytes=bytes) (hzs:z.cells.size=size) (hsz:0<size)(v:Value) (n:Nat) (xs:List Value) (hown:Sl w e size v n xs) (u:Value) (m:Nat) (ys:List Value) (PG:Sl w e size u m ys) (h1:∀u∈ys,u.oneCell'=true)(h63:n+m<=maxLen) (hbytes:(n+m)*bytes<=140737488355328):∃v' w',(Builtin.append_ #[t,t] ty #[v,u]).run P w=.ok v' w'/\Sl w' e size v' (n+m) (xs++ys)/\aa (λk=>v.ownBlock=some k) w w'/\(∀k,v'.ownBlock=some k->v.ownBlock=some k\/w.heap.size<=k):=by
 rcases PG.2 with⟨rfl,rfl⟩ |⟨g,cap,cur,rfl,_,hg,hn,hm,hcs,htk⟩
 ·have hy:ys=[]:=List.length_eq_zero_iff.1 (by rw[PG.1];omega);subst hy;obtain⟨o,c,hv,h2⟩:=hown.view
  have hle:n<=c:=by
   rcases hown.2 with⟨rfl,rfl⟩ |⟨g,cap,cur,rfl,_,hg,hn,hm,hcs,htk⟩
   ·exact ao _
   ·cases hv;exact hn
  subst hv;have:=run_append_nothing (P:=P) w t t ty e i ht hi o n c hle (.slice none 0 0) (Src.ofNil w ht 0);exact⟨_,_,this,by rw[ba];exact hown,ax,λk hk=>.inl hk⟩
 ·refine uD (P:=P) w t ty e i z size bytes ht hi hz hsize hby hzs hsz v n xs hown ⟨g,0,none⟩ m cap ys PG.1 ?_ h1 h63 hbytes;intro j x hx;have hb:ak w g cur e:=hg;have hadd:(⟨g,0,none⟩:Addr).add j=⟨g,j,none⟩:=by unfold Addr.add;split<;>simp_all
  have hj:j<ys.length:=(List.getElem?_eq_some_iff.1 hx).1;rw[hadd,aW hb htk j (by rw[<-PG.1];exact hj),hx]
theorem ng{P:Program}(w:tW){ops:Array Oper}{rest:List Oper}{o:Oper}{a:Act}{Q:Exit->Act->tW->Prop}(hgd:o.guard=none)(s x:Operand)(t:TypeId)(ho:o.op=.call {callee:=.builtin .append,args:=#[s,x],argTypes:=#[t,t]})(e:TypeId) (i:TypeInfo) (z:Value) (size bytes:Nat) (ht:P.underlying t=some (.slice e)) (hi:P.info? e=some i) (hz:i.zero=some z)(hsize:i.size=size) (hby:i.bytes=bytes) (hzs:z.cells.size=size) (hsz:0<size)(v:Value) (n:Nat) (xs:List Value) (hs:a.eval s=v) (hown:Sl w e size v n xs) (u:Value) (m:Nat) (ys:List Value) (hx:a.eval x=u) (PG:Sl w e size u m ys) (h1:∀u∈ys,u.oneCell'=true)(h63:n+m<=maxLen) (hbytes:(n+m)*bytes<=140737488355328)(h:∀v' w',Sl w' e size v' (n+m) (xs++ys)->aa (λk=>v.ownBlock=some k) w w'->(∀k,v'.ownBlock=some k->v.ownBlock=some k\/w.heap.size<=k)->wpList P ops Q rest (a.put o.dst v') w'):wpList P ops Q (o::rest) a w:=by refine wpList_plain hgd λ_ hK=>?_;obtain⟨v',w',hr,h2,h3,h4⟩:=Bu (P:=P) w t o.type e i z size bytes ht hi hz hsize hby hzs hsz v n xs hown u m ys PG h1 h63 hbytes;unfold Oper.wp execOp;simp only[ho,resolve,invoke,builtin,Sem.run_bind,Sem.run_pure,Result.andThen_ok,List.map_toArray,List.map_cons,List.map_nil,hs,hx,hr];exact hK _ _ (h v' w' h2 h3 h4)
theorem lq{α β:Type}(f:α->List β)(n:Nat):∀(l:List α),(∀x∈l,(f x).length<=n)->(l.flatMap f).length<=l.length*n
 |[],_=>by simp
 |x::l,h=>by rw[b5,al,ar,Nat.succ_mul];have h1:=h x (by simp);have h2:=lq f n l (λy hy=>h y (by simp[hy]));omega
theorem Dz{α β:Type}(f:α->List β)(l:List α)(k:Nat)(h:k<l.length):(l.take (k+1)).flatMap f=(l.take k).flatMap f++f l[k]:=by rw[bh,cq];simp[h]
theorem TQ(w:tW)(b:Nat)(nm:tBA)(hb:ak w b #[.string nm] 9)(a:tBA)(x y z:Int):Calls prog 160 #[.agg #[.string a,.int .u8 x,.int .u8 y,.int .u8 z],.pointer (some ⟨b,0,none⟩)] w λe w'=>e=.returned (.bool (a.toList==nm.toList))/\aa ae w w':=by have c0:w.cell? ⟨b,0,none⟩=some (.string nm):=hb.cell 0;have hbl:=hb.lt;clear hb;go_enter func160,ntmps160;go_wp2_with fail;go_ret;exact⟨rfl,aj⟩
theorem TR(w:tW)(b:Nat)(nm:tBA)(hb:ak w b #[.string nm] 9)(rows:List az)(vM:Value)(hM:Sl w 100 4 vM rows.length (rows.flatMap az.cells))(hl:rows.length<=1000):Calls prog 159 #[vM,.func (.func 160) #[] #[.pointer (some ⟨b,0,none⟩)]] w λe w'=>e=.returned (.int .i64 (placeM nm (rows.map (λx=>T x.name))))/\aa ae w w':=by
 obtain⟨oF,cF,jZ,_⟩:=hM.view;subst jZ;have HF:=ai hM;have HB:=ai hb;clear hM hb;have ae3:=enters_of (P:=prog) func160 (by kernel_rfl) rfl;go_enter func159,ntmps159;go_wp2_with fail;go_loopg [8] rows.length (λg iv wx=>∃k:Nat,k<=rows.length/\iv=.int .i64 k/\aa ae w wx/\(∀j,(hj:j<rows.length)->j<k->T rows[j].name≠nm)/\g=rows.length-k)
 case atStart=>exact⟨0,ao _,rfl,ax,λj _ h=>absurd h (Nat.not_lt_zero _),rfl⟩
 case round =>
  obtain⟨k,hk,rfl,hmd,hn,rfl⟩:=hrel;have HN:=ai hn;have nP:=ai hmd;clear hn hmd;by_cases hlt:k<rows.length
  ·obtain⟨o',cap',hvv,h2⟩:=(HF.o.ag nP.o (λ_ _=>id)).view;cases hvv;obtain⟨g,cs,rfl,hb',ht',_⟩:=h2 (by omega);have key:∀c,c<4->wr.cell? ⟨g,k*4+c,none⟩=(az.cells rows[k])[c]?:=λc hc=>by rw[aW hb' ht' (k*4+c) (by omega)];exact flat_get az.cells 4 (λ_=>rfl) rows k c hlt hc
   have c0:wr.cell? ⟨g,k*4,none⟩=some (.string (T rows[k].name)):=key 0 (by omega);have c1:wr.cell? ⟨g,k*4+1,none⟩=some (.int .u8 rows[k].key):=key 1 (by omega);have c2:wr.cell? ⟨g,k*4+2,none⟩=some (.int .u8 rows[k].value):=key 2 (by omega);have c3:wr.cell? ⟨g,k*4+3,none⟩=some (.int .u8 rows[k].entries):=key 3 (by omega);have HEQ:af (Calls prog 160 #[.agg #[.string (T rows[k].name),.int .u8 rows[k].key,.int .u8 rows[k].value,.int .u8 rows[k].entries],.pointer (some ⟨b,0,none⟩)] wr λe w'=>e=.returned (.bool ((T rows[k].name).toList==nm.toList))/\aa ae wr w'):=TQ wr b nm (HB.o.ag nP.o id) (T rows[k].name) _ _ _;have O8:af (T rows[k].name=nm->placeM nm (rows.map (λx=>T x.name))=k):=λhe=>ym nm (rows.map (λx=>T x.name)) k (by simpa using hlt) (λj hj hjk=>by simpa using HN.o j (by simpa using hj) hjk) (by simpa using he)
   have Cz:af (T rows[k].name≠nm->∀j,(hj:j<rows.length)->j<k+1->T rows[j].name≠nm):=λhe j hj hjk=>by
    by_cases e:j=k
    ·subst e;exact he
    ·exact HN.o j hj (by omega)
   clear hb' ht' h2 key
   have HEB:af (((T rows[k].name).toList==nm.toList)=decide (T rows[k].name=nm)):=by
    rw[af];by_cases he:T rows[k].name=nm
    ·rw[En he];simp[he]
    ·rw[uR he];simp[he]
   generalize T rows[k].name=tk at *;generalize rows[k].key=xk at *;generalize rows[k].value=xv at *;generalize rows[k].entries=xe at *;go_wp2_with fail;refine HEQ.o.mono ?_;rintro e w2 ⟨rfl,m2⟩;rw[HEB.o];have dD:=ai (nP.o.trans m2);clear HEB HEQ m2;by_cases he:tk=nm
   ·have hd:decide (tk=nm)=true:=by simpa using he
    have HP:=ai (O8.o he);rw[hd];clear hd he;go_wp2_with fail;go_ret;exact⟨dB HP.o.symm,dD.o⟩
   ·have hd:decide (tk=nm)=false:=by simpa using he
    have Jo:=ai (Cz.o he);rw[hd];clear hd he;go_wp2_with fail;go_roundg (rows.length-(k+1))
    case measure=>omega
    case rel=>exact⟨k+1,by omega,by go_num,dD.o,Jo.o,rfl⟩
  ·have HP:af (placeM nm (rows.map (λx=>T x.name))=-1):=by
    refine rC nm _ (λj hj=>?_);have hj':j<rows.length:=by simpa using hj
    simpa using HN.o j hj' (by omega)
   go_wp2_with fail;go_ret;exact⟨dB HP.o.symm,nP.o⟩
theorem TS(w:tW)(nm:tBA)(rows:List az)(vM vF:Value)(o1:Option Addr)(n1 c1:Nat)(hF:vF=.slice o1 n1 c1)(hM:Sl w 100 4 vM rows.length (rows.flatMap az.cells))(hl:rows.length<=1000):Calls prog 86 #[.agg #[vM,vF],.string nm] w λe w'=>e=.returned (.int .i64 (placeM nm (rows.map (λx=>T x.name))))/\aa ae w w':=by
 subst hF;obtain⟨oM,cM,yR,_⟩:=hM.view;subst yR
 have HI:af (∀w',aa ae w w'->∀b,ak w' b #[.string nm] 9->Calls prog 159 #[.slice oM rows.length cM,.func (.func 160) #[] #[.pointer (some ⟨b,0,none⟩)]] w' λe w2=>e=.returned (.int .i64 (placeM nm (rows.map (λx=>T x.name))))/\aa ae w' w2) :=
  λw' m b hb=>TR w' b nm hb rows _ (hM.ag m (λ_ _=>id)) hl
 clear hM;go_enter func86,ntmps86;go_wp2_with fail;refine(HI.o _ (aj.alloc _) (w.heap.size+1) ?_).mono ?_
 ·have:=ak.new (w.alloc (.cells #[.slice oM rows.length cM,.slice o1 n1 c1] 90)) #[.string nm] 9;rw[show(w.alloc (.cells #[.slice oM rows.length cM,.slice o1 n1 c1] 90)).heap.size=w.heap.size+1 by simp]at this;exact this
 ·rintro e w2 ⟨rfl,m2⟩;go_wp2_with fail;go_ret;exact⟨rfl,(aj.alloc _).trans m2⟩
def decsP:List tLB->List (List az×List aS)
 |[]=>[]
 |s::l=>if(fq s).2.2.bad then []else((fq s).1,(fq s).2.1)::decsP l
structure bq where
 vM:Value
 vF:Value
 ms:List az
 fs:List aS
 vs:List Value
 lo:Nat
def bq.cells(p:bq):List Value:=[p.vM,p.vF]
def bq.plain(p:bq):List az×List aS:=(p.ms,p.fs)
structure eV(w:tW)(bs:List Nat)(p:bq):Prop where
 maps:Sl w 100 4 p.vM p.ms.length (p.ms.flatMap az.cells)
 fns:pG w p.lo bs p.vF p.fs p.vs
theorem eV.quiet{w w':tW}{bs:List Nat}{p:bq}(h:eV w bs p)(m:aa ae w w'):eV w' bs p:=⟨h.maps.ag m (λ_ _=>id),h.fns.quiet m⟩
theorem Fg:(prog.info? 90).map (λi=>(i.zero,i.size,i.bytes))=some (some (.agg #[.slice none 0 0,.slice none 0 0]),2,48):=by kernel_rfl
structure Parts(w0:tW)(bs:List Nat)(v:Value)(ps:List bq)(w:tW):Prop where
 sl:Sl w 90 2 v ps.length (ps.flatMap bq.cells)
 each:∀p∈ps,eV w bs p
 md:aa ae w0 w
 own:∀k,v.ownBlock=some k->w0.heap.size<=k
 lo:∀p∈ps,w0.heap.size<=p.lo
 ord:ps.Pairwise (λp q=>∀u∈p.vs,∀k,u.ownBlock=some k->k<q.lo)
theorem Parts.nil(w:tW)(bs:List Nat):Parts w bs (.slice none 0 0) [] w where
 sl:=Sl.nil _ _ _
 each:=λ_ h=>by cases h
 md:=ax
 own:=λk h=>by cases h
 lo:=λ_ h=>by cases h
 ord:=List.Pairwise.nil
theorem Parts.quiet{w0 w w':tW}{bs:List Nat}{v:Value}{ps:List bq}(h:Parts w0 bs v ps w)(m:aa ae w w'):Parts w0 bs v ps w' :=
 ⟨h.sl.ag m (λ_ _=>id),λp hp=>(h.each p hp).quiet m,h.md.trans m,h.own,h.lo,h.ord⟩
theorem eV.ag{w w':tW}{bs:List Nat}{p:bq}{v:Value}{n:Nat}{xs:List Value}(h:eV w bs p)(hs:Sl w 90 2 v n xs)(m:aa (λk=>v.ownBlock=some k) w w'):eV w' bs p :=
 ⟨h.maps.ag m (λk hk e=>h.maps.apart hs (by decide) hk e),h.fns.ag m (λk hk e=>h.fns.sl.apart hs (by decide) hk e) (λu hu k hk e=>by obtain⟨i,hi,rfl⟩:=cw hu;exact(h.fns.cd i (by rw[<-h.fns.len];exact hi) hi).apart hs (by decide) hk e)⟩
theorem Parts.app{w0 w w':tW}{bs:List Nat}{v v':Value}{ps:List bq}{p:bq}(h:Parts w0 bs v ps w)(hp:eV w bs p)(hlo:w0.heap.size<=p.lo)(ael:∀q∈ps,∀u∈q.vs,∀k,u.ownBlock=some k->k<p.lo)(s:Sl w' 90 2 v' (ps.length+1) (ps.flatMap bq.cells++p.cells)) (m:aa (λk=>v.ownBlock=some k) w w') (l:∀k,v'.ownBlock=some k->v.ownBlock=some k\/w.heap.size<=k):Parts w0 bs v' (ps++[p]) w':=by
 refine⟨?_,?_,h.md.step m (λi hi e=>by have:=h.own i e;omega),λk hk=>?_,?_,?_⟩
 ·rw[al,cq];simpa using s
 ·intro q hq;rcases List.mem_append.1 hq with hq|hq
  ·exact(h.each q hq).ag h.sl m
  ·rw[List.mem_singleton.1 hq];exact hp.ag h.sl m
 ·rcases l k hk with e|e
  ·exact h.own k e
  ·have:=h.md.size;omega
 ·intro q hq;rcases List.mem_append.1 hq with hq|hq
  ·exact h.lo q hq
  ·rw[List.mem_singleton.1 hq];exact hlo
 ·rw[List.pairwise_append];exact⟨h.ord,List.pairwise_singleton _ _,λq hq r hr=>by rw[List.mem_singleton.1 hr];exact ael q hq⟩
theorem TT(w:tW)(hE:sV w)(g cap:Nat)(cs:tAV)(aR:List tLB)(hb:ak w g cs 9)(hcs:∀k (h:k<aR.length),cs[k]?=some (.string (T aR[k])))(hn:aR.length<=1000)(hs:∀s∈aR,s.length<=maxLen):Calls prog 46 #[.slice (some ⟨g,0,none⟩) aR.length cap] w λe w'=>∃v tv bs ps wT,e=.returned v/\aH 0 wT tv bs aq/\aa ae w wT/\Parts wT bs v ps w'/\ps.map bq.plain=decsP aR:=by
 obtain⟨iP,hiP,hq⟩:=Option.map_eq_some_iff.1 Fg;have rX:iP.zero=some (.agg #[.slice none 0 0,.slice none 0 0]):=congrArg (·.1) hq;have hsP:iP.size=2:=congrArg (·.2.1) hq;have wj:iP.bytes=48:=congrArg (·.2.2) hq;have HB:=ai hb;have nE:=ai hcs;have HS:=ai hs;have HE:=ai hE;clear hq hb hcs hs hE;go_enter func46,ntmps46;go_wp2_with fail;refine(yC _ HE.o).mono ?_;rintro e wT ⟨tv,bs,rfl,hT,mT⟩;have HT:=ai hT;have Cv:=ai mT;have HBT:=ai (HB.o.ag mT id);obtain⟨oT,cT,hvT,_⟩:=hT.sl.view;clear hT mT HB HE;subst hvT;go_wp2_with fail;go_loopg [4,12] aR.length (λgg ov iv wx=>∃(k:Nat) (ps:List bq),iv=.int .i64 k/\Parts wT bs ov ps wx/\ps.map bq.plain++decsP (aR.drop k)=decsP aR/\ps.length=k/\k<=aR.length/\gg=aR.length-k)
 case atStart=>exact⟨0,[],rfl,Parts.nil _ _,rfl,rfl,ao _,rfl⟩
 case round =>
  obtain⟨k,ps,rfl,hP,iA,hpl,hk,rfl⟩:=hrel;have HR:=ai iA;have HP:=ai hP;have O8:=ai hpl;clear iA hP hpl;by_cases hkl:k<aR.length
  ·have c0:wr.cell? ⟨g,k,none⟩=some (.string (T aR[k])):=by rw[(HBT.o.ag HP.o.md id).cell k];exact nE.o k hkl
   have HD:af (Calls prog 78 #[.slice oT bs.length cT,.string (T aR[k])] wr λe w'=>mZ wr bs (fq aR[k]) e w'):=Kr wr wT _ bs HT.o HP.o.md aR[k] (HS.o _ (ab hkl));have HX:af (decsP (aR.drop k)=if(fq aR[k]).2.2.bad then []else((fq aR[k]).1,(fq aR[k]).2.1)::decsP (aR.drop (k+1))):=by rw[af,an hkl,decsP]
   generalize fq aR[k]=d at *;generalize T aR[k]=sk at *;go_wp2_with fail;refine HD.o.mono ?_;rintro e w2 ⟨vM,vF,vs,rfl,m2,⟨a1,a2,a3,b1,b2,b3,rfl,rfl⟩,hok⟩;have kD:af (Parts wT bs u4 ps (w2.alloc (.cells #[.slice a1 a2 a3,.slice b1 b2 b3] 90))):=HP.o.quiet (m2.alloc _);have Rm:af (∀q∈ps,∀u∈q.vs,∀k,u.ownBlock=some k->k<wr.heap.size):=by intro q hq u hu k hk;obtain⟨i,hi,rfl⟩:=cw hu;have hf:=(HP.o.each q hq).fns;exact(hf.cd i (by rw[<-hf.len];exact hi) hi).lt k hk
   have HW0:=ai HP.o.md.size;rcases J8 d.2.2.bad with hbad|hbad
   ·have HXB:af (ps.map bq.plain=decsP aR):=by rw[af,<-HR.o,HX.o,iP9 hbad,ba]
    rw[hbad];clear hok HD HX hbad;go_wp2_with fail;go_ret;exact⟨_,_,bs,ps,wT,rfl,HT.o,Cv.o,kD.o,HXB.o⟩
   ·obtain⟨hsm,hfn⟩:=hok hbad;have Md:af (eV (w2.alloc (.cells #[.slice a1 a2 a3,.slice b1 b2 b3] 90)) bs ⟨.slice a1 a2 a3,.slice b1 b2 b3,d.1,d.2.1,vs,wr.heap.size⟩):=eV.quiet ⟨hsm,hfn⟩ aj;have HXB:af ((ps++[(⟨.slice a1 a2 a3,.slice b1 b2 b3,d.1,d.2.1,vs,wr.heap.size⟩:bq)]).map bq.plain++decsP (aR.drop (k+1))=decsP aR):=by rw[af,<-HR.o,HX.o,iN9 (by rw[hbad];decide)];simp[bq.plain]
    rw[hbad];clear hok HD HX hbad hsm hfn;have hpk:ps.length<=1000:=by rw[O8.o];omega
    go_wp2_with (at_builtin;refine aL _ rfl (.tmp 24) (.tmp 26) 114 rfl 90 iP (.agg #[.slice none 0 0,.slice none 0 0]) 2 48 underlying114 hiP rX hsP wj rfl (by decide) u4 ps.length (ps.flatMap bq.cells) rfl (kD.o.quiet aj).sl ⟨w2.heap.size+1,0,none⟩ 1 1 [.slice a1 a2 a3,.slice b1 b2 b3] rfl rfl (aV _ _ _ _ (by simp)) (λu hu=>by simp at hu;rcases hu with rfl|rfl<;>rfl) (by unfold maxLen;omega) (by omega) ?_;intro v5 w5 s5 m5 l5);have HP5:af (Parts wT bs v5 (ps++[⟨.slice a1 a2 a3,.slice b1 b2 b3,d.1,d.2.1,vs,wr.heap.size⟩]) w5):=(kD.o.quiet aj).app (Md.o.quiet aj) HW0.o (λq hq u hu k hk=>Rm.o q hq u hu k hk) s5 m5 l5;clear s5 m5 l5;go_roundg (aR.length-(k+1))
    case measure=>omega
    case rel=>exact⟨k+1,_,by go_num,HP5.o,HXB.o,by rw[al,O8.o];rfl,by omega,rfl⟩
  ·obtain rfl:k=aR.length:=by omega
   have HXB:af (ps.map bq.plain=decsP aR):=by
    have:=HR.o;rw[b9]at this
    simpa [af,decsP]using this
   go_wp2_with fail;go_ret;exact⟨_,_,bs,ps,wT,rfl,HT.o,Cv.o,HP.o,HXB.o⟩
def oG(fs:List aS):Nat:=(fs.map (λf=>aM f.code)).sum
theorem PH(fs:List aS)(k:Nat)(h:k<fs.length):oG (fs.take (k+1))=oG (fs.take k)+aM fs[k].code:=by unfold oG;rw[bh,List.map_append,List.sum_append];simp[h]
theorem XP(w:tW)(tv:Value)(bs:List Nat)(vM vF:Value)(ms:List az)(fs:List aS)(vs:List Value)(hP:We w tv bs vM vF ms fs vs)(hm:ms.length<=1000)(hf:fs.length<=1000)(hok:∀f∈fs,f.code.length<=200/\∀x∈f.code,eU x)(hsum:∀k,oG (fs.take k)<=1000000):Calls prog 83 #[.agg #[vM,vF]] w λe w'=>e=.returned (.bool (decide (8<ms.length)||decide (16<fs.length)||decide (200<oG fs)))/\aa ae w w':=by
 obtain⟨oM,cM,yR,_⟩:=hP.maps.view;obtain⟨oF,cF,jZ,_⟩:=hP.rows.view;subst yR jZ;have HP:=ai hP;have uH:=ai hok;have HSU:=ai hsum;have HB0:af (ak (w.alloc (.cells #[.slice oM ms.length cM,.slice oF fs.length cF] 90)) w.heap.size #[.slice oM ms.length cM,.slice oF fs.length cF] 90):=ak.new _ _ _;have eX:af (aa ae w (w.alloc (.cells #[.slice oM ms.length cM,.slice oF fs.length cF] 90))):=aj;clear hP hok hsum;obtain⟨r,hr⟩:∃r:Bool,r=(decide (8<ms.length)||decide (16<fs.length)||decide (200<oG fs)):=⟨_,rfl⟩
 rw[<-hr];have iA:=ai hr;clear hr;go_enter func83,ntmps83;go_wp2_with fail;generalize w.alloc (.cells #[.slice oM ms.length cM,.slice oF fs.length cF] 90)=wB at *;generalize w.heap.size=B at *;go_loopg [3,9] fs.length (λg sv iv wx=>∃k:Nat,iv=.int .i64 k/\sv=.int .i64 (oG (fs.take k))/\aa ae wB wx/\k<=fs.length/\g=fs.length-k)
 case atStart=>exact⟨0,rfl,rfl,ax,ao _,rfl⟩
 case round =>
  obtain⟨k,rfl,rfl,hmd,hk,rfl⟩:=hrel;have nP:=ai hmd;clear hmd;have hs0:=HSU.o k;by_cases hkl:k<fs.length
  ·have CL:=HP.o.quiet (eX.o.trans nP.o);have zn:k<vs.length:=by rw[CL.len];exact hkl
   obtain⟨gF,rfl,c0,c1⟩:=CL.TI k hkl zn;have hk1:=uH.o fs[k] (ab hkl);have pF:=CL.code k hkl zn;have HST:af (oG (fs.take (k+1))=oG (fs.take k)+aM fs[k].code):=PH fs k hkl;have hs1:=HSU.o (k+1);rw[HST.o]at hs1
   have Zx:af (∀w',aa ae wr w'->Calls prog 69 #[.agg #[.string (T fs[k].name),vs[k]]] w' λe w2=>e=.returned (.int .i64 (aM fs[k].code))/\aa ae w' w2) :=
    λw' m=>Bk w' tv bs (CL.ops.ag m) fs[k].code hk1.2 (by have:=hk1.1;omega) _ (pF.ag m (λ_ _=>id)) (T fs[k].name)
   obtain⟨oC,cC,hvC,_⟩:=pF.view;rw[hvC]at c1 Zx;clear CL pF hk1 hvC;generalize T fs[k].name=tn at *;generalize aM fs[k].code=sp at *;generalize fs[k].code.length=cl at *;generalize oG (fs.take k)=sk at *;go_wp2_with fail;refine(Zx.o _ aj).mono ?_;rintro e w2 ⟨rfl,m2⟩;have dD:af (aa ae wB w2):=(nP.o.alloc _).trans m2;clear m2;go_wp2_with fail;go_roundg (fs.length-(k+1))
   case measure=>omega
   case rel=>exact⟨k+1,by go_num,by rw[HST.o];go_num,dD.o,by omega,rfl⟩
  ·obtain rfl:k=fs.length:=by omega
   have V6:af (oG (fs.take fs.length)=oG fs):=by rw[af,ca]
   rw[V6.o]at hs0 ⊢;have q0:wr.cell? ⟨B,0,none⟩=some (.slice oM ms.length cM):=(HB0.o.ag nP.o id).cell 0;have q1:wr.cell? ⟨B,1,none⟩=some (.slice oF fs.length cF):=(HB0.o.ag nP.o id).cell 1;have XQ:=ai (eX.o.trans nP.o);generalize oG fs=sf at *;by_cases h1:8<ms.length
   ·have HR:af (r=true):=by rw[af,iA.o];simp[h1]
    go_wp2_with fail;go_ret;exact⟨by rw[HR.o];rfl,XQ.o⟩
   ·by_cases h2:16<fs.length
    ·have HR:af (r=true):=by rw[af,iA.o];simp[h2]
     have t1:decide ((8:Int)<(ms.length:Int))=false:=by simp;omega
     go_wp2_with fail;go_ret;exact⟨by rw[HR.o];rfl,XQ.o⟩
    ·have HR:af (r=decide (200<sf)):=by rw[af,iA.o];simp[h1,h2]
     have t1:decide ((8:Int)<(ms.length:Int))=false:=by simp;omega
     have t2:decide ((16:Int)<(fs.length:Int))=false:=by simp;omega
     have HD:af (decide ((200:Int)<(sf:Int))=decide (200<sf)):=by rw[af];congr 1;exact propext (by omega)
     go_wp2_with fail;go_ret;exact⟨by rw[HR.o,<-HD.o];rfl,XQ.o⟩
def CO(names:List tBA)(x:PI):Bool:=decide (x.aO=1)&&decide (placeM (T x.name) names=-1)
def Hm(names:List tBA)(f:aS):Bool:=f.code.any (CO names)
def PJ(names:List tBA)(p:List aS):Bool:=p.any (Hm names)
def missP(names:List tBA):Nat->List (List aS)->Int
 |_,[]=>-1
 |i,p::l=>if PJ names p then i else missP names (i+1) l
theorem Parts.at{w0 w:tW}{bs:List Nat}{o:Option Addr}{c:Nat}{ps:List bq}(h:Parts w0 bs (.slice o ps.length c) ps w)(k:Nat)(hk:k<ps.length):∃g,o=some ⟨g,0,none⟩/\w.cell? ⟨g,k*2,none⟩=some ps[k].vM/\w.cell? ⟨g,k*2+1,none⟩=some ps[k].vF:=by
 obtain⟨o',cap',hv,h2⟩:=h.sl.view;cases hv;obtain⟨g,cs,rfl,hb,ht,_⟩:=h2 (by omega);have key:∀c,c<2->w.cell? ⟨g,k*2+c,none⟩=(bq.cells ps[k])[c]?:=λc hc=>by rw[aW hb ht (k*2+c) (by omega)];exact flat_get bq.cells 2 (λ_=>rfl) ps k c hk hc
 exact⟨g,rfl,key 0 (by omega),key 1 (by omega)⟩
theorem pG.TI{w:tW}{lo:Nat}{bs:List Nat}{oF:Option Addr}{cF:Nat}{fs:List aS}{vs:List Value}(h:pG w lo bs (.slice oF fs.length cF) fs vs)(k:Nat)(hk:k<fs.length)(hv':k<vs.length):∃g,oF=some ⟨g,0,none⟩/\w.cell? ⟨g,k*2,none⟩=some (.string (T fs[k].name))/\w.cell? ⟨g,k*2+1,none⟩=some vs[k]:=by
 obtain⟨o',cap',hv,h2⟩:=h.sl.view;cases hv;obtain⟨g,cs,rfl,hb,ht,_⟩:=h2 (by omega);have hz:k<((fs.map (·.name)).zip vs).length:=by simp only[List.length_zip,List.length_map];omega
 have key:∀c,c<2->w.cell? ⟨g,k*2+c,none⟩=(mF (fs[k].name,vs[k]))[c]?:=λc hc=>by rw[aW hb ht (k*2+c) (by omega)];have:=flat_get mF 2 (λ_=>rfl) ((fs.map (·.name)).zip vs) k c hz hc;rw[this,List.getElem_zip,cy]
 exact⟨g,rfl,key 0 (by omega),key 1 (by omega)⟩
theorem PL:∀k,k<88->(aq[k]?.getD iK).aO<=2:=by decide +kernel
theorem eU.refs{x:PI}(h:eU x):x.o.aO<=2:=PL x.k h.k
theorem KA(names:List tBA)(l:List (List aS))(k:Nat)(h:k<l.length):missP names k (l.drop k)=if PJ names l[k]then(k:Int)else missP names (k+1) (l.drop (k+1)):=by rw[an h,missP]
theorem TU(w0 w:tW)(tv:Value)(bs:List Nat)(hT:aH 0 w0 tv bs aq)(v:Value)(ps:List bq)(hP:Parts w0 bs v ps w)(hpl:ps.length<=1000)(hfl:∀p∈ps,p.fs.length<=1000/\∀f∈p.fs,f.code.length<=1000)(vM vF:Value) (o1:Option Addr) (n1 c1:Nat) (hM:vM=.slice o1 n1 c1) (rows:List (tLB×Value)) (hv:∀x∈rows,∃o n c,x.2=.slice o n c) (hF:Sl w 96 2 vF rows.length (rows.flatMap mF)) (hl:rows.length<=1000) (names:List tBA) (hnm:names=rows.map (λx=>T x.1)):Calls prog 82 #[v,.agg #[vM,vF]] w λe w'=>e=.returned (.int .i64 (missP names 0 (ps.map (·.fs))))/\aa ae w w':=by
 obtain⟨o,c,hvv,_⟩:=hP.sl.view;obtain⟨oF,cF,jZ,_⟩:=hF.view;subst hvv jZ hM;have HP:=ai hP;have HT:=ai hT;have Pq:=ai hfl;have KC:af (∀w',aa ae w w'->∀nm,Calls prog 85 #[.agg #[.slice o1 n1 c1,.slice oF rows.length cF],.string nm] w' λe w2=>e=.returned (.int .i64 (placeM nm names))/\aa ae w' w2):=λw' m nm=>by rw[hnm];exact Hg w' nm rows hv _ _ o1 n1 c1 rfl (hF.ag m (λ_ _=>id)) hl
 have TL:af (∀nm,-1<=placeM nm names/\placeM nm names<1001):=λnm=>by
  have:=lG nm names;have e:names.length=rows.length:=by rw[hnm,List.length_map]
  omega
 have HB0:af (ak (w.alloc (.cells #[.slice o1 n1 c1,.slice oF rows.length cF] 90)) w.heap.size #[.slice o1 n1 c1,.slice oF rows.length cF] 90):=ak.new _ _ _;have eX:af (aa ae w (w.alloc (.cells #[.slice o1 n1 c1,.slice oF rows.length cF] 90))):=aj;clear hP hT hfl hv hF hnm;go_enter func82,ntmps82;go_wp2_with fail;generalize w.alloc (.cells #[.slice o1 n1 c1,.slice oF rows.length cF] 90)=wB at *;generalize w.heap.size=B at *;go_loopg [13] ps.length (λg iv wx=>∃k:Nat,iv=.int .i64 k/\aa ae wB wx/\missP names k ((ps.map (·.fs)).drop k)=missP names 0 (ps.map (·.fs))/\k<=ps.length/\g=ps.length-k)
 case atStart=>exact⟨0,rfl,ax,rfl,ao _,rfl⟩
 case round =>
  obtain⟨k,rfl,hmd,hmi,hk,rfl⟩:=hrel;have nP:=ai hmd;have HMI:=ai hmi;clear hmd hmi;by_cases hkl:k<ps.length
  ·obtain⟨gP,rfl,c0,c1'⟩:=(HP.o.quiet (eX.o.trans nP.o)).at k hkl;have Et:af (missP names 0 (ps.map (·.fs))=if PJ names ps[k].fs then(k:Int)else missP names (k+1) ((ps.map (·.fs)).drop (k+1))):=by rw[af,<-HMI.o,KA names _ k (by simpa using hkl),cy]
   have Md:af (∀w',aa ae wr w'->eV w' bs ps[k]):=λw' m=>(HP.o.quiet ((eX.o.trans nP.o).trans m)).each _ (ab hkl);have hfk:=Pq.o ps[k] (ab hkl);obtain⟨a1,a2,ha,_⟩:=(Md.o wr ax).maps.view;obtain⟨b1,b2,hb,_⟩:=(Md.o wr ax).fns.sl.view;rw[ha]at c0;rw[hb]at c1';have FP:af (∀w',aa ae wr w'->pG w' ps[k].lo bs (.slice b1 ps[k].fs.length b2) ps[k].fs ps[k].vs):=λw' m=>by rw[<-hb];exact(Md.o w' m).fns
   clear Md ha hb HMI;generalize ps[k].fs=fs at *;generalize ps[k].vs=vs at *;generalize ps[k].lo=lo at *;generalize ps[k].ms.length=zx at *;go_wp2_with fail;have NI:af (aa ae wr (wr.alloc (.cells #[.slice a1 zx a2,.slice b1 fs.length b2] 90))):=aj;generalize wr.alloc (.cells #[.slice a1 zx a2,.slice b1 fs.length b2] 90)=w1 at *;obtain⟨wO,hwO⟩:∃wO,wO=wr:=⟨_,rfl⟩
   rw[<-hwO]at NI FP nP;clear hwO c0 c1';go_loopg [21] fs.length (λg iv wx=>∃i:Nat,iv=.int .i64 i/\aa ae wO wx/\(fs.take i).any (Hm names)=false/\i<=fs.length/\g=fs.length-i)
   case atStart=>exact⟨0,rfl,NI.o,rfl,ao _,rfl⟩
   case round =>
    obtain⟨i,rfl,hmd,hany,hi,rfl⟩:=hrel;have dD:=ai hmd;have HAN:=ai hany;clear hmd hany;by_cases hil:i<fs.length
    ·have Cw:=FP.o wr dD.o;have CP:i<vs.length:=by rw[Cw.len];exact hil
     obtain⟨gF,rfl,c0,c1'⟩:=Cw.TI i hil CP;have pF:=Cw.cd i hil CP;have hcl:=hfk.2 fs[i] (ab hil);have aem:af ((fs.take (i+1)).any (Hm names)=Hm names fs[i]):=by rw[af,bh,List.any_append,HAN.o,Bool.false_or];simp[hil]
     have HBF:af (Hm names fs[i]=true->PJ names fs=true):=λh=>by unfold PJ;rw[cD];exact⟨fs[i],ab hil,h⟩
     have uH:af (∀x∈fs[i].code,eU x):=Cw.ok fs[i] (ab hil);have PM:af (∀w',aa ae wr w'->Sl w' 138 8 vs[i] fs[i].code.length (eu bs fs[i].code)):=λw' m=>pF.ag m (λ_ _=>id);have Ki:af (Hm names fs[i]=fs[i].code.any (CO names)):=rfl;generalize fs[i]=f at *;generalize vs[i]=vC at *;obtain⟨nm,code⟩:=f;simp only at *;obtain⟨oC,cC,rfl,_⟩:=pF.view;clear Cw pF;generalize Hm names ⟨nm,code⟩=bf at *;go_wp2_with fail;have dw:af (aa ae wr (wr.alloc (.cells #[.string (T nm),.slice oC code.length cC] 96))):=aj;generalize wr.alloc (.cells #[.string (T nm),.slice oC code.length cC] 96)=w2 at *;obtain⟨wQ,hwQ⟩:∃wQ,wQ=wr:=⟨_,rfl⟩
     rw[<-hwQ]at dw dD PM;clear hwQ c0 c1';go_loopg [28] code.length (λg iv wx=>∃j:Nat,iv=.int .i64 j/\aa ae wQ wx/\(code.take j).any (CO names)=false/\j<=code.length/\g=code.length-j)
     case atStart=>exact⟨0,rfl,dw.o,rfl,ao _,rfl⟩
     case round =>
      obtain⟨j,rfl,hmd,hany,hj,rfl⟩:=hrel;have fU:=ai hmd;have HAX:=ai hany;clear hmd hany;have Du:af (aa ae wB wr):=(nP.o.trans dD.o).trans fU.o;by_cases hjl:j<code.length
      ·obtain⟨g,rfl,hg,y0,y1,y2,y3,y4,y5,y6,y7⟩:=kZ (PM.o wr fU.o) rfl rfl j hjl;have hx:=uH.o code[j] (ab hjl);have HAT:af (∀w',aa ae wr w'->bY w' (bs[code[j].k]?.getD 0) code[j].o):=λw' m=>jI (HT.o.ag (((HP.o.md.trans eX.o).trans Du.o).trans m)) code[j] hx.k;have acg:af ((code.take (j+1)).any (CO names)=CO names code[j]):=by rw[af,bh,List.any_append,HAX.o,Bool.false_or];simp[hjl]
       have Fe:af (CO names code[j]=true->bf=true):=λh=>by rw[Ki.o,cD];exact⟨code[j],ab hjl,h⟩
       have HXD:af (CO names code[j]=(decide ((if code[j].s=1 then code[j].o.aO else 0)=1)&&decide (placeM (T code[j].name) names=-1))):=rfl;have hpb:=TL.o (T code[j].name);have hrf:(if code[j].s=1 then code[j].o.aO else 0)<=1000:=by have:=hx.refs;split<;>omega
       clear hx;generalize CO names code[j]=bx at *;generalize code[j].o=o at *;generalize code[j].jump=jmp at *;generalize code[j].d=xd at *;generalize code[j].s=xs at *;generalize code[j].num=xn at *;generalize code[j].high=xh at *;have HFX:af (∀w',aa ae wr w'->Calls prog 85 #[.agg #[.slice o1 n1 c1,.slice oF rows.length cF],.string (T code[j].name)] w' λe w2=>e=.returned (.int .i64 (placeM (T code[j].name) names))/\aa ae w' w2):=λw' m=>KC.o w' ((eX.o.trans Du.o).trans m) _;generalize placeM (T code[j].name) names=pl at *;generalize T code[j].name=xm at *;generalize bs[code[j].k]?.getD 0=b at *;have AY:af (∀w',aa ae wr w'->Calls prog 84 #[.agg #[.pointer (some ⟨b,0,none⟩),.int .u8 xd,.int .u8 xs,.int .i16 jmp,.int .i32 xn,.int .i32 xh,.string ByteArray.empty,.string xm]] w' λe w2=>e=.returned (.int .i64 ((if xs=1 then o.aO else 0:Nat):Int))/\aa ae w' w2):=λw' m=>jJ w' b o (HAT.o w' m) xd xs xn xh jmp _ xm;generalize(if xs=1 then o.aO else 0)=rf at *;go_wp2_with fail;have hbx:=ak.new wr #[.pointer (some ⟨b,0,none⟩),.int .u8 xd,.int .u8 xs,.int .i16 jmp,.int .i32 xn,.int .i32 xh,.string ByteArray.empty,.string xm] 138;have HMx:af (aa ae wr (wr.alloc (.cells #[.pointer (some ⟨b,0,none⟩),.int .u8 xd,.int .u8 xs,.int .i16 jmp,.int .i32 xn,.int .i32 xh,.string ByteArray.empty,.string xm] 138))):=aj;refine(AY.o _ HMx.o).mono ?_;rintro e w5 ⟨rfl,m5⟩;have iT:af (ak w5 wr.heap.size #[.pointer (some ⟨b,0,none⟩),.int .u8 xd,.int .u8 xs,.int .i16 jmp,.int .i32 xn,.int .i32 xh,.string ByteArray.empty,.string xm] 138):=hbx.ag m5 id;have iC:=ai (HMx.o.trans m5);clear hbx m5 y0 y1 y2 y3 y4 y5 y6 y7 AY HAT HMx;by_cases h1:rf=1
       ·subst h1;have z0:w5.cell? ⟨B,0,none⟩=some (.slice o1 n1 c1):=(HB0.o.ag (Du.o.trans iC.o) id).cell 0;have z1:w5.cell? ⟨B,1,none⟩=some (.slice oF rows.length cF):=(HB0.o.ag (Du.o.trans iC.o) id).cell 1;have z7:w5.cell? ⟨wr.heap.size,7,none⟩=some (.string xm):=iT.o.cell 7;go_wp2_with fail;refine(HFX.o _ iC.o).mono ?_;rintro e w6 ⟨rfl,m6⟩;have sW:=ai (iC.o.trans m6);clear m6;by_cases h2:pl=-1
        ·subst h2;have Bv:af (missP names 0 (ps.map (·.fs))=k):=by rw[af,Et.o,iP9 (HBF.o (Fe.o (by rw[HXD.o];rfl)))]
         have XQ:af (aa ae w w6):=(eX.o.trans Du.o).trans sW.o;go_wp2_with fail;go_ret;exact⟨dB Bv.o.symm,XQ.o⟩
        ·have t1:decide (pl=-1)=false:=by simpa using h2
         have t2:(pl==-1)=false:=by simpa using h2
         have aaD:af ((code.take (j+1)).any (CO names)=false):=by rw[af,acg.o,HXD.o,t1,Bool.and_false]
         have xG:=ai (fU.o.trans sW.o);clear h2;go_wp2_with fail;go_roundg (code.length-(j+1))
         case measure=>omega
         case rel=>exact⟨j+1,by go_num,xG.o,aaD.o,by omega,rfl⟩
       ·have t1:decide ((rf:Int)=1)=false:=by simp;omega
        have t2:((rf:Int)==1)=false:=by simp;omega
        have aaD:af ((code.take (j+1)).any (CO names)=false):=by rw[af,acg.o,HXD.o,show decide (rf=1)=false by simpa using h1,Bool.false_and]
        have xG:=ai (fU.o.trans iC.o);clear h1;go_wp2_with fail;go_roundg (code.length-(j+1))
        case measure=>omega
        case rel=>exact⟨j+1,by go_num,xG.o,aaD.o,by omega,rfl⟩
      ·obtain rfl:j=code.length:=by omega
       have TV:af ((fs.take (i+1)).any (Hm names)=false):=by have:=HAX.o;rw[ca]at this;rw[af,aem.o,Ki.o,this]
       have xG:=ai (dD.o.trans fU.o);go_wp2_with fail;go_roundg (fs.length-(i+1))
       case measure=>omega
       case rel=>exact⟨i+1,by go_num,xG.o,TV.o,by omega,rfl⟩
    ·obtain rfl:i=fs.length:=by omega
     have HNB:af (PJ names fs=false):=by have:=HAN.o;rw[ca]at this;exact this
     have HMN:af (missP names (k+1) ((ps.map (·.fs)).drop (k+1))=missP names 0 (ps.map (·.fs))):=by rw[af,Et.o,iN9 (by rw[HNB.o];decide)]
     have xG:=ai (nP.o.trans dD.o);go_wp2_with fail;go_roundg (ps.length-(k+1))
     case measure=>omega
     case rel=>exact⟨k+1,by go_num,xG.o,HMN.o,by omega,rfl⟩
  ·obtain rfl:k=ps.length:=by omega
   have Kz:af (missP names 0 (ps.map (·.fs))=-1):=by rw[af,<-HMI.o,bj (by simp)];rfl
   have XQ:=ai (eX.o.trans nP.o);go_wp2_with fail;go_ret;exact⟨by rw[Kz.o];rfl,XQ.o⟩
structure ui(wT w:tW)(bs:List Nat)(vM vF:Value)(ms:List az)(fs:List aS)(vs:List Value):Prop where
 maps:Sl w 100 4 vM ms.length (ms.flatMap az.cells)
 len:vs.length=fs.length
 rows:Sl w 96 2 vF fs.length (((fs.map (·.name)).zip vs).flatMap mF)
 code:∀i (_:i<fs.length) (_:i<vs.length),Sl w 138 8 vs[i] fs[i].code.length (eu bs fs[i].code)
 ne:∀i j (_:i<vs.length) (_:j<vs.length),i≠j->∀k,vs[i].ownBlock=some k->vs[j].ownBlock≠some k
 own:∀u∈vs,∀k,u.ownBlock=some k->wT.heap.size<=k
 md:aa ae wT w
theorem ui.quiet{wT w w':tW}{bs:List Nat}{vM vF:Value}{ms:List az}{fs:List aS}{vs:List Value}(h:ui wT w bs vM vF ms fs vs)(m:aa ae w w'):ui wT w' bs vM vF ms fs vs :=
 ⟨h.maps.ag m (λ_ _=>id),h.len,h.rows.ag m (λ_ _=>id),λi a b=>(h.code i a b).ag m (λ_ _=>id),h.ne,h.own,h.md.trans m⟩
theorem ui.ppr{wT w:tW}{tv:Value}{bs:List Nat}{vM vF:Value}{ms:List az}{fs:List aS}{vs:List Value}(h:ui wT w bs vM vF ms fs vs)(hT:aH 0 wT tv bs aq):We w tv bs vM vF ms fs vs :=
 ⟨h.maps,h.len,h.rows,h.code,hT.ag h.md⟩
theorem TW{w:tW}{g c n:Nat}{bs:List Nat}{l:List PI}(h:Sl w 138 8 (.slice (some ⟨g,0,none⟩) n c) n (eu bs l))(hn:n=l.length)(k:Nat)(hk:k<l.length)(z:Int):Sl (w.setCell ⟨g,k*8+4,none⟩ (.int .i32 z)) 138 8 (.slice (some ⟨g,0,none⟩) n c) n (eu bs (l.set k {l[k]with num:=z})):=by
 have:=h.setAt (k*8+4) (.int .i32 z) (by omega);unfold eu at *
 rwa [lJ (λx:PI=>(x.ins bs).dU) 8 (λ_=>rfl) l k 4 hk (by omega) (.int .i32 z) {l[k]with num:=z} rfl]at this
theorem ui.num{wT w:tW}{bs:List Nat}{vM vF:Value}{ms:List az}{fs:List aS}{vs:List Value}(h:ui wT w bs vM vF ms fs vs)(i:Nat)(hi:i<fs.length)(hv:i<vs.length){g n c:Nat}(he:vs[i]=.slice (some ⟨g,0,none⟩) n c)(k:Nat)(hk:k<fs[i].code.length)(z:Int):ui wT (w.setCell ⟨g,k*8+4,none⟩ (.int .i32 z)) bs vM vF ms (fs.set i ⟨fs[i].name,fs[i].code.set k {fs[i].code[k]with num:=z}⟩) vs:=by
 have m:aa (Only g) w (w.setCell ⟨g,k*8+4,none⟩ (.int .i32 z)):=ax.aY _ _;have hs:=h.code i hi hv;have hg:vs[i].ownBlock=some g:=by rw[he];rfl
 have hgT:=h.own vs[i] (ab hv) g hg
 have hnm:(fs.set i ⟨fs[i].name,fs[i].code.set k {fs[i].code[k]with num:=z}⟩).map (·.name)=fs.map (·.name):=by
  rw[List.map_set]
  exact List.ext_getElem (by simp) (λj h1 h2=>by
   rw[List.getElem_set];split
   ·rename_i e;subst e;simp
   ·rfl)
 refine⟨h.maps.ag m (λk' hk' e=>hs.apart h.maps (by decide) hg (hk'.trans (congrArg some e))),by simp[h.len],?_,λj h1 h2=>?_,h.ne,h.own,h.md.step m (λb hb e=>by have:b=g:=e;omega)⟩
 ·rw[hnm,cj];exact h.rows.ag m (λk' hk' e=>hs.apart h.rows (by decide) hg (hk'.trans (congrArg some e)))
 ·rw[cj]at h1;by_cases e:i=j
  ·subst e;simp only[List.getElem_set_self,cj];rw[he]at hs ⊢;have hn:n=fs[i].code.length:=by obtain⟨o,cp,e1,_⟩:=hs.view;cases e1;rfl
   subst hn;exact TW hs rfl k hk z
  ·simp only[List.getElem_set_ne e];exact(h.code j h1 h2).ag m (λk' hk' e'=>h.ne i j hv h2 e g hg (hk'.trans (congrArg some e')))
