import Derived.Test.YtekmhcbefnmflaaGreatDoorCL27
import Derived.Test.YtekmhcbefnmflaaGreatDoorCL30
namespace Go.Proofs.YtekmhcbefnmflaaGreatDoor
open Go.RowKit Tryz
open List renaming length_append->ab,drop_eq_getElem_cons->an,length_cons->ao,getElem_mem->ar,append_assoc->bh,length_nil->bt,append_nil->b5,drop_eq_nil_of_le->b9,flatMap_cons->cb,drop_length->cx,length->ee
open Nat renaming zero_le->cj,le_refl->cw
open Option renaming some->eC,none->ez
open Value renaming string->eI,slice->eK
set_option linter.all false
set_option maxRecDepth 100000
set_option maxHeartbeats 4000000
def Dr(n slot:Nat)(x:PI):tLB:=if x.aJ=0 then []else b8 [(n:Int)]++b8 (nZ slot)++jd (T x.name)
def prefC(n:Nat):Nat->List PI->tLB
 |_,[]=>[]
 |slot,x::c=>Dr n slot x++prefC n (slot+x.o.slots) c
def pcntC:List PI->Nat
 |[]=>0
 |x::c=>(if x.aJ=0 then 0 else 1)+pcntC c
def prefF:Nat->List cZ->tLB
 |_,[]=>[]
 |n,f::fs=>prefC n 0 f.code++prefF (n+1) fs
def pcntR:List cZ->Nat
 |[]=>0
 |f::fs=>pcntC f.code+pcntR fs
def uR:List cZ->Nat
 |[]=>0
 |f::fs=>ee f.code+uR fs
theorem Mu(n slot:Nat)(c:List PI)(j:Nat)(h:j<ee c):prefC n slot (c.drop j)=Dr n slot c[j]++prefC n (slot+c[j].o.slots) (c.drop (j+1)):=by rw[an h];rfl
theorem Mv(c:List PI)(j:Nat)(h:j<ee c):pcntC (c.drop j)=(if c[j].aJ=0 then 0 else 1)+pcntC (c.drop (j+1)):=by rw[an h];rfl
theorem Mw(fs:List cZ)(k n:Nat)(h:k<ee fs):prefF n (fs.drop k)=prefC n 0 fs[k].code++prefF (n+1) (fs.drop (k+1)):=by rw[an h];rfl
theorem Mx(fs:List cZ)(k:Nat)(h:k<ee fs):pcntR (fs.drop k)=pcntC fs[k].code+pcntR (fs.drop (k+1)):=by rw[an h];rfl
theorem Dt(fs:List cZ)(k:Nat)(h:k<ee fs):uR (fs.drop k)=ee fs[k].code+uR (fs.drop (k+1)):=by rw[an h];rfl
theorem Rw(n slot:Nat)(x:PI)(h:ee x.name<=255):ee (Dr n slot x)<=259:=by
 unfold Dr;split
 ·simp
 ·simp only[ab,lU,kX,bS,ao,bt,nZ];omega
theorem Rx(w:tW)(tv vO:Value)(l:tLB)(bs:tLN)(vM vF:Value)(ms:List aW)(fs:List cZ)(vs:tLV)(hP:tu w tv bs vM vF ms fs vs)(hE:EOk ms fs)(hn:∀f∈fs,∀x∈f.code,ee x.name<=255)(ht:uR fs<=1000)(hO:Out w vO l)(hl:ee l<=300000):Calls prog 60 #[vO,vF] w λe w'=>rY w vO (l++b8 (nZ (pcntR fs))++prefF 0 fs) e w':=by
 obtain⟨iU,GR,GS,GU,GV⟩:=iD;obtain⟨oF,cF,qi,_⟩:=hP.rows.view;subst qi;have HP:=ai hP;have HE:=ai hE;have HN:=ai hn;have HO:=ai hO;have HI0:af (EI w (vN) [] w):=⟨Sl.nil _ _ _,aA,λk h=>by cases h⟩
 have hfl:=hE.f;have HT:=ai ht;have HLF:=ai (λk h=>Dt fs k h);clear hP hE hn hO ht;go_in;go_wp2_with fail;go_loopg [5,6,14] (ee fs) (λg u5 u6 u14 wx=>∃(k c:Nat) (a:tLB),k<=ee fs/\u14=vI k/\u6=vI c/\EI w u5 a wx/\a++prefF k (fs.drop k)=prefF 0 fs/\c+pcntR (fs.drop k)=pcntR fs/\a.length+259*uR (fs.drop k)<=259*uR fs/\c<=200*k/\g=ee fs-k)
 case atStart=>exact⟨0,0,[],cj _,rfl,rfl,HI0.o,rfl,Nat.zero_add _,by simp,cj _,rfl⟩
 case round =>
  obtain⟨k,c,a,hk,rfl,rfl,hI,hR,hC,hLn,hc1,rfl⟩:=hrel;have HI:=ai hI;have HR:=ai hR;have HC:=ai hC;have HLn:=ai hLn;have HPr:=HP.o.quiet hI.md;clear hI hR hC hLn HI0;by_cases hkl:k<ee fs
  ·have Bd:k<ee vs:=by rw[HPr.len];exact hkl
   obtain⟨gF,rfl,c0,c1⟩:=HPr.XR k hkl Bd;have hok:=HE.o.fn fs[k] (ar hkl);have sZ:=HPr.code k hkl Bd;have Bv:af (∀w',aa ah w w'->aT 0 w' tv bs ax/\jG w' vs[k] bs fs[k].code):=λw' m=>⟨(HP.o.quiet m).ops,(HP.o.quiet m).code k hkl Bd⟩
   have HD:af (a++(prefC k 0 fs[k].code++prefF (k+1) (fs.drop (k+1)))=prefF 0 fs):=by rw[af,<-HR.o,Mw fs k k hkl]
   have HD2:af (c+(pcntC fs[k].code+pcntR (fs.drop (k+1)))=pcntR fs):=by rw[af,<-HC.o,Mx fs k hkl]
   have HL2:af (ee a+259*ee fs[k].code+259*uR (fs.drop (k+1))<=259*uR fs):=by have h1:=HLn.o;rw[Dt fs k hkl]at h1;rw[af];omega
   have HNx:=ai (HN.o fs[k] (ar hkl));generalize fs[k]=f at *;generalize vs[k]=vC at *;obtain⟨nm,code⟩:=f;simp only at *;obtain⟨o1,o2,o3⟩:=hok;obtain⟨oC,cC,rfl,_⟩:=sZ.view;have JQ:=ai Bv.o;have AY:=ai o3;have HIa:af (EI w u5 a (wr.alloc (.cells #[eI (T nm),eK oC (ee code) cC] 109))):=HI.o.quiet aq;have htt:=HT.o;clear Bv sZ HPr HR HC HI o3 HLn;go_wp2_with fail;generalize wr.alloc (.cells #[eI (T nm),eK oC (ee code) cC] 109)=W at *;go_loopg [5,6,9,22] (ee code) (λg v5 v6 v9 v22 wx=>∃(j c' sl:Nat) (a':tLB),j<=ee code/\v22=vI j/\v6=vI c'/\v9=vI sl/\EI w v5 a' wx/\a'++prefC k sl (code.drop j)=a++prefC k 0 code/\c'+pcntC (code.drop j)=c+pcntC code/\a'.length<=ee a+259*j/\c'<=c+j/\sl<=2*j/\g=ee code-j)
   case atStart=>exact⟨0,c,0,a,cj _,rfl,rfl,rfl,HIa.o,rfl,rfl,cw _,cw _,cw _,rfl⟩
   case round =>
    clear c0 c1 HIa;obtain⟨j,c',sl,a',hjm,rfl,rfl,rfl,hI,hR,hC,hll,hcl,hsl,rfl⟩:=hrel;have HI:=ai hI;have HR:=ai hR;have HC:=ai hC;have Ib:=ai hll;clear hR hC hll;by_cases hjl:j<ee code
    ·obtain⟨g,lab,rfl,hg,y0,y1,y2,y3,y4,y5,y6,y7⟩:=Dm (JQ.o wr hI.md).2 rfl rfl j hjl;have hx:=AY.o code[j] (ar hjl);have HD3:af (a'++(Dr k sl code[j]++prefC k (sl+code[j].o.slots) (code.drop (j+1)))=a++prefC k 0 code):=by rw[af,<-HR.o,Mu k sl code j hjl]
     have Rk:af (c'+((if(if code[j].s=1 then code[j].o.aJ else 0)=0 then 0 else 1)+pcntC (code.drop (j+1)))=c+pcntC code):=by rw[af,<-HC.o,Mv code j hjl];rfl
     have HAT:=ai (λw' m=>lT (JQ.o w' m).1 code[j] hx.k);have afn:=hx.slots;have HRU:af (Dr k sl code[j]=if(if code[j].s=1 then code[j].o.aJ else 0)=0 then []else b8 [(k:Int)]++b8 (nZ sl)++jd (T code[j].name)):=rfl;have HNm:=ai (HNx.o _ (ar hjl));have HUL:=ai (Rw k sl code[j] HNm.o);have Bz:af (∀w',aa ah w w'->Calls prog 71 #[.agg #[vP (bs[code[j].k]?.getD 0),vB code[j].d,vB code[j].s,.int .i16 code[j].jump,vJ code[j].num,vJ code[j].high,eI lab,eI (T code[j].name)]] w' λe w2=>e=.returned (vI ((if code[j].s=1 then code[j].o.aJ else 0:Nat):Int))/\aa ah w' w2):=λw' m=>rT w' _ code[j].o (HAT.o w' m) code[j].d code[j].s code[j].num code[j].high code[j].jump lab _;clear hx HR HC hI;generalize(if code[j].s=1 then code[j].o.aJ else 0)=rf at *;generalize Dr k sl code[j]=pu at *;generalize code[j].o=o at *;generalize code[j].jump=jmp at *;generalize code[j].d=xd at *;generalize code[j].s=xs at *;generalize code[j].num=xn at *;generalize code[j].high=xh at *;generalize code[j].name=xm at *;generalize bs[code[j].k]?.getD 0=b at *;go_upto_region 10 with fail;have HB1:=ai (ak.new wr #[vP b,vB xd,vB xs,.int .i16 jmp,vJ xn,vJ xh,eI lab,eI (T xm)] 141);have HI1:af (EI w u5 a' (wr.alloc (.cells #[vP b,vB xd,vB xs,.int .i16 jmp,vJ xn,vJ xh,eI lab,eI (T xm)] 141))):=HI.o.quiet aq;generalize wr.alloc (.cells #[vP b,vB xd,vB xs,.int .i16 jmp,vJ xn,vJ xh,eI lab,eI (T xm)] 141)=w1 at *;generalize wr.heap.size=B at *;clear y0 y1 y2 y3 y4 y5 y6 y7 hg HI;have z0:=HB1.o.cell 0;have z1:=HB1.o.cell 1;have z2:=HB1.o.cell 2;have z3:=HB1.o.cell 3;have z4:=HB1.o.cell 4;have z5:=HB1.o.cell 5;have z6:=HB1.o.cell 6;have z7:=HB1.o.cell 7;go_wp2_with fail;refine(Bz.o _ HI1.o.md).mono ?_;rintro e w3 ⟨rfl,m3⟩;have HI3:=ai (HI1.o.quiet m3);have HB3:=ai (HB1.o.ae m3 id);clear m3 HI1 HB1 z0 z1 z2 z3 z4 z5 z6 z7;by_cases h0:rf=0
     ·subst h0;have HP0:af (pu=[]):=by rw[af,HRU.o,iP9 rfl]
      have HCx:af (c'+pcntC (code.drop (j+1))=c+pcntC code):=by have:=Rk.o;rw[iP9 rfl]at this;rw[af];omega
      obtain⟨p1,p2,p3,p4,p5,p6,p7,p8,p9,p10,p11,CK,_⟩:=(HAT.o w3 HI3.o.md).ex;have z0:=HB3.o.cell 0;have ob2:=CK.cell 2;have HDx:af (a'++prefC k (sl+o.slots) (code.drop (j+1))=a++prefC k 0 code):=by have:=HD3.o;rw[HP0.o]at this;exact this
      clear CK;generalize o.slots=os at *;go_wp2_with fail;go_roundg (ee code-(j+1))
      case measure=>omega
      case rel=>exact⟨j+1,c',sl+os,a',by omega,by go_num,rfl,by go_num,HI3.o,HDx.o,HCx.o,by have:=Ib.o;omega,by omega,by omega,rfl⟩
     ·have HP0:af (pu=b8 [(k:Int)]++b8 (nZ sl)++jd (T xm)):=by rw[af,HRU.o,iN9 h0]
      have HCx:af (c'+1+pcntC (code.drop (j+1))=c+pcntC code):=by have:=Rk.o;rw[iN9 h0]at this;rw[af];omega
      have HDx:af (a'++pu++prefC k (sl+o.slots) (code.drop (j+1))=a++prefC k 0 code):=by rw[af,bh];exact HD3.o
      have hq0:((rf:Int)==0)=false:=by simp;omega
      have Yg:af (ee a'<=259000):=by have h1:=Ib.o;have h2:=HL2.o;rw[af];omega
      have HKB:af (∀x∈[(k:Int)],0<=x/\x<=255):=λx hx=>by simp at hx;subst hx;omega
      have HI4:af (∀os,EI w u5 a' (w3.alloc os)):=λos=>HI3.o.quiet aq;have iH:af (∀os,ak (w3.alloc os) B #[vP b,vB xd,vB xs,.int .i16 jmp,vJ xn,vJ xh,eI lab,eI (T xm)] 141):=λos=>HB3.o.alloc _;have afo:af (∀os vA wA,Sl wA 5 1 vA (ee a'+1) (vY a'++[(k:Int)].map (Value.int .u8))->aa (λi=>u5.ownBlock=eC i) (w3.alloc os) wA->(∀i,vA.ownBlock=eC i->u5.ownBlock=eC i\/(w3.alloc os).heap.size<=i)->EI w vA (a'++b8 [(k:Int)]) wA/\ak wA B #[vP b,vB xd,vB xs,.int .i16 jmp,vJ xn,vJ xh,eI lab,eI (T xm)] 141):=λos vA wA sA mA lA=>⟨(HI4.o os).step (Out.app HKB.o rfl sA) mA lA,(iH.o os).ae mA (λe=>Sl.ay (HI4.o os).gm (iH.o os) (by decide) e)⟩
      clear Rk HD3 HRU Bz;go_wp2_with (at_builtin;go_loud (refine aP _ rfl (.tmp 29) (.tmp 32) 162 rfl 5 iU (vB 0) 1 1 underlying162 GR GS GU GV rfl (by decide) u5 (ee a') (vY a') rfl (HI4.o _).gm ⟨w3.heap.size,0,ez⟩ 1 1 ([(k:Int)].map (Value.int .u8)) rfl rfl (aY _ _ _ _ rfl) (xP _) (by have:=Yg.o;unfold maxLen;omega) (by have:=Yg.o;omega) ?_;intro vA wA sA mA lA;obtain⟨hIA,hBA⟩:=afo.o _ _ _ sA mA lA;have HIA:=ai hIA;have XN:=ai hBA;clear hIA hBA sA mA lA));refine(Dq wA vA (a'++b8 [(k:Int)]) HIA.o.gm (by have:=Yg.o;rw[ab,lU];simp only[ao,bt];omega) sl).mono ?_;rintro e w5 ⟨v5,rfl,s5,m5,l5⟩;have KQ:=ai (HIA.o.step s5 m5 l5);have jr:=ai (XN.o.ae m5 (λe=>Sl.ay HIA.o.gm XN.o (by decide) e));clear s5 m5 l5 HIA XN;have z7:=jr.o.cell 7;go_wp2_with fail;refine(Ak w5 v5 (a'++b8 [(k:Int)]++b8 (nZ sl)) KQ.o.gm (by have:=Yg.o;rw[ab,ab,lU,lU];simp only[ao,bt,nZ];omega) (T xm) (by rw[bS];exact HNm.o)).mono ?_;rintro e w6 ⟨v6,rfl,s6,m6,l6⟩
      have HI6:af (EI w v6 (a'++pu) w6):=by
       have:=KQ.o.step s6 m6 l6;rw[af,HP0.o]
       simpa [bh]using this
      have tK:=ai (jr.o.ae m6 (λe=>Sl.ay KQ.o.gm jr.o (by decide) e));clear s6 m6 l6 KQ jr z7;obtain⟨p1,p2,p3,p4,p5,p6,p7,p8,p9,p10,p11,CK,_⟩:=(HAT.o w6 HI6.o.md).ex;have z0:=tK.o.cell 0;have ob2:=CK.cell 2;clear CK;generalize o.slots=os at *;go_wp2_with fail;go_roundg (ee code-(j+1))
      case measure=>omega
      case rel=>exact⟨j+1,c'+1,sl+os,a'++pu,by omega,by go_num,by go_num,by go_num,HI6.o,HDx.o,HCx.o,by have:=Ib.o;have:=HUL.o;rw[ab];omega,by omega,by omega,rfl⟩
    ·obtain rfl:j=ee code:=by omega
     have HRx:af (a'=a++prefC k 0 code):=by have:=HR.o;rw[cx,prefC,b5]at this;exact this
     have HCx:af (c'=c+pcntC code):=by have:=HC.o;rw[cx,pcntC]at this;rw[af];omega
     have HIz:=HI.o;go_wp2_with fail;go_roundg (ee fs-(k+1))
     case measure=>omega
     case rel=>exact⟨k+1,c',a',by omega,by go_num,rfl,HI.o,by rw[HRx.o,bh];exact HD.o,by rw[HCx.o,Nat.add_assoc];exact HD2.o,by have h1:=Ib.o;have h2:=HL2.o;omega,by omega,rfl⟩
  ·have HRx:af (a=prefF 0 fs):=by have:=HR.o;rw[b9 (by omega),prefF,b5]at this;exact this
   have HCx:af (c=pcntR fs):=by have:=HC.o;rw[b9 (by omega),pcntR]at this;rw[af];omega
   have Yg:af (ee a<=259000):=by have h1:=HLn.o;have h2:=HT.o;rw[af];omega
   have HOr:=ai (HO.o.quiet HI.o.md);have EJ:=ai HI.o.md;clear HR HC HLn;obtain⟨ov,cv,hvO,_⟩:=HOr.o.view;subst hvO;go_wp2_with fail;refine(Dq wr _ l HOr.o (by omega) c).mono ?_;rintro e w5 ⟨v5,rfl,s5,m5,l5⟩;have hda:∀i,u5.ownBlock=eC i->(Value.slice ov (ee l) cv).ownBlock≠eC i:=λi h1 h2=>by have h3:=HI.o.own i h1;have h4:=Sl.lt HO.o i h2;omega
   have KQ:=ai (HI.o.gm.ae m5 (λi h1 h2=>hda i h1 h2));have KN:=ai s5;have HL2:af (ee (l++b8 (nZ c))=ee l+2):=by rw[af,ab,lU];rfl
   obtain⟨o6,c6,h6,hb6⟩:=KN.o.view;obtain⟨g6,cs6,rfl,_,_,hc6,hm6⟩:=hb6 (by rw[HL2.o];omega);have jK:=ai ((EJ.o.mono (λ_ _ h=>h.elim)).trans m5)
   have HOW:af (∀i,v5.ownBlock=eC i->(Value.slice ov (ee l) cv).ownBlock=eC i\/w.heap.size<=i):=λi hi=>by
    rcases l5 i hi with h|h
    ·exact .inl h
    ·have:=EJ.o.size;exact .inr (by omega)
   have uf:af (∀e w',rY w (eK ov (ee l) cv) (l++b8 (nZ c)++a) e w'->rY w (eK ov (ee l) cv) (l++b8 (nZ (pcntR fs))++prefF 0 fs) e w'):=λe w' h=>by rw[<-HRx.o,<-HCx.o];exact h
   clear s5 m5 l5 hda HOr;rw[HL2.o]at h6 hc6;rcases KQ.o.2 with⟨h5,hx5⟩ |⟨g5,cap5,afp,h5,_,hg5,hx5⟩
   ·subst h5 h6
    have ha:a=[]:=by
     cases a with
     |nil=>rfl
     |cons y ys=>simp[vY]at hx5
    subst ha;go_wp2_with fail;go_ret;exact uf.o _ _ ⟨_,rfl,by rw[b5];exact KN.o,jK.o,HOW.o⟩
   ·subst h5 h6;have hb5:ak w5 g5 afp 5:=hg5;obtain⟨hx1,hx2,hx3,hx4⟩:=hx5
    have xu:af (∀j u,(vY a)[j]?=eC u->w5.cell? ((⟨g5,0,ez⟩:Addr).add j)=eC u):=λj u hu=>by
     have hadd:(⟨g5,0,ez⟩:Addr).add j=⟨g5,j,ez⟩:=by unfold Addr.add;split<;>simp_all
     have hj:=(List.getElem?_eq_some_iff.1 hu).1;have hj2:j<ee a*1:=by rw[<-hx4,List.length_take]at hj;omega
     rw[hadd,aX hb5 hx4 j hj2];exact hu
    have XP:af (∀u∈vY a,u.oneCell'=true):=λu hu=>by unfold vY at hu;obtain⟨y,_,rfl⟩:=List.mem_map.1 hu;rfl
    have HNL:af (ee (vY a)=ee a*1):=by rw[af];unfold vY;simp
    have HO6:af (Sl w5 5 1 (eK (eC ⟨g6,0,ez⟩) (ee l+2) c6) (ee l+2) (vY (l++b8 (nZ c)))):=by have:=KN.o;rw[Out,HL2.o]at this;exact this
    clear hb5 hg5 hx4;go_wp2_with (at_builtin;refine aP w5 rfl (.tmp 53) (.tmp 54) 162 rfl 5 iU (vB 0) 1 1 underlying162 GR GS GU GV rfl (by decide) (eK (eC ⟨g6,0,ez⟩) (ee l+2) c6) (ee l+2) (vY (l++b8 (nZ c))) rfl HO6.o ⟨g5,0,ez⟩ (ee a) cap5 (vY a) rfl HNL.o xu.o XP.o (by have:=Yg.o;unfold maxLen;omega) (by have:=Yg.o;omega) ?_;intro v7 w7 s7 m7 l7);go_ret;refine uf.o _ _ ⟨_,rfl,?_,Dp jK.o HOW.o m7,qm HOW.o l7 jK.o.size⟩;rw[Out,zg,ab,HL2.o];exact s7
theorem Ff(bs:tLN):∀l:List PI,rX bs (l.zip (List.replicate (ee l) ByteArray.empty))=kI bs l
 |[]=>rfl
 |x::l=>by have ih:=Ff bs l;unfold rX kI at ih ⊢;rw[ao,List.replicate_succ,List.zip_cons_cons,cb,cb,ih];rfl
theorem Z9{w:tW}{tv:Value}{bs:tLN}{vM vF:Value}{ms:List aW}{fs:List cZ}{vs:tLV}(h:ZY w tv bs vM vF ms fs vs):tu w tv bs vM vF ms fs vs :=
 ⟨h.maps,h.len,h.rows,λi a b=>⟨List.replicate (ee fs[i].code) ByteArray.empty,List.length_replicate,by rw[Ff];exact h.code i a b⟩,h.ops⟩
theorem Du{w:tW}{v:Value}{l:tLB}(h:Out w v l)(h0:0<ee l):Sem.run prog (convert 162 9 v) w=.ok (eI (T l)) w:=by
 obtain⟨o,c,rfl,h2⟩:=Sl.view h;obtain⟨g,cs,rfl,hb,ht,_⟩:=h2 h0;have key:=run_convert_bytes_back (P:=prog) w 162 9 5 ⟨g,0,ez⟩ c l underlying162 underlying5 underlying9 ?_
 ·exact key
 ·intro j hj;have hadd:(⟨g,0,ez⟩:Addr).add j=⟨g,j,ez⟩:=by unfold Addr.add;split<;>simp_all
  rw[hadd,aX hb ht j (by omega)];simp[vY,hj]
theorem aaa(w:tW)(tv:Value)(bs:tLN)(vM vF:Value)(ms:List aW)(fs:List cZ)(vs:tLV)(hP:ZY w tv bs vM vF ms fs vs)(hE:EOk ms fs):Calls prog 32 #[.agg #[vM,vF]] w λe w'=>e=.returned (eI (T (qo 2 ms fs)))/\aa ah w w':=by
 obtain⟨oM,cM,Ol,_⟩:=hP.maps.view;obtain⟨oF,cF,qi,_⟩:=hP.rows.view;subst Ol qi;have HP:=ai hP;have HE:=ai hE;have HL:af (0<ee (qo 2 ms fs)):=by rw[af];simp[qo]
 clear hP hE;go_in;go_wp2_with fail;refine(JP 2 (by decide) _ tv bs _ _ ms fs vs (Z9 (HP.o.quiet aq)) HE.o).mono ?_;rintro e w2 ⟨v,rfl,hI⟩;have hcv:=Du hI.gm HL.o;have HI:=ai (aq.trans hI.md);clear hI;go_wp2_with fail;go_ret;exact⟨rfl,HI.o⟩
theorem JR(w:tW)(tv:Value)(bs:tLN)(vM vF:Value)(ms:List aW)(fs:List cZ)(vs:tLV)(hP:tu w tv bs vM vF ms fs vs)(hE:EOk ms fs)(hn:∀f∈fs,∀x∈f.code,ee x.name<=255)(ht:uR fs<=1000)(hl:ee (qo 1 ms fs)<=300000):Calls prog 26 #[.agg #[vM,vF]] w λe w'=>e=.returned (eI (T (qo 1 ms fs++b8 (nZ (pcntR fs))++prefF 0 fs)))/\aa ah w w':=by
 obtain⟨oM,cM,Ol,_⟩:=hP.maps.view;obtain⟨oF,cF,qi,_⟩:=hP.rows.view;subst Ol qi;have HP:=ai hP;have HEN:af (∀w',tu w' tv bs (eK oM (ee ms) cM) (eK oF (ee fs) cF) ms fs vs->Calls prog 61 #[vB 1,.agg #[eK oM (ee ms) cM,eK oF (ee fs) cF]] w' λe w2=>∃v,e=.returned v/\EI w' v (qo 1 ms fs) w2):=λw' h=>JP 1 (by decide) w' tv bs _ _ ms fs vs h hE;have Mk:=ai (λw' v (h:tu w' tv bs (.slice oM (ee ms) cM) (.slice oF (ee fs) cF) ms fs vs) (h2:Out w' v (qo 1 ms fs))=>Rx w' tv v _ bs _ _ ms fs vs h hE hn ht h2 hl);have HL:af (0<ee (qo 1 ms fs++b8 (nZ (pcntR fs))++prefF 0 fs)):=by rw[af];simp[qo]
 clear hP hE hn ht hl;have xz:af (tu (w.alloc (.cells #[eK oM (ee ms) cM,eK oF (ee fs) cF] 99)) tv bs (eK oM (ee ms) cM) (eK oF (ee fs) cF) ms fs vs):=HP.o.quiet aq;have HB1:=ai (ak.new w #[eK oM (ee ms) cM,eK oF (ee fs) cF] 99);have dB:af (aa ah w (w.alloc (.cells #[eK oM (ee ms) cM,eK oF (ee fs) cF] 99))):=aq;generalize qo 1 ms fs++b8 (nZ (pcntR fs))++prefF 0 fs=res at *;generalize qo 1 ms fs=enc at *;go_in;go_upto_region 1 with fail;generalize w.alloc (.cells #[eK oM (ee ms) cM,eK oF (ee fs) cF] 99)=w1 at *;generalize w.heap.size=B at *;have d0:=λ(e:Ext ah w1)=>(HB1.o.ae e.m id).c0;have d1:=λ(e:Ext ah w1)=>(HB1.o.ae e.m id).c1
 haveI:Nonempty (Ext ah w1):=Ext.ne _ _
 refine bR [1,4,5] (λw'=>∃e:Ext ah w1,w'=e.w) (by kernel_rfl) (by kernel_rfl) (by kernel_rfl) ⟨⟨_,aU⟩,rfl⟩ ?_
 iterate 1 (refine aG rfl rfl rfl ?_;intro K hK;go_big_quiet_op;go_big_quiet_on)
 refine aN rfl rfl ?_;intro K hK;go_big_op;refine(HEN.o _ (xz.o.quiet aU)).mono ?_;rintro e w2 ⟨v2,rfl,hI2⟩;have HI2:af (EI w1 v2 enc w2):=⟨hI2.gm,aU.trans hI2.md,λk hk=>by have:=hI2.own k hk;simpa using this⟩
 refine hK _ _ rfl ⟨⟨_,HI2.o.md⟩,rfl⟩ ?_;clear hK K hI2
 iterate 2 (refine aG rfl rfl rfl ?_;intro K hK;go_big_quiet_op;go_big_quiet_on)
 refine aN rfl rfl ?_;intro K hK;go_big_op;refine(Mk.o w2 v2 (xz.o.quiet HI2.o.md) HI2.o.gm).mono ?_;rintro e w3 ⟨v3,rfl,s3,m3,l3⟩;have HI3:=ai (HI2.o.step s3 m3 l3);refine hK _ _ rfl ⟨⟨_,HI3.o.md⟩,rfl⟩ ?_;clear hK K s3 m3 l3;refine aN rfl rfl ?_;intro K hK;have hcv:=Du HI3.o.gm HL.o;go_big_op;refine hK _ _ rfl ⟨⟨_,HI3.o.md⟩,rfl⟩ ?_;clear hK K hcv
 iterate 1 (refine aG rfl rfl rfl ?_;intro K hK;go_big_quiet_op;go_big_quiet_on)
 refine dR ?_;simp only[Exit.then];go_wp2_with fail;go_ret;exact⟨rfl,dB.o.trans HI3.o.md⟩
