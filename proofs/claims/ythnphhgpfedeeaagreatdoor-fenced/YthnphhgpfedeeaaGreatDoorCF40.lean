import Derived.Test.YthnphhgpfedeeaaGreatDoorCF38
namespace Go.Proofs.YthnphhgpfedeeaaGreatDoor
open Go.RowKit Tryz
open List renaming getElem_mem->ab,take_of_length_le->al
open Nat renaming zero_le->an,le_refl->ao
set_option linter.all false
set_option maxRecDepth 100000
set_option maxHeartbeats 2000000
set_option linter.all false
structure LD where
 gP:Nat
 cP:Nat
 a1:Option Addr
 a2:Nat
 gF:Nat
 cF:Nat
 oC:Option Addr
 cC:Nat
 nm:tLB
 code:List PI
structure LAt(tv:Value)(bs:List Nat)(d:LD)(w:tW):Prop where
 ops:aH 0 w tv bs aq
 p0:w.cell? ⟨d.gP,0,none⟩=some (.slice d.a1 0 d.a2)
 p1:w.cell? ⟨d.gP,1,none⟩=some (.slice (some ⟨d.gF,0,none⟩) 1 d.cF)
 mp:Sl w 100 4 (.slice d.a1 0 d.a2) 0 []
 fn:Sl w 96 2 (.slice (some ⟨d.gF,0,none⟩) 1 d.cF) 1 [.string (T d.nm),.slice d.oC d.code.length d.cC]
 cd:Sl w 138 8 (.slice d.oC d.code.length d.cC) d.code.length (xe bs d.code)
 ok:∀x∈d.code,eU x/\x.aO=0
 ln:d.code.length<=200
section
variable {tv : Value} {bs : List Nat} {d : LD} {w w' : World}
theorem LAt.quiet(h:LAt tv bs d w)(m:aa ae w w'):LAt tv bs d w':=⟨h.ops.ag m,Lv m h.p0,Lv m h.p1,h.mp.ag m (λ_ _=>id),h.fn.ag m (λ_ _=>id),h.cd.ag m (λ_ _=>id),h.ok,h.ln⟩
theorem LAt.row(h:LAt tv bs d w):w.cell? ⟨d.gF,0,none⟩=some (.string (T d.nm))/\w.cell? ⟨d.gF,1,none⟩=some (.slice d.oC d.code.length d.cC):=by obtain⟨g,e,h1,h2⟩:=amk h.fn;cases e;exact⟨h1,h2⟩
end
theorem ako:(prog.info? 90).map (λi=>(i.zero,i.size,i.bytes))=some (some (.agg #[.slice none 0 0,.slice none 0 0]),2,48):=by kernel_rfl
theorem anS(w:tW)(hE:sV w)(g cap:Nat)(s:tLB)(hg:w.cell? ⟨g,0,none⟩=some (.string (T s)))(hs:s.length<=maxLen)(f:aS)(hf:akz s f)(hr:∀x∈f.code,x.aO=0)(hl:f.code.length<=200):Calls prog 46 #[.slice (some ⟨g,0,none⟩) 1 cap] w λe w'=>∃(tv:Value) (bs:List Nat) (d:LD),d.nm=f.name/\d.code=f.code/\e=.returned (.slice (some ⟨d.gP,0,none⟩) 1 d.cP)/\LAt tv bs d w'/\aa ae w w':=by
 obtain⟨iP,hiP,rX,hsP,wj⟩:=info_parts ako;have HG:=ai hg;have HTB:=ai (yC w hE);have HD:=ai (λwT w1 tv bs hT mT=>akJ w1 wT tv bs hT mT s hs f hf hr);have uH:af (∀w' lo bs v vs,pG w' lo bs v [f] vs->∀x∈f.code,eU x/\x.aO=0):=λw' lo bs v vs h x hx=>⟨h.ok f (by simp) x hx,hr x hx⟩
 clear hE hg hs hf hr;generalize T s=sk at *;go_enter func46,ntmps46;go_wp2_with fail;refine HTB.o.mono ?_;rintro e wT ⟨tv,bs,rfl,hT,mT⟩;have HT:=ai hT;have Cv:=ai mT;obtain⟨oT,cT,hvT,_⟩:=hT.sl.view;clear hT mT HTB;subst hvT;go_wp2_with fail;go_loopg [4,12] 1 (λq ov iv wx=>(iv=.int .i64 0/\ov=.slice none 0 0/\aa ae wT wx/\q=1)\/(iv=.int .i64 1/\(∃d:LD,d.nm=f.name/\d.code=f.code/\ov=.slice (some ⟨d.gP,0,none⟩) 1 d.cP/\LAt (.slice oT bs.length cT) bs d wx)/\aa ae wT wx/\q=0))
 case atStart=>exact .inl ⟨rfl,rfl,ax,rfl⟩
 case round =>
  rcases hrel with⟨rfl,rfl,hm,rfl⟩ |⟨rfl,⟨d,h1,h2,rfl,h3⟩,hm,rfl⟩
  ·have c0:wr.cell? ⟨g,0,none⟩=some (.string sk):=Lv (Cv.o.trans hm) HG.o;have HDr:=ai (HD.o wT wr _ bs HT.o hm);have NI:=ai hm;clear hm HD;go_wp2_with fail;refine HDr.o.mono ?_;rintro e w2 ⟨vM,vF,vs,rfl,m2,_,hok⟩;obtain⟨hsm,hfn⟩:=hok rfl;obtain⟨oF,cF,oC,cC,rfl,hrow,pF⟩:=aky hfn;obtain⟨a1,a2,rfl,_⟩:=hsm.view;have m3:aa ae w2 ((w2.alloc (.cells #[.slice a1 0 a2,.slice oF 1 cF] 90)).alloc (.cells #[.slice a1 0 a2,.slice oF 1 cF] 90)):=aj.alloc _;have dw:=ai (NI.o.trans (m2.trans m3));have HSM:af (Sl ((w2.alloc (.cells #[.slice a1 0 a2,.slice oF 1 cF] 90)).alloc (.cells #[.slice a1 0 a2,.slice oF 1 cF] 90)) 100 4 (.slice a1 0 a2) 0 []):=hsm.ag m3 (λ_ _=>id);have HRW:=ai (hrow.ag m3 (λ_ _=>id));have PM:=ai (pF.ag m3 (λ_ _=>id));have aoa:=ai (uH.o _ _ _ _ _ hfn);clear hok hsm hfn hrow pF m2 m3 HDr c0;go_wp2_with (at_builtin;refine aL _ rfl (.tmp 24) (.tmp 26) 114 rfl 90 iP (.agg #[.slice none 0 0,.slice none 0 0]) 2 48 underlying114 hiP rX hsP wj rfl (by decide) (.slice none 0 0) 0 [] rfl (Sl.nil _ _ _) ⟨w2.heap.size+1,0,none⟩ 1 1 [.slice a1 0 a2,.slice oF 1 cF] rfl rfl (aV _ _ _ _ (by simp)) (λu hu=>by simp at hu;rcases hu with rfl|rfl<;>rfl) (by unfold maxLen;omega) (by omega) ?_;intro v5 w5 s5' m5' l5;have s5:Sl w5 90 2 v5 1 [.slice a1 0 a2,.slice oF 1 cF]:=s5';have m5:aa ae _ w5:=m5'.mono (λ_ _ e=>by cases e);clear s5' m5');obtain⟨o5,c5,rfl,h5⟩:=s5.view;obtain⟨gP,cs,rfl,hb,ht,_⟩:=h5 (by omega);obtain⟨gF,rfl,_,_⟩:=amk HRW.o;have iC:=ai (dw.o.trans m5);have HLA:af (LAt (.slice oT bs.length cT) bs ⟨gP,c5,a1,a2,gF,cF,oC,cC,f.name,f.code⟩ w5):=⟨HT.o.ag iC.o,aW hb ht 0 (by omega),aW hb ht 1 (by omega),HSM.o.ag m5 (λ_ _=>id),HRW.o.ag m5 (λ_ _=>id),PM.o.ag m5 (λ_ _=>id),aoa.o,hl⟩
   clear s5 m5 l5 h5 hb ht HSM HRW PM dw;go_roundg 0
   case measure=>omega
   case rel=>exact .inr ⟨by go_num,⟨_,rfl,rfl,rfl,HLA.o⟩,iC.o,rfl⟩
  ·have HME:=ai (Cv.o.trans hm);have HLA:=ai h3;have HEQ:af (d.nm=f.name/\d.code=f.code):=⟨h1,h2⟩
   clear hm h1 h2 h3 HD;go_wp2_with fail;go_ret;exact⟨_,bs,d,HEQ.o.1,HEQ.o.2,rfl,HLA.o,HME.o⟩
theorem anr{tv:Value}{bs:List Nat}{d:LD}{w:tW}(h:LAt tv bs d w):Calls prog 80 #[.slice (some ⟨d.gP,0,none⟩) 1 d.cP] w λe w'=>e=.returned (.int .i64 (-1))/\aa ae w w':=by
 have HL:=ai h;have HS0:=ai (MapOf.new w);have eX:af (aa ae w (w.alloc (.map #[] 0))):=aj;clear h;obtain⟨gP,cP,a1,a2,gF,cF,oC,cC,nm,code⟩:=d;have hmm:=@run_makeMap prog;go_enter func80,ntmps80;go_wp2_with fail;clear hmm;generalize w.alloc (.map #[] 0)=wB at *;obtain⟨B,hB⟩:∃B,B=w.heap.size:=⟨_,rfl⟩
 have HB:af (w.heap.size<=B):=by rw[hB];exact ao _
 rw[<-hB]at HS0
 try rw[<-hB]
 clear hB;go_loopg [13] 1 (λq iv wx=>(iv=.int .i64 0/\MapOf wx B (λ_=>none)/\aa ae w wx/\q=1)\/(iv=.int .i64 1/\aa ae w wx/\q=0))
 case atStart=>exact .inl ⟨rfl,HS0.o,eX.o,rfl⟩
 case round =>
  clear HS0 eX;rcases hrel with⟨rfl,hs,hm,rfl⟩ |⟨rfl,hm,rfl⟩
  ·have c0:=(HL.o.quiet hm).p0;have c1:=(HL.o.quiet hm).p1;simp only at c0 c1;go_wp2_with fail;have dh:af (aa ae w (wr.alloc (.cells #[.slice a1 0 a2,.slice (some ⟨gF,0,none⟩) 1 cF] 90))):=hm.alloc _;have Cr:af (MapOf (wr.alloc (.cells #[.slice a1 0 a2,.slice (some ⟨gF,0,none⟩) 1 cF] 90)) B (λ_=>none)):=hs.ag ((aa.refl ae _).alloc _) id;generalize wr.alloc (.cells #[.slice a1 0 a2,.slice (some ⟨gF,0,none⟩) 1 cF] 90)=w1 at *;clear c0 c1 hs hm;go_loopg [21] 1 (λq iv wx=>(iv=.int .i64 0/\MapOf wx B (λ_=>none)/\aa ae w wx/\q=1)\/(iv=.int .i64 1/\aa ae w wx/\q=0))
   case atStart=>exact .inl ⟨rfl,Cr.o,dh.o,rfl⟩
   case round =>
    clear Cr dh;rcases hrel with⟨rfl,hs,hm,rfl⟩ |⟨rfl,hm,rfl⟩
    ·obtain⟨f0,f1⟩:=(HL.o.quiet hm).row;simp only at f0 f1;have hF7:(wr.alloc (.cells #[.string (T nm),.slice oC code.length cC] 96)).cell? ⟨wr.heap.size,0,none⟩=some (.string (T nm)):=(ak.new wr #[.string (T nm),.slice oC code.length cC] 96).cell 0;have hs2:MapOf (wr.alloc (.cells #[.string (T nm),.slice oC code.length cC] 96)) B (λ_=>none):=hs.ag ((aa.refl ae _).alloc _) id;have hlk:=hs2.lookup (P:=prog) (t:=105) underlying105 underlying9 (zeroValue3 _) (T nm);obtain⟨w5,hup,_,m5⟩:=hs2.update (P:=prog) (t:=105) underlying105 underlying9 (T nm) (.int .i64 0);have iC:af (aa ae w w5):=(hm.alloc _).step m5 (λb hb e=>by have:=HB.o;omega);simp only[Option.getD_none,Option.isSome_none]at hlk;clear hs hs2 hm m5;go_wp2_with fail;go_roundg 0
     case measure=>omega
     case rel=>exact .inr ⟨by go_num,iC.o,rfl⟩
    ·go_wp2_with fail;go_roundg 0
     case measure=>omega
     case rel=>exact .inr ⟨by go_num,hm,rfl⟩
  ·go_wp2_with fail;go_ret;exact⟨rfl,hm⟩
theorem ant{tv:Value}{bs:List Nat}{d:LD}{w:tW}(h:LAt tv bs d w):Calls prog 81 #[.slice (some ⟨d.gP,0,none⟩) 1 d.cP] w λe w'=>e=.returned (.int .i64 (-1))/\aa ae w w':=by
 have HL:=ai h;have eX:af (aa ae w (w.alloc (.map #[] 0))):=aj;clear h;obtain⟨gP,cP,a1,a2,gF,cF,oC,cC,nm,code⟩:=d;have hmm:=@run_makeMap prog;go_enter func81,ntmps81;go_wp2_with fail;clear hmm;generalize w.alloc (.map #[] 0)=wB at *;go_loopg [13] 1 (λq iv wx=>(iv=.int .i64 0/\aa ae w wx/\q=1)\/(iv=.int .i64 1/\aa ae w wx/\q=0))
 case atStart=>exact .inl ⟨rfl,eX.o,rfl⟩
 case round =>
  clear eX;rcases hrel with⟨rfl,hm,rfl⟩ |⟨rfl,hm,rfl⟩
  ·have c0:=(HL.o.quiet hm).p0;have c1:=(HL.o.quiet hm).p1;simp only at c0 c1;go_wp2_with fail;have dh:af (aa ae w (wr.alloc (.cells #[.slice a1 0 a2,.slice (some ⟨gF,0,none⟩) 1 cF] 90))):=hm.alloc _;generalize wr.alloc (.cells #[.slice a1 0 a2,.slice (some ⟨gF,0,none⟩) 1 cF] 90)=w1 at *;clear c0 c1 hm;go_loopg [21] 1 (λq iv wx=>iv=.int .i64 0/\aa ae w wx/\q=1)
   case atStart=>exact⟨rfl,dh.o,rfl⟩
   case round =>
    obtain⟨rfl,hm,rfl⟩:=hrel;clear dh;go_wp2_with fail;go_roundg 0
    case measure=>omega
    case rel=>exact .inr ⟨by go_num,hm,rfl⟩
  ·go_wp2_with fail;go_ret;exact⟨rfl,hm⟩
theorem anT{tv:Value}{bs:List Nat}{d:LD}{w:tW}(h:LAt tv bs d w)(o1 o2:Option Addr)(n1 c1 n2 c2:Nat):Calls prog 82 #[.slice (some ⟨d.gP,0,none⟩) 1 d.cP,.agg #[.slice o1 n1 c1,.slice o2 n2 c2]] w λe w'=>e=.returned (.int .i64 (-1))/\aa ae w w':=by
 have HL:=ai h;have hl:=h.ln;have eX:af (aa ae w (w.alloc (.cells #[.slice o1 n1 c1,.slice o2 n2 c2] 90))):=aj;clear h;obtain⟨gP,cP,a1,a2,gF,cF,oC,cC,nm,code⟩:=d;simp only at hl;go_enter func82,ntmps82;go_wp2_with fail;generalize w.alloc (.cells #[.slice o1 n1 c1,.slice o2 n2 c2] 90)=wB at *;go_loopg [13] 1 (λq iv wx=>(iv=.int .i64 0/\aa ae w wx/\q=1)\/(iv=.int .i64 1/\aa ae w wx/\q=0))
 case atStart=>exact .inl ⟨rfl,eX.o,rfl⟩
 case round =>
  clear eX;rcases hrel with⟨rfl,hm,rfl⟩ |⟨rfl,hm,rfl⟩
  ·have c0:=(HL.o.quiet hm).p0;have c1:=(HL.o.quiet hm).p1;simp only at c0 c1;go_wp2_with fail;have dh:af (aa ae w (wr.alloc (.cells #[.slice a1 0 a2,.slice (some ⟨gF,0,none⟩) 1 cF] 90))):=hm.alloc _;generalize wr.alloc (.cells #[.slice a1 0 a2,.slice (some ⟨gF,0,none⟩) 1 cF] 90)=w1 at *;clear c0 c1 hm;go_loopg [21] 1 (λq iv wx=>(iv=.int .i64 0/\aa ae w wx/\q=1)\/(iv=.int .i64 1/\aa ae w wx/\q=0))
   case atStart=>exact .inl ⟨rfl,dh.o,rfl⟩
   case round =>
    clear dh;rcases hrel with⟨rfl,hm,rfl⟩ |⟨rfl,hm,rfl⟩
    ·obtain⟨f0,f1⟩:=(HL.o.quiet hm).row;simp only at f0 f1;go_wp2_with fail;have dw:af (aa ae w (wr.alloc (.cells #[.string (T nm),.slice oC code.length cC] 96))):=hm.alloc _;generalize wr.alloc (.cells #[.string (T nm),.slice oC code.length cC] 96)=w2 at *;clear f0 f1 hm;go_loopg [28] code.length (λq iv wx=>∃j:Nat,iv=.int .i64 j/\aa ae w wx/\j<=code.length/\q=code.length-j)
     case atStart=>exact⟨0,rfl,dw.o,an _,rfl⟩
     case round =>
      clear dw;obtain⟨j,rfl,hm,hj,rfl⟩:=hrel;by_cases hjl:j<code.length
      ·have hLr:=HL.o.quiet hm;obtain⟨g,rfl,hg,y0,y1,y2,y3,y4,y5,y6,y7⟩:=kZ hLr.cd rfl rfl j hjl;have AY:=ai (λw' (m:aa ae wr w')=>aka (hLr.ops.ag m) code[j] (hLr.ok _ (ab hjl)));have NI:=ai hm;clear hLr hm;generalize code[j].jump=jmp at *;generalize code[j].d=xd at *;generalize code[j].s=xs at *;generalize code[j].num=xn at *;generalize code[j].high=xh at *;generalize T code[j].name=xm at *;generalize bs[code[j].k]?.getD 0=b at *;go_wp2_with fail;refine(AY.o _ aj).mono ?_;rintro e w5 ⟨rfl,m5⟩;have iC:=ai ((NI.o.alloc _).trans m5);clear m5 y0 y1 y2 y3 y4 y5 y6 y7 AY NI;go_wp2_with fail;go_roundg (code.length-(j+1))
       case measure=>omega
       case rel=>exact⟨j+1,by go_num,iC.o,by omega,rfl⟩
      ·go_wp2_with fail;go_roundg 0
       case measure=>omega
       case rel=>exact .inr ⟨by go_num,hm,rfl⟩
    ·go_wp2_with fail;go_roundg 0
     case measure=>omega
     case rel=>exact .inr ⟨by go_num,hm,rfl⟩
  ·go_wp2_with fail;go_ret;exact⟨rfl,hm⟩
set_option linter.all false
theorem anu{tv:Value}{bs:List Nat}{d:LD}{w:tW}(h:LAt tv bs d w)(o1 o2:Option Addr)(n1 c1 c2:Nat)(hF:Sl w 96 2 (.slice o2 1 c2) 1 [.string (T d.nm),.slice d.oC d.code.length d.cC]):Calls prog 49 #[.agg #[.slice o1 n1 c1,.slice o2 1 c2]] w λe w'=>e=.returned (.tuple #[])/\aa ae w w':=by
 have HL:=ai h;have hl:=h.ln;have eX:af (aa ae w (w.alloc (.cells #[.slice o1 n1 c1,.slice o2 1 c2] 90))):=aj;obtain⟨g2,rfl,f0,f1⟩:=amk hF;have HF0:=ai f0;have HF1:=ai f1;clear h hF f0 f1;obtain⟨gP,cP,a1,a2,gF,cF,oC,cC,nm,code⟩:=d;simp only at hl HF0 HF1;go_enter func49,ntmps49;go_wp2_with fail;generalize w.alloc (.cells #[.slice o1 n1 c1,.slice (some ⟨g2,0,none⟩) 1 c2] 90)=wB at *;go_loopg [9] 1 (λq iv wx=>(iv=.int .i64 0/\aa ae w wx/\q=1)\/(iv=.int .i64 1/\aa ae w wx/\q=0))
 case atStart=>exact .inl ⟨rfl,eX.o,rfl⟩
 case round =>
  clear eX;rcases hrel with⟨rfl,hm,rfl⟩ |⟨rfl,hm,rfl⟩
  ·have f0:=Lv hm HF0.o;have f1:=Lv hm HF1.o;go_wp2_with fail;have dw:af (aa ae w (wr.alloc (.cells #[.string (T nm),.slice oC code.length cC] 96))):=hm.alloc _;have HB3:af (ak (wr.alloc (.cells #[.string (T nm),.slice oC code.length cC] 96)) wr.heap.size #[.string (T nm),.slice oC code.length cC] 96):=ak.new _ _ _;generalize wr.alloc (.cells #[.string (T nm),.slice oC code.length cC] 96)=w2 at *;generalize wr.heap.size=F at *;clear f0 f1 hm;go_loopg [16] code.length (λq iv wx=>∃j:Nat,iv=.int .i64 j/\aa ae w wx/\ak wx F #[.string (T nm),.slice oC code.length cC] 96/\j<=code.length/\q=code.length-j)
   case atStart=>exact⟨0,rfl,dw.o,HB3.o,an _,rfl⟩
   case round =>
    clear dw HB3;obtain⟨j,rfl,hm,hb,hj,rfl⟩:=hrel;by_cases hjl:j<code.length
    ·have hLr:=HL.o.quiet hm;obtain⟨g,rfl,hg,y0,y1,y2,y3,y4,y5,y6,y7⟩:=kZ hLr.cd rfl rfl j hjl;have AY:=ai (aka hLr.ops code[j] (hLr.ok _ (ab hjl)));have z1:wr.cell? ⟨F,1,none⟩=some (.slice (some ⟨g,0,none⟩) code.length cC):=hb.cell 1;have NI:=ai hm;have HBr:=ai hb;clear hLr hm hb;generalize code[j].jump=jmp at *;generalize code[j].d=xd at *;generalize code[j].s=xs at *;generalize code[j].num=xn at *;generalize code[j].high=xh at *;generalize T code[j].name=xm at *;generalize bs[code[j].k]?.getD 0=b at *;go_wp2_with fail;refine AY.o.mono ?_;rintro e w5 ⟨rfl,m5⟩;have iC:=ai (NI.o.trans m5);have iT:=ai (HBr.o.ag m5 id);clear m5 y0 y1 y2 y3 y4 y5 y6 y7 z1 AY NI HBr;go_wp2_with fail;go_roundg (code.length-(j+1))
     case measure=>omega
     case rel=>exact⟨j+1,by go_num,iC.o,iT.o,by omega,rfl⟩
    ·go_wp2_with fail;go_roundg 0
     case measure=>omega
     case rel=>exact .inr ⟨by go_num,hm,rfl⟩
  ·go_wp2_with fail;go_end0;exact⟨rfl,hm⟩
theorem anU{tv:Value}{bs:List Nat}{d:LD}{w:tW}(h:LAt tv bs d w){vM vF:Value}(hM:Sl w 100 4 vM 0 [])(hF:Sl w 96 2 vF 1 [.string (T d.nm),.slice d.oC d.code.length d.cC]):We w tv bs vM vF [] [⟨d.nm,d.code⟩] [.slice d.oC d.code.length d.cC] :=
 ⟨hM,rfl,hF,λi a b=>by
  have e:i=0:=by simp at a;omega
  subst e;exact h.cd,h.ops⟩
theorem anv{tv:Value}{bs:List Nat}{d:LD}{w:tW}(h:LAt tv bs d w)(o1 o2:Option Addr)(c1 c2:Nat)(hM:Sl w 100 4 (.slice o1 0 c1) 0 [])(hF:Sl w 96 2 (.slice o2 1 c2) 1 [.string (T d.nm),.slice d.oC d.code.length d.cC])(hs:aM d.code<=200):Calls prog 48 #[.slice (some ⟨d.gP,0,none⟩) 1 d.cP,.agg #[.slice o1 0 c1,.slice o2 1 c2]] w λe w'=>e=.returned (.tuple #[.int .i64 0,.int .i64 0])/\aa ae w w':=by
 have H1:=ai (λw' (m:aa ae w w')=>anr (h.quiet m));have H2:=ai (λw' (m:aa ae w w')=>ant (h.quiet m));have H3:=ai (λw' (m:aa ae w w')=>anT (h.quiet m) o1 o2 0 c1 1 c2)
 have H4:af (∀w',aa ae w w'->Calls prog 83 #[.agg #[.slice o1 0 c1,.slice o2 1 c2]] w' λe w2=>e=.returned (.bool false)/\aa ae w' w2):=λw' m=>by
  have e:oG [⟨d.nm,d.code⟩]=aM d.code:=by simp[oG]
  have:=XP w' tv bs _ _ [] [⟨d.nm,d.code⟩] _ (anU (h.quiet m) (hM.ag m (λ_ _=>id)) (hF.ag m (λ_ _=>id))) (by decide) (by show 1<=1000;decide) (λf hf=>by rw[List.mem_singleton.1 hf];exact⟨h.ln,λx hx=>(h.ok x hx).1⟩) (λk=>by
   cases k with
   |zero=>exact an _
   |succ k=>rw[al (by simp),e];omega)
  rw[e,show(decide (8<([]:List az).length)||decide (16<[aS.mk d.nm d.code].length)||decide (200<aM d.code))=false by simp;omega]at this;exact this
 have HB0:af (ak (w.alloc (.cells #[.slice o1 0 c1,.slice o2 1 c2] 90)) w.heap.size #[.slice o1 0 c1,.slice o2 1 c2] 90):=ak.new _ _ _;have eX:af (aa ae w (w.alloc (.cells #[.slice o1 0 c1,.slice o2 1 c2] 90))):=aj;clear h hM hF hs;go_enter func48,ntmps48;go_wp2_with fail;refine(H1.o _ eX.o).mono ?_;rintro e w1 ⟨rfl,m1⟩;have dh:=ai (eX.o.trans m1);have HB1:=ai (HB0.o.ag m1 id);clear m1 eX HB0 H1;go_wp2_with fail;refine(H2.o _ dh.o).mono ?_;rintro e w2 ⟨rfl,m2⟩;have dD:=ai (dh.o.trans m2);have HB2:=ai (HB1.o.ag m2 id);clear m2 dh HB1 H2;have y0:w2.cell? ⟨w.heap.size,0,none⟩=some (.slice o1 0 c1):=HB2.o.cell 0;have y1:w2.cell? ⟨w.heap.size,1,none⟩=some (.slice o2 1 c2):=HB2.o.cell 1;go_wp2_with fail;refine(H3.o _ dD.o).mono ?_;rintro e w3 ⟨rfl,m3⟩;have dw:=ai (dD.o.trans m3);have HB3:=ai (HB2.o.ag m3 id);clear m3 dD HB2 H3 y0 y1;have y0:w3.cell? ⟨w.heap.size,0,none⟩=some (.slice o1 0 c1):=HB3.o.cell 0;have y1:w3.cell? ⟨w.heap.size,1,none⟩=some (.slice o2 1 c2):=HB3.o.cell 1;go_wp2_with fail;refine(H4.o _ dw.o).mono ?_;rintro e w4 ⟨rfl,m4⟩;have fU:=ai (dw.o.trans m4);clear m4 dw HB3 H4 y0 y1;go_wp2_with fail;go_ret2;exact⟨rfl,fU.o⟩
theorem anV(w:tW)(o:Option Addr)(c:Nat):Calls prog 79 #[.slice o 0 c] w λe w'=>e=.returned (.slice o 0 c)/\w'=w:=by go_enter func79,ntmps79;go_wp2_with fail;go_ret;exact⟨rfl,rfl⟩
theorem anW{tv:Value}{bs:List Nat}{d:LD}{w:tW}(h:LAt tv bs d w):Calls prog 47 #[.slice (some ⟨d.gP,0,none⟩) 1 d.cP] w λe w'=>∃o1 c1 o2 c2,e=.returned (.agg #[.slice o1 0 c1,.slice o2 1 c2])/\Sl w' 100 4 (.slice o1 0 c1) 0 []/\Sl w' 96 2 (.slice o2 1 c2) 1 [.string (T d.nm),.slice d.oC d.code.length d.cC]/\aa ae w w':=by
 obtain⟨iM,hiM,hzM,hsM,hbM⟩:=info_parts Dp;obtain⟨iF,hiF,hzF,hsF,Pg⟩:=info_parts vI;have HL:=ai h;have eX:af (aa ae w ((w.alloc (.cells #[.slice none 0 0,.slice none 0 0] 90)).alloc (.cells #[.slice none 0 0,.slice none 0 0] 90))):=aj.alloc _;have iA:af (ak ((w.alloc (.cells #[.slice none 0 0,.slice none 0 0] 90)).alloc (.cells #[.slice none 0 0,.slice none 0 0] 90)) w.heap.size #[.slice none 0 0,.slice none 0 0] 90):=(ak.new w _ _).alloc _
 have HB0:af (ak ((w.alloc (.cells #[.slice none 0 0,.slice none 0 0] 90)).alloc (.cells #[.slice none 0 0,.slice none 0 0] 90)) (w.heap.size+1) #[.slice none 0 0,.slice none 0 0] 90):=by
  have:=ak.new (w.alloc (.cells #[.slice none 0 0,.slice none 0 0] 90)) #[.slice none 0 0,.slice none 0 0] 90
  rwa [World.size_alloc]at this
 clear h;obtain⟨gP,cP,a1,a2,gF,cF,oC,cC,nm,code⟩:=d;go_enter func47,ntmps47;go_wp2_with fail;generalize(w.alloc (.cells #[.slice none 0 0,.slice none 0 0] 90)).alloc (.cells #[.slice none 0 0,.slice none 0 0] 90)=wB at *;have HBw:af (w.heap.size<=w.heap.size+1/\w.heap.size+1≠w.heap.size):=⟨by omega,by omega⟩
 have HRw:af (w.heap.size<=w.heap.size):=ao _;obtain⟨S,hS⟩:∃S,S=w.heap.size:=⟨_,rfl⟩
 have HS:af (S=w.heap.size):=hS;generalize w.heap.size+1=B at *;rw[<-hS]at iA HBw HRw;rw[<-hS];clear hS;go_loopg [8] 1 (λq iv wx=>(iv=.int .i64 0/\ak wx B #[.slice none 0 0,.slice none 0 0] 90/\ak wx S #[.slice none 0 0,.slice none 0 0] 90/\aa ae w wx/\q=1)\/(iv=.int .i64 1/\(∃o1 c1 o2 c2,ak wx B #[.slice o1 0 c1,.slice o2 1 c2] 90/\Sl wx 100 4 (.slice o1 0 c1) 0 []/\Sl wx 96 2 (.slice o2 1 c2) 1 [.string (T nm),.slice oC code.length cC])/\ak wx S #[.slice none 0 0,.slice none 0 0] 90/\aa ae w wx/\q=0))
 case atStart=>exact .inl ⟨rfl,HB0.o,iA.o,eX.o,rfl⟩
 case round =>
  clear HB0 iA eX;rcases hrel with⟨rfl,hb,hr,hm,rfl⟩ |⟨rfl,⟨o1,c1,o2,c2,hb,hsM,hsF⟩,hr,hm,rfl⟩
  ·have c0:=(HL.o.quiet hm).p0;have c1:=(HL.o.quiet hm).p1;simp only at c0 c1;have dh:af (aa ae wr (wr.alloc (.cells #[.slice a1 0 a2,.slice (some ⟨gF,0,none⟩) 1 cF] 90))):=aj;have HBp:af (ak (wr.alloc (.cells #[.slice a1 0 a2,.slice (some ⟨gF,0,none⟩) 1 cF] 90)) wr.heap.size #[.slice a1 0 a2,.slice (some ⟨gF,0,none⟩) 1 cF] 90):=ak.new _ _ _;have HPn:af (B≠wr.heap.size):=λe=>by have:=hb.lt;omega
   go_upto_region 5 with fail;have Du:=ai (hb.ag dh.o id);have HRW:=ai (hr.ag dh.o id);have Pc:=ai (hm.trans dh.o);clear c0 c1 hb hr hm dh;generalize wr.alloc (.cells #[.slice a1 0 a2,.slice (some ⟨gF,0,none⟩) 1 cF] 90)=W at *;generalize wr.heap.size=P at *;have HSM:af (Sl W 100 4 (.slice a1 0 a2) 0 []):=(HL.o.quiet Pc.o).mp;have y0:W.cell? ⟨B,0,none⟩=some (.slice none 0 0):=Du.o.cell 0;have y1:W.cell? ⟨P,0,none⟩=some (.slice a1 0 a2):=HBp.o.cell 0;go_upto_region 6 with(at_builtin;refine ng _ rfl (.tmp 13) (.tmp 15) 87 rfl 100 iM (.agg #[.string E0,.int .u8 0,.int .u8 0,.int .u8 0]) 4 24 underlying87 hiM hzM hsM hbM rfl (by decide) (.slice none 0 0) 0 [] rfl (Sl.nil _ _ _) (.slice a1 0 a2) 0 [] rfl HSM.o (by simp) (by unfold maxLen;omega) (by omega) ?_;intro v5 w5 s5' m5' l5;have s5:Sl w5 100 4 v5 0 []:=s5';have m5:aa ae W w5:=m5'.mono (λ_ _ e=>by cases e);clear s5' m5';obtain⟨o5,c5,rfl,_⟩:=Sl.view s5;have y2:w5.cell? ⟨B,0,none⟩=some (.slice none 0 0):=(Du.o.ag m5 id).cell 0;have y3:=(Du.o.ag m5 id).frozen 0)
   have uM:af (ak (w5.setCell ⟨B,0,none⟩ (.slice o5 0 c5)) B #[.slice o5 0 c5,.slice none 0 0] 90):=(Du.o.ag m5 id).set 0 _;have Jq:af (ak (w5.setCell ⟨B,0,none⟩ (.slice o5 0 c5)) S #[.slice none 0 0,.slice none 0 0] 90):=(HRW.o.ag m5 id).setOther (a:=⟨B,0,none⟩) HBw.o.2 _;have HP6:af (ak (w5.setCell ⟨B,0,none⟩ (.slice o5 0 c5)) P #[.slice a1 0 a2,.slice (some ⟨gF,0,none⟩) 1 cF] 90):=(HBp.o.ag m5 id).setOther (a:=⟨B,0,none⟩) HPn.o _;have sW:af (aa ae w (w5.setCell ⟨B,0,none⟩ (.slice o5 0 c5))):=(Pc.o.trans m5).set (a:=⟨B,0,none⟩) (.inr (by rw[<-HS.o];exact HBw.o.1)) _;have LK:af (Sl (w5.setCell ⟨B,0,none⟩ (.slice o5 0 c5)) 100 4 (.slice o5 0 c5) 0 []):=s5.ag ((aa.refl (Only B) w5).aY 0 _) (λk hk e=>s5.au (Du.o.ag m5 id) (by decide) (by rw[<-show k=B from e];exact hk));clear y0 y1 y2 y3 s5 m5 l5 Du HRW HBp HSM Pc;generalize w5.setCell ⟨B,0,none⟩ (.slice o5 0 c5)=W6 at *;have HSF:af (Sl W6 96 2 (.slice (some ⟨gF,0,none⟩) 1 cF) 1 [.string (T nm),.slice oC code.length cC]):=(HL.o.quiet sW.o).fn;have y0:W6.cell? ⟨B,1,none⟩=some (.slice none 0 0):=uM.o.cell 1;have y1:W6.cell? ⟨P,1,none⟩=some (.slice (some ⟨gF,0,none⟩) 1 cF):=HP6.o.cell 1;go_upto_region 7 with(at_builtin;refine ng _ rfl (.tmp 19) (.tmp 21) 88 rfl 96 iF (.agg #[.string E0,.slice none 0 0]) 2 40 underlying88 hiF hzF hsF Pg rfl (by decide) (.slice none 0 0) 0 [] rfl (Sl.nil _ _ _) (.slice (some ⟨gF,0,none⟩) 1 cF) 1 [.string (T nm),.slice oC code.length cC] rfl HSF.o (Xv _ _ _ _) (by unfold maxLen;omega) (by omega) ?_;intro v7 w7 s7' m7' l7;have s7:Sl w7 96 2 v7 1 [.string (T nm),.slice oC code.length cC]:=s7';have m7:aa ae W6 w7:=m7'.mono (λ_ _ e=>by cases e);clear s7' m7';obtain⟨o7,c7,rfl,_⟩:=Sl.view s7;have y2:w7.cell? ⟨B,1,none⟩=some (.slice none 0 0):=(uM.o.ag m7 id).cell 1;have y3:=(uM.o.ag m7 id).frozen 1)
   have Kh:af (ak (w7.setCell ⟨B,1,none⟩ (.slice o7 1 c7)) B #[.slice o5 0 c5,.slice o7 1 c7] 90):=(uM.o.ag m7 id).set 1 _;have HR8:af (ak (w7.setCell ⟨B,1,none⟩ (.slice o7 1 c7)) S #[.slice none 0 0,.slice none 0 0] 90):=(Jq.o.ag m7 id).setOther (a:=⟨B,1,none⟩) HBw.o.2 _;have FV:af (aa ae w (w7.setCell ⟨B,1,none⟩ (.slice o7 1 c7))):=(sW.o.trans m7).set (a:=⟨B,1,none⟩) (.inr (by rw[<-HS.o];exact HBw.o.1)) _;have mB:aa (Only B) w7 (w7.setCell ⟨B,1,none⟩ (.slice o7 1 c7)):=(aa.refl (Only B) w7).aY 1 _;have hS5:=LK.o.ag m7 (λ_ _=>id);have HS8:af (Sl (w7.setCell ⟨B,1,none⟩ (.slice o7 1 c7)) 100 4 (.slice o5 0 c5) 0 []):=hS5.ag mB (λk hk e=>hS5.au (uM.o.ag m7 id) (by decide) (by rw[<-show k=B from e];exact hk));have HF8:af (Sl (w7.setCell ⟨B,1,none⟩ (.slice o7 1 c7)) 96 2 (.slice o7 1 c7) 1 [.string (T nm),.slice oC code.length cC]):=s7.ag mB (λk hk e=>s7.au (uM.o.ag m7 id) (by decide) (by rw[<-show k=B from e];exact hk));clear y0 y1 y2 y3 s7 m7 l7 mB hS5 uM Jq HP6 sW LK HSF;generalize w7.setCell ⟨B,1,none⟩ (.slice o7 1 c7)=W8 at *;go_wp2_with fail;go_roundg 0
   case measure=>omega
   case rel=>exact .inr ⟨by go_num,⟨_,_,_,_,Kh.o,HS8.o,HF8.o⟩,HR8.o,FV.o,rfl⟩
  ·have HB:=ai hb;have HR:=ai hr;have HM:=ai hm;have HSM:=ai hsM;have HSF:=ai hsF;have HSO:=ai (λW=>amj W o1 o2 0 c1 1 c2 (by omega) (by omega));have y0:wr.cell? ⟨B,0,none⟩=some (.slice o1 0 c1):=hb.cell 0;have y1:wr.cell? ⟨B,1,none⟩=some (.slice o2 1 c2):=hb.cell 1;clear hb hr hm hsM hsF;go_wp2_with fail;refine(HSO.o _).mono ?_;rintro e w2 ⟨rfl,m2⟩;have HB2:=ai (HB.o.ag m2 id);have kE:=ai (HR.o.ag m2 id);have dD:=ai (HM.o.trans m2);have anw:=ai (HSM.o.ag m2 (λ_ _=>id));have anx:=ai (HSF.o.ag m2 (λ_ _=>id));clear y0 y1 m2 HB HR HM HSM HSF HSO;have y0:w2.cell? ⟨B,0,none⟩=some (.slice o1 0 c1):=HB2.o.cell 0;have y3:=HB2.o.frozen 0;go_wp2_with fail;refine(anV w2 o1 c1).mono ?_;rintro e w2 ⟨rfl,rfl⟩;go_upto_region 10 with fail;have gq:af (ak (w2.setCell ⟨B,0,none⟩ (.slice o1 0 c1)) B #[.slice o1 0 c1,.slice o2 1 c2] 90):=HB2.o.set 0 _;have wm:af (ak (w2.setCell ⟨B,0,none⟩ (.slice o1 0 c1)) S #[.slice none 0 0,.slice none 0 0] 90):=kE.o.setOther (a:=⟨B,0,none⟩) HBw.o.2 _;have mB:aa (Only B) w2 (w2.setCell ⟨B,0,none⟩ (.slice o1 0 c1)):=(aa.refl (Only B) w2).aY 0 _;have fU:af (aa ae w (w2.setCell ⟨B,0,none⟩ (.slice o1 0 c1))):=dD.o.set (a:=⟨B,0,none⟩) (.inr (by rw[<-HS.o];exact HBw.o.1)) _;have anX:=ai (anw.o.ag mB (λk hk e=>anw.o.au HB2.o (by decide) (by rw[<-show k=B from e];exact hk)));have anY:=ai (anx.o.ag mB (λk hk e=>anx.o.au HB2.o (by decide) (by rw[<-show k=B from e];exact hk)));clear y0 y3 mB HB2 kE dD anw anx;generalize w2.setCell ⟨B,0,none⟩ (.slice o1 0 c1)=w4 at *;have y0:w4.cell? ⟨B,0,none⟩=some (.slice o1 0 c1):=gq.o.cell 0;have y1:w4.cell? ⟨B,1,none⟩=some (.slice o2 1 c2):=gq.o.cell 1;have y2:w4.cell? ⟨S,0,none⟩=some (.slice none 0 0):=wm.o.cell 0;have y3:w4.cell? ⟨S,1,none⟩=some (.slice none 0 0):=wm.o.cell 1;have y4:=wm.o.frozen 0;have y5:=wm.o.frozen 1;go_wp2_with fail;refine bodyPost_ret (results_cell_row results47 _ _ S 90 #[.slice o1 0 c1,.slice o2 1 c2] (0,0) _ rfl ((wm.o.set 0 _).set 1 _) underlying90 rfl (by kernel_rfl)) rfl ?_;have mR:aa (Only S) w4 ((w4.setCell ⟨S,0,none⟩ (.slice o1 0 c1)).setCell ⟨S,1,none⟩ (.slice o2 1 c2)):=(ax.aY _ _).aY _ _;refine⟨_,_,_,_,rfl,anX.o.ag mR (λk hk e=>anX.o.au wm.o (by decide) (by rw[<-show k=S from e];exact hk)),anY.o.ag mR (λk hk e=>anY.o.au wm.o (by decide) (by rw[<-show k=S from e];exact hk)),fU.o.step mR (λi hi e=>by have h1:i=S:=e;have:=HS.o;omega)⟩
theorem anZ(w:tW)(hE:sV w)(g cap:Nat)(o:tLB)(f:aS)(hg:w.cell? ⟨g,0,none⟩=some (.string (T o)))(ho:o.length<=maxLen)(hd:akz o f)(hl:f.code.length<=200)(hs:aM f.code<=200)(hn:f.name.length<=255)(hr:∀x∈f.code,x.aO=0):Calls prog 25 #[.slice (some ⟨g,0,none⟩) 1 cap] w λr w'=>r=.returned (.tuple #[.string (T (ib 2 [] [f])),.int .i64 0,.int .i64 0])/\aa ae w w':=by
 have acr:=ai (anS w hE g cap o hg ho f hd hr hl);clear hE hg ho hd hr;go_enter func25,ntmps25;go_wp2_with fail;refine acr.o.mono ?_;rintro e w1 ⟨tv,bs,d,hnm,pF,rfl,hL,mT⟩;have dh:=ai mT;have HL:=ai hL;have HF:af (f=⟨d.nm,d.code⟩):=by rw[hnm,pF];rfl
 have ET:af (aM d.code<=200):=by rw[pF];exact hs
 have HNM:af (d.nm.length<=255):=by rw[hnm];exact hn
 clear mT acr hL hnm pF hs hl hn;have HJ:=ai (anW HL.o);go_wp2_with fail;refine HJ.o.mono ?_;rintro e w2 ⟨o1,c1,o2,c2,rfl,hM,hFn,m2⟩;have HL2:=ai (HL.o.quiet m2);have dD:=ai (dh.o.trans m2);have HSM:=ai hM;have HSF:=ai hFn;clear hM hFn m2 HL dh HJ;have mB:aa ae w2 (w2.alloc (.cells #[.slice o1 0 c1,.slice o2 1 c2] 90)):=aj;have HB0:af (ak (w2.alloc (.cells #[.slice o1 0 c1,.slice o2 1 c2] 90)) w2.heap.size #[.slice o1 0 c1,.slice o2 1 c2] 90):=ak.new _ _ _;have Pk:=ai mB;have HFA:=ai (anv (HL2.o.quiet mB) o1 o2 c1 c2 (HSM.o.ag mB (λ_ _=>id)) (HSF.o.ag mB (λ_ _=>id)) ET.o);clear mB;go_wp2_with fail;refine HFA.o.mono ?_;rintro e w3 ⟨rfl,m3⟩;have HB3:=ai (HB0.o.ag m3 id);have dw:=ai (Pk.o.trans m3);clear HFA HB0 Pk m3;have AY:=ai (anu (HL2.o.quiet dw.o) o1 o2 0 c1 c2 (HSF.o.ag dw.o (λ_ _=>id)));have y0:w3.cell? ⟨w2.heap.size,0,none⟩=some (.slice o1 0 c1):=HB3.o.cell 0;have y1:w3.cell? ⟨w2.heap.size,1,none⟩=some (.slice o2 1 c2):=HB3.o.cell 1;go_wp2_with fail;refine AY.o.mono ?_;rintro e w4 ⟨rfl,m4⟩;have gq:=ai (HB3.o.ag m4 id);have fU:=ai (dw.o.trans m4);clear AY HB3 dw m4 y0 y1;have y0:w4.cell? ⟨w2.heap.size,0,none⟩=some (.slice o1 0 c1):=gq.o.cell 0;have y1:w4.cell? ⟨w2.heap.size,1,none⟩=some (.slice o2 1 c2):=gq.o.cell 1;have HIM:af (Calls prog 50 #[.agg #[.slice o1 0 c1,.slice o2 1 c2]] w4 λe w'=>e=.returned (.string (T (ib 2 [] [f])))/\aa ae w4 w'):=by unfold af;rw[HF.o];exact aml w4 tv bs _ _ _ _ _ (anU (HL2.o.quiet fU.o) (HSM.o.ag fU.o (λ_ _=>id)) (HSF.o.ag fU.o (λ_ _=>id))) ⟨by decide,(by show 1<=100;decide),λm hm=>(by cases hm),λf' hf'=>by rw[List.mem_singleton.1 hf'];exact⟨HNM.o,HL2.o.ln,λx hx=>(HL2.o.ok x hx).1⟩⟩ rfl
 go_wp2_with fail;refine HIM.o.mono ?_;rintro e w5 ⟨rfl,m5⟩;have iC:=ai ((dD.o.trans fU.o).trans m5);clear HIM gq fU m5 y0 y1;go_wp2_with fail;go_ret3;exact⟨rfl,iC.o⟩
theorem Iu(wT w:tW)(tv:Value)(bs:List Nat)(hT:aH 0 wT tv bs aq)(mT:aa ae wT w)(rb:Nat)(hrb:wT.heap.size<=rb)(q:PR)(hr:dM w rb q)(o1:Option Addr)(ml c1:Nat)(JG:ml<=1000)(vF:Value)(fs:List aS)(vs:List Value)(hF:pG w wT.heap.size bs vF fs vs)(hfl:fs.length<=1000)(hcl:∀f∈fs,f.code.length<=2000):Calls prog 62 #[.pointer (some ⟨rb,0,none⟩),.agg #[.slice o1 ml c1,vF]] w λe w'=>e=.returned (.tuple #[])/\dM w' rb (BP ml fs.length fs q)/\aa (Only rb) w w':=by
 obtain⟨oF,cF,jZ,_⟩:=hF.sl.view;subst jZ;have HF:af (∀w' q',uz w rb q' w'->pG w' wT.heap.size bs (.slice oF fs.length cF) fs vs):=λw' q' h=>h.fns hr hF;have HT:af (∀w' q',uz w rb q' w'->aH 0 w' tv bs aq):=λw' q' h=>hT.ag (mT.step h.md (λi hi e=>by have e':i=rb:=e;omega));have XV:=ai hcl;have Ro:=ai hr.lt;have HB0:af (ak (w.alloc (.cells #[.slice o1 ml c1,.slice oF fs.length cF] 90)) w.heap.size #[.slice o1 ml c1,.slice oF fs.length cF] 90):=ak.new _ _ _;have HN0:af (uz w rb q (w.alloc (.cells #[.slice o1 ml c1,.slice oF fs.length cF] 90))):=(uz.quiet ⟨hr,ax⟩ aj)
 have Fe:af (∀w' q',uz (w.alloc (.cells #[.slice o1 ml c1,.slice oF fs.length cF] 90)) rb q' w'->w'.cell? ⟨w.heap.size,0,none⟩=some (.slice o1 ml c1)/\w'.cell? ⟨w.heap.size,1,none⟩=some (.slice oF fs.length cF)):=λw' q' h=>by have hb:=HB0.o.ag h.md (show ¬w.heap.size=rb by have:=Ro.o;omega);exact⟨hb.cell 0,hb.cell 1⟩
 clear hF hT mT hr hcl;have HWB:af (aa (Only rb) w (w.alloc (.cells #[.slice o1 ml c1,.slice oF fs.length cF] 90))):=aj;go_enter func62,ntmps62;go_wp2_with fail;generalize w.alloc (.cells #[.slice o1 ml c1,.slice oF fs.length cF] 90)=wB at *;generalize w.heap.size=B at *;go_loopg [11] fs.length (λg iv wx=>∃i:Nat,iv=.int .i64 i/\uz wB rb (BP ml fs.length (fs.take i) q) wx/\i<=fs.length/\g=fs.length-i)
 case atStart=>exact⟨0,rfl,⟨HN0.o.rd,ax⟩,an _,rfl⟩
 case round =>
  obtain⟨i,rfl,hN,hi,rfl⟩:=hrel;have HN:=ai hN;clear hN;by_cases hil:i<fs.length
  ·have Cw:=HF.o wr _ ⟨HN.o.rd,HWB.o.step HN.o.md (λ_ _ e=>e)⟩;have CP:i<vs.length:=by rw[Cw.len];exact hil
   obtain⟨gF,rfl,c0,c1'⟩:=Cw.TI i hil CP;have pF:=Cw.cd i hil CP;have hcl:=XV.o fs[i] (ab hil);have uH:af (∀x∈fs[i].code,eU x):=Cw.ok fs[i] (ab hil);have Yd:af (BP ml fs.length (fs.take (i+1)) q=BO ml fs.length fs[i].code (BP ml fs.length (fs.take i) q)):=Qg _ _ _ _ _ hil;generalize BP ml fs.length (fs.take i) q=q1 at *;generalize fs[i]=f at *;generalize vs[i]=vC at *;obtain⟨nm,code⟩:=f;simp only at *;obtain⟨oC,cC,rfl,_⟩:=pF.view;have PM:=ai pF;clear Cw pF;go_wp2_with fail;have dw:af (aa ae wr (wr.alloc (.cells #[.string (T nm),.slice oC code.length cC] 96))):=aj;generalize wr.alloc (.cells #[.string (T nm),.slice oC code.length cC] 96)=w2 at *;obtain⟨wQ,hwQ⟩:∃wQ,wQ=wr:=⟨_,rfl⟩
   rw[<-hwQ]at dw HN PM;clear hwQ c0 c1';go_loopg [18] code.length (λg iv wx=>∃j:Nat,iv=.int .i64 j/\uz wQ rb (BO ml fs.length (code.take j) q1) wx/\j<=code.length/\g=code.length-j)
   case atStart=>exact⟨0,rfl,uz.quiet ⟨HN.o.rd,ax⟩ dw.o,an _,rfl⟩
   case round =>
    obtain⟨j,rfl,hN2,hj,rfl⟩:=hrel;have Cz:=ai hN2;clear hN2;by_cases hjl:j<code.length
    ·have hN1:uz wQ rb (BO ml fs.length (code.take j) q1) wr:=Cz.o;have HWQ:af (aa (Only rb) w wr):=(HWB.o.trans HN.o.md).trans hN1.md;have acu:Sl wr 138 8 (.slice oC code.length cC) code.length (xe bs code):=PM.o.ag hN1.md (λk hk e=>PM.o.au HN.o.rd (by decide) (hk.trans (congrArg some e)));obtain⟨g,rfl,hg,y0,y1,y2,y3,y4,y5,y6,y7⟩:=kZ acu rfl rfl j hjl;have hx:=uH.o code[j] (ab hjl);have HAT:af (∀w',aa ae wr w'->bY w' (bs[code[j].k]?.getD 0) code[j].o):=λw' m=>jI ((HT.o wr _ ⟨hN1.rd,HWQ.o⟩).ag m) code[j] hx.k;have HTC:af (BO ml fs.length (code.take (j+1)) q1=Yc ml fs.length code[j] (BO ml fs.length (code.take j) q1)):=Qf _ _ _ _ _ hjl;have HNI:af (∀r,Yc ml fs.length code[j] r=if(if code[j].s=1 then code[j].o.aO else 0)=1 then aI (tJ code[j].num fs.length) r else if(if code[j].s=1 then code[j].o.aO else 0)=2 then aI (tJ code[j].num ml) r else r):=λr=>rfl;rw[HNI.o]at HTC;have hrf:(if code[j].s=1 then code[j].o.aO else 0)<=1000:=by have:=hx.refs;split<;>omega
     have hn1:=hx.n;clear HNI hx acu hN1;generalize BO ml fs.length (code.take j) q1=q2 at *;generalize code[j].o=o at *;generalize code[j].jump=jmp at *;generalize code[j].d=xd at *;generalize code[j].s=xs at *;generalize code[j].num=xn at *;generalize code[j].high=xh at *;generalize T code[j].name=xm at *;generalize bs[code[j].k]?.getD 0=bo at *;have AY:af (∀w',aa ae wr w'->Calls prog 84 #[.agg #[.pointer (some ⟨bo,0,none⟩),.int .u8 xd,.int .u8 xs,.int .i16 jmp,.int .i32 xn,.int .i32 xh,.string ByteArray.empty,.string xm]] w' λe w2=>e=.returned (.int .i64 ((if xs=1 then o.aO else 0:Nat):Int))/\aa ae w' w2):=λw' m=>jJ w' bo o (HAT.o w' m) xd xs xn xh jmp _ xm;generalize(if xs=1 then o.aO else 0)=rf at *;have hbx:=ak.new wr #[.pointer (some ⟨bo,0,none⟩),.int .u8 xd,.int .u8 xs,.int .i16 jmp,.int .i32 xn,.int .i32 xh,.string ByteArray.empty,.string xm] 138;have HMx:af (aa ae wr (wr.alloc (.cells #[.pointer (some ⟨bo,0,none⟩),.int .u8 xd,.int .u8 xs,.int .i16 jmp,.int .i32 xn,.int .i32 xh,.string ByteArray.empty,.string xm] 138))):=aj;go_wp2_with fail;refine(AY.o _ HMx.o).mono ?_;rintro e w5 ⟨rfl,m5⟩;have iT:af (ak w5 wr.heap.size #[.pointer (some ⟨bo,0,none⟩),.int .u8 xd,.int .u8 xs,.int .i16 jmp,.int .i32 xn,.int .i32 xh,.string ByteArray.empty,.string xm] 138):=hbx.ag m5 id;have Ye:=ai (Cz.o.quiet (HMx.o.trans m5));have z4:w5.cell? ⟨wr.heap.size,4,none⟩=some (.int .i32 xn):=iT.o.cell 4;have hbb:=Fe.o w5 q2 ⟨Ye.o.rd,HN.o.md.trans Ye.o.md⟩;obtain⟨bb0,bb1⟩:=hbb;clear hbx m5 y0 y1 y2 y3 y4 y5 y6 y7 AY HAT HMx Cz;by_cases r1:rf=1
     ·subst r1;rw[iP9 rfl]at HTC;go_wp2_with fail;refine(KS _ _ _ _ _ hn1.1 hn1.2 (by omega)).mono ?_;rintro e w6 ⟨rfl,rfl⟩;go_wp2_with fail;refine(bI rb q2 _ _ Ye.o.rd).mono ?_;rintro e w7 ⟨rfl,h7,m7⟩;have HN7:=ai (Ye.o.read h7 m7);clear h7 m7 z4 bb0 bb1 iT Ye;go_wp2_with fail;go_roundg (code.length-(j+1))
      case measure=>omega
      case rel=>exact⟨j+1,by go_num,by rw[HTC.o];exact HN7.o,by omega,rfl⟩
     ·by_cases r2:rf=2
      ·subst r2;rw[iN9 (by decide),iP9 rfl]at HTC;go_wp2_with fail;refine(KT _ _ _ _ _ hn1.1 hn1.2 (by omega)).mono ?_;rintro e w6 ⟨rfl,rfl⟩;go_wp2_with fail;refine(bI rb q2 _ _ Ye.o.rd).mono ?_;rintro e w7 ⟨rfl,h7,m7⟩;have HN7:=ai (Ye.o.read h7 m7);clear h7 m7 z4 bb0 bb1 iT Ye;go_wp2_with fail;go_roundg (code.length-(j+1))
       case measure=>omega
       case rel=>exact⟨j+1,by go_num,by rw[HTC.o];exact HN7.o,by omega,rfl⟩
      ·have d1:decide ((rf:Int)=1)=false:=decide_eq_false (by omega);have d2:decide ((rf:Int)=2)=false:=decide_eq_false (by omega);rw[iN9 r1,iN9 r2]at HTC;go_wp2_with fail;go_roundg (code.length-(j+1))
       case measure=>omega
       case rel=>exact⟨j+1,by go_num,by rw[HTC.o];exact Ye.o,by omega,rfl⟩
    ·obtain rfl:j=code.length:=by omega
     go_wp2_with fail;go_roundg (fs.length-(i+1))
     case measure=>omega
     case rel =>refine⟨i+1,by go_num,?_,by omega,rfl⟩;have hN3:=Cz.o;rw[al (ao _)]at hN3;rw[Yd.o];exact⟨hN3.rd,HN.o.md.trans hN3.md⟩
  ·obtain rfl:i=fs.length:=by omega
   go_wp2_with fail;go_end0;have hN3:=HN.o;rw[al (ao _)]at hN3;exact⟨rfl,hN3.rd,HWB.o.trans hN3.md⟩
def dP(s:tLB):List az×List aS×PR :=
 let a:=bU 4 ⟨s,false⟩
 let r1:=aI (a.1==[83,80,79,76]) a.2
 let b:=oneP r1
 let r2:=aI (decide (b.1=2)) b.2
 let c:=oneP r2
 let m:=mapsP c.1 (aI (decide (c.1<=8)) c.2) [] []
 let f:=jH m.2
 let g:=BP m.1.length f.1.length f.1 f.2
 (m.1,f.1,aI (g.rest==[]) g)
theorem Iw(w:tW)(wT:tW)(tv:Value)(bs:List Nat)(hT:aH 0 wT tv bs aq)(mT:aa ae wT w)(s:tLB)(hs:s.length<=maxLen):Calls prog 61 #[tv,.int .i64 2,.string (T s),.func (.func 62) #[] #[]] w λe w'=>mZ w bs (dP s) e w' :=
 akH 2 62 (enters_of func62 (by kernel_rfl) rfl) w wT tv bs hT mT s hs (BP (E5 2 s).1.length (E5 2 s).2.1.length (E5 2 s).2.1 (E5 2 s).2.2) (fun⟨m5,f6,c6,_⟩ w b o1 c1 vF vs h m hb hF=>Iu wT w tv bs hT m b hb _ h o1 _ c1 m5 vF _ vs hF (by omega) c6)
theorem KU(w:tW)(wT:tW)(tv:Value)(bs:List Nat)(hT:aH 0 wT tv bs aq)(mT:aa ae wT w)(s:tLB)(hs:s.length<=maxLen):Calls prog 36 #[tv,.string (T s)] w λe w'=>mZ w bs (dP s) e w':=by
 have HD:af (∀w',aa ae w w'->Calls prog 61 #[tv,.int .i64 2,.string (T s),.func (.func 62) #[] #[]] w' λe w''=>mZ w' bs (dP s) e w''):=λw' m=>Iw w' wT tv bs hT (mT.trans m) s hs;clear hT mT;generalize dP s=d at *;have hB:ak (w.alloc (.cells #[.slice none 0 0,.slice none 0 0] 90)) w.heap.size #[.slice none 0 0,.slice none 0 0] 90:=ak.new _ _ _;have HB:=ai hB;clear hB;go_enter func36,ntmps36;go_wp2_with fail;refine(HD.o _ aj).mono ?_;rintro e w1 ⟨vM,vF,vs,rfl,m1,⟨oM,nM,cM,oF,nF,cF,rfl,rfl⟩,hgood⟩;have hB1:=HB.o.ag m1 id;have HB1:=ai hB1;have g0:w1.cell? ⟨w.heap.size,0,none⟩=some (.slice none 0 0):=hB1.cell 0;have g1:w1.cell? ⟨w.heap.size,1,none⟩=some (.slice none 0 0):=hB1.cell 1;have fg:=hB1.frozen;have dh:af (aa ae w w1):=aj.trans m1;have HG:af _:=hgood;clear m1 hB1 hgood;have eZ:af (aa (Only w.heap.size) w1 ((w1.setCell ⟨w.heap.size,0,none⟩ (.slice oM nM cM)).setCell ⟨w.heap.size,1,none⟩ (.slice oF nF cF))):=(ax.aY _ _).aY _ _;have Pm:af (ak ((w1.setCell ⟨w.heap.size,0,none⟩ (.slice oM nM cM)).setCell ⟨w.heap.size,1,none⟩ (.slice oF nF cF)) w.heap.size #[.slice oM nM cM,.slice oF nF cF] 90):=(HB1.o.set 0 _).set 1 _;go_wp2_with fail;refine bodyPost_ret (aw results36 _ _ w.heap.size 90 _ (0,0) _ (.bool (!d.2.2.bad)) rfl rfl Pm.o underlying90 rfl (by kernel_rfl)) rfl ?_;refine⟨.slice oM nM cM,.slice oF nF cF,vs,rfl,dh.o.step eZ.o (λi hi e=>by have:i=w.heap.size:=e;omega),⟨_,_,_,_,_,_,rfl,rfl⟩,λhb=>?_⟩;obtain⟨hM,hF⟩:=HG.o hb;have hws:(w.alloc (.cells #[.slice none 0 0,.slice none 0 0] 90)).heap.size=w.heap.size+1:=by simp
 rw[hws]at hF;exact⟨hM.ag eZ.o (λk hk e=>hM.au HB1.o (by decide) (hk.trans (congrArg some e))),(hF.ag eZ.o (λk hk e=>by have:=hF.own k hk;have:k=w.heap.size:=e;omega) (λu hu k hk e=>by have:=hF.l8 u hu k hk;have:k=w.heap.size:=e;omega)).lower (by omega)⟩
