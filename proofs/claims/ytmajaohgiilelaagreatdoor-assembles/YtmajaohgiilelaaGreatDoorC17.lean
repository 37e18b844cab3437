import Derived.Test.YtmajaohgiilelaaGreatDoorC16
import Derived.Test.YtmajaohgiilelaaGreatDoorC06
namespace Go.Proofs.YtmajaohgiilelaaGreatDoor
open Go.RowKit Tryz
set_option linter.all false
set_option maxRecDepth 100000
set_option maxHeartbeats 2000000
theorem RW(a b:Nat)(p:DK)(x:aj)(word:tBA)(w:tW)(h:Pk w a p)(hx:aq w b x.cells 47)(hw:word.size<=1000000)(hk:aD word=114):Calls prog 35 #[.pointer (some ⟨a,0,none⟩),.pointer (some ⟨b,0,none⟩),.string word] w λe w'=>e=.returned (.tuple #[])/\PL w a b (p.qt (x.base word) (fM word)).1 (p.qt (x.base word) (fM word)).2 w':=by
 have HP:ae (PL w a b p x w):=PL.start h hx;have HS:ae (Calls prog 38 #[.string word] w λe w'=>e=.returned (.int .u8 114)/\aa af w w'):=by have:=eG word w (by unfold maxLen;omega);rw[hk]at this;exact this
 obtain⟨q,hq,hbase,hq2⟩:=abO word;have HO:ae (p.qt (x.base word) (fM word)=if fM word=NEG then(p.fF.2,{x.base word with i:={(x.base word).i with d:=p.fF.1}})else p.fF.2.then {x.base word with i:={(x.base word).i with d:=p.fF.1}}):=rfl;have HXB:ae (x.base word={x with i:={x.i with word:=fM word,is32:=q}}):=by rw[ae,aj.base,hq2]
 clear h hx hk;have hbl:fM word=if q then word.extract 0 (word.size-2)else word:=hbase
 generalize p.qt (x.base word) (fM word)=ox at *;generalize x.base word=xb at *;generalize fM word=base at *;have HQ:ae (q=decide (2<word.size/\word.extract (word.size-2) word.size=T [51,50])):=hq;have Yh:ae (base=if q then word.extract 0 (word.size-2)else word):=hbl;have qI:ae (decide (base≠word)=q):=hq2;clear hq hbase hbl hq2;go_enter func35,ntmps35;go_wp2_with fail;refine HS.o.mono ?_;rintro e w1 ⟨rfl,m1⟩;have fq:ae (PL w a b p x w1):=HP.o.quiet m1;clear HP HS m1;have x3:w1.cell? ⟨b,3,none⟩=some (.string x.i.word):=fq.o.ln.cell 3;have fb:=fq.o.ln.frozen;have eT:ae (PL w a b p {x with i:={x.i with word:=word}} (w1.setCell ⟨b,3,none⟩ (.string word))):=fq.o.set 3 _ rfl;go_upto_region 6 with fail;generalize w1.setCell ⟨b,3,none⟩ (.string word)=w2 at *;clear fq x3 fb;go_cut [36] (λv wx=>v=.bool q/\wx=w2)
 case first =>
  by_cases h2:2<word.size
  ·by_cases h32:word.extract (word.size-2) word.size=T [51,50]
   ·have HQ3:ae (q=true):=by rw[ae,HQ.o,decide_eq_true ⟨h2,h32⟩]
    have e1:=dX h32;clear h32 HQ;go_wp2_with fail;go_meet;exact⟨by rw[HQ3.o],rfl⟩
   ·have HQ3:ae (q=false):=by rw[ae,HQ.o,decide_eq_false (λe=>h32 e.2)]
    have e1:=dK h32;clear h32 HQ;go_wp2_with fail;go_meet;exact⟨by rw[HQ3.o],rfl⟩
  ·have HQ3:ae (q=false):=by rw[ae,HQ.o,decide_eq_false (λe=>h2 e.1)]
   have h2':decide (2<(word.size:Int))=false:=by simp;omega
   clear HQ;go_wp2_with fail;go_meet;exact⟨by rw[HQ3.o],rfl⟩
 case rest =>
 obtain⟨rfl,rfl⟩:=hcut;go_upto_if 36 with fail;go_cut [7] (λv wx=>v=.string base/\wx=wc)
 case first =>
  cases q with
  |true =>have HB2:ae (base=word.extract 0 (word.size-2)):=Yh.o;have h2:2<word.size:=(of_decide_eq_true HQ.o.symm).1;clear Yh HQ;go_wp2_with fail;go_meet;exact⟨by rw[HB2.o],rfl⟩
  |false =>have HB2:ae (base=word):=Yh.o;clear Yh HQ;go_wp2_with fail;go_meet;exact⟨by rw[HB2.o],rfl⟩
 case rest =>
 obtain⟨rfl,rfl⟩:=hcut
 have hbq:(base.toList==word.toList)=!q:=by
  rw[<-qI.o];by_cases e:base=word
  ·rw[uM e,decide_eq_false (λh=>h e)];rfl
  ·rw[mV e,decide_eq_true e];rfl
 clear Yh HQ qI;have x3:wc.cell? ⟨b,3,none⟩=some (.string word):=eT.o.ln.cell 3;have x4:wc.cell? ⟨b,4,none⟩=some (.bool x.i.is32):=eT.o.ln.cell 4;have fb:=eT.o.ln.frozen;have mr:ae (PL w a b p xb ((wc.setCell ⟨b,4,none⟩ (.bool q)).setCell ⟨b,3,none⟩ (.string base))):=by rw[HXB.o];exact(eT.o.set (y:={x with i:={x.i with word:=word,is32:=q}}) 4 _ rfl).set 3 _ rfl
 go_upto_region 10 with fail;generalize(wc.setCell ⟨b,4,none⟩ (.bool q)).setCell ⟨b,3,none⟩ (.string base)=w3 at *;clear eT x3 x4 fb hbq HXB;have hP3:=mr.o;go_wp2_with fail;refine(wo w a b p xb w3 hP3).mono ?_;rintro e w4 ⟨rfl,h4⟩;clear hP3 mr;generalize p.fF=rq at *;obtain⟨r,p1⟩:=rq;simp only at *;have xB:ae (PL w a b p1 xb w4):=h4;clear h4;have x5:w4.cell? ⟨b,5,none⟩=some (.int .i64 xb.i.d):=xB.o.ln.cell 5;have fb:=xB.o.ln.frozen;have E9:ae (PL w a b p1 {xb with i:={xb.i with d:=r}} (w4.setCell ⟨b,5,none⟩ (.int .i64 r))):=xB.o.set 5 _ rfl;go_upto_region 11 with fail;generalize w4.setCell ⟨b,5,none⟩ (.int .i64 r)=w5 at *;clear xB x5 fb;by_cases hneg:base=NEG
 ·have qM:ae (ox=(p1,{xb with i:={xb.i with d:=r}})):=by rw[ae,HO.o,iP9 hneg]
  have hb1:=dX hneg;clear hneg HO;go_wp2_with fail;go_end0;rw[qM.o];exact⟨rfl,E9.o⟩
 ·have qM:ae (ox=p1.then {xb with i:={xb.i with d:=r}}):=by rw[ae,HO.o,iN9 hneg]
  have hb1:=dK hneg;clear hneg HO;generalize({xb with i:={xb.i with d:=r}}:aj)=y at *;have hP5:=E9.o;go_wp2_with fail;refine(lU w a b p1 y 44 w5 hP5).mono ?_;rintro e w6 ⟨⟨v6,rfl⟩,h6⟩;clear hP5 E9;have sW:ae (PL w a b (p1.take 44).2 y w6):=h6;clear h6;go_wp2_with fail;refine(uY w a b (p1.take 44).2 y w6 sW.o).mono ?_;rintro e w7 ⟨rfl,h7⟩;have AJ:ae (PL w a b ((p1.take 44).2.other y).1 ((p1.take 44).2.other y).2 w7):=h7;clear h7 sW;go_wp2_with fail;go_end0;rw[qM.o];exact⟨rfl,AJ.o⟩
theorem DK.AO{p:DK}(h:p.Small):p.fF.2.Small:=DK.Dy (DK.jk h 110).2 _
theorem DK.KM{p:DK}(h:p.Small)(x:aj):(p.other x).1.Small:=by
 unfold DK.other;split
 ·exact(DK.jk h 100).2
 ·exact DK.AO h
theorem RX(a b:Nat)(p:DK)(x:aj)(word:tBA)(w:tW)(h:Pk w a p)(hx:aq w b x.cells 47)(hw:word.size<=1000000)(hs:p.Small)(hk:aD word=106):Calls prog 35 #[.pointer (some ⟨a,0,none⟩),.pointer (some ⟨b,0,none⟩),.string word] w λe w'=>e=.returned (.tuple #[])/\PL w a b (p.Fa (x.word word) word).1 (p.Fa (x.word word) word).2 w':=by
 have HP:ae (PL w a b p x w):=PL.start h hx;have HS:ae (Calls prog 38 #[.string word] w λe w'=>e=.returned (.int .u8 106)/\aa af w w'):=by have:=eG word w (by unfold maxLen;omega);rw[hk]at this;exact this
 obtain⟨y,hy⟩:∃y,y=x.word word:=⟨_,rfl⟩
 have HY:ae (y=x.word word):=hy;rw[<-hy];have HO:ae (p.Fa y word=if word=JA then p.named y else((p.fF.2.then {y with i:={y.i with d:=p.fF.1}}).1.take 44).2.named (p.fF.2.then {y with i:={y.i with d:=p.fF.1}}).2):=rfl;clear h hx hk hy;generalize p.Fa y word=ox at *;go_enter func35,ntmps35;go_wp2_with fail;refine HS.o.mono ?_;rintro e w1 ⟨rfl,m1⟩;have fq:ae (PL w a b p x w1):=HP.o.quiet m1;clear HP HS m1;have x3:w1.cell? ⟨b,3,none⟩=some (.string x.i.word):=fq.o.ln.cell 3;have fb:=fq.o.ln.frozen;have eT:ae (PL w a b p y (w1.setCell ⟨b,3,none⟩ (.string word))):=by rw[HY.o];exact fq.o.set 3 _ rfl
 go_upto_region 2 with fail;generalize w1.setCell ⟨b,3,none⟩ (.string word)=w2 at *;clear fq x3 fb HY;have Gx:ae p.Small:=hs;clear hs;by_cases hja:word=JA
 ·have qM:ae (ox=p.named y):=by rw[ae,HO.o,iP9 hja]
  have HN:ae (p.named y=(p.name.2,{y with i:={y.i with label:=p.name.1}})):=rfl;have hb1:=dX hja;clear hja HO;generalize p.named y=ny at *;have hP2:=eT.o;go_wp2_with fail;refine(o8 w a b p y w2 hP2 Gx.o).mono ?_;rintro e w3 ⟨rfl,h3⟩;clear hP2 eT;generalize p.name=nq at *;obtain⟨nm,p3⟩:=nq;simp only at *;have mr:ae (PL w a b p3 y w3):=h3;clear h3;have xc:w3.cell? ⟨b,9,none⟩=some (.string y.i.label):=mr.o.ln.cell 9;have fb:=mr.o.ln.frozen;have xB:ae (PL w a b p3 {y with i:={y.i with label:=nm}} (w3.setCell ⟨b,9,none⟩ (.string nm))):=mr.o.set 9 _ rfl;go_wp2_with fail;go_end0;rw[qM.o,HN.o];exact⟨rfl,xB.o⟩
 ·have qM:ae (ox=((p.fF.2.then {y with i:={y.i with d:=p.fF.1}}).1.take 44).2.named (p.fF.2.then {y with i:={y.i with d:=p.fF.1}}).2):=by rw[ae,HO.o,iN9 hja]
  have hb1:=dK hja;clear hja HO;have VK:ae p.fF.2.Small:=DK.AO Gx.o;clear Gx;have hP2:=eT.o;go_wp2_with fail;refine(wo w a b p y w2 hP2).mono ?_;rintro e w3 ⟨rfl,h3⟩;clear hP2 eT;generalize p.fF=rq at *;obtain⟨r,p1⟩:=rq;simp only at *;have mr:ae (PL w a b p1 y w3):=h3;clear h3;have x5:w3.cell? ⟨b,5,none⟩=some (.int .i64 y.i.d):=mr.o.ln.cell 5;have fb:=mr.o.ln.frozen;have xB:ae (PL w a b p1 {y with i:={y.i with d:=r}} (w3.setCell ⟨b,5,none⟩ (.int .i64 r))):=mr.o.set 5 _ rfl;go_upto_region 17 with fail;generalize w3.setCell ⟨b,5,none⟩ (.int .i64 r)=w4 at *;clear mr x5 fb;generalize({y with i:={y.i with d:=r}}:aj)=y4 at *;have hP4:=xB.o;go_wp2_with fail;refine(lU w a b p1 y4 44 w4 hP4).mono ?_;rintro e w5 ⟨⟨v5,rfl⟩,h5⟩;clear hP4 xB;have RY:ae (p1.take 44).2.Small:=(DK.jk VK.o 44).2;have HO3:ae (ox=(((p1.take 44).2.other y4).1.take 44).2.named ((p1.take 44).2.other y4).2):=qM.o;clear qM VK;generalize(p1.take 44).2=p5 at *;have E9:ae (PL w a b p5 y4 w5):=h5;clear h5;go_wp2_with fail;refine(uY w a b p5 y4 w5 E9.o).mono ?_;rintro e w6 ⟨rfl,h6⟩;have VL:ae (p5.other y4).1.Small:=DK.KM RY.o y4;clear RY E9;generalize p5.other y4=po at *;obtain⟨p6,y6⟩:=po;simp only at *;have sW:ae (PL w a b p6 y6 w6):=h6;clear h6;go_wp2_with fail;refine(lU w a b p6 y6 44 w6 sW.o).mono ?_;rintro e w7 ⟨⟨v7,rfl⟩,h7⟩;have abP:ae (p6.take 44).2.Small:=(DK.jk VL.o 44).2;clear sW VL;generalize(p6.take 44).2=p7 at *;have AJ:ae (PL w a b p7 y6 w7):=h7;clear h7;have HN:ae (p7.named y6=(p7.name.2,{y6 with i:={y6.i with label:=p7.name.1}})):=rfl;generalize p7.named y6=ny at *;have hP7:=AJ.o;go_wp2_with fail;refine(o8 w a b p7 y6 w7 hP7 abP.o).mono ?_;rintro e w8 ⟨rfl,h8⟩;clear hP7 AJ;generalize p7.name=nq at *;obtain⟨nm,p8⟩:=nq;simp only at *;have Vo:ae (PL w a b p8 y6 w8):=h8;clear h8;have xc:w8.cell? ⟨b,9,none⟩=some (.string y6.i.label):=Vo.o.ln.cell 9;have fb:=Vo.o.ln.frozen;have Gy:ae (PL w a b p8 {y6 with i:={y6.i with label:=nm}} (w8.setCell ⟨b,9,none⟩ (.string nm))):=Vo.o.set 9 _ rfl;go_wp2_with fail;go_end0;rw[HO3.o,HN.o];exact⟨rfl,Gy.o⟩
theorem RZ(a b:Nat)(p:DK)(x:aj)(word:tBA)(w:tW)(h:Pk w a p)(hx:aq w b x.cells 47)(hw:word.size<=1000000)(hk:aD word=108):Calls prog 35 #[.pointer (some ⟨a,0,none⟩),.pointer (some ⟨b,0,none⟩),.string word] w λe w'=>e=.returned (.tuple #[])/\PL w a b (p.mK (x.word word)).1 (p.mK (x.word word)).2 w':=by
 have HP:ae (PL w a b p x w):=PL.start h hx;have HS:ae (Calls prog 38 #[.string word] w λe w'=>e=.returned (.int .u8 108)/\aa af w w'):=by have:=eG word w (by unfold maxLen;omega);rw[hk]at this;exact this
 obtain⟨y,hy⟩:∃y,y=x.word word:=⟨_,rfl⟩
 have HY:ae (y=x.word word):=hy;rw[<-hy];have HO:ae (p.mK y=(((p.fF.2.take 44).2.brackets {y with i:={y.i with d:=p.fF.1}}).2.1,{((p.fF.2.take 44).2.brackets {y with i:={y.i with d:=p.fF.1}}).2.2 with i:={((p.fF.2.take 44).2.brackets {y with i:={y.i with d:=p.fF.1}}).2.2.i with s:=((p.fF.2.take 44).2.brackets {y with i:={y.i with d:=p.fF.1}}).1}})):=rfl;clear h hx hk hy;generalize p.mK y=ox at *;go_enter func35,ntmps35;go_wp2_with fail;refine HS.o.mono ?_;rintro e w1 ⟨rfl,m1⟩;have fq:ae (PL w a b p x w1):=HP.o.quiet m1;clear HP HS m1;have x3:w1.cell? ⟨b,3,none⟩=some (.string x.i.word):=fq.o.ln.cell 3;have fb:=fq.o.ln.frozen;have eT:ae (PL w a b p y (w1.setCell ⟨b,3,none⟩ (.string word))):=by rw[HY.o];exact fq.o.set 3 _ rfl
 go_upto_region 2 with fail;generalize w1.setCell ⟨b,3,none⟩ (.string word)=w2 at *;clear fq x3 fb HY;have hP2:=eT.o;go_wp2_with fail;refine(wo w a b p y w2 hP2).mono ?_;rintro e w3 ⟨rfl,h3⟩;clear hP2 eT;generalize p.fF=rq at *;obtain⟨r,p1⟩:=rq;simp only at *;have mr:ae (PL w a b p1 y w3):=h3;clear h3;have x5:w3.cell? ⟨b,5,none⟩=some (.int .i64 y.i.d):=mr.o.ln.cell 5;have fb:=mr.o.ln.frozen;have xB:ae (PL w a b p1 {y with i:={y.i with d:=r}} (w3.setCell ⟨b,5,none⟩ (.int .i64 r))):=mr.o.set 5 _ rfl;go_upto_region 23 with fail;generalize w3.setCell ⟨b,5,none⟩ (.int .i64 r)=w4 at *;clear mr x5 fb;generalize({y with i:={y.i with d:=r}}:aj)=y4 at *;have hP4:=xB.o;go_wp2_with fail;refine(lU w a b p1 y4 44 w4 hP4).mono ?_;rintro e w5 ⟨⟨v5,rfl⟩,h5⟩;clear hP4 xB;generalize(p1.take 44).2=p5 at *;have E9:ae (PL w a b p5 y4 w5):=h5;clear h5;go_wp2_with fail;refine(BJ w a b p5 y4 w5 E9.o).mono ?_;rintro e w6 ⟨rfl,h6⟩;clear E9;generalize p5.brackets y4=po at *;obtain⟨r6,p6,y6⟩:=po;simp only at *;have sW:ae (PL w a b p6 y6 w6):=h6;clear h6;have x6:w6.cell? ⟨b,6,none⟩=some (.int .i64 y6.i.s):=sW.o.ln.cell 6;have fb:=sW.o.ln.frozen;have AJ:ae (PL w a b p6 {y6 with i:={y6.i with s:=r6}} (w6.setCell ⟨b,6,none⟩ (.int .i64 r6))):=sW.o.set 6 _ rfl;go_wp2_with fail;go_end0;rw[HO.o];exact⟨rfl,AJ.o⟩
theorem R3(a b:Nat)(p:DK)(x:aj)(word:tBA)(w:tW)(h:Pk w a p)(hx:aq w b x.cells 47)(hw:word.size<=1000000)(hk:aD word=115):Calls prog 35 #[.pointer (some ⟨a,0,none⟩),.pointer (some ⟨b,0,none⟩),.string word] w λe w'=>e=.returned (.tuple #[])/\PL w a b (p.RU (x.word word)).1 (p.RU (x.word word)).2 w':=by
 have HP:ae (PL w a b p x w):=PL.start h hx;have HS:ae (Calls prog 38 #[.string word] w λe w'=>e=.returned (.int .u8 115)/\aa af w w'):=by have:=eG word w (by unfold maxLen;omega);rw[hk]at this;exact this
 obtain⟨y,hy⟩:∃y,y=x.word word:=⟨_,rfl⟩
 have HY:ae (y=x.word word):=hy;rw[<-hy];have HO:ae (p.RU y=(p.brackets y).2.1.then {(p.brackets y).2.2 with i:={(p.brackets y).2.2.i with d:=(p.brackets y).1}}):=rfl;clear h hx hk hy;generalize p.RU y=ox at *;go_enter func35,ntmps35;go_wp2_with fail;refine HS.o.mono ?_;rintro e w1 ⟨rfl,m1⟩;have fq:ae (PL w a b p x w1):=HP.o.quiet m1;clear HP HS m1;have x3:w1.cell? ⟨b,3,none⟩=some (.string x.i.word):=fq.o.ln.cell 3;have fb:=fq.o.ln.frozen;have eT:ae (PL w a b p y (w1.setCell ⟨b,3,none⟩ (.string word))):=by rw[HY.o];exact fq.o.set 3 _ rfl
 go_upto_region 2 with fail;generalize w1.setCell ⟨b,3,none⟩ (.string word)=w2 at *;clear fq x3 fb HY;have hP2:=eT.o;go_wp2_with fail;refine(BJ w a b p y w2 hP2).mono ?_;rintro e w6 ⟨rfl,h6⟩;clear eT hP2;generalize p.brackets y=po at *;obtain⟨r6,p6,y6⟩:=po;simp only at *;have sW:ae (PL w a b p6 y6 w6):=h6;clear h6;have x5:w6.cell? ⟨b,5,none⟩=some (.int .i64 y6.i.d):=sW.o.ln.cell 5;have fb:=sW.o.ln.frozen;have AJ:ae (PL w a b p6 {y6 with i:={y6.i with d:=r6}} (w6.setCell ⟨b,5,none⟩ (.int .i64 r6))):=sW.o.set 5 _ rfl;go_upto_region 27 with fail;generalize w6.setCell ⟨b,5,none⟩ (.int .i64 r6)=w7 at *;clear sW x5 fb;generalize({y6 with i:={y6.i with d:=r6}}:aj)=y7 at *;have hP7:=AJ.o;go_wp2_with fail;refine(lU w a b p6 y7 44 w7 hP7).mono ?_;rintro e w8 ⟨⟨v8,rfl⟩,h8⟩;clear hP7 AJ;have qM:ae (ox=(p6.take 44).2.other y7):=HO.o;clear HO;generalize(p6.take 44).2=p8 at *;have Vo:ae (PL w a b p8 y7 w8):=h8;clear h8;go_wp2_with fail;refine(uY w a b p8 y7 w8 Vo.o).mono ?_;rintro e w9 ⟨rfl,h9⟩;have Gy:ae (PL w a b (p8.other y7).1 (p8.other y7).2 w9):=h9;clear h9 Vo;go_wp2_with fail;go_end0;rw[qM.o];exact⟨rfl,Gy.o⟩
theorem R4(a b:Nat)(p:DK)(x:aj)(word:tBA)(w:tW)(h:Pk w a p)(hx:aq w b x.cells 47)(hw:word.size<=1000000)(hs:p.Small)(hk:aD word=99):Calls prog 35 #[.pointer (some ⟨a,0,none⟩),.pointer (some ⟨b,0,none⟩),.string word] w λe w'=>e=.returned (.tuple #[])/\PL w a b (p.RV (x.word word)).1 (p.RV (x.word word)).2 w':=by
 have HP:ae (PL w a b p x w):=PL.start h hx;have HS:ae (Calls prog 38 #[.string word] w λe w'=>e=.returned (.int .u8 99)/\aa af w w'):=by have:=eG word w (by unfold maxLen;omega);rw[hk]at this;exact this
 obtain⟨y,hy⟩:∃y,y=x.word word:=⟨_,rfl⟩
 have HY:ae (y=x.word word):=hy;rw[<-hy];have HO:ae (p.RV y=(p.name.2,{y with i:={y.i with name:=p.name.1}})):=rfl;clear h hx hk hy;generalize p.RV y=ox at *;go_enter func35,ntmps35;go_wp2_with fail;refine HS.o.mono ?_;rintro e w1 ⟨rfl,m1⟩;have fq:ae (PL w a b p x w1):=HP.o.quiet m1;clear HP HS m1;have x3:w1.cell? ⟨b,3,none⟩=some (.string x.i.word):=fq.o.ln.cell 3;have fb:=fq.o.ln.frozen;have eT:ae (PL w a b p y (w1.setCell ⟨b,3,none⟩ (.string word))):=by rw[HY.o];exact fq.o.set 3 _ rfl
 go_upto_region 2 with fail;generalize w1.setCell ⟨b,3,none⟩ (.string word)=w2 at *;clear fq x3 fb HY;have Gx:ae p.Small:=hs;clear hs;have hP2:=eT.o;go_wp2_with fail;refine(o8 w a b p y w2 hP2 Gx.o).mono ?_;rintro e w3 ⟨rfl,h3⟩;clear hP2 eT;generalize p.name=nq at *;obtain⟨nm,p3⟩:=nq;simp only at *;have mr:ae (PL w a b p3 y w3):=h3;clear h3;have xc:w3.cell? ⟨b,10,none⟩=some (.string y.i.name):=mr.o.ln.cell 10;have fb:=mr.o.ln.frozen;have xB:ae (PL w a b p3 {y with i:={y.i with name:=nm}} (w3.setCell ⟨b,10,none⟩ (.string nm))):=mr.o.set 10 _ rfl;go_wp2_with fail;go_end0;rw[HO.o];exact⟨rfl,xB.o⟩
theorem R5(a b:Nat)(p:DK)(x:aj)(word:tBA)(w:tW)(h:Pk w a p)(hx:aq w b x.cells 47)(hw:word.size<=1000000)(hk:aD word=101):Calls prog 35 #[.pointer (some ⟨a,0,none⟩),.pointer (some ⟨b,0,none⟩),.string word] w λe w'=>e=.returned (.tuple #[])/\PL w a b p (x.word word) w':=by
 have HP:ae (PL w a b p x w):=PL.start h hx;have HS:ae (Calls prog 38 #[.string word] w λe w'=>e=.returned (.int .u8 101)/\aa af w w'):=by have:=eG word w (by unfold maxLen;omega);rw[hk]at this;exact this
 obtain⟨y,hy⟩:∃y,y=x.word word:=⟨_,rfl⟩
 have HY:ae (y=x.word word):=hy;rw[<-hy];clear h hx hk hy;go_enter func35,ntmps35;go_wp2_with fail;refine HS.o.mono ?_;rintro e w1 ⟨rfl,m1⟩;have fq:ae (PL w a b p x w1):=HP.o.quiet m1;clear HP HS m1;have x3:w1.cell? ⟨b,3,none⟩=some (.string x.i.word):=fq.o.ln.cell 3;have fb:=fq.o.ln.frozen;have eT:ae (PL w a b p y (w1.setCell ⟨b,3,none⟩ (.string word))):=by rw[HY.o];exact fq.o.set 3 _ rfl
 go_upto_region 2 with fail;generalize w1.setCell ⟨b,3,none⟩ (.string word)=w2 at *;clear fq x3 fb HY;go_wp2_with fail;go_end0;exact⟨rfl,eT.o⟩
theorem R6(a b:Nat)(p:DK)(x:aj)(word:tBA)(w:tW)(h:Pk w a p)(hx:aq w b x.cells 47)(hw:word.size<=1000000)(hk:aD word=0):Calls prog 35 #[.pointer (some ⟨a,0,none⟩),.pointer (some ⟨b,0,none⟩),.string word] w λe w'=>e=.returned (.tuple #[])/\PL w a b (p.fail true) (x.word word) w':=by
 have HP:ae (PL w a b p x w):=PL.start h hx;have HS:ae (Calls prog 38 #[.string word] w λe w'=>e=.returned (.int .u8 0)/\aa af w w'):=by have:=eG word w (by unfold maxLen;omega);rw[hk]at this;exact this
 obtain⟨y,hy⟩:∃y,y=x.word word:=⟨_,rfl⟩
 have HY:ae (y=x.word word):=hy;rw[<-hy];clear h hx hk hy;go_enter func35,ntmps35;go_wp2_with fail;refine HS.o.mono ?_;rintro e w1 ⟨rfl,m1⟩;have fq:ae (PL w a b p x w1):=HP.o.quiet m1;clear HP HS m1;have x3:w1.cell? ⟨b,3,none⟩=some (.string x.i.word):=fq.o.ln.cell 3;have fb:=fq.o.ln.frozen;have eT:ae (PL w a b p y (w1.setCell ⟨b,3,none⟩ (.string word))):=by rw[HY.o];exact fq.o.set 3 _ rfl
 go_upto_region 2 with fail;generalize w1.setCell ⟨b,3,none⟩ (.string word)=w2 at *;clear fq x3 fb HY;have fa:=eT.o.pk.facts.2;have a1:=eT.o.pk.facts.1;have mr:ae (PL w a b (p.fail true) y (w2.setCell ⟨a,1,none⟩ (.bool true))):=by rw[DK.ou];exact eT.o.bad
 go_wp2_with fail;go_end0;exact⟨rfl,mr.o⟩
theorem R7(a b:Nat)(p:DK)(x:aj)(word:tBA)(w:tW)(h:Pk w a p)(hx:aq w b x.cells 47)(hw:word.size<=1000000)(hs:p.Small)(hk:aD word=119):Calls prog 35 #[.pointer (some ⟨a,0,none⟩),.pointer (some ⟨b,0,none⟩),.string word] w λe w'=>e=.returned (.tuple #[])/\PL w a b (p.KL (x.word word)).1 (p.KL (x.word word)).2 w':=by
 have HP:ae (PL w a b p x w):=PL.start h hx;have HS:ae (Calls prog 38 #[.string word] w λe w'=>e=.returned (.int .u8 119)/\aa af w w'):=by have:=eG word w (by unfold maxLen;omega);rw[hk]at this;exact this
 obtain⟨y,hy⟩:∃y,y=x.word word:=⟨_,rfl⟩
 have HY:ae (y=x.word word):=hy;rw[<-hy];have HO:ae (p.KL y=(p.fF.2.take 44).2.wide {y with i:={y.i with d:=p.fF.1}}):=rfl;clear h hx hk hy;generalize p.KL y=ox at *;go_enter func35,ntmps35;go_wp2_with fail;refine HS.o.mono ?_;rintro e w1 ⟨rfl,m1⟩;have fq:ae (PL w a b p x w1):=HP.o.quiet m1;clear HP HS m1;have x3:w1.cell? ⟨b,3,none⟩=some (.string x.i.word):=fq.o.ln.cell 3;have fb:=fq.o.ln.frozen;have eT:ae (PL w a b p y (w1.setCell ⟨b,3,none⟩ (.string word))):=by rw[HY.o];exact fq.o.set 3 _ rfl
 go_upto_region 2 with fail;generalize w1.setCell ⟨b,3,none⟩ (.string word)=w2 at *;clear fq x3 fb HY;have VK:ae p.fF.2.Small:=DK.AO hs;clear hs;have hP2:=eT.o;go_wp2_with fail;refine(wo w a b p y w2 hP2).mono ?_;rintro e w3 ⟨rfl,h3⟩;clear hP2 eT;generalize p.fF=rq at *;obtain⟨r,p1⟩:=rq;simp only at *;have mr:ae (PL w a b p1 y w3):=h3;clear h3;have x5:w3.cell? ⟨b,5,none⟩=some (.int .i64 y.i.d):=mr.o.ln.cell 5;have fb:=mr.o.ln.frozen;have xB:ae (PL w a b p1 {y with i:={y.i with d:=r}} (w3.setCell ⟨b,5,none⟩ (.int .i64 r))):=mr.o.set 5 _ rfl;go_upto_region 31 with fail;generalize w3.setCell ⟨b,5,none⟩ (.int .i64 r)=w4 at *;clear mr x5 fb;generalize({y with i:={y.i with d:=r}}:aj)=y4 at *;have hP4:=xB.o;go_wp2_with fail;refine(lU w a b p1 y4 44 w4 hP4).mono ?_;rintro e w5 ⟨⟨v5,rfl⟩,h5⟩;clear hP4 xB;have RY:ae (p1.take 44).2.Small:=(DK.jk VK.o 44).2;clear VK;generalize(p1.take 44).2=p5 at *;have E9:ae (PL w a b p5 y4 w5):=h5;clear h5;have HW:ae (p5.wide y4=if p5.is 110 then p5.BI y4 else p5.abo y4):=rfl;generalize p5.wide y4=ww at *;go_wp2_with fail;refine(VJ w a b p5 y4 110 w5 E9.o).mono ?_;rintro e w6 ⟨rfl,h6⟩;have sW:ae (PL w a b p5 y4 w6):=h6;clear h6 E9;generalize p5.is 110=mm at *;cases mm with
 |true =>
  have qM:ae (ox=(((p5.take 110).2.fail (decide ((p5.take 110).1.s≠MAP))).name.2,{y4 with i:={y4.i with name:=((p5.take 110).2.fail (decide ((p5.take 110).1.s≠MAP))).name.1}})):=by rw[ae,HO.o,HW.o];rfl
  have VL:ae (p5.take 110).2.Small:=(DK.jk RY.o 110).2;have HT:=gI a p5 110 w6 sW.o.pk;clear HO HW RY;generalize p5.take 110=tq at *;obtain⟨⟨kd,ss,⟨vv,mi⟩⟩,q⟩:=tq;simp only at *;generalize((vv%18446744073709551616:Nat):Int)=uu at *;generalize decide (18446744073709551616<=vv)=bg at *;have Qk:ae (Calls prog 31 #[.pointer (some ⟨a,0,none⟩),.int .u8 110] w6 λe w'=>e=.returned (.agg #[.int .u8 kd,.string ss,.int .u64 uu,.bool bg,.bool mi])/\Pk w' a q/\aa (Only a) w6 w'):=HT;clear HT;go_wp2_with fail;refine Qk.o.mono ?_;rintro e w7 ⟨rfl,k7,m7⟩;have AJ:ae (PL w a b q y4 (w7.alloc (.cells #[.int .u8 kd,.string ss,.int .u64 uu,.bool bg,.bool mi] 94))):=(sW.o.read k7 m7).quiet ((aa.refl _ _).alloc _);have Uu:ae (aq (w7.alloc (.cells #[.int .u8 kd,.string ss,.int .u64 uu,.bool bg,.bool mi] 94)) w7.heap.size #[.int .u8 kd,.string ss,.int .u64 uu,.bool bg,.bool mi] 94):=aq.new _ _ _;clear k7 m7 Qk sW;go_upto_region 35 with fail;generalize w7.alloc (.cells #[.int .u8 kd,.string ss,.int .u64 uu,.bool bg,.bool mi] 94)=w8 at *;generalize w7.heap.size=Y at *;have y1:w8.cell? ⟨Y,1,none⟩=some (.string ss):=Uu.o.cell 1;have fa:=AJ.o.pk.facts.2;have a1:=AJ.o.pk.facts.1;obtain⟨qf,hqf⟩:∃qf,qf=q.fail (decide (ss≠MAP)):=⟨_,rfl⟩
  have HQF:ae (qf=q.fail (decide (ss≠MAP))):=hqf;have abP:ae qf.Small:=by rw[HQF.o];exact DK.Dy VL.o _
  rw[<-hqf]at qM;clear hqf VL;obtain⟨q1,hq1⟩:∃q1,q1=decide (ss=MAP):=⟨_,rfl⟩
  have hb1:(ss.toList==[109,97,112])=q1:=by
   rw[hq1];by_cases hm:ss=MAP
   ·rw[dX hm,decide_eq_true hm]
   ·rw[dK hm,decide_eq_false hm]
  have Vn:ae (decide (ss≠MAP)=!q1):=by rw[ae,hq1];simp
  clear hq1;go_upto_if 138 with fail;go_cut [] (λwx=>PL w a b qf y4 wx)
  case first =>
   cases q1 with
   |true =>
    have qI:ae (qf=q):=by rw[ae,HQF.o,Vn.o,Bool.not_true,DK.oZ]
    clear HQF;go_wp2_with fail;go_meet;rw[qI.o];exact AJ.o
   |false =>
    have qI:ae (qf=⟨q.ts,true⟩):=by rw[ae,HQF.o,Vn.o,Bool.not_false,DK.ou]
    clear HQF;go_wp2_with fail;go_meet;rw[qI.o];exact AJ.o.bad
  case rest =>
  have Gy:ae (PL w a b qf y4 wc):=hcut;clear hcut AJ Uu y1 fa a1 HQF;have hP9:=Gy.o;go_wp2_with fail;refine(o8 w a b qf y4 wc hP9 abP.o).mono ?_;rintro e w10 ⟨rfl,h10⟩;clear hP9 Gy;generalize qf.name=nq at *;obtain⟨nm,p10⟩:=nq;simp only at *;have abQ:ae (PL w a b p10 y4 w10):=h10;clear h10;have xc:w10.cell? ⟨b,10,none⟩=some (.string y4.i.name):=abQ.o.ln.cell 10;have fb:=abQ.o.ln.frozen;have aeA:ae (PL w a b p10 {y4 with i:={y4.i with name:=nm}} (w10.setCell ⟨b,10,none⟩ (.string nm))):=abQ.o.set 10 _ rfl;go_wp2_with fail;refine bodyPost_ret (results_none rfl _ _ _) rfl ?_;rw[qM.o];exact⟨rfl,aeA.o⟩
 |false =>
  have qM:ae (ox=((p5.take 100).2,{y4 with n:=(p5.take 100).1.n,hn:=true})):=by rw[ae,HO.o,HW.o];rfl
  have HT:=gI a p5 100 w6 sW.o.pk;clear HO HW RY;generalize p5.take 100=tq at *;obtain⟨⟨kd,ss,⟨vv,mi⟩⟩,q⟩:=tq;simp only at *
  have HX:ae (∀ww,PL w a b q y4 ww->PL w a b q {y4 with n:=⟨vv,mi⟩,hn:=true} ((((ww.setCell ⟨b,11,none⟩ (.int .u64 ((vv%18446744073709551616:Nat):Int))).setCell ⟨b,12,none⟩ (.bool (decide (18446744073709551616<=vv)))).setCell ⟨b,13,none⟩ (.bool mi)).setCell ⟨b,17,none⟩ (.bool true))):=λww h =>
   (h.Na ⟨vv,mi⟩).set 17 (.bool true) rfl
  generalize((vv%18446744073709551616:Nat):Int)=uu at *;generalize decide (18446744073709551616<=vv)=bg at *;have Qk:ae (Calls prog 31 #[.pointer (some ⟨a,0,none⟩),.int .u8 100] w6 λe w'=>e=.returned (.agg #[.int .u8 kd,.string ss,.int .u64 uu,.bool bg,.bool mi])/\Pk w' a q/\aa (Only a) w6 w'):=HT;clear HT;go_wp2_with fail;refine Qk.o.mono ?_;rintro e w7 ⟨rfl,k7,m7⟩;have AJ:ae (PL w a b q y4 (w7.alloc (.cells #[.int .u8 kd,.string ss,.int .u64 uu,.bool bg,.bool mi] 94))):=(sW.o.read k7 m7).quiet ((aa.refl _ _).alloc _);have Uu:ae (aq (w7.alloc (.cells #[.int .u8 kd,.string ss,.int .u64 uu,.bool bg,.bool mi] 94)) w7.heap.size #[.int .u8 kd,.string ss,.int .u64 uu,.bool bg,.bool mi] 94):=aq.new _ _ _;clear k7 m7 Qk sW;go_upto_region 39 with fail;generalize w7.alloc (.cells #[.int .u8 kd,.string ss,.int .u64 uu,.bool bg,.bool mi] 94)=w8 at *;generalize w7.heap.size=Y at *;have hne:¬Y=b:=Uu.o.apart AJ.o.ln (by decide);have hne2:¬b=Y:=λe=>hne e.symm;have y2:w8.cell? ⟨Y,2,none⟩=some (.int .u64 uu):=Uu.o.cell 2;have y3:w8.cell? ⟨Y,3,none⟩=some (.bool bg):=Uu.o.cell 3;have y4':w8.cell? ⟨Y,4,none⟩=some (.bool mi):=Uu.o.cell 4;have x11:w8.cell? ⟨b,11,none⟩=some (.int .u64 ((y4.n.v%18446744073709551616:Nat):Int)):=AJ.o.ln.cell 11;have x12:w8.cell? ⟨b,12,none⟩=some (.bool (decide (18446744073709551616<=y4.n.v))):=AJ.o.ln.cell 12;have x13:w8.cell? ⟨b,13,none⟩=some (.bool y4.n.minus):=AJ.o.ln.cell 13;have x17:w8.cell? ⟨b,17,none⟩=some (.bool y4.hn):=AJ.o.ln.cell 17;have fb:=AJ.o.ln.frozen;go_wp2_with fail;go_end0;rw[qM.o];exact⟨rfl,HX.o _ AJ.o⟩
theorem R8(a b:Nat)(p:DK)(x:aj)(word:tBA)(w:tW)(h:Pk w a p)(hx:aq w b x.cells 47)(hw:word.size<=1000000)(hs:p.Small)(hk:aD word=104):Calls prog 35 #[.pointer (some ⟨a,0,none⟩),.pointer (some ⟨b,0,none⟩),.string word] w λe w'=>e=.returned (.tuple #[])/\PL w a b (p.AL (x.word word)).1 (p.AL (x.word word)).2 w':=by
 have HP:ae (PL w a b p x w):=PL.start h hx;have HS:ae (Calls prog 38 #[.string word] w λe w'=>e=.returned (.int .u8 104)/\aa af w w'):=by have:=eG word w (by unfold maxLen;omega);rw[hk]at this;exact this
 obtain⟨y,hy⟩:∃y,y=x.word word:=⟨_,rfl⟩
 have HY:ae (y=x.word word):=hy;rw[<-hy];have HO:ae (p.AL y=(p.name.2.fail (decide (ahH p.name.1 bO<0)),{y with i:={y.i with label:=p.name.1}})):=rfl;clear h hx hk hy;generalize p.AL y=ox at *;go_enter func35,ntmps35;go_wp2_with fail;refine HS.o.mono ?_;rintro e w1 ⟨rfl,m1⟩;have fq:ae (PL w a b p x w1):=HP.o.quiet m1;clear HP HS m1;have x3:w1.cell? ⟨b,3,none⟩=some (.string x.i.word):=fq.o.ln.cell 3;have fb:=fq.o.ln.frozen;have eT:ae (PL w a b p y (w1.setCell ⟨b,3,none⟩ (.string word))):=by rw[HY.o];exact fq.o.set 3 _ rfl
 go_upto_region 2 with fail;generalize w1.setCell ⟨b,3,none⟩ (.string word)=w2 at *;clear fq x3 fb HY;have hP2:=eT.o;have Gx:ae p.Small:=hs;clear hs;go_wp2_with fail;refine(o8 w a b p y w2 hP2 Gx.o).mono ?_;rintro e w3 ⟨rfl,h3⟩;clear hP2 eT Gx;generalize p.name=nq at *;obtain⟨nm,p3⟩:=nq;simp only at *;have mr:ae (PL w a b p3 y w3):=h3;clear h3;have xc:w3.cell? ⟨b,9,none⟩=some (.string y.i.label):=mr.o.ln.cell 9;have fb:=mr.o.ln.frozen;have xB:ae (PL w a b p3 {y with i:={y.i with label:=nm}} (w3.setCell ⟨b,9,none⟩ (.string nm))):=mr.o.set 9 _ rfl;go_upto_region 43 with fail;generalize w3.setCell ⟨b,9,none⟩ (.string nm)=w4 at *;clear mr xc fb;have e9:∀g:Ext af w4,g.w.cell? ⟨b,9,none⟩=some (.string nm):=λg=>g.cell xB.o.ln id 9;have ne1:=Ext.ne af w4;refine aZ [5,6] (λw'=>∃e:Ext af w4,w'=e.w) (by kernel_rfl) (by kernel_rfl) (by kernel_rfl) ⟨⟨_,(aa.refl _ _).drew⟩,rfl⟩ ?_
 iterate 1 (refine aB rfl rfl rfl ?_;intro K hK;go_big_quiet_op;go_big_quiet_on)
 refine bq rfl rfl _ ⟨b,0,none⟩ rfl rfl ?_;simp only[Act.put,sA9,sB9,sC9]
 iterate 3 (refine aB rfl rfl rfl ?_;intro K hK;go_big_quiet_op;go_big_quiet_on)
 refine aF rfl rfl ?_;intro K hK;go_big_op;refine(BA _).mono ?_;rintro e w5 ⟨rfl,b5,m5⟩;have M5:ae (aa af w4 w5):=((aa.refl _ _).drew).trans m5;have B5:ae (aq w5 w4.drew.heap.size (strs bO) 9):=b5;refine hK _ _ rfl ⟨⟨_,M5.o⟩,rfl⟩ ?_;clear hK K m5 b5
 try simp only[Act.put,sA9,sB9,sC9]
 refine aF rfl rfl ?_;intro K hK;go_big_op;refine(EX nm _ w5 B5.o).mono ?_;rintro e w6 ⟨rfl,VM⟩;have M6:ae (aa af w4 w6):=by rw[VM];exact M5.o
 refine hK _ _ rfl ⟨⟨_,M6.o⟩,rfl⟩ ?_;clear hK K VM B5 M5
 try simp only[Act.put,sA9,sB9,sC9]
 iterate 1 (refine aB rfl rfl rfl ?_;intro K hK;go_big_quiet_op;go_big_quiet_on)
 refine cu ?_;simp only[Exit.then];have sW:ae (PL w a b p3 {y with i:={y.i with label:=nm}} w6):=xB.o.quiet M6.o;clear xB M6 e9 ne1;generalize({y with i:={y.i with label:=nm}}:aj)=y6 at *;generalize ahH nm bO=pm at *;have fa:=sW.o.pk.facts.2;have a1:=sW.o.pk.facts.1;by_cases hp:pm<0
 ·have qM:ae (ox=(⟨p3.ts,true⟩,y6)):=by rw[ae,HO.o,decide_eq_true hp,DK.ou]
  go_wp2_with fail;go_end0;rw[qM.o];exact⟨rfl,sW.o.bad⟩
 ·have qM:ae (ox=(p3,y6)):=by rw[ae,HO.o,decide_eq_false hp,DK.oZ]
  have hp':decide (pm<0)=false:=decide_eq_false hp;go_wp2_with fail;go_end0;rw[qM.o];exact⟨rfl,sW.o⟩
theorem VN(s:tBA):aD s=114\/aD s=106\/aD s=108\/aD s=115\/aD s=119\/aD s=104\/aD s=99\/aD s=101\/aD s=0:=by
 unfold aD
 (repeat' split)<;>simp
theorem VO(a b:Nat)(p:DK)(x:aj)(word:tBA)(w:tW)(h:Pk w a p)(hx:aq w b x.cells 47)(hw:word.size<=1000000)(hs:p.Small):Calls prog 35 #[.pointer (some ⟨a,0,none⟩),.pointer (some ⟨b,0,none⟩),.string word] w λe w'=>e=.returned (.tuple #[])/\PL w a b (p.ins x word).1 (p.ins x word).2 w':=by
 unfold DK.ins;by_cases h1:aD word=114
 ·rw[iP9 h1];exact RW a b p x word w h hx hw h1
 rw[iN9 h1];by_cases h2:aD word=106
 ·rw[iP9 h2];exact RX a b p x word w h hx hw hs h2
 rw[iN9 h2];by_cases h3:aD word=108
 ·rw[iP9 h3];exact RZ a b p x word w h hx hw h3
 rw[iN9 h3];by_cases h4:aD word=115
 ·rw[iP9 h4];exact R3 a b p x word w h hx hw h4
 rw[iN9 h4];by_cases h5:aD word=119
 ·rw[iP9 h5];exact R7 a b p x word w h hx hw hs h5
 rw[iN9 h5];by_cases h6:aD word=104
 ·rw[iP9 h6];exact R8 a b p x word w h hx hw hs h6
 rw[iN9 h6];by_cases h7:aD word=99
 ·rw[iP9 h7];exact R4 a b p x word w h hx hw hs h7
 rw[iN9 h7];by_cases h8:aD word=101
 ·rw[iP9 h8];exact R5 a b p x word w h hx hw h8
 rw[iN9 h8]
 have h0:aD word=0:=by
  rcases VN word with h|h|h|h|h|h|h|h|h
  all_goals first|exact h|exact absurd h (by assumption)
 exact R6 a b p x word w h hx hw h0
structure qN where
 x:aj:={}
 ns:List aA:=[]
 ok:Bool
def DK.done(p:DK):Bool:=!p.bad&&p.ts.isEmpty
def jK(ts:List aY):qN :=
 let p1:=(DK.mk ts false).take 110
 if ts.length=2/\(ts.getD 1 nS).kind=58 then⟨{kind:=58,name:=p1.1.s},[],ahI p1.1.s.data.toList&&!qp p1.1.s⟩
 else if p1.1.s=MAP then
  ⟨{kind:=109,name:=p1.2.name.1},[(p1.2.name.2.take 100).1.n,((p1.2.name.2.take 100).2.take 100).1.n,(((p1.2.name.2.take 100).2.take 100).2.take 100).1.n],(((p1.2.name.2.take 100).2.take 100).2.take 100).2.done⟩
 else if p1.1.s=FUNC then⟨{kind:=102,name:=p1.2.name.1},[],p1.2.name.2.done⟩
 else⟨(p1.2.ins {kind:=105} p1.1.s).2,[],(p1.2.ins {kind:=105} p1.1.s).1.done⟩
def ahO(s:tBA):qN :=
 match ahP s s.size 0 false []with
 |none=>⟨{},[],false⟩
 |some []=>⟨{},[],true⟩
 |some (t::r)=>jK (t::r)
theorem DK.DC(p:DK)(x:aj):(p.other x).2.vl=x.vl:=by unfold DK.other;split<;>rfl
theorem DK.aaa(p:DK)(x:aj):(p.jump x).2.vl=x.vl:=by
 unfold DK.jump;split
 ·rfl
 ·split<;>rfl
theorem DK.BK(p:DK)(x:aj):(p.brackets x).2.2.vl=x.vl:=DK.aaa _ _
theorem DK.abR(p:DK)(x:aj)(word:tBA):(p.ins x word).2.vl=x.vl:=by
 unfold DK.ins;split
 ·unfold DK.qt;split
  ·rfl
  ·exact DK.DC _ _
 split
 ·unfold DK.Fa;split
  ·rfl
  ·exact DK.DC _ _
 split
 ·exact DK.BK _ _
 split
 ·exact(DK.DC _ _).trans (DK.BK _ _)
 split
 ·unfold DK.KL DK.wide;split<;>rfl
 split
 ·rfl
 split
 ·rfl
 split<;>rfl
def aA.dG(n:aA):List Value:=[.int .u64 ((n.v%18446744073709551616:Nat):Int),.bool (decide (18446744073709551616<=n.v)),.bool n.minus]
def jF(w:tW)(r:qN)(e:Ending)(w':tW):Prop :=
 ∃vl,e=.returned (.tuple #[.agg {r.x with vl:=vl}.cells,.bool r.ok])/\Sl w' 45 3 vl r.ns.length (r.ns.flatMap aA.dG)/\(∀k,vl.ownBlock=some k->w.heap.size<=k)/\aa af w w'
abbrev eB:tAV:=#[.int .u8 0,.string ⟨#[]⟩,.slice none 0 0,.string ⟨#[]⟩,.bool false,.int .i64 0,.int .i64 0,.int .i64 0,.int .u64 0,.string ⟨#[]⟩,.string ⟨#[]⟩,.int .u64 0,.bool false,.bool false,.int .u64 0,.bool false,.bool false,.bool false,.bool false]
theorem aq.aI{w:tW}{g:Nat}{cs ds:tAV}{t:TypeId}(h:aq w g cs t):aq (w.setRow g ds) g ds t:=setRow_heap w g cs ds t (0,0) h
theorem aq.qO{w:tW}{g k:Nat}{cs ds:tAV}{t:TypeId}(h:aq w k cs t)(hk:k≠g):aq (w.setRow g ds) k cs t:=(setRow_other w g k ds hk).trans h
theorem aa.aI{S:Nat->Prop}{w w':tW}{g:Nat}{ds:tAV}(h:aa S w w')(hg:S g\/w.heap.size<=g):aa S w (w'.setRow g ds) :=
 ⟨h.os,h.tape,h.output,by have:=h.size;rw[size_setRow];exact this,λk hk hs=>by rw[setRow_other _ _ _ _ (by rintro rfl;rcases hg with hg|hg;exact hs hg;omega)];exact h.block k hk hs⟩
theorem aj.one(x:aj)(h:x.vl.oneCell'=true):x.cells.all (·.oneCell')=true:=by unfold aj.cells;simp only[List.all_toArray,List.all_cons,List.all_nil,h,Bool.and_true];rfl
theorem nR.tks{w0 w:tW}{o:Option Addr}{cap:Nat}{ts:List aY}(h:nR w0 (.slice o ts.length cap) ts w)(hn:0<ts.length):∃g,o=some ⟨g,0,none⟩/\wm w (.slice o ts.length cap) ts/\g<w.heap.size/\(∀i (hi:i<ts.length),w.cell? ⟨g,i*5,none⟩=some (.int .u8 ts[i].kind))/\ts.length<=cap/\cap<=maxLen:=by
 obtain⟨o',c',hv,hb⟩:=h.sl.view;injection hv with e1 e2 e3;subst e1 e3;obtain⟨g,cs,rfl,hb,ht,hc,hm⟩:=hb hn;refine⟨g,rfl,⟨_,_,rfl,hc,hm,λ_=>⟨g,0,cs,rfl,hb,λj hj=>?_⟩⟩,hb.lt,λi hi=>?_,hc,hm⟩
 ·rw[<-ht,List.getElem?_take,iP9 hj,Nat.zero_add];simp
 ·rw[bA hb ht (i*5) (by omega),show i*5=i*5+0 from rfl,flat_get aY.cells 5 aY.jB ts i 0 hi (by omega)];rfl
theorem KN(s:tBA)(w:tW)(hC:∀w,Calls prog 30 #[.string s] w λe w'=>fA w s e w')(pm:qN)(hpm:pm=⟨{},[],false⟩)(cm:Option (List aY))(hcm:ahP s s.size 0 false []=cm)(hn:cm=none):Calls prog 10 #[.string s] w λe w'=>jF w pm e w':=by
 have HC:=ak hC;have HCM:=ak hcm;clear hC hcm;have zF:ae (aq (w.alloc (.cells eB 47)) w.heap.size eB 47):=aq.new w _ _;have sU:ae (aa af w (w.alloc (.cells eB 47))):=(aa.refl _ _).alloc _;obtain⟨Z,hZ⟩:∃Z,Z=w.heap.size:=⟨_,rfl⟩
 subst hpm hn;go_enter func10,ntmps10;go_upto_region 1 with fail;generalize w.alloc (.cells eB 47)=wA at *;have gU:ae (Z≠wA.heap.size/\w.heap.size<=Z/\w.heap.size<=wA.heap.size):=by have:=zF.o.lt;rw[ae];omega
 rw[<-hZ]at zF;rw[<-hZ];clear hZ;refine wp_region_lit ?_
 iterate 6 go_step
 refine wpList_store_row rfl 47 (.tmp 4) (.tmp 13) rfl wA.heap.size eB rfl rfl 47 eB (aq.new _ _ _) (by kernel_rfl) rfl (aj.one {} rfl) ?_;simp only[Act.put];go_upto_region 2 with fail;have HZ:ae (aq ((wA.alloc (.cells eB 47)).setRow wA.heap.size eB) Z eB 47):=(zF.o.alloc _).qO gU.o.1;have HX:ae (aq ((wA.alloc (.cells eB 47)).setRow wA.heap.size eB) wA.heap.size ({}:aj).cells 47):=aq.aI (aq.new _ _ _);have KO:ae (aa af w ((wA.alloc (.cells eB 47)).setRow wA.heap.size eB)):=(sU.o.alloc _).aI (.inr gU.o.2.2);clear zF sU;generalize(wA.alloc (.cells eB 47)).setRow wA.heap.size eB=w1 at *;generalize wA.heap.size=X at *;go_wp2_with fail;refine(HC.o _).mono ?_;rintro e w2 ⟨m2,h2⟩;have HZ2:ae (aq w2 Z eB 47):=HZ.o.ah (S:=af) m2 id;have uH:ae (aq w2 X ({}:aj).cells 47):=HX.o.ah (S:=af) m2 id;have ep:=ak (KO.o.trans m2);rw[HCM.o]at h2;clear HZ HX KO HC;simp only at h2;subst h2;go_wp2_with (first |(refine wpList_load_row rfl 47 (.tmp 4) rfl X rfl 47 ({}:aj).cells (0,0) _ uH.o underlying47 rfl (by kernel_rfl) ?_) |(refine wpList_store_row rfl 47 (.tmp 2) (.tmp 26) rfl Z ({}:aj).cells rfl rfl 47 _ HZ2.o (by kernel_rfl) rfl (aj.one _ rfl) ?_));refine bodyPost_ret (au results10 _ _ Z 47 _ (0,0) _ _ rfl rfl HZ2.o.aI underlying47 rfl (by kernel_rfl)) rfl ?_;exact⟨.slice none 0 0,rfl,Sl.nil _ _ _,(λk h=>by cases h),ep.o.aI (.inr gU.o.2.1)⟩
theorem Nc(s:tBA)(w:tW)(hC:∀w,Calls prog 30 #[.string s] w λe w'=>fA w s e w')(pm:qN)(hpm:pm=⟨{},[],true⟩)(cm:Option (List aY))(hcm:ahP s s.size 0 false []=cm)(hn:cm=some []):Calls prog 10 #[.string s] w λe w'=>jF w pm e w':=by
 have HC:=ak hC;have HCM:=ak hcm;clear hC hcm;have zF:ae (aq (w.alloc (.cells eB 47)) w.heap.size eB 47):=aq.new w _ _;have sU:ae (aa af w (w.alloc (.cells eB 47))):=(aa.refl _ _).alloc _;obtain⟨Z,hZ⟩:∃Z,Z=w.heap.size:=⟨_,rfl⟩
 subst hpm hn;go_enter func10,ntmps10;go_upto_region 1 with fail;generalize w.alloc (.cells eB 47)=wA at *;have gU:ae (Z≠wA.heap.size/\w.heap.size<=Z/\w.heap.size<=wA.heap.size):=by have:=zF.o.lt;rw[ae];omega
 rw[<-hZ]at zF;rw[<-hZ];clear hZ;refine wp_region_lit ?_
 iterate 6 go_step
 refine wpList_store_row rfl 47 (.tmp 4) (.tmp 13) rfl wA.heap.size eB rfl rfl 47 eB (aq.new _ _ _) (by kernel_rfl) rfl (aj.one {} rfl) ?_;simp only[Act.put];go_upto_region 2 with fail;have HZ:ae (aq ((wA.alloc (.cells eB 47)).setRow wA.heap.size eB) Z eB 47):=(zF.o.alloc _).qO gU.o.1;have HX:ae (aq ((wA.alloc (.cells eB 47)).setRow wA.heap.size eB) wA.heap.size ({}:aj).cells 47):=aq.aI (aq.new _ _ _);have KO:ae (aa af w ((wA.alloc (.cells eB 47)).setRow wA.heap.size eB)):=(sU.o.alloc _).aI (.inr gU.o.2.2);clear zF sU;generalize(wA.alloc (.cells eB 47)).setRow wA.heap.size eB=w1 at *;generalize wA.heap.size=X at *;go_wp2_with fail;refine(HC.o _).mono ?_;rintro e w2 ⟨m2,h2⟩;have HZ2:ae (aq w2 Z eB 47):=HZ.o.ah (S:=af) m2 id;have uH:ae (aq w2 X ({}:aj).cells 47):=HX.o.ah (S:=af) m2 id;have ep:=ak (KO.o.trans m2);rw[HCM.o]at h2;clear HZ HX KO HC;simp only at h2;obtain⟨v,rfl,hT⟩:=h2;obtain⟨o,cap,rfl,_⟩:=hT.sl.view;simp only[List.length_nil];clear hT;go_wp2_with (first |(refine wpList_load_row rfl 47 (.tmp 4) rfl X rfl 47 ({}:aj).cells (0,0) _ uH.o underlying47 rfl (by kernel_rfl) ?_) |(refine wpList_store_row rfl 47 (.tmp 2) (.tmp 26) rfl Z ({}:aj).cells rfl rfl 47 _ HZ2.o (by kernel_rfl) rfl (aj.one _ rfl) ?_));refine bodyPost_ret (au results10 _ _ Z 47 _ (0,0) _ _ rfl rfl HZ2.o.aI underlying47 rfl (by kernel_rfl)) rfl ?_;exact⟨.slice none 0 0,rfl,Sl.nil _ _ _,(λk h=>by cases h),ep.o.aI (.inr gU.o.2.1)⟩
