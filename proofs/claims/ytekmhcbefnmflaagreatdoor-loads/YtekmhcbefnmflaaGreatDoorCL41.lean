import Derived.Test.YtekmhcbefnmflaaGreatDoorCL15
import Derived.Test.YtekmhcbefnmflaaGreatDoorCL16
import Derived.Test.YtekmhcbefnmflaaGreatDoorCL40
namespace Go.Proofs.YtekmhcbefnmflaaGreatDoor
open Go.RowKit Tryz
open List renaming not_mem_nil->ao,length->ee
open Nat renaming le_refl->ab,zero_le->an
open Bool renaming true->eJ,false->eE
open Option renaming some->eC,none->ez
open Value renaming string->eI,bool->fS
set_option linter.all false
set_option maxRecDepth 100000
set_option maxHeartbeats 1000000
theorem SX:(prog.info? 129).map (λi=>(i.zero,i.size,i.bytes))=eC (eC (.agg #[eI E0,vI 0,vI 0,vI 0]),4,40):=by kernel_rfl
theorem XB:(prog.info? 43).map (λi=>(i.zero,i.size,i.bytes))=eC (eC (.agg #[eI E0,vN,vN,vI 0,vN,vN,vI 0,vN]),8,152):=by kernel_rfl
theorem XC(x:dE):∀u∈x.cells,u.oneCell'=eJ:=by intro u hu;simp only[dE.cells,List.mem_cons,ao,or_false]at hu;rcases hu with rfl|rfl|rfl|rfl<;>rfl
theorem aaz(x:jR):∀u∈x.cells,u.oneCell'=eJ:=by intro u hu;simp only[jR.cells,List.mem_cons,ao,or_false]at hu;rcases hu with rfl|rfl|rfl|rfl|rfl|rfl|rfl|rfl<;>rfl
theorem KA:((⟨#[83,80,79,76]⟩:tBA)++(⟨#[2]⟩:tBA))=FJ:=yF [83,80,79,76] [2]
theorem openJ_any(s:tBA)(w:tW)(hs:s.size<=maxLen):Calls prog 19 #[eI s,fS eJ] w λe w'=>gD w s e w':=by
 have hs':=hs;unfold maxLen at hs';obtain⟨iM,hiM,hzM,hsM,hbM⟩:=info_parts SX;obtain⟨iF,hiF,hzF,hsF,Ia⟩:=info_parts XB;by_cases h5:s.size<5
 case pos =>
  have HN:af (gq s=ez):=by rw[af,gq,iP9 (.inl h5)]
  go_in;go_wp2_with fail;go_ret2;exact gD.no HN.o aA
 have h5':decide ((s.size:Int)<5)=eE:=decide_eq_false (by omega);by_cases hh:s.extract 0 5=FJ
 case neg =>
  have HN:af (gq s=ez):=by rw[af,gq,iP9 (.inr hh)]
  have t:=qF (b:=⟨#[83,80,79,76]⟩++⟨#[2]⟩) (λe=>hh (e.trans KA));clear hh;go_in;go_wp2_with fail;go_ret2;exact gD.no HN.o aA
 have t:=FV (b:=⟨#[83,80,79,76]⟩++⟨#[2]⟩) (hh.trans KA.symm);have HO:=ai (XA s h5 hh);clear hh;have Tt:bH ((w.alloc (.cells #[eI s,vI 5,fS eE] 125)).alloc (.cells #[vN,vN] 34)) w.heap.size s ⟨5,eE⟩:=(ak.new w _ _).alloc _
 have hpg:ak ((w.alloc (.cells #[eI s,vI 5,fS eE] 125)).alloc (.cells #[vN,vN] 34)) (w.heap.size+1) #[vN,vN] 34:=by
  have:=ak.new (w.alloc (.cells #[eI s,vI 5,fS eE] 125)) #[vN,vN] 34
  simpa using this
 have hO0:mE w (w.heap.size+1) w.heap.size s ⟨5,eE⟩ [] [] (vN) (vN) _:=⟨Tt,hpg,Sl.nil _ _ _,Sl.nil _ _ _,λk h=>(by simp[Value.ownBlock]at h),λk h=>(by simp[Value.ownBlock]at h),λk h=>(by simp[Value.ownBlock]at h),by omega,ab _,aq.alloc _⟩
 have hp1:=qD s ⟨5,eE⟩ (by show 5<=s.size;omega);have hn1:=ou s ⟨5,eE⟩;go_in;go_wp2_with fail;refine(iq w.heap.size s ⟨5,eE⟩ _ hs Tt).mono ?_;rintro e w1 ⟨rfl,h1,m1⟩;have N0:=hO0.read m1 h1;clear m1 h1 Tt hpg hO0;generalize rb s ⟨5,eE⟩=q at *;obtain⟨n,r1⟩:=q;simp only at *;go_upto_block 0 with fail;go_cut [] (λwx=>∃ms r vM,mE w (w.heap.size+1) w.heap.size s r ms [] vM (vN) wx/\rdMaps s n r1 []=(ms,r)/\r.pos<=s.size/\ms.length<=n)
 case first =>
  go_wp2_with fail;go_loopg [10] n (λg iv wx=>∃(k:Nat) (ms:List dE) (r:RS) (vM:Value),iv=vI k/\mE w (w.heap.size+1) w.heap.size s r ms [] vM (vN) wx/\rdMaps s (n-k) r ms=rdMaps s n r1 []/\k<=n/\g=n-k/\r.pos<=s.size/\ms.length<=k)
  case atStart=>exact⟨0,[],r1,_,rfl,N0,rfl,an _,rfl,hp1,ab _⟩
  case round =>
   obtain⟨k,ms,⟨pos,bad⟩,vM,rfl,hO2,fQ,hk,rfl,hp2,F5⟩:=hrel;have HR:af _:=fQ;clear fQ N0 hp1;have hbc:wr.cell? ⟨w.heap.size,2,ez⟩=eC (fS bad):=ak.cell hO2.rd 2;by_cases hkn:k<n
   case neg =>
    obtain rfl:k=n:=by omega
    have HE:af (rdMaps s k r1 []=(ms,⟨pos,bad⟩)):=by rw[af,<-HR.o,Nat.sub_self];rfl
    go_wp2_with fail;go_meet;exact⟨ms,⟨pos,bad⟩,vM,hO2,HE.o,hp2,F5⟩
   obtain⟨j,hj⟩:∃j,n-k=j+1:=⟨n-k-1,by omega⟩
   have HJ:=ai hj;have iO:=HR.o;rw[hj,rdMaps]at iO;have tJ:af _:=iO;clear iO HR hj;cases bad with
   |true =>
    have HE:af (rdMaps s n r1 []=(ms,⟨pos,eJ⟩)):=by rw[af,<-tJ.o];rfl
    go_wp2_with fail;go_meet;exact⟨ms,⟨pos,eJ⟩,vM,hO2,HE.o,hp2,by omega⟩
   |false =>
    have sW:af _:=(iN9 (by simp):_=_).symm.trans tJ.o;clear tJ;have hpn:=NS s ⟨pos,eE⟩ hp2;have hl1:=ou s (ow s ⟨pos,eE⟩).2;have hl2:=ou s (rb s (ow s ⟨pos,eE⟩).2).2;have hl3:=ou s (rb s (rb s (ow s ⟨pos,eE⟩).2).2).2;have hpa:=qD s _ hpn;have hpb:=qD s _ hpa;have TM:=qD s _ hpb;go_wp2_with fail;refine(Ey w.heap.size s ⟨pos,eE⟩ _ hs hp2 hO2.rd).mono ?_;rintro e w2 ⟨rfl,h2,m2⟩;have hO3:=hO2.read m2 h2;clear m2 h2 hO2;generalize ow s ⟨pos,eE⟩=q at *;obtain⟨nm,r2⟩:=q;simp only at *;have hO4:=hO3.quiet (aA.alloc (.cells #[eI nm,vI 0,vI 0,vI 0] 129));have hb4:=ak.new w2 #[eI nm,vI 0,vI 0,vI 0] 129;have hvl:=hO3.sm.lt;have HVL:af _:=hvl;have hr2:=ak.lt hO3.rd;have afI:=hO3.pg.lt;clear hvl hO3;go_wp2_with fail;refine(iq w.heap.size s r2 _ hs hO4.rd).mono ?_;rintro e w3 ⟨rfl,h3,m3⟩;have KS:=hO4.read m3 h3;have hb5:=hb4.ae m3 (show ¬w2.heap.size=w.heap.size by omega);clear m3 h3 hO4 hb4;generalize rb s r2=q at *;obtain⟨na,r3⟩:=q;simp only at *;have f5:=hb5.frozen;have g5:=hb5.c1;go_wp2_with fail;have hO6:=KS.YX (a:=⟨w2.heap.size,1,ez⟩) (show w2.heap.size≠w.heap.size by omega) (show w2.heap.size≠w.heap.size+1 by omega) (λe=>by have:=HVL.o _ e;simp at this) (by simp[Value.ownBlock]) (show w.heap.size<=w2.heap.size by omega) (vI na);have hb6:=hb5.set 1 (vI na);clear f5 g5 KS hb5;refine(iq w.heap.size s r3 _ hs hO6.rd).mono ?_;rintro e w4 ⟨rfl,h4,m4⟩;have hO7:=hO6.read m4 h4;have TE:ak w4 w2.heap.size #[eI nm,vI na,vI 0,vI 0] 129:=hb6.ae m4 (show ¬w2.heap.size=w.heap.size by omega);clear m4 h4 hO6 hb6;generalize rb s r3=q at *;obtain⟨nb,r4⟩:=q;simp only at *;have f5:=TE.frozen;have g5:=TE.c2;go_wp2_with fail;have hO8:=hO7.YX (a:=⟨w2.heap.size,2,ez⟩) (show w2.heap.size≠w.heap.size by omega) (show w2.heap.size≠w.heap.size+1 by omega) (λe=>by have:=HVL.o _ e;simp at this) (by simp[Value.ownBlock]) (show w.heap.size<=w2.heap.size by omega) (vI nb);have TP:=TE.set 2 (vI nb);clear f5 g5 hO7 TE;refine(iq w.heap.size s r4 _ hs hO8.rd).mono ?_;rintro e w5 ⟨rfl,h5,m5⟩;have hO9:=hO8.read m5 h5;have hb9:ak w5 w2.heap.size #[eI nm,vI na,vI nb,vI 0] 129:=TP.ae m5 (show ¬w2.heap.size=w.heap.size by omega);clear m5 h5 hO8 TP;generalize rb s r4=q at *;obtain⟨nc,r5⟩:=q;simp only at *;have f5:=hb9.frozen;have g5:=hb9.c3;have hOA:=hO9.YX (a:=⟨w2.heap.size,3,ez⟩) (show w2.heap.size≠w.heap.size by omega) (show w2.heap.size≠w.heap.size+1 by omega) (λe=>by have:=HVL.o _ e;simp at this) (by simp[Value.ownBlock]) (show w.heap.size<=w2.heap.size by omega) (vI nc);have TJ:ak (w5.setCell ⟨w2.heap.size,3,ez⟩ (vI nc)) w2.heap.size #[eI nm,vI na,vI nb,vI nc] 129:=hb9.set 3 (vI nc);clear hO9 hb9;go_upto_region 16 with fail;generalize hW:w5.setCell ⟨w2.heap.size,3,ez⟩ (vI nc)=W at *;clear hW f5 g5;have HP:af _:=hOA;obtain⟨i0,i1,i2,i3⟩:W.cell? ⟨w2.heap.size,0,ez⟩=eC (eI nm)/\W.cell? ⟨w2.heap.size,1,ez⟩=eC (vI na)/\W.cell? ⟨w2.heap.size,2,ez⟩=eC (vI nb)/\W.cell? ⟨w2.heap.size,3,ez⟩=eC (vI nc):=⟨TJ.cell 0,TJ.cell 1,TJ.cell 2,TJ.cell 3⟩
    have p0:=hOA.pg.c0;have pf:=hOA.pg.frozen;have hlW:=TJ.lt;have qa:=λo=>(hOA.quiet (aA.alloc o)).pg.c0;clear hOA TJ;go_region_law (refine jV rfl (.tmp 65) (.tmp 67) 31 rfl 129 iM (.agg #[eI E0,vI 0,vI 0,vI 0]) 4 40 underlying31 hiM hzM hsM hbM rfl (by decide) vM (ee ms) (ms.flatMap dE.cells) (by simp[Act.eval]) (HP.o.quiet (aU.alloc _)).sm ⟨W.heap.size,0,ez⟩ 1 1 (dE.cells ⟨nm,na,nb,nc⟩) (by simp[Act.eval]) rfl (aY _ _ _ _ (by simp)) (XC _) (by unfold maxLen;omega) (by omega) ?_;intro v6 w6 s6 m6 l6;obtain⟨o6,cp6,rfl,_⟩:=Sl.view s6;obtain⟨y0,y1,yf⟩:=HP.o.acV (.inl rfl) (aq.drew) m6)
    all_goals
     go_wp2_with fail;go_roundg (n-(k+1))
     case measure=>omega
     case rel=>exact⟨k+1,ms++[⟨nm,na,nb,nc⟩],r5,_,by go_num,(HP.o.quiet (aq.drew)).aeY s6 m6 l6,by have:=HJ.o;rw[show n-(k+1)=j by omega];exact sW.o,by omega,rfl,TM,by simp;omega⟩
 case rest =>
 obtain⟨ms,r2,vM,hO2,hE,hp2,F5⟩:=hcut;have HO2:=HO.o;rw[FM,hE]at HO2;have HO3:af (gq s=DU s ms (rb s r2).1 (rb s r2).2):=HO2;clear HO HO2 hE N0 hp1;have hn2:=ou s r2;have hp3:=qD s r2 hp2;go_wp2_with fail;refine(iq w.heap.size s r2 _ hs hO2.rd).mono ?_;rintro e w2 ⟨rfl,h2,m2⟩;have hO3:=hO2.read m2 h2;clear m2 h2 hO2;generalize rb s r2=q at *;obtain⟨n2,r3⟩:=q;simp only at *;go_upto_block 2 with fail;go_cut [12] (λtv wx=>∃fs t r vF,tv=vI (t:Nat)/\mE w (w.heap.size+1) w.heap.size s r ms fs vM vF wx/\rdFns s n2 r3 [] 0=(fs,t,r)/\r.pos<=s.size/\fs.length<=n2/\t<=ee fs*65535)
 case first =>
  go_wp2_with fail;go_loopg [12,13] n2 (λg tv iv wx=>∃(k t:Nat) (fs:List jR) (r:RS) (vF:Value),iv=vI k/\tv=vI t/\mE w (w.heap.size+1) w.heap.size s r ms fs vM vF wx/\rdFns s (n2-k) r fs t=rdFns s n2 r3 [] 0/\k<=n2/\g=n2-k/\r.pos<=s.size/\fs.length<=k/\t<=ee fs*65535)
  case atStart=>exact⟨0,0,[],r3,_,rfl,rfl,hO3,rfl,an _,rfl,hp3,ab _,an _⟩
  case round =>
   obtain⟨k,t,fs,⟨pos,bad⟩,vF,rfl,rfl,hO4,fQ,hk,rfl,yu,hfl,htl⟩:=hrel;have HR:af _:=fQ;clear fQ hO3 hp3;have hbc:wr.cell? ⟨w.heap.size,2,ez⟩=eC (fS bad):=ak.cell hO4.rd 2;by_cases hkn:k<n2
   case neg =>
    obtain rfl:k=n2:=by omega
    have HE:af (rdFns s k r3 [] 0=(fs,t,⟨pos,bad⟩)):=by rw[af,<-HR.o,Nat.sub_self];rfl
    go_wp2_with fail;go_meet;exact⟨fs,t,⟨pos,bad⟩,vF,rfl,hO4,HE.o,yu,hfl,htl⟩
   obtain⟨j,hj⟩:∃j,n2-k=j+1:=⟨n2-k-1,by omega⟩
   have HJ:=ai hj;have iO:=HR.o;rw[hj,rdFns]at iO;have tJ:af _:=iO;clear iO HR hj;cases bad with
   |true =>
    have HE:af (rdFns s n2 r3 [] 0=(fs,t,⟨pos,eJ⟩)):=by rw[af,<-tJ.o];rfl
    go_wp2_with fail;go_meet;exact⟨fs,t,⟨pos,eJ⟩,vF,rfl,hO4,HE.o,yu,by omega,htl⟩
   |false =>
    have sW:af _:=(iN9 (by simp):_=_).symm.trans tJ.o;clear tJ;have hpn:=NS s ⟨pos,eE⟩ yu;have hl1:=xe s (ow s ⟨pos,eE⟩).2;have hpa:=YY s _ hpn;go_wp2_with fail;refine(Ey w.heap.size s ⟨pos,eE⟩ _ hs yu hO4.rd).mono ?_;rintro e w3 ⟨rfl,h3,m3⟩;have KS:=hO4.read m3 h3;clear m3 h3 hO4;generalize ow s ⟨pos,eE⟩=q at *;obtain⟨nm,r4⟩:=q;simp only at *;have hO6:=KS.quiet (aA.alloc (.cells #[eI nm,vN,vN,vI 0,vN,vN,vI 0,vN] 43));have hb6:=ak.new w3 #[eI nm,vN,vN,vI 0,vN,vN,vI 0,vN] 43;have HVM:=ai KS.sm.lt;have HVF:=ai KS.sf.lt;have hr2:=ak.lt KS.rd;have afI:=KS.pg.lt;clear KS;go_wp2_with fail;refine(yD w.heap.size s r4 _ hs hO6.rd).mono ?_;rintro e w4 ⟨rfl,h4,m4⟩;have hO7:=hO6.read m4 h4;have TE:=hb6.ae m4 (show ¬w3.heap.size=w.heap.size by omega);clear m4 h4 hO6 hb6;generalize mX s r4=q at *;obtain⟨na,r5⟩:=q;simp only at *;have f5:=TE.frozen;have g5:=TE.c3;have hO8:=hO7.YX (a:=⟨w3.heap.size,3,ez⟩) (show w3.heap.size≠w.heap.size by omega) (show w3.heap.size≠w.heap.size+1 by omega) (λe=>by have:=HVM.o _ e;simp at this) (λe=>by have:=HVF.o _ e;simp at this) (show w.heap.size<=w3.heap.size by omega) (vI na);have TP:ak (w4.setCell ⟨w3.heap.size,3,ez⟩ (vI na)) w3.heap.size #[eI nm,vN,vN,vI na,vN,vN,vI 0,vN] 43:=TE.set 3 (vI na);clear hO7 TE;go_upto_region 24 with fail;generalize hW:w4.setCell ⟨w3.heap.size,3,ez⟩ (vI na)=W at *;clear hW f5 g5;have HP:af _:=hO8;obtain⟨i0,i1,i2,i3,i4,i5,i6,i7⟩:=TP.aO;have p1:=hO8.pg.c1;have pf:=hO8.pg.frozen;have hlW:=TP.lt;have qa:=λo=>(hO8.quiet (aA.alloc o)).pg.c1;clear hO8 TP;go_wp2_with fail;go_region_law (refine jV rfl (.tmp 99) (.tmp 101) 32 rfl 43 iF (.agg #[eI E0,vN,vN,vI 0,vN,vN,vI 0,vN]) 8 152 underlying32 hiF hzF hsF Ia rfl (by decide) vF (ee fs) (fs.flatMap jR.cells) (by simp[Act.eval]) (HP.o.quiet (aU.alloc _)).sf ⟨W.heap.size,0,ez⟩ 1 1 (jR.cells ⟨nm,na⟩) (by simp[Act.eval]) rfl (aY _ _ _ _ (by simp)) (aaz _) (by unfold maxLen;omega) (by omega) ?_;intro v6 w6 s6 m6 l6;obtain⟨o6,cp6,rfl,_⟩:=Sl.view s6;obtain⟨y0,y1,yf⟩:=HP.o.acV (.inr rfl) (aq.drew) m6)
    all_goals
     go_wp2_with fail;go_roundg (n2-(k+1))
     case measure=>omega
     case rel=>exact⟨k+1,t+na,fs++[⟨nm,na⟩],r5,_,by go_num,by go_num,(HP.o.quiet (aq.drew)).aeZ s6 m6 l6,by have:=HJ.o;rw[show n2-(k+1)=j by omega];exact sW.o,by omega,rfl,hpa,by simp;omega,by simp;omega⟩
 case rest =>
 obtain⟨fs,t,r4,vF,rfl,hO4,hE,yu,hfl,htl⟩:=hcut;have VK:=HO3.o;rw[DU,hE]at VK;have tN:af (∀f∈fs,f.slots<=t):=by have:=IL s n2 r3 [] 0 (λf hf=>by cases hf);rw[hE]at this;exact this
 have KN:af (gq s=fM s ms fs t r4):=VK;clear HO3 VK hE hO3 hp3;go_wp2_with fail;refine(K8 _ ms fs vM vF _ hO4.pg hO4.sm hO4.sf (by omega) (by omega)).mono ?_;rintro e w3 ⟨rfl,m3⟩;have KS:=hO4.quiet m3;clear m3 hO4;obtain⟨XD,K5⟩:=r4;have hbc:w3.cell? ⟨w.heap.size,2,ez⟩=eC (fS K5):=ak.cell KS.rd 2;cases K5 with
 |true =>
  have HN:af (gq s=ez):=by rw[af,KN.o,fM,iP9 (.inl rfl)]
  go_wp2_with fail;go_ret2;exact gD.no HN.o KS.md
 |false =>
 cases hri:gx ms fs with
 |false =>
  have HN:af (gq s=ez):=by rw[af,KN.o,fM,iP9 (.inr (.inl hri))]
  go_wp2_with fail;go_ret2;exact gD.no HN.o KS.md
 |true =>
 by_cases ht2:200<t
 case pos =>
  have HN:af (gq s=ez):=by rw[af,KN.o,fM,iP9 (.inr (.inr ht2))]
  have afJ:(200:Int)<(t:Int):=by omega
  go_wp2_with fail;go_ret2;exact gD.no HN.o KS.md
 have afJ:decide ((200:Int)<(t:Int))=eE:=decide_eq_false (by omega)
 have HO6:af (gq s=match rdBodiesJ (ms.map (·.name)) (fs.map (·.name)) s fs ⟨XD,eE⟩with
  |none=>ez
  |some r3=>if r3.bad=eE/\r3.pos=s.size then eC (ms,fs)else ez):=by
  rw[af,KN.o,fM,iN9 (by simp[hri,ht2])];rfl
 have hm8:ee ms<=8:=by simp[gx]at hri;omega
 have afK:ee fs<=16:=by simp[gx]at hri;omega
 obtain⟨oF,cF,rfl,hJ0⟩:=KS.ach;have ht3:t<=200:=by omega
 clear KN hri ht2 KS;obtain⟨oM,cM,rfl,_⟩:=hJ0.sm.view;go_wp2_with fail;go_loopg [16] (ee fs) (λg iv wx=>∃(k:Nat) (r:RS),iv=vI k/\Kz w (w.heap.size+1) w.heap.size (.slice oM (ee ms) cM) oF cF ms fs k s r wx/\rdBodiesJ (ms.map (·.name)) (fs.map (·.name)) s (fs.drop k) r=rdBodiesJ (ms.map (·.name)) (fs.map (·.name)) s fs ⟨XD,eE⟩/\k<=ee fs/\g=ee fs-k)
 case atStart=>exact⟨0,⟨XD,eE⟩,rfl,hJ0,rfl,an _,rfl⟩
 case round =>
  obtain⟨k,r5,rfl,hJ,fQ,hkl,rfl⟩:=hrel;have HR:=ai fQ;have HJ:=ai hJ;clear fQ hJ0;have p1:=hJ.pg.c1;by_cases hk:k<ee fs
  ·obtain⟨gF,cs,hgF,Ia,hR,hlo⟩:=hJ.fn (by omega);subst hgF;obtain⟨c1,c2,c3,c4,c5⟩:=hR.row k hk (ab _);have hsl:=tN.o fs[k] (List.getElem_mem hk);have hsz:=hR.sz
   have UO:af (rdBodiesJ (ms.map (·.name)) (fs.map (·.name)) s (fs.drop k) r5=match bodyMJ (ms.map (·.name)) (fs.map (·.name)) s fs[k].slots r5 with
     |none=>ez
     |some r'=>rdBodiesJ (ms.map (·.name)) (fs.map (·.name)) s (fs.drop (k+1)) r'):=by
    rw[af,List.drop_eq_getElem_cons hk,rdBodiesJ];rfl
   have HB:=ai (SS UT ms (fs.map (·.name)) (w.heap.size+1) gF w.heap.size k (ee fs) cF (ee ms) cM oM cs s r5 fs[k].slots wr hs hk (by omega) (by omega) (by omega) hJ.pg Ia hJ.rd (hJ.pg.tq Ia (by decide)) (hJ.pg.tq hJ.rd (by decide)) (Ia.tq hJ.rd (by decide)) (by omega) hJ.sm rfl (by rw[List.length_map]) (λi h=>by rw[List.getElem_map];exact hR.nm i (by rw[List.length_map]at h;exact h)) c1 c2 c3 c4 c5);have HC:=ai (⟨Ia,hR,hlo⟩:ak wr gF cs 43/\FK fs k cs/\w.heap.size<=gF);clear hJ c1 c2 c3 c4 c5 Ia hR;generalize fs[k].slots=sk at *;go_wp2_with fail;refine HB.o.mono ?_;rintro e w4 ⟨rfl,m4,ho4⟩;have jh:=ai (HJ.o.md.step m4 (λk hk e=>by have:=HJ.o.lo;rcases e with e|e<;>omega));cases ZE:bodyMJ (ms.map (·.name)) (fs.map (·.name)) s sk r5 with
   |none =>
    have HN:af (gq s=ez):=by rw[af,HO6.o,<-HR.o,UO.o,ZE]
    go_wp2_with fail;go_ret2;exact gD.no HN.o jh.o
   |some r6 =>
    obtain⟨adU,vL,vA,vB,vP,hb6⟩:=ho4 r6 ZE;have HJ6:=ai (HJ.o.step HC.o.1 HC.o.2.1 HC.o.2.2 m4 adU hb6);have Mk:af (rdBodiesJ (ms.map (·.name)) (fs.map (·.name)) s (fs.drop (k+1)) r6=rdBodiesJ (ms.map (·.name)) (fs.map (·.name)) s fs ⟨XD,eE⟩):=by rw[af,<-HR.o,UO.o,ZE]
    clear adU hb6 m4 ho4 HB HC HJ UO HR;go_wp2_with fail;go_roundg (ee fs-(k+1))
    case measure=>omega
    case rel=>exact⟨k+1,r6,by go_num,HJ6.o,Mk.o,by omega,rfl⟩
  ·have HRB:af (rdBodiesJ (ms.map (·.name)) (fs.map (·.name)) s fs ⟨XD,eE⟩=eC r5):=by rw[af,<-HR.o,List.drop_eq_nil_of_le (by omega)];rfl
   have Za:af (gq s=if r5.bad=eE/\r5.pos=s.size then eC (ms,fs)else ez):=by rw[af,HO6.o,HRB.o]
   obtain⟨aaA,adV⟩:=r5;have b7:wr.cell? ⟨w.heap.size,2,ez⟩=eC (fS adV):=ak.cell hJ.rd 2;have a7:wr.cell? ⟨w.heap.size,1,ez⟩=eC (vI aaA):=ak.cell hJ.rd 1;clear HR HO6 hJ HRB;cases adV with
   |true =>
    have HN:af (gq s=ez):=by rw[af,Za.o];simp
    go_wp2_with fail;go_quiet (fail);go_wp2_with fail;go_ret2;exact gD.no HN.o (HJ.o.md.drewN _)
   |false =>
    by_cases hps:aaA=s.size
    ·have afL:((aaA:Int)==(s.size:Int))=eJ:=by simp[hps]
     have HS:af (gq s=eC (ms,fs)):=by rw[af,Za.o];simp[hps]
     clear hps Za;go_wp2_with fail;go_quiet (fail);go_wp2_with fail;go_ret2;refine⟨HJ.o.md.drewN _,?_⟩;rw[HS.o];have hJ:=HJ.o.quiet ((aa.refl ah wr).drewN nq);refine⟨w.heap.size+1,oM,cM,.slice oF (ee fs) cF,rfl,hJ.pg,⟨oF,cF,rfl,λhp=>?_⟩,hm8,afK⟩;obtain⟨g,cs,h1,h2,h3,_⟩:=hJ.fn hp;exact⟨g,cs,h1,h2,h3.nm⟩
    ·have afL:((aaA:Int)==(s.size:Int))=eE:=by simp;omega
     have HN:af (gq s=ez):=by rw[af,Za.o];simp[hps]
     clear hps Za;go_wp2_with fail;go_quiet (fail);go_wp2_with fail;go_ret2;exact gD.no HN.o (HJ.o.md.drewN _)
