import Derived.Test.YtekmhcbefnmflaaGreatDoorCL13
namespace Go.Proofs.YtekmhcbefnmflaaGreatDoor
open Go.RowKit Tryz
open List renaming length->ee
open Option renaming some->eC,none->ez
open Value renaming string->eI,slice->eK
set_option linter.all false
set_option maxRecDepth 100000
set_option maxHeartbeats 1000000
structure aeU(w0:tW)(fb off:Nat)(cs:tAV)(vL vA vJ:Value)(XT:List aK)(ats js:List Int)(g:Nat)(kv:Value)(w:tW):Prop where
 ex:∃(done:List aK) (rest:List (aK×Int×Int)) (lab:PL) (vB vP:Value),kv=vI (ee done)/\mr w0 fb off cs vL vA vJ ats js (done++rest.map (·.1)) (lab.map (·.1)) (lab.map (·.2)) vB vP w /\
  labG ats done rest lab=labG ats [] (nz XT ats js) []/\rest.map (·.2)=(ats.zip js).drop (ee done)/\g=ee rest/\lab.length<=ee done/\done.length+ee rest=ee XT/\∀x∈rest,x.1.word.size<=100
theorem P5(ls:List aK)(ats js:List Int)(h1:ee ats=ee ls)(h2:ee js=ee ls):(nz ls ats js).map (·.1)=ls/\(nz ls ats js).map (·.2)=ats.zip js/\(nz ls ats js).length=ee ls:=by
 refine⟨?_,?_,?_⟩
 ·rw[nz,List.map_fst_zip];simp;omega
 ·rw[nz,List.map_snd_zip];simp;omega
 ·simp[nz];omega
theorem Ei{ats js:List Int}{k:Nat}{a j:Int}{l:List (Int×Int)}(h:(a,j)::l=(ats.zip js).drop k):ats[k]?=eC a/\js[k]?=eC j/\l=(ats.zip js).drop (k+1):=by
 have h0:(ats.zip js)[k]?=eC (a,j):=by
  have:=congrArg (λx:List (Int×Int)=>x[0]?) h
  simpa using this.symm
 rw[List.getElem?_zip_eq_some]at h0;refine⟨h0.1,h0.2,?_⟩;have:=congrArg List.tail h
 simpa [List.tail_drop]using this
structure Reads(fb off gL gA gJ k:Nat)(vL vA vB vP:Value)(i:aK)(a j:Int)(w:tW):Prop where
 q1:w.cell? ⟨fb,off+1,ez⟩=eC vL
 q2:w.cell? ⟨fb,off+2,ez⟩=eC vA
 q4:w.cell? ⟨fb,off+4,ez⟩=eC vB
 q5:w.cell? ⟨fb,off+5,ez⟩=eC vP
 qf:∀j,w.frozen? ⟨fb,j,ez⟩=false
 c2:w.cell? ⟨gA,k,ez⟩=eC (vI a)
 c3:w.cell? ⟨gJ,k,ez⟩=eC (vI j)
 e0:w.cell? ⟨gL,k*8,ez⟩=eC (eI i.word)
 e1:w.cell? ⟨gL,k*8+1,ez⟩=eC (.bool i.is32)
 e2:w.cell? ⟨gL,k*8+2,ez⟩=eC (vI i.d)
 e3:w.cell? ⟨gL,k*8+3,ez⟩=eC (vI i.s)
 e4:w.cell? ⟨gL,k*8+4,ez⟩=eC (vI i.jump)
 e5:w.cell? ⟨gL,k*8+5,ez⟩=eC (vU i.n)
 e6:w.cell? ⟨gL,k*8+6,ez⟩=eC (eI i.label)
 e7:w.cell? ⟨gL,k*8+7,ez⟩=eC (eI i.name)
 ef:∀j,w.frozen? ⟨gL,j,ez⟩=false
theorem mr.reads{w0 w:tW}{fb off gL gA gJ nL nA nJ cL cA cJ k:Nat}{cs:tAV}{ats js:List Int}{ls XT:List aK}{bs:List tBA}{ps:List Int}{vB vP:Value}{i:aK}{a j:Int}(h:mr w0 fb off cs (eK (eC ⟨gL,0,ez⟩) nL cL) (eK (eC ⟨gA,0,ez⟩) nA cA) (eK (eC ⟨gJ,0,ez⟩) nJ cJ) ats js ls bs ps vB vP w)(p:nD w0 fb off cs (eK (eC ⟨gL,0,ez⟩) nL cL) (eK (eC ⟨gA,0,ez⟩) nA cA) (eK (eC ⟨gJ,0,ez⟩) nJ cJ) XT ats js) (hL:nL=ee ls) (hA:nA=ee ats) (hJ:nJ=ee js)(hi:ls[k]?=eC i) (ha:ats[k]?=eC a) (hj:js[k]?=eC j):Reads fb off gL gA gJ k (eK (eC ⟨gL,0,ez⟩) nL cL) (eK (eC ⟨gA,0,ez⟩) nA cA) vB vP i a j w:=by
 subst hL hA hJ;obtain⟨q1,q2,q4,q5,qf⟩:=h.cells p;obtain⟨hk,rfl⟩:=List.getElem?_eq_some_iff.1 hi;have hka:=(List.getElem?_eq_some_iff.1 ha).1;have hkj:=(List.getElem?_eq_some_iff.1 hj).1;obtain⟨e0,e1,e2,e3,e4,e5,e6,e7,ef⟩:=h.sl.at8 rfl k hk;obtain⟨g1,hg1,EN⟩:=h.sa.at rfl k hka;obtain⟨g2,hg2,US⟩:=h.sj.at rfl k hkj;cases hg1;cases hg2;refine⟨q1,q2,q4,q5,qf,?_,?_,e0,e1,e2,e3,e4,e5,e6,e7,ef⟩
 ·rw[EN k hka,jW,List.getElem?_map,ha];rfl
 ·rw[US k hkj,jW,List.getElem?_map,hj];rfl
theorem Gb(w:tW)(fb off:Nat)(cs:tAV)(vL vA vJ:Value)(ls:List aK)(ats js:List Int)(pre:nD w fb off cs vL vA vJ ls ats js):Calls prog 90 #[.pointer (eC ⟨fb,off,ez⟩),vJ] w λe w'=>e=.returned (.bool (labG ats [] (nz ls ats js) []).isSome)/\aa (λk=>k=fb\/vL.ownBlock=eC k) w w' /\ ∀o,labG ats [] (nz ls ats js) []=eC o->UF w fb off cs vL vA o.1 ats o.2 w':=by
 obtain⟨iS,hiS,hzS,hsS,hbS⟩:=info_parts Cb;obtain⟨iN0,hiN,hzN,hsN,hbN⟩:=info_parts Ca;obtain⟨oL,cL,rfl,vwL⟩:=pre.sl.view;obtain⟨oA,cA,rfl,vwA⟩:=pre.sa.view;obtain⟨oJ,cJ,rfl,vwJ⟩:=pre.sj.view;have hstart:=pre.start;have HP:af _:=pre;have hle:=pre.le;have HZ:af _:=P5 ls ats js pre.al pre.jl;have afU:=pre.fn.lt;clear pre;go_in;go_wp2_with fail;go_loopg [5] (ee ls) (λg kv wr=>aeU w fb off cs (eK oL (ee ls) cL) (eK oA (ee ats) cA) (eK oJ (ee js) cJ) ls ats js g kv wr)
 case atStart=>exact⟨[],nz ls ats js,[],_,_,rfl,by rw[HZ.o.1];exact hstart,rfl,by rw[HZ.o.2.1];rfl,HZ.o.2.2.symm,by simp,by simp[HZ.o.2.2],λx hx=>HP.o.bw _ (by rw[<-HZ.o.1];exact List.mem_map_of_mem hx)⟩
 case round =>
  obtain⟨done,rest,lab,vB,vP,rfl,hI,HB0,fQ,rfl,hlab,hlen,hbw⟩:=hrel.ex;have HB:af _:=HB0;have HR:af _:=fQ;clear HB0 fQ hrel hstart;obtain⟨q1,q2,q4,q5,qf⟩:=hI.cells HP.o;cases rest with
  |nil =>
   have hkn:ee done=ee ls:=by simpa using hlen
   go_wp2_with fail;go_ret;have hr:=HB.o;rw[labG]at hr;rw[<-hr];refine⟨rfl,hI.md,λo ho=>?_⟩;cases ho;simp only[List.map_nil,List.append_nil]at hI;exact⟨vB,vP,hI.fn,hI.sl,hI.sa,by simpa using hI.sb,by simpa using hI.sp,hI.PN,hI.fp',hI.bp⟩
  |cons x rest =>
   obtain⟨i,a,j⟩:=x;have hkl:ee done<ee ls:=by simp at hlen;omega
   obtain⟨hat,hjt,hrt⟩:=Ei (l:=rest.map (·.2)) (by simpa using HR.o);have HRT:af _:=hrt;have hwz:i.word.size<=100:=hbw (i,a,j) (by simp);obtain⟨gL,csL,rfl,_⟩:=vwL (by omega);have hal:ee done<ee ats:=by have:=HP.o.al;omega
   have afV:ee ats<=1000:=by have:=HP.o.al;omega
   have hjl:ee done<ee js:=by have:=HP.o.jl;omega
   obtain⟨gA,rfl,EN⟩:=hI.sa.at rfl (ee done) (by omega);obtain⟨gJ,rfl,US⟩:=hI.sj.at rfl (ee done) (by omega);have hba:=HP.o.ba a (List.mem_of_getElem? hat);have hbj:=HP.o.bj j (List.mem_of_getElem? hjt);simp only[List.map_cons]at hI;have acU:ee (done++i::rest.map (·.1))=ee ls:=by simp at hlen ⊢;omega
   have hgk:(done++i::rest.map (·.1))[ee done]?=eC i:=by simp
   have XV:af _:=acU;have HGK:af _:=hgk;have HT:af (ats[ee done]?=eC a/\js[ee done]?=eC j):=⟨hat,hjt⟩
   clear EN US hat hjt hrt acU hgk hlen vwL vwA vwJ HR q1 q2 q4 q5 qf;have hrl:ee rest+ee done<ee ls:=by have:=XV.o;simp at this;omega
   obtain⟨iw,i32,id,is,ij,iN,il,im⟩:=i;simp only at hwz;obtain⟨q1,q2,q4,q5,qf,c2,c3,e0,e1,e2,e3,e4,e5,e6,e7,ef⟩:=hI.reads HP.o XV.o.symm rfl rfl HGK.o HT.o.1 HT.o.2;simp only at e0 e1 e2 e3 e4 e5 e6 e7;have hgL:=HP.o.sl.lt gL rfl;have hsz:=hI.md.size;go_wp2_with fail;refine(eO _ _ (by unfold maxLen;omega)).mono ?_;rintro e w1 ⟨rfl,m1⟩;by_cases hs:aF iw=106
   ·rw[hs];have HB2:=HB.o;rw[labG,iP9 hs]at HB2;have HB3:af _:=HB2;have hI1:=hI.quiet m1;clear HB HB2 q1 q2 q4 q5 qf c2 c3 e0 e1 e2 e3 e4 e5 e6 e7 ef hI m1;have R:∀g:Ext ah w1,Reads fb off gL gA gJ (ee done) _ _ vB vP ⟨iw,i32,id,is,ij,iN,il,im⟩ a j g.w:=λg=>(hI1.quiet g.m).reads HP.o XV.o.symm rfl rfl HGK.o HT.o.1 HT.o.2;have g1:=λg=>(R g).q1;have g2:=λg=>(R g).q2;have g3:=λg=>(R g).c2;have g4:=λg=>(R g).c3;have x0:=λg=>(R g).e0;have x1:=λg=>(R g).e1;have x2:=λg=>(R g).e2;have x3:=λg=>(R g).e3;have x4:=λg=>(R g).e4;have x5:=λg=>(R g).e5;have x6:=λg=>(R g).e6;have x7:=λg=>(R g).e7;simp only at x0 x1 x2 x3 x4 x5 x6 x7;have hsi:=EF iw;go_wp2_with fail;have ne1:=Ext.ne ah w1;refine fZ ah (by kernel_rfl) (by kernel_rfl) ?_
    repeat(go_big_quiet_step (first |(go_at_call 88;exact Calls.mV (EE ⟨iw,i32,id,is,ij,iN,il,im⟩ _))))
    refine wpQuiet_nil ?_;rintro w2 ⟨⟨wx,m2⟩,hwx⟩;simp only at hwx;subst hwx;have hI2:=hI1.quiet m2;clear R g1 g2 g3 g4 x0 x1 x2 x3 x4 x5 x6 x7 ne1 hI1 m2;obtain⟨tt,htt⟩:∃t:Int,t=a+(dH iw:Int)+j:=⟨_,rfl⟩
    have ht0:-40000<=tt:=by omega
    have ht1:tt<=40000:=by omega
    rw[<-htt]at HB3 ⊢;clear htt;obtain⟨q1,q2,q4,q5,qf,c2,c3,e0,e1,e2,e3,e4,e5,e6,e7,ef⟩:=hI2.reads HP.o XV.o.symm rfl rfl HGK.o HT.o.1 HT.o.2;simp only at e0 e1 e2 e3 e4 e5 e6 e7;obtain⟨gA',hgA,EN⟩:=hI2.sa.at rfl (ee done) hal;cases hgA;have XW:af _:=EN;clear EN;go_wp2_with fail;go_loopg [7,8] (ee ats) (λg th jv wx=>wx=w2/\∃m:Nat,m<=ee ats/\jv=vI m/\th=.bool (decide (tt∈ats.take m))/\g=ee ats-m)
    case atStart=>exact⟨rfl,0,Nat.zero_le _,rfl,by simp,rfl⟩
    case round =>
     obtain⟨rfl,m,hm,rfl,rfl,rfl⟩:=hrel;by_cases F5:m<ee ats
     ·have ca:wr.cell? ⟨gA,m,ez⟩=eC (vI ats[m]):=by rw[XW.o m F5];simp[jW,F5]
      have HT1:af (ats.take (m+1)=ats.take m++[ats[m]]):=by rw[af,List.take_succ_eq_append_getElem F5]
      cases hb:decide (tt∈ats.take m)with
      |true =>
       go_wp2_with fail;go_roundg (ee ats-(m+1))
       case measure=>omega
       case rel=>exact⟨rfl,m+1,by omega,by go_num,congrArg Value.bool (decide_eq_true (by rw[HT1.o];exact List.mem_append_left _ (of_decide_eq_true hb))).symm,rfl⟩
      |false =>
       by_cases he:ats[m]=tt
       ·have he2:(ats[m]==tt)=true:=by simp[he]
        have HE:af _:=he;clear he;go_wp2_with fail;go_roundg (ee ats-(m+1))
        case measure=>omega
        case rel=>exact⟨rfl,m+1,by omega,by go_num,congrArg Value.bool (decide_eq_true (by rw[HT1.o,HE.o];exact List.mem_append_right _ (List.mem_singleton.2 rfl))).symm,rfl⟩
       ·have he2:(ats[m]==tt)=false:=by simp[he]
        have HE:af _:=he;clear he;go_wp2_with fail;go_roundg (ee ats-(m+1))
        case measure=>omega
        case rel=>exact⟨rfl,m+1,by omega,by go_num,congrArg Value.bool (decide_eq_false (by rw[HT1.o];exact λe=>(List.mem_append.1 e).elim (of_decide_eq_false hb) (λe=>HE.o (List.mem_singleton.1 e).symm))).symm,rfl⟩
     ·obtain rfl:m=ee ats:=by omega
      rw[List.take_length];clear XW;cases hmem:decide (tt∈ats)with
      |false =>
       have HN:af (labG ats [] (nz ls ats js) []=ez):=by rw[af,<-HB3.o,iN9 (of_decide_eq_false hmem)]
       go_wp2_with fail;go_ret;refine⟨by rw[HN.o];rfl,hI2.md,λo ho=>?_⟩;rw[HN.o]at ho;cases ho
      |true =>
       have hmm:=of_decide_eq_true hmem;obtain⟨hb0,hb1⟩:=HP.o.ba tt hmm;have iH:=HB3.o;rw[iP9 hmm]at iH;have jr:af _:=iH;clear HB3 iH hmem hmm;obtain⟨sd,hsd,aeV⟩:=PJ (Ua tt.toNat);have hdc:=IC tt (by omega) (by omega);rw[<-hsd.o]at hdc;have HN:af (jJ tt=T [108]++sd):=by rw[af,hsd.o,yF];rfl
       have H2:af _:=hI2;have hwr:IntKind.u64.wrap tt=tt:=by simp only[IntKind.wrap,IntKind.bits,IntKind.signed,Bool.false_and,Bool.false_eq_true,if_false];omega
       have FIN:af (∀w3,mr w fb off cs (eK (eC ⟨gL,0,ez⟩) (ee ls) cL) (eK (eC ⟨gA,0,ez⟩) (ee ats) cA) (eK (eC ⟨gJ,0,ez⟩) (ee js) cJ) ats js (done++⟨iw,i32,id,is,ij,iN,il,im⟩::rest.map (·.1)) (lab.map (·.1)) (lab.map (·.2)) vB vP w3->mr w fb off cs (eK (eC ⟨gL,0,ez⟩) (ee ls) cL) (eK (eC ⟨gA,0,ez⟩) (ee ats) cA) (eK (eC ⟨gJ,0,ez⟩) (ee js) cJ) ats js (done++⟨iw,i32,id,is,ij,iN,jJ tt,im⟩::rest.map (·.1)) (lab.map (·.1)) (lab.map (·.2)) vB vP (w3.setCell ⟨gL,ee done*8+6,ez⟩ (eI (⟨#[108]⟩++sd)))):=by intro w3 h3;have h4:=h3.name HP.o XV.o.symm (ee done) (by rw[XV.o];exact hkl) (jJ tt);simp only[List.getElem_append_right (Nat.le_refl (ee done)),Nat.sub_self,List.getElem_cons_zero,List.set_append_right _ _ (Nat.le_refl (ee done)),List.set_cons_zero]at h4;rw[HN.o]at h4 ⊢;exact h4
       go_upto_region 13 with fail;go_cut [] (λwx=>mr w fb off cs (eK (eC ⟨gL,0,ez⟩) (ee ls) cL) (eK (eC ⟨gA,0,ez⟩) (ee ats) cA) (eK (eC ⟨gJ,0,ez⟩) (ee js) cJ) ats js (done++⟨iw,i32,id,is,ij,iN,jJ tt,im⟩::rest.map (·.1)) (lab.map (·.1)) (lab.map (·.2)) vB vP wx)
       case first =>
        go_region_with (go_at_call 172;refine(hdc _).mono ?_;rintro e w3 ⟨rfl,m3⟩;have II:=H2.o.quiet (aU.trans m3);have R3:=II.reads HP.o XV.o.symm rfl rfl HGK.o HT.o.1 HT.o.2;have z1:=R3.q1;have z6:=R3.e6;have zf:=R3.ef;clear R3;simp only at z6)
        all_goals first
         |(exfalso;omega)
         |(go_wp2_with fail;go_meet;exact FIN.o _ II)
       case rest =>
       clear q1 q2 q4 q5 qf c2 c3 e0 e1 e2 e3 e4 e5 e6 e7 ef hI2 H2 FIN HN hsd aeV hdc hwr;have yo:=hcut;have aeW:af (ee (done++⟨iw,i32,id,is,ij,iN,jJ tt,im⟩::rest.map (·.1))=ee ls):=by rw[af,<-XV.o];simp
       have aeX:af ((done++⟨iw,i32,id,is,ij,iN,jJ tt,im⟩::rest.map (·.1))[ee done]?=eC ⟨iw,i32,id,is,ij,iN,jJ tt,im⟩):=by simp[af]
       obtain⟨q1,q2,q4,q5,qf,c2,c3,e0,e1,e2,e3,e4,e5,e6,e7,ef⟩:=yo.reads HP.o aeW.o.symm rfl rfl aeX.o HT.o.1 HT.o.2;simp only at e0 e1 e2 e3 e4 e5 e6 e7;have hlc:=O9 fb off (jJ tt) lab vB vP wc q4 q5 (by have:=yo.sb;simpa using this) (by have:=yo.sp;simpa using this) (by omega);generalize hnm:jJ tt=nm at *;have hrl2:ee done+(ee rest+1)=ee ls:=by have:=XV.o;simpa using this
       have UH:af _:=hrl2;obtain⟨bs,hbs⟩:∃l,l=lab.map (·.1):=⟨_,rfl⟩
       obtain⟨ps,hps⟩:∃l,l=lab.map (·.2):=⟨_,rfl⟩
       have hbl:ee bs<=1000:=by rw[hbs];simp;omega
       have hpl:ee ps<=1000:=by rw[hps];simp;omega
       rw[<-hbs,<-hps]at yo;have EO:af (bs=lab.map (·.1)/\ps=lab.map (·.2)):=⟨hbs,hps⟩
       have H4:af _:=yo;clear hrl2 hcut yo hbs hps;by_cases hneg:labelM nm lab<0
       ·have tK:af (labG ats (done++[⟨iw,i32,id,is,ij,iN,nm,im⟩]) rest (lab++[(nm,tt)])=labG ats [] (nz ls ats js) []):=by have:=jr.o;rw[iP9 hneg]at this;exact this
        have qa:=λo=>(((H4.o.quiet (aA.alloc o)).cells HP.o).2.2).1;go_upto_region 16 with(go_at_call 173;refine hlc.mono ?_;rintro e w4 ⟨rfl,rfl⟩)
        go_cut [] (λwx=>∃v2,mr w fb off cs (eK (eC ⟨gL,0,ez⟩) (ee ls) cL) (eK (eC ⟨gA,0,ez⟩) (ee ats) cA) (eK (eC ⟨gJ,0,ez⟩) (ee js) cJ) ats js (done++⟨iw,i32,id,is,ij,iN,nm,im⟩::rest.map (·.1)) (bs++[nm]) ps v2 vP wx)
        case first =>
         go_region_law (refine jV rfl (.tmp 100) (.tmp 109) 29 rfl 9 iS (eI ByteArray.empty) 1 16 underlying29 hiS hzS hsS hbS rfl (by decide) vB (ee bs) (FW bs) (by simp[Act.eval]) (H4.o.quiet (aU.alloc _)).sb ⟨_,0,ez⟩ 1 1 [eI nm] (by simp[Act.eval];rfl) rfl (aY _ _ _ _ (by simp)) (YG _) (by unfold maxLen;omega) (by omega) ?_;intro v2 w5 s2 m5 l2;obtain⟨o2,cp2,rfl,_⟩:=Sl.view s2;obtain⟨y4,y5,yf⟩:=H4.o.mid HP.o (.inl rfl) (aq.drew) m5)
         all_goals
          go_wp2_with fail;go_meet;exact⟨_,(H4.o.quiet (aq.drew)).aer HP.o s2 m5 l2⟩
        case rest =>
        obtain⟨v2,h5⟩:=hcut;clear q1 q2 q4 q5 qf c2 c3 e0 e1 e2 e3 e4 e5 e6 e7 ef qa hlc;obtain⟨q1,q2,q4,q5,qf⟩:=h5.cells HP.o;have H5:af _:=h5;have afW:=h5.fn.lt;clear h5;go_wp2_with (at_builtin;refine aP _ rfl (.tmp 117) (.tmp 119) 41 rfl 3 iN0 (vI 0) 1 8 underlying41 hiN hzN hsN hbN rfl (by decide) vP (ee ps) (jW ps) rfl (H5.o.quiet aq).sp ⟨wc.heap.size,0,ez⟩ 1 1 [vI tt] rfl rfl (aY _ _ _ _ (by simp)) (BD _) (by unfold maxLen;omega) (by omega) ?_;intro v3 w6 s3 m6 l3;obtain⟨o3,cp3,rfl,_⟩:=Sl.view s3;obtain⟨y4,y5,yf⟩:=H5.o.mid HP.o (.inr rfl) aq m6);go_roundg (ee rest)
        case measure=>simp
        case rel =>have hrl2:=UH.o;exact⟨done++[⟨iw,i32,id,is,ij,iN,nm,im⟩],rest,lab++[(nm,tt)],_,_,by simp,by rw[show(lab++[(nm,tt)]).map (·.1)=bs++[nm] by rw[EO.o.1];simp,show(lab++[(nm,tt)]).map (·.2)=ps++[tt] by rw[EO.o.2];simp,List.append_assoc];exact(H5.o.quiet aq).aes HP.o s3 m6 l3,tK.o,by rw[HRT.o];simp,rfl,by simp;omega,by simp;omega,λx hx=>hbw x (by simp[hx])⟩
       ·have tK:af (labG ats (done++[⟨iw,i32,id,is,ij,iN,nm,im⟩]) rest lab=labG ats [] (nz ls ats js) []):=by have:=jr.o;rw[iN9 hneg]at this;exact this
        go_wp2_with (go_at_call 173;refine hlc.mono ?_;rintro e w4 ⟨rfl,rfl⟩);go_roundg (ee rest)
        case measure=>simp
        case rel =>have hrl2:=UH.o;exact⟨done++[⟨iw,i32,id,is,ij,iN,nm,im⟩],rest,lab,_,_,by simp,by have h4:=H4.o;rw[EO.o.1,EO.o.2]at h4;simpa using h4,tK.o,by rw[HRT.o];simp,rfl,by simp;omega,by simp;omega,λx hx=>hbw x (by simp[hx])⟩
   ·have HB2:af (labG ats (done++[⟨iw,i32,id,is,ij,iN,il,im⟩]) rest lab=labG ats [] (nz ls ats js) []):=by have:=HB.o;rw[labG,iN9 hs]at this;exact this
    clear HB;go_wp2_with fail;go_roundg (ee rest)
    case measure=>simp
    case rel=>exact⟨done++[⟨iw,i32,id,is,ij,iN,il,im⟩],rest,lab,vB,vP,by simp,by have:=hI.quiet m1;simpa using this,HB2.o,by rw[HRT.o];simp,rfl,by simp;omega,by simp;have:=XV.o;simp at this;omega,λx hx=>hbw x (by simp[hx])⟩
theorem UT:NL:=Gb
