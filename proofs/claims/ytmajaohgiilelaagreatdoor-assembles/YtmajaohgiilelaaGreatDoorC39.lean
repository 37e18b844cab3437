import Derived.Test.YtmajaohgiilelaaGreatDoorC38
namespace Go.Proofs.YtmajaohgiilelaaGreatDoor
open Go.RowKit Tryz
open List renaming length_append->an,take_succ_cons->ao,drop_succ_cons->ar,map_append->ba,take_zero->bh,drop_zero->bj,length_map->bt
open Nat renaming le_succ->b9,zero_le->ca
set_option linter.all false
set_option maxRecDepth 1000000
set_option maxHeartbeats 2000000
theorem TR:Ey (λr=>r.x.kind=102):=by
 intro w wc pb sb X n sl cM cF oM oF a ms xs sn r y vl cs ln hpb Fe CG x8 WO Qr hbf hbs HA HY jZ fw Dh oK gR wY TQ yg QU QR HL2 gU x0 x1 p1 hx0;replace hx0:r.x.kind=102:=hx0
 iterate 246 intro _
 intro Q hgo
 let HBP:Exit->Act->tW->Prop:=bodyPost prog f6 (λ_ _=>True)
 conv=>arg 2;whnf
 have HKD:ae (0=0):=rfl;generalize hkd:r.x.kind=kd at *;have hx:=hx0;clear hx0;have q1:(kd==109)=false:=by rw[hx];rfl
 have q2:(kd==102)=true:=by rw[hx];rfl
 have Dm:ae (jX a r ln=some (rj a r.x.name ln)):=by rw[ae,HL2.o,iN9 (by rw[hx];decide),iP9 hx]
 have HFC:ae (Calls prog 12 #[.pointer (some ⟨pb,0,none⟩),.string r.x.name] wc λe w'=>e=.returned (.int .i64 (ahH r.x.name (a.fs.map (λx=>x.f.name))))/\w'=wc):=by
  have h1:=xH pb r.x.name (xs.map (λx=>(x.1.f,x.2))) _ _ wc jZ.o.da.prog (by rw[bt,List.flatMap_map];exact jZ.o.da.rows) (by rw[bt];omega);have e1:a.fs.map (λx=>x.f.name)=(xs.map (λx=>(x.1.f,x.2))).map (λx:yY×dF=>x.1.name):=by rw[HA.o.XG,List.map_map,List.map_map];rfl
  rw[ae,e1];exact h1
 have TS:ae ((rj a r.x.name ln).sn=(sn.wrong (decide (0<=ahH r.x.name (a.fs.map (λx=>x.f.name)))) 4 ln).wrong (decide (16<=xs.length)) 1 ln):=by have e1:(rj a r.x.name ln).sn=(a.sn.wrong (decide (0<=ahH r.x.name (a.fs.map (λx=>x.f.name)))) 4 ln).wrong (decide (16<=a.fs.length)) 1 ln:=rfl;rw[ae,e1,HA.o.esn,HA.o.XG,bt]
 generalize ahH r.x.name (a.fs.map (λx=>x.f.name))=pl at *;clear hx HL2 QU gR;go_wp2_with fail;refine HFC.o.mono ?_;rintro e W4 ⟨rfl,hW4⟩;subst hW4;clear HFC;go_wp2_with fail;refine(SW.fG (decide (0<=pl)) 4 ln _ jZ.o).mono ?_;rintro e W5 ⟨rfl,h5,m5⟩;have xZ:=ak h5;have mU:ae (aa af w W5):=fw.o.step m5 (λi hi e=>by have e':i=sb:=e;have:=Fe.o;omega);have HX5:ae (aq W5 X cs 47):=oK.o.ah m5 (λe=>aq.apart oK.o jZ.o.sn (by decide) e);have p15:W5.cell? ⟨pb,1,none⟩=some (.slice oF xs.length cF):=xZ.o.da.prog.cell 1;clear h5 m5 p1 x0 x1;go_wp2_with fail;refine(SW.fG (decide ((16:Int)<=(xs.length:Int))) 1 ln _ xZ.o).mono ?_;rintro e W6 ⟨rfl,h6,m6⟩
 have hde:decide ((16:Int)<=(xs.length:Int))=decide (16<=xs.length):=by
  by_cases e:16<=xs.length
  ·rw[decide_eq_true e,decide_eq_true (by omega)]
  ·rw[decide_eq_false e,decide_eq_false (by omega)]
 rw[hde,<-TS.o]at h6;clear hde;have uq:=ak h6;have E5:ae (aa af w W6):=mU.o.step m6 (λi hi e=>by have e':i=sb:=e;have:=Fe.o;omega);have Mi:ae (aq W6 X cs 47):=HX5.o.ah m6 (λe=>aq.apart HX5.o xZ.o.sn (by decide) e);clear h6 m6 p15 xZ mU HX5 jZ fw oK Dh;have HCX:=ak wY.o;have HBE:ae (∀e:Ext (λk=>(Value.slice oF xs.length cF).ownBlock=some k) W6,aq e.w pb #[.slice oM ms.length cM,.slice oF xs.length cF] 36/\aq e.w X cs 47):=λe=>⟨uq.o.da.prog.ah e.m (λh=>uq.o.da.rows.az uq.o.da.prog (by decide) h),Mi.o.ah e.m (λh=>uq.o.da.rows.az Mi.o (by decide) h)⟩
 have Yk:ae (∀W vA wA,aa af W6 W->Sl wA 57 8 vA (xs.length+1) (xs.flatMap ja++ja (eX.new r.x.name ln,⟨Mh.nil,ln,.slice none 0 0⟩))->aa (λk=>(Value.slice oF xs.length cF).ownBlock=some k) W wA->(∀k,vA.ownBlock=some k->(Value.slice oF xs.length cF).ownBlock=some k\/W.heap.size<=k)->(∃oA cA,vA=.slice oA (xs.length+1) cA)/\aq wA pb #[.slice oM ms.length cM,.slice oF xs.length cF] 36/\SW w pb sb (.slice oM ms.length cM) vA ms (xs++[(eX.new r.x.name ln,⟨Mh.nil,ln,.slice none 0 0⟩)]) (rj a r.x.name ln).sn (wA.setCell ⟨pb,1,none⟩ vA)/\aa af w (wA.setCell ⟨pb,1,none⟩ vA)):=λW vA wA mW sA mA lA=>by have hq:=uq.o.quiet mW;obtain⟨oA,cA,Ar,_⟩:=sA.view;have hmw:aa af w W:=E5.o.trans mW;have hP:aq wA pb #[.slice oM ms.length cM,.slice oF xs.length cF] 36:=hq.da.prog.ah mA (λh=>hq.da.rows.az hq.da.prog (by decide) h);have adV:Sn wA sb _:=aq.ah hq.sn mA (λh=>hq.da.rows.az hq.sn (by decide) h);have mP:aa (Only pb) wA (wA.setCell ⟨pb,1,none⟩ vA):=(aa.refl _ _).bP _ _;refine⟨⟨oA,cA,Ar⟩,hP,⟨hq.da.func r.x.name ln sA mA lA hmw.size,aq.ah adV mP (λe=>aq.apart hP adV (by decide) (show pb=sb from e.symm))⟩,?_⟩;refine(hmw.step mA (λi hi e=>by have:=hq.da.vG i e;omega)).step mP (λi hi e=>?_);have e':i=pb:=e;have:=hq.da.lo;omega
 have HA7:ae (AS (rj a r.x.name ln) ms (xs++[(eX.new r.x.name ln,⟨Mh.nil,ln,.slice none 0 0⟩)]) (rj a r.x.name ln).sn sl (n+1)):=by
  have h1:=AS.more HA.o (b9 n);refine⟨h1.ems,?_,rfl,h1.esl,h1.bm,?_,h1.bs,λx hx=>?_⟩
  ·show a.fs++_=_;rw[HA.o.XG,ba];rfl
  ·rw[an];have:=HA.o.bf;simp;omega
  ·rcases List.mem_append.1 hx with hx|hx
   ·exact h1.ok x hx
   ·rw[List.mem_singleton.1 hx];exact⟨rfl,rfl,ca _,ca _,ca _,λi hi=>(by cases hi)⟩
 go_upto_region 24 with fail
 haveI:Nonempty (Ext (λk=>(Value.slice oF xs.length cF).ownBlock=some k) W6):=Ext.ne _ _
 have d1:∀e:Ext (λk=>(Value.slice oF xs.length cF).ownBlock=some k) W6,e.w.cell? ⟨pb,1,none⟩=some (.slice oF xs.length cF):=λe=>(HBE.o e).1.cell 1;have d2:∀e:Ext (λk=>(Value.slice oF xs.length cF).ownBlock=some k) W6,e.w.cell? ⟨X,1,none⟩=some (.string r.x.name):=λe=>((HBE.o e).2.cell 1).trans HCX.o;obtain⟨iP,hiP,qH,hsP,vZ⟩:=info_parts YY;generalize hnm:r.x.name=nm at *;refine bR 11 [9,10] (λw'=>∃e:Ext (λk=>(Value.slice oF xs.length cF).ownBlock=some k) W6,w'=e.w) (by kernel_rfl) (by kernel_rfl) ⟨⟨_,(aa.refl _ _).drew⟩,rfl⟩ ?_;simp only[ao,bh,ar,bj]
 iterate 2 (refine aB rfl rfl rfl ?_;intro K hK;go_big_quiet_op;go_big_quiet_on)
 refine bq rfl rfl _ ⟨pb,0,none⟩ rfl rfl ?_;simp only[Act.put,sA9,sB9,sC9]
 iterate 6 (refine aB rfl rfl rfl ?_;intro K hK;go_big_quiet_op;go_big_quiet_on)
 refine aF rfl rfl ?_;intro K hK;refine jG 34 57 8 (.tmp 111) rfl #[.string nm,.slice none 0 0,.slice none 0 0,.int .i64 0,.slice none 0 0,.slice none 0 0,.int .i64 ln,.slice none 0 0] rfl rfl iP _ underlying34 hiP qH hsP (by decide) (by decide) ?_;have M5:ae (aa af W6 (W6.drew.alloc (.cells #[.string nm,.slice none 0 0,.slice none 0 0,.int .i64 0,.slice none 0 0,.slice none 0 0,.int .i64 ln,.slice none 0 0] 57))):=((aa.refl _ _).drew).alloc _;refine hK _ _ rfl ⟨⟨_,M5.o.of_nil⟩,rfl⟩ ?_;clear hK K
 try simp only[Act.put,sA9,sB9,sC9]
 refine aF rfl rfl ?_;intro K hK;refine cZ _ (.tmp 107) (.tmp 112) 34 rfl 57 iP _ 8 _ underlying34 hiP qH hsP vZ rfl (by decide) (.slice oF xs.length cF) xs.length (xs.flatMap ja) rfl ((uq.o.quiet M5.o).da.rows) ⟨W6.drew.heap.size,0,none⟩ 1 1 (#[.string nm,.slice none 0 0,.slice none 0 0,.int .i64 0,.slice none 0 0,.slice none 0 0,.int .i64 ln,.slice none 0 0]:tAV).toList rfl rfl (aT _ _ _ _ rfl) (by simp[Value.oneCell']) (by unfold maxLen;omega) (by omega) ?_;intro vA wA sA mA lA;obtain⟨⟨oA,cA,Ar⟩,JY,Qs,hMA⟩:=Yk.o _ vA wA M5.o sA mA lA;subst Ar;have MA:ae (aa (λk=>(Value.slice oF xs.length cF).ownBlock=some k) W6 wA):=(M5.o.of_nil).trans mA;refine hK _ _ rfl ⟨⟨_,MA.o⟩,rfl⟩ ?_;clear hK K;refine cu ?_;have pA1:=JY.cell 1;have pAf:=JY.frozen;have HWA:=ak Qs;have sU:=ak hMA;clear sA mA lA JY Qs hMA;go_wp2_with fail;exact Ex.of Dm.o ⟨_,_,_,_,_,_,rfl,HWA.o,sU.o,HA7.o⟩
theorem XI:Ey (λr=>r.x.kind=58):=by
 intro w wc pb sb X n sl cM cF oM oF a ms xs sn r y vl cs ln hpb Fe CG x8 WO Qr hbf hbs HA HY jZ fw Dh oK gR wY TQ yg QU QR HL2 gU x0 x1 p1 hx0;replace hx0:r.x.kind=58:=hx0
 iterate 246 intro _
 intro Q hgo
 let HBP:Exit->Act->tW->Prop:=bodyPost prog f6 (λ_ _=>True)
 conv=>arg 2;whnf
 have HKD:ae (0=0):=rfl;generalize hkd:r.x.kind=kd at *;have hx:=hx0;clear hx0;have q1:(kd==109)=false:=by rw[hx];rfl
 have q2:(kd==102)=false:=by rw[hx];rfl
 have q3:(kd==58)=true:=by rw[hx];rfl
 have Dm:ae (jX a r ln=some (Bf a r.x.name ln)):=by rw[ae,HL2.o,iN9 (by rw[hx];decide),iN9 (by rw[hx];decide),iP9 hx]
 have hpos:=gU.o (.inl hx);obtain⟨fr,y0,hxe⟩:=QT hpos;have CF:=ak hxe;clear hxe;obtain⟨g,hg,_⟩:=jZ.o.tH CF.o;subst hg;have hi:((xs.length:Int)-1)=((xs.length-1:Nat):Int):=by omega
 have HFL:ae (fr.length=xs.length-1):=by rw[ae,CF.o];simp
 have XJ:=HA.o.ok y0 (by rw[CF.o];simp);obtain⟨⟨⟨JZ,nH⟩,⟨nz,mE,iX,CZ⟩,J2,rE⟩,⟨⟨vL,vA,vB,vP⟩,hl0,vN⟩⟩:=y0;dsimp only at XJ;obtain⟨oo1,oo2,oo3,oo4,oo5,oo6⟩:=XJ;have XK:ae (rE.length=nz.length/\mE.length=nz.length):=⟨oo1,oo2⟩
 clear oo1 oo2;have Au:ae (∀W s',SW w pb sb (.slice oM ms.length cM) (.slice (some ⟨g,0,none⟩) xs.length cF) ms xs s' W->(W.cell? ⟨g,(xs.length-1)*8+1,none⟩=some vL/\W.cell? ⟨g,(xs.length-1)*8+2,none⟩=some vA/\W.cell? ⟨g,(xs.length-1)*8+3,none⟩=some (.int .i64 nH)/\W.cell? ⟨g,(xs.length-1)*8+4,none⟩=some vB/\W.cell? ⟨g,(xs.length-1)*8+5,none⟩=some vP/\W.cell? ⟨g,(xs.length-1)*8+7,none⟩=some vN)/\FA W (⟨⟨JZ,nH⟩,⟨nz,mE,iX,CZ⟩,J2,rE⟩,⟨⟨vL,vA,vB,vP⟩,hl0,vN⟩)):=λW s' hW=>by obtain⟨g',hg',h1,h2⟩:=hW.tH CF.o;injection hg' with hg';injection hg' with hg';subst hg';exact⟨⟨h1 1 (by omega),h1 2 (by omega),h1 3 (by omega),h1 4 (by omega),h1 5 (by omega),h1 7 (by omega)⟩,h2⟩
 have TS:ae ((Bf a r.x.name ln).sn=sn.wrong (decide (0<=ahJ r.x.name iX)) 4 ln):=by
  have e1:(Bf a r.x.name ln).sn=a.sn.wrong (decide (0<=ahJ r.x.name ((a.fs.getLast?.map (λx=>x.o.lab)).getD []))) 4 ln:=rfl;have e2:a.fs.getLast?.map (λx=>x.o.lab)=some iX:=by rw[HA.o.XG,CF.o,ba];simp
  rw[ae,e1,e2,HA.o.esn];rfl
 have HA9:ae (∀h9:dF,AS (Bf a r.x.name ln) ms (fr++[((⟨⟨JZ,nH⟩,⟨nz,mE,iX++[(r.x.name,(nH:Int))],CZ⟩,J2,rE⟩:eX),h9)]) (Bf a r.x.name ln).sn sl (n+1)):=λh9=>by
  have h1:=AS.more HA.o (b9 n);refine⟨h1.ems,?_,rfl,h1.esl,h1.bm,?_,h1.bs,λx hx=>?_⟩
  ·show uC a.fs _=_
   rw[HA.o.XG,CF.o,ba,ba];exact Hl _ _ _
  ·have:=h1.bf;rw[CF.o]at this;simpa using this
  ·rcases List.mem_append.1 hx with hx|hx
   ·exact h1.ok x (by rw[CF.o];simp[hx])
   ·rw[List.mem_singleton.1 hx];obtain⟨k1,k2⟩:=XK.o;exact⟨k1,k2,by show nz.length<=n+1;omega,by show(iX++[(r.x.name,(nH:Int))]).length<=n+1;rw[an];simp;omega,by show nH<=2*(n+1);omega,oo6⟩
 generalize hnm:r.x.name=nm at *;have LX:=(Au.o wc sn jZ.o).2;obtain⟨oB,cB,hvB,_⟩:=LX.ro.sb.view;obtain⟨oP,cP,hvP,_⟩:=LX.ro.sp.view;dsimp only at hvB hvP;subst hvB hvP;clear hx HL2 QU LX;go_upto_region 26 with fail;have gV:ae (aa af wc wc.drew):=(aa.refl _ _).drew;refine fI (by kernel_rfl) (by kernel_rfl) ?_;intro W hW;rw[<-hW]at gV;clear hW;have qu:=ak (jZ.o.quiet gV.o);have jJ:=ak (fw.o.trans gV.o);have xE:=ak (oK.o.ah gV.o id);have p14:W.cell? ⟨pb,1,none⟩=some (.slice (some ⟨g,0,none⟩) xs.length cF):=qu.o.da.prog.cell 1;clear jZ fw oK Dh p1 x0 x1 gV
 repeat(go_big_quiet_step (fail))
 refine wpQuiet_nil ?_;have x14:W.cell? ⟨X,1,none⟩=some (.string nm):=(xE.o.cell 1).trans wY.o;have HLC:ae (Calls prog 14 #[.pointer (some ⟨g,(xs.length-1)*8,none⟩),.string nm] W λe w'=>e=.returned (.int .i64 (ahJ nm iX))/\w'=W):=by obtain⟨⟨_,_,_,r4,r5,_⟩,hf⟩:=Au.o W sn qu.o;exact xM g _ nm iX _ _ W r4 r5 hf.ro.sb hf.ro.sp (by omega)
 generalize ahJ nm iX=lm at *;go_wp2_with fail;refine HLC.o.mono ?_;rintro e W5 ⟨rfl,hW5⟩;subst hW5;clear HLC p14 x14;go_wp2_with fail;refine(SW.fG (decide (0<=lm)) 4 ln _ qu.o).mono ?_;rintro e W6 ⟨rfl,h6,m6⟩;rw[<-TS.o]at h6;have uq:=ak h6;have E5:ae (aa af w W6):=jJ.o.step m6 (λi hi e=>by have e':i=sb:=e;have:=Fe.o;omega);have Mi:ae (aq W6 X cs 47):=xE.o.ah m6 (λe=>aq.apart xE.o qu.o.sn (by decide) e);clear h6 m6 qu jJ xE TS;obtain⟨o',c',hv',QV⟩:=uq.o.da.rows.view;injection hv' with e1 e2 e3;subst e1 e3;clear e2;obtain⟨g',wZ,hg',QV,htF,_⟩:=QV (by omega);injection hg' with hg';injection hg' with hg';subst hg';obtain⟨⟨_,_,r3,r4,r5,_⟩,hf6⟩:=Au.o W6 _ uq.o;have HBF:=ak QV;have HF6:=ak hf6;have HCF:ae (wZ[(xs.length-1)*8+3]?=some (.int .i64 nH)/\wZ[(xs.length-1)*8+4]?=some (.slice oB iX.length cB)/\wZ[(xs.length-1)*8+5]?=some (.slice oP iX.length cP)):=⟨(QV.cell _).symm.trans r3,(QV.cell _).symm.trans r4,(QV.cell _).symm.trans r5⟩
 clear QV htF r3 r4 r5 hf6;generalize hm1:xs.length-1=m1 at *;have HBE:ae (∀e:Ext (λk=>(Value.slice oB iX.length cB).ownBlock=some k) W6,aq e.w g wZ 57/\aq e.w X cs 47):=λe=>⟨HBF.o.ah e.m (λh=>HF6.o.ro.sb.az HBF.o (by decide) h),Mi.o.ah e.m (λh=>HF6.o.ro.sb.az Mi.o (by decide) h)⟩
 obtain⟨iS,hiS,hzS,hsS,hbS⟩:=info_parts Ve;obtain⟨iI,hiI,hzI,hsI,hbI⟩:=info_parts Kq;go_upto_region 29 with fail
 haveI:Nonempty (Ext (λk=>(Value.slice oB iX.length cB).ownBlock=some k) W6):=Ext.ne _ _
 have d1:∀e:Ext (λk=>(Value.slice oB iX.length cB).ownBlock=some k) W6,e.w.cell? ⟨g,m1*8+4,none⟩=some (.slice oB iX.length cB):=λe=>((HBE.o e).1.cell _).trans HCF.o.2.1;have d2:∀e:Ext (λk=>(Value.slice oB iX.length cB).ownBlock=some k) W6,e.w.cell? ⟨X,1,none⟩=some (.string nm):=λe=>((HBE.o e).2.cell 1).trans wY.o;refine bR 9 [7,8] (λw'=>∃e:Ext (λk=>(Value.slice oB iX.length cB).ownBlock=some k) W6,w'=e.w) (by kernel_rfl) (by kernel_rfl) ⟨⟨_,(aa.refl _ _).drew⟩,rfl⟩ ?_;simp only[ao,bh,ar,bj]
 iterate 2 (refine aB rfl rfl rfl ?_;intro K hK;go_big_quiet_op;go_big_quiet_on)
 refine bq rfl rfl _ ⟨g,m1*8,none⟩ rfl rfl ?_;simp only[Act.put,sA9,sB9,sC9]
 iterate 4 (refine aB rfl rfl rfl ?_;intro K hK;go_big_quiet_op;go_big_quiet_on)
 refine aF rfl rfl ?_;intro K hK;go_big_op;have M7:ae (aa af W6 (W6.alloc (.cells #[.string nm] 9)).drew):=((aa.refl _ _).alloc _).drew;refine hK _ _ rfl ⟨⟨_,M7.o.of_nil⟩,rfl⟩ ?_;clear hK K
 try simp only[Act.put,sA9,sB9,sC9]
 refine aF rfl rfl ?_;intro K hK;refine cZ _ (.tmp 142) (.tmp 145) 55 rfl 9 iS _ 1 _ underlying55 hiS hzS hsS hbS rfl (by decide) (.slice oB iX.length cB) iX.length (Db (iX.map (λx:tBA×Int=>x.1))) rfl (HF6.o.ro.sb.ah M7.o (λ_ _=>id)) ⟨W6.heap.size,0,none⟩ 1 1 (#[.string nm]:tAV).toList rfl rfl (aT W6 #[.string nm] 9 _ rfl) (by simp[Value.oneCell']) (by unfold maxLen;omega) (by omega) ?_;intro vA8 w8 sA8 mA8 lA8;obtain⟨Hm,Ho,acB,_⟩:=sA8.view;subst acB;have M8:ae (aa (λk=>(Value.slice oB iX.length cB).ownBlock=some k) W6 w8):=(M7.o.of_nil).trans mA8;have S8:=ak sA8;have L8:ae (∀k,(Value.slice Hm (iX.length+1) Ho).ownBlock=some k->(Value.slice oB iX.length cB).ownBlock=some k\/W6.heap.size<=k):=λk hk=>(lA8 k hk).elim .inl (λe=>.inr (by simp at e;omega));refine hK _ _ rfl ⟨⟨_,M8.o⟩,rfl⟩ ?_;clear hK K sA8 mA8 lA8 M7;refine cu ?_;have hgA:=(HBE.o ⟨_,M8.o⟩).1;have c84:w8.cell? ⟨g,m1*8+4,none⟩=some (.slice oB iX.length cB):=(hgA.cell _).trans HCF.o.2.1;have f84:=hgA.frozen;have HB9:ae (aq (w8.setCell ⟨g,m1*8+4,none⟩ (.slice Hm (iX.length+1) Ho)) g (wZ.setIfInBounds (m1*8+4) (.slice Hm (iX.length+1) Ho)) 57):=hgA.set _ _;have Gy:ae (Sl (w8.setCell ⟨g,m1*8+4,none⟩ (.slice Hm (iX.length+1) Ho)) 3 1 (.slice oP iX.length cP) iX.length (jf (iX.map (·.2)))):=by have h1:=HF6.o.ro.sp.ah M8.o (λk hk e=>HF6.o.ro.sp.apart HF6.o.ro.sb (by decide) hk e);exact h1.ah ((aa.refl (Only g) _).bP _ _) (λk hk e=>h1.az hgA (by decide) (hk.trans (congrArg some e)))
 clear hgA;go_upto_region 30 with fail;clear c84 f84;generalize hw9:w8.setCell ⟨g,m1*8+4,none⟩ (.slice Hm (iX.length+1) Ho)=w9 at *;have HW9:=ak hw9;clear hw9;have De:ae (∀e:Ext (λk=>(Value.slice oP iX.length cP).ownBlock=some k) w9,aq e.w g (wZ.setIfInBounds (m1*8+4) (.slice Hm (iX.length+1) Ho)) 57):=λe=>HB9.o.ah e.m (λh=>Gy.o.az HB9.o (by decide) h)
 have HG5:ae ((wZ.setIfInBounds (m1*8+4) (.slice Hm (iX.length+1) Ho))[m1*8+5]?=some (.slice oP iX.length cP)/\(wZ.setIfInBounds (m1*8+4) (.slice Hm (iX.length+1) Ho))[m1*8+3]?=some (.int .i64 nH)):=by
  refine⟨?_,?_⟩
  ·rw[Array.getElem?_setIfInBounds_ne (by omega)];exact HCF.o.2.2
  ·rw[Array.getElem?_setIfInBounds_ne (by omega)];exact HCF.o.1
 haveI:Nonempty (Ext (λk=>(Value.slice oP iX.length cP).ownBlock=some k) w9):=Ext.ne _ _
 have d5:∀e:Ext (λk=>(Value.slice oP iX.length cP).ownBlock=some k) w9,e.w.cell? ⟨g,m1*8+5,none⟩=some (.slice oP iX.length cP):=λe=>((De.o e).cell _).trans HG5.o.1;have d3:∀e:Ext (λk=>(Value.slice oP iX.length cP).ownBlock=some k) w9,e.w.cell? ⟨g,m1*8+3,none⟩=some (.int .i64 nH):=λe=>((De.o e).cell _).trans HG5.o.2;clear d1 d2;refine bR 11 [9,10] (λw'=>∃e:Ext (λk=>(Value.slice oP iX.length cP).ownBlock=some k) w9,w'=e.w) (by kernel_rfl) (by kernel_rfl) ⟨⟨_,(aa.refl _ _).drew⟩,rfl⟩ ?_;simp only[ao,bh,ar,bj]
 iterate 2 (refine aB rfl rfl rfl ?_;intro K hK;go_big_quiet_op;go_big_quiet_on)
 refine bq rfl rfl _ ⟨g,m1*8,none⟩ rfl rfl ?_;simp only[Act.put,sA9,sB9,sC9]
 iterate 3 (refine aB rfl rfl rfl ?_;intro K hK;go_big_quiet_op;go_big_quiet_on)
 refine bq rfl rfl _ ⟨g,m1*8,none⟩ rfl rfl ?_;simp only[Act.put,sA9,sB9,sC9]
 iterate 2 (refine aB rfl rfl rfl ?_;intro K hK;go_big_quiet_op;go_big_quiet_on)
 refine aF rfl rfl ?_;intro K hK;go_big_op;have Vg:ae (aa af w9 (w9.alloc (.cells #[.int .i64 nH] 3)).drew):=((aa.refl _ _).alloc _).drew;refine hK _ _ rfl ⟨⟨_,Vg.o.of_nil⟩,rfl⟩ ?_;clear hK K
 try simp only[Act.put,sA9,sB9,sC9]
 refine aF rfl rfl ?_;intro K hK;refine cZ _ (.tmp 153) (.tmp 158) 54 rfl 3 iI _ 1 _ underlying54 hiI hzI hsI hbI rfl (by decide) (.slice oP iX.length cP) iX.length (jf (iX.map (λx:tBA×Int=>x.2))) rfl (Gy.o.ah Vg.o (λ_ _=>id)) ⟨w9.heap.size,0,none⟩ 1 1 (#[.int .i64 nH]:tAV).toList rfl rfl (aT w9 #[.int .i64 nH] 3 _ rfl) (by simp[Value.oneCell']) (by unfold maxLen;omega) (by omega) ?_;intro agU Um PY XL XM;obtain⟨Bp,Bq,XN,_⟩:=PY.view;subst XN;have Qg:ae (aa (λk=>(Value.slice oP iX.length cP).ownBlock=some k) w9 Um):=(Vg.o.of_nil).trans XL;refine hK _ _ rfl ⟨⟨_,Qg.o⟩,rfl⟩ ?_;clear hK K;refine cu ?_;have hgB:=De.o ⟨_,Qg.o⟩;have ahp:Um.cell? ⟨g,m1*8+5,none⟩=some (.slice oP iX.length cP):=(hgB.cell _).trans HG5.o.1;have f115:=hgB.frozen
 have aby:ae (SW w pb sb (.slice oM ms.length cM) (.slice (some ⟨g,0,none⟩) xs.length cF) ms (fr++[((⟨⟨JZ,nH⟩,⟨nz,mE,iX++[(nm,(nH:Int))],CZ⟩,J2,rE⟩:eX),(⟨⟨vL,vA,.slice Hm (iX.length+1) Ho,.slice Bp (iX.length+1) Bq⟩,hl0,vN⟩:dF))]) (Bf a nm ln).sn (Um.setCell ⟨g,m1*8+5,none⟩ (.slice Bp (iX.length+1) Bq))/\aa af w (Um.setCell ⟨g,m1*8+5,none⟩ (.slice Bp (iX.length+1) Bq))):=by
  have Uz:=uq.o.da;rw[CF.o]at Uz;have hxl:(fr++[((⟨⟨JZ,nH⟩,⟨nz,mE,iX,CZ⟩,J2,rE⟩:eX),(⟨⟨vL,vA,.slice oB iX.length cB,.slice oP iX.length cP⟩,hl0,vN⟩:dF))]).length=xs.length:=by rw[CF.o]
  rw[hxl]at Uz;have hnx:xs.length=fr.length+1:=by rw[CF.o];simp
  have hfm:fr.length=m1:=HFL.o;have mg8:aa (Only g) w8 w9:=by rw[<-HW9.o];exact(aa.refl _ _).bP _ _
  have adW:aa (Only g) Um (Um.setCell ⟨g,m1*8+5,none⟩ (.slice Bp (iX.length+1) Bq)):=(aa.refl _ _).bP _ _;have hD:=yI.lab hnx Uz S8.o M8.o L8.o (by rw[hfm,HW9.o];exact aa.refl af w9) PY Qg.o (λk hk=>(XM k hk).elim .inl (λe=>.inr (by simp at e;omega))) E5.o.size;rw[hfm]at hD;have hs1:Sn w8 sb _:=aq.ah uq.o.sn M8.o (λe=>HF6.o.ro.sb.az uq.o.sn (by decide) e);have hgA:=(HBE.o ⟨_,M8.o⟩).1;have hs2:=aq.ah hs1 mg8 (λe=>aq.apart hgA hs1 (by decide) (show g=sb from e.symm));have hs3:=aq.ah hs2 Qg.o (λe=>Gy.o.az hs2 (by decide) e);have hs4:=aq.ah hs3 adW (λe=>aq.apart hgB hs3 (by decide) (show g=sb from e.symm));refine⟨⟨hD,hs4⟩,?_⟩;have hly:((⟨⟨JZ,nH⟩,⟨nz,mE,iX,CZ⟩,J2,rE⟩:eX),(⟨⟨vL,vA,.slice oB iX.length cB,.slice oP iX.length cP⟩,hl0,vN⟩:dF))∈xs:=by rw[CF.o];simp
  have hgo:=uq.o.da.vG g rfl;refine(((E5.o.step M8.o (λi hi e=>?_)).step mg8 (λi hi e=>?_)).step Qg.o (λi hi e=>?_)).step adW (λi hi e=>?_)
  ·have:=uq.o.da.CE _ hly (.slice oB iX.length cB) (by simp[dF.vals]) i e;omega
  ·have e':i=g:=e;omega
  ·have:=uq.o.da.CE _ hly (.slice oP iX.length cP) (by simp[dF.vals]) i e;omega
  ·have e':i=g:=e;omega
 have ahq:ae (xs.length=(fr++[((⟨⟨JZ,nH⟩,⟨nz,mE,iX++[(nm,(nH:Int))],CZ⟩,J2,rE⟩:eX),(⟨⟨vL,vA,.slice Hm (iX.length+1) Ho,.slice Bp (iX.length+1) Bq⟩,hl0,vN⟩:dF))]).length):=by rw[ae,CF.o];simp
 clear PY XL XM hgB d5 d3;go_wp2_with fail;exact Ex.of Dm.o ⟨_,_,_,_,_,_,rfl,aby.o.1,aby.o.2,HA9.o _⟩
theorem XO:Ey (λr=>r.x.kind=105):=by
 intro w wc pb sb X n sl cM cF oM oF a ms xs sn r y vl cs ln hpb Fe CG x8 WO Qr hbf hbs HA HY jZ fw Dh oK gR wY TQ yg QU QR HL2 gU x0 x1 p1 hx0;replace hx0:r.x.kind=105:=hx0
 iterate 246 intro _
 intro Q hgo
 let HBP:Exit->Act->tW->Prop:=bodyPost prog f6 (λ_ _=>True)
 conv=>arg 2;whnf
 have HKD:ae (0=0):=rfl;generalize hkd:r.x.kind=kd at *;have hx:=hx0;clear hx0;have q1:(kd==109)=false:=by rw[hx];rfl
 have q2:(kd==102)=false:=by rw[hx];rfl
 have q3:(kd==58)=false:=by rw[hx];rfl
 have q4:(kd==105)=true:=by rw[hx];rfl
 have Dm:ae (jX a r ln=some (CA a r.x ln)):=by rw[ae,HL2.o,iN9 (by rw[hx];decide),iN9 (by rw[hx];decide),iN9 (by rw[hx];decide),iP9 hx]
 have hpos:=gU.o (.inr hx);obtain⟨fr,y0,hxe⟩:=QT hpos;have CF:=ak hxe;clear hxe;obtain⟨g,hg,_⟩:=jZ.o.tH CF.o;subst hg;have hi:((xs.length:Int)-1)=((xs.length-1:Nat):Int):=by omega
 have HFL:ae (fr.length=xs.length-1):=by rw[ae,CF.o];simp
 have XJ:=HA.o.ok y0 (by rw[CF.o];simp);obtain⟨⟨⟨JZ,nH⟩,⟨nz,mE,iX,CZ⟩,J2,rE⟩,⟨⟨vL,vA,vB,vP⟩,hl0,vN⟩⟩:=y0;dsimp only at XJ;obtain⟨oo1,oo2,oo3,oo4,oo5,oo6⟩:=XJ;have XK:ae (rE.length=nz.length/\mE.length=nz.length):=⟨oo1,oo2⟩
 clear oo1 oo2;have Au:ae (∀W s',SW w pb sb (.slice oM ms.length cM) (.slice (some ⟨g,0,none⟩) xs.length cF) ms xs s' W->(W.cell? ⟨g,(xs.length-1)*8+1,none⟩=some vL/\W.cell? ⟨g,(xs.length-1)*8+2,none⟩=some vA/\W.cell? ⟨g,(xs.length-1)*8+3,none⟩=some (.int .i64 nH)/\W.cell? ⟨g,(xs.length-1)*8+4,none⟩=some vB/\W.cell? ⟨g,(xs.length-1)*8+5,none⟩=some vP/\W.cell? ⟨g,(xs.length-1)*8+7,none⟩=some vN)/\FA W (⟨⟨JZ,nH⟩,⟨nz,mE,iX,CZ⟩,J2,rE⟩,⟨⟨vL,vA,vB,vP⟩,hl0,vN⟩)):=λW s' hW=>by obtain⟨g',hg',h1,h2⟩:=hW.tH CF.o;injection hg' with hg';injection hg' with hg';subst hg';exact⟨⟨h1 1 (by omega),h1 2 (by omega),h1 3 (by omega),h1 4 (by omega),h1 5 (by omega),h1 7 (by omega)⟩,h2⟩
 have hN1:xs.length=fr.length+1:=by rw[CF.o];simp
 have JT:=ak hN1;clear hN1;have ha3:mE.length<=n:=by rw[XK.o.2];exact oo3
 have JX:rE.length<=n:=by rw[XK.o.1];exact oo3
 obtain⟨x2,hx2⟩:∃x2:aj,x2=(y.ranged ln sn).1:=⟨_,rfl⟩
 have hyr:y.ranged ln sn=({(r.x.ranged ln sn).1 with vl:=vl},(r.x.ranged ln sn).2):=by rw[HY.o];exact TP r.x vl ln sn
 have uH:ae (x2.i=(r.x.ranged ln a.sn).1.i):=by rw[ae,hx2,hyr,HA.o.esn]
 have adX:ae ((y.ranged ln sn).2=(r.x.ranged ln a.sn).2):=by rw[ae,hyr,HA.o.esn]
 clear hyr;have HW2:ae (x2.i.word=r.x.i.word):=by rw[ae,uH.o,Cj]
 have HRC:=Pq X sb y ln sn wc (by rw[<-gR.o];exact oK.o) jZ.o.sn (by rw[HY.o];have:=QR.o;show r.x.i.word.size<=1000000;omega);rw[<-hx2]at HRC;clear hx2;generalize(y.ranged ln sn).2=sn2 at *;have TS:ae ((CA a r.x ln).sn=sn2.wrong (decide (200<sl+dL x2.i.word)) 1 ln):=by have e1:(CA a r.x ln).sn=(r.x.ranged ln a.sn).2.wrong (decide (200<a.slots+dL r.x.i.word)) 1 ln:=rfl;rw[ae,e1,HA.o.esl,adX.o,HW2.o]
 have HA9:ae (∀h9:dF,AS (CA a r.x ln) ms (fr++[((⟨⟨JZ,nH+dL x2.i.word⟩,⟨nz++[x2.i],mE++[(nH:Int)],iX,CZ⟩,J2,rE++[ln]⟩:eX),h9)]) (CA a r.x ln).sn (sl+dL x2.i.word) (n+1)):=λh9=>by
  have h1:=AS.more HA.o (b9 n);have hq:=(Az x2.i.word).2;refine⟨h1.ems,?_,rfl,?_,h1.bm,?_,?_,λx hx=>?_⟩
  ·show uC a.fs _=_
   rw[HA.o.XG,CF.o,ba,ba,uH.o,Cj];exact Hl _ _ _
  ·show a.slots+_=_
   rw[h1.esl,HW2.o]
  ·have:=h1.bf;rw[CF.o]at this;simpa using this
  ·have:=HA.o.bs;omega
  ·rcases List.mem_append.1 hx with hx|hx
   ·exact h1.ok x (by rw[CF.o];simp[hx])
   ·rw[List.mem_singleton.1 hx];obtain⟨k1,k2⟩:=XK.o;refine⟨?_,?_,?_,by show iX.length<=n+1;omega,by show nH+dL x2.i.word<=2*(n+1);omega,λi hi=>?_⟩
    ·show(rE++[ln]).length=(nz++[x2.i]).length
     rw[an,an,k1];rfl
    ·show(mE++[(nH:Int)]).length=(nz++[x2.i]).length
     rw[an,an,k2];rfl
    ·show(nz++[x2.i]).length<=n+1
     rw[an];simp;omega
    ·rcases List.mem_append.1 (show i∈nz++[x2.i]from hi)with hi|hi
     ·exact oo6 i hi
     ·rw[List.mem_singleton.1 hi,HW2.o];have:=QR.o;omega
 have LX:=(Au.o wc sn jZ.o).2;obtain⟨oL,cL,NX,_⟩:=LX.ro.sl.view;obtain⟨oA,cA,Ar,_⟩:=LX.ro.sa.view;obtain⟨oN,cN,hvN,_⟩:=LX.sn.view;dsimp only at NX Ar hvN;subst NX Ar hvN;clear hx HL2 QU LX Au uH adX;go_wp2_with fail;refine HRC.mono ?_;rintro e W4 ⟨rfl,h4⟩;have jJ:ae (aa af w W4):=fw.o.step h4.md (λi hi e=>by have h1:=Fe.o;have h2:=CG.o;rcases(show i=X\/i=sb from e)with e'|e'<;>omega);have qu:ae (SW w pb sb (.slice oM ms.length cM) (.slice (some ⟨g,0,none⟩) xs.length cF) ms xs sn2 W4):=jZ.o.two oK.o h4.sn h4.md;have xE:=ak h4.ln;clear h4 HRC jZ fw oK Dh p1 x0 x1;go_upto_region 33 with fail;have gV:ae (aa af W4 W4.drew):=(aa.refl _ _).drew;refine fI (by kernel_rfl) (by kernel_rfl) ?_;intro W hW;rw[<-hW]at gV;clear hW;have xZ:=ak (qu.o.quiet gV.o);have mU:=ak (jJ.o.trans gV.o);have HX5:=ak (xE.o.ah gV.o id);have p15:W.cell? ⟨pb,1,none⟩=some (.slice (some ⟨g,0,none⟩) xs.length cF):=xZ.o.da.prog.cell 1;clear qu jJ xE gV
 repeat(go_big_quiet_step (fail))
 refine wpQuiet_nil ?_;generalize hm1:xs.length-1=m1 at *
 have ET:ae (IW w pb sb X g m1 cF (.slice oM ms.length cM) ms fr ⟨⟨JZ,nH⟩,⟨nz,mE,iX,CZ⟩,J2,rE⟩ ⟨⟨.slice oL nz.length cL,.slice oA mE.length cA,vB,vP⟩,hl0,.slice oN rE.length cN⟩ sn2 x2 W):=by
  have hD:=xZ.o;have hx1:xs.length=m1+1:=by omega
  rw[hx1,CF.o]at hD;exact⟨hD,mU.o,HX5.o,by have:=CG.o;omega,HFL.o⟩
 clear xZ mU HX5 p15;obtain⟨iI,hiI,hzI,hsI,hbI⟩:=info_parts Kq;obtain⟨iP,hiP,qH,hsP,vZ⟩:=info_parts Vd;go_upto_region 34 with fail;have HE5:ae (∀e:Ext (λk=>(Value.slice oL nz.length cL).ownBlock=some k) W,(∀c,c<8->e.w.cell? ⟨g,m1*8+c,none⟩=(ja ((⟨⟨JZ,nH⟩,⟨nz,mE,iX,CZ⟩,J2,rE⟩:eX),(⟨⟨.slice oL nz.length cL,.slice oA mE.length cA,vB,vP⟩,hl0,.slice oN rE.length cN⟩:dF)))[c]?)/\(∃wZ,aq e.w g wZ 57)/\aq e.w X x2.cells 47):=ET.o.ext (u:=.slice oL nz.length cL) (by simp[dF.vals])
 haveI:Nonempty (Ext (λk=>(Value.slice oL nz.length cL).ownBlock=some k) W):=Ext.ne _ _
 have d1:∀e:Ext (λk=>(Value.slice oL nz.length cL).ownBlock=some k) W,e.w.cell? ⟨g,m1*8+1,none⟩=some (.slice oL nz.length cL):=λe=>(HE5.o e).1 1 (by omega);refine bR 9 [6,7,8] (λw'=>∃e:Ext (λk=>(Value.slice oL nz.length cL).ownBlock=some k) W,w'=e.w) (by kernel_rfl) (by kernel_rfl) ⟨⟨_,(aa.refl _ _).drew⟩,rfl⟩ ?_;simp only[ao,bh,ar,bj]
 iterate 2 (refine aB rfl rfl rfl ?_;intro K hK;go_big_quiet_op;go_big_quiet_on)
 refine bq rfl rfl _ ⟨g,m1*8,none⟩ rfl rfl ?_;simp only[Act.put,sA9,sB9,sC9]
 iterate 3 (refine aB rfl rfl rfl ?_;intro K hK;go_big_quiet_op;go_big_quiet_on)
 refine aF rfl rfl ?_;intro K hK;refine nX 43 (.tmp 183) rfl X 3 rfl x2.i.cells _ (ET.o.quiet ((aa.refl _ _).drew)).ins underlying43 rfl (by kernel_rfl) ?_;refine hK _ _ rfl ⟨⟨_,(aa.refl _ _).drew⟩,rfl⟩ ?_;clear hK K
 try simp only[Act.put,sA9,sB9,sC9]
 refine aF rfl rfl ?_;intro K hK;refine jG 53 43 8 (.tmp 184) rfl x2.i.cells rfl rfl iP _ underlying53 hiP qH hsP (by decide) (by decide) ?_;have M7:ae (aa af W (W.drew.alloc (.cells x2.i.cells 43))):=((aa.refl _ _).drew).alloc _;refine hK _ _ rfl ⟨⟨_,M7.o.of_nil⟩,rfl⟩ ?_;clear hK K
 try simp only[Act.put,sA9,sB9,sC9]
 refine aF rfl rfl ?_;intro K hK;refine cZ _ (.tmp 182) (.tmp 185) 53 rfl 43 iP _ 8 _ underlying53 hiP qH hsP vZ rfl (by decide) (.slice oL nz.length cL) nz.length (mK nz) rfl ((ET.o.quiet M7.o).fa.ro.sl) ⟨W.drew.heap.size,0,none⟩ 1 1 x2.i.cells.toList rfl rfl (aT _ _ _ _ rfl) (by simp[bI.cells,Value.oneCell']) (by unfold maxLen;omega) (by omega) ?_;intro vA8 w8 sA8 mA8 lA8;obtain⟨Hm,Ho,acB,_⟩:=sA8.view;subst acB;have M8:ae (aa (λk=>(Value.slice oL nz.length cL).ownBlock=some k) W w8):=(M7.o.of_nil).trans mA8;have HI8:ae (IW w pb sb X g m1 cF (.slice oM ms.length cM) ms fr ⟨⟨JZ,nH⟩,⟨nz++[x2.i],mE,iX,CZ⟩,J2,rE⟩ ⟨⟨.slice Hm (nz.length+1) Ho,.slice oA mE.length cA,vB,vP⟩,hl0,.slice oN rE.length cN⟩ sn2 x2 (w8.setCell ⟨g,m1*8+1,none⟩ (.slice Hm (nz.length+1) Ho))):=ET.o.acx sA8 M8.o (λk hk=>(lA8 k hk).elim .inl (λe=>.inr (by simp at e;omega)));refine hK _ _ rfl ⟨⟨_,M8.o⟩,rfl⟩ ?_;clear hK K sA8 mA8 lA8 M7;refine cu ?_;have c81:w8.cell? ⟨g,m1*8+1,none⟩=some (.slice oL nz.length cL):=d1 ⟨_,M8.o⟩;obtain⟨wZ,hgA⟩:=(HE5.o ⟨_,M8.o⟩).2.1;have f81:=hgA.frozen;clear hgA;go_upto_region 35 with fail;clear c81 f81 d1 M8 HE5 ET;generalize w8.setCell ⟨g,m1*8+1,none⟩ (.slice Hm (nz.length+1) Ho)=w9 at *;have YF:ae (∀e:Ext (λk=>(Value.slice oA mE.length cA).ownBlock=some k) w9,(∀c,c<8->e.w.cell? ⟨g,m1*8+c,none⟩=(ja ((⟨⟨JZ,nH⟩,⟨nz++[x2.i],mE,iX,CZ⟩,J2,rE⟩:eX),(⟨⟨.slice Hm (nz.length+1) Ho,.slice oA mE.length cA,vB,vP⟩,hl0,.slice oN rE.length cN⟩:dF)))[c]?)/\(∃wZ,aq e.w g wZ 57)/\aq e.w X x2.cells 47):=HI8.o.ext (u:=.slice oA mE.length cA) (by simp[dF.vals])
 haveI:Nonempty (Ext (λk=>(Value.slice oA mE.length cA).ownBlock=some k) w9):=Ext.ne _ _
 have d2:∀e:Ext (λk=>(Value.slice oA mE.length cA).ownBlock=some k) w9,e.w.cell? ⟨g,m1*8+2,none⟩=some (.slice oA mE.length cA):=λe=>(YF.o e).1 2 (by omega);have d3:∀e:Ext (λk=>(Value.slice oA mE.length cA).ownBlock=some k) w9,e.w.cell? ⟨g,m1*8+3,none⟩=some (.int .i64 nH):=λe=>(YF.o e).1 3 (by omega);refine bR 11 [9,10] (λw'=>∃e:Ext (λk=>(Value.slice oA mE.length cA).ownBlock=some k) w9,w'=e.w) (by kernel_rfl) (by kernel_rfl) ⟨⟨_,(aa.refl _ _).drew⟩,rfl⟩ ?_;simp only[ao,bh,ar,bj]
 iterate 2 (refine aB rfl rfl rfl ?_;intro K hK;go_big_quiet_op;go_big_quiet_on)
 refine bq rfl rfl _ ⟨g,m1*8,none⟩ rfl rfl ?_;simp only[Act.put,sA9,sB9,sC9]
 iterate 3 (refine aB rfl rfl rfl ?_;intro K hK;go_big_quiet_op;go_big_quiet_on)
 refine bq rfl rfl _ ⟨g,m1*8,none⟩ rfl rfl ?_;simp only[Act.put,sA9,sB9,sC9]
 iterate 2 (refine aB rfl rfl rfl ?_;intro K hK;go_big_quiet_op;go_big_quiet_on)
 refine aF rfl rfl ?_;intro K hK;go_big_op;have Vg:ae (aa af w9 (w9.alloc (.cells #[.int .i64 nH] 3)).drew):=((aa.refl _ _).alloc _).drew;refine hK _ _ rfl ⟨⟨_,Vg.o.of_nil⟩,rfl⟩ ?_;clear hK K
 try simp only[Act.put,sA9,sB9,sC9]
 refine aF rfl rfl ?_;intro K hK;refine cZ _ (.tmp 193) (.tmp 198) 54 rfl 3 iI _ 1 _ underlying54 hiI hzI hsI hbI rfl (by decide) (.slice oA mE.length cA) mE.length (jf mE) rfl ((HI8.o.quiet Vg.o).fa.ro.sa) ⟨w9.heap.size,0,none⟩ 1 1 (#[.int .i64 nH]:tAV).toList rfl rfl (aT w9 #[.int .i64 nH] 3 _ rfl) (by simp[Value.oneCell']) (by unfold maxLen;omega) (by omega) ?_;intro agU Um PY XL XM;obtain⟨Bp,Bq,XN,_⟩:=PY.view;subst XN;have Qg:ae (aa (λk=>(Value.slice oA mE.length cA).ownBlock=some k) w9 Um):=(Vg.o.of_nil).trans XL;have XP:ae (IW w pb sb X g m1 cF (.slice oM ms.length cM) ms fr ⟨⟨JZ,nH⟩,⟨nz++[x2.i],mE++[(nH:Int)],iX,CZ⟩,J2,rE⟩ ⟨⟨.slice Hm (nz.length+1) Ho,.slice Bp (mE.length+1) Bq,vB,vP⟩,hl0,.slice oN rE.length cN⟩ sn2 x2 (Um.setCell ⟨g,m1*8+2,none⟩ (.slice Bp (mE.length+1) Bq))):=HI8.o.acy PY Qg.o (λk hk=>(XM k hk).elim .inl (λe=>.inr (by simp at e;omega)));refine hK _ _ rfl ⟨⟨_,Qg.o⟩,rfl⟩ ?_;clear hK K PY XL XM Vg;refine cu ?_;have agV:Um.cell? ⟨g,m1*8+2,none⟩=some (.slice oA mE.length cA):=d2 ⟨_,Qg.o⟩;obtain⟨csG,hgB⟩:=(YF.o ⟨_,Qg.o⟩).2.1;have f112:=hgB.frozen;clear hgB;go_upto_region 36 with fail;clear agV f112 d2 d3 Qg YF HI8;generalize Um.setCell ⟨g,m1*8+2,none⟩ (.slice Bp (mE.length+1) Bq)=w12 at *;have c127:w12.cell? ⟨g,m1*8+7,none⟩=some (.slice oN rE.length cN):=XP.o.row.1 7 (by omega);have M12:ae (aa af w12 (w12.alloc (.cells #[.int .i64 ln] 3))):=(aa.refl _ _).alloc _;have acC:ae (∀e:Ext (λk=>(Value.slice oN rE.length cN).ownBlock=some k) w12,(∀c,c<8->e.w.cell? ⟨g,m1*8+c,none⟩=(ja ((⟨⟨JZ,nH⟩,⟨nz++[x2.i],mE++[(nH:Int)],iX,CZ⟩,J2,rE⟩:eX),(⟨⟨.slice Hm (nz.length+1) Ho,.slice Bp (mE.length+1) Bq,vB,vP⟩,hl0,.slice oN rE.length cN⟩:dF)))[c]?)/\(∃wZ,aq e.w g wZ 57)/\aq e.w X x2.cells 47):=XP.o.ext (u:=.slice oN rE.length cN) (by simp[dF.vals]);go_upto_region 37 with(at_builtin;(refine aJ _ rfl (.tmp 206) (.tmp 208) 54 rfl 3 iI (.int .i64 0) 1 8 underlying54 hiI hzI hsI hbI rfl (by decide) (.slice oN rE.length cN) rE.length (jf rE) rfl ((XP.o.quiet M12.o).fa.sn) ⟨w12.heap.size,0,none⟩ 1 1 (#[.int .i64 ln]:tAV).toList rfl rfl (aT w12 #[.int .i64 ln] 3 _ rfl) (by simp[Value.oneCell']) (by unfold maxLen;omega) (by omega) ?_;intro ahr w13 acD adY adZ;obtain⟨XQ,XR,ad1,_⟩:=acD.view;subst ad1;have M13:ae (aa (λk=>(Value.slice oN rE.length cN).ownBlock=some k) w12 w13):=(M12.o.of_nil).trans adY;have aa9:ae (IW w pb sb X g m1 cF (.slice oM ms.length cM) ms fr ⟨⟨JZ,nH⟩,⟨nz++[x2.i],mE++[(nH:Int)],iX,CZ⟩,J2,rE++[ln]⟩ ⟨⟨.slice Hm (nz.length+1) Ho,.slice Bp (mE.length+1) Bq,vB,vP⟩,hl0,.slice XQ (rE.length+1) XR⟩ sn2 x2 (w13.setCell ⟨g,m1*8+7,none⟩ (.slice XQ (rE.length+1) XR))):=XP.o.acz acD M13.o (λk hk=>(adZ k hk).elim .inl (λe=>.inr (by simp at e;omega)));have agW:w13.cell? ⟨g,m1*8+7,none⟩=some (.slice oN rE.length cN):=(acC.o ⟨_,M13.o⟩).1 7 (by omega);obtain⟨csH,hgC⟩:=(acC.o ⟨_,M13.o⟩).2.1;have f137:=hgC.frozen;clear hgC acD adY adZ))
 clear c127 agW f137 M13 acC XP;generalize w13.setCell ⟨g,m1*8+7,none⟩ (.slice XQ (rE.length+1) XR)=w14 at *;have hq2:=(Az x2.i.word).2;have JU:ae (∀W',Calls prog 16 #[.agg x2.i.cells] W' λe w'=>e=.returned (.int .i64 (dL x2.i.word))/\aa af W' w'):=λW'=>Gq x2.i W';generalize dL x2.i.word=q at *;have acE:ae (∀e:Ext af w14,(∀c,c<8->e.w.cell? ⟨g,m1*8+c,none⟩=(ja ((⟨⟨JZ,nH⟩,⟨nz++[x2.i],mE++[(nH:Int)],iX,CZ⟩,J2,rE++[ln]⟩:eX),(⟨⟨.slice Hm (nz.length+1) Ho,.slice Bp (mE.length+1) Bq,vB,vP⟩,hl0,.slice XQ (rE.length+1) XR⟩:dF)))[c]?)/\(∃wZ,aq e.w g wZ 57)):=λe=>(aa9.o.quiet e.m).row
 haveI:Nonempty (Ext af w14):=Ext.ne _ _
 have d3:∀e:Ext af w14,e.w.cell? ⟨g,m1*8+3,none⟩=some (.int .i64 nH):=λe=>(acE.o e).1 3 (by omega);refine bR 9 [6,7] (λw'=>∃e:Ext af w14,w'=e.w) (by kernel_rfl) (by kernel_rfl) ⟨⟨_,(aa.refl _ _).drew⟩,rfl⟩ ?_;simp only[ao,bh,ar,bj]
 iterate 2 (refine aB rfl rfl rfl ?_;intro K hK;go_big_quiet_op;go_big_quiet_on)
 refine bq rfl rfl _ ⟨g,m1*8,none⟩ rfl rfl ?_;simp only[Act.put,sA9,sB9,sC9]
 iterate 3 (refine aB rfl rfl rfl ?_;intro K hK;go_big_quiet_op;go_big_quiet_on)
 refine aF rfl rfl ?_;intro K hK;refine nX 43 (.tmp 217) rfl X 3 rfl x2.i.cells _ (aa9.o.quiet ((aa.refl _ _).drew)).ins underlying43 rfl (by kernel_rfl) ?_;refine hK _ _ rfl ⟨⟨_,(aa.refl _ _).drew⟩,rfl⟩ ?_;clear hK K
 try simp only[Act.put,sA9,sB9,sC9]
 refine aF rfl rfl ?_;intro K hK;go_big_op;refine(JU.o _).mono ?_;rintro e w15 ⟨rfl,m15⟩;have M15:ae (aa af w14 w15):=((aa.refl _ _).drew).trans m15;refine hK _ _ rfl ⟨⟨_,M15.o⟩,rfl⟩ ?_;clear hK K m15
 try simp only[Act.put,sA9,sB9,sC9]
 refine aB rfl rfl rfl ?_;intro K hK;go_big_quiet_op;go_big_quiet_on;refine cu ?_;have acF:ae (IW w pb sb X g m1 cF (.slice oM ms.length cM) ms fr ⟨⟨JZ,nH+q⟩,⟨nz++[x2.i],mE++[(nH:Int)],iX,CZ⟩,J2,rE++[ln]⟩ ⟨⟨.slice Hm (nz.length+1) Ho,.slice Bp (mE.length+1) Bq,vB,vP⟩,hl0,.slice XQ (rE.length+1) XR⟩ sn2 x2 (w15.setCell ⟨g,m1*8+3,none⟩ (.int .i64 ((nH:Int)+(q:Int))))):=by have h:=(aa9.o.quiet M15.o).slots (nH+q);rw[show((nH+q:Nat):Int)=(nH:Int)+(q:Int) by omega]at h;exact h
 have agX:w15.cell? ⟨g,m1*8+3,none⟩=some (.int .i64 nH):=d3 ⟨_,M15.o⟩;obtain⟨csI,hgD⟩:=(acE.o ⟨_,M15.o⟩).2;have f153:=hgD.frozen;clear hgD;go_upto_region 38 with fail;clear agX f153 d3 M15 acE aa9;generalize w15.setCell ⟨g,m1*8+3,none⟩ (.int .i64 ((nH:Int)+(q:Int)))=w16 at *;go_wp2_with (first |(refine wpList_plain rfl λ_ hK=>nX 43 (.tmp 224) rfl X 3 rfl x2.i.cells _ acF.o.ins underlying43 rfl (by kernel_rfl) (hK _ _ ?_);clear hK));refine(JU.o _).mono ?_;rintro e w17 ⟨rfl,m17⟩;have XT:=acF.o.quiet m17;have XT:=ak XT;clear m17 acF JU;go_wp2_with fail;refine(SW.fG (decide ((200:Int)<(sl:Int)+(q:Int))) 1 ln _ XT.o.sw).mono ?_;rintro e w18 ⟨rfl,h18,m18⟩
 have hde:decide ((200:Int)<(sl:Int)+(q:Int))=decide (200<sl+q):=by
  by_cases e:200<sl+q
  ·rw[decide_eq_true e,decide_eq_true (by omega)]
  ·rw[decide_eq_false e,decide_eq_false (by omega)]
 rw[hde,<-TS.o]at h18;clear hde;have agY:=ak h18;have agZ:ae (aa af w w18):=XT.o.md.step m18 (λi hi e=>by have e':i=sb:=e;have:=Fe.o;omega);clear h18 m18 XT;go_wp2_with fail;exact Ex.of Dm.o ⟨_,_,_,_,_,_,by rw[Int.natCast_add],agY.o,agZ.o,HA9.o _⟩
theorem TT:Ey (λr=>r.x.kind=109\/r.x.kind=102\/r.x.kind=58\/r.x.kind=105):=by
 intro w wc pb sb X n sl cM cF oM oF a ms xs sn r y vl cs ln hpb Fe CG x8 WO Qr hbf hbs HA HY jZ fw Dh oK gR wY TQ yg QU QR HL2 gU x0 x1 p1 hx0;rcases hx0 with h|h|h|h
 ·exact XH w wc pb sb X n sl cM cF oM oF a ms xs sn r y vl cs ln hpb Fe CG x8 WO Qr hbf hbs HA HY jZ fw Dh oK gR wY TQ yg QU QR HL2 gU x0 x1 p1 h
 ·exact TR w wc pb sb X n sl cM cF oM oF a ms xs sn r y vl cs ln hpb Fe CG x8 WO Qr hbf hbs HA HY jZ fw Dh oK gR wY TQ yg QU QR HL2 gU x0 x1 p1 h
 ·exact XI w wc pb sb X n sl cM cF oM oF a ms xs sn r y vl cs ln hpb Fe CG x8 WO Qr hbf hbs HA HY jZ fw Dh oK gR wY TQ yg QU QR HL2 gU x0 x1 p1 h
 ·exact XO w wc pb sb X n sl cM cF oM oF a ms xs sn r y vl cs ln hpb Fe CG x8 WO Qr hbf hbs HA HY jZ fw Dh oK gR wY TQ yg QU QR HL2 gU x0 x1 p1 h
