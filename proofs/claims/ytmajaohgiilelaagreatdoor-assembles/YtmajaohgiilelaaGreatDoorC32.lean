import Derived.Test.YtmajaohgiilelaaGreatDoorC19
import Derived.Test.YtmajaohgiilelaaGreatDoorC25
namespace Go.Proofs.YtmajaohgiilelaaGreatDoor
open Go.RowKit Tryz
set_option linter.all false
set_option maxRecDepth 100000
set_option maxHeartbeats 2000000
theorem Lm(s:tBA)(w:tW)(hC:∀w,Calls Tryz.prog 30 #[.string s] w λe w'=>fA w s e w')(pm:qN)(cm:Option (List aY))(hcm:ahP s s.size 0 false []=cm)(t:aY)(r:List aY)(hn:cm=some (t::r))(tq:aY×DK)(VV:ae (tq=(DK.mk (t::r) false).take 110))(hlab:¬((t::r).length=2/\((t::r).getD 1 nS).kind=58))(hsm:tq.2.Small)(hwd:tq.1.s=FUNC)(hpm:pm=⟨{kind:=102,name:=tq.2.name.1},[],tq.2.name.2.done⟩):Calls Tryz.prog 10 #[.string s] w λe w'=>jF w pm e w':=by
 have HC:=ak hC;have HCM:=ak hcm;clear hC hcm;have CS:=ak hlab;have KQ:=ak hpm;have q1:=dK (show tq.1.s≠MAP by rw[hwd];decide);have q2:=dX hwd;have hw0:0<tq.1.s.size:=by rw[hwd];decide
 have hc0:(((tq.1.s)[0]'hw0).toNat:Int)=102:=by revert hw0;rw[hwd];intro h;rfl
 have Gx:ae tq.2.Small:=hsm;clear hlab hpm hsm hwd;have zF:ae (aq (w.alloc (.cells eB 47)) w.heap.size eB 47):=aq.new w _ _;have sU:ae (aa af w (w.alloc (.cells eB 47))):=(aa.refl _ _).alloc _;obtain⟨Z,hZ⟩:∃Z,Z=w.heap.size:=⟨_,rfl⟩
 subst hn;go_enter func10,ntmps10;go_upto_region 1 with fail;generalize w.alloc (.cells eB 47)=wA at *;have gU:ae (Z≠wA.heap.size/\w.heap.size<=Z/\w.heap.size<=wA.heap.size):=by have:=zF.o.lt;rw[ae];omega
 rw[<-hZ]at zF;rw[<-hZ];clear hZ;refine wp_region_lit ?_
 iterate 6 go_step
 refine wpList_store_row rfl 47 (.tmp 4) (.tmp 13) rfl wA.heap.size eB rfl rfl 47 eB (aq.new _ _ _) (by kernel_rfl) rfl (aj.one {} rfl) ?_;simp only[Act.put];go_upto_region 2 with fail;have HZ:ae (aq ((wA.alloc (.cells eB 47)).setRow wA.heap.size eB) Z eB 47):=(zF.o.alloc _).qO gU.o.1;have HX:ae (aq ((wA.alloc (.cells eB 47)).setRow wA.heap.size eB) wA.heap.size ({}:aj).cells 47):=aq.aI (aq.new _ _ _);have KO:ae (aa af w ((wA.alloc (.cells eB 47)).setRow wA.heap.size eB)):=(sU.o.alloc _).aI (.inr gU.o.2.2);clear zF sU;generalize(wA.alloc (.cells eB 47)).setRow wA.heap.size eB=w1 at *;generalize wA.heap.size=X at *;go_wp2_with fail;refine(HC.o _).mono ?_;rintro e w2 ⟨m2,h2⟩;have HZ2:ae (aq w2 Z eB 47):=HZ.o.ah (S:=af) m2 id;have uH:ae (aq w2 X ({}:aj).cells 47):=HX.o.ah (S:=af) m2 id;have ep:=ak (KO.o.trans m2);rw[HCM.o]at h2;clear HZ HX KO HC;simp only at h2;obtain⟨v,rfl,hT⟩:=h2;obtain⟨o,cap,rfl,_⟩:=hT.sl.view;obtain⟨g,rfl,VW,hg,hkd,hcap,hmax⟩:=hT.tks (by simp);have Gl:=ak hkd;obtain⟨n,hn⟩:∃n,n=(t::r).length:=⟨_,rfl⟩
 have HN:=ak hn;have VX:ae (wm w2 (.slice (some ⟨g,0,none⟩) n cap) (t::r)):=by rw[ae,hn];exact VW
 have hn0:0<n:=by rw[hn];simp
 have hn1:((n:Int)==0)=false:=by simp;omega
 rw[<-hn]at hcap;rw[<-hn];unfold maxLen at hmax;clear hT VW hkd hn;go_upto_region 6 with fail;have Qn:ae (aq (w2.alloc (.cells #[.slice (some ⟨g,0,none⟩) n cap,.bool false] 92)) w2.heap.size #[.slice (some ⟨g,0,none⟩) n cap,.bool false] 92):=aq.new _ _ _;have Dz:ae (wm (w2.alloc (.cells #[.slice (some ⟨g,0,none⟩) n cap,.bool false] 92)) (.slice (some ⟨g,0,none⟩) n cap) (t::r)):=VX.o.quiet ((aa.refl _ _).alloc _);have HZ3:ae (aq (w2.alloc (.cells #[.slice (some ⟨g,0,none⟩) n cap,.bool false] 92)) Z eB 47):=HZ2.o.alloc _;have oK:ae (aq (w2.alloc (.cells #[.slice (some ⟨g,0,none⟩) n cap,.bool false] 92)) X ({}:aj).cells 47):=uH.o.alloc _;have fw:ae (aa af w (w2.alloc (.cells #[.slice (some ⟨g,0,none⟩) n cap,.bool false] 92))):=ep.o.alloc _;have VY:ae (∀i,(w2.alloc (.cells #[.slice (some ⟨g,0,none⟩) n cap,.bool false] 92)).cell? ⟨g,i,none⟩=w2.cell? ⟨g,i,none⟩):=λi=>by simp only[World.cell?];rw[Below.heap_alloc _ _ _ hg]
 have xX:ae (w.heap.size<=w2.heap.size/\Z≠w2.heap.size/\X≠w2.heap.size/\g≠w2.heap.size):=by have:=ep.o.size;have:=HZ2.o.lt;have:=uH.o.lt;rw[ae];omega
 clear VX HZ2 uH ep hg;generalize w2.alloc (.cells #[.slice (some ⟨g,0,none⟩) n cap,.bool false] 92)=w3 at *;have xC:ae (∀i (hi:i<(t::r).length),w3.cell? ⟨g,i*5,none⟩=some (.int .u8 (t::r)[i].kind)):=λi hi=>by rw[VY.o];exact Gl.o i hi
 clear Gl VY;generalize w2.heap.size=P at *;have VZ:ae (Pk w3 P ⟨t::r,false⟩):=⟨_,Qn.o,Dz.o⟩
 have Nk:=gI P ⟨t::r,false⟩ 110 w3 VZ.o;have V3:ae (Calls Tryz.prog 31 #[.pointer (some ⟨P,0,none⟩),.int .u8 110] w3 λe w'=>e=.returned (.agg #[.int .u8 tq.1.kind,.string tq.1.s,.int .u64 ((tq.1.n.v%18446744073709551616:Nat):Int),.bool (decide (18446744073709551616<=tq.1.n.v)),.bool tq.1.n.minus])/\Pk w' P tq.2/\aa (Only P) w3 w'):=by rw[<-VV.o]at Nk;exact Nk
 clear Nk VV Qn Dz VZ;obtain⟨⟨kd,word,⟨vv,mi⟩⟩,p1⟩:=tq;simp only at *;generalize((vv%18446744073709551616:Nat):Int)=uu at *;generalize decide (18446744073709551616<=vv)=bg at *;go_wp2_with fail;refine V3.o.mono ?_;rintro e w4 ⟨rfl,k4,m4⟩;have Yj:=ak k4;have Sc:ae (aq w4 Z eB 47):=HZ3.o.ah (S:=Only P) m4 xX.o.2.1;have xE:ae (aq w4 X ({}:aj).cells 47):=oK.o.ah (S:=Only P) m4 xX.o.2.2.1;have jJ:ae (aa af w w4):=fw.o.step m4 (λi hi e=>by have:=xX.o.1;rw[show i=P from e]at hi;omega);have BH:ae (∀i (hi:i<(t::r).length),w4.cell? ⟨g,i*5,none⟩=some (.int .u8 (t::r)[i].kind)):=λi hi=>by rw[<-xC.o i hi];simp only[World.cell?];have hlt:g<w3.heap.size:=block_lt_of_cell (xC.o i hi);rw[m4.block g hlt xX.o.2.2.2]
 clear HZ3 oK fw xC V3 k4 m4;have hfd:∀W,(Instr.field 94 (.agg #[.int .u8 kd,.string word,.int .u64 uu,.bool bg,.bool mi]) 1).run Tryz.prog W=.ok (.string word) W:=λW=>tu W _ _ _ _ _;obtain⟨ql,V4⟩:∃ql:Bool,ql=decide ((t::r).length=2/\((t::r).getD 1 nS).kind=58):=⟨_,rfl⟩
 have xY:=ak V4;clear V4;go_upto_region 7 with fail;go_cut [43] (λv wx=>v=.bool ql/\wx=w4)
 case first =>
  by_cases h2:n=2
  ·have hl2:(t::r).length=2:=by rw[<-HN.o];exact h2
   have hk:=BH.o 1 (by omega);simp only[Nat.one_mul]at hk;have Jk:ae (((t::r).getD 1 nS).kind=((t::r)[1]'(by omega)).kind):=by rw[ae,List.getD_eq_getElem?_getD,List.getElem?_eq_getElem (by omega)];rfl
   have h2':((n:Int)==2)=true:=by simp;omega
   by_cases uK:((t::r)[1]'(by omega)).kind=58
   ·have qI:ae (ql=true):=by rw[ae,xY.o,decide_eq_true ⟨hl2,Jk.o.trans uK⟩]
    rw[uK]at hk;clear xY Jk hl2 uK;have h1n:(1:Int)<n:=by omega
    go_wp2_with fail;go_meet;exact⟨by rw[qI.o],rfl⟩
   ·have qI:ae (ql=false):=by rw[ae,xY.o,decide_eq_false (λe=>uK (Jk.o.symm.trans e.2))]
    have hk1:(((((t::r)[1]'(by omega)).kind:Nat):Int)==58)=false:=by rw[beq_eq_false_iff_ne];exact λe=>uK (Int.ofNat_inj.1 e)
    generalize((t::r)[1]'(by omega)).kind=k1 at *;clear xY Jk hl2 uK;have h1n:(1:Int)<n:=by omega
    go_wp2_with fail;go_meet;exact⟨by rw[qI.o],rfl⟩
  ·have qI:ae (ql=false):=by rw[ae,xY.o,decide_eq_false (λe=>h2 (by rw[HN.o];exact e.1))]
   have h2':((n:Int)==2)=false:=by simp;omega
   go_wp2_with fail;go_meet;exact⟨by rw[qI.o],rfl⟩
 case rest =>
 obtain⟨rfl,rfl⟩:=hcut;obtain rfl:ql=false:=by rw[xY.o,decide_eq_false CS.o]
 clear xY CS BH HN;have hXZ:¬X=Z:=λe=>gU.o.1 e.symm;have qu:ae (DJ w X Z P {} [] p1 wc):=⟨xE.o,Sl.nil _ _ _,(λk h=>by cases h),Yj.o,Sc.o,jJ.o,xX.o.1,gU.o.2.2,hXZ⟩
 have xZ:ae (DJ w X Z P {kind:=102} [] p1 (wc.setCell ⟨X,0,none⟩ (.int .u8 102))):=qu.o.put 0 rfl rfl;have x0:wc.cell? ⟨X,0,none⟩=some (.int .u8 0):=xE.o.cell 0;have fx:=xE.o.frozen;clear xE Sc jJ Yj hfd;go_upto_region 15 with fail;generalize wc.setCell ⟨X,0,none⟩ (.int .u8 102)=w5 at *;clear qu x0 fx hc0;have HNM:ae (Calls Tryz.prog 34 #[.pointer (some ⟨P,0,none⟩)] w5 λe w'=>e=.returned (.string p1.name.1)/\Pk w' P p1.name.2/\aa (Only P) w5 w'):=AF P p1 w5 xZ.o.pk Gx.o;generalize p1.name=nq at *;obtain⟨nm,p2⟩:=nq;simp only at *;go_wp2_with fail;refine HNM.o.mono ?_;rintro e w6 ⟨rfl,k6,m6⟩;have uq:=ak (xZ.o.read k6 m6);clear xZ HNM k6 m6;have x1:w6.cell? ⟨X,1,none⟩=some (.string E0):=uq.o.x.cell 1;have fx:=uq.o.x.frozen;have Sg:ae (DJ w X Z P {kind:=102,name:=nm} [] p2 (w6.setCell ⟨X,1,none⟩ (.string nm))):=uq.o.put 1 rfl rfl;go_upto_block 0 with fail;generalize w6.setCell ⟨X,1,none⟩ (.string nm)=w7 at *;clear uq x1 fx;go_cut [] (λwx=>DJ w X Z P {kind:=102,name:=nm} [] p2 wx)
 case first =>
  go_wp2_with fail;go_loopg [11] 1 (λc v wx=>v=.int .i64 0/\wx=w7/\c=1)
  case atStart=>exact⟨rfl,rfl,rfl⟩
  case round =>obtain⟨rfl,hwx,rfl⟩:=hrel;subst hwx;go_wp2_with fail;go_meet;exact Sg.o
 case rest =>
 obtain⟨wT,hwT⟩:∃wT,wT=wc:=⟨_,rfl⟩
 rw[<-hwT]at hcut ⊢;have HST:=ak hcut;clear hcut Sg hwT;have Ct:=ak KQ.o;clear KQ;obtain⟨q,hq⟩:∃q,q=p2:=⟨_,rfl⟩
 rw[<-hq]at HST Ct;clear hq;have HXT:=ak HST.o.x;have HKT:=ak HST.o.pk;have Qo:=ak HST.o.z;have HMT:=ak HST.o.md;obtain⟨lq,bad⟩:=q;obtain⟨vq,hbq,htq⟩:=HKT.o;obtain⟨oq,cq,rfl,_⟩:=htq;simp only at hbq;have hPZ:¬P=Z:=λe=>xX.o.2.1 e.symm;have HQ:=ak hbq;clear hbq;obtain⟨nq,V5⟩:∃nq,nq=lq.length:=⟨_,rfl⟩
 have HNQ:=ak V5;rw[<-V5]at HQ;clear V5;have e0:∀g:Ext (Only Z) wT,g.w.cell? ⟨P,0,none⟩=some (.slice oq nq cq):=λg=>g.cell HQ.o hPZ 0;have e1:∀g:Ext (Only Z) wT,g.w.cell? ⟨P,1,none⟩=some (.bool bad):=λg=>g.cell HQ.o hPZ 1;have ne1:=Ext.ne (Only Z) wT;go_upto_region 21 with fail;cases bad with
 |true =>
  refine aZ [0,14] (λw'=>∃e:Ext (Only Z) wT,w'=e.w) (by kernel_rfl) (by kernel_rfl) (by kernel_rfl) ⟨⟨_,(aa.refl _ _).drew⟩,rfl⟩ ?_;refine aF rfl rfl ?_;intro K hK;refine wp_load_row 47 (.tmp 4) rfl X rfl 47 ({kind:=102,name:=nm}:aj).cells (0,0) _ HXT.o.drew underlying47 rfl (by kernel_rfl) ?_;refine hK _ _ rfl ⟨⟨_,(aa.refl _ _).drew⟩,rfl⟩ ?_;clear hK K;simp only[Act.put,sA9,sB9,sC9]
  iterate 1 (refine aB rfl rfl rfl ?_;intro K hK;go_big_quiet_op;go_big_quiet_on)
  refine bq rfl rfl _ ⟨P,0,none⟩ rfl rfl ?_;simp only[Act.put,sA9,sB9,sC9]
  iterate 4 (refine aB rfl rfl rfl ?_;intro K hK;go_big_quiet_op;go_big_quiet_on)
  iterate 6 (refine uW rfl ?_;simp only[Act.put,sA9,sB9,sC9])
  refine jV rfl rfl _ _ _ _ rfl rfl ?_;simp only[Act.put,Act.eval,sA9,sB9,sC9];refine aF rfl rfl ?_;intro K hK;refine wp_store_row 47 (.tmp 2) (.tmp 86) rfl Z ({kind:=102,name:=nm}:aj).cells rfl rfl 47 _ Qo.o.drew (by kernel_rfl) rfl (aj.one _ rfl) ?_;refine hK _ _ rfl ⟨⟨_,((aa.refl _ _).drew).aI (.inl rfl)⟩,rfl⟩ ?_;clear hK K;simp only[Act.put,sA9,sB9,sC9]
  iterate 1 (refine aB rfl rfl rfl ?_;intro K hK;go_big_quiet_op;go_big_quiet_on)
  refine cu ?_;simp only[Exit.then];go_wp2_with fail;refine bodyPost_ret (au results10 _ _ Z 47 _ (0,0) _ _ rfl rfl (Qo.o.drew.aI) underlying47 rfl (by kernel_rfl)) rfl ?_;rw[Ct.o];exact⟨.slice none 0 0,(by first |(simp only[HQZ.o];rfl)|rfl),Sl.nil _ _ _,(λk h=>by cases h),(HMT.o.drew).aI (.inr gU.o.2.1)⟩
 |false =>
  refine aZ [0,14] (λw'=>∃e:Ext (Only Z) wT,w'=e.w) (by kernel_rfl) (by kernel_rfl) (by kernel_rfl) ⟨⟨_,(aa.refl _ _).drew⟩,rfl⟩ ?_;refine aF rfl rfl ?_;intro K hK;refine wp_load_row 47 (.tmp 4) rfl X rfl 47 ({kind:=102,name:=nm}:aj).cells (0,0) _ HXT.o.drew underlying47 rfl (by kernel_rfl) ?_;refine hK _ _ rfl ⟨⟨_,(aa.refl _ _).drew⟩,rfl⟩ ?_;clear hK K;simp only[Act.put,sA9,sB9,sC9]
  iterate 1 (refine aB rfl rfl rfl ?_;intro K hK;go_big_quiet_op;go_big_quiet_on)
  refine bq rfl rfl _ ⟨P,0,none⟩ rfl rfl ?_;simp only[Act.put,sA9,sB9,sC9]
  iterate 4 (refine aB rfl rfl rfl ?_;intro K hK;go_big_quiet_op;go_big_quiet_on)
  refine eU rfl rfl rfl ?_;intro K hK;go_big_quiet_op;go_big_quiet_on;refine jU rfl rfl _ ⟨P,0,none⟩ rfl rfl ?_;simp only[Act.put,sA9,sB9,sC9]
  iterate 2 (refine eU rfl rfl rfl ?_;intro K hK;go_big_quiet_op;go_big_quiet_on)
  refine DI rfl rfl (.tmp 96) 87 94 rfl oq nq cq rfl underlying87 ?_;simp only[Act.put,sA9,sB9,sC9]
  iterate 1 (refine eU rfl rfl rfl ?_;intro K hK;go_big_quiet_op;go_big_quiet_on)
  generalize hqz:((nq:Int)==0)=qz at *;have HQZ:ae (DK.done ⟨lq,false⟩=qz):=by rw[ae,<-hqz,HNQ.o];exact DH lq
  clear hqz;refine jV rfl rfl _ _ _ _ rfl rfl ?_;simp only[Act.put,Act.eval,sA9,sB9,sC9];refine aF rfl rfl ?_;intro K hK;refine wp_store_row 47 (.tmp 2) (.tmp 86) rfl Z ({kind:=102,name:=nm}:aj).cells rfl rfl 47 _ Qo.o.drew (by kernel_rfl) rfl (aj.one _ rfl) ?_;refine hK _ _ rfl ⟨⟨_,((aa.refl _ _).drew).aI (.inl rfl)⟩,rfl⟩ ?_;clear hK K;simp only[Act.put,sA9,sB9,sC9]
  iterate 1 (refine aB rfl rfl rfl ?_;intro K hK;go_big_quiet_op;go_big_quiet_on)
  refine cu ?_;simp only[Exit.then];go_wp2_with fail;refine bodyPost_ret (au results10 _ _ Z 47 _ (0,0) _ _ rfl rfl (Qo.o.drew.aI) underlying47 rfl (by kernel_rfl)) rfl ?_;rw[Ct.o];exact⟨.slice none 0 0,(by first |(simp only[HQZ.o];rfl)|rfl),Sl.nil _ _ _,(λk h=>by cases h),(HMT.o.drew).aI (.inr gU.o.2.1)⟩
theorem WJ(s:tBA)(i:Nat)(c:Int)(t:aY)(j:Nat)(h:ji s i c=some (t,j)):t.s.size<=s.size:=by
 unfold ji at h;split at h
 ·cases h;rw[ByteArray.size_extract];omega
 ·split at h
  ·split at h
   ·cases h
   ·cases h;rw[ByteArray.size_extract];omega
  ·split at h
   ·cases h;rw[ByteArray.size_extract];omega
   ·cases h
theorem Aa(s:tBA):∀(f i:Nat) (said:Bool) (acc ts:List aY),ahP s f i said acc=some ts->(∀t∈acc,t.s.size<=s.size)->∀t∈ts,t.s.size<=s.size
 |0,_,_,_,_,h,ha=>by cases h;exact ha
 |f+1,i,said,acc,ts,h,ha=>by
  rw[ahP]at h;split at h
  ·split at h
   ·cases h
   ·split at h
    ·exact Aa s f _ _ _ _ h ha
    ·split at h
     ·cases h
     ·rename_i t j e
      refine Aa s f _ _ _ _ h (λx hx=>?_);rcases List.mem_append.1 hx with hx|hx
      ·exact ha x hx
      ·rw[List.mem_singleton.1 hx];exact WJ s i _ t j e
  ·cases h;exact ha
theorem Pp(s:tBA)(w:tW)(hs:s.size<=100000)(hC:∀w,Calls Tryz.prog 30 #[.string s] w λe w'=>fA w s e w'):Calls Tryz.prog 10 #[.string s] w λe w'=>jF w (ahO s) e w':=by
 unfold ahO;cases hcm:ahP s s.size 0 false []with
 |none=>exact KN s w hC _ rfl _ hcm rfl
 |some ts =>
  cases ts with
  |nil=>exact Nc s w hC _ rfl _ hcm rfl
  |cons t r =>
   have hsz:=Aa s _ _ _ _ _ hcm (λt h=>by cases h);have hsm:(DK.mk (t::r) false).Small:=λx hx=>by have:=hsz x hx;omega
   obtain⟨h1,h2⟩:=DK.jk hsm 110;show Calls Tryz.prog 10 #[.string s] w λe w'=>jF w (jK (t::r)) e w'
   unfold jK;simp only;by_cases hl:(t::r).length=2/\((t::r).getD 1 nS).kind=58
   ·rw[iP9 hl];exact Jj s w hC _ _ hcm t r rfl _ rfl hl h1 rfl
   ·rw[iN9 hl];by_cases hm:((DK.mk (t::r) false).take 110).1.s=MAP
    ·rw[iP9 hm];exact Nn s w hC _ _ hcm t r rfl _ rfl hl h2 hm rfl
    ·rw[iN9 hm];by_cases hf:((DK.mk (t::r) false).take 110).1.s=FUNC
     ·rw[iP9 hf];exact Lm s w hC _ _ hcm t r rfl _ rfl hl h2 hf rfl
     ·rw[iN9 hf];exact Nl s w hC _ _ hcm t r rfl _ rfl hl h1 h2 hm hf rfl
def fu(code:Int):Int:=if code=3 then 0 else if code=4 then 1 else if code=5 then 2 else if code=1 then 3 else if code=6 then 4 else 5
structure j9 where
 code:Int:=0
 line:Int:=0
def j9.wrong(s:j9)(is:Bool)(code line:Int):j9 :=
 if is=true/\(s.code=0\/line<s.line\/(line=s.line/\fu code<fu s.code))then⟨code,line⟩else s
def Sn(w:tW)(b:Nat)(s:j9):Prop:=aq w b #[.int .i64 s.code,.int .i64 s.line] 39
theorem Lp(code:Int)(w:tW):Calls Tryz.prog 37 #[.int .i64 code] w λe w'=>e=.returned (.int .i64 (fu code))/\aa af w w':=by
 have HR:ae (fu code=if code=3 then 0 else if code=4 then 1 else if code=5 then 2 else if code=1 then 3 else if code=6 then 4 else 5):=rfl;generalize fu code=rm at *;have hb:aq (w.alloc (.cells #[.int .i64 3,.int .i64 4,.int .i64 5,.int .i64 1,.int .i64 6] 3)) w.heap.size #[.int .i64 3,.int .i64 4,.int .i64 5,.int .i64 1,.int .i64 6] 3:=aq.new _ _ _;have HM:ae (aa af w (w.alloc (.cells #[.int .i64 3,.int .i64 4,.int .i64 5,.int .i64 1,.int .i64 6] 3))):=(aa.refl _ _).alloc _;go_enter func37,ntmps37;go_wp2_with fail;generalize hw1:w.alloc (.cells #[.int .i64 3,.int .i64 4,.int .i64 5,.int .i64 1,.int .i64 6] 3)=w1 at *;have c0:w1.cell? ⟨w.heap.size,0,none⟩=some (.int .i64 3):=hb.cell 0;have c1:w1.cell? ⟨w.heap.size,1,none⟩=some (.int .i64 4):=hb.cell 1;have c2:w1.cell? ⟨w.heap.size,2,none⟩=some (.int .i64 5):=hb.cell 2;have c3:w1.cell? ⟨w.heap.size,3,none⟩=some (.int .i64 1):=hb.cell 3;have c4:w1.cell? ⟨w.heap.size,4,none⟩=some (.int .i64 6):=hb.cell 4;go_loopg [4] 5 (λq i wx=>∃k:Nat,k<=5/\i=.int .i64 k/\wx=w1/\(0<k->code≠3)/\(1<k->code≠4)/\(2<k->code≠5)/\(3<k->code≠1)/\(4<k->code≠6)/\q=5-k)
 case atStart=>exact⟨0,Nat.zero_le _,rfl,rfl,by omega,by omega,by omega,by omega,by omega,rfl⟩
 case round =>
  obtain⟨k,hk,rfl,hwx,n0,n1,n2,n3,n4,rfl⟩:=hrel;subst hwx;have HN:ae ((0<k->code≠3)/\(1<k->code≠4)/\(2<k->code≠5)/\(3<k->code≠1)/\(4<k->code≠6)):=⟨n0,n1,n2,n3,n4⟩
  clear n0 n1 n2 n3 n4;obtain rfl|rfl|rfl|rfl|rfl|rfl:k=0\/k=1\/k=2\/k=3\/k=4\/k=5:=by omega
  case inr.inr.inr.inr.inr =>
   have HP:ae (rm=5):=by obtain⟨n0,n1,n2,n3,n4⟩:=HN.o;rw[ae,HR.o,iN9 (n0 (by omega)),iN9 (n1 (by omega)),iN9 (n2 (by omega)),iN9 (n3 (by omega)),iN9 (n4 (by omega))]
   go_wp2_with fail;go_ret;exact⟨aV HP.o.symm,HM.o⟩
  case inl =>
   by_cases he:code=3
   ·have HP:ae (rm=0):=by rw[ae,HR.o,iP9 he]
    have he':((3:Int)==code)=true:=by simp[he]
    clear he;go_wp2_with fail;go_ret;exact⟨aV HP.o.symm,HM.o⟩
   ·have he':((3:Int)==code)=false:=by rw[beq_eq_false_iff_ne];exact λe=>he e.symm
    have HE:=ak he;clear he;go_wp2_with fail;go_roundg 4
    case measure=>omega
    case rel=>exact⟨1,by omega,by go_num,rfl,λ_=>HE.o,by omega,by omega,by omega,by omega,rfl⟩
  case inr.inl =>
   obtain⟨n0,n1,n2,n3,n4⟩:=HN.o;have h0:=n0 (by omega);have um:=ak h0;clear HN n0 n1 n2 n3 n4 h0;by_cases he:code=4
   ·have HP:ae (rm=1):=by rw[ae,HR.o,iN9 um.o,iP9 he]
    have he':((4:Int)==code)=true:=by simp[he]
    clear he;go_wp2_with fail;go_ret;exact⟨aV HP.o.symm,HM.o⟩
   ·have he':((4:Int)==code)=false:=by rw[beq_eq_false_iff_ne];exact λe=>he e.symm
    have HE:=ak he;clear he;go_wp2_with fail;go_roundg 3
    case measure=>omega
    case rel=>exact⟨2,by omega,by go_num,rfl,λ_=>um.o,λ_=>HE.o,by omega,by omega,by omega,rfl⟩
  case inr.inr.inl =>
   obtain⟨n0,n1,n2,n3,n4⟩:=HN.o;have um:ae (code≠3/\code≠4):=⟨n0 (by omega),n1 (by omega)⟩
   clear HN n0 n1 n2 n3 n4;by_cases he:code=5
   ·have HP:ae (rm=2):=by rw[ae,HR.o,iN9 um.o.1,iN9 um.o.2,iP9 he]
    have he':((5:Int)==code)=true:=by simp[he]
    clear he;go_wp2_with fail;go_ret;exact⟨aV HP.o.symm,HM.o⟩
   ·have he':((5:Int)==code)=false:=by rw[beq_eq_false_iff_ne];exact λe=>he e.symm
    have HE:=ak he;clear he;go_wp2_with fail;go_roundg 2
    case measure=>omega
    case rel=>exact⟨3,by omega,by go_num,rfl,λ_=>um.o.1,λ_=>um.o.2,λ_=>HE.o,by omega,by omega,rfl⟩
  case inr.inr.inr.inl =>
   obtain⟨n0,n1,n2,n3,n4⟩:=HN.o;have um:ae (code≠3/\code≠4/\code≠5):=⟨n0 (by omega),n1 (by omega),n2 (by omega)⟩
   clear HN n0 n1 n2 n3 n4;by_cases he:code=1
   ·have HP:ae (rm=3):=by rw[ae,HR.o,iN9 um.o.1,iN9 um.o.2.1,iN9 um.o.2.2,iP9 he]
    have he':((1:Int)==code)=true:=by simp[he]
    clear he;go_wp2_with fail;go_ret;exact⟨aV HP.o.symm,HM.o⟩
   ·have he':((1:Int)==code)=false:=by rw[beq_eq_false_iff_ne];exact λe=>he e.symm
    have HE:=ak he;clear he;go_wp2_with fail;go_roundg 1
    case measure=>omega
    case rel=>exact⟨4,by omega,by go_num,rfl,λ_=>um.o.1,λ_=>um.o.2.1,λ_=>um.o.2.2,λ_=>HE.o,by omega,rfl⟩
  case inr.inr.inr.inr.inl =>
   obtain⟨n0,n1,n2,n3,n4⟩:=HN.o;have um:ae (code≠3/\code≠4/\code≠5/\code≠1):=⟨n0 (by omega),n1 (by omega),n2 (by omega),n3 (by omega)⟩
   clear HN n0 n1 n2 n3 n4;by_cases he:code=6
   ·have HP:ae (rm=4):=by rw[ae,HR.o,iN9 um.o.1,iN9 um.o.2.1,iN9 um.o.2.2.1,iN9 um.o.2.2.2,iP9 he]
    have he':((6:Int)==code)=true:=by simp[he]
    clear he;go_wp2_with fail;go_ret;exact⟨aV HP.o.symm,HM.o⟩
   ·have he':((6:Int)==code)=false:=by rw[beq_eq_false_iff_ne];exact λe=>he e.symm
    have HE:=ak he;clear he;go_wp2_with fail;go_roundg 0
    case measure=>omega
    case rel=>exact⟨5,by omega,by go_num,rfl,λ_=>um.o.1,λ_=>um.o.2.1,λ_=>um.o.2.2.1,λ_=>um.o.2.2.2,λ_=>HE.o,rfl⟩
theorem Sn.put{w:tW}{b:Nat}{s:j9}(h:Sn w b s)(c l:Int):Sn ((w.setCell ⟨b,0,none⟩ (.int .i64 c)).setCell ⟨b,1,none⟩ (.int .i64 l)) b ⟨c,l⟩:=(aq.set h 0 _).set 1 _
theorem fG(b:Nat)(s:j9)(is:Bool)(code line:Int)(w:tW)(h:Sn w b s):Calls Tryz.prog 13 #[.pointer (some ⟨b,0,none⟩),.bool is,.int .i64 code,.int .i64 line] w λe w'=>e=.returned (.tuple #[])/\Sn w' b (s.wrong is code line)/\aa (Only b) w w':=by
 have HW:ae (s.wrong is code line=if is=true/\(s.code=0\/line<s.line\/(line=s.line/\fu code<fu s.code))then⟨code,line⟩else s):=rfl;generalize s.wrong is code line=sw at *;have HB:ae (Sn w b s):=h;cases is with
 |false =>
  have HW2:ae (sw=s):=by rw[ae,HW.o,iN9 (λe=>by cases e.1)]
  go_enter func13,ntmps13;go_wp2_with fail;refine bodyPost_ret (results_none rfl _ _ _) rfl ?_;rw[HW2.o];exact⟨rfl,HB.o,aa.refl _ _⟩
 |true =>
  obtain⟨sc,sl⟩:=s;simp only at *;have e0:∀g:Ext af w,g.w.cell? ⟨b,0,none⟩=some (.int .i64 sc):=λg=>g.cell (show aq w b #[.int .i64 sc,.int .i64 sl] 39 from h) id 0;have e1:∀g:Ext af w,g.w.cell? ⟨b,1,none⟩=some (.int .i64 sl):=λg=>g.cell (show aq w b #[.int .i64 sc,.int .i64 sl] 39 from h) id 1;have ne1:=Ext.ne af w;clear h;have HRC:=Lp code;have Gi:=Lp sc;generalize fu code=rc at *;generalize fu sc=rs at *;by_cases h0:sc=0
  ·have HW2:ae (sw=⟨code,line⟩):=by rw[ae,HW.o,iP9 ⟨by trivial,.inl h0⟩]
   have t0:(sc==0)=true:=by simpa using h0
   clear HW h0;go_enter func13,ntmps13;go_upto_region 1 with fail;refine bD af (by kernel_rfl) (by kernel_rfl) ?_
   repeat(go_big_quiet_step (first |(go_at_call_of 37 code;exact Calls.dN (HRC _)) |(go_at_call_of 37 sc;exact Calls.dN (Gi _))))
   refine wpQuiet_nil ?_;rintro w2 ⟨⟨wx,m2⟩,hwx⟩;simp only at hwx;subst hwx;have HB2:ae (Sn w2 b ⟨sc,sl⟩):=aq.ah HB.o m2 id;have c0:w2.cell? ⟨b,0,none⟩=some (.int .i64 sc):=aq.cell HB2.o 0;have c1:w2.cell? ⟨b,1,none⟩=some (.int .i64 sl):=aq.cell HB2.o 1;have fb:=aq.frozen HB2.o;have ep:ae (aa (Only b) w w2):=m2.of_nil;clear e0 e1 ne1 m2;go_wp2_with fail;go_end0;rw[HW2.o];exact⟨rfl,HB2.o.put code line,(ep.o.bP 0 _).bP 1 _⟩
  have t0:(sc==0)=false:=by simpa using h0
  by_cases h1:line<sl
  ·have HW2:ae (sw=⟨code,line⟩):=by rw[ae,HW.o,iP9 ⟨by trivial,.inr (.inl h1)⟩]
   clear HW h0;go_enter func13,ntmps13;go_upto_region 1 with fail;refine bD af (by kernel_rfl) (by kernel_rfl) ?_
   repeat(go_big_quiet_step (first |(go_at_call_of 37 code;exact Calls.dN (HRC _)) |(go_at_call_of 37 sc;exact Calls.dN (Gi _))))
   refine wpQuiet_nil ?_;rintro w2 ⟨⟨wx,m2⟩,hwx⟩;simp only at hwx;subst hwx;have HB2:ae (Sn w2 b ⟨sc,sl⟩):=aq.ah HB.o m2 id;have c0:w2.cell? ⟨b,0,none⟩=some (.int .i64 sc):=aq.cell HB2.o 0;have c1:w2.cell? ⟨b,1,none⟩=some (.int .i64 sl):=aq.cell HB2.o 1;have fb:=aq.frozen HB2.o;have ep:ae (aa (Only b) w w2):=m2.of_nil;clear e0 e1 ne1 m2;go_wp2_with fail;go_end0;rw[HW2.o];exact⟨rfl,HB2.o.put code line,(ep.o.bP 0 _).bP 1 _⟩
  have t1:decide (line<sl)=false:=decide_eq_false h1;by_cases h2:line=sl
  ·have t2:(line==sl)=true:=by simpa using h2
   by_cases h3:rc<rs
   ·have HW2:ae (sw=⟨code,line⟩):=by rw[ae,HW.o,iP9 ⟨by trivial,.inr (.inr ⟨h2,h3⟩)⟩]
    have HH:ae (line=sl):=h2;clear HW h0 h1 h2;go_enter func13,ntmps13;go_upto_region 1 with fail;refine bD af (by kernel_rfl) (by kernel_rfl) ?_
    repeat(go_big_quiet_step (first |(go_at_call_of 37 code;exact Calls.dN (HRC _)) |(go_at_call_of 37 sc;exact Calls.dN (Gi _))))
    refine wpQuiet_nil ?_;rintro w2 ⟨⟨wx,m2⟩,hwx⟩;simp only at hwx;subst hwx;have HB2:ae (Sn w2 b ⟨sc,sl⟩):=aq.ah HB.o m2 id;have c0:w2.cell? ⟨b,0,none⟩=some (.int .i64 sc):=aq.cell HB2.o 0;have c1:w2.cell? ⟨b,1,none⟩=some (.int .i64 sl):=aq.cell HB2.o 1;have fb:=aq.frozen HB2.o;have ep:ae (aa (Only b) w w2):=m2.of_nil;clear e0 e1 ne1 m2;go_wp2_with fail;go_end0;rw[HW2.o];exact⟨rfl,HB2.o.put code line,(ep.o.bP 0 _).bP 1 _⟩
   ·have HW2:ae (sw=⟨sc,sl⟩):=by rw[ae,HW.o,iN9 (λe=>e.2.elim h0 (λe=>e.elim h1 (λe=>h3 e.2)))]
    have t3:decide (rc<rs)=false:=decide_eq_false h3;clear HW h0 h1 h2 h3;go_enter func13,ntmps13;go_upto_region 1 with fail;refine bD af (by kernel_rfl) (by kernel_rfl) ?_
    repeat(go_big_quiet_step (first |(go_at_call_of 37 code;exact Calls.dN (HRC _)) |(go_at_call_of 37 sc;exact Calls.dN (Gi _))))
    refine wpQuiet_nil ?_;rintro w2 ⟨⟨wx,m2⟩,hwx⟩;simp only at hwx;subst hwx;have HB2:ae (Sn w2 b ⟨sc,sl⟩):=aq.ah HB.o m2 id;have c0:w2.cell? ⟨b,0,none⟩=some (.int .i64 sc):=aq.cell HB2.o 0;have c1:w2.cell? ⟨b,1,none⟩=some (.int .i64 sl):=aq.cell HB2.o 1;have fb:=aq.frozen HB2.o;have ep:ae (aa (Only b) w w2):=m2.of_nil;clear e0 e1 ne1 m2;go_wp2_with fail;go_end0;rw[HW2.o];exact⟨rfl,HB2.o,ep.o⟩
  ·have HW2:ae (sw=⟨sc,sl⟩):=by rw[ae,HW.o,iN9 (λe=>e.2.elim h0 (λe=>e.elim h1 (λe=>h2 e.1)))]
   have t2:(line==sl)=false:=by simpa using h2
   clear HW h0 h1 h2;go_enter func13,ntmps13;go_upto_region 1 with fail;refine bD af (by kernel_rfl) (by kernel_rfl) ?_
   repeat(go_big_quiet_step (first |(go_at_call_of 37 code;exact Calls.dN (HRC _)) |(go_at_call_of 37 sc;exact Calls.dN (Gi _))))
   refine wpQuiet_nil ?_;rintro w2 ⟨⟨wx,m2⟩,hwx⟩;simp only at hwx;subst hwx;have HB2:ae (Sn w2 b ⟨sc,sl⟩):=aq.ah HB.o m2 id;have c0:w2.cell? ⟨b,0,none⟩=some (.int .i64 sc):=aq.cell HB2.o 0;have c1:w2.cell? ⟨b,1,none⟩=some (.int .i64 sl):=aq.cell HB2.o 1;have fb:=aq.frozen HB2.o;have ep:ae (aa (Only b) w w2):=m2.of_nil;clear e0 e1 ne1 m2;go_wp2_with fail;go_end0;rw[HW2.o];exact⟨rfl,HB2.o,ep.o⟩
def aA.signed(n:aA):Int:=Go.RowKit.wrap64 n.bits
def aj.nD(x:aj):Int:=aD x.i.word
def aj.WL(x:aj):Bool:=if x.nD=119 then x.n.within 9223372036854775808 18446744073709551615 else x.n.within 2147483648 2147483647
def aj.ig(x:aj)(line:Int)(s:j9):aj×j9 :=
 if x.hj then({x with i:={x.i with jump:=x.j.signed}},s.wrong (!x.j.within 32768 32767) 3 line)else(x,s)
def aj.nr(x:aj)(line:Int)(s:j9):aj×j9 :=
 if x.hn then({x with i:={x.i with n:=x.n.bits}},s.wrong (!x.WL) 3 line)else(x,s)
def aj.kF(x:aj):Bool:=decide (x.i.d=10)&&(decide (x.nD=114)||decide (x.nD=108)||decide (x.nD=119))
def aj.ranged(x:aj)(line:Int)(s:j9):aj×j9 :=
 (((x.ig line s).1.nr line (x.ig line s).2).1,((x.ig line s).1.nr line (x.ig line s).2).2.wrong x.kF 3 line)
structure XS(w0:tW)(a b:Nat)(x:aj)(s:j9)(w:tW):Prop where
 ln:aq w a x.cells 47
 sn:Sn w b s
 md:aa (AB a b) w0 w
section
variable {w0 w w' : World} {a b : Nat} {x y : aj} {s t : j9}
theorem XS.start(h:aq w a x.cells 47)(k:Sn w b s):XS w a b x s w:=⟨h,k,aa.refl _ _⟩
theorem XS.ne(h:XS w0 a b x s w):a≠b:=aq.apart h.ln h.sn (by decide)
theorem XS.quiet(h:XS w0 a b x s w)(m:aa af w w'):XS w0 a b x s w':=⟨h.ln.ah m id,aq.ah h.sn m id,h.md.trans m.of_nil⟩
theorem XS.told(h:XS w0 a b x s w)(k:Sn w' b t)(m:aa (Only b) w w'):XS w0 a b x t w' :=
 ⟨h.ln.ah m (λe=>h.ne e),k,h.md.trans (m.mono (λ_ _ e=>.inr e))⟩
theorem XS.set(h:XS w0 a b x s w)(i:Nat)(v:Value)(hy:x.cells.setIfInBounds i v=y.cells):XS w0 a b y s (w.setCell ⟨a,i,none⟩ v):=by have m:aa (Only a) w (w.setCell ⟨a,i,none⟩ v):=(aa.refl _ _).bP i v;refine⟨?_,aq.ah h.sn m (λe=>h.ne e.symm),h.md.trans (m.mono (λ_ _ e=>.inl e))⟩;rw[<-hy];exact h.ln.set i v
end
theorem kG(w0:tW)(a b:Nat)(x:aj)(s:j9)(is:Bool)(code line:Int)(w:tW)(h:XS w0 a b x s w):Calls Tryz.prog 13 #[.pointer (some ⟨b,0,none⟩),.bool is,.int .i64 code,.int .i64 line] w λe w'=>e=.returned (.tuple #[])/\XS w0 a b x (s.wrong is code line) w' :=
 (fG b s is code line w h.sn).mono (λ_ _ ⟨he,hs,hm⟩=>⟨he,h.told hs hm⟩)
theorem kP(n:aA)(low high:Nat)(w:tW)(hl:low<18446744073709551616)(hh:high<18446744073709551616):Calls Tryz.prog 36 #[.agg #[.int .u64 ((n.v%18446744073709551616:Nat):Int),.bool (decide (18446744073709551616<=n.v)),.bool n.minus],.int .u64 low,.int .u64 high] w λe w'=>e=.returned (.bool (n.within low high))/\aa af w w':=Mv n low high w hl hh
theorem Ea(n:aA)(w:tW):Calls Tryz.prog 39 #[.agg #[.int .u64 ((n.v%18446744073709551616:Nat):Int),.bool (decide (18446744073709551616<=n.v)),.bool n.minus]] w λe w'=>e=.returned (.int .u64 n.bits)/\aa af w w':=Q4 n w
theorem Pq(a b:Nat)(x:aj)(line:Int)(s:j9)(w:tW)(h:aq w a x.cells 47)(hsn:Sn w b s)(hw:x.i.word.size<=1000000):Calls Tryz.prog 15 #[.pointer (some ⟨a,0,none⟩),.int .i64 line,.pointer (some ⟨b,0,none⟩)] w λe w'=>e=.returned (.tuple #[])/\XS w a b (x.ranged line s).1 (x.ranged line s).2 w':=by
 have HP:ae (XS w a b x s w):=XS.start h hsn;have HO:ae (x.ranged line s=(((x.ig line s).1.nr line (x.ig line s).2).1,((x.ig line s).1.nr line (x.ig line s).2).2.wrong x.kF 3 line)):=rfl;have HS:ae (Calls Tryz.prog 38 #[.string x.i.word] w λe w'=>e=.returned (.int .u8 (aD x.i.word))/\aa af w w'):=eG _ w (by unfold maxLen;omega);have HJ:ae (x.ig line s=if x.hj then({x with i:={x.i with jump:=x.j.signed}},s.wrong (!x.j.within 32768 32767) 3 line)else(x,s)):=rfl;have HD:ae (x.kF=(decide (x.i.d=10)&&(decide (aD x.i.word=114)||decide (aD x.i.word=108)||decide (aD x.i.word=119)))):=rfl;have HKW:ae ((x.ig line s).1.WL=if aD x.i.word=119 then(x.ig line s).1.n.within 9223372036854775808 18446744073709551615 else(x.ig line s).1.n.within 2147483648 2147483647):=by rw[ae,aj.WL,aj.nD,aj.ig];split<;>rfl
 have KP:ae ((x.ig line s).1.i.d=x.i.d):=by rw[ae,aj.ig];split<;>rfl
 have x3:w.cell? ⟨a,3,none⟩=some (.string x.i.word):=h.cell 3;clear h hsn;generalize wW:aD x.i.word=so at *;have HSO:ae (aD x.i.word=so):=wW;clear wW;generalize x.ranged line s=ox at *;generalize x.kF=rd at *;go_enter func15,ntmps15;go_wp2_with fail;refine HS.o.mono ?_;rintro e w1 ⟨rfl,m1⟩;have fq:ae (XS w a b x s w1):=HP.o.quiet m1;clear HP HS m1 x3;have x18:w1.cell? ⟨a,18,none⟩=some (.bool x.hj):=fq.o.ln.cell 18;go_upto_if 21 with fail;go_cut [] (λwx=>XS w a b (x.ig line s).1 (x.ig line s).2 wx)
 case first =>
  clear HO HD HKW KP x18;generalize x.ig line s=oj at *;by_cases hh:x.hj=true
  case neg =>
   have wV:x.hj=false:=by simpa using hh
   have KG:ae (oj=(x,s)):=by rw[ae,HJ.o,iN9 hh]
   clear HJ hh;generalize x.hj=vh at *;subst wV;go_wp2_with fail;go_meet;rw[KG.o];exact fq.o
  case pos =>
   have KG:ae (oj=({x with i:={x.i with jump:=x.j.signed}},s.wrong (!x.j.within 32768 32767) 3 line)):=by rw[ae,HJ.o,iP9 hh]
   clear HJ;have QB:=kP x.j 32768 32767 w1 (by decide) (by decide);have HBI:=Ea x.j;generalize x.j.within 32768 32767=qi at *;have HJC:ae (∀ww s',XS w a b x s' ww->ww.cell? ⟨a,14,none⟩=some (.int .u64 ((x.j.v%18446744073709551616:Nat):Int))/\ww.cell? ⟨a,15,none⟩=some (.bool (decide (18446744073709551616<=x.j.v)))/\ww.cell? ⟨a,16,none⟩=some (.bool x.j.minus)/\ww.cell? ⟨a,7,none⟩=some (.int .i64 x.i.jump)/\∀i,ww.frozen? ⟨a,i,none⟩=false):=λww s' hX=>⟨hX.ln.cell 14,hX.ln.cell 15,hX.ln.cell 16,hX.ln.cell 7,hX.ln.frozen⟩
   obtain⟨j0,j1,j2,_,_⟩:=HJC.o w1 s fq.o;generalize((x.j.v%18446744073709551616:Nat):Int)=uu at *;generalize decide (18446744073709551616<=x.j.v)=bg at *;generalize hmi:x.j.minus=mi at *;have Ab:ae (Calls Tryz.prog 36 #[.agg #[.int .u64 uu,.bool bg,.bool mi],.int .u64 32768,.int .u64 32767] w1 λe w'=>e=.returned (.bool qi)/\aa af w1 w'):=QB;have ab3:ae (∀w,Calls Tryz.prog 39 #[.agg #[.int .u64 uu,.bool bg,.bool mi]] w λe w'=>e=.returned (.int .u64 x.j.bits)/\aa af w w'):=HBI;clear QB HBI hmi;rw[hh];go_wp2_with fail;refine Ab.o.mono ?_;rintro e w2 ⟨rfl,m2⟩;have eT:ae (XS w a b x s w2):=fq.o.quiet m2;clear fq m2 j0 j1 j2 Ab;go_wp2_with fail;refine(kG w a b x s (!qi) 3 line w2 eT.o).mono ?_;rintro e w3 ⟨rfl,h3⟩;have mr:ae (XS w a b x (s.wrong (!qi) 3 line) w3):=h3;clear h3 eT;obtain⟨j0,j1,j2,_,_⟩:=HJC.o w3 _ mr.o;go_wp2_with fail;refine(ab3.o _).mono ?_;rintro e w4 ⟨rfl,m4⟩;have xB:ae (XS w a b x (s.wrong (!qi) 3 line) w4):=mr.o.quiet m4;clear mr m4 j0 j1 j2;obtain⟨_,_,_,j7,fz⟩:=HJC.o w4 _ xB.o;have E9:ae (XS w a b {x with i:={x.i with jump:=x.j.signed}} (s.wrong (!qi) 3 line) (w4.setCell ⟨a,7,none⟩ (.int .i64 (Go.RowKit.wrap64 x.j.bits)))):=xB.o.set 7 _ rfl;go_wp2_with fail;go_meet;rw[KG.o];exact E9.o
 case rest =>
 clear HJ;generalize x.ig line s=oj at *;obtain⟨x1,s1⟩:=oj;simp only at *;have HPc:ae (XS w a b x1 s1 wc):=hcut;have HO1:ae (ox=((x1.nr line s1).1,(x1.nr line s1).2.wrong rd 3 line)):=HO.o;have HN:ae (x1.nr line s1=if x1.hn then({x1 with i:={x1.i with n:=x1.n.bits}},s1.wrong (!x1.WL) 3 line)else(x1,s1)):=rfl;have HD2:ae ((x1.nr line s1).1.i.d=x.i.d):=by rw[ae,<-KP.o,aj.nr];split<;>rfl
 clear hcut HO fq KP x18;have x17:wc.cell? ⟨a,17,none⟩=some (.bool x1.hn):=HPc.o.ln.cell 17;go_upto_if 44 with fail;go_cut [] (λwx=>XS w a b (x1.nr line s1).1 (x1.nr line s1).2 wx)
 case first =>
  clear HO1 HD HD2 x17;generalize x1.nr line s1=oj at *;by_cases hh:x1.hn=true
  case neg =>
   have wV:x1.hn=false:=by simpa using hh
   have KG:ae (oj=(x1,s1)):=by rw[ae,HN.o,iN9 hh]
   clear HN hh;generalize x1.hn=vh at *;subst wV;go_wp2_with fail;go_meet;rw[KG.o];exact HPc.o
  case pos =>
   have KG:ae (oj=({x1 with i:={x1.i with n:=x1.n.bits}},s1.wrong (!x1.WL) 3 line)):=by rw[ae,HN.o,iP9 hh]
   clear HN;have QB:=λw=>kP x1.n 2147483648 2147483647 w (by decide) (by decide);have HWB:=λw=>kP x1.n 9223372036854775808 18446744073709551615 w (by decide) (by decide);have HBI:=Ea x1.n;have HJC:ae (∀ww s',XS w a b x1 s' ww->ww.cell? ⟨a,11,none⟩=some (.int .u64 ((x1.n.v%18446744073709551616:Nat):Int))/\ww.cell? ⟨a,12,none⟩=some (.bool (decide (18446744073709551616<=x1.n.v)))/\ww.cell? ⟨a,13,none⟩=some (.bool x1.n.minus)/\ww.cell? ⟨a,8,none⟩=some (.int .u64 x1.i.n)/\∀i,ww.frozen? ⟨a,i,none⟩=false):=λww s' hX=>⟨hX.ln.cell 11,hX.ln.cell 12,hX.ln.cell 13,hX.ln.cell 8,hX.ln.frozen⟩
   generalize hqi:x1.WL=qi at *;generalize x1.n.within 2147483648 2147483647=qa at *;generalize x1.n.within 9223372036854775808 18446744073709551615=qb at *;obtain⟨j0,j1,j2,_,_⟩:=HJC.o wc s1 HPc.o;generalize((x1.n.v%18446744073709551616:Nat):Int)=uu at *;generalize decide (18446744073709551616<=x1.n.v)=bg at *;generalize hmi:x1.n.minus=mi at *;have Ab:ae (∀w,Calls Tryz.prog 36 #[.agg #[.int .u64 uu,.bool bg,.bool mi],.int .u64 2147483648,.int .u64 2147483647] w λe w'=>e=.returned (.bool qa)/\aa af w w'):=QB;have Zd:ae (∀w,Calls Tryz.prog 36 #[.agg #[.int .u64 uu,.bool bg,.bool mi],.int .u64 9223372036854775808,.int .u64 18446744073709551615] w λe w'=>e=.returned (.bool qb)/\aa af w w'):=HWB;have ab3:ae (∀w,Calls Tryz.prog 39 #[.agg #[.int .u64 uu,.bool bg,.bool mi]] w λe w'=>e=.returned (.int .u64 x1.n.bits)/\aa af w w'):=HBI;clear QB HWB HBI hmi hqi;rw[hh];go_wp2_with fail;refine(Ab.o _).mono ?_;rintro e w2 ⟨rfl,m2⟩;have eT:ae (XS w a b x1 s1 w2):=HPc.o.quiet m2;clear HPc m2 j0 j1 j2 Ab;obtain⟨j0,j1,j2,_,_⟩:=HJC.o w2 s1 eT.o;go_upto_region 8 with fail;obtain⟨q9,hq9⟩:∃q9:Bool,(so==119)=q9:=⟨_,rfl⟩
   have HQ9:ae (qi=if q9 then qb else qa):=by
    rw[ae,HKW.o,<-hq9];by_cases e:so=119
    ·rw[iP9 e,iP9 (by simpa using e)]
    ·rw[iN9 e,iN9 (by simpa using e)]
   clear HKW;go_upto_if 51 with fail;go_cut [9] (λv wx=>v=.bool qi/\XS w a b x1 s1 wx)
   case first =>
    cases q9 with
    |true =>have HQ8:ae (qi=qb):=HQ9.o;go_wp2_with fail;refine(Zd.o _).mono ?_;rintro e w3 ⟨rfl,m3⟩;have mr:ae (XS w a b x1 s1 w3):=eT.o.quiet m3;clear m3;go_wp2_with fail;go_meet;exact⟨by rw[HQ8.o],mr.o⟩
    |false =>have HQ8:ae (qi=qa):=HQ9.o;go_wp2_with fail;go_meet;exact⟨by rw[HQ8.o],eT.o⟩
   case rest =>
   obtain⟨rfl,hX⟩:=hcut;have mr:ae (XS w a b x1 s1 wc):=hX;clear hX eT HQ9 hq9 j0 j1 j2 Zd;go_wp2_with fail;refine(kG w a b x1 s1 (!qi) 3 line _ mr.o).mono ?_;rintro e w4 ⟨rfl,h4⟩;have xB:ae (XS w a b x1 (s1.wrong (!qi) 3 line) w4):=h4;clear h4 mr;obtain⟨j0,j1,j2,_,_⟩:=HJC.o w4 _ xB.o;go_wp2_with fail;refine(ab3.o _).mono ?_;rintro e w5 ⟨rfl,m5⟩;have E9:ae (XS w a b x1 (s1.wrong (!qi) 3 line) w5):=xB.o.quiet m5;clear xB m5 j0 j1 j2;obtain⟨_,_,_,j8,fz⟩:=HJC.o w5 _ E9.o;have sW:ae (XS w a b {x1 with i:={x1.i with n:=x1.n.bits}} (s1.wrong (!qi) 3 line) (w5.setCell ⟨a,8,none⟩ (.int .u64 x1.n.bits))):=E9.o.set 8 _ rfl;go_wp2_with fail;go_meet;rw[KG.o];exact sW.o
 case rest =>
 clear HN x17 HPc HKW;generalize x1.nr line s1=on at *;obtain⟨x2,s2⟩:=on;simp only at *;have WM:ae (XS w a b x2 s2 wc):=hcut;have qM:ae (ox=(x2,s2.wrong rd 3 line)):=HO1.o;clear hcut HO1;have x5:wc.cell? ⟨a,5,none⟩=some (.int .i64 x2.i.d):=WM.o.ln.cell 5;rw[<-HD2.o]at HD;generalize x2.i.d=dd at *;clear HD2;by_cases hd:dd=10
 ·subst hd;by_cases k1:so=114
  ·have HR:ae (rd=true):=by rw[ae,HD.o,decide_eq_true k1];simp
   subst k1;clear HD;go_wp2_with fail;refine(kG w a b x2 s2 _ 3 line _ WM.o).mono ?_;rintro e w9 ⟨rfl,h9⟩;have Gy:ae (XS w a b x2 (s2.wrong rd 3 line) w9):=by rw[HR.o];exact h9
   clear h9 WM;go_wp2_with fail;go_end0;rw[qM.o];exact⟨rfl,Gy.o⟩
  ·have q1:(so==114)=false:=by simpa using k1
   by_cases k2:so=108
   ·have HR:ae (rd=true):=by rw[ae,HD.o,decide_eq_true k2];simp
    subst k2;clear HD k1 q1;go_wp2_with fail;refine(kG w a b x2 s2 _ 3 line _ WM.o).mono ?_;rintro e w9 ⟨rfl,h9⟩;have Gy:ae (XS w a b x2 (s2.wrong rd 3 line) w9):=by rw[HR.o];exact h9
    clear h9 WM;go_wp2_with fail;go_end0;rw[qM.o];exact⟨rfl,Gy.o⟩
   ·have q2:(so==108)=false:=by simpa using k2
    by_cases k3:so=119
    ·have HR:ae (rd=true):=by rw[ae,HD.o,decide_eq_true k3];simp
     subst k3;clear HD k1 q1 k2 q2;go_wp2_with fail;refine(kG w a b x2 s2 _ 3 line _ WM.o).mono ?_;rintro e w9 ⟨rfl,h9⟩;have Gy:ae (XS w a b x2 (s2.wrong rd 3 line) w9):=by rw[HR.o];exact h9
     clear h9 WM;go_wp2_with fail;go_end0;rw[qM.o];exact⟨rfl,Gy.o⟩
    ·have q3:(so==119)=false:=by simpa using k3
     have HR:ae (rd=false):=by rw[ae,HD.o,decide_eq_false k1,decide_eq_false k2,decide_eq_false k3];simp
     clear HD k1 k2 k3;go_wp2_with fail;refine(kG w a b x2 s2 _ 3 line _ WM.o).mono ?_;rintro e w9 ⟨rfl,h9⟩;have Gy:ae (XS w a b x2 (s2.wrong rd 3 line) w9):=by rw[HR.o];exact h9
     clear h9 WM;go_wp2_with fail;go_end0;rw[qM.o];exact⟨rfl,Gy.o⟩
 ·have q0:(dd==10)=false:=by simpa using hd
  have HR:ae (rd=false):=by rw[ae,HD.o,decide_eq_false hd];rfl
  clear HD hd;go_wp2_with fail;refine(kG w a b x2 s2 _ 3 line _ WM.o).mono ?_;rintro e w9 ⟨rfl,h9⟩;have Gy:ae (XS w a b x2 (s2.wrong rd 3 line) w9):=by rw[HR.o];exact h9
  clear h9 WM;go_wp2_with fail;go_end0;rw[qM.o];exact⟨rfl,Gy.o⟩
structure dF extends Mh where
 ln:Int
 vN:Value
def jM(x:yY×dF):List Value:=[.string x.1.name,x.2.vL,x.2.vA,.int .i64 x.1.slots,x.2.vB,x.2.vP,.int .i64 x.2.ln,x.2.vN]
theorem Lr(x:yY×dF):(jM x).length=8:=rfl
structure Pr(w:tW)(pb:Nat)(vM vF:Value)(ms:List bz)(fx:List (yY×dF))(os:List lS):Prop where
 prog:aq w pb #[vM,vF] 36
 maps:Sl w 64 4 vM ms.length (ms.flatMap bz.cells)
 rows:Sl w 57 8 vF fx.length (fx.flatMap jM)
 each:∀i (_:i<os.length) (_:i<fx.length),NN w fx[i].2.toMh os[i]
theorem Pr.quiet{w w':tW}{pb:Nat}{vM vF:Value}{ms:List bz}{fx:List (yY×dF)}{os:List lS}(h:Pr w pb vM vF ms fx os)(m:aa af w w'):Pr w' pb vM vF ms fx os :=
 ⟨h.prog.ah m id,h.maps.ah m (λ_ _=>id),h.rows.ah m (λ_ _=>id),λi h1 h2=>(h.each i h1 h2).quiet m⟩
theorem Sl.atA{w:tW}{v:Value}{n:Nat}{fs:List (yY×dF)}{o:Option Addr}{cap:Nat}(h:Sl w 57 8 v n (fs.flatMap jM))(hn:n=fs.length)(hv:v=.slice o n cap):∀k (_:k<fs.length),∃g,o=some ⟨g,0,none⟩/\∀j (hj:j<fs.length),∀c,c<8->w.cell? ⟨g,j*8+c,none⟩=(jM fs[j])[c]?:=by intro k hk;obtain⟨o',cap',rfl,h2⟩:=h.view;cases hv;obtain⟨g,cs,rfl,hb,ht,_⟩:=h2 (by omega);subst hn;refine⟨g,rfl,λj hj c hc=>?_⟩;rw[bA hb ht _ (by omega)];exact flat_get jM 8 Lr fs j c hj hc
theorem Pr.frd{w:tW}{pb gF cF nF:Nat}{vM:Value}{ms:List bz}{fs:List (yY×dF)}{os:List lS}(h:Pr w pb vM (.slice (some ⟨gF,0,none⟩) nF cF) ms fs os)(hn:nF=fs.length)(i:Nat)(hi:i<fs.length)(hi':i<os.length){f:yY}{vL vA vB vP:Value}{ln:Int}{vN:Value}(hf:fs[i]=(f,⟨⟨vL,vA,vB,vP⟩,ln,vN⟩)):YZ w gF (i*8) f.slots vL vA vB vP f.name os[i].ls os[i].ats os[i].lab:=by
 subst hn;obtain⟨g,hg,hc⟩:=h.rows.atA rfl rfl i hi;cases hg;have F:=h.each i hi' hi;rw[hf]at F;have key:∀c,c<8->w.cell? ⟨gF,i*8+c,none⟩=(jM (f,⟨⟨vL,vA,vB,vP⟩,ln,vN⟩))[c]?:=λc hc'=>by rw[hc i hi c hc',hf]
 exact⟨key 0 (by omega),key 1 (by omega),key 2 (by omega),key 3 (by omega),key 4 (by omega),key 5 (by omega),h.rows.lt gF rfl,F.sl,F.sa,F.sb,F.sp⟩
theorem Pr.atM{w:tW}{pb nM cM:Nat}{oM:Option Addr}{vF:Value}{ms:List bz}{fs:List (yY×dF)}{os:List lS}(h:Pr w pb (.slice oM nM cM) vF ms fs os)(hn:nM=ms.length):∀k (hk:k<ms.length),∃g,oM=some ⟨g,0,none⟩/\w.cell? ⟨g,k*4,none⟩=some (.string ms[k].name)/\w.cell? ⟨g,k*4+1,none⟩=some (.int .i64 ms[k].key)/\w.cell? ⟨g,k*4+2,none⟩=some (.int .i64 ms[k].value)/\w.cell? ⟨g,k*4+3,none⟩=some (.int .i64 ms[k].entries):=by intro k hk;subst hn;obtain⟨g,hg,hc⟩:=h.maps.at4 rfl rfl k hk;exact⟨g,hg,hc k hk⟩
theorem xH(pb:Nat)(nm:tBA)(fs:List (yY×dF))(vM vF:Value)(w:tW)(h0:aq w pb #[vM,vF] 36)(sF:Sl w 57 8 vF fs.length (fs.flatMap jM)) (hb:fs.length<=1000000):Calls Tryz.prog 12 #[.pointer (some ⟨pb,0,none⟩),.string nm] w λe w'=>e=.returned (.int .i64 (ahH nm (fs.map (λx=>x.1.name))))/\w'=w:=by
 obtain⟨oM,cM,Jv,_⟩:=sF.view;subst Jv;have p1:w.cell? ⟨pb,1,none⟩=some (.slice oM fs.length cM):=h0.cell 1;go_enter func12,ntmps12;go_wp2;go_loop [5] (λi=>∃k:Nat,k<=fs.length/\i=.int .i64 k/\∀j,(hj:j<fs.length)->j<k->fs[j].1.name≠nm) (λi=>fs.length-(intOf i).toNat)
 case atStart=>exact⟨0,Nat.zero_le _,rfl,λj _ h=>absurd h (Nat.not_lt_zero _)⟩
 case round =>
  obtain⟨k,hk,rfl,hn⟩:=hrel;have HN:ae _:=hn;clear hn;by_cases hlt:k<fs.length
  ·obtain⟨g,rfl,cells⟩:=sF.atA rfl rfl k hlt;have c0:w.cell? ⟨g,k*8,none⟩=some (.string fs[k].1.name):=cells k hlt 0 (by omega);clear cells;by_cases he:fs[k].1.name=nm
   ·have HP:ae (_=_):=og nm (fs.map (λx=>x.1.name)) k (by simpa using hlt) (λj hj hjk=>by simpa using HN.o j (by simpa using hj) hjk) (by simpa using he);have q:=uM he;clear he;go_wp2;go_ret;exact⟨aV HP.o.symm,rfl⟩
   ·have q:=mV he;have HE:ae _:=he;clear he;go_wp2;go_round
    case rel=>exact⟨k+1,by omega,by go_num,λj hj hjk=>by
     by_cases e:j=k
     ·subst e;exact HE.o
     ·exact HN.o j hj (by omega)⟩
    case measure=>simp[intOf];omega
  ·have HP:ae (ahH nm (fs.map (λx=>x.1.name))=-1):=by
    refine kK nm _ (λj hj=>?_);have hj':j<fs.length:=by simpa using hj
    simpa using HN.o j hj' (by omega)
   go_wp2;go_ret;exact⟨aV HP.o.symm,rfl⟩
