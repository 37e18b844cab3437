import Derived.Test.YthnphhgpfedeeaaGreatDoorCK30
import Derived.Deep.Upon
namespace Go.Proofs.YthnphhgpfedeeaaGreatDoor
open Go.RowKit Tryz
open List renaming length_append->ab,getElem_mem->al,drop_eq_getElem_cons->ao,append_assoc->ar,length_cons->bh,flatMap_cons->bj,drop_length->bt,length_map->b5,length_nil->b9,take_add_one->cj,append_nil->cq,drop_eq_nil_of_le->cw,getElem_map->cx,set_getElem_self->cy,length_zip->cD,map_append->cG,length_set->cH,getElem_of_mem->cI,getElem_append_right->cN,getElem_zip->cP,take_length->cW,getElem_set_self->cY,flatMap_append->de,any_eq_true->dp,length->eJ
open Nat renaming zero_le->ba,le_refl->cJ,le_trans->dj
open Bool renaming false->fj,true->fR
open Decidable renaming decide->gh
open Ending renaming returned->fW
open Obj renaming cells->fL
open Option renaming some->eK,none->eL
open Value renaming slice->eS,string->eR,agg->fY,pointer->ia,bool->fX
open _root_.Go renaming Value->fa,Addr->kh,Calls->fS,maxLen->jz,TypeId->ju
set_option linter.all false
set_option maxRecDepth 100000
set_option maxHeartbeats 4000000
structure sZ(w:tW)(tv:fa)(bs:tLN)(vM vF:fa)(ms:List aB)(fs:List bz)(vs:tLV):Prop where
 maps:Sl w 100 4 vM (eJ ms) (ms.flatMap aB.cells)
 len:eJ vs=eJ fs
 rows:Sl w 96 2 vF (eJ fs) (((fs.map (·.name)).zip vs).flatMap nW)
 code:∀i (_:i<eJ fs) (_:i<eJ vs),iD w vs[i] bs fs[i].code
 ops:aM 0 w tv bs az
theorem sZ.quiet{w w':tW}{tv:fa}{bs:tLN}{vM vF:fa}{ms:List aB}{fs:List bz}{vs:tLV}(h:sZ w tv bs vM vF ms fs vs)(m:aa af w w'):sZ w' tv bs vM vF ms fs vs :=
 ⟨h.maps.ai m (λ_ _=>id),h.len,h.rows.ai m (λ_ _=>id),λi a b=>(h.code i a b).ai m (λ_ _=>id),h.ops.ai m⟩
theorem sZ.jw{w:tW}{tv:fa}{bs:tLN}{oM:Option kh}{cM:Nat}{vF:fa}{ms:List aB}{fs:List bz}{vs:tLV}(h:sZ w tv bs (eS oM (eJ ms) cM) vF ms fs vs)(k:Nat)(hk:k<eJ ms):∃g,oM=eK ⟨g,0,eL⟩/\w.cell? ⟨g,k*4,eL⟩=eK (eR (T ms[k].name))/\w.cell? ⟨g,k*4+1,eL⟩=eK (vB ms[k].key)/\w.cell? ⟨g,k*4+2,eL⟩=eK (vB ms[k].value)/\w.cell? ⟨g,k*4+3,eL⟩=eK (vB ms[k].entries):=by
 obtain⟨o',cap',hv,h2⟩:=h.maps.view;cases hv;obtain⟨g,cs,rfl,hb,ht,_⟩:=h2 (by omega);have key:∀c,c<4->w.cell? ⟨g,k*4+c,eL⟩=(aB.cells ms[k])[c]?:=λc hc=>by rw[aV hb ht (k*4+c) (by omega)];exact flat_get aB.cells 4 (λ_=>rfl) ms k c hk hc
 exact⟨g,rfl,key 0 (by omega),key 1 (by omega),key 2 (by omega),key 3 (by omega)⟩
theorem sZ.VF{w:tW}{tv:fa}{bs:tLN}{oF:Option kh}{cF:Nat}{vM:fa}{ms:List aB}{fs:List bz}{vs:tLV}(h:sZ w tv bs vM (eS oF (eJ fs) cF) ms fs vs)(k:Nat)(hk:k<eJ fs)(hv':k<eJ vs):∃g,oF=eK ⟨g,0,eL⟩/\w.cell? ⟨g,k*2,eL⟩=eK (eR (T fs[k].name))/\w.cell? ⟨g,k*2+1,eL⟩=eK vs[k]:=by
 obtain⟨o',cap',hv,h2⟩:=h.rows.view;cases hv;obtain⟨g,cs,rfl,hb,ht,_⟩:=h2 (by omega);have hz:k<eJ ((fs.map (·.name)).zip vs):=by simp only[cD,b5];omega
 have key:∀c,c<2->w.cell? ⟨g,k*2+c,eL⟩=(nW (fs[k].name,vs[k]))[c]?:=λc hc=>by rw[aV hb ht (k*2+c) (by omega)];have:=flat_get nW 2 (λ_=>rfl) ((fs.map (·.name)).zip vs) k c hz hc;rw[this,cP,cx]
 exact⟨g,rfl,key 0 (by omega),key 1 (by omega)⟩
theorem JQ(kind:Nat)(hk:kind<=255)(w:tW)(tv:fa)(bs:tLN)(vM vF:fa)(ms:List aB)(fs:List bz)(vs:tLV)(hP:sZ w tv bs vM vF ms fs vs)(hE:EOk ms fs):fS prog 74 #[vB kind,fY #[vM,vF]] w λe w'=>∃v,e=fW v/\EI w v (kJ kind ms fs) w':=by
 obtain⟨iU,GY,GZ,G5,G6⟩:=iw;obtain⟨oM,cM,wE,_⟩:=hP.maps.view;obtain⟨oF,cF,kC,_⟩:=hP.rows.view;subst wE kC;have Pk:=hE.m;have hfl:=hE.f;have HP:=aq hP;have HE:=aq hE;clear hP hE;have kc:=Lib.run_convert_bytes_const (P:=prog) (w.alloc (fL #[eS oM (eJ ms) cM,eS oF (eJ fs) cF] 90)) 30 5 #[vB 83,vB 80,vB 79,vB 76] 4 4 underlying30 underlying5;rw[show(w.alloc (fL #[eS oM (eJ ms) cM,eS oF (eJ fs) cF] 90)).heap.size=w.heap.size+1 by simp]at kc;go_in
 have HOL:ah (∀(o2:Obj) (j:Nat) (u:fa),([vB 83,vB 80,vB 79,vB 76]:tLV)[j]?=eK u->(((w.alloc (fL #[eS oM (eJ ms) cM,eS oF (eJ fs) cF] 90)).alloc (fL #[vB 83,vB 80,vB 79,vB 76] 5 (4,5))).alloc o2).cell? ((⟨w.heap.size+1,0,eL⟩:kh).add j)=eK u):=by
  intro o2 j u hu;have hadd:(⟨w.heap.size+1,0,eL⟩:kh).add j=⟨w.heap.size+1,j,eL⟩:=by unfold Addr.add;split<;>simp_all
  rw[hadd,VG]
  simpa using hu
 go_wp2_with (at_builtin;refine yo _ rfl (.tmp 15) (.tmp 21) 30 rfl 5 iU (vB 0) 1 1 underlying30 GY GZ G5 G6 rfl (by decide) ⟨w.heap.size+1,0,eL⟩ 4 4 [vB 83,vB 80,vB 79,vB 76] rfl rfl (HOL.o _) ⟨w.heap.size+1+1,0,eL⟩ 2 2 ([(kind:Int),(eJ ms:Int)].map (Value.int .u8)) rfl rfl (bH _ _ _ _ (by simp)) (by decide) (by decide) (by decide) ?_;intro v2 w2 s2 m2 l2;have B2:=aq (au.ai (((au.new w _ _).alloc _).alloc _) m2 id);have q0:=B2.lQ.c0);obtain⟨wB,hwB⟩:∃wB,wB=w.alloc (fL #[eS oM (eJ ms) cM,eS oF (eJ fs) cF] 90):=⟨_,rfl⟩
 have K1:ah (aa af w wB):=by rw[hwB];exact aw
 have GV:ah (au wB w.heap.size #[eS oM (eJ ms) cM,eS oF (eJ fs) cF] 90):=by rw[hwB];exact au.new _ _ _
 have VI:=aq (HP.o.quiet K1.o);have HI0:ah (EI wB v2 ([83,80,79,76]++b8 [(kind:Int),(eJ ms:Int)]) w2):=by rw[<-hwB]at m2 l2;have M0:aa af wB ((wB.alloc (fL #[vB 83,vB 80,vB 79,vB 76] 5 (4,5))).alloc (fL #[vB kind,vB (eJ ms)] 5)):=aw.alloc _;refine⟨?_,M0.trans m2,λk hk=>dj M0.size (l2 k hk)⟩;exact Out.app (l:=[83,80,79,76]) (λx hx=>by simp at hx;rcases hx with rfl|rfl<;>omega) rfl s2
 clear s2 m2 l2 kc HOL hwB HP;have HO0:=aq (λ(x:Value) (_:x=v2)=>trivial);go_loopg [5,26] (eJ ms) (λg ov iv wx=>∃(k:Nat) (l:tLB),iv=vI k/\EI wB ov l wx/\l++(ms.drop k).flatMap xG=[83,80,79,76]++b8 [(kind:Int),(eJ ms:Int)]++ms.flatMap xG/\l.length<=6+k*260/\k<=eJ ms/\g=eJ ms-k)
 case atStart=>exact⟨0,_,rfl,HI0.o,rfl,by simp[b8],ba _,rfl⟩
 case round =>
  obtain⟨k,l,rfl,hI,gq,hll,hkm,rfl⟩:=hrel;have HR:=aq gq;have HI:=aq hI;clear gq q0;have EN:=VI.o.quiet hI.md;by_cases hkl:k<eJ ms
  ·obtain⟨gM,rfl,c0,c1,c2,c3⟩:=EN.jw k hkl;have hok:=HE.o.mn ms[k] (al hkl);have HD:ah (l++xG ms[k]++(ms.drop (k+1)).flatMap xG=[83,80,79,76]++b8 [(kind:Int),(eJ ms:Int)]++ms.flatMap xG):=by rw[ah,<-HR.o,ao hkl,bj,ar]
   clear EN hI HR;generalize ms[k]=m at *;obtain⟨nm,ky,vl,en⟩:=m;simp only at *;obtain⟨o1,o2,o3,o4⟩:=hok;go_upto_region 5 with fail;have hIW:EI wB u5 l (wr.alloc (fL #[eR (T nm),vB ky,vB vl,vB en] 100)):=HI.o.quiet aw;have hbx:=au.new wr #[eR (T nm),vB ky,vB vl,vB en] 100;have hsz:=hbx.lt;generalize wr.alloc (fL #[eR (T nm),vB ky,vB vl,vB en] 100)=W at *;generalize wr.heap.size=B at *;have HIW:=aq hIW;have HNB:=aq (hIW.lQ.aA hbx (by decide));have TA:=aq (λk hk=>hIW.lQ.lt k hk);have G7:=aq hbx;have hts:(T nm).size<=255:=by rw[di];exact o1
   have FJ:=aq hll;clear hIW hbx c0 c1 c2 c3 hsz hll HI
   refine jV [.inl u5,.inl (vP B),.inl (eR (T nm)),.inr (Z4 wB 11 (l++gD (T nm))),.inl (ia (eK ⟨B,1,eL⟩)),.inl (vB ky),.inl (ia (eK ⟨B,2,eL⟩)),.inl (vB vl),.inl (ia (eK ⟨B,3,eL⟩)),.inl (vB en),
     .inr (Z5 W 11 3 #[vB ky,vB vl,vB en]),.inr (VH wB (l++gD (T nm)++b8 [(ky:Int),(vl:Int),(en:Int)])),.inr (VH wB (l++gD (T nm)++b8 [(ky:Int),(vl:Int),(en:Int)]))]
    (abP wB W B #[eR (T nm),vB ky,vB vl,vB en] 100 3 11 u5 l) (G8 wB B #[eR (T nm),vB ky,vB vl,vB en] 100 3 11 u5) (by kernel_rfl) (by kernel_rfl) (by kernel_rfl)
    ⟨HIW.o.md.drew,G7.o.drew,cJ _,λ_ _=>HIW.o.quiet aN⟩ ?_ (G8.keep HIW.o.own HNB.o (by decide)) (.inl (by kernel_rfl)) ?_
   ·intro j s hs i L v w1 w2 hn hj n hr;refine kE (show rO _ _ _ 0 _ from ?_) j s hs i L v w1 w2 hn (by rw[Nat.zero_add];exact hj) n hr;exact⟨Z6 (by decide),Z7 TA.o,Oc ⟨_,rfl,by decide,.inl rfl⟩,Oc ⟨_,rfl,by decide,.inr (by decide)⟩,trivial⟩
   iterate 2 (refine dE rfl (λL w' hN hC _ K hK=>?_) ?_;(· go_big_op;exact hK _ _ _ rfl (.quiet ax (by decide) (by decide)) rfl);simp only[Act.put,sA9,sB9,sC9])
   refine dE rfl (λL w' hN hC _ K hK=>?_) ?_
   ·have e1:=hC.bx.c0;go_big_op;exact hK _ _ _ rfl (.quiet ax (by decide) (by decide)) rfl
   simp only[Act.put,sA9,sB9,sC9];refine nE rfl (λL w' hN hC _ K hK=>?_) (λx3=>?_)
   ·have h11:=hN.2 11 _ rfl (by decide);have hei:=hC.ei hN.1 h11;go_big_op;refine(AB w' u5 l hei.lQ (by have:=FJ.o;omega) (T nm) hts).mono ?_;rintro e w2' ⟨v3,rfl,s3,m3,l3⟩;exact hK _ _ _ rfl ⟨λh=>absurd rfl h,λ_=>m3,λh=>absurd h (by decide)⟩ (λ_=>hei.step s3 m3 l3)
   simp only[Act.put,sA9,sB9,sC9];refine dE rfl (λL w' hN hC _ K hK=>?_) ?_
   ·go_big_op;exact hK _ _ _ rfl (.quiet ax (by decide) (by decide)) rfl
   simp only[Act.put,sA9,sB9,sC9];refine dE rfl (λL w' hN hC _ K hK=>?_) ?_
   ·have e1:=hC.bx.c1;go_big_op;exact hK _ _ _ rfl (.quiet ax (by decide) (by decide)) rfl
   simp only[Act.put,sA9,sB9,sC9];refine dE rfl (λL w' hN hC _ K hK=>?_) ?_
   ·go_big_op;exact hK _ _ _ rfl (.quiet ax (by decide) (by decide)) rfl
   simp only[Act.put,sA9,sB9,sC9];refine dE rfl (λL w' hN hC _ K hK=>?_) ?_
   ·have e1:=hC.bx.c2;go_big_op;exact hK _ _ _ rfl (.quiet ax (by decide) (by decide)) rfl
   simp only[Act.put,sA9,sB9,sC9];refine dE rfl (λL w' hN hC _ K hK=>?_) ?_
   ·go_big_op;exact hK _ _ _ rfl (.quiet ax (by decide) (by decide)) rfl
   simp only[Act.put,sA9,sB9,sC9];refine dE rfl (λL w' hN hC _ K hK=>?_) ?_
   ·have e1:=hC.bx.c3;go_big_op;exact hK _ _ _ rfl (.quiet ax (by decide) (by decide)) rfl
   simp only[Act.put,sA9,sB9,sC9];refine nE rfl (λL w' hN hC _ K hK=>?_) (λx10=>?_)
   ·go_big_op;exact hK _ _ _ rfl (.quiet aw (by decide) (by decide)) (λ_=>⟨_,rfl,hC.sz,au.new _ _ _⟩)
   simp only[Act.put,sA9,sB9,sC9];refine nE rfl (λL w' hN hC hk K hK=>?_) (λx11=>?_)
   ·have f3:Z4 wB 11 (l++gD (T nm)) L x3 w':=nG hk 3 (by decide);have f10:Z5 W 11 3 #[vB ky,vB vl,vB en] L x10 w':=nG hk 10 (by decide);have hei:=f3 hN.1;obtain⟨g,rfl,hgW,hg⟩:=f10 hN.1;refine fq _ (.tmp 33) (.tmp 40) 30 rfl 5 iU (vB 0) 1 1 underlying30 GY GZ G5 G6 rfl (by decide) x3 _ _ rfl hei.lQ ⟨g,0,eL⟩ 3 3 ([(ky:Int),(vl:Int),(en:Int)].map (Value.int .u8)) rfl rfl ?_ (yn _) ?_ ?_ ?_
    ·intro j u hu;have hadd:(⟨g,0,eL⟩:kh).add j=⟨g,j,eL⟩:=by unfold Addr.add;split<;>simp_all
     rw[hadd,hg.cell j]
     simpa using hu
    ·have:=FJ.o;rw[ab,kI];unfold jz;omega
    ·have:=FJ.o;rw[ab,kI];omega
    ·intro v4 w4 s4 m4 l4;have hE4:=hei.step (Out.app (λx hx=>by simp at hx;rcases hx with rfl|rfl|rfl<;>omega) rfl s4) m4 l4;exact hK _ _ _ rfl ⟨λ_ h=>absurd rfl h,λh=>absurd h (by decide),λ_=>⟨hE4.md,hC.bx.ai m4 (hei.lQ.aA hC.bx (by decide)),m4.size⟩⟩ hE4
   simp only[Act.put,sA9,sB9,sC9];refine nE rfl (λL w' hN hC hk K hK=>?_) (λx12=>?_)
   ·have f11:VH wB (l++gD (T nm)++b8 [(ky:Int),(vl:Int),(en:Int)]) L x11 w':=nG hk 11 (by decide);go_big_op;exact hK _ _ _ rfl (.quiet ax (by decide) (by decide)) f11
   simp only[Act.put,sA9,sB9,sC9];refine zn (λL w' hL hC hA=>?_);have hE5:EI wB x12 (l++gD (T nm)++b8 [(ky:Int),(vl:Int),(en:Int)]) w':=zo hA 12;have HE5:=aq hE5;clear hE5 hA hC hL
   try simp only[Exit.then]
   go_wp2_with fail;go_roundg (eJ ms-(k+1))
   case measure=>omega
   case rel =>
    have hlz:=FJ.o;refine⟨k+1,l++xG ⟨nm,ky,vl,en⟩,by go_num,?_,HD.o,?_,by omega,rfl⟩
    ·rw[xG,<-ar];exact HE5.o
    ·rw[ab,xG,ab,kI,lI];simp only[bh,b9];omega
  ·obtain rfl:k=eJ ms:=by omega
   have bU:ah (l=[83,80,79,76]++b8 [(kind:Int),(eJ ms:Int)]++ms.flatMap xG):=by
    have:=HR.o;rw[bt]at this;rw[ah]
    simpa using this
   have q1:=(GV.o.ai hI.md id).c1;have FJ:ah (eJ l<=70000):=by rw[ah];omega
   clear EN hI HR hll;go_wp2_with (at_builtin;refine aQ _ rfl (.tmp 43) (.tmp 48) 30 rfl 5 iU (vB 0) 1 1 underlying30 GY GZ G5 G6 rfl (by decide) u5 (eJ l) (tM l) rfl (HI.o.lQ.quiet aw) ⟨wr.heap.size,0,eL⟩ 1 1 ([(eJ fs:Int)].map (Value.int .u8)) rfl rfl (bH _ _ _ _ rfl) (yn _) (by have:=FJ.o;unfold jz;omega) (by have:=FJ.o;omega) ?_;intro v7 w7 s7 m7 l7;have H7:=aq ((HI.o.quiet aw).step (Out.app (λx hx=>by simp at hx;subst hx;omega) rfl s7) m7 l7);have q2:=(GV.o.ai H7.o.md id).c1);clear s7 m7 l7 HI;go_loopg [5,53] (eJ fs) (λg ov iv wx=>∃(k:Nat) (l':tLB),iv=vI k/\EI wB ov l' wx/\l'++(fs.drop k).flatMap pz=l++b8 [(eJ fs:Int)]++fs.flatMap pz/\l'.length<=70001+k*260/\k<=eJ fs/\g=eJ fs-k)
   case atStart=>exact⟨0,_,rfl,H7.o,rfl,by have:=FJ.o;rw[ab,lI];simp only[bh,b9];omega,ba _,rfl⟩
   case round =>
    clear q1 q2;obtain⟨k,l',rfl,hI,gq,hll,hkm,rfl⟩:=hrel;have HR:=aq gq;clear gq;have EN:=VI.o.quiet hI.md;have VJ:=aq hll;clear hll;by_cases hkl:k<eJ fs
    ·have Bu:k<eJ vs:=by rw[EN.len];exact hkl
     obtain⟨gF,rfl,c0,c1⟩:=EN.VF k hkl Bu;have hok:=HE.o.fn fs[k] (al hkl);have qA:=EN.code k hkl Bu;have HD:ah (l'++pz fs[k]++(fs.drop (k+1)).flatMap pz=l++b8 [(eJ fs:Int)]++fs.flatMap pz):=by rw[ah,<-HR.o,ao hkl,bj,ar]
     have BU:ah (∀w',aa af wB w'->aM 0 w' tv bs az/\iD w' vs[k] bs fs[k].code):=λw' m=>⟨(VI.o.quiet m).ops,(VI.o.quiet m).code k hkl Bu⟩
     generalize fs[k]=f at *;generalize vs[k]=vC at *;obtain⟨nm,code⟩:=f;simp only at *;obtain⟨o1,o2,o3⟩:=hok;obtain⟨oC,cC,rfl,_⟩:=qA.view;clear EN HR;have HI:=aq hI;clear hI;have JR:=aq BU.o;clear BU qA;go_upto_region 11 with fail;have hIW:EI wB u5 l' (wr.alloc (fL #[eR (T nm),eS oC (eJ code) cC] 96)):=HI.o.quiet aw;have hbx:=au.new wr #[eR (T nm),eS oC (eJ code) cC] 96;generalize wr.alloc (fL #[eR (T nm),eS oC (eJ code) cC] 96)=W at *;generalize wr.heap.size=B at *;have HIW:=aq hIW;have hnx:¬(u5.ownBlock=eK B):=hIW.lQ.aA hbx (by decide);have G7:=aq hbx;have hts:(T nm).size<=255:=by rw[di];exact o1
     have x0:=λ(g:Ext (λk=>u5.ownBlock=some k) W)=>(G7.o.ai g.m hnx).c0;have x1:=λ(g:Ext (λk=>u5.ownBlock=some k) W)=>(G7.o.ai g.m hnx).c1;have ne1:=Ext.ne (λk=>u5.ownBlock=eK k) W;clear hIW hbx c0 c1 HI;refine bQ [3,5,6] (λw'=>∃e:Ext (λk=>u5.ownBlock=eK k) W,w'=e.w) (by kernel_rfl) (by kernel_rfl) (by kernel_rfl) ⟨⟨_,aN⟩,rfl⟩ ?_
     iterate 3 (refine aG rfl rfl rfl ?_;intro K hK;go_big_quiet_op;go_big_quiet_on)
     refine aH rfl rfl ?_;intro K hK;go_big_op;refine(AB _ u5 l' (HIW.o.quiet aN).lQ (by have:=VJ.o;omega) (T nm) hts).mono ?_;rintro e w3 ⟨v3,rfl,s3,m3,l3⟩;have H3:=aq ((HIW.o.quiet aN).step s3 m3 l3);have M3:=aq (aN.trans m3);have L3:ah (∀k,v3.ownBlock=eK k->u5.ownBlock=eK k\/W.heap.size<=k):=l3;refine hK _ _ rfl ⟨⟨_,M3.lQ⟩,rfl⟩ ?_;clear hK K s3 m3 l3
     iterate 1 (refine aG rfl rfl rfl ?_;intro K hK;go_big_quiet_op;go_big_quiet_on)
     refine aH rfl rfl ?_;intro K hK;go_big_op;refine(JO w3 tv bs (JR.o w3 H3.o.md).1 code o3 (by omega) _ (JR.o w3 H3.o.md).2 (T nm)).mono ?_;rintro e w4 ⟨rfl,m4⟩;have H4:=aq (H3.o.quiet m4);have M4:=aq (M3.lQ.trans (m4.mono (λ_ _ e=>e.elim)));refine hK _ _ rfl ⟨⟨_,M4.lQ⟩,rfl⟩ ?_;clear hK K;refine aH rfl rfl ?_;intro K hK;go_big_op;refine(DB w4 v3 (l'++gD (T nm)) H4.o.lQ (by have:=VJ.o;rw[ab,kI];omega) (aU code)).mono ?_;rintro e w5 ⟨v5,rfl,s5,m5,l5⟩;have H5:=aq (H4.o.step s5 m5 l5)
     have M5:ah (aa (λk=>u5.ownBlock=eK k) W w5):=⟨m5.os.trans M4.lQ.os,m5.tape.trans M4.lQ.tape,m5.output.trans M4.lQ.output,dj M4.lQ.size m5.size,λk hk hS=>(m5.block k (Nat.lt_of_lt_of_le hk M4.lQ.size) (λe=>by
      rcases L3.lQ k e with h|h
      ·exact hS h
      ·omega)).trans (M4.lQ.block k hk hS)⟩
     refine hK _ _ rfl ⟨⟨_,M5.lQ⟩,rfl⟩ ?_;clear hK K s5 m5 l5
     iterate 1 (refine aG rfl rfl rfl ?_;intro K hK;go_big_quiet_op;go_big_quiet_on)
     refine bZ ?_
     try simp only[Exit.then]
     go_wp2_with fail;go_roundg (eJ fs-(k+1))
     case measure=>omega
     case rel =>
      have hlz:=VJ.o;refine⟨k+1,l'++pz ⟨nm,code⟩,by go_num,?_,HD.o,?_,by omega,rfl⟩
      ·rw[pz,<-ar];exact H5.o
      ·rw[ab,pz,ab,kI,lI];simp only[lH,bh,b9];omega
    ·obtain rfl:k=eJ fs:=by omega
     have bP:ah (l'=l++b8 [(eJ fs:Int)]++fs.flatMap pz):=by
      have:=HR.o;rw[bt]at this;rw[ah]
      simpa using this
     have afA:ah (eJ l'<=140000):=by have:=VJ.o;rw[ah];omega
     have q1:=(GV.o.ai hI.md id).c1;have HI:=aq hI;clear EN hI HR VJ;go_wp2_with fail;go_loopg [5,68] (eJ fs) (λg ov iv wx=>∃(k:Nat) (a:tLB),iv=vI k/\EI wB ov a wx/\a++(fs.drop k).flatMap rV=l'++fs.flatMap rV/\a.length<=140000+k*3200/\k<=eJ fs/\g=eJ fs-k)
     case atStart=>exact⟨0,_,rfl,HI.o,rfl,by have:=afA.o;omega,ba _,rfl⟩
     case round =>
      clear q1 HI;obtain⟨k,a,rfl,hI,gq,hll,hkm,rfl⟩:=hrel;have HR:=aq gq;clear gq;have EN:=VI.o.quiet hI.md;have afB:=aq hll;clear hll;by_cases hkl:k<eJ fs
      ·have Bu:k<eJ vs:=by rw[EN.len];exact hkl
       obtain⟨gF,rfl,c0,c1⟩:=EN.VF k hkl Bu;have hok:=HE.o.fn fs[k] (al hkl);have qA:=EN.code k hkl Bu;have HD:ah (a++rV fs[k]++(fs.drop (k+1)).flatMap rV=l'++fs.flatMap rV):=by rw[ah,<-HR.o,ao hkl,bj,ar]
       have BU:ah (∀w',aa af wB w'->aM 0 w' tv bs az/\iD w' vs[k] bs fs[k].code):=λw' m=>⟨(VI.o.quiet m).ops,(VI.o.quiet m).code k hkl Bu⟩
       generalize fs[k]=f at *;generalize vs[k]=vC at *;obtain⟨nm,code⟩:=f;simp only at *;obtain⟨o1,o2,o3⟩:=hok;obtain⟨oC,cC,rfl,_⟩:=qA.view;have JR:=aq BU.o;have xx:=aq o3;have HIa:ah (EI wB u5 a (wr.alloc (fL #[eR (T nm),eS oC (eJ code) cC] 96))):=hI.quiet aw;clear BU qA EN HR hI o3;go_wp2_with fail;generalize wr.alloc (fL #[eR (T nm),eS oC (eJ code) cC] 96)=W at *;go_loopg [5,75] (eJ code) (λg ov iv wx=>∃(j:Nat) (a':tLB),iv=vI j/\EI wB ov a' wx/\a'++(code.drop j).flatMap AF=a++rV ⟨nm,code⟩/\a'.length<=140000+k*3200+j*16/\j<=eJ code/\g=eJ code-j)
       case atStart=>exact⟨0,_,rfl,HIa.o,rfl,by have:=afB.o;omega,ba _,rfl⟩
       case round =>
        clear c0 c1 HIa;obtain⟨j,a',rfl,hI,gq,hll,hjm,rfl⟩:=hrel;have HR:=aq gq;clear gq;have abQ:=aq hll;clear hll;by_cases hjl:j<eJ code
        ·obtain⟨g,lab,rfl,hg,y0,y1,y2,y3,y4,y5,y6,y7⟩:=Dy (JR.o wr hI.md).2 rfl rfl j hjl;have hx:=xx.o code[j] (al hjl);have HD2:ah (a'++AF code[j]++(code.drop (j+1)).flatMap AF=a++rV ⟨nm,code⟩):=by rw[ah,<-HR.o,ao hjl,bj,ar]
         have HAT:=aq (λw' m=>kF (JR.o w' m).1 code[j] hx.k);have hcl:code[j].o.code<=255:=Z9 code[j].k hx.k;have afC:=hx.slots;have HPS:ah (AF code[j]=zA code[j].o.code code[j].d code[j].s code[j].jump code[j].num code[j].high code[j].o.slots):=rfl;obtain⟨_,hxd,hxs,hxj,hxn,hxh⟩:=hx;generalize code[j].o=o at *;generalize code[j].jump=jmp at *;generalize code[j].d=xd at *;generalize code[j].s=xs at *;generalize code[j].num=xn at *;generalize code[j].high=xh at *;generalize code[j].name=xm at *;generalize bs[code[j].k]?.getD 0=b at *;generalize AF code[j]=su at *;have HI:=aq hI;clear hI HR;go_wp2_with fail;have HIx:ah (EI wB u5 a' (wr.alloc (fL #[vP b,vB xd,vB xs,.int .i16 jmp,vJ xn,vJ xh,eR lab,eR (T xm)] 138))):=HI.o.quiet aw;obtain⟨p1,pn,pc,f6,c6,k7,c7,k8,c8,f9,c9,hop,_⟩:=(HAT.o _ HIx.o.md).ex;refine(Mo _ u5 a' HIx.o.lQ (by have:=abQ.o;omega) b _ o.code o.slots hop rfl rfl xd xs jmp xn xh _ _ hcl hxd hxs hxj hxn hxh (by omega)).mono ?_;rintro e w3 ⟨v3,rfl,s3,m3,l3⟩;have H3:ah (EI wB v3 (a'++su) w3):=by rw[HPS.o];exact HIx.o.step s3 m3 l3
         clear s3 m3 l3 hop;go_wp2_with fail;go_roundg (eJ code-(j+1))
         case measure=>omega
         case rel =>
          have hlz:=abQ.o;have hsu:eJ su<=16:=by rw[HPS.o];exact Ri _ _ _ _ _ _ _
          exact⟨j+1,a'++su,by go_num,H3.o,HD2.o,by rw[ab];omega,by omega,rfl⟩
        ·obtain rfl:j=eJ code:=by omega
         have gG:ah (a'=a++rV ⟨nm,code⟩):=by
          have:=HR.o;rw[bt]at this;rw[ah]
          simpa using this
         have HI:=aq hI;clear hI HR;go_wp2_with fail;go_roundg (eJ fs-(k+1))
         case measure=>omega
         case rel =>have:=abQ.o;exact⟨k+1,a',by go_num,HI.o,by rw[gG.o];exact HD.o,by omega,by omega,rfl⟩
      ·obtain rfl:k=eJ fs:=by omega
       have dF:ah (a=kJ kind ms fs):=by
        have:=HR.o;rw[bt]at this;rw[ah,kJ,<-bU.o,<-bP.o]
        simpa using this
       have HI:=aq hI;clear hI HR EN;go_wp2_with fail;go_ret;refine⟨u5,rfl,?_⟩;rw[<-dF.o];exact⟨HI.o.lQ,K1.o.trans HI.o.md,λk hk=>dj K1.o.size (HI.o.own k hk)⟩
def BA(n slot:Nat)(x:PI):tLB:=if x.bD=0 then []else b8 [(n:Int)]++b8 (lH slot)++gD (T x.name)
def prefC(n:Nat):Nat->List PI->tLB
 |_,[]=>[]
 |slot,x::c=>BA n slot x++prefC n (slot+x.o.slots) c
def pcntC:List PI->Nat
 |[]=>0
 |x::c=>(if x.bD=0 then 0 else 1)+pcntC c
def prefF:Nat->List bz->tLB
 |_,[]=>[]
 |n,f::fs=>prefC n 0 f.code++prefF (n+1) fs
def pcntR:List bz->Nat
 |[]=>0
 |f::fs=>pcntC f.code+pcntR fs
def qj:List bz->Nat
 |[]=>0
 |f::fs=>eJ f.code+qj fs
theorem Mq(n slot:Nat)(c:List PI)(j:Nat)(h:j<eJ c):prefC n slot (c.drop j)=BA n slot c[j]++prefC n (slot+c[j].o.slots) (c.drop (j+1)):=by rw[ao h];rfl
theorem Mr(c:List PI)(j:Nat)(h:j<eJ c):pcntC (c.drop j)=(if c[j].bD=0 then 0 else 1)+pcntC (c.drop (j+1)):=by rw[ao h];rfl
theorem Ms(fs:List bz)(k n:Nat)(h:k<eJ fs):prefF n (fs.drop k)=prefC n 0 fs[k].code++prefF (n+1) (fs.drop (k+1)):=by rw[ao h];rfl
theorem Mt(fs:List bz)(k:Nat)(h:k<eJ fs):pcntR (fs.drop k)=pcntC fs[k].code+pcntR (fs.drop (k+1)):=by rw[ao h];rfl
theorem DC(fs:List bz)(k:Nat)(h:k<eJ fs):qj (fs.drop k)=eJ fs[k].code+qj (fs.drop (k+1)):=by rw[ao h];rfl
theorem Rj(n slot:Nat)(x:PI)(h:eJ x.name<=255):eJ (BA n slot x)<=259:=by
 unfold BA;split
 ·simp
 ·simp only[ab,lI,kI,di,bh,b9,lH];omega
theorem Rk(w:tW)(tv vO:fa)(l:tLB)(bs:tLN)(vM vF:fa)(ms:List aB)(fs:List bz)(vs:tLV)(hP:sZ w tv bs vM vF ms fs vs)(hE:EOk ms fs)(hn:∀f∈fs,∀x∈f.code,eJ x.name<=255)(ht:qj fs<=1000)(hO:Out w vO l)(hl:eJ l<=300000):fS prog 73 #[vO,vF] w λe w'=>mo w vO (l++b8 (lH (pcntR fs))++prefF 0 fs) e w':=by
 obtain⟨iU,GY,GZ,G5,G6⟩:=iw;obtain⟨oF,cF,kC,_⟩:=hP.rows.view;subst kC;have HP:=aq hP;have HE:=aq hE;have HN:=aq hn;have HO:=aq hO;have HI0:ah (EI w (vN) [] w):=⟨Sl.nil _ _ _,ax,λk h=>by cases h⟩
 have hfl:=hE.f;have HT:=aq ht;have HLF:=aq (λk h=>DC fs k h);clear hP hE hn hO ht;go_in;go_wp2_with fail;go_loopg [5,6,14] (eJ fs) (λg u5 u6 u14 wx=>∃(k c:Nat) (a:tLB),k<=eJ fs/\u14=vI k/\u6=vI c/\EI w u5 a wx/\a++prefF k (fs.drop k)=prefF 0 fs/\c+pcntR (fs.drop k)=pcntR fs/\a.length+259*qj (fs.drop k)<=259*qj fs/\c<=200*k/\g=eJ fs-k)
 case atStart=>exact⟨0,0,[],ba _,rfl,rfl,HI0.o,rfl,Nat.zero_add _,by simp,ba _,rfl⟩
 case round =>
  obtain⟨k,c,a,hk,rfl,rfl,hI,hR,hC,hLn,hc1,rfl⟩:=hrel;have HI:=aq hI;have HR:=aq hR;have HC:=aq hC;have HLn:=aq hLn;have HPr:=HP.o.quiet hI.md;clear hI hR hC hLn HI0;by_cases hkl:k<eJ fs
  ·have Bu:k<eJ vs:=by rw[HPr.len];exact hkl
   obtain⟨gF,rfl,c0,c1⟩:=HPr.VF k hkl Bu;have hok:=HE.o.fn fs[k] (al hkl);have qA:=HPr.code k hkl Bu;have BU:ah (∀w',aa af w w'->aM 0 w' tv bs az/\iD w' vs[k] bs fs[k].code):=λw' m=>⟨(HP.o.quiet m).ops,(HP.o.quiet m).code k hkl Bu⟩
   have HD:ah (a++(prefC k 0 fs[k].code++prefF (k+1) (fs.drop (k+1)))=prefF 0 fs):=by rw[ah,<-HR.o,Ms fs k k hkl]
   have HD2:ah (c+(pcntC fs[k].code+pcntR (fs.drop (k+1)))=pcntR fs):=by rw[ah,<-HC.o,Mt fs k hkl]
   have HL2:ah (eJ a+259*eJ fs[k].code+259*qj (fs.drop (k+1))<=259*qj fs):=by have h1:=HLn.o;rw[DC fs k hkl]at h1;rw[ah];omega
   have HNx:=aq (HN.o fs[k] (al hkl));generalize fs[k]=f at *;generalize vs[k]=vC at *;obtain⟨nm,code⟩:=f;simp only at *;obtain⟨o1,o2,o3⟩:=hok;obtain⟨oC,cC,rfl,_⟩:=qA.view;have JR:=aq BU.o;have xx:=aq o3;have HIa:ah (EI w u5 a (wr.alloc (fL #[eR (T nm),eS oC (eJ code) cC] 96))):=HI.o.quiet aw;have htt:=HT.o;clear BU qA HPr HR HC HI o3 HLn;go_wp2_with fail;generalize wr.alloc (fL #[eR (T nm),eS oC (eJ code) cC] 96)=W at *;go_loopg [5,6,9,22] (eJ code) (λg v5 v6 v9 v22 wx=>∃(j c' sl:Nat) (a':tLB),j<=eJ code/\v22=vI j/\v6=vI c'/\v9=vI sl/\EI w v5 a' wx/\a'++prefC k sl (code.drop j)=a++prefC k 0 code/\c'+pcntC (code.drop j)=c+pcntC code/\a'.length<=eJ a+259*j/\c'<=c+j/\sl<=2*j/\g=eJ code-j)
   case atStart=>exact⟨0,c,0,a,ba _,rfl,rfl,rfl,HIa.o,rfl,rfl,cJ _,cJ _,cJ _,rfl⟩
   case round =>
    clear c0 c1 HIa;obtain⟨j,c',sl,a',hjm,rfl,rfl,rfl,hI,hR,hC,hll,hcl,hsl,rfl⟩:=hrel;have HI:=aq hI;have HR:=aq hR;have HC:=aq hC;have FJ:=aq hll;clear hR hC hll;by_cases hjl:j<eJ code
    ·obtain⟨g,lab,rfl,hg,y0,y1,y2,y3,y4,y5,y6,y7⟩:=Dy (JR.o wr hI.md).2 rfl rfl j hjl;have hx:=xx.o code[j] (al hjl);have HD3:ah (a'++(BA k sl code[j]++prefC k (sl+code[j].o.slots) (code.drop (j+1)))=a++prefC k 0 code):=by rw[ah,<-HR.o,Mq k sl code j hjl]
     have Q0:ah (c'+((if(if code[j].s=1 then code[j].o.bD else 0)=0 then 0 else 1)+pcntC (code.drop (j+1)))=c+pcntC code):=by rw[ah,<-HC.o,Mr code j hjl];rfl
     have HAT:=aq (λw' m=>kF (JR.o w' m).1 code[j] hx.k);have afC:=hx.slots;have HRU:ah (BA k sl code[j]=if(if code[j].s=1 then code[j].o.bD else 0)=0 then []else b8 [(k:Int)]++b8 (lH sl)++gD (T code[j].name)):=rfl;have HNm:=aq (HNx.o _ (al hjl));have HUL:=aq (Rj k sl code[j] HNm.o);have Da:ah (∀w',aa af w w'->fS prog 84 #[fY #[vP (bs[code[j].k]?.getD 0),vB code[j].d,vB code[j].s,.int .i16 code[j].jump,vJ code[j].num,vJ code[j].high,eR lab,eR (T code[j].name)]] w' λe w2=>e=fW (vI ((if code[j].s=1 then code[j].o.bD else 0:Nat):Int))/\aa af w' w2):=λw' m=>kG w' _ code[j].o (HAT.o w' m) code[j].d code[j].s code[j].num code[j].high code[j].jump lab _;clear hx HR HC hI;generalize(if code[j].s=1 then code[j].o.bD else 0)=rf at *;generalize BA k sl code[j]=pu at *;generalize code[j].o=o at *;generalize code[j].jump=jmp at *;generalize code[j].d=xd at *;generalize code[j].s=xs at *;generalize code[j].num=xn at *;generalize code[j].high=xh at *;generalize code[j].name=xm at *;generalize bs[code[j].k]?.getD 0=b at *;go_upto_region 10 with fail;have HB1:=aq (au.new wr #[vP b,vB xd,vB xs,.int .i16 jmp,vJ xn,vJ xh,eR lab,eR (T xm)] 138);have HI1:ah (EI w u5 a' (wr.alloc (fL #[vP b,vB xd,vB xs,.int .i16 jmp,vJ xn,vJ xh,eR lab,eR (T xm)] 138))):=HI.o.quiet aw;generalize wr.alloc (fL #[vP b,vB xd,vB xs,.int .i16 jmp,vJ xn,vJ xh,eR lab,eR (T xm)] 138)=w1 at *;generalize wr.heap.size=B at *;clear y0 y1 y2 y3 y4 y5 y6 y7 hg HI;have z0:=HB1.o.cell 0;have z1:=HB1.o.cell 1;have z2:=HB1.o.cell 2;have z3:=HB1.o.cell 3;have z4:=HB1.o.cell 4;have z5:=HB1.o.cell 5;have z6:=HB1.o.cell 6;have z7:=HB1.o.cell 7;go_wp2_with fail;refine(Da.o _ HI1.o.md).mono ?_;rintro e w3 ⟨rfl,m3⟩;have HI3:=aq (HI1.o.quiet m3);have HB3:=aq (HB1.o.ai m3 id);clear m3 HI1 HB1 z0 z1 z2 z3 z4 z5 z6 z7;by_cases h0:rf=0
     ·subst h0;have HP0:ah (pu=[]):=by rw[ah,HRU.o,iP9 rfl]
      have HCx:ah (c'+pcntC (code.drop (j+1))=c+pcntC code):=by have:=Q0.o;rw[iP9 rfl]at this;rw[ah];omega
      obtain⟨p1,p2,p3,p4,p5,p6,p7,p8,p9,p10,p11,CU,_⟩:=(HAT.o w3 HI3.o.md).ex;have z0:=HB3.o.cell 0;have ob2:=CU.cell 2;have HDx:ah (a'++prefC k (sl+o.slots) (code.drop (j+1))=a++prefC k 0 code):=by have:=HD3.o;rw[HP0.o]at this;exact this
      clear CU;generalize o.slots=os at *;go_wp2_with fail;go_roundg (eJ code-(j+1))
      case measure=>omega
      case rel=>exact⟨j+1,c',sl+os,a',by omega,by go_num,rfl,by go_num,HI3.o,HDx.o,HCx.o,by have:=FJ.o;omega,by omega,by omega,rfl⟩
     ·have HP0:ah (pu=b8 [(k:Int)]++b8 (lH sl)++gD (T xm)):=by rw[ah,HRU.o,iN9 h0]
      have HCx:ah (c'+1+pcntC (code.drop (j+1))=c+pcntC code):=by have:=Q0.o;rw[iN9 h0]at this;rw[ah];omega
      have HDx:ah (a'++pu++prefC k (sl+o.slots) (code.drop (j+1))=a++prefC k 0 code):=by rw[ah,ar];exact HD3.o
      have hq0:((rf:Int)==0)=fj:=by simp;omega
      have HAL:ah (eJ a'<=259000):=by have h1:=FJ.o;have h2:=HL2.o;rw[ah];omega
      have HKB:ah (∀x∈[(k:Int)],0<=x/\x<=255):=λx hx=>by simp at hx;subst hx;omega
      have HI4:ah (∀os,EI w u5 a' (w3.alloc os)):=λos=>HI3.o.quiet aw;have iH:ah (∀os,au (w3.alloc os) B #[vP b,vB xd,vB xs,.int .i16 jmp,vJ xn,vJ xh,eR lab,eR (T xm)] 138):=λos=>HB3.o.alloc _;have afD:ah (∀os vA wA,Sl wA 5 1 vA (eJ a'+1) (tM a'++[(k:Int)].map (Value.int .u8))->aa (λi=>u5.ownBlock=eK i) (w3.alloc os) wA->(∀i,vA.ownBlock=eK i->u5.ownBlock=eK i\/(w3.alloc os).heap.size<=i)->EI w vA (a'++b8 [(k:Int)]) wA/\au wA B #[vP b,vB xd,vB xs,.int .i16 jmp,vJ xn,vJ xh,eR lab,eR (T xm)] 138):=λos vA wA sA mA lA=>⟨(HI4.o os).step (Out.app HKB.o rfl sA) mA lA,(iH.o os).ai mA (λe=>Sl.aA (HI4.o os).lQ (iH.o os) (by decide) e)⟩
      clear Q0 HD3 HRU Da;go_wp2_with (at_builtin;go_loud (refine aQ _ rfl (.tmp 29) (.tmp 32) 30 rfl 5 iU (vB 0) 1 1 underlying30 GY GZ G5 G6 rfl (by decide) u5 (eJ a') (tM a') rfl (HI4.o _).lQ ⟨w3.heap.size,0,eL⟩ 1 1 ([(k:Int)].map (Value.int .u8)) rfl rfl (bH _ _ _ _ rfl) (yn _) (by have:=HAL.o;unfold jz;omega) (by have:=HAL.o;omega) ?_;intro vA wA sA mA lA;obtain⟨hIA,hBA⟩:=afD.o _ _ _ sA mA lA;have HIA:=aq hIA;have Yj:=aq hBA;clear hIA hBA sA mA lA));refine(DB wA vA (a'++b8 [(k:Int)]) HIA.o.lQ (by have:=HAL.o;rw[ab,lI];simp only[bh,b9];omega) sl).mono ?_;rintro e w5 ⟨v5,rfl,s5,m5,l5⟩;have K3:=aq (HIA.o.step s5 m5 l5);have ji:=aq (Yj.o.ai m5 (λe=>Sl.aA HIA.o.lQ Yj.o (by decide) e));clear s5 m5 l5 HIA Yj;have z7:=ji.o.cell 7;go_wp2_with fail;refine(AB w5 v5 (a'++b8 [(k:Int)]++b8 (lH sl)) K3.o.lQ (by have:=HAL.o;rw[ab,ab,lI,lI];simp only[bh,b9,lH];omega) (T xm) (by rw[di];exact HNm.o)).mono ?_;rintro e w6 ⟨v6,rfl,s6,m6,l6⟩
      have HI6:ah (EI w v6 (a'++pu) w6):=by
       have:=K3.o.step s6 m6 l6;rw[ah,HP0.o]
       simpa [ar]using this
      have pT:=aq (ji.o.ai m6 (λe=>Sl.aA K3.o.lQ ji.o (by decide) e));clear s6 m6 l6 K3 ji z7;obtain⟨p1,p2,p3,p4,p5,p6,p7,p8,p9,p10,p11,CU,_⟩:=(HAT.o w6 HI6.o.md).ex;have z0:=pT.o.cell 0;have ob2:=CU.cell 2;clear CU;generalize o.slots=os at *;go_wp2_with fail;go_roundg (eJ code-(j+1))
      case measure=>omega
      case rel=>exact⟨j+1,c'+1,sl+os,a'++pu,by omega,by go_num,by go_num,by go_num,HI6.o,HDx.o,HCx.o,by have:=FJ.o;have:=HUL.o;rw[ab];omega,by omega,by omega,rfl⟩
    ·obtain rfl:j=eJ code:=by omega
     have HRx:ah (a'=a++prefC k 0 code):=by have:=HR.o;rw[bt,prefC,cq]at this;exact this
     have HCx:ah (c'=c+pcntC code):=by have:=HC.o;rw[bt,pcntC]at this;rw[ah];omega
     have HIz:=HI.o;go_wp2_with fail;go_roundg (eJ fs-(k+1))
     case measure=>omega
     case rel=>exact⟨k+1,c',a',by omega,by go_num,rfl,HI.o,by rw[HRx.o,ar];exact HD.o,by rw[HCx.o,Nat.add_assoc];exact HD2.o,by have h1:=FJ.o;have h2:=HL2.o;omega,by omega,rfl⟩
  ·have HRx:ah (a=prefF 0 fs):=by have:=HR.o;rw[cw (by omega),prefF,cq]at this;exact this
   have HCx:ah (c=pcntR fs):=by have:=HC.o;rw[cw (by omega),pcntR]at this;rw[ah];omega
   have HAL:ah (eJ a<=259000):=by have h1:=HLn.o;have h2:=HT.o;rw[ah];omega
   have HOr:=aq (HO.o.quiet HI.o.md);have Et:=aq HI.o.md;clear HR HC HLn;obtain⟨ov,cv,hvO,_⟩:=HOr.o.view;subst hvO;go_wp2_with fail;refine(DB wr _ l HOr.o (by omega) c).mono ?_;rintro e w5 ⟨v5,rfl,s5,m5,l5⟩;have hda:∀i,u5.ownBlock=eK i->(Value.slice ov (eJ l) cv).ownBlock≠eK i:=λi h1 h2=>by have h3:=HI.o.own i h1;have h4:=Sl.lt HO.o i h2;omega
   have K3:=aq (HI.o.lQ.ai m5 (λi h1 h2=>hda i h1 h2));have Yo:=aq s5;have HL2:ah (eJ (l++b8 (lH c))=eJ l+2):=by rw[ah,ab,lI];rfl
   obtain⟨o6,c6,h6,hb6⟩:=Yo.o.view;obtain⟨g6,cs6,rfl,_,_,hc6,hm6⟩:=hb6 (by rw[HL2.o];omega);have jo:=aq ((Et.o.mono (λ_ _ h=>h.elim)).trans m5)
   have HOW:ah (∀i,v5.ownBlock=eK i->(Value.slice ov (eJ l) cv).ownBlock=eK i\/w.heap.size<=i):=λi hi=>by
    rcases l5 i hi with h|h
    ·exact .inl h
    ·have:=Et.o.size;exact .inr (by omega)
   have uq:ah (∀e w',mo w (eS ov (eJ l) cv) (l++b8 (lH c)++a) e w'->mo w (eS ov (eJ l) cv) (l++b8 (lH (pcntR fs))++prefF 0 fs) e w'):=λe w' h=>by rw[<-HRx.o,<-HCx.o];exact h
   clear s5 m5 l5 hda HOr;rw[HL2.o]at h6 hc6;rcases K3.o.2 with⟨h5,hx5⟩ |⟨g5,cap5,afE,h5,_,hg5,hx5⟩
   ·subst h5 h6
    have ha:a=[]:=by
     cases a with
     |nil=>rfl
     |cons y ys=>simp[tM]at hx5
    subst ha;go_wp2_with fail;go_ret;exact uq.o _ _ ⟨_,rfl,by rw[cq];exact Yo.o,jo.o,HOW.o⟩
   ·subst h5 h6;have hb5:au w5 g5 afE 5:=hg5;obtain⟨hx1,hx2,hx3,hx4⟩:=hx5
    have qJ:ah (∀j u,(tM a)[j]?=eK u->w5.cell? ((⟨g5,0,eL⟩:kh).add j)=eK u):=λj u hu=>by
     have hadd:(⟨g5,0,eL⟩:kh).add j=⟨g5,j,eL⟩:=by unfold Addr.add;split<;>simp_all
     have hj:=(List.getElem?_eq_some_iff.1 hu).1;have hj2:j<eJ a*1:=by rw[<-hx4,List.length_take]at hj;omega
     rw[hadd,aV hb5 hx4 j hj2];exact hu
    have Io:ah (∀u∈tM a,u.oneCell'=fR):=λu hu=>by unfold tM at hu;obtain⟨y,_,rfl⟩:=List.mem_map.1 hu;rfl
    have QK:ah (eJ (tM a)=eJ a*1):=by rw[ah];unfold tM;simp
    have HO6:ah (Sl w5 5 1 (eS (eK ⟨g6,0,eL⟩) (eJ l+2) c6) (eJ l+2) (tM (l++b8 (lH c)))):=by have:=Yo.o;rw[Out,HL2.o]at this;exact this
    clear hb5 hg5 hx4;go_wp2_with (at_builtin;refine aQ w5 rfl (.tmp 53) (.tmp 54) 30 rfl 5 iU (vB 0) 1 1 underlying30 GY GZ G5 G6 rfl (by decide) (eS (eK ⟨g6,0,eL⟩) (eJ l+2) c6) (eJ l+2) (tM (l++b8 (lH c))) rfl HO6.o ⟨g5,0,eL⟩ (eJ a) cap5 (tM a) rfl QK.o qJ.o Io.o (by have:=HAL.o;unfold jz;omega) (by have:=HAL.o;omega) ?_;intro v7 w7 s7 m7 l7);go_ret;refine uq.o _ _ ⟨_,rfl,?_,DA jo.o HOW.o m7,qi HOW.o l7 jo.o.size⟩;rw[Out,zx,ab,HL2.o];exact s7
theorem FM(bs:tLN):∀l:List PI,py bs (l.zip (List.replicate (eJ l) ByteArray.empty))=fH bs l
 |[]=>rfl
 |x::l=>by have ih:=FM bs l;unfold py fH at ih ⊢;rw[bh,List.replicate_succ,List.zip_cons_cons,bj,bj,ih];rfl
theorem aaa{w:tW}{tv:Value}{bs:tLN}{vM vF:Value}{ms:List aB}{fs:List bz}{vs:tLV}(h:YB w tv bs vM vF ms fs vs):sZ w tv bs vM vF ms fs vs :=
 ⟨h.maps,h.len,h.rows,λi a b=>⟨List.replicate (eJ fs[i].code) ByteArray.empty,List.length_replicate,by rw[FM];exact h.code i a b⟩,h.ops⟩
theorem DD{w:tW}{v:fa}{l:tLB}(h:Out w v l)(h0:0<eJ l):Sem.run prog (convert 30 9 v) w=.ok (eR (T l)) w:=by
 obtain⟨o,c,rfl,h2⟩:=Sl.view h;obtain⟨g,cs,rfl,hb,ht,_⟩:=h2 h0;have key:=run_convert_bytes_back (P:=prog) w 30 9 5 ⟨g,0,eL⟩ c l underlying30 underlying5 underlying9 ?_
 ·exact key
 ·intro j hj;have hadd:(⟨g,0,eL⟩:kh).add j=⟨g,j,eL⟩:=by unfold Addr.add;split<;>simp_all
  rw[hadd,aV hb ht j (by omega)];simp[tM,hj]
theorem aab(w:tW)(tv:fa)(bs:tLN)(vM vF:fa)(ms:List aB)(fs:List bz)(vs:tLV)(hP:YB w tv bs vM vF ms fs vs)(hE:EOk ms fs):fS prog 50 #[fY #[vM,vF]] w λe w'=>e=fW (eR (T (kJ 2 ms fs)))/\aa af w w':=by
 obtain⟨oM,cM,wE,_⟩:=hP.maps.view;obtain⟨oF,cF,kC,_⟩:=hP.rows.view;subst wE kC;have HP:=aq hP;have HE:=aq hE;have HL:ah (0<eJ (kJ 2 ms fs)):=by rw[ah];simp[kJ]
 clear hP hE;go_in;go_wp2_with fail;refine(JQ 2 (by decide) _ tv bs _ _ ms fs vs (aaa (HP.o.quiet aw)) HE.o).mono ?_;rintro e w2 ⟨v,rfl,hI⟩;have hcv:=DD hI.lQ HL.o;have HI:=aq (aw.trans hI.md);clear hI;go_wp2_with fail;go_ret;exact⟨rfl,HI.o⟩
theorem VK(w:tW)(b:Nat)(nm:tBA)(hb:au w b #[eR nm] 9)(a:tBA)(vC:fa)(o:Option kh)(n c:Nat)(hv:vC=eS o n c):fS prog 158 #[fY #[eR a,vC],vP b] w λe w'=>e=fW (fX (a.toList==nm.toList))/\aa af w w':=by subst hv;have c0:=hb.c0;have hbl:=hb.lt;clear hb;go_in;go_wp2_with fail;go_ret;exact⟨rfl,aw⟩
theorem VL(w:tW)(b:Nat)(nm:tBA)(hb:au w b #[eR nm] 9)(rows:List (tLB×fa))(hv:∀x∈rows,∃o n c,x.2=eS o n c)(vF:fa)(hF:Sl w 96 2 vF (eJ rows) (rows.flatMap nW))(hl:eJ rows<=1000):fS prog 157 #[vF,.func (.func 158) #[] #[vP b]] w λe w'=>e=fW (vI (placeM nm (rows.map (λx=>T x.1))))/\aa af w w':=by
 obtain⟨oF,cF,kC,_⟩:=hF.view;subst kC;have HF:=aq hF;have HB:=aq hb;have HV:=aq hv;clear hF hb hv;have agv:=enters_of (P:=prog) func158 (by kernel_rfl) rfl;go_in;go_wp2_with fail;go_loopg [8] (eJ rows) (λg iv wx=>∃k:Nat,k<=eJ rows/\iv=vI k/\aa af w wx/\(∀j,(hj:j<eJ rows)->j<k->T rows[j].1≠nm)/\g=eJ rows-k)
 case atStart=>exact⟨0,ba _,rfl,ax,λj _ h=>absurd h (Nat.not_lt_zero _),rfl⟩
 case round =>
  obtain⟨k,hk,rfl,hmd,hn,rfl⟩:=hrel;have HN:=aq hn;have kV:=aq hmd;clear hn hmd;by_cases hlt:k<eJ rows
  ·obtain⟨o',cap',hvv,h2⟩:=(HF.o.ai kV.o (λ_ _=>id)).view;cases hvv;obtain⟨g,cs,rfl,hb',ht',_⟩:=h2 (by omega);have c0:wr.cell? ⟨g,k*2,eL⟩=eK (eR (T rows[k].1)):=by rw[aV hb' ht' (k*2) (by omega)];exact flat_get nW 2 (λ_=>rfl) rows k 0 hlt (by omega)
   have c1:wr.cell? ⟨g,k*2+1,eL⟩=eK rows[k].2:=by rw[aV hb' ht' (k*2+1) (by omega)];exact flat_get nW 2 (λ_=>rfl) rows k 1 hlt (by omega)
   obtain⟨o1,n1,k1,hrv⟩:=HV.o rows[k] (al hlt);rw[hrv]at c1;have HEQ:=aq (VK wr b nm (HB.o.ai kV.o id) (T rows[k].1) _ o1 n1 k1 rfl);have Ve:=aq (λ(he:T rows[k].1=nm)=>zU nm (rows.map (λx=>T x.1)) k (by simpa using hlt) (λj hj hjk=>by simpa using HN.o j (by simpa using hj) hjk) (by simpa using he))
   have Cr:ah (T rows[k].1≠nm->∀j,(hj:j<eJ rows)->j<k+1->T rows[j].1≠nm):=λhe j hj hjk=>by
    by_cases e:j=k
    ·subst e;exact he
    ·exact HN.o j hj (by omega)
   clear hb' ht' h2 hrv
   have HEB:ah (((T rows[k].1).toList==nm.toList)=gh (T rows[k].1=nm)):=by
    rw[ah];by_cases he:T rows[k].1=nm
    ·rw[Gh he];simp[he]
    ·rw[tY he];simp[he]
   generalize T rows[k].1=tk at *;go_wp2_with fail;refine HEQ.o.mono ?_;rintro e w2 ⟨rfl,m2⟩;rw[HEB.o];have bP:=aq (kV.o.trans m2);clear HEB HEQ m2;by_cases he:tk=nm
   ·have hd:gh (tk=nm)=fR:=by simpa using he
    have HP:=aq (Ve.o he);rw[hd];clear hd he;go_wp2_with fail;go_ret;exact⟨dD HP.o.symm,bP.o⟩
   ·have hd:gh (tk=nm)=fj:=by simpa using he
    have KW:=aq (Cr.o he);rw[hd];clear hd he;go_wp2_with fail;go_roundg (eJ rows-(k+1))
    case measure=>omega
    case rel=>exact⟨k+1,by omega,by go_num,bP.o,KW.o,rfl⟩
  ·have HP:ah (placeM nm (rows.map (λx=>T x.1))=-1):=by
    refine tX nm _ (λj hj=>?_);have hj':j<eJ rows:=by simpa using hj
    simpa using HN.o j hj' (by omega)
   go_wp2_with fail;go_ret;exact⟨dD HP.o.symm,kV.o⟩
theorem JS(w:tW)(nm:tBA)(rows:List (tLB×fa))(hv:∀x∈rows,∃o n c,x.2=eS o n c)(vM vF:fa)(o1:Option kh)(n1 c1:Nat)(hM:vM=eS o1 n1 c1)(hF:Sl w 96 2 vF (eJ rows) (rows.flatMap nW))(hl:eJ rows<=1000):fS prog 85 #[fY #[vM,vF],eR nm] w λe w'=>e=fW (vI (placeM nm (rows.map (λx=>T x.1))))/\aa af w w':=by
 subst hM;obtain⟨oF,cF,kC,_⟩:=hF.view;subst kC;have HI:=aq (λw' (m:aa af w w') b (hb:au w' b #[.string nm] 9)=>VL w' b nm hb rows hv _ (hF.ai m (λ_ _=>id)) hl);clear hv hF;go_in;go_wp2_with fail;refine(HI.o _ (aw.alloc _) (w.heap.size+1) ?_).mono ?_
 ·have:=au.new (w.alloc (fL #[eS o1 n1 c1,eS oF (eJ rows) cF] 90)) #[eR nm] 9;rw[show(w.alloc (fL #[eS o1 n1 c1,eS oF (eJ rows) cF] 90)).heap.size=w.heap.size+1 by simp]at this;exact this
 ·rintro e w2 ⟨rfl,m2⟩;go_wp2_with fail;go_ret;exact⟨rfl,(aw.alloc _).trans m2⟩
theorem JT(w:tW)(tv:fa)(bs:tLN)(vM vF:fa)(ms:List aB)(fs:List bz)(vs:tLV)(hP:sZ w tv bs vM vF ms fs vs)(hE:EOk ms fs)(hn:∀f∈fs,∀x∈f.code,eJ x.name<=255)(ht:qj fs<=1000)(hl:eJ (kJ 1 ms fs)<=300000):fS prog 44 #[fY #[vM,vF]] w λe w'=>e=fW (eR (T (kJ 1 ms fs++b8 (lH (pcntR fs))++prefF 0 fs)))/\aa af w w':=by
 obtain⟨oM,cM,wE,_⟩:=hP.maps.view;obtain⟨oF,cF,kC,_⟩:=hP.rows.view;subst wE kC;have HP:=aq hP;have JU:ah (∀w',sZ w' tv bs (eS oM (eJ ms) cM) (eS oF (eJ fs) cF) ms fs vs->fS prog 74 #[vB 1,fY #[eS oM (eJ ms) cM,eS oF (eJ fs) cF]] w' λe w2=>∃v,e=fW v/\EI w' v (kJ 1 ms fs) w2):=λw' h=>JQ 1 (by decide) w' tv bs _ _ ms fs vs h hE;have IC:=aq (λw' v (h:sZ w' tv bs (.slice oM (eJ ms) cM) (.slice oF (eJ fs) cF) ms fs vs) (h2:Out w' v (kJ 1 ms fs))=>Rk w' tv v _ bs _ _ ms fs vs h hE hn ht h2 hl);have HL:ah (0<eJ (kJ 1 ms fs++b8 (lH (pcntR fs))++prefF 0 fs)):=by rw[ah];simp[kJ]
 clear hP hE hn ht hl;have um:ah (sZ (w.alloc (fL #[eS oM (eJ ms) cM,eS oF (eJ fs) cF] 90)) tv bs (eS oM (eJ ms) cM) (eS oF (eJ fs) cF) ms fs vs):=HP.o.quiet aw;have HB1:=aq (au.new w #[eS oM (eJ ms) cM,eS oF (eJ fs) cF] 90);have bU:ah (aa af w (w.alloc (fL #[eS oM (eJ ms) cM,eS oF (eJ fs) cF] 90))):=aw;generalize kJ 1 ms fs++b8 (lH (pcntR fs))++prefF 0 fs=res at *;generalize kJ 1 ms fs=enc at *;go_in;go_upto_region 1 with fail;generalize w.alloc (fL #[eS oM (eJ ms) cM,eS oF (eJ fs) cF] 90)=w1 at *;generalize w.heap.size=B at *;have d0:=λ(e:Ext af w1)=>(HB1.o.ai e.m id).c0;have d1:=λ(e:Ext af w1)=>(HB1.o.ai e.m id).c1
 haveI:Nonempty (Ext af w1):=Ext.ne _ _
 refine bQ [1,4,5] (λw'=>∃e:Ext af w1,w'=e.w) (by kernel_rfl) (by kernel_rfl) (by kernel_rfl) ⟨⟨_,aN⟩,rfl⟩ ?_
 iterate 1 (refine aG rfl rfl rfl ?_;intro K hK;go_big_quiet_op;go_big_quiet_on)
 refine aH rfl rfl ?_;intro K hK;go_big_op;refine(JU.o _ (um.o.quiet aN)).mono ?_;rintro e w2 ⟨v2,rfl,hI2⟩;have HI2:ah (EI w1 v2 enc w2):=⟨hI2.lQ,aN.trans hI2.md,λk hk=>by have:=hI2.own k hk;simpa using this⟩
 refine hK _ _ rfl ⟨⟨_,HI2.o.md⟩,rfl⟩ ?_;clear hK K hI2
 iterate 2 (refine aG rfl rfl rfl ?_;intro K hK;go_big_quiet_op;go_big_quiet_on)
 refine aH rfl rfl ?_;intro K hK;go_big_op;refine(IC.o w2 v2 (um.o.quiet HI2.o.md) HI2.o.lQ).mono ?_;rintro e w3 ⟨v3,rfl,s3,m3,l3⟩;have HI3:=aq (HI2.o.step s3 m3 l3);refine hK _ _ rfl ⟨⟨_,HI3.o.md⟩,rfl⟩ ?_;clear hK K s3 m3 l3;refine aH rfl rfl ?_;intro K hK;have hcv:=DD HI3.o.lQ HL.o;go_big_op;refine hK _ _ rfl ⟨⟨_,HI3.o.md⟩,rfl⟩ ?_;clear hK K hcv
 iterate 1 (refine aG rfl rfl rfl ?_;intro K hK;go_big_quiet_op;go_big_quiet_on)
 refine bZ ?_;simp only[Exit.then];go_wp2_with fail;go_ret;exact⟨rfl,bU.o.trans HI3.o.md⟩
theorem adR{a b:tLB}(h:T a=T b):a=b:=by
 have:=congrArg BL h
 simpa [BL,T]using this
def EO(mn fn:List tBA)(x:PI):Int:=if x.bD=1 then placeM (T x.name) fn else if x.bD=2 then placeM (T x.name) mn else x.num
def PI.linked(mn fn:List tBA)(x:PI):PI:={x with num:=EO mn fn x}
def bz.linked(mn fn:List tBA)(f:bz):bz:=⟨f.name,f.code.map (PI.linked mn fn)⟩
theorem DE{P:Program}(w:tW)(t ty e:ju)(i:TypeInfo)(z:fa)(size bytes:Nat)(ht:P.underlying t=eK (.slice e))(hi:P.info? e=eK i)(hz:i.zero=eK z)(hsize:i.size=size) (hby:i.bytes=bytes) (hzs:z.cells.size=size) (hsz:0<size)(v:fa) (n:Nat) (xs:tLV) (hown:Sl w e size v n xs) (u:fa) (m:Nat) (ys:tLV) (Rl:Sl w e size u m ys) (h1:∀u∈ys,u.oneCell'=fR)(h63:n+m<=jz) (hbytes:(n+m)*bytes<=140737488355328):∃v' w',(Builtin.append_ #[t,t] ty #[v,u]).run P w=.ok v' w'/\Sl w' e size v' (n+m) (xs++ys)/\aa (λk=>v.ownBlock=eK k) w w'/\(∀k,v'.ownBlock=eK k->v.ownBlock=eK k\/w.heap.size<=k):=by
 rcases Rl.2 with⟨rfl,rfl⟩ |⟨g,cap,cur,rfl,_,hg,hn,hm,hcs,htk⟩
 ·have hy:=List.length_eq_zero_iff.1 (by rw[Rl.1];omega);subst hy;obtain⟨o,c,hv,h2⟩:=hown.view
  have hle:n<=c:=by
   rcases hown.2 with⟨rfl,rfl⟩ |⟨g,cap,cur,rfl,_,hg,hn,hm,hcs,htk⟩
   ·exact ba _
   ·cases hv;exact hn
  subst hv;have:=run_append_nothing (P:=P) w t t ty e i ht hi o n c hle (vN) (Src.ofNil w ht 0);exact⟨_,_,this,by rw[cq];exact hown,ax,λk hk=>.inl hk⟩
 ·refine xg (P:=P) w t ty e i z size bytes ht hi hz hsize hby hzs hsz v n xs hown ⟨g,0,eL⟩ m cap ys Rl.1 ?_ h1 h63 hbytes;intro j x hx;have hb:au w g cur e:=hg;have hadd:(⟨g,0,eL⟩:kh).add j=⟨g,j,eL⟩:=by unfold Addr.add;split<;>simp_all
  have hj:=(List.getElem?_eq_some_iff.1 hx).1;rw[hadd,aV hb htk j (by rw[<-Rl.1];exact hj),hx]
theorem oI{P:Program}(w:tW){ops:Array Oper}{rest:List Oper}{o:Oper}{a:Act}{Q:Exit->Act->tW->Prop}(hgd:o.guard=eL)(s x:Operand)(t:ju)(ho:o.op=.call {callee:=.builtin .append,args:=#[s,x],argTypes:=#[t,t]})(e:ju) (i:TypeInfo) (z:fa) (size bytes:Nat) (ht:P.underlying t=eK (.slice e)) (hi:P.info? e=eK i) (hz:i.zero=eK z)(hsize:i.size=size) (hby:i.bytes=bytes) (hzs:z.cells.size=size) (hsz:0<size)(v:fa) (n:Nat) (xs:tLV) (hs:a.eval s=v) (hown:Sl w e size v n xs) (u:fa) (m:Nat) (ys:tLV) (hx:a.eval x=u) (Rl:Sl w e size u m ys) (h1:∀u∈ys,u.oneCell'=fR)(h63:n+m<=jz) (hbytes:(n+m)*bytes<=140737488355328)(h:∀v' w',Sl w' e size v' (n+m) (xs++ys)->aa (λk=>v.ownBlock=eK k) w w'->(∀k,v'.ownBlock=eK k->v.ownBlock=eK k\/w.heap.size<=k)->wpList P ops Q rest (a.put o.dst v') w'):wpList P ops Q (o::rest) a w:=by refine wpList_plain hgd λ_ hK=>?_;obtain⟨v',w',hr,h2,h3,h4⟩:=DE (P:=P) w t o.type e i z size bytes ht hi hz hsize hby hzs hsz v n xs hown u m ys Rl h1 h63 hbytes;unfold Oper.wp execOp;simp only[ho,resolve,invoke,builtin,Sem.run_bind,Sem.run_pure,Result.andThen_ok,List.map_toArray,List.map_cons,List.map_nil,hs,hx,hr];exact hK _ _ (h v' w' h2 h3 h4)
theorem zB{α β:Type}(f:α->List β)(n:Nat):∀(l:List α),(∀x∈l,eJ (f x)<=n)->eJ (l.flatMap f)<=eJ l*n
 |[],_=>by simp
 |x::l,h=>by rw[bj,ab,bh,Nat.succ_mul];have h1:=h x (by simp);have h2:=zB f n l (λy hy=>h y (by simp[hy]));omega
theorem FN{α β:Type}(f:α->List β)(l:List α)(k:Nat)(h:k<eJ l):(l.take (k+1)).flatMap f=(l.take k).flatMap f++f l[k]:=by rw[cj,de];simp[h]
theorem VM(w:tW)(b:Nat)(nm:tBA)(hb:au w b #[eR nm] 9)(a:tBA)(x y z:Int):fS prog 160 #[fY #[eR a,vB x,vB y,vB z],vP b] w λe w'=>e=fW (fX (a.toList==nm.toList))/\aa af w w':=by have c0:=hb.c0;have hbl:=hb.lt;clear hb;go_in;go_wp2_with fail;go_ret;exact⟨rfl,aw⟩
theorem VN(w:tW)(b:Nat)(nm:tBA)(hb:au w b #[eR nm] 9)(rows:List aB)(vM:fa)(hM:Sl w 100 4 vM (eJ rows) (rows.flatMap aB.cells))(hl:eJ rows<=1000):fS prog 159 #[vM,.func (.func 160) #[] #[vP b]] w λe w'=>e=fW (vI (placeM nm (rows.map (λx=>T x.name))))/\aa af w w':=by
 obtain⟨oF,cF,kC,_⟩:=hM.view;subst kC;have HF:=aq hM;have HB:=aq hb;clear hM hb;have agw:=enters_of (P:=prog) func160 (by kernel_rfl) rfl;go_in;go_wp2_with fail;go_loopg [8] (eJ rows) (λg iv wx=>∃k:Nat,k<=eJ rows/\iv=vI k/\aa af w wx/\(∀j,(hj:j<eJ rows)->j<k->T rows[j].name≠nm)/\g=eJ rows-k)
 case atStart=>exact⟨0,ba _,rfl,ax,λj _ h=>absurd h (Nat.not_lt_zero _),rfl⟩
 case round =>
  obtain⟨k,hk,rfl,hmd,hn,rfl⟩:=hrel;have HN:=aq hn;have kV:=aq hmd;clear hn hmd;by_cases hlt:k<eJ rows
  ·obtain⟨o',cap',hvv,h2⟩:=(HF.o.ai kV.o (λ_ _=>id)).view;cases hvv;obtain⟨g,cs,rfl,hb',ht',_⟩:=h2 (by omega);have key:∀c,c<4->wr.cell? ⟨g,k*4+c,eL⟩=(aB.cells rows[k])[c]?:=λc hc=>by rw[aV hb' ht' (k*4+c) (by omega)];exact flat_get aB.cells 4 (λ_=>rfl) rows k c hlt hc
   have c0:wr.cell? ⟨g,k*4,eL⟩=eK (eR (T rows[k].name)):=key 0 (by omega);have c1:wr.cell? ⟨g,k*4+1,eL⟩=eK (vB rows[k].key):=key 1 (by omega);have c2:wr.cell? ⟨g,k*4+2,eL⟩=eK (vB rows[k].value):=key 2 (by omega);have c3:wr.cell? ⟨g,k*4+3,eL⟩=eK (vB rows[k].entries):=key 3 (by omega);have HEQ:ah (fS prog 160 #[fY #[eR (T rows[k].name),vB rows[k].key,vB rows[k].value,vB rows[k].entries],vP b] wr λe w'=>e=fW (fX ((T rows[k].name).toList==nm.toList))/\aa af wr w'):=VM wr b nm (HB.o.ai kV.o id) (T rows[k].name) _ _ _;have Ve:=aq (λ(he:T rows[k].name=nm)=>zU nm (rows.map (λx=>T x.name)) k (by simpa using hlt) (λj hj hjk=>by simpa using HN.o j (by simpa using hj) hjk) (by simpa using he))
   have Cr:ah (T rows[k].name≠nm->∀j,(hj:j<eJ rows)->j<k+1->T rows[j].name≠nm):=λhe j hj hjk=>by
    by_cases e:j=k
    ·subst e;exact he
    ·exact HN.o j hj (by omega)
   clear hb' ht' h2 key
   have HEB:ah (((T rows[k].name).toList==nm.toList)=gh (T rows[k].name=nm)):=by
    rw[ah];by_cases he:T rows[k].name=nm
    ·rw[Gh he];simp[he]
    ·rw[tY he];simp[he]
   generalize T rows[k].name=tk at *;generalize rows[k].key=xk at *;generalize rows[k].value=xv at *;generalize rows[k].entries=xe at *;go_wp2_with fail;refine HEQ.o.mono ?_;rintro e w2 ⟨rfl,m2⟩;rw[HEB.o];have bP:=aq (kV.o.trans m2);clear HEB HEQ m2;by_cases he:tk=nm
   ·have hd:gh (tk=nm)=fR:=by simpa using he
    have HP:=aq (Ve.o he);rw[hd];clear hd he;go_wp2_with fail;go_ret;exact⟨dD HP.o.symm,bP.o⟩
   ·have hd:gh (tk=nm)=fj:=by simpa using he
    have KW:=aq (Cr.o he);rw[hd];clear hd he;go_wp2_with fail;go_roundg (eJ rows-(k+1))
    case measure=>omega
    case rel=>exact⟨k+1,by omega,by go_num,bP.o,KW.o,rfl⟩
  ·have HP:ah (placeM nm (rows.map (λx=>T x.name))=-1):=by
    refine tX nm _ (λj hj=>?_);have hj':j<eJ rows:=by simpa using hj
    simpa using HN.o j hj' (by omega)
   go_wp2_with fail;go_ret;exact⟨dD HP.o.symm,kV.o⟩
theorem VO(w:tW)(nm:tBA)(rows:List aB)(vM vF:fa)(o1:Option kh)(n1 c1:Nat)(hF:vF=eS o1 n1 c1)(hM:Sl w 100 4 vM (eJ rows) (rows.flatMap aB.cells))(hl:eJ rows<=1000):fS prog 86 #[fY #[vM,vF],eR nm] w λe w'=>e=fW (vI (placeM nm (rows.map (λx=>T x.name))))/\aa af w w':=by
 subst hF;obtain⟨oM,cM,wE,_⟩:=hM.view;subst wE;have HI:=aq (λw' (m:aa af w w') b (hb:au w' b #[.string nm] 9)=>VN w' b nm hb rows _ (hM.ai m (λ_ _=>id)) hl);clear hM;go_in;go_wp2_with fail;refine(HI.o _ (aw.alloc _) (w.heap.size+1) ?_).mono ?_
 ·have:=au.new (w.alloc (fL #[eS oM (eJ rows) cM,eS o1 n1 c1] 90)) #[eR nm] 9;rw[show(w.alloc (fL #[eS oM (eJ rows) cM,eS o1 n1 c1] 90)).heap.size=w.heap.size+1 by simp]at this;exact this
 ·rintro e w2 ⟨rfl,m2⟩;go_wp2_with fail;go_ret;exact⟨rfl,(aw.alloc _).trans m2⟩
def decsP:List tLB->List (List aB×List bz)
 |[]=>[]
 |s::l=>if(iC s).2.2.bad then []else((iC s).1,(iC s).2.1)::decsP l
structure bR where
 vM:fa
 vF:fa
 ms:List aB
 fs:List bz
 vs:tLV
 lo:Nat
def bR.cells(p:bR):tLV:=[p.vM,p.vF]
def bR.plain(p:bR):List aB×List bz:=(p.ms,p.fs)
structure fI(w:tW)(bs:tLN)(p:bR):Prop where
 maps:Sl w 100 4 p.vM (eJ p.ms) (p.ms.flatMap aB.cells)
 fns:pR w p.lo bs p.vF p.fs p.vs
theorem fI.quiet{w w':tW}{bs:tLN}{p:bR}(h:fI w bs p)(m:aa af w w'):fI w' bs p:=⟨h.maps.ai m (λ_ _=>id),h.fns.quiet m⟩
theorem G9:(prog.info? 90).map (λi=>(i.zero,i.size,i.bytes))=eK (eK (fY #[vN,vN]),2,48):=by kernel_rfl
structure Parts(w0:tW)(bs:tLN)(v:fa)(ps:List bR)(w:tW):Prop where
 sl:Sl w 90 2 v (eJ ps) (ps.flatMap bR.cells)
 each:∀p∈ps,fI w bs p
 md:aa af w0 w
 own:∀k,v.ownBlock=eK k->w0.heap.size<=k
 lo:∀p∈ps,w0.heap.size<=p.lo
 ord:ps.Pairwise (λp q=>∀u∈p.vs,∀k,u.ownBlock=eK k->k<q.lo)
theorem Parts.nil(w:tW)(bs:tLN):Parts w bs (vN) [] w where
 sl:=Sl.nil _ _ _
 each:=λ_ h=>by cases h
 md:=ax
 own:=λk h=>by cases h
 lo:=λ_ h=>by cases h
 ord:=List.Pairwise.nil
theorem Parts.quiet{w0 w w':tW}{bs:tLN}{v:fa}{ps:List bR}(h:Parts w0 bs v ps w)(m:aa af w w'):Parts w0 bs v ps w' :=
 ⟨h.sl.ai m (λ_ _=>id),λp hp=>(h.each p hp).quiet m,h.md.trans m,h.own,h.lo,h.ord⟩
theorem fI.ai{w w':tW}{bs:tLN}{p:bR}{v:fa}{n:Nat}{xs:tLV}(h:fI w bs p)(hs:Sl w 90 2 v n xs)(m:aa (λk=>v.ownBlock=eK k) w w'):fI w' bs p :=
 ⟨h.maps.ai m (λk hk e=>h.maps.apart hs (by decide) hk e),h.fns.ai m (λk hk e=>h.fns.sl.apart hs (by decide) hk e) (λu hu k hk e=>by obtain⟨i,hi,rfl⟩:=cI hu;exact(h.fns.cd i (by rw[<-h.fns.len];exact hi) hi).apart hs (by decide) hk e)⟩
theorem Parts.app{w0 w w':tW}{bs:tLN}{v v':fa}{ps:List bR}{p:bR}(h:Parts w0 bs v ps w)(hp:fI w bs p)(hlo:w0.heap.size<=p.lo)(afF:∀q∈ps,∀u∈q.vs,∀k,u.ownBlock=eK k->k<p.lo)(s:Sl w' 90 2 v' (eJ ps+1) (ps.flatMap bR.cells++p.cells)) (m:aa (λk=>v.ownBlock=eK k) w w') (l:∀k,v'.ownBlock=eK k->v.ownBlock=eK k\/w.heap.size<=k):Parts w0 bs v' (ps++[p]) w':=by
 refine⟨?_,?_,h.md.step m (λi hi e=>by have:=h.own i e;omega),λk hk=>?_,?_,?_⟩
 ·rw[ab,de];simpa using s
 ·intro q hq;rcases List.mem_append.1 hq with hq|hq
  ·exact(h.each q hq).ai h.sl m
  ·rw[List.mem_singleton.1 hq];exact hp.ai h.sl m
 ·rcases l k hk with e|e
  ·exact h.own k e
  ·have:=h.md.size;omega
 ·intro q hq;rcases List.mem_append.1 hq with hq|hq
  ·exact h.lo q hq
  ·rw[List.mem_singleton.1 hq];exact hlo
 ·rw[List.pairwise_append];exact⟨h.ord,List.pairwise_singleton _ _,λq hq r hr=>by rw[List.mem_singleton.1 hr];exact afF q hq⟩
theorem VP(w:tW)(hE:uS w)(g cap:Nat)(cs:tAV)(bO:List tLB)(hb:au w g cs 9)(hcs:∀k (h:k<eJ bO),cs[k]?=eK (eR (T bO[k])))(hn:eJ bO<=1000)(hs:∀s∈bO,eJ s<=jz):fS prog 46 #[eS (eK ⟨g,0,eL⟩) (eJ bO) cap] w λe w'=>∃v tv bs ps wT,e=fW v/\aM 0 wT tv bs az/\aa af w wT/\Parts wT bs v ps w'/\ps.map bR.plain=decsP bO:=by
 obtain⟨iP,hiP,hq⟩:=Option.map_eq_some_iff.1 G9;have sP:iP.zero=eK (fY #[vN,vN]):=congrArg (·.1) hq;have hsP:iP.size=2:=congrArg (·.2.1) hq;have xz:iP.bytes=48:=congrArg (·.2.2) hq;have HB:=aq hb;have jI:=aq hcs;have HS:=aq hs;have HE:=aq hE;clear hq hb hcs hs hE;go_in;go_wp2_with fail;refine(Ah _ HE.o).mono ?_;rintro e wT ⟨tv,bs,rfl,hT,mT⟩;have HT:=aq hT;have Ew:=aq mT;have HBT:=aq (HB.o.ai mT id);obtain⟨oT,cT,hvT,_⟩:=hT.sl.view;clear hT mT HB HE;subst hvT;go_wp2_with fail;go_loopg [4,12] (eJ bO) (λgg ov iv wx=>∃(k:Nat) (ps:List bR),iv=vI k/\Parts wT bs ov ps wx/\ps.map bR.plain++decsP (bO.drop k)=decsP bO/\ps.length=k/\k<=eJ bO/\gg=eJ bO-k)
 case atStart=>exact⟨0,[],rfl,Parts.nil _ _,rfl,rfl,ba _,rfl⟩
 case round =>
  obtain⟨k,ps,rfl,hP,gq,hpl,hk,rfl⟩:=hrel;have HR:=aq gq;have HP:=aq hP;have Ve:=aq hpl;clear gq hP hpl;by_cases hkl:k<eJ bO
  ·have c0:wr.cell? ⟨g,k,eL⟩=eK (eR (T bO[k])):=by rw[(HBT.o.ai HP.o.md id).cell k];exact jI.o k hkl
   have HD:=aq (Ml wr wT _ bs HT.o HP.o.md bO[k] (HS.o _ (al hkl)));have HX:ah (decsP (bO.drop k)=if(iC bO[k]).2.2.bad then []else((iC bO[k]).1,(iC bO[k]).2.1)::decsP (bO.drop (k+1))):=by rw[ah,ao hkl,decsP]
   generalize iC bO[k]=d at *;generalize T bO[k]=sk at *;go_wp2_with fail;refine HD.o.mono ?_;rintro e w2 ⟨vM,vF,vs,rfl,m2,⟨a1,a2,a3,b1,b2,b3,rfl,rfl⟩,hok⟩;have lU:ah (Parts wT bs u4 ps (w2.alloc (fL #[eS a1 a2 a3,eS b1 b2 b3] 90))):=HP.o.quiet (m2.alloc _);have ZD:ah (∀q∈ps,∀u∈q.vs,∀k,u.ownBlock=eK k->k<wr.heap.size):=by intro q hq u hu k hk;obtain⟨i,hi,rfl⟩:=cI hu;have hf:=(HP.o.each q hq).fns;exact(hf.cd i (by rw[<-hf.len];exact hi) hi).lt k hk
   have HW0:=aq HP.o.md.size;rcases LX d.2.2.bad with hbad|hbad
   ·have HXB:ah (ps.map bR.plain=decsP bO):=by rw[ah,<-HR.o,HX.o,iP9 hbad,cq]
    rw[hbad];clear hok HD HX hbad;go_wp2_with fail;go_ret;exact⟨_,_,bs,ps,wT,rfl,HT.o,Ew.o,lU.o,HXB.o⟩
   ·obtain⟨hsm,hfn⟩:=hok hbad;have Od:ah (fI (w2.alloc (fL #[eS a1 a2 a3,eS b1 b2 b3] 90)) bs ⟨eS a1 a2 a3,eS b1 b2 b3,d.1,d.2.1,vs,wr.heap.size⟩):=fI.quiet ⟨hsm,hfn⟩ aw;have HXB:ah ((ps++[(⟨eS a1 a2 a3,eS b1 b2 b3,d.1,d.2.1,vs,wr.heap.size⟩:bR)]).map bR.plain++decsP (bO.drop (k+1))=decsP bO):=by rw[ah,<-HR.o,HX.o,iN9 (by rw[hbad];decide)];simp[bR.plain]
    rw[hbad];clear hok HD HX hbad hsm hfn;have hpk:eJ ps<=1000:=by rw[Ve.o];omega
    go_wp2_with (at_builtin;refine aQ _ rfl (.tmp 24) (.tmp 26) 114 rfl 90 iP (fY #[vN,vN]) 2 48 underlying114 hiP sP hsP xz rfl (by decide) u4 (eJ ps) (ps.flatMap bR.cells) rfl (lU.o.quiet aw).sl ⟨w2.heap.size+1,0,eL⟩ 1 1 [eS a1 a2 a3,eS b1 b2 b3] rfl rfl (bH _ _ _ _ (by simp)) (λu hu=>by simp at hu;rcases hu with rfl|rfl<;>rfl) (by unfold jz;omega) (by omega) ?_;intro v5 w5 s5 m5 l5);have HP5:=aq ((lU.o.quiet aw).app (Od.o.quiet aw) HW0.o (λq hq u hu k hk=>ZD.o q hq u hu k hk) s5 m5 l5);clear s5 m5 l5;go_roundg (eJ bO-(k+1))
    case measure=>omega
    case rel=>exact⟨k+1,_,by go_num,HP5.o,HXB.o,by rw[ab,Ve.o];rfl,by omega,rfl⟩
  ·obtain rfl:k=eJ bO:=by omega
   have HXB:ah (ps.map bR.plain=decsP bO):=by
    have:=HR.o;rw[bt]at this
    simpa [ah,decsP]using this
   go_wp2_with fail;go_ret;exact⟨_,_,bs,ps,wT,rfl,HT.o,Ew.o,HP.o,HXB.o⟩
def qk(fs:List bz):Nat:=(fs.map (λf=>aU f.code)).sum
theorem Rm(fs:List bz)(k:Nat)(h:k<eJ fs):qk (fs.take (k+1))=qk (fs.take k)+aU fs[k].code:=by unfold qk;rw[cj,cG,List.sum_append];simp[h]
theorem aac(w:tW)(tv:fa)(bs:tLN)(vM vF:fa)(ms:List aB)(fs:List bz)(vs:tLV)(hP:YB w tv bs vM vF ms fs vs)(hm:eJ ms<=1000)(hf:eJ fs<=1000)(hok:∀f∈fs,eJ f.code<=200/\∀x∈f.code,gm x)(hsum:∀k,qk (fs.take k)<=1000000):fS prog 83 #[fY #[vM,vF]] w λe w'=>e=fW (fX (gh (8<eJ ms)||decide (16<eJ fs)||decide (200<qk fs)))/\aa af w w':=by
 obtain⟨oM,cM,wE,_⟩:=hP.maps.view;obtain⟨oF,cF,kC,_⟩:=hP.rows.view;subst wE kC;have HP:=aq hP;have xx:=aq hok;have HSU:=aq hsum;have HB0:=aq (au.new w #[eS oM (eJ ms) cM,eS oF (eJ fs) cF] 90);have eW:ah (aa af w (w.alloc (fL #[eS oM (eJ ms) cM,eS oF (eJ fs) cF] 90))):=aw;clear hP hok hsum;obtain⟨r,hr⟩:∃r:Bool,r=(gh (8<eJ ms)||decide (16<eJ fs)||decide (200<qk fs)):=⟨_,rfl⟩
 rw[<-hr];have gq:=aq hr;clear hr;go_in;go_wp2_with fail;generalize w.alloc (fL #[eS oM (eJ ms) cM,eS oF (eJ fs) cF] 90)=wB at *;generalize w.heap.size=B at *;go_loopg [3,9] (eJ fs) (λg sv iv wx=>∃k:Nat,iv=vI k/\sv=vI (qk (fs.take k))/\aa af wB wx/\k<=eJ fs/\g=eJ fs-k)
 case atStart=>exact⟨0,rfl,rfl,ax,ba _,rfl⟩
 case round =>
  obtain⟨k,rfl,rfl,hmd,hk,rfl⟩:=hrel;have kV:=aq hmd;clear hmd;have hs0:=HSU.o k;by_cases hkl:k<eJ fs
  ·have EN:=HP.o.quiet (eW.o.trans kV.o);have Bu:k<eJ vs:=by rw[EN.len];exact hkl
   obtain⟨gF,rfl,c0,c1⟩:=EN.VF k hkl Bu;have hk1:=xx.o fs[k] (al hkl);have qA:=EN.code k hkl Bu;have HST:=aq (Rm fs k hkl);have hs1:=HSU.o (k+1);rw[HST.o]at hs1;have HPS:=aq (λw' m=>Dx w' tv bs (EN.ops.ai m) fs[k].code hk1.2 (by have:=hk1.1;omega) _ (qA.ai m (λ_ _=>id)) (T fs[k].name));obtain⟨oC,cC,hvC,_⟩:=qA.view;rw[hvC]at c1 HPS;clear EN qA hk1 hvC;generalize T fs[k].name=tn at *;generalize aU fs[k].code=sp at *;generalize eJ fs[k].code=cl at *;generalize qk (fs.take k)=sk at *;go_wp2_with fail;refine(HPS.o _ aw).mono ?_;rintro e w2 ⟨rfl,m2⟩;have bP:=aq ((kV.o.alloc _).trans m2);clear m2;go_wp2_with fail;go_roundg (eJ fs-(k+1))
   case measure=>omega
   case rel=>exact⟨k+1,by go_num,by rw[HST.o];go_num,bP.o,by omega,rfl⟩
  ·obtain rfl:k=eJ fs:=by omega
   have Jq:ah (qk (fs.take (eJ fs))=qk fs):=by rw[ah,cW]
   rw[Jq.o]at hs0 ⊢;have q0:=(HB0.o.ai kV.o id).c0;have q1:=(HB0.o.ai kV.o id).c1;have Q8:=aq (eW.o.trans kV.o);generalize qk fs=sf at *;by_cases h1:8<eJ ms
   ·have HR:ah (r=fR):=by rw[ah,gq.o];simp[h1]
    go_wp2_with fail;go_ret;exact⟨by rw[HR.o];rfl,Q8.o⟩
   ·by_cases h2:16<eJ fs
    ·have HR:ah (r=fR):=by rw[ah,gq.o];simp[h2]
     have t1:gh ((8:Int)<(eJ ms:Int))=fj:=by simp;omega
     go_wp2_with fail;go_ret;exact⟨by rw[HR.o];rfl,Q8.o⟩
    ·have HR:ah (r=gh (200<sf)):=by rw[ah,gq.o];simp[h1,h2]
     have t1:gh ((8:Int)<(eJ ms:Int))=fj:=by simp;omega
     have t2:gh ((16:Int)<(eJ fs:Int))=fj:=by simp;omega
     have HD:ah (gh ((200:Int)<(sf:Int))=gh (200<sf)):=by rw[ah];congr 1;exact propext (by omega)
     go_wp2_with fail;go_ret;exact⟨by rw[HR.o,<-HD.o];rfl,Q8.o⟩
def ER(names:List tBA)(x:PI):Bool:=gh (x.bD=1)&&gh (placeM (T x.name) names=-1)
def JW(names:List tBA)(f:bz):Bool:=f.code.any (ER names)
def Rn(names:List tBA)(p:List bz):Bool:=p.any (JW names)
def missP(names:List tBA):Nat->List (List bz)->Int
 |_,[]=>-1
 |i,p::l=>if Rn names p then i else missP names (i+1) l
theorem Parts.at{w0 w:tW}{bs:tLN}{o:Option kh}{c:Nat}{ps:List bR}(h:Parts w0 bs (eS o (eJ ps) c) ps w)(k:Nat)(hk:k<eJ ps):∃g,o=eK ⟨g,0,eL⟩/\w.cell? ⟨g,k*2,eL⟩=eK ps[k].vM/\w.cell? ⟨g,k*2+1,eL⟩=eK ps[k].vF:=by
 obtain⟨o',cap',hv,h2⟩:=h.sl.view;cases hv;obtain⟨g,cs,rfl,hb,ht,_⟩:=h2 (by omega);have key:∀c,c<2->w.cell? ⟨g,k*2+c,eL⟩=(bR.cells ps[k])[c]?:=λc hc=>by rw[aV hb ht (k*2+c) (by omega)];exact flat_get bR.cells 2 (λ_=>rfl) ps k c hk hc
 exact⟨g,rfl,key 0 (by omega),key 1 (by omega)⟩
theorem pR.VF{w:tW}{lo:Nat}{bs:tLN}{oF:Option kh}{cF:Nat}{fs:List bz}{vs:tLV}(h:pR w lo bs (eS oF (eJ fs) cF) fs vs)(k:Nat)(hk:k<eJ fs)(hv':k<eJ vs):∃g,oF=eK ⟨g,0,eL⟩/\w.cell? ⟨g,k*2,eL⟩=eK (eR (T fs[k].name))/\w.cell? ⟨g,k*2+1,eL⟩=eK vs[k]:=by
 obtain⟨o',cap',hv,h2⟩:=h.sl.view;cases hv;obtain⟨g,cs,rfl,hb,ht,_⟩:=h2 (by omega);have hz:k<eJ ((fs.map (·.name)).zip vs):=by simp only[cD,b5];omega
 have key:∀c,c<2->w.cell? ⟨g,k*2+c,eL⟩=(nW (fs[k].name,vs[k]))[c]?:=λc hc=>by rw[aV hb ht (k*2+c) (by omega)];have:=flat_get nW 2 (λ_=>rfl) ((fs.map (·.name)).zip vs) k c hz hc;rw[this,cP,cx]
 exact⟨g,rfl,key 0 (by omega),key 1 (by omega)⟩
theorem Ro:∀k,k<88->(az[k]?.getD zj).bD<=2:=by decide +kernel
theorem gm.refs{x:PI}(h:gm x):x.o.bD<=2:=Ro x.k h.k
theorem Mu(names:List tBA)(l:List (List bz))(k:Nat)(h:k<eJ l):missP names k (l.drop k)=if Rn names l[k]then(k:Int)else missP names (k+1) (l.drop (k+1)):=by rw[ao h,missP]
theorem VQ(w0 w:tW)(tv:fa)(bs:tLN)(hT:aM 0 w0 tv bs az)(v:fa)(ps:List bR)(hP:Parts w0 bs v ps w)(hpl:eJ ps<=1000)(hfl:∀p∈ps,eJ p.fs<=1000/\∀f∈p.fs,eJ f.code<=1000)(vM vF:fa) (o1:Option kh) (n1 c1:Nat) (hM:vM=eS o1 n1 c1) (rows:List (tLB×fa)) (hv:∀x∈rows,∃o n c,x.2=eS o n c) (hF:Sl w 96 2 vF (eJ rows) (rows.flatMap nW)) (hl:eJ rows<=1000) (names:List tBA) (hnm:names=rows.map (λx=>T x.1)):fS prog 82 #[v,fY #[vM,vF]] w λe w'=>e=fW (vI (missP names 0 (ps.map (·.fs))))/\aa af w w':=by
 obtain⟨o,c,hvv,_⟩:=hP.sl.view;obtain⟨oF,cF,kC,_⟩:=hF.view;subst hvv kC hM;have HP:=aq hP;have HT:=aq hT;have Q5:=aq hfl;have Mv:ah (∀w',aa af w w'->∀nm,fS prog 85 #[fY #[eS o1 n1 c1,eS oF (eJ rows) cF],eR nm] w' λe w2=>e=fW (vI (placeM nm names))/\aa af w' w2):=λw' m nm=>by rw[hnm];exact JS w' nm rows hv _ _ o1 n1 c1 rfl (hF.ai m (λ_ _=>id)) hl
 have VI:ah (∀nm,-1<=placeM nm names/\placeM nm names<1001):=λnm=>by
  have:=mQ nm names;have e:eJ names=eJ rows:=by rw[hnm,b5]
  omega
 have HB0:=aq (au.new w #[eS o1 n1 c1,eS oF (eJ rows) cF] 90);have eW:ah (aa af w (w.alloc (fL #[eS o1 n1 c1,eS oF (eJ rows) cF] 90))):=aw;clear hP hT hfl hv hF hnm;go_in;go_wp2_with fail;generalize w.alloc (fL #[eS o1 n1 c1,eS oF (eJ rows) cF] 90)=wB at *;generalize w.heap.size=B at *;go_loopg [13] (eJ ps) (λg iv wx=>∃k:Nat,iv=vI k/\aa af wB wx/\missP names k ((ps.map (·.fs)).drop k)=missP names 0 (ps.map (·.fs))/\k<=eJ ps/\g=eJ ps-k)
 case atStart=>exact⟨0,rfl,ax,rfl,ba _,rfl⟩
 case round =>
  obtain⟨k,rfl,hmd,hmi,hk,rfl⟩:=hrel;have kV:=aq hmd;have VR:=aq hmi;clear hmd hmi;by_cases hkl:k<eJ ps
  ·obtain⟨gP,rfl,c0,c1'⟩:=(HP.o.quiet (eW.o.trans kV.o)).at k hkl;have Es:ah (missP names 0 (ps.map (·.fs))=if Rn names ps[k].fs then(k:Int)else missP names (k+1) ((ps.map (·.fs)).drop (k+1))):=by rw[ah,<-VR.o,Mu names _ k (by simpa using hkl),cx]
   have Od:=aq (λw' (m:aa af wr w')=>(HP.o.quiet ((eW.o.trans kV.o).trans m)).each _ (al hkl));have hfk:=Q5.o ps[k] (al hkl);obtain⟨a1,a2,ha,_⟩:=(Od.o wr ax).maps.view;obtain⟨b1,b2,hb,_⟩:=(Od.o wr ax).fns.sl.view;rw[ha]at c0;rw[hb]at c1';have Ff:ah (∀w',aa af wr w'->pR w' ps[k].lo bs (eS b1 (eJ ps[k].fs) b2) ps[k].fs ps[k].vs):=λw' m=>by rw[<-hb];exact(Od.o w' m).fns
   clear Od ha hb VR;generalize ps[k].fs=fs at *;generalize ps[k].vs=vs at *;generalize ps[k].lo=lo at *;generalize eJ ps[k].ms=uW at *;go_wp2_with fail;have Et:ah (aa af wr (wr.alloc (fL #[eS a1 uW a2,eS b1 (eJ fs) b2] 90))):=aw;generalize wr.alloc (fL #[eS a1 uW a2,eS b1 (eJ fs) b2] 90)=w1 at *;obtain⟨wO,hwO⟩:∃wO,wO=wr:=⟨_,rfl⟩
   rw[<-hwO]at Et Ff kV;clear hwO c0 c1';go_loopg [21] (eJ fs) (λg iv wx=>∃i:Nat,iv=vI i/\aa af wO wx/\(fs.take i).any (JW names)=fj/\i<=eJ fs/\g=eJ fs-i)
   case atStart=>exact⟨0,rfl,Et.o,rfl,ba _,rfl⟩
   case round =>
    obtain⟨i,rfl,hmd,hany,hi,rfl⟩:=hrel;have bP:=aq hmd;have HAN:=aq hany;clear hmd hany;by_cases hil:i<eJ fs
    ·have Ex:=Ff.o wr bP.o;have ES:i<eJ vs:=by rw[Ex.len];exact hil
     obtain⟨gF,rfl,c0,c1'⟩:=Ex.VF i hil ES;have qA:=Ex.cd i hil ES;have hcl:=hfk.2 fs[i] (al hil);have afG:ah ((fs.take (i+1)).any (JW names)=JW names fs[i]):=by rw[ah,cj,List.any_append,HAN.o,Bool.false_or];simp[hil]
     have HBF:ah (JW names fs[i]=fR->Rn names fs=fR):=λh=>by unfold Rn;rw[dp];exact⟨fs[i],al hil,h⟩
     have xx:=aq (Ex.ok fs[i] (al hil));have Rp:=aq (λw' (m:aa af wr w')=>qA.ai m (λ_ _=>id));have Me:ah (JW names fs[i]=fs[i].code.any (ER names)):=rfl;generalize fs[i]=f at *;generalize vs[i]=vC at *;obtain⟨nm,code⟩:=f;simp only at *;obtain⟨oC,cC,rfl,_⟩:=qA.view;clear Ex qA;generalize JW names ⟨nm,code⟩=bf at *;go_wp2_with fail;have dF:ah (aa af wr (wr.alloc (fL #[eR (T nm),eS oC (eJ code) cC] 96))):=aw;generalize wr.alloc (fL #[eR (T nm),eS oC (eJ code) cC] 96)=w2 at *;obtain⟨wQ,hwQ⟩:∃wQ,wQ=wr:=⟨_,rfl⟩
     rw[<-hwQ]at dF bP Rp;clear hwQ c0 c1';go_loopg [28] (eJ code) (λg iv wx=>∃j:Nat,iv=vI j/\aa af wQ wx/\(code.take j).any (ER names)=fj/\j<=eJ code/\g=eJ code-j)
     case atStart=>exact⟨0,rfl,dF.o,rfl,ba _,rfl⟩
     case round =>
      obtain⟨j,rfl,hmd,hany,hj,rfl⟩:=hrel;have gG:=aq hmd;have HAX:=aq hany;clear hmd hany;have FH:=aq ((kV.o.trans bP.o).trans gG.o);by_cases hjl:j<eJ code
      ·obtain⟨g,rfl,hg,y0,y1,y2,y3,y4,y5,y6,y7⟩:=l9 (Rp.o wr gG.o) rfl rfl j hjl;have hx:=xx.o code[j] (al hjl);have HAT:=aq (λw' (m:aa af wr w')=>kF (HT.o.ai (((HP.o.md.trans eW.o).trans FH.o).trans m)) code[j] hx.k);have adS:ah ((code.take (j+1)).any (ER names)=ER names code[j]):=by rw[ah,cj,List.any_append,HAX.o,Bool.false_or];simp[hjl]
       have G7:ah (ER names code[j]=fR->bf=fR):=λh=>by rw[Me.o,dp];exact⟨code[j],al hjl,h⟩
       have HXD:ah (ER names code[j]=(gh ((if code[j].s=1 then code[j].o.bD else 0)=1)&&gh (placeM (T code[j].name) names=-1))):=rfl;have hpb:=VI.o (T code[j].name);have hrf:(if code[j].s=1 then code[j].o.bD else 0)<=1000:=by have:=hx.refs;split<;>omega
       clear hx;generalize ER names code[j]=bx at *;generalize code[j].o=o at *;generalize code[j].jump=jmp at *;generalize code[j].d=xd at *;generalize code[j].s=xs at *;generalize code[j].num=xn at *;generalize code[j].high=xh at *;have HFX:ah (∀w',aa af wr w'->fS prog 85 #[fY #[eS o1 n1 c1,eS oF (eJ rows) cF],eR (T code[j].name)] w' λe w2=>e=fW (vI (placeM (T code[j].name) names))/\aa af w' w2):=λw' m=>Mv.o w' ((eW.o.trans FH.o).trans m) _;generalize placeM (T code[j].name) names=pl at *;generalize T code[j].name=xm at *;generalize bs[code[j].k]?.getD 0=b at *;have Da:ah (∀w',aa af wr w'->fS prog 84 #[fY #[vP b,vB xd,vB xs,.int .i16 jmp,vJ xn,vJ xh,eR ByteArray.empty,eR xm]] w' λe w2=>e=fW (vI ((if xs=1 then o.bD else 0:Nat):Int))/\aa af w' w2):=λw' m=>kG w' b o (HAT.o w' m) xd xs xn xh jmp _ xm;generalize(if xs=1 then o.bD else 0)=rf at *;go_wp2_with fail;have hbx:=au.new wr #[vP b,vB xd,vB xs,.int .i16 jmp,vJ xn,vJ xh,eR ByteArray.empty,eR xm] 138;have HMx:ah (aa af wr (wr.alloc (fL #[vP b,vB xd,vB xs,.int .i16 jmp,vJ xn,vJ xh,eR ByteArray.empty,eR xm] 138))):=aw;refine(Da.o _ HMx.o).mono ?_;rintro e w5 ⟨rfl,m5⟩;have ji:=aq (hbx.ai m5 id);have jo:=aq (HMx.o.trans m5);clear hbx m5 y0 y1 y2 y3 y4 y5 y6 y7 Da HAT HMx;by_cases h1:rf=1
       ·subst h1;have z0:=(HB0.o.ai (FH.o.trans jo.o) id).c0;have z1:=(HB0.o.ai (FH.o.trans jo.o) id).c1;have z7:=ji.o.c7;go_wp2_with fail;refine(HFX.o _ jo.o).mono ?_;rintro e w6 ⟨rfl,m6⟩;have xW:=aq (jo.o.trans m6);clear m6;by_cases h2:pl=-1
        ·subst h2;have AJ:ah (missP names 0 (ps.map (·.fs))=k):=by rw[ah,Es.o,iP9 (HBF.o (G7.o (by rw[HXD.o];rfl)))]
         have Q8:=aq ((eW.o.trans FH.o).trans xW.o);go_wp2_with fail;go_ret;exact⟨dD AJ.o.symm,Q8.o⟩
        ·have t1:gh (pl=-1)=fj:=by simpa using h2
         have t2:(pl==-1)=fj:=by simpa using h2
         have abR:ah ((code.take (j+1)).any (ER names)=fj):=by rw[ah,adS.o,HXD.o,t1,Bool.and_false]
         have zw:=aq (gG.o.trans xW.o);clear h2;go_wp2_with fail;go_roundg (eJ code-(j+1))
         case measure=>omega
         case rel=>exact⟨j+1,by go_num,zw.o,abR.o,by omega,rfl⟩
       ·have t1:gh ((rf:Int)=1)=fj:=by simp;omega
        have t2:((rf:Int)==1)=fj:=by simp;omega
        have abR:ah ((code.take (j+1)).any (ER names)=fj):=by rw[ah,adS.o,HXD.o,show gh (rf=1)=fj by simpa using h1,Bool.false_and]
        have zw:=aq (gG.o.trans jo.o);clear h1;go_wp2_with fail;go_roundg (eJ code-(j+1))
        case measure=>omega
        case rel=>exact⟨j+1,by go_num,zw.o,abR.o,by omega,rfl⟩
      ·obtain rfl:j=eJ code:=by omega
       have VS:ah ((fs.take (i+1)).any (JW names)=fj):=by have:=HAX.o;rw[cW]at this;rw[ah,afG.o,Me.o,this]
       have zw:=aq (bP.o.trans gG.o);go_wp2_with fail;go_roundg (eJ fs-(i+1))
       case measure=>omega
       case rel=>exact⟨i+1,by go_num,zw.o,VS.o,by omega,rfl⟩
    ·obtain rfl:i=eJ fs:=by omega
     have HNB:ah (Rn names fs=fj):=by have:=HAN.o;rw[cW]at this;exact this
     have Ji:ah (missP names (k+1) ((ps.map (·.fs)).drop (k+1))=missP names 0 (ps.map (·.fs))):=by rw[ah,Es.o,iN9 (by rw[HNB.o];decide)]
     have zw:=aq (kV.o.trans bP.o);go_wp2_with fail;go_roundg (eJ ps-(k+1))
     case measure=>omega
     case rel=>exact⟨k+1,by go_num,zw.o,Ji.o,by omega,rfl⟩
  ·obtain rfl:k=eJ ps:=by omega
   have JU:ah (missP names 0 (ps.map (·.fs))=-1):=by rw[ah,<-VR.o,cw (by simp)];rfl
   have Q8:=aq (eW.o.trans kV.o);go_wp2_with fail;go_ret;exact⟨by rw[JU.o];rfl,Q8.o⟩
structure uX(wT w:tW)(bs:tLN)(vM vF:fa)(ms:List aB)(fs:List bz)(vs:tLV):Prop where
 maps:Sl w 100 4 vM (eJ ms) (ms.flatMap aB.cells)
 len:eJ vs=eJ fs
 rows:Sl w 96 2 vF (eJ fs) (((fs.map (·.name)).zip vs).flatMap nW)
 code:∀i (_:i<eJ fs) (_:i<eJ vs),Sl w 138 8 vs[i] (eJ fs[i].code) (fH bs fs[i].code)
 ne:∀i j (_:i<eJ vs) (_:j<eJ vs),i≠j->∀k,vs[i].ownBlock=eK k->vs[j].ownBlock≠eK k
 own:∀u∈vs,∀k,u.ownBlock=eK k->wT.heap.size<=k
 md:aa af wT w
theorem uX.quiet{wT w w':tW}{bs:tLN}{vM vF:fa}{ms:List aB}{fs:List bz}{vs:tLV}(h:uX wT w bs vM vF ms fs vs)(m:aa af w w'):uX wT w' bs vM vF ms fs vs :=
 ⟨h.maps.ai m (λ_ _=>id),h.len,h.rows.ai m (λ_ _=>id),λi a b=>(h.code i a b).ai m (λ_ _=>id),h.ne,h.own,h.md.trans m⟩
theorem uX.ppr{wT w:tW}{tv:fa}{bs:tLN}{vM vF:fa}{ms:List aB}{fs:List bz}{vs:tLV}(h:uX wT w bs vM vF ms fs vs)(hT:aM 0 wT tv bs az):YB w tv bs vM vF ms fs vs :=
 ⟨h.maps,h.len,h.rows,h.code,hT.ai h.md⟩
theorem VT{w:tW}{g c n:Nat}{bs:tLN}{l:List PI}(h:Sl w 138 8 (eS (eK ⟨g,0,eL⟩) n c) n (fH bs l))(hn:n=eJ l)(k:Nat)(hk:k<eJ l)(z:Int):Sl (w.setCell ⟨g,k*8+4,eL⟩ (vJ z)) 138 8 (eS (eK ⟨g,0,eL⟩) n c) n (fH bs (l.set k {l[k]with num:=z})):=by
 have:=h.setAt (k*8+4) (vJ z) (by omega);unfold fH at *
 rwa [iO (λx:PI=>(x.ins bs).eQ) 8 (λ_=>rfl) l k 4 hk (by omega) (vJ z) {l[k]with num:=z} rfl]at this
theorem uX.num{wT w:tW}{bs:tLN}{vM vF:fa}{ms:List aB}{fs:List bz}{vs:tLV}(h:uX wT w bs vM vF ms fs vs)(i:Nat)(hi:i<eJ fs)(hv:i<eJ vs){g n c:Nat}(he:vs[i]=eS (eK ⟨g,0,eL⟩) n c)(k:Nat)(hk:k<eJ fs[i].code)(z:Int):uX wT (w.setCell ⟨g,k*8+4,eL⟩ (vJ z)) bs vM vF ms (fs.set i ⟨fs[i].name,fs[i].code.set k {fs[i].code[k]with num:=z}⟩) vs:=by
 have m:aa (Only g) w (w.setCell ⟨g,k*8+4,eL⟩ (vJ z)):=ax.bA _ _;have hs:=h.code i hi hv;have hg:vs[i].ownBlock=eK g:=by rw[he];rfl
 have hgT:=h.own vs[i] (al hv) g hg
 have hnm:(fs.set i ⟨fs[i].name,fs[i].code.set k {fs[i].code[k]with num:=z}⟩).map (·.name)=fs.map (·.name):=by
  rw[List.map_set]
  exact List.ext_getElem (by simp) (λj h1 h2=>by
   rw[List.getElem_set];split
   ·rename_i e;subst e;simp
   ·rfl)
 refine⟨h.maps.ai m (λk' hk' e=>hs.apart h.maps (by decide) hg (hk'.trans (congrArg eK e))),by simp[h.len],?_,λj h1 h2=>?_,h.ne,h.own,h.md.step m (λb hb e=>by have:b=g:=e;omega)⟩
 ·rw[hnm,cH];exact h.rows.ai m (λk' hk' e=>hs.apart h.rows (by decide) hg (hk'.trans (congrArg eK e)))
 ·rw[cH]at h1;by_cases e:i=j
  ·subst e;simp only[cY,cH];rw[he]at hs ⊢;have hn:n=eJ fs[i].code:=by obtain⟨o,cp,e1,_⟩:=hs.view;cases e1;rfl
   subst hn;exact VT hs rfl k hk z
  ·simp only[List.getElem_set_ne e];exact(h.code j h1 h2).ai m (λk' hk' e'=>h.ne i j hv h2 e g hg (hk'.trans (congrArg eK e')))
theorem JX{α:Type}(f:α->α)(l:List α)(j:Nat)(h:j<eJ l)(y:α)(hy:y=f l[j]):((l.take j).map f++l.drop j).set j y=(l.take (j+1)).map f++l.drop (j+1):=by
 have e:j=eJ ((l.take j).map f):=by simp;omega
 rw[List.set_append_right _ _ (by rw[<-e];exact cJ _),<-e,Nat.sub_self,ao h,List.set_cons_zero,cj,cG,ar];simp[h,hy]
def ET(mn fn:List tBA)(fs:List bz)(i:Nat):List bz:=(fs.take i).map (bz.linked mn fn)++fs.drop i
def pE(mn fn:List tBA)(code:List PI)(j:Nat):List PI:=(code.take j).map (PI.linked mn fn)++code.drop j
theorem uY(mn fn:List tBA)(code:List PI)(j:Nat)(h:j<=eJ code):eJ (pE mn fn code j)=eJ code:=by simp[pE];omega
theorem Ha(mn fn:List tBA)(code:List PI)(j:Nat)(h:j<eJ code):(pE mn fn code j)[j]'(by rw[uY _ _ _ _ (by omega)];exact h)=code[j]:=by unfold pE;rw[cN (by simp;omega)];simp[Nat.min_eq_left (Nat.le_of_lt h)]
theorem JY(mn fn:List tBA)(code:List PI)(j:Nat)(h:j<eJ code):(pE mn fn code j).set j (PI.linked mn fn code[j])=pE mn fn code (j+1):=JX _ code j h _ rfl
theorem VU(mn fn:List tBA)(code:List PI):pE mn fn code (eJ code)=code.map (PI.linked mn fn):=by simp[pE]
theorem Cj(mn fn:List tBA)(fs:List bz)(i:Nat)(h:i<=eJ fs):eJ (ET mn fn fs i)=eJ fs:=by simp[ET];omega
theorem VV(mn fn:List tBA)(fs:List bz)(i:Nat)(h:i<eJ fs):(ET mn fn fs i)[i]'(by rw[Cj _ _ _ _ (by omega)];exact h)=fs[i]:=by unfold ET;rw[cN (by simp;omega)];simp[Nat.min_eq_left (Nat.le_of_lt h)]
theorem aad(mn fn:List tBA)(fs:List bz)(i:Nat)(h:i<eJ fs):(ET mn fn fs i).set i (bz.linked mn fn fs[i])=ET mn fn fs (i+1):=JX _ fs i h _ rfl
theorem aae(mn fn:List tBA)(fs:List bz):ET mn fn fs (eJ fs)=fs.map (bz.linked mn fn):=by simp[ET]
def ib(fs:List bz)(i:Nat):bz:=fs[i]?.getD ⟨[],[]⟩
theorem Hd(fs:List bz)(i:Nat)(h:i<eJ fs):ib fs i=fs[i]:=by simp[ib,h]
def gY(mn fn:List tBA)(fs:List bz)(i j:Nat):List bz:=(ET mn fn fs i).set i ⟨(ib fs i).name,pE mn fn (ib fs i).code j⟩
theorem DF(mn fn:List tBA)(fs:List bz)(i j:Nat)(h:i<=eJ fs):eJ (gY mn fn fs i j)=eJ fs:=by rw[gY,cH,Cj _ _ _ _ h]
theorem JZ(mn fn:List tBA)(fs:List bz)(i j:Nat)(_h:i<eJ fs)(h2:i<eJ (gY mn fn fs i j)):(gY mn fn fs i j)[i]=⟨(ib fs i).name,pE mn fn (ib fs i).code j⟩:=by simp only[gY,cY]
theorem Rq(mn fn:List tBA)(fs:List bz)(i:Nat)(h:i<eJ fs):gY mn fn fs i 0=ET mn fn fs i:=by
 have e:(⟨(ib fs i).name,pE mn fn (ib fs i).code 0⟩:bz)=(ET mn fn fs i)[i]'(by rw[Cj _ _ _ _ (by omega)];exact h):=by rw[VV _ _ _ _ h,Hd _ _ h];simp[pE]
 rw[gY,e,cy]
theorem VW(mn fn:List tBA)(fs:List bz)(i:Nat)(h:i<eJ fs):gY mn fn fs i (eJ (ib fs i).code)=ET mn fn fs (i+1):=by rw[gY,VU,Hd _ _ h,<-aad _ _ _ _ h];rfl
theorem Rs(mn fn:List tBA)(fs:List bz)(i:Nat):(ET mn fn fs i).map (·.name)=fs.map (·.name):=by unfold ET;rw[cG,List.map_map];have:((λx:bz=>x.name)∘bz.linked mn fn)=(λx=>x.name):=rfl;rw[this,<-cG,List.take_append_drop]
theorem Mw(mn fn:List tBA)(fs:List bz)(i j:Nat)(h:i<eJ fs):(gY mn fn fs i j).map (·.name)=fs.map (·.name):=by
 rw[gY,List.map_set,Rs];have e:(ib fs i).name=(fs.map (·.name))[i]'(by simpa using h):=by rw[Hd _ _ h,cx]
 rw[e,cy]
theorem uX.VX{wT w:tW}{bs:tLN}{vM vF:fa}{ms:List aB}{mn fn:List tBA}{fs:List bz}{vs:tLV}{i j:Nat}(h:uX wT w bs vM vF ms (gY mn fn fs i j) vs)(hi:i<eJ fs)(hv:i<eJ vs){g n c:Nat}(he:vs[i]=eS (eK ⟨g,0,eL⟩) n c)(hj:j<eJ (ib fs i).code) (z:Int) (hz:EO mn fn (ib fs i).code[j]=z):uX wT (w.setCell ⟨g,j*8+4,eL⟩ (vJ z)) bs vM vF ms (gY mn fn fs i (j+1)) vs:=by
 have hi2:i<eJ (gY mn fn fs i j):=by rw[DF _ _ _ _ _ (by omega)];exact hi
 have hg:=JZ mn fn fs i j hi hi2;have hj2:j<eJ (gY mn fn fs i j)[i].code:=by rw[hg];show j<eJ (pE mn fn (ib fs i).code j);rw[uY _ _ _ _ (by omega)];exact hj
 have key:=h.num i hi2 hv he j hj2 z
 have e:(gY mn fn fs i j).set i ⟨(gY mn fn fs i j)[i].name,(gY mn fn fs i j)[i].code.set j {(gY mn fn fs i j)[i].code[j]with num:=z}⟩=gY mn fn fs i (j+1):=by
  have e2:(⟨(gY mn fn fs i j)[i].name,(gY mn fn fs i j)[i].code.set j {(gY mn fn fs i j)[i].code[j]with num:=z}⟩:bz)=⟨(ib fs i).name,pE mn fn (ib fs i).code (j+1)⟩:=by
   have e3:(gY mn fn fs i j)[i].code[j]=(ib fs i).code[j]:=by
    have:∀(l:List PI) (hl:j<eJ l),l=pE mn fn (ib fs i).code j->l[j]=(ib fs i).code[j]:=λl hl e=>by subst e;exact Ha mn fn _ j hj
    exact this _ hj2 (by rw[hg])
   rw[e3];have e4:({(ib fs i).code[j]with num:=z}:PI)=PI.linked mn fn (ib fs i).code[j]:=by unfold PI.linked;rw[hz]
   rw[e4,hg];exact congrArg (bz.mk _) (JY mn fn _ j hj)
  rw[e2];unfold gY;rw[List.set_set]
 rwa [e]at key
theorem Rt(mn fn:List tBA)(fs:List bz)(i j:Nat)(hj:j<eJ (ib fs i).code)(hz:EO mn fn (ib fs i).code[j]=(ib fs i).code[j].num):gY mn fn fs i (j+1)=gY mn fn fs i j:=by
 have e4:PI.linked mn fn (ib fs i).code[j]=(pE mn fn (ib fs i).code j)[j]'(by rw[uY _ _ _ _ (by omega)];exact hj):=by rw[Ha mn fn _ j hj];unfold PI.linked;rw[hz]
 unfold gY;rw[<-JY mn fn _ j hj,e4,cy]
theorem uX.codeL{wT w:tW}{bs:tLN}{vM vF:fa}{ms:List aB}{mn fn:List tBA}{fs:List bz}{vs:tLV}{i j:Nat}(h:uX wT w bs vM vF ms (gY mn fn fs i j) vs)(hi:i<eJ fs)(hv:i<eJ vs)(hj:j<=eJ (ib fs i).code):Sl w 138 8 vs[i] (eJ (ib fs i).code) (fH bs (pE mn fn (ib fs i).code j)):=by
 have hi2:i<eJ (gY mn fn fs i j):=by rw[DF _ _ _ _ _ (by omega)];exact hi
 have:=h.code i hi2 hv;rw[JZ mn fn fs i j hi hi2]at this;have e:eJ (⟨(ib fs i).name,pE mn fn (ib fs i).code j⟩:bz).code=eJ (ib fs i).code:=uY mn fn _ j hj;rw[e]at this;exact this
theorem uX.slices{wT w:tW}{bs:tLN}{vM vF:fa}{ms:List aB}{fs:List bz}{vs:tLV}(h:uX wT w bs vM vF ms fs vs):∀x∈(fs.map (·.name)).zip vs,∃o n c,x.2=eS o n c:=by intro x hx;obtain⟨i,hi,rfl⟩:=cI hx;rw[cD,b5]at hi;obtain⟨o,c,e,_⟩:=(h.code i (by omega) (by omega)).view;rw[cP];exact⟨o,_,c,e⟩
theorem FO{vs:tLV}(names:List tLB)(h:eJ vs=eJ names):(names.zip vs).map (λx=>T x.1)=names.map T:=by rw[show(λx:tLB×fa=>T x.1)=T∘Prod.fst from rfl,<-List.map_map,List.map_fst_zip (by omega)]
theorem uX.afH{wT w:tW}{bs:tLN}{vM vF:fa}{ms:List aB}{fs:List bz}{vs:tLV}(h:uX wT w bs vM vF ms fs vs)(hl:eJ fs<=1000)(nm:tBA):fS prog 85 #[fY #[vM,vF],eR nm] w λe w'=>e=fW (vI (placeM nm ((fs.map (·.name)).map T)))/\aa af w w':=by
 obtain⟨oM,cM,hM,_⟩:=h.maps.view;have hz:eJ ((fs.map (·.name)).zip vs)=eJ fs:=by rw[cD,b5,h.len,Nat.min_self]
 have:=JS w nm ((fs.map (·.name)).zip vs) h.slices vM vF oM (eJ ms) cM hM (by rw[hz];exact h.rows) (by rw[hz];exact hl)
 rwa [FO _ (by rw[b5];exact h.len)]at this
theorem uX.dI{wT w:tW}{bs:tLN}{vM vF:fa}{ms:List aB}{fs:List bz}{vs:tLV}(h:uX wT w bs vM vF ms fs vs)(hl:eJ ms<=1000)(nm:tBA):fS prog 86 #[fY #[vM,vF],eR nm] w λe w'=>e=fW (vI (placeM nm (ms.map (λx=>T x.name))))/\aa af w w':=by obtain⟨oF,cF,hF,_⟩:=h.rows.view;exact VO w nm ms vM vF oF _ cF hF h.maps hl
theorem DH{w:tW}{bs:tLN}{mn fn:List tBA}{code:List PI}{v:fa}{j:Nat}(h:Sl w 138 8 v (eJ code) (fH bs (pE mn fn code j))){o:Option kh}{c:Nat}(hv:v=eS o (eJ code) c)(hj:j<eJ code):∃g,o=eK ⟨g,0,eL⟩/\w.cell? ⟨g,j*8,eL⟩=eK (vP (bs[code[j].k]?.getD 0))/\w.cell? ⟨g,j*8+1,eL⟩=eK (vB code[j].d)/\w.cell? ⟨g,j*8+2,eL⟩=eK (vB code[j].s) /\ w.cell? ⟨g,j*8+3,eL⟩=eK (.int .i16 code[j].jump)/\w.cell? ⟨g,j*8+4,eL⟩=eK (vJ code[j].num)/\w.cell? ⟨g,j*8+5,eL⟩=eK (vJ code[j].high)/\w.cell? ⟨g,j*8+6,eL⟩=eK (eR ByteArray.empty)/\w.cell? ⟨g,j*8+7,eL⟩=eK (eR (T code[j].name))/\w.frozen? ⟨g,j*8+4,eL⟩=fj:=by
 have hlen:=uY mn fn code j (by omega);have hj2:j<eJ (pE mn fn code j):=by omega
 obtain⟨g,rfl,hg,y0,y1,y2,y3,y4,y5,y6,y7⟩:=l9 h hlen.symm hv j hj2;have e:(pE mn fn code j)[j]=code[j]:=Ha mn fn code j hj;rw[e]at y0 y1 y2 y3 y4 y5 y7;obtain⟨o',c',hv',h2⟩:=h.view;rw[hv]at hv';cases hv';obtain⟨g',cs,e2,hb,_⟩:=h2 (by omega);cases e2;exact⟨g,rfl,y0,y1,y2,y3,y4,y5,y6,y7,hb.frozen _⟩
