import Derived.Test.YthnphhgpfedeeaaGreatDoorCK50
import Derived.Test.YthnphhgpfedeeaaGreatDoorCK42
import Derived.Lib.Overlaps
namespace Go.Proofs.YthnphhgpfedeeaaGreatDoor
open Go.RowKit Tryz
open _root_.Array renaming length_toList->ar
open Bool renaming and_eq_true->al,true->fR,false->fj
open Lib renaming compareBytes->ab
open List renaming length_take->ao,length_drop->ba,length_append->bh,replicate->b5,drop_succ_cons->b9,size_toArray->cj,not_mem_nil->cx,take_drop->cy,mem_of_mem_drop->cG,mem_cons->cH,getElem_of_mem->cI,take_succ_cons->cJ,mem_singleton->cN,getElem_mem->cW,map_toArray->cY,length->eJ
open Nat renaming le_refl->bj,not_lt_zero->bt,le_trans->cq,le_of_lt->cw,add_sub_add_right->cD,zero_le->cP
open Decidable renaming decide->gh
open Ending renaming returned->fW
open Obj renaming cells->fL
open Option renaming some->eK,none->eL
open Value renaming string->eR,slice->eS,agg->fY,tuple->jl,bool->fX
open _root_.Go renaming Value->fa,undef->kO,Addr->kh,Calls->fS,leaves_cons->wq,results_cell_row->mL,bodyPost_ret->kx,maxLen->jz,info_parts->oY,typeInfo->rm,TypeId->ju,run_underlying->pB,Oper->iz,wpList->n9,wpList_plain->pP,wpQuiet_nil->mS
set_option linter.all false
set_option maxRecDepth 100000
set_option maxHeartbeats 2000000
def kM(r:Hw)(vL:fa):tAV:=#[vI r.trap,eR (T r.fn),vI r.slot,vU r.r0,eR (strOf r.inp),vL,vI r.used]
def lu:tAV:=#[vI 0,eR ⟨#[]⟩,vI 0,vU 0,eR ⟨#[]⟩,vN,vI 0]
section
variable {c0 c1 : fa} {wT : World} {tv : fa} {bs : List Nat} {mp : Nat} {vF : fa} {fs : List bz} {cg : List Nat} {a : Ad} {gs : List (List Nat)} {ms : List iK} {w w' : World} {F : Nat -> Prop}
theorem dB.fresh(h:dB c0 c1 wT tv bs mp vF fs cg a gs ms w)(k:Nat)(hk:w.heap.size<=k):wT.heap.size<=k/\¬Whole mp vF cg a k:=by
 obtain⟨l1,l2,l3⟩:=h.Xn;refine⟨cq h.md.size hk,λhw=>?_⟩;rcases hw with rfl|hw|hw|hw|hw
 ·omega
 ·have:=h.OK hw;omega
 ·have:=l2 k hw;omega
 ·have:=l3 k hw;omega
 ·have:=h.maps.uW.lt k hw;omega
theorem pH.aer{rb:tLN}{vs:tLV}(h:pH w rb vs gs):(∀x∈rb,x<w.heap.size)/\∀v∈vs,∀k,v.ownBlock=eK k->k<w.heap.size:=by
 refine⟨λx hx=>?_,λv hv k hk=>?_⟩
 ·obtain⟨i,hi,rfl⟩:=qw 0 hx;exact(h.blk i (by rw[<-h.lr];exact hi)).lt
 ·obtain⟨i,hi,rfl⟩:=qw kO hv;exact(h.sl i (by rw[<-h.lv];exact hi)).lt k hk
theorem aaB(fs:List bz)(d:Nat×aX)(h:d.1=0)(vL:fa):#[vI 0,eR ByteArray.empty,vI 0,vU d.2.r.r0,eR (strOf (d.2.gs.getD d.2.r.inp [])),vL,vI d.2.r.used]=kM (r9 fs d) vL:=by unfold r9;rw[iP9 h];rfl
theorem SF(fs:List bz)(d:Nat×aX)(h:d.1≠0)(vL:fa):#[vI d.1,eR (T (jM fs d.2.r.top.fn).name),vI d.2.r.top.slot,vU d.2.r.r0,eR (strOf (d.2.gs.getD d.2.r.inp [])),vL,vI d.2.r.used]=kM (r9 fs d) vL:=by unfold r9;rw[iN9 h];rfl
theorem Xp(fs:List bz)(d:Nat×aX):(r9 fs d).log=d.2.r.log:=by unfold r9;split<;>rfl
theorem KH(r:Hw)(o:Option kh)(n c:Nat):(kM r (eS o n c)).all (·.oneCell')=fR:=by unfold kM;simp[Value.oneCell']
theorem Xq(h:dB c0 c1 wT tv bs mp vF fs cg a gs ms w)(m:aa af w w'){fn:Nat}{inp:tBA}{fuel:Int}{b R S:Nat}{v1 v2 vC:fa}(hr:aI w' b (a.rb++[R]++[S]) a.mb a.vM vC (vN) (Ea fn (min (max fuel 0) 5000).toNat (eJ gs) (gN inp).size))(hg:pH w' (a.rb++[R]++[S]) (a.vs++[v1]++[v2]) (gs++[fw (gN inp)]++[bS]))(hF:∀k,jf a k->F k)(hb:F b)(hR:F R)(hS:F S)(h1:∀k,v1.ownBlock=eK k->F k)(h2:∀k,v2.ownBlock=eK k->F k)(hC:∀k,vC.ownBlock=eK k->F k):dX F w' b ⟨a.rb++[R]++[S],a.mb,a.vs++[v1]++[v2],a.ve,a.vM,vC,vN⟩ (pK gs ms fn inp fuel):=by
 have hin:∀m∈ms,m.In (eJ a.rb):=λm hm e he=>by rw[h.kL.lr];exact((h.mok m hm).er e he).1
 refine⟨hr,hg,Sl.nil _ _ _,?_,hb,hC,λk hk=>(by cases hk),?_,?_,λx hx=>hF x (.inr (.inr (.inl hx))),λv hv k hk=>hF k (.inr (.inr (.inr ⟨v,hv,hk⟩)))⟩
 ·exact((h.maps.quiet m).grow R hin).grow S (λm hm e he=>by rw[bh];have:=hin m hm e he;omega)
 ·intro x hx;simp only[List.mem_append,cN]at hx;rcases hx with(hx|rfl)|rfl
  ·exact hF x (.inl hx)
  ·exact hR
  ·exact hS
 ·intro v hv k hk;simp only[List.mem_append,cN]at hv;rcases hv with(hv|rfl)|rfl
  ·exact hF k (.inr (.inl ⟨v,hv,hk⟩))
  ·exact h1 k hk
  ·exact h2 k hk
theorem aaC(h:dB c0 c1 wT tv bs mp vF fs cg a gs ms w)(hF:∀k,F k->jf a k\/w.heap.size<=k)(m:aa F w w'){b:Nat}{a':Ad}{s:aX}(hs:dX F w' b a' s)(ho:bT (eJ fs) s)(ev:a'.vM=a.vM):dB c0 c1 wT tv bs mp vF fs cg a' s.gs s.ms w'/\∀k,jf a' k->F k:=by
 have hc:=h.cd hF
 have hf:∀k,jf a' k->F k:=λk hk=>by
  rcases hk with hk |⟨v,hv,hk⟩|hk |⟨v,hv,hk⟩
  ·exact hs.fr k hk
  ·exact hs.fv v hv k hk
  ·exact hs.fm k hk
  ·exact hs.fe v hv k hk
 have hc':=hc.ai m;refine⟨⟨by rw[ev];exact h.blk.ai m hc.nM,hc'.lf,hc'.wY,hc'.code,hc'.tab,hc'.md,hs.kL,hs.maps,ho.gs,ho.maps,?_,λk hk=>hc.base k (hf k hk),h.OJ⟩,hf⟩;have:=ho.own;unfold Ca at this;exact(List.nodup_append.1 (List.nodup_cons.1 this).2).2.1
end
def Ib(c1:fa)(wT:tW)(tv:fa)(bs:tLN)(mp:Nat)(vF:fa)(fs:List bz)(cg:tLN)(a:Ad)(w:tW)(d:Hw×List tLN×List iK)(e:Ending)(w':tW):Prop :=
 ∃vL a',e=fW (fY (kM d.1 vL))/\Sl w' 22 1 vL (eJ d.1.log) (WL d.1.log)/\dB (vJ 0) c1 wT tv bs mp vF fs cg a' d.2.1 d.2.2 w'/\a'.mb=a.mb/\a'.vM=a.vM/\(∀k,jf a' k->jf a k\/w.heap.size<=k)/\aa (λk=>k=mp\/jf a k) w w'
theorem Xr{c1:fa}{wT:tW}{tv:fa}{bs:tLN}{mp:Nat}{vF:fa}{fs:List bz}{cg:tLN}{a:Ad}{gs:List tLN}{ms:List iK}{w:tW}(h:dB (vJ 0) c1 wT tv bs mp vF fs cg a gs ms w)(hco:lK fs (eJ ms))(hH:∀F b,Eg F b fs)(hK:oW fs)(hn:eJ fs<=1000)(nm:tLB)(inp:tBA)(hs:inp.size<=9223372036854775807)(fuel:Int)(hf:-9223372036854775808<=fuel/\fuel<=9223372036854775807):fS prog 20 #[pt mp,eR (T nm),eR inp,vI fuel] w λe w'=>Ib c1 wT tv bs mp vF fs cg a w (pM fs gs ms nm inp fuel) e w':=by
 have hmf:∀(fn:Fn) (first cap:tAV) (w:tW),(Instr.makeFunc fn first cap).run prog w=.ok (.func fn first cap) w:=λ_ _ _ _=>rfl;have HH:=aq h;have TA:=aq h.blk.lt;have HFR:=aq h.fresh;clear h;have bU:ah (aa af w (((w.alloc (fL #[pt mp] 56)).alloc (fL #[eR (T nm)] 9)).alloc (fL lu 34))):=(((aa.refl af w).alloc _).alloc _).alloc _;have iH:ah (au (((w.alloc (fL #[pt mp] 56)).alloc (fL #[eR (T nm)] 9)).alloc (fL lu 34)) w.heap.size #[pt mp] 56):=(au.new w _ _).ai (((aa.refl af _).alloc _).alloc _) id;have ji:ah (au (((w.alloc (fL #[pt mp] 56)).alloc (fL #[eR (T nm)] 9)).alloc (fL lu 34)) (w.heap.size+1) #[eR (T nm)] 9):=by have:=(au.new (w.alloc (fL #[pt mp] 56)) #[eR (T nm)] 9).ai ((aa.refl af _).alloc (fL lu 34)) id;rw[World.size_alloc]at this;exact this
 have Vu:ah (au (((w.alloc (fL #[pt mp] 56)).alloc (fL #[eR (T nm)] 9)).alloc (fL lu 34)) (w.heap.size+1+1) lu 34):=by have:=au.new ((w.alloc (fL #[pt mp] 56)).alloc (fL #[eR (T nm)] 9)) lu 34;rw[World.size_alloc,World.size_alloc]at this;exact this
 go_enter_defers func20,ntmps20;go_upto_region 1 with fail;have hz:w.heap.size+1+1=w.heap.size+2:=rfl;have HZR:ah (lu=#[vI 0,eR ⟨#[]⟩,vI 0,vU 0,eR ⟨#[]⟩,vN,vI 0]):=rfl;rw[<-HZR.o];generalize((w.alloc (fL #[pt mp] 56)).alloc (fL #[eR (T nm)] 9)).alloc (fL lu 34)=W1 at *;have aaD:=aq (HH.o.quiet bU.o);obtain⟨oF,cF,kC,_⟩:=HH.o.wY.view;obtain⟨oM,cM,wE,_⟩:=HH.o.maps.uW.view;subst kC;have HVM:=aq wE;clear wE hz;have HG8:ah (w.heap.size<w.heap.size+1+1):=by unfold ah;omega
 have HG5:ah (w.heap.size<w.heap.size+1):=by unfold ah;omega
 have HG4:ah (w.heap.size<=w.heap.size):=bj _;have af5:ah (w.heap.size+1+1≠w.heap.size+1):=by unfold ah;omega
 generalize w.heap.size+1+1=g8 at *;generalize w.heap.size+1=g5 at *;have x4:=iH.o.cell 0;have LM:=aq (Go.MuLone.lock_free KC ⟨mp,0,eL⟩ W1 (aaD.o.blk.cell 0) (aaD.o.blk.frozen 0));go_upto_region 1 with fail;go_wp2_with fail;refine LM.o.mono ?_;rintro e w2 ⟨rfl,rfl⟩;clear x4 LM;have EX:ah (dB (vJ 1) c1 wT tv bs mp (eS oF (eJ fs) cF) fs cg a gs ms (W1.setCell ⟨mp,0,eL⟩ (vJ 1))):=aaD.o.turn _;have bP:ah (aa (λk=>k=mp\/jf a k) w (W1.setCell ⟨mp,0,eL⟩ (vJ 1))):=(bU.o.mono (λ_ _ h=>h.elim)).trans (((aa.refl (Only mp) W1).bA 0 _).mono (λ_ _ h=>.inl h));have acw:ah (au (W1.setCell ⟨mp,0,eL⟩ (vJ 1)) w.heap.size #[pt mp] 56):=iH.o.setOther (a:=⟨mp,0,eL⟩) (by have:=TA.o;simp only;omega) _;have aes:ah (au (W1.setCell ⟨mp,0,eL⟩ (vJ 1)) g5 #[eR (T nm)] 9):=ji.o.setOther (a:=⟨mp,0,eL⟩) (by have:=TA.o;have:=HG5.o;simp only;omega) _;have aet:ah (au (W1.setCell ⟨mp,0,eL⟩ (vJ 1)) g8 lu 34):=Vu.o.setOther (a:=⟨mp,0,eL⟩) (by have:=TA.o;have:=HG8.o;simp only;omega) _;clear aaD bU iH ji Vu;generalize W1.setCell ⟨mp,0,eL⟩ (vJ 1)=W2 at *;have x4:=acw.o.cell 0;have y2:=EX.o.blk.c2;have HIX:=aq (Nt W2 fs cg _ EX.o.lf hn EX.o.wY g5 nm aes.o);go_upto_region 3 with fail;go_wp2_with fail;refine HIX.o.mono ?_;rintro e w3 ⟨rfl,m3⟩;clear x4 y2 HIX;have EY:=aq (EX.o.quiet m3);have dF:=aq (bP.o.trans (m3.mono (λ_ _ h=>h.elim)));have aaE:=aq (acw.o.ai m3 id);have aaF:=aq (aet.o.ai m3 id);clear m3 EX bP acw aes aet;cases hix:xK fs nm with
 |none =>
  have HI:ah (Ia fs nm=-1):=by unfold ah Ia;rw[hix]
  have PH:ah (pM fs gs ms nm inp fuel=({},gs,ms)):=by unfold ah pM;rw[hix]
  rw[HI.o];have HZ1:ah (lu.all (·.oneCell')=fR):=by unfold ah lu;simp[Value.oneCell']
  clear HI HH hix af5 HVM;go_upto_region 5 with fail;go_wp2_with (rw[<-HZR.o];refine eP rfl 34 (.tmp 8) (.tmp 26) rfl g8 lu rfl rfl 34 _ aaF.o (by kernel_rfl) rfl HZ1.o ?_;intro W4 hB4 Ur);have iH:=aq hB4;have acx:=aq (EY.o.ai Ur (λk hk=>by rw[show k=g8 from hk];exact HFR.o g8 (cw HG8.o)));have gG:=aq (dF.o.step Ur (λk hk e=>by have h1:k=g8:=e;have:=HG8.o;omega));refine wq (f:=27) (args:=#[vP mp]) (by simp) (by simp[go_sem]) ?_;refine(Go.MuLone.unlock_deferred KC ⟨mp,0,eL⟩ .returning W4 (acx.o.blk.cell 0) (acx.o.blk.frozen 0)).mono ?_;rintro e u' w5 ⟨rfl,rfl,rfl⟩;have ji:ah (au (W4.setCell ⟨mp,0,eL⟩ (vJ 0)) g8 lu 34):=iH.o.setOther (a:=⟨mp,0,eL⟩) (by have:=TA.o;have:=HG8.o;simp only;omega) _;refine⟨_,mL results20 _ _ g8 34 _ (0,0) _ rfl ji.o underlying34 rfl (by kernel_rfl),?_⟩;rw[PH.o];exact⟨vN,a,rfl,Sl.nil _ _ _,acx.o.turn _,rfl,rfl,λk hk=>.inl hk,gG.o.trans (((aa.refl (Only mp) W4).bA 0 _).mono (λ_ _ h=>.inl h))⟩
 |some fn =>
  have HI:ah (Ia fs nm=(fn:Int)):=by unfold ah Ia;rw[hix]
  have PH:ah (pM fs gs ms nm inp fuel=(r9 fs (EW fs gs ms fn inp fuel),(EW fs gs ms fn inp fuel).2.gs,(EW fs gs ms fn inp fuel).2.ms)):=by unfold ah pM;rw[hix]
  have hfn:=Xm hix;rw[HI.o];clear HI hix HH HZR;have x4:=aaE.o.cell 0;have y3:w3.cell? ⟨mp,3,eL⟩=eK (eS oM (eJ ms) cM):=by rw[<-HVM.o];exact EY.o.blk.cell 3
  have HST:=aq (Sg w3 a.rb a.mb a.vs gs EY.o.kL oM (eJ ms) cM fn inp hs fuel hf);have Mv:=aq hfn;go_upto_region 6 with fail;go_wp2_with fail;refine HST.o.mono ?_;rintro e w4 ⟨b,R,S,v1,v2,vC,rfl,hr4,hg4,m4,lb,lC,lR,lS,l1,l2⟩;clear x4 y3 HST;have aaG:ah (au (w4.alloc (fL #[vP b] 77)) w4.heap.size #[pt b] 77):=au.new w4 _ _;have m5:aa af w4 (w4.alloc (fL #[vP b] 77)):=(aa.refl af w4).alloc _;have jo:=aq m5;have af6:=aq aaG.o.lt;have Ai:=aq hr4;have acy:=aq hg4;have acz:=aq m4;have ZD:ah (w3.heap.size<=b/\(∀k,vC.ownBlock=eK k->w3.heap.size<=k)/\w3.heap.size<=R/\w3.heap.size<=S/\(∀k,v1.ownBlock=eK k->w3.heap.size<=k)/\(∀k,v2.ownBlock=eK k->w3.heap.size<=k)):=⟨lb,lC,lR,lS,l1,l2⟩
  clear m5 hr4 hg4 m4 lb lC lR lS l1 l2;go_upto_region 7 with fail;generalize w4.alloc (fL #[vP b] 77)=W5 at *;have HW3:=aq aaE.o.lt;have HW8:=aq aaF.o.lt;have Ev:=aq acz.o.size;obtain⟨F,hF⟩:∃F:Nat->Prop,F=λk=>jf a k\/(w3.heap.size<=k/\k≠w4.heap.size):=⟨_,rfl⟩
  have HF:ah (∀k,F k↔jf a k\/(w3.heap.size<=k/\k≠w4.heap.size)):=λk=>by rw[hF]
  clear hF;have HFF:ah (∀k,F k->jf a k\/w3.heap.size<=k):=λk hk=>((HF.o k).1 hk).elim .inl (λh=>.inr h.1);have qJ:ah (∀k,w.heap.size<=k->¬jf a k):=λk hk h=>(HFR.o k hk).2 (.inr (.inl h))
  have BB:ah (¬F w.heap.size/\¬F g8/\¬F w4.heap.size):=by
   have h1:=HW3.o;have h2:=HW8.o;have h3:=HG8.o;have h4:=Ev.o;refine⟨λh=>?_,λh=>?_,λh=>?_⟩
   ·exact((HF.o _).1 h).elim (qJ.o _ (bj _)) (λe=>by omega)
   ·exact((HF.o _).1 h).elim (qJ.o _ (cw h3)) (λe=>by omega)
   ·exact((HF.o _).1 h).elim (qJ.o _ (by omega)) (λe=>e.2 rfl)
  have HMQ:=aq (acz.o.trans jo.o);have IB:ah (dX F W5 b ⟨a.rb++[R]++[S],a.mb,a.vs++[v1]++[v2],a.ve,a.vM,vC,vN⟩ (pK gs ms fn inp fuel)):=by obtain⟨lb,lC,lR,lS,l1,l2⟩:=ZD.o;obtain⟨q1,q2⟩:=acy.o.aer;have up:=λk (h1:w3.heap.size<=k) (h2:k<w4.heap.size)=>(HF.o k).2 (.inr ⟨h1,by omega⟩);have hr:=Ai.o.quiet jo.o;rw[<-HVM.o]at hr;exact Xq EY.o HMQ.o hr (acy.o.quiet jo.o) (λk hk=>(HF.o k).2 (.inl hk)) (up b lb Ai.o.blk.lt) (up R lR (q1 R (by simp))) (up S lS (q1 S (by simp))) (λk hk=>up k (l1 k hk) (q2 v1 (by simp) k hk)) (λk hk=>up k (l2 k hk) (q2 v2 (by simp) k hk)) (λk hk=>up k (lC k hk) (Ai.o.calls.lt k hk))
  have tN:=Xk Mv.o EY.o.gok EY.o.mok EY.o.own inp fuel;have hsp:=Xl hco Mv.o gs ms inp fuel;have acA:=aq ((EY.o.cd HFF.o).quiet HMQ.o)
  have HFO:ah (fS prog 33 #[pt mp,pt b] W5 λe w'=>bJ F W5 b ⟨a.rb++[R]++[S],a.mb,a.vs++[v1]++[v2],a.ve,a.vM,vC,vN⟩ (EW fs gs ms fn inp fuel) e w') :=
   Np W5 b _ (pK gs ms fn inp fuel) fs IB.o tN (.inr hsp) (λk hk=>(HF.o k).2 (.inr (by have:=Ev.o;have:=af6.o;omega))) (cP _) (by show Kw fuel<=5000;unfold Kw;omega) hco wT tv bs mp _ cg acA.o (hH F b) hK
  have xx:ah (bT (eJ fs) (EW fs gs ms fn inp fuel).2):=(F9 hco hK _ _ tN rfl (.inr hsp)).1;have acB:=aq (aaE.o.ai HMQ.o id);have aeu:=aq (aaF.o.ai HMQ.o id);clear IB tN hsp aaE aaF Ai acy ZD acz jo hco hH hK hs hf hn;generalize EW fs gs ms fn inp fuel=d at *;generalize w4.heap.size=g10 at *;have x4:=acB.o.cell 0;have x10:=aaG.o.cell 0;go_upto_region 8 with fail;go_wp2_with fail;refine HFO.o.mono ?_;rintro e w6 ⟨he6,m6,a6,hS6,em6,ev6⟩;clear x4 x10 HFO;have acC:=aq ((HMQ.o.mono (λ_ _ h=>h.elim)).trans m6);obtain⟨aev,hFt⟩:=aaC EY.o HFF.o acC.o hS6 xx.o ev6;have KJ:=aq aev;have HFT:=aq (λk hk=>(HFF.o k (hFt k hk)).imp id (λh=>cq (cw HW3.o) h));have xW:=aq (dF.o.trans (acC.o.mono (λk hlt hk=>(HFF.o k hk).elim .inr (λh=>absurd hlt (Nat.not_lt.2 h)))));have aew:=aq (acA.o.ai m6);have aex:=aq (acB.o.ai m6 BB.o.1);have aaH:=aq (aeu.o.ai m6 BB.o.2.1);have Xt:=aq (aaG.o.ai m6 BB.o.2.2);have NR:=aq hS6;have HE6:ah (a6.mb=a.mb/\a6.vM=a.vM):=⟨em6,ev6⟩
  clear aev hFt m6 hS6 em6 ev6 acA acB aeu aaG dF acC EY HMQ HFF BB qJ;obtain⟨oL,cL,MH,_⟩:=NR.o.log.view;have QP:ah ((kM (r9 fs d) a6.vL).all (·.oneCell')=fR):=by unfold ah;rw[MH];exact KH _ _ _ _
  have TH:ah ((kM (r9 fs d) a6.vL).size=7):=rfl;have HLG:ah (Sl w6 22 1 a6.vL (eJ (r9 fs d).log) (WL (r9 fs d).log)):=by unfold ah;rw[Xp];exact NR.o.log
  have nu:ah (∀W (tm:tAV),tm.getD 8 kO=pt g8->aa (Only g8) w6 W->au W g8 (kM (r9 fs d) a6.vL) 34->Leaves prog f20 tm (λe w'=>Ib c1 wT tv bs mp (eS oF (eJ fs) cF) fs cg a w (pM fs gs ms nm inp fuel) e w') [{target:=.fn (.func 27) #[],args:=#[vP mp]}] .returning W):=λW tm htm m7 hB7=>by
   have acD:=KJ.o.ai m7 (λk hk=>by
    have e:k=g8:=hk;subst e;refine⟨(HFR.o k (cw HG8.o)).1,λhw=>?_⟩;have ht:=aaH.o.ty;rcases hw with rfl|hw|hw|hw|hw
    ·have:=TA.o;have:=HG8.o;omega
    ·exact KJ.o.zN ht (by decide) hw
    ·exact absurd (ht.one (KJ.o.wY.ty hw)) (by decide)
    ·obtain⟨i,hi,rfl⟩:=cI hw;exact absurd (ht.one (KJ.o.code i (by rw[<-KJ.o.lf];exact hi) hi).ty) (by decide)
    ·exact absurd (ht.one (KJ.o.maps.uW.ty hw)) (by decide))
   refine wq (f:=27) (args:=#[vP mp]) (by simp) (by simp[go_sem]) ?_;refine(Go.MuLone.unlock_deferred KC ⟨mp,0,eL⟩ .returning W (acD.blk.cell 0) (acD.blk.frozen 0)).mono ?_;rintro e u' w5 ⟨rfl,rfl,rfl⟩;have Vu:au (W.setCell ⟨mp,0,eL⟩ (vJ 0)) g8 (kM (r9 fs d) a6.vL) 34:=hB7.setOther (a:=⟨mp,0,eL⟩) (by have:=TA.o;have:=HG8.o;simp only;omega) _;refine⟨_,mL results20 _ _ g8 34 _ (0,0) _ htm Vu underlying34 rfl (by kernel_rfl),?_⟩;rw[PH.o];have mU:aa (Only mp) W (W.setCell ⟨mp,0,eL⟩ (vJ 0)):=(aa.refl (Only mp) W).bA 0 _;refine⟨a6.vL,a6,rfl,?_,acD.turn _,HE6.o.1,HE6.o.2,HFT.o,(xW.o.step m7 (λk hk e=>by have h1:k=g8:=e;have:=HG8.o;omega)).trans (mU.mono (λ_ _ h=>.inl h))⟩;refine(HLG.o.ai m7 (λk hk e=>?_)).ai mU (λk hk e=>?_)
   ·have h1:k=g8:=e;subst h1;exact absurd (aaH.o.ty.one (HLG.o.ty hk)) (by decide)
   ·have h1:k=mp:=e;subst h1;exact absurd (KJ.o.blk.ty.one (HLG.o.ty hk)) (by decide)
  by_cases h0:d.1=0
  ·rw[iP9 h0]at he6;subst he6;have IQ:ah (fS prog 34 #[pt b] w6 λe w'=>e=fW (fY (kM (r9 fs d) a6.vL))/\aa af w6 w'):=by rw[<-aaB fs d h0];exact F8 NR.o xx.o
   have x10:=Xt.o.cell 0;clear PH HLG KJ HFT xW aew aex Xt NR HE6 xx MH;generalize kM (r9 fs d) a6.vL=cs at *;go_upto_region 9 with fail;go_wp2_with fail;refine IQ.o.mono ?_;rintro e w7 ⟨rfl,m7⟩;have zw:=aq m7;have af7:=aq (aaH.o.ai m7 id);clear x10 IQ m7;go_wp2_with (refine eP rfl 34 (.tmp 8) (.tmp 40) rfl g8 cs rfl rfl 34 _ af7.o (by rw[TH.o];kernel_rfl) (by rw[TH.o];rfl) QP.o ?_;intro W8 hB8 hm8);refine wq (f:=31) (args:=#[pt w.heap.size,pt g10,pt g8]) (by simp) (by simp[go_sem]) ?_;refine(SC W8 _ _ _).mono ?_;rintro e u' w9 ⟨rfl,rfl,rfl⟩;exact nu.o w9 _ rfl ((zw.o.mono (λ_ _ h=>h.elim)).trans hm8) hB8
  ·rw[iN9 h0]at he6;subst he6;have HTS:ah (fS prog 32 #[pt mp,pt b,vI d.1] w6 λe w'=>e=fW (fY (kM (r9 fs d) a6.vL))/\aa af w6 w'):=by rw[<-SF fs d h0];exact Nq NR.o xx.o aew.o d.1
   refine wq (f:=31) (args:=#[pt w.heap.size,pt g10,pt g8]) (by simp) (by simp[go_sem]) ?_;refine(SE w6 w.heap.size g10 g8 mp b d.1 _ lu aex.o Xt.o aaH.o rfl TH.o QP.o HTS.o).mono ?_;rintro e u' w9 ⟨rfl,rfl,K0,m9⟩;exact nu.o w9 _ rfl m9 K0
def OM(vM:fa)(mb:tLN)(n:Nat):Ad:=⟨[],mb,[],b5 n (vN),vM,vN,vN⟩
def abo(m:aB):Prop:=(1<=m.key/\m.key<=8)/\(1<=m.value/\m.value<=16)/\m.entries<=8
theorem og.IE{wT:tW}{tv:fa}{bs:tLN}{b:Nat}{vF vM:fa}{fs:List bz}{gs:tLN}{ms:List aB}{mb:tLN}{w:tW}(h:og wT bs b vF vM fs gs ms mb w)(ht:aM 0 wT tv bs az)(hm:∀m∈ms,abo m):dB (vJ 0) (.int .u32 0) wT tv bs b vF fs gs (OM vM mb (eJ ms)) [] (kX ms) w:=by
 have hl:eJ (kX ms)=eJ ms:=by unfold kX;rw[List.length_map]
 have hve:∀i,i<eJ ms->(b5 (eJ ms) (Value.slice eL 0 0)).getD i kO=vN:=λi hi=>by rw[List.getD_eq_getElem?_getD,List.getElem?_replicate_of_lt hi];rfl
 have hnm:∀i (hi:i<eJ ms),(kX ms).getD i jZ=⟨ms[i].name,ms[i].key,ms[i].value,ms[i].entries,[]⟩:=λi hi=>by unfold kX;rw[List.getD_eq_getElem?_getD,List.getElem?_map,List.getElem?_eq_getElem hi];rfl
 have hmb:∀i (hi:i<eJ mb),mb.getD i 0=mb[i]:=λi hi=>by rw[List.getD_eq_getElem?_getD,List.getElem?_eq_getElem hi];rfl
 refine⟨h.blk,h.lf,h.wY,h.code,ht,h.md.mono (λ_ _ h=>h.elim),⟨rfl,rfl,λi hi=>absurd hi (bt _),λi hi=>absurd hi (bt _),λi j hi=>absurd hi (bt _),λi j k hi=>absurd hi (bt _)⟩,⟨?_,?_,?_,?_,?_,?_,?_⟩,λg hg=>(by cases hg),?_,?_,?_,h.lo⟩
 ·rw[hl];exact h.lm
 ·rw[hl];exact List.length_replicate
 ·rw[hl];exact h.uW
 ·intro i hi;rw[hl]at hi;have hi':i<eJ mb:=by rw[h.lm];exact hi
  rw[hnm i hi];show au w (mb.getD i 0) #[_,_,_,_,(b5 (eJ ms) (Value.slice eL 0 0)).getD i kO] _
  rw[hve i hi,hmb i hi'];exact h.maps i hi hi'
 ·intro i hi;rw[hl]at hi;rw[hnm i hi];show Sl w _ _ ((b5 (eJ ms) (Value.slice eL 0 0)).getD i kO) _ _
  rw[hve i hi];exact Sl.nil _ _ _
 ·intro i j hi hj e;rw[hl]at hi hj;have hi':i<eJ mb:=by rw[h.lm];exact hi
  have hj':j<eJ mb:=by rw[h.lm];exact hj
  have e':mb.getD i 0=mb.getD j 0:=e;rw[hmb i hi',hmb j hj']at e';exact(List.getElem_inj h.nd).1 e'
 ·intro i j k hi hj e;rw[hl]at hi;have e':((b5 (eJ ms) (Value.slice eL 0 0)).getD i kO).ownBlock=eK k:=e;rw[hve i hi]at e';cases e'
 ·intro m hm';unfold kX at hm';obtain⟨p,hp,rfl⟩:=List.mem_map.1 hm';obtain⟨h1,h2,h3⟩:=hm p hp;exact⟨h1,h2,h3,cP _,(λe he=>by cases he),(λe he=>by cases he),List.Pairwise.nil⟩
 ·have:dA (kX ms)=[]:=by unfold dA kX;rw[List.flatMap_map];exact List.flatMap_eq_nil_iff.2 (λx _=>rfl)
  rw[this];exact List.nodup_nil
 ·intro k hk;rcases hk with hk |⟨v,hv,hk⟩|hk |⟨v,hv,hk⟩
  ·cases hk
  ·cases hv
  ·exact h.ownB k hk
  ·rw[List.eq_of_mem_replicate hv]at hk;cases hk
def wJ(w:tW)(d:List aB×List bz×PR)(e:Ending)(w':tW):Prop :=
 if d.2.2.bad then e=fW (jl #[vO,vI 7])/\aa af w w'
 else ∃sb bs b vF vM gs mb tv wT,e=fW (jl #[pt sb,vI 0])/\aM 0 wT tv bs az/\aa af w wT/\(∀f∈d.2.1,∀x∈f.code,gm x)/\og wT bs b vF vM d.2.1 gs d.1 mb w'/\au w' sb #[pt b] 58/\w.heap.size<=sb/\aa af w w'
theorem SG(w:tW)(s:tBA)(d:List aB×List bz×PR)(h:fS prog 22 #[eR s] w λe w'=>zI w d e w'):fS prog 16 #[eR s] w λe w'=>wJ w d e w':=by
 have HL:=aq h;clear h;unfold zI at HL;go_in;go_wp2_with fail;refine HL.o.mono ?_;intro e w1 hp;by_cases hb:d.2.2.bad=fR
 ·rw[iP9 hb]at hp;obtain⟨rfl,m1⟩:=hp;have HM:=aq m1;clear m1 HL;go_wp2_with fail;go_ret2;unfold wJ;rw[iP9 hb];exact⟨rfl,HM.o⟩
 ·rw[iN9 hb]at hp;obtain⟨bs,b,vF,vM,gs,mb,tv,wT,rfl,hO,mT,hP,hA⟩:=hp;have HO:=aq hO;have Ew:=aq mT;have HP:=aq hP;have HA:=aq hA;have HM:=aq (mT.trans hA.md);clear hO mT hP hA HL;go_wp2_with fail;go_ret2;unfold wJ;rw[iN9 hb];have mA:aa af w1 (w1.alloc (fL #[pt b] 58)):=aw;refine⟨w1.heap.size,bs,b,vF,vM,gs,mb,tv,wT,rfl,HO.o,Ew.o,HP.o,HA.o.quiet mA,au.new w1 _ _,HM.o.size,HM.o.trans mA⟩
theorem KK{c1:fa}{wT:tW}{tv:fa}{bs:tLN}{mp:Nat}{vF:fa}{fs:List bz}{cg:tLN}{a:Ad}{gs:List tLN}{ms:List iK}{w:tW}(h:dB (vJ 0) c1 wT tv bs mp vF fs cg a gs ms w)(sb:Nat)(hsb:au w sb #[pt mp] 58)(hco:lK fs (eJ ms))(hH:∀F b,Eg F b fs)(hK:oW fs)(hn:eJ fs<=1000)(nm:tLB)(inp:tBA)(hs:inp.size<=9223372036854775807)(fuel:Int)(hf:-9223372036854775808<=fuel/\fuel<=9223372036854775807):fS prog 12 #[pt sb,eR (T nm),eR inp,vI fuel] w λe w'=>Ib c1 wT tv bs mp vF fs cg a w (pM fs gs ms nm inp fuel) e w':=by
 have bU:ah (aa af w (w.alloc (fL lu 34))):=(aa.refl af w).alloc _;have HB1:=aq (au.new w lu 34);have HZR:ah (lu=#[vI 0,eR ⟨#[]⟩,vI 0,vU 0,eR ⟨#[]⟩,vN,vI 0]):=rfl;have Bg:=aq (hsb.ai bU.o id);have Nc:=aq (Xr (h.quiet bU.o) hco hH hK hn nm inp hs fuel hf);have HFR:=aq h.fresh;clear h hsb hco hH hK hs hf hn;go_in;go_upto_region 1 with fail;rw[<-HZR.o];generalize w.alloc (fL lu 34)=W1 at *;have x0:=Bg.o.cell 0;go_wp2_with fail;refine Nc.o.mono ?_;rintro e w2 ⟨vL,a',rfl,hL,hMC,h1,h2,h3,m2⟩;obtain⟨oL,cL,MH,_⟩:=hL.view;have QP:ah ((kM (pM fs gs ms nm inp fuel).1 vL).all (·.oneCell')=fR):=by unfold ah;rw[MH];exact KH _ _ _ _
 have TH:ah ((kM (pM fs gs ms nm inp fuel).1 vL).size=7):=rfl;have HL:=aq hL;have Oi:=aq hMC;have HE:ah (a'.mb=a.mb/\a'.vM=a.vM):=⟨h1,h2⟩
 have HF:=aq (λk hk=>(h3 k hk).imp id (λh=>cq bU.o.size h));have HB2:=aq (HB1.o.ai m2 (λhk=>(HFR.o _ (bj _)).2 (hk.elim (λe=>.inl e) (λe=>.inr (.inl e)))));have bP:=aq ((bU.o.mono (λ_ _ h=>h.elim)).trans m2);have EB:ah (w.heap.size≠mp):=λe=>(HFR.o _ (bj _)).2 (.inl e);clear hL hMC h1 h2 h3 m2 MH x0 Nc Bg HB1 bU;generalize hcs:kM (pM fs gs ms nm inp fuel).1 vL=cs at *;go_wp2_with (refine eP rfl 34 (.tmp 8) (.tmp 16) rfl w.heap.size cs rfl rfl 34 _ HB2.o (by rw[TH.o];kernel_rfl) (by rw[TH.o];rfl) QP.o ?_;intro W3 hB3 yK);refine kx (mL results12 _ _ w.heap.size 34 _ (0,0) _ rfl hB3 underlying34 rfl (by rw[TH.o];kernel_rfl)) rfl ⟨vL,a',by rw[hcs],?_,Oi.o.ai yK (λk hk=>?_),HE.o.1,HE.o.2,HF.o,bP.o.step yK (λk hk e=>by have h1:k=w.heap.size:=e;omega)⟩
 ·exact HL.o.ai yK (λk hk e=>by have h1:k=w.heap.size:=e;subst h1;exact absurd (HB2.o.ty.one (HL.o.ty hk)) (by decide))
 ·have e:k=w.heap.size:=hk;subst e;refine⟨(HFR.o _ (bj _)).1,λhw=>?_⟩;have ht:=HB2.o.ty;rcases hw with hw|hw|hw|hw|hw
  ·exact EB.o hw
  ·exact Oi.o.zN ht (by decide) hw
  ·exact absurd (ht.one (Oi.o.wY.ty hw)) (by decide)
  ·obtain⟨i,hi,hw⟩:=cI hw;rw[<-hw]at ht;exact absurd (ht.one (Oi.o.code i (by rw[<-Oi.o.lf];exact hi) hi).ty) (by decide)
  ·exact absurd (ht.one (Oi.o.maps.uW.ty hw)) (by decide)
def Ei(f:bz)(slot:Nat):Bool:=(atS 0 f.code).any (λp=>p.2==slot)
theorem wK{f:bz}{slot:Nat}(h:Ei f slot=fR):oP f slot:=by
 obtain⟨p,hp,e⟩:=List.any_eq_true.1 h;have e':p.2=slot:=by simpa using e
 exact⟨p.1,by rw[<-e'];exact hp⟩
def aey(fn mn:Nat)(x:PI):Bool :=
 gh (x.k<88)&&gh (x.d<11)&&gh (x.s<11)&&gh (-32768<=x.jump)&&gh (x.jump<=32767)
 && (if(dU x.o.code).t=6 then(if x.s=1 then gh (0<=x.num)&&gh (x.num<fn)else gh (1<=x.num)&&gh (x.num<=4))else fR)
 && (if(dU x.o.code).t=5 then(if x.s=1 then gh (0<=x.num)&&gh (x.num<mn)else fR)else fR)
 && (if(dU x.o.code).t=3 then gh (0<(dU x.o.code).k)&&gh ((dU x.o.code).k<=8)else fR)
 && (if(dU x.o.code).t=4 then gh (0<(dU x.o.code).k)&&gh ((dU x.o.code).k<=8)else fR)
def aez(fs:List bz)(mn:Nat):Bool:=fs.all λf=>Ei f 0&&gh (aU f.code<=1000)&&(atS 0 f.code).all λp=>aey (eJ fs) mn p.1
 && (if(dU p.1.o.code).t=1 then gh (0<=p.1.target p.2)&&Ei f (p.1.target p.2).toNat else fR)
 && (if(dU p.1.o.code).t=2 then gh (0<=p.1.target p.2)&&Ei f (p.1.target p.2).toNat else(if(dU p.1.o.code).t<=6 then Ei f (p.2+p.1.o.slots)else fR))
theorem KL{fs:List bz}{mn:Nat}(h:aez fs mn=fR)(hn:∀f∈fs,∀x∈f.code,(-2147483648<=x.num/\x.num<=2147483647)/\-2147483648<=x.high/\x.high<=2147483647):lK fs mn:=by
 have hf:∀f∈fs,_:=λf hf=>List.all_eq_true.1 h f hf;refine⟨λf hm=>?_,λf hm=>?_,λf hm p hp=>?_⟩
 ·have:=hf f hm;rw[al,al]at this;exact wK this.1.1
 ·have:=hf f hm;rw[al,al]at this
  simpa using this.1.2
 ·have h0:=hf f hm;rw[al,al]at h0;have h1:=List.all_eq_true.1 h0.2 p hp;rw[al,al]at h1;obtain⟨⟨hi,hj⟩,hk⟩:=h1;obtain⟨aeA,hhigh⟩:=hn f hm p.1 (Hr _ _ _ hp);unfold aey at hi;simp only[al,decide_eq_true_eq]at hi;obtain⟨⟨⟨⟨⟨⟨⟨⟨i1,i2⟩,i3⟩,i4⟩,i5⟩,i8⟩,i9⟩,i10⟩,i11⟩:=hi;refine⟨⟨i2,i3,⟨i4,i5⟩,aeA,λh6=>?_,λh5 hs=>?_,λOb=>?_⟩,⟨i1,by omega,by omega,⟨i4,i5⟩,aeA,hhigh⟩,λh12=>?_,λh2 h6=>?_⟩
  ·rw[iP9 h6]at i8;exact⟨λhs=>by rw[iP9 hs]at i8;simpa using i8,λhs=>by rw[iN9 hs]at i8;simpa using i8⟩
  ·rw[iP9 h5,iP9 hs]at i9
   simpa using i9
  ·rcases Ob with h3|h4
   ·rw[iP9 h3]at i10;simpa using i10
   ·rw[iP9 h4]at i11;simpa using i11
  ·rcases h12 with h1|h2
   ·rw[iP9 h1,al]at hj;exact⟨by simpa using hj.1,wK hj.2⟩
   ·rw[iP9 h2,al]at hk;exact⟨by simpa using hk.1,wK hk.2⟩
  ·rw[iN9 h2,iP9 h6]at hk;exact wK hk
def Xu(w:tW)(ms:List aB)(fs:List bz)(sb:Nat)(w':tW):Prop:=∃bs b vF vM gs mb tv wT,au w' sb #[pt b] 58/\w.heap.size<=sb/\aa af w w'/\aa af w wT/\dB (vJ 0) (.int .u32 0) wT tv bs b vF fs gs (OM vM mb (eJ ms)) [] (kX ms) w'/\∀k,Whole b vF gs (OM vM mb (eJ ms)) k->w.heap.size<=k
def Xv(ms:List aB)(fs:List bz):Bool:=gh (eJ fs<=1000)&&gh (eJ ms<=1000)&&(fs.all λf=>gh (eJ f.name<=255)&&gh (eJ f.code<=2000))&&(ms.all λm=>gh (eJ m.name<=255)&&gh (1<=m.key)&&gh (m.key<=8)&&gh (1<=m.value)&&gh (m.value<=16)&&gh (m.entries<=8))
theorem KM(w:tW)(hW:uS w)(img:tLB)(hs:eJ img<=jz)(ms:List aB)(fs:List bz)(hD:gu img=(ms,fs,⟨[],fj⟩))(hz:Xv ms fs=fR):fS prog 16 #[eR (T img)] w λe w'=>∃sb,e=fW (jl #[pt sb,vI 0])/\Xu w ms fs sb w':=by
 unfold Xv at hz;simp only[al,decide_eq_true_eq,List.all_eq_true]at hz;obtain⟨⟨⟨z1,z2⟩,z3⟩,z4⟩:=hz;have hok:∀m∈ms,abo m:=λm hm=>by obtain⟨⟨⟨⟨⟨_,a⟩,b⟩,c⟩,d⟩,e⟩:=z4 m hm;exact⟨⟨a,b⟩,⟨c,d⟩,e⟩
 have hl:=Wt w hW img hs (λ_=>by rw[hD];refine⟨λf hf=>z3 f hf,λm hm=>?_,z1,z2⟩;obtain⟨⟨⟨⟨⟨a0,a⟩,b⟩,c⟩,d⟩,e⟩:=z4 m hm;exact⟨a0,by omega,by omega,by omega⟩);rw[hD]at hl;refine(SG w (T img) _ hl).mono λe w' h=>?_;unfold wJ at h;rw[iN9 (by simp)]at h;obtain⟨sb,bs,b,vF,vM,gs,mb,tv,wT,he,hO,mT,hP,hA,hB,hl,m⟩:=h;refine⟨sb,he,bs,b,vF,vM,gs,mb,tv,wT,hB,hl,m,mT,hA.IE hO hok,λk hk=>?_⟩;refine cq mT.size ?_;rcases hk with rfl|hk|hk|hk|hk
 ·exact hA.lo
 ·exact(hA.IE hO hok).base k hk
 ·exact hA.pG k hk
 ·exact hA.ma k hk
 ·exact hA.pF k hk
set_option linter.all false
def yG(l:tLN):tLB:=l.map UInt8.ofNat
theorem aaI(l:tLN):strOf l=T (yG l):=rfl
theorem Ga(w:tW)(a b:tLB)(g:Nat):fS prog 373 #[fY #[eR (T a),vP g],eR (T b)] w λe w'=>e=fW (vI (ab a b))/\aa af w w':=by have HC:=aq (λw'=>Hl w' a b);generalize T a=sa at *;generalize T b=sb at *;go_in;go_wp2_with fail;refine(HC.o _).mono ?_;rintro e w2 ⟨rfl,rfl⟩;go_wp2_with fail;go_ret;exact⟨rfl,aw⟩
theorem aaJ(w:tW)(vE:fa)(ks:List (tLN×Nat))(rb key:tLN)(f:Nat)(B:Bool)(hS:Sl w 148 2 vE (eJ ks) (ks.flatMap (meC rb)))(hl:eJ ks<=1000000)(hf:f<=eJ ks)(hP:∀k (h:k<eJ ks),ab (yG ks[k].1) (yG key)<0↔k<f) (hB0:¬f<eJ ks->B=fj) (hB1:∀h:f<eJ ks,B=gh (ab (yG ks[f].1) (yG key)=0)):fS prog 372 #[vE,eR (strOf key),.func (.func 373) #[] #[]] w λe w'=>e=fW (jl #[vI f,fX B])/\aa af w w':=by
 obtain⟨oE,cE,hvE,_⟩:=hS.view;subst hvE;have HS:=aq hS;have HP:=aq hP;have HB0:=aq hB0;have HB1:=aq hB1;clear hS hP hB0 hB1;have hE1:=enters_of (P:=prog) func373 (by kernel_rfl) rfl;rw[aaI];go_in;go_upto_block 0 with fail;go_wp2_with fail;go_loopg [9,10] (eJ ks) (λg iv jv wx=>∃i j:Nat,i<=f/\f<=j/\j<=eJ ks/\iv=vI i/\jv=vI j/\aa af w wx/\g=j-i)
 case atStart=>exact⟨0,eJ ks,cP _,hf,bj _,rfl,rfl,ax,rfl⟩
 case round =>
  obtain⟨i,j,hi,hj,hn,rfl,rfl,hmd,rfl⟩:=hrel;have kV:=aq hmd;clear hmd;by_cases hlt:i<j
  ·have HIJ:ah (((i:Int)+j)/2=((i+j)/2:Nat)):=by unfold ah;omega
   go_upto_region 5 with fail;obtain⟨o',cap',hvv,h2⟩:=(HS.o.ai kV.o (λ_ _=>id)).view;cases hvv;obtain⟨g,cs,rfl,hb',ht',_⟩:=h2 (by omega);have hk:(i+j)/2<eJ ks:=by omega
   obtain⟨k,hkk⟩:∃k,k=(i+j)/2:=⟨_,rfl⟩
   rw[<-hkk]at hk;have c0:wr.cell? ⟨g,k*2,eL⟩=eK (eR (T (yG ks[k].1))):=by rw[aV hb' ht' (k*2) (by omega)];exact flat_get (meC rb) 2 (λ_=>rfl) ks k 0 hk (by omega)
   have c1:wr.cell? ⟨g,k*2+1,eL⟩=eK (vP (rb.getD ks[k].2 0)):=by rw[aV hb' ht' (k*2+1) (by omega)];exact flat_get (meC rb) 2 (λ_=>rfl) ks k 1 hk (by omega)
   have HC:=aq (Ga wr (yG ks[k].1) (yG key) (rb.getD ks[k].2 0));have HK:=aq (HP.o k hk);clear hb' ht' h2;generalize T (yG ks[k].1)=tk at *;generalize T (yG key)=tx at *;generalize ab (yG ks[k].1) (yG key)=cm at *;generalize rb.getD ks[k].2 0=pk at *;have HE:ah (((i:Int)+j)/2=k):=HIJ.o.trans (by rw[hkk]);rw[HE.o];have hki:i<=k:=by omega
   have hkj:k<j:=by omega
   clear hkk HIJ HE;go_wp2_with fail;refine HC.o.mono ?_;rintro e w2 ⟨rfl,m2⟩;have bP:=aq (kV.o.trans m2);clear m2 HC kV c0 c1;by_cases hc:cm<0
   ·have hkf:=HK.o.1 hc;clear HK;go_wp2_with fail;go_roundg (j-(k+1))
    case measure=>omega
    case rel=>exact⟨k+1,j,hkf,hj,hn,by go_num,rfl,bP.o,rfl⟩
   ·have hkf:=Nat.not_lt.1 (λh=>hc (HK.o.2 h));clear HK;go_wp2_with fail;go_roundg (k-i)
    case measure=>omega
    case rel=>exact⟨i,k,hi,hkf,by omega,rfl,rfl,bP.o,rfl⟩
  ·obtain rfl:i=f:=by omega
   obtain rfl:j=i:=by omega
   clear hlt hi hj;by_cases hfl:j<eJ ks
   ·obtain⟨o',cap',hvv,h2⟩:=(HS.o.ai kV.o (λ_ _=>id)).view;cases hvv;obtain⟨g,cs,rfl,hb',ht',_⟩:=h2 (by omega);have c0:wr.cell? ⟨g,j*2,eL⟩=eK (eR (T (yG ks[j].1))):=by rw[aV hb' ht' (j*2) (by omega)];exact flat_get (meC rb) 2 (λ_=>rfl) ks j 0 hfl (by omega)
    have c1:wr.cell? ⟨g,j*2+1,eL⟩=eK (vP (rb.getD ks[j].2 0)):=by rw[aV hb' ht' (j*2+1) (by omega)];exact flat_get (meC rb) 2 (λ_=>rfl) ks j 1 hfl (by omega)
    have HC:=aq (Ga wr (yG ks[j].1) (yG key) (rb.getD ks[j].2 0));have GV:=aq (HB1.o hfl);clear hb' ht' h2 HB0 HB1 HP HS;generalize T (yG ks[j].1)=tk at *;generalize T (yG key)=tx at *;generalize ab (yG ks[j].1) (yG key)=cm at *;generalize rb.getD ks[j].2 0=pk at *;go_wp2_with fail;refine HC.o.mono ?_;rintro e w2 ⟨rfl,m2⟩;have bP:=aq (kV.o.trans m2);clear m2 HC kV c0 c1;obtain rfl:B=(cm==0):=GV.o;clear GV;go_wp2_with fail;go_ret2;exact⟨rfl,bP.o⟩
   ·have hBt:=HB0.o hfl;subst hBt;clear HB0 HB1 HP HS;generalize T (yG key)=tx at *;go_wp2_with fail;go_ret2;exact⟨rfl,kV.o⟩
set_option linter.all false
theorem abp{x y:Nat}(hx:x<256)(hy:y<256):UInt8.ofNat x<UInt8.ofNat y↔x<y:=by rw[UInt8.lt_iff_toNat_lt,UInt8.toNat_ofNat',UInt8.toNat_ofNat',Nat.mod_eq_of_lt hx,Nat.mod_eq_of_lt hy]
theorem Ej:∀a b:tLN,(∀x∈a,x<256)->(∀x∈b,x<256)->(ab (yG a) (yG b)<0↔ltNs a b=fR)/\(ab (yG a) (yG b)=0↔a=b)
 |[],[],_,_=>by simp[yG,ab,ltNs]
 |[],y::b,_,_=>by simp[yG,ab,ltNs]
 |x::a,[],_,_=>by simp[yG,ab,ltNs]
 |x::a,y::b,ha,hb=>by
  have hx:=ha x (by simp);have hy:=hb y (by simp);have ih:=Ej a b (λz hz=>ha z (by simp[hz])) (λz hz=>hb z (by simp[hz]));have e1:=abp hx hy;have e2:=abp hy hx;show(ab (UInt8.ofNat x::yG a) (UInt8.ofNat y::yG b)<0↔_)/\(ab (UInt8.ofNat x::yG a) (UInt8.ofNat y::yG b)=0↔_)
  unfold ab ltNs;by_cases h1:x<y
  ·rw[iP9 (e1.2 h1),iP9 h1];refine⟨by simp,?_⟩;have:x≠y:=by omega
   simp[this]
  ·rw[iN9 (λh=>h1 (e1.1 h)),iN9 h1];by_cases h2:y<x
   ·rw[iP9 (e2.2 h2),iP9 h2];refine⟨by simp,?_⟩;have:x≠y:=by omega
    simp[this]
   ·rw[iN9 (λh=>h2 (e2.1 h)),iN9 h2];obtain rfl:x=y:=by omega
    refine⟨ih.1,ih.2.trans (by simp)⟩
theorem yH:∀a b c:tLN,ltNs a b=fR->ltNs b c=fR->ltNs a c=fR
 |[],_,[],_,h=>by cases ‹tLN›<;>simp[ltNs]at h
 |[],_,_::_,_,_=>rfl
 |_::_,[],_,h,_=>by simp[ltNs]at h
 |_::_,_::_,[],_,h=>by simp[ltNs]at h
 |x::a,y::b,z::c,h,h'=>by
  unfold ltNs at h h' ⊢;by_cases h1:x<y
  ·by_cases h2:y<z
   ·rw[iP9 (by omega)]
   ·rw[iN9 h2]at h';by_cases h3:z<y
    ·rw[iP9 h3]at h';cases h'
    ·rw[iP9 (by omega)]
  ·rw[iN9 h1]at h;by_cases h2:y<x
   ·rw[iP9 h2]at h;cases h
   ·rw[iN9 h2]at h;obtain rfl:x=y:=by omega
    by_cases h3:x<z
    ·rw[iP9 h3]
    ·rw[iN9 h3]at h' ⊢;by_cases h4:z<x
     ·rw[iP9 h4]at h';cases h'
     ·rw[iN9 h4]at h' ⊢;exact yH a b c h h'
theorem vQ:∀(ks:List (tLN×Nat)) (key:tLN),ks.Pairwise (λa b=>ltNs a.1 b.1=fR)->∀k (h:k<eJ ks),ltNs ks[k].1 key=fR↔k<aL ks key
 |[],_,_,k,h=>absurd h (bt _)
 |e::r,key,hs,k,h=>by
  obtain⟨h1,h2⟩:=List.pairwise_cons.1 hs;have ih:=vQ r key h2;by_cases he:ltNs e.1 key=fR
  ·have ef:aL (e::r) key=aL r key+1:=by simp[aL,he]
   rw[ef];cases k with
   |zero=>simp[he]
   |succ k=>simpa using ih k (by simpa using h)
  ·have e0:aL r key=0:=by refine List.countP_eq_zero.2 (λx hx=>?_);exact λhx2=>he (yH _ _ _ (h1 x hx) hx2)
   have ef:aL (e::r) key=0:=by
    have:aL (e::r) key=aL r key:=by simp[aL,he]
    rw[this,e0]
   rw[ef];cases k with
   |zero=>simp[he]
   |succ k =>
    have:=(ih k (by simpa using h))
    rw[e0]at this
    simpa using this
theorem vR(ks:List (tLN×Nat))(key:tLN):aL ks key<=eJ ks:=List.countP_le_length
theorem wN(w:tW)(m:Nat)(nm:fa)(c1 c2 c3:fa)(vE:fa)(ks:List (tLN×Nat))(rb key:tLN)(hB:au w m #[nm,c1,c2,c3,vE] 85)(hS:Sl w 148 2 vE (eJ ks) (ks.flatMap (meC rb)))(hl:eJ ks<=1000000)(hs:ks.Pairwise (λa b=>ltNs a.1 b.1=fR)) (hk:∀e∈ks,∀b∈e.1,b<256) (hy:∀b∈key,b<256):fS prog 359 #[pt m,eR (strOf key)] w λe w'=>e=fW (jl #[vI (aL ks key),fX (aT ks key)])/\aa af w w':=by
 have HC:ah (fS prog 372 #[vE,eR (strOf key),.func (.func 373) #[] #[]] w λe w'=>e=fW (jl #[vI (aL ks key),fX (aT ks key)])/\aa af w w'):=by
  refine aaJ w vE ks rb key (aL ks key) (aT ks key) hS hl (vR _ _) (λk h=>?_) (λh=>?_) (λh=>?_)
  ·rw[(Ej _ _ (hk _ (cW h)) hy).1];exact vQ ks key hs k h
  ·simp[aT,h]
  ·have e:ks.getD (aL ks key) ([],0)=ks[aL ks key]:=by rw[List.getD_eq_getElem?_getD,List.getElem?_eq_getElem h];rfl
   unfold aT;rw[e];have:=(Ej _ _ (hk _ (cW h)) hy).2;simp[h,this]
 obtain⟨oE,cE,hvE,_⟩:=hS.view;subst hvE;have x4:=hB.c4;clear hB hS hs hk hy;generalize strOf key=sk at *;generalize aT ks key=B at *;generalize aL ks key=f at *;go_in;go_wp2_with fail;refine HC.o.mono ?_;rintro e w2 ⟨rfl,m2⟩;go_wp2_with fail;go_ret2;exact⟨rfl,m2⟩
set_option linter.all false
theorem SH(w:tW)(m:Nat)(nm:fa)(c1 c2 c3:fa)(vE:fa)(ks:List (tLN×Nat))(rb mb key:tLN)(hB:au w m #[nm,c1,c2,c3,vE] 85)(hS:Sl w 148 2 vE (eJ ks) (ks.flatMap (meC rb)))(hl:eJ ks<=1000000)(hs:ks.Pairwise (λa b=>ltNs a.1 b.1=fR)) (hk:∀e∈ks,∀b∈e.1,b<256) (hy:∀b∈key,b<256):fS prog 331 #[pt m,eR (strOf key)] w λe w'=>e=fW (fY ((if aT ks key then eY (aY ks key) 0 else dI 0).cells rb mb).toArray)/\aa af w w':=by
 have HF:=aq (λw' (m':aa af w w')=>wN w' m nm c1 c2 c3 vE ks rb key (hB.ai m' id) (hS.ai m' (λ_ _ e=>e)) hl hs hk hy);obtain⟨oE,cE,hvE,_⟩:=hS.view;subst hvE;have HX:=aq (λw' (m':aa af w w')=>(hB.ai m' id).c4)
 have HE:ah (aT ks key=fR->∃g,oE=eK ⟨g,0,eL⟩/\aL ks key<eJ ks/\∀w',aa af w w'->w'.cell? ⟨g,aL ks key*2+1,eL⟩=eK (vP (rb.getD (aY ks key) 0))):=λhf=>by
  have hlt:aL ks key<eJ ks:=by unfold aT at hf;simp at hf;exact hf.1
  obtain⟨o',cap',hvv,h2⟩:=hS.view;cases hvv;obtain⟨g,cs,rfl,_,_,_⟩:=h2 (by omega);refine⟨g,rfl,hlt,λw' m'=>?_⟩;obtain⟨o',cap',hvv,h2⟩:=(hS.ai m' (λ_ _ e=>e)).view;cases hvv;obtain⟨g',cs,hg,hb',ht',_⟩:=h2 (by omega);injection hg with hg;injection hg with hg;subst hg;rw[aV hb' ht' (aL ks key*2+1) (by omega)];refine(flat_get (meC rb) 2 (λ_=>rfl) ks (aL ks key) 1 hlt (by omega)).trans ?_;have e:ks.getD (aL ks key) ([],0)=ks[aL ks key]:=by rw[List.getD_eq_getElem?_getD,List.getElem?_eq_getElem hlt];rfl
  unfold aY;rw[e];rfl
 have HB1:=aq (au.new w #[vI 0,vU 0,vO,vO] 130);have bU:ah (aa af w (w.alloc (fL #[vI 0,vU 0,vO,vO] 130))):=aw;have Wf:ah (∀w',fS prog 56 #[vU (0:Nat)] w' λe w''=>e=fW (fY #[vI 0,vU 0,vO,vO])/\aa af w' w''):=λw'=>qm w' rb mb 0;have HVP:ah (∀w',fS prog 55 #[vP (rb.getD (aY ks key) 0),vU (0:Nat)] w' λe w''=>e=fW (fY #[vI 2,vU 0,vP (rb.getD (aY ks key) 0),vO])/\aa af w' w''):=λw'=>DX w' rb mb (aY ks key) 0;clear hB hS hs hk hy;have yT:ah (aT ks key=fR->((if aT ks key then eY (aY ks key) 0 else dI 0).cells rb mb).toArray=#[vI 2,vU 0,vP (rb.getD (aY ks key) 0),vO]):=λh=>by rw[iP9 h];rfl
 have gq:ah (aT ks key=fj->((if aT ks key then eY (aY ks key) 0 else dI 0).cells rb mb).toArray=#[vI 0,vU 0,vO,vO]):=λh=>by rw[h];rfl
 generalize((if aT ks key then eY (aY ks key) 0 else dI 0).cells rb mb).toArray=R at *;generalize strOf key=sk at *;generalize rb.getD (aY ks key) 0=pq at *;generalize aT ks key=B at *;generalize aL ks key=f at *;go_in;go_upto_region 1 with fail;generalize w.alloc (fL #[vI 0,vU 0,vO,vO] 130)=W1 at *;go_wp2_with fail;refine(HF.o W1 bU.o).mono ?_;rintro e w2 ⟨rfl,m2⟩;have bP:=aq (bU.o.trans m2);have HB2:=aq (HB1.o.ai m2 id);clear m2 bU HB1 HF;cases B
 ·have hR:=gq.o rfl;subst hR;clear yT gq HE HX HVP;go_wp2_with fail;refine(Wf.o _).mono ?_;rintro e w3 ⟨rfl,m3⟩;have dF:=aq (bP.o.trans m3);have HB3:=aq (HB2.o.ai m3 id);clear m3 bP HB2 Wf;have z0:=HB3.o.cell 0;have z1:=HB3.o.cell 1;have z2:=HB3.o.cell 2;have z3:=HB3.o.cell 3;have zf:=HB3.o.frozen;go_wp2_with fail;refine kx (mL results331 _ _ w.heap.size 130 _ (0,0) _ rfl ((((HB3.o.set 0 _).set 1 _).set 2 _).set 3 _) underlying130 rfl (by kernel_rfl)) rfl ⟨rfl,?_⟩;have q:∀{X:tW} (i:Nat) (u:fa),aa af w X->aa af w (X.setCell ⟨w.heap.size,i,eL⟩ u):=λi u m=>m.set (a:=⟨w.heap.size,i,eL⟩) (Or.inr (bj _)) u;exact q 3 _ (q 2 _ (q 1 _ (q 0 _ dF.o)))
 ·obtain⟨g,rfl,hlt,hc⟩:=HE.o rfl;have y0:=HX.o w2 bP.o;have y1:=hc w2 bP.o;have hR:=yT.o rfl;subst hR;clear yT gq HE HX Wf hc;go_wp2_with fail;refine(HVP.o _).mono ?_;rintro e w3 ⟨rfl,m3⟩;have dF:=aq (bP.o.trans m3);have HB3:=aq (HB2.o.ai m3 id);clear m3 bP HB2 HVP y0 y1;have z0:=HB3.o.cell 0;have z1:=HB3.o.cell 1;have z2:=HB3.o.cell 2;have z3:=HB3.o.cell 3;have zf:=HB3.o.frozen;go_wp2_with fail;refine kx (mL results331 _ _ w.heap.size 130 _ (0,0) _ rfl ((((HB3.o.set 0 _).set 1 _).set 2 _).set 3 _) underlying130 rfl (by kernel_rfl)) rfl ⟨rfl,?_⟩;have q:∀{X:tW} (i:Nat) (u:fa),aa af w X->aa af w (X.setCell ⟨w.heap.size,i,eL⟩ u):=λi u m=>m.set (a:=⟨w.heap.size,i,eL⟩) (Or.inr (bj _)) u;exact q 3 _ (q 2 _ (q 1 _ (q 0 _ dF.o)))
set_option linter.all false
theorem vT:(prog.info? 148).map (λi=>(i.zero,i.size,i.bytes))=eK (eK (fY #[eR ⟨#[]⟩,vO]),2,24):=by kernel_rfl
theorem Xw(w:tW):(zeroValue 148).run prog w=.ok (fY #[eR ⟨#[]⟩,vO]) w:=by obtain⟨i,hi,hz,hs,hb⟩:=oY vT;simp[zeroValue,rm,hi,hz]
theorem Nu:(Builtin.zeroCells #[eR ⟨#[]⟩,vO] 1).toList=[eR ⟨#[]⟩,vO]:=by kernel_rfl
theorem EZ(w:tW)(ty:ju)(b o c:Nat)(hc:∀j,j<2->(w.cell? ⟨b,o+j,eL⟩).isSome=fR)(hf:∀j,j<2->w.frozen? ⟨b,o+j,eL⟩=fj):(Builtin.clear_ #[83] ty #[eS (eK ⟨b,o,eL⟩) 1 c]).run prog w=.ok (jl #[]) (w.setCells b o [eR ⟨#[]⟩,vO]):=by have hst:=run_storeCells_cells (P:=prog) b o [eR ⟨#[]⟩,vO] 0 w hc hf (by intro v hv;simp only[cH,cx,or_false]at hv;rcases hv with rfl|rfl<;>rfl);simp only[Nat.add_zero]at hst;simp[Builtin.clear_,pB underlying83,Xw,Value.cells,Nu,hst]
theorem KN(w:tW)(ty:ju)(g n cap i:Nat)(cur:tAV)(hg:au w g cur 148)(hi:i<n)(hn:n<=cap)(hs:n*2<=cur.size)(h1:∀u∈cur.toList.take (n*2),u.oneCell'=fR)(c:Nat)(AD:kh)(hD:AD=⟨g,(i+1)*2,eL⟩\/n=i+1):(Builtin.append_ #[83,83] ty #[eS (eK ⟨g,0,eL⟩) i cap,eS (eK AD) (n-(i+1)) c]).run prog w = .ok (eS (eK ⟨g,0,eL⟩) (n-1) cap) (w.setRow g (cur.toList.take (i*2)++(cur.toList.drop ((i+1)*2)).take ((n-(i+1))*2)++cur.toList.drop ((n-1)*2)).toArray):=by
 obtain⟨j,hj,hz,hs2,hb⟩:=oY vT;have hl:eJ ((cur.toList.drop ((i+1)*2)).take ((n-(i+1))*2))=(n-(i+1))*2:=by rw[ao,ba,ar];omega
 have:=run_append_room (P:=prog) w 83 ty 148 j underlying83 hj g i cap cur hg AD (n-(i+1)) c ((cur.toList.drop ((i+1)*2)).take ((n-(i+1))*2)) (by rw[hl,hs2]) (λk u hu=>?_) (λu hu=>h1 u (by
  rw[cy]at hu;have e:(i+1)*2+(n-(i+1))*2=n*2:=by omega
  rw[e]at hu;exact cG hu)) (by omega) (by rw[hl,hs2];omega)
 ·rw[this,hl,hs2];have e1:i+(n-(i+1))=n-1:=by omega
  have e2:i*2+(n-(i+1))*2=(n-1)*2:=by omega
  rw[e1,e2]
 ·rw[List.getElem?_take]at hu;split at hu
  ·obtain rfl:AD=⟨g,(i+1)*2,eL⟩:=hD.resolve_right (by omega);rw[Addr.add_lit,hg.cell];rw[List.getElem?_drop]at hu;rw[<-Array.getElem?_toList];exact hu
  ·cases hu
theorem Nv{P:Program}{w:tW}{ops:Array iz}{rest:List iz}{o:iz}{a:Act}{Q:Exit->Act->tW->Prop}(hgd:o.guard=eL)(s x:Operand)(t:ju)(ho:o.op=.call {callee:=.builtin .append,args:=#[s,x],argTypes:=#[t,t]}) (v u v':fa) (w':tW) (hs:a.eval s=v) (hx:a.eval x=u) (hr:(Builtin.append_ #[t,t] o.type #[v,u]).run P w=.ok v' w')(h:n9 P ops Q rest (a.put o.dst v') w'):n9 P ops Q (o::rest) a w :=
 pP hgd λ_ hK=>by unfold Oper.wp execOp;simp only[ho,resolve,invoke,builtin,Sem.run_bind,Sem.run_pure,Result.andThen_ok,cY,List.map_cons,List.map_nil,hs,hx,hr];exact hK _ _ h
theorem SI(w:tW)(g k cap i:Nat)(cur CS:tAV)(hg:au w g cur 148)(hi:i<=k)(hn:k+1<=cap)(hm:cap<=jz)(hs:(k+1)*2<=cur.size)(h1:∀u∈cur.toList.take ((k+1)*2),u.oneCell'=fR)(hCS:(cur.toList.take (i*2)++(cur.toList.drop ((i+1)*2)).take ((k+1-(i+1))*2)++cur.toList.drop ((k+1-1)*2)).toArray=CS):fS prog 361 #[eS (eK ⟨g,0,eL⟩) (k+1) cap,vI i,vI ((i:Int)+1)] w λe w'=>e=fW (eS (eK ⟨g,0,eL⟩) k cap)/\∃w1,aa af w w1/\w'=(w1.setRow g CS).setCells g (k*2) [eR ⟨#[]⟩,vO]:=by
 have hmx:cap<=9223372036854775807:=hm
 obtain⟨AD,hAD,hD⟩:∃AD,(if cap=i+1 then eK (⟨g,0,eL⟩:kh)else eK ⟨g,(i+1)*2,eL⟩)=eK AD/\(AD=⟨g,(i+1)*2,eL⟩\/k+1=i+1):=by
  split
  ·exact⟨_,rfl,.inr (by omega)⟩
  ·exact⟨_,rfl,.inl rfl⟩
 have HA:ah (∀w',aa af w w'->∀ty c,(Builtin.append_ #[83,83] ty #[eS (eK ⟨g,0,eL⟩) i cap,eS (eK AD) (k-i) c]).run prog w'=.ok (eS (eK ⟨g,0,eL⟩) k cap) (w'.setRow g CS)):=λw' m ty c=>by have:=KN w' ty g (k+1) cap i cur (hg.ai m id) (by omega) hn hs h1 c AD hD;rw[hCS,cD]at this;exact this
 have HB:ah (∀w',aa af w w'->au (w'.setRow g CS) g CS 148):=λw' m=>(hg.ai m id).setRow _;have hsz:(k+1)*2<=CS.size:=by rw[<-hCS];simp only[cj,bh,ao,ba,ar];omega
 have hne:((i:Int)==(i:Int)+1)=fj:=beq_eq_false_iff_ne.2 (by omega);have HAD:=aq hAD;clear hm hAD hD hg h1 hs hCS;go_in;go_upto_region 5 with fail;refine bK 6 (by kernel_rfl) (by kernel_rfl) ?_;intro W hW;simp only[cJ,List.take_zero,b9,List.drop_zero]
 repeat(go_big_quiet_step (fail))
 rw[HAD.o];refine mS ?_;have HM:ah (aa af w W):=by rw[hW];exact aN
 clear hW;have hA2:=HA.o W HM.o 83 (cap-(i+1));clear HA;refine Nv rfl (.tmp 22) (.tmp 25) 83 rfl (eS (eK ⟨g,0,eL⟩) i cap) (eS (eK AD) (k-i) (cap-(i+1))) _ _ rfl rfl hA2 ?_;have hb:=HB.o W HM.o
 have EU:=aq (λty c=>EZ (W.setRow g CS) ty g (k*2) c (λj hj=>by
  rw[hb.cell];have:k*2+j<CS.size:=by omega
  simp[this]) (λj _=>hb.frozen _))
 clear hb HB hsz hA2;simp only[Act.put,sA9,sB9,sC9];have JB:ah (∃w1,aa af w w1/\(W.setRow g CS).setCells g (k*2) [eR ⟨#[]⟩,vO]=(w1.setRow g CS).setCells g (k*2) [eR ⟨#[]⟩,vO]):=⟨W,HM.o,rfl⟩
 generalize W.setRow g CS=W3 at *;have hcl:=EU.o;have hck:¬cap=k:=by omega
 go_wp2_with fail;go_ret;exact⟨rfl,JB.o⟩
theorem OO(rb:tLN)(xs:List (tLN×Nat)):∀u∈xs.flatMap (meC rb),u.oneCell'=fR:=λu hu=>by
 obtain⟨e,_,he⟩:=List.mem_flatMap.1 hu;simp only[meC,cH,cx,or_false]at he;rcases he with rfl|rfl<;>rfl
theorem A7{α:Type}(f:α->tLV)(n:Nat)(hf:∀x,eJ (f x)=n):∀(l:List α) (k:Nat),(l.flatMap f).drop (k*n)=(l.drop k).flatMap f
 |_,0=>by simp
 |[],k+1=>by simp
 |x::l,k+1=>by
  rw[List.flatMap_cons,b9,<-A7 f n hf l k,List.drop_append,hf x];have e:(k+1)*n-n=k*n:=by rw[Nat.succ_mul];omega
  rw[e,List.drop_eq_nil_of_le (by rw[hf x,Nat.succ_mul];omega),List.nil_append]
theorem Xx(w:tW)(v:fa)(xs:List (tLN×Nat))(rb:tLN)(i:Nat)(hi:i<eJ xs)(hS:Sl w 148 2 v (eJ xs) (xs.flatMap (meC rb))):fS prog 361 #[v,vI i,vI ((i:Int)+1)] w λe w'=>∃v',e=fW v'/\v'.ownBlock=v.ownBlock/\Sl w' 148 2 v' (eJ (xs.take i++xs.drop (i+1))) ((xs.take i++xs.drop (i+1)).flatMap (meC rb))/\aa (Own v) w w':=by
 rcases hS.2 with⟨_,h0⟩ |⟨g,cap,cur,rfl,hb,hg,hn,hm,hs,ht⟩
 ·omega
 obtain⟨k,hk⟩:∃k,eJ xs=k+1:=⟨eJ xs-1,by omega⟩
 rw[hk]at hn ht hi ⊢;have hB:au w g cur 148:=hg;refine(SI w g k cap i cur _ hB (by omega) hn hm (by omega) (λu hu=>?_) rfl).mono ?_
 ·rw[ht]at hu;exact OO rb xs u hu
 rintro e w' ⟨rfl,w1,m1,rfl⟩;have hB1:=(hB.ai m1 id).setRow (cur.toList.take (i*2)++(cur.toList.drop ((i+1)*2)).take ((k+1-(i+1))*2)++cur.toList.drop ((k+1-1)*2)).toArray;obtain⟨cs',b1,b2,b3,b4⟩:=rX [eR ⟨#[]⟩,vO] _ (k*2) _ hB1;have hlen:eJ (xs.take i++xs.drop (i+1))=k:=by rw[bh,ao,ba];omega
 refine⟨_,rfl,rfl,?_,(aa.setRow (S:=Own (eS (eK ⟨g,0,eL⟩) (k+1) cap)) (m1.mono (λ_ _ h=>h.elim)) (.inl rfl) _).trans (b4.mono (λk _ h=>by cases(show k=g from h);rfl))⟩;rw[hlen];refine⟨by rw[wF (meC rb) 2 (λ_=>rfl),hlen],.inr ⟨g,cap,cs',rfl,hb,b1,by omega,hm,?_,?_⟩⟩
 ·rw[b2];simp only[cj,bh,ao,ba,ar];omega
 ·have e1:cs'.toList.take (k*2)=(cur.toList.take (i*2)++(cur.toList.drop ((i+1)*2)).take ((k+1-(i+1))*2)++cur.toList.drop ((k+1-1)*2)).take (k*2):=by
   refine List.ext_getElem? λj=>?_;rw[List.getElem?_take,List.getElem?_take];by_cases hj:j<k*2
   ·rw[iP9 hj,iP9 hj,Array.getElem?_toList,b3 j hj,<-Array.getElem?_toList]
   ·rw[iN9 hj,iN9 hj]
  have hl:eJ (cur.toList.take (i*2)++(cur.toList.drop ((i+1)*2)).take ((k+1-(i+1))*2))=k*2:=by rw[bh,ao,ao,ba,ar];omega
  rw[e1,List.take_append_of_le_length (by omega),List.take_of_length_le (by omega),List.flatMap_append,<-wG (meC rb) 2 (λ_=>rfl),<-A7 (meC rb) 2 (λ_=>rfl),<-ht,List.take_take,Nat.min_eq_left (by omega),cy];have e2:(i+1)*2+(k+1-(i+1))*2=(k+1)*2:=by omega
  rw[e2]
set_option linter.all false
theorem qx{ks:List (tLN×Nat)}{key:tLN}(h:aT ks key=fR):aL ks key<eJ ks:=by unfold aT at h;simp at h;exact h.1
theorem vV{ks:List (tLN×Nat)}{key:tLN}(h:aT ks key=fR):aY ks key=(ks[aL ks key]'(qx h)).2:=by unfold aY;rw[List.getD_eq_getElem?_getD,List.getElem?_eq_getElem (qx h)];rfl
theorem El{w:tW}{vE:fa}{ks:List (tLN×Nat)}{rb key:tLN}(hS:Sl w 148 2 vE (eJ ks) (ks.flatMap (meC rb)))(hf:aT ks key=fR):∃g cap,vE=eS (eK ⟨g,0,eL⟩) (eJ ks) cap/\∀w',aa af w w'->w'.cell? ⟨g,aL ks key*2+1,eL⟩=eK (vP (rb.getD (aY ks key) 0)):=by have hlt:=qx hf;obtain⟨o,cap,rfl,h2⟩:=hS.view;obtain⟨g,cs,rfl,_,_,_⟩:=h2 (by omega);refine⟨g,cap,rfl,λw' m'=>?_⟩;obtain⟨o',cap',hvv,h2⟩:=(hS.ai m' (λ_ _ e=>e)).view;cases hvv;obtain⟨g',cs,hg,hb',ht',_⟩:=h2 (by omega);injection hg with hg;injection hg with hg;subst hg;rw[aV hb' ht' (aL ks key*2+1) (by omega),vV hf];exact flat_get (meC rb) 2 (λ_=>rfl) ks (aL ks key) 1 hlt (by omega)
theorem SK(w:tW)(m:Nat)(nm c1 c2 c3 vE vr:fa)(ks:List (tLN×Nat))(rb key:tLN)(hB:au w m #[nm,c1,c2,c3,vE] 85)(hS:Sl w 148 2 vE (eJ ks) (ks.flatMap (meC rb)))(hl:eJ ks<=1000000)(hs:ks.Pairwise (λa b=>ltNs a.1 b.1=fR)) (hk:∀e∈ks,∀b∈e.1,b<256) (hy:∀b∈key,b<256) (hR:aT ks key=fR->au w (rb.getD (aY ks key) 0) #[vr] 122):fS prog 335 #[pt m,eR (strOf key)] w λe w'=>e=fW (fX (aT ks key))/\(aT ks key=fj->aa af w w')/\(aT ks key=fR->∃v' w1 w2,aa af w w1/\aa (Own vE) (w1.setCell ⟨rb.getD (aY ks key) 0,0,eL⟩ (vN)) w2 /\
   v'.ownBlock=vE.ownBlock/\Sl w2 148 2 v' (eJ (ks.take (aL ks key)++ks.drop (aL ks key+1))) ((ks.take (aL ks key)++ks.drop (aL ks key+1)).flatMap (meC rb))/\w'=w2.setCell ⟨m,4,eL⟩ v'):=by
 have HF:=aq (wN w m nm c1 c2 c3 vE ks rb key hB hS hl hs hk hy);have hkp:∀(b:Nat) (cs:tAV),au w b cs 122->b≠m:=λb cs h e=>by subst e;exact absurd (h.ty.one hB.ty) (by decide)
 have hkE:∀b,vE.ownBlock=eK b->b≠m:=λb hb e=>by subst e;exact absurd ((hS.ty hb).one hB.ty) (by decide)
 by_cases hf:aT ks key=fR
 ·have hlt:=qx hf;obtain⟨g,cap,rfl,hc⟩:=El hS hf;have hr:=hR hf;have HX:=aq (λw' (m':aa af w w')=>(hB.ai m' id).c4);have hne:=hkp _ _ hr;have hng:rb.getD (aY ks key) 0≠g:=λe=>by have:=(hS.ty (k:=g) rfl).one (e ▸ hr.ty);exact absurd this (by decide)
  have HDI:=aq (λw' (m':aa af w w')=>Oo w' _ vr (hr.ai m' id))
  have HDE:ah (∀w',aa af w w'->fS prog 361 #[eS (eK ⟨g,0,eL⟩) (eJ ks) cap,vI (aL ks key),vI ((aL ks key:Int)+1)] (w'.setCell ⟨rb.getD (aY ks key) 0,0,eL⟩ (vN)) λe w''=>∃v',e=fW v'/\v'.ownBlock=(Value.slice (eK ⟨g,0,eL⟩) (eJ ks) cap).ownBlock/\Sl w'' 148 2 v' (eJ (ks.take (aL ks key)++ks.drop (aL ks key+1))) ((ks.take (aL ks key)++ks.drop (aL ks key+1)).flatMap (meC rb))/\aa (Own (eS (eK ⟨g,0,eL⟩) (eJ ks) cap)) (w'.setCell ⟨rb.getD (aY ks key) 0,0,eL⟩ (vN)) w''):=λw' m' =>
   Xx _ _ ks rb (aL ks key) hlt ((hS.ai m' (λ_ _ e=>e)).ai (S:=Only (rb.getD (aY ks key) 0)) (ax.bA 0 _) (λb hb e=>by cases hb;exact hng e.symm))
  have HB2:ah (∀w',aa af w w'->au (w'.setCell ⟨rb.getD (aY ks key) 0,0,eL⟩ (vN)) m #[nm,c1,c2,c3,eS (eK ⟨g,0,eL⟩) (eJ ks) cap] 85):=λw' m'=>(hB.ai m' id).setOther (a:=⟨_,0,eL⟩) hne _;have HC:=aq hc;have hmg:¬Own (eS (eK ⟨g,0,eL⟩) (eJ ks) cap) m:=λe=>hkE m e rfl;clear hc hr hR hB hS hs hk hy hkp hkE;rw[hf];rw[hf]at HF;generalize ks.take (aL ks key)++ks.drop (aL ks key+1)=ks' at *;generalize strOf key=sk at *;generalize rb.getD (aY ks key) 0=G at *;generalize aL ks key=f at *;go_in;go_wp2_with fail;refine HF.o.mono ?_;rintro e w2 ⟨rfl,m2⟩;have y0:=HX.o w2 m2;have y1:=HC.o w2 m2;have bP:=aq m2;clear m2 HF HC HX;go_wp2_with fail;refine(HDI.o w2 bP.o).mono ?_;rintro e w3 ⟨rfl,rfl⟩;have hb3:=HB2.o w2 bP.o;have x4:=hb3.cell 4;have HB3:=aq hb3;have HD:=aq (HDE.o w2 bP.o);clear y0 y1 HB2 HDI HDE hb3;generalize hW3:w2.setCell ⟨G,0,eL⟩ (vN)=W3 at *;have HW3:=aq hW3;clear hW3;go_wp2_with fail;refine HD.o.mono ?_;rintro e w4 ⟨v',rfl,ho,hS',m4⟩;have hb4:=HB3.o.ai m4 hmg;obtain⟨o',cap',hv',_⟩:=hS'.view;subst hv';have z4:=hb4.cell 4;have zf:=hb4.frozen;have HR:ah (∃v' w1 wx,aa af w w1/\aa (Own (eS (eK ⟨g,0,eL⟩) (eJ ks) cap)) (w1.setCell ⟨G,0,eL⟩ (vN)) wx/\v'.ownBlock=(Value.slice (eK ⟨g,0,eL⟩) (eJ ks) cap).ownBlock/\Sl wx 148 2 v' (eJ ks') (ks'.flatMap (meC rb))/\w4.setCell ⟨m,4,eL⟩ (eS o' (eJ ks') cap')=wx.setCell ⟨m,4,eL⟩ v'):=⟨_,w2,w4,bP.o,HW3.o ▸ m4,ho,hS',rfl⟩
  clear hb4 ho hS' m4 HB3 HD HW3 bP x4;go_wp2_with fail;go_ret;exact⟨rfl,⟨λh=>absurd h (by decide),λ_=>HR.o⟩⟩
 ·have hf':aT ks key=fj:=by simpa using hf
  rw[hf'];rw[hf']at HF;clear hB hS hs hk hy hR hkp hkE hf hf';generalize strOf key=sk at *;generalize aL ks key=f at *;go_in;go_wp2_with fail;refine HF.o.mono ?_;rintro e w2 ⟨rfl,m2⟩;have bP:=aq m2;clear m2 HF;go_wp2_with fail;go_ret;exact⟨rfl,⟨λ_=>bP.o,λh=>absurd h (by decide)⟩⟩
set_option linter.all false
theorem Cl(s:tBA)(G:Nat):∀u∈[Value.string s,vP G],u.oneCell'=fR:=λu hu=>by
 simp only[cH,cx,or_false]at hu;rcases hu with rfl|rfl<;>rfl
theorem Nw{w:tW}{vb G:Nat}{s:tBA}(h:au w vb #[eR s,vP G] 148)(j:Nat)(u:fa)(hu:[Value.string s,vP G][j]?=eK u):w.cell? ((⟨vb,0,eL⟩:kh).add j)=eK u:=by rw[Addr.add_lit,Nat.zero_add,h.cell,<-Array.getElem?_toList];exact hu
theorem Xy(w:tW)(v:fa)(n:Nat)(xs:tLV)(vb G:Nat)(s:tBA)(hS:Sl w 148 2 v n xs)(hn:n<=1000)(hv:au w vb #[eR s,vP G] 148):fS prog 360 #[v,vI n,eS (eK ⟨vb,0,eL⟩) 1 1] w λe w'=>∃v',e=fW v'/\Sl w' 148 2 v' (n+1) (xs++[eR s,vP G])/\aa (λk=>v.ownBlock=eK k) w w'/\(∀k,v'.ownBlock=eK k->v.ownBlock=eK k\/w.heap.size<=k):=by
 obtain⟨iE,hiE,hzE,hsE,hbE⟩:=oY vT;obtain⟨o,cap,hvv,hh⟩:=hS.view;subst hvv
 have hcap:n<=cap:=by
  rcases hS.2 with⟨h,h0⟩ |⟨g,cap',cur,h,_,_,hn',_⟩
  ·omega
  ·cases h;exact hn'
 have HS:=aq hS;have HV:=aq (Nw hv);have hne:((1:Int)==0)=fj:=rfl;clear hS hh hv;by_cases hc:cap=n
 ·subst hc;go_in;go_upto_region 7 with fail;go_wp2_with (at_builtin;refine aQ _ rfl (.tmp 23) (.tmp 24) 83 rfl 148 iE (fY #[eR ⟨#[]⟩,vO]) 2 24 underlying83 hiE hzE hsE hbE rfl (by decide) (eS o cap cap) cap xs rfl HS.o ⟨vb,0,eL⟩ 1 1 [eR s,vP G] rfl rfl HV.o (Cl s G) (by unfold jz;omega) (by omega) (λv' w' h1 h2 h3=>?_));go_ret;exact⟨_,rfl,h1,h2,h3⟩
 ·have hc':¬n=cap:=λe=>hc e.symm;go_in;go_upto_region 7 with fail;go_wp2_with (at_builtin;refine aQ _ rfl (.tmp 23) (.tmp 24) 83 rfl 148 iE (fY #[eR ⟨#[]⟩,vO]) 2 24 underlying83 hiE hzE hsE hbE rfl (by decide) (eS o n cap) n xs rfl HS.o ⟨vb,0,eL⟩ 1 1 [eR s,vP G] rfl rfl HV.o (Cl s G) (by unfold jz;omega) (by omega) (λv' w' h1 h2 h3=>?_));go_ret;exact⟨_,rfl,h1,h2,h3⟩
theorem SL:(prog.info? 148).map (·.size)=eK 2:=by kernel_rfl
theorem mF(w:tW)(ty:ju)(g o dLen dCap:Nat)(a:kh)(sLen sCap:Nat)(cur:tAV)(cs:tLV)(hg:au w g cur 148)(hn:eJ cs=Nat.min sLen dLen*2)(hsrc:∀j v,cs[j]?=eK v->w.cell? (a.add j)=eK v) (hfit:o+eJ cs<=cur.size) (h1:∀v∈cs,v.oneCell'=fR):(Builtin.copy_ #[83,83] ty #[eS (eK ⟨g,o,eL⟩) dLen dCap,eS (eK a) sLen sCap]).run prog w = .ok (goInt (Nat.min sLen dLen)) (w.setRow g (cur.toList.take o++cs++cur.toList.drop (o+eJ cs)).toArray):=by
 have hl:=run_loadCells_list (P:=prog) w a cs hsrc;have hst:=run_storeCells_at prog g o 148 cs 0 cur w hg (by simpa using hfit) h1;have hs:=SL;cases hq:prog.info? 148 with
 |none=>rw[hq]at hs;cases hs
 |some i =>
  have hi:i.size=2:=by simpa [hq]using hs
  simp[Builtin.copy_,pB underlying83,Builtin.lenOf,Builtin.firstCells,sizeOf,rm,hq,hi,<-hn,hl,hst]
theorem BF{P:Program}{w:tW}{ops:Array iz}{rest:List iz}{o:iz}{a:Act}{Q:Exit->Act->tW->Prop}(hgd:o.guard=eL)(d s:Operand)(t:ju)(ho:o.op=.call {callee:=.builtin .copy,args:=#[d,s],argTypes:=#[t,t]}) (v u v':fa) (w':tW) (hs:a.eval d=v) (hx:a.eval s=u) (hr:(Builtin.copy_ #[t,t] o.type #[v,u]).run P w=.ok v' w')(h:n9 P ops Q rest (a.put o.dst v') w'):n9 P ops Q (o::rest) a w :=
 pP hgd λ_ hK=>by unfold Oper.wp execOp;simp only[ho,resolve,invoke,builtin,Sem.run_bind,Sem.run_pure,Result.andThen_ok,cY,List.map_cons,List.map_nil,hs,hx,hr];exact hK _ _ h
theorem au.shape{w:tW}{b:Nat}{cs:tAV}{t:ju}(h:au w b cs t):w.shape? b=eK (t,cs.size):=by unfold au at h;simp[World.shape?,h]
theorem Xz(w:tW):(Go.sizeOf 148).run prog w=.ok 2 w:=by obtain⟨i,hi,hz,hs,hb⟩:=oY vT;simp[Go.sizeOf,rm,hi,hs]
theorem aaK(w:tW)(vb g i lb cb:Nat)(cv cur:tAV)(hv:au w vb cv 148)(hg:au w g cur 148)(hne:vb≠g)(h0:cur.size≠0):(callFunc 374 #[eS (eK ⟨vb,0,eL⟩) 1 1,eS (eK ⟨g,i,eL⟩) lb cb]).run prog w=.ok (.value (fX fj)) w:=by
 rw[run_callFunc_extern func374 (by kernel_rfl) (by kernel_rfl) (by kernel_rfl) (e:=Extern.SlicesOverlaps.overlaps #[83,83] #[4]) (by kernel_rfl),
  Lib.run_overlaps_apart w 83 4 148 underlying83 2 Xz ⟨vb,0,eL⟩ ⟨g,i,eL⟩ 1 1 lb cb hne _ _ _ _ hv.shape hg.shape h0 (hv.frozen _) (hv.frozen _)]
 rfl
theorem SN(w:tW)(g n cap i vb G:Nat)(s:tBA)(cur R1 R2:tAV)(hg:au w g cur 148)(hi:i<n)(hn:n+1<=cap)(hm:cap<=jz)(hs:(n+1)*2<=cur.size)(h1:∀u∈cur.toList.take (n*2),u.oneCell'=fR)(hv:au w vb #[eR s,vP G] 148) (hne:vb≠g)(SQ:(cur.toList.take ((i+1)*2)++(cur.toList.drop (i*2)).take ((n-i)*2)++cur.toList.drop ((i+1)*2+eJ ((cur.toList.drop (i*2)).take ((n-i)*2)))).toArray=R1)(hR2:(R1.toList.take (i*2)++[Value.string s,vP G]++R1.toList.drop (i*2+2)).toArray=R2):fS prog 360 #[eS (eK ⟨g,0,eL⟩) n cap,vI i,eS (eK ⟨vb,0,eL⟩) 1 1] w λe w'=>e=fW (eS (eK ⟨g,0,eL⟩) (n+1) cap)/\au w' g R2 148/\aa (Only g) w w':=by
 have hmx:cap<=9223372036854775807:=hm;have hl:eJ ((cur.toList.drop (i*2)).take ((n-i)*2))=(n-i)*2:=by rw[ao,ba,ar];omega
 have hmin:Nat.min (n+1-i) (n+1-(i+1))=n-i:=by show min (n+1-i) (n+1-(i+1))=n-i;omega
 have hz1:R1.size=cur.size:=by rw[<-SQ];simp only[cj,bh,hl,ao,ba,ar];omega
 have Bk:ah (∀w',aa af w w'->∀ty c1 c2,(Builtin.copy_ #[83,83] ty #[eS (eK ⟨g,(i+1)*2,eL⟩) (n-i) c1,eS (eK ⟨g,i*2,eL⟩) (n+1-i) c2]).run prog w'=.ok (goInt ((n-i:Nat):Int)) (w'.setRow g R1)):=λw' m ty c1 c2=>by
  have:=mF w' ty g ((i+1)*2) (n+1-(i+1)) c1 ⟨g,i*2,eL⟩ (n+1-i) c2 cur ((cur.toList.drop (i*2)).take ((n-i)*2)) (hg.ai m id) (by rw[hl,hmin]) (λk u hu=>by
   rw[Addr.add_lit,(hg.ai m id).cell,<-Array.getElem?_toList];rw[List.getElem?_take]at hu;split at hu
   ·rw[List.getElem?_drop]at hu;exact hu
   ·cases hu) (by rw[hl];omega) (λu hu=>h1 u (by
    rw[cy]at hu;have e:i*2+(n-i)*2=n*2:=by omega
    rw[e]at hu;exact cG hu))
  rw[SQ,hmin,cD]at this;exact this
 have TD:ah (∀w' w'',aa af w w'->aa af (w'.setRow g R1) w''->∀ty c1,(Builtin.copy_ #[83,83] ty #[eS (eK ⟨g,i*2,eL⟩) (n+1-i) c1,eS (eK ⟨vb,0,eL⟩) 1 1]).run prog w''=.ok (goInt 1) (w''.setRow g R2)):=λw' w'' m m2 ty c1=>by
  have KO:Nat.min 1 (n+1-i)=1:=by show min 1 (n+1-i)=1;omega
  have hb:=((hg.ai m id).setRow R1).ai m2 id;have hbv:=((hv.ai m id).oD hne R1).ai m2 id;have:=mF w'' ty g (i*2) (n+1-i) c1 ⟨vb,0,eL⟩ 1 1 R1 [eR s,vP G] hb (by rw[KO];rfl) (Nw hbv) (by show i*2+2<=R1.size;omega) (Cl s G);rw[KO]at this;exact hR2 ▸ this
 have HOV:=aq (λw' (m:aa af w w') lb cb=>aaK w' vb g ((i+1)*2) lb cb _ cur (hv.ai m id) (hg.ai m id) hne (by omega));have Yx:=aq (λw' w'' (m:aa af w w') (m2:aa af (w'.setRow g R1) w'')=>(((hg.ai m id).setRow R1).ai m2 id).setRow R2);have hz2:¬((i:Int)=(n:Int)):=by omega
 have hc1:¬cap=i+1:=by omega
 have hc2:¬cap=i:=by omega
 have hgt:¬((cap:Int)<(n:Int)+1):=by omega
 have hov:=HOV.o w ax;clear hm hl hmin hz1 hg hv SQ hR2 h1 hs HOV;go_in;go_upto_region 15 with(simp only[hov])
 refine bK 8 (by kernel_rfl) (by kernel_rfl) ?_;intro W hW;simp only[cJ,List.take_zero,b9,List.drop_zero]
 repeat(go_big_quiet_step (fail))
 refine mS ?_;have HM:ah (aa af w W):=by rw[hW];exact aN
 clear hW hov;refine BF rfl (.tmp 73) (.tmp 76) 83 rfl (eS (eK ⟨g,(i+1)*2,eL⟩) (n-i) (cap-(i+1))) (eS (eK ⟨g,i*2,eL⟩) (n+1-i) (cap-i)) _ _ rfl rfl (Bk.o W HM.o _ _ _) ?_;have HMm:=aq (aa.setRow (S:=Only g) (HM.o.mono (λ_ _ h=>h.elim)) (.inl rfl) R1);have HC:=aq (λw'' m2=>TD.o W w'' HM.o m2);have HB:=aq (λw'' m2=>Yx.o W w'' HM.o m2);clear Bk TD Yx HM;generalize W.setRow g R1=W1 at *;simp only[Act.put,sA9,sB9,sC9];have hcp:=HC.o W1 ax;have HE:ah (au (W1.setRow g R2) g R2 148/\aa (Only g) w (W1.setRow g R2)):=⟨HB.o W1 ax,aa.setRow (S:=Only g) HMm.o (.inl rfl) R2⟩
 clear HC HB HMm;go_wp2_with fail;go_ret;exact⟨rfl,HE.o⟩
