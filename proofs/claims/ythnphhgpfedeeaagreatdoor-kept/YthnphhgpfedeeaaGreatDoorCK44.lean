import Derived.Test.YthnphhgpfedeeaaGreatDoorCK00
import Derived.Test.YthnphhgpfedeeaaGreatDoorCK37
namespace Go.Proofs.YthnphhgpfedeeaaGreatDoor
open Go.RowKit Tryz
open List renaming take_succ_eq_append_getElem->ab,getElem_mem->ao,length_append->ar,getElem_append_left->ba,take_of_length_le->bh,append_assoc->bj,take_length->bt,getElem_of_mem->b9,flatMap_cons->cq,length_take->cw,length_cons->cx,length_nil->cy,flatMap_append->cG,take_succ_cons->cH,drop_succ_cons->cI,foldl_append->cJ,size_toArray->cN,cons_append->cP,length->eJ
open Nat renaming le_refl->al,le_trans->b5,zero_le->cj,add_assoc->cD
open Bool renaming false->fj
open Decidable renaming decide->gh
open Ending renaming returned->fW
open Obj renaming cells->fL
open Option renaming some->eK,none->eL
open Value renaming agg->fY,slice->eS,tuple->jl,string->eR,bool->fX,pointer->ia
open _root_.Go renaming Value->fa,maxLen->jz,Calls->fS,bodyPost_ret->kx,Addr->kh,Program->lj,TypeId->ju,Oper->iz,Operand->pd,info_parts->oY,madeCells->rB
set_option linter.all false
set_option maxRecDepth 100000
set_option maxHeartbeats 2000000
theorem RQ(x:PI)(h:gm x):x.o.slots<=2:=by rcases h.slots with e|e<;>omega
def nK(kd:Nat)(s:tLB):List aB×List bz×PR :=
 let a:=dK 4 ⟨s,fj⟩
 let r1:=aO (a.1==[83,80,79,76]) a.2
 let b:=oneP r1
 let r2:=aO (gh (b.1=kd)) b.2
 let c:=oneP r2
 let m:=mapsP c.1 (aO (gh (c.1<=8)) c.2) [] []
 let f:=jU m.2
 (m.1,f.1,f.2)
theorem Kj{kd:Nat}{s:tLB}{a1:tLB}{q1 q2:PR}{n3:Nat}{q3 q4:PR}{ms:List aB}{q5:PR}{fs:List bz}{q6:PR}(h1:dK 4 ⟨s,fj⟩=(a1,q1))(h2:aO (a1==[83,80,79,76]) q1=q2)(h3:oneP q2=(n3,q3))(h4:aO (gh (n3=kd)) q3=q4)(h5:mapsP (oneP q4).1 (aO (gh ((oneP q4).1<=8)) (oneP q4).2) [] []=(ms,q5))(h6:jU q5=(fs,q6)):nK kd s=(ms,fs,q6):=by unfold nK;simp only[h1,h2,h3,h4,h5,h6]
theorem Wq(kd:Nat)(rk:FuncId)(en:∀args w,(callFunc rk args).run prog w=.ok (.enter rk args) w)(w:tW)(wT:tW)(tv:fa)(bs:tLN)(hT:aM 0 wT tv bs az)(mT:aa af wT w)(s:tLB)(hs:eJ s<=jz)(q7:PR)(hR:(eJ (nK kd s).1<=1000/\(nK kd s).2.1.length<=256/\(∀f∈(nK kd s).2.1,eJ f.code<=2000)/\(nK kd s).2.2.rest.length<=jz)->∀w b o1 c1 vF vs,eu w b (nK kd s).2.2->aa af wT w->wT.heap.size<=b->pR w wT.heap.size bs vF (nK kd s).2.1 vs->fS prog rk #[vP b,fY #[eS o1 (eJ (nK kd s).1) c1,vF]] w λe w'=>e=fW (jl #[])/\eu w' b q7/\aa (Only b) w w'):fS prog 61 #[tv,vI kd,eR (T s),.func (.func rk) #[] #[]] w λe w'=>mh w bs ((nK kd s).1,(nK kd s).2.1,aO (q7.rest==[]) q7) e w':=by
 obtain⟨oT,cT,hv,_⟩:=hT.sl.view;subst hv;have HT:=aq hT;have Ew:=aq mT;clear hT mT;have hTw:=Ew.o.size;obtain⟨a1,q1,h1⟩:∃a q,dK 4 ⟨s,fj⟩=(a,q):=⟨_,_,rfl⟩
 obtain⟨q2,h2⟩:∃q2,aO (a1==[83,80,79,76]) q1=q2:=⟨_,rfl⟩
 obtain⟨n3,q3,h3⟩:∃a q,oneP q2=(a,q):=⟨_,_,rfl⟩
 obtain⟨q4,h4⟩:∃q,aO (gh (n3=kd)) q3=q:=⟨_,rfl⟩
 obtain⟨ms,q5,h5⟩:∃a q,mapsP (oneP q4).1 (aO (gh ((oneP q4).1<=8)) (oneP q4).2) [] []=(a,q):=⟨_,_,rfl⟩
 obtain⟨fs,q6,h6⟩:∃a q,jU q5=(a,q):=⟨_,_,rfl⟩
 rw[Kj h1 h2 h3 h4 h5 h6]at hR ⊢;dsimp only at hR ⊢;have l1:eJ q1.rest<=jz:=by have:=take_len 4 ⟨s,fj⟩;rw[h1]at this;exact b5 this hs
 have l2:eJ q2.rest<=jz:=by rw[<-h2];exact l1
 have l3:eJ q3.rest<=jz:=by have:=gX q2;rw[h3]at this;exact b5 this l2
 have l4:eJ q4.rest<=jz:=by rw[<-h4];exact l3
 have l5:eJ q5.rest<=jz:=by have:=Aw (oneP q4).1 (aO (gh ((oneP q4).1<=8)) (oneP q4).2) [] [];rw[h5]at this;exact b5 this (b5 (gX q4) l4)
 have m5:eJ ms<=1000:=by have:=AA (oneP q4).1 (aO (gh ((oneP q4).1<=8)) (oneP q4).2) [] [];rw[h5]at this;have:=jW q4;simp at *;omega
 obtain⟨f6,c6,l6⟩:=Dv q5;rw[h6]at f6 c6 l6;simp only at f6 c6 l6;have l6':=b5 l6 l5;have C1:ah (∀w b,eu w b ⟨s,fj⟩->fS prog 97 #[vP b,vI 4] w λe w'=>e=fW (eR (T a1))/\eu w' b q1/\aa (Only b) w w'):=λw b h=>by have:=qd b ⟨s,fj⟩ 4 w h hs (by decide);rw[h1]at this;exact this
 have C2:=aq (λw b h=>by have:=dx b q1 (a1==[83,80,79,76]) w h;rw[h2]at this;exact this);have C3:ah (∀w b,eu w b q2->fS prog 98 #[vP b] w λe w'=>e=fW (vI n3)/\eu w' b q3/\aa (Only b) w w'):=λw b h=>by have:=l8 b q2 w h l2;rw[h3]at this;exact this
 have C4:ah (∀w b,eu w b q3->fS prog 96 #[vP b,fX ((n3:Int)==kd)] w λe w'=>e=fW (jl #[])/\eu w' b q4/\aa (Only b) w w'):=λw b h=>by
  have:=dx b q3 (gh (n3=kd)) w h;rw[h4]at this
  rwa [show((n3:Int)==kd)=gh (n3=kd) by rw[Bool.eq_iff_iff];simp;omega]
 have C5:ah (∀w b,eu w b q4->fS prog 99 #[vP b] w λe w'=>Di w b q5 ms e w'):=λw b h=>by have:=FC b q4 w h l4;rw[h5]at this;exact this
 have C6:ah (∀w b,eu w b q5->aa af wT w->wT.heap.size<=b->fS prog 100 #[vP b,eS oT (eJ bs) cT] w λe w'=>Az w b bs q6 fs e w'):=λw b h m hb=>by have:=FI w b q5 h l5 wT _ bs HT.o m hb;rw[h6]at this;exact this
 have C7:=aq (hR ⟨m5,f6,c6,l6'⟩);clear hR h1 h2 h3 h4 h5 h6 l1 l2 l3 l4 l5 l6 l6' m5 f6 c6 HT
 have D0:ah (BZ w ⟨s,fj⟩ ((w.alloc (fL #[vN,vN] 90)).alloc (fL #[eR (T s),fX fj] 194))) :=
  ⟨by have:=au.new (w.alloc (fL #[vN,vN] 90)) #[eR (T s),fX fj] 194;simpa [eu]using this,(au.new _ _ _).alloc _,aw.alloc _⟩
 have hcmp:((T a1).toList==[83,80,79,76])=(a1==[83,80,79,76]):=by simp[T]
 have hb:wT.heap.size<=w.heap.size+1:=by omega
 go_in;go_wp2_with fail;refine(C1.o _ _ D0.o.rd).mono ?_;rintro e w1 ⟨rfl,h1,m1⟩;have D1:=aq (D0.o.read h1 m1);clear D0 h1 m1;go_wp2_with fail;refine(C2.o _ _ D1.o.rd).mono ?_;rintro e w2 ⟨rfl,h2,m2⟩;have D2:=aq (D1.o.read h2 m2);clear D1 h2 m2;go_wp2_with fail;refine(C3.o _ _ D2.o.rd).mono ?_;rintro e w3 ⟨rfl,h3,m3⟩;have D3:=aq (D2.o.read h3 m3);clear D2 h3 m3;go_wp2_with fail;refine(C4.o _ _ D3.o.rd).mono ?_;rintro e w4 ⟨rfl,h4,m4⟩;have D4:=aq (D3.o.read h4 m4);clear D3 h4 m4;go_wp2_with fail;refine(C5.o _ _ D4.o.rd).mono ?_;rintro e w5 ⟨vM,rfl,hM⟩;obtain⟨oM,cM,rfl,_⟩:=hM.sl.view;have D5:=aq (D4.o.read hM.rd hM.md);have jo:=aq hM.sl;have HML:=aq hM.sl.lt;clear D4 hM;have VA:ah (BZ w q5 (w5.alloc (fL #[eS oM (eJ ms) cM,vN] 90))):=⟨au.alloc D5.o.rd _,D5.o.rs.alloc _,D5.o.md.alloc _⟩
 have HPb:=aq (au.new w5 #[eS oM (eJ ms) cM,vN] 90);have Mk:ah (Sl (w5.alloc (fL #[eS oM (eJ ms) cM,vN] 90)) 100 4 (eS oM (eJ ms) cM) (eJ ms) (ms.flatMap aB.cells)):=jo.o.ai ((aa.refl af _).alloc _) (λ_ _=>id);have h5s:=D5.o.rd.lt;clear D5 jo;go_wp2_with fail;refine(C6.o _ _ VA.o.rd (Ew.o.trans VA.o.md) hb).mono ?_;rintro e w6 ⟨vF,vs,rfl,h6,hF,m6⟩;obtain⟨oF,cF,rfl,_⟩:=hF.sl.view;have D6:=aq (VA.o.read h6 m6);have Dw:=aq (HPb.o.ai m6 (show ¬w5.heap.size=w.heap.size+1 by omega));have xW:=aq (Mk.o.ai m6 (λk hk e=>Mk.o.aA VA.o.rd (by decide) (hk.trans (congrArg eK e))));have ZZ:ah (pR w6 (w5.heap.size+1) bs (eS oF (eJ fs) cF) fs vs):=by have h':=hF;simp at h';exact h'
 clear h6 hF m6 VA HPb Mk;have y1:=Dw.o.c1;have f1:=Dw.o.frozen 1;have GX:ah (au (w6.setCell ⟨w5.heap.size,1,eL⟩ (eS oF (eJ fs) cF)) w5.heap.size #[eS oM (eJ ms) cM,eS oF (eJ fs) cF] 90):=Dw.o.set 1 _;have D7:ah (BZ w q6 (w6.setCell ⟨w5.heap.size,1,eL⟩ (eS oF (eJ fs) cF))):=⟨au.setOther D6.o.rd (show w5.heap.size≠w.heap.size+1 by omega) _,au.setOther D6.o.rs (show w5.heap.size≠w.heap.size by omega) _,D6.o.md.set (.inr (show w.heap.size<=w5.heap.size by omega)) _⟩
 have zw:ah (Sl (w6.setCell ⟨w5.heap.size,1,eL⟩ (eS oF (eJ fs) cF)) 100 4 (eS oM (eJ ms) cM) (eJ ms) (ms.flatMap aB.cells)):=xW.o.ai ((aa.refl (Only w5.heap.size) w6).bA _ _) (λk hk e=>xW.o.aA Dw.o (by decide) (hk.trans (congrArg eK e)));have HF7:ah (pR (w6.setCell ⟨w5.heap.size,1,eL⟩ (eS oF (eJ fs) cF)) (w5.heap.size+1) bs (eS oF (eJ fs) cF) fs vs):=ZZ.o.ai ((aa.refl (Only w5.heap.size) w6).bA _ _) (λk hk e=>by have:=ZZ.o.own k hk;have:k=w5.heap.size:=e;omega) (λu hu k hk e=>by have:=ZZ.o.ma u hu k hk;have:k=w5.heap.size:=e;omega);have z0:=GX.o.c0;have z1:=GX.o.c1;clear Dw xW ZZ D6;go_wp2_with fail;refine(C7.o _ _ _ _ _ vs D7.o.rd (Ew.o.trans D7.o.md) hb (HF7.o.lower (by omega))).mono ?_;rintro e w8 ⟨rfl,h8,m8⟩;have D8:=aq (D7.o.read h8 m8);have VB:=aq (GX.o.ai m8 (show ¬w5.heap.size=w.heap.size+1 by omega));have Iu:=aq (zw.o.ai m8 (λk hk e=>zw.o.aA D7.o.rd (by decide) (hk.trans (congrArg eK e))));have HF8:=aq (HF7.o.read D7.o.rd m8);clear h8 m8 D7 GX zw HF7 z0 z1 y1 f1;obtain⟨r7,b7⟩:=q7;have x0:w8.cell? ⟨w.heap.size+1,0,eL⟩=eK (eR (T r7)):=D8.o.rd.cell 0;go_wp2_with fail;refine(dx _ _ _ _ D8.o.rd).mono ?_;rintro e w9 ⟨rfl,h9,m9⟩;simp only;rw[show(T r7).toList=r7 by simp[T]]at h9;have D9:=aq (D8.o.read h9 m9);have VC:=aq (VB.o.ai m9 (show ¬w5.heap.size=w.heap.size+1 by omega));have HM9:=aq (Iu.o.ai m9 (λk hk e=>Iu.o.aA D8.o.rd (by decide) (hk.trans (congrArg eK e))));have HF9:=aq (HF8.o.read D8.o.rd m9);clear h9 m9 D8 VB Iu HF8 x0;have HQ:ah (∃q8,aO r7.isEmpty ⟨r7,b7⟩=q8):=⟨_,rfl⟩
 obtain⟨⟨r8,b8⟩,hq8⟩:=HQ.o;rw[hq8]at D9;have HQ8:=aq hq8;clear hq8 HQ;have x1:w9.cell? ⟨w.heap.size+1,1,eL⟩=eK (fX b8):=D9.o.rd.cell 1;have g0:=D9.o.rs.c0;have g1:=D9.o.rs.c1;have fg:=D9.o.rs.frozen;cases b8 with
 |true =>go_wp2_with fail;refine kx (ay results61 _ _ w.heap.size 90 _ (0,0) _ _ rfl rfl ((D9.o.rs.set 0 _).set 1 _) underlying90 rfl (by kernel_rfl)) rfl ?_;rw[HQ8.o];exact⟨_,_,[],rfl,(D9.o.md.set (.inr (al _)) _).set (.inr (al _)) _,⟨_,_,_,_,_,_,rfl,rfl⟩,λh=>(by cases h)⟩
 |false =>have z0:=VC.o.c0;have z1:=VC.o.c1;have HB:ah (au ((w9.setCell ⟨w.heap.size,0,eL⟩ (eS oM (eJ ms) cM)).setCell ⟨w.heap.size,1,eL⟩ (eS oF (eJ fs) cF)) w.heap.size #[eS oM (eJ ms) cM,eS oF (eJ fs) cF] 90):=(D9.o.rs.set 0 _).set 1 _;have fK:ah (aa (Only w.heap.size) w9 ((w9.setCell ⟨w.heap.size,0,eL⟩ (eS oM (eJ ms) cM)).setCell ⟨w.heap.size,1,eL⟩ (eS oF (eJ fs) cF))):=(ax.bA _ _).bA _ _;go_wp2_with fail;refine kx (ay results61 _ _ w.heap.size 90 _ (0,0) _ _ rfl rfl HB.o underlying90 rfl (by kernel_rfl)) rfl ?_;rw[HQ8.o];exact⟨_,_,vs,rfl,D9.o.md.step fK.o (λi hi e=>by have:i=w.heap.size:=e;omega),⟨_,_,_,_,_,_,rfl,rfl⟩,λ_=>⟨HM9.o.ai fK.o (λk hk e=>HM9.o.aA D9.o.rs (by decide) (hk.trans (congrArg eK e))),((HF9.o.ai fK.o (λk hk e=>by have:=HF9.o.own k hk;have:k=w.heap.size:=e;omega) (λu hu k hk e=>by have:=HF9.o.ma u hu k hk;have:k=w.heap.size:=e;omega)).lower (by omega))⟩⟩
def vg(k:Int)(n:Nat):Bool:=gh (0<=k)&&gh (k<n)
def aal(m f:Nat)(x:PI)(r:PR):PR:=if x.bD=1 then aO (vg x.num f) r else if x.bD=2 then aO (vg x.num m) r else r
def DS(m f:Nat)(l:List PI)(r:PR):PR:=l.foldl (λr x=>aal m f x r) r
def EV(m f:Nat)(l:List bz)(r:PR):PR:=l.foldl (λr g=>DS m f g.code r) r
theorem RS(m f:Nat)(l:List PI)(r:PR)(k:Nat)(h:k<eJ l):DS m f (l.take (k+1)) r=aal m f l[k] (DS m f (l.take k) r):=by unfold DS;rw[ab h,cJ];rfl
theorem RT(m f:Nat)(l:List bz)(r:PR)(k:Nat)(h:k<eJ l):EV m f (l.take (k+1)) r=DS m f l[k].code (EV m f (l.take k) r):=by unfold EV;rw[ab h,cJ];rfl
theorem MQ(w:tW)(o:Option kh)(n c:Nat)(k:Int)(h0:-2147483648<=k)(h1:k<=2147483647)(hn:n<=100000):fS prog 101 #[eS o n c,vJ k] w λe w'=>e=fW (fX (vg k n))/\w'=w:=by
 unfold vg;by_cases hk:0<=k
 ·rw[decide_eq_true hk,Bool.true_and];go_in;go_wp2_with fail;go_ret;exact⟨rfl,rfl⟩
 ·rw[decide_eq_false hk,Bool.false_and];go_in;go_wp2_with fail;go_ret;exact⟨rfl,rfl⟩
theorem MR(w:tW)(o:Option kh)(n c:Nat)(k:Int)(h0:-2147483648<=k)(h1:k<=2147483647)(hn:n<=100000):fS prog 102 #[eS o n c,vJ k] w λe w'=>e=fW (fX (vg k n))/\w'=w:=by
 unfold vg;by_cases hk:0<=k
 ·rw[decide_eq_true hk,Bool.true_and];go_in;go_wp2_with fail;go_ret;exact⟨rfl,rfl⟩
 ·rw[decide_eq_false hk,Bool.false_and];go_in;go_wp2_with fail;go_ret;exact⟨rfl,rfl⟩
structure vk(w:tW)(rb:Nat)(q:PR)(w':tW):Prop where
 rd:eu w' rb q
 md:aa (Only rb) w w'
theorem vk.quiet{w w' w'':tW}{rb:Nat}{q:PR}(h:vk w rb q w')(m:aa af w' w''):vk w rb q w'':=⟨h.rd.ai m id,h.md.trans (m.of_nil)⟩
theorem vk.read{w w' w'':tW}{rb:Nat}{q q':PR}(h:vk w rb q w')(hr:eu w'' rb q')(m:aa (Only rb) w' w''):vk w rb q' w'':=⟨hr,h.md.trans m⟩
theorem vk.fns{w w':tW}{rb lo:Nat}{q q0:PR}{bs:tLN}{v:fa}{fs:List bz}{vs:tLV}(h:vk w rb q w')(hr:eu w rb q0)(hF:pR w lo bs v fs vs):pR w' lo bs v fs vs :=
 hF.ai h.md (λk hk e=>hF.sl.aA hr (by decide) (hk.trans (congrArg eK e))) (λu hu k hk e=>by obtain⟨i,hi,rfl⟩:=b9 hu;exact(hF.cd i (by rw[<-hF.len];exact hi) hi).aA hr (by decide) (hk.trans (congrArg eK e)))
theorem Kk(wT w:tW)(tv:fa)(bs:tLN)(hT:aM 0 wT tv bs az)(mT:aa af wT w)(rb:Nat)(hrb:wT.heap.size<=rb)(q:PR)(hr:eu w rb q)(o1:Option kh)(ml c1:Nat)(Pk:ml<=1000)(vF:fa)(fs:List bz)(vs:tLV)(hF:pR w wT.heap.size bs vF fs vs)(hfl:eJ fs<=1000)(hcl:∀f∈fs,eJ f.code<=2000):fS prog 62 #[vP rb,fY #[eS o1 ml c1,vF]] w λe w'=>e=fW (jl #[])/\eu w' rb (EV ml (eJ fs) fs q)/\aa (Only rb) w w':=by
 obtain⟨oF,cF,kC,_⟩:=hF.sl.view;subst kC;have HF:=aq (λw' q' (h:vk w rb q' w')=>h.fns hr hF);have HT:=aq (λw' q' (h:vk w rb q' w')=>hT.ai (mT.step h.md (λi hi e=>by have e':i=rb:=e;omega)));have EU:=aq hcl;have TA:=aq hr.lt;have HB0:=aq (au.new w #[eS o1 ml c1,eS oF (eJ fs) cF] 90);have HN0:ah (vk w rb q (w.alloc (fL #[eS o1 ml c1,eS oF (eJ fs) cF] 90))):=(vk.quiet ⟨hr,ax⟩ aw)
 have G7:ah (∀w' q',vk (w.alloc (fL #[eS o1 ml c1,eS oF (eJ fs) cF] 90)) rb q' w'->w'.cell? ⟨w.heap.size,0,eL⟩=eK (eS o1 ml c1)/\w'.cell? ⟨w.heap.size,1,eL⟩=eK (eS oF (eJ fs) cF)):=λw' q' h=>by have hb:=HB0.o.ai h.md (show ¬w.heap.size=rb by have:=TA.o;omega);exact⟨hb.cell 0,hb.cell 1⟩
 clear hF hT mT hr hcl;have HWB:ah (aa (Only rb) w (w.alloc (fL #[eS o1 ml c1,eS oF (eJ fs) cF] 90))):=aw;go_in;go_wp2_with fail;generalize w.alloc (fL #[eS o1 ml c1,eS oF (eJ fs) cF] 90)=wB at *;generalize w.heap.size=B at *;go_loopg [11] (eJ fs) (λg iv wx=>∃i:Nat,iv=vI i/\vk wB rb (EV ml (eJ fs) (fs.take i) q) wx/\i<=eJ fs/\g=eJ fs-i)
 case atStart=>exact⟨0,rfl,⟨HN0.o.rd,ax⟩,cj _,rfl⟩
 case round =>
  obtain⟨i,rfl,hN,hi,rfl⟩:=hrel;have HN:=aq hN;clear hN;by_cases hil:i<eJ fs
  ·have Ex:=HF.o wr _ ⟨HN.o.rd,HWB.o.step HN.o.md (λ_ _ e=>e)⟩;have ES:i<eJ vs:=by rw[Ex.len];exact hil
   obtain⟨gF,rfl,c0,c1'⟩:=Ex.VF i hil ES;have qA:=Ex.cd i hil ES;have hcl:=EU.o fs[i] (ao hil);have xx:=aq (Ex.ok fs[i] (ao hil));have MK:ah (EV ml (eJ fs) (fs.take (i+1)) q=DS ml (eJ fs) fs[i].code (EV ml (eJ fs) (fs.take i) q)):=RT _ _ _ _ _ hil;generalize EV ml (eJ fs) (fs.take i) q=q1 at *;generalize fs[i]=f at *;generalize vs[i]=vC at *;obtain⟨nm,code⟩:=f;simp only at *;obtain⟨oC,cC,rfl,_⟩:=qA.view;have Rp:=aq qA;clear Ex qA;go_wp2_with fail;have dF:ah (aa af wr (wr.alloc (fL #[eR (T nm),eS oC (eJ code) cC] 96))):=aw;generalize wr.alloc (fL #[eR (T nm),eS oC (eJ code) cC] 96)=w2 at *;obtain⟨wQ,hwQ⟩:∃wQ,wQ=wr:=⟨_,rfl⟩
   rw[<-hwQ]at dF HN Rp;clear hwQ c0 c1';go_loopg [18] (eJ code) (λg iv wx=>∃j:Nat,iv=vI j/\vk wQ rb (DS ml (eJ fs) (code.take j) q1) wx/\j<=eJ code/\g=eJ code-j)
   case atStart=>exact⟨0,rfl,vk.quiet ⟨HN.o.rd,ax⟩ dF.o,cj _,rfl⟩
   case round =>
    obtain⟨j,rfl,hN2,hj,rfl⟩:=hrel;have Cr:=aq hN2;clear hN2;by_cases hjl:j<eJ code
    ·have hN1:=Cr.o;have HWQ:=aq ((HWB.o.trans HN.o.md).trans hN1.md);have ad6:=Rp.o.ai hN1.md (λk hk e=>Rp.o.aA HN.o.rd (by decide) (hk.trans (congrArg eK e)));obtain⟨g,rfl,hg,y0,y1,y2,y3,y4,y5,y6,y7⟩:=l9 ad6 rfl rfl j hjl;have hx:=xx.o code[j] (ao hjl);have HAT:=aq (λw' (m:aa af wr w')=>kF ((HT.o wr _ ⟨hN1.rd,HWQ.o⟩).ai m) code[j] hx.k);have HTC:ah (DS ml (eJ fs) (code.take (j+1)) q1=aal ml (eJ fs) code[j] (DS ml (eJ fs) (code.take j) q1)):=RS _ _ _ _ _ hjl;have HNI:ah (∀r,aal ml (eJ fs) code[j] r=if(if code[j].s=1 then code[j].o.bD else 0)=1 then aO (vg code[j].num (eJ fs)) r else if(if code[j].s=1 then code[j].o.bD else 0)=2 then aO (vg code[j].num ml) r else r):=λr=>rfl;rw[HNI.o]at HTC;have hrf:(if code[j].s=1 then code[j].o.bD else 0)<=1000:=by have:=hx.refs;split<;>omega
     have hn1:=hx.n;clear HNI hx ad6 hN1;generalize DS ml (eJ fs) (code.take j) q1=q2 at *;generalize code[j].o=o at *;generalize code[j].jump=jmp at *;generalize code[j].d=xd at *;generalize code[j].s=xs at *;generalize code[j].num=xn at *;generalize code[j].high=xh at *;generalize T code[j].name=xm at *;generalize bs[code[j].k]?.getD 0=bo at *;have Da:ah (∀w',aa af wr w'->fS prog 84 #[fY #[vP bo,vB xd,vB xs,.int .i16 jmp,vJ xn,vJ xh,eR ByteArray.empty,eR xm]] w' λe w2=>e=fW (vI ((if xs=1 then o.bD else 0:Nat):Int))/\aa af w' w2):=λw' m=>kG w' bo o (HAT.o w' m) xd xs xn xh jmp _ xm;generalize(if xs=1 then o.bD else 0)=rf at *;have hbx:=au.new wr #[vP bo,vB xd,vB xs,.int .i16 jmp,vJ xn,vJ xh,eR ByteArray.empty,eR xm] 138;have HMx:ah (aa af wr (wr.alloc (fL #[vP bo,vB xd,vB xs,.int .i16 jmp,vJ xn,vJ xh,eR ByteArray.empty,eR xm] 138))):=aw;go_wp2_with fail;refine(Da.o _ HMx.o).mono ?_;rintro e w5 ⟨rfl,m5⟩;have ji:=aq (hbx.ai m5 id);have HN5:=aq (Cr.o.quiet (HMx.o.trans m5));have z4:=ji.o.c4;have hbb:=G7.o w5 q2 ⟨HN5.o.rd,HN.o.md.trans HN5.o.md⟩;obtain⟨bb0,bb1⟩:=hbb;clear hbx m5 y0 y1 y2 y3 y4 y5 y6 y7 Da HAT HMx Cr;by_cases r1:rf=1
     ·subst r1;rw[iP9 rfl]at HTC;go_wp2_with fail;refine(MQ _ _ _ _ _ hn1.1 hn1.2 (by omega)).mono ?_;rintro e w6 ⟨rfl,rfl⟩;go_wp2_with fail;refine(dx rb q2 _ _ HN5.o.rd).mono ?_;rintro e w7 ⟨rfl,h7,m7⟩;have HN7:=aq (HN5.o.read h7 m7);clear h7 m7 z4 bb0 bb1 ji HN5;go_wp2_with fail;go_roundg (eJ code-(j+1))
      case measure=>omega
      case rel=>exact⟨j+1,by go_num,by rw[HTC.o];exact HN7.o,by omega,rfl⟩
     ·by_cases r2:rf=2
      ·subst r2;rw[iN9 (by decide),iP9 rfl]at HTC;go_wp2_with fail;refine(MR _ _ _ _ _ hn1.1 hn1.2 (by omega)).mono ?_;rintro e w6 ⟨rfl,rfl⟩;go_wp2_with fail;refine(dx rb q2 _ _ HN5.o.rd).mono ?_;rintro e w7 ⟨rfl,h7,m7⟩;have HN7:=aq (HN5.o.read h7 m7);clear h7 m7 z4 bb0 bb1 ji HN5;go_wp2_with fail;go_roundg (eJ code-(j+1))
       case measure=>omega
       case rel=>exact⟨j+1,by go_num,by rw[HTC.o];exact HN7.o,by omega,rfl⟩
      ·have d1:gh ((rf:Int)=1)=fj:=decide_eq_false (by omega);have d2:gh ((rf:Int)=2)=fj:=decide_eq_false (by omega);rw[iN9 r1,iN9 r2]at HTC;go_wp2_with fail;go_roundg (eJ code-(j+1))
       case measure=>omega
       case rel=>exact⟨j+1,by go_num,by rw[HTC.o];exact HN5.o,by omega,rfl⟩
    ·obtain rfl:j=eJ code:=by omega
     go_wp2_with fail;go_roundg (eJ fs-(i+1))
     case measure=>omega
     case rel =>refine⟨i+1,by go_num,?_,by omega,rfl⟩;have hN3:=Cr.o;rw[bh (al _)]at hN3;rw[MK.o];exact⟨hN3.rd,HN.o.md.trans hN3.md⟩
  ·obtain rfl:i=eJ fs:=by omega
   go_wp2_with fail;go_end0;have hN3:=HN.o;rw[bh (al _)]at hN3;exact⟨rfl,hN3.rd,HWB.o.trans hN3.md⟩
def gu(s:tLB):List aB×List bz×PR :=
 let a:=dK 4 ⟨s,fj⟩
 let r1:=aO (a.1==[83,80,79,76]) a.2
 let b:=oneP r1
 let r2:=aO (gh (b.1=2)) b.2
 let c:=oneP r2
 let m:=mapsP c.1 (aO (gh (c.1<=8)) c.2) [] []
 let f:=jU m.2
 let g:=EV (eJ m.1) (eJ f.1) f.1 f.2
 (m.1,f.1,aO (g.rest==[]) g)
theorem Kl(w:tW)(wT:tW)(tv:fa)(bs:tLN)(hT:aM 0 wT tv bs az)(mT:aa af wT w)(s:tLB)(hs:eJ s<=jz):fS prog 61 #[tv,vI 2,eR (T s),.func (.func 62) #[] #[]] w λe w'=>mh w bs (gu s) e w' :=
 Wq 2 62 (enters_of func62 (by kernel_rfl) rfl) w wT tv bs hT mT s hs (EV (eJ (nK 2 s).1) (eJ (nK 2 s).2.1) (nK 2 s).2.1 (nK 2 s).2.2) (fun⟨m5,f6,c6,_⟩ w b o1 c1 vF vs h m hb hF=>Kk wT w tv bs hT m b hb _ h o1 _ c1 m5 vF _ vs hF (by omega) c6)
theorem MS(w:tW)(wT:tW)(tv:fa)(bs:tLN)(hT:aM 0 wT tv bs az)(mT:aa af wT w)(s:tLB)(hs:eJ s<=jz):fS prog 36 #[tv,eR (T s)] w λe w'=>mh w bs (gu s) e w':=by
 have HD:=aq (λw' m=>Kl w' wT tv bs hT (mT.trans m) s hs);clear hT mT;generalize gu s=d at *;have hB:=au.new w #[vN,vN] 90;have HB:=aq hB;clear hB;go_in;go_wp2_with fail;refine(HD.o _ aw).mono ?_;rintro e w1 ⟨vM,vF,vs,rfl,m1,⟨oM,nM,cM,oF,nF,cF,rfl,rfl⟩,hgood⟩;have hB1:=HB.o.ai m1 id;have HB1:=aq hB1;have g0:=hB1.c0;have g1:=hB1.c1;have fg:=hB1.frozen;have bU:=aq (aw.trans m1);have HG:ah _:=hgood;clear m1 hB1 hgood;have fK:ah (aa (Only w.heap.size) w1 ((w1.setCell ⟨w.heap.size,0,eL⟩ (eS oM nM cM)).setCell ⟨w.heap.size,1,eL⟩ (eS oF nF cF))):=(ax.bA _ _).bA _ _;have GV:ah (au ((w1.setCell ⟨w.heap.size,0,eL⟩ (eS oM nM cM)).setCell ⟨w.heap.size,1,eL⟩ (eS oF nF cF)) w.heap.size #[eS oM nM cM,eS oF nF cF] 90):=(HB1.o.set 0 _).set 1 _;go_wp2_with fail;refine kx (ay results36 _ _ w.heap.size 90 _ (0,0) _ (fX (!d.2.2.bad)) rfl rfl GV.o underlying90 rfl (by kernel_rfl)) rfl ?_;refine⟨eS oM nM cM,eS oF nF cF,vs,rfl,bU.o.step fK.o (λi hi e=>by have:i=w.heap.size:=e;omega),⟨_,_,_,_,_,_,rfl,rfl⟩,λhb=>?_⟩;obtain⟨hM,hF⟩:=HG.o hb;have hws:(w.alloc (fL #[vN,vN] 90)).heap.size=w.heap.size+1:=by simp
 rw[hws]at hF;exact⟨hM.ai fK.o (λk hk e=>hM.aA HB1.o (by decide) (hk.trans (congrArg eK e))),(hF.ai fK.o (λk hk e=>by have:=hF.own k hk;have:k=w.heap.size:=e;omega) (λu hu k hk e=>by have:=hF.ma u hu k hk;have:k=w.heap.size:=e;omega)).lower (by omega)⟩
def CR(cs:tAV)(o:Nat)(vs:tLV):tAV:=(cs.toList.take o++vs++cs.toList.drop (o+eJ vs)).toArray
theorem Ws(cs:tAV)(o:Nat)(vs:tLV)(h:o+eJ vs<=cs.size):(CR cs o vs).size=cs.size:=by simp[CR];omega
theorem ab6(cs:tAV)(o:Nat)(vs:tLV)(h:o+eJ vs<=cs.size)(j:Nat)(hj:j<eJ vs):(CR cs o vs)[o+j]?=vs[j]?:=by unfold CR;rw[List.getElem?_toArray,List.getElem?_append_left (by simp;omega),List.getElem?_append_right (by simp;omega)];congr 1;simp;omega
theorem aam(cs:tAV)(o:Nat)(vs:tLV)(h:o+eJ vs<=cs.size)(j:Nat)(hj:j<o\/o+eJ vs<=j):(CR cs o vs)[j]?=cs[j]?:=by
 unfold CR;rw[List.getElem?_toArray];rcases hj with hj|hj
 ·rw[bj,List.getElem?_append_left (by simp;omega),List.getElem?_take_of_lt hj];simp
 ·rw[List.getElem?_append_right (by simp;omega),List.getElem?_drop];simp only[ar,cw,Array.length_toList,Array.getElem?_toList];congr 1;omega
theorem yx{P:lj}(w:tW)(g off:Nat)(t ty:ju)(old cells:tAV)(hg:w.heap[g]?=eK (fL old t (0,0)))(hi:(P.info? ty).map (·.size)=eK cells.size)(hle:off+cells.size<=old.size)(h1:cells.all (·.oneCell')=true):(storeVar ty ⟨g,off,eL⟩ (fY cells)).run P w=.ok () (w.setRow g (CR old off cells.toList)):=by
 have:=run_storeCells_at (P:=P) g off t cells.toList 0 old w hg (by simpa using hle) (λv hv=>by rw[Array.all_eq_true]at h1;obtain⟨i,hi',e⟩:=b9 hv;have:=h1 i (by simpa using hi');rw[<-e];simpa using this);cases hq:P.info? ty with
 |none=>simp[hq]at hi
 |some i =>
  have hs:cells.size=i.size:=by simp[hq]at hi;omega
  simp[storeVar,sizeOf,typeInfo,hq,Value.cells,hs,this,CR]
theorem DT{P:lj}{o:iz}{a:Act}{w:tW}{K:Act->tW->Prop}{Q:Exit->Act->tW->Prop}(ty:ju)(x y:pd)(ho:o.op=.store ty x y)(g off:Nat) (cells:tAV) (hx:a.eval x=ia (eK ⟨g,off,eL⟩)) (hy:a.eval y=fY cells)(t:ju) (old:tAV) (hg:w.heap[g]?=eK (fL old t (0,0))) (hi:(P.info? ty).map (·.size)=eK cells.size)(hle:off+cells.size<=old.size) (h1:cells.all (·.oneCell')=true)(h:K (a.put o.dst undef) (w.setRow g (CR old off cells.toList))):o.wp P a w K Q:=by unfold Oper.wp execOp;simp only[ho,hx,hy,Instr.storeAt,Instr.sureAddr,Sem.run_bind,Sem.run_pure,Result.andThen_ok,yx w g off t ty old cells hg hi hle h1];exact h
theorem yz{P:lj}{ops:Array iz}{rest:List iz}{o:iz}{a:Act}{w:tW}{Q:Exit->Act->tW->Prop}(hgd:o.guard=eL)(ty:ju)(x y:pd)(ho:o.op=.store ty x y)(g off:Nat) (cells:tAV) (hx:a.eval x=ia (eK ⟨g,off,eL⟩)) (hy:a.eval y=fY cells)(t:ju) (old:tAV) (hg:w.heap[g]?=eK (fL old t (0,0))) (hi:(P.info? ty).map (·.size)=eK cells.size)(hle:off+cells.size<=old.size) (h1:cells.all (·.oneCell')=true)(h:wpList P ops Q rest (a.put o.dst undef) (w.setRow g (CR old off cells.toList))):wpList P ops Q (o::rest) a w :=
 wpList_plain hgd λ_ hK=>DT ty x y ho g off cells hx hy t old hg hi hle h1 (hK _ _ h)
theorem au.CR{w:tW}{g:Nat}{cs:tAV}{t:ju}(h:au w g cs t)(o:Nat)(vs:tLV):au (w.setRow g (CR cs o vs)) g (Go.Proofs.YthnphhgpfedeeaaGreatDoor.CR cs o vs) t:=setRow_heap w g cs _ t (0,0) h
theorem BC{w:tW}{g:Nat}(cs:tAV):aa (Only g) w (w.setRow g cs) :=
 ⟨rfl,rfl,rfl,by simp[World.setRow],λk _ hk=>setRow_other w g k cs hk⟩
theorem RU(w:tW)(s:tBA)(hs:s.size<=281474976710656):fS prog 133 #[eR s] w λe w'=>e=fW (eR s)/\aa af w w' :=
 (Any.stringslite_Clone lcl s w hs).mono λ_ _ ⟨h1,h2⟩=>⟨h1,aa.of_below h2⟩
theorem MT(w:tW)(s:tBA)(hs:s.size<=281474976710656):fS prog 68 #[eR s] w λe w'=>e=fW (eR s)/\aa af w w':=by have H:=aq (RU w s hs);go_in;go_wp2_with fail;refine H.o.mono ?_;rintro e w1 ⟨rfl,m1⟩;go_wp2_with fail;go_ret;exact⟨rfl,m1⟩
theorem Km(w:tW)(s:tBA)(hs:s.size<=281474976710656):fS prog 38 #[eR s] w λe w'=>e=fW (eR s)/\aa af w w':=by have H:=aq (MT w s hs);go_in;go_wp2_with fail;refine H.o.mono ?_;rintro e w1 ⟨rfl,m1⟩;go_wp2_with fail;go_ret;exact⟨rfl,m1⟩
structure MV where
 so:Nat:=0
 bits:Nat:=0
 aD:Option Nat:=eL
 tab:Option Nat:=eL
def dI(n:Nat):MV:=⟨0,n,eL,eL⟩
def eY(r off:Nat):MV:=⟨2,off,eK r,eL⟩
def mmap(t:Nat):MV:=⟨1,0,eL,eK t⟩
def MV.eqB(a b:MV):Bool:=gh (a.so=b.so)&&gh (a.bits=b.bits)&&gh (a.aD=b.aD)&&gh (a.tab=b.tab)
def MV.cells(rb mb:tLN)(v:MV):tLV:=[vI v.so,vU v.bits,ia (v.aD.map λr=>⟨rb.getD r 0,0,eL⟩),ia (v.tab.map λt=>⟨mb.getD t 0,0,eL⟩)]
theorem MV.mX(rb mb:tLN)(v:MV):eJ (v.cells rb mb)=4:=rfl
structure jN where
 fn:Nat
 slot:Nat
 next:Nat
 regs:List MV
 oJ:Nat
def jN.cells(rb mb:tLN)(f:jN):tLV:=[vI f.fn,vI f.slot,vI f.next]++f.regs.flatMap (MV.cells rb mb)++[vP (rb.getD f.oJ 0)]
theorem vw(rb mb:tLN)(l:List MV):eJ (l.flatMap (MV.cells rb mb))=eJ l*4:=by
 induction l with
 |nil=>rfl
 |cons x l ih=>rw[cq,ar,ih,MV.mX,cx];omega
theorem jN.mX(rb mb:tLN)(f:jN)(h:eJ f.regs=11):eJ (f.cells rb mb)=48:=by unfold jN.cells;simp only[ar,vw,h,cx,cy]
structure aJ where
 calls:List jN:=[]
 fuel:Nat:=0
 used:Nat:=0
 log:tLN:=[]
 r0:Nat:=0
 ended:Bool:=fj
 inp:Nat:=0
def aJ.top(r:aJ):jN:=r.calls.getD (eJ r.calls-1) ⟨0,0,0,[],0⟩
def aJ.eO(r:aJ)(f:jN):aJ:={r with calls:=r.calls.set (eJ r.calls-1) f}
def aJ.aD(r:aJ)(n:Nat):MV:=r.top.regs.getD n {}
def aJ.eV(r:aJ)(n:Nat)(v:MV):aJ:=r.eO {r.top with regs:=r.top.regs.set n v}
structure aI(w:tW)(b:Nat)(rb mb:tLN)(vM vC vL:fa)(r:aJ):Prop where
 blk:au w b #[vM,vP (rb.getD r.inp 0),vC,vI r.fuel,vI r.used,vL,vU r.r0,fX r.ended] 125
 calls:Sl w 190 48 vC (eJ r.calls) (r.calls.flatMap (jN.cells rb mb))
 regs:∀f∈r.calls,eJ f.regs=11
 depth:eJ r.calls<=8
section
variable {w w' : World} {b : Nat} {rb mb : List Nat} {vM vC vL : fa} {r : aJ}
theorem aI.quiet(h:aI w b rb mb vM vC vL r)(m:aa af w w'):aI w' b rb mb vM vC vL r:=⟨h.blk.ai m id,h.calls.ai m (λ_ _=>id),h.regs,h.depth⟩
theorem jY{α:Type}(enc:α->tLV)(k:Nat):∀(l:List α),(∀x∈l,eJ (enc x)=k)->∀(i j:Nat) (hi:i<eJ l),j<k->(l.flatMap enc)[i*k+j]?=(enc l[i])[j]?
 |x::l,h,0,j,_,hj=>by rw[cq,List.getElem?_append_left (by rw[h x (by simp)];omega)];simp
 |x::l,h,i+1,j,hi,hj=>by have hx:=h x (by simp);rw[cq,List.getElem?_append_right (by rw[hx,Nat.add_mul];omega),hx];have:=jY enc k l (λy hy=>h y (by simp[hy])) i j (by simpa using hi) hj;rw[show(i+1)*k+j-k=i*k+j by rw[Nat.add_mul];omega,this];rfl
theorem aI.view(h:aI w b rb mb vM vC vL r)(hp:0<eJ r.calls):∃g cap,vC=eS (eK ⟨g,0,eL⟩) (eJ r.calls) cap/\r.top∈r.calls/\r.top.regs.length=11/\∀j,j<48->w.cell? ⟨g,(eJ r.calls-1)*48+j,eL⟩=(r.top.cells rb mb)[j]?:=by
 obtain⟨o,cap,hv,h2⟩:=h.calls.view;obtain⟨g,cs,rfl,hb,ht,_⟩:=h2 hp;have ht':r.top=r.calls[eJ r.calls-1]:=by unfold aJ.top;rw[List.getD_eq_getElem?_getD,List.getElem?_eq_getElem (by omega)];rfl
 have hm:r.top∈r.calls:=by rw[ht'];exact ao _
 refine⟨g,cap,hv,hm,h.regs _ hm,λj hj=>?_⟩;rw[aV hb ht _ (by omega),jY (jN.cells rb mb) 48 r.calls (λf hf=>jN.mX rb mb f (h.regs f hf)) (eJ r.calls-1) j (by omega) hj,ht']
end
theorem Ol(w:tW)(b:Nat)(rb mb:tLN)(vM vL:fa)(g cap:Nat)(r:aJ)(h:aI w b rb mb vM (eS (eK ⟨g,0,eL⟩) (eJ r.calls) cap) vL r)(hp:0<eJ r.calls):fS prog 95 #[vP b] w λe w'=>e=fW (ia (eK ⟨g,(eJ r.calls-1)*48,eL⟩))/\aa af w w':=by
 have x2:=h.blk.c2;have hd:=h.depth;have hi:((eJ r.calls:Int)-1)=((eJ r.calls-1:Nat):Int):=by omega
 have hlt:eJ r.calls-1<eJ r.calls:=by omega
 clear h;generalize eJ r.calls-1=k at *;generalize eJ r.calls=n at *;go_in;go_wp2_with fail;go_quiet (fail);have HM:ah (aa af w (w.drewN nq)):=ax.drewN nq;clear x2;generalize w.drewN nq=w1 at *;go_wp2_with fail;go_ret;exact⟨rfl,HM.o⟩
def atS:Nat->List PI->List (PI×Nat)
 |_,[]=>[]
 |s,x::l=>(x,s)::atS (s+x.o.slots) l
theorem Om:∀(l:List PI) (s:Nat) (x:PI),atS s (l++[x])=atS s l++[(x,s+aU l)]
 |[],s,x=>by simp[atS,aU]
 |y::l,s,x=>by
  rw[cP,atS,atS,Om l];have:aU (y::l)=y.o.slots+aU l:=by simp[aU]
  rw[this,cP,cD]
theorem Hr:∀(l:List PI) (s:Nat) (p:PI×Nat),p∈atS s l->p.1∈l
 |x::l,s,p,h=>by
  rw[atS]at h;rcases List.mem_cons.1 h with rfl|h
  ·simp
  ·have:=Hr l _ p h;simp[this]
structure nZ(w:tW)(bs:tLN)(g:Nat)(n:Nat)(l:List (PI×Nat)):Prop where
 ex:∃cs,au w g cs 138/\cs.size=n*8/\∀p∈l,∀c,c<8->cs[p.2*8+c]?=((p.1.ins bs).eQ)[c]?
theorem nZ.ai{S:Nat->Prop}{w w':tW}{bs:tLN}{g n:Nat}{l:List (PI×Nat)}(h:nZ w bs g n l)(m:aa S w w')(hS:¬S g):nZ w' bs g n l:=by obtain⟨cs,h1,h2⟩:=h.ex;exact⟨⟨cs,h1.ai m hS,h2⟩⟩
theorem MU:∀(l:List PI) (s:Nat) (p:PI×Nat),p∈atS s l->p.2+p.1.o.slots<=s+aU l
 |x::l,s,p,h=>by
  have e:aU (x::l)=x.o.slots+aU l:=by simp[aU]
  rw[atS]at h;rcases List.mem_cons.1 h with rfl|h
  ·simp only;omega
  ·have:=MU l _ p h;omega
theorem RV(l:List PI)(k:Nat):aU (l.take k)=fQ l k:=rfl
theorem Kn(w:tW)(tv:fa)(bs:tLN)(hO:aM 0 w tv bs az)(code:List PI)(hok:∀x∈code,gm x)(hl:eJ code<=10000)(vC:fa)(hC:Sl w 138 8 vC (eJ code) (fH bs code))(nm:tBA):fS prog 39 #[fY #[eR nm,vC]] w λe w'=>∃g,e=fW (eS (eK ⟨g,0,eL⟩) (aU code) (aU code))/\w.heap.size<=g/\nZ w' bs g (aU code) (atS 0 code)/\aa af w w':=by
 obtain⟨oC,cC,rfl,_⟩:=hC.view;have HO:=aq hO;have HC:=aq hC;have Eu:=aq hok;have JC:ah (∀k,fQ code k<=20000):=λk=>by have:=Ci code Eu.o k;omega
 have hsl:aU code<=20000:=by have:=JC.o (eJ code);rwa [fQ,bt]at this
 have Bl:=aq (λw' m=>Dx w' tv bs (hO.ai m) code hok hl _ (hC.ai m (λ_ _=>id)) nm);obtain⟨iP,hiP,sP,hsP,xz⟩:=oY yg
 have qz:=aq (λw'=>by
  have:=run_make (P:=prog) w' 73 138 iP _ underlying73 hiP sP .i64 .i64 (aU code:Nat) (aU code:Nat) (by omega) (by omega) (by rw[xz];omega) (by omega);rw[hsP]at this
  simpa [Value.cells]using this)
 have eW:ah (aa af w (w.alloc (fL #[eR nm,eS oC (eJ code) cC] 96))):=aw;have HB0:=aq (au.new w #[eR nm,eS oC (eJ code) cC] 96);clear hO hC hok;go_in;go_wp2_with fail;refine(Bl.o _ eW.o).mono ?_;rintro e w1 ⟨rfl,m1⟩;have hB1:=HB0.o.ai m1 id;have bU:=aq (eW.o.trans m1);have hmk:=qz.o w1;have HN:ah (aU code=fQ code (eJ code)):=by rw[ah,fQ,bt];rfl
 generalize hn:aU code=n at *;have EG:=aq hn;clear hn;have HG:=aq bU.o.size;have HB2:=aq (au.new w1 (rB Z8 (n*8)) 138);have bP:=aq (bU.o.alloc (fL (rB Z8 (n*8)) 138));have HZ:ah ((rB Z8 (n*8)).size=n*8):=size_madeCells _ _;have b1:(w1.alloc (fL (rB Z8 (n*8)) 138)).cell? ⟨w.heap.size,1,eL⟩=eK (eS oC (eJ code) cC):=(hB1.alloc _).cell 1;generalize rB Z8 (n*8)=cs0 at *;go_upto_block 0 with fail;generalize w1.alloc (fL cs0 138)=w2 at *;generalize w1.heap.size=G at *;have HW2:ah (nZ w2 bs G n []/\w.heap.size<=G):=⟨⟨⟨cs0,HB2.o,HZ.o,λp h=>by cases h⟩⟩,HG.o⟩
 clear HB2 HZ hB1 qz hmk m1 bU HB0 eW Bl HG;go_cut [4] (λ_ wx=>nZ wx bs G n (atS 0 code)/\aa af w wx)
 case first =>
  go_wp2_with fail;clear b1;go_loopg [4,13] (eJ code) (λq sv iv wx=>∃k:Nat,iv=vI k/\sv=vI (fQ code k)/\nZ wx bs G n (atS 0 (code.take k))/\aa af w wx/\k<=eJ code/\q=eJ code-k)
  case atStart=>exact⟨0,rfl,rfl,HW2.o.1,bP.o,cj _,rfl⟩
  case round =>
   obtain⟨k,rfl,rfl,hB,hM,hk,rfl⟩:=hrel;have HB:=aq hB;have HM:=aq hM;clear hB hM;by_cases hlt:k<eJ code
   ·have PE:=aq (wy code k hlt);have HAt:ah (atS 0 (code.take (k+1))=atS 0 (code.take k)++[(code[k],fQ code k)]):=by rw[ah,ab hlt,Om,Nat.zero_add];rfl
    have hmono:fQ code (k+1)<=n:=by
     rw[HN.o,fQ,fQ,bt];have:=List.take_append_drop (k+1) code
     conv=>rhs;rw[<-this,List.map_append,List.sum_append]
     omega
    rw[PE.o]at hmono;obtain⟨g,rfl,hg,q0,q1,q2,q3,q4,q5,q6,q7⟩:=l9 (HC.o.ai HM.o (λ_ _=>id)) rfl rfl k hlt;have hx:=Eu.o code[k] (ao hlt);have HAT:=aq (λw' (m:aa af w w')=>kF (HO.o.ai m) code[k] hx.k);have VI:ah (∀p∈atS 0 (code.take k),p.2+1<=fQ code k):=λp hp=>by have h1:=MU _ _ p hp;have h2:=(Eu.o p.1 (List.mem_of_mem_take (Hr _ _ p hp))).slots;rw[RV]at h1;omega
    have hsum:=JC.o k;have hsl2:=hx.slots;have EU:ah ((code[k].ins bs).eQ=[vP (bs[code[k].k]?.getD 0),vB code[k].d,vB code[k].s,.int .i16 code[k].jump,vJ code[k].num,vJ code[k].high,eR ByteArray.empty,eR (T code[k].name)]):=rfl;clear hx;generalize code[k].o=o at *;generalize code[k].jump=jmp at *;generalize code[k].d=xd at *;generalize code[k].s=xs at *;generalize code[k].num=xn at *;generalize code[k].high=xh at *;generalize T code[k].name=xm at *;generalize bs[code[k].k]?.getD 0=b at *;obtain⟨cs,hbk,hsz,hcs⟩:=HB.o.ex;have HBK:ah (au (wr.alloc (fL #[vP b,vB xd,vB xs,.int .i16 jmp,vJ xn,vJ xh,eR ByteArray.empty,eR xm] 138)) G cs 138):=hbk.alloc _;have jI:=aq hcs;have TG:=aq hsz;have HX:=aq (au.new wr #[vP b,vB xd,vB xs,.int .i16 jmp,vJ xn,vJ xh,eR ByteArray.empty,eR xm] 138);have Gr:=aq (HM.o.alloc (fL #[vP b,vB xd,vB xs,.int .i16 jmp,vJ xn,vJ xh,eR ByteArray.empty,eR xm] 138));have HGX:=aq hbk.lt;clear hbk hcs hsz HB HM;generalize fQ code k=sk at *;have hlt2:sk<n:=by omega
    go_upto_region 6 with fail;generalize hwa:wr.alloc (fL #[vP b,vB xd,vB xs,.int .i16 jmp,vJ xn,vJ xh,eR ByteArray.empty,eR xm] 138)=wa at *;generalize wr.heap.size=X at *;have x0:=HX.o.c0;have x1:=HX.o.c1;have x2:=HX.o.c2;have x3:=HX.o.c3;have x4:=HX.o.c4;have x5:=HX.o.c5;have x6:=HX.o.c6;have x7:=HX.o.c7;go_upto_region 7 with(refine yz rfl 138 (.tmp 20) (.tmp 19) rfl G (sk*8) #[vP b,vB xd,vB xs,.int .i16 jmp,vJ xn,vJ xh,eR ByteArray.empty,eR xm] rfl rfl 138 cs HBK.o (by kernel_rfl) (by have:=TG.o;simp;omega) (by simp[Value.oneCell']) ?_)
    have VS:ah (au (wa.setRow G (CR cs (sk*8) (#[vP b,vB xd,vB xs,.int .i16 jmp,vJ xn,vJ xh,eR ByteArray.empty,eR xm]:tAV).toList)) G (CR cs (sk*8) (#[vP b,vB xd,vB xs,.int .i16 jmp,vJ xn,vJ xh,eR ByteArray.empty,eR xm]:tAV).toList) 138):=HBK.o.CR _ _;have Es:ah (aa (Only G) wa (wa.setRow G (CR cs (sk*8) (#[vP b,vB xd,vB xs,.int .i16 jmp,vJ xn,vJ xh,eR ByteArray.empty,eR xm]:tAV).toList))):=BC _;generalize wa.setRow G (CR cs (sk*8) (#[vP b,vB xd,vB xs,.int .i16 jmp,vJ xn,vJ xh,eR ByteArray.empty,eR xm]:tAV).toList)=w3 at *;have dF:=aq (Gr.o.step Es.o (λi hi e=>by have e':i=G:=e;have:=HW2.o.2;omega));have z0:=(HX.o.ai Es.o (show ¬X=G by have:=HGX.o;omega)).c0;obtain⟨y2,_,_,_⟩:=(HAT.o w3 dF.o).cells
    have Ho:ah (nZ w3 bs G n (atS 0 (code.take (k+1)))):=by
     refine⟨⟨_,VS.o,?_,λp hp c hc=>?_⟩⟩
     ·rw[Ws _ _ _ (by have:=TG.o;simp;omega)];exact TG.o
     ·rw[HAt.o]at hp;have hle:sk*8+eJ (#[vP b,vB xd,vB xs,.int .i16 jmp,vJ xn,vJ xh,eR ByteArray.empty,eR xm]:tAV).toList<=cs.size:=by have:=TG.o;simp;omega
      rcases List.mem_append.1 hp with hp|hp
      ·have:=VI.o p hp;rw[aam _ _ _ hle _ (.inl (by omega))];exact jI.o p hp c hc
      ·rw[List.mem_singleton.1 hp];rw[ab6 _ _ _ hle c (by simpa using hc),EU.o]
    clear x0 x1 x2 x3 x4 x5 x6 x7 VS Es HX HBK jI TG Gr HAT q0 q1 q2 q3 q4 q5 q6 q7;generalize o.slots=os at *;go_wp2_with fail;go_roundg (eJ code-(k+1))
    case measure=>omega
    case rel=>exact⟨k+1,by go_num,by rw[PE.o];go_num,Ho.o,dF.o,by omega,rfl⟩
   ·obtain rfl:k=eJ code:=by omega
    rw[bt]at HB;go_wp2_with fail;go_meet;exact⟨HB.o,HM.o⟩
 case rest =>
 obtain⟨hB,hM⟩:=hcut;go_wp2_with fail;go_ret;exact⟨G,by rw[EG.o];rfl,HW2.o.2,by rw[EG.o];exact hB,hM⟩
theorem MW(w:tW)(s:tBA)(k v n:Int):fS prog 40 #[eR s,vI k,vI v,vI n] w λe w'=>e=fW (vP (w.heap.size))/\w'=w.alloc (fL #[eR s,vI k,vI v,vI n,vN] 85):=by go_in;go_wp2_with fail;go_ret;exact⟨rfl,rfl⟩
def FV(x:bz×Nat):tLV:=[eR (T x.1.name),eS (eK ⟨x.2,0,eL⟩) (aU x.1.code) (aU x.1.code)]
def RW(b:Nat):tLV:=[vP b]
structure og(w0:tW)(bs:tLN)(b:Nat)(vF vM:fa)(fs:List bz)(gs:tLN)(ms:List aB)(mb:tLN)(w:tW):Prop where
 blk:au w b #[vJ 0,.int .u32 0,vF,vM] 71
 lf:eJ gs=eJ fs
 wY:Sl w 75 2 vF (eJ fs) ((fs.zip gs).flatMap FV)
 code:∀i (h:i<eJ fs) (h':i<eJ gs),nZ w bs gs[i] (aU fs[i].code) (atS 0 fs[i].code)
 lm:eJ mb=eJ ms
 uW:Sl w 82 1 vM (eJ ms) (mb.flatMap RW)
 maps:∀i (h:i<eJ ms) (h':i<eJ mb),au w mb[i] #[eR (T ms[i].name),vI ms[i].key,vI ms[i].value,vI ms[i].entries,vN] 85
 lo:w0.heap.size<=b
 pG:∀k,vF.ownBlock=eK k->w0.heap.size<=k
 pF:∀k,vM.ownBlock=eK k->w0.heap.size<=k
 ma:∀g∈gs,w0.heap.size<=g
 ownB:∀g∈mb,w0.heap.size<=g
 nd:mb.Nodup
 md:aa af w0 w
section
variable {w0 w w' : World} {bs : List Nat} {b : Nat} {vF vM v' : fa} {fs : List bz} {gs mb : List Nat} {ms : List aB}
theorem og.quiet(h:og w0 bs b vF vM fs gs ms mb w)(m:aa af w w'):og w0 bs b vF vM fs gs ms mb w' :=
 ⟨h.blk.ai m id,h.lf,h.wY.ai m (λ_ _=>id),λi a c=>(h.code i a c).ai m id,h.lm,h.uW.ai m (λ_ _=>id),λi a c=>(h.maps i a c).ai m id,h.lo,h.pG,h.pF,h.ma,h.ownB,h.nd,h.md.trans m⟩
theorem au.neq{w:tW}{a b:Nat}{cs ds:tAV}{t u:ju}(h:au w a cs t)(k:au w b ds u)(hn:t≠u):a≠b:=λe=>by
 subst e;have h1:w.heap[a]?=eK (fL cs t (0,0)):=h;have h2:w.heap[a]?=eK (fL ds u (0,0)):=k;rw[h1]at h2;injection h2 with h2;injection h2 with _ h3 _;exact hn h3
theorem og.func(h:og w0 bs b vF vM fs gs ms mb w)(f:bz)(g:Nat)(hg:nZ w bs g (aU f.code) (atS 0 f.code))(hlo:w0.heap.size<=g)(s:Sl w' 75 2 v' (eJ fs+1) ((fs.zip gs).flatMap FV++FV (f,g)))(m:aa (λk=>vF.ownBlock=eK k) w w')(l:∀k,v'.ownBlock=eK k->vF.ownBlock=eK k\/w.heap.size<=k):au w' b #[vJ 0,.int .u32 0,vF,vM] 71/\og w0 bs b v' vM (fs++[f]) (gs++[g]) ms mb (w'.setCell ⟨b,2,eL⟩ v'):=by
 have hB:=h.blk.ai m (λe=>h.wY.aA h.blk (by decide) e);refine⟨hB,?_⟩;have mP:aa (Only b) w' (w'.setCell ⟨b,2,eL⟩ v'):=ax.bA _ _;have hC:∀{g n:Nat} {l:List (PI×Nat)},nZ w bs g n l->nZ (w'.setCell ⟨b,2,eL⟩ v') bs g n l:=fun{g n l} hb=>by obtain⟨cs,hk,_⟩:=hb.ex;have h1:=hb.ai m (λe=>h.wY.aA hk (by decide) e);obtain⟨cs',hk',_⟩:=h1.ex;exact h1.ai mP (λe=>(au.neq hk' hB (by decide)) e)
 have hM:=λi a c=>by have h1:=(h.maps i a c).ai m (λe=>h.wY.aA (h.maps i a c) (by decide) e);exact h1.ai mP (λe=>(au.neq h1 hB (by decide)) e)
 have hs:=s.ai mP (λk hk e=>s.aA hB (by decide) (hk.trans (congrArg eK e)));have hms:=h.uW.ai m (λk hk e=>h.uW.apart h.wY (by decide) hk e);refine⟨hB.set 2 v',by simp[h.lf],?_,λi a c=>?_,h.lm,hms.ai mP (λk hk e=>hms.aA hB (by decide) (hk.trans (congrArg eK e))),hM,h.lo,λk hk=>?_,h.pF,λx hx=>?_,h.ownB,h.nd,?_⟩
 ·rw[List.zip_append h.lf.symm,cG,ar]
  simpa using hs
 ·by_cases hi:i<eJ fs
  ·have hi':i<eJ gs:=by rw[h.lf];exact hi
   simp only[ba hi,ba hi'];exact hC (h.code i hi hi')
  ·have e1:i=eJ fs:=by simp at a;omega
   have e3:(fs++[f])[i]=f:=by subst e1;simp
   have e4:(gs++[g])[i]=g:=by subst e1;simp[<-h.lf]
   rw[e3,e4];exact hC hg
 ·rcases l k hk with e|e
  ·exact h.pG k e
  ·have:=h.md.size;omega
 ·rcases List.mem_append.1 hx with hx|hx
  ·exact h.ma x hx
  ·rw[List.mem_singleton.1 hx];exact hlo
 ·refine(h.md.step m (λi hi e=>by have:=h.pG i e;omega)).step mP (λi hi e=>?_);have e':i=b:=e;have:=h.lo;omega
theorem og.map(h:og w0 bs b vF vM fs gs ms mb w)(x:aB)(g:Nat)(hg:au w g #[eR (T x.name),vI x.key,vI x.value,vI x.entries,vN] 85)(hlo:w0.heap.size<=g)(hnew:g ∉ mb)(s:Sl w' 82 1 v' (eJ ms+1) (mb.flatMap RW++RW g))(m:aa (λk=>vM.ownBlock=eK k) w w')(l:∀k,v'.ownBlock=eK k->vM.ownBlock=eK k\/w.heap.size<=k):au w' b #[vJ 0,.int .u32 0,vF,vM] 71/\og w0 bs b vF v' fs gs (ms++[x]) (mb++[g]) (w'.setCell ⟨b,3,eL⟩ v'):=by
 have hB:=h.blk.ai m (λe=>h.uW.aA h.blk (by decide) e);refine⟨hB,?_⟩;have mP:aa (Only b) w' (w'.setCell ⟨b,3,eL⟩ v'):=ax.bA _ _;have hC:∀{g n:Nat} {l:List (PI×Nat)},nZ w bs g n l->nZ (w'.setCell ⟨b,3,eL⟩ v') bs g n l:=fun{g n l} hb=>by obtain⟨cs,hk,_⟩:=hb.ex;have h1:=hb.ai m (λe=>h.uW.aA hk (by decide) e);obtain⟨cs',hk',_⟩:=h1.ex;exact h1.ai mP (λe=>(au.neq hk' hB (by decide)) e)
 have hM:∀{g:Nat} {cs:tAV},au w g cs 85->au (w'.setCell ⟨b,3,eL⟩ v') g cs 85:=fun{g cs} hb=>by have h1:=hb.ai m (λe=>h.uW.aA hb (by decide) e);exact h1.ai mP (λe=>(au.neq h1 hB (by decide)) e)
 have hs:=s.ai mP (λk hk e=>s.aA hB (by decide) (hk.trans (congrArg eK e)));have hfs:=h.wY.ai m (λk hk e=>h.wY.apart h.uW (by decide) hk e);refine⟨hB.set 3 v',h.lf,hfs.ai mP (λk hk e=>hfs.aA hB (by decide) (hk.trans (congrArg eK e))),λi a c=>hC (h.code i a c),by simp[h.lm],?_,λi a c=>?_,h.lo,h.pG,λk hk=>?_,h.ma,λy hy=>?_,?_,?_⟩
 ·rw[cG,ar]
  simpa using hs
 ·by_cases hi:i<eJ ms
  ·have hi':i<eJ mb:=by rw[h.lm];exact hi
   simp only[ba hi,ba hi'];exact hM (h.maps i hi hi')
  ·have e1:i=eJ ms:=by simp at a;omega
   have e3:(ms++[x])[i]=x:=by subst e1;simp
   have e4:(mb++[g])[i]=g:=by subst e1;simp[<-h.lm]
   rw[e3,e4];exact hM hg
 ·rcases l k hk with e|e
  ·exact h.pF k e
  ·have:=h.md.size;omega
 ·rcases List.mem_append.1 hy with hy|hy
  ·exact h.ownB y hy
  ·rw[List.mem_singleton.1 hy];exact hlo
 ·rw[List.nodup_append];refine⟨h.nd,by simp,λa ha c hc e=>?_⟩;rw[List.mem_singleton.1 hc]at e;exact hnew (e ▸ ha)
 ·refine(h.md.step m (λi hi e=>by have:=h.pF i e;omega)).step mP (λi hi e=>?_);have e':i=b:=e;have:=h.lo;omega
end
theorem RX:(prog.info? 75).map (λi=>(i.zero,i.size,i.bytes))=eK (eK (fY #[eR ByteArray.empty,vN]),2,40):=by kernel_rfl
theorem RY:(prog.info? 82).map (λi=>(i.zero,i.size,i.bytes))=eK (eK (vO),1,8):=by kernel_rfl
theorem FW:∀(l pre z:tLV),eJ z=eJ l->(l.zipIdx (eJ pre)).foldl (λ(cs:tAV) x=>cs.setIfInBounds (0+x.2) x.1) (pre++z).toArray=(pre++l).toArray
 |[],pre,z,h=>by have :=List.length_eq_zero_iff.1 h;subst this;rfl
 |a::l,pre,[],h=>by cases h
 |a::l,pre,b::z,h=>by
  rw[List.zipIdx_cons,List.foldl_cons];have e:((pre++b::z).toArray.setIfInBounds (0+eJ pre) a)=((pre++[a])++z).toArray:=by rw[Nat.zero_add,List.setIfInBounds_toArray,List.set_append_right _ _ (al _),Nat.sub_self,List.set_cons_zero,bj];rfl
  have ih:=FW l (pre++[a]) z (by simpa using h);rw[ar,List.length_singleton]at ih;show(l.zipIdx (eJ pre+1)).foldl _ ((pre++b::z).toArray.setIfInBounds (0+eJ pre) a)=_
  rw[e,ih,bj];rfl
theorem RZ(n:Nat)(cs z:tAV)(hc:cs.size=n)(hz:z.size=n):Instr.fill (λi=>eK (i*n,n)) z [(0,fY cs)]=eK cs:=by
 obtain⟨l⟩:=cs;obtain⟨m⟩:=z;simp only[cN]at hc hz;have h:=FW l [] m (by omega);have hcl:(Value.agg l.toArray).cells=l.toArray:=rfl;simp only[Instr.fill,hcl,cN,hc,hz];rw[iN9 (by simp)];simp only[List.nil_append,cy]at h
 simpa using h
theorem xI{P:lj}{o:iz}{a:Act}{w:tW}{K:Act->tW->Prop}{Q:Exit->Act->tW->Prop}(t e:ju)(n:Nat)(x:pd)(ho:o.op=.buildSlice t 1 #[(0,x)])(cs:tAV)(hx:a.eval x=fY cs)(hn:cs.size=n)(i:TypeInfo)(z:fa)(hu:P.underlying t=eK (.slice e)) (hi:P.info? e=eK i) (hz:i.zero=eK z) (hs:i.size=n) (h0:0<n) (h1:n<=1000)(h:K (a.put o.dst (eS (eK ⟨w.heap.size,0,eL⟩) 1 1)) (w.alloc (fL cs e))):o.wp P a w K Q:=by refine wp_buildSlice t e 1 _ ho cs i z hu hi hz (by rw[hs];omega) (by rw[hs];omega) ?_ h;rw[hs];simp only[List.map_toArray,List.map_cons,List.map_nil,hx];exact RZ n _ _ hn (by simp)
def zI(w:tW)(d:List aB×List bz×PR)(e:Ending)(w':tW):Prop :=
 if d.2.2.bad then e=fW (jl #[vO,vI 7])/\aa af w w'
 else ∃bs b vF vM gs mb tv wT,e=fW (jl #[vP b,vI 0])/\aM 0 wT tv bs az/\aa af w wT/\(∀f∈d.2.1,∀x∈f.code,gm x)/\og wT bs b vF vM d.2.1 gs d.1 mb w'
theorem Wt(w:tW)(hW:uS w)(s:tLB)(hs:eJ s<=jz)(hok:(gu s).2.2.bad=fj->(∀f∈(gu s).2.1,eJ f.name<=255/\f.code.length<=2000)/\(∀m∈(gu s).1,eJ m.name<=255/\m.key<256/\m.value<256/\m.entries<256)/\(gu s).2.1.length<=1000/\(gu s).1.length<=1000):fS prog 22 #[eR (T s)] w λe w'=>zI w (gu s) e w':=by
 have ad7:=aq (Ah w hW);have ad8:=aq (λwT tv bs hT=>MS wT wT tv bs hT ax s hs);have xx:ah _:=hok;clear hW hok;generalize gu s=d at *;obtain⟨ms,fs,⟨rst,bad⟩⟩:=d;unfold zI;simp only at *;go_in;go_wp2_with fail;refine ad7.o.mono ?_;rintro e w1 ⟨tv,bs,rfl,hO,m1⟩;obtain⟨oT,cT,hv,_⟩:=hO.sl.view;subst hv;have HO:=aq hO;have bU:=aq m1;clear hO m1 ad7;go_wp2_with fail;refine(ad8.o _ _ _ HO.o).mono ?_;rintro e w2 ⟨vM,vF,vs,rfl,m2,⟨oM,nM,cM,oF,nF,cF,rfl,rfl⟩,hgood⟩;have bP:=aq m2;have HG:ah _:=hgood;clear m2 hgood ad8;cases bad with
 |true =>go_wp2_with fail;go_ret2;exact⟨rfl,(bU.o.trans bP.o).alloc _⟩
 |false =>
  obtain⟨hmL,hF⟩:=HG.o rfl;obtain⟨k1,k2,k3,k4⟩:=xx.o rfl;obtain rfl:nM=eJ ms:=by obtain⟨_,_,e,_⟩:=hmL.view;cases e;rfl
  obtain rfl:nF=eJ fs:=by obtain⟨_,_,e,_⟩:=hF.sl.view;cases e;rfl
  have HmL:=aq hmL;have HF:=aq hF;have HK1:=aq k1;have HK2:=aq k2;clear hmL hF k1 k2 HG xx;go_upto_block 0 with fail;have wu:ah (aa af w2 (w2.alloc (fL #[eS oM (eJ ms) cM,eS oF (eJ fs) cF] 90))):=aw;have HPb:=aq (au.new w2 #[eS oM (eJ ms) cM,eS oF (eJ fs) cF] 90);have TG:ah ((w2.alloc (fL #[eS oM (eJ ms) cM,eS oF (eJ fs) cF] 90)).heap.size=w2.heap.size+1):=by simp[ah]
  generalize hwp:w2.alloc (fL #[eS oM (eJ ms) cM,eS oF (eJ fs) cF] 90)=wP at *;clear hwp;have Ff:=aq (HF.o.quiet wu.o);have HPM:=aq (HmL.o.ai wu.o (λ_ _=>id));have uq:=aq (HO.o.ai (bP.o.trans wu.o));have JB:=aq ((bU.o.trans bP.o).trans wu.o);have HA0:ah (og wP bs (w2.heap.size+1) (vN) (vN) [] [] [] [] (wP.alloc (fL #[vJ 0,.int .u32 0,vN,vN] 71))):=by refine⟨?_,rfl,Sl.nil _ _ _,(λi h=>by cases h),rfl,Sl.nil _ _ _,(λi h=>by cases h),by rw[TG.o];exact al _,(λk h=>by cases h),(λk h=>by cases h),(λg h=>by cases h),(λg h=>by cases h),List.nodup_nil,aw⟩;have:=au.new wP #[vJ 0,.int .u32 0,vN,vN] 71;rw[TG.o]at this;exact this
  generalize wP.alloc (fL #[vJ 0,.int .u32 0,vN,vN] 71)=wM at *;have HBP:ah (w2.heap.size<wP.heap.size):=by rw[ah,TG.o];omega
  generalize w2.heap.size+1=B at *;generalize w2.heap.size=Pb at *;clear HF HmL HO bU bP wu TG;obtain⟨iP,hiP,sP,hsP,xz⟩:=oY RX;go_cut [24] (λ_ wx=>∃vF gs,og wP bs B vF (vN) fs gs [] [] wx)
  case first =>
   go_wp2_with fail;go_loopg [24] (eJ fs) (λq iv wx=>∃(k:Nat) (vF:fa) (gs:tLN),iv=vI k/\og wP bs B vF (vN) (fs.take k) gs [] [] wx/\k<=eJ fs/\q=eJ fs-k)
   case atStart=>exact⟨0,_,[],rfl,HA0.o,cj _,rfl⟩
   case round =>
    obtain⟨k,vFk,gs,rfl,hA,hk,rfl⟩:=hrel;have hlt':eJ (fs.take k)=k:=by rw[cw];omega
    obtain⟨oV,cV,hvV,_⟩:=hA.wY.view;rw[hlt']at hvV;subst hvV;by_cases hlt:k<eJ fs
    ·have Ex:=Ff.o.quiet hA.md;have ES:k<eJ vs:=by rw[Ex.len];exact hlt
     obtain⟨gF,rfl,c0,c1'⟩:=Ex.VF k hlt ES;have qA:=Ex.cd k hlt ES;have hkn:=HK1.o fs[k] (ao hlt);have afP:=aq (Ex.ok fs[k] (ao hlt));have MK:=aq (ab hlt);obtain⟨oC,cC,hvC,_⟩:=qA.view;rw[hvC]at c1' qA;have HA:=aq hA;have Rp:=aq qA;clear Ex qA hA hvC;generalize hfk:fs[k]=f at *;obtain⟨nm,code⟩:=f;simp only at *;go_upto_region 8 with fail;have kT:ah (og wP bs B (eS oV k cV) (vN) (fs.take k) gs [] [] (wr.alloc (fL #[eR (T nm),eS oC (eJ code) cC] 96))):=HA.o.quiet aw;have Q0:ah (Sl (wr.alloc (fL #[eR (T nm),eS oC (eJ code) cC] 96)) 138 8 (eS oC (eJ code) cC) (eJ code) (fH bs code)):=Rp.o.ai ((aa.refl af _).alloc _) (λ_ _=>id);have HX3:=aq (au.new wr #[eR (T nm),eS oC (eJ code) cC] 96);clear HA Rp c0 c1';generalize wr.alloc (fL #[eR (T nm),eS oC (eJ code) cC] 96)=W3 at *;generalize wr.heap.size=X at *;have HKC:=aq (λw' (_:aa af W3 w')=>Km w' (T nm) (by rw[di];omega));have Ho:=aq (λw' m=>Kn w' _ bs (uq.o.ai (kT.o.md.trans m)) code afP.o (by omega) _ (Q0.o.ai m (λ_ _=>id)) (T nm));have Mv:ah (∀(W:tW) g,aa af W3 W->nZ W bs g (aU code) (atS 0 code)->W3.heap.size<=g->∀v' w',Sl w' 75 2 v' (k+1) (((fs.take k).zip gs).flatMap FV++[eR (T nm),eS (eK ⟨g,0,eL⟩) (aU code) (aU code)])->aa (λj=>(Value.slice oV k cV).ownBlock=eK j) W w'->(∀j,v'.ownBlock=eK j->(Value.slice oV k cV).ownBlock=eK j\/W.heap.size<=j)->(∃oA cA,v'=eS oA (k+1) cA)/\au w' B #[vJ 0,.int .u32 0,eS oV k cV,vN] 71/\og wP bs B v' (vN) (fs.take (k+1)) (gs++[g]) [] [] (w'.setCell ⟨B,2,eL⟩ v')):=λW g mW hg hlo v' w' s m l=>by obtain⟨oA,cA,BV,_⟩:=s.view;have hq:=kT.o.quiet mW;have:=hq.func ⟨nm,code⟩ g hg (by have:=kT.o.md.size;omega) (by rw[hlt'];exact s) m l;rw[MK.o];exact⟨⟨oA,cA,BV⟩,this⟩
     have Tz:ah (∀W,aa af W3 W->Sl W 75 2 (eS oV k cV) k (((fs.take k).zip gs).flatMap FV)):=λW mW=>by
      have:=(kT.o.quiet mW).wY
      rwa [hlt']at this
     have We:ah (∀e:Ext (λj=>(Value.slice oV k cV).ownBlock=eK j) W3,au e.w B #[vJ 0,.int .u32 0,eS oV k cV,vN] 71/\au e.w X #[eR (T nm),eS oC (eJ code) cC] 96):=λe=>⟨kT.o.blk.ai e.m (λh=>kT.o.wY.aA kT.o.blk (by decide) h),HX3.o.ai e.m (λh=>kT.o.wY.aA HX3.o (by decide) h)⟩
     haveI:Nonempty (Ext (λj=>(Value.slice oV k cV).ownBlock=eK j) W3):=Ext.ne _ _
     have d2:=λ(e:Ext (λj=>(Value.slice oV k cV).ownBlock=some j) W3)=>(We.o e).1.c2;have x0:=λ(e:Ext (λj=>(Value.slice oV k cV).ownBlock=some j) W3)=>(We.o e).2.c0;have x1:=λ(e:Ext (λj=>(Value.slice oV k cV).ownBlock=some j) W3)=>(We.o e).2.c1;clear MK Q0;refine bY 13 [7,9,10,11,12] (λw'=>∃e:Ext (λj=>(Value.slice oV k cV).ownBlock=eK j) W3,w'=e.w) (by kernel_rfl) (by kernel_rfl) ⟨⟨_,aN⟩,rfl⟩ ?_;simp only[cH,List.take_zero,cI,List.drop_zero]
     iterate 2 (refine aG rfl rfl rfl ?_;intro K hK;go_big_quiet_op;go_big_quiet_on)
     refine dL rfl rfl _ ⟨B,0,eL⟩ rfl rfl ?_;simp only[Act.put,sA9,sB9,sC9]
     iterate 4 (refine aG rfl rfl rfl ?_;intro K hK;go_big_quiet_op;go_big_quiet_on)
     refine aH rfl rfl ?_;intro K hK;go_big_op;refine(HKC.o _ aN).mono ?_;rintro e w4 ⟨rfl,m4⟩;have M4:=aq (aN.trans m4);refine hK _ _ rfl ⟨⟨_,M4.o.of_nil⟩,rfl⟩ ?_;clear hK K m4
     try simp only[Act.put,sA9,sB9,sC9]
     refine aG rfl rfl rfl ?_;intro K hK;go_big_quiet_op;go_big_quiet_on;refine aH rfl rfl ?_;intro K hK;go_big_op;refine(Ho.o _ M4.o).mono ?_;rintro e w5 ⟨g5,rfl,hg5,hb5,m5⟩;have M5:=aq (M4.o.trans m5);have HG5:ah (W3.heap.size<=g5/\nZ w5 bs g5 (aU code) (atS 0 code)):=⟨by have:=M4.o.size;omega,hb5⟩
     refine hK _ _ rfl ⟨⟨_,M5.o.of_nil⟩,rfl⟩ ?_;clear hK K m5 hg5 hb5
     try simp only[Act.put,sA9,sB9,sC9]
     generalize aU code=sc at *;refine aH rfl rfl ?_;intro K hK;go_big_op;refine hK _ _ rfl ⟨⟨_,M5.o.of_nil⟩,rfl⟩ ?_;clear hK K
     try simp only[Act.put,sA9,sB9,sC9]
     refine aH rfl rfl ?_;intro K hK;refine xI 68 75 2 (.tmp 38) rfl #[eR (T nm),eS (eK ⟨g5,0,eL⟩) sc sc] rfl rfl iP _ underlying68 hiP sP hsP (by decide) (by decide) ?_;have M6:=aq (M5.o.alloc (fL #[eR (T nm),eS (eK ⟨g5,0,eL⟩) sc sc] 75));have HG6:ah (nZ (w5.alloc (fL #[eR (T nm),eS (eK ⟨g5,0,eL⟩) sc sc] 75)) bs g5 sc (atS 0 code)):=HG5.o.2.ai ((aa.refl af _).alloc _) id;refine hK _ _ rfl ⟨⟨_,M6.o.of_nil⟩,rfl⟩ ?_;clear hK K
     try simp only[Act.put,sA9,sB9,sC9]
     refine aH rfl rfl ?_;intro K hK;refine fq _ (.tmp 32) (.tmp 39) 68 rfl 75 iP (fY #[eR ByteArray.empty,vN]) 2 40 underlying68 hiP sP hsP xz rfl (by decide) (eS oV k cV) k (((fs.take k).zip gs).flatMap FV) rfl (Tz.o _ M6.o) ⟨w5.heap.size,0,eL⟩ 1 1 (#[eR (T nm),eS (eK ⟨g5,0,eL⟩) sc sc]:tAV).toList rfl rfl (bH _ _ _ _ rfl) (by simp[Value.oneCell']) (by unfold jz;omega) (by omega) ?_;intro vA wA sA mA lA;obtain⟨⟨oA,cA,BV⟩,MI,Jp⟩:=Mv.o _ g5 M6.o HG6.o HG5.o.1 vA wA sA mA lA;subst BV;have MA:=aq ((M6.o.of_nil).trans mA);refine hK _ _ rfl ⟨⟨_,MA.o⟩,rfl⟩ ?_;clear hK K;refine bZ ?_;have pA2:=MI.cell 2;have pAf:=MI.frozen;have YC:=aq Jp;clear sA mA lA MI Jp d2 x0 x1;go_wp2_with fail;go_roundg (eJ fs-(k+1))
     case measure=>omega
     case rel=>exact⟨k+1,_,_,by go_num,YC.o,by omega,rfl⟩
    ·obtain rfl:k=eJ fs:=by omega
     rw[bh (al _)]at hA;go_wp2_with fail;go_meet;exact⟨_,gs,hA⟩
  case rest =>
  obtain⟨vFe,gs,hA⟩:=hcut;obtain⟨oV,cV,hvV,_⟩:=hA.wY.view;subst hvV;have HA1:=aq hA;have HFO:=aq Ff.o.ok;have p0:=(HPb.o.ai hA.md id).c0;clear hA HA0 Ff;obtain⟨iQ,hiQ,hzQ,hsQ,hbQ⟩:=oY RY;obtain⟨wC,hwC⟩:∃wC,wC=wc:=⟨_,rfl⟩
  rw[<-hwC]at HA1;go_upto_block 2 with fail;clear p0;go_cut [47] (λ_ wx=>∃vM mb,og wP bs B (eS oV (eJ fs) cV) vM fs gs ms mb wx)
  case first =>
   go_wp2_with fail;go_loopg [47] (eJ ms) (λq iv wx=>∃(k:Nat) (vM:fa) (mb:tLN),iv=vI k/\og wP bs B (eS oV (eJ fs) cV) vM fs gs (ms.take k) mb wx/\k<=eJ ms/\q=eJ ms-k)
   case atStart=>exact⟨0,_,[],rfl,by rw[<-hwC];exact HA1.o,cj _,rfl⟩
   case round =>
    clear hwC;obtain⟨k,vMk,mb,rfl,hA,hk,rfl⟩:=hrel;have hlt':eJ (ms.take k)=k:=by rw[cw];omega
    obtain⟨oU,cU,hvU,_⟩:=hA.uW.view;rw[hlt']at hvU;subst hvU;by_cases hlt:k<eJ ms
    ·obtain⟨gM,rfl,q0,q1,q2,q3⟩:=Oa (HPM.o.ai hA.md (λ_ _=>id)) rfl rfl k hlt;have hkn:=HK2.o ms[k] (ao hlt);have MK:=aq (ab hlt);have HA:=aq hA;clear hA;generalize hmk:ms[k]=x at *;obtain⟨nm,mk,mv,me⟩:=x;simp only at *;go_upto_region 13 with fail;have kT:ah (og wP bs B (eS oV (eJ fs) cV) (eS oU k cU) fs gs (ms.take k) mb (wr.alloc (fL #[eR (T nm),vB (mk:Nat),vB (mv:Nat),vB (me:Nat)] 100))):=HA.o.quiet aw;have HX3:=aq (au.new wr #[eR (T nm),vB (mk:Nat),vB (mv:Nat),vB (me:Nat)] 100);clear HA q0 q1 q2 q3;generalize wr.alloc (fL #[eR (T nm),vB (mk:Nat),vB (mv:Nat),vB (me:Nat)] 100)=W3 at *;generalize wr.heap.size=X at *;have HKC:=aq (λw'=>Km w' (T nm) (by rw[di];omega))
     have Mv:ah (∀(W:tW) g,aa af W3 W->au W g #[eR (T nm),vI mk,vI mv,vI me,vN] 85->W3.heap.size<=g->∀v' w',Sl w' 82 1 v' (k+1) (mb.flatMap RW++[vP g])->aa (λj=>(Value.slice oU k cU).ownBlock=eK j) W w'->(∀j,v'.ownBlock=eK j->(Value.slice oU k cU).ownBlock=eK j\/W.heap.size<=j)->(∃oA cA,v'=eS oA (k+1) cA)/\au w' B #[vJ 0,.int .u32 0,eS oV (eJ fs) cV,eS oU k cU] 71/\og wP bs B (eS oV (eJ fs) cV) v' fs gs (ms.take (k+1)) (mb++[g]) (w'.setCell ⟨B,3,eL⟩ v')):=λW g mW hg hlo v' w' s m l=>by obtain⟨oA,cA,BV,_⟩:=s.view;have hq:=kT.o.quiet mW;have:=hq.map ⟨nm,mk,mv,me⟩ g hg (by have:=kT.o.md.size;omega) (λhm=>by obtain⟨i,hi,e⟩:=b9 hm;have h1:=(kT.o.maps i (by rw[<-kT.o.lm];exact hi) hi).lt;omega) (by rw[hlt'];exact s) m l;rw[MK.o];exact⟨⟨oA,cA,BV⟩,this⟩
     have Tz:ah (∀W,aa af W3 W->Sl W 82 1 (eS oU k cU) k (mb.flatMap RW)):=λW mW=>by
      have:=(kT.o.quiet mW).uW
      rwa [hlt']at this
     have We:ah (∀e:Ext (λj=>(Value.slice oU k cU).ownBlock=eK j) W3,au e.w B #[vJ 0,.int .u32 0,eS oV (eJ fs) cV,eS oU k cU] 71/\au e.w X #[eR (T nm),vB (mk:Nat),vB (mv:Nat),vB (me:Nat)] 100):=λe=>⟨kT.o.blk.ai e.m (λh=>kT.o.uW.aA kT.o.blk (by decide) h),HX3.o.ai e.m (λh=>kT.o.uW.aA HX3.o (by decide) h)⟩
     haveI:Nonempty (Ext (λj=>(Value.slice oU k cU).ownBlock=eK j) W3):=Ext.ne _ _
     have d3:=λ(e:Ext (λj=>(Value.slice oU k cU).ownBlock=some j) W3)=>(We.o e).1.c3;have x0:=λ(e:Ext (λj=>(Value.slice oU k cU).ownBlock=some j) W3)=>(We.o e).2.c0;have x1:=λ(e:Ext (λj=>(Value.slice oU k cU).ownBlock=some j) W3)=>(We.o e).2.c1;have x2:=λ(e:Ext (λj=>(Value.slice oU k cU).ownBlock=some j) W3)=>(We.o e).2.c2;have x3:=λ(e:Ext (λj=>(Value.slice oU k cU).ownBlock=some j) W3)=>(We.o e).2.c3;clear MK;refine bY 20 [7,17,18,19] (λw'=>∃e:Ext (λj=>(Value.slice oU k cU).ownBlock=eK j) W3,w'=e.w) (by kernel_rfl) (by kernel_rfl) ⟨⟨_,aN⟩,rfl⟩ ?_;simp only[cH,List.take_zero,cI,List.drop_zero]
     iterate 2 (refine aG rfl rfl rfl ?_;intro K hK;go_big_quiet_op;go_big_quiet_on)
     refine dL rfl rfl _ ⟨B,0,eL⟩ rfl rfl ?_;simp only[Act.put,sA9,sB9,sC9]
     iterate 4 (refine aG rfl rfl rfl ?_;intro K hK;go_big_quiet_op;go_big_quiet_on)
     refine aH rfl rfl ?_;intro K hK;go_big_op;refine(HKC.o _).mono ?_;rintro e w4 ⟨rfl,m4⟩;have M4:=aq (aN.trans m4);refine hK _ _ rfl ⟨⟨_,M4.o.of_nil⟩,rfl⟩ ?_;clear hK K m4
     try simp only[Act.put,sA9,sB9,sC9]
     iterate 9 (refine aG rfl rfl rfl ?_;intro K hK;go_big_quiet_op;go_big_quiet_on)
     refine aH rfl rfl ?_;intro K hK;go_big_op;refine(MW _ _ _ _ _).mono ?_;rintro e w5 ⟨rfl,rfl⟩;have M5:=aq (M4.o.alloc (fL #[eR (T nm),vI mk,vI mv,vI me,vN] 85));have HG5:=aq (au.new w4 #[eR (T nm),vI mk,vI mv,vI me,vN] 85);have Zw:=aq M4.o.size;refine hK _ _ rfl ⟨⟨_,M5.o.of_nil⟩,rfl⟩ ?_;clear hK K
     try simp only[Act.put,sA9,sB9,sC9]
     generalize w4.alloc (fL #[eR (T nm),vI mk,vI mv,vI me,vN] 85)=w5 at *;generalize w4.heap.size=g5 at *;refine aH rfl rfl ?_;intro K hK;go_big_op;have M6:=aq (M5.o.alloc (fL #[vP g5] 82));have HG6:ah (au (w5.alloc (fL #[vP g5] 82)) g5 #[eR (T nm),vI mk,vI mv,vI me,vN] 85):=HG5.o.alloc _;refine hK _ _ rfl ⟨⟨_,M6.o.of_nil⟩,rfl⟩ ?_;clear hK K
     try simp only[Act.put,sA9,sB9,sC9]
     refine aH rfl rfl ?_;intro K hK;refine fq _ (.tmp 55) (.tmp 69) 69 rfl 82 iQ (vO) 1 8 underlying69 hiQ hzQ hsQ hbQ rfl (by decide) (eS oU k cU) k (mb.flatMap RW) rfl (Tz.o _ M6.o) ⟨w5.heap.size,0,eL⟩ 1 1 (#[vP g5]:tAV).toList rfl rfl (bH _ _ _ _ rfl) (by simp[Value.oneCell']) (by unfold jz;omega) (by omega) ?_;intro vA wA sA mA lA;obtain⟨⟨oA,cA,BV⟩,MI,Jp⟩:=Mv.o _ g5 M6.o HG6.o Zw.o vA wA sA mA lA;subst BV;have MA:=aq ((M6.o.of_nil).trans mA);refine hK _ _ rfl ⟨⟨_,MA.o⟩,rfl⟩ ?_;clear hK K;refine bZ ?_;have pA3:=MI.cell 3;have pAf:=MI.frozen;have YC:=aq Jp;clear sA mA lA MI Jp d3 x0 x1 x2 x3;go_wp2_with fail;go_roundg (eJ ms-(k+1))
     case measure=>omega
     case rel=>exact⟨k+1,_,_,by go_num,YC.o,by omega,rfl⟩
    ·obtain rfl:k=eJ ms:=by omega
     rw[bh (al _)]at hA;go_wp2_with fail;go_meet;exact⟨_,mb,hA⟩
  case rest =>
  obtain⟨vMe,mb,hA⟩:=hcut;have HAE:=aq hA;clear hA;go_wp2_with fail;go_ret2;exact⟨bs,B,rfl,_,_,gs,mb,_,wP,uq.o,JB.o,HFO.o,HAE.o⟩
theorem MV.Ht(rb mb:tLN)(f:jN)(h:eJ f.regs=11)(n c:Nat)(hn:n<11)(hc:c<4):(f.cells rb mb)[3+n*4+c]?=((f.regs.getD n {}).cells rb mb)[c]?:=by
 unfold jN.cells;rw[bj,List.getElem?_append_right (by simp;omega),List.getElem?_append_left (by rw[vw];simp;omega)];have:=jY (MV.cells rb mb) 4 f.regs (λx _=>rfl) n c (by omega) hc;simp only[cx,cy];have hl:n<eJ f.regs:=by omega
 rw[show 3+n*4+c-(0+1+1+1)=n*4+c by omega,this,List.getD_eq_getElem?_getD,List.getElem?_eq_getElem hl];rfl
theorem eZ(w:tW)(b:Nat)(rb mb:tLN)(vM vC vL:fa)(r:aJ)(h:aI w b rb mb vM vC vL r)(hp:0<eJ r.calls)(n:Nat)(hn:n<11):fS prog 205 #[vP b,vB n] w λe w'=>e=fW (fY ((r.aD n).cells rb mb).toArray)/\aa af w w':=by
 obtain⟨g,cap,rfl,_,h11,hc⟩:=h.view hp;have HR:=aq (λw' (m:aa af w w')=>h.quiet m);have HT:=aq (λw' m=>Ol w' b rb mb vM vL g cap r (h.quiet m) hp);have HC:ah (∀w',aa af w w'->∀c,c<4->w'.cell? ⟨g,(eJ r.calls-1)*48+3+n*4+c,eL⟩=((r.aD n).cells rb mb)[c]?):=λw' m c hc4=>by obtain⟨g',cap',e,_,_,hc'⟩:=(h.quiet m).view hp;cases e;have:=hc' (3+n*4+c) (by omega);rw[MV.Ht rb mb _ h11 n c hn hc4]at this;rw[<-cD,<-cD]at this;exact this
 clear h hc;generalize r.aD n=v at *;generalize(eJ r.calls-1)*48=K at *;have HB:=aq (au.new w #[vI 0,vU 0,vO,vO] 130);have HM:ah (aa af w (w.alloc (fL #[vI 0,vU 0,vO,vO] 130))):=aw;go_in;go_wp2_with fail;refine(HT.o _ HM.o).mono ?_;rintro e w1 ⟨rfl,m1⟩;have bU:=aq (HM.o.trans m1);have hB1:=HB.o.ai m1 id;have y0:w1.cell? ⟨g,K+3+n*4,eL⟩=eK (vI v.so):=HC.o w1 bU.o 0 (by omega);have y1:w1.cell? ⟨g,K+3+n*4+1,eL⟩=eK (vU v.bits):=HC.o w1 bU.o 1 (by omega);have y2:w1.cell? ⟨g,K+3+n*4+2,eL⟩=eK (ia (v.aD.map λr=>⟨rb.getD r 0,0,eL⟩)):=HC.o w1 bU.o 2 (by omega);have y3:w1.cell? ⟨g,K+3+n*4+3,eL⟩=eK (ia (v.tab.map λt=>⟨mb.getD t 0,0,eL⟩)):=HC.o w1 bU.o 3 (by omega);have z0:=hB1.cell 0;have z1:=hB1.cell 1;have z2:=hB1.cell 2;have z3:=hB1.cell 3;have zf:=hB1.frozen;have HB1:=aq hB1;have HV:ah ((v.cells rb mb).toArray=#[vI v.so,vU v.bits,ia (v.aD.map λr=>⟨rb.getD r 0,0,eL⟩),ia (v.tab.map λt=>⟨mb.getD t 0,0,eL⟩)]):=rfl;clear hB1 m1 HB HM HC HT HR;generalize v.aD.map (λr=>(⟨rb.getD r 0,0,eL⟩:kh))=p2 at *;generalize v.tab.map (λt=>(⟨mb.getD t 0,0,eL⟩:kh))=p3 at *;go_wp2_with fail;refine kx (results_cell_row results205 _ _ w.heap.size 130 _ (0,0) _ rfl ((((HB1.o.set 0 _).set 1 _).set 2 _).set 3 _) underlying130 rfl (by kernel_rfl)) rfl ⟨by rw[HV.o];rfl,?_⟩;exact(((bU.o.set (a:=⟨w.heap.size,0,eL⟩) (Or.inr (al _)) _).set (a:=⟨w.heap.size,1,eL⟩) (Or.inr (al _)) _).set (a:=⟨w.heap.size,2,eL⟩) (Or.inr (al _)) _).set (a:=⟨w.heap.size,3,eL⟩) (Or.inr (al _)) _
