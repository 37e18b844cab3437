import Derived.Test.YthnphhgpfedeeaaGreatDoorCK46
namespace Go.Proofs.YthnphhgpfedeeaaGreatDoor
open Go.RowKit Tryz
open _root_.Array renaming replicate->cq
open List renaming take_succ_cons->ab,drop_succ_cons->al,length_append->ao,take_zero->ar,drop_zero->ba,length_cons->bj,getElem_mem->bt,length->eJ
open Nat renaming le_refl->bh
open Option renaming map_some->b5,map_none->b9,some->eK,none->eL
open Region renaming noSelect->cj
open Bool renaming false->fj,true->fR
open Decidable renaming decide->gh
open Ending renaming returned->fW,panicked->sq
open Obj renaming cells->fL
open Value renaming slice->eS,string->eR,bool->fX,agg->fY,tuple->jl,pointer->ia,func->fN
open _root_.Go renaming TypeId->ju,Value->fa,undef->kO,Addr->kh,Calls->fS,bodyPost_ret->kx,results_cell_row->mL,Ending->mz,Program->lj,Oper->iz,wpList->n9,FuncId->lO,run_underlying->pB,part->pC,run_equalIn_int->AH
set_option linter.all false
set_option maxRecDepth 100000
set_option maxHeartbeats 1000000
theorem pH.Nb{w w':tW}{rb:tLN}{vs:tLV}{gs:List tLN}(h:pH w rb vs gs){b:Nat}{cs:tAV}{t t':ju}{size n:Nat}{v:fa}{xs:tLV}(hb:au w b cs t)(h1:t≠122)(h2:t≠5)(hs:Sl w t' size v n xs)(h3:t'≠122)(h4:t'≠5)(m:aa (λk=>k=b\/Own v k) w w'):pH w' rb vs gs :=
 h.ai m (λi hi e=>by
  rcases e with e|e
  ·have:=h.blk i hi;rw[e]at this;unfold au at this hb;rw[hb]at this;cases this;exact h1 rfl
  ·exact hs.aA (h.blk i hi) h3 e) (λi k hi hk e=>by
  rcases e with e|e
  ·subst e;exact(h.sl i hi).aA hb h2 hk
  ·exact(h.sl i hi).apart hs h4 hk e)
theorem pH.addN{w:tW}{rb:tLN}{vs:tLV}{gs:List tLN}(h:pH w rb vs gs)(N:Nat)(ho:∀i,i<eJ gs->rb.getD i 0<N/\∀k,(vs.getD i kO).ownBlock=eK k->k<N)(b:Nat)(v:fa)(g:tLN)(hb:au w b #[v] 122)(hs:mD w v (eJ g) g)(h1:N<=b)(h2:∀k,v.ownBlock=eK k->N<=k):pH w (rb++[b]) (vs++[v]) (gs++[g]):=by
 have e1:=h.lr;have e2:=h.lv;refine⟨by simp[e1],by simp[e2],λi hi=>?_,λi hi=>?_,λi j hi hj e=>?_,λi j k hi hj e e'=>?_⟩
 all_goals simp only[ao,bj,List.length_nil]at *
 ·rw[dW,dW,e1,e2];by_cases hh:i<eJ gs
  ·rw[iP9 hh,iP9 hh];exact h.blk i hh
  ·rw[iN9 hh,iN9 hh,iP9 (by omega),iP9 (by omega)];exact hb
 ·rw[dW,dW,e2];by_cases hh:i<eJ gs
  ·rw[iP9 hh,iP9 hh];exact h.sl i hh
  ·rw[iN9 hh,iN9 hh,iP9 (by omega),iP9 (by omega)];exact hs
 ·rw[dW,dW,e1]at e;by_cases hi':i<eJ gs<;>by_cases hj':j<eJ gs
  ·rw[iP9 hi',iP9 hj']at e;exact h.inj i j hi' hj' e
  ·rw[iP9 hi',iN9 hj',iP9 (by omega)]at e;have:=(ho i hi').1;omega
  ·rw[iN9 hi',iP9 hj',iP9 (by omega)]at e;have:=(ho j hj').1;omega
  ·omega
 ·rw[dW,e2]at e e';by_cases hi':i<eJ gs<;>by_cases hj':j<eJ gs
  ·rw[iP9 hi']at e;rw[iP9 hj']at e';exact h.Kq i j k hi' hj' e e'
  ·rw[iP9 hi']at e;rw[iN9 hj',iP9 (by omega)]at e';have:=(ho i hi').2 k e;have:=h2 k e';omega
  ·rw[iN9 hi',iP9 (by omega)]at e;rw[iP9 hj']at e';have:=(ho j hj').2 k e';have:=h2 k e;omega
  ·omega
def Ea(fn F q n:Nat):aJ:=(((({fuel:=F,inp:=q}:aJ).enter fn (q+1)).eV 1 (eY q 0)).eV 2 (dI n))
theorem Sg(w:tW)(rb mb:tLN)(vs:tLV)(gs:List tLN)(hR:pH w rb vs gs)(oM:Option kh)(nM cM:Nat)(fn:Nat)(s:tBA)(hs:s.size<=9223372036854775807)(fuel:Int)(hf:-9223372036854775808<=fuel/\fuel<=9223372036854775807):fS prog 30 #[eS oM nM cM,vI fn,eR s,vI fuel] w λe w'=>∃b R S v1 v2 vC,e=fW (vP b)/\aI w' b (rb++[R]++[S]) mb (eS oM nM cM) vC (vN) (Ea fn (min (max fuel 0) 5000).toNat (eJ gs) (gN s).size)/\pH w' (rb++[R]++[S]) (vs++[v1]++[v2]) (gs++[fw (gN s)]++[bS])/\aa af w w'/\w.heap.size<=b/\(∀k,vC.ownBlock=eK k->w.heap.size<=k)/\w.heap.size<=R/\w.heap.size<=S/\(∀k,v1.ownBlock=eK k->w.heap.size<=k)/\(∀k,v2.ownBlock=eK k->w.heap.size<=k):=by
 have hmin:min (s.size:Int) 32=((min s.size 32:Nat):Int):=by omega
 have hfu:min (max fuel 0) 5000=(((min (max fuel 0) 5000).toNat:Nat):Int):=by omega
 generalize(min (max fuel 0) 5000).toNat=F at *;have HIS:ah ((s.extract 0 (min s.size 32)).size<=32):=by unfold ah;rw[ByteArray.size_extract];omega
 unfold gN;generalize afR:s.extract 0 (min s.size 32)=inp at *;obtain⟨cap,W1,hcv,m1,hb1,hsz⟩:=DZ w inp (by have:=HIS.o;omega);have WM:=aq hcv;have HLR:=aq hR.lr;have HLV:=aq hR.lv;have HRQ:ah (pH (W1.alloc (fL #[eS (eK ⟨w.heap.size,0,eL⟩) inp.size cap] 122)) (rb++[W1.heap.size]) (vs++[eS (eK ⟨w.heap.size,0,eL⟩) inp.size cap]) (gs++[fw inp])):=by have hl:=hb1.1;refine hR.add (m1.alloc _) _ _ _ (au.new W1 _ _) (by rw[hl];exact hb1.ai ((aa.refl af W1).alloc _) (λ_ _=>id)) (by omega) (λk hk=>by cases hk;exact bh _)
 have bP:=aq (m1.alloc (fL #[eS (eK ⟨w.heap.size,0,eL⟩) inp.size cap] 122));have HS2:ah ((W1.alloc (fL #[eS (eK ⟨w.heap.size,0,eL⟩) inp.size cap] 122)).heap.size=W1.heap.size+1):=World.size_alloc _ _;have TG:=aq hsz;clear hcv m1 hb1 hsz hR;go_in;go_upto_region 3 with(first|rw[WM.o]|rw[afR,WM.o])
 generalize W1.alloc (fL #[eS (eK ⟨w.heap.size,0,eL⟩) inp.size cap] 122)=W2 at *;rw[<-HS2.o];clear WM;generalize hRe:W1.heap.size=R at *;have HRe:=aq hRe;have Nc:ah (w.heap.size<=R):=by have:=TG.o;have:=HRe.o;unfold ah;omega
 clear hRe;have HB3:=aq (au.new W2 #[eS oM nM cM,vP R,vN,vI F,vI 0,vN,vU 0,fX fj] 125);have dF:=aq (bP.o.alloc (fL #[eS oM nM cM,vP R,vN,vI F,vI 0,vN,vU 0,fX fj] 125));have tH:ah (pH (W2.alloc (fL #[eS oM nM cM,vP R,vN,vI F,vI 0,vN,vU 0,fX fj] 125)) (rb++[R]) (vs++[eS (eK ⟨w.heap.size,0,eL⟩) inp.size cap]) (gs++[fw inp])):=HRQ.o.quiet ((aa.refl af W2).alloc _);have VS:=aq bP.o.size;generalize W2.alloc (fL #[eS oM nM cM,vP R,vN,vI F,vI 0,vN,vU 0,fX fj] 125)=W3 at *;generalize W2.heap.size=b at *;have HGR:ah ((rb++[R]).getD (eJ gs) 0=R):=by unfold ah;rw[dW,HLR.o,iN9 (Nat.lt_irrefl _),iP9 rfl]
 have kT:ah (aI W3 b (rb++[R]) mb (eS oM nM cM) (vN) (vN) {fuel:=F,inp:=eJ gs}):=⟨by rw[HGR.o];exact HB3.o,Sl.nil _ _ _,(λf hf=>by cases hf),by show 0<=8;omega⟩
 have JU:=aq (R9 W3 b (rb++[R]) mb _ _ _ _ kT.o (by show 0<8;omega) fn ⟨by show eJ gs<eJ (rb++[R]);rw[ao,HLR.o];exact Nat.lt_succ_self _,λf hf=>by cases hf⟩);clear HRQ HB3;go_wp2_with fail;refine JU.o.mono ?_;rintro e w4 ⟨vC,rfl,hr4,m4,l4,g4,s4⟩;have Ai:=aq ((tH.o.Nb kT.o.blk (by decide) (by decide) kT.o.calls (by decide) (by decide) m4).addN W3.heap.size (λi hi=>⟨(tH.o.blk i hi).lt,λk hk=>(tH.o.sl i hi).lt k hk⟩) _ _ _ g4 (s4.bys rfl) (Nat.le_succ _) (λk hk=>by cases hk;exact bh _));have gG:=aq ((dF.o.mono (λ_ _ h=>h.elim)).trans (m4.mono (λ_ _ h=>h.elim id (λh=>by cases h))));have Tm:ah (∀k,vC.ownBlock=eK k->w.heap.size<=k):=λk hk=>(l4 k hk).elim (λh=>by cases h) (λh=>by have:=dF.o.size;omega);have FJ:ah (eJ (rb++[R])=eJ gs+1):=by unfold ah;rw[ao,HLR.o];rfl
 have Yv:ah (aI w4 b (rb++[R]++[W3.heap.size+1]) mb (eS oM nM cM) vC (vN) (({fuel:=F,inp:=eJ gs}:aJ).enter fn (eJ gs+1))):=by rw[<-FJ.o];exact hr4
 have HSN:ah (w.heap.size<=W3.heap.size+1):=by have:=dF.o.size;unfold ah;omega
 have HSV:=aq dF.o.size;generalize W3.heap.size+1=S at *;have HGS:ah ((rb++[R]++[S]).getD (eJ gs) 0=R):=by unfold ah;rw[kK _ _ _ _ (by rw[FJ.o];omega)];exact HGR.o
 clear hr4 m4 l4 g4 s4 JU tH kT dF
 have um:ah (∀fn':aJ,0<(({fuel:=F,inp:=eJ gs}:aJ).enter fn (eJ gs+1)).calls.length):=λ_=>by
  unfold aJ.enter;rw[aJ.iZ];show 0<eJ ([]++[_])
  exact Nat.succ_pos _
 generalize hr0:({fuel:=F,inp:=eJ gs}:aJ).enter fn (eJ gs+1)=r0 at *;have HVP:ah (∀w',fS prog 55 #[vP R,vU 0] w' λe w''=>e=fW (fY #[vI 2,vU 0,vP R,vO])/\aa af w' w''):=λw'=>by have:=DX w' (rb++[R]++[S]) mb (eJ gs) 0;rw[HGS.o]at this;unfold eY MV.cells at this;simp only[b5,b9,HGS.o]at this;exact this
 have HST:ah (∀w',aa af w4 w'->fS prog 54 #[vP b,vB 1,fY #[vI 2,vU 0,vP R,vO]] w' λe w''=>e=fW (jl #[])/\aI w'' b (rb++[R]++[S]) mb (eS oM nM cM) vC (vN) (r0.eV 1 (eY (eJ gs) 0))/\aa (Own vC) w' w''):=λw' m=>by have:=wH w' b (rb++[R]++[S]) mb _ _ _ _ (Yv.o.quiet m) (um.o r0) 1 (by omega) (eY (eJ gs) 0);unfold eY MV.cells at this;simp only[b5,b9,HGS.o]at this;exact this
 go_wp2_with fail;refine(HVP.o _).mono ?_;rintro e w5 ⟨rfl,m5⟩;have jo:=aq m5;clear m5 HVP;go_wp2_with fail;refine(HST.o _ jo.o).mono ?_;rintro e w6 ⟨rfl,hr6,m6⟩;have h5:=Yv.o.quiet jo.o;have NT:=aq ((Ai.o.quiet jo.o).Nb h5.blk (by decide) (by decide) h5.calls (by decide) (by decide) (m6.mono (λ_ _ h=>.inr h)));have HA6:=aq hr6;have xW:ah (aa (λk=>k=b\/Own vC k) w w6):=((gG.o.mono (λ_ _ h=>.inl h)).trans (jo.o.mono (λ_ _ h=>h.elim))).trans (m6.mono (λ_ _ h=>.inr h));have z0:w6.cell? ⟨R,0,eL⟩=eK (eS (eK ⟨w.heap.size,0,eL⟩) inp.size cap):=by have hb:=NT.o.blk (eJ gs) (by simp only[ao,bj,List.length_nil];omega);rw[HGS.o]at hb;rw[kK _ _ _ _ (by rw[ao,HLV.o];exact Nat.lt_succ_self _),dW,HLV.o,iN9 (Nat.lt_irrefl _),iP9 rfl]at hb;exact hb.cell 0
 have Wf:ah (∀w',fS prog 56 #[vU inp.size] w' λe w''=>e=fW (fY #[vI 0,vU inp.size,vO,vO])/\aa af w' w''):=λw'=>qm w' [] [] inp.size;have lU:ah (0<(r0.eV 1 (eY (eJ gs) 0)).calls.length):=by unfold ah;rw[aJ.iZ];exact um.o r0
 have HS7:ah (∀w',aa af w6 w'->fS prog 54 #[vP b,vB 2,fY #[vI 0,vU inp.size,vO,vO]] w' λe w''=>e=fW (jl #[])/\aI w'' b (rb++[R]++[S]) mb (eS oM nM cM) vC (vN) (Ea fn F (eJ gs) inp.size)/\aa (Own vC) w' w''):=λw' m=>by have:=wH w' b (rb++[R]++[S]) mb _ _ _ _ (HA6.o.quiet m) lU.o 2 (by omega) (dI inp.size);unfold Ea;rw[hr0];exact this
 have hwr:IntKind.u64.wrap (inp.size:Int)=inp.size:=IntWalk.u64_in _ (by have:=HIS.o;omega);clear hr6 m6 h5 HST Ai Yv gG jo;go_wp2_with fail;refine(Wf.o _).mono ?_;rintro e w7 ⟨rfl,m7⟩;have zw:=aq m7;clear m7 Wf z0;go_wp2_with fail;refine(HS7.o _ zw.o).mono ?_;rintro e w8 ⟨rfl,hr8,m8⟩;have HA8:=aq hr8;have Iu:=aq m8;clear hr8 m8 HS7;go_wp2_with fail;go_ret;have h7:=HA6.o.quiet zw.o;have hm:=(xW.o.trans (zw.o.mono (λ_ _ h=>h.elim))).trans (Iu.o.mono (λ_ _ h=>.inr h));exact⟨b,R,S,_,_,vC,rfl,HA8.o,(NT.o.quiet zw.o).Nb h7.blk (by decide) (by decide) h7.calls (by decide) (by decide) (Iu.o.mono (λ_ _ h=>.inr h)),(aa.refl af w).step hm (λk hk e=>by rcases e with e|e;(have:=VS.o;omega);(have:=Tm.o k e;omega)),VS.o,Tm.o,Nc.o,HSN.o,λk hk=>by cases hk;exact bh _,λk hk=>by cases hk;exact HSV.o⟩
def strOf(l:tLN):tBA:=⟨(l.map UInt8.ofNat).toArray⟩
theorem rZ(w:tW)(g n cap:Nat)(l:tLN)(hb:∀b∈l,b<256)(h:mD w (eS (eK ⟨g,0,eL⟩) n cap) n l):(convert 30 9 (eS (eK ⟨g,0,eL⟩) n cap)).run prog w=.ok (eR (strOf l)) w:=by
 have hl:=h.1
 have key:=run_convert_bytes_back (P:=prog) w 30 9 5 ⟨g,0,eL⟩ cap (l.map UInt8.ofNat) underlying30 underlying5 underlying9 (λj hj=>by
  have hadd:(⟨g,0,eL⟩:kh).add j=⟨g,j,eL⟩:=by unfold Addr.add;split<;>simp_all
  have hj':j<eJ l:=by simpa using hj
  rw[hadd,(h.cell j (by omega)).1,List.getD_eq_getElem?_getD,List.getElem?_eq_getElem hj'];have:=hb l[j] (bt _);simp only[List.getElem_map,Option.getD_some];rw[show(UInt8.ofNat l[j]).toNat=l[j]from by rw[UInt8.toNat_ofNat'];omega])
 rw[List.length_map,hl]at key;exact key
theorem WN(w:tW)(b:Nat)(rb mb:tLN)(gM nM cM:Nat)(vC vL:fa)(r:aJ)(h:aI w b rb mb (eS (eK ⟨gM,0,eL⟩) nM cM) vC vL r)(n:Nat)(hn:n<nM)(hc:w.cell? ⟨gM,n,eL⟩=eK (vP (mb.getD n 0))):fS prog 240 #[vP b,vI n] w λe w'=>e=fW (fY ((mmap n).cells rb mb).toArray)/\aa af w w':=by
 show fS _ _ _ _ λe w'=>e=fW (fY #[vI 1,vU 0,vO,vP (mb.getD n 0)])/\_
 generalize mb.getD n 0=M at *;have x0:(w.alloc (fL #[vI 0,vU 0,vO,vO] 130)).cell? ⟨b,0,eL⟩=eK (eS (eK ⟨gM,0,eL⟩) nM cM):=(h.blk.alloc _).cell 0;have y0:(w.alloc (fL #[vI 0,vU 0,vO,vO] 130)).cell? ⟨gM,n,eL⟩=eK (vP M):=Lib.cell?_alloc_some _ hc;have HB:=aq (au.new w #[vI 0,vU 0,vO,vO] 130);have HM:ah (aa af w (w.alloc (fL #[vI 0,vU 0,vO,vO] 130))):=aw;clear h hc;go_in;go_upto_region 1 with fail;generalize w.alloc (fL #[vI 0,vU 0,vO,vO] 130)=W1 at *;have z0:=HB.o.cell 0;have z1:=HB.o.cell 1;have z2:=HB.o.cell 2;have z3:=HB.o.cell 3;have zf:=HB.o.frozen;go_wp2_with fail;refine kx (mL results240 _ _ w.heap.size 130 _ (0,0) _ rfl ((((HB.o.set 0 _).set 1 _).set 2 _).set 3 _) underlying130 rfl (by kernel_rfl)) rfl ⟨rfl,?_⟩;have q:∀{X:tW} (i:Nat) (u:fa),aa af w X->aa af w (X.setCell ⟨w.heap.size,i,eL⟩ u):=λi u m=>m.set (a:=⟨w.heap.size,i,eL⟩) (Or.inr (bh _)) u;exact q 3 _ (q 2 _ (q 1 _ (q 0 _ HM.o)))
def tu(x:Int):Nat:=(x%18446744073709551616).toNat
def s64(n:Nat):Int:=RowKit.wrap64 (n:Int)
def aea(a k:Nat):Nat:=tu (s64 a/2 ^ k)
def aeb(a k:Nat):Nat:=tu (s64 (tu ((a:Int)*4294967296))/4294967296/2 ^ k)
def Sh(n:Nat):Nat:=n%4294967296
def ofP(k a b n:Nat):Nat:=match k with
 |0=>tu ((a:Int)+b)
 |1=>tu ((a:Int)-b)
 |2=>tu ((a:Int)*b)
 |3=>if b=0 then 0 else a/b
 |4=>if b=0 then a else a%b
 |5=>a &&& b
 |6=>a ||| b
 |7=>a ^^^ b
 |8=>tu ((a:Int)*2 ^ (b%n))
 |9=>a/2 ^ (b%n)
 |10=>if n=64 then aea a (b%n)else aeb a (b%n)
 |_=>tu (-(a:Int))
def rkP(m k:Nat)(d s:MV):Option MV:=match m with
 |0=>eK s
 |1=>if s.so=0 then eK (dI (Sh s.bits))else eL
 |2=>if d.so=0/\s.so=0 then eK (dI (ofP k d.bits s.bits 64))else eL
 |3=>if d.so=0/\s.so=0 then eK (dI (Sh (ofP k (Sh d.bits) (Sh s.bits) 32)))else eL
 |_=>if d.so=2 then(if s.so=0 then eK {d with bits:=ofP k d.bits s.bits 64}else eL)else if d.so=0/\s.so=0 then eK (dI (ofP k d.bits s.bits 64))else eL
def cmP(k a b:Nat):Bool:=match k with
 |0=>gh (b<a)
 |1=>gh (b<=a)
 |2=>gh (a<b)
 |3=>gh (a<=b)
 |_=>gh (a &&& b≠0)
def csP(k:Nat)(a b:Int):Bool:=match k with
 |0=>gh (b<a)
 |1=>gh (b<=a)
 |2=>gh (a<b)
 |_=>gh (a<=b)
def soP(m k:Nat)(d s:MV):Option Bool:=match m with
 |0=>eK (d.eqB s)
 |1=>eK (!d.eqB s)
 |2=>if d.so=0/\s.so=0 then eK (cmP k d.bits s.bits)else eL
 |_=>if d.so=0/\s.so=0 then eK (csP k (s64 d.bits) (s64 s.bits))else eL
structure iK where
 name:tLB
 key:Nat
 value:Nat
 most:Nat
 aP:List (tLN×Nat)
structure aX where
 r:aJ
 gs:List tLN
 ms:List iK
def jZ:iK:=⟨[],0,0,0,[]⟩
def aS(gs:List tLN)(v:MV)(n:Nat):tLN:=((gs.getD (v.aD.getD 0) []).drop (lq v 0)).take n
def ltNs:tLN->tLN->Bool
 |[],[]=>fj
 |[],_::_=>fR
 |_::_,[]=>fj
 |a::l,b::m=>if a<b then fR else if b<a then fj else ltNs l m
def aL(l:List (tLN×Nat))(key:tLN):Nat:=l.countP (λe=>ltNs e.1 key)
def aT(l:List (tLN×Nat))(key:tLN):Bool:=gh (aL l key<eJ l)&&gh ((l.getD (aL l key) ([],0)).1=key)
def aY(l:List (tLN×Nat))(key:tLN):Nat:=(l.getD (aL l key) ([],0)).2
def aX.mapOf(s:aX)(t:Nat):iK:=s.ms.getD t jZ
def aX.ans(s:aX)(v:MV):aX:={s with r:=s.r.answer v}
def aX.t1(s:aX):Nat:=(s.r.aD 1).tab.getD 0
def pJ(s:aX):Nat×aX :=
 if(s.r.aD 1).so≠1 then(2,s)
 else if aZ s.gs (s.r.aD 2) 0 (s.mapOf s.t1).key≠0 then(aZ s.gs (s.r.aD 2) 0 (s.mapOf s.t1).key,s)
 else(0,s.ans (if aT (s.mapOf s.t1).aP (aS s.gs (s.r.aD 2) (s.mapOf s.t1).key)then eY (aY (s.mapOf s.t1).aP (aS s.gs (s.r.aD 2) (s.mapOf s.t1).key)) 0 else dI 0))
def lJ(s:aX)(t:Nat)(key val:tLN):aX×Bool :=
 if aT (s.mapOf t).aP key then({s with gs:=s.gs.set (aY (s.mapOf t).aP key) val},fR)
 else if(s.mapOf t).aP.length=(s.mapOf t).most then(s,fj)
 else({s with gs:=s.gs++[val],ms:=s.ms.set t {s.mapOf t with aP:=(s.mapOf t).aP.take (aL (s.mapOf t).aP key)++(key,eJ s.gs)::(s.mapOf t).aP.drop (aL (s.mapOf t).aP key)}},fR)
def nR(s:aX):Nat×aX :=
 if(s.r.aD 1).so≠1 then(2,s)
 else if aZ s.gs (s.r.aD 2) 0 (s.mapOf s.t1).key≠0 then(aZ s.gs (s.r.aD 2) 0 (s.mapOf s.t1).key,s)
 else if aZ s.gs (s.r.aD 3) 0 (s.mapOf s.t1).value≠0 then(aZ s.gs (s.r.aD 3) 0 (s.mapOf s.t1).value,s)
 else(0,(lJ s s.t1 (aS s.gs (s.r.aD 2) (s.mapOf s.t1).key) (aS s.gs (s.r.aD 3) (s.mapOf s.t1).value)).1.ans (dI (if(lJ s s.t1 (aS s.gs (s.r.aD 2) (s.mapOf s.t1).key) (aS s.gs (s.r.aD 3) (s.mapOf s.t1).value)).2 then 0 else 1)))
def tC(s:aX)(t:Nat)(key:tLN):aX×Bool :=
 if aT (s.mapOf t).aP key then({s with gs:=s.gs.set (aY (s.mapOf t).aP key) [],ms:=s.ms.set t {s.mapOf t with aP:=(s.mapOf t).aP.take (aL (s.mapOf t).aP key)++(s.mapOf t).aP.drop (aL (s.mapOf t).aP key+1)}},fR)
 else(s,fj)
def oh(s:aX):Nat×aX :=
 if(s.r.aD 1).so≠1 then(2,s)
 else if aZ s.gs (s.r.aD 2) 0 (s.mapOf s.t1).key≠0 then(aZ s.gs (s.r.aD 2) 0 (s.mapOf s.t1).key,s)
 else(0,(tC s s.t1 (aS s.gs (s.r.aD 2) (s.mapOf s.t1).key)).1.ans (dI (if(tC s s.t1 (aS s.gs (s.r.aD 2) (s.mapOf s.t1).key)).2 then 0 else 1)))
def Kv(s:aX):Nat×aX :=
 if(s.r.aD 1).so≠0 then(2,s)
 else if eJ s.r.log=20 then(5,s)
 else(0,{s with r:=s.r.logged (s.r.aD 1).bits})
def yD(aD:Bool)(x:PI)(s:aX):MV:=if aD then s.r.aD x.s else dI (tu x.num)
def PI.WO(x:PI):Nat:=(x.high%4294967296).toNat*4294967296+(x.num%4294967296).toNat
def doP(d:Us)(x:PI)(s:aX):Nat×aX:=match d.t with
 |0=>match rkP d.m d.k (s.r.aD x.d) (yD d.aD x s)with
  |none=>(2,s)
  |some v=>(0,{s with r:=s.r.eV x.d v})
 |1=>match soP d.m d.k (s.r.aD x.d) (yD d.aD x s)with
  |none=>(2,s)
  |some b=>(0,if b then{s with r:=s.r.gZ (x.target s.r.top.slot).toNat}else s)
 |2=>(0,{s with r:=s.r.gZ (x.target s.r.top.slot).toNat})
 |3=>if aZ s.gs (s.r.aD x.s) x.jump d.k=0 then(0,{s with r:=s.r.eV x.d (dI (BD s.gs (s.r.aD x.s) x.jump d.k))})else(aZ s.gs (s.r.aD x.s) x.jump d.k,s)
 |4=>if storeT s.gs (s.r.aD x.d) x.jump d.k (yD d.aD x s)=0 then(0,{s with gs:=acb s.gs (s.r.aD x.d) x.jump d.k (yD d.aD x s)})else(storeT s.gs (s.r.aD x.d) x.jump d.k (yD d.aD x s),s)
 |5=>(0,{s with r:=s.r.eV x.d (if x.s=1 then mmap x.num.toNat else dI x.WO)})
 |6=>if x.s=1 then(if eJ s.r.calls=8 then(4,s)else(0,{s with r:=s.r.Hu x.num.toNat (eJ s.gs),gs:=s.gs++[bS]}))
  else if x.num=1 then pJ s else if x.num=2 then nR s else if x.num=3 then oh s else Kv s
 |_=>if eJ s.r.calls=1 then(if(s.r.aD 0).so=0 then(0,{s with r:=s.r.finish (s.r.aD 0).bits})else(2,s))
  else(0,{s with r:=s.r.back,gs:=s.gs.set s.r.top.oJ []})
def aec:PI:=⟨0,0,0,0,0,0,[]⟩
def AY(fs:List bz)(fn slot:Nat):PI:=match (atS 0 (fs.getD fn ⟨[],[]⟩).code).find? (λp=>p.2==slot)with
 |none=>aec
 |some p=>p.1
def aX.ins(fs:List bz)(s:aX):PI:=AY fs s.r.top.fn s.r.top.slot
def aX.begin(s:aX)(n:Nat):aX:={s with r:=s.r.begin n}
def aX.dG(s:aX):aX:={s with r:=s.r.dG}
def aX.did(fs:List bz)(s:aX):Nat×aX:=doP (dU (s.ins fs).o.code) (s.ins fs) (s.begin (s.ins fs).o.slots)
def fJ(fs:List bz)(s:aX):Nat×aX :=
 if s.r.used=s.r.fuel then(1,s)
 else if(s.did fs).1=0 then(0,(s.did fs).2.dG)else s.did fs
def followP(fs:List bz):Nat->aX->Nat×aX
 |0,s=>(0,s)
 |n+1,s=>if s.r.ended then(0,s)else if(fJ fs s).1=0 then followP fs n (fJ fs s).2 else fJ fs s
structure Hw where
 trap:Nat:=0
 fn:tLB:=[]
 slot:Nat:=0
 r0:Nat:=0
 inp:tLN:=[]
 log:tLN:=[]
 used:Nat:=0
def r9(fs:List bz)(d:Nat×aX):Hw :=
 if d.1=0 then⟨0,[],0,d.2.r.r0,d.2.gs.getD d.2.r.inp [],d.2.r.log,d.2.r.used⟩
 else⟨d.1,(fs.getD d.2.r.top.fn ⟨[],[]⟩).name,d.2.r.top.slot,d.2.r.r0,d.2.gs.getD d.2.r.inp [],d.2.r.log,d.2.r.used⟩
def Kw(fuel:Int):Nat:=(min (max fuel 0) 5000).toNat
def pK(gs:List tLN)(ms:List iK)(fn:Nat)(inp:tBA)(fuel:Int):aX:=⟨Ea fn (Kw fuel) (eJ gs) (gN inp).size,gs++[fw (gN inp)]++[bS],ms⟩
def EW(fs:List bz)(gs:List tLN)(ms:List iK)(fn:Nat)(inp:tBA)(fuel:Int):Nat×aX:=followP fs (Kw fuel+2) (pK gs ms fn inp fuel)
def xK(fs:List bz)(name:tLB):Option Nat:=fs.findIdx? (λf=>f.name==name)
def pM(fs:List bz)(gs:List tLN)(ms:List iK)(name:tLB)(inp:tBA)(fuel:Int):Hw×List tLN×List iK:=match xK fs name with
 |none=>({},gs,ms)
 |some fn=>(r9 fs (EW fs gs ms fn inp fuel),(EW fs gs ms fn inp fuel).2.gs,(EW fs gs ms fn inp fuel).2.ms)
def kX(ms:List aB):List iK:=ms.map λm=>⟨m.name,m.key,m.value,m.entries,[]⟩
theorem AZ(x:Int):IntKind.u64.wrap x=((tu x:Nat):Int):=by unfold tu;simp only[IntKind.wrap,IntKind.bits,IntKind.signed,Bool.false_and,Bool.false_eq_true,if_false];omega
theorem oK(x:Int):tu x<18446744073709551616:=by unfold tu;omega
theorem afS(w:tW)(a b n:Nat):fS prog 188 #[vU a,vU b,vU n] w λe w'=>e=fW (vU (ofP 0 a b n))/\w'=w:=by go_in;go_wp2_with fail;go_ret;exact⟨congrArg (λx=>Ending.returned (vU x)) (AZ _),rfl⟩
theorem afT(w:tW)(a b n:Nat):fS prog 191 #[vU a,vU b,vU n] w λe w'=>e=fW (vU (ofP 2 a b n))/\w'=w:=by go_in;go_wp2_with fail;go_ret;exact⟨congrArg (λx=>Ending.returned (vU x)) (AZ _),rfl⟩
theorem Nf(k a b n:Nat)(ha:a<18446744073709551616)(hb:b<18446744073709551616):ofP k a b n<18446744073709551616:=by
 unfold ofP;split
 ·exact oK _
 ·exact oK _
 ·exact oK _
 ·split
  ·omega
  ·have :=Nat.div_le_self a b;omega
 ·split
  ·exact ha
  ·have :=Nat.mod_le a b;omega
 ·exact Nat.lt_of_le_of_lt Nat.and_le_left ha
 ·exact Nat.or_lt_two_pow (n:=64) ha hb
 ·exact Nat.xor_lt_two_pow (n:=64) ha hb
 ·exact oK _
 ·have:a/2 ^ (b%n)<=a:=Nat.div_le_self a _;omega
 ·split
  ·exact oK _
  ·exact oK _
 ·exact oK _
theorem Ot(n:Nat):Sh n<18446744073709551616:=by unfold Sh;omega
def Ty(w:tW)(k:Nat)(t:ju):Prop:=∃cs fr,w.heap[k]?=eK (fL cs t fr)
theorem Ty.one{w:tW}{k:Nat}{t u:ju}(h:Ty w k t)(h':Ty w k u):t=u:=by obtain⟨cs,fr,e⟩:=h;obtain⟨cs',fr',e'⟩:=h';rw[e]at e';injection e' with e';injection e' with _ e' _
theorem au.ty{w:tW}{b:Nat}{cs:tAV}{t:ju}(h:au w b cs t):Ty w b t:=⟨cs,_,h⟩
theorem Sl.ty{w:tW}{e:ju}{size n k:Nat}{v:fa}{xs:tLV}(h:Sl w e size v n xs)(hk:v.ownBlock=eK k):Ty w k e:=by
 rcases h.2 with⟨rfl,_⟩ |⟨g,cap,cur,rfl,_,hg,_⟩
 ·cases hk
 ·cases hk;exact⟨_,_,hg⟩
theorem mD.ty{w:tW}{n k:Nat}{v:fa}{l:tLN}(h:mD w v n l)(hk:v.ownBlock=eK k):Ty w k 5:=by
 rcases h.2 with⟨rfl,_⟩ |⟨g,cap,cur,lo,hi,rfl,hg,_⟩
 ·cases hk
 ·cases hk;exact⟨_,_,hg⟩
def ep(L:List ju)(w w':tW):Prop:=aa (λk=>∃t∈L,Ty w k t) w w'
section
variable {w w' : World} {L : List ju}
theorem ep.of{S:Nat->Prop}(m:aa S w w')(h:∀k,S k->∃t∈L,Ty w k t):ep L w w':=m.mono (λk _ hk=>h k hk)
theorem Ty.nt{k:Nat}{t:ju}(h:Ty w k t)(hL:t ∉ L):¬ ∃u∈L,Ty w k u:=fun⟨u,hu,hk⟩=>hL (h.one hk ▸ hu)
theorem au.cK{b:Nat}{cs:tAV}{t:ju}(h:au w b cs t)(m:ep L w w')(hL:t ∉ L):au w' b cs t:=h.ai m (h.ty.nt hL)
theorem Sl.cK{e:ju}{size n:Nat}{v:fa}{xs:tLV}(h:Sl w e size v n xs)(m:ep L w w')(hL:e ∉ L):Sl w' e size v n xs:=h.ai m (λ_ hk=>(h.ty hk).nt hL)
theorem mD.cK{n:Nat}{v:fa}{l:tLN}(h:mD w v n l)(m:ep L w w')(hL:5 ∉ L):mD w' v n l:=h.ai m (λ_ hk=>(h.ty hk).nt hL)
theorem pH.cK{rb:tLN}{vs:tLV}{gs:List tLN}(h:pH w rb vs gs)(m:ep L w w')(h1:122 ∉ L)(h2:5 ∉ L):pH w' rb vs gs :=
 ⟨h.lr,h.lv,λi hi=>(h.blk i hi).cK m h1,λi hi=>(h.sl i hi).cK m h2,h.inj,h.Kq⟩
theorem aI.cK{b:Nat}{rb mb:tLN}{vM vC vL:fa}{r:aJ}(h:aI w b rb mb vM vC vL r)(m:ep L w w')(h1:125 ∉ L)(h2:190 ∉ L):aI w' b rb mb vM vC vL r :=
 ⟨h.blk.cK m h1,h.calls.cK m h2,h.regs,h.depth⟩
end
def meC(rb:tLN)(e:tLN×Nat):tLV:=[eR (strOf e.1),vP (rb.getD e.2 0)]
structure oN(w:tW)(rb mb:tLN)(vM:fa)(ve:tLV)(ms:List iK):Prop where
 lm:eJ mb=eJ ms
 le:eJ ve=eJ ms
 uW:Sl w 82 1 vM (eJ ms) (mb.flatMap RW)
 blk:∀i,i<eJ ms->au w (mb.getD i 0) #[eR (T (ms.getD i jZ).name),vI (ms.getD i jZ).key,vI (ms.getD i jZ).value,vI (ms.getD i jZ).most,ve.getD i kO] 85
 sl:∀i,i<eJ ms->Sl w 148 2 (ve.getD i kO) (eJ (ms.getD i jZ).aP) ((ms.getD i jZ).aP.flatMap (meC rb))
 inj:∀i j,i<eJ ms->j<eJ ms->mb.getD i 0=mb.getD j 0->i=j
 Kx:∀i j k,i<eJ ms->j<eJ ms->(ve.getD i kO).ownBlock=eK k->(ve.getD j kO).ownBlock=eK k->i=j
theorem oN.cK{w w':tW}{L:List ju}{rb mb:tLN}{vM:fa}{ve:tLV}{ms:List iK}(h:oN w rb mb vM ve ms)(m:ep L w w')(h1:82 ∉ L)(h2:85 ∉ L)(h3:148 ∉ L):oN w' rb mb vM ve ms :=
 ⟨h.lm,h.le,h.uW.cK m h1,λi hi=>(h.blk i hi).cK m h2,λi hi=>(h.sl i hi).cK m h3,h.inj,h.Kx⟩
theorem oN.quiet{w w':tW}{rb mb:tLN}{vM:fa}{ve:tLV}{ms:List iK}(h:oN w rb mb vM ve ms)(m:aa af w w'):oN w' rb mb vM ve ms :=
 ⟨h.lm,h.le,h.uW.ai m (λ_ _=>id),λi hi=>(h.blk i hi).ai m id,λi hi=>(h.sl i hi).ai m (λ_ _=>id),h.inj,h.Kx⟩
def iK.In(m:iK)(n:Nat):Prop:=∀e∈m.aP,e.2<n
theorem Eb(rb:tLN)(x:Nat)(l:List (tLN×Nat))(h:∀e∈l,e.2<eJ rb):l.flatMap (meC (rb++[x]))=l.flatMap (meC rb) :=
 rY _ _ l (λe he=>by unfold meC;rw[kK _ _ _ _ (h e he)])
theorem oN.grow{w:tW}{rb mb:tLN}{vM:fa}{ve:tLV}{ms:List iK}(h:oN w rb mb vM ve ms)(x:Nat)(hi:∀m∈ms,m.In (eJ rb)):oN w (rb++[x]) mb vM ve ms :=
 ⟨h.lm,h.le,h.uW,h.blk,λi hi'=>by rw[Eb rb x _ (λe he=>hi (ms.getD i jZ) (by rw[List.getD_eq_getElem?_getD,List.getElem?_eq_getElem hi'];exact bt hi') e he)];exact h.sl i hi',h.inj,h.Kx⟩
structure Ad where
 rb:tLN
 mb:tLN
 vs:tLV
 ve:tLV
 vM:fa
 vC:fa
 vL:fa
structure dX(F:Nat->Prop)(w:tW)(b:Nat)(a:Ad)(s:aX):Prop where
 run:aI w b a.rb a.mb a.vM a.vC a.vL s.r
 kL:pH w a.rb a.vs s.gs
 log:Sl w 22 1 a.vL (eJ s.r.log) (WL s.r.log)
 maps:oN w a.rb a.mb a.vM a.ve s.ms
 fb:F b
 fc:∀k,a.vC.ownBlock=eK k->F k
 fl:∀k,a.vL.ownBlock=eK k->F k
 fr:∀x∈a.rb,F x
 fv:∀v∈a.vs,∀k,v.ownBlock=eK k->F k
 fm:∀x∈a.mb,F x
 fe:∀v∈a.ve,∀k,v.ownBlock=eK k->F k
section
variable {F : Nat -> Prop} {w w' : World} {b : Nat} {a : Ad} {s : aX}
theorem dX.quiet(h:dX F w b a s)(m:aa af w w'):dX F w' b a s :=
 ⟨h.run.quiet m,h.kL.quiet m,h.log.ai m (λ_ _=>id),h.maps.quiet m,h.fb,h.fc,h.fl,h.fr,h.fv,h.fm,h.fe⟩
theorem dX.abm(h:dX F w b a s)(k:Nat)(hk:k=b\/Own a.vC k):∃t∈[125,190],Ty w k t:=by
 rcases hk with rfl|hk
 ·exact⟨_,by simp,h.run.blk.ty⟩
 ·exact⟨_,by simp,h.run.calls.ty hk⟩
theorem dX.WQ(h:dX F w b a s)(m:aa (λk=>k=b\/Own a.vC k) w w')(r:aJ)(hr:aI w' b a.rb a.mb a.vM a.vC a.vL r)(hl:r.log=s.r.log):dX F w' b a {s with r:=r}/\aa F w w':=by
 have mT:=ep.of m h.abm;refine⟨⟨hr,h.kL.cK mT (by decide) (by decide),?_,h.maps.cK mT (by decide) (by decide) (by decide),h.fb,h.fc,h.fl,h.fr,h.fv,h.fm,h.fe⟩,m.mono (λk _ hk=>?_)⟩
 ·show Sl w' _ _ _ (eJ r.log) (WL r.log)
  rw[hl];exact h.log.cK mT (by decide)
 ·rcases hk with rfl|hk
  ·exact h.fb
  ·exact h.fc k hk
theorem dX.quiet'(h:dX F w b a s)(m:aa af w w'):dX F w' b a s/\aa F w w':=⟨h.quiet m,m.mono (λ_ _ h=>h.elim)⟩
end
def bJ(F:Nat->Prop)(w:tW)(b:Nat)(a:Ad)(d:Nat×aX)(e:mz)(w':tW):Prop :=
 e=(if d.1=0 then fW (jl #[])else bG d.1)/\aa F w w'/\∃a',dX F w' b a' d.2/\a'.mb=a.mb/\a'.vM=a.vM
theorem bJ.ok{F:Nat->Prop}{w w':tW}{b:Nat}{a:Ad}{s:aX}(h:dX F w' b a s/\aa F w w'):bJ F w b a (0,s) (fW (jl #[])) w':=⟨rfl,h.2,a,h.1,rfl,rfl⟩
theorem bJ.trap{F:Nat->Prop}{w w':tW}{b:Nat}{a:Ad}{s:aX}{t:Nat}(ht:t≠0)(h:dX F w b a s)(m:aa af w w'):bJ F w b a (t,s) (bG t) w':=⟨(iN9 ht).symm,(h.quiet' m).2,a,(h.quiet' m).1,rfl,rfl⟩
theorem gj{P:lj}{id:Nat}{Q:Exit->Act->tW->Prop}{a:Act}{w:tW}{l:List iz}(S:Nat->Prop)(n:Nat)(es:tLN)(hm:P.follows .mixedOrders=fR)(hB:(cj l.toArray&&gh (n<l.toArray.size)&&Region.sinkB .any l.toArray n&&Region.chainB .any l.toArray n&&chainB .any l.toArray es&&lexX .any l.toArray es (λj=>gh (j<n)) (Region.seqB .any l.toArray (l.toArray.size-n) n) (List.range' 0 (eJ (l.take n))) (cq l.toArray.size fj))=fR)(h:Nonempty (Ext S w)->ah (aa S w w.drew)->wpMix P l.toArray (λw'=>∃e:Ext S w,w'=e.w) es (λa' w'=>n9 P l.toArray Q (l.drop n) a' w') 0 (l.take n) a w.drew):(Code.region id l.toArray fR).wp P Q a w :=
 bY n es _ hm hB ⟨⟨_,aN⟩,rfl⟩ (h (Ext.ne _ _) aN)
theorem jy{P:lj}{id:Nat}{Q:Exit->Act->tW->Prop}{a:Act}{w:tW}{l:List iz}(S:Nat->Prop)(p:Nat)(es ks:tLN)(E:List PanicEntry->tW->Prop)(hm:P.follows .mixedOrders=fR)(hB:(cj l.toArray&&lexX .any l.toArray es (λi=>i != p) (λlisted=>Region.ready .any l.toArray listed==[p]) ks (cq l.toArray.size fj)&&chainB .any l.toArray es&&es.contains p&&gh (eJ ks<l.toArray.size))=fR)(hQ:∀c a' w',a'.defers=a.defers->E c w'->Q (.panic c) a' w')(h:Nonempty (Ext S w)->ah (aa S w w.drew)->wpMixL P l.toArray (λw'=>∃e:Ext S w,w'=e.w) es (yN P l.toArray p a.defers E) ks a w.drew):(Code.region id l.toArray fR).wp P Q a w :=
 DJ p es ks _ E hm hB ⟨⟨_,aN⟩,rfl⟩ hQ (h (Ext.ne _ _) aN)
def QA(w:tW)(f:lO)(args:tAV)(ek:mz):Prop:=∀w',aa af w w'->fS prog f args w' λe w''=>e=ek/\aa af w' w''
def QE(W:tW)(f:lO)(args:tAV)(ek:mz):Prop:=∀w',ah (aa af W w')->fS prog f args w' λe w''=>e=ek/\ah (aa af W w'')
theorem QA.to{w W:tW}{f:lO}{args:tAV}{ek:mz}(h:QA w f args ek)(m:aa af w W):ah (QE W f args ek):=λw' m'=>(h w' (m.trans m'.o)).mono λ_ _ hh=>⟨hh.1,m'.o.trans hh.2⟩
theorem xL{W w':tW}{f:lO}{args:tAV}{ek:mz}(h:ah (QE W f args ek))(m:ah (aa af W w')):fS prog f args w' λe w''=>e=ek/\ah (aa af W w''):=h.o w' m
theorem QA.all{w:tW}{f:lO}{args:tAV}{ek:mz}(h:∀w',fS prog f args w' λe w''=>e=ek/\aa af w' w''):QA w f args ek:=λw' _=>h w'
theorem QA.same{w:tW}{f:lO}{args:tAV}{ek:mz}(h:∀w',fS prog f args w' λe w''=>e=ek/\w''=w'):QA w f args ek:=λw' _=>(h w').mono λ_ _ hh=>⟨hh.1,hh.2 ▸ ax⟩
theorem au.four{w:tW}{b:Nat}{a0 a1 a2 a3:fa}{t:ju}(h:au w b #[a0,a1,a2,a3] t):w.cell? ⟨b,0,eL⟩=eK a0/\w.cell? ⟨b,1,eL⟩=eK a1/\w.cell? ⟨b,2,eL⟩=eK a2/\w.cell? ⟨b,3,eL⟩=eK a3/\∀i,w.frozen? ⟨b,i,eL⟩=fj:=⟨h.cell 0,h.cell 1,h.cell 2,h.cell 3,h.frozen⟩
theorem au.four'{w:tW}{b:Nat}{a0 a1 a2 a3:fa}{t:ju}(h:au w b #[a0,a1,a2,a3] t):(∀e:Ext af w,e.w.cell? ⟨b,0,eL⟩=eK a0)/\(∀e:Ext af w,e.w.cell? ⟨b,1,eL⟩=eK a1)/\(∀e:Ext af w,e.w.cell? ⟨b,2,eL⟩=eK a2)/\∀e:Ext af w,e.w.cell? ⟨b,3,eL⟩=eK a3 :=
 ⟨λe=>(h.ai e.m id).cell 0,λe=>(h.ai e.m id).cell 1,λe=>(h.ai e.m id).cell 2,λe=>(h.ai e.m id).cell 3⟩
theorem au.one'{w:tW}{b:Nat}{v:fa}{t:ju}(h:au w b #[v] t)(e:Ext af w):e.w.cell? ⟨b,0,eL⟩=eK v:=(h.ai e.m id).cell 0
theorem Ou{w X:tW}{b:Nat}{v0 v1 v2 v3:fa}(m:aa af w X)(hb:w.heap.size<=b):aa af w ((((X.setCell ⟨b,0,eL⟩ v0).setCell ⟨b,1,eL⟩ v1).setCell ⟨b,2,eL⟩ v2).setCell ⟨b,3,eL⟩ v3) :=
 (((m.set (a:=⟨b,0,eL⟩) (.inr hb) v0).set (a:=⟨b,1,eL⟩) (.inr hb) v1).set (a:=⟨b,2,eL⟩) (.inr hb) v2).set (a:=⟨b,3,eL⟩) (.inr hb) v3
structure V3(w W:tW)(d0 d1 d2 d3 s0 s1 s2 s3:fa):Prop where
 m:ah (aa af w W)
 d:ah (au W w.heap.size #[d0,d1,d2,d3] 130)
 s:ah (au W (w.heap.size+1) #[s0,s1,s2,s3] 130)
 b:ah (au W (w.heap.size+1+1) #[vI 0,vU 0,vO,vO] 130)
theorem V3.of(w:tW)(d0 d1 d2 d3 s0 s1 s2 s3:fa):V3 w (((w.alloc (fL #[d0,d1,d2,d3] 130)).alloc (fL #[s0,s1,s2,s3] 130)).alloc (fL #[vI 0,vU 0,vO,vO] 130)) d0 d1 d2 d3 s0 s1 s2 s3:=by
 refine⟨(aw.alloc _).alloc _,((au.new w _ _).alloc _).alloc _,?_,?_⟩
 ·have:=(au.new (w.alloc (fL #[d0,d1,d2,d3] 130)) #[s0,s1,s2,s3] 130).alloc (fL #[vI 0,vU 0,vO,vO] 130)
  rwa [World.size_alloc]at this
 ·have:=au.new ((w.alloc (fL #[d0,d1,d2,d3] 130)).alloc (fL #[s0,s1,s2,s3] 130)) #[vI 0,vU 0,vO,vO] 130
  rwa [World.size_alloc,World.size_alloc]at this
theorem V3.ai{w W W':tW}{d0 d1 d2 d3 s0 s1 s2 s3:fa}(h:V3 w W d0 d1 d2 d3 s0 s1 s2 s3)(m:aa af W W'):V3 w W' d0 d1 d2 d3 s0 s1 s2 s3:=⟨h.m.o.trans m,h.d.o.ai m id,h.s.o.ai m id,h.b.o.ai m id⟩
theorem Hy(w:tW)(D S:tAV)(t u:ju):aa af w ((w.alloc (fL D t)).alloc (fL S u))/\au ((w.alloc (fL D t)).alloc (fL S u)) w.heap.size D t /\ au ((w.alloc (fL D t)).alloc (fL S u)) (w.heap.size+1) S u:=by
 refine⟨aw.alloc _,(au.new w D t).alloc _,?_⟩;have:=au.new (w.alloc (fL D t)) S u
 rwa [World.size_alloc]at this
theorem acd(w:tW)(d0 d1 d2 d3 s0 s1 s2 s3:fa)(b:Nat)(fk:lO)(hb:au w b #[qK fk] 282)(nd ns R:fa)(v0 v1:Int)(v2 v3:Option kh)(en:ou fk)(hd:QA w 207 #[fY #[d0,d1,d2,d3]] (fW nd))(hs:QA w 207 #[fY #[s0,s1,s2,s3]] (fW ns))(ho:QA w fk #[nd,ns,vU 64] (fW R))(hv:QA w 56 #[R] (fW (fY #[vI v0,vU v1,ia v2,ia v3]))):fS prog 206 #[fY #[d0,d1,d2,d3],fY #[s0,s1,s2,s3],pt b] w λe w'=>e=fW (fY #[vI v0,vU v1,ia v2,ia v3])/\aa af w w':=by
 unfold ou at en;have V0:=V3.of w d0 d1 d2 d3 s0 s1 s2 s3;have c0:=aq (hb.ai V0.m.o id);clear hb;have HD:=hd.to V0.m.o;have HS:=hs.to V0.m.o;have HO:=ho.to V0.m.o;have HV:=hv.to V0.m.o;clear hd hs ho hv;go_in;go_upto_region 1 with fail;generalize((w.alloc (fL #[d0,d1,d2,d3] 130)).alloc (fL #[s0,s1,s2,s3] 130)).alloc (fL #[vI 0,vU 0,vO,vO] 130)=W3 at *;obtain⟨x0,x1,x2,x3⟩:=V0.d.o.four';obtain⟨y0,y1,y2,y3⟩:=V0.s.o.four';have q0:=c0.o.one';have HM:=V0.m;refine gj af 7 [2,4,5,6] (by kernel_rfl) (by kernel_rfl) (λ_ M0=>?_);simp only[ab,ar,al,ba]
 iterate 2 (refine aG rfl rfl rfl ?_;intro K hK;go_big_quiet_op;go_big_quiet_on)
 refine aH rfl rfl ?_;intro K hK;go_big_op;refine(xL HD M0).mono ?_;rintro e u1 ⟨rfl,M1⟩;refine hK _ _ rfl ⟨⟨_,M1.o⟩,rfl⟩ ?_;clear hK K
 iterate 1 (refine aG rfl rfl rfl ?_;intro K hK;go_big_quiet_op;go_big_quiet_on)
 refine aH rfl rfl ?_;intro K hK;go_big_op;refine(xL HS M1).mono ?_;rintro e u2 ⟨rfl,M2⟩;refine hK _ _ rfl ⟨⟨_,M2.o⟩,rfl⟩ ?_;clear hK K;refine aH rfl rfl ?_;intro K hK;go_big_op;refine(xL HO M2).mono ?_;rintro e u3 ⟨rfl,M3⟩;refine hK _ _ rfl ⟨⟨_,M3.o⟩,rfl⟩ ?_;clear hK K;refine aH rfl rfl ?_;intro K hK;go_big_op;refine(xL HV M3).mono ?_;rintro e u4 ⟨rfl,M4⟩;refine hK _ _ rfl ⟨⟨_,M4.o⟩,rfl⟩ ?_;clear hK K;refine bZ ?_;clear q0;have HB:=aq (V0.b.o.ai M4.o id);clear x0 x1 x2 x3 y0 y1 y2 y3;obtain⟨z0,z1,z2,z3,zf⟩:=HB.o.four;go_wp2_with fail;refine kx (mL results206 _ _ (w.heap.size+1+1) 130 _ (0,0) _ rfl ((((HB.o.set 0 _).set 1 _).set 2 _).set 3 _) underlying130 rfl (by kernel_rfl)) rfl ⟨rfl,?_⟩;exact Ou (HM.o.trans M4.o) (by omega)
theorem ace(w:tW)(d0 d1 d2 d3 s0 s1 s2 s3:fa)(b:Nat)(fk:lO)(hb:au w b #[qK fk] 282)(t:Nat)(hd:QA w 207 #[fY #[d0,d1,d2,d3]] (bG t)):fS prog 206 #[fY #[d0,d1,d2,d3],fY #[s0,s1,s2,s3],pt b] w λe w'=>e=bG t/\aa af w w':=by
 have V0:=V3.of w d0 d1 d2 d3 s0 s1 s2 s3;have c0:=aq (hb.ai V0.m.o id);clear hb;have HD:=hd.to V0.m.o;clear hd;go_in;go_upto_region 1 with fail;generalize((w.alloc (fL #[d0,d1,d2,d3] 130)).alloc (fL #[s0,s1,s2,s3] 130)).alloc (fL #[vI 0,vU 0,vO,vO] 130)=W3 at *;obtain⟨x0,x1,x2,x3⟩:=V0.d.o.four';obtain⟨y0,y1,y2,y3⟩:=V0.s.o.four';have q0:=c0.o.one';have HM:=V0.m;refine jy af 2 [2] [0,1,3] (λc w'=>sq c=bG t/\aa af w w') (by kernel_rfl) (by kernel_rfl) (λc a' w' hd' hm=>⟨hd',hm⟩) (λ_ M0=>?_)
 iterate 3 (refine jK rfl rfl rfl rfl ?_;intro K hK;(conv=>(arg 2;whnf));go_big_quiet_op;go_big_quiet_on)
 refine mixL_pan rfl rfl rfl ?_;intro QQ hQQ hLO
 conv=>(arg 2;whnf)
 go_big_op;refine(xL HD M0).mono ?_;rintro e up ⟨rfl,MP⟩;exact hQQ _ _ ⟨rfl,HM.o.trans MP.o⟩
theorem acf(w:tW)(d0 d1 d2 d3 s0 s1 s2 s3:fa)(b:Nat)(fk:lO)(hb:au w b #[qK fk] 282)(nd:fa)(t:Nat)(hd:QA w 207 #[fY #[d0,d1,d2,d3]] (fW nd))(hs:QA w 207 #[fY #[s0,s1,s2,s3]] (bG t)):fS prog 206 #[fY #[d0,d1,d2,d3],fY #[s0,s1,s2,s3],pt b] w λe w'=>e=bG t/\aa af w w':=by
 have V0:=V3.of w d0 d1 d2 d3 s0 s1 s2 s3;have c0:=aq (hb.ai V0.m.o id);clear hb;have HD:=hd.to V0.m.o;have HS:=hs.to V0.m.o;clear hd hs;go_in;go_upto_region 1 with fail;generalize((w.alloc (fL #[d0,d1,d2,d3] 130)).alloc (fL #[s0,s1,s2,s3] 130)).alloc (fL #[vI 0,vU 0,vO,vO] 130)=W3 at *;obtain⟨x0,x1,x2,x3⟩:=V0.d.o.four';obtain⟨y0,y1,y2,y3⟩:=V0.s.o.four';have q0:=c0.o.one';have HM:=V0.m;refine jy af 4 [2,4] [0,1,2,3] (λc w'=>sq c=bG t/\aa af w w') (by kernel_rfl) (by kernel_rfl) (λc a' w' hd' hm=>⟨hd',hm⟩) (λ_ M0=>?_)
 iterate 2 (refine jK rfl rfl rfl rfl ?_;intro K hK;(conv=>(arg 2;whnf));go_big_quiet_op;go_big_quiet_on)
 refine zD rfl rfl rfl ?_;intro K hK
 conv=>(arg 2;whnf)
 go_big_op;refine(xL HD M0).mono ?_;rintro e u1 ⟨rfl,M1⟩;refine hK _ _ rfl ⟨⟨_,M1.o⟩,rfl⟩ ?_;clear hK K
 iterate 1 (refine jK rfl rfl rfl rfl ?_;intro K hK;(conv=>(arg 2;whnf));go_big_quiet_op;go_big_quiet_on)
 refine mixL_pan rfl rfl rfl ?_;intro QQ hQQ hLO
 conv=>(arg 2;whnf)
 go_big_op;refine(xL HS M1).mono ?_;rintro e up ⟨rfl,MP⟩;exact hQQ _ _ ⟨rfl,HM.o.trans MP.o⟩
theorem aas(w:tW)(rb mb:tLN)(d s:MV)(hd:d.so=0)(hs:s.so=0)(b:Nat)(fk:lO)(hb:au w b #[qK fk] 282)(R:Nat)(en:ou fk)(hof:∀w',fS prog fk #[vU d.bits,vU s.bits,vU 64] w' λe w''=>e=fW (vU R)/\w''=w'):fS prog 206 #[fY (d.cells rb mb).toArray,fY (s.cells rb mb).toArray,pt b] w λe w'=>e=fW (fY ((dI R).cells rb mb).toArray)/\aa af w w' :=
 acd w _ _ _ _ _ _ _ _ b fk hb _ _ _ _ _ _ _ en (.all λw'=>qo w' rb mb d hd) (.all λw'=>qo w' rb mb s hs) (.same hof) (.all λw'=>qm w' rb mb R)
theorem aat(w:tW)(rb mb:tLN)(d s:MV)(hd:d.so≠0)(b:Nat)(fk:lO)(hb:au w b #[qK fk] 282):fS prog 206 #[fY (d.cells rb mb).toArray,fY (s.cells rb mb).toArray,pt b] w λe w'=>e=bG 2/\aa af w w' :=
 ace w _ _ _ _ _ _ _ _ b fk hb 2 (.all λw'=>wI w' rb mb d hd)
theorem aau(w:tW)(rb mb:tLN)(d s:MV)(hd:d.so=0)(hs:s.so≠0)(b:Nat)(fk:lO)(hb:au w b #[qK fk] 282):fS prog 206 #[fY (d.cells rb mb).toArray,fY (s.cells rb mb).toArray,pt b] w λe w'=>e=bG 2/\aa af w w' :=
 acf w _ _ _ _ _ _ _ _ b fk hb _ 2 (.all λw'=>qo w' rb mb d hd) (.all λw'=>wI w' rb mb s hs)
theorem aed(w:tW)(d0 d1 d2 d3:fa)(s0 s1:Int)(s2 s3:Option kh) :fS prog 185 #[fY #[d0,d1,d2,d3],fY #[vI s0,vU s1,ia s2,ia s3]] w λe w'=>e=fW (fY #[vI s0,vU s1,ia s2,ia s3])/\aa af w w':=by have V0:=V3.of w d0 d1 d2 d3 (vI s0) (vU s1) (ia s2) (ia s3);go_in;go_upto_region 1 with fail;generalize((w.alloc (fL #[d0,d1,d2,d3] 130)).alloc (fL #[vI s0,vU s1,ia s2,ia s3] 130)).alloc (fL #[vI 0,vU 0,vO,vO] 130)=W3 at *;obtain⟨y0,y1,y2,y3,_⟩:=V0.s.o.four;obtain⟨z0,z1,z2,z3,zf⟩:=V0.b.o.four;go_wp2_with fail;refine kx (mL results185 _ _ (w.heap.size+1+1) 130 _ (0,0) _ rfl ((((V0.b.o.set 0 _).set 1 _).set 2 _).set 3 _) underlying130 rfl (by kernel_rfl)) rfl ⟨rfl,?_⟩;exact Ou V0.m.o (by omega)
theorem aav(w:tW)(rb mb:tLN)(d s:MV) :fS prog 185 #[fY (d.cells rb mb).toArray,fY (s.cells rb mb).toArray] w λe w'=>e=fW (fY (s.cells rb mb).toArray)/\aa af w w' :=
 aed w _ _ _ _ _ _ _ _
theorem aee(w:tW)(d0 d1 d2 d3 s0 s1 s2 s3:fa)(b:Nat)(fk:lO)(hb:au w b #[qK fk] 282)(b1:Nat)(nd ns R:fa)(v0 v1:Int)(v2 v3:Option kh)(en:ou fk)(hf:QA w 275 #[fY #[d0,d1,d2,d3]] (fW (jl #[nd,fX fR])))(hs:QA w 207 #[fY #[s0,s1,s2,s3]] (fW ns))(ho:QA w fk #[nd,ns,vU 64] (fW R))(hv:QA w 276 #[fY #[d0,d1,d2,d3],R] (fW (fY #[vI v0,vU v1,ia v2,ia v3]))):fS prog 274 #[fY #[d0,d1,d2,d3],fY #[s0,s1,s2,s3],pt b,pt b1] w λe w'=>e=fW (fY #[vI v0,vU v1,ia v2,ia v3])/\aa af w w':=by
 unfold ou at en;have V0:=V3.of w d0 d1 d2 d3 s0 s1 s2 s3;have c0:=aq (hb.ai V0.m.o id);clear hb;have HF:=hf.to V0.m.o;clear hf;go_in;go_upto_region 1 with fail;generalize((w.alloc (fL #[d0,d1,d2,d3] 130)).alloc (fL #[s0,s1,s2,s3] 130)).alloc (fL #[vI 0,vU 0,vO,vO] 130)=W3 at *;obtain⟨x0,x1,x2,x3,_⟩:=V0.d.o.four;go_wp2_with fail;refine(xL HF ax).mono ?_;rintro e wo ⟨rfl,MO⟩;have V:=V0.ai MO.o;have HM:=V.m;have c1:=aq (c0.o.ai MO.o id);clear x0 x1 x2 x3 HF MO V0 c0;have HS:=hs.to HM.o;have HO:=ho.to HM.o;have HV:=hv.to HM.o;go_upto_region 3 with fail;obtain⟨x0,x1,x2,x3⟩:=V.d.o.four';obtain⟨y0,y1,y2,y3⟩:=V.s.o.four';have q0:=c1.o.one';refine gj af 7 [4,5,6] (by kernel_rfl) (by kernel_rfl) (λ_ M0=>?_);simp only[ab,ar,al,ba]
 iterate 4 (refine aG rfl rfl rfl ?_;intro K hK;go_big_quiet_op;go_big_quiet_on)
 refine aH rfl rfl ?_;intro K hK;go_big_op;refine(xL HS M0).mono ?_;rintro e u1 ⟨rfl,M1⟩;refine hK _ _ rfl ⟨⟨_,M1.o⟩,rfl⟩ ?_;clear hK K;refine aH rfl rfl ?_;intro K hK;go_big_op;refine(xL HO M1).mono ?_;rintro e u2 ⟨rfl,M2⟩;refine hK _ _ rfl ⟨⟨_,M2.o⟩,rfl⟩ ?_;clear hK K;refine aH rfl rfl ?_;intro K hK;go_big_op;refine(xL HV M2).mono ?_;rintro e u3 ⟨rfl,M3⟩;refine hK _ _ rfl ⟨⟨_,M3.o⟩,rfl⟩ ?_;clear hK K;refine bZ ?_;clear q0;have HB:=aq (V.b.o.ai M3.o id);clear x0 x1 x2 x3 y0 y1 y2 y3;obtain⟨z0,z1,z2,z3,zf⟩:=HB.o.four;go_wp2_with fail;refine kx (mL results274 _ _ (w.heap.size+1+1) 130 _ (0,0) _ rfl ((((HB.o.set 0 _).set 1 _).set 2 _).set 3 _) underlying130 rfl (by kernel_rfl)) rfl ⟨rfl,?_⟩;exact Ou (HM.o.trans M3.o) (by omega)
theorem aef(w:tW)(d0 d1 d2 d3 s0 s1 s2 s3:fa)(b:Nat)(fk:lO)(hb:au w b #[qK fk] 282)(b1:Nat)(nd:fa)(t:Nat)(hf:QA w 275 #[fY #[d0,d1,d2,d3]] (fW (jl #[nd,fX fR])))(hs:QA w 207 #[fY #[s0,s1,s2,s3]] (bG t)):fS prog 274 #[fY #[d0,d1,d2,d3],fY #[s0,s1,s2,s3],pt b,pt b1] w λe w'=>e=bG t/\aa af w w':=by
 have V0:=V3.of w d0 d1 d2 d3 s0 s1 s2 s3;have c0:=aq (hb.ai V0.m.o id);clear hb;have HF:=hf.to V0.m.o;clear hf;go_in;go_upto_region 1 with fail;generalize((w.alloc (fL #[d0,d1,d2,d3] 130)).alloc (fL #[s0,s1,s2,s3] 130)).alloc (fL #[vI 0,vU 0,vO,vO] 130)=W3 at *;obtain⟨x0,x1,x2,x3,_⟩:=V0.d.o.four;go_wp2_with fail;refine(xL HF ax).mono ?_;rintro e wo ⟨rfl,MO⟩;have V:=V0.ai MO.o;have HM:=V.m;have c1:=aq (c0.o.ai MO.o id);clear x0 x1 x2 x3 HF MO V0 c0;have HS:=hs.to HM.o;go_upto_region 3 with fail;obtain⟨x0,x1,x2,x3⟩:=V.d.o.four';obtain⟨y0,y1,y2,y3⟩:=V.s.o.four';have q0:=c1.o.one';refine jy af 4 [4] [0,1,2,3] (λc w'=>sq c=bG t/\aa af w w') (by kernel_rfl) (by kernel_rfl) (λc a' w' hd' hm=>⟨hd',hm⟩) (λ_ M0=>?_)
 iterate 4 (refine jK rfl rfl rfl rfl ?_;intro K hK;(conv=>(arg 2;whnf));go_big_quiet_op;go_big_quiet_on)
 refine mixL_pan rfl rfl rfl ?_;intro QQ hQQ hLO
 conv=>(arg 2;whnf)
 go_big_op;refine(xL HS M0).mono ?_;rintro e up ⟨rfl,MP⟩;exact hQQ _ _ ⟨rfl,HM.o.trans MP.o⟩
theorem aaw(w:tW)(d0 d1 d2 d3 s0 s1 s2 s3:fa)(b b1 b2:Nat)(hb:au w b1 #[fN (.func 206) #[] #[pt b2]] 208)(nd:fa)(v0 v1:Int)(v2 v3:Option kh)(hf:QA w 275 #[fY #[d0,d1,d2,d3]] (fW (jl #[nd,fX fj])))(hi:QA w 206 #[fY #[d0,d1,d2,d3],fY #[s0,s1,s2,s3],pt b2] (fW (fY #[vI v0,vU v1,ia v2,ia v3]))):fS prog 274 #[fY #[d0,d1,d2,d3],fY #[s0,s1,s2,s3],pt b,pt b1] w λe w'=>e=fW (fY #[vI v0,vU v1,ia v2,ia v3])/\aa af w w':=by have en:∀args w,(callFunc 206 args).run prog w=.ok (.enter 206 args) w:=enters_of func206 (by kernel_rfl) rfl;have V0:=V3.of w d0 d1 d2 d3 s0 s1 s2 s3;have c0:=aq (hb.ai V0.m.o id);clear hb;have HF:=hf.to V0.m.o;clear hf;go_in;go_upto_region 1 with fail;generalize((w.alloc (fL #[d0,d1,d2,d3] 130)).alloc (fL #[s0,s1,s2,s3] 130)).alloc (fL #[vI 0,vU 0,vO,vO] 130)=W3 at *;obtain⟨x0,x1,x2,x3,_⟩:=V0.d.o.four;go_wp2_with fail;refine(xL HF ax).mono ?_;rintro e wo ⟨rfl,MO⟩;have V:=V0.ai MO.o;have HM:=V.m;have c1:=aq (c0.o.ai MO.o id);clear x0 x1 x2 x3 HF MO V0 c0;have HI:=hi.to HM.o;obtain⟨x0,x1,x2,x3,_⟩:=V.d.o.four;obtain⟨y0,y1,y2,y3,_⟩:=V.s.o.four;have q0:=c1.o.cell 0;go_wp2_with fail;refine(xL HI ax).mono ?_;rintro e u1 ⟨rfl,M1⟩;clear q0;have HB:=aq (V.b.o.ai M1.o id);clear x0 x1 x2 x3 y0 y1 y2 y3;obtain⟨z0,z1,z2,z3,zf⟩:=HB.o.four;go_wp2_with fail;refine kx (mL results274 _ _ (w.heap.size+1+1) 130 _ (0,0) _ rfl ((((HB.o.set 0 _).set 1 _).set 2 _).set 3 _) underlying130 rfl (by kernel_rfl)) rfl ⟨rfl,?_⟩;exact Ou (HM.o.trans M1.o) (by omega)
theorem acg(w:tW)(d0 d1 d2 d3 s0 s1 s2 s3:fa)(b b1 b2:Nat)(hb:au w b1 #[fN (.func 206) #[] #[pt b2]] 208)(nd:fa)(t:Nat)(hf:QA w 275 #[fY #[d0,d1,d2,d3]] (fW (jl #[nd,fX fj])))(hi:QA w 206 #[fY #[d0,d1,d2,d3],fY #[s0,s1,s2,s3],pt b2] (bG t)):fS prog 274 #[fY #[d0,d1,d2,d3],fY #[s0,s1,s2,s3],pt b,pt b1] w λe w'=>e=bG t/\aa af w w':=by have en:∀args w,(callFunc 206 args).run prog w=.ok (.enter 206 args) w:=enters_of func206 (by kernel_rfl) rfl;have V0:=V3.of w d0 d1 d2 d3 s0 s1 s2 s3;have c0:=aq (hb.ai V0.m.o id);clear hb;have HF:=hf.to V0.m.o;clear hf;go_in;go_upto_region 1 with fail;generalize((w.alloc (fL #[d0,d1,d2,d3] 130)).alloc (fL #[s0,s1,s2,s3] 130)).alloc (fL #[vI 0,vU 0,vO,vO] 130)=W3 at *;obtain⟨x0,x1,x2,x3,_⟩:=V0.d.o.four;go_wp2_with fail;refine(xL HF ax).mono ?_;rintro e wo ⟨rfl,MO⟩;have V:=V0.ai MO.o;have HM:=V.m;have c1:=aq (c0.o.ai MO.o id);clear x0 x1 x2 x3 HF MO V0 c0;have HI:=hi.to HM.o;obtain⟨x0,x1,x2,x3,_⟩:=V.d.o.four;obtain⟨y0,y1,y2,y3,_⟩:=V.s.o.four;have q0:=c1.o.cell 0;go_wp2_with fail;refine(xL HI ax).mono ?_;rintro e u1 ⟨rfl,M1⟩;exact⟨rfl,rfl,HM.o.trans M1.o⟩
theorem Ov{w:tW}{rb mb:tLN}{d:MV}{q:Bool}(h:gh (d.so=2)=q):QA w 275 #[fY (d.cells rb mb).toArray] (fW (jl #[vU d.bits,fX q])):=.all λw'=>h ▸ WJ w' rb mb d
theorem WR(w:tW)(rb mb:tLN)(d s:MV)(hd:d.so=2)(hs:s.so=0)(b b1:Nat)(fk:lO)(hb:au w b #[qK fk] 282)(R:Nat)(en:ou fk)(hof:∀w',fS prog fk #[vU d.bits,vU s.bits,vU 64] w' λe w''=>e=fW (vU R)/\w''=w'):fS prog 274 #[fY (d.cells rb mb).toArray,fY (s.cells rb mb).toArray,pt b,pt b1] w λe w'=>e=fW (fY (({d with bits:=R}:MV).cells rb mb).toArray)/\aa af w w' :=
 aee w _ _ _ _ _ _ _ _ b fk hb b1 _ _ _ _ _ _ _ en (Ov (decide_eq_true hd)) (.all λw'=>qo w' rb mb s hs) (.same hof) (.all λw'=>aar w' rb mb d R)
theorem WS(w:tW)(rb mb:tLN)(d s:MV)(hd:d.so=2)(hs:s.so≠0)(b b1:Nat)(fk:lO)(hb:au w b #[qK fk] 282):fS prog 274 #[fY (d.cells rb mb).toArray,fY (s.cells rb mb).toArray,pt b,pt b1] w λe w'=>e=bG 2/\aa af w w' :=
 aef w _ _ _ _ _ _ _ _ b fk hb b1 _ 2 (Ov (decide_eq_true hd)) (.all λw'=>wI w' rb mb s hs)
theorem Si(w:tW)(rb mb:tLN)(d s:MV)(hd:d.so≠2)(b b1 b2:Nat)(hb:au w b1 #[fN (.func 206) #[] #[pt b2]] 208)(V:MV)(hin:∀w',aa af w w'->fS prog 206 #[fY (d.cells rb mb).toArray,fY (s.cells rb mb).toArray,pt b2] w' λe w''=>e=fW (fY (V.cells rb mb).toArray)/\aa af w' w''):fS prog 274 #[fY (d.cells rb mb).toArray,fY (s.cells rb mb).toArray,pt b,pt b1] w λe w'=>e=fW (fY (V.cells rb mb).toArray)/\aa af w w' :=
 aaw w _ _ _ _ _ _ _ _ b b1 b2 hb _ _ _ _ _ (Ov (decide_eq_false hd)) hin
theorem WT(w:tW)(rb mb:tLN)(d s:MV)(hd:d.so≠2)(b b1 b2:Nat)(hb:au w b1 #[fN (.func 206) #[] #[pt b2]] 208)(hin:∀w',aa af w w'->fS prog 206 #[fY (d.cells rb mb).toArray,fY (s.cells rb mb).toArray,pt b2] w' λe w''=>e=bG 2/\aa af w' w''):fS prog 274 #[fY (d.cells rb mb).toArray,fY (s.cells rb mb).toArray,pt b,pt b1] w λe w'=>e=bG 2/\aa af w w' :=
 acg w _ _ _ _ _ _ _ _ b b1 b2 hb _ 2 (Ov (decide_eq_false hd)) hin
theorem Sj:(prog.info? 122).map (λi=>(i.size))=eK 1:=by kernel_rfl
theorem WU:(prog.info? 85).map (λi=>(i.size))=eK 5:=by kernel_rfl
theorem WV(w:tW)(t te:ju)(j:TypeInfo)(hp:prog.underlying t=eK (.pointer te))(hte:prog.info? te=eK j)(hsz:j.size≠0)(f:Nat->Nat)(p q:Option Nat)(hb:∀x,p=eK x\/q=eK x->∃cs u,au w (f x) cs u)(hi:∀x y,p=eK x->q=eK y->f x=f y->x=y)(d:Nat):(Op.equalIn (d+1) t (ia (p.map λx=>⟨f x,0,eL⟩)) (ia (q.map λx=>⟨f x,0,eL⟩))).run prog w=.ok (gh (p=q)) w:=by
 cases p with
 |none =>
  cases q with
  |none=>simp[Op.equalIn,pB hp]
  |some y=>simp[Op.equalIn,pB hp]
 |some x =>
  cases q with
  |none=>simp[Op.equalIn,pB hp]
  |some y =>
   by_cases e:x=y
   ·subst e;simp[Op.equalIn,pB hp,sizeOf,typeInfo,hte,run_sameAddr_same]
   ·have hne:(⟨f x,0,eL⟩:kh)≠⟨f y,0,eL⟩:=λh=>e (hi x y rfl rfl (by injection h));obtain⟨c1,u1,h1⟩:=hb x (.inl rfl);obtain⟨c2,u2,h2⟩:=hb y (.inr rfl);simp[Op.equalIn,pB hp,sizeOf,typeInfo,hte,hsz,run_sameAddr_other w hne h1 h2,e]
theorem WW(w:tW)(a b c d:fa):(pC 128 #[a,b,c,d] 0).run prog w=.ok a w:=by unfold pC;simp[isAgg128,Result.andThen]
theorem ach(w:tW)(a b c d:fa):(pC 22 #[a,b,c,d] 1).run prog w=.ok b w:=by unfold pC;simp[isAgg22,Result.andThen]
theorem aci(w:tW)(a b c d:fa):(pC 120 #[a,b,c,d] 2).run prog w=.ok c w:=by unfold pC;simp[isAgg120,Result.andThen]
theorem acj(w:tW)(a b c d:fa):(pC 82 #[a,b,c,d] 3).run prog w=.ok d w:=by unfold pC;simp[isAgg82,Result.andThen]
theorem Ky{P:lj}{ops:Array iz}{rest:List iz}{o:iz}{a:Act}{w:tW}{Q:Exit->Act->tW->Prop}(hgd:o.guard=eL)(v:fa)(hr:(execOp a.eval o).run P w=.ok (.value v) w)(h:n9 P ops Q rest (a.put o.dst v) w):n9 P ops Q (o::rest) a w :=
 wpList_plain hgd λK hK=>by unfold Oper.wp;rw[hr];exact hK _ _ h
theorem afU(a b:Nat):((a:Int)==(b:Int))=gh (a=b):=by
 by_cases h:a=b
 ·subst h;simp
 ·have:¬(a:Int)=b:=by omega
  simp[h,this]
structure Ng(w:tW)(rb mb:tLN)(d s:MV):Prop where
 rg:∀x,d.aD=eK x\/s.aD=eK x->∃cs u,au w (rb.getD x 0) cs u
 ri:∀x y,d.aD=eK x->s.aD=eK y->rb.getD x 0=rb.getD y 0->x=y
 mp:∀x,d.tab=eK x\/s.tab=eK x->∃cs u,au w (mb.getD x 0) cs u
 mi:∀x y,d.tab=eK x->s.tab=eK y->mb.getD x 0=mb.getD y 0->x=y
theorem Ng.ai{w w':tW}{rb mb:tLN}{d s:MV}(h:Ng w rb mb d s)(m:aa af w w'):Ng w' rb mb d s :=
 ⟨λx hx=>by obtain⟨cs,u,hb⟩:=h.rg x hx;exact⟨cs,u,hb.ai m id⟩,h.ri,λx hx=>by obtain⟨cs,u,hb⟩:=h.mp x hx;exact⟨cs,u,hb.ai m id⟩,h.mi⟩
theorem ack(w:tW)(rb mb:tLN)(d s:MV)(h:Ng w rb mb d s):(Op.equalIn 10000 130 (fY (d.cells rb mb).toArray) (fY (s.cells rb mb).toArray)).run prog w=.ok (d.eqB s) w:=by
 unfold MV.cells;rw[run_equalIn_agg w 9999 130 _ _ (by kernel_rfl) (by kernel_rfl)]
 obtain⟨jr,hjr,hjs⟩:∃j,prog.info? 122=eK j/\j.size≠0:=by
  have:=Sj;cases h:prog.info? 122 with
  |none=>rw[h]at this;cases this
  |some j=>rw[h]at this;exact⟨j,rfl,λe=>by simp[e]at this⟩
 obtain⟨jm,hjm,hms⟩:∃j,prog.info? 85=eK j/\j.size≠0:=by
  have:=WU;cases h:prog.info? 85 with
  |none=>rw[h]at this;cases this
  |some j=>rw[h]at this;exact⟨j,rfl,λe=>by simp[e]at this⟩
 have hf : (prog.fieldsOf 130).toList.map (fun f => (f.name, f.type, f.offset)) = [("sort", 128, 0), ("bits", 22, 1), ("region", 120, 2), ("table", 82, 3)] := by kernel_rfl
 generalize(prog.fieldsOf 130).toList=l at hf;rcases l with _ |⟨f1,_ |⟨f2,_ |⟨f3,_ |⟨f4,_ |⟨f5,l⟩⟩⟩⟩⟩<;>simp only[List.map_cons,List.map_nil,List.cons.injEq,Prod.mk.injEq,and_true,reduceCtorEq,and_false]at hf
 obtain⟨⟨n1,t1,o1⟩,⟨n2,t2,o2⟩,⟨n3,t3,o3⟩,⟨n4,t4,o4⟩⟩:=hf;have d1 : ("sort" ≠ "_") = True := by decide
 have d2' : ("bits" ≠ "_") = True := by decide
 have d3' : ("region" ≠ "_") = True := by decide
 have d4' : ("table" ≠ "_") = True := by decide
 have e1:=AH (P:=prog) w 9998 128 .i64 .i64 d.so s.so underlying128;have e2:=AH (P:=prog) w 9998 22 .u64 .u64 d.bits s.bits underlying22;have e3:=WV w 120 122 jr underlying120 hjr hjs (λx=>rb.getD x 0) d.aD s.aD h.rg h.ri 9998;have e4:=WV w 82 85 jm underlying82 hjm hms (λx=>mb.getD x 0) d.tab s.tab h.mp h.mi 9998;rw[afU]at e1 e2;unfold MV.eqB;generalize d.aD.map (λx=>(⟨rb.getD x 0,0,eL⟩:kh))=d2 at *;generalize s.aD.map (λx=>(⟨rb.getD x 0,0,eL⟩:kh))=s2 at *;generalize d.tab.map (λx=>(⟨mb.getD x 0,0,eL⟩:kh))=d3 at *;generalize s.tab.map (λx=>(⟨mb.getD x 0,0,eL⟩:kh))=s3 at *;generalize gh (d.so=s.so)=q1 at *;generalize gh (d.bits=s.bits)=q2 at *;generalize gh (d.aD=s.aD)=q3 at *;generalize gh (d.tab=s.tab)=q4 at *;simp only[Op.eqFields,n1,n2,n3,n4,t1,t2,t3,t4,o1,o2,o3,o4,d1,d2',d3',d4',if_true,Sem.run_bind,Result.andThen_ok,WW,e1];cases q1<;>cases q2<;>cases q3<;>cases q4<;>simp[e1,e2,e3,e4,WW,ach,aci,acj,Result.andThen]
theorem WX(w:tW)(rb mb:tLN)(d s:MV)(h:Ng w rb mb d s):fS prog 217 #[fY (d.cells rb mb).toArray,fY (s.cells rb mb).toArray] w λe w'=>e=fW (fX (d.eqB s))/\aa af w w':=by
 have HE:ah (∀w',aa af w w'->(binOp .eql 130 (fY #[vI d.so,vU d.bits,ia (d.aD.map λr=>⟨rb.getD r 0,0,eL⟩),ia (d.tab.map λt=>⟨mb.getD t 0,0,eL⟩)]) (fY #[vI s.so,vU s.bits,ia (s.aD.map λr=>⟨rb.getD r 0,0,eL⟩),ia (s.tab.map λt=>⟨mb.getD t 0,0,eL⟩)])).run prog w'=.ok (fX (d.eqB s)) w'):=λw' m=>by have:=ack w' rb mb d s (h.ai m);unfold MV.cells at this;rw[run_eql_struct,this];rfl
 show fS _ _ #[fY #[vI d.so,vU d.bits,ia (d.aD.map λr=>⟨rb.getD r 0,0,eL⟩),ia (d.tab.map λt=>⟨mb.getD t 0,0,eL⟩)],fY #[vI s.so,vU s.bits,ia (s.aD.map λr=>⟨rb.getD r 0,0,eL⟩),ia (s.tab.map λt=>⟨mb.getD t 0,0,eL⟩)]] _ λe w'=>e=fW (fX (d.eqB s))/\_
 clear h;generalize d.eqB s=R at *;generalize d.aD.map (λr=>(⟨rb.getD r 0,0,eL⟩:kh))=d2 at *;generalize d.tab.map (λt=>(⟨mb.getD t 0,0,eL⟩:kh))=d3 at *;generalize d.so=d0 at *;generalize d.bits=d1 at *;generalize s.aD.map (λr=>(⟨rb.getD r 0,0,eL⟩:kh))=s2 at *;generalize s.tab.map (λt=>(⟨mb.getD t 0,0,eL⟩:kh))=s3 at *;generalize s.so=s0 at *;generalize s.bits=s1 at *;obtain⟨m3,b1,b2⟩:=Hy w #[vI d0,vU d1,ia d2,ia d3] #[vI s0,vU s1,ia s2,ia s3] 130 130;have dF:=aq m3;have B1:=aq b1;have B2:=aq b2;clear m3 b1 b2;go_in;go_upto_region 1 with fail;generalize(w.alloc (fL #[vI d0,vU d1,ia d2,ia d3] 130)).alloc (fL #[vI s0,vU s1,ia s2,ia s3] 130)=W3 at *;have x0:=B1.o.cell 0;have x1:=B1.o.cell 1;have x2:=B1.o.cell 2;have x3:=B1.o.cell 3;have y0:=B2.o.cell 0;have y1:=B2.o.cell 1;have y2:=B2.o.cell 2;have y3:=B2.o.cell 3;have Re:=aq (HE.o W3 dF.o);clear HE;refine wp_region_lit ?_
 iterate 6 go_step
 refine Ky rfl (fX R) (by simp[execOp,Act.eval,eqGuard,Re.o]) ?_;simp only[Act.put,sA9,sB9,sC9];go_wp2_with fail;go_ret;exact⟨rfl,dF.o⟩
def rkE(rb mb:tLN)(v:Option MV):mz:=match v with
 |none=>bG 2
 |some v=>fW (fY (v.cells rb mb).toArray)
def soE(v:Option Bool):mz:=match v with
 |none=>bG 2
 |some v=>fW (fX v)
def Ow(w:tW)(rb mb:tLN)(f:Fn)(c:tAV)(m k:Nat)(d s:MV):Prop:=∃fk,f=.func fk/\ou fk/\∀w',aa af w w'->fS prog fk (#[fY (d.cells rb mb).toArray,fY (s.cells rb mb).toArray]++c) w' λe w''=>e=rkE rb mb (rkP m k d s)/\aa af w' w''
def Ox(w:tW)(rb mb:tLN)(f:Fn)(c:tAV)(m k:Nat)(d s:MV):Prop:=∃fk,f=.func fk/\ou fk/\∀w',aa af w w'->fS prog fk (#[fY (d.cells rb mb).toArray,fY (s.cells rb mb).toArray]++c) w' λe w''=>e=soE (soP m k d s)/\aa af w' w''
def B6(aD:Bool)(X:dM)(r:aJ):MV:=if aD then r.aD X.s else dI (tu X.num)
theorem Sk(w:tW)(b:Nat)(rb mb:tLN)(vM vC vL:fa)(r:aJ)(h:aI w b rb mb vM vC vL r)(hp:0<eJ r.calls)(X:dM)(hX:X.s<11):fS prog 111 #[pt b,fY X.cells] w λe w'=>e=fW (fY ((r.aD X.s).cells rb mb).toArray)/\aa af w w':=by
 have HR:ah (∀w',aa af w w'->fS prog 205 #[pt b,vB X.s] w' λe w''=>e=fW (fY #[vI (r.aD X.s).so,vU (r.aD X.s).bits,ia ((r.aD X.s).aD.map λr=>⟨rb.getD r 0,0,eL⟩),ia ((r.aD X.s).tab.map λt=>⟨mb.getD t 0,0,eL⟩)])/\aa af w' w''):=λw' m=>eZ w' b rb mb vM vC vL r (h.quiet m) hp X.s hX;clear h;generalize r.aD X.s=v at *;show fS _ _ #[_,fY #[X.op,vB X.d,vB X.s,.int .i16 X.jump,vJ X.num,vJ X.high,eR X.label,eR X.name]] _ λe w'=>e=fW (fY #[vI v.so,vU v.bits,ia (v.aD.map λr=>⟨rb.getD r 0,0,eL⟩),ia (v.tab.map λt=>⟨mb.getD t 0,0,eL⟩)])/\_
 generalize v.aD.map (λr=>(⟨rb.getD r 0,0,eL⟩:kh))=v2 at *;generalize v.tab.map (λt=>(⟨mb.getD t 0,0,eL⟩:kh))=v3 at *;generalize v.so=v0 at *;generalize v.bits=v1 at *;obtain⟨m3,b1,b2⟩:=Hy w #[X.op,vB X.d,vB X.s,.int .i16 X.jump,vJ X.num,vJ X.high,eR X.label,eR X.name] #[vI 0,vU 0,vO,vO] 138 130;have dF:=aq m3;have B1:=aq b1;have HB3:=aq b2;clear m3 b1 b2;go_in;go_upto_region 1 with fail;generalize(w.alloc (fL #[X.op,vB X.d,vB X.s,.int .i16 X.jump,vJ X.num,vJ X.high,eR X.label,eR X.name] 138)).alloc (fL #[vI 0,vU 0,vO,vO] 130)=W3 at *;have x2:=B1.o.cell 2;go_wp2_with fail;refine(HR.o _ dF.o).mono ?_;rintro e w1 ⟨rfl,m1⟩;have M1:=aq m1;have iH:=aq (HB3.o.ai m1 id);have z0:=iH.o.cell 0;have z1:=iH.o.cell 1;have z2:=iH.o.cell 2;have z3:=iH.o.cell 3;have zf:=iH.o.frozen;clear m1 x2;go_wp2_with fail;refine kx (mL results111 _ _ (w.heap.size+1) 130 _ (0,0) _ rfl ((((iH.o.set 0 _).set 1 _).set 2 _).set 3 _) underlying130 rfl (by kernel_rfl)) rfl ⟨rfl,?_⟩;have q:∀{Y:tW} (i:Nat) (u:fa),aa af w Y->aa af w (Y.setCell ⟨w.heap.size+1,i,eL⟩ u):=λi u m=>m.set (a:=⟨w.heap.size+1,i,eL⟩) (Or.inr (by simp only;omega)) u;exact q 3 _ (q 2 _ (q 1 _ (q 0 _ (dF.o.trans M1.o))))
theorem Sm(w:tW)(b:Nat)(rb mb:tLN)(X:dM):fS prog 112 #[pt b,fY X.cells] w λe w'=>e=fW (fY ((dI (tu X.num)).cells rb mb).toArray)/\aa af w w':=by
 have HV:ah (∀w',fS prog 56 #[vU (IntKind.u64.wrap X.num)] w' λe w''=>e=fW (fY #[vI 0,vU (tu X.num),vO,vO])/\aa af w' w''):=λw'=>by rw[AZ];exact qm w' rb mb _
 show fS _ _ #[_,fY #[X.op,vB X.d,vB X.s,.int .i16 X.jump,vJ X.num,vJ X.high,eR X.label,eR X.name]] _ λe w'=>e=fW (fY #[vI 0,vU (tu X.num),vO,vO])/\_
 generalize tu X.num=R at *;obtain⟨m3,b1,b2⟩:=Hy w #[X.op,vB X.d,vB X.s,.int .i16 X.jump,vJ X.num,vJ X.high,eR X.label,eR X.name] #[vI 0,vU 0,vO,vO] 138 130;have dF:=aq m3;have B1:=aq b1;have HB3:=aq b2;clear m3 b1 b2;go_in;go_upto_region 1 with fail;generalize(w.alloc (fL #[X.op,vB X.d,vB X.s,.int .i16 X.jump,vJ X.num,vJ X.high,eR X.label,eR X.name] 138)).alloc (fL #[vI 0,vU 0,vO,vO] 130)=W3 at *;have x4:=B1.o.cell 4;go_wp2_with fail;refine(HV.o _).mono ?_;rintro e w1 ⟨rfl,m1⟩;have M1:=aq m1;have iH:=aq (HB3.o.ai m1 id);have z0:=iH.o.cell 0;have z1:=iH.o.cell 1;have z2:=iH.o.cell 2;have z3:=iH.o.cell 3;have zf:=iH.o.frozen;clear m1 x4;go_wp2_with fail;refine kx (mL results112 _ _ (w.heap.size+1) 130 _ (0,0) _ rfl ((((iH.o.set 0 _).set 1 _).set 2 _).set 3 _) underlying130 rfl (by kernel_rfl)) rfl ⟨rfl,?_⟩;have q:∀{Y:tW} (i:Nat) (u:fa),aa af w Y->aa af w (Y.setCell ⟨w.heap.size+1,i,eL⟩ u):=λi u m=>m.set (a:=⟨w.heap.size+1,i,eL⟩) (Or.inr (by simp only;omega)) u;exact q 3 _ (q 2 _ (q 1 _ (q 0 _ (dF.o.trans M1.o))))
theorem vz(w:tW)(b:Nat)(rb mb:tLN)(vM vC vL:fa)(r:aJ)(h:aI w b rb mb vM vC vL r)(hp:0<eJ r.calls)(X:dM)(aD:Bool)(hX:aD=fR->X.s<11):fS prog (KY aD) #[pt b,fY X.cells] w λe w'=>e=fW (fY ((B6 aD X r).cells rb mb).toArray)/\aa af w w':=by
 cases aD with
 |true=>exact Sk w b rb mb vM vC vL r h hp X (hX rfl)
 |false=>exact Sm w b rb mb X
theorem qt(aD:Bool):ou (KY aD):=by
 cases aD with
 |true=>exact enters_of func111 (by kernel_rfl) rfl
 |false=>exact enters_of func112 (by kernel_rfl) rfl
theorem au.Ec{w:tW}{b:Nat}{a0 a1 a2 a3 a4 a5 a6 a7:fa}{t:ju}(h:au w b #[a0,a1,a2,a3,a4,a5,a6,a7] t):(∀e:Ext af w,e.w.cell? ⟨b,0,eL⟩=eK a0)/\(∀e:Ext af w,e.w.cell? ⟨b,1,eL⟩=eK a1)/\(∀e:Ext af w,e.w.cell? ⟨b,2,eL⟩=eK a2)/\(∀e:Ext af w,e.w.cell? ⟨b,3,eL⟩=eK a3)/\(∀e:Ext af w,e.w.cell? ⟨b,4,eL⟩=eK a4)/\(∀e:Ext af w,e.w.cell? ⟨b,5,eL⟩=eK a5)/\(∀e:Ext af w,e.w.cell? ⟨b,6,eL⟩=eK a6)/\∀e:Ext af w,e.w.cell? ⟨b,7,eL⟩=eK a7 :=
 ⟨λe=>(h.ai e.m id).cell 0,λe=>(h.ai e.m id).cell 1,λe=>(h.ai e.m id).cell 2,λe=>(h.ai e.m id).cell 3,λe=>(h.ai e.m id).cell 4,λe=>(h.ai e.m id).cell 5,λe=>(h.ai e.m id).cell 6,λe=>(h.ai e.m id).cell 7⟩
def QS(w:tW)(f:lO)(args:tAV)(R:tW->Prop)(F:Nat->Prop):Prop:=∀w',aa af w w'->fS prog f args w' λe w''=>e=fW (jl #[])/\R w''/\aa F w' w''
theorem QS.at'{w w' W:tW}{f:lO}{args:tAV}{R:tW->Prop}{F:Nat->Prop}(h:QS w f args R F)(m:ah (aa af w W))(m':ah (aa af W w')):fS prog f args w' λe w''=>e=fW (jl #[])/\ah (R w''/\aa F w w'') :=
 (h w' (m.o.trans m'.o)).mono λ_ _ hh=>⟨hh.1,hh.2.1,(aa.of_nil (m.o.trans m'.o)).trans hh.2.2⟩
def QR(w:tW)(f:lO)(args:tAV)(R:mz->tW->Prop):Prop:=∀w',aa af w w'->fS prog f args w' λe w''=>(e=fW (jl #[])\/∃t,e=bG t)/\ah (R e w'')
theorem aeg(w:tW)(a0 a1 a2 a3 a4 a5 a6 a7:fa)(b:Nat)(b1 b2:Nat)(fk fo:lO)(cr:tAV)(hb1:au w b1 #[fN (.func fk) #[] cr] 208)(hb2:au w b2 #[qK fo] 280)(en:ou fk)(eno:ou fo)(d s:fa)(hg:QA w 205 #[pt b,a1] (fW d))(ho:QA w fo #[pt b,fY #[a0,a1,a2,a3,a4,a5,a6,a7]] (fW s))(v:fa)(hk:QA w fk (#[d,s]++cr) (fW v))(R:tW->Prop)(F:Nat->Prop)(hS:QS w 54 #[pt b,a1,v] R F):fS prog 204 #[pt b,fY #[a0,a1,a2,a3,a4,a5,a6,a7],pt b1,pt b2] w λe w'=>e=fW (jl #[])/\R w'/\aa F w w':=by
 unfold ou at en eno;have HM:=aq ((aa.refl af w).alloc (fL #[a0,a1,a2,a3,a4,a5,a6,a7] 138));have BI:=aq (au.new w #[a0,a1,a2,a3,a4,a5,a6,a7] 138);have c1:=aq (hb1.ai HM.o id);have c2:=aq (hb2.ai HM.o id);have HG:=hg.to HM.o;have HO:=ho.to HM.o;have HK:=hk.to HM.o;clear hb1 hb2 hg ho hk;go_in;go_upto_region 1 with fail;generalize w.alloc (fL #[a0,a1,a2,a3,a4,a5,a6,a7] 138)=W3 at *;obtain⟨x0,x1,x2,x3,x4,x5,x6,x7⟩:=BI.o.Ec;have p0:=c1.o.one';have q0:=c2.o.one';refine gj af 13 [7,11,12] (by kernel_rfl) (by kernel_rfl) (λ_ M0=>?_);simp only[ab,ar,al,ba]
 iterate 7 (refine aG rfl rfl rfl ?_;intro K hK;go_big_quiet_op;go_big_quiet_on)
 refine aH rfl rfl ?_;intro K hK;go_big_op;refine(xL HG M0).mono ?_;rintro e u1 ⟨rfl,M1⟩;refine hK _ _ rfl ⟨⟨_,M1.o⟩,rfl⟩ ?_;clear hK K
 iterate 3 (refine aG rfl rfl rfl ?_;intro K hK;go_big_quiet_op;go_big_quiet_on)
 refine aH rfl rfl ?_;intro K hK;go_big_op;refine(xL HO M1).mono ?_;rintro e u2 ⟨rfl,M2⟩;refine hK _ _ rfl ⟨⟨_,M2.o⟩,rfl⟩ ?_;clear hK K;refine aH rfl rfl ?_;intro K hK;go_big_op;refine(xL HK M2).mono ?_;rintro e u3 ⟨rfl,M3⟩;refine hK _ _ rfl ⟨⟨_,M3.o⟩,rfl⟩ ?_;clear hK K;refine bZ ?_;clear x0 x1 x2 x3 x4 x5 x6 x7 p0 q0;go_wp2_with fail;refine(hS.at' HM M3).mono ?_;rintro e w4 ⟨rfl,hr⟩;go_wp2_with fail;go_end0;exact⟨rfl,hr.o⟩
theorem aeh(w:tW)(a0 a1 a2 a3 a4 a5 a6 a7:fa)(b:Nat)(b1 b2:Nat)(fk fo:lO)(cr:tAV)(hb1:au w b1 #[fN (.func fk) #[] cr] 208)(hb2:au w b2 #[qK fo] 280)(en:ou fk)(eno:ou fo)(d s:fa)(hg:QA w 205 #[pt b,a1] (fW d))(ho:QA w fo #[pt b,fY #[a0,a1,a2,a3,a4,a5,a6,a7]] (fW s))(t:Nat)(hk:QA w fk (#[d,s]++cr) (bG t)):fS prog 204 #[pt b,fY #[a0,a1,a2,a3,a4,a5,a6,a7],pt b1,pt b2] w λe w'=>e=bG t/\aa af w w':=by
 unfold ou at en eno;have HM:=aq ((aa.refl af w).alloc (fL #[a0,a1,a2,a3,a4,a5,a6,a7] 138));have BI:=aq (au.new w #[a0,a1,a2,a3,a4,a5,a6,a7] 138);have c1:=aq (hb1.ai HM.o id);have c2:=aq (hb2.ai HM.o id);have HG:=hg.to HM.o;have HO:=ho.to HM.o;have HK:=hk.to HM.o;clear hb1 hb2 hg ho hk;go_in;go_upto_region 1 with fail;generalize w.alloc (fL #[a0,a1,a2,a3,a4,a5,a6,a7] 138)=W3 at *;obtain⟨x0,x1,x2,x3,x4,x5,x6,x7⟩:=BI.o.Ec;have p0:=c1.o.one';have q0:=c2.o.one';refine jy af 12 [7,11,12] [0,1,2,3,4,5,6,7,8,9,10,11] (λc w'=>sq c=bG t/\aa af w w') (by kernel_rfl) (by kernel_rfl) (λc a' w' hd' hm=>⟨hd',hm⟩) (λ_ M0=>?_)
 iterate 7 (refine jK rfl rfl rfl rfl ?_;intro K hK;(conv=>(arg 2;whnf));go_big_quiet_op;go_big_quiet_on)
 refine zD rfl rfl rfl ?_;intro K hK
 conv=>(arg 2;whnf)
 go_big_op;refine(xL HG M0).mono ?_;rintro e u1 ⟨rfl,M1⟩;refine hK _ _ rfl ⟨⟨_,M1.o⟩,rfl⟩ ?_;clear hK K
 iterate 3 (refine jK rfl rfl rfl rfl ?_;intro K hK;(conv=>(arg 2;whnf));go_big_quiet_op;go_big_quiet_on)
 refine zD rfl rfl rfl ?_;intro K hK
 conv=>(arg 2;whnf)
 go_big_op;refine(xL HO M1).mono ?_;rintro e u2 ⟨rfl,M2⟩;refine hK _ _ rfl ⟨⟨_,M2.o⟩,rfl⟩ ?_;clear hK K;refine mixL_pan rfl rfl rfl ?_;intro QQ hQQ hLO
 conv=>(arg 2;whnf)
 go_big_op;refine(xL HK M2).mono ?_;rintro e up ⟨rfl,MP⟩;exact hQQ _ _ ⟨rfl,HM.o.trans MP.o⟩
theorem acm(w:tW)(b:Nat)(rb mb:tLN)(vM vC vL:fa)(r:aJ)(h:aI w b rb mb vM vC vL r)(hp:0<eJ r.calls)(X:dM)(hd:X.d<11)(aD:Bool)(hX:aD=fR->X.s<11)(b1 b2:Nat)(fr:Fn)(cr:tAV)(hb1:au w b1 #[fN fr #[] cr] 208)(hb2:au w b2 #[qK (KY aD)] 280)(m k:Nat)(hk:Ow w rb mb fr cr m k (r.aD X.d) (B6 aD X r))(v:MV)(hv:rkP m k (r.aD X.d) (B6 aD X r)=eK v):fS prog 204 #[pt b,fY X.cells,pt b1,pt b2] w λe w'=>e=fW (jl #[])/\aI w' b rb mb vM vC vL (r.eV X.d v)/\aa (Own vC) w w':=by obtain⟨fk,rfl,en,hkk⟩:=hk;rw[hv]at hkk;exact aeg w _ _ _ _ _ _ _ _ b b1 b2 fk _ cr hb1 hb2 en (qt aD) _ _ (λw' m=>eZ w' b rb mb vM vC vL r (h.quiet m) hp X.d hd) (λw' m=>vz w' b rb mb vM vC vL r (h.quiet m) hp X aD hX) _ hkk _ _ (λw' m=>wH w' b rb mb vM vC vL r (h.quiet m) hp X.d hd v)
theorem acn(w:tW)(b:Nat)(rb mb:tLN)(vM vC vL:fa)(r:aJ)(h:aI w b rb mb vM vC vL r)(hp:0<eJ r.calls)(X:dM)(hd:X.d<11)(aD:Bool)(hX:aD=fR->X.s<11)(b1 b2:Nat)(fr:Fn)(cr:tAV)(hb1:au w b1 #[fN fr #[] cr] 208)(hb2:au w b2 #[qK (KY aD)] 280)(m k:Nat)(hk:Ow w rb mb fr cr m k (r.aD X.d) (B6 aD X r))(hv:rkP m k (r.aD X.d) (B6 aD X r)=eL):fS prog 204 #[pt b,fY X.cells,pt b1,pt b2] w λe w'=>e=bG 2/\aa af w w':=by obtain⟨fk,rfl,en,hkk⟩:=hk;rw[hv]at hkk;exact aeh w _ _ _ _ _ _ _ _ b b1 b2 fk _ cr hb1 hb2 en (qt aD) _ _ (λw' m=>eZ w' b rb mb vM vC vL r (h.quiet m) hp X.d hd) (λw' m=>vz w' b rb mb vM vC vL r (h.quiet m) hp X aD hX) 2 hkk
theorem aco(w:tW)(a0 a1 a2 a3 a4 a5 a6 a7:fa)(b:Nat)(fn sl t:fa)(hp:QA w 57 #[pt b] (fW (jl #[fn,sl])))(ht:QA w 216 #[fY #[a0,a1,a2,a3,a4,a5,a6,a7],sl] (fW t))(R:tW->Prop)(F:Nat->Prop)(hS:QS w 215 #[pt b,t] R F):fS prog 118 #[pt b,fY #[a0,a1,a2,a3,a4,a5,a6,a7]] w λe w'=>e=fW (jl #[])/\R w'/\aa F w w':=by have HM:=aq ((aa.refl af w).alloc (fL #[a0,a1,a2,a3,a4,a5,a6,a7] 138));have BI:=aq (au.new w #[a0,a1,a2,a3,a4,a5,a6,a7] 138);have HP:=hp.to HM.o;have HT:=ht.to HM.o;clear hp ht;go_in;go_upto_region 1 with fail;generalize w.alloc (fL #[a0,a1,a2,a3,a4,a5,a6,a7] 138)=W3 at *;go_wp2_with fail;refine(xL HP ax).mono ?_;rintro e w1 ⟨rfl,M1⟩;have BJ:=aq (BI.o.ai M1.o id);have x0:=BJ.o.cell 0;have x1:=BJ.o.cell 1;have x2:=BJ.o.cell 2;have x3:=BJ.o.cell 3;have x4:=BJ.o.cell 4;have x5:=BJ.o.cell 5;have x6:=BJ.o.cell 6;have x7:=BJ.o.cell 7;go_wp2_with fail;refine(xL HT M1).mono ?_;rintro e w2 ⟨rfl,M2⟩;clear x0 x1 x2 x3 x4 x5 x6 x7;go_wp2_with fail;refine(hS.at' HM M2).mono ?_;rintro e w4 ⟨rfl,hr⟩;go_wp2_with fail;go_end0;exact⟨rfl,hr.o⟩
theorem aax(w:tW)(b:Nat)(rb mb:tLN)(vM vC vL:fa)(r:aJ)(h:aI w b rb mb vM vC vL r)(hp:0<eJ r.calls)(X:dM)(t:Nat)(hT:∀w',aa af w w'->fS prog 216 #[fY X.cells,vI r.top.slot] w' λe w''=>e=fW (vI t)/\aa af w' w''):fS prog 118 #[pt b,fY X.cells] w λe w'=>e=fW (jl #[])/\aI w' b rb mb vM vC vL (r.gZ t)/\aa (Own vC) w w':=by exact aco w _ _ _ _ _ _ _ _ b _ _ _ (λw' m=>yA w' b rb mb vM vC vL r (h.quiet m) hp) hT _ _ (λw' m=>R5 w' b rb mb vM vC vL r (h.quiet m) hp t)
theorem Nh(w:tW)(a0 a1 a2 a3 a4 a5 a6 a7:fa)(b:Nat)(b1 b2:Nat)(fk fo:lO)(cr:tAV)(hb1:au w b1 #[fN (.func fk) #[] cr] 218)(hb2:au w b2 #[qK fo] 280)(en:ou fk)(eno:ou fo)(d s:fa)(hg:QA w 205 #[pt b,a1] (fW d))(ho:QA w fo #[pt b,fY #[a0,a1,a2,a3,a4,a5,a6,a7]] (fW s))(ek:mz)(hk:QA w fk (#[d,s]++cr) ek)(R:mz->tW->Prop)(hek:(∃t,ek=bG t)\/ek=fW (fX fj)\/ek=fW (fX fR))(h1:∀t w',ek=bG t->aa af w w'->R (bG t) w')(h2:ek=fW (fX fj)->∀w',aa af w w'->R (fW (jl #[])) w')(h3:ek=fW (fX fR)->∀w',aa af w w'->fS prog 118 #[pt b,fY #[a0,a1,a2,a3,a4,a5,a6,a7]] w' λe w''=>e=fW (jl #[])/\R e w''):fS prog 230 #[pt b,fY #[a0,a1,a2,a3,a4,a5,a6,a7],pt b1,pt b2] w λe w'=>R e w':=by
 unfold ou at en eno;have HM:=aq ((aa.refl af w).alloc (fL #[a0,a1,a2,a3,a4,a5,a6,a7] 138));have BI:=aq (au.new w #[a0,a1,a2,a3,a4,a5,a6,a7] 138);have c1:=aq (hb1.ai HM.o id);have c2:=aq (hb2.ai HM.o id);have HG:=hg.to HM.o;have HO:=ho.to HM.o;have HK:=hk.to HM.o;clear hb1 hb2 hg ho hk;go_in;go_upto_region 1 with fail;generalize w.alloc (fL #[a0,a1,a2,a3,a4,a5,a6,a7] 138)=W3 at *;have H1:=aq h1;have H2:=aq h2;have H3:=aq h3;have Tx:=aq hek;clear h1 h2 h3 hek;obtain⟨x0,x1,x2,x3,x4,x5,x6,x7⟩:=BI.o.Ec;have p0:=c1.o.one';have q0:=c2.o.one';refine gj af 9 [4,8] (by kernel_rfl) (by kernel_rfl) (λ_ M0=>?_);simp only[ab,ar,al,ba]
 iterate 4 (refine aG rfl rfl rfl ?_;intro K hK;go_big_quiet_op;go_big_quiet_on)
 refine aH rfl rfl ?_;intro K hK;go_big_op;refine(xL HG M0).mono ?_;rintro e u1 ⟨rfl,M1⟩;refine hK _ _ rfl ⟨⟨_,M1.o⟩,rfl⟩ ?_;clear hK K
 iterate 3 (refine aG rfl rfl rfl ?_;intro K hK;go_big_quiet_op;go_big_quiet_on)
 refine aH rfl rfl ?_;intro K hK;go_big_op;refine(xL HO M1).mono ?_;rintro e u2 ⟨rfl,M2⟩;refine hK _ _ rfl ⟨⟨_,M2.o⟩,rfl⟩ ?_;clear hK K;refine bZ ?_;clear x0 x1 x2 x3 x4 x5 x6 x7 p0 q0;go_wp2_with fail;refine(xL HK M2).mono ?_;rintro e w4 ⟨rfl,M4⟩;rcases Tx.o with⟨t,rfl⟩|rfl|rfl
 ·exact⟨rfl,H1.o t w4 rfl (HM.o.trans M4.o)⟩
 ·have HR:=aq (H2.o rfl w4 (HM.o.trans M4.o));clear H1 H2 H3 Tx HK;go_wp2_with fail;go_end0;exact HR.o
 ·have H4:=aq (H3.o rfl w4 (HM.o.trans M4.o));have BJ:=aq (BI.o.ai M4.o id);clear H1 H2 H3 Tx HK;have x0:=BJ.o.cell 0;have x1:=BJ.o.cell 1;have x2:=BJ.o.cell 2;have x3:=BJ.o.cell 3;have x4:=BJ.o.cell 4;have x5:=BJ.o.cell 5;have x6:=BJ.o.cell 6;have x7:=BJ.o.cell 7;go_wp2_with fail;refine H4.o.mono ?_;rintro e w5 ⟨rfl,hr⟩;have HR:=aq hr;clear hr x0 x1 x2 x3 x4 x5 x6 x7;go_wp2_with fail;go_end0;exact HR.o
theorem aay(w:tW)(b:Nat)(rb mb:tLN)(vM vC vL:fa)(r:aJ)(h:aI w b rb mb vM vC vL r)(hp:0<eJ r.calls)(X:dM)(hd:X.d<11)(aD:Bool)(hX:aD=fR->X.s<11)(b1 b2:Nat)(fr:Fn)(cr:tAV)(hb1:au w b1 #[fN fr #[] cr] 218)(hb2:au w b2 #[qK (KY aD)] 280)(m k:Nat)(hk:Ox w rb mb fr cr m k (r.aD X.d) (B6 aD X r))(hv:soP m k (r.aD X.d) (B6 aD X r)=eL):fS prog 230 #[pt b,fY X.cells,pt b1,pt b2] w λe w'=>e=bG 2/\aa af w w':=by obtain⟨fk,rfl,en,hkk⟩:=hk;rw[hv]at hkk;exact Nh w _ _ _ _ _ _ _ _ b b1 b2 fk _ cr hb1 hb2 en (qt aD) _ _ (λw' m=>eZ w' b rb mb vM vC vL r (h.quiet m) hp X.d hd) (λw' m=>vz w' b rb mb vM vC vL r (h.quiet m) hp X aD hX) _ hkk (λe w'=>e=bG 2/\aa af w w') (.inl ⟨2,rfl⟩) (λt w' e m=>⟨e.symm,m⟩) (λh=>by cases h) (λh=>by cases h)
theorem Sn(w:tW)(b:Nat)(rb mb:tLN)(vM vC vL:fa)(r:aJ)(h:aI w b rb mb vM vC vL r)(hp:0<eJ r.calls)(X:dM)(hd:X.d<11)(aD:Bool)(hX:aD=fR->X.s<11)(b1 b2:Nat)(fr:Fn)(cr:tAV)(hb1:au w b1 #[fN fr #[] cr] 218)(hb2:au w b2 #[qK (KY aD)] 280)(m k:Nat)(hk:Ox w rb mb fr cr m k (r.aD X.d) (B6 aD X r))(hv:soP m k (r.aD X.d) (B6 aD X r)=eK fj):fS prog 230 #[pt b,fY X.cells,pt b1,pt b2] w λe w'=>e=fW (jl #[])/\aa af w w':=by obtain⟨fk,rfl,en,hkk⟩:=hk;rw[hv]at hkk;exact Nh w _ _ _ _ _ _ _ _ b b1 b2 fk _ cr hb1 hb2 en (qt aD) _ _ (λw' m=>eZ w' b rb mb vM vC vL r (h.quiet m) hp X.d hd) (λw' m=>vz w' b rb mb vM vC vL r (h.quiet m) hp X aD hX) _ hkk (λe w'=>e=fW (jl #[])/\aa af w w') (.inr (.inl rfl)) (λt w' e m=>by cases e) (λ_ w' m=>⟨rfl,m⟩) (λh=>by cases h)
theorem aaz(w:tW)(b:Nat)(rb mb:tLN)(vM vC vL:fa)(r:aJ)(h:aI w b rb mb vM vC vL r)(hp:0<eJ r.calls)(X:dM)(hd:X.d<11)(aD:Bool)(hX:aD=fR->X.s<11)(b1 b2:Nat)(fr:Fn)(cr:tAV)(hb1:au w b1 #[fN fr #[] cr] 218)(hb2:au w b2 #[qK (KY aD)] 280)(m k:Nat)(hk:Ox w rb mb fr cr m k (r.aD X.d) (B6 aD X r))(hv:soP m k (r.aD X.d) (B6 aD X r)=eK fR)(t:Nat)(hT:∀w',aa af w w'->fS prog 216 #[fY X.cells,vI r.top.slot] w' λe w''=>e=fW (vI t)/\aa af w' w''):fS prog 230 #[pt b,fY X.cells,pt b1,pt b2] w λe w'=>e=fW (jl #[])/\aI w' b rb mb vM vC vL (r.gZ t)/\aa (Own vC) w w':=by obtain⟨fk,rfl,en,hkk⟩:=hk;rw[hv]at hkk;exact Nh w _ _ _ _ _ _ _ _ b b1 b2 fk _ cr hb1 hb2 en (qt aD) _ _ (λw' m=>eZ w' b rb mb vM vC vL r (h.quiet m) hp X.d hd) (λw' m=>vz w' b rb mb vM vC vL r (h.quiet m) hp X aD hX) _ hkk (λe w'=>e=fW (jl #[])/\aI w' b rb mb vM vC vL (r.gZ t)/\aa (Own vC) w w') (.inr (.inr rfl)) (λt w' e m=>by cases e) (λh=>by cases h) (λ_ w' m=>(aax w' b rb mb vM vC vL r (h.quiet m) hp X t (λw2 m2=>hT w2 (m.trans m2))).mono λe w2 hh=>⟨hh.1,hh.1,hh.2.1,(aa.of_nil m).trans hh.2.2⟩)
theorem afV(w:tW)(a0 a1 a2 a3 a4 a5 a6 a7:fa)(b:Nat)(b1:Nat)(nV:fa)(hb1:au w b1 #[nV] 3)(d:fa)(hg:QA w 205 #[pt b,a2] (fW d))(v:fa)(hl:QA w 234 #[d,a3,nV] (fW v))(R:tW->Prop)(F:Nat->Prop)(hS:QS w 54 #[pt b,a1,v] R F):fS prog 233 #[pt b,fY #[a0,a1,a2,a3,a4,a5,a6,a7],pt b1] w λe w'=>e=fW (jl #[])/\R w'/\aa F w w':=by
 have HM:=aq ((aa.refl af w).alloc (fL #[a0,a1,a2,a3,a4,a5,a6,a7] 138));have BI:=aq (au.new w #[a0,a1,a2,a3,a4,a5,a6,a7] 138);have c1:=aq (hb1.ai HM.o id);have HG:=hg.to HM.o;have HL:=hl.to HM.o;clear hb1 hg hl;go_in;go_upto_region 1 with fail;generalize w.alloc (fL #[a0,a1,a2,a3,a4,a5,a6,a7] 138)=W3 at *;obtain⟨x0,x1,x2,x3,x4,x5,x6,x7⟩:=BI.o.Ec;have p0:=c1.o.one';refine gj af 11 [6,10] (by kernel_rfl) (by kernel_rfl) (λ_ M0=>?_);simp only[ab,ar,al,ba]
 iterate 6 (refine aG rfl rfl rfl ?_;intro K hK;go_big_quiet_op;go_big_quiet_on)
 refine aH rfl rfl ?_;intro K hK;go_big_op;refine(xL HG M0).mono ?_;rintro e u1 ⟨rfl,M1⟩;refine hK _ _ rfl ⟨⟨_,M1.o⟩,rfl⟩ ?_;clear hK K
 iterate 3 (refine aG rfl rfl rfl ?_;intro K hK;go_big_quiet_op;go_big_quiet_on)
 refine aH rfl rfl ?_;intro K hK;go_big_op;refine(xL HL M1).mono ?_;rintro e u2 ⟨rfl,M2⟩;refine hK _ _ rfl ⟨⟨_,M2.o⟩,rfl⟩ ?_;clear hK K;refine bZ ?_;clear x0 x1 x2 x3 x4 x5 x6 x7 p0;go_wp2_with fail;refine(hS.at' HM M2).mono ?_;rintro e w4 ⟨rfl,hr⟩;go_wp2_with fail;go_end0;exact⟨rfl,hr.o⟩
theorem afW(w:tW)(a0 a1 a2 a3 a4 a5 a6 a7:fa)(b:Nat)(b1:Nat)(nV:fa)(hb1:au w b1 #[nV] 3)(d:fa)(hg:QA w 205 #[pt b,a2] (fW d))(t:Nat)(hl:QA w 234 #[d,a3,nV] (bG t)):fS prog 233 #[pt b,fY #[a0,a1,a2,a3,a4,a5,a6,a7],pt b1] w λe w'=>e=bG t/\aa af w w':=by
 have HM:=aq ((aa.refl af w).alloc (fL #[a0,a1,a2,a3,a4,a5,a6,a7] 138));have BI:=aq (au.new w #[a0,a1,a2,a3,a4,a5,a6,a7] 138);have c1:=aq (hb1.ai HM.o id);have HG:=hg.to HM.o;have HL:=hl.to HM.o;clear hb1 hg hl;go_in;go_upto_region 1 with fail;generalize w.alloc (fL #[a0,a1,a2,a3,a4,a5,a6,a7] 138)=W3 at *;obtain⟨x0,x1,x2,x3,x4,x5,x6,x7⟩:=BI.o.Ec;have p0:=c1.o.one';refine jy af 10 [6,10] [0,1,2,3,4,5,6,7,8,9] (λc w'=>sq c=bG t/\aa af w w') (by kernel_rfl) (by kernel_rfl) (λc a' w' hd' hm=>⟨hd',hm⟩) (λ_ M0=>?_)
 iterate 6 (refine jK rfl rfl rfl rfl ?_;intro K hK;(conv=>(arg 2;whnf));go_big_quiet_op;go_big_quiet_on)
 refine zD rfl rfl rfl ?_;intro K hK
 conv=>(arg 2;whnf)
 go_big_op;refine(xL HG M0).mono ?_;rintro e u1 ⟨rfl,M1⟩;refine hK _ _ rfl ⟨⟨_,M1.o⟩,rfl⟩ ?_;clear hK K
 iterate 3 (refine jK rfl rfl rfl rfl ?_;intro K hK;(conv=>(arg 2;whnf));go_big_quiet_op;go_big_quiet_on)
 refine mixL_pan rfl rfl rfl ?_;intro QQ hQQ hLO
 conv=>(arg 2;whnf)
 go_big_op;refine(xL HL M1).mono ?_;rintro e up ⟨rfl,MP⟩;exact hQQ _ _ ⟨rfl,HM.o.trans MP.o⟩
theorem aei(w:tW)(b:Nat)(rb mb:tLN)(vM vC vL:fa)(r:aJ)(h:aI w b rb mb vM vC vL r)(hp:0<eJ r.calls)(X:dM)(hd:X.d<11)(hs:X.s<11)(b1 n:Nat)(hb1:au w b1 #[vI n] 3)(v:MV)(hL:∀w',aa af w w'->fS prog 234 #[fY ((r.aD X.s).cells rb mb).toArray,.int .i16 X.jump,vI n] w' λe w''=>e=fW (fY (v.cells rb mb).toArray)/\aa af w' w''):fS prog 233 #[pt b,fY X.cells,pt b1] w λe w'=>e=fW (jl #[])/\aI w' b rb mb vM vC vL (r.eV X.d v)/\aa (Own vC) w w':=by exact afV w _ _ _ _ _ _ _ _ b b1 _ hb1 _ (λw' m=>eZ w' b rb mb vM vC vL r (h.quiet m) hp X.s hs) _ hL _ _ (λw' m=>wH w' b rb mb vM vC vL r (h.quiet m) hp X.d hd v)
theorem aej(w:tW)(b:Nat)(rb mb:tLN)(vM vC vL:fa)(r:aJ)(h:aI w b rb mb vM vC vL r)(hp:0<eJ r.calls)(X:dM)(_:X.d<11)(hs:X.s<11)(b1 n:Nat)(hb1:au w b1 #[vI n] 3)(t:Nat)(hL:∀w',aa af w w'->fS prog 234 #[fY ((r.aD X.s).cells rb mb).toArray,.int .i16 X.jump,vI n] w' λe w''=>e=bG t/\aa af w' w''):fS prog 233 #[pt b,fY X.cells,pt b1] w λe w'=>e=bG t/\aa af w w':=by exact afW w _ _ _ _ _ _ _ _ b b1 _ hb1 _ (λw' m=>eZ w' b rb mb vM vC vL r (h.quiet m) hp X.s hs) t hL
theorem afX(w:tW)(a0 a1 a2 a3 a4 a5 a6 a7:fa)(b:Nat)(R:mz->tW->Prop)(hl:QR w 245 #[pt b] R):fS prog 132 #[pt b,fY #[a0,a1,a2,a3,a4,a5,a6,a7]] w λe w'=>R e w':=by
 have HM:=aq ((aa.refl af w).alloc (fL #[a0,a1,a2,a3,a4,a5,a6,a7] 138));have BI:=aq (au.new w #[a0,a1,a2,a3,a4,a5,a6,a7] 138);go_in;go_upto_region 1 with fail;generalize w.alloc (fL #[a0,a1,a2,a3,a4,a5,a6,a7] 138)=W3 at *;go_wp2_with fail;refine(hl _ HM.o).mono ?_;rintro e w4 ⟨he,HR⟩;rcases he with rfl |⟨t,rfl⟩
 ·go_wp2_with fail
  first|go_end0|refine bodyPost_ret (results_none rfl _ _ _) rfl ?_
  exact HR.o
 ·exact⟨rfl,HR.o⟩
theorem Ni(w:tW)(b:Nat)(X:dM)(R:mz->tW->Prop)(hL:∀w',aa af w w'->fS prog 245 #[pt b] w' λe w''=>(e=fW (jl #[])\/∃t,e=bG t)/\R e w''):fS prog 132 #[pt b,fY X.cells] w λe w'=>R e w':=afX w _ _ _ _ _ _ _ _ b R hL
theorem acp(w:tW)(b:Nat)(rb mb:tLN)(vM vC vL:fa)(r:aJ)(h:aI w b rb mb vM vC vL r)(hp:0<eJ r.calls)(X:dM)(hd:X.d<11)(hs:X.s=1)(n0:-2147483648<=X.num)(n1:X.num<=2147483647)(v:MV)(hL:∀w',aa af w w'->fS prog 240 #[pt b,vI X.num] w' λe w''=>e=fW (fY (v.cells rb mb).toArray)/\aa af w' w''):fS prog 127 #[pt b,fY X.cells] w λe w'=>e=fW (jl #[])/\aI w' b rb mb vM vC vL (r.eV X.d v)/\aa (Own vC) w w':=by
 obtain⟨op,d,s,jump,num,high,label,name⟩:=X;simp only at *;subst hs;have HS:ah (∀w',aa af w w'->fS prog 54 #[pt b,vB d,fY #[vI v.so,vU v.bits,ia (v.aD.map λr=>⟨rb.getD r 0,0,eL⟩),ia (v.tab.map λt=>⟨mb.getD t 0,0,eL⟩)]] w' λe w''=>e=fW (jl #[])/\aI w'' b rb mb vM vC vL (r.eV d v)/\aa (Own vC) w' w''):=λw' m=>wH w' b rb mb vM vC vL r (h.quiet m) hp d hd v;generalize r.eV d v=r2 at *;have HL:ah (∀w',aa af w w'->fS prog 240 #[pt b,vI num] w' λe w''=>e=fW (fY #[vI v.so,vU v.bits,ia (v.aD.map λr=>⟨rb.getD r 0,0,eL⟩),ia (v.tab.map λt=>⟨mb.getD t 0,0,eL⟩)])/\aa af w' w''):=hL;clear hL h hp hd;generalize v.aD.map (λr=>(⟨rb.getD r 0,0,eL⟩:kh))=v2 at *;generalize v.tab.map (λt=>(⟨mb.getD t 0,0,eL⟩:kh))=v3 at *;generalize v.so=v0 at *;generalize v.bits=v1 at *;show fS _ _ #[_,fY #[op,vB d,vB 1,.int .i16 jump,vJ num,vJ high,eR label,eR name]] _ _
 have dF:ah (aa af w (w.alloc (fL #[op,vB d,vB 1,.int .i16 jump,vJ num,vJ high,eR label,eR name] 138))):=aw;have BI:=aq (au.new w #[op,vB d,vB 1,.int .i16 jump,vJ num,vJ high,eR label,eR name] 138);go_in;go_upto_region 1 with fail;generalize w.alloc (fL #[op,vB d,vB 1,.int .i16 jump,vJ num,vJ high,eR label,eR name] 138)=W3 at *;have y2:=BI.o.cell 2;go_upto_region 2 with fail;clear y2;have x0:=λ(e:Ext af W3)=>(BI.o.ai e.m id).c0;have x1:=λ(e:Ext af W3)=>(BI.o.ai e.m id).c1;have x2:=λ(e:Ext af W3)=>(BI.o.ai e.m id).c2;have x3:=λ(e:Ext af W3)=>(BI.o.ai e.m id).c3;have x4:=λ(e:Ext af W3)=>(BI.o.ai e.m id).c4;have x5:=λ(e:Ext af W3)=>(BI.o.ai e.m id).c5;have x6:=λ(e:Ext af W3)=>(BI.o.ai e.m id).c6;have x7:=λ(e:Ext af W3)=>(BI.o.ai e.m id).c7
 haveI:Nonempty (Ext af W3):=Ext.ne _ _
 refine bY 8 [7] (λw'=>∃e:Ext af W3,w'=e.w) (by kernel_rfl) (by kernel_rfl) ⟨⟨_,aN⟩,rfl⟩ ?_;simp only[ab,ar,al,ba]
 iterate 7 (refine aG rfl rfl rfl ?_;intro K' hK;go_big_quiet_op;go_big_quiet_on)
 refine aH rfl rfl ?_;intro K' hK;go_big_op;refine(HL.o _ (dF.o.trans (aa.refl af _).drew)).mono ?_;rintro e ww1 ⟨rfl,mm⟩;have M1:=aq (((aa.refl af _).drew).trans mm);refine hK _ _ rfl ⟨⟨_,M1.o⟩,rfl⟩ ?_;clear hK K' mm;refine bZ ?_;clear x0 x1 x2 x3 x4 x5 x6 x7;go_wp2_with fail;refine(HS.o _ (dF.o.trans M1.o)).mono ?_;rintro e w4 ⟨rfl,hr,m4⟩;have Ai:=aq hr;have M4:=aq (((dF.o.trans M1.o).mono (λ_ _ h=>h.elim)).trans m4);clear hr m4;go_wp2_with fail
 first|go_end0|refine kx (results_none rfl _ _ _) rfl ?_
 exact⟨rfl,Ai.o,M4.o⟩
