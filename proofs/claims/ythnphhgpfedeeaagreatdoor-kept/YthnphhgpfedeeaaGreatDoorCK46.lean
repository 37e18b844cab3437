import Derived.Test.YthnphhgpfedeeaaGreatDoorCK44
namespace Go.Proofs.YthnphhgpfedeeaaGreatDoor
open Go.RowKit Tryz
open _root_.Array renaming toList_setIfInBounds->cw
open List renaming length_set->ab,flatMap_cons->al,length_cons->ar,length_append->ba,replicate->bh,take_of_length_le->bt,mem_of_mem_take->b5,take_succ_cons->b9,drop_succ_cons->cj,length_nil->cy,length_map->cG,set_append_right->cJ,take_zero->cN,drop_zero->cP,set_append_left->cW,length_dropLast->cY,mem_of_mem_drop->dj,append_assoc->dp,flatMap_nil->dr,not_mem_nil->dt,length_take->du,length->eJ
open Nat renaming add_assoc->ao,add_sub_cancel->cq,add_mul->cH,le_refl->cI,mul_le_mul_right->de,pow_add->dq
open Option renaming map_some->bj,getD_some->cx,map_none->cD,some->eK,none->eL
open Bool renaming false->fj,true->fR
open Ending renaming returned->fW
open Obj renaming cells->fL
open Value renaming slice->eS,pointer->ia,bool->fX,tuple->jl,agg->fY
open _root_.Go renaming Value->fa,TypeId->ju,Calls->fS,Addr->kh,bodyPost_ret->kx,results_cell_row->mL,maxLen->jz,undef->kO,info_parts->oY,wpList_plain->pP,run_underlying->pB,wpQuiet_nil->mS,Program->lj,Oper->iz,wpList->n9,grownCap->pS,bytesRow->vu
set_option linter.all false
set_option maxRecDepth 100000
set_option maxHeartbeats 1000000
theorem DU{α:Type}(enc:α->tLV)(k:Nat)(u:fa)(x':α)(j:Nat)(hj:j<k):∀(l:List α),(∀x∈l,eJ (enc x)=k)->∀(i:Nat) (hi:i<eJ l),enc x'=(enc l[i]).set j u->(l.flatMap enc).set (i*k+j) u=(l.set i x').flatMap enc
 |x::l,h,0,_,he=>by rw[List.set_cons_zero,al,al,cW _ _ (by rw[h x (by simp)];omega),he];simp
 |x::l,h,i+1,hi,he=>by have hx:=h x (by simp);rw[List.set_cons_succ,al,al,cJ _ _ (by rw[hx,cH];omega),hx,show(i+1)*k+j-k=i*k+j by rw[cH];omega];rw[DU enc k u x' j hj l (λy hy=>h y (by simp[hy])) i (by simpa using hi) he]
theorem Sl.afQ{w:tW}{e:ju}{size:Nat}{g n cap:Nat}{xs:tLV}(h:Sl w e size (eS (eK ⟨g,0,eL⟩) n cap) n xs)(j:Nat)(u:fa):Sl (w.setCell ⟨g,j,eL⟩ u) e size (eS (eK ⟨g,0,eL⟩) n cap) n (xs.set j u):=by
 refine⟨by rw[ab];exact h.1,?_⟩;rcases h.2 with⟨h',_⟩ |⟨g',cap',cur,h',h0,hg,hn,hm,hs,ht⟩
 ·cases h'
 ·cases h';refine .inr ⟨g,cap,cur.setIfInBounds j u,rfl,h0,au.set (t:=e) hg j u,hn,hm,by simpa using hs,?_⟩;rw[cw,<-ht,List.take_set]
theorem aJ.AR(r:aJ)(hp:0<eJ r.calls):r.top=r.calls[eJ r.calls-1]:=by unfold aJ.top;rw[List.getD_eq_getElem?_getD,List.getElem?_eq_getElem (by omega)];rfl
theorem aJ.ql(r:aJ)(hp:0<eJ r.calls)(f:jN):(r.eO f).top=f:=by unfold aJ.top aJ.eO;rw[List.getD_eq_getElem?_getD,ab,List.getElem?_set_self (by omega)];rfl
theorem aJ.Ko(r:aJ)(f f':jN):(r.eO f).eO f'=r.eO f':=by unfold aJ.eO;simp only[ab,List.set_set]
theorem aJ.jL(r:aJ)(f:jN):eJ (r.eO f).calls=eJ r.calls:=ab
section
variable {w w' : World} {b g cap : Nat} {rb mb : List Nat} {vM vC vL : fa} {r : aJ}
theorem aI.ne(h:aI w b rb mb vM (eS (eK ⟨g,0,eL⟩) (eJ r.calls) cap) vL r):b≠g:=λe=>(h.calls.aA h.blk (by decide)) (by rw[e];rfl)
theorem aI.ab7(h:aI w b rb mb vM (eS (eK ⟨g,0,eL⟩) (eJ r.calls) cap) vL r)(hp:0<eJ r.calls)(f:jN)(hf:eJ f.regs=11)(j:Nat)(hj:j<48)(u:fa)(he:f.cells rb mb=(r.top.cells rb mb).set j u):aI (w.setCell ⟨g,(eJ r.calls-1)*48+j,eL⟩ u) b rb mb vM (eS (eK ⟨g,0,eL⟩) (eJ (r.eO f).calls) cap) vL (r.eO f):=by
 refine⟨by rw[aJ.jL];exact h.blk.setOther (Ne.symm h.ne) u,?_,?_,?_⟩
 ·rw[aJ.jL];have:=h.calls.afQ ((eJ r.calls-1)*48+j) u;rw[DU (jN.cells rb mb) 48 u f j hj r.calls (λf hf=>jN.mX rb mb f (h.regs f hf)) (eJ r.calls-1) (by omega) (by rw[he,aJ.AR r hp])]at this;exact this
 ·intro x hx;rcases List.mem_or_eq_of_mem_set hx with hx|rfl
  ·exact h.regs x hx
  ·exact hf
 ·rw[aJ.jL];exact h.depth
theorem aI.kit(h:aI w b rb mb vM vC vL r)(hp:0<eJ r.calls):∃g cap K,vC=eS (eK ⟨g,0,eL⟩) (eJ r.calls) cap/\b≠g/\g<w.heap.size /\ (∀w' zT r',aI w' b rb mb vM vC zT r'->eJ r'.calls=eJ r.calls->fS prog 95 #[vP b] w' λe w''=>e=fW (ia (eK ⟨g,K,eL⟩))/\aa af w' w'') /\ (∀w' zT r',aI w' b rb mb vM vC zT r'->eJ r'.calls=eJ r.calls->∀j,j<48->w'.cell? ⟨g,K+j,eL⟩=(r'.top.cells rb mb)[j]?) /\ (∀w' zT r',aI w' b rb mb vM vC zT r'->eJ r'.calls=eJ r.calls->∀j,w'.frozen? ⟨g,j,eL⟩=fj) /\ (∀w' zT r',aI w' b rb mb vM vC zT r'->eJ r'.calls=eJ r.calls->eJ r'.top.regs=11) /\ (∀w' zT r',aI w' b rb mb vM vC zT r'->eJ r'.calls=eJ r.calls->∀f:jN,eJ f.regs=11->∀j,j<48->∀u,f.cells rb mb=(r'.top.cells rb mb).set j u->aI (w'.setCell ⟨g,K+j,eL⟩ u) b rb mb vM vC zT (r'.eO f)):=by
 obtain⟨g,cap,rfl,_,_,_⟩:=h.view hp;refine⟨g,cap,(eJ r.calls-1)*48,rfl,h.ne,h.calls.lt g rfl,?_,?_,?_,?_,?_⟩
 ·intro w' zT r' h' e;have:=h';rw[<-e]at this ⊢;exact Ol w' b rb mb vM zT g cap r' this (by omega)
 ·intro w' zT r' h' e j hj;obtain⟨g',cap',e',_,_,hc'⟩:=h'.view (by omega);injection e' with e1 _ _;injection e1 with e1;injection e1 with e1;subst e1;rw[<-e];exact hc' j hj
 ·intro w' zT r' h' e;have:=h'.calls;rw[<-e]at this;obtain⟨o,c,hv,hb⟩:=this.view;injection hv with h1 h2 h3;obtain⟨g',cs,hg,hb,_⟩:=hb (by omega);rw[<-h1]at hg;cases hg;exact hb.frozen
 ·intro w' zT r' h' e;exact h'.regs _ (h'.view (by omega)).choose_spec.choose_spec.2.1
 ·intro w' zT r' h' e f hf j hj u he;have:=h';rw[<-e]at this;have:=this.ab7 (by omega) f hf j hj u he;rw[aJ.jL,e]at this;exact this
end
def Own(v:fa):Nat->Prop:=λk=>v.ownBlock=eK k
theorem aa.own{w w':tW}(m:aa af w w')(v:fa):aa (Own v) w w':=m.mono (λ_ _ h=>h.elim)
theorem aa.nN{w w':tW}{g n cap:Nat}(m:aa (Own (eS (eK ⟨g,0,eL⟩) n cap)) w w')(j:Nat)(u:fa):aa (Own (eS (eK ⟨g,0,eL⟩) n cap)) w (w'.setCell ⟨g,j,eL⟩ u):=m.set (a:=⟨g,j,eL⟩) (.inl rfl) u
theorem Wu(rb mb:tLN)(l:List MV)(n c:Nat)(v:MV)(u:fa)(hn:n<eJ l)(hc:c<4)(he:v.cells rb mb=((l.getD n {}).cells rb mb).set c u):(l.set n v).flatMap (MV.cells rb mb)=(l.flatMap (MV.cells rb mb)).set (n*4+c) u:=by rw[DU (MV.cells rb mb) 4 u v c hc l (λ_ _=>rfl) n hn (by rw[he,List.getD_eq_getElem?_getD,List.getElem?_eq_getElem hn];rfl)]
theorem jN.R3(rb mb:tLN)(f:jN)(n c:Nat)(v:MV)(u:fa)(hn:n<eJ f.regs)(hc:c<4)(he:v.cells rb mb=((f.regs.getD n {}).cells rb mb).set c u):({f with regs:=f.regs.set n v}:jN).cells rb mb=(f.cells rb mb).set (3+n*4+c) u:=by
 have hl:n*4+c<eJ (f.regs.flatMap (MV.cells rb mb)):=by rw[vw];omega
 unfold jN.cells;rw[Wu rb mb f.regs n c v u hn hc he,dp,dp,cJ _ _ (by simp;omega),cW _ _ (by simp only[ar,cy];omega)];simp only[ar,cy];rw[show 3+n*4+c-(0+1+1+1)=n*4+c by omega]
theorem aJ.AU(r:aJ)(hp:0<eJ r.calls)(n:Nat)(v v':MV):(r.eV n v).eV n v'=r.eV n v':=by unfold aJ.eV;rw[aJ.ql r hp,aJ.Ko];simp only[List.set_set]
theorem aJ.Wv(r:aJ)(hp:0<eJ r.calls)(n:Nat)(v:MV)(hn:n<eJ r.top.regs):(r.eV n v).aD n=v:=by unfold aJ.eV aJ.aD;rw[aJ.ql r hp];simp only[List.getD_eq_getElem?_getD];rw[List.getElem?_set_self hn];rfl
theorem aJ.iZ(r:aJ)(n:Nat)(v:MV):eJ (r.eV n v).calls=eJ r.calls:=aJ.jL _ _
theorem aI.Ww{b g K:Nat}{rb mb:tLN}{vM vC:fa}{N:Nat}(hp:0<N)(hR:∀w' zT r',aI w' b rb mb vM vC zT r'->eJ r'.calls=N->eJ r'.top.regs=11)(hS:∀w' zT r',aI w' b rb mb vM vC zT r'->eJ r'.calls=N->∀f:jN,eJ f.regs=11->∀j,j<48->∀u,f.cells rb mb=(r'.top.cells rb mb).set j u->aI (w'.setCell ⟨g,K+j,eL⟩ u) b rb mb vM vC zT (r'.eO f))(w:tW) (vL:fa) (r:aJ) (h:aI w b rb mb vM vC vL r) (hN:eJ r.calls=N) (n:Nat) (hn:n<11) (v:MV):aI ((((w.setCell ⟨g,K+3+n*4,eL⟩ (vI v.so)).setCell ⟨g,K+3+n*4+1,eL⟩ (vU v.bits)).setCell ⟨g,K+3+n*4+2,eL⟩ (ia (v.aD.map λr=>⟨rb.getD r 0,0,eL⟩))).setCell ⟨g,K+3+n*4+3,eL⟩ (ia (v.tab.map λt=>⟨mb.getD t 0,0,eL⟩))) b rb mb vM vC vL (r.eV n v):=by
 have st:∀w' r',aI w' b rb mb vM vC vL r'->eJ r'.calls=N->∀c,c<4->∀(v:MV) u,v.cells rb mb=((r'.aD n).cells rb mb).set c u->aI (w'.setCell ⟨g,K+3+n*4+c,eL⟩ u) b rb mb vM vC vL (r'.eV n v):=by intro w' r' h' e c hc v u he;have h11:=hR w' vL r' h' e;have:=hS w' vL r' h' e {r'.top with regs:=r'.top.regs.set n v} (by rw[ab];exact h11) (3+n*4+c) (by omega) u (jN.R3 rb mb r'.top n c v u (by omega) hc he);rw[<-ao,<-ao]at this;exact this
 have h11:=hR w vL r h hN;have hp':0<eJ r.calls:=by omega
 have q (v:MV):(r.eV n v).aD n=v:=aJ.Wv r hp' n v (by omega);have l (v:MV):eJ (r.eV n v).calls=N:=(aJ.iZ r n v).trans hN;have s1:=st w r h hN 0 (by omega) {r.aD n with so:=v.so} (vI v.so) rfl;have s2:=st _ _ s1 (l _) 1 (by omega) {r.aD n with so:=v.so,bits:=v.bits} (vU v.bits) (by rw[q];rfl);rw[aJ.AU r hp']at s2;have s3:=st _ _ s2 (l _) 2 (by omega) {r.aD n with so:=v.so,bits:=v.bits,aD:=v.aD} (ia (v.aD.map λr=>⟨rb.getD r 0,0,eL⟩)) (by rw[q];rfl);rw[aJ.AU r hp']at s3;have s4:=st _ _ s3 (l _) 3 (by omega) v (ia (v.tab.map λt=>⟨mb.getD t 0,0,eL⟩)) (by rw[q];rfl);rw[aJ.AU r hp']at s4;exact s4
def aJ.gZ(r:aJ)(n:Nat):aJ:=r.eO {r.top with next:=n}
def aJ.dG(r:aJ):aJ:=r.eO {r.top with slot:=r.top.next}
theorem R4(w:tW)(b:Nat)(rb mb:tLN)(vM vC vL:fa)(r:aJ)(h:aI w b rb mb vM vC vL r):fS prog 58 #[vP b] w λe w'=>e=fW (fX r.ended)/\aa af w w':=by have x7:=h.blk.c7;clear h;go_in;go_wp2_with fail;go_ret;exact⟨rfl,ax⟩
theorem jN.MX(rb mb:tLN)(f:jN)(n:Nat):({f with slot:=n}:jN).cells rb mb=(f.cells rb mb).set 1 (vI n):=rfl
theorem jN.DV(rb mb:tLN)(f:jN)(n:Nat):({f with next:=n}:jN).cells rb mb=(f.cells rb mb).set 2 (vI n):=rfl
theorem yA(w:tW)(b:Nat)(rb mb:tLN)(vM vC vL:fa)(r:aJ)(h:aI w b rb mb vM vC vL r)(hp:0<eJ r.calls):fS prog 57 #[vP b] w λe w'=>e=fW (jl #[vI r.top.fn,vI r.top.slot])/\aa af w w':=by
 obtain⟨g,cap,K,_,_,_,hT,hC,_⟩:=h.kit hp;have HC:ah (∀w',aa af w w'->w'.cell? ⟨g,K,eL⟩=eK (vI r.top.fn)/\w'.cell? ⟨g,K+1,eL⟩=eK (vI r.top.slot)):=λw' m=>⟨hC w' vL r (h.quiet m) rfl 0 (by omega),hC w' vL r (h.quiet m) rfl 1 (by omega)⟩
 have HT:=hT w vL r h rfl;clear h hC hT;go_in;go_wp2_with fail;refine HT.mono ?_;rintro e w1 ⟨rfl,m1⟩;have bU:=aq m1;obtain⟨y0,y1⟩:=HC.o w1 m1;clear HC HT m1;go_wp2_with fail;go_quiet (fail);have bP:=aq (bU.o.drewN nq);clear y0 y1 bU;generalize w1.drewN nq=w2 at *;go_wp2_with fail;go_ret2;exact⟨rfl,bP.o⟩
theorem Wx(w:tW)(b:Nat)(rb mb:tLN)(vM vC vL:fa)(r:aJ)(h:aI w b rb mb vM vC vL r)(hp:0<eJ r.calls):fS prog 60 #[vP b] w λe w'=>e=fW (jl #[])/\aI w' b rb mb vM vC vL r.dG/\aa (Own vC) w w':=by
 obtain⟨g,cap,K,rfl,_,_,hT,hC,hF,hR,hS⟩:=h.kit hp;have HT:=hT w vL r h rfl
 have HC:ah (∀w',aa af w w'->aI (w'.setCell ⟨g,K+1,eL⟩ (vI r.top.next)) b rb mb vM (eS (eK ⟨g,0,eL⟩) (eJ r.calls) cap) vL r.dG/\w'.cell? ⟨g,K+1,eL⟩=eK (vI r.top.slot)/\w'.cell? ⟨g,K+2,eL⟩=eK (vI r.top.next)/\∀j,w'.frozen? ⟨g,j,eL⟩=fj):=λw' m =>
  ⟨hS w' vL r (h.quiet m) rfl {r.top with slot:=r.top.next} (hR w' vL r (h.quiet m) rfl) 1 (by omega) _ (jN.MX rb mb _ _),hC w' vL r (h.quiet m) rfl 1 (by omega),hC w' vL r (h.quiet m) rfl 2 (by omega),hF w' vL r (h.quiet m) rfl⟩
 clear h hT hC hF hR hS;go_in;go_wp2_with fail;refine HT.mono ?_;rintro e w1 ⟨rfl,m1⟩;have bU:=aq m1;obtain⟨hr,y0,y1,yf⟩:=HC.o w1 m1;have HR:=aq hr;clear HC HT m1 hr;go_wp2_with fail;go_end0;exact⟨rfl,HR.o,(bU.o.own _).nN (K+1) _⟩
theorem R5(w:tW)(b:Nat)(rb mb:tLN)(vM vC vL:fa)(r:aJ)(h:aI w b rb mb vM vC vL r)(hp:0<eJ r.calls)(n:Nat):fS prog 215 #[vP b,vI n] w λe w'=>e=fW (jl #[])/\aI w' b rb mb vM vC vL (r.gZ n)/\aa (Own vC) w w':=by
 obtain⟨g,cap,K,rfl,_,_,hT,hC,hF,hR,hS⟩:=h.kit hp;have HT:=hT w vL r h rfl
 have HC:ah (∀w',aa af w w'->aI (w'.setCell ⟨g,K+2,eL⟩ (vI n)) b rb mb vM (eS (eK ⟨g,0,eL⟩) (eJ r.calls) cap) vL (r.gZ n)/\w'.cell? ⟨g,K+2,eL⟩=eK (vI r.top.next)/\∀j,w'.frozen? ⟨g,j,eL⟩=fj):=λw' m =>
  ⟨hS w' vL r (h.quiet m) rfl {r.top with next:=n} (hR w' vL r (h.quiet m) rfl) 2 (by omega) _ (jN.DV rb mb _ _),hC w' vL r (h.quiet m) rfl 2 (by omega),hF w' vL r (h.quiet m) rfl⟩
 clear h hT hC hF hR hS;go_in;go_wp2_with fail;refine HT.mono ?_;rintro e w1 ⟨rfl,m1⟩;have bU:=aq m1;obtain⟨hr,y1,yf⟩:=HC.o w1 m1;have HR:=aq hr;clear HC HT m1 hr;go_wp2_with fail;go_end0;exact⟨rfl,HR.o,(bU.o.own _).nN (K+2) _⟩
def aJ.begin(r:aJ)(n:Nat):aJ:=aJ.gZ {r with used:=r.used+1} (r.top.slot+n)
theorem wH(w:tW)(b:Nat)(rb mb:tLN)(vM vC vL:fa)(r:aJ)(h:aI w b rb mb vM vC vL r)(hp:0<eJ r.calls)(n:Nat)(hn:n<11)(v:MV):fS prog 54 #[vP b,vB n,fY (v.cells rb mb).toArray] w λe w'=>e=fW (jl #[])/\aI w' b rb mb vM vC vL (r.eV n v)/\aa (Own vC) w w':=by
 obtain⟨g,cap,K,rfl,_,_,hT,hC,hF,hR,hS⟩:=h.kit hp;have HT:=aq (λw' m=>hT w' vL r (h.quiet m) rfl);have HC:=aq (λw' (m:aa af w w')=>h.quiet m);have HK:ah (∀w',aI w' b rb mb vM (eS (eK ⟨g,0,eL⟩) (eJ r.calls) cap) vL r->∀c,c<4->w'.cell? ⟨g,K+3+n*4+c,eL⟩=((r.aD n).cells rb mb)[c]?):=λw' h' c hc4=>by have:=hC w' vL r h' rfl (3+n*4+c) (by omega);rw[MV.Ht rb mb _ (hR w' vL r h' rfl) n c hn hc4]at this;rw[<-ao,<-ao]at this;exact this
 have HX:=aq (λw' h'=>aI.Ww hp hR hS w' vL r h' rfl n hn v);have HF:=aq (λw' h'=>hF w' vL r h' rfl);clear h hT hC hF hR hS;show fS _ _ #[_,_,fY #[vI v.so,vU v.bits,ia (v.aD.map λr=>⟨rb.getD r 0,0,eL⟩),ia (v.tab.map λt=>⟨mb.getD t 0,0,eL⟩)]] _ _
 generalize r.eV n v=r' at *;generalize r.aD n=v0 at *;generalize v.aD.map (λr=>(⟨rb.getD r 0,0,eL⟩:kh))=p2 at *;generalize v.tab.map (λt=>(⟨mb.getD t 0,0,eL⟩:kh))=p3 at *;have HB:=aq (λ(e:Ext af (w.alloc (.cells #[vI v.so,vU v.bits,.pointer p2,.pointer p3] 130)))=>(au.new _ _ _).ai e.m id);have x0:=λ(e:Ext af (w.alloc (.cells #[vI v.so,vU v.bits,.pointer p2,.pointer p3] 130)))=>(HB.o e).c0;have x1:=λ(e:Ext af (w.alloc (.cells #[vI v.so,vU v.bits,.pointer p2,.pointer p3] 130)))=>(HB.o e).c1;have x2:=λ(e:Ext af (w.alloc (.cells #[vI v.so,vU v.bits,.pointer p2,.pointer p3] 130)))=>(HB.o e).c2;have x3:=λ(e:Ext af (w.alloc (.cells #[vI v.so,vU v.bits,.pointer p2,.pointer p3] 130)))=>(HB.o e).c3
 haveI:Nonempty (Ext af (w.alloc (fL #[vI v.so,vU v.bits,ia p2,ia p3] 130))):=Ext.ne _ _
 have HA:ah (aa af w (w.alloc (fL #[vI v.so,vU v.bits,ia p2,ia p3] 130))):=aw;have HT:=aq (HT.o _ HA.o.drew);go_in;go_wp2_with fail;generalize w.alloc (fL #[vI v.so,vU v.bits,ia p2,ia p3] 130)=W1 at *;refine bY 7 [1] (λw'=>∃e:Ext af W1,w'=e.w) (by kernel_rfl) (by kernel_rfl) ⟨⟨_,aN⟩,rfl⟩ ?_;simp only[b9,cN,cj,cP];refine aG rfl rfl rfl ?_;intro K' hK;go_big_quiet_op;go_big_quiet_on;refine aH rfl rfl ?_;intro K' hK;go_big_op;refine HT.o.mono ?_;rintro e w1 ⟨rfl,m1⟩;have M1:=aq (aN.trans m1);have bU:=aq (HA.o.trans M1.o);refine hK _ _ rfl ⟨⟨_,M1.o⟩,rfl⟩ ?_;clear hK K' m1
 try simp only[Act.put,sA9,sB9,sC9]
 iterate 2 (refine aG rfl rfl rfl ?_;intro K' hK;go_big_quiet_op;go_big_quiet_on)
 refine dL rfl rfl _ ⟨g,K,eL⟩ rfl rfl ?_;simp only[Act.put,sA9,sB9,sC9]
 iterate 2 (refine aG rfl rfl rfl ?_;intro K' hK;go_big_quiet_op;go_big_quiet_on)
 refine bZ ?_;have hr:=HC.o w1 bU.o;have y0:w1.cell? ⟨g,K+3+n*4,eL⟩=eK (vI v0.so):=HK.o w1 hr 0 (by omega);have y1:w1.cell? ⟨g,K+3+n*4+1,eL⟩=eK (vU v0.bits):=HK.o w1 hr 1 (by omega);have y2:w1.cell? ⟨g,K+3+n*4+2,eL⟩=eK (ia (v0.aD.map λr=>⟨rb.getD r 0,0,eL⟩)):=HK.o w1 hr 2 (by omega);have y3:w1.cell? ⟨g,K+3+n*4+3,eL⟩=eK (ia (v0.tab.map λt=>⟨mb.getD t 0,0,eL⟩)):=HK.o w1 hr 3 (by omega);have yf:=HF.o w1 hr;have HR:=aq (HX.o w1 hr);clear HC HT hr HX HF HK x0 x1 x2 x3 HB;go_wp2_with fail;go_end0;exact⟨rfl,HR.o,((((bU.o.own _).nN _ _).nN _ _).nN _ _).nN _ _⟩
def bG(k:Nat):Ending:=.panicked [{v:=.iface 31 (vI k),recovered:=fj}]
theorem R6(w:tW)(b:Nat)(rb mb:tLN)(vM vC vL:fa)(r:aJ)(h:aI w b rb mb vM vC vL r)(n:Nat)(hu:r.used=r.fuel):fS prog 59 #[vP b,vI n] w λe w'=>e=bG 1/\aa af w w':=by
 have x3:=h.blk.c3;have x4:w.cell? ⟨b,4,eL⟩=eK (vI r.fuel):=by rw[<-hu];exact h.blk.cell 4
 clear h;go_in;go_wp2_with fail;go_quiet (fail);have HM:ah (aa af w (w.drewN nq)):=ax.drewN nq;clear x3 x4;generalize w.drewN nq=w1 at *;go_wp2_with fail;exact⟨rfl,rfl,HM.o⟩
theorem aI.use{w:tW}{b:Nat}{rb mb:tLN}{vM vC vL:fa}{r:aJ}(h:aI w b rb mb vM vC vL r)(n:Nat):aI (w.setCell ⟨b,4,eL⟩ (vI n)) b rb mb vM vC vL {r with used:=n} :=
 ⟨h.blk.set 4 _,h.calls.ai ((aa.refl (Only b) w).bA 4 _) (λk hk e=>by cases(show k=b from e);exact h.calls.aA h.blk (by decide) hk),h.regs,h.depth⟩
theorem R7(w:tW)(b:Nat)(rb mb:tLN)(vM vC vL:fa)(r:aJ)(h:aI w b rb mb vM vC vL r)(hp:0<eJ r.calls)(n:Nat)(hf:r.fuel<=2 ^ 40)(hn:r.top.slot+n<=2 ^ 40)(hu:r.used<r.fuel):fS prog 59 #[vP b,vI n] w λe w'=>e=fW (jl #[])/\aI w' b rb mb vM vC vL (r.begin n)/\aa (λk=>k=b\/Own vC k) w w':=by
 obtain⟨g,cap,K,rfl,_,_,hT,hC,hF,hR,hS⟩:=h.kit hp;have x3:=h.blk.c3;have x4:=h.blk.c4;have hq:(r.used:Int)≠r.fuel:=by omega
 have HT:ah (∀w',aa af w w'->fS prog 95 #[vP b] (w'.setCell ⟨b,4,eL⟩ (vI ((r.used:Int)+1))) λe w''=>e=fW (ia (eK ⟨g,K,eL⟩))/\aa af (w'.setCell ⟨b,4,eL⟩ (vI ((r.used:Int)+1))) w''):=λw' m=>hT _ vL _ ((h.quiet m).use (r.used+1)) rfl;have HC:ah (∀w' w'',aa af w w'->aa af (w'.setCell ⟨b,4,eL⟩ (vI ((r.used:Int)+1))) w''->aI (w''.setCell ⟨g,K+2,eL⟩ (vI ((r.top.slot:Int)+n))) b rb mb vM (eS (eK ⟨g,0,eL⟩) (eJ r.calls) cap) vL (r.begin n)/\w''.cell? ⟨g,K+2,eL⟩=eK (vI r.top.next)/\w''.cell? ⟨g,K+1,eL⟩=eK (vI r.top.slot)/\∀j,w''.frozen? ⟨g,j,eL⟩=fj):=λw' w'' m m'=>by have h2:=((h.quiet m).use (r.used+1)).quiet m';exact⟨hS w'' vL _ h2 rfl {r.top with next:=r.top.slot+n} (hR w'' vL {r with used:=r.used+1} h2 rfl) 2 (by omega) _ (jN.DV rb mb _ _),hC w'' vL _ h2 rfl 2 (by omega),hC w'' vL _ h2 rfl 1 (by omega),hF w'' vL _ h2 rfl⟩
 clear hT hC hF hR hS;go_in;go_wp2_with fail;go_quiet (fail);have HM:ah (aa af w (w.drewN nq)):=ax.drewN nq;have h1:=h.quiet HM.o;clear x3 x4 h;generalize w.drewN nq=w1 at *;have x4:=h1.blk.c4;have xf:=h1.blk.frozen;clear h1;go_wp2_with fail;refine(HT.o w1 HM.o).mono ?_;rintro e w2 ⟨rfl,m2⟩;obtain⟨hr,y2,y1,yf⟩:=HC.o w1 w2 HM.o m2;have HR:=aq hr;have bP:ah (aa (λk=>k=b\/Own (eS (eK ⟨g,0,eL⟩) (eJ r.calls) cap) k) w w2):=((HM.o.mono (λ_ _ h=>h.elim)).set (a:=⟨b,4,eL⟩) (.inl (.inl rfl)) _).trans (m2.mono (λ_ _ h=>h.elim));clear HC HT m2 hr x4 xf;go_wp2_with fail;go_end0;exact⟨rfl,HR.o,bP.o.set (a:=⟨g,K+2,eL⟩) (.inl (.inr rfl)) _⟩
theorem zJ(w:tW)(rb mb:tLN)(v:MV)(s:Nat)(h:v.so=s):fS prog 282 #[fY (v.cells rb mb).toArray,vI s] w λe w'=>e=fW (jl #[])/\aa af w w':=by
 subst h;show fS _ _ #[fY #[vI v.so,vU v.bits,ia (v.aD.map λr=>⟨rb.getD r 0,0,eL⟩),ia (v.tab.map λt=>⟨mb.getD t 0,0,eL⟩)],_] _ _
 go_in;go_wp2_with fail;go_end0;exact⟨rfl,aw⟩
theorem DW(w:tW)(rb mb:tLN)(v:MV)(s:Nat)(h:v.so≠s):fS prog 282 #[fY (v.cells rb mb).toArray,vI s] w λe w'=>e=bG 2/\aa af w w':=by
 show fS _ _ #[fY #[vI v.so,vU v.bits,ia (v.aD.map λr=>⟨rb.getD r 0,0,eL⟩),ia (v.tab.map λt=>⟨mb.getD t 0,0,eL⟩)],_] _ _
 have h':(v.so:Int)≠s:=by omega
 go_in;go_wp2_with fail;exact⟨rfl,rfl,aw⟩
theorem qm(w:tW)(rb mb:tLN)(n:Nat):fS prog 56 #[vU n] w λe w'=>e=fW (fY ((dI n).cells rb mb).toArray)/\aa af w w':=by go_in;go_wp2_with fail;exact kx (mL results56 _ _ w.heap.size 130 _ (0,0) _ rfl (au.new _ _ _) underlying130 rfl (by kernel_rfl)) rfl ⟨rfl,aw⟩
theorem DX(w:tW)(rb mb:tLN)(q n:Nat):fS prog 55 #[vP (rb.getD q 0),vU n] w λe w'=>e=fW (fY ((eY q n).cells rb mb).toArray)/\aa af w w':=by go_in;go_wp2_with fail;exact kx (mL results55 _ _ w.heap.size 130 _ (0,0) _ rfl (au.new _ _ _) underlying130 rfl (by kernel_rfl)) rfl ⟨rfl,aw⟩
theorem qo(w:tW)(rb mb:tLN)(v:MV)(h:v.so=0):fS prog 207 #[fY (v.cells rb mb).toArray] w λe w'=>e=fW (vU v.bits)/\aa af w w':=by
 have HW:ah (∀w',fS prog 282 #[fY #[vI v.so,vU v.bits,ia (v.aD.map λr=>⟨rb.getD r 0,0,eL⟩),ia (v.tab.map λt=>⟨mb.getD t 0,0,eL⟩)],vI 0] w' λe w''=>e=fW (jl #[])/\aa af w' w''):=λw'=>zJ w' rb mb v 0 h;show fS _ _ #[fY #[vI v.so,vU v.bits,ia (v.aD.map λr=>⟨rb.getD r 0,0,eL⟩),ia (v.tab.map λt=>⟨mb.getD t 0,0,eL⟩)]] _ _
 clear h;generalize v.aD.map (λr=>(⟨rb.getD r 0,0,eL⟩:kh))=p2 at *;generalize v.tab.map (λt=>(⟨mb.getD t 0,0,eL⟩:kh))=p3 at *;have HB:=aq (au.new w #[vI v.so,vU v.bits,ia p2,ia p3] 130);have HM:ah (aa af w (w.alloc (fL #[vI v.so,vU v.bits,ia p2,ia p3] 130))):=aw;go_in;go_wp2_with fail;refine(HW.o _).mono ?_;rintro e w1 ⟨rfl,m1⟩;have bU:=aq (HM.o.trans m1);have y1:=(HB.o.ai m1 id).c1;clear HM HB HW m1;go_wp2_with fail;go_ret;exact⟨rfl,bU.o⟩
theorem wI(w:tW)(rb mb:tLN)(v:MV)(h:v.so≠0):fS prog 207 #[fY (v.cells rb mb).toArray] w λe w'=>e=bG 2/\aa af w w':=by
 have HW:ah (∀w',fS prog 282 #[fY #[vI v.so,vU v.bits,ia (v.aD.map λr=>⟨rb.getD r 0,0,eL⟩),ia (v.tab.map λt=>⟨mb.getD t 0,0,eL⟩)],vI 0] w' λe w''=>e=bG 2/\aa af w' w''):=λw'=>DW w' rb mb v 0 h;show fS _ _ #[fY #[vI v.so,vU v.bits,ia (v.aD.map λr=>⟨rb.getD r 0,0,eL⟩),ia (v.tab.map λt=>⟨mb.getD t 0,0,eL⟩)]] _ _
 clear h;generalize v.aD.map (λr=>(⟨rb.getD r 0,0,eL⟩:kh))=p2 at *;generalize v.tab.map (λt=>(⟨mb.getD t 0,0,eL⟩:kh))=p3 at *;have HB:=aq (au.new w #[vI v.so,vU v.bits,ia p2,ia p3] 130);have HM:ah (aa af w (w.alloc (fL #[vI v.so,vU v.bits,ia p2,ia p3] 130))):=aw;go_in;go_wp2_with fail;refine(HW.o _).mono ?_;rintro e w1 ⟨rfl,m1⟩;exact⟨rfl,rfl,HM.o.trans m1⟩
def xJ(l:tLN):tLV:=l.map λ(b:Nat)=>Value.int .u8 b
def mD(w:tW)(v:fa)(n:Nat)(l:tLN):Prop :=
 eJ l=n/\((v=vN/\n=0)\/∃g cap cur lo hi,v=eS (eK ⟨g,0,eL⟩) n cap/\w.heap[g]?=eK (fL cur 5 (lo,hi))/\n<=cap/\cap<=jz/\(hi<=lo\/n<=lo)/\cur.toList.take n=xJ l)
section
variable {w w' : World} {v : fa} {n : Nat} {l : List Nat} {S : Nat -> Prop}
theorem mD.nil(w:tW):mD w (vN) 0 []:=⟨rfl,.inl ⟨rfl,rfl⟩⟩
theorem mD.lt(h:mD w v n l)(k:Nat)(hk:v.ownBlock=eK k):k<w.heap.size:=by
 rcases h.2 with⟨rfl,_⟩ |⟨g,cap,cur,lo,hi,rfl,hg,_⟩
 ·cases hk
 ·cases hk;exact(Array.getElem?_eq_some_iff.1 hg).1
theorem mD.ai(h:mD w v n l)(m:aa S w w')(hS:∀k,v.ownBlock=eK k->¬S k):mD w' v n l:=by
 refine⟨h.1,?_⟩;rcases h.2 with h' |⟨g,cap,cur,lo,hi,rfl,hg,hr⟩
 ·exact .inl h'
 ·exact .inr ⟨g,cap,cur,lo,hi,rfl,(m.block g (Array.getElem?_eq_some_iff.1 hg).1 (hS g rfl)).trans hg,hr⟩
theorem mD.aA{t:ju}{cs:tAV}{k:Nat}(h:mD w v n l)(hb:au w k cs t)(ht:t≠5):v.ownBlock≠eK k:=by
 intro hk;rcases h.2 with⟨rfl,_⟩ |⟨g,cap,cur,lo,hi,rfl,hg,_⟩
 ·cases hk
 ·cases hk;unfold au at hb;rw[hg]at hb;cases hb;exact ht rfl
theorem mD.apart{t:ju}{size n' k:Nat}{v':fa}{xs:tLV}(h:mD w v n l)(h':Sl w t size v' n' xs)(ht:t≠5)(hk:v.ownBlock=eK k):v'.ownBlock≠eK k:=by
 intro hk';rcases h'.2 with⟨rfl,_⟩ |⟨g,cap,cur,rfl,_,hg,_⟩
 ·cases hk'
 ·cases hk';exact h.aA hg ht hk
theorem mD.view(h:mD w v n l):∃o cap,v=eS o n cap/\(0<n->∃g,o=eK ⟨g,0,eL⟩/\n<=cap):=by
 rcases h.2 with⟨rfl,rfl⟩ |⟨g,cap,cur,lo,hi,rfl,hg,hn,_⟩
 ·exact⟨_,_,rfl,λh=>absurd h (by omega)⟩
 ·exact⟨_,_,rfl,λ_=>⟨g,rfl,hn⟩⟩
theorem mD.cell{g cap:Nat}(h:mD w (eS (eK ⟨g,0,eL⟩) n cap) n l)(i:Nat)(hi:i<n):w.cell? ⟨g,i,eL⟩=eK (vB (l.getD i 0:Nat))/\w.frozen? ⟨g,i,eL⟩=fj:=by
 have hl:=h.1;rcases h.2 with⟨e,_⟩ |⟨g',cap',cur,lo,hi',e,hg,hn,hm,hf,ht⟩
 ·cases e
 ·cases e;refine⟨?_,?_⟩
  ·have:cur.toList[i]?=(xJ l)[i]?:=by rw[<-ht,List.getElem?_take_of_lt hi]
   simp only[World.cell?,hg];rw[Array.getElem?_toList]at this;unfold xJ at this;rw[List.getElem?_map,List.getElem?_eq_getElem (by omega),bj]at this;rw[List.getD_eq_getElem?_getD,List.getElem?_eq_getElem (by omega)];exact this
  ·simp only[World.frozen?,hg];simp;omega
theorem aan(l:tLN)(i b:Nat):xJ (l.set i b)=(xJ l).set i (vB b):=by unfold xJ;rw[List.map_set]
theorem mD.set{g cap:Nat}(h:mD w (eS (eK ⟨g,0,eL⟩) n cap) n l)(i b:Nat):mD (w.setCell ⟨g,i,eL⟩ (vB b)) (eS (eK ⟨g,0,eL⟩) n cap) n (l.set i b):=by
 refine⟨by rw[ab];exact h.1,?_⟩;rcases h.2 with⟨e,_⟩ |⟨g',cap',cur,lo,hi',e,hg,hn,hm,hf,ht⟩
 ·cases e
 ·cases e;refine .inr ⟨g,cap,cur.setIfInBounds i (vB b),lo,hi',rfl,?_,hn,hm,hf,?_⟩
  ·simp[World.setCell,Array.getElem?_modify,hg]
  ·rw[cw,aan,<-ht,List.take_set]
theorem Sl.bys(h:Sl w 5 1 v n (xJ l))(hl:eJ l=n):mD w v n l:=by
 refine⟨hl,?_⟩;rcases h.2 with h' |⟨g,cap,cur,h',h0,hg,hn,hm,hs,ht⟩
 ·exact .inl h'
 ·exact .inr ⟨g,cap,cur,0,0,h',hg,hn,hm,.inl (cI _),by rw[Nat.mul_one]at ht;exact ht⟩
end
structure pH(w:tW)(rb:tLN)(vs:tLV)(gs:List tLN):Prop where
 lr:eJ rb=eJ gs
 lv:eJ vs=eJ gs
 blk:∀i,i<eJ gs->au w (rb.getD i 0) #[vs.getD i kO] 122
 sl:∀i,i<eJ gs->mD w (vs.getD i kO) (eJ (gs.getD i [])) (gs.getD i [])
 inj:∀i j,i<eJ gs->j<eJ gs->rb.getD i 0=rb.getD j 0->i=j
 Kq:∀i j k,i<eJ gs->j<eJ gs->(vs.getD i kO).ownBlock=eK k->(vs.getD j kO).ownBlock=eK k->i=j
section
variable {w w' : World} {rb : List Nat} {vs : List fa} {gs : List (List Nat)} {S : Nat -> Prop}
theorem pH.ai(h:pH w rb vs gs)(m:aa S w w')(hb:∀i,i<eJ gs->¬S (rb.getD i 0))(hv:∀i k,i<eJ gs->(vs.getD i kO).ownBlock=eK k->¬S k):pH w' rb vs gs :=
 ⟨h.lr,h.lv,λi hi=>(h.blk i hi).ai m (hb i hi),λi hi=>(h.sl i hi).ai m (λk=>hv i k hi),h.inj,h.Kq⟩
theorem pH.quiet(h:pH w rb vs gs)(m:aa af w w'):pH w' rb vs gs:=h.ai m (λ_ _=>id) (λ_ _ _ _=>id)
theorem dW{α:Type}(l:List α)(x d:α)(i:Nat):(l++[x]).getD i d=if i<eJ l then l.getD i d else if i=eJ l then x else d:=by
 simp only[List.getD_eq_getElem?_getD];by_cases h:i<eJ l
 ·rw[iP9 h,List.getElem?_append_left h]
 ·rw[iN9 h,List.getElem?_append_right (by omega)];by_cases h':i=eJ l
  ·rw[iP9 h',h'];simp
  ·rw[iN9 h',List.getElem?_eq_none (by simp;omega)];rfl
theorem pH.add(h:pH w rb vs gs)(m:aa af w w')(b:Nat)(v:fa)(g:tLN)(hb:au w' b #[v] 122)(hs:mD w' v (eJ g) g)(h1:w.heap.size<=b)(h2:∀k,v.ownBlock=eK k->w.heap.size<=k):pH w' (rb++[b]) (vs++[v]) (gs++[g]):=by
 have hq:=h.quiet m;have e1:=h.lr;have e2:=h.lv;refine⟨by simp[e1],by simp[e2],λi hi=>?_,λi hi=>?_,λi j hi hj e=>?_,λi j k hi hj e e'=>?_⟩
 all_goals simp only[ba,ar,cy]at *
 ·rw[dW,dW,e1,e2];by_cases hh:i<eJ gs
  ·rw[iP9 hh,iP9 hh];exact hq.blk i hh
  ·rw[iN9 hh,iN9 hh,iP9 (by omega),iP9 (by omega)];exact hb
 ·rw[dW,dW,e2];by_cases hh:i<eJ gs
  ·rw[iP9 hh,iP9 hh];exact hq.sl i hh
  ·rw[iN9 hh,iN9 hh,iP9 (by omega),iP9 (by omega)];exact hs
 ·rw[dW,dW,e1]at e;by_cases hi':i<eJ gs<;>by_cases hj':j<eJ gs
  ·rw[iP9 hi',iP9 hj']at e;exact h.inj i j hi' hj' e
  ·rw[iP9 hi',iN9 hj',iP9 (by omega)]at e;have:=(h.blk i hi').lt;omega
  ·rw[iN9 hi',iP9 hj',iP9 (by omega)]at e;have:=(h.blk j hj').lt;omega
  ·omega
 ·rw[dW,e2]at e e';by_cases hi':i<eJ gs<;>by_cases hj':j<eJ gs
  ·rw[iP9 hi']at e;rw[iP9 hj']at e';exact h.Kq i j k hi' hj' e e'
  ·rw[iP9 hi']at e;rw[iN9 hj',iP9 (by omega)]at e';have:=(h.sl i hi').lt k e;have:=h2 k e';omega
  ·rw[iN9 hi',iP9 (by omega)]at e;rw[iP9 hj']at e';have:=(h.sl j hj').lt k e';have:=h2 k e;omega
  ·omega
theorem qp{α:Type}(l:List α)(x d:α)(i j:Nat)(hj:j<eJ l):(l.set j x).getD i d=if i=j then x else l.getD i d:=by
 simp only[List.getD_eq_getElem?_getD];by_cases h:i=j
 ·subst h;rw[iP9 rfl,List.getElem?_set_self hj];rfl
 ·rw[iN9 h,List.getElem?_set_ne (Ne.symm h)]
theorem pH.die(h:pH w rb vs gs)(j:Nat)(hj:j<eJ gs):pH (w.setCell ⟨rb.getD j 0,0,eL⟩ (vN)) rb (vs.set j (vN)) (gs.set j []):=by
 have e2:=h.lv;have hj':j<eJ vs:=by omega
 have m:aa (Only (rb.getD j 0)) w (w.setCell ⟨rb.getD j 0,0,eL⟩ (vN)):=ax.bA 0 _;refine⟨by rw[ab];exact h.lr,by rw[ab,ab];exact h.lv,λi hi=>?_,λi hi=>?_,λi k hi hk e=>?_,λi l k hi hl e e'=>?_⟩
 all_goals rw[ab]at *
 ·rw[qp _ _ _ _ _ hj'];by_cases hh:i=j
  ·subst hh;rw[iP9 rfl];exact(h.blk i hi).set 0 _
  ·rw[iN9 hh];exact(h.blk i hi).ai m (λe=>hh (h.inj i j hi hj e))
 ·rw[qp _ _ _ _ _ hj',qp _ _ _ _ _ hj];by_cases hh:i=j
  ·rw[iP9 hh,iP9 hh];exact mD.nil _
  ·rw[iN9 hh,iN9 hh];exact(h.sl i hi).ai m (λk hk e=>by cases(show k=_ from e);exact(h.sl i hi).aA (h.blk j hj) (by decide) hk)
 ·exact h.inj i k hi hk e
 ·rw[qp _ _ _ _ _ hj']at e e';by_cases hi':i=j
  ·rw[iP9 hi']at e;cases e
  ·by_cases hl':l=j
   ·rw[iP9 hl']at e';cases e'
   ·rw[iN9 hi']at e;rw[iN9 hl']at e';exact h.Kq i l k hi hl e e'
end
def z11:List MV:=bh 11 {}
def aJ.pI(r:aJ)(fn k:Nat):aJ:={r with calls:=r.calls++[⟨fn,0,0,z11,k⟩]}
def aJ.enter(r:aJ)(fn k:Nat):aJ:=(r.pI fn k).eV 10 (eY k 64)
def MV.In(v:MV)(n:Nat):Prop:=∀q,v.aD=eK q->q<n
def jN.In(f:jN)(n:Nat):Prop:=f.oJ<n/\∀v∈f.regs,v.In n
def aJ.In(r:aJ)(n:Nat):Prop:=r.inp<n/\∀f∈r.calls,f.In n
theorem kK{α:Type}(l:List α)(x d:α)(i:Nat)(h:i<eJ l):(l++[x]).getD i d=l.getD i d:=by rw[dW,iP9 h]
theorem MV.grow(rb mb:tLN)(x:Nat)(v:MV)(h:v.In (eJ rb)):v.cells (rb++[x]) mb=v.cells rb mb:=by
 obtain⟨s,b,q,t⟩:=v;cases q with
 |none=>rfl
 |some q =>have:=h q rfl;simp only[MV.cells,bj,kK _ _ _ _ this]
theorem rY{α:Type}(f g:α->tLV):∀(l:List α),(∀x∈l,f x=g x)->l.flatMap f=l.flatMap g
 |[],_=>rfl
 |x::l,h=>by rw[al,al,h x (by simp),rY f g l (λy hy=>h y (by simp[hy]))]
theorem jN.grow(rb mb:tLN)(x:Nat)(f:jN)(h:f.In (eJ rb)):f.cells (rb++[x]) mb=f.cells rb mb:=by unfold jN.cells;rw[rY _ _ f.regs (λv hv=>MV.grow rb mb x v (h.2 v hv)),kK _ _ _ _ h.1]
theorem aI.grow{w:tW}{b:Nat}{rb mb:tLN}{vM vC vL:fa}{r:aJ}(h:aI w b rb mb vM vC vL r)(hi:r.In (eJ rb))(x:Nat):aI w b (rb++[x]) mb vM vC vL r :=
 ⟨by rw[kK _ _ _ _ hi.1];exact h.blk,by rw[rY _ _ r.calls (λf hf=>jN.grow rb mb x f (hi.2 f hf))];exact h.calls,h.regs,h.depth⟩
def nP(fn:Nat)(p:fa):tAV:=#[vI fn,vI 0,vI 0,vI 0,vU 0,vO,vO,vI 0,vU 0,vO,vO,vI 0,vU 0,vO,vO,vI 0,vU 0,vO,vO,vI 0,vU 0,vO,vO,vI 0,vU 0,vO,vO,vI 0,vU 0,vO,vO,vI 0,vU 0,vO,vO,vI 0,vU 0,vO,vO,vI 0,vU 0,vO,vO,vI 0,vU 0,vO,vO,p]
theorem Wy(rb mb:tLN)(fn k:Nat):(nP fn (vP (rb.getD k 0))).toList=jN.cells rb mb ⟨fn,0,0,z11,k⟩:=rfl
theorem R8:(prog.info? 190).map (λi=>(i.zero,i.size,i.bytes))=eK (eK (fY (nP 0 (vO))),48,384):=by kernel_rfl
theorem Wz:(prog.info? 5).map (λi=>(i.zero,i.size,i.bytes))=eK (eK (vB 0),1,1):=by kernel_rfl
def bS:tLN:=bh 64 0
theorem aao:madeCells (Value.int .u8 0).cells (Int.toNat 64*1)=(xJ bS).toArray:=by kernel_rfl
theorem aI.pI{w wA:tW}{b:Nat}{rb mb:tLN}{vM vC vL vA:fa}{r:aJ}(h:aI w b rb mb vM vC vL r)(hd:eJ r.calls<8)(fn k:Nat)(s:Sl wA 190 48 vA (eJ r.calls+1) (r.calls.flatMap (jN.cells rb mb)++(nP fn (vP (rb.getD k 0))).toList))(m:aa (Own vC) w wA):aI (wA.setCell ⟨b,2,eL⟩ vA) b rb mb vM vA vL (r.pI fn k):=by
 have hb:au wA b _ _:=h.blk.ai m (λe=>h.calls.aA h.blk (by decide) e);refine⟨hb.set 2 vA,?_,?_,?_⟩
 ·have:Sl wA 190 48 vA (eJ (r.pI fn k).calls) ((r.pI fn k).calls.flatMap (jN.cells rb mb)):=by
   show Sl wA 190 48 vA (eJ (r.calls++[_])) ((r.calls++[_]).flatMap _)
   rw[List.flatMap_append,ba,al,dr,List.append_nil,<-Wy];exact s
  exact this.ai ((aa.refl (Only b) wA).bA 2 _) (λk hk e=>by cases(show k=b from e);exact s.aA hb (by decide) hk)
 ·intro f hf;rcases List.mem_append.1 hf with hf|hf
  ·exact h.regs f hf
  ·rw[List.mem_singleton]at hf;subst hf;rfl
 ·show(r.calls++[_]).length<=8
  rw[ba];exact hd
theorem R9(w:tW)(b:Nat)(rb mb:tLN)(vM vC vL:fa)(r:aJ)(h:aI w b rb mb vM vC vL r)(hd:eJ r.calls<8)(fn:Nat)(hi:r.In (eJ rb)):fS prog 53 #[vP b,vI fn] w λe w'=>∃WA,e=fW (jl #[])/\aI w' b (rb++[w.heap.size+1]) mb vM WA vL (r.enter fn (eJ rb))/\aa (λk=>k=b\/Own vC k) w w'/\(∀k,WA.ownBlock=eK k->vC.ownBlock=eK k\/w.heap.size<=k)/\au w' (w.heap.size+1) #[eS (eK ⟨w.heap.size,0,eL⟩) 64 64] 122/\Sl w' 5 1 (eS (eK ⟨w.heap.size,0,eL⟩) 64 64) 64 (xJ bS):=by
 obtain⟨iU,GY,GZ,G5,G6⟩:=oY Wz;obtain⟨iP,hiP,sP,hsP,xz⟩:=oY R8;have qz:ah (∀w',(Instr.makeSlice 30 (vI 64) (vI 64)).run prog w'=.ok (eS (eK ⟨w'.heap.size,0,eL⟩) 64 64) (w'.alloc (fL (xJ bS).toArray 5))):=λw'=>by have:=run_make (P:=prog) w' 30 5 iU _ underlying30 GY GZ .i64 .i64 64 64 (by omega) (by omega) (by rw[G6];omega) (by omega);rw[G5,aao]at this;exact this
 have bP:ah (aa af w ((w.alloc (fL (xJ bS).toArray 5)).alloc (fL #[eS (eK ⟨w.heap.size,0,eL⟩) 64 64] 122))):=aw.alloc _;have H2:=aq ((h.quiet bP.o).grow hi (w.heap.size+1));have HG:ah ((rb++[w.heap.size+1]).getD (eJ rb) 0=w.heap.size+1):=by unfold ah;rw[dW,iN9 (Nat.lt_irrefl _),iP9 rfl]
 have HBR:ah (au ((w.alloc (fL (xJ bS).toArray 5)).alloc (fL #[eS (eK ⟨w.heap.size,0,eL⟩) 64 64] 122)) (w.heap.size+1) #[eS (eK ⟨w.heap.size,0,eL⟩) 64 64] 122):=by
  have:=au.new (w.alloc (fL (xJ bS).toArray 5)) #[eS (eK ⟨w.heap.size,0,eL⟩) 64 64] 122
  rwa [World.size_alloc]at this
 have Ho:ah (Sl ((w.alloc (fL (xJ bS).toArray 5)).alloc (fL #[eS (eK ⟨w.heap.size,0,eL⟩) 64 64] 122)) 5 1 (eS (eK ⟨w.heap.size,0,eL⟩) 64 64) 64 (xJ bS)):=Sl.fresh (((au.new w (xJ bS).toArray 5)).alloc _) rfl (by unfold jz;omega);clear h hi;go_in;go_upto_region 1 with(rw[qz.o])
 generalize(w.alloc (fL (xJ bS).toArray 5)).alloc (fL #[eS (eK ⟨w.heap.size,0,eL⟩) 64 64] 122)=W2 at *;generalize hGe:w.heap.size+1=G at *;have HGe:=aq hGe;clear hGe;have x2:=H2.o.blk.c2;have HAP:ah (∀vA wA,Sl wA 190 48 vA (eJ r.calls+1) (r.calls.flatMap (jN.cells (rb++[G]) mb)++(nP fn (vP G)).toList)->aa (Own vC) (W2.alloc (fL (nP fn (vP G)) 190)) wA->aI (wA.setCell ⟨b,2,eL⟩ vA) b (rb++[G]) mb vM vA vL (r.pI fn (eJ rb))/\au wA b #[vM,vP ((rb++[G]).getD r.inp 0),vC,vI r.fuel,vI r.used,vL,vU r.r0,fX r.ended] 125):=λvA wA s m=>by have h3:=H2.o.quiet ((aa.refl af W2).alloc (fL (nP fn (vP G)) 190));exact⟨h3.pI hd fn (eJ rb) (by rw[HG.o];exact s) m,h3.blk.ai m (λe=>h3.calls.aA h3.blk (by decide) e)⟩
 have Bl:ah (Sl (W2.alloc (fL (nP fn (vP G)) 190)) 190 48 vC (eJ r.calls) (r.calls.flatMap (jN.cells (rb++[G]) mb))):=(H2.o.quiet ((aa.refl af W2).alloc _)).calls;have Iz:ah (∀u∈(nP fn (vP G)).toList,u.oneCell'=fR):=by intro u hu;simp only[nP,List.mem_cons,dt,or_false]at hu;rcases hu with rfl|rfl|rfl|rfl|rfl|rfl|rfl|rfl|rfl|rfl|rfl|rfl|rfl|rfl|rfl|rfl|rfl|rfl|rfl|rfl|rfl|rfl|rfl|rfl|rfl|rfl|rfl|rfl|rfl|rfl|rfl|rfl|rfl|rfl|rfl|rfl|rfl|rfl|rfl|rfl|rfl|rfl|rfl|rfl|rfl|rfl|rfl|rfl<;>rfl
 have HZ:ah (nP fn (vP G)=#[vI fn,vI 0,vI 0,vI 0,vU 0,vO,vO,vI 0,vU 0,vO,vO,vI 0,vU 0,vO,vO,vI 0,vU 0,vO,vO,vI 0,vU 0,vO,vO,vI 0,vU 0,vO,vO,vI 0,vU 0,vO,vO,vI 0,vU 0,vO,vO,vI 0,vU 0,vO,vO,vI 0,vU 0,vO,vO,vI 0,vU 0,vO,vO,vP G]):=rfl;have HZ2:ah ((nP fn (vP G)).size=48):=rfl;go_wp2_with (first |(rw[<-HZ.o];refine pP rfl λ_ hK=>xI 123 190 48 (.tmp 15) rfl (nP fn (vP G)) rfl HZ2.o iP _ underlying123 hiP sP hsP (by decide) (by decide) (hK _ _ ?_);clear hK) |(at_builtin;(refine aQ _ rfl (.tmp 12) (.tmp 16) 123 rfl 190 iP (fY (nP 0 (vO))) 48 384 underlying123 hiP sP hsP xz rfl (by decide) vC (eJ r.calls) (r.calls.flatMap (jN.cells (rb++[G]) mb)) rfl Bl.o ⟨W2.heap.size,0,eL⟩ 1 1 (nP fn (vP G)).toList rfl rfl (bH _ _ _ _ rfl) Iz.o (by unfold jz;omega) (by omega) ?_;intro vA wA sA mA lA;obtain⟨oA,cA,BV,_⟩:=sA.view;subst BV;obtain⟨hRA,hBA⟩:=HAP.o _ wA sA mA;have pA2:=hBA.cell 2;have pAf:=hBA.frozen;have HRA:=aq hRA;have Gr:ah (aa (Own vC) (W2.alloc (fL (nP fn (vP G)) 190)) wA):=mA;have HLA:=aq lA;clear sA mA lA hRA hBA)));have HVP:ah (∀w',fS prog 55 #[vP G,vU 64] w' λe w''=>e=fW (fY #[vI 2,vU 64,vP G,vO])/\aa af w' w''):=λw'=>by have:=DX w' (rb++[G]) mb (eJ rb) 64;rw[HG.o]at this;unfold eY MV.cells at this;simp only[bj,cD,HG.o]at this;exact this
 have K1:ah (aa (λk=>k=b\/Own vC k) W2 (wA.setCell ⟨b,2,eL⟩ (eS oA (eJ r.calls+1) cA))):=(((((aa.refl af W2).alloc _).mono (λ_ _ h=>h.elim)).trans (Gr.o.mono (λ_ _ h=>.inr h)))).set (a:=⟨b,2,eL⟩) (.inl (.inl rfl)) _;have QU:ah (∀k,(Value.slice oA (eJ r.calls+1) cA).ownBlock=eK k->vC.ownBlock=eK k\/W2.heap.size<=k):=λk hk=>(HLA.o k hk).imp id (λh=>by rw[World.size_alloc]at h;omega);have HST:ah (∀w',aa af (wA.setCell ⟨b,2,eL⟩ (eS oA (eJ r.calls+1) cA)) w'->fS prog 54 #[vP b,vB 10,fY #[vI 2,vU 64,vP G,vO]] w' λe w''=>e=fW (jl #[])/\aI w'' b (rb++[G]) mb vM (eS oA (eJ r.calls+1) cA) vL (r.enter fn (eJ rb))/\aa (Own (eS oA (eJ r.calls+1) cA)) w' w''):=λw' m=>by have:=wH w' b (rb++[G]) mb vM _ vL _ (HRA.o.quiet m) (by show 0<eJ (r.calls++[_]);rw[ba];exact Nat.succ_pos _) 10 (by omega) (eY (eJ rb) 64);unfold eY MV.cells at this;simp only[bj,cD,HG.o]at this;exact this
 have QO:ah (∀w',aa (λk=>k=b\/Own vC k) W2 w'->aa (λk=>k=b\/Own vC k) w w'/\au w' G #[eS (eK ⟨w.heap.size,0,eL⟩) 64 64] 122/\Sl w' 5 1 (eS (eK ⟨w.heap.size,0,eL⟩) 64 64) 64 (xJ bS)):=λw' m=>by
  refine⟨(bP.o.mono (λ_ _ h=>h.elim)).trans m,HBR.o.ai m ?_,Ho.o.ai m ?_⟩
  ·rintro(e|e)
   ·have hb:=H2.o.blk;rw[<-e]at hb;have hr:=HBR.o;unfold au at hb hr;rw[hb]at hr;cases hr
   ·exact H2.o.calls.aA HBR.o (by decide) e
  ·rintro k hk (e|e)
   ·subst e;exact Ho.o.aA H2.o.blk (by decide) hk
   ·exact Ho.o.apart H2.o.calls (by decide) hk e
 have qJ:ah (∀k,(Value.slice oA (eJ r.calls+1) cA).ownBlock=eK k->vC.ownBlock=eK k\/w.heap.size<=k):=λk hk=>(QU.o k hk).imp id (λh=>by have:=bP.o.size;omega);clear HAP Bl Iz HZ HZ2 qz HLA HRA Gr x2 pA2 pAf H2 HBR Ho HG bP GY GZ G5 G6 hiP sP hsP xz;refine(HVP.o _).mono ?_;rintro e w3 ⟨rfl,m3⟩;have dF:=aq m3;clear m3 HVP;go_wp2_with fail;refine(HST.o _ dF.o).mono ?_;rintro e w4 ⟨rfl,hr4,m4⟩;have Ai:=aq hr4;have gG:=aq ((K1.o.trans (dF.o.mono (λ_ _ h=>h.elim))).step m4 (λk hk e=>(QU.o k e).elim .inr (λh=>absurd hk (by omega))));clear hr4 m4 HST;go_wp2_with fail;go_end0;obtain⟨f1,f2,f3⟩:=QO.o w4 gG.o;rw[HGe.o];exact⟨_,rfl,Ai.o,f1,qJ.o,f2,f3⟩
def aJ.nQ(r:aJ):Nat->List MV->aJ
 |_,[]=>r
 |n,v::vs=>aJ.nQ (r.eV n v) (n+1) vs
def aJ.answer(r:aJ)(v:MV):aJ:=(r.eV 0 v).nQ 1 (bh 5 {})
theorem aI.nQ{b g K:Nat}{rb mb:tLN}{vM vC:fa}{N:Nat}(hp:0<N)(hR:∀w' zT r',aI w' b rb mb vM vC zT r'->eJ r'.calls=N->eJ r'.top.regs=11)(hS:∀w' zT r',aI w' b rb mb vM vC zT r'->eJ r'.calls=N->∀f:jN,eJ f.regs=11->∀j,j<48->∀u,f.cells rb mb=(r'.top.cells rb mb).set j u->aI (w'.setCell ⟨g,K+j,eL⟩ u) b rb mb vM vC zT (r'.eO f))(vL:fa):∀(vs:List MV) (w:tW) (r:aJ),aI w b rb mb vM vC vL r->eJ r.calls=N->∀(n:Nat),n+eJ vs<=11->aI (w.setCells g (K+3+n*4) (vs.flatMap (MV.cells rb mb))) b rb mb vM vC vL (r.nQ n vs)
 |[],_,_,h,_,_,_=>h
 |v::vs,w,r,h,e,n,hn=>by rw[ar]at hn;have h4:=aI.Ww hp hR hS w vL r h e n (by omega) v;have:=aI.nQ hp hR hS vL vs _ _ h4 ((aJ.iZ r n v).trans e) (n+1) (by omega);rw[show K+3+(n+1)*4=K+3+n*4+1+1+1+1 by omega]at this;exact this
def z20:tLV:=(bh 5 ({}:MV)).flatMap (MV.cells [] [])
theorem ab8(rb mb:tLN):(bh 5 ({}:MV)).flatMap (MV.cells rb mb)=z20:=rfl
theorem WB:(Builtin.zeroCells #[vI 0,vU 0,vO,vO] 5).toList=z20:=by kernel_rfl
theorem WC:(prog.info? 130).map (λi=>(i.zero,i.size,i.bytes))=eK (eK (fY #[vI 0,vU 0,vO,vO]),4,32):=by kernel_rfl
theorem WD(w:tW):(zeroValue 130).run prog w=.ok (fY #[vI 0,vU 0,vO,vO]) w:=by obtain⟨i,hi,hz,hs,hb⟩:=oY WC;simp[zeroValue,typeInfo,hi,hz]
theorem MZ(w:tW)(ty:ju)(b o c:Nat)(hc:∀j,j<20->(w.cell? ⟨b,o+j,eL⟩).isSome=fR)(hf:∀j,j<20->w.frozen? ⟨b,o+j,eL⟩=fj):(Builtin.clear_ #[333] ty #[eS (eK ⟨b,o,eL⟩) 5 c]).run prog w=.ok (jl #[]) (w.setCells b o z20):=by have hst:=run_storeCells_cells (P:=prog) b o z20 0 w hc hf (by intro v hv;simp only[z20,bh,MV.cells,al,dr,List.mem_append,List.mem_cons,dt,or_false,or_self,cD]at hv;rcases hv with rfl|rfl|rfl|rfl<;>rfl);simp only[Nat.add_zero]at hst;have hz:=WD;simp[Builtin.clear_,pB underlying333,hz,Value.cells,WB,hst]
theorem aa.Kr{w w':tW}{g n cap:Nat}(j:Nat)(us:tLV):aa (Own (eS (eK ⟨g,0,eL⟩) n cap)) w w'->aa (Own (eS (eK ⟨g,0,eL⟩) n cap)) w (w'.setCells g j us):=by
 induction us generalizing j w' with
 |nil=>exact id
 |cons u us ih=>exact λm=>ih (j+1) (m.nN j u)
theorem yB(w:tW)(b:Nat)(rb mb:tLN)(vM vC vL:fa)(r:aJ)(h:aI w b rb mb vM vC vL r)(hp:0<eJ r.calls)(v:MV):fS prog 294 #[vP b,fY (v.cells rb mb).toArray] w λe w'=>e=fW (jl #[])/\aI w' b rb mb vM vC vL (r.answer v)/\aa (Own vC) w w':=by
 obtain⟨g,cap,K,rfl,_,_,hT,hC,hF,hR,hS⟩:=h.kit hp;have HT:=aq (λw' m=>hT w' vL r (h.quiet m) rfl);have HC:=aq (λw' (m:aa af w w')=>h.quiet m);have HK:ah (∀w',aI w' b rb mb vM (eS (eK ⟨g,0,eL⟩) (eJ r.calls) cap) vL r->∀c,c<4->w'.cell? ⟨g,K+3+c,eL⟩=((r.aD 0).cells rb mb)[c]?):=λw' h' c hc4=>by have:=hC w' vL r h' rfl (3+0*4+c) (by omega);rw[MV.Ht rb mb _ (hR w' vL r h' rfl) 0 c (by omega) hc4]at this;rw[<-ao,<-ao]at this;exact this
 have HX:=aq (λw' h'=>by
  have:=aI.Ww hp hR hS w' vL r h' rfl 0 (by omega) v
  rwa [Nat.zero_mul,Nat.add_zero]at this)
 have HY:ah (∀w',aI w' b rb mb vM (eS (eK ⟨g,0,eL⟩) (eJ r.calls) cap) vL (r.eV 0 v)->aI (w'.setCells g (K+3+4) z20) b rb mb vM (eS (eK ⟨g,0,eL⟩) (eJ r.calls) cap) vL (r.answer v)/\∀ty c,(Builtin.clear_ #[333] ty #[eS (eK ⟨g,K+3+4,eL⟩) 5 c]).run prog w'=.ok (jl #[]) (w'.setCells g (K+3+4) z20)):=λw' h'=>by
  refine⟨?_,λty c=>MZ w' ty g (K+3+4) c (λj hj=>?_) (λj _=>hF w' vL _ h' (aJ.iZ _ _ _) _)⟩
  ·have:=aI.nQ hp hR hS vL (bh 5 {}) w' _ h' (aJ.iZ _ _ _) 1 (by decide);rw[ab8]at this;exact this
  ·have:=hC w' vL _ h' (aJ.iZ _ _ _) (3+4+j) (by omega);rw[<-ao,<-ao]at this;rw[this,List.getElem?_eq_getElem (by rw[jN.mX rb mb _ (hR w' vL _ h' (aJ.iZ _ _ _))];omega)];rfl
 have HF:=aq (λw' h'=>hF w' vL r h' rfl);clear h hT hC hF hR hS;show fS _ _ #[_,fY #[vI v.so,vU v.bits,ia (v.aD.map λr=>⟨rb.getD r 0,0,eL⟩),ia (v.tab.map λt=>⟨mb.getD t 0,0,eL⟩)]] _ _
 generalize r.answer v=r2 at *;generalize r.eV 0 v=r1 at *;generalize r.aD 0=v0 at *;generalize v.aD.map (λr=>(⟨rb.getD r 0,0,eL⟩:kh))=p2 at *;generalize v.tab.map (λt=>(⟨mb.getD t 0,0,eL⟩:kh))=p3 at *;have HB:=aq (au.new w #[vI v.so,vU v.bits,ia p2,ia p3] 130);have HA:ah (aa af w (w.alloc (fL #[vI v.so,vU v.bits,ia p2,ia p3] 130))):=aw;go_in;go_wp2_with fail;refine(HT.o _ HA.o).mono ?_;rintro e w1 ⟨rfl,m1⟩;have fK:=aq ((HA.o.trans m1).drew);have tF:=aq ((HB.o.ai m1 id).ai (aa.refl af w1).drew id);clear HT m1 HA HB;go_upto_region 2 with fail;refine bK 5 (by kernel_rfl) (by kernel_rfl) ?_;intro W hW;rw[<-hW]at fK tF;clear hW;have x0:=tF.o.c0;have x1:=tF.o.c1;have x2:=tF.o.c2;have x3:=tF.o.c3;simp only[b9,cN,cj,cP]
 repeat(go_big_quiet_step (fail))
 refine mS ?_;have hr:=HC.o W fK.o;have y0:W.cell? ⟨g,K+3,eL⟩=eK (vI v0.so):=HK.o W hr 0 (by omega);have y1:W.cell? ⟨g,K+3+1,eL⟩=eK (vU v0.bits):=HK.o W hr 1 (by omega);have y2:W.cell? ⟨g,K+3+2,eL⟩=eK (ia (v0.aD.map λr=>⟨rb.getD r 0,0,eL⟩)):=HK.o W hr 2 (by omega);have y3:W.cell? ⟨g,K+3+3,eL⟩=eK (ia (v0.tab.map λt=>⟨mb.getD t 0,0,eL⟩)):=HK.o W hr 3 (by omega);have yf:=HF.o W hr;have HR:=aq (HX.o W hr);have bP:ah (aa (Own (eS (eK ⟨g,0,eL⟩) (eJ r.calls) cap)) w ((((W.setCell ⟨g,K+3,eL⟩ (vI v.so)).setCell ⟨g,K+3+1,eL⟩ (vU v.bits)).setCell ⟨g,K+3+2,eL⟩ (ia p2)).setCell ⟨g,K+3+3,eL⟩ (ia p3))):=((((fK.o.own _).nN _ _).nN _ _).nN _ _).nN _ _;clear HC hr HX HF HK x0 x1 x2 x3 tF;go_upto_region 3 with fail;generalize(((W.setCell ⟨g,K+3,eL⟩ (vI v.so)).setCell ⟨g,K+3+1,eL⟩ (vU v.bits)).setCell ⟨g,K+3+2,eL⟩ (ia p2)).setCell ⟨g,K+3+3,eL⟩ (ia p3)=W3 at *;obtain⟨hr4,hcl⟩:=HY.o W3 HR.o;have Ai:=aq hr4;clear hr4 y0 y1 y2 y3 yf HY;go_wp2_with fail;go_end0;exact⟨rfl,Ai.o,bP.o.Kr _ _⟩
theorem Oo(w:tW)(G:Nat)(v:fa)(h:au w G #[v] 122):fS prog 293 #[vP G] w λe w'=>e=fW (jl #[])/\w'=w.setCell ⟨G,0,eL⟩ (vN):=by have x0:=h.c0;have xf:=h.frozen;clear h;go_in;go_wp2_with fail;go_end0;exact⟨rfl,rfl⟩
def aJ.finish(r:aJ)(n:Nat):aJ:={r with r0:=n,ended:=fR}
def aJ.pop(r:aJ):aJ:={r with calls:=r.calls.dropLast}
theorem aI.fin{w:tW}{b:Nat}{rb mb:tLN}{vM vC vL:fa}{r:aJ}(h:aI w b rb mb vM vC vL r)(n:Nat):aI ((w.setCell ⟨b,6,eL⟩ (vU n)).setCell ⟨b,7,eL⟩ (fX fR)) b rb mb vM vC vL (r.finish n) :=
 ⟨(h.blk.set 6 _).set 7 _,h.calls.ai (((aa.refl (Only b) w).bA 6 _).bA 7 _) (λk hk e=>by cases(show k=b from e);exact h.calls.aA h.blk (by decide) hk),h.regs,h.depth⟩
theorem WE(w:tW)(b:Nat)(rb mb:tLN)(vM vC vL:fa)(r:aJ)(h:aI w b rb mb vM vC vL r)(hp:eJ r.calls=1)(hv:(r.aD 0).so=0):fS prog 245 #[vP b] w λe w'=>e=fW (jl #[])/\aI w' b rb mb vM vC vL (r.finish (r.aD 0).bits)/\aa (Only b) w w':=by
 have HG:ah (∀w',aa af w w'->fS prog 205 #[vP b,vB 0] w' λe w''=>e=fW (fY #[vI (r.aD 0).so,vU (r.aD 0).bits,ia ((r.aD 0).aD.map λr=>⟨rb.getD r 0,0,eL⟩),ia ((r.aD 0).tab.map λt=>⟨mb.getD t 0,0,eL⟩)])/\aa af w' w''):=λw' m=>eZ w' b rb mb vM vC vL r (h.quiet m) (by omega) 0 (by omega);have HN:ah (∀w',fS prog 207 #[fY #[vI (r.aD 0).so,vU (r.aD 0).bits,ia ((r.aD 0).aD.map λr=>⟨rb.getD r 0,0,eL⟩),ia ((r.aD 0).tab.map λt=>⟨mb.getD t 0,0,eL⟩)]] w' λe w''=>e=fW (vU (r.aD 0).bits)/\aa af w' w''):=λw'=>qo w' rb mb (r.aD 0) hv;have HH:=aq h;clear h hv;generalize r.aD 0=v at *;generalize v.aD.map (λr=>(⟨rb.getD r 0,0,eL⟩:kh))=p2 at *;generalize v.tab.map (λt=>(⟨mb.getD t 0,0,eL⟩:kh))=p3 at *;go_in;go_wp2_with fail;refine(HG.o _ ax).mono ?_;rintro e w1 ⟨rfl,m1⟩;have bU:=aq m1;clear m1 HG;go_upto_region 1 with fail;have bP:=aq (bU.o.alloc (fL #[vI v.so,vU v.bits,ia p2,ia p3] 130));have HB2:=aq (au.new w1 #[vI v.so,vU v.bits,ia p2,ia p3] 130);generalize w1.alloc (fL #[vI v.so,vU v.bits,ia p2,ia p3] 130)=W2 at *;generalize w1.heap.size=B at *;obtain⟨oC,cC,rfl,_⟩:=HH.o.calls.view;have h2:=HH.o.quiet bP.o;have x2:W2.cell? ⟨b,2,eL⟩=eK (eS oC 1 cC):=by rw[<-hp];exact h2.blk.cell 2
 have z0:=HB2.o.c0;have z1:=HB2.o.c1;have z2:=HB2.o.c2;have z3:=HB2.o.c3;clear h2 HB2;go_wp2_with fail;refine(HN.o _).mono ?_;rintro e w3 ⟨rfl,m3⟩;have dF:=aq (bP.o.trans m3);have h3:=HH.o.quiet dF.o;have x6:=h3.blk.c6;have x7:=h3.blk.c7;have xf:=h3.blk.frozen;have HF:=aq (h3.fin v.bits);clear h3 z0 z1 z2 z3 x2 m3 HN;go_wp2_with fail;exact kx (results_none results245 _ _ _) rfl ⟨rfl,HF.o,(((dF.o.mono (λ_ _ h=>h.elim)).bA 6 _).bA 7 _)⟩
theorem WG(w:tW)(b:Nat)(rb mb:tLN)(vM vC vL:fa)(r:aJ)(h:aI w b rb mb vM vC vL r)(hp:eJ r.calls=1)(hv:(r.aD 0).so≠0):fS prog 245 #[vP b] w λe w'=>e=bG 2/\aa af w w':=by
 have HG:ah (∀w',aa af w w'->fS prog 205 #[vP b,vB 0] w' λe w''=>e=fW (fY #[vI (r.aD 0).so,vU (r.aD 0).bits,ia ((r.aD 0).aD.map λr=>⟨rb.getD r 0,0,eL⟩),ia ((r.aD 0).tab.map λt=>⟨mb.getD t 0,0,eL⟩)])/\aa af w' w''):=λw' m=>eZ w' b rb mb vM vC vL r (h.quiet m) (by omega) 0 (by omega);have HN:ah (∀w',fS prog 207 #[fY #[vI (r.aD 0).so,vU (r.aD 0).bits,ia ((r.aD 0).aD.map λr=>⟨rb.getD r 0,0,eL⟩),ia ((r.aD 0).tab.map λt=>⟨mb.getD t 0,0,eL⟩)]] w' λe w''=>e=bG 2/\aa af w' w''):=λw'=>wI w' rb mb (r.aD 0) hv;have HH:=aq h;clear h hv;generalize r.aD 0=v at *;generalize v.aD.map (λr=>(⟨rb.getD r 0,0,eL⟩:kh))=p2 at *;generalize v.tab.map (λt=>(⟨mb.getD t 0,0,eL⟩:kh))=p3 at *;go_in;go_wp2_with fail;refine(HG.o _ ax).mono ?_;rintro e w1 ⟨rfl,m1⟩;have bU:=aq m1;clear m1 HG;go_upto_region 1 with fail;have bP:=aq (bU.o.alloc (fL #[vI v.so,vU v.bits,ia p2,ia p3] 130));have HB2:=aq (au.new w1 #[vI v.so,vU v.bits,ia p2,ia p3] 130);generalize w1.alloc (fL #[vI v.so,vU v.bits,ia p2,ia p3] 130)=W2 at *;generalize w1.heap.size=B at *;obtain⟨oC,cC,rfl,_⟩:=HH.o.calls.view;have h2:=HH.o.quiet bP.o;have x2:W2.cell? ⟨b,2,eL⟩=eK (eS oC 1 cC):=by rw[<-hp];exact h2.blk.cell 2
 have z0:=HB2.o.c0;have z1:=HB2.o.c1;have z2:=HB2.o.c2;have z3:=HB2.o.c3;clear h2 HB2;go_wp2_with fail;refine(HN.o _).mono ?_;rintro e w3 ⟨rfl,m3⟩;exact⟨rfl,rfl,bP.o.trans m3⟩
theorem DY{α:Type}(enc:α->tLV)(k:Nat):∀(l:List α),(∀x∈l,eJ (enc x)=k)->(l.flatMap enc).take ((eJ l-1)*k)=l.dropLast.flatMap enc
 |[],_=>by simp
 |[x],h=>by simp
 |x::y::l,h=>by have ih:=DY enc k (y::l) (λz hz=>h z (by simp[hz]));have hx:=h x (by simp);rw[List.dropLast_cons_cons,al (xs:=(y::l).dropLast),al (xs:=y::l),List.take_append,<-ih];simp only[ar]at *;rw[bt (by rw[hx,cq,cH,Nat.one_mul];exact Nat.le_add_left _ _),hx,show(eJ l+1+1-1)*k-k=(eJ l+1-1)*k by rw[cq,cq,cH,Nat.one_mul];omega]
theorem aI.ad9{w:tW}{b g cap:Nat}{rb mb:tLN}{vM vL:fa}{r:aJ}(h:aI w b rb mb vM (eS (eK ⟨g,0,eL⟩) (eJ r.calls) cap) vL r)(hp:1<eJ r.calls):aI (w.setCell ⟨b,2,eL⟩ (eS (eK ⟨g,0,eL⟩) (eJ r.calls-1) cap)) b rb mb vM (eS (eK ⟨g,0,eL⟩) (eJ r.pop.calls) cap) vL r.pop:=by
 have hl:eJ r.pop.calls=eJ r.calls-1:=cY;refine⟨by rw[hl];exact h.blk.set 2 _,?_,λf hf=>h.regs f (List.dropLast_subset _ hf),by have:=h.depth;omega⟩
 have hs:Sl w 190 48 (eS (eK ⟨g,0,eL⟩) (eJ r.pop.calls) cap) (eJ r.pop.calls) (r.pop.calls.flatMap (jN.cells rb mb)):=by
  have hlen:(r.pop.calls.flatMap (jN.cells rb mb))=(r.calls.flatMap (jN.cells rb mb)).take (eJ r.pop.calls*48):=by rw[hl];exact(DY _ 48 r.calls (λf hf=>jN.mX rb mb f (h.regs f hf))).symm
  have hll:=h.calls.len;refine⟨by rw[hlen,du,hll,hl];exact Nat.min_eq_left (de _ (by omega)),.inr ?_⟩;rcases h.calls.2 with⟨h',_⟩ |⟨g',cap',cur,h',h0,hg,hn,hm,hs,ht⟩
  ·cases h'
  ·cases h';refine⟨g,cap,cur,rfl,h0,hg,by omega,hm,hs,?_⟩;rw[hlen,<-ht,List.take_take,Nat.min_eq_left (by rw[hl];exact de _ (by omega))]
 exact hs.ai ((aa.refl (Only b) w).bA 2 _) (λk hk e=>by cases(show k=b from e);exact hs.aA h.blk (by decide) hk)
def aJ.back(r:aJ):aJ:=r.pop.answer (r.aD 0)
theorem Sa(w:tW)(b:Nat)(rb mb:tLN)(vM vC vL:fa)(r:aJ)(h:aI w b rb mb vM vC vL r)(hp:1<eJ r.calls)(vG:fa)(hG:au w (rb.getD r.top.oJ 0) #[vG] 122):fS prog 245 #[vP b] w λe w'=>∃WA,e=fW (jl #[])/\aI w' b rb mb vM WA vL r.back/\WA.ownBlock=vC.ownBlock/\∃w2,aa af w w2/\aa (λk=>k=b\/Own vC k) (w2.setCell ⟨rb.getD r.top.oJ 0,0,eL⟩ (vN)) w':=by
 obtain⟨g,cap,K,rfl,_,_,hT,hC,hF,hR,hS⟩:=h.kit (by omega);have HG:ah (∀w',aa af w w'->fS prog 205 #[vP b,vB 0] w' λe w''=>e=fW (fY #[vI (r.aD 0).so,vU (r.aD 0).bits,ia ((r.aD 0).aD.map λr=>⟨rb.getD r 0,0,eL⟩),ia ((r.aD 0).tab.map λt=>⟨mb.getD t 0,0,eL⟩)])/\aa af w' w''):=λw' m=>eZ w' b rb mb vM _ vL r (h.quiet m) (by omega) 0 (by omega)
 have HT:ah (∀w',aa af w w'->(fS prog 95 #[vP b] w' λe w''=>e=fW (ia (eK ⟨g,K,eL⟩))/\aa af w' w'')/\w'.cell? ⟨g,K+47,eL⟩=eK (vP (rb.getD r.top.oJ 0))):=λw' m=>⟨hT w' vL r (h.quiet m) rfl,by
  rw[hC w' vL r (h.quiet m) rfl 47 (by omega)];unfold jN.cells;rw[List.getElem?_append_right (by rw[ba,vw,hR w' vL r (h.quiet m) rfl];simp),ba,vw,hR w' vL r (h.quiet m) rfl];rfl⟩
 have HH:ah (∀w',aa af w w'->aI w' b rb mb vM (eS (eK ⟨g,0,eL⟩) (eJ r.calls) cap) vL r/\au w' (rb.getD r.top.oJ 0) #[vG] 122):=λw' m=>⟨h.quiet m,hG.ai m id⟩
 have HD:ah (∀w',aa af w w'->aI (w'.setCell ⟨rb.getD r.top.oJ 0,0,eL⟩ (vN)) b rb mb vM (eS (eK ⟨g,0,eL⟩) (eJ r.calls) cap) vL r):=λw' m=>by
  have h':=h.quiet m;have g':=hG.ai m id;have m1:=(aa.refl (Only (rb.getD r.top.oJ 0)) w').bA 0 (vN);refine⟨h'.blk.ai m1 (λe=>?_),h'.calls.ai m1 (λk hk e=>?_),h'.regs,h'.depth⟩
  ·rw[<-show b=_ from e]at g';have hb:=h'.blk;unfold au at hb g';rw[hb]at g';cases g'
  ·cases(show k=_ from e);exact h'.calls.aA g' (by decide) hk
 have HAN:ah (∀w',aI w' b rb mb vM (eS (eK ⟨g,0,eL⟩) (eJ r.pop.calls) cap) vL r.pop->fS prog 294 #[vP b,fY #[vI (r.aD 0).so,vU (r.aD 0).bits,ia ((r.aD 0).aD.map λr=>⟨rb.getD r 0,0,eL⟩),ia ((r.aD 0).tab.map λt=>⟨mb.getD t 0,0,eL⟩)]] w' λe w''=>e=fW (jl #[])/\aI w'' b rb mb vM (eS (eK ⟨g,0,eL⟩) (eJ r.pop.calls) cap) vL r.back/\aa (Own (eS (eK ⟨g,0,eL⟩) (eJ r.pop.calls) cap)) w' w''):=λw' h'=>yB w' b rb mb vM _ vL r.pop h' (by have:eJ r.pop.calls=eJ r.calls-1:=cY;omega) (r.aD 0);have hd:=h.depth;clear h hT hC hF hR hS hG;generalize r.aD 0=v at *;generalize v.aD.map (λr=>(⟨rb.getD r 0,0,eL⟩:kh))=p2 at *;generalize v.tab.map (λt=>(⟨mb.getD t 0,0,eL⟩:kh))=p3 at *;generalize rb.getD r.top.oJ 0=G at *;go_in;go_wp2_with fail;refine(HG.o _ ax).mono ?_;rintro e w1 ⟨rfl,m1⟩;have bU:=aq m1;clear m1 HG;go_upto_region 1 with fail;have bP:=aq (bU.o.alloc (fL #[vI v.so,vU v.bits,ia p2,ia p3] 130));have HB2:=aq (au.new w1 #[vI v.so,vU v.bits,ia p2,ia p3] 130);generalize w1.alloc (fL #[vI v.so,vU v.bits,ia p2,ia p3] 130)=W2 at *;generalize w1.heap.size=B at *;have x2:=(HH.o W2 bP.o).1.blk.c2;have hq:((eJ r.calls:Nat):Int)≠1:=by omega
 go_wp2_with fail;obtain⟨hT2,_⟩:=HT.o W2 bP.o;refine hT2.mono ?_;rintro e w3 ⟨rfl,m3⟩;have dF:=aq (bP.o.trans m3);have HB3:=aq (HB2.o.ai m3 id);have y47:=(HT.o w3 dF.o).2;clear hT2 m3 bP HB2 x2 HT;go_wp2_with fail;refine(Oo w3 G vG (HH.o w3 dF.o).2).mono ?_;rintro e w4 ⟨rfl,rfl⟩;have h4:=HD.o w3 dF.o;have KX:ah (B≠G):=by rintro rfl;have h1:=HB3.o;have h2:=(HH.o w3 dF.o).2;unfold au at h1 h2;rw[h1]at h2;cases h2
 have iH:ah (au (w3.setCell ⟨G,0,eL⟩ (vN)).drew B #[vI v.so,vU v.bits,ia p2,ia p3] 130):=(HB3.o.setOther (Ne.symm KX.o) _).ai (aa.refl af _).drew id;have Ai:=aq (h4.quiet (aa.refl af _).drew);have gG:ah (aa af (w3.setCell ⟨G,0,eL⟩ (vN)) (w3.setCell ⟨G,0,eL⟩ (vN)).drew):=(aa.refl af _).drew;clear h4 HB3 HD HH y47 KX;go_upto_region 5 with fail;refine bK 14 (by kernel_rfl) (by kernel_rfl) ?_;intro W hW;rw[<-hW]at iH Ai gG;clear hW;have x2:=Ai.o.blk.c2;have xf:=Ai.o.blk.frozen
 have hcap:eJ r.calls<=cap:=by
  rcases Ai.o.calls.2 with⟨h',_⟩ |⟨g',cap',cur,h',h0,hg,hn,hm,hs,ht⟩
  ·cases h'
  ·cases h';exact hn
 have hi:((eJ r.calls:Int)-1)=((eJ r.calls-1:Nat):Int):=by omega
 have HP:=aq (Ai.o.ad9 hp);have hk:eJ r.calls-1<=cap:=by omega
 simp only[b9,cN,cj,cP];generalize eJ r.calls-1=k at *
 repeat(go_big_quiet_step (fail))
 refine mS ?_;have jo:ah (aa (λj=>j=b\/Own (eS (eK ⟨g,0,eL⟩) (eJ r.calls) cap) j) (w3.setCell ⟨G,0,eL⟩ (vN)) (W.setCell ⟨b,2,eL⟩ (eS (eK ⟨g,0,eL⟩) k cap))):=(gG.o.mono (λ_ _ h=>h.elim)).set (a:=⟨b,2,eL⟩) (.inl (.inl rfl)) _;have HBb:ah (b≠B):=by rintro rfl;have h1:=iH.o;have h2:=Ai.o.blk;unfold au at h1 h2;rw[h1]at h2;cases h2
 have ji:ah (au (W.setCell ⟨b,2,eL⟩ (eS (eK ⟨g,0,eL⟩) k cap)) B #[vI v.so,vU v.bits,ia p2,ia p3] 130):=iH.o.setOther HBb.o _;clear Ai iH gG HBb;go_upto_region 6 with fail;generalize W.setCell ⟨b,2,eL⟩ (eS (eK ⟨g,0,eL⟩) k cap)=W5 at *;have z0:=ji.o.c0;have z1:=ji.o.c1;have z2:=ji.o.c2;have z3:=ji.o.c3;clear ji x2 xf hi hk hcap;go_wp2_with fail;refine(HAN.o _ HP.o).mono ?_;rintro e w6 ⟨rfl,hr6,m6⟩;have NT:=aq hr6;have xW:=aq m6;clear hr6 m6 HAN;go_wp2_with fail;go_end0;exact⟨_,rfl,NT.o,rfl,w3,dF.o,jo.o.trans (xW.o.mono (λ_ _ h=>.inr h))⟩
theorem run_loadVar_rowM{P:lj}(w:tW)(g off:Nat)(ty:ju)(cs:tAV)(d:TypeDesc)(hc:∀j (h:j<cs.size),w.cell? ⟨g,off+j,eL⟩=eK cs[j])(hu:P.underlying ty=eK d) (hd:(match (generalizing:=false) d with|.struct _|.array _ _=>fR|_=>fj)=fR) (hi:(P.info? ty).map (·.size)=eK cs.size):(loadVar ty ⟨g,off,eL⟩).run P w=.ok (fY cs) w:=by
 have hl:=run_loadCells_list (P:=P) w ⟨g,off,eL⟩ cs.toList (λj v hv=>by
   have hadd:(⟨g,off,eL⟩:kh).add j=⟨g,off+j,eL⟩:=by unfold Addr.add;split<;>simp_all
   obtain⟨hj,hv⟩:=List.getElem?_eq_some_iff.1 hv;rw[hadd,hc j (by simpa using hj)]
   simpa using hv)
 cases hq:P.info? ty with
 |none=>simp[hq]at hi
 |some i =>
  have hs:i.size=cs.size:=by simpa [hq]using hi
  have hagg:(isAgg ty).run P w=.ok fR w:=by unfold isAgg;rw[Sem.run_bind,pB hu w];cases d<;>simp_all
  simp only[Array.length_toList,Array.toArray_toList]at hl;simp[loadVar,Sem.run_bind,hagg,sizeOf,typeInfo,hq,hs,hl]
theorem AX{P:lj}{ops:Array iz}{rest:List iz}{o:iz}{a:Act}{w:tW}{Q:Exit->Act->tW->Prop}(hgd:o.guard=eL)(ty:ju)(x:Operand)(ho:o.op=.load ty x)(g off:Nat) (hx:a.eval x=ia (eK ⟨g,off,eL⟩)) (cs:tAV) (d:TypeDesc) (hc:∀j (h:j<cs.size),w.cell? ⟨g,off+j,eL⟩=eK cs[j])(hu:P.underlying ty=eK d) (hd:(match (generalizing:=false) d with|.struct _|.array _ _=>fR|_=>fj)=fR) (hi:(P.info? ty).map (·.size)=eK cs.size)(h:n9 P ops Q rest (a.put o.dst (fY cs)) w):n9 P ops Q (o::rest) a w :=
 pP hgd λ_ hK=>by unfold Oper.wp execOp;simp only[ho,hx,Instr.loadAt,Instr.sureAddr,Sem.run_bind,Sem.run_pure,Result.andThen_ok,run_loadVar_rowM w g off ty cs d hc hu hd hi];exact hK _ _ h
theorem eP{P:lj}{ops:Array iz}{rest:List iz}{o:iz}{a:Act}{w:tW}{Q:Exit->Act->tW->Prop}(hgd:o.guard=eL)(ty:ju)(x y:Operand)(ho:o.op=.store ty x y)(g:Nat) (cells:tAV) (hx:a.eval x=vP g) (hy:a.eval y=fY cells)(t:ju) (old:tAV) (hg:au w g old t) (hi:(P.info? ty).map (·.size)=eK cells.size)(hold:old.size=cells.size) (h1:cells.all (·.oneCell')=fR)(h:∀W,au W g cells t->aa (Only g) w W->n9 P ops Q rest (a.put o.dst kO) W):n9 P ops Q (o::rest) a w :=
 wpList_store_row hgd ty x y ho g cells hx hy t old hg hi hold h1 (h _ (setRow_heap w g old cells t (0,0) hg) (BC cells))
def aJ.Hu(r:aJ)(fn k:Nat):aJ:=(r.enter fn k).nQ 1 ((r.top.regs.drop 1).take 5)
def lq(v:MV)(j:Int):Nat:=(((v.bits:Int)+j)%18446744073709551616).toNat
theorem Oq(v:MV)(j:Int):IntKind.u64.wrap (↑v.bits+IntKind.u64.wrap j)=((lq v j:Nat):Int):=by unfold lq;rw[Int.toNat_of_nonneg (Int.emod_nonneg _ (by omega))];simp only[IntKind.wrap,IntKind.bits,IntKind.signed];simp
theorem FX(a:Nat)(h:a<9223372036854775808):RowKit.wrap64 ((a:Nat):Int)=a:=by unfold RowKit.wrap64;omega
theorem Sb(a:Nat)(h:9223372036854775808<=a)(h':a<18446744073709551616):RowKit.wrap64 ((a:Nat):Int)<0:=by unfold RowKit.wrap64;omega
theorem ab9(v:MV)(j:Int):lq v j<18446744073709551616:=by unfold lq;omega
theorem FY(w:tW)(rb mb:tLN)(v:MV)(q:Nat)(hq:v.aD=eK q)(tN:v.so=2)(g n cap:Nat)(hG:au w (rb.getD q 0) #[eS (eK ⟨g,0,eL⟩) n cap] 122)(hn:n<=1000)(hcap:n<=cap)(j:Int)(s:Nat)(hs:0<s/\s<=16)(hok:lq v j+s<=n):fS prog 286 #[fY (v.cells rb mb).toArray,.int .i16 j,vI s] w λe w'=>e=fW (eS (eK ⟨g,lq v j,eL⟩) s (cap-lq v j))/\aa af w w':=by
 have HW:ah (∀w',fS prog 282 #[fY #[vI v.so,vU v.bits,ia (v.aD.map λr=>⟨rb.getD r 0,0,eL⟩),ia (v.tab.map λt=>⟨mb.getD t 0,0,eL⟩)],vI 2] w' λe w''=>e=fW (jl #[])/\aa af w' w''):=λw'=>zJ w' rb mb v 2 tN;show fS _ _ #[fY #[vI v.so,vU v.bits,ia (v.aD.map λr=>⟨rb.getD r 0,0,eL⟩),ia (v.tab.map λt=>⟨mb.getD t 0,0,eL⟩)],_,_] _ _
 rw[hq]at HW ⊢;simp only[bj]at HW ⊢;have HGG:=aq (λw' (m:aa af w w')=>hG.ai m id);have hX:RowKit.wrap64 (IntKind.u64.wrap (↑v.bits+IntKind.u64.wrap j))=((lq v j:Nat):Int):=by rw[Oq,FX _ (by omega)]
 generalize lq v j=A at *;have hne:¬cap=A:=by omega
 clear hG tN hq;generalize rb.getD q 0=R at *;generalize v.tab.map (λt=>(⟨mb.getD t 0,0,eL⟩:kh))=p3 at *;have HB:=aq (au.new w #[vI v.so,vU v.bits,vP R,ia p3] 130);have HM:ah (aa af w (w.alloc (fL #[vI v.so,vU v.bits,vP R,ia p3] 130))):=aw;go_in;go_wp2_with fail;refine(HW.o _).mono ?_;rintro e w1 ⟨rfl,m1⟩;have bU:=aq (HM.o.trans m1);have hB1:=HB.o.ai m1 id;have y1:=hB1.c1;have y2:=hB1.c2;have z0:=(HGG.o w1 bU.o).c0;clear HM HB HW m1 hB1;go_wp2_with fail;go_ret;exact⟨by rw[show A+s-A=s by omega];rfl,bU.o⟩
theorem WH(w:tW)(rb mb:tLN)(v:MV)(q:Nat)(hq:v.aD=eK q)(tN:v.so=2)(o:Option kh)(n cap:Nat)(hG:au w (rb.getD q 0) #[eS o n cap] 122)(hn:n<=1000)(j:Int)(s:Nat)(hs:0<s/\s<=16)(hok:¬lq v j+s<=n):fS prog 286 #[fY (v.cells rb mb).toArray,.int .i16 j,vI s] w λe w'=>e=bG 3/\aa af w w':=by
 have HW:ah (∀w',fS prog 282 #[fY #[vI v.so,vU v.bits,ia (v.aD.map λr=>⟨rb.getD r 0,0,eL⟩),ia (v.tab.map λt=>⟨mb.getD t 0,0,eL⟩)],vI 2] w' λe w''=>e=fW (jl #[])/\aa af w' w''):=λw'=>zJ w' rb mb v 2 tN;show fS _ _ #[fY #[vI v.so,vU v.bits,ia (v.aD.map λr=>⟨rb.getD r 0,0,eL⟩),ia (v.tab.map λt=>⟨mb.getD t 0,0,eL⟩)],_,_] _ _
 rw[hq]at HW ⊢;simp only[bj]at HW ⊢;have HGG:=aq (λw' (m:aa af w w')=>hG.ai m id)
 have hX:RowKit.wrap64 (IntKind.u64.wrap (↑v.bits+IntKind.u64.wrap j))<0\/(n:Int)-s<RowKit.wrap64 (IntKind.u64.wrap (↑v.bits+IntKind.u64.wrap j)):=by
  rw[Oq];rcases Nat.lt_or_ge (lq v j) 9223372036854775808 with h|h
  ·rw[FX _ h];omega
  ·exact .inl (Sb _ h (ab9 v j))
 obtain⟨A,hE⟩:∃A:Int,RowKit.wrap64 (IntKind.u64.wrap (↑v.bits+IntKind.u64.wrap j))=A:=⟨_,rfl⟩
 rw[hE]at hX;clear hG tN hq;generalize rb.getD q 0=R at *;generalize v.tab.map (λt=>(⟨mb.getD t 0,0,eL⟩:kh))=p3 at *;have HB:=aq (au.new w #[vI v.so,vU v.bits,vP R,ia p3] 130);have HM:ah (aa af w (w.alloc (fL #[vI v.so,vU v.bits,vP R,ia p3] 130))):=aw;go_in;go_wp2_with fail;refine(HW.o _).mono ?_;rintro e w1 ⟨rfl,m1⟩;have bU:=aq (HM.o.trans m1);have hB1:=HB.o.ai m1 id;have y1:=hB1.c1;have y2:=hB1.c2;have z0:=(HGG.o w1 bU.o).c0;clear HM HB HW m1 hB1;rcases hX with hX|hX
 ·go_wp2_with fail;exact⟨rfl,rfl,bU.o⟩
 ·rcases(by omega:A<0\/0<=A)with hA|hA
  ·go_wp2_with fail;exact⟨rfl,rfl,bU.o⟩
  ·go_wp2_with fail;exact⟨rfl,rfl,bU.o⟩
def leN:tLN->Nat
 |[]=>0
 |b::l=>b+256*leN l
theorem aap(l:tLN)(b:Nat):leN (l++[b])=leN l+b*2 ^ (8*eJ l):=by
 induction l with
 |nil=>simp[leN]
 |cons x l ih =>rw[List.cons_append,leN,leN,ih,ar,Nat.mul_add,show 8*(eJ l+1)=8*eJ l+8 by omega,dq];have:(2:Nat) ^ 8=256:=rfl;rw[this,ao];congr 2;rw[Nat.mul_comm 256,Nat.mul_assoc]
theorem aca(l:tLN)(h:∀b∈l,b<256):leN l<2 ^ (8*eJ l):=by
 induction l with
 |nil=>simp[leN]
 |cons x l ih =>have h1:=h x (by simp);have h2:=ih (λb hb=>h b (by simp[hb]));rw[leN,ar,show 8*(eJ l+1)=8*eJ l+8 by omega,dq];have:(2:Nat) ^ 8=256:=rfl;rw[this];omega
theorem WI(a b k:Nat)(ha:a<2 ^ (8*k))(hb:b<256)(hk:k<8):bits BinOp.or IntKind.u64 (a:Int) (IntKind.u64.wrap (IntKind.u64.wrap (b:Int)*2 ^ (8*k)))=((a+b*2 ^ (8*k):Nat):Int):=by
 have h64:b*2 ^ (8*k)<2 ^ 64:=by have h1:b*2 ^ (8*k)<2 ^ 8*2 ^ (8*k):=Nat.mul_lt_mul_of_pos_right hb (Nat.pow_pos (by omega));rw[<-dq]at h1;exact Nat.lt_of_lt_of_le h1 (Nat.pow_le_pow_right (by omega) (by omega))
 rw[IntWalk.u64_in (b:Int) (by omega)];have e:(b:Int)*2 ^ (8*k)=((b*2 ^ (8*k):Nat):Int):=by push_cast;rfl
 rw[e,IntWalk.u64_in _ (by omega)];exact Jy .u64 (8*k) 64 a b (λn h0 h1=>IntWalk.u64_in n (by omega)) (by decide) (by omega) ha h64
theorem Sc(w:tW)(rb mb:tLN)(v:MV)(q:Nat)(hq:v.aD=eK q)(tN:v.so=2)(g n cap:Nat)(hG:au w (rb.getD q 0) #[eS (eK ⟨g,0,eL⟩) n cap] 122)(l:tLN)(hl:eJ l=n)(hby:∀b∈l,b<256)(hS:mD w (eS (eK ⟨g,0,eL⟩) n cap) n l)(hn:n<=1000)(hcap:n<=cap)(j:Int)(s:Nat)(hs:0<s/\s<=8)(hok:lq v j+s<=n):fS prog 234 #[fY (v.cells rb mb).toArray,.int .i16 j,vI s] w λe w'=>e=fW (fY ((dI (leN ((l.drop (lq v j)).take s))).cells rb mb).toArray)/\aa af w w':=by
 have HRC:ah (∀w',aa af w w'->fS prog 286 #[fY #[vI v.so,vU v.bits,ia (v.aD.map λr=>⟨rb.getD r 0,0,eL⟩),ia (v.tab.map λt=>⟨mb.getD t 0,0,eL⟩)],.int .i16 j,vI s] w' λe w''=>e=fW (eS (eK ⟨g,lq v j,eL⟩) s (cap-lq v j))/\aa af w' w''):=λw' m=>FY w' rb mb v q hq tN g n cap (hG.ai m id) hn hcap j s ⟨hs.1,by omega⟩ hok;have TE:ah (∀w',aa af w w'->∀k,k<s->w'.cell? ⟨g,lq v j+k,eL⟩=eK (vB (((l.drop (lq v j)).take s).getD k 0:Nat))):=λw' m k hk=>by rw[((hS.ai m (λ_ _=>id)).cell (lq v j+k) (by omega)).1,List.getD_eq_getElem?_getD,List.getD_eq_getElem?_getD,List.getElem?_take_of_lt hk,List.getElem?_drop]
 have HBY:ah (∀k,((l.drop (lq v j)).take s).getD k 0<256):=λk=>by
  rw[List.getD_eq_getElem?_getD];rcases h:((l.drop (lq v j)).take s)[k]? with _|b
  ·simp
  ·exact hby b (dj (b5 (List.mem_of_getElem? h)))
 have HLS:ah (eJ ((l.drop (lq v j)).take s)=s):=by unfold ah;simp;omega
 have HAC:ah (∀k,k<s->leN (((l.drop (lq v j)).take s).take (k+1))=leN (((l.drop (lq v j)).take s).take k)+((l.drop (lq v j)).take s).getD k 0*2 ^ (8*k)/\leN (((l.drop (lq v j)).take s).take k)<2 ^ (8*k)):=λk hk=>by
  have hk':k<eJ ((l.drop (lq v j)).take s):=by rw[HLS.o];exact hk
  have hlen:eJ (((l.drop (lq v j)).take s).take k)=k:=by rw[du];omega
  refine⟨?_,?_⟩
  ·rw[List.take_succ_eq_append_getElem hk',aap,hlen,List.getD_eq_getElem?_getD,List.getElem?_eq_getElem hk'];rfl
  ·have:=aca (((l.drop (lq v j)).take s).take k) (λb hb=>hby b (dj (b5 (b5 hb))))
   rwa [hlen]at this
 show fS _ _ #[fY #[vI v.so,vU v.bits,ia (v.aD.map λr=>⟨rb.getD r 0,0,eL⟩),ia (v.tab.map λt=>⟨mb.getD t 0,0,eL⟩)],_,_] _ _
 clear hG hS hok tN hq hl hby;generalize(l.drop (lq v j)).take s=bl at *;generalize lq v j=A at *;generalize v.aD.map (λr=>(⟨rb.getD r 0,0,eL⟩:kh))=p2 at *;generalize v.tab.map (λt=>(⟨mb.getD t 0,0,eL⟩:kh))=p3 at *;go_in;go_upto_region 2 with fail;have bP:ah (aa af w ((w.alloc (fL #[vI v.so,vU v.bits,ia p2,ia p3] 130)).alloc (fL #[vI 0,vU 0,vO,vO] 130))):=aw.alloc _;have HB2:ah (au ((w.alloc (fL #[vI v.so,vU v.bits,ia p2,ia p3] 130)).alloc (fL #[vI 0,vU 0,vO,vO] 130)) w.heap.size #[vI v.so,vU v.bits,ia p2,ia p3] 130):=(au.new _ _ _).alloc _
 have HZ2:ah (au ((w.alloc (fL #[vI v.so,vU v.bits,ia p2,ia p3] 130)).alloc (fL #[vI 0,vU 0,vO,vO] 130)) (w.heap.size+1) #[vI 0,vU 0,vO,vO] 130):=by
  have:=au.new (w.alloc (fL #[vI v.so,vU v.bits,ia p2,ia p3] 130)) #[vI 0,vU 0,vO,vO] 130
  rwa [World.size_alloc]at this
 have qJ:ah (w.heap.size<=w.heap.size+1):=Nat.le_succ _;generalize(w.alloc (fL #[vI v.so,vU v.bits,ia p2,ia p3] 130)).alloc (fL #[vI 0,vU 0,vO,vO] 130)=W2 at *;generalize w.heap.size+1=Zb at *;have z0:=HB2.o.c0;have z1:=HB2.o.c1;have z2:=HB2.o.c2;have z3:=HB2.o.c3;go_wp2_with fail;refine(HRC.o _ bP.o).mono ?_;rintro e w3 ⟨rfl,m3⟩;have dF:=aq (bP.o.trans m3);have HZ3:=aq (HZ2.o.ai m3 id);clear z0 z1 z2 z3 m3 bP HB2 HZ2 HRC;go_upto_block 0 with fail;go_cut [7] (λnv wx=>nv=vU (leN bl:Nat)/\wx=w3)
 case first =>
  go_wp2_with fail;go_loopg [7,15] s (λq nv iv wx=>∃k:Nat,iv=vI k/\nv=vU (leN (bl.take k):Nat)/\wx=w3/\k<=s/\q=s-k)
  case atStart=>exact⟨0,rfl,rfl,rfl,Nat.zero_le _,rfl⟩
  case round =>
   obtain⟨k,rfl,rfl,rfl,hk,rfl⟩:=hrel;by_cases hlt:k<s
   ·have y:=TE.o wr dF.o k hlt;obtain⟨e1,e2⟩:=HAC.o k hlt;have e3:=HBY.o k;have e4:=WI _ _ k e2 e3 (by omega);rw[<-e1]at e4;have e5:bl.getD k 0=bl[k]?.getD 0:=List.getD_eq_getElem?_getD ..;rw[e5]at e4 e1 y;clear e5;go_wp2_with fail;go_roundg (s-(k+1))
    case measure=>omega
    case rel=>exact⟨k+1,by go_num,by rw[e1,Int.natCast_add,Int.natCast_mul,Int.natCast_pow];rfl,rfl,by omega,rfl⟩
   ·obtain rfl:k=s:=by omega
    go_wp2_with fail;go_meet;refine⟨?_,rfl⟩;rw[bt (by rw[HLS.o];exact cI _)]
 case rest =>
 obtain⟨rfl,rfl⟩:=hcut;have Wf:ah (∀w',fS prog 56 #[vU (leN bl:Nat)] w' λe w''=>e=fW (fY #[vI 0,vU (leN bl:Nat),vO,vO])/\aa af w' w''):=λw'=>qm w' [] [] (leN bl);go_wp2_with fail;refine(Wf.o _).mono ?_;rintro e w4 ⟨rfl,m4⟩;have gG:=aq (dF.o.trans m4);have hb4:=HZ3.o.ai m4 id;have z0:=hb4.cell 0;have z1:=hb4.cell 1;have z2:=hb4.cell 2;have z3:=hb4.cell 3;have zf:=hb4.frozen;have iH:=aq hb4;clear hb4 m4 dF HZ3 Wf;go_wp2_with fail;refine kx (mL results234 _ _ Zb 130 _ (0,0) _ rfl ((((iH.o.set 0 _).set 1 _).set 2 _).set 3 _) underlying130 rfl (by kernel_rfl)) rfl ⟨rfl,?_⟩;exact(((gG.o.set (a:=⟨Zb,0,eL⟩) (Or.inr qJ.o) _).set (a:=⟨Zb,1,eL⟩) (Or.inr qJ.o) _).set (a:=⟨Zb,2,eL⟩) (Or.inr qJ.o) _).set (a:=⟨Zb,3,eL⟩) (Or.inr qJ.o) _
def putB(l:tLN)(A num:Nat):Nat->tLN
 |0=>l
 |k+1=>(putB l A num k).set (A+k) (num/2 ^ (8*k)%256)
theorem Kt(l:tLN)(A num k:Nat):eJ (putB l A num k)=eJ l:=by
 induction k with
 |zero=>rfl
 |succ k ih=>rw[putB,ab,ih]
theorem Sd(w:tW)(rb mb:tLN)(v:MV)(tN:v.so≠2)(j:Int)(s:Nat):fS prog 286 #[fY (v.cells rb mb).toArray,.int .i16 j,vI s] w λe w'=>e=bG 2/\aa af w w':=by
 have HW:ah (∀w',fS prog 282 #[fY #[vI v.so,vU v.bits,ia (v.aD.map λr=>⟨rb.getD r 0,0,eL⟩),ia (v.tab.map λt=>⟨mb.getD t 0,0,eL⟩)],vI 2] w' λe w''=>e=bG 2/\aa af w' w''):=λw'=>DW w' rb mb v 2 tN;show fS _ _ #[fY #[vI v.so,vU v.bits,ia (v.aD.map λr=>⟨rb.getD r 0,0,eL⟩),ia (v.tab.map λt=>⟨mb.getD t 0,0,eL⟩)],_,_] _ _
 clear tN;generalize v.aD.map (λr=>(⟨rb.getD r 0,0,eL⟩:kh))=p2 at *;generalize v.tab.map (λt=>(⟨mb.getD t 0,0,eL⟩:kh))=p3 at *;have HM:ah (aa af w (w.alloc (fL #[vI v.so,vU v.bits,ia p2,ia p3] 130))):=aw;go_in;go_wp2_with fail;refine(HW.o _).mono ?_;rintro e w1 ⟨rfl,m1⟩;exact⟨rfl,rfl,HM.o.trans m1⟩
theorem Na(w:tW)(rb mb:tLN)(v:MV)(j:Int)(s t:Nat)(hR:∀w',aa af w w'->fS prog 286 #[fY (v.cells rb mb).toArray,.int .i16 j,vI s] w' λe w''=>e=bG t/\aa af w' w''):fS prog 234 #[fY (v.cells rb mb).toArray,.int .i16 j,vI s] w λe w'=>e=bG t/\aa af w w':=by
 have HRC:ah (∀w',aa af w w'->fS prog 286 #[fY #[vI v.so,vU v.bits,ia (v.aD.map λr=>⟨rb.getD r 0,0,eL⟩),ia (v.tab.map λt=>⟨mb.getD t 0,0,eL⟩)],.int .i16 j,vI s] w' λe w''=>e=bG t/\aa af w' w''):=hR;show fS _ _ #[fY #[vI v.so,vU v.bits,ia (v.aD.map λr=>⟨rb.getD r 0,0,eL⟩),ia (v.tab.map λt=>⟨mb.getD t 0,0,eL⟩)],_,_] _ _
 clear hR;generalize v.aD.map (λr=>(⟨rb.getD r 0,0,eL⟩:kh))=p2 at *;generalize v.tab.map (λt=>(⟨mb.getD t 0,0,eL⟩:kh))=p3 at *;go_in;go_upto_region 2 with fail;have bP:ah (aa af w ((w.alloc (fL #[vI v.so,vU v.bits,ia p2,ia p3] 130)).alloc (fL #[vI 0,vU 0,vO,vO] 130))):=aw.alloc _;have HB2:ah (au ((w.alloc (fL #[vI v.so,vU v.bits,ia p2,ia p3] 130)).alloc (fL #[vI 0,vU 0,vO,vO] 130)) w.heap.size #[vI v.so,vU v.bits,ia p2,ia p3] 130):=(au.new _ _ _).alloc _;generalize(w.alloc (fL #[vI v.so,vU v.bits,ia p2,ia p3] 130)).alloc (fL #[vI 0,vU 0,vO,vO] 130)=W2 at *;have z0:=HB2.o.c0;have z1:=HB2.o.c1;have z2:=HB2.o.c2;have z3:=HB2.o.c3;go_wp2_with fail;refine(HRC.o _ bP.o).mono ?_;rintro e w3 ⟨rfl,m3⟩;exact⟨rfl,rfl,bP.o.trans m3⟩
theorem pH.put{w w':tW}{rb:tLN}{vs:tLV}{gs:List tLN}(h:pH w rb vs gs)(q:Nat)(hq:q<eJ gs)(g n cap:Nat)(hv:vs.getD q kO=eS (eK ⟨g,0,eL⟩) n cap)(l:tLN)(hl:eJ l=n)(hn:n=eJ (gs.getD q []))(m:aa (Only g) w w')(hs:mD w' (eS (eK ⟨g,0,eL⟩) n cap) n l):pH w' rb vs (gs.set q l):=by
 have hsq:=h.sl q hq;rw[hv]at hsq;refine⟨by rw[ab];exact h.lr,by rw[ab];exact h.lv,λi hi=>?_,λi hi=>?_,λi k hi hk e=>?_,λi k b hi hk e e'=>?_⟩
 all_goals rw[ab]at *
 ·exact(h.blk i hi).ai m (λe=>hsq.aA (h.blk i hi) (by decide) (by rw[show rb.getD i 0=g from e];rfl))
 ·rw[qp _ _ _ _ _ hq];by_cases hh:i=q
  ·subst hh;rw[iP9 rfl,hv,hl];exact hs
  ·rw[iN9 hh];exact(h.sl i hi).ai m (λk hk e=>hh (h.Kq i q k hi hq hk (by rw[hv,show k=g from e];rfl)))
 ·exact h.inj i k hi hk e
 ·exact h.Kq i k b hi hk e e'
def aZ(gs:List tLN)(v:MV)(j:Int)(s:Nat):Nat:=if v.so≠2 then 2 else if lq v j+s<=eJ (gs.getD (v.aD.getD 0) []) then 0 else 3
def BD(gs:List tLN)(v:MV)(j:Int)(s:Nat):Nat:=leN (((gs.getD (v.aD.getD 0) []).drop (lq v j)).take s)
def storeT(gs:List tLN)(v:MV)(j:Int)(s:Nat)(x:MV):Nat:=if x.so≠0 then 2 else aZ gs v j s
def acb(gs:List tLN)(v:MV)(j:Int)(s:Nat)(x:MV):List tLN:=gs.set (v.aD.getD 0) (putB (gs.getD (v.aD.getD 0) []) (lq v j) x.bits s)
def MV.Pt(v:MV)(n:Nat):Prop:=v.so=2->∃q,v.aD=eK q/\q<n
def yC(gs:List tLN):Prop:=∀g∈gs,eJ g<=1000/\∀b∈g,b<256
section
variable {w : World} {rb mb : List Nat} {vs : List fa} {gs : List (List Nat)}
theorem pH.view(h:pH w rb vs gs)(q:Nat)(hq:q<eJ gs):∃o cap,vs.getD q kO=eS o (eJ (gs.getD q [])) cap/\(0<eJ (gs.getD q [])->∃g,o=eK ⟨g,0,eL⟩/\(gs.getD q []).length<=cap):=(h.sl q hq).view
theorem yC.at(h:yC gs)(q:Nat)(hq:q<eJ gs):eJ (gs.getD q [])<=1000/\∀b∈gs.getD q [],b<256:=by rw[List.getD_eq_getElem?_getD,List.getElem?_eq_getElem hq];exact h _ (List.getElem_mem _)
theorem Ku(h:pH w rb vs gs)(hg:yC gs)(v:MV)(hv:v.Pt (eJ gs))(j:Int)(s:Nat)(hs:0<s/\s<=16)(hT:aZ gs v j s≠0):∀w',aa af w w'->fS prog 286 #[fY (v.cells rb mb).toArray,.int .i16 j,vI s] w' λe w''=>e=bG (aZ gs v j s)/\aa af w' w'':=by
 intro w' m;unfold aZ at hT ⊢;by_cases tN:v.so=2
 ·rw[iN9 (by simp[tN])]at hT ⊢;obtain⟨q,hr,hq⟩:=hv tN;rw[hr,cx]at hT ⊢;by_cases hok:lq v j+s<=eJ (gs.getD q [])
  ·rw[iP9 hok]at hT;exact absurd rfl hT
  ·rw[iN9 hok];obtain⟨o,cap,e,_⟩:=h.view q hq;have hb:=(h.blk q hq).ai m id;rw[e]at hb;exact WH w' rb mb v q hr tN o _ cap hb (hg.at q hq).1 j s hs hok
 ·rw[iP9 tN];exact Sd w' rb mb v tN j s
theorem aaq(h:pH w rb vs gs)(hg:yC gs)(v:MV)(hv:v.Pt (eJ gs))(j:Int)(s:Nat)(hs:0<s/\s<=8):fS prog 234 #[fY (v.cells rb mb).toArray,.int .i16 j,vI s] w λe w'=>e=(if aZ gs v j s=0 then fW (fY ((dI (BD gs v j s)).cells rb mb).toArray)else bG (aZ gs v j s))/\aa af w w':=by
 by_cases hT:aZ gs v j s=0
 ·rw[iP9 hT];unfold aZ at hT;by_cases tN:v.so=2
  ·rw[iN9 (by simp[tN])]at hT;obtain⟨q,hr,hq⟩:=hv tN;rw[hr,cx]at hT;by_cases hok:lq v j+s<=eJ (gs.getD q [])
   ·obtain⟨o,cap,e,hb⟩:=h.view q hq;obtain⟨g,rfl,hc⟩:=hb (by omega);have hB:=h.blk q hq;have hS:=h.sl q hq;rw[e]at hB hS;unfold BD;rw[hr,cx];exact Sc w rb mb v q hr tN g _ cap hB _ rfl (hg.at q hq).2 hS (hg.at q hq).1 hc j s hs hok
   ·rw[iN9 hok]at hT;cases hT
  ·rw[iP9 tN]at hT;cases hT
 ·rw[iN9 hT];exact Na w rb mb v j s _ (Ku h hg v hv j s ⟨hs.1,by omega⟩ hT)
end
theorem WJ(w:tW)(rb mb:tLN)(v:MV):fS prog 275 #[fY (v.cells rb mb).toArray] w λe w'=>e=fW (jl #[vU v.bits,fX (decide (v.so=2))])/\aa af w w':=by
 show fS _ _ #[fY #[vI v.so,vU v.bits,ia (v.aD.map λr=>⟨rb.getD r 0,0,eL⟩),ia (v.tab.map λt=>⟨mb.getD t 0,0,eL⟩)]] _ _
 have HD:ah (((v.so:Int)==2)=decide (v.so=2)):=by unfold ah;rw[Bool.eq_iff_iff];simp;omega
 generalize v.aD.map (λr=>(⟨rb.getD r 0,0,eL⟩:kh))=p2 at *;generalize v.tab.map (λt=>(⟨mb.getD t 0,0,eL⟩:kh))=p3 at *;have HM:ah (aa af w (w.alloc (fL #[vI v.so,vU v.bits,ia p2,ia p3] 130))):=aw;have HB:=aq (au.new w #[vI v.so,vU v.bits,ia p2,ia p3] 130);go_in;go_upto_region 1 with fail;generalize w.alloc (fL #[vI v.so,vU v.bits,ia p2,ia p3] 130)=W1 at *;have z0:=HB.o.c0;have z1:=HB.o.c1;clear HB;go_quiet (fail);have bP:=aq (HM.o.drewN nq);clear z0 z1;generalize W1.drewN nq=W2 at *;rw[HD.o];go_wp2_with fail;go_ret2;exact⟨rfl,bP.o⟩
theorem aar(w:tW)(rb mb:tLN)(v:MV)(n:Nat):fS prog 276 #[fY (v.cells rb mb).toArray,vU n] w λe w'=>e=fW (fY (({v with bits:=n}:MV).cells rb mb).toArray)/\aa af w w':=by
 show fS _ _ #[fY #[vI v.so,vU v.bits,ia (v.aD.map λr=>⟨rb.getD r 0,0,eL⟩),ia (v.tab.map λt=>⟨mb.getD t 0,0,eL⟩)],_] _ λe w'=>e=fW (fY #[vI v.so,vU n,ia (v.aD.map λr=>⟨rb.getD r 0,0,eL⟩),ia (v.tab.map λt=>⟨mb.getD t 0,0,eL⟩)])/\_
 generalize v.aD.map (λr=>(⟨rb.getD r 0,0,eL⟩:kh))=p2 at *;generalize v.tab.map (λt=>(⟨mb.getD t 0,0,eL⟩:kh))=p3 at *;go_in;have HM:ah (aa af w ((w.alloc (fL #[vI v.so,vU n,ia p2,ia p3] 130)).alloc (fL #[vI v.so,vU n,ia p2,ia p3] 130))):=aw.alloc _
 have HB:ah (au ((w.alloc (fL #[vI v.so,vU n,ia p2,ia p3] 130)).alloc (fL #[vI v.so,vU n,ia p2,ia p3] 130)) (w.heap.size+1) #[vI v.so,vU n,ia p2,ia p3] 130):=by
  have:=au.new (w.alloc (fL #[vI v.so,vU n,ia p2,ia p3] 130)) #[vI v.so,vU n,ia p2,ia p3] 130
  rwa [World.size_alloc]at this
 go_wp2_with fail;exact kx (mL results276 _ _ (w.heap.size+1) 130 _ (0,0) _ rfl HB.o underlying130 rfl (by kernel_rfl)) rfl ⟨rfl,HM.o⟩
def WL(l:tLN):tLV:=l.map λ(n:Nat)=>Value.int .u64 n
def aJ.logged(r:aJ)(n:Nat):aJ:=aJ.answer {r with log:=r.log++[n]} (dI 0)
def fw(s:tBA):tLN:=s.data.toList.map (·.toNat)
def gN(s:tBA):tBA:=s.extract 0 (min s.size 32)
theorem DZ(w:tW)(inp:tBA)(hi:inp.size<=1000):∃cap W1,(convert 9 30 (.string inp)).run prog w=.ok (eS (eK ⟨w.heap.size,0,eL⟩) inp.size cap) W1/\aa af w W1/\mD W1 (eS (eK ⟨w.heap.size,0,eL⟩) inp.size cap) inp.size (fw inp)/\W1.heap.size=w.heap.size+1:=by
 have hc:=run_bytes_of_string (P:=prog) w 9 30 5 inp underlying9 underlying30 underlying5;have h1:=grownCap_ge w inp.size 0 5;have h2:=grownCap_le_maxLen w inp.size 0 5 (by unfold jz;omega);refine⟨_,_,hc,((aa.refl af w).drew).alloc _,⟨?_,.inr ⟨w.heap.size,pS w inp.size 0 5,vu inp (pS w inp.size 0 5),(vu inp (pS w inp.size 0 5)).size,(vu inp (pS w inp.size 0 5)).size+1,rfl,?_,h1,h2,.inr ?_,?_⟩⟩,?_⟩
 ·unfold fw;rw[cG];rfl
 ·exact heap_alloc_new w.drew _
 ·unfold vu;rw[Array.size_append,Array.size_map];exact Nat.le_add_right _ _
 ·unfold vu xJ fw;rw[Array.toList_append,Array.toList_map,List.take_append_of_le_length (by rw[cG];exact cI _),bt (by rw[cG];exact cI _),List.map_map];rfl
 ·rw[World.size_alloc];rfl
