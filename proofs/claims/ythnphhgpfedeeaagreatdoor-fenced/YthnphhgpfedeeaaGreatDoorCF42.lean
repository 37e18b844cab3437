import Derived.Test.YthnphhgpfedeeaaGreatDoorCF41
namespace Go.Proofs.YthnphhgpfedeeaaGreatDoor
open Go.RowKit Tryz
open _root_.Array renaming toList_setIfInBounds->bj
open List renaming length_set->ab,flatMap_cons->al,length_append->ao,length_cons->ar,length_nil->aE,append_assoc->bq,set_append_right->bt,set_append_left->bO
open Nat renaming add_assoc->an,le_refl->bh
open Option renaming map_some->ba,map_none->bQ
set_option linter.all false
set_option maxRecDepth 100000
set_option maxHeartbeats 1000000
theorem MV.Fy(rb mb:List Nat)(f:ja)(h:f.regs.length=11)(n c:Nat)(hn:n<11)(hc:c<4):(f.cells rb mb)[3+n*4+c]?=((f.regs.getD n {}).cells rb mb)[c]?:=by
 unfold ja.cells;rw[bq,List.getElem?_append_right (by simp;omega),List.getElem?_append_left (by rw[jA];simp;omega)];have:=kr (MV.cells rb mb) 4 f.regs (λx _=>rfl) n c (by omega) hc;simp only[ar,aE];have hl:n<f.regs.length:=by omega
 rw[show 3+n*4+c-(0+1+1+1)=n*4+c by omega,this,List.getD_eq_getElem?_getD,List.getElem?_eq_getElem hl];rfl
theorem fD(w:tW)(b:Nat)(rb mb:List Nat)(vM vC vL:Value)(r:aC)(h:aB w b rb mb vM vC vL r)(hp:0<r.calls.length)(n:Nat)(hn:n<11):Calls prog 205 #[.pointer (some ⟨b,0,none⟩),.int .u8 n] w λe w'=>e=.returned (.agg ((r.aD n).cells rb mb).toArray)/\aa ae w w':=by
 obtain⟨g,cap,rfl,_,h11,hc⟩:=h.view hp;have HR:af (∀w',aa ae w w'->aB w' b rb mb vM (.slice (some ⟨g,0,none⟩) r.calls.length cap) vL r):=λw' m=>h.quiet m;have HT:af (∀w',aa ae w w'->Calls prog 95 #[.pointer (some ⟨b,0,none⟩)] w' λe w''=>e=.returned (.pointer (some ⟨g,(r.calls.length-1)*48,none⟩))/\aa ae w' w''):=λw' m=>Mq w' b rb mb vM vL g cap r (h.quiet m) hp;have HC:af (∀w',aa ae w w'->∀c,c<4->w'.cell? ⟨g,(r.calls.length-1)*48+3+n*4+c,none⟩=((r.aD n).cells rb mb)[c]?):=λw' m c hc4=>by obtain⟨g',cap',e,_,_,hc'⟩:=(h.quiet m).view hp;cases e;have:=hc' (3+n*4+c) (by omega);rw[MV.Fy rb mb _ h11 n c hn hc4]at this;rw[<-an,<-an]at this;exact this
 clear h hc;generalize r.aD n=v at *;generalize(r.calls.length-1)*48=K at *;have HB:af (ak (w.alloc (.cells #[.int .i64 0,.int .u64 0,.pointer none,.pointer none] 130)) w.heap.size #[.int .i64 0,.int .u64 0,.pointer none,.pointer none] 130):=ak.new _ _ _;have HM:af (aa ae w (w.alloc (.cells #[.int .i64 0,.int .u64 0,.pointer none,.pointer none] 130))):=aj;go_enter func205,ntmps205;go_wp2_with fail;refine(HT.o _ HM.o).mono ?_;rintro e w1 ⟨rfl,m1⟩;have dh:=ai (HM.o.trans m1);have hB1:=HB.o.ag m1 id;have y0:w1.cell? ⟨g,K+3+n*4,none⟩=some (.int .i64 v.so):=HC.o w1 dh.o 0 (by omega);have y1:w1.cell? ⟨g,K+3+n*4+1,none⟩=some (.int .u64 v.bits):=HC.o w1 dh.o 1 (by omega);have y2:w1.cell? ⟨g,K+3+n*4+2,none⟩=some (.pointer (v.aD.map λr=>⟨rb.getD r 0,0,none⟩)):=HC.o w1 dh.o 2 (by omega);have y3:w1.cell? ⟨g,K+3+n*4+3,none⟩=some (.pointer (v.tab.map λt=>⟨mb.getD t 0,0,none⟩)):=HC.o w1 dh.o 3 (by omega);have z0:=hB1.cell 0;have z1:=hB1.cell 1;have z2:=hB1.cell 2;have z3:=hB1.cell 3;have zf:=hB1.frozen;have HB1:=ai hB1;have HV:af ((v.cells rb mb).toArray=#[.int .i64 v.so,.int .u64 v.bits,.pointer (v.aD.map λr=>⟨rb.getD r 0,0,none⟩),.pointer (v.tab.map λt=>⟨mb.getD t 0,0,none⟩)]):=rfl;clear hB1 m1 HB HM HC HT HR;generalize v.aD.map (λr=>(⟨rb.getD r 0,0,none⟩:Addr))=p2 at *;generalize v.tab.map (λt=>(⟨mb.getD t 0,0,none⟩:Addr))=p3 at *;go_wp2_with fail;refine bodyPost_ret (results_cell_row results205 _ _ w.heap.size 130 _ (0,0) _ rfl ((((HB1.o.set 0 _).set 1 _).set 2 _).set 3 _) underlying130 rfl (by kernel_rfl)) rfl ⟨by rw[HV.o];rfl,?_⟩;exact(((dh.o.set (a:=⟨w.heap.size,0,none⟩) (Or.inr (bh _)) _).set (a:=⟨w.heap.size,1,none⟩) (Or.inr (bh _)) _).set (a:=⟨w.heap.size,2,none⟩) (Or.inr (bh _)) _).set (a:=⟨w.heap.size,3,none⟩) (Or.inr (bh _)) _
theorem BR{α:Type}(enc:α->List Value)(k:Nat)(u:Value)(x':α)(j:Nat)(hj:j<k):∀(l:List α),(∀x∈l,(enc x).length=k)->∀(i:Nat) (hi:i<l.length),enc x'=(enc l[i]).set j u->(l.flatMap enc).set (i*k+j) u=(l.set i x').flatMap enc
 |x::l,h,0,_,he=>by rw[List.set_cons_zero,al,al,bO _ _ (by rw[h x (by simp)];omega),he];simp
 |x::l,h,i+1,hi,he=>by have hx:=h x (by simp);rw[List.set_cons_succ,al,al,bt _ _ (by rw[hx,Nat.add_mul];omega),hx,show(i+1)*k+j-k=i*k+j by rw[Nat.add_mul];omega];rw[BR enc k u x' j hj l (λy hy=>h y (by simp[hy])) i (by simpa using hi) he]
theorem Sl.aev{w:tW}{e:TypeId}{size:Nat}{g n cap:Nat}{xs:List Value}(h:Sl w e size (.slice (some ⟨g,0,none⟩) n cap) n xs)(j:Nat)(u:Value):Sl (w.setCell ⟨g,j,none⟩ u) e size (.slice (some ⟨g,0,none⟩) n cap) n (xs.set j u):=by
 refine⟨by rw[ab];exact h.1,?_⟩;rcases h.2 with⟨h',_⟩ |⟨g',cap',cur,h',h0,hg,hn,hm,hs,ht⟩
 ·cases h'
 ·cases h';refine .inr ⟨g,cap,cur.setIfInBounds j u,rfl,h0,ak.set (t:=e) hg j u,hn,hm,by simpa using hs,?_⟩;rw[bj,<-ht,List.take_set]
theorem aC.vW(r:aC)(hp:0<r.calls.length):r.top=r.calls[r.calls.length-1]:=by unfold aC.top;rw[List.getD_eq_getElem?_getD,List.getElem?_eq_getElem (by omega)];rfl
theorem aC.oN(r:aC)(hp:0<r.calls.length)(f:ja):(r.dQ f).top=f:=by unfold aC.top aC.dQ;rw[List.getD_eq_getElem?_getD,ab,List.getElem?_set_self (by omega)];rfl
theorem aC.IB(r:aC)(f f':ja):(r.dQ f).dQ f'=r.dQ f':=by unfold aC.dQ;simp only[ab,List.set_set]
theorem aC.jg(r:aC)(f:ja):(r.dQ f).calls.length=r.calls.length:=ab
section
variable {w w' : World} {b g cap : Nat} {rb mb : List Nat} {vM vC vL : Value} {r : aC}
theorem aB.ne(h:aB w b rb mb vM (.slice (some ⟨g,0,none⟩) r.calls.length cap) vL r):b≠g:=λe=>(h.calls.au h.blk (by decide)) (by rw[e];rfl)
theorem aB.aaN(h:aB w b rb mb vM (.slice (some ⟨g,0,none⟩) r.calls.length cap) vL r)(hp:0<r.calls.length)(f:ja)(hf:f.regs.length=11)(j:Nat)(hj:j<48)(u:Value)(he:f.cells rb mb=(r.top.cells rb mb).set j u):aB (w.setCell ⟨g,(r.calls.length-1)*48+j,none⟩ u) b rb mb vM (.slice (some ⟨g,0,none⟩) (r.dQ f).calls.length cap) vL (r.dQ f):=by
 refine⟨by rw[aC.jg];exact h.blk.setOther (Ne.symm h.ne) u,?_,?_,?_⟩
 ·rw[aC.jg];have:=h.calls.aev ((r.calls.length-1)*48+j) u;rw[BR (ja.cells rb mb) 48 u f j hj r.calls (λf hf=>ja.jP rb mb f (h.regs f hf)) (r.calls.length-1) (by omega) (by rw[he,aC.vW r hp])]at this;exact this
 ·intro x hx;rcases List.mem_or_eq_of_mem_set hx with hx|rfl
  ·exact h.regs x hx
  ·exact hf
 ·rw[aC.jg];exact h.depth
theorem aB.kit(h:aB w b rb mb vM vC vL r)(hp:0<r.calls.length):∃g cap K,vC=.slice (some ⟨g,0,none⟩) r.calls.length cap/\b≠g/\g<w.heap.size /\ (∀w' xY r',aB w' b rb mb vM vC xY r'->r'.calls.length=r.calls.length->Calls prog 95 #[.pointer (some ⟨b,0,none⟩)] w' λe w''=>e=.returned (.pointer (some ⟨g,K,none⟩))/\aa ae w' w'') /\ (∀w' xY r',aB w' b rb mb vM vC xY r'->r'.calls.length=r.calls.length->∀j,j<48->w'.cell? ⟨g,K+j,none⟩=(r'.top.cells rb mb)[j]?) /\ (∀w' xY r',aB w' b rb mb vM vC xY r'->r'.calls.length=r.calls.length->∀j,w'.frozen? ⟨g,j,none⟩=false) /\ (∀w' xY r',aB w' b rb mb vM vC xY r'->r'.calls.length=r.calls.length->r'.top.regs.length=11) /\ (∀w' xY r',aB w' b rb mb vM vC xY r'->r'.calls.length=r.calls.length->∀f:ja,f.regs.length=11->∀j,j<48->∀u,f.cells rb mb=(r'.top.cells rb mb).set j u->aB (w'.setCell ⟨g,K+j,none⟩ u) b rb mb vM vC xY (r'.dQ f)):=by
 obtain⟨g,cap,rfl,_,_,_⟩:=h.view hp;refine⟨g,cap,(r.calls.length-1)*48,rfl,h.ne,h.calls.lt g rfl,?_,?_,?_,?_,?_⟩
 ·intro w' xY r' h' e;have:=h';rw[<-e]at this ⊢;exact Mq w' b rb mb vM xY g cap r' this (by omega)
 ·intro w' xY r' h' e j hj;obtain⟨g',cap',e',_,_,hc'⟩:=h'.view (by omega);injection e' with e1 _ _;injection e1 with e1;injection e1 with e1;subst e1;rw[<-e];exact hc' j hj
 ·intro w' xY r' h' e;have:=h'.calls;rw[<-e]at this;obtain⟨o,c,hv,hb⟩:=this.view;injection hv with h1 h2 h3;obtain⟨g',cs,hg,hb,_⟩:=hb (by omega);rw[<-h1]at hg;cases hg;exact hb.frozen
 ·intro w' xY r' h' e;exact h'.regs _ (h'.view (by omega)).choose_spec.choose_spec.2.1
 ·intro w' xY r' h' e f hf j hj u he;have:=h';rw[<-e]at this;have:=this.aaN (by omega) f hf j hj u he;rw[aC.jg,e]at this;exact this
end
def Own(v:Value):Nat->Prop:=λk=>v.ownBlock=some k
theorem aa.own{w w':tW}(m:aa ae w w')(v:Value):aa (Own v) w w':=m.mono (λ_ _ h=>h.elim)
theorem aa.ma{w w':tW}{g n cap:Nat}(m:aa (Own (.slice (some ⟨g,0,none⟩) n cap)) w w')(j:Nat)(u:Value):aa (Own (.slice (some ⟨g,0,none⟩) n cap)) w (w'.setCell ⟨g,j,none⟩ u):=m.set (a:=⟨g,j,none⟩) (.inl rfl) u
theorem UA(rb mb:List Nat)(l:List MV)(n c:Nat)(v:MV)(u:Value)(hn:n<l.length)(hc:c<4)(he:v.cells rb mb=((l.getD n {}).cells rb mb).set c u):(l.set n v).flatMap (MV.cells rb mb)=(l.flatMap (MV.cells rb mb)).set (n*4+c) u:=by rw[BR (MV.cells rb mb) 4 u v c hc l (λ_ _=>rfl) n hn (by rw[he,List.getD_eq_getElem?_getD,List.getElem?_eq_getElem hn];rfl)]
theorem ja.Qm(rb mb:List Nat)(f:ja)(n c:Nat)(v:MV)(u:Value)(hn:n<f.regs.length)(hc:c<4)(he:v.cells rb mb=((f.regs.getD n {}).cells rb mb).set c u):({f with regs:=f.regs.set n v}:ja).cells rb mb=(f.cells rb mb).set (3+n*4+c) u:=by
 have hl:n*4+c<(f.regs.flatMap (MV.cells rb mb)).length:=by rw[jA];omega
 unfold ja.cells;rw[UA rb mb f.regs n c v u hn hc he,bq,bq,bt _ _ (by simp;omega),bO _ _ (by simp only[ar,aE];omega)];simp only[ar,aE];rw[show 3+n*4+c-(0+1+1+1)=n*4+c by omega]
theorem aC.yT(r:aC)(hp:0<r.calls.length)(n:Nat)(v v':MV):(r.eY n v).eY n v'=r.eY n v':=by unfold aC.eY;rw[aC.oN r hp,aC.IB];simp only[List.set_set]
theorem aC.UB(r:aC)(hp:0<r.calls.length)(n:Nat)(v:MV)(hn:n<r.top.regs.length):(r.eY n v).aD n=v:=by unfold aC.eY aC.aD;rw[aC.oN r hp];simp only[List.getD_eq_getElem?_getD];rw[List.getElem?_set_self hn];rfl
theorem aC.gj(r:aC)(n:Nat)(v:MV):(r.eY n v).calls.length=r.calls.length:=aC.jg _ _
theorem aB.UC{b g K:Nat}{rb mb:List Nat}{vM vC:Value}{N:Nat}(hp:0<N)(hR:∀w' xY r',aB w' b rb mb vM vC xY r'->r'.calls.length=N->r'.top.regs.length=11)(hS:∀w' xY r',aB w' b rb mb vM vC xY r'->r'.calls.length=N->∀f:ja,f.regs.length=11->∀j,j<48->∀u,f.cells rb mb=(r'.top.cells rb mb).set j u->aB (w'.setCell ⟨g,K+j,none⟩ u) b rb mb vM vC xY (r'.dQ f))(w:tW) (vL:Value) (r:aC) (h:aB w b rb mb vM vC vL r) (hN:r.calls.length=N) (n:Nat) (hn:n<11) (v:MV):aB ((((w.setCell ⟨g,K+3+n*4,none⟩ (.int .i64 v.so)).setCell ⟨g,K+3+n*4+1,none⟩ (.int .u64 v.bits)).setCell ⟨g,K+3+n*4+2,none⟩ (.pointer (v.aD.map λr=>⟨rb.getD r 0,0,none⟩))).setCell ⟨g,K+3+n*4+3,none⟩ (.pointer (v.tab.map λt=>⟨mb.getD t 0,0,none⟩))) b rb mb vM vC vL (r.eY n v):=by
 have st:∀w' r',aB w' b rb mb vM vC vL r'->r'.calls.length=N->∀c,c<4->∀(v:MV) u,v.cells rb mb=((r'.aD n).cells rb mb).set c u->aB (w'.setCell ⟨g,K+3+n*4+c,none⟩ u) b rb mb vM vC vL (r'.eY n v):=by intro w' r' h' e c hc v u he;have h11:=hR w' vL r' h' e;have:=hS w' vL r' h' e {r'.top with regs:=r'.top.regs.set n v} (by rw[ab];exact h11) (3+n*4+c) (by omega) u (ja.Qm rb mb r'.top n c v u (by omega) hc he);rw[<-an,<-an]at this;exact this
 have h11:=hR w vL r h hN;have hp':0<r.calls.length:=by omega
 have q (v:MV):(r.eY n v).aD n=v:=aC.UB r hp' n v (by omega);have l (v:MV):(r.eY n v).calls.length=N:=(aC.gj r n v).trans hN;have s1:=st w r h hN 0 (by omega) {r.aD n with so:=v.so} (.int .i64 v.so) rfl;have s2:=st _ _ s1 (l _) 1 (by omega) {r.aD n with so:=v.so,bits:=v.bits} (.int .u64 v.bits) (by rw[q];rfl);rw[aC.yT r hp']at s2;have s3:=st _ _ s2 (l _) 2 (by omega) {r.aD n with so:=v.so,bits:=v.bits,aD:=v.aD} (.pointer (v.aD.map λr=>⟨rb.getD r 0,0,none⟩)) (by rw[q];rfl);rw[aC.yT r hp']at s3;have s4:=st _ _ s3 (l _) 3 (by omega) v (.pointer (v.tab.map λt=>⟨mb.getD t 0,0,none⟩)) (by rw[q];rfl);rw[aC.yT r hp']at s4;exact s4
def aC.fQ(r:aC)(n:Nat):aC:=r.dQ {r.top with next:=n}
def aC.gx(r:aC):aC:=r.dQ {r.top with slot:=r.top.next}
theorem Qn(w:tW)(b:Nat)(rb mb:List Nat)(vM vC vL:Value)(r:aC)(h:aB w b rb mb vM vC vL r):Calls prog 58 #[.pointer (some ⟨b,0,none⟩)] w λe w'=>e=.returned (.bool r.ended)/\aa ae w w':=by have x7:w.cell? ⟨b,7,none⟩=some (.bool r.ended):=h.blk.cell 7;clear h;go_enter func58,ntmps58;go_wp2_with fail;go_ret;exact⟨rfl,ax⟩
theorem ja.KY(rb mb:List Nat)(f:ja)(n:Nat):({f with slot:=n}:ja).cells rb mb=(f.cells rb mb).set 1 (.int .i64 n):=rfl
theorem ja.BU(rb mb:List Nat)(f:ja)(n:Nat):({f with next:=n}:ja).cells rb mb=(f.cells rb mb).set 2 (.int .i64 n):=rfl
theorem vX(w:tW)(b:Nat)(rb mb:List Nat)(vM vC vL:Value)(r:aC)(h:aB w b rb mb vM vC vL r)(hp:0<r.calls.length):Calls prog 57 #[.pointer (some ⟨b,0,none⟩)] w λe w'=>e=.returned (.tuple #[.int .i64 r.top.fn,.int .i64 r.top.slot])/\aa ae w w':=by
 obtain⟨g,cap,K,_,_,_,hT,hC,_⟩:=h.kit hp;have HC:af (∀w',aa ae w w'->w'.cell? ⟨g,K,none⟩=some (.int .i64 r.top.fn)/\w'.cell? ⟨g,K+1,none⟩=some (.int .i64 r.top.slot)):=λw' m=>⟨hC w' vL r (h.quiet m) rfl 0 (by omega),hC w' vL r (h.quiet m) rfl 1 (by omega)⟩
 have HT:=hT w vL r h rfl;clear h hC hT;go_enter func57,ntmps57;go_wp2_with fail;refine HT.mono ?_;rintro e w1 ⟨rfl,m1⟩;have dh:=ai m1;obtain⟨y0,y1⟩:=HC.o w1 m1;clear HC HT m1;go_wp2_with fail;go_quiet (fail);have dD:=ai (dh.o.drewN nq);clear y0 y1 dh;generalize w1.drewN nq=w2 at *;go_wp2_with fail;go_ret2;exact⟨rfl,dD.o⟩
theorem UD(w:tW)(b:Nat)(rb mb:List Nat)(vM vC vL:Value)(r:aC)(h:aB w b rb mb vM vC vL r)(hp:0<r.calls.length):Calls prog 60 #[.pointer (some ⟨b,0,none⟩)] w λe w'=>e=.returned (.tuple #[])/\aB w' b rb mb vM vC vL r.gx/\aa (Own vC) w w':=by
 obtain⟨g,cap,K,rfl,_,_,hT,hC,hF,hR,hS⟩:=h.kit hp;have HT:=hT w vL r h rfl
 have HC:af (∀w',aa ae w w'->aB (w'.setCell ⟨g,K+1,none⟩ (.int .i64 r.top.next)) b rb mb vM (.slice (some ⟨g,0,none⟩) r.calls.length cap) vL r.gx/\w'.cell? ⟨g,K+1,none⟩=some (.int .i64 r.top.slot)/\w'.cell? ⟨g,K+2,none⟩=some (.int .i64 r.top.next)/\∀j,w'.frozen? ⟨g,j,none⟩=false):=λw' m =>
  ⟨hS w' vL r (h.quiet m) rfl {r.top with slot:=r.top.next} (hR w' vL r (h.quiet m) rfl) 1 (by omega) _ (ja.KY rb mb _ _),hC w' vL r (h.quiet m) rfl 1 (by omega),hC w' vL r (h.quiet m) rfl 2 (by omega),hF w' vL r (h.quiet m) rfl⟩
 clear h hT hC hF hR hS;go_enter func60,ntmps60;go_wp2_with fail;refine HT.mono ?_;rintro e w1 ⟨rfl,m1⟩;have dh:=ai m1;obtain⟨hr,y0,y1,yf⟩:=HC.o w1 m1;have HR:=ai hr;clear HC HT m1 hr;go_wp2_with fail;go_end0;exact⟨rfl,HR.o,(dh.o.own _).ma (K+1) _⟩
theorem Qo(w:tW)(b:Nat)(rb mb:List Nat)(vM vC vL:Value)(r:aC)(h:aB w b rb mb vM vC vL r)(hp:0<r.calls.length)(n:Nat):Calls prog 215 #[.pointer (some ⟨b,0,none⟩),.int .i64 n] w λe w'=>e=.returned (.tuple #[])/\aB w' b rb mb vM vC vL (r.fQ n)/\aa (Own vC) w w':=by
 obtain⟨g,cap,K,rfl,_,_,hT,hC,hF,hR,hS⟩:=h.kit hp;have HT:=hT w vL r h rfl
 have HC:af (∀w',aa ae w w'->aB (w'.setCell ⟨g,K+2,none⟩ (.int .i64 n)) b rb mb vM (.slice (some ⟨g,0,none⟩) r.calls.length cap) vL (r.fQ n)/\w'.cell? ⟨g,K+2,none⟩=some (.int .i64 r.top.next)/\∀j,w'.frozen? ⟨g,j,none⟩=false):=λw' m =>
  ⟨hS w' vL r (h.quiet m) rfl {r.top with next:=n} (hR w' vL r (h.quiet m) rfl) 2 (by omega) _ (ja.BU rb mb _ _),hC w' vL r (h.quiet m) rfl 2 (by omega),hF w' vL r (h.quiet m) rfl⟩
 clear h hT hC hF hR hS;go_enter func215,ntmps215;go_wp2_with fail;refine HT.mono ?_;rintro e w1 ⟨rfl,m1⟩;have dh:=ai m1;obtain⟨hr,y1,yf⟩:=HC.o w1 m1;have HR:=ai hr;clear HC HT m1 hr;go_wp2_with fail;go_end0;exact⟨rfl,HR.o,(dh.o.own _).ma (K+2) _⟩
def aC.begin(r:aC)(n:Nat):aC:=aC.fQ {r with used:=r.used+1} (r.top.slot+n)
theorem xM(w:tW)(b:Nat)(rb mb:List Nat)(vM vC vL:Value)(r:aC)(h:aB w b rb mb vM vC vL r)(hp:0<r.calls.length)(n:Nat)(hn:n<11)(v:MV):Calls prog 54 #[.pointer (some ⟨b,0,none⟩),.int .u8 n,.agg (v.cells rb mb).toArray] w λe w'=>e=.returned (.tuple #[])/\aB w' b rb mb vM vC vL (r.eY n v)/\aa (Own vC) w w':=by
 obtain⟨g,cap,K,rfl,_,_,hT,hC,hF,hR,hS⟩:=h.kit hp;have HT:af (∀w',aa ae w w'->Calls prog 95 #[.pointer (some ⟨b,0,none⟩)] w' λe w''=>e=.returned (.pointer (some ⟨g,K,none⟩))/\aa ae w' w''):=λw' m=>hT w' vL r (h.quiet m) rfl;have HC:af (∀w',aa ae w w'->aB w' b rb mb vM (.slice (some ⟨g,0,none⟩) r.calls.length cap) vL r):=λw' m=>h.quiet m;have HK:af (∀w',aB w' b rb mb vM (.slice (some ⟨g,0,none⟩) r.calls.length cap) vL r->∀c,c<4->w'.cell? ⟨g,K+3+n*4+c,none⟩=((r.aD n).cells rb mb)[c]?):=λw' h' c hc4=>by have:=hC w' vL r h' rfl (3+n*4+c) (by omega);rw[MV.Fy rb mb _ (hR w' vL r h' rfl) n c hn hc4]at this;rw[<-an,<-an]at this;exact this
 have HX:af (∀w',aB w' b rb mb vM (.slice (some ⟨g,0,none⟩) r.calls.length cap) vL r->aB ((((w'.setCell ⟨g,K+3+n*4,none⟩ (.int .i64 v.so)).setCell ⟨g,K+3+n*4+1,none⟩ (.int .u64 v.bits)).setCell ⟨g,K+3+n*4+2,none⟩ (.pointer (v.aD.map λr=>⟨rb.getD r 0,0,none⟩))).setCell ⟨g,K+3+n*4+3,none⟩ (.pointer (v.tab.map λt=>⟨mb.getD t 0,0,none⟩))) b rb mb vM (.slice (some ⟨g,0,none⟩) r.calls.length cap) vL (r.eY n v)):=λw' h'=>aB.UC hp hR hS w' vL r h' rfl n hn v;have HF:af (∀w',aB w' b rb mb vM (.slice (some ⟨g,0,none⟩) r.calls.length cap) vL r->∀j,w'.frozen? ⟨g,j,none⟩=false):=λw' h'=>hF w' vL r h' rfl;clear h hT hC hF hR hS;show Calls _ _ #[_,_,.agg #[.int .i64 v.so,.int .u64 v.bits,.pointer (v.aD.map λr=>⟨rb.getD r 0,0,none⟩),.pointer (v.tab.map λt=>⟨mb.getD t 0,0,none⟩)]] _ _
 generalize r.eY n v=r' at *;generalize r.aD n=v0 at *;generalize v.aD.map (λr=>(⟨rb.getD r 0,0,none⟩:Addr))=p2 at *;generalize v.tab.map (λt=>(⟨mb.getD t 0,0,none⟩:Addr))=p3 at *;have HB:af (∀e:Ext ae (w.alloc (.cells #[.int .i64 v.so,.int .u64 v.bits,.pointer p2,.pointer p3] 130)),ak e.w w.heap.size #[.int .i64 v.so,.int .u64 v.bits,.pointer p2,.pointer p3] 130):=λe=>(ak.new _ _ _).ag e.m id;have x0:∀e:Ext ae (w.alloc (.cells #[.int .i64 v.so,.int .u64 v.bits,.pointer p2,.pointer p3] 130)),e.w.cell? ⟨w.heap.size,0,none⟩=some (.int .i64 v.so):=λe=>(HB.o e).cell 0;have x1:∀e:Ext ae (w.alloc (.cells #[.int .i64 v.so,.int .u64 v.bits,.pointer p2,.pointer p3] 130)),e.w.cell? ⟨w.heap.size,1,none⟩=some (.int .u64 v.bits):=λe=>(HB.o e).cell 1;have x2:∀e:Ext ae (w.alloc (.cells #[.int .i64 v.so,.int .u64 v.bits,.pointer p2,.pointer p3] 130)),e.w.cell? ⟨w.heap.size,2,none⟩=some (.pointer p2):=λe=>(HB.o e).cell 2;have x3:∀e:Ext ae (w.alloc (.cells #[.int .i64 v.so,.int .u64 v.bits,.pointer p2,.pointer p3] 130)),e.w.cell? ⟨w.heap.size,3,none⟩=some (.pointer p3):=λe=>(HB.o e).cell 3
 haveI:Nonempty (Ext ae (w.alloc (.cells #[.int .i64 v.so,.int .u64 v.bits,.pointer p2,.pointer p3] 130))):=Ext.ne _ _
 have HA:af (aa ae w (w.alloc (.cells #[.int .i64 v.so,.int .u64 v.bits,.pointer p2,.pointer p3] 130))):=aj;have HT:af (Calls prog 95 #[.pointer (some ⟨b,0,none⟩)] (w.alloc (.cells #[.int .i64 v.so,.int .u64 v.bits,.pointer p2,.pointer p3] 130)).drew λe w''=>e=.returned (.pointer (some ⟨g,K,none⟩))/\aa ae (w.alloc (.cells #[.int .i64 v.so,.int .u64 v.bits,.pointer p2,.pointer p3] 130)).drew w''):=HT.o _ HA.o.drew;go_enter func54,ntmps54;go_wp2_with fail;generalize w.alloc (.cells #[.int .i64 v.so,.int .u64 v.bits,.pointer p2,.pointer p3] 130)=W1 at *;refine dC 7 [1] (λw'=>∃e:Ext ae W1,w'=e.w) (by kernel_rfl) (by kernel_rfl) ⟨⟨_,aJ⟩,rfl⟩ ?_;simp only[List.take_succ_cons,List.take_zero,List.drop_succ_cons,List.drop_zero];refine aA rfl rfl rfl ?_;intro K' hK;go_big_quiet_op;go_big_quiet_on;refine aF rfl rfl ?_;intro K' hK;go_big_op;refine HT.o.mono ?_;rintro e w1 ⟨rfl,m1⟩;have M1:af (aa ae W1 w1):=aJ.trans m1;have dh:=ai (HA.o.trans M1.o);refine hK _ _ rfl ⟨⟨_,M1.o⟩,rfl⟩ ?_;clear hK K' m1
 try simp only[Act.put,sA9,sB9,sC9]
 iterate 2 (refine aA rfl rfl rfl ?_;intro K' hK;go_big_quiet_op;go_big_quiet_on)
 refine bV rfl rfl _ ⟨g,K,none⟩ rfl rfl ?_;simp only[Act.put,sA9,sB9,sC9]
 iterate 2 (refine aA rfl rfl rfl ?_;intro K' hK;go_big_quiet_op;go_big_quiet_on)
 refine bX ?_;have hr:=HC.o w1 dh.o;have y0:w1.cell? ⟨g,K+3+n*4,none⟩=some (.int .i64 v0.so):=HK.o w1 hr 0 (by omega);have y1:w1.cell? ⟨g,K+3+n*4+1,none⟩=some (.int .u64 v0.bits):=HK.o w1 hr 1 (by omega);have y2:w1.cell? ⟨g,K+3+n*4+2,none⟩=some (.pointer (v0.aD.map λr=>⟨rb.getD r 0,0,none⟩)):=HK.o w1 hr 2 (by omega);have y3:w1.cell? ⟨g,K+3+n*4+3,none⟩=some (.pointer (v0.tab.map λt=>⟨mb.getD t 0,0,none⟩)):=HK.o w1 hr 3 (by omega);have yf:=HF.o w1 hr;have HR:=ai (HX.o w1 hr);clear HC HT hr HX HF HK x0 x1 x2 x3 HB;go_wp2_with fail;go_end0;exact⟨rfl,HR.o,((((dh.o.own _).ma _ _).ma _ _).ma _ _).ma _ _⟩
def aX(k:Nat):Ending:=.panicked [{v:=.iface 31 (.int .i64 k),recovered:=false}]
theorem Qp(w:tW)(b:Nat)(rb mb:List Nat)(vM vC vL:Value)(r:aC)(h:aB w b rb mb vM vC vL r)(n:Nat)(hu:r.used=r.fuel):Calls prog 59 #[.pointer (some ⟨b,0,none⟩),.int .i64 n] w λe w'=>e=aX 1/\aa ae w w':=by
 have x3:w.cell? ⟨b,3,none⟩=some (.int .i64 r.fuel):=h.blk.cell 3;have x4:w.cell? ⟨b,4,none⟩=some (.int .i64 r.fuel):=by rw[<-hu];exact h.blk.cell 4
 clear h;go_enter func59,ntmps59;go_wp2_with fail;go_quiet (fail);have HM:af (aa ae w (w.drewN nq)):=ax.drewN nq;clear x3 x4;generalize w.drewN nq=w1 at *;go_wp2_with fail;exact⟨rfl,rfl,HM.o⟩
theorem aB.use{w:tW}{b:Nat}{rb mb:List Nat}{vM vC vL:Value}{r:aC}(h:aB w b rb mb vM vC vL r)(n:Nat):aB (w.setCell ⟨b,4,none⟩ (.int .i64 n)) b rb mb vM vC vL {r with used:=n} :=
 ⟨h.blk.set 4 _,h.calls.ag ((aa.refl (Only b) w).aY 4 _) (λk hk e=>by cases(show k=b from e);exact h.calls.au h.blk (by decide) hk),h.regs,h.depth⟩
theorem Qq(w:tW)(b:Nat)(rb mb:List Nat)(vM vC vL:Value)(r:aC)(h:aB w b rb mb vM vC vL r)(hp:0<r.calls.length)(n:Nat)(hf:r.fuel<=2 ^ 40)(hn:r.top.slot+n<=2 ^ 40)(hu:r.used<r.fuel):Calls prog 59 #[.pointer (some ⟨b,0,none⟩),.int .i64 n] w λe w'=>e=.returned (.tuple #[])/\aB w' b rb mb vM vC vL (r.begin n)/\aa (λk=>k=b\/Own vC k) w w':=by
 obtain⟨g,cap,K,rfl,_,_,hT,hC,hF,hR,hS⟩:=h.kit hp;have x3:w.cell? ⟨b,3,none⟩=some (.int .i64 r.fuel):=h.blk.cell 3;have x4:w.cell? ⟨b,4,none⟩=some (.int .i64 r.used):=h.blk.cell 4;have hq:(r.used:Int)≠r.fuel:=by omega
 have HT:af (∀w',aa ae w w'->Calls prog 95 #[.pointer (some ⟨b,0,none⟩)] (w'.setCell ⟨b,4,none⟩ (.int .i64 ((r.used:Int)+1))) λe w''=>e=.returned (.pointer (some ⟨g,K,none⟩))/\aa ae (w'.setCell ⟨b,4,none⟩ (.int .i64 ((r.used:Int)+1))) w''):=λw' m=>hT _ vL _ ((h.quiet m).use (r.used+1)) rfl;have HC:af (∀w' w'',aa ae w w'->aa ae (w'.setCell ⟨b,4,none⟩ (.int .i64 ((r.used:Int)+1))) w''->aB (w''.setCell ⟨g,K+2,none⟩ (.int .i64 ((r.top.slot:Int)+n))) b rb mb vM (.slice (some ⟨g,0,none⟩) r.calls.length cap) vL (r.begin n)/\w''.cell? ⟨g,K+2,none⟩=some (.int .i64 r.top.next)/\w''.cell? ⟨g,K+1,none⟩=some (.int .i64 r.top.slot)/\∀j,w''.frozen? ⟨g,j,none⟩=false):=λw' w'' m m'=>by have h2:=((h.quiet m).use (r.used+1)).quiet m';exact⟨hS w'' vL _ h2 rfl {r.top with next:=r.top.slot+n} (hR w'' vL {r with used:=r.used+1} h2 rfl) 2 (by omega) _ (ja.BU rb mb _ _),hC w'' vL _ h2 rfl 2 (by omega),hC w'' vL _ h2 rfl 1 (by omega),hF w'' vL _ h2 rfl⟩
 clear hT hC hF hR hS;go_enter func59,ntmps59;go_wp2_with fail;go_quiet (fail);have HM:af (aa ae w (w.drewN nq)):=ax.drewN nq;have h1:=h.quiet HM.o;clear x3 x4 h;generalize w.drewN nq=w1 at *;have x4:w1.cell? ⟨b,4,none⟩=some (.int .i64 r.used):=h1.blk.cell 4;have xf:=h1.blk.frozen;clear h1;go_wp2_with fail;refine(HT.o w1 HM.o).mono ?_;rintro e w2 ⟨rfl,m2⟩;obtain⟨hr,y2,y1,yf⟩:=HC.o w1 w2 HM.o m2;have HR:=ai hr;have dD:af (aa (λk=>k=b\/Own (.slice (some ⟨g,0,none⟩) r.calls.length cap) k) w w2):=((HM.o.mono (λ_ _ h=>h.elim)).set (a:=⟨b,4,none⟩) (.inl (.inl rfl)) _).trans (m2.mono (λ_ _ h=>h.elim));clear HC HT m2 hr x4 xf;go_wp2_with fail;go_end0;exact⟨rfl,HR.o,dD.o.set (a:=⟨g,K+2,none⟩) (.inl (.inr rfl)) _⟩
theorem BV(w:tW)(rb mb:List Nat)(v:MV)(s:Nat)(h:v.so=s):Calls prog 282 #[.agg (v.cells rb mb).toArray,.int .i64 s] w λe w'=>e=.returned (.tuple #[])/\aa ae w w':=by
 subst h;show Calls _ _ #[.agg #[.int .i64 v.so,.int .u64 v.bits,.pointer (v.aD.map λr=>⟨rb.getD r 0,0,none⟩),.pointer (v.tab.map λt=>⟨mb.getD t 0,0,none⟩)],_] _ _
 go_enter func282,ntmps282;go_wp2_with fail;go_end0;exact⟨rfl,aj⟩
theorem IC(w:tW)(rb mb:List Nat)(v:MV)(s:Nat)(h:v.so≠s):Calls prog 282 #[.agg (v.cells rb mb).toArray,.int .i64 s] w λe w'=>e=aX 2/\aa ae w w':=by
 show Calls _ _ #[.agg #[.int .i64 v.so,.int .u64 v.bits,.pointer (v.aD.map λr=>⟨rb.getD r 0,0,none⟩),.pointer (v.tab.map λt=>⟨mb.getD t 0,0,none⟩)],_] _ _
 have h':(v.so:Int)≠s:=by omega
 go_enter func282,ntmps282;go_wp2_with fail;exact⟨rfl,rfl,aj⟩
theorem xN(w:tW)(rb mb:List Nat)(n:Nat):Calls prog 56 #[.int .u64 n] w λe w'=>e=.returned (.agg ((kI n).cells rb mb).toArray)/\aa ae w w':=by go_enter func56,ntmps56;go_wp2_with fail;exact bodyPost_ret (results_cell_row results56 _ _ w.heap.size 130 _ (0,0) _ rfl (ak.new _ _ _) underlying130 rfl (by kernel_rfl)) rfl ⟨rfl,aj⟩
theorem IE(w:tW)(rb mb:List Nat)(q n:Nat):Calls prog 55 #[.pointer (some ⟨rb.getD q 0,0,none⟩),.int .u64 n] w λe w'=>e=.returned (.agg ((uA q n).cells rb mb).toArray)/\aa ae w w':=by go_enter func55,ntmps55;go_wp2_with fail;exact bodyPost_ret (results_cell_row results55 _ _ w.heap.size 130 _ (0,0) _ rfl (ak.new _ _ _) underlying130 rfl (by kernel_rfl)) rfl ⟨rfl,aj⟩
theorem jQ(w:tW)(rb mb:List Nat)(v:MV)(h:v.so=0):Calls prog 207 #[.agg (v.cells rb mb).toArray] w λe w'=>e=.returned (.int .u64 v.bits)/\aa ae w w':=by
 have HW:af (∀w',Calls prog 282 #[.agg #[.int .i64 v.so,.int .u64 v.bits,.pointer (v.aD.map λr=>⟨rb.getD r 0,0,none⟩),.pointer (v.tab.map λt=>⟨mb.getD t 0,0,none⟩)],.int .i64 0] w' λe w''=>e=.returned (.tuple #[])/\aa ae w' w''):=λw'=>BV w' rb mb v 0 h;show Calls _ _ #[.agg #[.int .i64 v.so,.int .u64 v.bits,.pointer (v.aD.map λr=>⟨rb.getD r 0,0,none⟩),.pointer (v.tab.map λt=>⟨mb.getD t 0,0,none⟩)]] _ _
 clear h;generalize v.aD.map (λr=>(⟨rb.getD r 0,0,none⟩:Addr))=p2 at *;generalize v.tab.map (λt=>(⟨mb.getD t 0,0,none⟩:Addr))=p3 at *;have HB:af (ak (w.alloc (.cells #[.int .i64 v.so,.int .u64 v.bits,.pointer p2,.pointer p3] 130)) w.heap.size #[.int .i64 v.so,.int .u64 v.bits,.pointer p2,.pointer p3] 130):=ak.new _ _ _;have HM:af (aa ae w (w.alloc (.cells #[.int .i64 v.so,.int .u64 v.bits,.pointer p2,.pointer p3] 130))):=aj;go_enter func207,ntmps207;go_wp2_with fail;refine(HW.o _).mono ?_;rintro e w1 ⟨rfl,m1⟩;have dh:=ai (HM.o.trans m1);have y1:w1.cell? ⟨w.heap.size,1,none⟩=some (.int .u64 v.bits):=(HB.o.ag m1 id).cell 1;clear HM HB HW m1;go_wp2_with fail;go_ret;exact⟨rfl,dh.o⟩
theorem oP(w:tW)(rb mb:List Nat)(v:MV)(h:v.so≠0):Calls prog 207 #[.agg (v.cells rb mb).toArray] w λe w'=>e=aX 2/\aa ae w w':=by
 have HW:af (∀w',Calls prog 282 #[.agg #[.int .i64 v.so,.int .u64 v.bits,.pointer (v.aD.map λr=>⟨rb.getD r 0,0,none⟩),.pointer (v.tab.map λt=>⟨mb.getD t 0,0,none⟩)],.int .i64 0] w' λe w''=>e=aX 2/\aa ae w' w''):=λw'=>IC w' rb mb v 0 h;show Calls _ _ #[.agg #[.int .i64 v.so,.int .u64 v.bits,.pointer (v.aD.map λr=>⟨rb.getD r 0,0,none⟩),.pointer (v.tab.map λt=>⟨mb.getD t 0,0,none⟩)]] _ _
 clear h;generalize v.aD.map (λr=>(⟨rb.getD r 0,0,none⟩:Addr))=p2 at *;generalize v.tab.map (λt=>(⟨mb.getD t 0,0,none⟩:Addr))=p3 at *;have HB:af (ak (w.alloc (.cells #[.int .i64 v.so,.int .u64 v.bits,.pointer p2,.pointer p3] 130)) w.heap.size #[.int .i64 v.so,.int .u64 v.bits,.pointer p2,.pointer p3] 130):=ak.new _ _ _;have HM:af (aa ae w (w.alloc (.cells #[.int .i64 v.so,.int .u64 v.bits,.pointer p2,.pointer p3] 130))):=aj;go_enter func207,ntmps207;go_wp2_with fail;refine(HW.o _).mono ?_;rintro e w1 ⟨rfl,m1⟩;exact⟨rfl,rfl,HM.o.trans m1⟩
def BX(l:List Nat):List Value:=l.map λ(b:Nat)=>Value.int .u8 b
def pH(w:tW)(v:Value)(n:Nat)(l:List Nat):Prop :=
 l.length=n/\((v=.slice none 0 0/\n=0)\/∃g cap cur lo hi,v=.slice (some ⟨g,0,none⟩) n cap/\w.heap[g]?=some (.cells cur 5 (lo,hi))/\n<=cap/\cap<=maxLen/\(hi<=lo\/n<=lo)/\cur.toList.take n=BX l)
section
variable {w w' : World} {v : Value} {n : Nat} {l : List Nat} {S : Nat -> Prop}
theorem pH.nil(w:tW):pH w (.slice none 0 0) 0 []:=⟨rfl,.inl ⟨rfl,rfl⟩⟩
theorem pH.lt(h:pH w v n l)(k:Nat)(hk:v.ownBlock=some k):k<w.heap.size:=by
 rcases h.2 with⟨rfl,_⟩ |⟨g,cap,cur,lo,hi,rfl,hg,_⟩
 ·cases hk
 ·cases hk;exact(Array.getElem?_eq_some_iff.1 hg).1
theorem pH.ag(h:pH w v n l)(m:aa S w w')(hS:∀k,v.ownBlock=some k->¬S k):pH w' v n l:=by
 refine⟨h.1,?_⟩;rcases h.2 with h' |⟨g,cap,cur,lo,hi,rfl,hg,hr⟩
 ·exact .inl h'
 ·exact .inr ⟨g,cap,cur,lo,hi,rfl,(m.block g (Array.getElem?_eq_some_iff.1 hg).1 (hS g rfl)).trans hg,hr⟩
theorem pH.au{t:TypeId}{cs:tAV}{k:Nat}(h:pH w v n l)(hb:ak w k cs t)(ht:t≠5):v.ownBlock≠some k:=by
 intro hk;rcases h.2 with⟨rfl,_⟩ |⟨g,cap,cur,lo,hi,rfl,hg,_⟩
 ·cases hk
 ·cases hk;unfold ak at hb;rw[hg]at hb;cases hb;exact ht rfl
theorem pH.apart{t:TypeId}{size n' k:Nat}{v':Value}{xs:List Value}(h:pH w v n l)(h':Sl w t size v' n' xs)(ht:t≠5)(hk:v.ownBlock=some k):v'.ownBlock≠some k:=by
 intro hk';rcases h'.2 with⟨rfl,_⟩ |⟨g,cap,cur,rfl,_,hg,_⟩
 ·cases hk'
 ·cases hk';exact h.au hg ht hk
theorem pH.view(h:pH w v n l):∃o cap,v=.slice o n cap/\(0<n->∃g,o=some ⟨g,0,none⟩/\n<=cap):=by
 rcases h.2 with⟨rfl,rfl⟩ |⟨g,cap,cur,lo,hi,rfl,hg,hn,_⟩
 ·exact⟨_,_,rfl,λh=>absurd h (by omega)⟩
 ·exact⟨_,_,rfl,λ_=>⟨g,rfl,hn⟩⟩
theorem pH.cell{g cap:Nat}(h:pH w (.slice (some ⟨g,0,none⟩) n cap) n l)(i:Nat)(hi:i<n):w.cell? ⟨g,i,none⟩=some (.int .u8 (l.getD i 0:Nat))/\w.frozen? ⟨g,i,none⟩=false:=by
 have hl:=h.1;rcases h.2 with⟨e,_⟩ |⟨g',cap',cur,lo,hi',e,hg,hn,hm,hf,ht⟩
 ·cases e
 ·cases e;refine⟨?_,?_⟩
  ·have:cur.toList[i]?=(BX l)[i]?:=by rw[<-ht,List.getElem?_take_of_lt hi]
   simp only[World.cell?,hg];rw[Array.getElem?_toList]at this;unfold BX at this;rw[List.getElem?_map,List.getElem?_eq_getElem (by omega),ba]at this;rw[List.getD_eq_getElem?_getD,List.getElem?_eq_getElem (by omega)];exact this
  ·simp only[World.frozen?,hg];simp;omega
theorem Yh(l:List Nat)(i b:Nat):BX (l.set i b)=(BX l).set i (.int .u8 b):=by unfold BX;rw[List.map_set]
theorem pH.set{g cap:Nat}(h:pH w (.slice (some ⟨g,0,none⟩) n cap) n l)(i b:Nat):pH (w.setCell ⟨g,i,none⟩ (.int .u8 b)) (.slice (some ⟨g,0,none⟩) n cap) n (l.set i b):=by
 refine⟨by rw[ab];exact h.1,?_⟩;rcases h.2 with⟨e,_⟩ |⟨g',cap',cur,lo,hi',e,hg,hn,hm,hf,ht⟩
 ·cases e
 ·cases e;refine .inr ⟨g,cap,cur.setIfInBounds i (.int .u8 b),lo,hi',rfl,?_,hn,hm,hf,?_⟩
  ·simp[World.setCell,Array.getElem?_modify,hg]
  ·rw[bj,Yh,<-ht,List.take_set]
theorem Sl.bys(h:Sl w 5 1 v n (BX l))(hl:l.length=n):pH w v n l:=by
 refine⟨hl,?_⟩;rcases h.2 with h' |⟨g,cap,cur,h',h0,hg,hn,hm,hs,ht⟩
 ·exact .inl h'
 ·exact .inr ⟨g,cap,cur,0,0,h',hg,hn,hm,.inl (bh _),by rw[Nat.mul_one]at ht;exact ht⟩
end
structure nJ(w:tW)(rb:List Nat)(vs:List Value)(gs:List (List Nat)):Prop where
 lr:rb.length=gs.length
 lv:vs.length=gs.length
 blk:∀i,i<gs.length->ak w (rb.getD i 0) #[vs.getD i undef] 122
 sl:∀i,i<gs.length->pH w (vs.getD i undef) (gs.getD i []).length (gs.getD i [])
 inj:∀i j,i<gs.length->j<gs.length->rb.getD i 0=rb.getD j 0->i=j
 IG:∀i j k,i<gs.length->j<gs.length->(vs.getD i undef).ownBlock=some k->(vs.getD j undef).ownBlock=some k->i=j
section
variable {w w' : World} {rb : List Nat} {vs : List Value} {gs : List (List Nat)} {S : Nat -> Prop}
theorem nJ.ag(h:nJ w rb vs gs)(m:aa S w w')(hb:∀i,i<gs.length->¬S (rb.getD i 0))(hv:∀i k,i<gs.length->(vs.getD i undef).ownBlock=some k->¬S k):nJ w' rb vs gs :=
 ⟨h.lr,h.lv,λi hi=>(h.blk i hi).ag m (hb i hi),λi hi=>(h.sl i hi).ag m (λk=>hv i k hi),h.inj,h.IG⟩
theorem nJ.quiet(h:nJ w rb vs gs)(m:aa ae w w'):nJ w' rb vs gs:=h.ag m (λ_ _=>id) (λ_ _ _ _=>id)
theorem dI{α:Type}(l:List α)(x d:α)(i:Nat):(l++[x]).getD i d=if i<l.length then l.getD i d else if i=l.length then x else d:=by
 simp only[List.getD_eq_getElem?_getD];by_cases h:i<l.length
 ·rw[iP9 h,List.getElem?_append_left h]
 ·rw[iN9 h,List.getElem?_append_right (by omega)];by_cases h':i=l.length
  ·rw[iP9 h',h'];simp
  ·rw[iN9 h',List.getElem?_eq_none (by simp;omega)];rfl
theorem nJ.add(h:nJ w rb vs gs)(m:aa ae w w')(b:Nat)(v:Value)(g:List Nat)(hb:ak w' b #[v] 122)(hs:pH w' v g.length g)(h1:w.heap.size<=b)(h2:∀k,v.ownBlock=some k->w.heap.size<=k):nJ w' (rb++[b]) (vs++[v]) (gs++[g]):=by
 have hq:=h.quiet m;have e1:=h.lr;have e2:=h.lv;refine⟨by simp[e1],by simp[e2],λi hi=>?_,λi hi=>?_,λi j hi hj e=>?_,λi j k hi hj e e'=>?_⟩
 all_goals simp only[ao,ar,aE]at *
 ·rw[dI,dI,e1,e2];by_cases hh:i<gs.length
  ·rw[iP9 hh,iP9 hh];exact hq.blk i hh
  ·rw[iN9 hh,iN9 hh,iP9 (by omega),iP9 (by omega)];exact hb
 ·rw[dI,dI,e2];by_cases hh:i<gs.length
  ·rw[iP9 hh,iP9 hh];exact hq.sl i hh
  ·rw[iN9 hh,iN9 hh,iP9 (by omega),iP9 (by omega)];exact hs
 ·rw[dI,dI,e1]at e;by_cases hi':i<gs.length<;>by_cases hj':j<gs.length
  ·rw[iP9 hi',iP9 hj']at e;exact h.inj i j hi' hj' e
  ·rw[iP9 hi',iN9 hj',iP9 (by omega)]at e;have:=(h.blk i hi').lt;omega
  ·rw[iN9 hi',iP9 hj',iP9 (by omega)]at e;have:=(h.blk j hj').lt;omega
  ·omega
 ·rw[dI,e2]at e e';by_cases hi':i<gs.length<;>by_cases hj':j<gs.length
  ·rw[iP9 hi']at e;rw[iP9 hj']at e';exact h.IG i j k hi' hj' e e'
  ·rw[iP9 hi']at e;rw[iN9 hj',iP9 (by omega)]at e';have:=(h.sl i hi').lt k e;have:=h2 k e';omega
  ·rw[iN9 hi',iP9 (by omega)]at e;rw[iP9 hj']at e';have:=(h.sl j hj').lt k e';have:=h2 k e;omega
  ·omega
theorem oQ{α:Type}(l:List α)(x d:α)(i j:Nat)(hj:j<l.length):(l.set j x).getD i d=if i=j then x else l.getD i d:=by
 simp only[List.getD_eq_getElem?_getD];by_cases h:i=j
 ·subst h;rw[iP9 rfl,List.getElem?_set_self hj];rfl
 ·rw[iN9 h,List.getElem?_set_ne (Ne.symm h)]
theorem nJ.die(h:nJ w rb vs gs)(j:Nat)(hj:j<gs.length):nJ (w.setCell ⟨rb.getD j 0,0,none⟩ (.slice none 0 0)) rb (vs.set j (.slice none 0 0)) (gs.set j []):=by
 have e2:=h.lv;have hj':j<vs.length:=by omega
 have m:aa (Only (rb.getD j 0)) w (w.setCell ⟨rb.getD j 0,0,none⟩ (.slice none 0 0)):=ax.aY 0 _;refine⟨by rw[ab];exact h.lr,by rw[ab,ab];exact h.lv,λi hi=>?_,λi hi=>?_,λi k hi hk e=>?_,λi l k hi hl e e'=>?_⟩
 all_goals rw[ab]at *
 ·rw[oQ _ _ _ _ _ hj'];by_cases hh:i=j
  ·subst hh;rw[iP9 rfl];exact(h.blk i hi).set 0 _
  ·rw[iN9 hh];exact(h.blk i hi).ag m (λe=>hh (h.inj i j hi hj e))
 ·rw[oQ _ _ _ _ _ hj',oQ _ _ _ _ _ hj];by_cases hh:i=j
  ·rw[iP9 hh,iP9 hh];exact pH.nil _
  ·rw[iN9 hh,iN9 hh];exact(h.sl i hi).ag m (λk hk e=>by cases(show k=_ from e);exact(h.sl i hi).au (h.blk j hj) (by decide) hk)
 ·exact h.inj i k hi hk e
 ·rw[oQ _ _ _ _ _ hj']at e e';by_cases hi':i=j
  ·rw[iP9 hi']at e;cases e
  ·by_cases hl':l=j
   ·rw[iP9 hl']at e';cases e'
   ·rw[iN9 hi']at e;rw[iN9 hl']at e';exact h.IG i l k hi hl e e'
end
def z11:List MV:=List.replicate 11 {}
def aC.nK(r:aC)(fn k:Nat):aC:={r with calls:=r.calls++[⟨fn,0,0,z11,k⟩]}
def aC.enter(r:aC)(fn k:Nat):aC:=(r.nK fn k).eY 10 (uA k 64)
def MV.In(v:MV)(n:Nat):Prop:=∀q,v.aD=some q->q<n
def ja.In(f:ja)(n:Nat):Prop:=f.oJ<n/\∀v∈f.regs,v.In n
def aC.In(r:aC)(n:Nat):Prop:=r.inp<n/\∀f∈r.calls,f.In n
theorem jR{α:Type}(l:List α)(x d:α)(i:Nat)(h:i<l.length):(l++[x]).getD i d=l.getD i d:=by rw[dI,iP9 h]
theorem MV.grow(rb mb:List Nat)(x:Nat)(v:MV)(h:v.In rb.length):v.cells (rb++[x]) mb=v.cells rb mb:=by
 obtain⟨s,b,q,t⟩:=v;cases q with
 |none=>rfl
 |some q =>have:=h q rfl;simp only[MV.cells,ba,jR _ _ _ _ this]
theorem mf{α:Type}(f g:α->List Value):∀(l:List α),(∀x∈l,f x=g x)->l.flatMap f=l.flatMap g
 |[],_=>rfl
 |x::l,h=>by rw[al,al,h x (by simp),mf f g l (λy hy=>h y (by simp[hy]))]
theorem ja.grow(rb mb:List Nat)(x:Nat)(f:ja)(h:f.In rb.length):f.cells (rb++[x]) mb=f.cells rb mb:=by unfold ja.cells;rw[mf _ _ f.regs (λv hv=>MV.grow rb mb x v (h.2 v hv)),jR _ _ _ _ h.1]
theorem aB.grow{w:tW}{b:Nat}{rb mb:List Nat}{vM vC vL:Value}{r:aC}(h:aB w b rb mb vM vC vL r)(hi:r.In rb.length)(x:Nat):aB w b (rb++[x]) mb vM vC vL r :=
 ⟨by rw[jR _ _ _ _ hi.1];exact h.blk,by rw[mf _ _ r.calls (λf hf=>ja.grow rb mb x f (hi.2 f hf))];exact h.calls,h.regs,h.depth⟩
def mh(fn:Nat)(p:Value):tAV:=#[.int .i64 fn,.int .i64 0,.int .i64 0,.int .i64 0,.int .u64 0,.pointer none,.pointer none,.int .i64 0,.int .u64 0,.pointer none,.pointer none,.int .i64 0,.int .u64 0,.pointer none,.pointer none,.int .i64 0,.int .u64 0,.pointer none,.pointer none,.int .i64 0,.int .u64 0,.pointer none,.pointer none,.int .i64 0,.int .u64 0,.pointer none,.pointer none,.int .i64 0,.int .u64 0,.pointer none,.pointer none,.int .i64 0,.int .u64 0,.pointer none,.pointer none,.int .i64 0,.int .u64 0,.pointer none,.pointer none,.int .i64 0,.int .u64 0,.pointer none,.pointer none,.int .i64 0,.int .u64 0,.pointer none,.pointer none,p]
theorem UE(rb mb:List Nat)(fn k:Nat):(mh fn (.pointer (some ⟨rb.getD k 0,0,none⟩))).toList=ja.cells rb mb ⟨fn,0,0,z11,k⟩:=rfl
theorem Qr:(prog.info? 190).map (λi=>(i.zero,i.size,i.bytes))=some (some (.agg (mh 0 (.pointer none))),48,384):=by kernel_rfl
theorem UF:(prog.info? 5).map (λi=>(i.zero,i.size,i.bytes))=some (some (.int .u8 0),1,1):=by kernel_rfl
def bu:List Nat:=List.replicate 64 0
theorem Yi:madeCells (Value.int .u8 0).cells (Int.toNat 64*1)=(BX bu).toArray:=by kernel_rfl
theorem aB.nK{w wA:tW}{b:Nat}{rb mb:List Nat}{vM vC vL vA:Value}{r:aC}(h:aB w b rb mb vM vC vL r)(hd:r.calls.length<8)(fn k:Nat)(s:Sl wA 190 48 vA (r.calls.length+1) (r.calls.flatMap (ja.cells rb mb)++(mh fn (.pointer (some ⟨rb.getD k 0,0,none⟩))).toList))(m:aa (Own vC) w wA):aB (wA.setCell ⟨b,2,none⟩ vA) b rb mb vM vA vL (r.nK fn k):=by
 have hb:ak wA b _ _:=h.blk.ag m (λe=>h.calls.au h.blk (by decide) e);refine⟨hb.set 2 vA,?_,?_,?_⟩
 ·have:Sl wA 190 48 vA (r.nK fn k).calls.length ((r.nK fn k).calls.flatMap (ja.cells rb mb)):=by
   show Sl wA 190 48 vA (r.calls++[_]).length ((r.calls++[_]).flatMap _)
   rw[List.flatMap_append,ao,al,List.flatMap_nil,List.append_nil,<-UE];exact s
  exact this.ag ((aa.refl (Only b) wA).aY 2 _) (λk hk e=>by cases(show k=b from e);exact s.au hb (by decide) hk)
 ·intro f hf;rcases List.mem_append.1 hf with hf|hf
  ·exact h.regs f hf
  ·rw[List.mem_singleton]at hf;subst hf;rfl
 ·show(r.calls++[_]).length<=8
  rw[ao];exact hd
theorem DN(w:tW)(b:Nat)(rb mb:List Nat)(vM vC vL:Value)(r:aC)(h:aB w b rb mb vM vC vL r)(hd:r.calls.length<8)(fn:Nat)(hi:r.In rb.length):Calls prog 53 #[.pointer (some ⟨b,0,none⟩),.int .i64 fn] w λe w'=>∃DP,e=.returned (.tuple #[])/\aB w' b (rb++[w.heap.size+1]) mb vM DP vL (r.enter fn rb.length)/\aa (λk=>k=b\/Own vC k) w w'/\(∀k,DP.ownBlock=some k->vC.ownBlock=some k\/w.heap.size<=k)/\ak w' (w.heap.size+1) #[.slice (some ⟨w.heap.size,0,none⟩) 64 64] 122/\Sl w' 5 1 (.slice (some ⟨w.heap.size,0,none⟩) 64 64) 64 (BX bu):=by
 obtain⟨iU,E8,E9,Fa,Fb⟩:=info_parts UF;obtain⟨iP,hiP,rX,hsP,wj⟩:=info_parts Qr;have qV:af (∀w',(Instr.makeSlice 30 (.int .i64 64) (.int .i64 64)).run prog w'=.ok (.slice (some ⟨w'.heap.size,0,none⟩) 64 64) (w'.alloc (.cells (BX bu).toArray 5))):=λw'=>by have:=run_make (P:=prog) w' 30 5 iU _ underlying30 E8 E9 .i64 .i64 64 64 (by omega) (by omega) (by rw[Fb];omega) (by omega);rw[Fa,Yi]at this;exact this
 have dD:af (aa ae w ((w.alloc (.cells (BX bu).toArray 5)).alloc (.cells #[.slice (some ⟨w.heap.size,0,none⟩) 64 64] 122))):=aj.alloc _;have H2:af (aB ((w.alloc (.cells (BX bu).toArray 5)).alloc (.cells #[.slice (some ⟨w.heap.size,0,none⟩) 64 64] 122)) b (rb++[w.heap.size+1]) mb vM vC vL r):=(h.quiet dD.o).grow hi (w.heap.size+1);have HG:af ((rb++[w.heap.size+1]).getD rb.length 0=w.heap.size+1):=by unfold af;rw[dI,iN9 (Nat.lt_irrefl _),iP9 rfl]
 have HBR:af (ak ((w.alloc (.cells (BX bu).toArray 5)).alloc (.cells #[.slice (some ⟨w.heap.size,0,none⟩) 64 64] 122)) (w.heap.size+1) #[.slice (some ⟨w.heap.size,0,none⟩) 64 64] 122):=by
  have:=ak.new (w.alloc (.cells (BX bu).toArray 5)) #[.slice (some ⟨w.heap.size,0,none⟩) 64 64] 122
  rwa [World.size_alloc]at this
 have Fs:af (Sl ((w.alloc (.cells (BX bu).toArray 5)).alloc (.cells #[.slice (some ⟨w.heap.size,0,none⟩) 64 64] 122)) 5 1 (.slice (some ⟨w.heap.size,0,none⟩) 64 64) 64 (BX bu)):=Sl.fresh (((ak.new w (BX bu).toArray 5)).alloc _) rfl (by unfold maxLen;omega);clear h hi;go_enter func53,ntmps53;go_upto_region 1 with(rw[qV.o])
 generalize(w.alloc (.cells (BX bu).toArray 5)).alloc (.cells #[.slice (some ⟨w.heap.size,0,none⟩) 64 64] 122)=W2 at *;generalize hGe:w.heap.size+1=G at *;have HGe:=ai hGe;clear hGe;have x2:W2.cell? ⟨b,2,none⟩=some vC:=H2.o.blk.cell 2;have HAP:af (∀vA wA,Sl wA 190 48 vA (r.calls.length+1) (r.calls.flatMap (ja.cells (rb++[G]) mb)++(mh fn (.pointer (some ⟨G,0,none⟩))).toList)->aa (Own vC) (W2.alloc (.cells (mh fn (.pointer (some ⟨G,0,none⟩))) 190)) wA->aB (wA.setCell ⟨b,2,none⟩ vA) b (rb++[G]) mb vM vA vL (r.nK fn rb.length)/\ak wA b #[vM,.pointer (some ⟨(rb++[G]).getD r.inp 0,0,none⟩),vC,.int .i64 r.fuel,.int .i64 r.used,vL,.int .u64 r.r0,.bool r.ended] 125):=λvA wA s m=>by have h3:=H2.o.quiet ((aa.refl ae W2).alloc (.cells (mh fn (.pointer (some ⟨G,0,none⟩))) 190));exact⟨h3.nK hd fn rb.length (by rw[HG.o];exact s) m,h3.blk.ag m (λe=>h3.calls.au h3.blk (by decide) e)⟩
 have ET:af (Sl (W2.alloc (.cells (mh fn (.pointer (some ⟨G,0,none⟩))) 190)) 190 48 vC r.calls.length (r.calls.flatMap (ja.cells (rb++[G]) mb))):=(H2.o.quiet ((aa.refl ae W2).alloc _)).calls;have O6:af (∀u∈(mh fn (.pointer (some ⟨G,0,none⟩))).toList,u.oneCell'=true):=by intro u hu;simp only[mh,List.mem_cons,List.not_mem_nil,or_false]at hu;rcases hu with rfl|rfl|rfl|rfl|rfl|rfl|rfl|rfl|rfl|rfl|rfl|rfl|rfl|rfl|rfl|rfl|rfl|rfl|rfl|rfl|rfl|rfl|rfl|rfl|rfl|rfl|rfl|rfl|rfl|rfl|rfl|rfl|rfl|rfl|rfl|rfl|rfl|rfl|rfl|rfl|rfl|rfl|rfl|rfl|rfl|rfl|rfl|rfl<;>rfl
 have HZ:af (mh fn (.pointer (some ⟨G,0,none⟩))=#[.int .i64 fn,.int .i64 0,.int .i64 0,.int .i64 0,.int .u64 0,.pointer none,.pointer none,.int .i64 0,.int .u64 0,.pointer none,.pointer none,.int .i64 0,.int .u64 0,.pointer none,.pointer none,.int .i64 0,.int .u64 0,.pointer none,.pointer none,.int .i64 0,.int .u64 0,.pointer none,.pointer none,.int .i64 0,.int .u64 0,.pointer none,.pointer none,.int .i64 0,.int .u64 0,.pointer none,.pointer none,.int .i64 0,.int .u64 0,.pointer none,.pointer none,.int .i64 0,.int .u64 0,.pointer none,.pointer none,.int .i64 0,.int .u64 0,.pointer none,.pointer none,.int .i64 0,.int .u64 0,.pointer none,.pointer none,.pointer (some ⟨G,0,none⟩)]):=rfl;have HZ2:af ((mh fn (.pointer (some ⟨G,0,none⟩))).size=48):=rfl;go_wp2_with (first |(rw[<-HZ.o];refine wpList_plain rfl λ_ hK=>uP 123 190 48 (.tmp 15) rfl (mh fn (.pointer (some ⟨G,0,none⟩))) rfl HZ2.o iP _ underlying123 hiP rX hsP (by decide) (by decide) (hK _ _ ?_);clear hK) |(at_builtin;(refine aL _ rfl (.tmp 12) (.tmp 16) 123 rfl 190 iP (.agg (mh 0 (.pointer none))) 48 384 underlying123 hiP rX hsP wj rfl (by decide) vC r.calls.length (r.calls.flatMap (ja.cells (rb++[G]) mb)) rfl ET.o ⟨W2.heap.size,0,none⟩ 1 1 (mh fn (.pointer (some ⟨G,0,none⟩))).toList rfl rfl (aV _ _ _ _ rfl) O6.o (by unfold maxLen;omega) (by omega) ?_;intro vA wA sA mA lA;obtain⟨oA,cA,CF,_⟩:=sA.view;subst CF;obtain⟨hRA,hBA⟩:=HAP.o _ wA sA mA;have pA2:=hBA.cell 2;have pAf:=hBA.frozen;have HRA:=ai hRA;have Ct:af (aa (Own vC) (W2.alloc (.cells (mh fn (.pointer (some ⟨G,0,none⟩))) 190)) wA):=mA;have HLA:=ai lA;clear sA mA lA hRA hBA)));have HVP:af (∀w',Calls prog 55 #[.pointer (some ⟨G,0,none⟩),.int .u64 64] w' λe w''=>e=.returned (.agg #[.int .i64 2,.int .u64 64,.pointer (some ⟨G,0,none⟩),.pointer none])/\aa ae w' w''):=λw'=>by have:=IE w' (rb++[G]) mb rb.length 64;rw[HG.o]at this;unfold uA MV.cells at this;simp only[ba,bQ,HG.o]at this;exact this
 have Pk:af (aa (λk=>k=b\/Own vC k) W2 (wA.setCell ⟨b,2,none⟩ (.slice oA (r.calls.length+1) cA))):=(((((aa.refl ae W2).alloc _).mono (λ_ _ h=>h.elim)).trans (Ct.o.mono (λ_ _ h=>.inr h)))).set (a:=⟨b,2,none⟩) (.inl (.inl rfl)) _;have V7:af (∀k,(Value.slice oA (r.calls.length+1) cA).ownBlock=some k->vC.ownBlock=some k\/W2.heap.size<=k):=λk hk=>(HLA.o k hk).imp id (λh=>by rw[World.size_alloc]at h;omega);have HST:af (∀w',aa ae (wA.setCell ⟨b,2,none⟩ (.slice oA (r.calls.length+1) cA)) w'->Calls prog 54 #[.pointer (some ⟨b,0,none⟩),.int .u8 10,.agg #[.int .i64 2,.int .u64 64,.pointer (some ⟨G,0,none⟩),.pointer none]] w' λe w''=>e=.returned (.tuple #[])/\aB w'' b (rb++[G]) mb vM (.slice oA (r.calls.length+1) cA) vL (r.enter fn rb.length)/\aa (Own (.slice oA (r.calls.length+1) cA)) w' w''):=λw' m=>by have:=xM w' b (rb++[G]) mb vM _ vL _ (HRA.o.quiet m) (by show 0<(r.calls++[_]).length;rw[ao];exact Nat.succ_pos _) 10 (by omega) (uA rb.length 64);unfold uA MV.cells at this;simp only[ba,bQ,HG.o]at this;exact this
 have O0:af (∀w',aa (λk=>k=b\/Own vC k) W2 w'->aa (λk=>k=b\/Own vC k) w w'/\ak w' G #[.slice (some ⟨w.heap.size,0,none⟩) 64 64] 122/\Sl w' 5 1 (.slice (some ⟨w.heap.size,0,none⟩) 64 64) 64 (BX bu)):=λw' m=>by
  refine⟨(dD.o.mono (λ_ _ h=>h.elim)).trans m,HBR.o.ag m ?_,Fs.o.ag m ?_⟩
  ·rintro(e|e)
   ·have hb:=H2.o.blk;rw[<-e]at hb;have hr:=HBR.o;unfold ak at hb hr;rw[hb]at hr;cases hr
   ·exact H2.o.calls.au HBR.o (by decide) e
  ·rintro k hk (e|e)
   ·subst e;exact Fs.o.au H2.o.blk (by decide) hk
   ·exact Fs.o.apart H2.o.calls (by decide) hk e
 have uF:af (∀k,(Value.slice oA (r.calls.length+1) cA).ownBlock=some k->vC.ownBlock=some k\/w.heap.size<=k):=λk hk=>(V7.o k hk).imp id (λh=>by have:=dD.o.size;omega);clear HAP ET O6 HZ HZ2 qV HLA HRA Ct x2 pA2 pAf H2 HBR Fs HG dD E8 E9 Fa Fb hiP rX hsP wj;refine(HVP.o _).mono ?_;rintro e w3 ⟨rfl,m3⟩;have dw:=ai m3;clear m3 HVP;go_wp2_with fail;refine(HST.o _ dw.o).mono ?_;rintro e w4 ⟨rfl,hr4,m4⟩;have wm:=ai hr4;have fU:af (aa (λk=>k=b\/Own vC k) W2 w4):=(Pk.o.trans (dw.o.mono (λ_ _ h=>h.elim))).step m4 (λk hk e=>(V7.o k e).elim .inr (λh=>absurd hk (by omega)));clear hr4 m4 HST;go_wp2_with fail;go_end0;obtain⟨f1,f2,f3⟩:=O0.o w4 fU.o;rw[HGe.o];exact⟨_,rfl,wm.o,f1,uF.o,f2,f3⟩
