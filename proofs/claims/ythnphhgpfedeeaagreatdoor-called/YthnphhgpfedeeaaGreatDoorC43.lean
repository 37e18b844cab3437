import Derived.Test.YthnphhgpfedeeaaGreatDoorC42
namespace Go.Proofs.YthnphhgpfedeeaaGreatDoor
open Go.RowKit Tryz
open List renaming length_append->ab,length_cons->al,mem_of_mem_take->ao,getElem_mem->ba,length_nil->bh,mem_of_mem_drop->bj,length_set->b5,length_map->b9,take_of_length_le->cb,getElem_toArray->cj
open Nat renaming le_refl->ar,add_assoc->ca,pow_add->cq
open Option renaming getD_some->an,map_some->bt,map_none->cw
set_option linter.all false
set_option maxRecDepth 100000
set_option maxHeartbeats 1000000
theorem run_loadVar_rowM{P:Program}(w:tW)(g off:Nat)(ty:TypeId)(cs:tAV)(d:TypeDesc)(hc:∀j (h:j<cs.size),w.cell? ⟨g,off+j,none⟩=some cs[j])(hu:P.underlying ty=some d) (hd:(match (generalizing:=false) d with|.struct _|.array _ _=>true|_=>false)=true) (hi:(P.info? ty).map (·.size)=some cs.size):(loadVar ty ⟨g,off,none⟩).run P w=.ok (.agg cs) w:=by
 have hl:(loadCells ⟨g,off,none⟩ cs.toList.length).run P w=.ok cs.toList.toArray w :=
  run_loadCells_list (P:=P) w ⟨g,off,none⟩ cs.toList (λj v hv=>by
   have hadd:(⟨g,off,none⟩:Addr).add j=⟨g,off+j,none⟩:=by unfold Addr.add;split<;>simp_all
   obtain⟨hj,hv⟩:=List.getElem?_eq_some_iff.1 hv;rw[hadd,hc j (by simpa using hj)]
   simpa using hv)
 cases hq:P.info? ty with
 |none=>simp[hq]at hi
 |some i =>
  have hs:i.size=cs.size:=by simpa [hq]using hi
  have hagg:(isAgg ty).run P w=.ok true w:=by unfold isAgg;rw[Sem.run_bind,run_underlying hu w];cases d<;>simp_all
  simp only[Array.length_toList,Array.toArray_toList]at hl;simp[loadVar,Sem.run_bind,hagg,sizeOf,typeInfo,hq,hs,hl]
theorem oW{P:Program}{ops:Array Oper}{rest:List Oper}{o:Oper}{a:Act}{w:tW}{Q:Exit->Act->tW->Prop}(hgd:o.guard=none)(ty:TypeId)(x:Operand)(ho:o.op=.load ty x)(g off:Nat) (hx:a.eval x=.pointer (some ⟨g,off,none⟩)) (cs:tAV) (d:TypeDesc) (hc:∀j (h:j<cs.size),w.cell? ⟨g,off+j,none⟩=some cs[j])(hu:P.underlying ty=some d) (hd:(match (generalizing:=false) d with|.struct _|.array _ _=>true|_=>false)=true) (hi:(P.info? ty).map (·.size)=some cs.size)(h:wpList P ops Q rest (a.put o.dst (.agg cs)) w):wpList P ops Q (o::rest) a w :=
 wpList_plain hgd λ_ hK=>by unfold Oper.wp execOp;simp only[ho,hx,Instr.loadAt,Instr.sureAddr,Sem.run_bind,Sem.run_pure,Result.andThen_ok,run_loadVar_rowM w g off ty cs d hc hu hd hi];exact hK _ _ h
theorem K1(w:tW)(ty:TypeId)(b o:Nat)(B:Nat)(cs:List Value)(hn:cs.length=20)(hsrc:∀j v,cs[j]?=some v->w.cell? ⟨B,4+j,none⟩=some v) (hc:∀j,j<20->(w.cell? ⟨b,o+j,none⟩).isSome=true) (hf:∀j,j<20->w.frozen? ⟨b,o+j,none⟩=false) (h1:∀v∈cs,v.oneCell'=true):(Builtin.copy_ #[333,333] ty #[.slice (some ⟨b,o,none⟩) 10 10,.slice (some ⟨B,4,none⟩) 5 10]).run prog w=.ok (.int .i64 5) (w.setCells b o cs):=by
 obtain⟨i,hi,hz,hs,hb⟩:=info_parts II
 have hl:=run_loadCells_list (P:=prog) w ⟨B,4,none⟩ cs (λj v hv=>by
  have hadd:(⟨B,4,none⟩:Addr).add j=⟨B,4+j,none⟩:=by unfold Addr.add;split<;>simp_all
  rw[hadd];exact hsrc j v hv)
 rw[hn]at hl;have hst:=run_storeCells_cells (P:=prog) b o cs 0 w (by rw[hn];simpa using hc) (by rw[hn];simpa using hf) h1;rw[Nat.add_zero]at hst;simp[Builtin.copy_,run_underlying underlying333,Builtin.lenOf,Builtin.firstCells,sizeOf,typeInfo,hi,hs,hl,hst,goInt]
theorem Qt(w:tW)(b:Nat)(rb mb:List Nat)(vM vC vL:Value)(r:aC)(h:aB w b rb mb vM vC vL r)(hp:r.calls.length=8)(fn:Nat):Calls prog 244 #[.pointer (some ⟨b,0,none⟩),.int .i64 fn] w λe w'=>e=aX 4/\aa ae w w':=by
 obtain⟨g,cap,K,rfl,_⟩:=h.kit (by omega);have x2:w.cell? ⟨b,2,none⟩=some (.slice (some ⟨g,0,none⟩) 8 cap):=by rw[<-hp];exact h.blk.cell 2
 clear h;go_enter func244,ntmps244;go_wp2_with fail;exact⟨rfl,rfl,ax⟩
theorem dF{P:Program}{ops:Array Oper}{rest:List Oper}{o:Oper}{a:Act}{w:tW}{Q:Exit->Act->tW->Prop}(hgd:o.guard=none)(ty:TypeId)(x y:Operand)(ho:o.op=.store ty x y)(g:Nat) (cells:tAV) (hx:a.eval x=.pointer (some ⟨g,0,none⟩)) (hy:a.eval y=.agg cells)(t:TypeId) (old:tAV) (hg:ak w g old t) (hi:(P.info? ty).map (·.size)=some cells.size)(hold:old.size=cells.size) (h1:cells.all (·.oneCell')=true)(h:∀W,ak W g cells t->aa (Only g) w W->wpList P ops Q rest (a.put o.dst undef) W):wpList P ops Q (o::rest) a w :=
 wpList_store_row hgd ty x y ho g cells hx hy t old hg hi hold h1 (h _ (setRow_heap w g old cells t (0,0) hg) (zA cells))
def aC.mo(r:aC)(fn k:Nat):aC:=(r.enter fn k).kP 1 ((r.top.regs.drop 1).take 5)
def z44:tAV:=#[.int .i64 0,.int .u64 0,.pointer none,.pointer none,.int .i64 0,.int .u64 0,.pointer none,.pointer none,.int .i64 0,.int .u64 0,.pointer none,.pointer none,.int .i64 0,.int .u64 0,.pointer none,.pointer none,.int .i64 0,.int .u64 0,.pointer none,.pointer none,.int .i64 0,.int .u64 0,.pointer none,.pointer none,.int .i64 0,.int .u64 0,.pointer none,.pointer none,.int .i64 0,.int .u64 0,.pointer none,.pointer none,.int .i64 0,.int .u64 0,.pointer none,.pointer none,.int .i64 0,.int .u64 0,.pointer none,.pointer none,.int .i64 0,.int .u64 0,.pointer none,.pointer none]
theorem MV.one(rb mb:List Nat)(l:List MV):∀u∈l.flatMap (MV.cells rb mb),u.oneCell'=true:=by intro u hu;obtain⟨v,_,hu⟩:=List.mem_flatMap.1 hu;simp only[MV.cells,List.mem_cons,List.not_mem_nil,or_false]at hu;rcases hu with rfl|rfl|rfl|rfl<;>rfl
theorem Qu(rb mb:List Nat):∀(l:List MV) (a n:Nat),a+n<=l.length->∀j,j<n*4->(((l.drop a).take n).flatMap (MV.cells rb mb))[j]?=(l.flatMap (MV.cells rb mb))[a*4+j]?:=by
 intro l a n h j hj;have hq:j/4<n:=by omega
 have hjm:=Nat.div_add_mod j 4;have e1:=kr (MV.cells rb mb) 4 ((l.drop a).take n) (λ_ _=>rfl) (j/4) (j%4) (by simp;omega) (by omega);have e2:=kr (MV.cells rb mb) 4 l (λ_ _=>rfl) (a+j/4) (j%4) (by omega) (by omega);rw[show j/4*4+j%4=j by omega]at e1;rw[show(a+j/4)*4+j%4=a*4+j by omega]at e2;rw[e1,e2];simp
theorem UK(w:tW)(b:Nat)(rb mb:List Nat)(vM vC vL:Value)(r:aC)(h:aB w b rb mb vM vC vL r)(hp:0<r.calls.length)(hd:r.calls.length<8)(fn:Nat)(hi:r.In rb.length):Calls prog 244 #[.pointer (some ⟨b,0,none⟩),.int .i64 fn] w λe w'=>∃DP G,e=.returned (.tuple #[])/\aB w' b (rb++[G+1]) mb vM DP vL (r.mo fn rb.length)/\aa (λk=>k=b\/Own vC k) w w'/\(∀k,DP.ownBlock=some k->vC.ownBlock=some k\/w.heap.size<=k)/\w.heap.size<=G/\ak w' (G+1) #[.slice (some ⟨G,0,none⟩) 64 64] 122/\Sl w' 5 1 (.slice (some ⟨G,0,none⟩) 64 64) 64 (BX bu):=by
 obtain⟨g,cap,K,rfl,_,_,hT,hC,hF,hR,hS⟩:=h.kit hp;have h11:=hR w vL r h rfl;have HT:af (∀w',aa ae w w'->Calls prog 95 #[.pointer (some ⟨b,0,none⟩)] w' λe w''=>e=.returned (.pointer (some ⟨g,K,none⟩))/\aa ae w' w''):=λw' m=>hT w' vL r (h.quiet m) rfl;have IA:af ((r.top.regs.flatMap (MV.cells rb mb)).toArray.size=44):=by show(r.top.regs.flatMap (MV.cells rb mb)).length=44;rw[jA,h11]
 have HRW:af (∀w',aa ae w w'->∀j (hj:j<(r.top.regs.flatMap (MV.cells rb mb)).toArray.size),w'.cell? ⟨g,K+3+j,none⟩=some (r.top.regs.flatMap (MV.cells rb mb)).toArray[j]):=λw' m j hj=>by
  have hj':j<(r.top.regs.flatMap (MV.cells rb mb)).length:=hj;have ae9:j<44:=by rw[jA,h11]at hj';exact hj'
  have:=hC w' vL r (h.quiet m) rfl (3+j) (by omega);rw[<-ca]at this;rw[this];unfold ja.cells;rw[List.append_assoc,List.getElem?_append_right (by simp),List.getElem?_append_left (by simp only[al,bh];omega)];simp only[al,bh];rw[show 3+j-(0+1+1+1)=j by omega,List.getElem?_eq_getElem hj',cj]
 have HH:af (∀w',aa ae w w'->aB w' b rb mb vM (.slice (some ⟨g,0,none⟩) r.calls.length cap) vL r):=λw' m=>h.quiet m;have HON:af (((r.top.regs.flatMap (MV.cells rb mb)).toArray).all (·.oneCell')=true):=by unfold af;rw[Array.all_eq_true];intro i hi;exact MV.one rb mb r.top.regs _ (by rw[cj];exact ba _)
 have HPT:af (∀j,j<20->(((r.top.regs.drop 1).take 5).flatMap (MV.cells rb mb))[j]?=(r.top.regs.flatMap (MV.cells rb mb))[4+j]?):=λj hj=>Qu rb mb r.top.regs 1 5 (by omega) j hj;have Rl:af (r.In rb.length):=hi;have x2:w.cell? ⟨b,2,none⟩=some (.slice (some ⟨g,0,none⟩) r.calls.length cap):=h.blk.cell 2;have hq:((r.calls.length:Nat):Int)≠8:=by omega
 clear h hT hC hF hR hS hi;generalize acy:(r.top.regs.flatMap (MV.cells rb mb)).toArray=c44 at *;have acz:=ai acy;clear acy;go_enter func244,ntmps244;go_wp2_with fail;refine(HT.o _ ax).mono ?_;rintro e w1 ⟨rfl,m1⟩;have dh:=ai m1;have hrw:=HRW.o w1 m1;have HB1:af (ak (w1.alloc (.cells z44 188)) w1.heap.size z44 188):=ak.new _ _ _;clear m1 x2 HT;go_upto_region 3 with(first |(refine oW rfl 188 (.tmp 15) rfl g (K+3) rfl c44 _ hrw underlying188 rfl (by rw[IA.o];kernel_rfl) ?_) |(refine dF rfl 188 (.tmp 4) (.tmp 16) rfl w1.heap.size c44 rfl rfl 188 z44 HB1.o (by rw[IA.o];kernel_rfl) (by rw[IA.o];rfl) HON.o ?_;intro W3 hB3 uy))
 have dw:af (aa ae w W3):=dh.o.trans (((aa.refl ae w1).alloc _).step uy (λi hi e=>by have:i=w1.heap.size:=e;omega));have HB3:=ai hB3;simp only[Act.put];clear hB3 uy HB1 hrw HRW HON;generalize w1.heap.size=B at *;have Kz:=ai (DN W3 b rb mb vM _ vL r (HH.o W3 dw.o) hd fn Rl.o);go_wp2_with fail;refine Kz.o.mono ?_;rintro e w4 ⟨vD,rfl,hr4,m4,l4,g4,s4⟩
 have gq:af (ak w4 B c44 188):=HB3.o.ag m4 (by
  rintro(e|e)
  ·have h1:=HB3.o;have h2:=(HH.o W3 dw.o).blk;rw[<-e]at h2;unfold ak at h1 h2;rw[h1]at h2;cases h2
  ·exact(HH.o W3 dw.o).calls.au HB3.o (by decide) e)
 have fU:af (aa (λk=>k=b\/Own (.slice (some ⟨g,0,none⟩) r.calls.length cap) k) w w4):=(dw.o.mono (λ_ _ h=>h.elim)).trans m4;have Gy:af (∀k,vD.ownBlock=some k->(Value.slice (some ⟨g,0,none⟩) r.calls.length cap).ownBlock=some k\/w.heap.size<=k):=λk hk=>(l4 k hk).imp id (λh=>by have:=dw.o.size;omega);have HGL:af (w.heap.size<=W3.heap.size):=dw.o.size
 have hep:0<(r.enter fn rb.length).calls.length:=by
  unfold aC.enter;rw[aC.gj];show 0<(r.calls++[_]).length
  rw[ab];exact Nat.succ_pos _
 have wm:=ai hr4;have HRG:af (ak w4 (W3.heap.size+1) #[.slice (some ⟨W3.heap.size,0,none⟩) 64 64] 122/\Sl w4 5 1 (.slice (some ⟨W3.heap.size,0,none⟩) 64 64) 64 (BX bu)):=⟨g4,s4⟩
 clear hr4 m4 l4 g4 s4 Kz HB3 dw HH;generalize W3.heap.size=G at *;obtain⟨g',cap',K',hvD,_,_,hT,hC,hF,hR,hS⟩:=wm.o.kit hep;subst hvD;have HVS:af (((r.top.regs.drop 1).take 5).length=5):=by unfold af;simp;omega
 have HGR:af (((r.top.regs.drop 1).take 5).flatMap (MV.cells (rb++[G+1]) mb)=((r.top.regs.drop 1).take 5).flatMap (MV.cells rb mb)):=mf _ _ _ (λv hv=>MV.grow rb mb _ v ((Rl.o.2 r.top (by rw[aC.vW r hp];exact ba _)).2 v (bj (ao hv))))
 have V8:af (∀w',aa ae w4 w'->aB (w'.setCells g' (K'+3+4) (((r.top.regs.drop 1).take 5).flatMap (MV.cells rb mb))) b (rb++[G+1]) mb vM (.slice (some ⟨g',0,none⟩) (r.enter fn rb.length).calls.length cap') vL (r.mo fn rb.length)/\∀ty,(Builtin.copy_ #[333,333] ty #[.slice (some ⟨g',K'+3+4,none⟩) 10 10,.slice (some ⟨B,4,none⟩) 5 10]).run prog w'=.ok (.int .i64 5) (w'.setCells g' (K'+3+4) (((r.top.regs.drop 1).take 5).flatMap (MV.cells rb mb)))):=λw' m=>by
  have hw:=wm.o.quiet m;refine⟨?_,λty=>K1 w' ty g' (K'+3+4) B _ (by rw[jA,HVS.o]) (λj v hv=>?_) (λj hj=>?_) (λj _=>hF w' vL _ hw rfl _) (MV.one rb mb _)⟩
  ·have:=aB.kP hep hR hS vL ((r.top.regs.drop 1).take 5) w' _ hw rfl 1 (by rw[HVS.o];omega);rw[HGR.o]at this;exact this
  ·have hj:j<20:=by have:=(List.getElem?_eq_some_iff.1 hv).1;rw[jA,HVS.o]at this;exact this
   rw[HPT.o j hj]at hv;rw[(gq.o.ag m id).cell (4+j),<-acz.o,List.getElem?_toArray];exact hv
  ·have:=hC w' vL _ hw rfl (3+4+j) (by omega);rw[<-ca,<-ca]at this;rw[this,List.getElem?_eq_getElem (by rw[ja.jP _ mb _ (hR w' vL _ hw rfl)];omega)];rfl
 have HT4:af (Calls prog 95 #[.pointer (some ⟨b,0,none⟩)] w4.drew λe w''=>e=.returned (.pointer (some ⟨g',K',none⟩))/\aa ae w4.drew w''):=hT w4.drew vL _ (wm.o.quiet (aa.refl ae _).drew) rfl;clear hT hC hF hR hS gq HPT HVS HGR acz IA Rl
 haveI:Nonempty (Ext ae w4):=Ext.ne _ _
 go_upto_region 4 with fail;refine dC 6 [1] (λw'=>∃e:Ext ae w4,w'=e.w) (by kernel_rfl) (by kernel_rfl) ⟨⟨_,aJ⟩,rfl⟩ ?_;simp only[List.take_succ_cons,List.take_zero,List.drop_succ_cons,List.drop_zero];refine aA rfl rfl rfl ?_;intro K2 hK;go_big_quiet_op;go_big_quiet_on;refine aF rfl rfl ?_;intro K2 hK;go_big_op;refine HT4.o.mono ?_;rintro e w5 ⟨rfl,m5⟩;have iC:af (aa ae w4 w5):=aJ.trans m5;refine hK _ _ rfl ⟨⟨_,iC.o⟩,rfl⟩ ?_;clear hK K2 m5
 try simp only[Act.put,sA9,sB9,sC9]
 refine bV rfl rfl _ ⟨g',K',none⟩ rfl rfl ?_;simp only[Act.put,sA9,sB9,sC9]
 iterate 3 (refine aA rfl rfl rfl ?_;intro K2 hK;go_big_quiet_op;go_big_quiet_on)
 refine bX ?_;obtain⟨ZS,hcp⟩:=V8.o w5 iC.o;have Jq:=ai ZS;clear ZS V8 HT4;generalize((r.top.regs.drop 1).take 5).flatMap (MV.cells rb mb)=c20 at *;have sW:af (aa (Own (.slice (some ⟨g',0,none⟩) (r.enter fn rb.length).calls.length cap')) w5 (w5.setCells g' (K'+3+4) c20)):=ax.zB _ _;go_wp2_with fail;go_end0;have h5:=wm.o.quiet iC.o;have hg5:=HRG.o.1.ag iC.o id;have hs5:=HRG.o.2.ag iC.o (λ_ _=>id);refine⟨_,G,rfl,Jq.o,(fU.o.trans (iC.o.mono (λ_ _ h=>h.elim))).step sW.o (λk hk e=>(Gy.o k e).elim .inr (λh=>absurd hk (by omega))),Gy.o,HGL.o,hg5.ag sW.o (λe=>h5.calls.au hg5 (by decide) e),hs5.ag sW.o (λk hk e=>hs5.apart h5.calls (by decide) hk e)⟩
def kQ(v:MV)(j:Int):Nat:=(((v.bits:Int)+j)%18446744073709551616).toNat
theorem Ms(v:MV)(j:Int):IntKind.u64.wrap (↑v.bits+IntKind.u64.wrap j)=((kQ v j:Nat):Int):=by unfold kQ;rw[Int.toNat_of_nonneg (Int.emod_nonneg _ (by omega))];simp only[IntKind.wrap,IntKind.bits,IntKind.signed];simp
theorem DQ(a:Nat)(h:a<9223372036854775808):RowKit.wrap64 ((a:Nat):Int)=a:=by unfold RowKit.wrap64;omega
theorem Qv(a:Nat)(h:9223372036854775808<=a)(h':a<18446744073709551616):RowKit.wrap64 ((a:Nat):Int)<0:=by unfold RowKit.wrap64;omega
theorem aaP(v:MV)(j:Int):kQ v j<18446744073709551616:=by unfold kQ;omega
theorem DR(w:tW)(rb mb:List Nat)(v:MV)(q:Nat)(hq:v.aD=some q)(rq:v.so=2)(g n cap:Nat)(hG:ak w (rb.getD q 0) #[.slice (some ⟨g,0,none⟩) n cap] 122)(hn:n<=1000)(hcap:n<=cap)(j:Int)(s:Nat)(hs:0<s/\s<=8)(hok:kQ v j+s<=n):Calls prog 286 #[.agg (v.cells rb mb).toArray,.int .i16 j,.int .i64 s] w λe w'=>e=.returned (.slice (some ⟨g,kQ v j,none⟩) s (cap-kQ v j))/\aa ae w w':=by
 have HW:af (∀w',Calls prog 282 #[.agg #[.int .i64 v.so,.int .u64 v.bits,.pointer (v.aD.map λr=>⟨rb.getD r 0,0,none⟩),.pointer (v.tab.map λt=>⟨mb.getD t 0,0,none⟩)],.int .i64 2] w' λe w''=>e=.returned (.tuple #[])/\aa ae w' w''):=λw'=>BV w' rb mb v 2 rq;show Calls _ _ #[.agg #[.int .i64 v.so,.int .u64 v.bits,.pointer (v.aD.map λr=>⟨rb.getD r 0,0,none⟩),.pointer (v.tab.map λt=>⟨mb.getD t 0,0,none⟩)],_,_] _ _
 rw[hq]at HW ⊢;simp only[bt]at HW ⊢;have HGG:af (∀w',aa ae w w'->ak w' (rb.getD q 0) #[.slice (some ⟨g,0,none⟩) n cap] 122):=λw' m=>hG.ag m id;have hX:RowKit.wrap64 (IntKind.u64.wrap (↑v.bits+IntKind.u64.wrap j))=((kQ v j:Nat):Int):=by rw[Ms,DQ _ (by omega)]
 generalize kQ v j=A at *;have hne:¬cap=A:=by omega
 clear hG rq hq;generalize rb.getD q 0=R at *;generalize v.tab.map (λt=>(⟨mb.getD t 0,0,none⟩:Addr))=p3 at *;have HB:af (ak (w.alloc (.cells #[.int .i64 v.so,.int .u64 v.bits,.pointer (some ⟨R,0,none⟩),.pointer p3] 130)) w.heap.size #[.int .i64 v.so,.int .u64 v.bits,.pointer (some ⟨R,0,none⟩),.pointer p3] 130):=ak.new _ _ _;have HM:af (aa ae w (w.alloc (.cells #[.int .i64 v.so,.int .u64 v.bits,.pointer (some ⟨R,0,none⟩),.pointer p3] 130))):=aj;go_enter func286,ntmps286;go_wp2_with fail;refine(HW.o _).mono ?_;rintro e w1 ⟨rfl,m1⟩;have dh:af (aa ae w w1):=HM.o.trans m1;have hB1:=HB.o.ag m1 id;have y1:w1.cell? ⟨w.heap.size,1,none⟩=some (.int .u64 v.bits):=hB1.cell 1;have y2:w1.cell? ⟨w.heap.size,2,none⟩=some (.pointer (some ⟨R,0,none⟩)):=hB1.cell 2;have z0:w1.cell? ⟨R,0,none⟩=some (.slice (some ⟨g,0,none⟩) n cap):=(HGG.o w1 dh.o).cell 0;clear HM HB HW m1 hB1;go_wp2_with fail;go_ret;exact⟨by rw[show A+s-A=s by omega];rfl,dh.o⟩
theorem UL(w:tW)(rb mb:List Nat)(v:MV)(q:Nat)(hq:v.aD=some q)(rq:v.so=2)(o:Option Addr)(n cap:Nat)(hG:ak w (rb.getD q 0) #[.slice o n cap] 122)(hn:n<=1000)(j:Int)(s:Nat)(hs:0<s/\s<=8)(hok:¬kQ v j+s<=n):Calls prog 286 #[.agg (v.cells rb mb).toArray,.int .i16 j,.int .i64 s] w λe w'=>e=aX 3/\aa ae w w':=by
 have HW:af (∀w',Calls prog 282 #[.agg #[.int .i64 v.so,.int .u64 v.bits,.pointer (v.aD.map λr=>⟨rb.getD r 0,0,none⟩),.pointer (v.tab.map λt=>⟨mb.getD t 0,0,none⟩)],.int .i64 2] w' λe w''=>e=.returned (.tuple #[])/\aa ae w' w''):=λw'=>BV w' rb mb v 2 rq;show Calls _ _ #[.agg #[.int .i64 v.so,.int .u64 v.bits,.pointer (v.aD.map λr=>⟨rb.getD r 0,0,none⟩),.pointer (v.tab.map λt=>⟨mb.getD t 0,0,none⟩)],_,_] _ _
 rw[hq]at HW ⊢;simp only[bt]at HW ⊢;have HGG:af (∀w',aa ae w w'->ak w' (rb.getD q 0) #[.slice o n cap] 122):=λw' m=>hG.ag m id
 have hX:RowKit.wrap64 (IntKind.u64.wrap (↑v.bits+IntKind.u64.wrap j))<0\/(n:Int)-s<RowKit.wrap64 (IntKind.u64.wrap (↑v.bits+IntKind.u64.wrap j)):=by
  rw[Ms];rcases Nat.lt_or_ge (kQ v j) 9223372036854775808 with h|h
  ·rw[DQ _ h];omega
  ·exact .inl (Qv _ h (aaP v j))
 obtain⟨A,hE⟩:∃A:Int,RowKit.wrap64 (IntKind.u64.wrap (↑v.bits+IntKind.u64.wrap j))=A:=⟨_,rfl⟩
 rw[hE]at hX;clear hG rq hq;generalize rb.getD q 0=R at *;generalize v.tab.map (λt=>(⟨mb.getD t 0,0,none⟩:Addr))=p3 at *;have HB:af (ak (w.alloc (.cells #[.int .i64 v.so,.int .u64 v.bits,.pointer (some ⟨R,0,none⟩),.pointer p3] 130)) w.heap.size #[.int .i64 v.so,.int .u64 v.bits,.pointer (some ⟨R,0,none⟩),.pointer p3] 130):=ak.new _ _ _;have HM:af (aa ae w (w.alloc (.cells #[.int .i64 v.so,.int .u64 v.bits,.pointer (some ⟨R,0,none⟩),.pointer p3] 130))):=aj;go_enter func286,ntmps286;go_wp2_with fail;refine(HW.o _).mono ?_;rintro e w1 ⟨rfl,m1⟩;have dh:af (aa ae w w1):=HM.o.trans m1;have hB1:=HB.o.ag m1 id;have y1:w1.cell? ⟨w.heap.size,1,none⟩=some (.int .u64 v.bits):=hB1.cell 1;have y2:w1.cell? ⟨w.heap.size,2,none⟩=some (.pointer (some ⟨R,0,none⟩)):=hB1.cell 2;have z0:w1.cell? ⟨R,0,none⟩=some (.slice o n cap):=(HGG.o w1 dh.o).cell 0;clear HM HB HW m1 hB1;rcases hX with hX|hX
 ·go_wp2_with fail;exact⟨rfl,rfl,dh.o⟩
 ·rcases(by omega:A<0\/0<=A)with hA|hA
  ·go_wp2_with fail;exact⟨rfl,rfl,dh.o⟩
  ·go_wp2_with fail;exact⟨rfl,rfl,dh.o⟩
def leN:List Nat->Nat
 |[]=>0
 |b::l=>b+256*leN l
theorem Yk(l:List Nat)(b:Nat):leN (l++[b])=leN l+b*2 ^ (8*l.length):=by
 induction l with
 |nil=>simp[leN]
 |cons x l ih =>rw[List.cons_append,leN,leN,ih,al,Nat.mul_add,show 8*(l.length+1)=8*l.length+8 by omega,cq];have:(2:Nat) ^ 8=256:=rfl;rw[this,ca];congr 2;rw[Nat.mul_comm 256,Nat.mul_assoc]
theorem aaQ(l:List Nat)(h:∀b∈l,b<256):leN l<2 ^ (8*l.length):=by
 induction l with
 |nil=>simp[leN]
 |cons x l ih =>have h1:=h x (by simp);have h2:=ih (λb hb=>h b (by simp[hb]));rw[leN,al,show 8*(l.length+1)=8*l.length+8 by omega,cq];have:(2:Nat) ^ 8=256:=rfl;rw[this];omega
theorem UM(a b k:Nat)(ha:a<2 ^ (8*k))(hb:b<256)(hk:k<8):bits BinOp.or IntKind.u64 (a:Int) (IntKind.u64.wrap (IntKind.u64.wrap (b:Int)*2 ^ (8*k)))=((a+b*2 ^ (8*k):Nat):Int):=by
 have h64:b*2 ^ (8*k)<2 ^ 64:=by have h1:b*2 ^ (8*k)<2 ^ 8*2 ^ (8*k):=Nat.mul_lt_mul_of_pos_right hb (Nat.pow_pos (by omega));rw[<-cq]at h1;exact Nat.lt_of_lt_of_le h1 (Nat.pow_le_pow_right (by omega) (by omega))
 rw[IntWalk.u64_in (b:Int) (by omega)];have e:(b:Int)*2 ^ (8*k)=((b*2 ^ (8*k):Nat):Int):=by push_cast;rfl
 rw[e,IntWalk.u64_in _ (by omega)];exact GN .u64 (8*k) 64 a b (λn h0 h1=>IntWalk.u64_in n (by omega)) (by decide) (by omega) ha h64
theorem Qw(w:tW)(rb mb:List Nat)(v:MV)(q:Nat)(hq:v.aD=some q)(rq:v.so=2)(g n cap:Nat)(hG:ak w (rb.getD q 0) #[.slice (some ⟨g,0,none⟩) n cap] 122)(l:List Nat)(hl:l.length=n)(hby:∀b∈l,b<256)(hS:pH w (.slice (some ⟨g,0,none⟩) n cap) n l)(hn:n<=1000)(hcap:n<=cap)(j:Int)(s:Nat)(hs:0<s/\s<=8)(hok:kQ v j+s<=n):Calls prog 234 #[.agg (v.cells rb mb).toArray,.int .i16 j,.int .i64 s] w λe w'=>e=.returned (.agg ((kI (leN ((l.drop (kQ v j)).take s))).cells rb mb).toArray)/\aa ae w w':=by
 have Yl:af (∀w',aa ae w w'->Calls prog 286 #[.agg #[.int .i64 v.so,.int .u64 v.bits,.pointer (v.aD.map λr=>⟨rb.getD r 0,0,none⟩),.pointer (v.tab.map λt=>⟨mb.getD t 0,0,none⟩)],.int .i16 j,.int .i64 s] w' λe w''=>e=.returned (.slice (some ⟨g,kQ v j,none⟩) s (cap-kQ v j))/\aa ae w' w''):=λw' m=>DR w' rb mb v q hq rq g n cap (hG.ag m id) hn hcap j s hs hok;have HCE:af (∀w',aa ae w w'->∀k,k<s->w'.cell? ⟨g,kQ v j+k,none⟩=some (.int .u8 (((l.drop (kQ v j)).take s).getD k 0:Nat))):=λw' m k hk=>by rw[((hS.ag m (λ_ _=>id)).cell (kQ v j+k) (by omega)).1,List.getD_eq_getElem?_getD,List.getD_eq_getElem?_getD,List.getElem?_take_of_lt hk,List.getElem?_drop]
 have HBY:af (∀k,((l.drop (kQ v j)).take s).getD k 0<256):=λk=>by
  rw[List.getD_eq_getElem?_getD];rcases h:((l.drop (kQ v j)).take s)[k]? with _|b
  ·simp
  ·exact hby b (bj (ao (List.mem_of_getElem? h)))
 have HLS:af (((l.drop (kQ v j)).take s).length=s):=by unfold af;simp;omega
 have HAC:af (∀k,k<s->leN (((l.drop (kQ v j)).take s).take (k+1))=leN (((l.drop (kQ v j)).take s).take k)+((l.drop (kQ v j)).take s).getD k 0*2 ^ (8*k)/\leN (((l.drop (kQ v j)).take s).take k)<2 ^ (8*k)):=λk hk=>by
  have hk':k<((l.drop (kQ v j)).take s).length:=by rw[HLS.o];exact hk
  have hlen:(((l.drop (kQ v j)).take s).take k).length=k:=by rw[List.length_take];omega
  refine⟨?_,?_⟩
  ·rw[List.take_succ_eq_append_getElem hk',Yk,hlen,List.getD_eq_getElem?_getD,List.getElem?_eq_getElem hk'];rfl
  ·have:=aaQ (((l.drop (kQ v j)).take s).take k) (λb hb=>hby b (bj (ao (ao hb))))
   rwa [hlen]at this
 show Calls _ _ #[.agg #[.int .i64 v.so,.int .u64 v.bits,.pointer (v.aD.map λr=>⟨rb.getD r 0,0,none⟩),.pointer (v.tab.map λt=>⟨mb.getD t 0,0,none⟩)],_,_] _ _
 clear hG hS hok rq hq hl hby;generalize(l.drop (kQ v j)).take s=bl at *;generalize kQ v j=A at *;generalize v.aD.map (λr=>(⟨rb.getD r 0,0,none⟩:Addr))=p2 at *;generalize v.tab.map (λt=>(⟨mb.getD t 0,0,none⟩:Addr))=p3 at *;go_enter func234,ntmps234;go_upto_region 2 with fail;have dD:af (aa ae w ((w.alloc (.cells #[.int .i64 v.so,.int .u64 v.bits,.pointer p2,.pointer p3] 130)).alloc (.cells #[.int .i64 0,.int .u64 0,.pointer none,.pointer none] 130))):=aj.alloc _;have HB2:af (ak ((w.alloc (.cells #[.int .i64 v.so,.int .u64 v.bits,.pointer p2,.pointer p3] 130)).alloc (.cells #[.int .i64 0,.int .u64 0,.pointer none,.pointer none] 130)) w.heap.size #[.int .i64 v.so,.int .u64 v.bits,.pointer p2,.pointer p3] 130):=(ak.new _ _ _).alloc _
 have HZ2:af (ak ((w.alloc (.cells #[.int .i64 v.so,.int .u64 v.bits,.pointer p2,.pointer p3] 130)).alloc (.cells #[.int .i64 0,.int .u64 0,.pointer none,.pointer none] 130)) (w.heap.size+1) #[.int .i64 0,.int .u64 0,.pointer none,.pointer none] 130):=by
  have:=ak.new (w.alloc (.cells #[.int .i64 v.so,.int .u64 v.bits,.pointer p2,.pointer p3] 130)) #[.int .i64 0,.int .u64 0,.pointer none,.pointer none] 130
  rwa [World.size_alloc]at this
 have uF:af (w.heap.size<=w.heap.size+1):=Nat.le_succ _;generalize(w.alloc (.cells #[.int .i64 v.so,.int .u64 v.bits,.pointer p2,.pointer p3] 130)).alloc (.cells #[.int .i64 0,.int .u64 0,.pointer none,.pointer none] 130)=W2 at *;generalize w.heap.size+1=Zb at *;have z0:W2.cell? ⟨w.heap.size,0,none⟩=some (.int .i64 v.so):=HB2.o.cell 0;have z1:W2.cell? ⟨w.heap.size,1,none⟩=some (.int .u64 v.bits):=HB2.o.cell 1;have z2:W2.cell? ⟨w.heap.size,2,none⟩=some (.pointer p2):=HB2.o.cell 2;have z3:W2.cell? ⟨w.heap.size,3,none⟩=some (.pointer p3):=HB2.o.cell 3;go_wp2_with fail;refine(Yl.o _ dD.o).mono ?_;rintro e w3 ⟨rfl,m3⟩;have dw:af (aa ae w w3):=dD.o.trans m3;have HZ3:af (ak w3 Zb #[.int .i64 0,.int .u64 0,.pointer none,.pointer none] 130):=HZ2.o.ag m3 id;clear z0 z1 z2 z3 m3 dD HB2 HZ2 Yl;go_upto_block 0 with fail;go_cut [7] (λnv wx=>nv=.int .u64 (leN bl:Nat)/\wx=w3)
 case first =>
  go_wp2_with fail;go_loopg [7,15] s (λq nv iv wx=>∃k:Nat,iv=.int .i64 k/\nv=.int .u64 (leN (bl.take k):Nat)/\wx=w3/\k<=s/\q=s-k)
  case atStart=>exact⟨0,rfl,rfl,rfl,Nat.zero_le _,rfl⟩
  case round =>
   obtain⟨k,rfl,rfl,rfl,hk,rfl⟩:=hrel;by_cases hlt:k<s
   ·have y:=HCE.o wr dw.o k hlt;obtain⟨e1,e2⟩:=HAC.o k hlt;have e3:=HBY.o k;have e4:=UM _ _ k e2 e3 (by omega);rw[<-e1]at e4;have e5:bl.getD k 0=bl[k]?.getD 0:=List.getD_eq_getElem?_getD ..;rw[e5]at e4 e1 y;clear e5;go_wp2_with fail;go_roundg (s-(k+1))
    case measure=>omega
    case rel=>exact⟨k+1,by go_num,by rw[e1,Int.natCast_add,Int.natCast_mul,Int.natCast_pow];rfl,rfl,by omega,rfl⟩
   ·obtain rfl:k=s:=by omega
    go_wp2_with fail;go_meet;refine⟨?_,rfl⟩;rw[cb (by rw[HLS.o];exact ar _)]
 case rest =>
 obtain⟨rfl,rfl⟩:=hcut;have HVN:af (∀w',Calls prog 56 #[.int .u64 (leN bl:Nat)] w' λe w''=>e=.returned (.agg #[.int .i64 0,.int .u64 (leN bl:Nat),.pointer none,.pointer none])/\aa ae w' w''):=λw'=>xN w' [] [] (leN bl);go_wp2_with fail;refine(HVN.o _).mono ?_;rintro e w4 ⟨rfl,m4⟩;have fU:=ai (dw.o.trans m4);have hb4:=HZ3.o.ag m4 id;have z0:=hb4.cell 0;have z1:=hb4.cell 1;have z2:=hb4.cell 2;have z3:=hb4.cell 3;have zf:=hb4.frozen;have gq:=ai hb4;clear hb4 m4 dw HZ3 HVN;go_wp2_with fail;refine bodyPost_ret (results_cell_row results234 _ _ Zb 130 _ (0,0) _ rfl ((((gq.o.set 0 _).set 1 _).set 2 _).set 3 _) underlying130 rfl (by kernel_rfl)) rfl ⟨rfl,?_⟩;exact(((fU.o.set (a:=⟨Zb,0,none⟩) (Or.inr uF.o) _).set (a:=⟨Zb,1,none⟩) (Or.inr uF.o) _).set (a:=⟨Zb,2,none⟩) (Or.inr uF.o) _).set (a:=⟨Zb,3,none⟩) (Or.inr uF.o) _
def putB(l:List Nat)(A num:Nat):Nat->List Nat
 |0=>l
 |k+1=>(putB l A num k).set (A+k) (num/2 ^ (8*k)%256)
theorem xO(l:List Nat)(A num k:Nat):(putB l A num k).length=l.length:=by
 induction k with
 |zero=>rfl
 |succ k ih=>rw[putB,b5,ih]
theorem K3(w:tW)(rb mb:List Nat)(v:MV)(q:Nat)(hq:v.aD=some q)(rq:v.so=2)(g n cap:Nat)(hG:ak w (rb.getD q 0) #[.slice (some ⟨g,0,none⟩) n cap] 122)(l:List Nat)(hl:l.length=n)(hS:pH w (.slice (some ⟨g,0,none⟩) n cap) n l)(hn:n<=1000)(hcap:n<=cap)(j:Int)(s:Nat)(hs:0<s/\s<=8)(hok:kQ v j+s<=n)(x:MV)(hx:x.so=0):Calls prog 236 #[.agg (v.cells rb mb).toArray,.int .i16 j,.int .i64 s,.agg (x.cells rb mb).toArray] w λe w'=>e=.returned (.tuple #[])/\pH w' (.slice (some ⟨g,0,none⟩) n cap) n (putB l (kQ v j) x.bits s)/\aa (Only g) w w':=by
 have Yl:af (∀w',aa ae w w'->Calls prog 286 #[.agg #[.int .i64 v.so,.int .u64 v.bits,.pointer (v.aD.map λr=>⟨rb.getD r 0,0,none⟩),.pointer (v.tab.map λt=>⟨mb.getD t 0,0,none⟩)],.int .i16 j,.int .i64 s] w' λe w''=>e=.returned (.slice (some ⟨g,kQ v j,none⟩) s (cap-kQ v j))/\aa ae w' w''):=λw' m=>DR w' rb mb v q hq rq g n cap (hG.ag m id) hn hcap j s hs hok;have HNU:af (∀w',Calls prog 207 #[.agg #[.int .i64 x.so,.int .u64 x.bits,.pointer (x.aD.map λr=>⟨rb.getD r 0,0,none⟩),.pointer (x.tab.map λt=>⟨mb.getD t 0,0,none⟩)]] w' λe w''=>e=.returned (.int .u64 x.bits)/\aa ae w' w''):=λw'=>jQ w' rb mb x hx;have HSQ:af (∀w',aa ae w w'->pH w' (.slice (some ⟨g,0,none⟩) n cap) n l):=λw' m=>hS.ag m (λ_ _=>id);have HCE:af (∀w' l',l'.length=n->pH w' (.slice (some ⟨g,0,none⟩) n cap) n l'->∀i,i<n->(w'.cell? ⟨g,i,none⟩=some (.int .u8 (l'.getD i 0:Nat))/\w'.frozen? ⟨g,i,none⟩=false)):=λw' l' hl' hS' i hi=>hS'.cell i hi;have HST:af (∀w' k,pH w' (.slice (some ⟨g,0,none⟩) n cap) n (putB l (kQ v j) x.bits k)->pH (w'.setCell ⟨g,kQ v j+k,none⟩ (.int .u8 ((x.bits/2 ^ (8*k)%256:Nat):Int))) (.slice (some ⟨g,0,none⟩) n cap) n (putB l (kQ v j) x.bits (k+1))):=λw' k h=>h.set (kQ v j+k) _;have O8:af (∀k,(putB l (kQ v j) x.bits k).length=n):=λk=>by rw[xO];exact hl
 show Calls _ _ #[.agg #[.int .i64 v.so,.int .u64 v.bits,.pointer (v.aD.map λr=>⟨rb.getD r 0,0,none⟩),.pointer (v.tab.map λt=>⟨mb.getD t 0,0,none⟩)],_,_,.agg #[.int .i64 x.so,.int .u64 x.bits,.pointer (x.aD.map λr=>⟨rb.getD r 0,0,none⟩),.pointer (x.tab.map λt=>⟨mb.getD t 0,0,none⟩)]] _ _
 clear hG hS rq hq hx;generalize kQ v j=A at *;generalize v.aD.map (λr=>(⟨rb.getD r 0,0,none⟩:Addr))=p2 at *;generalize v.tab.map (λt=>(⟨mb.getD t 0,0,none⟩:Addr))=p3 at *;generalize x.aD.map (λr=>(⟨rb.getD r 0,0,none⟩:Addr))=q2 at *;generalize x.tab.map (λt=>(⟨mb.getD t 0,0,none⟩:Addr))=q3 at *;go_enter func236,ntmps236;go_upto_region 1 with fail;have dD:af (aa ae w ((w.alloc (.cells #[.int .i64 v.so,.int .u64 v.bits,.pointer p2,.pointer p3] 130)).alloc (.cells #[.int .i64 x.so,.int .u64 x.bits,.pointer q2,.pointer q3] 130))):=aj.alloc _;have HB2:af (ak ((w.alloc (.cells #[.int .i64 v.so,.int .u64 v.bits,.pointer p2,.pointer p3] 130)).alloc (.cells #[.int .i64 x.so,.int .u64 x.bits,.pointer q2,.pointer q3] 130)) w.heap.size #[.int .i64 v.so,.int .u64 v.bits,.pointer p2,.pointer p3] 130):=(ak.new _ _ _).alloc _
 have xc:af (ak ((w.alloc (.cells #[.int .i64 v.so,.int .u64 v.bits,.pointer p2,.pointer p3] 130)).alloc (.cells #[.int .i64 x.so,.int .u64 x.bits,.pointer q2,.pointer q3] 130)) (w.heap.size+1) #[.int .i64 x.so,.int .u64 x.bits,.pointer q2,.pointer q3] 130):=by
  have:=ak.new (w.alloc (.cells #[.int .i64 v.so,.int .u64 v.bits,.pointer p2,.pointer p3] 130)) #[.int .i64 x.so,.int .u64 x.bits,.pointer q2,.pointer q3] 130
  rwa [World.size_alloc]at this
 generalize(w.alloc (.cells #[.int .i64 v.so,.int .u64 v.bits,.pointer p2,.pointer p3] 130)).alloc (.cells #[.int .i64 x.so,.int .u64 x.bits,.pointer q2,.pointer q3] 130)=W2 at *;generalize w.heap.size+1=Xb at *;have z0:W2.cell? ⟨Xb,0,none⟩=some (.int .i64 x.so):=xc.o.cell 0;have z1:W2.cell? ⟨Xb,1,none⟩=some (.int .u64 x.bits):=xc.o.cell 1;have z2:W2.cell? ⟨Xb,2,none⟩=some (.pointer q2):=xc.o.cell 2;have z3:W2.cell? ⟨Xb,3,none⟩=some (.pointer q3):=xc.o.cell 3;go_wp2_with fail;refine(HNU.o _).mono ?_;rintro e w3 ⟨rfl,m3⟩;have dw:af (aa ae w w3):=dD.o.trans m3;have hb3:=HB2.o.ag m3 id;have z0:w3.cell? ⟨w.heap.size,0,none⟩=some (.int .i64 v.so):=hb3.cell 0;have z1:w3.cell? ⟨w.heap.size,1,none⟩=some (.int .u64 v.bits):=hb3.cell 1;have z2:w3.cell? ⟨w.heap.size,2,none⟩=some (.pointer p2):=hb3.cell 2;have z3:w3.cell? ⟨w.heap.size,3,none⟩=some (.pointer p3):=hb3.cell 3;clear m3 dD HB2 xc HNU hb3;go_wp2_with fail;refine(Yl.o _ dw.o).mono ?_;rintro e w4 ⟨rfl,m4⟩;have fU:af (aa ae w w4):=dw.o.trans m4;have HS4:=ai (HSQ.o w4 fU.o);clear z0 z1 z2 z3 m4 dw Yl HSQ;go_upto_block 0 with fail;go_wp2_with fail;go_loopg [19] s (λq iv wx=>∃k:Nat,iv=.int .i64 k/\pH wx (.slice (some ⟨g,0,none⟩) n cap) n (putB l A x.bits k)/\aa (Only g) w wx/\k<=s/\q=s-k)
 case atStart=>exact⟨0,rfl,HS4.o,fU.o.mono (λ_ _ h=>h.elim),Nat.zero_le _,rfl⟩
 case round =>
  obtain⟨k,rfl,hS,hM,hk,rfl⟩:=hrel;have iC:=ai hM;by_cases hlt:k<s
  ·obtain⟨y,yf⟩:=HCE.o wr _ (O8.o k) hS (A+k) (by omega);have GX:=ai (HST.o wr k hS);clear hS hM;rw[Int.natCast_emod,Int.natCast_ediv,Int.natCast_pow]at GX;go_wp2_with fail;go_roundg (s-(k+1))
   case measure=>omega
   case rel=>exact⟨k+1,by go_num,GX.o,iC.o.aY _ _,by omega,rfl⟩
  ·obtain rfl:k=s:=by omega
   clear hM;have GX:=ai hS;clear hS;go_wp2_with fail;go_end0;exact⟨rfl,GX.o,iC.o⟩
theorem Qx(w:tW)(rb mb:List Nat)(v:MV)(rq:v.so≠2)(j:Int)(s:Nat):Calls prog 286 #[.agg (v.cells rb mb).toArray,.int .i16 j,.int .i64 s] w λe w'=>e=aX 2/\aa ae w w':=by
 have HW:af (∀w',Calls prog 282 #[.agg #[.int .i64 v.so,.int .u64 v.bits,.pointer (v.aD.map λr=>⟨rb.getD r 0,0,none⟩),.pointer (v.tab.map λt=>⟨mb.getD t 0,0,none⟩)],.int .i64 2] w' λe w''=>e=aX 2/\aa ae w' w''):=λw'=>IC w' rb mb v 2 rq;show Calls _ _ #[.agg #[.int .i64 v.so,.int .u64 v.bits,.pointer (v.aD.map λr=>⟨rb.getD r 0,0,none⟩),.pointer (v.tab.map λt=>⟨mb.getD t 0,0,none⟩)],_,_] _ _
 clear rq;generalize v.aD.map (λr=>(⟨rb.getD r 0,0,none⟩:Addr))=p2 at *;generalize v.tab.map (λt=>(⟨mb.getD t 0,0,none⟩:Addr))=p3 at *;have HM:af (aa ae w (w.alloc (.cells #[.int .i64 v.so,.int .u64 v.bits,.pointer p2,.pointer p3] 130))):=aj;go_enter func286,ntmps286;go_wp2_with fail;refine(HW.o _).mono ?_;rintro e w1 ⟨rfl,m1⟩;exact⟨rfl,rfl,HM.o.trans m1⟩
theorem K4(w:tW)(rb mb:List Nat)(v:MV)(j:Int)(s t:Nat)(hR:∀w',aa ae w w'->Calls prog 286 #[.agg (v.cells rb mb).toArray,.int .i16 j,.int .i64 s] w' λe w''=>e=aX t/\aa ae w' w''):Calls prog 234 #[.agg (v.cells rb mb).toArray,.int .i16 j,.int .i64 s] w λe w'=>e=aX t/\aa ae w w':=by
 have Yl:af (∀w',aa ae w w'->Calls prog 286 #[.agg #[.int .i64 v.so,.int .u64 v.bits,.pointer (v.aD.map λr=>⟨rb.getD r 0,0,none⟩),.pointer (v.tab.map λt=>⟨mb.getD t 0,0,none⟩)],.int .i16 j,.int .i64 s] w' λe w''=>e=aX t/\aa ae w' w''):=hR;show Calls _ _ #[.agg #[.int .i64 v.so,.int .u64 v.bits,.pointer (v.aD.map λr=>⟨rb.getD r 0,0,none⟩),.pointer (v.tab.map λt=>⟨mb.getD t 0,0,none⟩)],_,_] _ _
 clear hR;generalize v.aD.map (λr=>(⟨rb.getD r 0,0,none⟩:Addr))=p2 at *;generalize v.tab.map (λt=>(⟨mb.getD t 0,0,none⟩:Addr))=p3 at *;go_enter func234,ntmps234;go_upto_region 2 with fail;have dD:af (aa ae w ((w.alloc (.cells #[.int .i64 v.so,.int .u64 v.bits,.pointer p2,.pointer p3] 130)).alloc (.cells #[.int .i64 0,.int .u64 0,.pointer none,.pointer none] 130))):=aj.alloc _;have HB2:af (ak ((w.alloc (.cells #[.int .i64 v.so,.int .u64 v.bits,.pointer p2,.pointer p3] 130)).alloc (.cells #[.int .i64 0,.int .u64 0,.pointer none,.pointer none] 130)) w.heap.size #[.int .i64 v.so,.int .u64 v.bits,.pointer p2,.pointer p3] 130):=(ak.new _ _ _).alloc _;generalize(w.alloc (.cells #[.int .i64 v.so,.int .u64 v.bits,.pointer p2,.pointer p3] 130)).alloc (.cells #[.int .i64 0,.int .u64 0,.pointer none,.pointer none] 130)=W2 at *;have z0:W2.cell? ⟨w.heap.size,0,none⟩=some (.int .i64 v.so):=HB2.o.cell 0;have z1:W2.cell? ⟨w.heap.size,1,none⟩=some (.int .u64 v.bits):=HB2.o.cell 1;have z2:W2.cell? ⟨w.heap.size,2,none⟩=some (.pointer p2):=HB2.o.cell 2;have z3:W2.cell? ⟨w.heap.size,3,none⟩=some (.pointer p3):=HB2.o.cell 3;go_wp2_with fail;refine(Yl.o _ dD.o).mono ?_;rintro e w3 ⟨rfl,m3⟩;exact⟨rfl,rfl,dD.o.trans m3⟩
theorem K5(w:tW)(rb mb:List Nat)(v x:MV)(j:Int)(s:Nat)(hx:x.so≠0):Calls prog 236 #[.agg (v.cells rb mb).toArray,.int .i16 j,.int .i64 s,.agg (x.cells rb mb).toArray] w λe w'=>e=aX 2/\aa ae w w':=by
 have HNU:af (∀w',Calls prog 207 #[.agg #[.int .i64 x.so,.int .u64 x.bits,.pointer (x.aD.map λr=>⟨rb.getD r 0,0,none⟩),.pointer (x.tab.map λt=>⟨mb.getD t 0,0,none⟩)]] w' λe w''=>e=aX 2/\aa ae w' w''):=λw'=>oP w' rb mb x hx;show Calls _ _ #[.agg #[.int .i64 v.so,.int .u64 v.bits,.pointer (v.aD.map λr=>⟨rb.getD r 0,0,none⟩),.pointer (v.tab.map λt=>⟨mb.getD t 0,0,none⟩)],_,_,.agg #[.int .i64 x.so,.int .u64 x.bits,.pointer (x.aD.map λr=>⟨rb.getD r 0,0,none⟩),.pointer (x.tab.map λt=>⟨mb.getD t 0,0,none⟩)]] _ _
 clear hx;generalize v.aD.map (λr=>(⟨rb.getD r 0,0,none⟩:Addr))=p2 at *;generalize v.tab.map (λt=>(⟨mb.getD t 0,0,none⟩:Addr))=p3 at *;generalize x.aD.map (λr=>(⟨rb.getD r 0,0,none⟩:Addr))=q2 at *;generalize x.tab.map (λt=>(⟨mb.getD t 0,0,none⟩:Addr))=q3 at *;go_enter func236,ntmps236;go_upto_region 1 with fail;have dD:af (aa ae w ((w.alloc (.cells #[.int .i64 v.so,.int .u64 v.bits,.pointer p2,.pointer p3] 130)).alloc (.cells #[.int .i64 x.so,.int .u64 x.bits,.pointer q2,.pointer q3] 130))):=aj.alloc _
 have xc:af (ak ((w.alloc (.cells #[.int .i64 v.so,.int .u64 v.bits,.pointer p2,.pointer p3] 130)).alloc (.cells #[.int .i64 x.so,.int .u64 x.bits,.pointer q2,.pointer q3] 130)) (w.heap.size+1) #[.int .i64 x.so,.int .u64 x.bits,.pointer q2,.pointer q3] 130):=by
  have:=ak.new (w.alloc (.cells #[.int .i64 v.so,.int .u64 v.bits,.pointer p2,.pointer p3] 130)) #[.int .i64 x.so,.int .u64 x.bits,.pointer q2,.pointer q3] 130
  rwa [World.size_alloc]at this
 generalize(w.alloc (.cells #[.int .i64 v.so,.int .u64 v.bits,.pointer p2,.pointer p3] 130)).alloc (.cells #[.int .i64 x.so,.int .u64 x.bits,.pointer q2,.pointer q3] 130)=W2 at *;generalize w.heap.size+1=Xb at *;have z0:W2.cell? ⟨Xb,0,none⟩=some (.int .i64 x.so):=xc.o.cell 0;have z1:W2.cell? ⟨Xb,1,none⟩=some (.int .u64 x.bits):=xc.o.cell 1;have z2:W2.cell? ⟨Xb,2,none⟩=some (.pointer q2):=xc.o.cell 2;have z3:W2.cell? ⟨Xb,3,none⟩=some (.pointer q3):=xc.o.cell 3;go_wp2_with fail;refine(HNU.o _).mono ?_;rintro e w3 ⟨rfl,m3⟩;exact⟨rfl,rfl,dD.o.trans m3⟩
theorem IJ(w:tW)(rb mb:List Nat)(v x:MV)(j:Int)(s t:Nat)(hx:x.so=0)(hR:∀w',aa ae w w'->Calls prog 286 #[.agg (v.cells rb mb).toArray,.int .i16 j,.int .i64 s] w' λe w''=>e=aX t/\aa ae w' w''):Calls prog 236 #[.agg (v.cells rb mb).toArray,.int .i16 j,.int .i64 s,.agg (x.cells rb mb).toArray] w λe w'=>e=aX t/\aa ae w w':=by
 have Yl:af (∀w',aa ae w w'->Calls prog 286 #[.agg #[.int .i64 v.so,.int .u64 v.bits,.pointer (v.aD.map λr=>⟨rb.getD r 0,0,none⟩),.pointer (v.tab.map λt=>⟨mb.getD t 0,0,none⟩)],.int .i16 j,.int .i64 s] w' λe w''=>e=aX t/\aa ae w' w''):=hR;have HNU:af (∀w',Calls prog 207 #[.agg #[.int .i64 x.so,.int .u64 x.bits,.pointer (x.aD.map λr=>⟨rb.getD r 0,0,none⟩),.pointer (x.tab.map λt=>⟨mb.getD t 0,0,none⟩)]] w' λe w''=>e=.returned (.int .u64 x.bits)/\aa ae w' w''):=λw'=>jQ w' rb mb x hx;show Calls _ _ #[.agg #[.int .i64 v.so,.int .u64 v.bits,.pointer (v.aD.map λr=>⟨rb.getD r 0,0,none⟩),.pointer (v.tab.map λt=>⟨mb.getD t 0,0,none⟩)],_,_,.agg #[.int .i64 x.so,.int .u64 x.bits,.pointer (x.aD.map λr=>⟨rb.getD r 0,0,none⟩),.pointer (x.tab.map λt=>⟨mb.getD t 0,0,none⟩)]] _ _
 clear hx hR;generalize v.aD.map (λr=>(⟨rb.getD r 0,0,none⟩:Addr))=p2 at *;generalize v.tab.map (λt=>(⟨mb.getD t 0,0,none⟩:Addr))=p3 at *;generalize x.aD.map (λr=>(⟨rb.getD r 0,0,none⟩:Addr))=q2 at *;generalize x.tab.map (λt=>(⟨mb.getD t 0,0,none⟩:Addr))=q3 at *;go_enter func236,ntmps236;go_upto_region 1 with fail;have dD:af (aa ae w ((w.alloc (.cells #[.int .i64 v.so,.int .u64 v.bits,.pointer p2,.pointer p3] 130)).alloc (.cells #[.int .i64 x.so,.int .u64 x.bits,.pointer q2,.pointer q3] 130))):=aj.alloc _;have HB2:af (ak ((w.alloc (.cells #[.int .i64 v.so,.int .u64 v.bits,.pointer p2,.pointer p3] 130)).alloc (.cells #[.int .i64 x.so,.int .u64 x.bits,.pointer q2,.pointer q3] 130)) w.heap.size #[.int .i64 v.so,.int .u64 v.bits,.pointer p2,.pointer p3] 130):=(ak.new _ _ _).alloc _
 have xc:af (ak ((w.alloc (.cells #[.int .i64 v.so,.int .u64 v.bits,.pointer p2,.pointer p3] 130)).alloc (.cells #[.int .i64 x.so,.int .u64 x.bits,.pointer q2,.pointer q3] 130)) (w.heap.size+1) #[.int .i64 x.so,.int .u64 x.bits,.pointer q2,.pointer q3] 130):=by
  have:=ak.new (w.alloc (.cells #[.int .i64 v.so,.int .u64 v.bits,.pointer p2,.pointer p3] 130)) #[.int .i64 x.so,.int .u64 x.bits,.pointer q2,.pointer q3] 130
  rwa [World.size_alloc]at this
 generalize(w.alloc (.cells #[.int .i64 v.so,.int .u64 v.bits,.pointer p2,.pointer p3] 130)).alloc (.cells #[.int .i64 x.so,.int .u64 x.bits,.pointer q2,.pointer q3] 130)=W2 at *;generalize w.heap.size+1=Xb at *;have z0:W2.cell? ⟨Xb,0,none⟩=some (.int .i64 x.so):=xc.o.cell 0;have z1:W2.cell? ⟨Xb,1,none⟩=some (.int .u64 x.bits):=xc.o.cell 1;have z2:W2.cell? ⟨Xb,2,none⟩=some (.pointer q2):=xc.o.cell 2;have z3:W2.cell? ⟨Xb,3,none⟩=some (.pointer q3):=xc.o.cell 3;go_wp2_with fail;refine(HNU.o _).mono ?_;rintro e w3 ⟨rfl,m3⟩;have dw:af (aa ae w w3):=dD.o.trans m3;have hb3:=HB2.o.ag m3 id;have z0:w3.cell? ⟨w.heap.size,0,none⟩=some (.int .i64 v.so):=hb3.cell 0;have z1:w3.cell? ⟨w.heap.size,1,none⟩=some (.int .u64 v.bits):=hb3.cell 1;have z2:w3.cell? ⟨w.heap.size,2,none⟩=some (.pointer p2):=hb3.cell 2;have z3:w3.cell? ⟨w.heap.size,3,none⟩=some (.pointer p3):=hb3.cell 3;clear m3 dD HB2 xc HNU hb3;go_wp2_with fail;refine(Yl.o _ dw.o).mono ?_;rintro e w4 ⟨rfl,m4⟩;exact⟨rfl,rfl,dw.o.trans m4⟩
theorem nJ.put{w w':tW}{rb:List Nat}{vs:List Value}{gs:List (List Nat)}(h:nJ w rb vs gs)(q:Nat)(hq:q<gs.length)(g n cap:Nat)(hv:vs.getD q undef=.slice (some ⟨g,0,none⟩) n cap)(l:List Nat)(hl:l.length=n)(hn:n=(gs.getD q []).length)(m:aa (Only g) w w')(hs:pH w' (.slice (some ⟨g,0,none⟩) n cap) n l):nJ w' rb vs (gs.set q l):=by
 have hsq:=h.sl q hq;rw[hv]at hsq;refine⟨by rw[b5];exact h.lr,by rw[b5];exact h.lv,λi hi=>?_,λi hi=>?_,λi k hi hk e=>?_,λi k b hi hk e e'=>?_⟩
 all_goals rw[b5]at *
 ·exact(h.blk i hi).ag m (λe=>hsq.au (h.blk i hi) (by decide) (by rw[show rb.getD i 0=g from e];rfl))
 ·rw[oQ _ _ _ _ _ hq];by_cases hh:i=q
  ·subst hh;rw[iP9 rfl,hv,hl];exact hs
  ·rw[iN9 hh];exact(h.sl i hi).ag m (λk hk e=>hh (h.IG i q k hi hq hk (by rw[hv,show k=g from e];rfl)))
 ·exact h.inj i k hi hk e
 ·exact h.IG i k b hi hk e e'
def dK(gs:List (List Nat))(v:MV)(j:Int)(s:Nat):Nat:=if v.so≠2 then 2 else if kQ v j+s<=(gs.getD (v.aD.getD 0) []).length then 0 else 3
def DS(gs:List (List Nat))(v:MV)(j:Int)(s:Nat):Nat:=leN (((gs.getD (v.aD.getD 0) []).drop (kQ v j)).take s)
def storeT(gs:List (List Nat))(v:MV)(j:Int)(s:Nat)(x:MV):Nat:=if x.so≠0 then 2 else dK gs v j s
def B6(gs:List (List Nat))(v:MV)(j:Int)(s:Nat)(x:MV):List (List Nat):=gs.set (v.aD.getD 0) (putB (gs.getD (v.aD.getD 0) []) (kQ v j) x.bits s)
def MV.Pt(v:MV)(n:Nat):Prop:=v.so=2->∃q,v.aD=some q/\q<n
def zN(gs:List (List Nat)):Prop:=∀g∈gs,g.length<=1000/\∀b∈g,b<256
section
variable {w : World} {rb mb : List Nat} {vs : List Value} {gs : List (List Nat)}
theorem nJ.view(h:nJ w rb vs gs)(q:Nat)(hq:q<gs.length):∃o cap,vs.getD q undef=.slice o (gs.getD q []).length cap/\(0<(gs.getD q []).length->∃g,o=some ⟨g,0,none⟩/\(gs.getD q []).length<=cap):=(h.sl q hq).view
theorem zN.at(h:zN gs)(q:Nat)(hq:q<gs.length):(gs.getD q []).length<=1000/\∀b∈gs.getD q [],b<256:=by rw[List.getD_eq_getElem?_getD,List.getElem?_eq_getElem hq];exact h _ (ba _)
theorem IK(h:nJ w rb vs gs)(hg:zN gs)(v:MV)(hv:v.Pt gs.length)(j:Int)(s:Nat)(hs:0<s/\s<=8)(hT:dK gs v j s≠0):∀w',aa ae w w'->Calls prog 286 #[.agg (v.cells rb mb).toArray,.int .i16 j,.int .i64 s] w' λe w''=>e=aX (dK gs v j s)/\aa ae w' w'':=by
 intro w' m;unfold dK at hT ⊢;by_cases rq:v.so=2
 ·rw[iN9 (by simp[rq])]at hT ⊢;obtain⟨q,hr,hq⟩:=hv rq;rw[hr,an]at hT ⊢;by_cases hok:kQ v j+s<=(gs.getD q []).length
  ·rw[iP9 hok]at hT;exact absurd rfl hT
  ·rw[iN9 hok];obtain⟨o,cap,e,_⟩:=h.view q hq;have hb:=(h.blk q hq).ag m id;rw[e]at hb;exact UL w' rb mb v q hr rq o _ cap hb (hg.at q hq).1 j s hs hok
 ·rw[iP9 rq];exact Qx w' rb mb v rq j s
theorem Ym(h:nJ w rb vs gs)(hg:zN gs)(v:MV)(hv:v.Pt gs.length)(j:Int)(s:Nat)(hs:0<s/\s<=8):Calls prog 234 #[.agg (v.cells rb mb).toArray,.int .i16 j,.int .i64 s] w λe w'=>e=(if dK gs v j s=0 then .returned (.agg ((kI (DS gs v j s)).cells rb mb).toArray)else aX (dK gs v j s))/\aa ae w w':=by
 by_cases hT:dK gs v j s=0
 ·rw[iP9 hT];unfold dK at hT;by_cases rq:v.so=2
  ·rw[iN9 (by simp[rq])]at hT;obtain⟨q,hr,hq⟩:=hv rq;rw[hr,an]at hT;by_cases hok:kQ v j+s<=(gs.getD q []).length
   ·obtain⟨o,cap,e,hb⟩:=h.view q hq;obtain⟨g,rfl,hc⟩:=hb (by omega);have hB:=h.blk q hq;have hS:=h.sl q hq;rw[e]at hB hS;unfold DS;rw[hr,an];exact Qw w rb mb v q hr rq g _ cap hB _ rfl (hg.at q hq).2 hS (hg.at q hq).1 hc j s hs hok
   ·rw[iN9 hok]at hT;cases hT
  ·rw[iP9 rq]at hT;cases hT
 ·rw[iN9 hT];exact K4 w rb mb v j s _ (IK h hg v hv j s hs hT)
theorem UN(h:nJ w rb vs gs)(hg:zN gs)(v:MV)(hv:v.Pt gs.length)(j:Int)(s:Nat)(hs:0<s/\s<=8)(x:MV):Calls prog 236 #[.agg (v.cells rb mb).toArray,.int .i16 j,.int .i64 s,.agg (x.cells rb mb).toArray] w λe w'=>if storeT gs v j s x=0 then e=.returned (.tuple #[])/\nJ w' rb vs (B6 gs v j s x)/\aa (Own (vs.getD (v.aD.getD 0) undef)) w w' else e=aX (storeT gs v j s x)/\aa ae w w':=by
 unfold storeT;by_cases hx:x.so=0
 ·rw[iN9 (by simp[hx]:¬x.so≠0)];by_cases hT:dK gs v j s=0
  ·simp only[iP9 hT];unfold dK at hT;by_cases rq:v.so=2
   ·rw[iN9 (by simp[rq])]at hT;obtain⟨q,hr,hq⟩:=hv rq;rw[hr,an]at hT;by_cases hok:kQ v j+s<=(gs.getD q []).length
    ·obtain⟨o,cap,e,hb⟩:=h.view q hq;obtain⟨g,rfl,hc⟩:=hb (by omega);have hB:=h.blk q hq;have hS:=h.sl q hq;rw[e]at hB hS;unfold B6;rw[hr,an];refine(K3 w rb mb v q hr rq g _ cap hB _ rfl hS (hg.at q hq).1 hc j s hs hok x hx).mono ?_;rintro en w' ⟨rfl,hS',m'⟩;exact⟨rfl,h.put q hq g _ cap e _ (by rw[xO]) rfl m' hS',m'.mono (λk _ hk=>by rw[e];exact congrArg some (show k=g from hk).symm)⟩
    ·rw[iN9 hok]at hT;cases hT
   ·rw[iP9 rq]at hT;cases hT
  ·simp only[iN9 hT];exact IJ w rb mb v x j s _ hx (IK h hg v hv j s hs hT)
 ·rw[iP9 hx];simp only[show ¬(2:Nat)=0 from by omega,if_false];exact K5 w rb mb v x j s hx
end
theorem UO(w:tW)(rb mb:List Nat)(v:MV):Calls prog 275 #[.agg (v.cells rb mb).toArray] w λe w'=>e=.returned (.tuple #[.int .u64 v.bits,.bool (decide (v.so=2))])/\aa ae w w':=by
 show Calls _ _ #[.agg #[.int .i64 v.so,.int .u64 v.bits,.pointer (v.aD.map λr=>⟨rb.getD r 0,0,none⟩),.pointer (v.tab.map λt=>⟨mb.getD t 0,0,none⟩)]] _ _
 have HD:af (((v.so:Int)==2)=decide (v.so=2)):=by unfold af;rw[Bool.eq_iff_iff];simp;omega
 generalize v.aD.map (λr=>(⟨rb.getD r 0,0,none⟩:Addr))=p2 at *;generalize v.tab.map (λt=>(⟨mb.getD t 0,0,none⟩:Addr))=p3 at *;have HM:af (aa ae w (w.alloc (.cells #[.int .i64 v.so,.int .u64 v.bits,.pointer p2,.pointer p3] 130))):=aj;have HB:af (ak (w.alloc (.cells #[.int .i64 v.so,.int .u64 v.bits,.pointer p2,.pointer p3] 130)) w.heap.size #[.int .i64 v.so,.int .u64 v.bits,.pointer p2,.pointer p3] 130):=ak.new _ _ _;go_enter func275,ntmps275;go_upto_region 1 with fail;generalize w.alloc (.cells #[.int .i64 v.so,.int .u64 v.bits,.pointer p2,.pointer p3] 130)=W1 at *;have z0:W1.cell? ⟨w.heap.size,0,none⟩=some (.int .i64 v.so):=HB.o.cell 0;have z1:W1.cell? ⟨w.heap.size,1,none⟩=some (.int .u64 v.bits):=HB.o.cell 1;clear HB;go_quiet (fail);have dD:af (aa ae w (W1.drewN nq)):=HM.o.drewN nq;clear z0 z1;generalize W1.drewN nq=W2 at *;rw[HD.o];go_wp2_with fail;go_ret2;exact⟨rfl,dD.o⟩
theorem Yn(w:tW)(rb mb:List Nat)(v:MV)(n:Nat):Calls prog 276 #[.agg (v.cells rb mb).toArray,.int .u64 n] w λe w'=>e=.returned (.agg (({v with bits:=n}:MV).cells rb mb).toArray)/\aa ae w w':=by
 show Calls _ _ #[.agg #[.int .i64 v.so,.int .u64 v.bits,.pointer (v.aD.map λr=>⟨rb.getD r 0,0,none⟩),.pointer (v.tab.map λt=>⟨mb.getD t 0,0,none⟩)],_] _ λe w'=>e=.returned (.agg #[.int .i64 v.so,.int .u64 n,.pointer (v.aD.map λr=>⟨rb.getD r 0,0,none⟩),.pointer (v.tab.map λt=>⟨mb.getD t 0,0,none⟩)])/\_
 generalize v.aD.map (λr=>(⟨rb.getD r 0,0,none⟩:Addr))=p2 at *;generalize v.tab.map (λt=>(⟨mb.getD t 0,0,none⟩:Addr))=p3 at *;go_enter func276,ntmps276;have HM:af (aa ae w ((w.alloc (.cells #[.int .i64 v.so,.int .u64 n,.pointer p2,.pointer p3] 130)).alloc (.cells #[.int .i64 v.so,.int .u64 n,.pointer p2,.pointer p3] 130))):=aj.alloc _
 have HB:af (ak ((w.alloc (.cells #[.int .i64 v.so,.int .u64 n,.pointer p2,.pointer p3] 130)).alloc (.cells #[.int .i64 v.so,.int .u64 n,.pointer p2,.pointer p3] 130)) (w.heap.size+1) #[.int .i64 v.so,.int .u64 n,.pointer p2,.pointer p3] 130):=by
  have:=ak.new (w.alloc (.cells #[.int .i64 v.so,.int .u64 n,.pointer p2,.pointer p3] 130)) #[.int .i64 v.so,.int .u64 n,.pointer p2,.pointer p3] 130
  rwa [World.size_alloc]at this
 go_wp2_with fail;exact bodyPost_ret (results_cell_row results276 _ _ (w.heap.size+1) 130 _ (0,0) _ rfl HB.o underlying130 rfl (by kernel_rfl)) rfl ⟨rfl,HM.o⟩
def Qy(l:List Nat):List Value:=l.map λ(n:Nat)=>Value.int .u64 n
def aC.logged(r:aC)(n:Nat):aC:=aC.answer {r with log:=r.log++[n]} (kI 0)
def ic(s:tBA):List Nat:=s.data.toList.map (·.toNat)
def mq(s:tBA):tBA:=s.extract 0 (min s.size 32)
theorem K6(w:tW)(inp:tBA)(hi:inp.size<=1000):∃cap W1,(convert 9 30 (.string inp)).run prog w=.ok (.slice (some ⟨w.heap.size,0,none⟩) inp.size cap) W1/\aa ae w W1/\pH W1 (.slice (some ⟨w.heap.size,0,none⟩) inp.size cap) inp.size (ic inp)/\W1.heap.size=w.heap.size+1:=by
 have hc:=run_bytes_of_string (P:=prog) w 9 30 5 inp underlying9 underlying30 underlying5;have h1:=grownCap_ge w inp.size 0 5;have h2:=grownCap_le_maxLen w inp.size 0 5 (by unfold maxLen;omega);refine⟨_,_,hc,((aa.refl ae w).drew).alloc _,⟨?_,.inr ⟨w.heap.size,grownCap w inp.size 0 5,bytesRow inp (grownCap w inp.size 0 5),(bytesRow inp (grownCap w inp.size 0 5)).size,(bytesRow inp (grownCap w inp.size 0 5)).size+1,rfl,?_,h1,h2,.inr ?_,?_⟩⟩,?_⟩
 ·unfold ic;rw[b9];rfl
 ·exact heap_alloc_new w.drew _
 ·unfold bytesRow;rw[Array.size_append,Array.size_map];exact Nat.le_add_right _ _
 ·unfold bytesRow BX ic;rw[Array.toList_append,Array.toList_map,List.take_append_of_le_length (by rw[b9];exact ar _),cb (by rw[b9];exact ar _),List.map_map];rfl
 ·rw[World.size_alloc];rfl
theorem nJ.K7{w w':tW}{rb:List Nat}{vs:List Value}{gs:List (List Nat)}(h:nJ w rb vs gs){b:Nat}{cs:tAV}{t t':TypeId}{size n:Nat}{v:Value}{xs:List Value}(hb:ak w b cs t)(h1:t≠122)(h2:t≠5)(hs:Sl w t' size v n xs)(h3:t'≠122)(h4:t'≠5)(m:aa (λk=>k=b\/Own v k) w w'):nJ w' rb vs gs :=
 h.ag m (λi hi e=>by
  rcases e with e|e
  ·have:=h.blk i hi;rw[e]at this;unfold ak at this hb;rw[hb]at this;cases this;exact h1 rfl
  ·exact hs.au (h.blk i hi) h3 e) (λi k hi hk e=>by
  rcases e with e|e
  ·subst e;exact(h.sl i hi).au hb h2 hk
  ·exact(h.sl i hi).apart hs h4 hk e)
theorem nJ.addN{w:tW}{rb:List Nat}{vs:List Value}{gs:List (List Nat)}(h:nJ w rb vs gs)(N:Nat)(ho:∀i,i<gs.length->rb.getD i 0<N/\∀k,(vs.getD i undef).ownBlock=some k->k<N)(b:Nat)(v:Value)(g:List Nat)(hb:ak w b #[v] 122)(hs:pH w v g.length g)(h1:N<=b)(h2:∀k,v.ownBlock=some k->N<=k):nJ w (rb++[b]) (vs++[v]) (gs++[g]):=by
 have e1:=h.lr;have e2:=h.lv;refine⟨by simp[e1],by simp[e2],λi hi=>?_,λi hi=>?_,λi j hi hj e=>?_,λi j k hi hj e e'=>?_⟩
 all_goals simp only[ab,al,bh]at *
 ·rw[dI,dI,e1,e2];by_cases hh:i<gs.length
  ·rw[iP9 hh,iP9 hh];exact h.blk i hh
  ·rw[iN9 hh,iN9 hh,iP9 (by omega),iP9 (by omega)];exact hb
 ·rw[dI,dI,e2];by_cases hh:i<gs.length
  ·rw[iP9 hh,iP9 hh];exact h.sl i hh
  ·rw[iN9 hh,iN9 hh,iP9 (by omega),iP9 (by omega)];exact hs
 ·rw[dI,dI,e1]at e;by_cases hi':i<gs.length<;>by_cases hj':j<gs.length
  ·rw[iP9 hi',iP9 hj']at e;exact h.inj i j hi' hj' e
  ·rw[iP9 hi',iN9 hj',iP9 (by omega)]at e;have:=(ho i hi').1;omega
  ·rw[iN9 hi',iP9 hj',iP9 (by omega)]at e;have:=(ho j hj').1;omega
  ·omega
 ·rw[dI,e2]at e e';by_cases hi':i<gs.length<;>by_cases hj':j<gs.length
  ·rw[iP9 hi']at e;rw[iP9 hj']at e';exact h.IG i j k hi' hj' e e'
  ·rw[iP9 hi']at e;rw[iN9 hj',iP9 (by omega)]at e';have:=(ho i hi').2 k e;have:=h2 k e';omega
  ·rw[iN9 hi',iP9 (by omega)]at e;rw[iP9 hj']at e';have:=(ho j hj').2 k e';have:=h2 k e;omega
  ·omega
def DT(fn F q n:Nat):aC:=(((({fuel:=F,inp:=q}:aC).enter fn (q+1)).eY 1 (uA q 0)).eY 2 (kI n))
theorem Qz(w:tW)(rb mb:List Nat)(vs:List Value)(gs:List (List Nat))(hR:nJ w rb vs gs)(oM:Option Addr)(nM cM:Nat)(fn:Nat)(s:tBA)(hs:s.size<=281474976710656)(fuel:Int)(hf:-9223372036854775808<=fuel/\fuel<=9223372036854775807):Calls prog 30 #[.slice oM nM cM,.int .i64 fn,.string s,.int .i64 fuel] w λe w'=>∃b R S v1 v2 vC,e=.returned (.pointer (some ⟨b,0,none⟩))/\aB w' b (rb++[R]++[S]) mb (.slice oM nM cM) vC (.slice none 0 0) (DT fn (min (max fuel 0) 5000).toNat gs.length (mq s).size)/\nJ w' (rb++[R]++[S]) (vs++[v1]++[v2]) (gs++[ic (mq s)]++[bu])/\aa ae w w'/\w.heap.size<=b/\(∀k,vC.ownBlock=some k->w.heap.size<=k)/\w.heap.size<=R/\w.heap.size<=S/\(∀k,v1.ownBlock=some k->w.heap.size<=k)/\(∀k,v2.ownBlock=some k->w.heap.size<=k):=by
 have hmin:min (s.size:Int) 32=((min s.size 32:Nat):Int):=by omega
 have hfu:min (max fuel 0) 5000=(((min (max fuel 0) 5000).toNat:Nat):Int):=by omega
 generalize(min (max fuel 0) 5000).toNat=F at *;have HIS:af ((s.extract 0 (min s.size 32)).size<=32):=by unfold af;rw[ByteArray.size_extract];omega
 unfold mq;generalize aew:s.extract 0 (min s.size 32)=inp at *;obtain⟨cap,W1,hcv,m1,hb1,hsz⟩:=K6 w inp (by have:=HIS.o;omega);have HCV:=ai hcv;have HLR:af (rb.length=gs.length):=hR.lr;have HLV:af (vs.length=gs.length):=hR.lv;have HRQ:af (nJ (W1.alloc (.cells #[.slice (some ⟨w.heap.size,0,none⟩) inp.size cap] 122)) (rb++[W1.heap.size]) (vs++[.slice (some ⟨w.heap.size,0,none⟩) inp.size cap]) (gs++[ic inp])):=by have hl:(ic inp).length=inp.size:=hb1.1;refine hR.add (m1.alloc _) _ _ _ (ak.new W1 _ _) (by rw[hl];exact hb1.ag ((aa.refl ae W1).alloc _) (λ_ _=>id)) (by omega) (λk hk=>by cases hk;exact ar _)
 have dD:af (aa ae w (W1.alloc (.cells #[.slice (some ⟨w.heap.size,0,none⟩) inp.size cap] 122))):=m1.alloc _;have HS2:af ((W1.alloc (.cells #[.slice (some ⟨w.heap.size,0,none⟩) inp.size cap] 122)).heap.size=W1.heap.size+1):=World.size_alloc _ _;have IA:=ai hsz;clear hcv m1 hb1 hsz hR;go_enter func30,ntmps30;go_upto_region 3 with(first|rw[HCV.o]|rw[aew,HCV.o])
 generalize W1.alloc (.cells #[.slice (some ⟨w.heap.size,0,none⟩) inp.size cap] 122)=W2 at *;rw[<-HS2.o];clear HCV;generalize hRe:W1.heap.size=R at *;have HRe:=ai hRe;have Wg:af (w.heap.size<=R):=by have:=IA.o;have:=HRe.o;unfold af;omega
 clear hRe;have HB3:af (ak (W2.alloc (.cells #[.slice oM nM cM,.pointer (some ⟨R,0,none⟩),.slice none 0 0,.int .i64 F,.int .i64 0,.slice none 0 0,.int .u64 0,.bool false] 125)) W2.heap.size #[.slice oM nM cM,.pointer (some ⟨R,0,none⟩),.slice none 0 0,.int .i64 F,.int .i64 0,.slice none 0 0,.int .u64 0,.bool false] 125):=ak.new _ _ _;have dw:af (aa ae w (W2.alloc (.cells #[.slice oM nM cM,.pointer (some ⟨R,0,none⟩),.slice none 0 0,.int .i64 F,.int .i64 0,.slice none 0 0,.int .u64 0,.bool false] 125))):=dD.o.alloc _;have xX:af (nJ (W2.alloc (.cells #[.slice oM nM cM,.pointer (some ⟨R,0,none⟩),.slice none 0 0,.int .i64 F,.int .i64 0,.slice none 0 0,.int .u64 0,.bool false] 125)) (rb++[R]) (vs++[.slice (some ⟨w.heap.size,0,none⟩) inp.size cap]) (gs++[ic inp])):=HRQ.o.quiet ((aa.refl ae W2).alloc _);have TV:af (w.heap.size<=W2.heap.size):=dD.o.size;generalize W2.alloc (.cells #[.slice oM nM cM,.pointer (some ⟨R,0,none⟩),.slice none 0 0,.int .i64 F,.int .i64 0,.slice none 0 0,.int .u64 0,.bool false] 125)=W3 at *;generalize W2.heap.size=b at *;have HGR:af ((rb++[R]).getD gs.length 0=R):=by unfold af;rw[dI,HLR.o,iN9 (Nat.lt_irrefl _),iP9 rfl]
 have kG:af (aB W3 b (rb++[R]) mb (.slice oM nM cM) (.slice none 0 0) (.slice none 0 0) {fuel:=F,inp:=gs.length}):=⟨by rw[HGR.o];exact HB3.o,Sl.nil _ _ _,(λf hf=>by cases hf),by show 0<=8;omega⟩
 have Kz:=ai (DN W3 b (rb++[R]) mb _ _ _ _ kG.o (by show 0<8;omega) fn ⟨by show gs.length<(rb++[R]).length;rw[ab,HLR.o];exact Nat.lt_succ_self _,λf hf=>by cases hf⟩);clear HRQ HB3;go_wp2_with fail;refine Kz.o.mono ?_;rintro e w4 ⟨vC,rfl,hr4,m4,l4,g4,s4⟩
 have wm:af (nJ w4 (rb++[R]++[W3.heap.size+1]) (vs++[.slice (some ⟨w.heap.size,0,none⟩) inp.size cap]++[.slice (some ⟨W3.heap.size,0,none⟩) 64 64]) (gs++[ic inp]++[bu])) :=
  (xX.o.K7 kG.o.blk (by decide) (by decide) kG.o.calls (by decide) (by decide) m4).addN W3.heap.size (λi hi=>⟨(xX.o.blk i hi).lt,λk hk=>(xX.o.sl i hi).lt k hk⟩) _ _ _ g4 (s4.bys rfl) (Nat.le_succ _) (λk hk=>by cases hk;exact ar _)
 have fU:af (aa (λk=>k=b) w w4):=(dw.o.mono (λ_ _ h=>h.elim)).trans (m4.mono (λ_ _ h=>h.elim id (λh=>by cases h)));have Q9:af (∀k,vC.ownBlock=some k->w.heap.size<=k):=λk hk=>(l4 k hk).elim (λh=>by cases h) (λh=>by have:=dw.o.size;omega);have FY:af ((rb++[R]).length=gs.length+1):=by unfold af;rw[ab,HLR.o];rfl
 have V5:af (aB w4 b (rb++[R]++[W3.heap.size+1]) mb (.slice oM nM cM) vC (.slice none 0 0) (({fuel:=F,inp:=gs.length}:aC).enter fn (gs.length+1))):=by rw[<-FY.o];exact hr4
 have HSN:af (w.heap.size<=W3.heap.size+1):=by have:=dw.o.size;unfold af;omega
 have HSV:af (w.heap.size<=W3.heap.size):=dw.o.size;generalize W3.heap.size+1=S at *;have HGS:af ((rb++[R]++[S]).getD gs.length 0=R):=by unfold af;rw[jR _ _ _ _ (by rw[FY.o];omega)];exact HGR.o
 clear hr4 m4 l4 g4 s4 Kz xX kG dw
 have qQ:af (∀fn':aC,0<(({fuel:=F,inp:=gs.length}:aC).enter fn (gs.length+1)).calls.length):=λ_=>by
  unfold aC.enter;rw[aC.gj];show 0<([]++[_]).length
  exact Nat.succ_pos _
 generalize hr0:({fuel:=F,inp:=gs.length}:aC).enter fn (gs.length+1)=r0 at *;have HVP:af (∀w',Calls prog 55 #[.pointer (some ⟨R,0,none⟩),.int .u64 0] w' λe w''=>e=.returned (.agg #[.int .i64 2,.int .u64 0,.pointer (some ⟨R,0,none⟩),.pointer none])/\aa ae w' w''):=λw'=>by have:=IE w' (rb++[R]++[S]) mb gs.length 0;rw[HGS.o]at this;unfold uA MV.cells at this;simp only[bt,cw,HGS.o]at this;exact this
 have HST:af (∀w',aa ae w4 w'->Calls prog 54 #[.pointer (some ⟨b,0,none⟩),.int .u8 1,.agg #[.int .i64 2,.int .u64 0,.pointer (some ⟨R,0,none⟩),.pointer none]] w' λe w''=>e=.returned (.tuple #[])/\aB w'' b (rb++[R]++[S]) mb (.slice oM nM cM) vC (.slice none 0 0) (r0.eY 1 (uA gs.length 0))/\aa (Own vC) w' w''):=λw' m=>by have:=xM w' b (rb++[R]++[S]) mb _ _ _ _ (V5.o.quiet m) (qQ.o r0) 1 (by omega) (uA gs.length 0);unfold uA MV.cells at this;simp only[bt,cw,HGS.o]at this;exact this
 go_wp2_with fail;refine(HVP.o _).mono ?_;rintro e w5 ⟨rfl,m5⟩;have iC:=ai m5;clear m5 HVP;go_wp2_with fail;refine(HST.o _ iC.o).mono ?_;rintro e w6 ⟨rfl,ZS,m6⟩;have h5:=V5.o.quiet iC.o;have Jq:af (nJ w6 (rb++[R]++[S]) (vs++[.slice (some ⟨w.heap.size,0,none⟩) inp.size cap]++[.slice (some ⟨W3.heap.size,0,none⟩) 64 64]) (gs++[ic inp]++[bu])):=(wm.o.quiet iC.o).K7 h5.blk (by decide) (by decide) h5.calls (by decide) (by decide) (m6.mono (λ_ _ h=>.inr h));have HA6:=ai ZS;have sW:af (aa (λk=>k=b\/Own vC k) w w6):=((fU.o.mono (λ_ _ h=>.inl h)).trans (iC.o.mono (λ_ _ h=>h.elim))).trans (m6.mono (λ_ _ h=>.inr h));have z0:w6.cell? ⟨R,0,none⟩=some (.slice (some ⟨w.heap.size,0,none⟩) inp.size cap):=by have hb:=Jq.o.blk gs.length (by simp only[ab,al,bh];omega);rw[HGS.o]at hb;rw[jR _ _ _ _ (by rw[ab,HLV.o];exact Nat.lt_succ_self _),dI,HLV.o,iN9 (Nat.lt_irrefl _),iP9 rfl]at hb;exact hb.cell 0
 have HVN:af (∀w',Calls prog 56 #[.int .u64 inp.size] w' λe w''=>e=.returned (.agg #[.int .i64 0,.int .u64 inp.size,.pointer none,.pointer none])/\aa ae w' w''):=λw'=>xN w' [] [] inp.size;have kD:af (0<(r0.eY 1 (uA gs.length 0)).calls.length):=by unfold af;rw[aC.gj];exact qQ.o r0
 have HS7:af (∀w',aa ae w6 w'->Calls prog 54 #[.pointer (some ⟨b,0,none⟩),.int .u8 2,.agg #[.int .i64 0,.int .u64 inp.size,.pointer none,.pointer none]] w' λe w''=>e=.returned (.tuple #[])/\aB w'' b (rb++[R]++[S]) mb (.slice oM nM cM) vC (.slice none 0 0) (DT fn F gs.length inp.size)/\aa (Own vC) w' w''):=λw' m=>by have:=xM w' b (rb++[R]++[S]) mb _ _ _ _ (HA6.o.quiet m) kD.o 2 (by omega) (kI inp.size);unfold DT;rw[hr0];exact this
 have hwr:IntKind.u64.wrap (inp.size:Int)=inp.size:=IntWalk.u64_in _ (by have:=HIS.o;omega);clear ZS m6 h5 HST wm V5 fU iC;go_wp2_with fail;refine(HVN.o _).mono ?_;rintro e w7 ⟨rfl,m7⟩;have xG:=ai m7;clear m7 HVN z0;go_wp2_with fail;refine(HS7.o _ xG.o).mono ?_;rintro e w8 ⟨rfl,hr8,m8⟩;have HA8:=ai hr8;have FV:=ai m8;clear hr8 m8 HS7;go_wp2_with fail;go_ret;have h7:=HA6.o.quiet xG.o;have hm:aa (λk=>k=b\/Own vC k) w w8:=(sW.o.trans (xG.o.mono (λ_ _ h=>h.elim))).trans (FV.o.mono (λ_ _ h=>.inr h));exact⟨b,R,S,_,_,vC,rfl,HA8.o,(Jq.o.quiet xG.o).K7 h7.blk (by decide) (by decide) h7.calls (by decide) (by decide) (FV.o.mono (λ_ _ h=>.inr h)),(aa.refl ae w).step hm (λk hk e=>by rcases e with e|e;(have:=TV.o;omega);(have:=Q9.o k e;omega)),TV.o,Q9.o,Wg.o,HSN.o,λk hk=>by cases hk;exact ar _,λk hk=>by cases hk;exact HSV.o⟩
def strOf(l:List Nat):tBA:=⟨(l.map UInt8.ofNat).toArray⟩
theorem Ca(w:tW)(g n cap:Nat)(l:List Nat)(hb:∀b∈l,b<256)(h:pH w (.slice (some ⟨g,0,none⟩) n cap) n l):(convert 30 9 (.slice (some ⟨g,0,none⟩) n cap)).run prog w=.ok (.string (strOf l)) w:=by
 have hl:=h.1
 have key:=run_convert_bytes_back (P:=prog) w 30 9 5 ⟨g,0,none⟩ cap (l.map UInt8.ofNat) underlying30 underlying5 underlying9 (λj hj=>by
  have hadd:(⟨g,0,none⟩:Addr).add j=⟨g,j,none⟩:=by unfold Addr.add;split<;>simp_all
  have hj':j<l.length:=by simpa using hj
  rw[hadd,(h.cell j (by omega)).1,List.getD_eq_getElem?_getD,List.getElem?_eq_getElem hj'];have:=hb l[j] (ba _);simp only[List.getElem_map,an];rw[show(UInt8.ofNat l[j]).toNat=l[j]from by rw[UInt8.toNat_ofNat'];omega])
 rw[b9,hl]at key;exact key
