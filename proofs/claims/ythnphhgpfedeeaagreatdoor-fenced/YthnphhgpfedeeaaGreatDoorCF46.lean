import Derived.Test.YthnphhgpfedeeaaGreatDoorCF45
namespace Go.Proofs.YthnphhgpfedeeaaGreatDoor
open Go.RowKit Tryz
open _root_.Array renaming replicate->ao
open List renaming take_succ_cons->ab,drop_succ_cons->al
open Region renaming noSelect->an
set_option linter.all false
set_option maxRecDepth 100000
set_option maxHeartbeats 1000000
theorem gy{P:Program}{id:Nat}{Q:Exit->Act->tW->Prop}{a:Act}{w:tW}{l:List Oper}(S:Nat->Prop)(n:Nat)(es:List Nat)(hm:P.follows .mixedOrders=true)(hB:(an l.toArray&&decide (n<l.toArray.size)&&Region.sinkB .any l.toArray n&&Region.chainB .any l.toArray n&&chainB .any l.toArray es&&lexX .any l.toArray es (λj=>decide (j<n)) (Region.seqB .any l.toArray (l.toArray.size-n) n) (List.range' 0 (l.take n).length) (ao l.toArray.size false))=true)(h:Nonempty (Ext S w)->af (aa S w w.drew)->wpMix P l.toArray (λw'=>∃e:Ext S w,w'=e.w) es (λa' w'=>wpList P l.toArray Q (l.drop n) a' w') 0 (l.take n) a w.drew):(Code.region id l.toArray true).wp P Q a w :=
 dC n es _ hm hB ⟨⟨_,aJ⟩,rfl⟩ (h (Ext.ne _ _) aJ)
theorem iO{P:Program}{id:Nat}{Q:Exit->Act->tW->Prop}{a:Act}{w:tW}{l:List Oper}(S:Nat->Prop)(p:Nat)(es ks:List Nat)(E:List PanicEntry->tW->Prop)(hm:P.follows .mixedOrders=true)(hB:(an l.toArray&&lexX .any l.toArray es (λi=>i != p) (λlisted=>Region.ready .any l.toArray listed==[p]) ks (ao l.toArray.size false)&&chainB .any l.toArray es&&es.contains p&&decide (ks.length<l.toArray.size))=true)(hQ:∀c a' w',a'.defers=a.defers->E c w'->Q (.panic c) a' w')(h:Nonempty (Ext S w)->af (aa S w w.drew)->wpMixL P l.toArray (λw'=>∃e:Ext S w,w'=e.w) es (wy P l.toArray p a.defers E) ks a w.drew):(Code.region id l.toArray true).wp P Q a w :=
 zZ p es ks _ E hm hB ⟨⟨_,aJ⟩,rfl⟩ hQ (h (Ext.ne _ _) aJ)
def QA(w:tW)(f:FuncId)(args:tAV)(ek:Ending):Prop:=∀w',aa ae w w'->Calls prog f args w' λe w''=>e=ek/\aa ae w' w''
def QE(W:tW)(f:FuncId)(args:tAV)(ek:Ending):Prop:=∀w',af (aa ae W w')->Calls prog f args w' λe w''=>e=ek/\af (aa ae W w'')
theorem QA.to{w W:tW}{f:FuncId}{args:tAV}{ek:Ending}(h:QA w f args ek)(m:aa ae w W):af (QE W f args ek):=λw' m'=>(h w' (m.trans m'.o)).mono λ_ _ hh=>⟨hh.1,m'.o.trans hh.2⟩
theorem um{W w':tW}{f:FuncId}{args:tAV}{ek:Ending}(h:af (QE W f args ek))(m:af (aa ae W w')):Calls prog f args w' λe w''=>e=ek/\af (aa ae W w''):=h.o w' m
theorem QA.all{w:tW}{f:FuncId}{args:tAV}{ek:Ending}(h:∀w',Calls prog f args w' λe w''=>e=ek/\aa ae w' w''):QA w f args ek:=λw' _=>h w'
theorem QA.same{w:tW}{f:FuncId}{args:tAV}{ek:Ending}(h:∀w',Calls prog f args w' λe w''=>e=ek/\w''=w'):QA w f args ek:=λw' _=>(h w').mono λ_ _ hh=>⟨hh.1,hh.2 ▸ ax⟩
theorem ak.four{w:tW}{b:Nat}{a0 a1 a2 a3:Value}{t:TypeId}(h:ak w b #[a0,a1,a2,a3] t):w.cell? ⟨b,0,none⟩=some a0/\w.cell? ⟨b,1,none⟩=some a1/\w.cell? ⟨b,2,none⟩=some a2/\w.cell? ⟨b,3,none⟩=some a3/\∀i,w.frozen? ⟨b,i,none⟩=false:=⟨h.cell 0,h.cell 1,h.cell 2,h.cell 3,h.frozen⟩
theorem ak.four'{w:tW}{b:Nat}{a0 a1 a2 a3:Value}{t:TypeId}(h:ak w b #[a0,a1,a2,a3] t):(∀e:Ext ae w,e.w.cell? ⟨b,0,none⟩=some a0)/\(∀e:Ext ae w,e.w.cell? ⟨b,1,none⟩=some a1)/\(∀e:Ext ae w,e.w.cell? ⟨b,2,none⟩=some a2)/\∀e:Ext ae w,e.w.cell? ⟨b,3,none⟩=some a3 :=
 ⟨λe=>(h.ag e.m id).cell 0,λe=>(h.ag e.m id).cell 1,λe=>(h.ag e.m id).cell 2,λe=>(h.ag e.m id).cell 3⟩
theorem ak.one'{w:tW}{b:Nat}{v:Value}{t:TypeId}(h:ak w b #[v] t)(e:Ext ae w):e.w.cell? ⟨b,0,none⟩=some v:=(h.ag e.m id).cell 0
theorem Mv{w X:tW}{b:Nat}{v0 v1 v2 v3:Value}(m:aa ae w X)(hb:w.heap.size<=b):aa ae w ((((X.setCell ⟨b,0,none⟩ v0).setCell ⟨b,1,none⟩ v1).setCell ⟨b,2,none⟩ v2).setCell ⟨b,3,none⟩ v3) :=
 (((m.set (a:=⟨b,0,none⟩) (.inr hb) v0).set (a:=⟨b,1,none⟩) (.inr hb) v1).set (a:=⟨b,2,none⟩) (.inr hb) v2).set (a:=⟨b,3,none⟩) (.inr hb) v3
structure V3(w W:tW)(d0 d1 d2 d3 s0 s1 s2 s3:Value):Prop where
 m:af (aa ae w W)
 d:af (ak W w.heap.size #[d0,d1,d2,d3] 130)
 s:af (ak W (w.heap.size+1) #[s0,s1,s2,s3] 130)
 b:af (ak W (w.heap.size+1+1) #[.int .i64 0,.int .u64 0,.pointer none,.pointer none] 130)
theorem V3.of(w:tW)(d0 d1 d2 d3 s0 s1 s2 s3:Value):V3 w (((w.alloc (.cells #[d0,d1,d2,d3] 130)).alloc (.cells #[s0,s1,s2,s3] 130)).alloc (.cells #[.int .i64 0,.int .u64 0,.pointer none,.pointer none] 130)) d0 d1 d2 d3 s0 s1 s2 s3:=by
 refine⟨(aj.alloc _).alloc _,((ak.new w _ _).alloc _).alloc _,?_,?_⟩
 ·have:=(ak.new (w.alloc (.cells #[d0,d1,d2,d3] 130)) #[s0,s1,s2,s3] 130).alloc (.cells #[.int .i64 0,.int .u64 0,.pointer none,.pointer none] 130)
  rwa [World.size_alloc]at this
 ·have:=ak.new ((w.alloc (.cells #[d0,d1,d2,d3] 130)).alloc (.cells #[s0,s1,s2,s3] 130)) #[.int .i64 0,.int .u64 0,.pointer none,.pointer none] 130
  rwa [World.size_alloc,World.size_alloc]at this
theorem V3.ag{w W W':tW}{d0 d1 d2 d3 s0 s1 s2 s3:Value}(h:V3 w W d0 d1 d2 d3 s0 s1 s2 s3)(m:aa ae W W'):V3 w W' d0 d1 d2 d3 s0 s1 s2 s3:=⟨h.m.o.trans m,h.d.o.ag m id,h.s.o.ag m id,h.b.o.ag m id⟩
theorem zU(w:tW)(D S:tAV)(t u:TypeId):aa ae w ((w.alloc (.cells D t)).alloc (.cells S u))/\ak ((w.alloc (.cells D t)).alloc (.cells S u)) w.heap.size D t /\ ak ((w.alloc (.cells D t)).alloc (.cells S u)) (w.heap.size+1) S u:=by
 refine⟨aj.alloc _,(ak.new w D t).alloc _,?_⟩;have:=ak.new (w.alloc (.cells D t)) S u
 rwa [World.size_alloc]at this
theorem aaS(w:tW)(d0 d1 d2 d3 s0 s1 s2 s3:Value)(b:Nat)(fk:FuncId)(hb:ak w b #[nQ fk] 282)(nd ns R:Value)(v0 v1:Int)(v2 v3:Option Addr)(en:pE fk)(hd:QA w 207 #[.agg #[d0,d1,d2,d3]] (.returned nd))(hs:QA w 207 #[.agg #[s0,s1,s2,s3]] (.returned ns))(ho:QA w fk #[nd,ns,.int .u64 64] (.returned R))(hv:QA w 56 #[R] (.returned (.agg #[.int .i64 v0,.int .u64 v1,.pointer v2,.pointer v3]))):Calls prog 206 #[.agg #[d0,d1,d2,d3],.agg #[s0,s1,s2,s3],pt b] w λe w'=>e=.returned (.agg #[.int .i64 v0,.int .u64 v1,.pointer v2,.pointer v3])/\aa ae w w':=by
 unfold pE at en;have V0:=V3.of w d0 d1 d2 d3 s0 s1 s2 s3;have c0:=ai (hb.ag V0.m.o id);clear hb;have HD:=hd.to V0.m.o;have HS:=hs.to V0.m.o;have HO:=ho.to V0.m.o;have HV:=hv.to V0.m.o;clear hd hs ho hv;go_enter func206,ntmps206;go_upto_region 1 with fail;generalize((w.alloc (.cells #[d0,d1,d2,d3] 130)).alloc (.cells #[s0,s1,s2,s3] 130)).alloc (.cells #[.int .i64 0,.int .u64 0,.pointer none,.pointer none] 130)=W3 at *;obtain⟨x0,x1,x2,x3⟩:=V0.d.o.four';obtain⟨y0,y1,y2,y3⟩:=V0.s.o.four';have q0:=c0.o.one';have HM:=V0.m;refine gy ae 7 [2,4,5,6] (by kernel_rfl) (by kernel_rfl) (λ_ M0=>?_);simp only[ab,List.take_zero,al,List.drop_zero]
 iterate 2 (refine aA rfl rfl rfl ?_;intro K hK;go_big_quiet_op;go_big_quiet_on)
 refine aF rfl rfl ?_;intro K hK;go_big_op;refine(um HD M0).mono ?_;rintro e u1 ⟨rfl,M1⟩;refine hK _ _ rfl ⟨⟨_,M1.o⟩,rfl⟩ ?_;clear hK K
 iterate 1 (refine aA rfl rfl rfl ?_;intro K hK;go_big_quiet_op;go_big_quiet_on)
 refine aF rfl rfl ?_;intro K hK;go_big_op;refine(um HS M1).mono ?_;rintro e u2 ⟨rfl,M2⟩;refine hK _ _ rfl ⟨⟨_,M2.o⟩,rfl⟩ ?_;clear hK K;refine aF rfl rfl ?_;intro K hK;go_big_op;refine(um HO M2).mono ?_;rintro e u3 ⟨rfl,M3⟩;refine hK _ _ rfl ⟨⟨_,M3.o⟩,rfl⟩ ?_;clear hK K;refine aF rfl rfl ?_;intro K hK;go_big_op;refine(um HV M3).mono ?_;rintro e u4 ⟨rfl,M4⟩;refine hK _ _ rfl ⟨⟨_,M4.o⟩,rfl⟩ ?_;clear hK K;refine bX ?_;clear q0;have HB:=ai (V0.b.o.ag M4.o id);clear x0 x1 x2 x3 y0 y1 y2 y3;obtain⟨z0,z1,z2,z3,zf⟩:=HB.o.four;go_wp2_with fail;refine bodyPost_ret (results_cell_row results206 _ _ (w.heap.size+1+1) 130 _ (0,0) _ rfl ((((HB.o.set 0 _).set 1 _).set 2 _).set 3 _) underlying130 rfl (by kernel_rfl)) rfl ⟨rfl,?_⟩;exact Mv (HM.o.trans M4.o) (by omega)
theorem aaT(w:tW)(d0 d1 d2 d3 s0 s1 s2 s3:Value)(b:Nat)(fk:FuncId)(hb:ak w b #[nQ fk] 282)(t:Nat)(hd:QA w 207 #[.agg #[d0,d1,d2,d3]] (aX t)):Calls prog 206 #[.agg #[d0,d1,d2,d3],.agg #[s0,s1,s2,s3],pt b] w λe w'=>e=aX t/\aa ae w w':=by
 have V0:=V3.of w d0 d1 d2 d3 s0 s1 s2 s3;have c0:=ai (hb.ag V0.m.o id);clear hb;have HD:=hd.to V0.m.o;clear hd;go_enter func206,ntmps206;go_upto_region 1 with fail;generalize((w.alloc (.cells #[d0,d1,d2,d3] 130)).alloc (.cells #[s0,s1,s2,s3] 130)).alloc (.cells #[.int .i64 0,.int .u64 0,.pointer none,.pointer none] 130)=W3 at *;obtain⟨x0,x1,x2,x3⟩:=V0.d.o.four';obtain⟨y0,y1,y2,y3⟩:=V0.s.o.four';have q0:=c0.o.one';have HM:=V0.m;refine iO ae 2 [2] [0,1,3] (λc w'=>.panicked c=aX t/\aa ae w w') (by kernel_rfl) (by kernel_rfl) (λc a' w' hd' hm=>⟨hd',hm⟩) (λ_ M0=>?_)
 iterate 3 (refine je rfl rfl rfl rfl ?_;intro K hK;(conv=>(arg 2;whnf));go_big_quiet_op;go_big_quiet_on)
 refine mixL_pan rfl rfl rfl ?_;intro QQ Yp hLO
 conv=>(arg 2;whnf)
 go_big_op;refine(um HD M0).mono ?_;rintro e up ⟨rfl,MP⟩;exact Yp _ _ ⟨rfl,HM.o.trans MP.o⟩
theorem aaU(w:tW)(d0 d1 d2 d3 s0 s1 s2 s3:Value)(b:Nat)(fk:FuncId)(hb:ak w b #[nQ fk] 282)(nd:Value)(t:Nat)(hd:QA w 207 #[.agg #[d0,d1,d2,d3]] (.returned nd))(hs:QA w 207 #[.agg #[s0,s1,s2,s3]] (aX t)):Calls prog 206 #[.agg #[d0,d1,d2,d3],.agg #[s0,s1,s2,s3],pt b] w λe w'=>e=aX t/\aa ae w w':=by
 have V0:=V3.of w d0 d1 d2 d3 s0 s1 s2 s3;have c0:=ai (hb.ag V0.m.o id);clear hb;have HD:=hd.to V0.m.o;have HS:=hs.to V0.m.o;clear hd hs;go_enter func206,ntmps206;go_upto_region 1 with fail;generalize((w.alloc (.cells #[d0,d1,d2,d3] 130)).alloc (.cells #[s0,s1,s2,s3] 130)).alloc (.cells #[.int .i64 0,.int .u64 0,.pointer none,.pointer none] 130)=W3 at *;obtain⟨x0,x1,x2,x3⟩:=V0.d.o.four';obtain⟨y0,y1,y2,y3⟩:=V0.s.o.four';have q0:=c0.o.one';have HM:=V0.m;refine iO ae 4 [2,4] [0,1,2,3] (λc w'=>.panicked c=aX t/\aa ae w w') (by kernel_rfl) (by kernel_rfl) (λc a' w' hd' hm=>⟨hd',hm⟩) (λ_ M0=>?_)
 iterate 2 (refine je rfl rfl rfl rfl ?_;intro K hK;(conv=>(arg 2;whnf));go_big_quiet_op;go_big_quiet_on)
 refine wF rfl rfl rfl ?_;intro K hK
 conv=>(arg 2;whnf)
 go_big_op;refine(um HD M0).mono ?_;rintro e u1 ⟨rfl,M1⟩;refine hK _ _ rfl ⟨⟨_,M1.o⟩,rfl⟩ ?_;clear hK K
 iterate 1 (refine je rfl rfl rfl rfl ?_;intro K hK;(conv=>(arg 2;whnf));go_big_quiet_op;go_big_quiet_on)
 refine mixL_pan rfl rfl rfl ?_;intro QQ Yp hLO
 conv=>(arg 2;whnf)
 go_big_op;refine(um HS M1).mono ?_;rintro e up ⟨rfl,MP⟩;exact Yp _ _ ⟨rfl,HM.o.trans MP.o⟩
theorem ahK(w:tW)(d0 d1 d2 d3 s0 s1 s2 s3:Value)(b:Nat)(fk:FuncId)(hb:ak w b #[nQ fk] 282)(nd ns ld ls R lr:Value)(v0 v1:Int)(v2 v3:Option Addr)(en:pE fk)(hd:QA w 207 #[.agg #[d0,d1,d2,d3]] (.returned nd))(hs:QA w 207 #[.agg #[s0,s1,s2,s3]] (.returned ns))(hld:QA w 209 #[nd] (.returned ld))(hls:QA w 209 #[ns] (.returned ls))(ho:QA w fk #[ld,ls,.int .u64 32] (.returned R))(hlr:QA w 209 #[R] (.returned lr))(hv:QA w 56 #[lr] (.returned (.agg #[.int .i64 v0,.int .u64 v1,.pointer v2,.pointer v3]))):Calls prog 208 #[.agg #[d0,d1,d2,d3],.agg #[s0,s1,s2,s3],pt b] w λe w'=>e=.returned (.agg #[.int .i64 v0,.int .u64 v1,.pointer v2,.pointer v3])/\aa ae w w':=by
 unfold pE at en;have V0:=V3.of w d0 d1 d2 d3 s0 s1 s2 s3;have c0:=ai (hb.ag V0.m.o id);clear hb;have HD:=hd.to V0.m.o;have HS:=hs.to V0.m.o;have HLD:=hld.to V0.m.o;have HLS:=hls.to V0.m.o;have HO:=ho.to V0.m.o;have HLR:=hlr.to V0.m.o;have HV:=hv.to V0.m.o;clear hd hs hld hls ho hlr hv;go_enter func208,ntmps208;go_upto_region 1 with fail;generalize((w.alloc (.cells #[d0,d1,d2,d3] 130)).alloc (.cells #[s0,s1,s2,s3] 130)).alloc (.cells #[.int .i64 0,.int .u64 0,.pointer none,.pointer none] 130)=W3 at *;obtain⟨x0,x1,x2,x3⟩:=V0.d.o.four';obtain⟨y0,y1,y2,y3⟩:=V0.s.o.four';have q0:=c0.o.one';have HM:=V0.m;refine gy ae 10 [2,3,5,6,7,8,9] (by kernel_rfl) (by kernel_rfl) (λ_ M0=>?_);simp only[ab,List.take_zero,al,List.drop_zero]
 iterate 2 (refine aA rfl rfl rfl ?_;intro K hK;go_big_quiet_op;go_big_quiet_on)
 refine aF rfl rfl ?_;intro K hK;go_big_op;refine(um HD M0).mono ?_;rintro e u1 ⟨rfl,M1⟩;refine hK _ _ rfl ⟨⟨_,M1.o⟩,rfl⟩ ?_;clear hK K;refine aF rfl rfl ?_;intro K hK;go_big_op;refine(um HLD M1).mono ?_;rintro e u2 ⟨rfl,M2⟩;refine hK _ _ rfl ⟨⟨_,M2.o⟩,rfl⟩ ?_;clear hK K
 iterate 1 (refine aA rfl rfl rfl ?_;intro K hK;go_big_quiet_op;go_big_quiet_on)
 refine aF rfl rfl ?_;intro K hK;go_big_op;refine(um HS M2).mono ?_;rintro e u3 ⟨rfl,M3⟩;refine hK _ _ rfl ⟨⟨_,M3.o⟩,rfl⟩ ?_;clear hK K;refine aF rfl rfl ?_;intro K hK;go_big_op;refine(um HLS M3).mono ?_;rintro e u4 ⟨rfl,M4⟩;refine hK _ _ rfl ⟨⟨_,M4.o⟩,rfl⟩ ?_;clear hK K;refine aF rfl rfl ?_;intro K hK;go_big_op;refine(um HO M4).mono ?_;rintro e u5 ⟨rfl,M5⟩;refine hK _ _ rfl ⟨⟨_,M5.o⟩,rfl⟩ ?_;clear hK K;refine aF rfl rfl ?_;intro K hK;go_big_op;refine(um HLR M5).mono ?_;rintro e u6 ⟨rfl,M6⟩;refine hK _ _ rfl ⟨⟨_,M6.o⟩,rfl⟩ ?_;clear hK K;refine aF rfl rfl ?_;intro K hK;go_big_op;refine(um HV M6).mono ?_;rintro e u7 ⟨rfl,M7⟩;refine hK _ _ rfl ⟨⟨_,M7.o⟩,rfl⟩ ?_;clear hK K;refine bX ?_;clear q0;have HB:=ai (V0.b.o.ag M7.o id);clear x0 x1 x2 x3 y0 y1 y2 y3;obtain⟨z0,z1,z2,z3,zf⟩:=HB.o.four;go_wp2_with fail;refine bodyPost_ret (results_cell_row results208 _ _ (w.heap.size+1+1) 130 _ (0,0) _ rfl ((((HB.o.set 0 _).set 1 _).set 2 _).set 3 _) underlying130 rfl (by kernel_rfl)) rfl ⟨rfl,?_⟩;exact Mv (HM.o.trans M7.o) (by omega)
theorem ahL(w:tW)(d0 d1 d2 d3 s0 s1 s2 s3:Value)(b:Nat)(fk:FuncId)(hb:ak w b #[nQ fk] 282)(t:Nat)(hd:QA w 207 #[.agg #[d0,d1,d2,d3]] (aX t)):Calls prog 208 #[.agg #[d0,d1,d2,d3],.agg #[s0,s1,s2,s3],pt b] w λe w'=>e=aX t/\aa ae w w':=by
 have V0:=V3.of w d0 d1 d2 d3 s0 s1 s2 s3;have c0:=ai (hb.ag V0.m.o id);clear hb;have HD:=hd.to V0.m.o;clear hd;go_enter func208,ntmps208;go_upto_region 1 with fail;generalize((w.alloc (.cells #[d0,d1,d2,d3] 130)).alloc (.cells #[s0,s1,s2,s3] 130)).alloc (.cells #[.int .i64 0,.int .u64 0,.pointer none,.pointer none] 130)=W3 at *;obtain⟨x0,x1,x2,x3⟩:=V0.d.o.four';obtain⟨y0,y1,y2,y3⟩:=V0.s.o.four';have q0:=c0.o.one';have HM:=V0.m;refine iO ae 2 [2] [0,1,4] (λc w'=>.panicked c=aX t/\aa ae w w') (by kernel_rfl) (by kernel_rfl) (λc a' w' hd' hm=>⟨hd',hm⟩) (λ_ M0=>?_)
 iterate 3 (refine je rfl rfl rfl rfl ?_;intro K hK;(conv=>(arg 2;whnf));go_big_quiet_op;go_big_quiet_on)
 refine mixL_pan rfl rfl rfl ?_;intro QQ Yp hLO
 conv=>(arg 2;whnf)
 go_big_op;refine(um HD M0).mono ?_;rintro e up ⟨rfl,MP⟩;exact Yp _ _ ⟨rfl,HM.o.trans MP.o⟩
theorem ahM(w:tW)(d0 d1 d2 d3 s0 s1 s2 s3:Value)(b:Nat)(fk:FuncId)(hb:ak w b #[nQ fk] 282)(nd ld:Value)(t:Nat)(hd:QA w 207 #[.agg #[d0,d1,d2,d3]] (.returned nd))(hld:QA w 209 #[nd] (.returned ld))(hs:QA w 207 #[.agg #[s0,s1,s2,s3]] (aX t)):Calls prog 208 #[.agg #[d0,d1,d2,d3],.agg #[s0,s1,s2,s3],pt b] w λe w'=>e=aX t/\aa ae w w':=by
 have V0:=V3.of w d0 d1 d2 d3 s0 s1 s2 s3;have c0:=ai (hb.ag V0.m.o id);clear hb;have HD:=hd.to V0.m.o;have HLD:=hld.to V0.m.o;have HS:=hs.to V0.m.o;clear hd hld hs;go_enter func208,ntmps208;go_upto_region 1 with fail;generalize((w.alloc (.cells #[d0,d1,d2,d3] 130)).alloc (.cells #[s0,s1,s2,s3] 130)).alloc (.cells #[.int .i64 0,.int .u64 0,.pointer none,.pointer none] 130)=W3 at *;obtain⟨x0,x1,x2,x3⟩:=V0.d.o.four';obtain⟨y0,y1,y2,y3⟩:=V0.s.o.four';have q0:=c0.o.one';have HM:=V0.m;refine iO ae 5 [2,3,5] [0,1,2,3,4] (λc w'=>.panicked c=aX t/\aa ae w w') (by kernel_rfl) (by kernel_rfl) (λc a' w' hd' hm=>⟨hd',hm⟩) (λ_ M0=>?_)
 iterate 2 (refine je rfl rfl rfl rfl ?_;intro K hK;(conv=>(arg 2;whnf));go_big_quiet_op;go_big_quiet_on)
 refine wF rfl rfl rfl ?_;intro K hK
 conv=>(arg 2;whnf)
 go_big_op;refine(um HD M0).mono ?_;rintro e u1 ⟨rfl,M1⟩;refine hK _ _ rfl ⟨⟨_,M1.o⟩,rfl⟩ ?_;clear hK K;refine wF rfl rfl rfl ?_;intro K hK
 conv=>(arg 2;whnf)
 go_big_op;refine(um HLD M1).mono ?_;rintro e u2 ⟨rfl,M2⟩;refine hK _ _ rfl ⟨⟨_,M2.o⟩,rfl⟩ ?_;clear hK K
 iterate 1 (refine je rfl rfl rfl rfl ?_;intro K hK;(conv=>(arg 2;whnf));go_big_quiet_op;go_big_quiet_on)
 refine mixL_pan rfl rfl rfl ?_;intro QQ Yp hLO
 conv=>(arg 2;whnf)
 go_big_op;refine(um HS M2).mono ?_;rintro e up ⟨rfl,MP⟩;exact Yp _ _ ⟨rfl,HM.o.trans MP.o⟩
theorem Yq(w:tW)(rb mb:List Nat)(d s:MV)(hd:d.so=0)(hs:s.so=0)(b:Nat)(fk:FuncId)(hb:ak w b #[nQ fk] 282)(R:Nat)(en:pE fk)(hof:∀w',Calls prog fk #[.int .u64 d.bits,.int .u64 s.bits,.int .u64 64] w' λe w''=>e=.returned (.int .u64 R)/\w''=w'):Calls prog 206 #[.agg (d.cells rb mb).toArray,.agg (s.cells rb mb).toArray,pt b] w λe w'=>e=.returned (.agg ((kI R).cells rb mb).toArray)/\aa ae w w' :=
 aaS w _ _ _ _ _ _ _ _ b fk hb _ _ _ _ _ _ _ en (.all λw'=>jQ w' rb mb d hd) (.all λw'=>jQ w' rb mb s hs) (.same hof) (.all λw'=>xN w' rb mb R)
theorem Yr(w:tW)(rb mb:List Nat)(d s:MV)(hd:d.so≠0)(b:Nat)(fk:FuncId)(hb:ak w b #[nQ fk] 282):Calls prog 206 #[.agg (d.cells rb mb).toArray,.agg (s.cells rb mb).toArray,pt b] w λe w'=>e=aX 2/\aa ae w w' :=
 aaT w _ _ _ _ _ _ _ _ b fk hb 2 (.all λw'=>oP w' rb mb d hd)
theorem Yt(w:tW)(rb mb:List Nat)(d s:MV)(hd:d.so=0)(hs:s.so≠0)(b:Nat)(fk:FuncId)(hb:ak w b #[nQ fk] 282):Calls prog 206 #[.agg (d.cells rb mb).toArray,.agg (s.cells rb mb).toArray,pt b] w λe w'=>e=aX 2/\aa ae w w' :=
 aaU w _ _ _ _ _ _ _ _ b fk hb _ 2 (.all λw'=>jQ w' rb mb d hd) (.all λw'=>oP w' rb mb s hs)
theorem ahh(w:tW)(rb mb:List Nat)(d s:MV)(hd:d.so=0)(hs:s.so=0)(b:Nat)(fk:FuncId)(hb:ak w b #[nQ fk] 282)(R:Nat)(en:pE fk)(hof:∀w',Calls prog fk #[.int .u64 (QB d.bits),.int .u64 (QB s.bits),.int .u64 32] w' λe w''=>e=.returned (.int .u64 R)/\w''=w')(h1:d.bits<18446744073709551616)(h2:s.bits<18446744073709551616)(h3:R<18446744073709551616):Calls prog 208 #[.agg (d.cells rb mb).toArray,.agg (s.cells rb mb).toArray,pt b] w λe w'=>e=.returned (.agg ((kI (QB R)).cells rb mb).toArray)/\aa ae w w' :=
 ahK w _ _ _ _ _ _ _ _ b fk hb _ _ _ _ _ _ _ _ _ _ en (.all λw'=>jQ w' rb mb d hd) (.all λw'=>jQ w' rb mb s hs) (.same λw'=>agk w' _ h1) (.same λw'=>agk w' _ h2) (.same hof) (.same λw'=>agk w' _ h3) (.all λw'=>xN w' rb mb (QB R))
theorem ahi(w:tW)(rb mb:List Nat)(d s:MV)(hd:d.so≠0)(b:Nat)(fk:FuncId)(hb:ak w b #[nQ fk] 282):Calls prog 208 #[.agg (d.cells rb mb).toArray,.agg (s.cells rb mb).toArray,pt b] w λe w'=>e=aX 2/\aa ae w w' :=
 ahL w _ _ _ _ _ _ _ _ b fk hb 2 (.all λw'=>oP w' rb mb d hd)
theorem ahj(w:tW)(rb mb:List Nat)(d s:MV)(hd:d.so=0)(hs:s.so≠0)(b:Nat)(fk:FuncId)(hb:ak w b #[nQ fk] 282)(h1:d.bits<18446744073709551616):Calls prog 208 #[.agg (d.cells rb mb).toArray,.agg (s.cells rb mb).toArray,pt b] w λe w'=>e=aX 2/\aa ae w w' :=
 ahM w _ _ _ _ _ _ _ _ b fk hb _ _ 2 (.all λw'=>jQ w' rb mb d hd) (.same λw'=>agk w' _ h1) (.all λw'=>oP w' rb mb s hs)
