import Derived.Test.YthnphhgpfedeeaaGreatDoorCR44
namespace Go.Proofs.YthnphhgpfedeeaaGreatDoor
open Go.RowKit Tryz
open List renaming mem_or_eq_of_mem_set->ab,length_append->al,getElem_mem->an,take_succ_cons->ao,drop_succ_cons->ar,length_set->ba,length_dropLast->bh,dropLast_concat->bj,take_zero->bt,drop_zero->b5,dropLast_concat_getLast->b9,eq_of_mem_replicate->ca,getLast_eq_getElem->cb,map_append->cj,length_map->cq,dropLast_eq_take->cw,mem_of_mem_drop->cx,mem_of_mem_take->cy
open Nat renaming lt_irrefl->cD
set_option linter.all false
set_option maxRecDepth 100000
set_option maxHeartbeats 1000000
theorem ak.yX{w:tW}{b:Nat}{a0 a1 a2 a3 a4 a5 a6 a7:Value}{t:TypeId}(h:ak w b #[a0,a1,a2,a3,a4,a5,a6,a7] t):(∀e:Ext ae w,e.w.cell? ⟨b,0,none⟩=some a0)/\(∀e:Ext ae w,e.w.cell? ⟨b,1,none⟩=some a1)/\(∀e:Ext ae w,e.w.cell? ⟨b,2,none⟩=some a2)/\(∀e:Ext ae w,e.w.cell? ⟨b,3,none⟩=some a3)/\(∀e:Ext ae w,e.w.cell? ⟨b,4,none⟩=some a4)/\(∀e:Ext ae w,e.w.cell? ⟨b,5,none⟩=some a5)/\(∀e:Ext ae w,e.w.cell? ⟨b,6,none⟩=some a6)/\∀e:Ext ae w,e.w.cell? ⟨b,7,none⟩=some a7 :=
 ⟨λe=>(h.ag e.m id).cell 0,λe=>(h.ag e.m id).cell 1,λe=>(h.ag e.m id).cell 2,λe=>(h.ag e.m id).cell 3,λe=>(h.ag e.m id).cell 4,λe=>(h.ag e.m id).cell 5,λe=>(h.ag e.m id).cell 6,λe=>(h.ag e.m id).cell 7⟩
def QS(w:tW)(f:FuncId)(args:tAV)(R:tW->Prop)(F:Nat->Prop):Prop:=∀w',aa ae w w'->Calls prog f args w' λe w''=>e=.returned (.tuple #[])/\R w''/\aa F w' w''
theorem QS.at'{w w' W:tW}{f:FuncId}{args:tAV}{R:tW->Prop}{F:Nat->Prop}(h:QS w f args R F)(m:af (aa ae w W))(m':af (aa ae W w')):Calls prog f args w' λe w''=>e=.returned (.tuple #[])/\af (R w''/\aa F w w'') :=
 (h w' (m.o.trans m'.o)).mono λ_ _ hh=>⟨hh.1,hh.2.1,(aa.of_nil (m.o.trans m'.o)).trans hh.2.2⟩
def QR(w:tW)(f:FuncId)(args:tAV)(R:Ending->tW->Prop):Prop:=∀w',aa ae w w'->Calls prog f args w' λe w''=>(e=.returned (.tuple #[])\/∃t,e=aX t)/\af (R e w'')
theorem acG(w:tW)(a0 a1 a2 a3 a4 a5 a6 a7:Value)(b:Nat)(b1 b2:Nat)(fk fo:FuncId)(cr:tAV)(hb1:ak w b1 #[.func (.func fk) #[] cr] 208)(hb2:ak w b2 #[nQ fo] 280)(en:pE fk)(eno:pE fo)(d s:Value)(hg:QA w 205 #[pt b,a1] (.returned d))(ho:QA w fo #[pt b,.agg #[a0,a1,a2,a3,a4,a5,a6,a7]] (.returned s))(v:Value)(hk:QA w fk (#[d,s]++cr) (.returned v))(R:tW->Prop)(F:Nat->Prop)(hS:QS w 54 #[pt b,a1,v] R F):Calls prog 204 #[pt b,.agg #[a0,a1,a2,a3,a4,a5,a6,a7],pt b1,pt b2] w λe w'=>e=.returned (.tuple #[])/\R w'/\aa F w w':=by
 unfold pE at en eno;have HM:=ai ((aa.refl ae w).alloc (.cells #[a0,a1,a2,a3,a4,a5,a6,a7] 138));have BI:=ai (ak.new w #[a0,a1,a2,a3,a4,a5,a6,a7] 138);have c1:=ai (hb1.ag HM.o id);have c2:=ai (hb2.ag HM.o id);have HG:=hg.to HM.o;have HO:=ho.to HM.o;have HK:=hk.to HM.o;clear hb1 hb2 hg ho hk;go_enter func204,ntmps204;go_upto_region 1 with fail;generalize w.alloc (.cells #[a0,a1,a2,a3,a4,a5,a6,a7] 138)=W3 at *;obtain⟨x0,x1,x2,x3,x4,x5,x6,x7⟩:=BI.o.yX;have p0:=c1.o.one';have q0:=c2.o.one';refine gy ae 13 [7,11,12] (by kernel_rfl) (by kernel_rfl) (λ_ M0=>?_);simp only[ao,bt,ar,b5]
 iterate 7 (refine aA rfl rfl rfl ?_;intro K hK;go_big_quiet_op;go_big_quiet_on)
 refine aF rfl rfl ?_;intro K hK;go_big_op;refine(um HG M0).mono ?_;rintro e u1 ⟨rfl,M1⟩;refine hK _ _ rfl ⟨⟨_,M1.o⟩,rfl⟩ ?_;clear hK K
 iterate 3 (refine aA rfl rfl rfl ?_;intro K hK;go_big_quiet_op;go_big_quiet_on)
 refine aF rfl rfl ?_;intro K hK;go_big_op;refine(um HO M1).mono ?_;rintro e u2 ⟨rfl,M2⟩;refine hK _ _ rfl ⟨⟨_,M2.o⟩,rfl⟩ ?_;clear hK K;refine aF rfl rfl ?_;intro K hK;go_big_op;refine(um HK M2).mono ?_;rintro e u3 ⟨rfl,M3⟩;refine hK _ _ rfl ⟨⟨_,M3.o⟩,rfl⟩ ?_;clear hK K;refine bX ?_;clear x0 x1 x2 x3 x4 x5 x6 x7 p0 q0;go_wp2_with fail;refine(hS.at' HM M3).mono ?_;rintro e w4 ⟨rfl,hr⟩;go_wp2_with fail;go_end0;exact⟨rfl,hr.o⟩
theorem acH(w:tW)(a0 a1 a2 a3 a4 a5 a6 a7:Value)(b:Nat)(b1 b2:Nat)(fk fo:FuncId)(cr:tAV)(hb1:ak w b1 #[.func (.func fk) #[] cr] 208)(hb2:ak w b2 #[nQ fo] 280)(en:pE fk)(eno:pE fo)(d s:Value)(hg:QA w 205 #[pt b,a1] (.returned d))(ho:QA w fo #[pt b,.agg #[a0,a1,a2,a3,a4,a5,a6,a7]] (.returned s))(t:Nat)(hk:QA w fk (#[d,s]++cr) (aX t)):Calls prog 204 #[pt b,.agg #[a0,a1,a2,a3,a4,a5,a6,a7],pt b1,pt b2] w λe w'=>e=aX t/\aa ae w w':=by
 unfold pE at en eno;have HM:=ai ((aa.refl ae w).alloc (.cells #[a0,a1,a2,a3,a4,a5,a6,a7] 138));have BI:=ai (ak.new w #[a0,a1,a2,a3,a4,a5,a6,a7] 138);have c1:=ai (hb1.ag HM.o id);have c2:=ai (hb2.ag HM.o id);have HG:=hg.to HM.o;have HO:=ho.to HM.o;have HK:=hk.to HM.o;clear hb1 hb2 hg ho hk;go_enter func204,ntmps204;go_upto_region 1 with fail;generalize w.alloc (.cells #[a0,a1,a2,a3,a4,a5,a6,a7] 138)=W3 at *;obtain⟨x0,x1,x2,x3,x4,x5,x6,x7⟩:=BI.o.yX;have p0:=c1.o.one';have q0:=c2.o.one';refine iO ae 12 [7,11,12] [0,1,2,3,4,5,6,7,8,9,10,11] (λc w'=>.panicked c=aX t/\aa ae w w') (by kernel_rfl) (by kernel_rfl) (λc a' w' hd' hm=>⟨hd',hm⟩) (λ_ M0=>?_)
 iterate 7 (refine je rfl rfl rfl rfl ?_;intro K hK;(conv=>(arg 2;whnf));go_big_quiet_op;go_big_quiet_on)
 refine wF rfl rfl rfl ?_;intro K hK
 conv=>(arg 2;whnf)
 go_big_op;refine(um HG M0).mono ?_;rintro e u1 ⟨rfl,M1⟩;refine hK _ _ rfl ⟨⟨_,M1.o⟩,rfl⟩ ?_;clear hK K
 iterate 3 (refine je rfl rfl rfl rfl ?_;intro K hK;(conv=>(arg 2;whnf));go_big_quiet_op;go_big_quiet_on)
 refine wF rfl rfl rfl ?_;intro K hK
 conv=>(arg 2;whnf)
 go_big_op;refine(um HO M1).mono ?_;rintro e u2 ⟨rfl,M2⟩;refine hK _ _ rfl ⟨⟨_,M2.o⟩,rfl⟩ ?_;clear hK K;refine mixL_pan rfl rfl rfl ?_;intro QQ Yp hLO
 conv=>(arg 2;whnf)
 go_big_op;refine(um HK M2).mono ?_;rintro e up ⟨rfl,MP⟩;exact Yp _ _ ⟨rfl,HM.o.trans MP.o⟩
theorem aaZ(w:tW)(b:Nat)(rb mb:List Nat)(vM vC vL:Value)(r:aC)(h:aB w b rb mb vM vC vL r)(hp:0<r.calls.length)(X:di)(hd:X.d<11)(aD:Bool)(hX:aD=true->X.s<11)(b1 b2:Nat)(fr:Fn)(cr:tAV)(hb1:ak w b1 #[.func fr #[] cr] 208)(hb2:ak w b2 #[nQ (FR aD)] 280)(m k:Nat)(hk:Mx w rb mb fr cr m k (r.aD X.d) (xR aD X r))(v:MV)(hv:rkP m k (r.aD X.d) (xR aD X r)=some v):Calls prog 204 #[pt b,.agg X.cells,pt b1,pt b2] w λe w'=>e=.returned (.tuple #[])/\aB w' b rb mb vM vC vL (r.eY X.d v)/\aa (Own vC) w w':=by obtain⟨fk,rfl,en,hkk⟩:=hk;rw[hv]at hkk;exact acG w _ _ _ _ _ _ _ _ b b1 b2 fk _ cr hb1 hb2 en (jT aD) _ _ (λw' m=>fD w' b rb mb vM vC vL r (h.quiet m) hp X.d hd) (λw' m=>mr w' b rb mb vM vC vL r (h.quiet m) hp X aD hX) _ hkk _ _ (λw' m=>xM w' b rb mb vM vC vL r (h.quiet m) hp X.d hd v)
theorem aa0(w:tW)(b:Nat)(rb mb:List Nat)(vM vC vL:Value)(r:aC)(h:aB w b rb mb vM vC vL r)(hp:0<r.calls.length)(X:di)(hd:X.d<11)(aD:Bool)(hX:aD=true->X.s<11)(b1 b2:Nat)(fr:Fn)(cr:tAV)(hb1:ak w b1 #[.func fr #[] cr] 208)(hb2:ak w b2 #[nQ (FR aD)] 280)(m k:Nat)(hk:Mx w rb mb fr cr m k (r.aD X.d) (xR aD X r))(hv:rkP m k (r.aD X.d) (xR aD X r)=none):Calls prog 204 #[pt b,.agg X.cells,pt b1,pt b2] w λe w'=>e=aX 2/\aa ae w w':=by obtain⟨fk,rfl,en,hkk⟩:=hk;rw[hv]at hkk;exact acH w _ _ _ _ _ _ _ _ b b1 b2 fk _ cr hb1 hb2 en (jT aD) _ _ (λw' m=>fD w' b rb mb vM vC vL r (h.quiet m) hp X.d hd) (λw' m=>mr w' b rb mb vM vC vL r (h.quiet m) hp X aD hX) 2 hkk
theorem aeC(w:tW)(a0 a1 a2 a3 a4 a5 a6 a7:Value)(b:Nat)(b1:Nat)(nV:Value)(hb1:ak w b1 #[nV] 3)(d:Value)(hg:QA w 205 #[pt b,a2] (.returned d))(v:Value)(hl:QA w 234 #[d,a3,nV] (.returned v))(R:tW->Prop)(F:Nat->Prop)(hS:QS w 54 #[pt b,a1,v] R F):Calls prog 233 #[pt b,.agg #[a0,a1,a2,a3,a4,a5,a6,a7],pt b1] w λe w'=>e=.returned (.tuple #[])/\R w'/\aa F w w':=by
 have HM:=ai ((aa.refl ae w).alloc (.cells #[a0,a1,a2,a3,a4,a5,a6,a7] 138));have BI:=ai (ak.new w #[a0,a1,a2,a3,a4,a5,a6,a7] 138);have c1:=ai (hb1.ag HM.o id);have HG:=hg.to HM.o;have HL:=hl.to HM.o;clear hb1 hg hl;go_enter func233,ntmps233;go_upto_region 1 with fail;generalize w.alloc (.cells #[a0,a1,a2,a3,a4,a5,a6,a7] 138)=W3 at *;obtain⟨x0,x1,x2,x3,x4,x5,x6,x7⟩:=BI.o.yX;have p0:=c1.o.one';refine gy ae 11 [6,10] (by kernel_rfl) (by kernel_rfl) (λ_ M0=>?_);simp only[ao,bt,ar,b5]
 iterate 6 (refine aA rfl rfl rfl ?_;intro K hK;go_big_quiet_op;go_big_quiet_on)
 refine aF rfl rfl ?_;intro K hK;go_big_op;refine(um HG M0).mono ?_;rintro e u1 ⟨rfl,M1⟩;refine hK _ _ rfl ⟨⟨_,M1.o⟩,rfl⟩ ?_;clear hK K
 iterate 3 (refine aA rfl rfl rfl ?_;intro K hK;go_big_quiet_op;go_big_quiet_on)
 refine aF rfl rfl ?_;intro K hK;go_big_op;refine(um HL M1).mono ?_;rintro e u2 ⟨rfl,M2⟩;refine hK _ _ rfl ⟨⟨_,M2.o⟩,rfl⟩ ?_;clear hK K;refine bX ?_;clear x0 x1 x2 x3 x4 x5 x6 x7 p0;go_wp2_with fail;refine(hS.at' HM M2).mono ?_;rintro e w4 ⟨rfl,hr⟩;go_wp2_with fail;go_end0;exact⟨rfl,hr.o⟩
theorem aeD(w:tW)(a0 a1 a2 a3 a4 a5 a6 a7:Value)(b:Nat)(b1:Nat)(nV:Value)(hb1:ak w b1 #[nV] 3)(d:Value)(hg:QA w 205 #[pt b,a2] (.returned d))(t:Nat)(hl:QA w 234 #[d,a3,nV] (aX t)):Calls prog 233 #[pt b,.agg #[a0,a1,a2,a3,a4,a5,a6,a7],pt b1] w λe w'=>e=aX t/\aa ae w w':=by
 have HM:=ai ((aa.refl ae w).alloc (.cells #[a0,a1,a2,a3,a4,a5,a6,a7] 138));have BI:=ai (ak.new w #[a0,a1,a2,a3,a4,a5,a6,a7] 138);have c1:=ai (hb1.ag HM.o id);have HG:=hg.to HM.o;have HL:=hl.to HM.o;clear hb1 hg hl;go_enter func233,ntmps233;go_upto_region 1 with fail;generalize w.alloc (.cells #[a0,a1,a2,a3,a4,a5,a6,a7] 138)=W3 at *;obtain⟨x0,x1,x2,x3,x4,x5,x6,x7⟩:=BI.o.yX;have p0:=c1.o.one';refine iO ae 10 [6,10] [0,1,2,3,4,5,6,7,8,9] (λc w'=>.panicked c=aX t/\aa ae w w') (by kernel_rfl) (by kernel_rfl) (λc a' w' hd' hm=>⟨hd',hm⟩) (λ_ M0=>?_)
 iterate 6 (refine je rfl rfl rfl rfl ?_;intro K hK;(conv=>(arg 2;whnf));go_big_quiet_op;go_big_quiet_on)
 refine wF rfl rfl rfl ?_;intro K hK
 conv=>(arg 2;whnf)
 go_big_op;refine(um HG M0).mono ?_;rintro e u1 ⟨rfl,M1⟩;refine hK _ _ rfl ⟨⟨_,M1.o⟩,rfl⟩ ?_;clear hK K
 iterate 3 (refine je rfl rfl rfl rfl ?_;intro K hK;(conv=>(arg 2;whnf));go_big_quiet_op;go_big_quiet_on)
 refine mixL_pan rfl rfl rfl ?_;intro QQ Yp hLO
 conv=>(arg 2;whnf)
 go_big_op;refine(um HL M1).mono ?_;rintro e up ⟨rfl,MP⟩;exact Yp _ _ ⟨rfl,HM.o.trans MP.o⟩
theorem acI(w:tW)(b:Nat)(rb mb:List Nat)(vM vC vL:Value)(r:aC)(h:aB w b rb mb vM vC vL r)(hp:0<r.calls.length)(X:di)(hd:X.d<11)(hs:X.s<11)(b1 n:Nat)(hb1:ak w b1 #[.int .i64 n] 3)(v:MV)(hL:∀w',aa ae w w'->Calls prog 234 #[.agg ((r.aD X.s).cells rb mb).toArray,.int .i16 X.jump,.int .i64 n] w' λe w''=>e=.returned (.agg (v.cells rb mb).toArray)/\aa ae w' w''):Calls prog 233 #[pt b,.agg X.cells,pt b1] w λe w'=>e=.returned (.tuple #[])/\aB w' b rb mb vM vC vL (r.eY X.d v)/\aa (Own vC) w w':=by exact aeC w _ _ _ _ _ _ _ _ b b1 _ hb1 _ (λw' m=>fD w' b rb mb vM vC vL r (h.quiet m) hp X.s hs) _ hL _ _ (λw' m=>xM w' b rb mb vM vC vL r (h.quiet m) hp X.d hd v)
theorem acJ(w:tW)(b:Nat)(rb mb:List Nat)(vM vC vL:Value)(r:aC)(h:aB w b rb mb vM vC vL r)(hp:0<r.calls.length)(X:di)(_:X.d<11)(hs:X.s<11)(b1 n:Nat)(hb1:ak w b1 #[.int .i64 n] 3)(t:Nat)(hL:∀w',aa ae w w'->Calls prog 234 #[.agg ((r.aD X.s).cells rb mb).toArray,.int .i16 X.jump,.int .i64 n] w' λe w''=>e=aX t/\aa ae w' w''):Calls prog 233 #[pt b,.agg X.cells,pt b1] w λe w'=>e=aX t/\aa ae w w':=by exact aeD w _ _ _ _ _ _ _ _ b b1 _ hb1 _ (λw' m=>fD w' b rb mb vM vC vL r (h.quiet m) hp X.s hs) t hL
theorem aeE(w:tW)(a0 a1 a2 a3 a4 a5 a6 a7:Value)(b:Nat)(R:Ending->tW->Prop)(hl:QR w 245 #[pt b] R):Calls prog 132 #[pt b,.agg #[a0,a1,a2,a3,a4,a5,a6,a7]] w λe w'=>R e w':=by
 have HM:=ai ((aa.refl ae w).alloc (.cells #[a0,a1,a2,a3,a4,a5,a6,a7] 138));have BI:=ai (ak.new w #[a0,a1,a2,a3,a4,a5,a6,a7] 138);go_enter func132,ntmps132;go_upto_region 1 with fail;generalize w.alloc (.cells #[a0,a1,a2,a3,a4,a5,a6,a7] 138)=W3 at *;go_wp2_with fail;refine(hl _ HM.o).mono ?_;rintro e w4 ⟨he,HR⟩;rcases he with rfl |⟨t,rfl⟩
 ·go_wp2_with fail
  first|go_end0|refine bodyPost_ret (results_none rfl _ _ _) rfl ?_
  exact HR.o
 ·exact⟨rfl,HR.o⟩
theorem Le(w:tW)(b:Nat)(X:di)(R:Ending->tW->Prop)(hL:∀w',aa ae w w'->Calls prog 245 #[pt b] w' λe w''=>(e=.returned (.tuple #[])\/∃t,e=aX t)/\R e w''):Calls prog 132 #[pt b,.agg X.cells] w λe w'=>R e w':=aeE w _ _ _ _ _ _ _ _ b R hL
theorem ahN(w:tW)(b:Nat)(rb mb:List Nat)(vM vC vL:Value)(r:aC)(h:aB w b rb mb vM vC vL r)(hp:0<r.calls.length)(X:di)(hd:X.d<11)(hs:X.s≠1)(v:MV)(n:Nat)(hv:v=kI n)(hL:∀w',aa ae w w'->Calls prog 241 #[.agg X.cells] w' λe w''=>e=.returned (.int .u64 n)/\aa ae w' w''):Calls prog 127 #[pt b,.agg X.cells] w λe w'=>e=.returned (.tuple #[])/\aB w' b rb mb vM vC vL (r.eY X.d v)/\aa (Own vC) w w':=by
 have HS:af (∀w',aa ae w w'->Calls prog 54 #[pt b,.int .u8 X.d,.agg #[.int .i64 v.so,.int .u64 v.bits,.pointer (v.aD.map λr=>⟨rb.getD r 0,0,none⟩),.pointer (v.tab.map λt=>⟨mb.getD t 0,0,none⟩)]] w' λe w''=>e=.returned (.tuple #[])/\aB w'' b rb mb vM vC vL (r.eY X.d v)/\aa (Own vC) w' w''):=λw' m=>xM w' b rb mb vM vC vL r (h.quiet m) hp X.d hd v;generalize r.eY X.d v=r2 at *;subst hv;have HL:af (∀w',aa ae w w'->Calls prog 241 #[.agg #[X.op,.int .u8 X.d,.int .u8 X.s,.int .i16 X.jump,.int .i32 X.num,.int .i32 X.high,.string X.label,.string X.name]] w' λe w''=>e=.returned (.int .u64 n)/\aa ae w' w''):=hL;have HV:af (∀w',Calls prog 56 #[.int .u64 n] w' λe w''=>e=.returned (.agg #[.int .i64 (kI n).so,.int .u64 (kI n).bits,.pointer ((kI n).aD.map λr=>⟨rb.getD r 0,0,none⟩),.pointer ((kI n).tab.map λt=>⟨mb.getD t 0,0,none⟩)])/\aa ae w' w''):=λw'=>xN w' rb mb n;generalize kI n=v at *;have hs1:((X.s:Int)==1)=false:=by simp;omega
 clear hs;clear hL h hp hd;generalize v.aD.map (λr=>(⟨rb.getD r 0,0,none⟩:Addr))=v2 at *;generalize v.tab.map (λt=>(⟨mb.getD t 0,0,none⟩:Addr))=v3 at *;generalize v.so=v0 at *;generalize v.bits=v1 at *;show Calls _ _ #[_,.agg #[X.op,.int .u8 X.d,.int .u8 X.s,.int .i16 X.jump,.int .i32 X.num,.int .i32 X.high,.string X.label,.string X.name]] _ _
 have dw:af (aa ae w (w.alloc (.cells #[X.op,.int .u8 X.d,.int .u8 X.s,.int .i16 X.jump,.int .i32 X.num,.int .i32 X.high,.string X.label,.string X.name] 138))):=aj;have BI:af (ak (w.alloc (.cells #[X.op,.int .u8 X.d,.int .u8 X.s,.int .i16 X.jump,.int .i32 X.num,.int .i32 X.high,.string X.label,.string X.name] 138)) w.heap.size #[X.op,.int .u8 X.d,.int .u8 X.s,.int .i16 X.jump,.int .i32 X.num,.int .i32 X.high,.string X.label,.string X.name] 138):=ak.new _ _ _;go_enter func127,ntmps127;go_upto_region 1 with fail;generalize w.alloc (.cells #[X.op,.int .u8 X.d,.int .u8 X.s,.int .i16 X.jump,.int .i32 X.num,.int .i32 X.high,.string X.label,.string X.name] 138)=W3 at *;have y2:=BI.o.cell 2;go_upto_region 3 with fail;clear y2;have x0:∀e:Ext ae W3,e.w.cell? ⟨w.heap.size,0,none⟩=some (X.op):=λe=>(BI.o.ag e.m id).cell 0;have x1:∀e:Ext ae W3,e.w.cell? ⟨w.heap.size,1,none⟩=some (.int .u8 X.d):=λe=>(BI.o.ag e.m id).cell 1;have x2:∀e:Ext ae W3,e.w.cell? ⟨w.heap.size,2,none⟩=some (.int .u8 X.s):=λe=>(BI.o.ag e.m id).cell 2;have x3:∀e:Ext ae W3,e.w.cell? ⟨w.heap.size,3,none⟩=some (.int .i16 X.jump):=λe=>(BI.o.ag e.m id).cell 3;have x4:∀e:Ext ae W3,e.w.cell? ⟨w.heap.size,4,none⟩=some (.int .i32 X.num):=λe=>(BI.o.ag e.m id).cell 4;have x5:∀e:Ext ae W3,e.w.cell? ⟨w.heap.size,5,none⟩=some (.int .i32 X.high):=λe=>(BI.o.ag e.m id).cell 5;have x6:∀e:Ext ae W3,e.w.cell? ⟨w.heap.size,6,none⟩=some (.string X.label):=λe=>(BI.o.ag e.m id).cell 6;have x7:∀e:Ext ae W3,e.w.cell? ⟨w.heap.size,7,none⟩=some (.string X.name):=λe=>(BI.o.ag e.m id).cell 7
 haveI:Nonempty (Ext ae W3):=Ext.ne _ _
 refine dC 6 [4,5] (λw'=>∃e:Ext ae W3,w'=e.w) (by kernel_rfl) (by kernel_rfl) ⟨⟨_,aJ⟩,rfl⟩ ?_;simp only[ao,bt,ar,b5]
 iterate 4 (refine aA rfl rfl rfl ?_;intro K' hK;go_big_quiet_op;go_big_quiet_on)
 refine aF rfl rfl ?_;intro K' hK;go_big_op;refine(HL.o _ (dw.o.trans (aa.refl ae _).drew)).mono ?_;rintro e ww1 ⟨rfl,mm⟩;have M1:af (aa ae W3 ww1):=((aa.refl ae _).drew).trans mm;refine hK _ _ rfl ⟨⟨_,M1.o⟩,rfl⟩ ?_;clear hK K' mm;refine aF rfl rfl ?_;intro K' hK;go_big_op;refine(HV.o _).mono ?_;rintro e ww2 ⟨rfl,mm⟩;have M2:af (aa ae W3 ww2):=M1.o.trans mm;refine hK _ _ rfl ⟨⟨_,M2.o⟩,rfl⟩ ?_;clear hK K' mm;refine bX ?_;clear x0 x1 x2 x3 x4 x5 x6 x7;go_wp2_with fail;refine(HS.o _ (dw.o.trans M2.o)).mono ?_;rintro e w4 ⟨rfl,hr,m4⟩;have wm:=ai hr;have M4:af (aa (Own vC) w w4):=((dw.o.trans M2.o).mono (λ_ _ h=>h.elim)).trans m4;clear hr m4;go_wp2_with fail
 first|go_end0|refine bodyPost_ret (results_none rfl _ _ _) rfl ?_
 exact⟨rfl,wm.o,M4.o⟩
def MV.Ok(n m:Nat)(v:MV):Prop:=v.bits<18446744073709551616/\(v.so=0/\v.aD=none/\v.tab=none\/v.so=1/\v.aD=none/\(∃t,v.tab=some t/\t<m)\/v.so=2/\v.tab=none/\∃q,v.aD=some q/\q<n)
structure QL(fn n m:Nat)(f:ja):Prop where
 fn:f.fn<fn
 oJ:f.oJ<n
 len:f.regs.length=11
 regs:∀v∈f.regs,v.Ok n m
structure QM(gs:List (List Nat))(m:yU):Prop where
 key:1<=m.key/\m.key<=8
 val:1<=m.value/\m.value<=16
 most:m.most<=8
 len:m.jS.length<=m.most
 ek:∀e∈m.jS,e.1.length=m.key/\∀b∈e.1,b<256
 er:∀e∈m.jS,e.2<gs.length/\(gs.getD e.2 []).length=m.value
 srt:m.jS.Pairwise (λa b=>aaR a.1 b.1=true)
def jU(ms:List yU):List Nat:=ms.flatMap (λm=>m.jS.map (·.2))
def Lf(s:bP):List Nat:=s.r.inp::(s.r.calls.map (·.oJ)++jU s.ms)
structure bR(fn:Nat)(s:bP):Prop where
 pos:0<s.r.calls.length
 deep:s.r.calls.length<=8
 U4:∀f∈s.r.calls,QL fn s.gs.length s.ms.length f
 gs:zN s.gs
 inp:s.r.inp<s.gs.length
 log:s.r.log.length<=20/\∀n∈s.r.log,n<18446744073709551616
 maps:∀m∈s.ms,QM s.gs m
 own:(Lf s).Nodup
theorem MV.Ok.zero(n m:Nat):MV.Ok n m {}:=⟨by decide,.inl ⟨rfl,rfl,rfl⟩⟩
theorem MV.Ok.num{n m k:Nat}(h:k<18446744073709551616):MV.Ok n m (kI k):=⟨h,.inl ⟨rfl,rfl,rfl⟩⟩
theorem MV.Ok.ptr{n m q k:Nat}(h:q<n)(hk:k<18446744073709551616):MV.Ok n m (uA q k):=⟨hk,.inr (.inr ⟨rfl,rfl,q,rfl,h⟩)⟩
theorem MV.Ok.grow{n n' m:Nat}{v:MV}(h:v.Ok n m)(hn:n<=n'):v.Ok n' m:=by
 refine⟨h.1,?_⟩;rcases h.2 with h|h |⟨a,b,q,hq,hl⟩
 ·exact .inl h
 ·exact .inr (.inl h)
 ·exact .inr (.inr ⟨a,b,q,hq,by omega⟩)
theorem QL.grow{fn n n' m:Nat}{f:ja}(h:QL fn n m f)(hn:n<=n'):QL fn n' m f:=⟨h.fn,by have:=h.oJ;omega,h.len,λv hv=>(h.regs v hv).grow hn⟩
section
variable {fn : Nat} {s : bP}
theorem bR.ME(h:bR fn s):s.r.top∈s.r.calls:=by rw[aC.vW _ h.pos];exact an _
theorem bR.top(h:bR fn s):QL fn s.gs.length s.ms.length s.r.top:=h.U4 _ h.ME
theorem bR.aD(h:bR fn s)(n:Nat):(s.r.aD n).Ok s.gs.length s.ms.length:=by
 unfold aC.aD;rw[List.getD_eq_getElem?_getD];by_cases hn:n<s.r.top.regs.length
 ·rw[List.getElem?_eq_getElem hn];exact h.top.regs _ (an _)
 ·rw[List.getElem?_eq_none (by omega)];exact MV.Ok.zero _ _
theorem xS{α β:Type}(g:α->β)(l:List α)(i:Nat)(x:α)(h:∀y,l[i]?=some y->g x=g y):(l.set i x).map g=l.map g:=by
 apply List.ext_getElem?;intro j;rw[List.getElem?_map,List.getElem?_map,List.getElem?_set];by_cases hij:i=j
 ·subst hij;rw[iP9 rfl];by_cases hl:i<l.length
  ·rw[iP9 hl,List.getElem?_eq_getElem hl];simp only[Option.map_some];rw[h _ (List.getElem?_eq_getElem hl)]
  ·rw[iN9 hl,List.getElem?_eq_none (by omega)]
 ·rw[iN9 hij]
theorem bR.dQ(h:bR fn s)(f:ja)(hf:QL fn s.gs.length s.ms.length f)(hs:f.oJ=s.r.top.oJ):bR fn {s with r:=s.r.dQ f}:=by
 have hl:(s.r.dQ f).calls.length=s.r.calls.length:=aC.jg _ _;refine⟨by show 0<(s.r.dQ f).calls.length;rw[hl];exact h.pos,by show(s.r.dQ f).calls.length<=8;rw[hl];exact h.deep,λg hg=>?_,h.gs,h.inp,h.log,h.maps,?_⟩
 ·rcases ab hg with hg|rfl
  ·exact h.U4 g hg
  ·exact hf
 ·have:(s.r.dQ f).calls.map (·.oJ)=s.r.calls.map (·.oJ):=xS _ _ _ _ (λy hy=>by
   have e:y=s.r.top:=by rw[aC.vW _ h.pos];rw[List.getElem?_eq_getElem (by have:=h.pos;omega)]at hy;exact(Option.some.inj hy).symm
   rw[e];exact hs)
  show(s.r.inp::((s.r.dQ f).calls.map (·.oJ)++jU s.ms)).Nodup
  rw[this];exact h.own
theorem bR.eY(h:bR fn s)(d:Nat)(v:MV)(hv:v.Ok s.gs.length s.ms.length):bR fn {s with r:=s.r.eY d v} :=
 h.dQ _ ⟨h.top.fn,h.top.oJ,by show(s.r.top.regs.set d v).length=11;rw[ba];exact h.top.len,λu hu=>by
  rcases ab hu with hu|rfl
  ·exact h.top.regs u hu
  ·exact hv⟩ rfl
theorem bR.fQ(h:bR fn s)(n:Nat):bR fn {s with r:=s.r.fQ n}:=h.dQ _ ⟨h.top.fn,h.top.oJ,h.top.len,h.top.regs⟩ rfl
theorem bR.iE(h:bR fn s):bR fn s.iE:=h.dQ _ ⟨h.top.fn,h.top.oJ,h.top.len,h.top.regs⟩ rfl
theorem bR.begin(h:bR fn s)(n:Nat):bR fn (s.begin n):=by
 have h1:bR fn {s with r:={s.r with used:=s.r.used+1}}:=⟨h.pos,h.deep,h.U4,h.gs,h.inp,h.log,h.maps,h.own⟩
 exact h1.fQ _
theorem bR.kP(vs:List MV):∀{s:bP} (_:bR fn s) (d:Nat) (_:∀v∈vs,v.Ok s.gs.length s.ms.length),bR fn {s with r:=s.r.kP d vs}:=by
 induction vs with
 |nil=>intro s h d _;exact h
 |cons v vs ih=>intro s h d hv;exact ih (h.eY d v (hv v (by simp))) (d+1) (λu hu=>hv u (by simp[hu]))
theorem bR.answer(h:bR fn s)(v:MV)(hv:v.Ok s.gs.length s.ms.length):bR fn {s with r:=s.r.answer v} :=
 bR.kP _ (h.eY 0 v hv) 1 (λu hu=>by rw[ca hu];exact MV.Ok.zero _ _)
theorem bR.finish(h:bR fn s)(n:Nat):bR fn {s with r:=s.r.finish n}:=⟨h.pos,h.deep,h.U4,h.gs,h.inp,h.log,h.maps,h.own⟩
theorem bR.logged(h:bR fn s)(n:Nat)(hn:n<18446744073709551616)(hl:s.r.log.length<20):bR fn {s with r:=s.r.logged n}:=by
 have h1:bR fn {s with r:={s.r with log:=s.r.log++[n]}}:=⟨h.pos,h.deep,h.U4,h.gs,h.inp,⟨by show(s.r.log++[n]).length<=20;rw[al];exact hl,λk hk=>by
  rcases List.mem_append.1 hk with hk|hk
  ·exact h.log.2 k hk
  ·rw[List.mem_singleton.1 hk];exact hn⟩,h.maps,h.own⟩
 exact h1.answer _ (MV.Ok.num (by decide))
theorem QM.grow{gs:List (List Nat)}{m:yU}(h:QM gs m)(g:List Nat):QM (gs++[g]) m :=
 ⟨h.key,h.val,h.most,h.len,h.ek,λe he=>⟨by rw[al];exact Nat.lt_succ_of_lt (h.er e he).1,by rw[jR _ _ _ _ (h.er e he).1];exact(h.er e he).2⟩,h.srt⟩
theorem Lg:bu.length<=1000/\∀b∈bu,b<256:=by decide
theorem bR.call(h:bR fn s)(hd:s.r.calls.length<8)(f:Nat)(hf:f<fn):bR fn {s with r:=s.r.mo f s.gs.length,gs:=s.gs++[bu]}:=by
 have hl:(s.gs++[bu]).length=s.gs.length+1:=al
 have h1:bR fn {s with r:=s.r.nK f s.gs.length,gs:=s.gs++[bu]}:=by
  refine⟨by show 0<(s.r.calls++[_]).length;simp,by show(s.r.calls++[_]).length<=8;rw[al];exact hd,λg hg=>?_,λg hg=>?_,by show s.r.inp<(s.gs++[bu]).length;have:=h.inp;omega,h.log,λm hm=>(h.maps m hm).grow _,?_⟩
  ·rcases List.mem_append.1 hg with hg|hg
   ·exact(h.U4 g hg).grow (by show s.gs.length<=(s.gs++[bu]).length;omega)
   ·rw[List.mem_singleton.1 hg];exact⟨hf,by show s.gs.length<(s.gs++[bu]).length;omega,rfl,λv hv=>by rw[ca hv];exact MV.Ok.zero _ _⟩
  ·rcases List.mem_append.1 hg with hg|hg
   ·exact h.gs g hg
   ·rw[List.mem_singleton.1 hg];exact Lg
  ·have ho:=h.own
   have hlt:∀q∈Lf s,q<s.gs.length:=λq hq=>by
    rcases List.mem_cons.1 hq with rfl|hq
    ·exact h.inp
    ·rcases List.mem_append.1 hq with hq|hq
     ·obtain⟨g,hg,rfl⟩:=List.mem_map.1 hq;exact(h.U4 g hg).oJ
     ·obtain⟨m,hm,hq⟩:=List.mem_flatMap.1 hq;obtain⟨e,he,rfl⟩:=List.mem_map.1 hq;exact((h.maps m hm).er e he).1
   show(s.r.inp::((s.r.calls++[(⟨f,0,0,z11,s.gs.length⟩:ja)]).map (·.oJ)++jU s.ms)).Nodup
   have hp:(s.r.inp::((s.r.calls++[(⟨f,0,0,z11,s.gs.length⟩:ja)]).map (·.oJ)++jU s.ms)).Perm (s.gs.length::Lf s):=by rw[cj,List.map_cons,List.map_nil,List.append_assoc];exact(List.Perm.cons _ List.perm_middle).trans (List.Perm.swap _ _ _)
   rw[hp.nodup_iff];exact List.nodup_cons.2 ⟨λhq=>cD _ (hlt _ hq),ho⟩
 have h2:=h1.eY 10 (uA s.gs.length 64) (MV.Ok.ptr (by show s.gs.length<(s.gs++[bu]).length;omega) (by decide));exact bR.kP _ h2 1 (λu hu=>by have hm:u∈s.r.top.regs:=cx (cy hu);exact(h.top.regs u hm).grow (by show s.gs.length<=(s.gs++[bu]).length;omega))
theorem QN(l:List (List Nat))(q i:Nat)(g:List Nat)(hq:q<l.length):(l.set q g).getD i []=if i=q then g else l.getD i []:=oQ l g [] i q hq
theorem bR.acN(h:bR fn s)(q:Nat)(hq:q<s.gs.length)(g:List Nat)(hg:g.length<=1000/\∀b∈g,b<256)(hm:∀m∈s.ms,∀e∈m.jS,e.2=q->g.length=(s.gs.getD q []).length):bR fn {s with gs:=s.gs.set q g}:=by
 have hl:(s.gs.set q g).length=s.gs.length:=ba;refine⟨h.pos,h.deep,λf hf=>?_,λx hx=>?_,by show _<(s.gs.set q g).length;rw[hl];exact h.inp,h.log,λm hm'=>?_,h.own⟩
 ·exact(h.U4 f hf).grow (by show _<=(s.gs.set q g).length;omega)
 ·rcases ab hx with hx|rfl
  ·exact h.gs x hx
  ·exact hg
 ·have k:=h.maps m hm';refine⟨k.key,k.val,k.most,k.len,k.ek,λe he=>⟨by show _<(s.gs.set q g).length;rw[hl];exact(k.er e he).1,?_⟩,k.srt⟩;show((s.gs.set q g).getD e.2 []).length=_
  rw[QN _ _ _ _ hq];by_cases hh:e.2=q
  ·rw[iP9 hh,hm m hm' e he hh,<-hh];exact(k.er e he).2
  ·rw[iN9 hh];exact(k.er e he).2
theorem bR.back(h:bR fn s)(hc:s.r.calls.length≠1):bR fn {s with r:=s.r.back,gs:=s.gs.set s.r.top.oJ []}:=by
 have hpos:=h.pos
 have hlast:s.r.calls=s.r.calls.dropLast++[s.r.top]:=by
  have hne:s.r.calls≠[]:=λe=>by rw[e]at hpos;exact cD _ hpos
  have e1:=b9 hne;rw[aC.vW _ h.pos,<-cb hne];exact e1.symm
 have hnot:∀m∈s.ms,∀e∈m.jS,e.2≠s.r.top.oJ:=λm hm e he hq=>by have ho:=h.own;unfold Lf at ho;have ho2:=(List.nodup_append.1 (List.nodup_cons.1 ho).2).2.2;exact ho2 s.r.top.oJ (List.mem_map.2 ⟨_,h.ME,rfl⟩) e.2 (List.mem_flatMap.2 ⟨m,hm,List.mem_map.2 ⟨e,he,rfl⟩⟩) hq.symm
 have h0:=h.acN s.r.top.oJ h.top.oJ [] ⟨by decide,λb hb=>by cases hb⟩ (λm hm e he hq=>absurd hq (hnot m hm e he));have hl:(s.gs.set s.r.top.oJ []).length=s.gs.length:=ba
 have h1:bR fn {s with r:=s.r.pop,gs:=s.gs.set s.r.top.oJ []}:=by
  refine⟨by show 0<s.r.calls.dropLast.length;rw[bh];omega,by show s.r.calls.dropLast.length<=8;rw[bh];have:=h.deep;omega,λf hf=>h0.U4 f (List.dropLast_subset _ hf),h0.gs,h0.inp,h0.log,h0.maps,?_⟩;show(s.r.inp::(s.r.calls.dropLast.map (·.oJ)++jU s.ms)).Nodup
  have ho:=h.own;unfold Lf at ho;rw[hlast,cj]at ho
  have hsub:(s.r.inp::(s.r.calls.dropLast.map (·.oJ)++jU s.ms)).Sublist (s.r.inp::(s.r.calls.dropLast.map (·.oJ)++List.map (·.oJ) [s.r.top]++jU s.ms)) :=
   List.Sublist.cons_cons _ (List.Sublist.append (List.sublist_append_left _ _) (List.Sublist.refl _))
  exact ho.sublist hsub
 exact h1.answer (s.r.aD 0) ((h.aD 0).grow (by show _<=(s.gs.set s.r.top.oJ []).length;omega))
end
section
variable {F : Nat -> Prop} {w w' : World} {b : Nat} {a : Ad} {s : bP} {fn : Nat}
theorem eW.FD(h:eW F w b a s)(m:aa (Own a.vC) w w')(r:aC)(hr:aB w' b a.rb a.mb a.vM a.vC a.vL r)(hl:r.log=s.r.log):eW F w' b a {s with r:=r}/\aa F w w':=h.UT (m.mono (λ_ _ h=>.inr h)) r hr hl
theorem eW.backTo(h:eW F w b a s)(q:Nat)(hq:q<s.gs.length)(DP:Value)(hC:DP.ownBlock=a.vC.ownBlock)(r:aC)(hl:r.log=s.r.log)(w2:tW)(m1:aa ae w w2)(m2:aa (λk=>k=b\/Own a.vC k) (w2.setCell ⟨a.rb.getD q 0,0,none⟩ (.slice none 0 0)) w')(hr:aB w' b a.rb a.mb a.vM DP a.vL r):eW F w' b {a with vs:=a.vs.set q (.slice none 0 0),vC:=DP} {s with r:=r,gs:=s.gs.set q []}/\aa F w w':=by
 have h2:=h.quiet m1;have hm:a.rb.getD q 0∈a.rb:=by have hv:=h.qU.lr;rw[List.getD_eq_getElem?_getD,List.getElem?_eq_getElem (by omega)];exact an _
 have mG:aa (Only (a.rb.getD q 0)) w2 (w2.setCell ⟨a.rb.getD q 0,0,none⟩ (.slice none 0 0)):=ax.aY 0 _;have mT:iL [122] w2 (w2.setCell ⟨a.rb.getD q 0,0,none⟩ (.slice none 0 0)):=iL.of mG (λk hk=>⟨122,by simp,by cases(show k=_ from hk);exact(h2.qU.blk q hq).ty⟩);have hR2:=h2.qU.die q hq;have hb3:=h2.run.eG mT (by decide) (by decide)
 have mT2:iL [125,190] (w2.setCell ⟨a.rb.getD q 0,0,none⟩ (.slice none 0 0)) w':=iL.of m2 (λk hk=>by
  rcases hk with rfl|hk
  ·exact⟨_,by simp,hb3.blk.ty⟩
  ·exact⟨_,by simp,hb3.calls.ty hk⟩)
 refine⟨⟨hr,hR2.eG mT2 (by decide) (by decide),?_,(h2.maps.eG mT (by decide) (by decide) (by decide)).eG mT2 (by decide) (by decide) (by decide),h.fb,λk hk=>h.fc k (hC ▸ hk),h.fl,h.fr,λv hv k hk=>?_,h.fm,h.fe⟩,?_⟩
 ·show Sl w' _ _ _ r.log.length (Qy r.log)
  rw[hl];exact(h2.log.eG mT (by decide)).eG mT2 (by decide)
 ·rcases ab hv with hv|rfl
  ·exact h.fv v hv k hk
  ·cases hk
 ·refine((m1.mono (λ_ _ h=>h.elim)).trans (mG.mono (λk _ hk=>?_))).trans (m2.mono (λk _ hk=>?_))
  ·cases(show k=_ from hk);exact h.fr _ hm
  ·rcases hk with rfl|hk
   ·exact h.fb
   ·exact h.fc k hk
theorem eW.ah3(h:eW F w b a s)(hF:∀k,w.heap.size<=k->F k)(xY:Value)(r:aC)(hr:aB w' b a.rb a.mb a.vM a.vC xY r)(hL:Sl w' 22 1 xY r.log.length (Qy r.log))(hN:∀k,xY.ownBlock=some k->a.vL.ownBlock=some k\/w.heap.size<=k)(m:aa (λk=>k=b\/Own a.vC k\/Own a.vL k) w w'):eW F w' b {a with vL:=xY} {s with r:=r}/\aa F w w':=by
 have mT:iL [125,190,22] w w':=iL.of m (λk hk=>by
  rcases hk with rfl|hk|hk
  ·exact⟨_,by simp,h.run.blk.ty⟩
  ·exact⟨_,by simp,h.run.calls.ty hk⟩
  ·exact⟨_,by simp,h.log.ty hk⟩)
 refine⟨⟨hr,h.qU.eG mT (by decide) (by decide),hL,h.maps.eG mT (by decide) (by decide) (by decide),h.fb,h.fc,λk hk=>(hN k hk).elim (h.fl k) (hF k),h.fr,h.fv,h.fm,h.fe⟩,m.mono (λk _ hk=>?_)⟩;rcases hk with rfl|hk|hk
 ·exact h.fb
 ·exact h.fc k hk
 ·exact h.fl k hk
theorem MV.Ok.pt{n m:Nat}{v:MV}(h:v.Ok n m):v.Pt n:=λh2=>by
 rcases h.2 with⟨e,_⟩ |⟨e,_⟩ |⟨_,_,q,e,hq⟩
 ·rw[e]at h2;cases h2
 ·rw[e]at h2;cases h2
 ·exact⟨q,e,hq⟩
end
theorem agR(W:tW):(Instr.field 294 (.agg #[.string (T [108,111,103]),.func (.func 292) #[] #[]]) 1).run prog W=.ok (.func (.func 292) #[] #[]) W:=rfl
theorem ah4:pE 292:=enters_of func292 (by kernel_rfl) rfl
theorem ag5(w:tW)(b:Nat)(X:di)(hs:X.s≠1)(hn:X.num=4)(R:Ending->tW->Prop)(hL:∀w',aa ae w w'->Calls prog 292 #[pt b] w' λe w''=>(e=.returned (.tuple #[])\/∃t,e=aX t)/\R e w''):Calls prog 131 #[pt b,.agg X.cells] w λe w'=>R e w':=by
 have HL:=ai hL;have hs1:((X.s:Int)==1)=false:=by simp;omega
 clear hL hs;obtain⟨op,d,s,jump,num,high,label,name⟩:=X;simp only at hn hs1;subst hn;unfold di.cells;simp only;have en:=ah4;unfold pE at en;have ix:=ag0;have jx:=agR;have dw:af (aa ae w (w.alloc (.cells #[op,.int .u8 d,.int .u8 s,.int .i16 jump,.int .i32 4,.int .i32 high,.string label,.string name] 138))):=aj;have BI:af (ak (w.alloc (.cells #[op,.int .u8 d,.int .u8 s,.int .i16 jump,.int .i32 4,.int .i32 high,.string label,.string name] 138)) w.heap.size #[op,.int .u8 d,.int .u8 s,.int .i16 jump,.int .i32 4,.int .i32 high,.string label,.string name] 138):=ak.new _ _ _;go_enter func131,ntmps131;go_upto_region 1 with fail;generalize w.alloc (.cells #[op,.int .u8 d,.int .u8 s,.int .i16 jump,.int .i32 4,.int .i32 high,.string label,.string name] 138)=W3 at *;have y2:=BI.o.cell 2;go_upto_region 3 with fail;clear y2;have x4:∀e:Ext ae W3,e.w.cell? ⟨w.heap.size,4,none⟩=some (.int .i32 4):=λe=>(BI.o.ag e.m id).cell 4
 haveI:Nonempty (Ext ae W3):=Ext.ne _ _
 refine dC 7 [0] (λw'=>∃e:Ext ae W3,w'=e.w) (by kernel_rfl) (by kernel_rfl) ⟨⟨_,aJ⟩,rfl⟩ ?_;simp only[ao,bt,ar,b5];refine aF rfl rfl ?_;intro K' hK;go_big_op;refine(jt _).mono ?_;rintro e ww1 ⟨rfl,mm⟩;have M1:af (aa ae W3 ww1):=((aa.refl ae _).drew).trans mm;refine hK _ _ rfl ⟨⟨_,M1.o⟩,rfl⟩ ?_;clear hK K' mm
 iterate 6 (refine aA rfl rfl rfl ?_;intro K' hK;go_big_quiet_op;go_big_quiet_on)
 refine bX ?_;clear x4;go_wp2_with fail;refine(HL.o _ (dw.o.trans M1.o)).mono ?_;rintro e w1 ⟨he,hr⟩;have HR:=ai hr;clear hr;rcases he with rfl |⟨t,rfl⟩
 ·go_wp2_with fail;go_end0;exact HR.o
 ·exact⟨rfl,HR.o⟩
theorem aC.DU(vs:List MV):∀(r:aC) (n:Nat),(r.kP n vs).log=r.log:=by
 induction vs with
 |nil=>intro r n;rfl
 |cons v vs ih=>intro r n;exact ih _ _
theorem aC.Lh(r:aC)(v:MV):(r.answer v).log=r.log:=aC.DU _ _ _
theorem ahO{F:Nat->Prop}{w:tW}{b:Nat}{a:Ad}{s:bP}{fn:Nat}(h:eW F w b a s)(ho:bR fn s)(hF:∀k,w.heap.size<=k->F k):Calls prog 292 #[pt b] w λe w'=>dG F w b a (IL s) e w':=by
 unfold IL;by_cases h1:(s.r.aD 1).so=0
 ·rw[iN9 (by simp[h1]:¬(s.r.aD 1).so≠0)];by_cases h2:s.r.log.length=20
  ·rw[iP9 h2];obtain⟨oL,cL,hv,_⟩:=h.log.view;have hr:=h.run;rw[hv,h2]at hr;exact(agQ w b a.rb a.mb a.vM a.vC oL cL s.r hr ho.pos h1).mono (λe w' hh=>by rw[hh.1];exact dG.trap (by decide) h hh.2)
  ·rw[iN9 h2];have hlt:s.r.log.length<20:=by have:=ho.log.1;omega
   refine(ag1 w b a.rb a.mb a.vM a.vC a.vL s.r h.run ho.pos h.log hlt h1).mono ?_;rintro e w' ⟨xY,rfl,hr,hL,hN,m⟩;have hl:(s.r.logged (s.r.aD 1).bits).log=s.r.log++[(s.r.aD 1).bits]:=aC.Lh _ _;obtain⟨k1,k2⟩:=h.ah3 hF xY _ hr (by rw[hl,al];exact hL) hN m;exact⟨rfl,k2,_,k1,rfl,rfl⟩
 ·rw[iP9 (by simpa using h1)];exact(ag2 w b a.rb a.mb a.vM a.vC a.vL s.r h.run ho.pos h1).mono (λe w' hh=>by rw[hh.1];exact dG.trap (by decide) h hh.2)
structure MF(fn mn:Nat)(x:PI):Prop where
 d:x.d<11
 s:x.s<11
 j:-32768<=x.jump/\x.jump<=32767
 n:-2147483648<=x.num/\x.num<=2147483647
 call:(dz x.o.code).t=6->(x.s=1->0<=x.num/\x.num<fn)/\(x.s≠1->1<=x.num/\x.num<=4)
 wide:(dz x.o.code).t=5->x.s=1->0<=x.num/\x.num<mn
 size:(dz x.o.code).t=3\/(dz x.o.code).t=4->0<(dz x.o.code).k/\(dz x.o.code).k<=8
theorem dG.either{F:Nat->Prop}{w w':tW}{b:Nat}{a:Ad}{d:Nat×bP}{e:Ending}(h:dG F w b a d e w'):e=.returned (.tuple #[])\/∃t,e=aX t:=by
 rw[h.1];by_cases hd:d.1=0
 ·exact .inl (iP9 hd)
 ·exact .inr ⟨_,iN9 hd⟩
theorem dG.from{F:Nat->Prop}{w w1 w':tW}{b:Nat}{a:Ad}{d:Nat×bP}{e:Ending}(h:dG F w1 b a d e w')(m:aa ae w w1):dG F w b a d e w':=⟨h.1,(m.mono (λ_ _ h=>h.elim)).trans h.2.1,h.2.2⟩
theorem FE{fn:Nat}{s:bP}(ho:bR fn s)(aD:Bool)(x:PI):(nN aD x s).Ok s.gs.length s.ms.length:=by
 unfold nN;cases aD with
 |true=>exact ho.aD _
 |false=>exact MV.Ok.num (nk _)
def jy(fs:List aS)(i:Nat):aS:=fs.getD i ⟨[],[]⟩
def nr(f:aS)(slot:Nat):Prop:=∃x,(x,slot)∈atS 0 f.code
structure qK(fs:List aS)(mn:Nat):Prop where
 first:∀f∈fs,nr f 0
 len:∀f∈fs,aM f.code<=1000
 ins:∀f∈fs,∀p∈atS 0 f.code,MF fs.length mn p.1/\eU p.1/\((dz p.1.o.code).t=1\/(dz p.1.o.code).t=2->0<=p.1.target p.2/\nr f (p.1.target p.2).toNat)/\((dz p.1.o.code).t≠2->(dz p.1.o.code).t<=6->nr f (p.2+p.1.o.slots))
def aC.mJ(r:aC):List (Nat×Nat):=r.calls.map λf=>(f.fn,f.next)
theorem tN(fs:List aS)(i:Nat)(h:i<fs.length):jy fs i∈fs:=by unfold jy;rw[List.getD_eq_getElem?_getD,List.getElem?_eq_getElem h];exact an _
theorem tO(fs:List aS)(fn slot:Nat)(h:nr (jy fs fn) slot):(yV fs fn slot,slot)∈atS 0 (jy fs fn).code:=by
 obtain⟨x,hx⟩:=h;unfold yV;cases hf:(atS 0 (fs.getD fn ⟨[],[]⟩).code).find? (λp=>p.2==slot)with
 |none =>have:=List.find?_eq_none.1 hf (x,slot) hx;simp at this
 |some p =>
  have h1:=List.mem_of_find?_eq_some hf;have h2:=List.find?_some hf;simp only;have e:p.2=slot:=by simpa using h2
  rw[<-e];exact h1
theorem QO(r:aC)(hp:0<r.calls.length)(f:ja)(h1:f.fn=r.top.fn)(h2:f.next=r.top.next):(r.dQ f).mJ=r.mJ :=
 xS _ _ _ _ (λy hy=>by
  have e:y=r.top:=by rw[aC.vW _ hp];rw[List.getElem?_eq_getElem (by omega)]at hy;exact(Option.some.inj hy).symm
  rw[e,h1,h2])
theorem oZ(r:aC)(hp:0<r.calls.length)(d:Nat)(v:MV):(r.eY d v).mJ=r.mJ:=QO r hp _ rfl rfl
theorem DV(vs:List MV):∀(r:aC) (_:0<r.calls.length) (d:Nat),(r.kP d vs).mJ=r.mJ:=by
 induction vs with
 |nil=>intro r _ d;rfl
 |cons v vs ih=>intro r hp d;exact(ih _ (by rw[aC.gj];exact hp) _).trans (oZ r hp d v)
theorem mD(r:aC)(hp:0<r.calls.length)(v:MV):(r.answer v).mJ=r.mJ:=(DV _ _ (by rw[aC.gj];exact hp) _).trans (oZ r hp 0 v)
def QP(fs:List aS)(l:List (Nat×Nat)):Prop:=∀p∈l,nr (jy fs p.1) p.2
structure Cc(fs:List aS)(s:bP):Prop where
 at':nr (jy fs s.r.top.fn) s.r.top.slot
 low:QP fs s.r.mJ.dropLast
theorem IP(r:aC)(hp:0<r.calls.length):r.mJ=r.mJ.dropLast++[(r.top.fn,r.top.next)]:=by
 have hne:r.mJ≠[]:=λe=>by have:=congrArg List.length e;unfold aC.mJ at this;rw[cq]at this;simp at this;rw[this]at hp;exact cD _ hp
 have e1:=b9 hne;have e2:r.mJ.getLast hne=(r.top.fn,r.top.next):=by rw[cb];unfold aC.mJ;simp only[List.getElem_map,cq];rw[aC.vW _ hp]
 rw[e2]at e1;exact e1.symm
theorem vY(r:aC)(hp:0<r.calls.length)(f:ja):(r.dQ f).mJ=r.mJ.dropLast++[(f.fn,f.next)]:=by
 have h1:=IP (r.dQ f) (by rw[aC.jg];exact hp);rw[aC.oN r hp]at h1;have h2:(r.dQ f).mJ.dropLast=r.mJ.dropLast:=by unfold aC.mJ aC.dQ;simp only;rw[List.map_set,cw,cw,ba,cq];rw[List.take_set_of_le (by omega)]
 rw[h2]at h1;exact h1
theorem Cc.of{fs:List aS}{s:bP}(hp:0<s.r.calls.length)(h:QP fs s.r.mJ):Cc fs s.iE:=by
 have hl:=IP s.r hp;refine⟨?_,?_⟩
 ·show nr (jy fs (s.r.dQ _).top.fn) (s.r.dQ _).top.slot
  rw[aC.oN s.r hp];exact h (s.r.top.fn,s.r.top.next) (by rw[hl];exact List.mem_append_right _ (List.mem_singleton.2 rfl))
 ·show QP fs (s.r.dQ _).mJ.dropLast
  rw[vY s.r hp,bj];exact λp hp'=>h p (by rw[hl];exact List.mem_append_left _ hp')
theorem QT(s:bP)(hp:0<s.r.calls.length)(n:Nat):(s.begin n).r.mJ=s.r.mJ.dropLast++[(s.r.top.fn,s.r.top.slot+n)]:=vY {s.r with used:=s.r.used+1} hp _
theorem DW(s:bP)(hp:0<s.r.calls.length)(n:Nat):(s.begin n).r.top={s.r.top with next:=s.r.top.slot+n}:=aC.oN {s.r with used:=s.r.used+1} hp _
theorem QU(s:bP)(n:Nat):(s.begin n).r.calls.length=s.r.calls.length:=aC.jg _ _
theorem U5(s:bP)(hp:0<s.r.calls.length):(QC s).2.r.mJ=s.r.mJ/\(QD s).2.r.mJ=s.r.mJ/\(QF s).2.r.mJ=s.r.mJ/\(IL s).2.r.mJ=s.r.mJ:=by
 refine⟨?_,?_,?_,?_⟩
 ·unfold QC;split
  ·rfl
  ·split
   ·rfl
   ·exact mD _ hp _
 ·have e:∀t key val,(Fz s t key val).1.r=s.r:=λt key val=>by
   unfold Fz;split
   ·rfl
   ·split<;>rfl
  unfold QD;split
  ·rfl
  ·split
   ·rfl
   ·split
    ·rfl
    ·show((Fz _ _ _ _).1.r.answer _).mJ=_
     rw[e];exact mD _ hp _
 ·have e:∀t key,(FB s t key).1.r=s.r:=λt key=>by unfold FB;split<;>rfl
  unfold QF;split
  ·rfl
  ·split
   ·rfl
   ·show((FB _ _ _).1.r.answer _).mJ=_
    rw[e];exact mD _ hp _
 ·unfold IL;split
  ·rfl
  ·split
   ·rfl
   ·exact mD {s.r with log:=_} hp _
theorem Li(r:aC)(fn k:Nat):(r.mo fn k).mJ=r.mJ++[(fn,0)]:=by
 have h0:0<(r.nK fn k).calls.length:=by show 0<(r.calls++[_]).length;simp
 have h1:0<(r.enter fn k).calls.length:=by unfold aC.enter;rw[aC.gj];exact h0
 unfold aC.mo;rw[DV _ _ h1];unfold aC.enter;rw[oZ _ h0];unfold aC.mJ aC.nK;simp only[cj,List.map_cons,List.map_nil]
theorem U6(r:aC)(hp:1<r.calls.length):r.back.mJ=r.mJ.dropLast:=by unfold aC.back;rw[mD _ (by show 0<r.calls.dropLast.length;rw[bh];omega)];unfold aC.mJ aC.pop;simp only;rw[List.map_dropLast]
theorem U7{fs:List aS}{s:bP}(hc:qK fs s.ms.length)(ho:bR fs.length s)(hp:Cc fs s)(he:s.r.ended=false)(h0:(s.did fs).1=0):(s.did fs).2.r.ended=true\/QP fs (s.did fs).2.r.mJ:=by
 have hf:=tN fs _ ho.top.fn;have hx:=tO fs _ _ hp.at';obtain⟨hi,_,hj,hn⟩:=hc.ins _ hf _ hx;have hpos:=ho.pos;have hb:=QT s hpos (s.ins fs).o.slots;have hbt:=DW s hpos (s.ins fs).o.slots;have hbl:0<(s.begin (s.ins fs).o.slots).r.calls.length:=by rw[QU];exact hpos
 have Cd:(dz (s.ins fs).o.code).t≠2->(dz (s.ins fs).o.code).t<=6->QP fs (s.begin (s.ins fs).o.slots).r.mJ:=λh2 h6 p hp'=>by
  rw[hb]at hp';rcases List.mem_append.1 hp' with hp'|hp'
  ·exact hp.low p hp'
  ·rw[List.mem_singleton.1 hp'];exact hn h2 h6
 have hgo:(dz (s.ins fs).o.code).t=1\/(dz (s.ins fs).o.code).t=2->QP fs ((s.begin (s.ins fs).o.slots).r.fQ ((s.ins fs).target (s.begin (s.ins fs).o.slots).r.top.slot).toNat).mJ:=λh12 p hp'=>by
  have e:=vY (s.begin (s.ins fs).o.slots).r hbl {(s.begin (s.ins fs).o.slots).r.top with next:=((s.ins fs).target (s.begin (s.ins fs).o.slots).r.top.slot).toNat};have hp2:p∈((s.begin (s.ins fs).o.slots).r.dQ {(s.begin (s.ins fs).o.slots).r.top with next:=((s.ins fs).target (s.begin (s.ins fs).o.slots).r.top.slot).toNat}).mJ:=hp';rw[e,hb,bj]at hp2;rcases List.mem_append.1 hp2 with hp2|hp2
  ·exact hp.low p hp2
  ·rw[List.mem_singleton.1 hp2];rw[hbt];exact(hj h12).2
 unfold bP.did at h0 ⊢;generalize hdd:dz (s.ins fs).o.code=dd at *;obtain⟨t,m,k,aD⟩:=dd;simp only at Cd hgo;have hee:(s.begin (s.ins fs).o.slots).r.ended=false:=he;generalize s.begin (s.ins fs).o.slots=s1 at *;unfold doP at h0 ⊢;simp only at h0 ⊢;split at h0
 ·cases hv:rkP m k (s1.r.aD (s.ins fs).d) (nN aD (s.ins fs) s1)with
  |none=>rw[hv]at h0;cases h0
  |some v=>exact .inr (by simp only;rw[oZ _ hbl];exact Cd (by decide) (by decide))
 ·cases hv:ZT m k (s1.r.aD (s.ins fs).d) (nN aD (s.ins fs) s1)with
  |none=>rw[hv]at h0;cases h0
  |some v =>
   cases v with
   |true=>exact .inr (hgo (.inl rfl))
   |false=>exact .inr (Cd (by decide) (by decide))
 ·exact .inr (hgo (.inr rfl))
 ·by_cases ht:dK s1.gs (s1.r.aD (s.ins fs).s) (s.ins fs).jump k=0
  ·rw[iP9 ht];exact .inr (by simp only;rw[oZ _ hbl];exact Cd (by decide) (by decide))
  ·rw[iN9 ht]at h0;exact absurd h0 ht
 ·by_cases ht:storeT s1.gs (s1.r.aD (s.ins fs).d) (s.ins fs).jump k (nN aD (s.ins fs) s1)=0
  ·rw[iP9 ht];exact .inr (Cd (by decide) (by decide))
  ·rw[iN9 ht]at h0;exact absurd h0 ht
 ·exact .inr (by simp only;rw[oZ _ hbl];exact Cd (by decide) (by decide))
 ·have hs6:=Cd (by decide) (by decide);have hcall:=hi.call;rw[show(dz (yV fs s.r.top.fn s.r.top.slot).o.code).t=6 from congrArg VS.t hdd]at hcall;obtain⟨q1,q2,q3,q4⟩:=U5 s1 hbl;by_cases h1:(s.ins fs).s=1
  ·rw[iP9 h1]at h0 ⊢;by_cases h8:s1.r.calls.length=8
   ·rw[iP9 h8]at h0;cases h0
   ·rw[iN9 h8];refine .inr (λp hp'=>?_);simp only at hp';rw[Li]at hp';rcases List.mem_append.1 hp' with hp'|hp'
    ·exact hs6 p hp'
    ·rw[List.mem_singleton.1 hp'];have hn2:0<=(s.ins fs).num/\(s.ins fs).num<fs.length:=(hcall rfl).1 h1
     exact hc.first _ (tN fs _ (by
      show(s.ins fs).num.toNat<fs.length
      omega))
  ·rw[iN9 h1]at h0 ⊢;right;split
   ·rw[q1];exact hs6
   ·split
    ·rw[q2];exact hs6
    ·split
     ·rw[q3];exact hs6
     ·rw[q4];exact hs6
 ·by_cases h1:s1.r.calls.length=1
  ·rw[iP9 h1]at h0 ⊢;by_cases h2:(s1.r.aD 0).so=0
   ·rw[iP9 h2];exact .inl rfl
   ·rw[iN9 h2]at h0;cases h0
  ·rw[iN9 h1];refine .inr ?_;simp only;rw[U6 _ (by omega),hb,bj];exact hp.low
theorem aa2(m k n q:Nat)(d s v:MV)(hd:d.Ok n q)(hs:s.Ok n q)(h:rkP m k d s=some v):v.Ok n q:=by
 unfold rkP at h;split at h
 ·cases h;exact hs
 ·split at h
  ·cases h;exact MV.Ok.num (Mu _)
  ·cases h
 ·split at h
  ·cases h;exact MV.Ok.num (Lc _ _ _ _ hd.1 hs.1)
  ·cases h
 ·split at h
  ·cases h;exact MV.Ok.num (Mu _)
  ·cases h
 ·split at h
  ·split at h
   ·cases h;exact⟨Lc _ _ _ _ hd.1 hs.1,hd.2⟩
   ·cases h
  ·split at h
   ·cases h;exact MV.Ok.num (Lc _ _ _ _ hd.1 hs.1)
   ·cases h
theorem DX:∀(l:List Nat),(∀b∈l,b<256)->leN l<256 ^ l.length
 |[],_=>by show 0<1;decide
 |x::l,h=>by
  have h1:=h x (by simp);have h2:=DX l (λb hb=>h b (by simp[hb]));show x+256*leN l<256 ^ (l.length+1)
  rw[Nat.pow_succ];omega
theorem Ce(num:Nat):∀(k A:Nat) (l:List Nat),(∀b∈l,b<256)->∀b∈putB l A num k,b<256
 |0,_,_,h,b,hb=>h b hb
 |k+1,A,l,h,b,hb=>by
  rcases ab hb with hb|rfl
  ·exact Ce num k A l h b hb
  ·exact Nat.mod_lt _ (by decide)
theorem U8{gs:List (List Nat)}(hg:zN gs)(v:MV)(j:Int)(k:Nat)(hk:k<=8)(hq:v.aD.getD 0<gs.length):DS gs v j k<18446744073709551616:=by
 unfold DS;have hb:∀b∈((gs.getD (v.aD.getD 0) []).drop (kQ v j)).take k,b<256:=λb hb=>(hg.at _ hq).2 b (cx (cy hb));have h1:=DX _ hb;have h2:(((gs.getD (v.aD.getD 0) []).drop (kQ v j)).take k).length<=8:=by rw[List.length_take];omega
 have h3:256 ^ (((gs.getD (v.aD.getD 0) []).drop (kQ v j)).take k).length<=256 ^ 8:=Nat.pow_le_pow_right (by decide) h2;have h4:(256:Nat) ^ 8=18446744073709551616:=by decide
 omega
theorem MG{gs:List (List Nat)}{n m:Nat}(v:MV)(hv:v.Ok n m)(j:Int)(k:Nat)(h:dK gs v j k=0):v.aD.getD 0<n:=by
 unfold dK at h;by_cases h2:v.so=2
 ·obtain⟨q,hq,hlt⟩:=hv.pt h2;rw[hq];exact hlt
 ·rw[iP9 (by simpa using h2)]at h;exact absurd h (by decide)
def IQ(fn:Nat)(s:bP):Prop:=bR fn (QC s).2/\bR fn (QD s).2/\bR fn (QF s).2/\(QC s).2.ms.length=s.ms.length/\(QD s).2.ms.length=s.ms.length/\(QF s).2.ms.length=s.ms.length
theorem U9(x:PI):x.UQ<18446744073709551616:=by unfold PI.UQ;omega
theorem MH{fn:Nat}{s:bP}(ho:bR fn s):bR fn (IL s).2:=by
 unfold IL;split
 ·exact ho
 ·split
  ·exact ho
  ·rename_i h2
   exact ho.logged _ (ho.aD 1).1 (by have:=ho.log.1;omega)
theorem MI(s:bP):(IL s).2.ms=s.ms:=by
 unfold IL;split
 ·rfl
 ·split<;>rfl
theorem Lj{fn mn:Nat}{s:bP}(ho:bR fn s)(hm:s.ms.length=mn)(x:PI)(hx:MF fn mn x)(hH:(dz x.o.code).t=6->x.s≠1->x.num<4->IQ fn s):bR fn (doP (dz x.o.code) x s).2/\(doP (dz x.o.code) x s).2.ms.length=mn:=by
 have hc:=hx.call;have hw:=hx.wide;have hz:=hx.size;generalize dz x.o.code=dd at *;obtain⟨t,m,k,aD⟩:=dd;simp only at hc hw hz hH;unfold doP;simp only;split
 ·cases hv:rkP m k (s.r.aD x.d) (nN aD x s)with
  |none=>exact⟨ho,hm⟩
  |some v=>exact⟨ho.eY _ _ (aa2 m k _ _ _ _ v (ho.aD _) (FE ho aD x) hv),hm⟩
 ·cases hv:ZT m k (s.r.aD x.d) (nN aD x s)with
  |none=>exact⟨ho,hm⟩
  |some v =>
   cases v with
   |true=>exact⟨ho.fQ _,hm⟩
   |false=>exact⟨ho,hm⟩
 ·exact⟨ho.fQ _,hm⟩
 ·split
  ·rename_i ht
   exact⟨ho.eY _ _ (MV.Ok.num (U8 ho.gs _ _ _ (hz (.inl rfl)).2 (MG _ (ho.aD _) _ _ ht))),hm⟩
  ·exact⟨ho,hm⟩
 ·split
  ·rename_i ht
   have hr:dK s.gs (s.r.aD x.d) x.jump k=0:=by
    unfold storeT at ht;by_cases h1:(nN aD x s).so=0
    ·rw[iN9 (by simp[h1])]at ht;exact ht
    ·rw[iP9 (by simpa using h1)]at ht;exact absurd ht (by decide)
   have hq:=MG _ (ho.aD x.d) _ _ hr;have hg:=ho.gs.at _ hq;exact⟨ho.acN _ hq _ ⟨by rw[xO];exact hg.1,Ce _ _ _ _ hg.2⟩ (λ_ _ _ _ _=>xO _ _ _ _),hm⟩
  ·exact⟨ho,hm⟩
 ·refine⟨ho.eY _ _ ?_,hm⟩;by_cases h1:x.s=1
  ·rw[iP9 h1];obtain⟨n0,n1⟩:=hw rfl h1;exact⟨(by decide:0<18446744073709551616),.inr (.inl ⟨rfl,rfl,_,rfl,by omega⟩)⟩
  ·rw[iN9 h1];exact MV.Ok.num (U9 x)
 ·by_cases h1:x.s=1
  ·rw[iP9 h1];obtain⟨n0,n1⟩:=(hc rfl).1 h1;by_cases h8:s.r.calls.length=8
   ·rw[iP9 h8];exact⟨ho,hm⟩
   ·rw[iN9 h8];exact⟨ho.call (by have:=ho.deep;omega) _ (by omega),hm⟩
  ·rw[iN9 h1];by_cases e4:x.num<4
   ·obtain⟨k1,k2,k3,l1,l2,l3⟩:=hH rfl h1 e4;split
    ·exact⟨k1,by rw[l1];exact hm⟩
    ·split
     ·exact⟨k2,by rw[l2];exact hm⟩
     ·split
      ·exact⟨k3,by rw[l3];exact hm⟩
      ·exact⟨MH ho,by rw[MI];exact hm⟩
   ·rw[iN9 (by omega),iN9 (by omega),iN9 (by omega)];exact⟨MH ho,by rw[MI];exact hm⟩
 ·by_cases h1:s.r.calls.length=1
  ·rw[iP9 h1];split
   ·exact⟨ho.finish _,hm⟩
   ·exact⟨ho,hm⟩
  ·rw[iN9 h1];exact⟨ho.back h1,hm⟩
structure vZ(F:Nat->Prop)(wT:tW)(tv:Value)(bs:List Nat)(mp:Nat)(vF:Value)(fs:List aS)(cg:List Nat)(w:tW):Prop where
 blk:∃c0 c1 c3,ak w mp #[c0,c1,vF,c3] 71
 lf:cg.length=fs.length
 vT:Sl w 75 2 vF fs.length ((fs.zip cg).flatMap Fx)
 code:∀i (h:i<fs.length) (h':i<cg.length),mI w bs cg[i] (aM fs[i].code) (atS 0 fs[i].code)
 tab:aH 0 wT tv bs aq
 md:aa ae wT w
 nM:¬F mp
 nF:∀k,vF.ownBlock=some k->¬F k
 nC:∀g∈cg,¬F g
 base:∀k,F k->wT.heap.size<=k
theorem vZ.ag{F:Nat->Prop}{wT:tW}{tv:Value}{bs:List Nat}{mp:Nat}{vF:Value}{fs:List aS}{cg:List Nat}{w w':tW}(h:vZ F wT tv bs mp vF fs cg w)(m:aa F w w'):vZ F wT tv bs mp vF fs cg w':=by obtain⟨c0,c1,c3,hb⟩:=h.blk;refine⟨⟨c0,c1,c3,hb.ag m h.nM⟩,h.lf,h.vT.ag m h.nF,λi a b=>(h.code i a b).ag m (h.nC _ (an b)),h.tab,h.md.step m (λi hi hF=>by have:=h.base i hF;omega),h.nM,h.nF,h.nC,h.base⟩
theorem vZ.quiet{F:Nat->Prop}{wT:tW}{tv:Value}{bs:List Nat}{mp:Nat}{vF:Value}{fs:List aS}{cg:List Nat}{w w':tW}(h:vZ F wT tv bs mp vF fs cg w)(m:aa ae w w'):vZ F wT tv bs mp vF fs cg w':=h.ag (m.mono (λ_ _ h=>h.elim))
theorem vZ.at'{F:Nat->Prop}{wT:tW}{tv:Value}{bs:List Nat}{mp:Nat}{vF:Value}{fs:List aS}{cg:List Nat}{w:tW}(h:vZ F wT tv bs mp vF fs cg w)(fn slot:Nat)(x:PI)(hf:fn<fs.length)(hx:(x,slot)∈atS 0 (jy fs fn).code):∃gF cF gC,vF=.slice (some ⟨gF,0,none⟩) fs.length cF/\w.cell? ⟨mp,2,none⟩=some vF/\w.cell? ⟨gF,fn*2+1,none⟩=some (.slice (some ⟨gC,0,none⟩) (aM (jy fs fn).code) (aM (jy fs fn).code))/\w.cell? ⟨gF,fn*2,none⟩=some (.string (T (jy fs fn).name))/\∀j (hj:j<(x.ins bs).cells.size),w.cell? ⟨gC,slot*8+j,none⟩=some (x.ins bs).cells[j]:=by
 have hfn:jy fs fn=fs[fn]:=by unfold jy;rw[List.getD_eq_getElem?_getD,List.getElem?_eq_getElem hf];rfl
 rw[hfn]at hx ⊢;have hc:fn<cg.length:=by rw[h.lf];exact hf
 obtain⟨c0,c1,c3,hb⟩:=h.blk;obtain⟨oF,cF,rfl,hvw⟩:=h.vT.view;obtain⟨gF,cs,rfl,hg,ht,_⟩:=hvw (by omega);obtain⟨cs2,hb2,hsz,hcs⟩:=(h.code fn hf hc).ex;have hz:fn<(fs.zip cg).length:=by rw[List.length_zip,h.lf];omega
 have hrow:∀j,j<2->w.cell? ⟨gF,fn*2+j,none⟩=(Fx (fs[fn],cg[fn]))[j]?:=λj hj=>by rw[aW hg ht _ (by omega),kr Fx 2 (fs.zip cg) (λ_ _=>rfl) fn j hz hj];simp
 refine⟨gF,cF,cg[fn],rfl,hb.cell 2,hrow 1 (by omega),hrow 0 (by omega),λj hj=>?_⟩;have hj8:j<8:=hj;have e:=hcs (x,slot) hx j hj8;simp only at e;have e2:w.cell? ⟨cg[fn],slot*8+j,none⟩=cs2[slot*8+j]?:=hb2.cell (slot*8+j);rw[e2,e]
 have:((x.ins bs).dU)[j]?=(x.ins bs).cells[j]?:=by
  show _=((x.ins bs).dU.toArray)[j]?
  rw[List.getElem?_toArray]
 rw[this,Array.getElem?_eq_getElem hj]
def MJ(F:Nat->Prop)(b:Nat)(fs:List aS):Prop:=∀f∈fs,∀p∈atS 0 f.code,∀(bs:List Nat) (w:tW) (a:Ad) (s:bP) (f9:Fn) (c9:tAV),eW F w b a s->bR fs.length s->(∀k,w.heap.size<=k->F k)->DoAt w f9 c9 (dz p.1.o.code)->MF fs.length s.ms.length p.1 ->
 ((dz p.1.o.code).t=1\/(dz p.1.o.code).t=2->∀w',aa ae w w'->Calls prog 216 #[.agg (p.1.ins bs).cells,.int .i64 s.r.top.slot] w' λe w''=>e=.returned (.int .i64 ((p.1.target s.r.top.slot).toNat:Nat))/\aa ae w' w'') ->
 ∃k,f9=.func k/\pE k/\Calls prog k (#[pt b,.agg (p.1.ins bs).cells]++c9) w λe w'=>dG F w b a (doP (dz p.1.o.code) p.1 s) e w'
def xU(fs:List aS):Prop:=∀f∈fs,∀p∈atS 0 f.code,(dz p.1.o.code).t=6->p.1.s≠1->p.1.num<4->∀s,bR fs.length s->IQ fs.length s
def MK(F:Nat->Prop)(w:tW)(b:Nat)(a:Ad)(fs:List aS)(mn fu:Nat)(D:Nat×bP)(q:Nat)(wx:tW):Prop :=
 ∃a1 s1,eW F wx b a1 s1/\bR fs.length s1/\(s1.r.ended=true\/Cc fs s1)/\s1.ms.length=mn/\s1.r.fuel=fu/\s1.r.used<=fu/\q=fu-s1.r.used/\followP fs (q+2) s1=D/\a1.mb=a.mb/\a1.vM=a.vM/\aa F w wx
theorem Va(d:VS)(x:PI)(s:bP):(doP d x s).2.r.fuel=s.r.fuel/\(doP d x s).2.r.used=s.r.used:=by
 have hs:∀(r:aC) (n:Nat) (v:MV),(r.eY n v).fuel=r.fuel/\(r.eY n v).used=r.used:=λr n v=>⟨rfl,rfl⟩
 have hss:∀(vs:List MV) (r:aC) (n:Nat),(r.kP n vs).fuel=r.fuel/\(r.kP n vs).used=r.used:=λvs=>by
  induction vs with
  |nil=>intro r n;exact⟨rfl,rfl⟩
  |cons v vs ih=>intro r n;exact ih _ _
 have ha:∀(r:aC) (v:MV),(r.answer v).fuel=r.fuel/\(r.answer v).used=r.used:=λr v=>hss _ _ _
 have hp:∀t key val,(Fz s t key val).1.r=s.r:=λt key val=>by
  unfold Fz;split
  ·rfl
  ·split<;>rfl
 have hd:∀t key,(FB s t key).1.r=s.r:=λt key=>by unfold FB;split<;>rfl
 unfold doP;split
 ·split<;>exact⟨rfl,rfl⟩
 ·split
  ·exact⟨rfl,rfl⟩
  ·split<;>exact⟨rfl,rfl⟩
 ·exact⟨rfl,rfl⟩
 ·split<;>exact⟨rfl,rfl⟩
 ·split<;>exact⟨rfl,rfl⟩
 ·exact⟨rfl,rfl⟩
 ·split
  ·split
   ·exact⟨rfl,rfl⟩
   ·exact hss _ _ _
  ·split
   ·unfold QC;split
    ·exact⟨rfl,rfl⟩
    ·split
     ·exact⟨rfl,rfl⟩
     ·exact ha _ _
   ·split
    ·unfold QD;split
     ·exact⟨rfl,rfl⟩
     ·split
      ·exact⟨rfl,rfl⟩
      ·split
       ·exact⟨rfl,rfl⟩
       ·show((Fz _ _ _ _).1.r.answer _).fuel=_/\((Fz _ _ _ _).1.r.answer _).used=_
        rw[hp];exact ha _ _
    ·split
     ·unfold QF;split
      ·exact⟨rfl,rfl⟩
      ·split
       ·exact⟨rfl,rfl⟩
       ·show((FB _ _ _).1.r.answer _).fuel=_/\((FB _ _ _).1.r.answer _).used=_
        rw[hd];exact ha _ _
     ·unfold IL;split
      ·exact⟨rfl,rfl⟩
      ·split
       ·exact⟨rfl,rfl⟩
       ·exact ha {s.r with log:=_} _
 ·split
  ·split<;>exact⟨rfl,rfl⟩
  ·exact ha s.r.pop _
