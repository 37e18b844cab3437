import Derived.Test.YthnphhgpfedeeaaGreatDoorCF47
namespace Go.Proofs.YthnphhgpfedeeaaGreatDoor
open Go.RowKit Tryz
open List renaming take_succ_cons->ab,drop_succ_cons->al,take_zero->an,drop_zero->ao,mem_or_eq_of_mem_set->ar,length_append->aE,eq_of_mem_replicate->ba,length_set->bh,length_dropLast->bj,getElem_mem->bq
set_option linter.all false
set_option maxRecDepth 100000
set_option maxHeartbeats 1000000
theorem ak.yX{w:tW}{b:Nat}{a0 a1 a2 a3 a4 a5 a6 a7:Value}{t:TypeId}(h:ak w b #[a0,a1,a2,a3,a4,a5,a6,a7] t):(∀e:Ext ae w,e.w.cell? ⟨b,0,none⟩=some a0)/\(∀e:Ext ae w,e.w.cell? ⟨b,1,none⟩=some a1)/\(∀e:Ext ae w,e.w.cell? ⟨b,2,none⟩=some a2)/\(∀e:Ext ae w,e.w.cell? ⟨b,3,none⟩=some a3)/\(∀e:Ext ae w,e.w.cell? ⟨b,4,none⟩=some a4)/\(∀e:Ext ae w,e.w.cell? ⟨b,5,none⟩=some a5)/\(∀e:Ext ae w,e.w.cell? ⟨b,6,none⟩=some a6)/\∀e:Ext ae w,e.w.cell? ⟨b,7,none⟩=some a7 :=
 ⟨λe=>(h.ag e.m id).cell 0,λe=>(h.ag e.m id).cell 1,λe=>(h.ag e.m id).cell 2,λe=>(h.ag e.m id).cell 3,λe=>(h.ag e.m id).cell 4,λe=>(h.ag e.m id).cell 5,λe=>(h.ag e.m id).cell 6,λe=>(h.ag e.m id).cell 7⟩
def QS(w:tW)(f:FuncId)(args:tAV)(R:tW->Prop)(F:Nat->Prop):Prop:=∀w',aa ae w w'->Calls prog f args w' λe w''=>e=.returned (.tuple #[])/\R w''/\aa F w' w''
theorem QS.at'{w w' W:tW}{f:FuncId}{args:tAV}{R:tW->Prop}{F:Nat->Prop}(h:QS w f args R F)(m:af (aa ae w W))(m':af (aa ae W w')):Calls prog f args w' λe w''=>e=.returned (.tuple #[])/\af (R w''/\aa F w w'') :=
 (h w' (m.o.trans m'.o)).mono λ_ _ hh=>⟨hh.1,hh.2.1,(aa.of_nil (m.o.trans m'.o)).trans hh.2.2⟩
def QR(w:tW)(f:FuncId)(args:tAV)(R:Ending->tW->Prop):Prop:=∀w',aa ae w w'->Calls prog f args w' λe w''=>(e=.returned (.tuple #[])\/∃t,e=aX t)/\af (R e w'')
theorem acG(w:tW)(a0 a1 a2 a3 a4 a5 a6 a7:Value)(b:Nat)(b1 b2:Nat)(fk fo:FuncId)(cr:tAV)(hb1:ak w b1 #[.func (.func fk) #[] cr] 208)(hb2:ak w b2 #[nQ fo] 280)(en:pE fk)(eno:pE fo)(d s:Value)(hg:QA w 205 #[pt b,a1] (.returned d))(ho:QA w fo #[pt b,.agg #[a0,a1,a2,a3,a4,a5,a6,a7]] (.returned s))(v:Value)(hk:QA w fk (#[d,s]++cr) (.returned v))(R:tW->Prop)(F:Nat->Prop)(hS:QS w 54 #[pt b,a1,v] R F):Calls prog 204 #[pt b,.agg #[a0,a1,a2,a3,a4,a5,a6,a7],pt b1,pt b2] w λe w'=>e=.returned (.tuple #[])/\R w'/\aa F w w':=by
 unfold pE at en eno;have HM:=ai ((aa.refl ae w).alloc (.cells #[a0,a1,a2,a3,a4,a5,a6,a7] 138));have BI:=ai (ak.new w #[a0,a1,a2,a3,a4,a5,a6,a7] 138);have c1:=ai (hb1.ag HM.o id);have c2:=ai (hb2.ag HM.o id);have HG:=hg.to HM.o;have HO:=ho.to HM.o;have HK:=hk.to HM.o;clear hb1 hb2 hg ho hk;go_enter func204,ntmps204;go_upto_region 1 with fail;generalize w.alloc (.cells #[a0,a1,a2,a3,a4,a5,a6,a7] 138)=W3 at *;obtain⟨x0,x1,x2,x3,x4,x5,x6,x7⟩:=BI.o.yX;have p0:=c1.o.one';have q0:=c2.o.one';refine gy ae 13 [7,11,12] (by kernel_rfl) (by kernel_rfl) (λ_ M0=>?_);simp only[ab,an,al,ao]
 iterate 7 (refine aA rfl rfl rfl ?_;intro K hK;go_big_quiet_op;go_big_quiet_on)
 refine aF rfl rfl ?_;intro K hK;go_big_op;refine(um HG M0).mono ?_;rintro e u1 ⟨rfl,M1⟩;refine hK _ _ rfl ⟨⟨_,M1.o⟩,rfl⟩ ?_;clear hK K
 iterate 3 (refine aA rfl rfl rfl ?_;intro K hK;go_big_quiet_op;go_big_quiet_on)
 refine aF rfl rfl ?_;intro K hK;go_big_op;refine(um HO M1).mono ?_;rintro e u2 ⟨rfl,M2⟩;refine hK _ _ rfl ⟨⟨_,M2.o⟩,rfl⟩ ?_;clear hK K;refine aF rfl rfl ?_;intro K hK;go_big_op;refine(um HK M2).mono ?_;rintro e u3 ⟨rfl,M3⟩;refine hK _ _ rfl ⟨⟨_,M3.o⟩,rfl⟩ ?_;clear hK K;refine bX ?_;clear x0 x1 x2 x3 x4 x5 x6 x7 p0 q0;go_wp2_with fail;refine(hS.at' HM M3).mono ?_;rintro e w4 ⟨rfl,hr⟩;go_wp2_with fail;go_end0;exact⟨rfl,hr.o⟩
theorem acH(w:tW)(a0 a1 a2 a3 a4 a5 a6 a7:Value)(b:Nat)(b1 b2:Nat)(fk fo:FuncId)(cr:tAV)(hb1:ak w b1 #[.func (.func fk) #[] cr] 208)(hb2:ak w b2 #[nQ fo] 280)(en:pE fk)(eno:pE fo)(d s:Value)(hg:QA w 205 #[pt b,a1] (.returned d))(ho:QA w fo #[pt b,.agg #[a0,a1,a2,a3,a4,a5,a6,a7]] (.returned s))(t:Nat)(hk:QA w fk (#[d,s]++cr) (aX t)):Calls prog 204 #[pt b,.agg #[a0,a1,a2,a3,a4,a5,a6,a7],pt b1,pt b2] w λe w'=>e=aX t/\aa ae w w':=by
 unfold pE at en eno;have HM:=ai ((aa.refl ae w).alloc (.cells #[a0,a1,a2,a3,a4,a5,a6,a7] 138));have BI:=ai (ak.new w #[a0,a1,a2,a3,a4,a5,a6,a7] 138);have c1:=ai (hb1.ag HM.o id);have c2:=ai (hb2.ag HM.o id);have HG:=hg.to HM.o;have HO:=ho.to HM.o;have HK:=hk.to HM.o;clear hb1 hb2 hg ho hk;go_enter func204,ntmps204;go_upto_region 1 with fail;generalize w.alloc (.cells #[a0,a1,a2,a3,a4,a5,a6,a7] 138)=W3 at *;obtain⟨x0,x1,x2,x3,x4,x5,x6,x7⟩:=BI.o.yX;have p0:=c1.o.one';have q0:=c2.o.one';refine iO ae 12 [7,11,12] [0,1,2,3,4,5,6,7,8,9,10,11] (λc w'=>.panicked c=aX t/\aa ae w w') (by kernel_rfl) (by kernel_rfl) (λc a' w' hd' hm=>⟨hd',hm⟩) (λ_ M0=>?_)
 iterate 7 (refine je rfl rfl rfl rfl ?_;intro K hK;(conv=>(arg 2;whnf));go_big_quiet_op;go_big_quiet_on)
 refine wF rfl rfl rfl ?_;intro K hK
 conv=>(arg 2;whnf)
 go_big_op;refine(um HG M0).mono ?_;rintro e u1 ⟨rfl,M1⟩;refine hK _ _ rfl ⟨⟨_,M1.o⟩,rfl⟩ ?_;clear hK K
 iterate 3 (refine je rfl rfl rfl rfl ?_;intro K hK;(conv=>(arg 2;whnf));go_big_quiet_op;go_big_quiet_on)
 refine wF rfl rfl rfl ?_;intro K hK
 conv=>(arg 2;whnf)
 go_big_op;refine(um HO M1).mono ?_;rintro e u2 ⟨rfl,M2⟩;refine hK _ _ rfl ⟨⟨_,M2.o⟩,rfl⟩ ?_;clear hK K;refine mixL_pan rfl rfl rfl ?_;intro QQ Yp hLO
 conv=>(arg 2;whnf)
 go_big_op;refine(um HK M2).mono ?_;rintro e up ⟨rfl,MP⟩;exact Yp _ _ ⟨rfl,HM.o.trans MP.o⟩
theorem aaZ(w:tW)(b:Nat)(rb mb:List Nat)(vM vC vL:Value)(r:aC)(h:aB w b rb mb vM vC vL r)(hp:0<r.calls.length)(X:di)(hd:X.d<11)(aD:Bool)(hX:aD=true->X.s<11)(b1 b2:Nat)(fr:Fn)(cr:tAV)(hb1:ak w b1 #[.func fr #[] cr] 208)(hb2:ak w b2 #[nQ (FR aD)] 280)(m k:Nat)(hk:Mx w rb mb fr cr m k (r.aD X.d) (xR aD X r))(v:MV)(hv:rkP m k (r.aD X.d) (xR aD X r)=some v):Calls prog 204 #[pt b,.agg X.cells,pt b1,pt b2] w λe w'=>e=.returned (.tuple #[])/\aB w' b rb mb vM vC vL (r.eY X.d v)/\aa (Own vC) w w':=by obtain⟨fk,rfl,en,hkk⟩:=hk;rw[hv]at hkk;exact acG w _ _ _ _ _ _ _ _ b b1 b2 fk _ cr hb1 hb2 en (jT aD) _ _ (λw' m=>fD w' b rb mb vM vC vL r (h.quiet m) hp X.d hd) (λw' m=>mr w' b rb mb vM vC vL r (h.quiet m) hp X aD hX) _ hkk _ _ (λw' m=>xM w' b rb mb vM vC vL r (h.quiet m) hp X.d hd v)
theorem aa0(w:tW)(b:Nat)(rb mb:List Nat)(vM vC vL:Value)(r:aC)(h:aB w b rb mb vM vC vL r)(hp:0<r.calls.length)(X:di)(hd:X.d<11)(aD:Bool)(hX:aD=true->X.s<11)(b1 b2:Nat)(fr:Fn)(cr:tAV)(hb1:ak w b1 #[.func fr #[] cr] 208)(hb2:ak w b2 #[nQ (FR aD)] 280)(m k:Nat)(hk:Mx w rb mb fr cr m k (r.aD X.d) (xR aD X r))(hv:rkP m k (r.aD X.d) (xR aD X r)=none):Calls prog 204 #[pt b,.agg X.cells,pt b1,pt b2] w λe w'=>e=aX 2/\aa ae w w':=by obtain⟨fk,rfl,en,hkk⟩:=hk;rw[hv]at hkk;exact acH w _ _ _ _ _ _ _ _ b b1 b2 fk _ cr hb1 hb2 en (jT aD) _ _ (λw' m=>fD w' b rb mb vM vC vL r (h.quiet m) hp X.d hd) (λw' m=>mr w' b rb mb vM vC vL r (h.quiet m) hp X aD hX) 2 hkk
theorem aa1(w:tW)(a0 a1 a2 a3 a4 a5 a6 a7:Value)(b:Nat)(fn sl t:Value)(hp:QA w 57 #[pt b] (.returned (.tuple #[fn,sl])))(ht:QA w 216 #[.agg #[a0,a1,a2,a3,a4,a5,a6,a7],sl] (.returned t))(R:tW->Prop)(F:Nat->Prop)(hS:QS w 215 #[pt b,t] R F):Calls prog 118 #[pt b,.agg #[a0,a1,a2,a3,a4,a5,a6,a7]] w λe w'=>e=.returned (.tuple #[])/\R w'/\aa F w w':=by have HM:=ai ((aa.refl ae w).alloc (.cells #[a0,a1,a2,a3,a4,a5,a6,a7] 138));have BI:=ai (ak.new w #[a0,a1,a2,a3,a4,a5,a6,a7] 138);have HP:=hp.to HM.o;have HT:=ht.to HM.o;clear hp ht;go_enter func118,ntmps118;go_upto_region 1 with fail;generalize w.alloc (.cells #[a0,a1,a2,a3,a4,a5,a6,a7] 138)=W3 at *;go_wp2_with fail;refine(um HP ax).mono ?_;rintro e w1 ⟨rfl,M1⟩;have BJ:=ai (BI.o.ag M1.o id);have x0:=BJ.o.cell 0;have x1:=BJ.o.cell 1;have x2:=BJ.o.cell 2;have x3:=BJ.o.cell 3;have x4:=BJ.o.cell 4;have x5:=BJ.o.cell 5;have x6:=BJ.o.cell 6;have x7:=BJ.o.cell 7;go_wp2_with fail;refine(um HT M1).mono ?_;rintro e w2 ⟨rfl,M2⟩;clear x0 x1 x2 x3 x4 x5 x6 x7;go_wp2_with fail;refine(hS.at' HM M2).mono ?_;rintro e w4 ⟨rfl,hr⟩;go_wp2_with fail;go_end0;exact⟨rfl,hr.o⟩
theorem Yw(w:tW)(b:Nat)(rb mb:List Nat)(vM vC vL:Value)(r:aC)(h:aB w b rb mb vM vC vL r)(hp:0<r.calls.length)(X:di)(t:Nat)(hT:∀w',aa ae w w'->Calls prog 216 #[.agg X.cells,.int .i64 r.top.slot] w' λe w''=>e=.returned (.int .i64 t)/\aa ae w' w''):Calls prog 118 #[pt b,.agg X.cells] w λe w'=>e=.returned (.tuple #[])/\aB w' b rb mb vM vC vL (r.fQ t)/\aa (Own vC) w w':=by exact aa1 w _ _ _ _ _ _ _ _ b _ _ _ (λw' m=>vX w' b rb mb vM vC vL r (h.quiet m) hp) hT _ _ (λw' m=>Qo w' b rb mb vM vC vL r (h.quiet m) hp t)
theorem Ld(w:tW)(a0 a1 a2 a3 a4 a5 a6 a7:Value)(b:Nat)(b1 b2:Nat)(fk fo:FuncId)(cr:tAV)(hb1:ak w b1 #[.func (.func fk) #[] cr] 218)(hb2:ak w b2 #[nQ fo] 280)(en:pE fk)(eno:pE fo)(d s:Value)(hg:QA w 205 #[pt b,a1] (.returned d))(ho:QA w fo #[pt b,.agg #[a0,a1,a2,a3,a4,a5,a6,a7]] (.returned s))(ek:Ending)(hk:QA w fk (#[d,s]++cr) ek)(R:Ending->tW->Prop)(hek:(∃t,ek=aX t)\/ek=.returned (.bool false)\/ek=.returned (.bool true))(h1:∀t w',ek=aX t->aa ae w w'->R (aX t) w')(h2:ek=.returned (.bool false)->∀w',aa ae w w'->R (.returned (.tuple #[])) w')(h3:ek=.returned (.bool true)->∀w',aa ae w w'->Calls prog 118 #[pt b,.agg #[a0,a1,a2,a3,a4,a5,a6,a7]] w' λe w''=>e=.returned (.tuple #[])/\R e w''):Calls prog 230 #[pt b,.agg #[a0,a1,a2,a3,a4,a5,a6,a7],pt b1,pt b2] w λe w'=>R e w':=by
 unfold pE at en eno;have HM:=ai ((aa.refl ae w).alloc (.cells #[a0,a1,a2,a3,a4,a5,a6,a7] 138));have BI:=ai (ak.new w #[a0,a1,a2,a3,a4,a5,a6,a7] 138);have c1:=ai (hb1.ag HM.o id);have c2:=ai (hb2.ag HM.o id);have HG:=hg.to HM.o;have HO:=ho.to HM.o;have HK:=hk.to HM.o;clear hb1 hb2 hg ho hk;go_enter func230,ntmps230;go_upto_region 1 with fail;generalize w.alloc (.cells #[a0,a1,a2,a3,a4,a5,a6,a7] 138)=W3 at *;have H1:=ai h1;have H2:=ai h2;have H3:=ai h3;have Xu:=ai hek;clear h1 h2 h3 hek;obtain⟨x0,x1,x2,x3,x4,x5,x6,x7⟩:=BI.o.yX;have p0:=c1.o.one';have q0:=c2.o.one';refine gy ae 9 [4,8] (by kernel_rfl) (by kernel_rfl) (λ_ M0=>?_);simp only[ab,an,al,ao]
 iterate 4 (refine aA rfl rfl rfl ?_;intro K hK;go_big_quiet_op;go_big_quiet_on)
 refine aF rfl rfl ?_;intro K hK;go_big_op;refine(um HG M0).mono ?_;rintro e u1 ⟨rfl,M1⟩;refine hK _ _ rfl ⟨⟨_,M1.o⟩,rfl⟩ ?_;clear hK K
 iterate 3 (refine aA rfl rfl rfl ?_;intro K hK;go_big_quiet_op;go_big_quiet_on)
 refine aF rfl rfl ?_;intro K hK;go_big_op;refine(um HO M1).mono ?_;rintro e u2 ⟨rfl,M2⟩;refine hK _ _ rfl ⟨⟨_,M2.o⟩,rfl⟩ ?_;clear hK K;refine bX ?_;clear x0 x1 x2 x3 x4 x5 x6 x7 p0 q0;go_wp2_with fail;refine(um HK M2).mono ?_;rintro e w4 ⟨rfl,M4⟩;rcases Xu.o with⟨t,rfl⟩|rfl|rfl
 ·exact⟨rfl,H1.o t w4 rfl (HM.o.trans M4.o)⟩
 ·have HR:=ai (H2.o rfl w4 (HM.o.trans M4.o));clear H1 H2 H3 Xu HK;go_wp2_with fail;go_end0;exact HR.o
 ·have H4:=ai (H3.o rfl w4 (HM.o.trans M4.o));have BJ:=ai (BI.o.ag M4.o id);clear H1 H2 H3 Xu HK;have x0:=BJ.o.cell 0;have x1:=BJ.o.cell 1;have x2:=BJ.o.cell 2;have x3:=BJ.o.cell 3;have x4:=BJ.o.cell 4;have x5:=BJ.o.cell 5;have x6:=BJ.o.cell 6;have x7:=BJ.o.cell 7;go_wp2_with fail;refine H4.o.mono ?_;rintro e w5 ⟨rfl,hr⟩;have HR:=ai hr;clear hr x0 x1 x2 x3 x4 x5 x6 x7;go_wp2_with fail;go_end0;exact HR.o
theorem Yx(w:tW)(b:Nat)(rb mb:List Nat)(vM vC vL:Value)(r:aC)(h:aB w b rb mb vM vC vL r)(hp:0<r.calls.length)(X:di)(hd:X.d<11)(aD:Bool)(hX:aD=true->X.s<11)(b1 b2:Nat)(fr:Fn)(cr:tAV)(hb1:ak w b1 #[.func fr #[] cr] 218)(hb2:ak w b2 #[nQ (FR aD)] 280)(m k:Nat)(hk:MB w rb mb fr cr m k (r.aD X.d) (xR aD X r))(hv:ZT m k (r.aD X.d) (xR aD X r)=none):Calls prog 230 #[pt b,.agg X.cells,pt b1,pt b2] w λe w'=>e=aX 2/\aa ae w w':=by obtain⟨fk,rfl,en,hkk⟩:=hk;rw[hv]at hkk;exact Ld w _ _ _ _ _ _ _ _ b b1 b2 fk _ cr hb1 hb2 en (jT aD) _ _ (λw' m=>fD w' b rb mb vM vC vL r (h.quiet m) hp X.d hd) (λw' m=>mr w' b rb mb vM vC vL r (h.quiet m) hp X aD hX) _ hkk (λe w'=>e=aX 2/\aa ae w w') (.inl ⟨2,rfl⟩) (λt w' e m=>⟨e.symm,m⟩) (λh=>by cases h) (λh=>by cases h)
theorem QK(w:tW)(b:Nat)(rb mb:List Nat)(vM vC vL:Value)(r:aC)(h:aB w b rb mb vM vC vL r)(hp:0<r.calls.length)(X:di)(hd:X.d<11)(aD:Bool)(hX:aD=true->X.s<11)(b1 b2:Nat)(fr:Fn)(cr:tAV)(hb1:ak w b1 #[.func fr #[] cr] 218)(hb2:ak w b2 #[nQ (FR aD)] 280)(m k:Nat)(hk:MB w rb mb fr cr m k (r.aD X.d) (xR aD X r))(hv:ZT m k (r.aD X.d) (xR aD X r)=some false):Calls prog 230 #[pt b,.agg X.cells,pt b1,pt b2] w λe w'=>e=.returned (.tuple #[])/\aa ae w w':=by obtain⟨fk,rfl,en,hkk⟩:=hk;rw[hv]at hkk;exact Ld w _ _ _ _ _ _ _ _ b b1 b2 fk _ cr hb1 hb2 en (jT aD) _ _ (λw' m=>fD w' b rb mb vM vC vL r (h.quiet m) hp X.d hd) (λw' m=>mr w' b rb mb vM vC vL r (h.quiet m) hp X aD hX) _ hkk (λe w'=>e=.returned (.tuple #[])/\aa ae w w') (.inr (.inl rfl)) (λt w' e m=>by cases e) (λ_ w' m=>⟨rfl,m⟩) (λh=>by cases h)
theorem Yy(w:tW)(b:Nat)(rb mb:List Nat)(vM vC vL:Value)(r:aC)(h:aB w b rb mb vM vC vL r)(hp:0<r.calls.length)(X:di)(hd:X.d<11)(aD:Bool)(hX:aD=true->X.s<11)(b1 b2:Nat)(fr:Fn)(cr:tAV)(hb1:ak w b1 #[.func fr #[] cr] 218)(hb2:ak w b2 #[nQ (FR aD)] 280)(m k:Nat)(hk:MB w rb mb fr cr m k (r.aD X.d) (xR aD X r))(hv:ZT m k (r.aD X.d) (xR aD X r)=some true)(t:Nat)(hT:∀w',aa ae w w'->Calls prog 216 #[.agg X.cells,.int .i64 r.top.slot] w' λe w''=>e=.returned (.int .i64 t)/\aa ae w' w''):Calls prog 230 #[pt b,.agg X.cells,pt b1,pt b2] w λe w'=>e=.returned (.tuple #[])/\aB w' b rb mb vM vC vL (r.fQ t)/\aa (Own vC) w w':=by obtain⟨fk,rfl,en,hkk⟩:=hk;rw[hv]at hkk;exact Ld w _ _ _ _ _ _ _ _ b b1 b2 fk _ cr hb1 hb2 en (jT aD) _ _ (λw' m=>fD w' b rb mb vM vC vL r (h.quiet m) hp X.d hd) (λw' m=>mr w' b rb mb vM vC vL r (h.quiet m) hp X aD hX) _ hkk (λe w'=>e=.returned (.tuple #[])/\aB w' b rb mb vM vC vL (r.fQ t)/\aa (Own vC) w w') (.inr (.inr rfl)) (λt w' e m=>by cases e) (λh=>by cases h) (λ_ w' m=>(Yw w' b rb mb vM vC vL r (h.quiet m) hp X t (λw2 m2=>hT w2 (m.trans m2))).mono λe w2 hh=>⟨hh.1,hh.1,hh.2.1,(aa.of_nil m).trans hh.2.2⟩)
theorem aeC(w:tW)(a0 a1 a2 a3 a4 a5 a6 a7:Value)(b:Nat)(b1:Nat)(nV:Value)(hb1:ak w b1 #[nV] 3)(d:Value)(hg:QA w 205 #[pt b,a2] (.returned d))(v:Value)(hl:QA w 234 #[d,a3,nV] (.returned v))(R:tW->Prop)(F:Nat->Prop)(hS:QS w 54 #[pt b,a1,v] R F):Calls prog 233 #[pt b,.agg #[a0,a1,a2,a3,a4,a5,a6,a7],pt b1] w λe w'=>e=.returned (.tuple #[])/\R w'/\aa F w w':=by
 have HM:=ai ((aa.refl ae w).alloc (.cells #[a0,a1,a2,a3,a4,a5,a6,a7] 138));have BI:=ai (ak.new w #[a0,a1,a2,a3,a4,a5,a6,a7] 138);have c1:=ai (hb1.ag HM.o id);have HG:=hg.to HM.o;have HL:=hl.to HM.o;clear hb1 hg hl;go_enter func233,ntmps233;go_upto_region 1 with fail;generalize w.alloc (.cells #[a0,a1,a2,a3,a4,a5,a6,a7] 138)=W3 at *;obtain⟨x0,x1,x2,x3,x4,x5,x6,x7⟩:=BI.o.yX;have p0:=c1.o.one';refine gy ae 11 [6,10] (by kernel_rfl) (by kernel_rfl) (λ_ M0=>?_);simp only[ab,an,al,ao]
 iterate 6 (refine aA rfl rfl rfl ?_;intro K hK;go_big_quiet_op;go_big_quiet_on)
 refine aF rfl rfl ?_;intro K hK;go_big_op;refine(um HG M0).mono ?_;rintro e u1 ⟨rfl,M1⟩;refine hK _ _ rfl ⟨⟨_,M1.o⟩,rfl⟩ ?_;clear hK K
 iterate 3 (refine aA rfl rfl rfl ?_;intro K hK;go_big_quiet_op;go_big_quiet_on)
 refine aF rfl rfl ?_;intro K hK;go_big_op;refine(um HL M1).mono ?_;rintro e u2 ⟨rfl,M2⟩;refine hK _ _ rfl ⟨⟨_,M2.o⟩,rfl⟩ ?_;clear hK K;refine bX ?_;clear x0 x1 x2 x3 x4 x5 x6 x7 p0;go_wp2_with fail;refine(hS.at' HM M2).mono ?_;rintro e w4 ⟨rfl,hr⟩;go_wp2_with fail;go_end0;exact⟨rfl,hr.o⟩
theorem aeD(w:tW)(a0 a1 a2 a3 a4 a5 a6 a7:Value)(b:Nat)(b1:Nat)(nV:Value)(hb1:ak w b1 #[nV] 3)(d:Value)(hg:QA w 205 #[pt b,a2] (.returned d))(t:Nat)(hl:QA w 234 #[d,a3,nV] (aX t)):Calls prog 233 #[pt b,.agg #[a0,a1,a2,a3,a4,a5,a6,a7],pt b1] w λe w'=>e=aX t/\aa ae w w':=by
 have HM:=ai ((aa.refl ae w).alloc (.cells #[a0,a1,a2,a3,a4,a5,a6,a7] 138));have BI:=ai (ak.new w #[a0,a1,a2,a3,a4,a5,a6,a7] 138);have c1:=ai (hb1.ag HM.o id);have HG:=hg.to HM.o;have HL:=hl.to HM.o;clear hb1 hg hl;go_enter func233,ntmps233;go_upto_region 1 with fail;generalize w.alloc (.cells #[a0,a1,a2,a3,a4,a5,a6,a7] 138)=W3 at *;obtain⟨x0,x1,x2,x3,x4,x5,x6,x7⟩:=BI.o.yX;have p0:=c1.o.one';refine iO ae 10 [6,10] [0,1,2,3,4,5,6,7,8,9] (λc w'=>.panicked c=aX t/\aa ae w w') (by kernel_rfl) (by kernel_rfl) (λc a' w' hd' hm=>⟨hd',hm⟩) (λ_ M0=>?_)
 iterate 6 (refine je rfl rfl rfl rfl ?_;intro K hK;(conv=>(arg 2;whnf));go_big_quiet_op;go_big_quiet_on)
 refine wF rfl rfl rfl ?_;intro K hK
 conv=>(arg 2;whnf)
 go_big_op;refine(um HG M0).mono ?_;rintro e u1 ⟨rfl,M1⟩;refine hK _ _ rfl ⟨⟨_,M1.o⟩,rfl⟩ ?_;clear hK K
 iterate 3 (refine je rfl rfl rfl rfl ?_;intro K hK;(conv=>(arg 2;whnf));go_big_quiet_op;go_big_quiet_on)
 refine mixL_pan rfl rfl rfl ?_;intro QQ Yp hLO
 conv=>(arg 2;whnf)
 go_big_op;refine(um HL M1).mono ?_;rintro e up ⟨rfl,MP⟩;exact Yp _ _ ⟨rfl,HM.o.trans MP.o⟩
theorem acI(w:tW)(b:Nat)(rb mb:List Nat)(vM vC vL:Value)(r:aC)(h:aB w b rb mb vM vC vL r)(hp:0<r.calls.length)(X:di)(hd:X.d<11)(hs:X.s<11)(b1 n:Nat)(hb1:ak w b1 #[.int .i64 n] 3)(v:MV)(hL:∀w',aa ae w w'->Calls prog 234 #[.agg ((r.aD X.s).cells rb mb).toArray,.int .i16 X.jump,.int .i64 n] w' λe w''=>e=.returned (.agg (v.cells rb mb).toArray)/\aa ae w' w''):Calls prog 233 #[pt b,.agg X.cells,pt b1] w λe w'=>e=.returned (.tuple #[])/\aB w' b rb mb vM vC vL (r.eY X.d v)/\aa (Own vC) w w':=by exact aeC w _ _ _ _ _ _ _ _ b b1 _ hb1 _ (λw' m=>fD w' b rb mb vM vC vL r (h.quiet m) hp X.s hs) _ hL _ _ (λw' m=>xM w' b rb mb vM vC vL r (h.quiet m) hp X.d hd v)
theorem acJ(w:tW)(b:Nat)(rb mb:List Nat)(vM vC vL:Value)(r:aC)(h:aB w b rb mb vM vC vL r)(hp:0<r.calls.length)(X:di)(_:X.d<11)(hs:X.s<11)(b1 n:Nat)(hb1:ak w b1 #[.int .i64 n] 3)(t:Nat)(hL:∀w',aa ae w w'->Calls prog 234 #[.agg ((r.aD X.s).cells rb mb).toArray,.int .i16 X.jump,.int .i64 n] w' λe w''=>e=aX t/\aa ae w' w''):Calls prog 233 #[pt b,.agg X.cells,pt b1] w λe w'=>e=aX t/\aa ae w w':=by exact aeD w _ _ _ _ _ _ _ _ b b1 _ hb1 _ (λw' m=>fD w' b rb mb vM vC vL r (h.quiet m) hp X.s hs) t hL
theorem acK(w:tW)(a0 a1 a2 a3 a4 a5 a6 a7:Value)(b:Nat)(b1 b2:Nat)(fo:FuncId)(nV:Value)(hb1:ak w b1 #[nV] 3)(hb2:ak w b2 #[nQ fo] 280)(eno:pE fo)(d s:Value)(hg:QA w 205 #[pt b,a1] (.returned d))(ho:QA w fo #[pt b,.agg #[a0,a1,a2,a3,a4,a5,a6,a7]] (.returned s))(R:Ending->tW->Prop)(hl:QR w 236 #[d,a3,nV,s] R):Calls prog 235 #[pt b,.agg #[a0,a1,a2,a3,a4,a5,a6,a7],pt b1,pt b2] w λe w'=>R e w':=by
 unfold pE at eno;have HM:=ai ((aa.refl ae w).alloc (.cells #[a0,a1,a2,a3,a4,a5,a6,a7] 138));have BI:=ai (ak.new w #[a0,a1,a2,a3,a4,a5,a6,a7] 138);have c1:=ai (hb1.ag HM.o id);have c2:=ai (hb2.ag HM.o id);have HG:=hg.to HM.o;have HO:=ho.to HM.o;clear hb1 hb2 hg ho;go_enter func235,ntmps235;go_upto_region 1 with fail;generalize w.alloc (.cells #[a0,a1,a2,a3,a4,a5,a6,a7] 138)=W3 at *;obtain⟨x0,x1,x2,x3,x4,x5,x6,x7⟩:=BI.o.yX;have p0:=c1.o.one';have q0:=c2.o.one';refine gy ae 11 [3,10] (by kernel_rfl) (by kernel_rfl) (λ_ M0=>?_);simp only[ab,an,al,ao]
 iterate 3 (refine aA rfl rfl rfl ?_;intro K hK;go_big_quiet_op;go_big_quiet_on)
 refine aF rfl rfl ?_;intro K hK;go_big_op;refine(um HG M0).mono ?_;rintro e u1 ⟨rfl,M1⟩;refine hK _ _ rfl ⟨⟨_,M1.o⟩,rfl⟩ ?_;clear hK K
 iterate 6 (refine aA rfl rfl rfl ?_;intro K hK;go_big_quiet_op;go_big_quiet_on)
 refine aF rfl rfl ?_;intro K hK;go_big_op;refine(um HO M1).mono ?_;rintro e u2 ⟨rfl,M2⟩;refine hK _ _ rfl ⟨⟨_,M2.o⟩,rfl⟩ ?_;clear hK K;refine bX ?_;clear x0 x1 x2 x3 x4 x5 x6 x7 p0 q0;go_wp2_with fail;refine(hl _ (HM.o.trans M2.o)).mono ?_;rintro e w4 ⟨he,HR⟩;rcases he with rfl |⟨t,rfl⟩
 ·go_wp2_with fail
  first|go_end0|refine bodyPost_ret (results_none rfl _ _ _) rfl ?_
  exact HR.o
 ·exact⟨rfl,HR.o⟩
theorem acL(w:tW)(b:Nat)(rb mb:List Nat)(vM vC vL:Value)(r:aC)(h:aB w b rb mb vM vC vL r)(hp:0<r.calls.length)(X:di)(hd:X.d<11)(aD:Bool)(hX:aD=true->X.s<11)(b1 b2 n:Nat)(hb1:ak w b1 #[.int .i64 n] 3)(hb2:ak w b2 #[nQ (FR aD)] 280)(P:tW->Prop)(F:Nat->Prop)(hL:∀w',aa ae w w'->Calls prog 236 #[.agg ((r.aD X.d).cells rb mb).toArray,.int .i16 X.jump,.int .i64 n,.agg ((xR aD X r).cells rb mb).toArray] w' λe w''=>e=.returned (.tuple #[])/\P w''/\aa F w' w''):Calls prog 235 #[pt b,.agg X.cells,pt b1,pt b2] w λe w'=>e=.returned (.tuple #[])/\P w'/\aa F w w':=by exact acK w _ _ _ _ _ _ _ _ b b1 b2 _ _ hb1 hb2 (jT aD) _ _ (λw' m=>fD w' b rb mb vM vC vL r (h.quiet m) hp X.d hd) (λw' m=>mr w' b rb mb vM vC vL r (h.quiet m) hp X aD hX) (λe w'=>e=.returned (.tuple #[])/\P w'/\aa F w w') (λw' m=>(hL w' m).mono λe w2 hh=>⟨.inl hh.1,hh.1,hh.2.1,(aa.of_nil m).trans hh.2.2⟩)
theorem acM(w:tW)(b:Nat)(rb mb:List Nat)(vM vC vL:Value)(r:aC)(h:aB w b rb mb vM vC vL r)(hp:0<r.calls.length)(X:di)(hd:X.d<11)(aD:Bool)(hX:aD=true->X.s<11)(b1 b2 n:Nat)(hb1:ak w b1 #[.int .i64 n] 3)(hb2:ak w b2 #[nQ (FR aD)] 280)(t:Nat)(hL:∀w',aa ae w w'->Calls prog 236 #[.agg ((r.aD X.d).cells rb mb).toArray,.int .i16 X.jump,.int .i64 n,.agg ((xR aD X r).cells rb mb).toArray] w' λe w''=>e=aX t/\aa ae w' w''):Calls prog 235 #[pt b,.agg X.cells,pt b1,pt b2] w λe w'=>e=aX t/\aa ae w w':=by exact acK w _ _ _ _ _ _ _ _ b b1 b2 _ _ hb1 hb2 (jT aD) _ _ (λw' m=>fD w' b rb mb vM vC vL r (h.quiet m) hp X.d hd) (λw' m=>mr w' b rb mb vM vC vL r (h.quiet m) hp X aD hX) (λe w'=>e=aX t/\aa ae w w') (λw' m=>(hL w' m).mono λe w2 hh=>⟨.inr ⟨t,hh.1⟩,hh.1,m.trans hh.2⟩)
theorem aeE(w:tW)(a0 a1 a2 a3 a4 a5 a6 a7:Value)(b:Nat)(R:Ending->tW->Prop)(hl:QR w 245 #[pt b] R):Calls prog 132 #[pt b,.agg #[a0,a1,a2,a3,a4,a5,a6,a7]] w λe w'=>R e w':=by
 have HM:=ai ((aa.refl ae w).alloc (.cells #[a0,a1,a2,a3,a4,a5,a6,a7] 138));have BI:=ai (ak.new w #[a0,a1,a2,a3,a4,a5,a6,a7] 138);go_enter func132,ntmps132;go_upto_region 1 with fail;generalize w.alloc (.cells #[a0,a1,a2,a3,a4,a5,a6,a7] 138)=W3 at *;go_wp2_with fail;refine(hl _ HM.o).mono ?_;rintro e w4 ⟨he,HR⟩;rcases he with rfl |⟨t,rfl⟩
 ·go_wp2_with fail
  first|go_end0|refine bodyPost_ret (results_none rfl _ _ _) rfl ?_
  exact HR.o
 ·exact⟨rfl,HR.o⟩
theorem Le(w:tW)(b:Nat)(X:di)(R:Ending->tW->Prop)(hL:∀w',aa ae w w'->Calls prog 245 #[pt b] w' λe w''=>(e=.returned (.tuple #[])\/∃t,e=aX t)/\R e w''):Calls prog 132 #[pt b,.agg X.cells] w λe w'=>R e w':=aeE w _ _ _ _ _ _ _ _ b R hL
theorem anD(w:tW)(b:Nat)(rb mb:List Nat)(vM vC vL:Value)(r:aC)(h:aB w b rb mb vM vC vL r)(hp:0<r.calls.length)(X:di)(hd:X.d<11)(hs:X.s=1)(n0:-2147483648<=X.num)(n1:X.num<=2147483647)(v:MV)(hL:∀w',aa ae w w'->Calls prog 240 #[pt b,.int .i64 X.num] w' λe w''=>e=.returned (.agg (v.cells rb mb).toArray)/\aa ae w' w''):Calls prog 127 #[pt b,.agg X.cells] w λe w'=>e=.returned (.tuple #[])/\aB w' b rb mb vM vC vL (r.eY X.d v)/\aa (Own vC) w w':=by
 obtain⟨op,d,s,jump,num,high,label,name⟩:=X;simp only at *;subst hs;have HS:af (∀w',aa ae w w'->Calls prog 54 #[pt b,.int .u8 d,.agg #[.int .i64 v.so,.int .u64 v.bits,.pointer (v.aD.map λr=>⟨rb.getD r 0,0,none⟩),.pointer (v.tab.map λt=>⟨mb.getD t 0,0,none⟩)]] w' λe w''=>e=.returned (.tuple #[])/\aB w'' b rb mb vM vC vL (r.eY d v)/\aa (Own vC) w' w''):=λw' m=>xM w' b rb mb vM vC vL r (h.quiet m) hp d hd v;generalize r.eY d v=r2 at *;have HL:af (∀w',aa ae w w'->Calls prog 240 #[pt b,.int .i64 num] w' λe w''=>e=.returned (.agg #[.int .i64 v.so,.int .u64 v.bits,.pointer (v.aD.map λr=>⟨rb.getD r 0,0,none⟩),.pointer (v.tab.map λt=>⟨mb.getD t 0,0,none⟩)])/\aa ae w' w''):=hL;clear hL h hp hd;generalize v.aD.map (λr=>(⟨rb.getD r 0,0,none⟩:Addr))=v2 at *;generalize v.tab.map (λt=>(⟨mb.getD t 0,0,none⟩:Addr))=v3 at *;generalize v.so=v0 at *;generalize v.bits=v1 at *;show Calls _ _ #[_,.agg #[op,.int .u8 d,.int .u8 1,.int .i16 jump,.int .i32 num,.int .i32 high,.string label,.string name]] _ _
 have dw:af (aa ae w (w.alloc (.cells #[op,.int .u8 d,.int .u8 1,.int .i16 jump,.int .i32 num,.int .i32 high,.string label,.string name] 138))):=aj;have BI:af (ak (w.alloc (.cells #[op,.int .u8 d,.int .u8 1,.int .i16 jump,.int .i32 num,.int .i32 high,.string label,.string name] 138)) w.heap.size #[op,.int .u8 d,.int .u8 1,.int .i16 jump,.int .i32 num,.int .i32 high,.string label,.string name] 138):=ak.new _ _ _;go_enter func127,ntmps127;go_upto_region 1 with fail;generalize w.alloc (.cells #[op,.int .u8 d,.int .u8 1,.int .i16 jump,.int .i32 num,.int .i32 high,.string label,.string name] 138)=W3 at *;have y2:=BI.o.cell 2;go_upto_region 2 with fail;clear y2;have x0:∀e:Ext ae W3,e.w.cell? ⟨w.heap.size,0,none⟩=some (op):=λe=>(BI.o.ag e.m id).cell 0;have x1:∀e:Ext ae W3,e.w.cell? ⟨w.heap.size,1,none⟩=some (.int .u8 d):=λe=>(BI.o.ag e.m id).cell 1;have x2:∀e:Ext ae W3,e.w.cell? ⟨w.heap.size,2,none⟩=some (.int .u8 1):=λe=>(BI.o.ag e.m id).cell 2;have x3:∀e:Ext ae W3,e.w.cell? ⟨w.heap.size,3,none⟩=some (.int .i16 jump):=λe=>(BI.o.ag e.m id).cell 3;have x4:∀e:Ext ae W3,e.w.cell? ⟨w.heap.size,4,none⟩=some (.int .i32 num):=λe=>(BI.o.ag e.m id).cell 4;have x5:∀e:Ext ae W3,e.w.cell? ⟨w.heap.size,5,none⟩=some (.int .i32 high):=λe=>(BI.o.ag e.m id).cell 5;have x6:∀e:Ext ae W3,e.w.cell? ⟨w.heap.size,6,none⟩=some (.string label):=λe=>(BI.o.ag e.m id).cell 6;have x7:∀e:Ext ae W3,e.w.cell? ⟨w.heap.size,7,none⟩=some (.string name):=λe=>(BI.o.ag e.m id).cell 7
 haveI:Nonempty (Ext ae W3):=Ext.ne _ _
 refine dC 8 [7] (λw'=>∃e:Ext ae W3,w'=e.w) (by kernel_rfl) (by kernel_rfl) ⟨⟨_,aJ⟩,rfl⟩ ?_;simp only[ab,an,al,ao]
 iterate 7 (refine aA rfl rfl rfl ?_;intro K' hK;go_big_quiet_op;go_big_quiet_on)
 refine aF rfl rfl ?_;intro K' hK;go_big_op;refine(HL.o _ (dw.o.trans (aa.refl ae _).drew)).mono ?_;rintro e ww1 ⟨rfl,mm⟩;have M1:af (aa ae W3 ww1):=((aa.refl ae _).drew).trans mm;refine hK _ _ rfl ⟨⟨_,M1.o⟩,rfl⟩ ?_;clear hK K' mm;refine bX ?_;clear x0 x1 x2 x3 x4 x5 x6 x7;go_wp2_with fail;refine(HS.o _ (dw.o.trans M1.o)).mono ?_;rintro e w4 ⟨rfl,hr,m4⟩;have wm:=ai hr;have M4:af (aa (Own vC) w w4):=((dw.o.trans M1.o).mono (λ_ _ h=>h.elim)).trans m4;clear hr m4;go_wp2_with fail
 first|go_end0|refine bodyPost_ret (results_none rfl _ _ _) rfl ?_
 exact⟨rfl,wm.o,M4.o⟩
theorem ahN(w:tW)(b:Nat)(rb mb:List Nat)(vM vC vL:Value)(r:aC)(h:aB w b rb mb vM vC vL r)(hp:0<r.calls.length)(X:di)(hd:X.d<11)(hs:X.s≠1)(v:MV)(n:Nat)(hv:v=kI n)(hL:∀w',aa ae w w'->Calls prog 241 #[.agg X.cells] w' λe w''=>e=.returned (.int .u64 n)/\aa ae w' w''):Calls prog 127 #[pt b,.agg X.cells] w λe w'=>e=.returned (.tuple #[])/\aB w' b rb mb vM vC vL (r.eY X.d v)/\aa (Own vC) w w':=by
 have HS:af (∀w',aa ae w w'->Calls prog 54 #[pt b,.int .u8 X.d,.agg #[.int .i64 v.so,.int .u64 v.bits,.pointer (v.aD.map λr=>⟨rb.getD r 0,0,none⟩),.pointer (v.tab.map λt=>⟨mb.getD t 0,0,none⟩)]] w' λe w''=>e=.returned (.tuple #[])/\aB w'' b rb mb vM vC vL (r.eY X.d v)/\aa (Own vC) w' w''):=λw' m=>xM w' b rb mb vM vC vL r (h.quiet m) hp X.d hd v;generalize r.eY X.d v=r2 at *;subst hv;have HL:af (∀w',aa ae w w'->Calls prog 241 #[.agg #[X.op,.int .u8 X.d,.int .u8 X.s,.int .i16 X.jump,.int .i32 X.num,.int .i32 X.high,.string X.label,.string X.name]] w' λe w''=>e=.returned (.int .u64 n)/\aa ae w' w''):=hL;have HV:af (∀w',Calls prog 56 #[.int .u64 n] w' λe w''=>e=.returned (.agg #[.int .i64 (kI n).so,.int .u64 (kI n).bits,.pointer ((kI n).aD.map λr=>⟨rb.getD r 0,0,none⟩),.pointer ((kI n).tab.map λt=>⟨mb.getD t 0,0,none⟩)])/\aa ae w' w''):=λw'=>xN w' rb mb n;generalize kI n=v at *;have hs1:((X.s:Int)==1)=false:=by simp;omega
 clear hs;clear hL h hp hd;generalize v.aD.map (λr=>(⟨rb.getD r 0,0,none⟩:Addr))=v2 at *;generalize v.tab.map (λt=>(⟨mb.getD t 0,0,none⟩:Addr))=v3 at *;generalize v.so=v0 at *;generalize v.bits=v1 at *;show Calls _ _ #[_,.agg #[X.op,.int .u8 X.d,.int .u8 X.s,.int .i16 X.jump,.int .i32 X.num,.int .i32 X.high,.string X.label,.string X.name]] _ _
 have dw:af (aa ae w (w.alloc (.cells #[X.op,.int .u8 X.d,.int .u8 X.s,.int .i16 X.jump,.int .i32 X.num,.int .i32 X.high,.string X.label,.string X.name] 138))):=aj;have BI:af (ak (w.alloc (.cells #[X.op,.int .u8 X.d,.int .u8 X.s,.int .i16 X.jump,.int .i32 X.num,.int .i32 X.high,.string X.label,.string X.name] 138)) w.heap.size #[X.op,.int .u8 X.d,.int .u8 X.s,.int .i16 X.jump,.int .i32 X.num,.int .i32 X.high,.string X.label,.string X.name] 138):=ak.new _ _ _;go_enter func127,ntmps127;go_upto_region 1 with fail;generalize w.alloc (.cells #[X.op,.int .u8 X.d,.int .u8 X.s,.int .i16 X.jump,.int .i32 X.num,.int .i32 X.high,.string X.label,.string X.name] 138)=W3 at *;have y2:=BI.o.cell 2;go_upto_region 3 with fail;clear y2;have x0:∀e:Ext ae W3,e.w.cell? ⟨w.heap.size,0,none⟩=some (X.op):=λe=>(BI.o.ag e.m id).cell 0;have x1:∀e:Ext ae W3,e.w.cell? ⟨w.heap.size,1,none⟩=some (.int .u8 X.d):=λe=>(BI.o.ag e.m id).cell 1;have x2:∀e:Ext ae W3,e.w.cell? ⟨w.heap.size,2,none⟩=some (.int .u8 X.s):=λe=>(BI.o.ag e.m id).cell 2;have x3:∀e:Ext ae W3,e.w.cell? ⟨w.heap.size,3,none⟩=some (.int .i16 X.jump):=λe=>(BI.o.ag e.m id).cell 3;have x4:∀e:Ext ae W3,e.w.cell? ⟨w.heap.size,4,none⟩=some (.int .i32 X.num):=λe=>(BI.o.ag e.m id).cell 4;have x5:∀e:Ext ae W3,e.w.cell? ⟨w.heap.size,5,none⟩=some (.int .i32 X.high):=λe=>(BI.o.ag e.m id).cell 5;have x6:∀e:Ext ae W3,e.w.cell? ⟨w.heap.size,6,none⟩=some (.string X.label):=λe=>(BI.o.ag e.m id).cell 6;have x7:∀e:Ext ae W3,e.w.cell? ⟨w.heap.size,7,none⟩=some (.string X.name):=λe=>(BI.o.ag e.m id).cell 7
 haveI:Nonempty (Ext ae W3):=Ext.ne _ _
 refine dC 6 [4,5] (λw'=>∃e:Ext ae W3,w'=e.w) (by kernel_rfl) (by kernel_rfl) ⟨⟨_,aJ⟩,rfl⟩ ?_;simp only[ab,an,al,ao]
 iterate 4 (refine aA rfl rfl rfl ?_;intro K' hK;go_big_quiet_op;go_big_quiet_on)
 refine aF rfl rfl ?_;intro K' hK;go_big_op;refine(HL.o _ (dw.o.trans (aa.refl ae _).drew)).mono ?_;rintro e ww1 ⟨rfl,mm⟩;have M1:af (aa ae W3 ww1):=((aa.refl ae _).drew).trans mm;refine hK _ _ rfl ⟨⟨_,M1.o⟩,rfl⟩ ?_;clear hK K' mm;refine aF rfl rfl ?_;intro K' hK;go_big_op;refine(HV.o _).mono ?_;rintro e ww2 ⟨rfl,mm⟩;have M2:af (aa ae W3 ww2):=M1.o.trans mm;refine hK _ _ rfl ⟨⟨_,M2.o⟩,rfl⟩ ?_;clear hK K' mm;refine bX ?_;clear x0 x1 x2 x3 x4 x5 x6 x7;go_wp2_with fail;refine(HS.o _ (dw.o.trans M2.o)).mono ?_;rintro e w4 ⟨rfl,hr,m4⟩;have wm:=ai hr;have M4:af (aa (Own vC) w w4):=((dw.o.trans M2.o).mono (λ_ _ h=>h.elim)).trans m4;clear hr m4;go_wp2_with fail
 first|go_end0|refine bodyPost_ret (results_none rfl _ _ _) rfl ?_
 exact⟨rfl,wm.o,M4.o⟩
theorem aeF(w:tW)(a0 a1 a2 a3 a4 a5 a6 a7:Value)(b:Nat)(num:Int)(n0:-2147483648<=num)(n1:num<=2147483647)(R:Ending->tW->Prop)(hl:QR w 244 #[pt b,.int .i64 num] R):Calls prog 131 #[pt b,.agg #[a0,a1,.int .u8 1,a3,.int .i32 num,a5,a6,a7]] w λe w'=>R e w':=by
 have HM:=ai ((aa.refl ae w).alloc (.cells #[a0,a1,.int .u8 1,a3,.int .i32 num,a5,a6,a7] 138));have BI:=ai (ak.new w #[a0,a1,.int .u8 1,a3,.int .i32 num,a5,a6,a7] 138);go_enter func131,ntmps131;go_upto_region 1 with fail;generalize w.alloc (.cells #[a0,a1,.int .u8 1,a3,.int .i32 num,a5,a6,a7] 138)=W3 at *;have y2:=BI.o.cell 2;have y4:=BI.o.cell 4;go_wp2_with fail;refine(hl _ HM.o).mono ?_;rintro e w4 ⟨he,HR⟩;rcases he with rfl |⟨t,rfl⟩
 ·go_wp2_with fail
  first|go_end0|refine bodyPost_ret (results_none rfl _ _ _) rfl ?_
  exact HR.o
 ·exact⟨rfl,HR.o⟩
theorem MC(w:tW)(b:Nat)(X:di)(hs:X.s=1)(n0:-2147483648<=X.num)(n1:X.num<=2147483647)(R:Ending->tW->Prop)(hL:∀w',aa ae w w'->Calls prog 244 #[pt b,.int .i64 X.num] w' λe w''=>(e=.returned (.tuple #[])\/∃t,e=aX t)/\R e w''):Calls prog 131 #[pt b,.agg X.cells] w λe w'=>R e w':=by obtain⟨op,d,s,jump,num,high,label,name⟩:=X;simp only at hs;subst hs;exact aeF w _ _ (.bool true) _ (.bool true) _ _ _ b num n0 n1 R hL
def MV.Ok(n m:Nat)(v:MV):Prop:=v.bits<18446744073709551616/\(v.so=0/\v.aD=none/\v.tab=none\/v.so=1/\v.aD=none/\(∃t,v.tab=some t/\t<m)\/v.so=2/\v.tab=none/\∃q,v.aD=some q/\q<n)
structure QL(fn n m:Nat)(f:ja):Prop where
 fn:f.fn<fn
 oJ:f.oJ<n
 len:f.regs.length=11
 regs:∀v∈f.regs,v.Ok n m
structure QM(gs:List (List Nat))(m:yU):Prop where
 key:1<=m.key/\m.key<=8
 val:1<=m.value/\m.value<=16
 most:m.most<=8
 len:m.jS.length<=m.most
 ek:∀e∈m.jS,e.1.length=m.key/\∀b∈e.1,b<256
 er:∀e∈m.jS,e.2<gs.length/\(gs.getD e.2 []).length=m.value
 srt:m.jS.Pairwise (λa b=>ltNs a.1 b.1=true)
def jU(ms:List yU):List Nat:=ms.flatMap (λm=>m.jS.map (·.2))
def Lf(s:bP):List Nat:=s.r.inp::(s.r.calls.map (·.oJ)++jU s.ms)
structure bR(fn:Nat)(s:bP):Prop where
 pos:0<s.r.calls.length
 deep:s.r.calls.length<=8
 U4:∀f∈s.r.calls,QL fn s.gs.length s.ms.length f
 gs:zN s.gs
 inp:s.r.inp<s.gs.length
 log:s.r.log.length<=20/\∀n∈s.r.log,n<18446744073709551616
 maps:∀m∈s.ms,QM s.gs m
 own:(Lf s).Nodup
theorem MV.Ok.zero(n m:Nat):MV.Ok n m {}:=⟨by decide,.inl ⟨rfl,rfl,rfl⟩⟩
theorem MV.Ok.num{n m k:Nat}(h:k<18446744073709551616):MV.Ok n m (kI k):=⟨h,.inl ⟨rfl,rfl,rfl⟩⟩
theorem MV.Ok.ptr{n m q k:Nat}(h:q<n)(hk:k<18446744073709551616):MV.Ok n m (uA q k):=⟨hk,.inr (.inr ⟨rfl,rfl,q,rfl,h⟩)⟩
theorem MV.Ok.grow{n n' m:Nat}{v:MV}(h:v.Ok n m)(hn:n<=n'):v.Ok n' m:=by
 refine⟨h.1,?_⟩;rcases h.2 with h|h |⟨a,b,q,hq,hl⟩
 ·exact .inl h
 ·exact .inr (.inl h)
 ·exact .inr (.inr ⟨a,b,q,hq,by omega⟩)
theorem QL.grow{fn n n' m:Nat}{f:ja}(h:QL fn n m f)(hn:n<=n'):QL fn n' m f:=⟨h.fn,by have:=h.oJ;omega,h.len,λv hv=>(h.regs v hv).grow hn⟩
section
variable {fn : Nat} {s : bP}
theorem bR.ME(h:bR fn s):s.r.top∈s.r.calls:=by rw[aC.vW _ h.pos];exact bq _
theorem bR.top(h:bR fn s):QL fn s.gs.length s.ms.length s.r.top:=h.U4 _ h.ME
theorem bR.aD(h:bR fn s)(n:Nat):(s.r.aD n).Ok s.gs.length s.ms.length:=by
 unfold aC.aD;rw[List.getD_eq_getElem?_getD];by_cases hn:n<s.r.top.regs.length
 ·rw[List.getElem?_eq_getElem hn];exact h.top.regs _ (bq _)
 ·rw[List.getElem?_eq_none (by omega)];exact MV.Ok.zero _ _
theorem xS{α β:Type}(g:α->β)(l:List α)(i:Nat)(x:α)(h:∀y,l[i]?=some y->g x=g y):(l.set i x).map g=l.map g:=by
 apply List.ext_getElem?;intro j;rw[List.getElem?_map,List.getElem?_map,List.getElem?_set];by_cases hij:i=j
 ·subst hij;rw[iP9 rfl];by_cases hl:i<l.length
  ·rw[iP9 hl,List.getElem?_eq_getElem hl];simp only[Option.map_some];rw[h _ (List.getElem?_eq_getElem hl)]
  ·rw[iN9 hl,List.getElem?_eq_none (by omega)]
 ·rw[iN9 hij]
theorem bR.dQ(h:bR fn s)(f:ja)(hf:QL fn s.gs.length s.ms.length f)(hs:f.oJ=s.r.top.oJ):bR fn {s with r:=s.r.dQ f}:=by
 have hl:(s.r.dQ f).calls.length=s.r.calls.length:=aC.jg _ _;refine⟨by show 0<(s.r.dQ f).calls.length;rw[hl];exact h.pos,by show(s.r.dQ f).calls.length<=8;rw[hl];exact h.deep,λg hg=>?_,h.gs,h.inp,h.log,h.maps,?_⟩
 ·rcases ar hg with hg|rfl
  ·exact h.U4 g hg
  ·exact hf
 ·have:(s.r.dQ f).calls.map (·.oJ)=s.r.calls.map (·.oJ):=xS _ _ _ _ (λy hy=>by
   have e:y=s.r.top:=by rw[aC.vW _ h.pos];rw[List.getElem?_eq_getElem (by have:=h.pos;omega)]at hy;exact(Option.some.inj hy).symm
   rw[e];exact hs)
  show(s.r.inp::((s.r.dQ f).calls.map (·.oJ)++jU s.ms)).Nodup
  rw[this];exact h.own
theorem bR.eY(h:bR fn s)(d:Nat)(v:MV)(hv:v.Ok s.gs.length s.ms.length):bR fn {s with r:=s.r.eY d v} :=
 h.dQ _ ⟨h.top.fn,h.top.oJ,by show(s.r.top.regs.set d v).length=11;rw[bh];exact h.top.len,λu hu=>by
  rcases ar hu with hu|rfl
  ·exact h.top.regs u hu
  ·exact hv⟩ rfl
theorem bR.fQ(h:bR fn s)(n:Nat):bR fn {s with r:=s.r.fQ n}:=h.dQ _ ⟨h.top.fn,h.top.oJ,h.top.len,h.top.regs⟩ rfl
theorem bR.gx(h:bR fn s):bR fn s.gx:=h.dQ _ ⟨h.top.fn,h.top.oJ,h.top.len,h.top.regs⟩ rfl
theorem bR.begin(h:bR fn s)(n:Nat):bR fn (s.begin n):=by
 have h1:bR fn {s with r:={s.r with used:=s.r.used+1}}:=⟨h.pos,h.deep,h.U4,h.gs,h.inp,h.log,h.maps,h.own⟩
 exact h1.fQ _
theorem bR.kP(vs:List MV):∀{s:bP} (_:bR fn s) (d:Nat) (_:∀v∈vs,v.Ok s.gs.length s.ms.length),bR fn {s with r:=s.r.kP d vs}:=by
 induction vs with
 |nil=>intro s h d _;exact h
 |cons v vs ih=>intro s h d hv;exact ih (h.eY d v (hv v (by simp))) (d+1) (λu hu=>hv u (by simp[hu]))
theorem bR.answer(h:bR fn s)(v:MV)(hv:v.Ok s.gs.length s.ms.length):bR fn {s with r:=s.r.answer v} :=
 bR.kP _ (h.eY 0 v hv) 1 (λu hu=>by rw[ba hu];exact MV.Ok.zero _ _)
theorem bR.finish(h:bR fn s)(n:Nat):bR fn {s with r:=s.r.finish n}:=⟨h.pos,h.deep,h.U4,h.gs,h.inp,h.log,h.maps,h.own⟩
theorem bR.logged(h:bR fn s)(n:Nat)(hn:n<18446744073709551616)(hl:s.r.log.length<20):bR fn {s with r:=s.r.logged n}:=by
 have h1:bR fn {s with r:={s.r with log:=s.r.log++[n]}}:=⟨h.pos,h.deep,h.U4,h.gs,h.inp,⟨by show(s.r.log++[n]).length<=20;rw[aE];exact hl,λk hk=>by
  rcases List.mem_append.1 hk with hk|hk
  ·exact h.log.2 k hk
  ·rw[List.mem_singleton.1 hk];exact hn⟩,h.maps,h.own⟩
 exact h1.answer _ (MV.Ok.num (by decide))
theorem QM.grow{gs:List (List Nat)}{m:yU}(h:QM gs m)(g:List Nat):QM (gs++[g]) m :=
 ⟨h.key,h.val,h.most,h.len,h.ek,λe he=>⟨by rw[aE];exact Nat.lt_succ_of_lt (h.er e he).1,by rw[jR _ _ _ _ (h.er e he).1];exact(h.er e he).2⟩,h.srt⟩
theorem Lg:bu.length<=1000/\∀b∈bu,b<256:=by decide
theorem bR.call(h:bR fn s)(hd:s.r.calls.length<8)(f:Nat)(hf:f<fn):bR fn {s with r:=s.r.mo f s.gs.length,gs:=s.gs++[bu]}:=by
 have hl:(s.gs++[bu]).length=s.gs.length+1:=aE
 have h1:bR fn {s with r:=s.r.nK f s.gs.length,gs:=s.gs++[bu]}:=by
  refine⟨by show 0<(s.r.calls++[_]).length;simp,by show(s.r.calls++[_]).length<=8;rw[aE];exact hd,λg hg=>?_,λg hg=>?_,by show s.r.inp<(s.gs++[bu]).length;have:=h.inp;omega,h.log,λm hm=>(h.maps m hm).grow _,?_⟩
  ·rcases List.mem_append.1 hg with hg|hg
   ·exact(h.U4 g hg).grow (by show s.gs.length<=(s.gs++[bu]).length;omega)
   ·rw[List.mem_singleton.1 hg];exact⟨hf,by show s.gs.length<(s.gs++[bu]).length;omega,rfl,λv hv=>by rw[ba hv];exact MV.Ok.zero _ _⟩
  ·rcases List.mem_append.1 hg with hg|hg
   ·exact h.gs g hg
   ·rw[List.mem_singleton.1 hg];exact Lg
  ·have ho:=h.own
   have hlt:∀q∈Lf s,q<s.gs.length:=λq hq=>by
    rcases List.mem_cons.1 hq with rfl|hq
    ·exact h.inp
    ·rcases List.mem_append.1 hq with hq|hq
     ·obtain⟨g,hg,rfl⟩:=List.mem_map.1 hq;exact(h.U4 g hg).oJ
     ·obtain⟨m,hm,hq⟩:=List.mem_flatMap.1 hq;obtain⟨e,he,rfl⟩:=List.mem_map.1 hq;exact((h.maps m hm).er e he).1
   show(s.r.inp::((s.r.calls++[(⟨f,0,0,z11,s.gs.length⟩:ja)]).map (·.oJ)++jU s.ms)).Nodup
   have hp:(s.r.inp::((s.r.calls++[(⟨f,0,0,z11,s.gs.length⟩:ja)]).map (·.oJ)++jU s.ms)).Perm (s.gs.length::Lf s):=by rw[List.map_append,List.map_cons,List.map_nil,List.append_assoc];exact(List.Perm.cons _ List.perm_middle).trans (List.Perm.swap _ _ _)
   rw[hp.nodup_iff];exact List.nodup_cons.2 ⟨λhq=>Nat.lt_irrefl _ (hlt _ hq),ho⟩
 have h2:=h1.eY 10 (uA s.gs.length 64) (MV.Ok.ptr (by show s.gs.length<(s.gs++[bu]).length;omega) (by decide));exact bR.kP _ h2 1 (λu hu=>by have hm:u∈s.r.top.regs:=List.mem_of_mem_drop (List.mem_of_mem_take hu);exact(h.top.regs u hm).grow (by show s.gs.length<=(s.gs++[bu]).length;omega))
theorem QN(l:List (List Nat))(q i:Nat)(g:List Nat)(hq:q<l.length):(l.set q g).getD i []=if i=q then g else l.getD i []:=oQ l g [] i q hq
theorem bR.acN(h:bR fn s)(q:Nat)(hq:q<s.gs.length)(g:List Nat)(hg:g.length<=1000/\∀b∈g,b<256)(hm:∀m∈s.ms,∀e∈m.jS,e.2=q->g.length=(s.gs.getD q []).length):bR fn {s with gs:=s.gs.set q g}:=by
 have hl:(s.gs.set q g).length=s.gs.length:=bh;refine⟨h.pos,h.deep,λf hf=>?_,λx hx=>?_,by show _<(s.gs.set q g).length;rw[hl];exact h.inp,h.log,λm hm'=>?_,h.own⟩
 ·exact(h.U4 f hf).grow (by show _<=(s.gs.set q g).length;omega)
 ·rcases ar hx with hx|rfl
  ·exact h.gs x hx
  ·exact hg
 ·have k:=h.maps m hm';refine⟨k.key,k.val,k.most,k.len,k.ek,λe he=>⟨by show _<(s.gs.set q g).length;rw[hl];exact(k.er e he).1,?_⟩,k.srt⟩;show((s.gs.set q g).getD e.2 []).length=_
  rw[QN _ _ _ _ hq];by_cases hh:e.2=q
  ·rw[iP9 hh,hm m hm' e he hh,<-hh];exact(k.er e he).2
  ·rw[iN9 hh];exact(k.er e he).2
theorem bR.back(h:bR fn s)(hc:s.r.calls.length≠1):bR fn {s with r:=s.r.back,gs:=s.gs.set s.r.top.oJ []}:=by
 have hpos:=h.pos
 have hlast:s.r.calls=s.r.calls.dropLast++[s.r.top]:=by
  have hne:s.r.calls≠[]:=λe=>by rw[e]at hpos;exact Nat.lt_irrefl _ hpos
  have e1:=List.dropLast_concat_getLast hne;rw[aC.vW _ h.pos,<-List.getLast_eq_getElem hne];exact e1.symm
 have hnot:∀m∈s.ms,∀e∈m.jS,e.2≠s.r.top.oJ:=λm hm e he hq=>by have ho:=h.own;unfold Lf at ho;have ho2:=(List.nodup_append.1 (List.nodup_cons.1 ho).2).2.2;exact ho2 s.r.top.oJ (List.mem_map.2 ⟨_,h.ME,rfl⟩) e.2 (List.mem_flatMap.2 ⟨m,hm,List.mem_map.2 ⟨e,he,rfl⟩⟩) hq.symm
 have h0:=h.acN s.r.top.oJ h.top.oJ [] ⟨by decide,λb hb=>by cases hb⟩ (λm hm e he hq=>absurd hq (hnot m hm e he));have hl:(s.gs.set s.r.top.oJ []).length=s.gs.length:=bh
 have h1:bR fn {s with r:=s.r.pop,gs:=s.gs.set s.r.top.oJ []}:=by
  refine⟨by show 0<s.r.calls.dropLast.length;rw[bj];omega,by show s.r.calls.dropLast.length<=8;rw[bj];have:=h.deep;omega,λf hf=>h0.U4 f (List.dropLast_subset _ hf),h0.gs,h0.inp,h0.log,h0.maps,?_⟩;show(s.r.inp::(s.r.calls.dropLast.map (·.oJ)++jU s.ms)).Nodup
  have ho:=h.own;unfold Lf at ho;rw[hlast,List.map_append]at ho
  have hsub:(s.r.inp::(s.r.calls.dropLast.map (·.oJ)++jU s.ms)).Sublist (s.r.inp::(s.r.calls.dropLast.map (·.oJ)++List.map (·.oJ) [s.r.top]++jU s.ms)) :=
   List.Sublist.cons_cons _ (List.Sublist.append (List.sublist_append_left _ _) (List.Sublist.refl _))
  exact ho.sublist hsub
 exact h1.answer (s.r.aD 0) ((h.aD 0).grow (by show _<=(s.gs.set s.r.top.oJ []).length;omega))
end
