import Derived.Test.YthnphhgpfedeeaaGreatDoorCF48
namespace Go.Proofs.YthnphhgpfedeeaaGreatDoor
open Go.RowKit Tryz
open Int renaming toNat_of_nonneg->bq
open List renaming take_succ_cons->ab,drop_succ_cons->al,dropLast_concat->an,take_zero->ao,drop_zero->ar,mem_or_eq_of_mem_set->aE,getElem_mem->ba,length_map->bh,dropLast_eq_take->bj
set_option linter.all false
set_option maxRecDepth 100000
set_option maxHeartbeats 1000000
section
variable {F : Nat -> Prop} {w w' : World} {b : Nat} {a : Ad} {s : bP} {fn : Nat}
theorem eW.FD(h:eW F w b a s)(m:aa (Own a.vC) w w')(r:aC)(hr:aB w' b a.rb a.mb a.vM a.vC a.vL r)(hl:r.log=s.r.log):eW F w' b a {s with r:=r}/\aa F w w':=h.UT (m.mono (λ_ _ h=>.inr h)) r hr hl
theorem eW.acO(h:eW F w b a s)(q:Nat)(hq:q<s.gs.length)(m:aa (Own (a.vs.getD q undef)) w w')(gs:List (List Nat))(hR:nJ w' a.rb a.vs gs):eW F w' b a {s with gs:=gs}/\aa F w w':=by
 have mT:iL [5] w w':=iL.of m (λk hk=>⟨_,by simp,(h.qU.sl q hq).ty hk⟩);refine⟨⟨h.run.eG mT (by decide) (by decide),hR,h.log.eG mT (by decide),h.maps.eG mT (by decide) (by decide) (by decide),h.fb,h.fc,h.fl,h.fr,h.fv,h.fm,h.fe⟩,m.mono (λk _ hk=>?_)⟩;have hm:a.vs.getD q undef∈a.vs:=by have hv:=h.qU.lv;rw[List.getD_eq_getElem?_getD,List.getElem?_eq_getElem (by omega)];exact ba _
 exact h.fv _ hm k hk
theorem bR.In(h:bR fn s)(hl:a.rb.length=s.gs.length):s.r.In a.rb.length:=by
 rw[hl]
 exact⟨h.inp,λf hf=>⟨(h.U4 f hf).oJ,λv hv q hq=>by
  rcases((h.U4 f hf).regs v hv).2 with⟨_,e,_⟩ |⟨_,e,_⟩ |⟨_,_,q',e,hq'⟩
  ·rw[e]at hq;cases hq
  ·rw[e]at hq;cases hq
  ·rw[e]at hq;cases hq;exact hq'⟩⟩
theorem eW.mo(h:eW F w b a s)(ho:bR fn s)(hF:∀k,w.heap.size<=k->F k)(DP:Value)(G:Nat)(r:aC)(hr:aB w' b (a.rb++[G+1]) a.mb a.vM DP a.vL r)(hl:r.log=s.r.log)(m:aa (λk=>k=b\/Own a.vC k) w w')(hC:∀k,DP.ownBlock=some k->a.vC.ownBlock=some k\/w.heap.size<=k)(hG:w.heap.size<=G)(hb:ak w' (G+1) #[.slice (some ⟨G,0,none⟩) 64 64] 122) (hs:Sl w' 5 1 (.slice (some ⟨G,0,none⟩) 64 64) 64 (BX bu)):eW F w' b {a with rb:=a.rb++[G+1],vs:=a.vs++[.slice (some ⟨G,0,none⟩) 64 64],vC:=DP} {s with r:=r,gs:=s.gs++[bu]}/\aa F w w':=by
 have mT:iL [125,190] w w':=iL.of m h.US;have hR:=(h.qU.eG mT (by decide) (by decide)).addN w.heap.size (λi hi=>⟨(h.qU.blk i hi).lt,λk hk=>(h.qU.sl i hi).lt k hk⟩) _ _ _ hb (hs.bys rfl) (by omega) (λk hk=>by cases hk;exact hG);have hM:=(h.maps.eG mT (by decide) (by decide) (by decide)).grow (G+1) (λmp hm e he=>by rw[h.qU.lr];exact((ho.maps mp hm).er e he).1);refine⟨⟨hr,hR,?_,hM,h.fb,λk hk=>(hC k hk).elim (h.fc k) (hF k),h.fl,λx hx=>?_,λv hv k hk=>?_,h.fm,h.fe⟩,m.mono (λk _ hk=>?_)⟩
 ·show Sl w' _ _ _ r.log.length (Qy r.log)
  rw[hl];exact h.log.eG mT (by decide)
 ·rcases List.mem_append.1 hx with hx|hx
  ·exact h.fr x hx
  ·rw[List.mem_singleton.1 hx];exact hF _ (by omega)
 ·rcases List.mem_append.1 hv with hv|hv
  ·exact h.fv v hv k hk
  ·rw[List.mem_singleton.1 hv]at hk;cases hk;exact hF _ hG
 ·rcases hk with rfl|hk
  ·exact h.fb
  ·exact h.fc k hk
theorem eW.backTo(h:eW F w b a s)(q:Nat)(hq:q<s.gs.length)(DP:Value)(hC:DP.ownBlock=a.vC.ownBlock)(r:aC)(hl:r.log=s.r.log)(w2:tW)(m1:aa ae w w2)(m2:aa (λk=>k=b\/Own a.vC k) (w2.setCell ⟨a.rb.getD q 0,0,none⟩ (.slice none 0 0)) w')(hr:aB w' b a.rb a.mb a.vM DP a.vL r):eW F w' b {a with vs:=a.vs.set q (.slice none 0 0),vC:=DP} {s with r:=r,gs:=s.gs.set q []}/\aa F w w':=by
 have h2:=h.quiet m1;have hm:a.rb.getD q 0∈a.rb:=by have hv:=h.qU.lr;rw[List.getD_eq_getElem?_getD,List.getElem?_eq_getElem (by omega)];exact ba _
 have mG:aa (Only (a.rb.getD q 0)) w2 (w2.setCell ⟨a.rb.getD q 0,0,none⟩ (.slice none 0 0)):=ax.aY 0 _;have mT:iL [122] w2 (w2.setCell ⟨a.rb.getD q 0,0,none⟩ (.slice none 0 0)):=iL.of mG (λk hk=>⟨122,by simp,by cases(show k=_ from hk);exact(h2.qU.blk q hq).ty⟩);have hR2:=h2.qU.die q hq;have hb3:=h2.run.eG mT (by decide) (by decide)
 have mT2:iL [125,190] (w2.setCell ⟨a.rb.getD q 0,0,none⟩ (.slice none 0 0)) w':=iL.of m2 (λk hk=>by
  rcases hk with rfl|hk
  ·exact⟨_,by simp,hb3.blk.ty⟩
  ·exact⟨_,by simp,hb3.calls.ty hk⟩)
 refine⟨⟨hr,hR2.eG mT2 (by decide) (by decide),?_,(h2.maps.eG mT (by decide) (by decide) (by decide)).eG mT2 (by decide) (by decide) (by decide),h.fb,λk hk=>h.fc k (hC ▸ hk),h.fl,h.fr,λv hv k hk=>?_,h.fm,h.fe⟩,?_⟩
 ·show Sl w' _ _ _ r.log.length (Qy r.log)
  rw[hl];exact(h2.log.eG mT (by decide)).eG mT2 (by decide)
 ·rcases aE hv with hv|rfl
  ·exact h.fv v hv k hk
  ·cases hk
 ·refine((m1.mono (λ_ _ h=>h.elim)).trans (mG.mono (λk _ hk=>?_))).trans (m2.mono (λk _ hk=>?_))
  ·cases(show k=_ from hk);exact h.fr _ hm
  ·rcases hk with rfl|hk
   ·exact h.fb
   ·exact h.fc k hk
theorem eW.ah3(h:eW F w b a s)(hF:∀k,w.heap.size<=k->F k)(xY:Value)(r:aC)(hr:aB w' b a.rb a.mb a.vM a.vC xY r)(hL:Sl w' 22 1 xY r.log.length (Qy r.log))(hN:∀k,xY.ownBlock=some k->a.vL.ownBlock=some k\/w.heap.size<=k)(m:aa (λk=>k=b\/Own a.vC k\/Own a.vL k) w w'):eW F w' b {a with vL:=xY} {s with r:=r}/\aa F w w':=by
 have mT:iL [125,190,22] w w':=iL.of m (λk hk=>by
  rcases hk with rfl|hk|hk
  ·exact⟨_,by simp,h.run.blk.ty⟩
  ·exact⟨_,by simp,h.run.calls.ty hk⟩
  ·exact⟨_,by simp,h.log.ty hk⟩)
 refine⟨⟨hr,h.qU.eG mT (by decide) (by decide),hL,h.maps.eG mT (by decide) (by decide) (by decide),h.fb,h.fc,λk hk=>(hN k hk).elim (h.fl k) (hF k),h.fr,h.fv,h.fm,h.fe⟩,m.mono (λk _ hk=>?_)⟩;rcases hk with rfl|hk|hk
 ·exact h.fb
 ·exact h.fc k hk
 ·exact h.fl k hk
theorem eW.aeG(h:eW F w b a s)(d e:MV)(hd:d.Ok s.gs.length s.ms.length)(he:e.Ok s.gs.length s.ms.length):IM w a.rb a.mb d e:=by
 have hr:∀(v:MV) (x:Nat),v.Ok s.gs.length s.ms.length->v.aD=some x->x<s.gs.length:=λv x hv hx=>by
  rcases hv.2 with⟨_,e,_⟩ |⟨_,e,_⟩ |⟨_,_,q,e,hq⟩
  ·rw[e]at hx;cases hx
  ·rw[e]at hx;cases hx
  ·rw[e]at hx;cases hx;exact hq
 have ht:∀(v:MV) (x:Nat),v.Ok s.gs.length s.ms.length->v.tab=some x->x<s.ms.length:=λv x hv hx=>by
  rcases hv.2 with⟨_,_,e⟩ |⟨_,_,t,e,hq⟩ |⟨_,e,_⟩
  ·rw[e]at hx;cases hx
  ·rw[e]at hx;cases hx;exact hq
  ·rw[e]at hx;cases hx
 refine⟨λx hx=>?_,λx y hx hy hxy=>h.qU.inj x y (hr d x hd hx) (hr e y he hy) hxy,λx hx=>?_,λx y hx hy hxy=>h.maps.inj x y (ht d x hd hx) (ht e y he hy) hxy⟩
 ·exact⟨_,_,h.qU.blk x (hx.elim (hr d x hd) (hr e x he))⟩
 ·exact⟨_,_,h.maps.blk x (hx.elim (ht d x hd) (ht e x he))⟩
theorem MV.Ok.pt{n m:Nat}{v:MV}(h:v.Ok n m):v.Pt n:=λh2=>by
 rcases h.2 with⟨e,_⟩ |⟨e,_⟩ |⟨_,_,q,e,hq⟩
 ·rw[e]at h2;cases h2
 ·rw[e]at h2;cases h2
 ·exact⟨q,e,hq⟩
end
theorem alL(W:tW):(Instr.field 294 (.agg #[.string (T [103,101,116]),.func (.func 289) #[] #[]]) 1).run prog W=.ok (.func (.func 289) #[] #[]) W:=rfl
theorem alM(W:tW):(Instr.field 294 (.agg #[.string (T [112,117,116]),.func (.func 290) #[] #[]]) 1).run prog W=.ok (.func (.func 290) #[] #[]) W:=rfl
theorem alN(W:tW):(Instr.field 294 (.agg #[.string (T [100,101,108]),.func (.func 291) #[] #[]]) 1).run prog W=.ok (.func (.func 291) #[] #[]) W:=rfl
theorem agR(W:tW):(Instr.field 294 (.agg #[.string (T [108,111,103]),.func (.func 292) #[] #[]]) 1).run prog W=.ok (.func (.func 292) #[] #[]) W:=rfl
theorem an0:pE 289:=enters_of func289 (by kernel_rfl) rfl
theorem an1:pE 290:=enters_of func290 (by kernel_rfl) rfl
theorem an2:pE 291:=enters_of func291 (by kernel_rfl) rfl
theorem ah4:pE 292:=enters_of func292 (by kernel_rfl) rfl
theorem amq(w:tW)(b:Nat)(X:di)(hs:X.s≠1)(hn:X.num=1)(R:Ending->tW->Prop)(hL:∀w',aa ae w w'->Calls prog 289 #[pt b] w' λe w''=>(e=.returned (.tuple #[])\/∃t,e=aX t)/\R e w''):Calls prog 131 #[pt b,.agg X.cells] w λe w'=>R e w':=by
 have HL:=ai hL;have hs1:((X.s:Int)==1)=false:=by simp;omega
 clear hL hs;obtain⟨op,d,s,jump,num,high,label,name⟩:=X;simp only at hn hs1;subst hn;unfold di.cells;simp only;have en:=an0;unfold pE at en;have ix:=al9;have jx:=alL;have dw:af (aa ae w (w.alloc (.cells #[op,.int .u8 d,.int .u8 s,.int .i16 jump,.int .i32 1,.int .i32 high,.string label,.string name] 138))):=aj;have BI:af (ak (w.alloc (.cells #[op,.int .u8 d,.int .u8 s,.int .i16 jump,.int .i32 1,.int .i32 high,.string label,.string name] 138)) w.heap.size #[op,.int .u8 d,.int .u8 s,.int .i16 jump,.int .i32 1,.int .i32 high,.string label,.string name] 138):=ak.new _ _ _;go_enter func131,ntmps131;go_upto_region 1 with fail;generalize w.alloc (.cells #[op,.int .u8 d,.int .u8 s,.int .i16 jump,.int .i32 1,.int .i32 high,.string label,.string name] 138)=W3 at *;have y2:=BI.o.cell 2;go_upto_region 3 with fail;clear y2;have x4:∀e:Ext ae W3,e.w.cell? ⟨w.heap.size,4,none⟩=some (.int .i32 1):=λe=>(BI.o.ag e.m id).cell 4
 haveI:Nonempty (Ext ae W3):=Ext.ne _ _
 refine dC 7 [0] (λw'=>∃e:Ext ae W3,w'=e.w) (by kernel_rfl) (by kernel_rfl) ⟨⟨_,aJ⟩,rfl⟩ ?_;simp only[ab,ao,al,ar];refine aF rfl rfl ?_;intro K' hK;go_big_op;refine(jt _).mono ?_;rintro e ww1 ⟨rfl,mm⟩;have M1:af (aa ae W3 ww1):=((aa.refl ae _).drew).trans mm;refine hK _ _ rfl ⟨⟨_,M1.o⟩,rfl⟩ ?_;clear hK K' mm
 iterate 6 (refine aA rfl rfl rfl ?_;intro K' hK;go_big_quiet_op;go_big_quiet_on)
 refine bX ?_;clear x4;go_wp2_with fail;refine(HL.o _ (dw.o.trans M1.o)).mono ?_;rintro e w1 ⟨he,hr⟩;have HR:=ai hr;clear hr;rcases he with rfl |⟨t,rfl⟩
 ·go_wp2_with fail;go_end0;exact HR.o
 ·exact⟨rfl,HR.o⟩
theorem amr(w:tW)(b:Nat)(X:di)(hs:X.s≠1)(hn:X.num=2)(R:Ending->tW->Prop)(hL:∀w',aa ae w w'->Calls prog 290 #[pt b] w' λe w''=>(e=.returned (.tuple #[])\/∃t,e=aX t)/\R e w''):Calls prog 131 #[pt b,.agg X.cells] w λe w'=>R e w':=by
 have HL:=ai hL;have hs1:((X.s:Int)==1)=false:=by simp;omega
 clear hL hs;obtain⟨op,d,s,jump,num,high,label,name⟩:=X;simp only at hn hs1;subst hn;unfold di.cells;simp only;have en:=an1;unfold pE at en;have ix:=ama;have jx:=alM;have dw:af (aa ae w (w.alloc (.cells #[op,.int .u8 d,.int .u8 s,.int .i16 jump,.int .i32 2,.int .i32 high,.string label,.string name] 138))):=aj;have BI:af (ak (w.alloc (.cells #[op,.int .u8 d,.int .u8 s,.int .i16 jump,.int .i32 2,.int .i32 high,.string label,.string name] 138)) w.heap.size #[op,.int .u8 d,.int .u8 s,.int .i16 jump,.int .i32 2,.int .i32 high,.string label,.string name] 138):=ak.new _ _ _;go_enter func131,ntmps131;go_upto_region 1 with fail;generalize w.alloc (.cells #[op,.int .u8 d,.int .u8 s,.int .i16 jump,.int .i32 2,.int .i32 high,.string label,.string name] 138)=W3 at *;have y2:=BI.o.cell 2;go_upto_region 3 with fail;clear y2;have x4:∀e:Ext ae W3,e.w.cell? ⟨w.heap.size,4,none⟩=some (.int .i32 2):=λe=>(BI.o.ag e.m id).cell 4
 haveI:Nonempty (Ext ae W3):=Ext.ne _ _
 refine dC 7 [0] (λw'=>∃e:Ext ae W3,w'=e.w) (by kernel_rfl) (by kernel_rfl) ⟨⟨_,aJ⟩,rfl⟩ ?_;simp only[ab,ao,al,ar];refine aF rfl rfl ?_;intro K' hK;go_big_op;refine(jt _).mono ?_;rintro e ww1 ⟨rfl,mm⟩;have M1:af (aa ae W3 ww1):=((aa.refl ae _).drew).trans mm;refine hK _ _ rfl ⟨⟨_,M1.o⟩,rfl⟩ ?_;clear hK K' mm
 iterate 6 (refine aA rfl rfl rfl ?_;intro K' hK;go_big_quiet_op;go_big_quiet_on)
 refine bX ?_;clear x4;go_wp2_with fail;refine(HL.o _ (dw.o.trans M1.o)).mono ?_;rintro e w1 ⟨he,hr⟩;have HR:=ai hr;clear hr;rcases he with rfl |⟨t,rfl⟩
 ·go_wp2_with fail;go_end0;exact HR.o
 ·exact⟨rfl,HR.o⟩
theorem ams(w:tW)(b:Nat)(X:di)(hs:X.s≠1)(hn:X.num=3)(R:Ending->tW->Prop)(hL:∀w',aa ae w w'->Calls prog 291 #[pt b] w' λe w''=>(e=.returned (.tuple #[])\/∃t,e=aX t)/\R e w''):Calls prog 131 #[pt b,.agg X.cells] w λe w'=>R e w':=by
 have HL:=ai hL;have hs1:((X.s:Int)==1)=false:=by simp;omega
 clear hL hs;obtain⟨op,d,s,jump,num,high,label,name⟩:=X;simp only at hn hs1;subst hn;unfold di.cells;simp only;have en:=an2;unfold pE at en;have ix:=amb;have jx:=alN;have dw:af (aa ae w (w.alloc (.cells #[op,.int .u8 d,.int .u8 s,.int .i16 jump,.int .i32 3,.int .i32 high,.string label,.string name] 138))):=aj;have BI:af (ak (w.alloc (.cells #[op,.int .u8 d,.int .u8 s,.int .i16 jump,.int .i32 3,.int .i32 high,.string label,.string name] 138)) w.heap.size #[op,.int .u8 d,.int .u8 s,.int .i16 jump,.int .i32 3,.int .i32 high,.string label,.string name] 138):=ak.new _ _ _;go_enter func131,ntmps131;go_upto_region 1 with fail;generalize w.alloc (.cells #[op,.int .u8 d,.int .u8 s,.int .i16 jump,.int .i32 3,.int .i32 high,.string label,.string name] 138)=W3 at *;have y2:=BI.o.cell 2;go_upto_region 3 with fail;clear y2;have x4:∀e:Ext ae W3,e.w.cell? ⟨w.heap.size,4,none⟩=some (.int .i32 3):=λe=>(BI.o.ag e.m id).cell 4
 haveI:Nonempty (Ext ae W3):=Ext.ne _ _
 refine dC 7 [0] (λw'=>∃e:Ext ae W3,w'=e.w) (by kernel_rfl) (by kernel_rfl) ⟨⟨_,aJ⟩,rfl⟩ ?_;simp only[ab,ao,al,ar];refine aF rfl rfl ?_;intro K' hK;go_big_op;refine(jt _).mono ?_;rintro e ww1 ⟨rfl,mm⟩;have M1:af (aa ae W3 ww1):=((aa.refl ae _).drew).trans mm;refine hK _ _ rfl ⟨⟨_,M1.o⟩,rfl⟩ ?_;clear hK K' mm
 iterate 6 (refine aA rfl rfl rfl ?_;intro K' hK;go_big_quiet_op;go_big_quiet_on)
 refine bX ?_;clear x4;go_wp2_with fail;refine(HL.o _ (dw.o.trans M1.o)).mono ?_;rintro e w1 ⟨he,hr⟩;have HR:=ai hr;clear hr;rcases he with rfl |⟨t,rfl⟩
 ·go_wp2_with fail;go_end0;exact HR.o
 ·exact⟨rfl,HR.o⟩
theorem ag5(w:tW)(b:Nat)(X:di)(hs:X.s≠1)(hn:X.num=4)(R:Ending->tW->Prop)(hL:∀w',aa ae w w'->Calls prog 292 #[pt b] w' λe w''=>(e=.returned (.tuple #[])\/∃t,e=aX t)/\R e w''):Calls prog 131 #[pt b,.agg X.cells] w λe w'=>R e w':=by
 have HL:=ai hL;have hs1:((X.s:Int)==1)=false:=by simp;omega
 clear hL hs;obtain⟨op,d,s,jump,num,high,label,name⟩:=X;simp only at hn hs1;subst hn;unfold di.cells;simp only;have en:=ah4;unfold pE at en;have ix:=ag0;have jx:=agR;have dw:af (aa ae w (w.alloc (.cells #[op,.int .u8 d,.int .u8 s,.int .i16 jump,.int .i32 4,.int .i32 high,.string label,.string name] 138))):=aj;have BI:af (ak (w.alloc (.cells #[op,.int .u8 d,.int .u8 s,.int .i16 jump,.int .i32 4,.int .i32 high,.string label,.string name] 138)) w.heap.size #[op,.int .u8 d,.int .u8 s,.int .i16 jump,.int .i32 4,.int .i32 high,.string label,.string name] 138):=ak.new _ _ _;go_enter func131,ntmps131;go_upto_region 1 with fail;generalize w.alloc (.cells #[op,.int .u8 d,.int .u8 s,.int .i16 jump,.int .i32 4,.int .i32 high,.string label,.string name] 138)=W3 at *;have y2:=BI.o.cell 2;go_upto_region 3 with fail;clear y2;have x4:∀e:Ext ae W3,e.w.cell? ⟨w.heap.size,4,none⟩=some (.int .i32 4):=λe=>(BI.o.ag e.m id).cell 4
 haveI:Nonempty (Ext ae W3):=Ext.ne _ _
 refine dC 7 [0] (λw'=>∃e:Ext ae W3,w'=e.w) (by kernel_rfl) (by kernel_rfl) ⟨⟨_,aJ⟩,rfl⟩ ?_;simp only[ab,ao,al,ar];refine aF rfl rfl ?_;intro K' hK;go_big_op;refine(jt _).mono ?_;rintro e ww1 ⟨rfl,mm⟩;have M1:af (aa ae W3 ww1):=((aa.refl ae _).drew).trans mm;refine hK _ _ rfl ⟨⟨_,M1.o⟩,rfl⟩ ?_;clear hK K' mm
 iterate 6 (refine aA rfl rfl rfl ?_;intro K' hK;go_big_quiet_op;go_big_quiet_on)
 refine bX ?_;clear x4;go_wp2_with fail;refine(HL.o _ (dw.o.trans M1.o)).mono ?_;rintro e w1 ⟨he,hr⟩;have HR:=ai hr;clear hr;rcases he with rfl |⟨t,rfl⟩
 ·go_wp2_with fail;go_end0;exact HR.o
 ·exact⟨rfl,HR.o⟩
theorem aC.DU(vs:List MV):∀(r:aC) (n:Nat),(r.kP n vs).log=r.log:=by
 induction vs with
 |nil=>intro r n;rfl
 |cons v vs ih=>intro r n;exact ih _ _
theorem aC.Lh(r:aC)(v:MV):(r.answer v).log=r.log:=aC.DU _ _ _
theorem ahO{F:Nat->Prop}{w:tW}{b:Nat}{a:Ad}{s:bP}{fn:Nat}(h:eW F w b a s)(ho:bR fn s)(hF:∀k,w.heap.size<=k->F k):Calls prog 292 #[pt b] w λe w'=>dG F w b a (IL s) e w':=by
 unfold IL;by_cases h1:(s.r.aD 1).so=0
 ·rw[iN9 (by simp[h1]:¬(s.r.aD 1).so≠0)];by_cases h2:s.r.log.length=20
  ·rw[iP9 h2];obtain⟨oL,cL,hv,_⟩:=h.log.view;have hr:=h.run;rw[hv,h2]at hr;exact(agQ w b a.rb a.mb a.vM a.vC oL cL s.r hr ho.pos h1).mono (λe w' hh=>by rw[hh.1];exact dG.trap (by decide) h hh.2)
  ·rw[iN9 h2];have hlt:s.r.log.length<20:=by have:=ho.log.1;omega
   refine(ag1 w b a.rb a.mb a.vM a.vC a.vL s.r h.run ho.pos h.log hlt h1).mono ?_;rintro e w' ⟨xY,rfl,hr,hL,hN,m⟩;have hl:(s.r.logged (s.r.aD 1).bits).log=s.r.log++[(s.r.aD 1).bits]:=aC.Lh _ _;obtain⟨k1,k2⟩:=h.ah3 hF xY _ hr (by rw[hl,List.length_append];exact hL) hN m;exact⟨rfl,k2,_,k1,rfl,rfl⟩
 ·rw[iP9 (by simpa using h1)];exact(ag2 w b a.rb a.mb a.vM a.vC a.vL s.r h.run ho.pos h1).mono (λe w' hh=>by rw[hh.1];exact dG.trap (by decide) h hh.2)
structure MF(fn mn:Nat)(x:PI):Prop where
 d:x.d<11
 s:x.s<11
 j:-32768<=x.jump/\x.jump<=32767
 n:-2147483648<=x.num/\x.num<=2147483647
 call:(dz x.o.code).t=6->(x.s=1->0<=x.num/\x.num<fn)/\(x.s≠1->1<=x.num/\x.num<=4)
 wide:(dz x.o.code).t=5->x.s=1->0<=x.num/\x.num<mn
 size:(dz x.o.code).t=3\/(dz x.o.code).t=4->0<(dz x.o.code).k/\(dz x.o.code).k<=8
def akA(F:Nat->Prop)(w:tW)(b:Nat)(a:Ad)(s:bP):Prop:=∀w',aa ae w w' ->
 (Calls prog 289 #[pt b] w' λe w''=>dG F w' b a (QC s) e w'')/\(Calls prog 290 #[pt b] w' λe w''=>dG F w' b a (QD s) e w'')/\(Calls prog 291 #[pt b] w' λe w''=>dG F w' b a (QF s) e w'')
theorem dG.either{F:Nat->Prop}{w w':tW}{b:Nat}{a:Ad}{d:Nat×bP}{e:Ending}(h:dG F w b a d e w'):e=.returned (.tuple #[])\/∃t,e=aX t:=by
 rw[h.1];by_cases hd:d.1=0
 ·exact .inl (iP9 hd)
 ·exact .inr ⟨_,iN9 hd⟩
theorem dG.from{F:Nat->Prop}{w w1 w':tW}{b:Nat}{a:Ad}{d:Nat×bP}{e:Ending}(h:dG F w1 b a d e w')(m:aa ae w w1):dG F w b a d e w':=⟨h.1,(m.mono (λ_ _ h=>h.elim)).trans h.2.1,h.2.2⟩
theorem FE{fn:Nat}{s:bP}(ho:bR fn s)(aD:Bool)(x:PI):(nN aD x s).Ok s.gs.length s.ms.length:=by
 unfold nN;cases aD with
 |true=>exact ho.aD _
 |false=>exact MV.Ok.num (ajn _)
theorem anE{F:Nat->Prop}{w:tW}{b:Nat}{a:Ad}{s:bP}{fn:Nat}(h:eW F w b a s)(ho:bR fn s)(hF:∀k,w.heap.size<=k->F k)(x:PI)(bs:List Nat)(f9:Fn)(c9:tAV)(hD:DoAt w f9 c9 (dz x.o.code))(hx:MF fn s.ms.length x)(hT:(dz x.o.code).t=1\/(dz x.o.code).t=2->∀w',aa ae w w'->Calls prog 216 #[.agg (x.ins bs).cells,.int .i64 s.r.top.slot] w' λe w''=>e=.returned (.int .i64 ((x.target s.r.top.slot).toNat:Nat))/\aa ae w' w'')(hH:(dz x.o.code).t=6->x.s≠1->x.num<4->akA F w b a s):∃k,f9=.func k/\pE k/\Calls prog k (#[pt b,.agg (x.ins bs).cells]++c9) w λe w'=>dG F w b a (doP (dz x.o.code) x s) e w':=by
 have hr:=h.run;have hc:=hx.call;have hw:=hx.wide;have hz:=hx.size;generalize dz x.o.code=dd at *;obtain⟨t,m,k,aD⟩:=dd;have hd1:=(ho.aD x.d).1;have hd2:(xR aD (x.ins bs) s.r).bits<18446744073709551616:=(FE ho aD x).1;unfold DoAt at hD;simp only at hD hT hH hc hw hz;split at hD
 ·obtain⟨rfl,b1,b2,fr,cr,rfl,hb1,hb2,hk⟩:=hD;refine⟨_,rfl,enters_of func204 (by kernel_rfl) rfl,?_⟩;cases hv:rkP m k (s.r.aD x.d) (nN aD x s)with
  |none =>rw[show doP ⟨0,m,k,aD⟩ x s=(2,s) by simp only[doP,hv]];exact(aa0 w b a.rb a.mb a.vM a.vC a.vL s.r hr ho.pos (x.ins bs) hx.d aD (λ_=>hx.s) b1 b2 fr cr hb1 hb2 m k (amo w a.rb a.mb fr cr m k hk _ _ hd1 hd2) hv).mono (λe w' hh=>by rw[hh.1];exact dG.trap (by decide) h hh.2)
  |some v =>rw[show doP ⟨0,m,k,aD⟩ x s=(0,{s with r:=s.r.eY x.d v}) by simp only[doP,hv]];exact(aaZ w b a.rb a.mb a.vM a.vC a.vL s.r hr ho.pos (x.ins bs) hx.d aD (λ_=>hx.s) b1 b2 fr cr hb1 hb2 m k (amo w a.rb a.mb fr cr m k hk _ _ hd1 hd2) v hv).mono (λe w' hh=>by rw[hh.1];exact dG.ok (h.FD hh.2.2 _ hh.2.1 rfl))
 ·obtain⟨rfl,b1,b2,fr,cr,rfl,hb1,hb2,hk⟩:=hD;refine⟨_,rfl,enters_of func230 (by kernel_rfl) rfl,?_⟩;have hE:=h.aeG _ _ (ho.aD x.d) (FE ho aD x);cases hv:ZT m k (s.r.aD x.d) (nN aD x s)with
  |none =>rw[show doP ⟨1,m,k,aD⟩ x s=(2,s) by simp only[doP,hv]];exact(Yx w b a.rb a.mb a.vM a.vC a.vL s.r hr ho.pos (x.ins bs) hx.d aD (λ_=>hx.s) b1 b2 fr cr hb1 hb2 m k (ak9 w a.rb a.mb fr cr m k hk _ _ hd1 hd2 hE) hv).mono (λe w' hh=>by rw[hh.1];exact dG.trap (by decide) h hh.2)
  |some v =>
   cases v with
   |false =>rw[show doP ⟨1,m,k,aD⟩ x s=(0,s) by simp only[doP,hv];rfl];exact(QK w b a.rb a.mb a.vM a.vC a.vL s.r hr ho.pos (x.ins bs) hx.d aD (λ_=>hx.s) b1 b2 fr cr hb1 hb2 m k (ak9 w a.rb a.mb fr cr m k hk _ _ hd1 hd2 hE) hv).mono (λe w' hh=>by rw[hh.1];exact dG.ok (h.quiet' hh.2))
   |true =>rw[show doP ⟨1,m,k,aD⟩ x s=(0,{s with r:=s.r.fQ (x.target s.r.top.slot).toNat}) by simp only[doP,hv];rfl];exact(Yy w b a.rb a.mb a.vM a.vC a.vL s.r hr ho.pos (x.ins bs) hx.d aD (λ_=>hx.s) b1 b2 fr cr hb1 hb2 m k (ak9 w a.rb a.mb fr cr m k hk _ _ hd1 hd2 hE) hv _ (hT (.inl rfl))).mono (λe w' hh=>by rw[hh.1];exact dG.ok (h.FD hh.2.2 _ hh.2.1 rfl))
 ·obtain⟨rfl,rfl⟩:=hD;refine⟨_,rfl,enters_of func118 (by kernel_rfl) rfl,?_⟩;exact(Yw w b a.rb a.mb a.vM a.vC a.vL s.r hr ho.pos (x.ins bs) _ (hT (.inr rfl))).mono (λe w' hh=>by rw[hh.1];exact dG.ok (h.FD hh.2.2 _ hh.2.1 rfl))
 ·obtain⟨rfl,b1,rfl,hb1⟩:=hD;refine⟨_,rfl,enters_of func233 (by kernel_rfl) rfl,?_⟩;have hkb:=hz (.inl rfl);have hl:=λw' (mm:aa ae w w')=>Ym (mb:=a.mb) (h.qU.quiet mm) ho.gs (s.r.aD x.s) (ho.aD x.s).pt x.jump k hkb;by_cases ht:dK s.gs (s.r.aD x.s) x.jump k=0
  ·rw[show doP ⟨3,m,k,aD⟩ x s=(0,{s with r:=s.r.eY x.d (kI (DS s.gs (s.r.aD x.s) x.jump k))})from iP9 ht];simp only[iP9 ht]at hl;exact(acI w b a.rb a.mb a.vM a.vC a.vL s.r hr ho.pos (x.ins bs) hx.d hx.s b1 k hb1 _ hl).mono (λe w' hh=>by rw[hh.1];exact dG.ok (h.FD hh.2.2 _ hh.2.1 rfl))
  ·rw[show doP ⟨3,m,k,aD⟩ x s=(dK s.gs (s.r.aD x.s) x.jump k,s)from iN9 ht];simp only[iN9 ht]at hl;exact(acJ w b a.rb a.mb a.vM a.vC a.vL s.r hr ho.pos (x.ins bs) hx.d hx.s b1 k hb1 _ hl).mono (λe w' hh=>by rw[hh.1];exact dG.trap ht h hh.2)
 ·obtain⟨rfl,b1,b2,rfl,hb1,hb2⟩:=hD;refine⟨_,rfl,enters_of func235 (by kernel_rfl) rfl,?_⟩;have hkb:=hz (.inr rfl);have hl:=λw' (mm:aa ae w w')=>UN (mb:=a.mb) (h.qU.quiet mm) ho.gs (s.r.aD x.d) (ho.aD x.d).pt x.jump k hkb (nN aD x s);by_cases ht:storeT s.gs (s.r.aD x.d) x.jump k (nN aD x s)=0
  ·rw[show doP ⟨4,m,k,aD⟩ x s=(0,{s with gs:=B6 s.gs (s.r.aD x.d) x.jump k (nN aD x s)})from iP9 ht];simp only[iP9 ht]at hl
   have hq:(s.r.aD x.d).aD.getD 0<s.gs.length:=by
    unfold storeT at ht;by_cases h1:(nN aD x s).so=0
    ·rw[iN9 (by simp[h1])]at ht;unfold dK at ht;by_cases h2:(s.r.aD x.d).so=2
     ·obtain⟨q,hq,hlt⟩:=(ho.aD x.d).pt h2;rw[hq];exact hlt
     ·rw[iP9 (by simpa using h2)]at ht;exact absurd ht (by decide)
    ·rw[iP9 (by simpa using h1)]at ht;exact absurd ht (by decide)
   exact(acL w b a.rb a.mb a.vM a.vC a.vL s.r hr ho.pos (x.ins bs) hx.d aD (λ_=>hx.s) b1 b2 k hb1 hb2 (λw'=>nJ w' a.rb a.vs (B6 s.gs (s.r.aD x.d) x.jump k (nN aD x s))) _ hl).mono (λe w' hh=>by rw[hh.1];exact dG.ok (h.acO _ hq hh.2.2 _ hh.2.1))
  ·rw[show doP ⟨4,m,k,aD⟩ x s=(storeT s.gs (s.r.aD x.d) x.jump k (nN aD x s),s)from iN9 ht];simp only[iN9 ht]at hl;exact(acM w b a.rb a.mb a.vM a.vC a.vL s.r hr ho.pos (x.ins bs) hx.d aD (λ_=>hx.s) b1 b2 k hb1 hb2 _ hl).mono (λe w' hh=>by rw[hh.1];exact dG.trap ht h hh.2)
 ·obtain⟨rfl,rfl⟩:=hD;refine⟨_,rfl,enters_of func127 (by kernel_rfl) rfl,?_⟩;by_cases h1:x.s=1
  ·obtain⟨n0,n1⟩:=hw rfl h1;rw[show doP ⟨5,m,k,aD⟩ x s=(0,{s with r:=s.r.eY x.d (mmap x.num.toNat)}) by simp only[doP,iP9 h1]];have hnn:((x.num.toNat:Nat):Int)=x.num:=bq n0;have hlt:x.num.toNat<s.ms.length:=by omega
   obtain⟨oM,cM,yR,hvw⟩:=h.maps.zx.view;obtain⟨g,cs,rfl,hg,htk,_⟩:=hvw (by omega);have hcell:∀w',aa ae w w'->w'.cell? ⟨g,x.num.toNat,none⟩=some (.pointer (some ⟨a.mb.getD x.num.toNat 0,0,none⟩)):=λw' mm=>by have hs:=h.maps.zx.ag mm (λ_ _=>id);rw[yR]at hs;obtain⟨g',hg',hcs⟩:=hs.at rfl x.num.toNat hlt;cases hg';rw[hcs _ hlt];have hl:=h.maps.lm;have:(a.mb.flatMap Wf)[x.num.toNat*1+0]?=(Wf (a.mb[x.num.toNat]'(by omega)))[0]?:=kr Wf 1 a.mb (λ_ _=>rfl) x.num.toNat 0 (by omega) (by omega);rw[Nat.mul_one,Nat.add_zero]at this;rw[this,List.getD_eq_getElem?_getD,List.getElem?_eq_getElem (l:=a.mb) (i:=x.num.toNat) (by omega)];rfl
   have hm:∀w',aa ae w w'->Calls prog 240 #[pt b,.int .i64 (x.ins bs).num] w' λe w''=>e=.returned (.agg ((mmap x.num.toNat).cells a.rb a.mb).toArray)/\aa ae w' w'':=λw' mm=>by have hr':=hr.quiet mm;rw[yR]at hr';have:=amn w' b a.rb a.mb g s.ms.length cM a.vC a.vL s.r hr' x.num.toNat hlt (hcell w' mm);rw[hnn]at this;exact this
   exact(anD w b a.rb a.mb a.vM a.vC a.vL s.r hr ho.pos (x.ins bs) hx.d h1 hx.n.1 hx.n.2 _ hm).mono (λe w' hh=>by rw[hh.1];exact dG.ok (h.FD hh.2.2 _ hh.2.1 rfl))
  ·rw[show doP ⟨5,m,k,aD⟩ x s=(0,{s with r:=s.r.eY x.d (kI x.UQ)}) by simp only[doP,iN9 h1]];exact(ahN w b a.rb a.mb a.vM a.vC a.vL s.r hr ho.pos (x.ins bs) hx.d h1 _ _ rfl (λw' mm=>agz (x.ins bs) w')).mono (λe w' hh=>by rw[hh.1];exact dG.ok (h.FD hh.2.2 _ hh.2.1 rfl))
 ·obtain⟨rfl,rfl⟩:=hD;refine⟨_,rfl,enters_of func131 (by kernel_rfl) rfl,?_⟩;by_cases h1:x.s=1
  ·obtain⟨n0,n1⟩:=(hc rfl).1 h1;have hnn:((x.num.toNat:Nat):Int)=x.num:=bq n0;by_cases h8:s.r.calls.length=8
   ·rw[show doP ⟨6,m,k,aD⟩ x s=(4,s) by simp only[doP,iP9 h1,iP9 h8]];refine MC w b (x.ins bs) h1 hx.n.1 hx.n.2 _ (λw' mm=>?_);have:=Qt w' b a.rb a.mb a.vM a.vC a.vL s.r (hr.quiet mm) h8 x.num.toNat;rw[hnn]at this;exact this.mono (λe w2 hh=>⟨.inr ⟨4,hh.1⟩,by rw[hh.1];exact(dG.trap (by decide) (h.quiet mm) hh.2).from mm⟩)
   ·rw[show doP ⟨6,m,k,aD⟩ x s=(0,{s with r:=s.r.mo x.num.toNat s.gs.length,gs:=s.gs++[bu]}) by simp only[doP,iP9 h1,iN9 h8]];have hd8:s.r.calls.length<8:=by have:=ho.deep;omega
    refine MC w b (x.ins bs) h1 hx.n.1 hx.n.2 _ (λw' mm=>?_);have:=UK w' b a.rb a.mb a.vM a.vC a.vL s.r (hr.quiet mm) ho.pos hd8 x.num.toNat (ho.In h.qU.lr);rw[hnn]at this;refine this.mono ?_;rintro e w2 ⟨DP,G,rfl,hr2,m2,hC,hG,hb2,hs2⟩;rw[h.qU.lr]at hr2;have aeH:(s.r.mo x.num.toNat s.gs.length).log=s.r.log:=aC.DU _ _ _;obtain⟨k1,k2⟩:=(h.quiet mm).mo ho (λk hk=>hF k (Nat.le_trans mm.size hk)) DP G _ hr2 aeH m2 hC hG hb2 hs2;have hp:dG F w' b a (0,{s with r:=s.r.mo x.num.toNat s.gs.length,gs:=s.gs++[bu]}) (.returned (.tuple #[])) w2:=⟨rfl,k2,_,k1,rfl,rfl⟩
    exact⟨.inl rfl,hp.from mm⟩
  ·obtain⟨n0,n1⟩:=(hc rfl).2 h1;by_cases e4:x.num=4
   ·rw[show doP ⟨6,m,k,aD⟩ x s=IL s by simp only[doP,iN9 h1,e4];rfl];refine ag5 w b (x.ins bs) h1 e4 _ (λw' mm=>?_);exact(ahO (h.quiet mm) ho (λk hk=>hF k (Nat.le_trans mm.size hk))).mono (λe w2 hh=>⟨hh.either,hh.from mm⟩)
   ·have hmh:=hH rfl h1 (by omega);by_cases e1:x.num=1
    ·rw[show doP ⟨6,m,k,aD⟩ x s=QC s by simp only[doP,iN9 h1,e1];rfl];exact amq w b (x.ins bs) h1 e1 _ (λw' mm=>(hmh w' mm).1.mono (λe w2 hh=>⟨hh.either,hh.from mm⟩))
    ·by_cases e2:x.num=2
     ·rw[show doP ⟨6,m,k,aD⟩ x s=QD s by simp only[doP,iN9 h1,e2];rfl];exact amr w b (x.ins bs) h1 e2 _ (λw' mm=>(hmh w' mm).2.1.mono (λe w2 hh=>⟨hh.either,hh.from mm⟩))
     ·have e3:x.num=3:=by omega
      rw[show doP ⟨6,m,k,aD⟩ x s=QF s by simp only[doP,iN9 h1,e3];rfl];exact ams w b (x.ins bs) h1 e3 _ (λw' mm=>(hmh w' mm).2.2.mono (λe w2 hh=>⟨hh.either,hh.from mm⟩))
 ·rename_i t' n0 n1 n2 n3 n4 n5 n6
  obtain⟨rfl,rfl⟩:=hD;refine⟨_,rfl,enters_of func132 (by kernel_rfl) rfl,?_⟩;have e7:doP ⟨t,m,k,aD⟩ x s=doP ⟨7,m,k,aD⟩ x s:=by unfold doP;simp only
  rw[e7];by_cases h1:s.r.calls.length=1
  ·by_cases h2:(s.r.aD 0).so=0
   ·rw[show doP ⟨7,m,k,aD⟩ x s=(0,{s with r:=s.r.finish (s.r.aD 0).bits}) by simp only[doP,iP9 h1,iP9 h2]];refine Le w b (x.ins bs) _ (λw' mm=>?_);exact(UI w' b a.rb a.mb a.vM a.vC a.vL s.r (hr.quiet mm) h1 h2).mono (λe w2 hh=>⟨.inl hh.1,by rw[hh.1];exact(dG.ok ((h.quiet mm).UT (hh.2.2.mono (λk _ hk=>.inl hk)) _ hh.2.1 rfl)).from mm⟩)
   ·rw[show doP ⟨7,m,k,aD⟩ x s=(2,s) by simp only[doP,iP9 h1,iN9 h2]];refine Le w b (x.ins bs) _ (λw' mm=>?_);exact(UJ w' b a.rb a.mb a.vM a.vC a.vL s.r (hr.quiet mm) h1 h2).mono (λe w2 hh=>⟨.inr ⟨2,hh.1⟩,by rw[hh.1];exact(dG.trap (by decide) (h.quiet mm) hh.2).from mm⟩)
  ·rw[show doP ⟨7,m,k,aD⟩ x s=(0,{s with r:=s.r.back,gs:=s.gs.set s.r.top.oJ []}) by simp only[doP,iN9 h1]];refine Le w b (x.ins bs) _ (λw' mm=>?_);have hq:=ho.top.oJ;have h':=h.quiet mm;refine(Qs w' b a.rb a.mb a.vM a.vC a.vL s.r h'.run (by have:=ho.pos;omega) _ (h'.qU.blk _ hq)).mono ?_;rintro e w3 ⟨DP,rfl,hr3,hC,w2,m1,m2⟩;obtain⟨k1,k2⟩:=h'.backTo _ hq DP hC s.r.back (aC.Lh _ _) w2 m1 m2 hr3;have hp:dG F w' b a (0,{s with r:=s.r.back,gs:=s.gs.set s.r.top.oJ []}) (.returned (.tuple #[])) w3:=⟨rfl,k2,_,k1,rfl,rfl⟩
   exact⟨.inl rfl,hp.from mm⟩
def jy(fs:List aS)(i:Nat):aS:=fs.getD i ⟨[],[]⟩
def nr(f:aS)(slot:Nat):Prop:=∃x,(x,slot)∈atS 0 f.code
structure qK(fs:List aS)(mn:Nat):Prop where
 first:∀f∈fs,nr f 0
 len:∀f∈fs,aM f.code<=1000
 ins:∀f∈fs,∀p∈atS 0 f.code,MF fs.length mn p.1/\eU p.1/\((dz p.1.o.code).t=1\/(dz p.1.o.code).t=2->0<=p.1.target p.2/\nr f (p.1.target p.2).toNat)/\((dz p.1.o.code).t≠2->(dz p.1.o.code).t<=6->nr f (p.2+p.1.o.slots))
def aC.mJ(r:aC):List (Nat×Nat):=r.calls.map λf=>(f.fn,f.next)
theorem tN(fs:List aS)(i:Nat)(h:i<fs.length):jy fs i∈fs:=by unfold jy;rw[List.getD_eq_getElem?_getD,List.getElem?_eq_getElem h];exact ba _
theorem tO(fs:List aS)(fn slot:Nat)(h:nr (jy fs fn) slot):(yV fs fn slot,slot)∈atS 0 (jy fs fn).code:=by
 obtain⟨x,hx⟩:=h;unfold yV;cases hf:(atS 0 (fs.getD fn ⟨[],[]⟩).code).find? (λp=>p.2==slot)with
 |none =>have:=List.find?_eq_none.1 hf (x,slot) hx;simp at this
 |some p =>
  have h1:=List.mem_of_find?_eq_some hf;have h2:=List.find?_some hf;simp only;have e:p.2=slot:=by simpa using h2
  rw[<-e];exact h1
theorem QO(r:aC)(hp:0<r.calls.length)(f:ja)(h1:f.fn=r.top.fn)(h2:f.next=r.top.next):(r.dQ f).mJ=r.mJ :=
 xS _ _ _ _ (λy hy=>by
  have e:y=r.top:=by rw[aC.vW _ hp];rw[List.getElem?_eq_getElem (by omega)]at hy;exact(Option.some.inj hy).symm
  rw[e,h1,h2])
theorem oZ(r:aC)(hp:0<r.calls.length)(d:Nat)(v:MV):(r.eY d v).mJ=r.mJ:=QO r hp _ rfl rfl
theorem DV(vs:List MV):∀(r:aC) (_:0<r.calls.length) (d:Nat),(r.kP d vs).mJ=r.mJ:=by
 induction vs with
 |nil=>intro r _ d;rfl
 |cons v vs ih=>intro r hp d;exact(ih _ (by rw[aC.gj];exact hp) _).trans (oZ r hp d v)
theorem mD(r:aC)(hp:0<r.calls.length)(v:MV):(r.answer v).mJ=r.mJ:=(DV _ _ (by rw[aC.gj];exact hp) _).trans (oZ r hp 0 v)
def QP(fs:List aS)(l:List (Nat×Nat)):Prop:=∀p∈l,nr (jy fs p.1) p.2
structure Cc(fs:List aS)(s:bP):Prop where
 at':nr (jy fs s.r.top.fn) s.r.top.slot
 low:QP fs s.r.mJ.dropLast
theorem IP(r:aC)(hp:0<r.calls.length):r.mJ=r.mJ.dropLast++[(r.top.fn,r.top.next)]:=by
 have hne:r.mJ≠[]:=λe=>by have:=congrArg List.length e;unfold aC.mJ at this;rw[bh]at this;simp at this;rw[this]at hp;exact Nat.lt_irrefl _ hp
 have e1:=List.dropLast_concat_getLast hne;have e2:r.mJ.getLast hne=(r.top.fn,r.top.next):=by rw[List.getLast_eq_getElem];unfold aC.mJ;simp only[List.getElem_map,bh];rw[aC.vW _ hp]
 rw[e2]at e1;exact e1.symm
theorem vY(r:aC)(hp:0<r.calls.length)(f:ja):(r.dQ f).mJ=r.mJ.dropLast++[(f.fn,f.next)]:=by
 have h1:=IP (r.dQ f) (by rw[aC.jg];exact hp);rw[aC.oN r hp]at h1;have h2:(r.dQ f).mJ.dropLast=r.mJ.dropLast:=by unfold aC.mJ aC.dQ;simp only;rw[List.map_set,bj,bj,List.length_set,bh];rw[List.take_set_of_le (by omega)]
 rw[h2]at h1;exact h1
theorem Cc.of{fs:List aS}{s:bP}(hp:0<s.r.calls.length)(h:QP fs s.r.mJ):Cc fs s.gx:=by
 have hl:=IP s.r hp;refine⟨?_,?_⟩
 ·show nr (jy fs (s.r.dQ _).top.fn) (s.r.dQ _).top.slot
  rw[aC.oN s.r hp];exact h (s.r.top.fn,s.r.top.next) (by rw[hl];exact List.mem_append_right _ (List.mem_singleton.2 rfl))
 ·show QP fs (s.r.dQ _).mJ.dropLast
  rw[vY s.r hp,an];exact λp hp'=>h p (by rw[hl];exact List.mem_append_left _ hp')
theorem QT(s:bP)(hp:0<s.r.calls.length)(n:Nat):(s.begin n).r.mJ=s.r.mJ.dropLast++[(s.r.top.fn,s.r.top.slot+n)]:=vY {s.r with used:=s.r.used+1} hp _
theorem DW(s:bP)(hp:0<s.r.calls.length)(n:Nat):(s.begin n).r.top={s.r.top with next:=s.r.top.slot+n}:=aC.oN {s.r with used:=s.r.used+1} hp _
theorem QU(s:bP)(n:Nat):(s.begin n).r.calls.length=s.r.calls.length:=aC.jg _ _
theorem U5(s:bP)(hp:0<s.r.calls.length):(QC s).2.r.mJ=s.r.mJ/\(QD s).2.r.mJ=s.r.mJ/\(QF s).2.r.mJ=s.r.mJ/\(IL s).2.r.mJ=s.r.mJ:=by
 refine⟨?_,?_,?_,?_⟩
 ·unfold QC;split
  ·rfl
  ·split
   ·rfl
   ·exact mD _ hp _
 ·have e:∀t key val,(Fz s t key val).1.r=s.r:=λt key val=>by
   unfold Fz;split
   ·rfl
   ·split<;>rfl
  unfold QD;split
  ·rfl
  ·split
   ·rfl
   ·split
    ·rfl
    ·show((Fz _ _ _ _).1.r.answer _).mJ=_
     rw[e];exact mD _ hp _
 ·have e:∀t key,(FB s t key).1.r=s.r:=λt key=>by unfold FB;split<;>rfl
  unfold QF;split
  ·rfl
  ·split
   ·rfl
   ·show((FB _ _ _).1.r.answer _).mJ=_
    rw[e];exact mD _ hp _
 ·unfold IL;split
  ·rfl
  ·split
   ·rfl
   ·exact mD {s.r with log:=_} hp _
theorem Li(r:aC)(fn k:Nat):(r.mo fn k).mJ=r.mJ++[(fn,0)]:=by
 have h0:0<(r.nK fn k).calls.length:=by show 0<(r.calls++[_]).length;simp
 have h1:0<(r.enter fn k).calls.length:=by unfold aC.enter;rw[aC.gj];exact h0
 unfold aC.mo;rw[DV _ _ h1];unfold aC.enter;rw[oZ _ h0];unfold aC.mJ aC.nK;simp only[List.map_append,List.map_cons,List.map_nil]
theorem U6(r:aC)(hp:1<r.calls.length):r.back.mJ=r.mJ.dropLast:=by unfold aC.back;rw[mD _ (by show 0<r.calls.dropLast.length;rw[List.length_dropLast];omega)];unfold aC.mJ aC.pop;simp only;rw[List.map_dropLast]
theorem U7{fs:List aS}{s:bP}(hc:qK fs s.ms.length)(ho:bR fs.length s)(hp:Cc fs s)(he:s.r.ended=false)(h0:(s.did fs).1=0):(s.did fs).2.r.ended=true\/QP fs (s.did fs).2.r.mJ:=by
 have hf:=tN fs _ ho.top.fn;have hx:=tO fs _ _ hp.at';obtain⟨hi,_,hj,hn⟩:=hc.ins _ hf _ hx;have hpos:=ho.pos;have hb:=QT s hpos (s.ins fs).o.slots;have hbt:=DW s hpos (s.ins fs).o.slots;have hbl:0<(s.begin (s.ins fs).o.slots).r.calls.length:=by rw[QU];exact hpos
 have Cd:(dz (s.ins fs).o.code).t≠2->(dz (s.ins fs).o.code).t<=6->QP fs (s.begin (s.ins fs).o.slots).r.mJ:=λh2 h6 p hp'=>by
  rw[hb]at hp';rcases List.mem_append.1 hp' with hp'|hp'
  ·exact hp.low p hp'
  ·rw[List.mem_singleton.1 hp'];exact hn h2 h6
 have hgo:(dz (s.ins fs).o.code).t=1\/(dz (s.ins fs).o.code).t=2->QP fs ((s.begin (s.ins fs).o.slots).r.fQ ((s.ins fs).target (s.begin (s.ins fs).o.slots).r.top.slot).toNat).mJ:=λh12 p hp'=>by
  have e:=vY (s.begin (s.ins fs).o.slots).r hbl {(s.begin (s.ins fs).o.slots).r.top with next:=((s.ins fs).target (s.begin (s.ins fs).o.slots).r.top.slot).toNat};have hp2:p∈((s.begin (s.ins fs).o.slots).r.dQ {(s.begin (s.ins fs).o.slots).r.top with next:=((s.ins fs).target (s.begin (s.ins fs).o.slots).r.top.slot).toNat}).mJ:=hp';rw[e,hb,an]at hp2;rcases List.mem_append.1 hp2 with hp2|hp2
  ·exact hp.low p hp2
  ·rw[List.mem_singleton.1 hp2];rw[hbt];exact(hj h12).2
 unfold bP.did at h0 ⊢;generalize hdd:dz (s.ins fs).o.code=dd at *;obtain⟨t,m,k,aD⟩:=dd;simp only at Cd hgo;have hee:(s.begin (s.ins fs).o.slots).r.ended=false:=he;generalize s.begin (s.ins fs).o.slots=s1 at *;unfold doP at h0 ⊢;simp only at h0 ⊢;split at h0
 ·cases hv:rkP m k (s1.r.aD (s.ins fs).d) (nN aD (s.ins fs) s1)with
  |none=>rw[hv]at h0;cases h0
  |some v=>exact .inr (by simp only;rw[oZ _ hbl];exact Cd (by decide) (by decide))
 ·cases hv:ZT m k (s1.r.aD (s.ins fs).d) (nN aD (s.ins fs) s1)with
  |none=>rw[hv]at h0;cases h0
  |some v =>
   cases v with
   |true=>exact .inr (hgo (.inl rfl))
   |false=>exact .inr (Cd (by decide) (by decide))
 ·exact .inr (hgo (.inr rfl))
 ·by_cases ht:dK s1.gs (s1.r.aD (s.ins fs).s) (s.ins fs).jump k=0
  ·rw[iP9 ht];exact .inr (by simp only;rw[oZ _ hbl];exact Cd (by decide) (by decide))
  ·rw[iN9 ht]at h0;exact absurd h0 ht
 ·by_cases ht:storeT s1.gs (s1.r.aD (s.ins fs).d) (s.ins fs).jump k (nN aD (s.ins fs) s1)=0
  ·rw[iP9 ht];exact .inr (Cd (by decide) (by decide))
  ·rw[iN9 ht]at h0;exact absurd h0 ht
 ·exact .inr (by simp only;rw[oZ _ hbl];exact Cd (by decide) (by decide))
 ·have hs6:=Cd (by decide) (by decide);have hcall:=hi.call;rw[show(dz (yV fs s.r.top.fn s.r.top.slot).o.code).t=6 from congrArg VS.t hdd]at hcall;obtain⟨q1,q2,q3,q4⟩:=U5 s1 hbl;by_cases h1:(s.ins fs).s=1
  ·rw[iP9 h1]at h0 ⊢;by_cases h8:s1.r.calls.length=8
   ·rw[iP9 h8]at h0;cases h0
   ·rw[iN9 h8];refine .inr (λp hp'=>?_);simp only at hp';rw[Li]at hp';rcases List.mem_append.1 hp' with hp'|hp'
    ·exact hs6 p hp'
    ·rw[List.mem_singleton.1 hp'];have hn2:0<=(s.ins fs).num/\(s.ins fs).num<fs.length:=(hcall rfl).1 h1
     exact hc.first _ (tN fs _ (by
      show(s.ins fs).num.toNat<fs.length
      omega))
  ·rw[iN9 h1]at h0 ⊢;right;split
   ·rw[q1];exact hs6
   ·split
    ·rw[q2];exact hs6
    ·split
     ·rw[q3];exact hs6
     ·rw[q4];exact hs6
 ·by_cases h1:s1.r.calls.length=1
  ·rw[iP9 h1]at h0 ⊢;by_cases h2:(s1.r.aD 0).so=0
   ·rw[iP9 h2];exact .inl rfl
   ·rw[iN9 h2]at h0;cases h0
  ·rw[iN9 h1];refine .inr ?_;simp only;rw[U6 _ (by omega),hb,an];exact hp.low
theorem aa2(m k n q:Nat)(d s v:MV)(hd:d.Ok n q)(hs:s.Ok n q)(h:rkP m k d s=some v):v.Ok n q:=by
 unfold rkP at h;split at h
 ·cases h;exact hs
 ·split at h
  ·cases h;exact MV.Ok.num (Mu _)
  ·cases h
 ·split at h
  ·cases h;exact MV.Ok.num (Lc _ _ _ _ hd.1 hs.1)
  ·cases h
 ·split at h
  ·cases h;exact MV.Ok.num (Mu _)
  ·cases h
 ·split at h
  ·split at h
   ·cases h;exact⟨Lc _ _ _ _ hd.1 hs.1,hd.2⟩
   ·cases h
  ·split at h
   ·cases h;exact MV.Ok.num (Lc _ _ _ _ hd.1 hs.1)
   ·cases h
theorem DX:∀(l:List Nat),(∀b∈l,b<256)->leN l<256 ^ l.length
 |[],_=>by show 0<1;decide
 |x::l,h=>by
  have h1:=h x (by simp);have h2:=DX l (λb hb=>h b (by simp[hb]));show x+256*leN l<256 ^ (l.length+1)
  rw[Nat.pow_succ];omega
theorem Ce(num:Nat):∀(k A:Nat) (l:List Nat),(∀b∈l,b<256)->∀b∈putB l A num k,b<256
 |0,_,_,h,b,hb=>h b hb
 |k+1,A,l,h,b,hb=>by
  rcases aE hb with hb|rfl
  ·exact Ce num k A l h b hb
  ·exact Nat.mod_lt _ (by decide)
theorem U8{gs:List (List Nat)}(hg:zN gs)(v:MV)(j:Int)(k:Nat)(hk:k<=8)(hq:v.aD.getD 0<gs.length):DS gs v j k<18446744073709551616:=by
 unfold DS;have hb:∀b∈((gs.getD (v.aD.getD 0) []).drop (kQ v j)).take k,b<256:=λb hb=>(hg.at _ hq).2 b (List.mem_of_mem_drop (List.mem_of_mem_take hb));have h1:=DX _ hb;have h2:(((gs.getD (v.aD.getD 0) []).drop (kQ v j)).take k).length<=8:=by rw[List.length_take];omega
 have h3:256 ^ (((gs.getD (v.aD.getD 0) []).drop (kQ v j)).take k).length<=256 ^ 8:=Nat.pow_le_pow_right (by decide) h2;have h4:(256:Nat) ^ 8=18446744073709551616:=by decide
 omega
theorem MG{gs:List (List Nat)}{n m:Nat}(v:MV)(hv:v.Ok n m)(j:Int)(k:Nat)(h:dK gs v j k=0):v.aD.getD 0<n:=by
 unfold dK at h;by_cases h2:v.so=2
 ·obtain⟨q,hq,hlt⟩:=hv.pt h2;rw[hq];exact hlt
 ·rw[iP9 (by simpa using h2)]at h;exact absurd h (by decide)
def IQ(fn:Nat)(s:bP):Prop:=bR fn (QC s).2/\bR fn (QD s).2/\bR fn (QF s).2/\(QC s).2.ms.length=s.ms.length/\(QD s).2.ms.length=s.ms.length/\(QF s).2.ms.length=s.ms.length
theorem U9(x:PI):x.UQ<18446744073709551616:=by unfold PI.UQ;omega
theorem MH{fn:Nat}{s:bP}(ho:bR fn s):bR fn (IL s).2:=by
 unfold IL;split
 ·exact ho
 ·split
  ·exact ho
  ·rename_i h2
   exact ho.logged _ (ho.aD 1).1 (by have:=ho.log.1;omega)
theorem MI(s:bP):(IL s).2.ms=s.ms:=by
 unfold IL;split
 ·rfl
 ·split<;>rfl
theorem Lj{fn mn:Nat}{s:bP}(ho:bR fn s)(hm:s.ms.length=mn)(x:PI)(hx:MF fn mn x)(hH:(dz x.o.code).t=6->x.s≠1->x.num<4->IQ fn s):bR fn (doP (dz x.o.code) x s).2/\(doP (dz x.o.code) x s).2.ms.length=mn:=by
 have hc:=hx.call;have hw:=hx.wide;have hz:=hx.size;generalize dz x.o.code=dd at *;obtain⟨t,m,k,aD⟩:=dd;simp only at hc hw hz hH;unfold doP;simp only;split
 ·cases hv:rkP m k (s.r.aD x.d) (nN aD x s)with
  |none=>exact⟨ho,hm⟩
  |some v=>exact⟨ho.eY _ _ (aa2 m k _ _ _ _ v (ho.aD _) (FE ho aD x) hv),hm⟩
 ·cases hv:ZT m k (s.r.aD x.d) (nN aD x s)with
  |none=>exact⟨ho,hm⟩
  |some v =>
   cases v with
   |true=>exact⟨ho.fQ _,hm⟩
   |false=>exact⟨ho,hm⟩
 ·exact⟨ho.fQ _,hm⟩
 ·split
  ·rename_i ht
   exact⟨ho.eY _ _ (MV.Ok.num (U8 ho.gs _ _ _ (hz (.inl rfl)).2 (MG _ (ho.aD _) _ _ ht))),hm⟩
  ·exact⟨ho,hm⟩
 ·split
  ·rename_i ht
   have hr:dK s.gs (s.r.aD x.d) x.jump k=0:=by
    unfold storeT at ht;by_cases h1:(nN aD x s).so=0
    ·rw[iN9 (by simp[h1])]at ht;exact ht
    ·rw[iP9 (by simpa using h1)]at ht;exact absurd ht (by decide)
   have hq:=MG _ (ho.aD x.d) _ _ hr;have hg:=ho.gs.at _ hq;exact⟨ho.acN _ hq _ ⟨by rw[xO];exact hg.1,Ce _ _ _ _ hg.2⟩ (λ_ _ _ _ _=>xO _ _ _ _),hm⟩
  ·exact⟨ho,hm⟩
 ·refine⟨ho.eY _ _ ?_,hm⟩;by_cases h1:x.s=1
  ·rw[iP9 h1];obtain⟨n0,n1⟩:=hw rfl h1;exact⟨(by decide:0<18446744073709551616),.inr (.inl ⟨rfl,rfl,_,rfl,by omega⟩)⟩
  ·rw[iN9 h1];exact MV.Ok.num (U9 x)
 ·by_cases h1:x.s=1
  ·rw[iP9 h1];obtain⟨n0,n1⟩:=(hc rfl).1 h1;by_cases h8:s.r.calls.length=8
   ·rw[iP9 h8];exact⟨ho,hm⟩
   ·rw[iN9 h8];exact⟨ho.call (by have:=ho.deep;omega) _ (by omega),hm⟩
  ·rw[iN9 h1];by_cases e4:x.num<4
   ·obtain⟨k1,k2,k3,l1,l2,l3⟩:=hH rfl h1 e4;split
    ·exact⟨k1,by rw[l1];exact hm⟩
    ·split
     ·exact⟨k2,by rw[l2];exact hm⟩
     ·split
      ·exact⟨k3,by rw[l3];exact hm⟩
      ·exact⟨MH ho,by rw[MI];exact hm⟩
   ·rw[iN9 (by omega),iN9 (by omega),iN9 (by omega)];exact⟨MH ho,by rw[MI];exact hm⟩
 ·by_cases h1:s.r.calls.length=1
  ·rw[iP9 h1];split
   ·exact⟨ho.finish _,hm⟩
   ·exact⟨ho,hm⟩
  ·rw[iN9 h1];exact⟨ho.back h1,hm⟩
