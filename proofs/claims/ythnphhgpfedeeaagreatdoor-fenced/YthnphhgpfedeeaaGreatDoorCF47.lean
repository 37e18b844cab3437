import Derived.Test.YthnphhgpfedeeaaGreatDoorCF46
namespace Go.Proofs.YthnphhgpfedeeaaGreatDoor
open Go.RowKit Tryz
open List renaming take_succ_cons->ab,drop_succ_cons->al
set_option linter.all false
set_option maxRecDepth 100000
set_option maxHeartbeats 1000000
theorem acD(w:tW)(d0 d1 d2 d3:Value)(s0 s1:Int)(s2 s3:Option Addr) :Calls prog 185 #[.agg #[d0,d1,d2,d3],.agg #[.int .i64 s0,.int .u64 s1,.pointer s2,.pointer s3]] w λe w'=>e=.returned (.agg #[.int .i64 s0,.int .u64 s1,.pointer s2,.pointer s3])/\aa ae w w':=by have V0:=V3.of w d0 d1 d2 d3 (.int .i64 s0) (.int .u64 s1) (.pointer s2) (.pointer s3);go_enter func185,ntmps185;go_upto_region 1 with fail;generalize((w.alloc (.cells #[d0,d1,d2,d3] 130)).alloc (.cells #[.int .i64 s0,.int .u64 s1,.pointer s2,.pointer s3] 130)).alloc (.cells #[.int .i64 0,.int .u64 0,.pointer none,.pointer none] 130)=W3 at *;obtain⟨y0,y1,y2,y3,_⟩:=V0.s.o.four;obtain⟨z0,z1,z2,z3,zf⟩:=V0.b.o.four;go_wp2_with fail;refine bodyPost_ret (results_cell_row results185 _ _ (w.heap.size+1+1) 130 _ (0,0) _ rfl ((((V0.b.o.set 0 _).set 1 _).set 2 _).set 3 _) underlying130 rfl (by kernel_rfl)) rfl ⟨rfl,?_⟩;exact Mv V0.m.o (by omega)
theorem Yu(w:tW)(rb mb:List Nat)(d s:MV) :Calls prog 185 #[.agg (d.cells rb mb).toArray,.agg (s.cells rb mb).toArray] w λe w'=>e=.returned (.agg (s.cells rb mb).toArray)/\aa ae w w' :=
 acD w _ _ _ _ _ _ _ _
theorem acE(w:tW)(d0 d1 d2 d3 s0 s1 s2 s3:Value)(b:Nat)(fk:FuncId)(hb:ak w b #[nQ fk] 282)(b1:Nat)(nd ns R:Value)(v0 v1:Int)(v2 v3:Option Addr)(en:pE fk)(hf:QA w 275 #[.agg #[d0,d1,d2,d3]] (.returned (.tuple #[nd,.bool true])))(hs:QA w 207 #[.agg #[s0,s1,s2,s3]] (.returned ns))(ho:QA w fk #[nd,ns,.int .u64 64] (.returned R))(hv:QA w 276 #[.agg #[d0,d1,d2,d3],R] (.returned (.agg #[.int .i64 v0,.int .u64 v1,.pointer v2,.pointer v3]))):Calls prog 274 #[.agg #[d0,d1,d2,d3],.agg #[s0,s1,s2,s3],pt b,pt b1] w λe w'=>e=.returned (.agg #[.int .i64 v0,.int .u64 v1,.pointer v2,.pointer v3])/\aa ae w w':=by
 unfold pE at en;have V0:=V3.of w d0 d1 d2 d3 s0 s1 s2 s3;have c0:=ai (hb.ag V0.m.o id);clear hb;have HF:=hf.to V0.m.o;clear hf;go_enter func274,ntmps274;go_upto_region 1 with fail;generalize((w.alloc (.cells #[d0,d1,d2,d3] 130)).alloc (.cells #[s0,s1,s2,s3] 130)).alloc (.cells #[.int .i64 0,.int .u64 0,.pointer none,.pointer none] 130)=W3 at *;obtain⟨x0,x1,x2,x3,_⟩:=V0.d.o.four;go_wp2_with fail;refine(um HF ax).mono ?_;rintro e wo ⟨rfl,MO⟩;have V:=V0.ag MO.o;have HM:=V.m;have c1:=ai (c0.o.ag MO.o id);clear x0 x1 x2 x3 HF MO V0 c0;have HS:=hs.to HM.o;have HO:=ho.to HM.o;have HV:=hv.to HM.o;go_upto_region 3 with fail;obtain⟨x0,x1,x2,x3⟩:=V.d.o.four';obtain⟨y0,y1,y2,y3⟩:=V.s.o.four';have q0:=c1.o.one';refine gy ae 7 [4,5,6] (by kernel_rfl) (by kernel_rfl) (λ_ M0=>?_);simp only[ab,List.take_zero,al,List.drop_zero]
 iterate 4 (refine aA rfl rfl rfl ?_;intro K hK;go_big_quiet_op;go_big_quiet_on)
 refine aF rfl rfl ?_;intro K hK;go_big_op;refine(um HS M0).mono ?_;rintro e u1 ⟨rfl,M1⟩;refine hK _ _ rfl ⟨⟨_,M1.o⟩,rfl⟩ ?_;clear hK K;refine aF rfl rfl ?_;intro K hK;go_big_op;refine(um HO M1).mono ?_;rintro e u2 ⟨rfl,M2⟩;refine hK _ _ rfl ⟨⟨_,M2.o⟩,rfl⟩ ?_;clear hK K;refine aF rfl rfl ?_;intro K hK;go_big_op;refine(um HV M2).mono ?_;rintro e u3 ⟨rfl,M3⟩;refine hK _ _ rfl ⟨⟨_,M3.o⟩,rfl⟩ ?_;clear hK K;refine bX ?_;clear q0;have HB:=ai (V.b.o.ag M3.o id);clear x0 x1 x2 x3 y0 y1 y2 y3;obtain⟨z0,z1,z2,z3,zf⟩:=HB.o.four;go_wp2_with fail;refine bodyPost_ret (results_cell_row results274 _ _ (w.heap.size+1+1) 130 _ (0,0) _ rfl ((((HB.o.set 0 _).set 1 _).set 2 _).set 3 _) underlying130 rfl (by kernel_rfl)) rfl ⟨rfl,?_⟩;exact Mv (HM.o.trans M3.o) (by omega)
theorem acF(w:tW)(d0 d1 d2 d3 s0 s1 s2 s3:Value)(b:Nat)(fk:FuncId)(hb:ak w b #[nQ fk] 282)(b1:Nat)(nd:Value)(t:Nat)(hf:QA w 275 #[.agg #[d0,d1,d2,d3]] (.returned (.tuple #[nd,.bool true])))(hs:QA w 207 #[.agg #[s0,s1,s2,s3]] (aX t)):Calls prog 274 #[.agg #[d0,d1,d2,d3],.agg #[s0,s1,s2,s3],pt b,pt b1] w λe w'=>e=aX t/\aa ae w w':=by
 have V0:=V3.of w d0 d1 d2 d3 s0 s1 s2 s3;have c0:=ai (hb.ag V0.m.o id);clear hb;have HF:=hf.to V0.m.o;clear hf;go_enter func274,ntmps274;go_upto_region 1 with fail;generalize((w.alloc (.cells #[d0,d1,d2,d3] 130)).alloc (.cells #[s0,s1,s2,s3] 130)).alloc (.cells #[.int .i64 0,.int .u64 0,.pointer none,.pointer none] 130)=W3 at *;obtain⟨x0,x1,x2,x3,_⟩:=V0.d.o.four;go_wp2_with fail;refine(um HF ax).mono ?_;rintro e wo ⟨rfl,MO⟩;have V:=V0.ag MO.o;have HM:=V.m;have c1:=ai (c0.o.ag MO.o id);clear x0 x1 x2 x3 HF MO V0 c0;have HS:=hs.to HM.o;go_upto_region 3 with fail;obtain⟨x0,x1,x2,x3⟩:=V.d.o.four';obtain⟨y0,y1,y2,y3⟩:=V.s.o.four';have q0:=c1.o.one';refine iO ae 4 [4] [0,1,2,3] (λc w'=>.panicked c=aX t/\aa ae w w') (by kernel_rfl) (by kernel_rfl) (λc a' w' hd' hm=>⟨hd',hm⟩) (λ_ M0=>?_)
 iterate 4 (refine je rfl rfl rfl rfl ?_;intro K hK;(conv=>(arg 2;whnf));go_big_quiet_op;go_big_quiet_on)
 refine mixL_pan rfl rfl rfl ?_;intro QQ Yp hLO
 conv=>(arg 2;whnf)
 go_big_op;refine(um HS M0).mono ?_;rintro e up ⟨rfl,MP⟩;exact Yp _ _ ⟨rfl,HM.o.trans MP.o⟩
theorem Yv(w:tW)(d0 d1 d2 d3 s0 s1 s2 s3:Value)(b b1 b2:Nat)(hb:ak w b1 #[.func (.func 206) #[] #[pt b2]] 208)(nd:Value)(v0 v1:Int)(v2 v3:Option Addr)(hf:QA w 275 #[.agg #[d0,d1,d2,d3]] (.returned (.tuple #[nd,.bool false])))(hi:QA w 206 #[.agg #[d0,d1,d2,d3],.agg #[s0,s1,s2,s3],pt b2] (.returned (.agg #[.int .i64 v0,.int .u64 v1,.pointer v2,.pointer v3]))):Calls prog 274 #[.agg #[d0,d1,d2,d3],.agg #[s0,s1,s2,s3],pt b,pt b1] w λe w'=>e=.returned (.agg #[.int .i64 v0,.int .u64 v1,.pointer v2,.pointer v3])/\aa ae w w':=by have en:∀args w,(callFunc 206 args).run prog w=.ok (.enter 206 args) w:=enters_of func206 (by kernel_rfl) rfl;have V0:=V3.of w d0 d1 d2 d3 s0 s1 s2 s3;have c0:=ai (hb.ag V0.m.o id);clear hb;have HF:=hf.to V0.m.o;clear hf;go_enter func274,ntmps274;go_upto_region 1 with fail;generalize((w.alloc (.cells #[d0,d1,d2,d3] 130)).alloc (.cells #[s0,s1,s2,s3] 130)).alloc (.cells #[.int .i64 0,.int .u64 0,.pointer none,.pointer none] 130)=W3 at *;obtain⟨x0,x1,x2,x3,_⟩:=V0.d.o.four;go_wp2_with fail;refine(um HF ax).mono ?_;rintro e wo ⟨rfl,MO⟩;have V:=V0.ag MO.o;have HM:=V.m;have c1:=ai (c0.o.ag MO.o id);clear x0 x1 x2 x3 HF MO V0 c0;have HI:=hi.to HM.o;obtain⟨x0,x1,x2,x3,_⟩:=V.d.o.four;obtain⟨y0,y1,y2,y3,_⟩:=V.s.o.four;have q0:=c1.o.cell 0;go_wp2_with fail;refine(um HI ax).mono ?_;rintro e u1 ⟨rfl,M1⟩;clear q0;have HB:=ai (V.b.o.ag M1.o id);clear x0 x1 x2 x3 y0 y1 y2 y3;obtain⟨z0,z1,z2,z3,zf⟩:=HB.o.four;go_wp2_with fail;refine bodyPost_ret (results_cell_row results274 _ _ (w.heap.size+1+1) 130 _ (0,0) _ rfl ((((HB.o.set 0 _).set 1 _).set 2 _).set 3 _) underlying130 rfl (by kernel_rfl)) rfl ⟨rfl,?_⟩;exact Mv (HM.o.trans M1.o) (by omega)
theorem aaV(w:tW)(d0 d1 d2 d3 s0 s1 s2 s3:Value)(b b1 b2:Nat)(hb:ak w b1 #[.func (.func 206) #[] #[pt b2]] 208)(nd:Value)(t:Nat)(hf:QA w 275 #[.agg #[d0,d1,d2,d3]] (.returned (.tuple #[nd,.bool false])))(hi:QA w 206 #[.agg #[d0,d1,d2,d3],.agg #[s0,s1,s2,s3],pt b2] (aX t)):Calls prog 274 #[.agg #[d0,d1,d2,d3],.agg #[s0,s1,s2,s3],pt b,pt b1] w λe w'=>e=aX t/\aa ae w w':=by have en:∀args w,(callFunc 206 args).run prog w=.ok (.enter 206 args) w:=enters_of func206 (by kernel_rfl) rfl;have V0:=V3.of w d0 d1 d2 d3 s0 s1 s2 s3;have c0:=ai (hb.ag V0.m.o id);clear hb;have HF:=hf.to V0.m.o;clear hf;go_enter func274,ntmps274;go_upto_region 1 with fail;generalize((w.alloc (.cells #[d0,d1,d2,d3] 130)).alloc (.cells #[s0,s1,s2,s3] 130)).alloc (.cells #[.int .i64 0,.int .u64 0,.pointer none,.pointer none] 130)=W3 at *;obtain⟨x0,x1,x2,x3,_⟩:=V0.d.o.four;go_wp2_with fail;refine(um HF ax).mono ?_;rintro e wo ⟨rfl,MO⟩;have V:=V0.ag MO.o;have HM:=V.m;have c1:=ai (c0.o.ag MO.o id);clear x0 x1 x2 x3 HF MO V0 c0;have HI:=hi.to HM.o;obtain⟨x0,x1,x2,x3,_⟩:=V.d.o.four;obtain⟨y0,y1,y2,y3,_⟩:=V.s.o.four;have q0:=c1.o.cell 0;go_wp2_with fail;refine(um HI ax).mono ?_;rintro e u1 ⟨rfl,M1⟩;exact⟨rfl,rfl,HM.o.trans M1.o⟩
theorem Mw{w:tW}{rb mb:List Nat}{d:MV}{q:Bool}(h:decide (d.so=2)=q):QA w 275 #[.agg (d.cells rb mb).toArray] (.returned (.tuple #[.int .u64 d.bits,.bool q])):=.all λw'=>h ▸ UO w' rb mb d
theorem UU(w:tW)(rb mb:List Nat)(d s:MV)(hd:d.so=2)(hs:s.so=0)(b b1:Nat)(fk:FuncId)(hb:ak w b #[nQ fk] 282)(R:Nat)(en:pE fk)(hof:∀w',Calls prog fk #[.int .u64 d.bits,.int .u64 s.bits,.int .u64 64] w' λe w''=>e=.returned (.int .u64 R)/\w''=w'):Calls prog 274 #[.agg (d.cells rb mb).toArray,.agg (s.cells rb mb).toArray,pt b,pt b1] w λe w'=>e=.returned (.agg (({d with bits:=R}:MV).cells rb mb).toArray)/\aa ae w w' :=
 acE w _ _ _ _ _ _ _ _ b fk hb b1 _ _ _ _ _ _ _ en (Mw (decide_eq_true hd)) (.all λw'=>jQ w' rb mb s hs) (.same hof) (.all λw'=>Yn w' rb mb d R)
theorem UW(w:tW)(rb mb:List Nat)(d s:MV)(hd:d.so=2)(hs:s.so≠0)(b b1:Nat)(fk:FuncId)(hb:ak w b #[nQ fk] 282):Calls prog 274 #[.agg (d.cells rb mb).toArray,.agg (s.cells rb mb).toArray,pt b,pt b1] w λe w'=>e=aX 2/\aa ae w w' :=
 acF w _ _ _ _ _ _ _ _ b fk hb b1 _ 2 (Mw (decide_eq_true hd)) (.all λw'=>oP w' rb mb s hs)
theorem QG(w:tW)(rb mb:List Nat)(d s:MV)(hd:d.so≠2)(b b1 b2:Nat)(hb:ak w b1 #[.func (.func 206) #[] #[pt b2]] 208)(V:MV)(hin:∀w',aa ae w w'->Calls prog 206 #[.agg (d.cells rb mb).toArray,.agg (s.cells rb mb).toArray,pt b2] w' λe w''=>e=.returned (.agg (V.cells rb mb).toArray)/\aa ae w' w''):Calls prog 274 #[.agg (d.cells rb mb).toArray,.agg (s.cells rb mb).toArray,pt b,pt b1] w λe w'=>e=.returned (.agg (V.cells rb mb).toArray)/\aa ae w w' :=
 Yv w _ _ _ _ _ _ _ _ b b1 b2 hb _ _ _ _ _ (Mw (decide_eq_false hd)) hin
theorem UX(w:tW)(rb mb:List Nat)(d s:MV)(hd:d.so≠2)(b b1 b2:Nat)(hb:ak w b1 #[.func (.func 206) #[] #[pt b2]] 208)(hin:∀w',aa ae w w'->Calls prog 206 #[.agg (d.cells rb mb).toArray,.agg (s.cells rb mb).toArray,pt b2] w' λe w''=>e=aX 2/\aa ae w' w''):Calls prog 274 #[.agg (d.cells rb mb).toArray,.agg (s.cells rb mb).toArray,pt b,pt b1] w λe w'=>e=aX 2/\aa ae w w' :=
 aaV w _ _ _ _ _ _ _ _ b b1 b2 hb _ 2 (Mw (decide_eq_false hd)) hin
theorem aok(w:tW)(d0 d1 d2 d3 s0 s1 s2 s3 ns ls:Value)(v0 v1:Int)(v2 v3:Option Addr)(hs:QA w 207 #[.agg #[s0,s1,s2,s3]] (.returned ns))(hl:QA w 209 #[ns] (.returned ls))(hv:QA w 56 #[ls] (.returned (.agg #[.int .i64 v0,.int .u64 v1,.pointer v2,.pointer v3]))):Calls prog 186 #[.agg #[d0,d1,d2,d3],.agg #[s0,s1,s2,s3]] w λe w'=>e=.returned (.agg #[.int .i64 v0,.int .u64 v1,.pointer v2,.pointer v3])/\aa ae w w':=by have V0:=V3.of w d0 d1 d2 d3 s0 s1 s2 s3;have HS:=hs.to V0.m.o;have HL:=hl.to V0.m.o;have HV:=hv.to V0.m.o;clear hs hl hv;go_enter func186,ntmps186;go_upto_region 1 with fail;generalize((w.alloc (.cells #[d0,d1,d2,d3] 130)).alloc (.cells #[s0,s1,s2,s3] 130)).alloc (.cells #[.int .i64 0,.int .u64 0,.pointer none,.pointer none] 130)=W3 at *;obtain⟨y0,y1,y2,y3,_⟩:=V0.s.o.four;go_wp2_with fail;refine(um HS ax).mono ?_;rintro e w1 ⟨rfl,M1⟩;clear y0 y1 y2 y3;go_wp2_with fail;refine(um HL M1).mono ?_;rintro e w2 ⟨rfl,M2⟩;go_wp2_with fail;refine(um HV M2).mono ?_;rintro e w3 ⟨rfl,M3⟩;have HB:=ai (V0.b.o.ag M3.o id);obtain⟨z0,z1,z2,z3,zf⟩:=HB.o.four;go_wp2_with fail;refine bodyPost_ret (results_cell_row results186 _ _ (w.heap.size+1+1) 130 _ (0,0) _ rfl ((((HB.o.set 0 _).set 1 _).set 2 _).set 3 _) underlying130 rfl (by kernel_rfl)) rfl ⟨rfl,?_⟩;exact Mv (V0.m.o.trans M3.o) (by omega)
theorem aol(w:tW)(d0 d1 d2 d3 s0 s1 s2 s3:Value)(t:Nat)(hs:QA w 207 #[.agg #[s0,s1,s2,s3]] (aX t)):Calls prog 186 #[.agg #[d0,d1,d2,d3],.agg #[s0,s1,s2,s3]] w λe w'=>e=aX t/\aa ae w w':=by have V0:=V3.of w d0 d1 d2 d3 s0 s1 s2 s3;have HS:=hs.to V0.m.o;clear hs;go_enter func186,ntmps186;go_upto_region 1 with fail;generalize((w.alloc (.cells #[d0,d1,d2,d3] 130)).alloc (.cells #[s0,s1,s2,s3] 130)).alloc (.cells #[.int .i64 0,.int .u64 0,.pointer none,.pointer none] 130)=W3 at *;obtain⟨y0,y1,y2,y3,_⟩:=V0.s.o.four;go_wp2_with fail;refine(um HS ax).mono ?_;rintro e w1 ⟨rfl,M1⟩;exact⟨rfl,rfl,V0.m.o.trans M1.o⟩
theorem anj(w:tW)(d0 d1 d2 d3 s0 s1 s2 s3:Value)(b:Nat)(fk:FuncId)(c:tAV)(hb:ak w b #[.func (.func fk) #[] c] 287)(nd ns:Value)(R:Bool)(en:pE fk)(hd:QA w 207 #[.agg #[d0,d1,d2,d3]] (.returned nd))(hs:QA w 207 #[.agg #[s0,s1,s2,s3]] (.returned ns))(ho:QA w fk (#[nd,ns]++c) (.returned (.bool R))):Calls prog 283 #[.agg #[d0,d1,d2,d3],.agg #[s0,s1,s2,s3],pt b] w λe w'=>e=.returned (.bool R)/\aa ae w w':=by
 unfold pE at en;obtain⟨m3,b1,b2⟩:=zU w #[d0,d1,d2,d3] #[s0,s1,s2,s3] 130 130;have HM:=ai m3;have B1:=ai b1;have B2:=ai b2;have c0:=ai (hb.ag m3 id);have HD:=hd.to m3;have HS:=hs.to m3;have HO:=ho.to m3;clear hb m3 b1 b2 hd hs ho;go_enter func283,ntmps283;go_upto_region 1 with fail;generalize(w.alloc (.cells #[d0,d1,d2,d3] 130)).alloc (.cells #[s0,s1,s2,s3] 130)=W3 at *;obtain⟨x0,x1,x2,x3⟩:=B1.o.four';obtain⟨y0,y1,y2,y3⟩:=B2.o.four';have q0:=c0.o.one';refine gy ae 6 [2,4,5] (by kernel_rfl) (by kernel_rfl) (λ_ M0=>?_);simp only[ab,List.take_zero,al,List.drop_zero]
 iterate 2 (refine aA rfl rfl rfl ?_;intro K hK;go_big_quiet_op;go_big_quiet_on)
 refine aF rfl rfl ?_;intro K hK;go_big_op;refine(um HD M0).mono ?_;rintro e u1 ⟨rfl,M1⟩;refine hK _ _ rfl ⟨⟨_,M1.o⟩,rfl⟩ ?_;clear hK K
 iterate 1 (refine aA rfl rfl rfl ?_;intro K hK;go_big_quiet_op;go_big_quiet_on)
 refine aF rfl rfl ?_;intro K hK;go_big_op;refine(um HS M1).mono ?_;rintro e u2 ⟨rfl,M2⟩;refine hK _ _ rfl ⟨⟨_,M2.o⟩,rfl⟩ ?_;clear hK K;refine aF rfl rfl ?_;intro K hK;go_big_op;refine(um HO M2).mono ?_;rintro e u3 ⟨rfl,M3⟩;refine hK _ _ rfl ⟨⟨_,M3.o⟩,rfl⟩ ?_;clear hK K;refine bX ?_;clear x0 x1 x2 x3 y0 y1 y2 y3 q0;go_wp2_with fail;go_ret;exact⟨rfl,HM.o.trans M3.o⟩
theorem ank(w:tW)(d0 d1 d2 d3 s0 s1 s2 s3:Value)(b:Nat)(fk:FuncId)(c:tAV)(hb:ak w b #[.func (.func fk) #[] c] 287)(t:Nat)(hd:QA w 207 #[.agg #[d0,d1,d2,d3]] (aX t)):Calls prog 283 #[.agg #[d0,d1,d2,d3],.agg #[s0,s1,s2,s3],pt b] w λe w'=>e=aX t/\aa ae w w':=by
 obtain⟨m3,b1,b2⟩:=zU w #[d0,d1,d2,d3] #[s0,s1,s2,s3] 130 130;have HM:=ai m3;have B1:=ai b1;have B2:=ai b2;have c0:=ai (hb.ag m3 id);have HD:=hd.to m3;clear hb m3 b1 b2 hd;go_enter func283,ntmps283;go_upto_region 1 with fail;generalize(w.alloc (.cells #[d0,d1,d2,d3] 130)).alloc (.cells #[s0,s1,s2,s3] 130)=W3 at *;obtain⟨x0,x1,x2,x3⟩:=B1.o.four';obtain⟨y0,y1,y2,y3⟩:=B2.o.four';have q0:=c0.o.one';refine iO ae 2 [2] [0,1,3] (λc w'=>.panicked c=aX t/\aa ae w w') (by kernel_rfl) (by kernel_rfl) (λc a' w' hd' hm=>⟨hd',hm⟩) (λ_ M0=>?_)
 iterate 3 (refine je rfl rfl rfl rfl ?_;intro K hK;(conv=>(arg 2;whnf));go_big_quiet_op;go_big_quiet_on)
 refine mixL_pan rfl rfl rfl ?_;intro QQ Yp hLO
 conv=>(arg 2;whnf)
 go_big_op;refine(um HD M0).mono ?_;rintro e up ⟨rfl,MP⟩;exact Yp _ _ ⟨rfl,HM.o.trans MP.o⟩
theorem anl(w:tW)(d0 d1 d2 d3 s0 s1 s2 s3:Value)(b:Nat)(fk:FuncId)(c:tAV)(hb:ak w b #[.func (.func fk) #[] c] 287)(nd:Value)(t:Nat)(hd:QA w 207 #[.agg #[d0,d1,d2,d3]] (.returned nd))(hs:QA w 207 #[.agg #[s0,s1,s2,s3]] (aX t)):Calls prog 283 #[.agg #[d0,d1,d2,d3],.agg #[s0,s1,s2,s3],pt b] w λe w'=>e=aX t/\aa ae w w':=by
 obtain⟨m3,b1,b2⟩:=zU w #[d0,d1,d2,d3] #[s0,s1,s2,s3] 130 130;have HM:=ai m3;have B1:=ai b1;have B2:=ai b2;have c0:=ai (hb.ag m3 id);have HD:=hd.to m3;have HS:=hs.to m3;clear hb m3 b1 b2 hd hs;go_enter func283,ntmps283;go_upto_region 1 with fail;generalize(w.alloc (.cells #[d0,d1,d2,d3] 130)).alloc (.cells #[s0,s1,s2,s3] 130)=W3 at *;obtain⟨x0,x1,x2,x3⟩:=B1.o.four';obtain⟨y0,y1,y2,y3⟩:=B2.o.four';have q0:=c0.o.one';refine iO ae 4 [2,4] [0,1,2,3] (λc w'=>.panicked c=aX t/\aa ae w w') (by kernel_rfl) (by kernel_rfl) (λc a' w' hd' hm=>⟨hd',hm⟩) (λ_ M0=>?_)
 iterate 2 (refine je rfl rfl rfl rfl ?_;intro K hK;(conv=>(arg 2;whnf));go_big_quiet_op;go_big_quiet_on)
 refine wF rfl rfl rfl ?_;intro K hK
 conv=>(arg 2;whnf)
 go_big_op;refine(um HD M0).mono ?_;rintro e u1 ⟨rfl,M1⟩;refine hK _ _ rfl ⟨⟨_,M1.o⟩,rfl⟩ ?_;clear hK K
 iterate 1 (refine je rfl rfl rfl rfl ?_;intro K hK;(conv=>(arg 2;whnf));go_big_quiet_op;go_big_quiet_on)
 refine mixL_pan rfl rfl rfl ?_;intro QQ Yp hLO
 conv=>(arg 2;whnf)
 go_big_op;refine(um HS M1).mono ?_;rintro e up ⟨rfl,MP⟩;exact Yp _ _ ⟨rfl,HM.o.trans MP.o⟩
theorem amV(w:tW)(a b:Nat)(bb:Nat)(k:Nat)(hb:ak w bb #[nQ (csF k)] 289):Calls prog 284 #[.int .u64 a,.int .u64 b,pt bb] w λe w'=>e=.returned (.bool (csP k (s64 a) (s64 b)))/\aa ae w w':=by have HC:af (∀w',Calls prog (csF k) #[.int .i64 (RowKit.wrap64 (a:Int)),.int .i64 (RowKit.wrap64 (b:Int))] w' λe w''=>e=.returned (.bool (csP k (s64 a) (s64 b)))/\w''=w'):=λw'=>anA w' k _ _;have en:=anC k;unfold pE at en;generalize csP k (s64 a) (s64 b)=R at *;generalize csF k=fk at *;have q0:=hb.cell 0;go_enter func284,ntmps284;go_wp2_with fail;refine(HC.o _).mono ?_;rintro e w1 ⟨rfl,rfl⟩;go_wp2_with fail;go_ret;exact⟨rfl,ax⟩
theorem QH:(prog.info? 122).map (λi=>(i.size))=some 1:=by kernel_rfl
theorem UY:(prog.info? 85).map (λi=>(i.size))=some 5:=by kernel_rfl
theorem UZ(w:tW)(t te:TypeId)(j:TypeInfo)(hp:prog.underlying t=some (.pointer te))(hte:prog.info? te=some j)(hsz:j.size≠0)(f:Nat->Nat)(p q:Option Nat)(hb:∀x,p=some x\/q=some x->∃cs u,ak w (f x) cs u)(hi:∀x y,p=some x->q=some y->f x=f y->x=y)(d:Nat):(Op.equalIn (d+1) t (.pointer (p.map λx=>⟨f x,0,none⟩)) (.pointer (q.map λx=>⟨f x,0,none⟩))).run prog w=.ok (decide (p=q)) w:=by
 cases p with
 |none =>
  cases q with
  |none=>simp[Op.equalIn,run_underlying hp]
  |some y=>simp[Op.equalIn,run_underlying hp]
 |some x =>
  cases q with
  |none=>simp[Op.equalIn,run_underlying hp]
  |some y =>
   by_cases e:x=y
   ·subst e;simp[Op.equalIn,run_underlying hp,sizeOf,typeInfo,hte,run_sameAddr_same]
   ·have hne:(⟨f x,0,none⟩:Addr)≠⟨f y,0,none⟩:=λh=>e (hi x y rfl rfl (by injection h));obtain⟨c1,u1,h1⟩:=hb x (.inl rfl);obtain⟨c2,u2,h2⟩:=hb y (.inr rfl);simp[Op.equalIn,run_underlying hp,sizeOf,typeInfo,hte,hsz,run_sameAddr_other w hne h1 h2,e]
theorem U0(w:tW)(a b c d:Value):(part 128 #[a,b,c,d] 0).run prog w=.ok a w:=by unfold part;simp[isAgg128,Result.andThen]
theorem aaW(w:tW)(a b c d:Value):(part 22 #[a,b,c,d] 1).run prog w=.ok b w:=by unfold part;simp[isAgg22,Result.andThen]
theorem aaX(w:tW)(a b c d:Value):(part 120 #[a,b,c,d] 2).run prog w=.ok c w:=by unfold part;simp[isAgg120,Result.andThen]
theorem aaY(w:tW)(a b c d:Value):(part 82 #[a,b,c,d] 3).run prog w=.ok d w:=by unfold part;simp[isAgg82,Result.andThen]
theorem zC{P:Program}{ops:Array Oper}{rest:List Oper}{o:Oper}{a:Act}{w:tW}{Q:Exit->Act->tW->Prop}(hgd:o.guard=none)(v:Value)(hr:(execOp a.eval o).run P w=.ok (.value v) w)(h:wpList P ops Q rest (a.put o.dst v) w):wpList P ops Q (o::rest) a w :=
 wpList_plain hgd λK hK=>by unfold Oper.wp;rw[hr];exact hK _ _ h
theorem aeA(a b:Nat):((a:Int)==(b:Int))=decide (a=b):=by
 by_cases h:a=b
 ·subst h;simp
 ·have:¬(a:Int)=b:=by omega
  simp[h,this]
structure IM(w:tW)(rb mb:List Nat)(d s:MV):Prop where
 rg:∀x,d.aD=some x\/s.aD=some x->∃cs u,ak w (rb.getD x 0) cs u
 ri:∀x y,d.aD=some x->s.aD=some y->rb.getD x 0=rb.getD y 0->x=y
 mp:∀x,d.tab=some x\/s.tab=some x->∃cs u,ak w (mb.getD x 0) cs u
 mi:∀x y,d.tab=some x->s.tab=some y->mb.getD x 0=mb.getD y 0->x=y
theorem IM.ag{w w':tW}{rb mb:List Nat}{d s:MV}(h:IM w rb mb d s)(m:aa ae w w'):IM w' rb mb d s :=
 ⟨λx hx=>by obtain⟨cs,u,hb⟩:=h.rg x hx;exact⟨cs,u,hb.ag m id⟩,h.ri,λx hx=>by obtain⟨cs,u,hb⟩:=h.mp x hx;exact⟨cs,u,hb.ag m id⟩,h.mi⟩
theorem U1(w:tW)(rb mb:List Nat)(d s:MV)(h:IM w rb mb d s):(Op.equalIn 10000 130 (.agg (d.cells rb mb).toArray) (.agg (s.cells rb mb).toArray)).run prog w=.ok (d.Rt s) w:=by
 unfold MV.cells;rw[run_equalIn_agg w 9999 130 _ _ (by kernel_rfl) (by kernel_rfl)]
 obtain⟨jr,hjr,hjs⟩:∃j,prog.info? 122=some j/\j.size≠0:=by
  have:=QH;cases h:prog.info? 122 with
  |none=>rw[h]at this;cases this
  |some j=>rw[h]at this;exact⟨j,rfl,λe=>by simp[e]at this⟩
 obtain⟨jm,hjm,hms⟩:∃j,prog.info? 85=some j/\j.size≠0:=by
  have:=UY;cases h:prog.info? 85 with
  |none=>rw[h]at this;cases this
  |some j=>rw[h]at this;exact⟨j,rfl,λe=>by simp[e]at this⟩
 have hf : (prog.fieldsOf 130).toList.map (fun f => (f.name, f.type, f.offset)) = [("sort", 128, 0), ("bits", 22, 1), ("region", 120, 2), ("table", 82, 3)] := by kernel_rfl
 generalize(prog.fieldsOf 130).toList=l at hf;rcases l with _ |⟨f1,_ |⟨f2,_ |⟨f3,_ |⟨f4,_ |⟨f5,l⟩⟩⟩⟩⟩<;>simp only[List.map_cons,List.map_nil,List.cons.injEq,Prod.mk.injEq,and_true,reduceCtorEq,and_false]at hf
 obtain⟨⟨n1,t1,o1⟩,⟨n2,t2,o2⟩,⟨n3,t3,o3⟩,⟨n4,t4,o4⟩⟩:=hf;have d1 : ("sort" ≠ "_") = True := by decide
 have d2' : ("bits" ≠ "_") = True := by decide
 have d3' : ("region" ≠ "_") = True := by decide
 have d4' : ("table" ≠ "_") = True := by decide
 have e1:=run_equalIn_int (P:=prog) w 9998 128 .i64 .i64 d.so s.so underlying128;have e2:=run_equalIn_int (P:=prog) w 9998 22 .u64 .u64 d.bits s.bits underlying22;have e3:=UZ w 120 122 jr underlying120 hjr hjs (λx=>rb.getD x 0) d.aD s.aD h.rg h.ri 9998;have e4:=UZ w 82 85 jm underlying82 hjm hms (λx=>mb.getD x 0) d.tab s.tab h.mp h.mi 9998;rw[aeA]at e1 e2;unfold MV.Rt;generalize d.aD.map (λx=>(⟨rb.getD x 0,0,none⟩:Addr))=d2 at *;generalize s.aD.map (λx=>(⟨rb.getD x 0,0,none⟩:Addr))=s2 at *;generalize d.tab.map (λx=>(⟨mb.getD x 0,0,none⟩:Addr))=d3 at *;generalize s.tab.map (λx=>(⟨mb.getD x 0,0,none⟩:Addr))=s3 at *;generalize decide (d.so=s.so)=q1 at *;generalize decide (d.bits=s.bits)=q2 at *;generalize decide (d.aD=s.aD)=q3 at *;generalize decide (d.tab=s.tab)=q4 at *;simp only[Op.eqFields,n1,n2,n3,n4,t1,t2,t3,t4,o1,o2,o3,o4,d1,d2',d3',d4',if_true,Sem.run_bind,Result.andThen_ok,U0,e1];cases q1<;>cases q2<;>cases q3<;>cases q4<;>simp[e1,e2,e3,e4,U0,aaW,aaX,aaY,Result.andThen]
theorem U2(w:tW)(rb mb:List Nat)(d s:MV)(h:IM w rb mb d s):Calls prog 217 #[.agg (d.cells rb mb).toArray,.agg (s.cells rb mb).toArray] w λe w'=>e=.returned (.bool (d.Rt s))/\aa ae w w':=by
 have HE:af (∀w',aa ae w w'->(binOp .eql 130 (.agg #[.int .i64 d.so,.int .u64 d.bits,.pointer (d.aD.map λr=>⟨rb.getD r 0,0,none⟩),.pointer (d.tab.map λt=>⟨mb.getD t 0,0,none⟩)]) (.agg #[.int .i64 s.so,.int .u64 s.bits,.pointer (s.aD.map λr=>⟨rb.getD r 0,0,none⟩),.pointer (s.tab.map λt=>⟨mb.getD t 0,0,none⟩)])).run prog w'=.ok (.bool (d.Rt s)) w'):=λw' m=>by have:=U1 w' rb mb d s (h.ag m);unfold MV.cells at this;rw[run_eql_struct,this];rfl
 show Calls _ _ #[.agg #[.int .i64 d.so,.int .u64 d.bits,.pointer (d.aD.map λr=>⟨rb.getD r 0,0,none⟩),.pointer (d.tab.map λt=>⟨mb.getD t 0,0,none⟩)],.agg #[.int .i64 s.so,.int .u64 s.bits,.pointer (s.aD.map λr=>⟨rb.getD r 0,0,none⟩),.pointer (s.tab.map λt=>⟨mb.getD t 0,0,none⟩)]] _ λe w'=>e=.returned (.bool (d.Rt s))/\_
 clear h;generalize d.Rt s=R at *;generalize d.aD.map (λr=>(⟨rb.getD r 0,0,none⟩:Addr))=d2 at *;generalize d.tab.map (λt=>(⟨mb.getD t 0,0,none⟩:Addr))=d3 at *;generalize d.so=d0 at *;generalize d.bits=d1 at *;generalize s.aD.map (λr=>(⟨rb.getD r 0,0,none⟩:Addr))=s2 at *;generalize s.tab.map (λt=>(⟨mb.getD t 0,0,none⟩:Addr))=s3 at *;generalize s.so=s0 at *;generalize s.bits=s1 at *;obtain⟨m3,b1,b2⟩:=zU w #[.int .i64 d0,.int .u64 d1,.pointer d2,.pointer d3] #[.int .i64 s0,.int .u64 s1,.pointer s2,.pointer s3] 130 130;have dw:=ai m3;have B1:=ai b1;have B2:=ai b2;clear m3 b1 b2;go_enter func217,ntmps217;go_upto_region 1 with fail;generalize(w.alloc (.cells #[.int .i64 d0,.int .u64 d1,.pointer d2,.pointer d3] 130)).alloc (.cells #[.int .i64 s0,.int .u64 s1,.pointer s2,.pointer s3] 130)=W3 at *;have x0:=B1.o.cell 0;have x1:=B1.o.cell 1;have x2:=B1.o.cell 2;have x3:=B1.o.cell 3;have y0:=B2.o.cell 0;have y1:=B2.o.cell 1;have y2:=B2.o.cell 2;have y3:=B2.o.cell 3;have Km:=ai (HE.o W3 dw.o);clear HE;refine wp_region_lit ?_
 iterate 6 go_step
 refine zC rfl (.bool R) (by simp[execOp,Act.eval,eqGuard,Km.o]) ?_;simp only[Act.put,sA9,sB9,sC9];go_wp2_with fail;go_ret;exact⟨rfl,dw.o⟩
theorem U3(w:tW)(rb mb:List Nat)(d s:MV)(h:IM w rb mb d s):Calls prog 218 #[.agg (d.cells rb mb).toArray,.agg (s.cells rb mb).toArray] w λe w'=>e=.returned (.bool ((!d.Rt s)))/\aa ae w w':=by
 have HE:af (∀w',aa ae w w'->(binOp .neq 130 (.agg #[.int .i64 d.so,.int .u64 d.bits,.pointer (d.aD.map λr=>⟨rb.getD r 0,0,none⟩),.pointer (d.tab.map λt=>⟨mb.getD t 0,0,none⟩)]) (.agg #[.int .i64 s.so,.int .u64 s.bits,.pointer (s.aD.map λr=>⟨rb.getD r 0,0,none⟩),.pointer (s.tab.map λt=>⟨mb.getD t 0,0,none⟩)])).run prog w'=.ok (.bool ((!d.Rt s))) w'):=λw' m=>by have:=U1 w' rb mb d s (h.ag m);unfold MV.cells at this;rw[run_neq_struct,this];rfl
 show Calls _ _ #[.agg #[.int .i64 d.so,.int .u64 d.bits,.pointer (d.aD.map λr=>⟨rb.getD r 0,0,none⟩),.pointer (d.tab.map λt=>⟨mb.getD t 0,0,none⟩)],.agg #[.int .i64 s.so,.int .u64 s.bits,.pointer (s.aD.map λr=>⟨rb.getD r 0,0,none⟩),.pointer (s.tab.map λt=>⟨mb.getD t 0,0,none⟩)]] _ λe w'=>e=.returned (.bool ((!d.Rt s)))/\_
 clear h;generalize d.Rt s=R at *;generalize d.aD.map (λr=>(⟨rb.getD r 0,0,none⟩:Addr))=d2 at *;generalize d.tab.map (λt=>(⟨mb.getD t 0,0,none⟩:Addr))=d3 at *;generalize d.so=d0 at *;generalize d.bits=d1 at *;generalize s.aD.map (λr=>(⟨rb.getD r 0,0,none⟩:Addr))=s2 at *;generalize s.tab.map (λt=>(⟨mb.getD t 0,0,none⟩:Addr))=s3 at *;generalize s.so=s0 at *;generalize s.bits=s1 at *;obtain⟨m3,b1,b2⟩:=zU w #[.int .i64 d0,.int .u64 d1,.pointer d2,.pointer d3] #[.int .i64 s0,.int .u64 s1,.pointer s2,.pointer s3] 130 130;have dw:=ai m3;have B1:=ai b1;have B2:=ai b2;clear m3 b1 b2;go_enter func218,ntmps218;go_upto_region 1 with fail;generalize(w.alloc (.cells #[.int .i64 d0,.int .u64 d1,.pointer d2,.pointer d3] 130)).alloc (.cells #[.int .i64 s0,.int .u64 s1,.pointer s2,.pointer s3] 130)=W3 at *;have x0:=B1.o.cell 0;have x1:=B1.o.cell 1;have x2:=B1.o.cell 2;have x3:=B1.o.cell 3;have y0:=B2.o.cell 0;have y1:=B2.o.cell 1;have y2:=B2.o.cell 2;have y3:=B2.o.cell 3;have Km:=ai (HE.o W3 dw.o);clear HE;refine wp_region_lit ?_
 iterate 6 go_step
 refine zC rfl (.bool (!R)) (by simp[execOp,Act.eval,eqGuard,Km.o]) ?_;simp only[Act.put,sA9,sB9,sC9];go_wp2_with fail;go_ret;exact⟨rfl,dw.o⟩
def rkE(rb mb:List Nat)(v:Option MV):Ending:=match v with
 |none=>aX 2
 |some v=>.returned (.agg (v.cells rb mb).toArray)
def soE(v:Option Bool):Ending:=match v with
 |none=>aX 2
 |some v=>.returned (.bool v)
def Mx(w:tW)(rb mb:List Nat)(f:Fn)(c:tAV)(m k:Nat)(d s:MV):Prop:=∃fk,f=.func fk/\pE fk/\∀w',aa ae w w'->Calls prog fk (#[.agg (d.cells rb mb).toArray,.agg (s.cells rb mb).toArray]++c) w' λe w''=>e=rkE rb mb (rkP m k d s)/\aa ae w' w''
def MB(w:tW)(rb mb:List Nat)(f:Fn)(c:tAV)(m k:Nat)(d s:MV):Prop:=∃fk,f=.func fk/\pE fk/\∀w',aa ae w w'->Calls prog fk (#[.agg (d.cells rb mb).toArray,.agg (s.cells rb mb).toArray]++c) w' λe w''=>e=soE (ZT m k d s)/\aa ae w' w''
theorem amo(w:tW)(rb mb:List Nat)(f:Fn)(c:tAV)(m k:Nat)(h:fV w f c m k)(d s:MV)(hd:d.bits<18446744073709551616)(hs:s.bits<18446744073709551616):∃fk,f=.func fk/\pE fk/\∀w',aa ae w w'->Calls prog fk (#[.agg (d.cells rb mb).toArray,.agg (s.cells rb mb).toArray]++c) w' λe w''=>e=rkE rb mb (rkP m k d s)/\aa ae w' w'':=by
 have h64:∀(b:Nat) (w1:tW),ak w1 b #[nQ (FQ k)] 282->Calls prog 206 #[.agg (d.cells rb mb).toArray,.agg (s.cells rb mb).toArray,pt b] w1 λe w''=>e=rkE rb mb (rkP 2 k d s)/\aa ae w1 w'':=by
  intro b w1 hb;by_cases h1:d.so=0
  ·by_cases h2:s.so=0
   ·rw[show rkP 2 k d s=some (kI (ofP k d.bits s.bits 64))from iP9 ⟨h1,h2⟩];exact Yq w1 rb mb d s h1 h2 b _ hb _ (agE k) (λw'=>agD w' k _ _ 64 hd hs (.inl rfl))
   ·rw[show rkP 2 k d s=none from iN9 (λh=>h2 h.2)];exact Yt w1 rb mb d s h1 h2 b _ hb
  ·rw[show rkP 2 k d s=none from iN9 (λh=>h1 h.1)];exact Yr w1 rb mb d s h1 b _ hb
 unfold fV at h;split at h
 ·obtain⟨rfl,rfl⟩:=h;exact⟨_,rfl,enters_of func185 (by kernel_rfl) rfl,λw' _=>Yu w' rb mb d s⟩
 ·obtain⟨rfl,rfl⟩:=h;refine⟨_,rfl,enters_of func186 (by kernel_rfl) rfl,λw' _=>?_⟩;by_cases h2:s.so=0
  ·rw[show rkP 1 k d s=some (kI (QB s.bits))from iP9 h2];exact aok w' _ _ _ _ _ _ _ _ _ _ _ _ _ _ (.all λw'=>jQ w' rb mb s h2) (.same λw'=>agk w' _ hs) (.all λw'=>xN w' rb mb (QB s.bits))
  ·rw[show rkP 1 k d s=none from iN9 h2];exact aol w' _ _ _ _ _ _ _ _ 2 (.all λw'=>oP w' rb mb s h2)
 ·obtain⟨rfl,b,rfl,hb⟩:=h;exact⟨_,rfl,enters_of func206 (by kernel_rfl) rfl,λw' mm=>h64 b w' (hb.ag mm id)⟩
 ·obtain⟨rfl,b,rfl,hb⟩:=h;refine⟨_,rfl,enters_of func208 (by kernel_rfl) rfl,λw' mm=>?_⟩;have hb':=hb.ag mm id;by_cases h1:d.so=0
  ·by_cases h2:s.so=0
   ·rw[show rkP 3 k d s=some (kI (QB (ofP k (QB d.bits) (QB s.bits) 32)))from iP9 ⟨h1,h2⟩];exact ahh w' rb mb d s h1 h2 b _ hb' _ (agE k) (λw'=>agD w' k _ _ 32 (Mu _) (Mu _) (.inr rfl)) hd hs (Lc k _ _ _ (Mu _) (Mu _))
   ·rw[show rkP 3 k d s=none from iN9 (λh=>h2 h.2)];exact ahj w' rb mb d s h1 h2 b _ hb' hd
  ·rw[show rkP 3 k d s=none from iN9 (λh=>h1 h.1)];exact ahi w' rb mb d s h1 b _ hb'
 ·rename_i m4 n0 n1 n2 n3
  obtain⟨rfl,b,b1,b2,rfl,hb,hb1,hb2⟩:=h;refine⟨_,rfl,enters_of func274 (by kernel_rfl) rfl,λw' mm=>?_⟩
  have e4:rkP m k d s=rkP 4 k d s:=by
   unfold rkP;split
   ·exact absurd rfl n0
   ·exact absurd rfl n1
   ·exact absurd rfl n2
   ·exact absurd rfl n3
   ·rfl
  rw[e4];by_cases h1:d.so=2
  ·by_cases h2:s.so=0
   ·rw[show rkP 4 k d s=some {d with bits:=ofP k d.bits s.bits 64}from(iP9 h1).trans (iP9 h2)];exact UU w' rb mb d s h1 h2 b b1 _ (hb.ag mm id) _ (agE k) (λw'=>agD w' k _ _ 64 hd hs (.inl rfl))
   ·rw[show rkP 4 k d s=none from(iP9 h1).trans (iN9 h2)];exact UW w' rb mb d s h1 h2 b b1 _ (hb.ag mm id)
  ·rw[show rkP 4 k d s=rkP 2 k d s from iN9 h1];cases hr:rkP 2 k d s with
   |none=>exact UX w' rb mb d s h1 b b1 b2 (hb1.ag mm id) (λw2 m2=>by have:=h64 b2 w2 ((hb2.ag mm id).ag m2 id);rw[hr]at this;exact this)
   |some V=>exact QG w' rb mb d s h1 b b1 b2 (hb1.ag mm id) V (λw2 m2=>by have:=h64 b2 w2 ((hb2.ag mm id).ag m2 id);rw[hr]at this;exact this)
theorem nok{w:tW}{rb mb:List Nat}(d:MV)(h:d.so=0):QA w 207 #[.agg (d.cells rb mb).toArray] (.returned (.int .u64 d.bits)):=.all λw'=>jQ w' rb mb d h
theorem nno{w:tW}{rb mb:List Nat}(d:MV)(h:d.so≠0):QA w 207 #[.agg (d.cells rb mb).toArray] (aX 2):=.all λw'=>oP w' rb mb d h
theorem ak9(w:tW)(rb mb:List Nat)(f:Fn)(c:tAV)(m k:Nat)(h:ajp w f c m k)(d s:MV)(hd:d.bits<18446744073709551616)(hs:s.bits<18446744073709551616)(hE:IM w rb mb d s):∃fk,f=.func fk/\pE fk/\∀w',aa ae w w'->Calls prog fk (#[.agg (d.cells rb mb).toArray,.agg (s.cells rb mb).toArray]++c) w' λe w''=>e=soE (ZT m k d s)/\aa ae w' w'':=by
 unfold ajp at h;split at h
 ·obtain⟨rfl,rfl⟩:=h;exact⟨_,rfl,enters_of func217 (by kernel_rfl) rfl,λw' mm=>U2 w' rb mb d s (hE.ag mm)⟩
 ·obtain⟨rfl,rfl⟩:=h;exact⟨_,rfl,enters_of func218 (by kernel_rfl) rfl,λw' mm=>U3 w' rb mb d s (hE.ag mm)⟩
 ·obtain⟨rfl,b,rfl,hb⟩:=h;refine⟨_,rfl,enters_of func283 (by kernel_rfl) rfl,λw' mm=>?_⟩;have hb':=hb.ag mm id;by_cases h1:d.so=0
  ·by_cases h2:s.so=0
   ·rw[show ZT 2 k d s=some (cmP k d.bits s.bits)from iP9 ⟨h1,h2⟩];exact anj w' _ _ _ _ _ _ _ _ b _ _ hb' _ _ _ (anB k) (nok d h1) (nok s h2) (.same λw2=>anz w2 k _ _ hd hs)
   ·rw[show ZT 2 k d s=none from iN9 (λh=>h2 h.2)];exact anl w' _ _ _ _ _ _ _ _ b _ _ hb' _ 2 (nok d h1) (nno s h2)
  ·rw[show ZT 2 k d s=none from iN9 (λh=>h1 h.1)];exact ank w' _ _ _ _ _ _ _ _ b _ _ hb' 2 (nno d h1)
 ·rename_i m3 n0 n1 n2
  obtain⟨rfl,b,b1,rfl,hb,hb1⟩:=h;refine⟨_,rfl,enters_of func283 (by kernel_rfl) rfl,λw' mm=>?_⟩;have hb':=hb.ag mm id
  have e3:ZT m k d s=ZT 3 k d s:=by
   unfold ZT;split
   ·exact absurd rfl n0
   ·exact absurd rfl n1
   ·exact absurd rfl n2
   ·rfl
  rw[e3];by_cases h1:d.so=0
  ·by_cases h2:s.so=0
   ·rw[show ZT 3 k d s=some (csP k (s64 d.bits) (s64 s.bits))from iP9 ⟨h1,h2⟩];exact anj w' _ _ _ _ _ _ _ _ b _ _ hb' _ _ _ (enters_of func284 (by kernel_rfl) rfl) (nok d h1) (nok s h2) (λw2 m2=>amV w2 _ _ b1 k ((hb1.ag mm id).ag m2 id))
   ·rw[show ZT 3 k d s=none from iN9 (λh=>h2 h.2)];exact anl w' _ _ _ _ _ _ _ _ b _ _ hb' _ 2 (nok d h1) (nno s h2)
  ·rw[show ZT 3 k d s=none from iN9 (λh=>h1 h.1)];exact ank w' _ _ _ _ _ _ _ _ b _ _ hb' 2 (nno d h1)
def xR(aD:Bool)(X:di)(r:aC):MV:=if aD then r.aD X.s else kI (iw X.num)
theorem QI(w:tW)(b:Nat)(rb mb:List Nat)(vM vC vL:Value)(r:aC)(h:aB w b rb mb vM vC vL r)(hp:0<r.calls.length)(X:di)(hX:X.s<11):Calls prog 111 #[pt b,.agg X.cells] w λe w'=>e=.returned (.agg ((r.aD X.s).cells rb mb).toArray)/\aa ae w w':=by
 have HR:af (∀w',aa ae w w'->Calls prog 205 #[pt b,.int .u8 X.s] w' λe w''=>e=.returned (.agg #[.int .i64 (r.aD X.s).so,.int .u64 (r.aD X.s).bits,.pointer ((r.aD X.s).aD.map λr=>⟨rb.getD r 0,0,none⟩),.pointer ((r.aD X.s).tab.map λt=>⟨mb.getD t 0,0,none⟩)])/\aa ae w' w''):=λw' m=>fD w' b rb mb vM vC vL r (h.quiet m) hp X.s hX;clear h;generalize r.aD X.s=v at *;show Calls _ _ #[_,.agg #[X.op,.int .u8 X.d,.int .u8 X.s,.int .i16 X.jump,.int .i32 X.num,.int .i32 X.high,.string X.label,.string X.name]] _ λe w'=>e=.returned (.agg #[.int .i64 v.so,.int .u64 v.bits,.pointer (v.aD.map λr=>⟨rb.getD r 0,0,none⟩),.pointer (v.tab.map λt=>⟨mb.getD t 0,0,none⟩)])/\_
 generalize v.aD.map (λr=>(⟨rb.getD r 0,0,none⟩:Addr))=v2 at *;generalize v.tab.map (λt=>(⟨mb.getD t 0,0,none⟩:Addr))=v3 at *;generalize v.so=v0 at *;generalize v.bits=v1 at *;obtain⟨m3,b1,b2⟩:=zU w #[X.op,.int .u8 X.d,.int .u8 X.s,.int .i16 X.jump,.int .i32 X.num,.int .i32 X.high,.string X.label,.string X.name] #[.int .i64 0,.int .u64 0,.pointer none,.pointer none] 138 130;have dw:=ai m3;have B1:=ai b1;have HB3:=ai b2;clear m3 b1 b2;go_enter func111,ntmps111;go_upto_region 1 with fail;generalize(w.alloc (.cells #[X.op,.int .u8 X.d,.int .u8 X.s,.int .i16 X.jump,.int .i32 X.num,.int .i32 X.high,.string X.label,.string X.name] 138)).alloc (.cells #[.int .i64 0,.int .u64 0,.pointer none,.pointer none] 130)=W3 at *;have x2:=B1.o.cell 2;go_wp2_with fail;refine(HR.o _ dw.o).mono ?_;rintro e w1 ⟨rfl,m1⟩;have M1:=ai m1;have gq:=ai (HB3.o.ag m1 id);have z0:=gq.o.cell 0;have z1:=gq.o.cell 1;have z2:=gq.o.cell 2;have z3:=gq.o.cell 3;have zf:=gq.o.frozen;clear m1 x2;go_wp2_with fail;refine bodyPost_ret (results_cell_row results111 _ _ (w.heap.size+1) 130 _ (0,0) _ rfl ((((gq.o.set 0 _).set 1 _).set 2 _).set 3 _) underlying130 rfl (by kernel_rfl)) rfl ⟨rfl,?_⟩;have q:∀{Y:tW} (i:Nat) (u:Value),aa ae w Y->aa ae w (Y.setCell ⟨w.heap.size+1,i,none⟩ u):=λi u m=>m.set (a:=⟨w.heap.size+1,i,none⟩) (Or.inr (by simp only;omega)) u;exact q 3 _ (q 2 _ (q 1 _ (q 0 _ (dw.o.trans M1.o))))
theorem QJ(w:tW)(b:Nat)(rb mb:List Nat)(X:di):Calls prog 112 #[pt b,.agg X.cells] w λe w'=>e=.returned (.agg ((kI (iw X.num)).cells rb mb).toArray)/\aa ae w w':=by
 have HV:af (∀w',Calls prog 56 #[.int .u64 (IntKind.u64.wrap X.num)] w' λe w''=>e=.returned (.agg #[.int .i64 0,.int .u64 (iw X.num),.pointer none,.pointer none])/\aa ae w' w''):=λw'=>by rw[uk];exact xN w' rb mb _
 show Calls _ _ #[_,.agg #[X.op,.int .u8 X.d,.int .u8 X.s,.int .i16 X.jump,.int .i32 X.num,.int .i32 X.high,.string X.label,.string X.name]] _ λe w'=>e=.returned (.agg #[.int .i64 0,.int .u64 (iw X.num),.pointer none,.pointer none])/\_
 generalize iw X.num=R at *;obtain⟨m3,b1,b2⟩:=zU w #[X.op,.int .u8 X.d,.int .u8 X.s,.int .i16 X.jump,.int .i32 X.num,.int .i32 X.high,.string X.label,.string X.name] #[.int .i64 0,.int .u64 0,.pointer none,.pointer none] 138 130;have dw:=ai m3;have B1:=ai b1;have HB3:=ai b2;clear m3 b1 b2;go_enter func112,ntmps112;go_upto_region 1 with fail;generalize(w.alloc (.cells #[X.op,.int .u8 X.d,.int .u8 X.s,.int .i16 X.jump,.int .i32 X.num,.int .i32 X.high,.string X.label,.string X.name] 138)).alloc (.cells #[.int .i64 0,.int .u64 0,.pointer none,.pointer none] 130)=W3 at *;have x4:=B1.o.cell 4;go_wp2_with fail;refine(HV.o _).mono ?_;rintro e w1 ⟨rfl,m1⟩;have M1:=ai m1;have gq:=ai (HB3.o.ag m1 id);have z0:=gq.o.cell 0;have z1:=gq.o.cell 1;have z2:=gq.o.cell 2;have z3:=gq.o.cell 3;have zf:=gq.o.frozen;clear m1 x4;go_wp2_with fail;refine bodyPost_ret (results_cell_row results112 _ _ (w.heap.size+1) 130 _ (0,0) _ rfl ((((gq.o.set 0 _).set 1 _).set 2 _).set 3 _) underlying130 rfl (by kernel_rfl)) rfl ⟨rfl,?_⟩;have q:∀{Y:tW} (i:Nat) (u:Value),aa ae w Y->aa ae w (Y.setCell ⟨w.heap.size+1,i,none⟩ u):=λi u m=>m.set (a:=⟨w.heap.size+1,i,none⟩) (Or.inr (by simp only;omega)) u;exact q 3 _ (q 2 _ (q 1 _ (q 0 _ (dw.o.trans M1.o))))
theorem mr(w:tW)(b:Nat)(rb mb:List Nat)(vM vC vL:Value)(r:aC)(h:aB w b rb mb vM vC vL r)(hp:0<r.calls.length)(X:di)(aD:Bool)(hX:aD=true->X.s<11):Calls prog (FR aD) #[pt b,.agg X.cells] w λe w'=>e=.returned (.agg ((xR aD X r).cells rb mb).toArray)/\aa ae w w':=by
 cases aD with
 |true=>exact QI w b rb mb vM vC vL r h hp X (hX rfl)
 |false=>exact QJ w b rb mb X
theorem jT(aD:Bool):pE (FR aD):=by
 cases aD with
 |true=>exact enters_of func111 (by kernel_rfl) rfl
 |false=>exact enters_of func112 (by kernel_rfl) rfl
