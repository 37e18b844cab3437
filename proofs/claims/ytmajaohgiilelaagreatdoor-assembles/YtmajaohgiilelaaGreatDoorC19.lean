import Derived.Test.YtmajaohgiilelaaGreatDoorC17
namespace Go.Proofs.YtmajaohgiilelaaGreatDoor
open Go.RowKit Tryz
open List renaming length_append->an
open Nat renaming one_mul->ao
set_option linter.all false
set_option maxRecDepth 100000
set_option maxHeartbeats 2000000
theorem tu(W:tW)(a b c d e:Value):(Instr.field 94 (.agg #[a,b,c,d,e]) 1).run prog W=.ok b W:=rfl
theorem Jj(s:tBA)(w:tW)(hC:∀w,Calls prog 30 #[.string s] w λe w'=>fA w s e w')(pm:qN)(cm:Option (List aY))(hcm:ahP s s.size 0 false []=cm)(t:aY)(r:List aY)(hn:cm=some (t::r))(tq:aY×DK)(VV:ae (tq=(DK.mk (t::r) false).take 110))(hlab:(t::r).length=2/\((t::r).getD 1 nS).kind=58)(hws:tq.1.s.size<=1000000)(hpm:pm=⟨{kind:=58,name:=tq.1.s},[],ahI tq.1.s.data.toList&&!qp tq.1.s⟩):Calls prog 10 #[.string s] w λe w'=>jF w pm e w':=by
 have HC:=ak hC;have HCM:=ak hcm;clear hC hcm;have CS:=ak hlab;have Ct:=ak hpm;clear hlab hpm;have zF:ae (aq (w.alloc (.cells eB 47)) w.heap.size eB 47):=aq.new w _ _;have sU:ae (aa af w (w.alloc (.cells eB 47))):=(aa.refl _ _).alloc _;obtain⟨Z,hZ⟩:∃Z,Z=w.heap.size:=⟨_,rfl⟩
 subst hn;go_enter func10,ntmps10;go_upto_region 1 with fail;generalize w.alloc (.cells eB 47)=wA at *;have gU:ae (Z≠wA.heap.size/\w.heap.size<=Z/\w.heap.size<=wA.heap.size):=by have:=zF.o.lt;rw[ae];omega
 rw[<-hZ]at zF;rw[<-hZ];clear hZ;refine wp_region_lit ?_
 iterate 6 go_step
 refine wpList_store_row rfl 47 (.tmp 4) (.tmp 13) rfl wA.heap.size eB rfl rfl 47 eB (aq.new _ _ _) (by kernel_rfl) rfl (aj.one {} rfl) ?_;simp only[Act.put];go_upto_region 2 with fail;have HZ:ae (aq ((wA.alloc (.cells eB 47)).setRow wA.heap.size eB) Z eB 47):=(zF.o.alloc _).qO gU.o.1;have HX:ae (aq ((wA.alloc (.cells eB 47)).setRow wA.heap.size eB) wA.heap.size ({}:aj).cells 47):=aq.aI (aq.new _ _ _);have KO:ae (aa af w ((wA.alloc (.cells eB 47)).setRow wA.heap.size eB)):=(sU.o.alloc _).aI (.inr gU.o.2.2);clear zF sU;generalize(wA.alloc (.cells eB 47)).setRow wA.heap.size eB=w1 at *;generalize wA.heap.size=X at *;go_wp2_with fail;refine(HC.o _).mono ?_;rintro e w2 ⟨m2,h2⟩;have HZ2:ae (aq w2 Z eB 47):=HZ.o.ah (S:=af) m2 id;have uH:ae (aq w2 X ({}:aj).cells 47):=HX.o.ah (S:=af) m2 id;have ep:=ak (KO.o.trans m2);rw[HCM.o]at h2;clear HZ HX KO HC;simp only at h2;obtain⟨v,rfl,hT⟩:=h2;obtain⟨o,cap,rfl,_⟩:=hT.sl.view;obtain⟨g,rfl,VW,hg,hkd,hcap,hmax⟩:=hT.tks (by simp);have Gl:=ak hkd;obtain⟨n,hn⟩:∃n,n=(t::r).length:=⟨_,rfl⟩
 have HN:=ak hn;have VX:ae (wm w2 (.slice (some ⟨g,0,none⟩) n cap) (t::r)):=by rw[ae,hn];exact VW
 have hn0:0<n:=by rw[hn];simp
 have hn1:((n:Int)==0)=false:=by simp;omega
 rw[<-hn]at hcap;rw[<-hn];unfold maxLen at hmax;clear hT VW hkd hn;go_upto_region 6 with fail;have Qn:ae (aq (w2.alloc (.cells #[.slice (some ⟨g,0,none⟩) n cap,.bool false] 92)) w2.heap.size #[.slice (some ⟨g,0,none⟩) n cap,.bool false] 92):=aq.new _ _ _;have Dz:ae (wm (w2.alloc (.cells #[.slice (some ⟨g,0,none⟩) n cap,.bool false] 92)) (.slice (some ⟨g,0,none⟩) n cap) (t::r)):=VX.o.quiet ((aa.refl _ _).alloc _);have HZ3:ae (aq (w2.alloc (.cells #[.slice (some ⟨g,0,none⟩) n cap,.bool false] 92)) Z eB 47):=HZ2.o.alloc _;have oK:ae (aq (w2.alloc (.cells #[.slice (some ⟨g,0,none⟩) n cap,.bool false] 92)) X ({}:aj).cells 47):=uH.o.alloc _;have fw:ae (aa af w (w2.alloc (.cells #[.slice (some ⟨g,0,none⟩) n cap,.bool false] 92))):=ep.o.alloc _;have VY:ae (∀i,(w2.alloc (.cells #[.slice (some ⟨g,0,none⟩) n cap,.bool false] 92)).cell? ⟨g,i,none⟩=w2.cell? ⟨g,i,none⟩):=λi=>by simp only[World.cell?];rw[Below.heap_alloc _ _ _ hg]
 have xX:ae (w.heap.size<=w2.heap.size/\Z≠w2.heap.size/\X≠w2.heap.size/\g≠w2.heap.size):=by have:=ep.o.size;have:=HZ2.o.lt;have:=uH.o.lt;rw[ae];omega
 clear VX HZ2 uH ep hg;generalize w2.alloc (.cells #[.slice (some ⟨g,0,none⟩) n cap,.bool false] 92)=w3 at *;have xC:ae (∀i (hi:i<(t::r).length),w3.cell? ⟨g,i*5,none⟩=some (.int .u8 (t::r)[i].kind)):=λi hi=>by rw[VY.o];exact Gl.o i hi
 clear Gl VY;generalize w2.heap.size=P at *;have VZ:ae (Pk w3 P ⟨t::r,false⟩):=⟨_,Qn.o,Dz.o⟩
 have Nk:=gI P ⟨t::r,false⟩ 110 w3 VZ.o;have V3:ae (Calls prog 31 #[.pointer (some ⟨P,0,none⟩),.int .u8 110] w3 λe w'=>e=.returned (.agg #[.int .u8 tq.1.kind,.string tq.1.s,.int .u64 ((tq.1.n.v%18446744073709551616:Nat):Int),.bool (decide (18446744073709551616<=tq.1.n.v)),.bool tq.1.n.minus])/\Pk w' P tq.2/\aa (Only P) w3 w'):=by rw[<-VV.o]at Nk;exact Nk
 clear Nk VV Qn Dz VZ;obtain⟨⟨kd,word,⟨vv,mi⟩⟩,p1⟩:=tq;simp only at *;generalize((vv%18446744073709551616:Nat):Int)=uu at *;generalize decide (18446744073709551616<=vv)=bg at *;go_wp2_with fail;refine V3.o.mono ?_;rintro e w4 ⟨rfl,k4,m4⟩;have Yj:=ak k4;have Sc:ae (aq w4 Z eB 47):=HZ3.o.ah (S:=Only P) m4 xX.o.2.1;have xE:ae (aq w4 X ({}:aj).cells 47):=oK.o.ah (S:=Only P) m4 xX.o.2.2.1;have jJ:ae (aa af w w4):=fw.o.step m4 (λi hi e=>by have:=xX.o.1;rw[show i=P from e]at hi;omega);have BH:ae (∀i (hi:i<(t::r).length),w4.cell? ⟨g,i*5,none⟩=some (.int .u8 (t::r)[i].kind)):=λi hi=>by rw[<-xC.o i hi];simp only[World.cell?];have hlt:g<w3.heap.size:=block_lt_of_cell (xC.o i hi);rw[m4.block g hlt xX.o.2.2.2]
 clear HZ3 oK fw xC V3 k4 m4;have hfd:∀W,(Instr.field 94 (.agg #[.int .u8 kd,.string word,.int .u64 uu,.bool bg,.bool mi]) 1).run prog W=.ok (.string word) W:=λW=>tu W _ _ _ _ _;obtain⟨ql,V4⟩:∃ql:Bool,ql=decide ((t::r).length=2/\((t::r).getD 1 nS).kind=58):=⟨_,rfl⟩
 have xY:=ak V4;clear V4;go_upto_region 7 with fail;go_cut [43] (λv wx=>v=.bool ql/\wx=w4)
 case first =>
  by_cases h2:n=2
  ·have hl2:(t::r).length=2:=by rw[<-HN.o];exact h2
   have hk:=BH.o 1 (by omega);simp only[ao]at hk;have Jk:ae (((t::r).getD 1 nS).kind=((t::r)[1]'(by omega)).kind):=by rw[ae,List.getD_eq_getElem?_getD,List.getElem?_eq_getElem (by omega)];rfl
   have h2':((n:Int)==2)=true:=by simp;omega
   by_cases uK:((t::r)[1]'(by omega)).kind=58
   ·have qI:ae (ql=true):=by rw[ae,xY.o,decide_eq_true ⟨hl2,Jk.o.trans uK⟩]
    rw[uK]at hk;clear xY Jk hl2 uK;have h1n:(1:Int)<n:=by omega
    go_wp2_with fail;go_meet;exact⟨by rw[qI.o],rfl⟩
   ·have qI:ae (ql=false):=by rw[ae,xY.o,decide_eq_false (λe=>uK (Jk.o.symm.trans e.2))]
    have hk1:(((((t::r)[1]'(by omega)).kind:Nat):Int)==58)=false:=by rw[beq_eq_false_iff_ne];exact λe=>uK (Int.ofNat_inj.1 e)
    generalize((t::r)[1]'(by omega)).kind=k1 at *;clear xY Jk hl2 uK;have h1n:(1:Int)<n:=by omega
    go_wp2_with fail;go_meet;exact⟨by rw[qI.o],rfl⟩
  ·have qI:ae (ql=false):=by rw[ae,xY.o,decide_eq_false (λe=>h2 (by rw[HN.o];exact e.1))]
   have h2':((n:Int)==2)=false:=by simp;omega
   go_wp2_with fail;go_meet;exact⟨by rw[qI.o],rfl⟩
 case rest =>
 obtain⟨rfl,rfl⟩:=hcut;obtain rfl:ql=true:=by rw[xY.o,decide_eq_true CS.o]
 clear xY CS BH HN;have Je:=Gw word;have Cs:ae (∀w,Calls prog 32 #[.string word] w λe w'=>e=.returned (.bool (qp word))/\aa af w w'):=λw=>Gw word w (by unfold maxLen;omega);have Ji:ae (∀w,Calls prog 33 #[.string word] w λe w'=>e=.returned (.bool (ahI word.data.toList))/\w'=w):=λw=>Da word w (by unfold maxLen;omega);clear Je;generalize qp word=tk at *;generalize ahI word.data.toList=nb at *;go_wp2_with fail;refine(Cs.o _).mono ?_;rintro e w5 ⟨rfl,m5⟩;go_wp2_with fail;refine(Ji.o _).mono ?_;rintro e w6 ⟨rfl,VM⟩;have HZ6:ae (aq w6 Z eB 47):=by rw[VM];exact Sc.o.ah (S:=af) m5 id
 have Mi:ae (aq w6 X ({}:aj).cells 47):=by rw[VM];exact xE.o.ah (S:=af) m5 id
 have E5:ae (aa af w w6):=by rw[VM];exact jJ.o.trans m5
 clear Sc xE jJ m5 VM Cs Ji Yj;have x0:w6.cell? ⟨X,0,none⟩=some (.int .u8 0):=Mi.o.cell 0;have x1:w6.cell? ⟨X,1,none⟩=some (.string E0):=Mi.o.cell 1;have fx:=Mi.o.frozen;have HX7:ae (aq ((w6.setCell ⟨X,0,none⟩ (.int .u8 58)).setCell ⟨X,1,none⟩ (.string word)) X ({kind:=58,name:=word}:aj).cells 47):=(Mi.o.set 0 _).set 1 _;have HZ7:ae (aq ((w6.setCell ⟨X,0,none⟩ (.int .u8 58)).setCell ⟨X,1,none⟩ (.string word)) Z eB 47):=(HZ6.o.setOther (a:=⟨X,0,none⟩) (λe=>gU.o.1 e.symm) _).setOther (a:=⟨X,1,none⟩) (λe=>gU.o.1 e.symm) _;have Sd:ae (aa af w ((w6.setCell ⟨X,0,none⟩ (.int .u8 58)).setCell ⟨X,1,none⟩ (.string word))):=(E5.o.set (a:=⟨X,0,none⟩) (.inr gU.o.2.2) _).set (a:=⟨X,1,none⟩) (.inr gU.o.2.2) _;go_upto_region 12 with fail;generalize(w6.setCell ⟨X,0,none⟩ (.int .u8 58)).setCell ⟨X,1,none⟩ (.string word)=w7 at *;clear Mi HZ6 E5 x0 x1 fx;cases nb with
 |true =>go_wp2_with (first |(refine wpList_load_row rfl 47 (.tmp 4) rfl X rfl 47 ({kind:=58,name:=word}:aj).cells (0,0) _ HX7.o underlying47 rfl (by kernel_rfl) ?_) |(refine wpList_store_row rfl 47 (.tmp 2) (.tmp 51) rfl Z ({kind:=58,name:=word}:aj).cells rfl rfl 47 _ HZ7.o (by kernel_rfl) rfl (aj.one _ rfl) ?_));refine bodyPost_ret (au results10 _ _ Z 47 _ (0,0) _ _ rfl rfl HZ7.o.aI underlying47 rfl (by kernel_rfl)) rfl ?_;rw[Ct.o];exact⟨.slice none 0 0,rfl,Sl.nil _ _ _,(λk h=>by cases h),Sd.o.aI (.inr gU.o.2.1)⟩
 |false =>go_wp2_with (first |(refine wpList_load_row rfl 47 (.tmp 4) rfl X rfl 47 ({kind:=58,name:=word}:aj).cells (0,0) _ HX7.o underlying47 rfl (by kernel_rfl) ?_) |(refine wpList_store_row rfl 47 (.tmp 2) (.tmp 51) rfl Z ({kind:=58,name:=word}:aj).cells rfl rfl 47 _ HZ7.o (by kernel_rfl) rfl (aj.one _ rfl) ?_));refine bodyPost_ret (au results10 _ _ Z 47 _ (0,0) _ _ rfl rfl HZ7.o.aI underlying47 rfl (by kernel_rfl)) rfl ?_;rw[Ct.o];exact⟨.slice none 0 0,rfl,Sl.nil _ _ _,(λk h=>by cases h),Sd.o.aI (.inr gU.o.2.1)⟩
theorem DH(l:List aY):DK.done ⟨l,false⟩=(((l.length:Nat):Int)==0):=by
 cases l with
 |nil=>rfl
 |cons a l =>
  show false=_
  symm
  rw[beq_eq_false_iff_ne,List.length_cons];omega
section
variable {P : Program} {ops : Array Oper} {C : World -> Prop} {es : List Nat}
theorem DI{Q:Act->tW->Prop}{k:Nat}{o:Oper}{rest:List Oper}{a:Act}{w:tW}(hw:Region.wanted o (yielded ops a.tmps)=true)(hE:es.contains k=false)(x:Operand)(t e:TypeId)(ho:o.op=.call {callee:=.builtin .len,args:=#[x],argTypes:=#[t]})(p:Option Addr) (n c:Nat) (hx:a.eval x=.slice p n c) (ht:P.underlying t=some (.slice e))(h:ahN P ops C es Q (k+1) rest (a.put o.dst (.int .i64 n)) w):ahN P ops C es Q k (o::rest) a w:=by
 unfold ahN;rw[iP9 hw,hE];refine⟨_,λw _=>?_,h⟩;unfold fO;simp only[execOp,ho,hx,resolve,invoke,builtin,Sem.run_bind,Sem.run_pure,Result.andThen_ok,List.map_toArray,List.map_cons,List.map_nil];have hl:(Builtin.len_ #[t] o.type #[Value.slice p n c]).run P w=.ok (.int .i64 n) w:=by simp[Builtin.len_,run_underlying ht,goInt]
 rw[hl];exact⟨rfl,rfl⟩
end
theorem Nl(s:tBA)(w:tW)(hC:∀w,Calls prog 30 #[.string s] w λe w'=>fA w s e w')(pm:qN)(cm:Option (List aY))(hcm:ahP s s.size 0 false []=cm)(t:aY)(r:List aY)(hn:cm=some (t::r))(tq:aY×DK)(VV:ae (tq=(DK.mk (t::r) false).take 110))(hlab:¬((t::r).length=2/\((t::r).getD 1 nS).kind=58))(hws:tq.1.s.size<=1000000)(hsm:tq.2.Small)(hm:tq.1.s≠MAP)(hf:tq.1.s≠FUNC)(hpm:pm=⟨(tq.2.ins {kind:=105} tq.1.s).2,[],(tq.2.ins {kind:=105} tq.1.s).1.done⟩):Calls prog 10 #[.string s] w λe w'=>jF w pm e w':=by
 have HC:=ak hC;have HCM:=ak hcm;clear hC hcm;have CS:=ak hlab;have KQ:=ak hpm;have q1:=dK hm;have q2:=dK hf;have Gx:ae tq.2.Small:=hsm;clear hlab hpm hm hf hsm;have zF:ae (aq (w.alloc (.cells eB 47)) w.heap.size eB 47):=aq.new w _ _;have sU:ae (aa af w (w.alloc (.cells eB 47))):=(aa.refl _ _).alloc _;obtain⟨Z,hZ⟩:∃Z,Z=w.heap.size:=⟨_,rfl⟩
 subst hn;go_enter func10,ntmps10;go_upto_region 1 with fail;generalize w.alloc (.cells eB 47)=wA at *;have gU:ae (Z≠wA.heap.size/\w.heap.size<=Z/\w.heap.size<=wA.heap.size):=by have:=zF.o.lt;rw[ae];omega
 rw[<-hZ]at zF;rw[<-hZ];clear hZ;refine wp_region_lit ?_
 iterate 6 go_step
 refine wpList_store_row rfl 47 (.tmp 4) (.tmp 13) rfl wA.heap.size eB rfl rfl 47 eB (aq.new _ _ _) (by kernel_rfl) rfl (aj.one {} rfl) ?_;simp only[Act.put];go_upto_region 2 with fail;have HZ:ae (aq ((wA.alloc (.cells eB 47)).setRow wA.heap.size eB) Z eB 47):=(zF.o.alloc _).qO gU.o.1;have HX:ae (aq ((wA.alloc (.cells eB 47)).setRow wA.heap.size eB) wA.heap.size ({}:aj).cells 47):=aq.aI (aq.new _ _ _);have KO:ae (aa af w ((wA.alloc (.cells eB 47)).setRow wA.heap.size eB)):=(sU.o.alloc _).aI (.inr gU.o.2.2);clear zF sU;generalize(wA.alloc (.cells eB 47)).setRow wA.heap.size eB=w1 at *;generalize wA.heap.size=X at *;go_wp2_with fail;refine(HC.o _).mono ?_;rintro e w2 ⟨m2,h2⟩;have HZ2:ae (aq w2 Z eB 47):=HZ.o.ah (S:=af) m2 id;have uH:ae (aq w2 X ({}:aj).cells 47):=HX.o.ah (S:=af) m2 id;have ep:=ak (KO.o.trans m2);rw[HCM.o]at h2;clear HZ HX KO HC;simp only at h2;obtain⟨v,rfl,hT⟩:=h2;obtain⟨o,cap,rfl,_⟩:=hT.sl.view;obtain⟨g,rfl,VW,hg,hkd,hcap,hmax⟩:=hT.tks (by simp);have Gl:=ak hkd;obtain⟨n,hn⟩:∃n,n=(t::r).length:=⟨_,rfl⟩
 have HN:=ak hn;have VX:ae (wm w2 (.slice (some ⟨g,0,none⟩) n cap) (t::r)):=by rw[ae,hn];exact VW
 have hn0:0<n:=by rw[hn];simp
 have hn1:((n:Int)==0)=false:=by simp;omega
 rw[<-hn]at hcap;rw[<-hn];unfold maxLen at hmax;clear hT VW hkd hn;go_upto_region 6 with fail;have Qn:ae (aq (w2.alloc (.cells #[.slice (some ⟨g,0,none⟩) n cap,.bool false] 92)) w2.heap.size #[.slice (some ⟨g,0,none⟩) n cap,.bool false] 92):=aq.new _ _ _;have Dz:ae (wm (w2.alloc (.cells #[.slice (some ⟨g,0,none⟩) n cap,.bool false] 92)) (.slice (some ⟨g,0,none⟩) n cap) (t::r)):=VX.o.quiet ((aa.refl _ _).alloc _);have HZ3:ae (aq (w2.alloc (.cells #[.slice (some ⟨g,0,none⟩) n cap,.bool false] 92)) Z eB 47):=HZ2.o.alloc _;have oK:ae (aq (w2.alloc (.cells #[.slice (some ⟨g,0,none⟩) n cap,.bool false] 92)) X ({}:aj).cells 47):=uH.o.alloc _;have fw:ae (aa af w (w2.alloc (.cells #[.slice (some ⟨g,0,none⟩) n cap,.bool false] 92))):=ep.o.alloc _;have VY:ae (∀i,(w2.alloc (.cells #[.slice (some ⟨g,0,none⟩) n cap,.bool false] 92)).cell? ⟨g,i,none⟩=w2.cell? ⟨g,i,none⟩):=λi=>by simp only[World.cell?];rw[Below.heap_alloc _ _ _ hg]
 have xX:ae (w.heap.size<=w2.heap.size/\Z≠w2.heap.size/\X≠w2.heap.size/\g≠w2.heap.size):=by have:=ep.o.size;have:=HZ2.o.lt;have:=uH.o.lt;rw[ae];omega
 clear VX HZ2 uH ep hg;generalize w2.alloc (.cells #[.slice (some ⟨g,0,none⟩) n cap,.bool false] 92)=w3 at *;have xC:ae (∀i (hi:i<(t::r).length),w3.cell? ⟨g,i*5,none⟩=some (.int .u8 (t::r)[i].kind)):=λi hi=>by rw[VY.o];exact Gl.o i hi
 clear Gl VY;generalize w2.heap.size=P at *;have VZ:ae (Pk w3 P ⟨t::r,false⟩):=⟨_,Qn.o,Dz.o⟩
 have Nk:=gI P ⟨t::r,false⟩ 110 w3 VZ.o;have V3:ae (Calls prog 31 #[.pointer (some ⟨P,0,none⟩),.int .u8 110] w3 λe w'=>e=.returned (.agg #[.int .u8 tq.1.kind,.string tq.1.s,.int .u64 ((tq.1.n.v%18446744073709551616:Nat):Int),.bool (decide (18446744073709551616<=tq.1.n.v)),.bool tq.1.n.minus])/\Pk w' P tq.2/\aa (Only P) w3 w'):=by rw[<-VV.o]at Nk;exact Nk
 clear Nk VV Qn Dz VZ;obtain⟨⟨kd,word,⟨vv,mi⟩⟩,p1⟩:=tq;simp only at *;generalize((vv%18446744073709551616:Nat):Int)=uu at *;generalize decide (18446744073709551616<=vv)=bg at *;go_wp2_with fail;refine V3.o.mono ?_;rintro e w4 ⟨rfl,k4,m4⟩;have Yj:=ak k4;have Sc:ae (aq w4 Z eB 47):=HZ3.o.ah (S:=Only P) m4 xX.o.2.1;have xE:ae (aq w4 X ({}:aj).cells 47):=oK.o.ah (S:=Only P) m4 xX.o.2.2.1;have jJ:ae (aa af w w4):=fw.o.step m4 (λi hi e=>by have:=xX.o.1;rw[show i=P from e]at hi;omega);have BH:ae (∀i (hi:i<(t::r).length),w4.cell? ⟨g,i*5,none⟩=some (.int .u8 (t::r)[i].kind)):=λi hi=>by rw[<-xC.o i hi];simp only[World.cell?];have hlt:g<w3.heap.size:=block_lt_of_cell (xC.o i hi);rw[m4.block g hlt xX.o.2.2.2]
 clear HZ3 oK fw xC V3 k4 m4;have hfd:∀W,(Instr.field 94 (.agg #[.int .u8 kd,.string word,.int .u64 uu,.bool bg,.bool mi]) 1).run prog W=.ok (.string word) W:=λW=>tu W _ _ _ _ _;obtain⟨ql,V4⟩:∃ql:Bool,ql=decide ((t::r).length=2/\((t::r).getD 1 nS).kind=58):=⟨_,rfl⟩
 have xY:=ak V4;clear V4;go_upto_region 7 with fail;go_cut [43] (λv wx=>v=.bool ql/\wx=w4)
 case first =>
  by_cases h2:n=2
  ·have hl2:(t::r).length=2:=by rw[<-HN.o];exact h2
   have hk:=BH.o 1 (by omega);simp only[ao]at hk;have Jk:ae (((t::r).getD 1 nS).kind=((t::r)[1]'(by omega)).kind):=by rw[ae,List.getD_eq_getElem?_getD,List.getElem?_eq_getElem (by omega)];rfl
   have h2':((n:Int)==2)=true:=by simp;omega
   by_cases uK:((t::r)[1]'(by omega)).kind=58
   ·have qI:ae (ql=true):=by rw[ae,xY.o,decide_eq_true ⟨hl2,Jk.o.trans uK⟩]
    rw[uK]at hk;clear xY Jk hl2 uK;have h1n:(1:Int)<n:=by omega
    go_wp2_with fail;go_meet;exact⟨by rw[qI.o],rfl⟩
   ·have qI:ae (ql=false):=by rw[ae,xY.o,decide_eq_false (λe=>uK (Jk.o.symm.trans e.2))]
    have hk1:(((((t::r)[1]'(by omega)).kind:Nat):Int)==58)=false:=by rw[beq_eq_false_iff_ne];exact λe=>uK (Int.ofNat_inj.1 e)
    generalize((t::r)[1]'(by omega)).kind=k1 at *;clear xY Jk hl2 uK;have h1n:(1:Int)<n:=by omega
    go_wp2_with fail;go_meet;exact⟨by rw[qI.o],rfl⟩
  ·have qI:ae (ql=false):=by rw[ae,xY.o,decide_eq_false (λe=>h2 (by rw[HN.o];exact e.1))]
   have h2':((n:Int)==2)=false:=by simp;omega
   go_wp2_with fail;go_meet;exact⟨by rw[qI.o],rfl⟩
 case rest =>
 obtain⟨rfl,rfl⟩:=hcut;obtain rfl:ql=false:=by rw[xY.o,decide_eq_false CS.o]
 clear xY CS BH HN;have x0:wc.cell? ⟨X,0,none⟩=some (.int .u8 0):=xE.o.cell 0;have fx:=xE.o.frozen;have hXP:¬X=P:=xX.o.2.2.1;have hXZ:¬X=Z:=λe=>gU.o.1 e.symm;have HX5:ae (aq (wc.setCell ⟨X,0,none⟩ (.int .u8 105)) X ({kind:=105}:aj).cells 47):=xE.o.set 0 _;have HZ5:ae (aq (wc.setCell ⟨X,0,none⟩ (.int .u8 105)) Z eB 47):=Sc.o.setOther (a:=⟨X,0,none⟩) hXZ _;have mU:ae (aa af w (wc.setCell ⟨X,0,none⟩ (.int .u8 105))):=jJ.o.set (a:=⟨X,0,none⟩) (.inr gU.o.2.2) _;have HK5:ae (Pk (wc.setCell ⟨X,0,none⟩ (.int .u8 105)) P p1):=Yj.o.ah (S:=Only X) ((aa.refl _ _).bP 0 _) (λe=>hXP e.symm) (λg cs hg e=>hg.apart xE.o (by decide) e);go_upto_region 23 with fail;generalize wc.setCell ⟨X,0,none⟩ (.int .u8 105)=w5 at *;clear xE Sc jJ Yj x0 fx;have HI:=VO P X p1 {kind:=105} word w5 HK5.o HX5.o hws Gx.o;have HVL:=DK.abR p1 {kind:=105} word;generalize p1.ins {kind:=105} word=iq at *;obtain⟨q,y⟩:=iq;simp only at *;have HII:=ak HI;have abS:=ak HVL;clear HI HVL;go_wp2_with fail;refine HII.o.mono ?_;rintro e wT ⟨rfl,h6⟩;have HXT:=ak h6.ln;have HKT:=ak h6.pk
 have Qo:ae (aq wT Z eB 47):=HZ5.o.ah h6.md (λe=>by
  rcases e with e|e
  ·exact xX.o.2.1 e
  ·exact hXZ e.symm)
 have HMT:ae (aa af w wT):=mU.o.step h6.md (λi hi e=>by
  rcases e with e|e
  ·have:=xX.o.1;omega
  ·have:=gU.o.2.2;omega)
 clear HX5 HZ5 mU HK5 HII h6;have HYV:ae ({y with vl:=.slice none 0 0}=y):=by rw[ae,<-abS.o]
 have Ct:=ak KQ.o;clear KQ;obtain⟨lq,bad⟩:=q;obtain⟨vq,hbq,htq⟩:=HKT.o;obtain⟨oq,cq,rfl,_⟩:=htq;simp only at hbq;have hPZ:¬P=Z:=λe=>xX.o.2.1 e.symm;have HQ:=ak hbq;clear hbq;obtain⟨nq,V5⟩:∃nq,nq=lq.length:=⟨_,rfl⟩
 have HNQ:=ak V5;rw[<-V5]at HQ;clear V5;have e0:∀g:Ext (Only Z) wT,g.w.cell? ⟨P,0,none⟩=some (.slice oq nq cq):=λg=>g.cell HQ.o hPZ 0;have e1:∀g:Ext (Only Z) wT,g.w.cell? ⟨P,1,none⟩=some (.bool bad):=λg=>g.cell HQ.o hPZ 1;have ne1:=Ext.ne (Only Z) wT;go_upto_region 24 with fail;cases bad with
 |true =>
  refine aZ [0,14] (λw'=>∃e:Ext (Only Z) wT,w'=e.w) (by kernel_rfl) (by kernel_rfl) (by kernel_rfl) ⟨⟨_,(aa.refl _ _).drew⟩,rfl⟩ ?_;refine aF rfl rfl ?_;intro K hK;refine wp_load_row 47 (.tmp 4) rfl X rfl 47 y.cells (0,0) _ HXT.o.drew underlying47 rfl (by kernel_rfl) ?_;refine hK _ _ rfl ⟨⟨_,(aa.refl _ _).drew⟩,rfl⟩ ?_;clear hK K;simp only[Act.put,sA9,sB9,sC9]
  iterate 1 (refine aB rfl rfl rfl ?_;intro K hK;go_big_quiet_op;go_big_quiet_on)
  refine bq rfl rfl _ ⟨P,0,none⟩ rfl rfl ?_;simp only[Act.put,sA9,sB9,sC9]
  iterate 4 (refine aB rfl rfl rfl ?_;intro K hK;go_big_quiet_op;go_big_quiet_on)
  iterate 6 (refine uW rfl ?_;simp only[Act.put,sA9,sB9,sC9])
  refine jV rfl rfl _ _ _ _ rfl rfl ?_;simp only[Act.put,Act.eval,sA9,sB9,sC9];refine aF rfl rfl ?_;intro K hK;refine wp_store_row 47 (.tmp 2) (.tmp 104) rfl Z y.cells rfl rfl 47 _ Qo.o.drew (by kernel_rfl) rfl (aj.one _ (by rw[abS.o];rfl)) ?_;refine hK _ _ rfl ⟨⟨_,((aa.refl _ _).drew).aI (.inl rfl)⟩,rfl⟩ ?_;clear hK K;simp only[Act.put,sA9,sB9,sC9]
  iterate 1 (refine aB rfl rfl rfl ?_;intro K hK;go_big_quiet_op;go_big_quiet_on)
  refine cu ?_;simp only[Exit.then];go_wp2_with fail;refine bodyPost_ret (au results10 _ _ Z 47 _ (0,0) _ _ rfl rfl (Qo.o.drew.aI) underlying47 rfl (by kernel_rfl)) rfl ?_;rw[Ct.o];exact⟨.slice none 0 0,(by first |(simp only[HYV.o,HQZ.o];rfl) |(simp only[HYV.o];rfl)),Sl.nil _ _ _,(λk h=>by cases h),(HMT.o.drew).aI (.inr gU.o.2.1)⟩
 |false =>
  refine aZ [0,14] (λw'=>∃e:Ext (Only Z) wT,w'=e.w) (by kernel_rfl) (by kernel_rfl) (by kernel_rfl) ⟨⟨_,(aa.refl _ _).drew⟩,rfl⟩ ?_;refine aF rfl rfl ?_;intro K hK;refine wp_load_row 47 (.tmp 4) rfl X rfl 47 y.cells (0,0) _ HXT.o.drew underlying47 rfl (by kernel_rfl) ?_;refine hK _ _ rfl ⟨⟨_,(aa.refl _ _).drew⟩,rfl⟩ ?_;clear hK K;simp only[Act.put,sA9,sB9,sC9]
  iterate 1 (refine aB rfl rfl rfl ?_;intro K hK;go_big_quiet_op;go_big_quiet_on)
  refine bq rfl rfl _ ⟨P,0,none⟩ rfl rfl ?_;simp only[Act.put,sA9,sB9,sC9]
  iterate 4 (refine aB rfl rfl rfl ?_;intro K hK;go_big_quiet_op;go_big_quiet_on)
  refine eU rfl rfl rfl ?_;intro K hK;go_big_quiet_op;go_big_quiet_on;refine jU rfl rfl _ ⟨P,0,none⟩ rfl rfl ?_;simp only[Act.put,sA9,sB9,sC9]
  iterate 2 (refine eU rfl rfl rfl ?_;intro K hK;go_big_quiet_op;go_big_quiet_on)
  refine DI rfl rfl (.tmp 114) 87 94 rfl oq nq cq rfl underlying87 ?_;simp only[Act.put,sA9,sB9,sC9]
  iterate 1 (refine eU rfl rfl rfl ?_;intro K hK;go_big_quiet_op;go_big_quiet_on)
  generalize hqz:((nq:Int)==0)=qz at *;have HQZ:ae (DK.done ⟨lq,false⟩=qz):=by rw[ae,<-hqz,HNQ.o];exact DH lq
  clear hqz;refine jV rfl rfl _ _ _ _ rfl rfl ?_;simp only[Act.put,Act.eval,sA9,sB9,sC9];refine aF rfl rfl ?_;intro K hK;refine wp_store_row 47 (.tmp 2) (.tmp 104) rfl Z y.cells rfl rfl 47 _ Qo.o.drew (by kernel_rfl) rfl (aj.one _ (by rw[abS.o];rfl)) ?_;refine hK _ _ rfl ⟨⟨_,((aa.refl _ _).drew).aI (.inl rfl)⟩,rfl⟩ ?_;clear hK K;simp only[Act.put,sA9,sB9,sC9]
  iterate 1 (refine aB rfl rfl rfl ?_;intro K hK;go_big_quiet_op;go_big_quiet_on)
  refine cu ?_;simp only[Exit.then];go_wp2_with fail;refine bodyPost_ret (au results10 _ _ Z 47 _ (0,0) _ _ rfl rfl (Qo.o.drew.aI) underlying47 rfl (by kernel_rfl)) rfl ?_;rw[Ct.o];exact⟨.slice none 0 0,(by first |(simp only[HYV.o,HQZ.o];rfl) |(simp only[HYV.o];rfl)),Sl.nil _ _ _,(λk h=>by cases h),(HMT.o.drew).aI (.inr gU.o.2.1)⟩
def DK.takeN:Nat->DK->List aA×DK
 |0,p=>([],p)
 |k+1,p=>((DK.takeN k p).1++[((DK.takeN k p).2.take 100).1.n],((DK.takeN k p).2.take 100).2)
structure DJ(w:tW)(X Z P:Nat)(y:aj)(ns:List aA)(p:DK)(wx:tW):Prop where
 x:aq wx X y.cells 47
 sl:Sl wx 45 3 y.vl ns.length (ns.flatMap aA.dG)
 own:∀k,y.vl.ownBlock=some k->w.heap.size<=k
 pk:Pk wx P p
 z:aq wx Z eB 47
 md:aa af w wx
 pw:w.heap.size<=P
 xw:w.heap.size<=X
 xz:X≠Z
section
variable {w wx wy : World} {X Z P : Nat} {y : aj} {ns : List aA} {p q : DK}
theorem DJ.quiet(h:DJ w X Z P y ns p wx)(m:aa af wx wy):DJ w X Z P y ns p wy :=
 ⟨h.x.ah m id,h.sl.ah m (λ_ _=>id),h.own,h.pk.quiet m,h.z.ah m id,h.md.trans m,h.pw,h.xw,h.xz⟩
theorem DJ.read(h:DJ w X Z P y ns p wx)(k:Pk wy P q)(m:aa (Only P) wx wy):DJ w X Z P y ns q wy:=by obtain⟨v,hb,_⟩:=h.pk;exact⟨h.x.ah m (λe=>hb.apart h.x (by decide) e.symm),h.sl.ah m (λi hi e=>h.sl.az hb (by decide) (by rw[<-show i=P from e];exact hi)),h.own,k,h.z.ah m (λe=>hb.apart h.z (by decide) e.symm),h.md.step m (λi hi e=>by have:=h.pw;rw[show i=P from e]at hi;omega),h.pw,h.xw,h.xz⟩
theorem DJ.app{v':Value}{n:aA}(h:DJ w X Z P y ns p wx)(s:Sl wy 45 3 v' (ns.length+1) (ns.flatMap aA.dG++n.dG))(m:aa (λk=>y.vl.ownBlock=some k) wx wy)(l:∀k,v'.ownBlock=some k->y.vl.ownBlock=some k\/wx.heap.size<=k):DJ w X Z P {y with vl:=v'} (ns++[n]) p (wy.setCell ⟨X,2,none⟩ v'):=by
 have hx:aq wy X y.cells 47:=h.x.ah m (h.sl.az h.x (by decide));have ms:aa (Only X) wy (wy.setCell ⟨X,2,none⟩ v'):=(aa.refl _ _).bP 2 _;have hp:Pk wy P p:=by obtain⟨v,hb,ht⟩:=h.pk;exact⟨v,hb.ah m (h.sl.az hb (by decide)),ht.ah m (λg cs hg=>h.sl.az hg (by decide))⟩
 refine⟨hx.set 2 _,?_,λk hk=>?_,?_,?_,?_,h.pw,h.xw,h.xz⟩
 ·rw[an,List.flatMap_append,List.flatMap_singleton];exact s.ah ms (λi hi e=>s.az hx (by decide) (by rw[<-show i=X from e];exact hi))
 ·rcases l k hk with e|e
  ·exact h.own k e
  ·have:=h.md.size;omega
 ·refine hp.ah ms (λe=>?_) (λg cs hg e=>hg.apart hx (by decide) e);obtain⟨v,hb,_⟩:=hp;exact hb.apart hx (by decide) e
 ·exact(h.z.ah m (h.sl.az h.z (by decide))).ah ms (λe=>h.xz e.symm)
 ·exact(h.md.step m (λi hi e=>by have:=h.own i e;omega)).step ms (λi hi e=>by have:=h.xw;rw[show i=X from e]at hi;omega)
theorem DJ.put{c:Value}{z:aj}(i:Nat)(h:DJ w X Z P y ns p wx)(hi:y.cells.setIfInBounds i c=z.cells)(hv:z.vl=y.vl):DJ w X Z P z ns p (wx.setCell ⟨X,i,none⟩ c):=by
 have ms:aa (Only X) wx (wx.setCell ⟨X,i,none⟩ c):=(aa.refl _ _).bP i _;refine⟨?_,?_,?_,?_,h.z.ah ms (λe=>h.xz e.symm),h.md.step ms (λi hi e=>by have:=h.xw;rw[show i=X from e]at hi;omega),h.pw,h.xw,h.xz⟩
 ·rw[<-hi];exact h.x.set i c
 ·rw[hv];exact h.sl.ah ms (λi hi e=>h.sl.az h.x (by decide) (by rw[<-show i=X from e];exact hi))
 ·rw[hv];exact h.own
 ·obtain⟨v,hb,ht⟩:=h.pk;exact⟨v,hb.ah ms (λe=>hb.apart h.x (by decide) e),ht.ah ms (λg cs hg e=>hg.apart h.x (by decide) e)⟩
end
theorem V6:(prog.info? 45).map (λi=>(i.zero,i.size,i.bytes))=some (some (.agg #[.int .u64 0,.bool false,.bool false]),3,16):=by kernel_rfl
theorem Gz:∀(k:Nat) (p:DK),(DK.takeN k p).1.length=k
 |0,_=>rfl
 |k+1,p=>by rw[DK.takeN,an,Gz k p];rfl
theorem Nn(s:tBA)(w:tW)(hC:∀w,Calls prog 30 #[.string s] w λe w'=>fA w s e w')(pm:qN)(cm:Option (List aY))(hcm:ahP s s.size 0 false []=cm)(t:aY)(r:List aY)(hn:cm=some (t::r))(tq:aY×DK)(VV:ae (tq=(DK.mk (t::r) false).take 110))(hlab:¬((t::r).length=2/\((t::r).getD 1 nS).kind=58))(hsm:tq.2.Small)(hwd:tq.1.s=MAP)(hpm:pm=⟨{kind:=109,name:=tq.2.name.1},(DK.takeN 3 tq.2.name.2).1,(DK.takeN 3 tq.2.name.2).2.done⟩):Calls prog 10 #[.string s] w λe w'=>jF w pm e w':=by
 have HC:=ak hC;have HCM:=ak hcm;clear hC hcm;have CS:=ak hlab;have KQ:=ak hpm;have q1:=dX hwd;have hw0:0<tq.1.s.size:=by rw[hwd];decide
 have hc0:(((tq.1.s)[0]'hw0).toNat:Int)=109:=by revert hw0;rw[hwd];intro h;rfl
 have Gx:ae tq.2.Small:=hsm;clear hlab hpm hsm hwd;have zF:ae (aq (w.alloc (.cells eB 47)) w.heap.size eB 47):=aq.new w _ _;have sU:ae (aa af w (w.alloc (.cells eB 47))):=(aa.refl _ _).alloc _;obtain⟨Z,hZ⟩:∃Z,Z=w.heap.size:=⟨_,rfl⟩
 subst hn;go_enter func10,ntmps10;go_upto_region 1 with fail;generalize w.alloc (.cells eB 47)=wA at *;have gU:ae (Z≠wA.heap.size/\w.heap.size<=Z/\w.heap.size<=wA.heap.size):=by have:=zF.o.lt;rw[ae];omega
 rw[<-hZ]at zF;rw[<-hZ];clear hZ;refine wp_region_lit ?_
 iterate 6 go_step
 refine wpList_store_row rfl 47 (.tmp 4) (.tmp 13) rfl wA.heap.size eB rfl rfl 47 eB (aq.new _ _ _) (by kernel_rfl) rfl (aj.one {} rfl) ?_;simp only[Act.put];go_upto_region 2 with fail;have HZ:ae (aq ((wA.alloc (.cells eB 47)).setRow wA.heap.size eB) Z eB 47):=(zF.o.alloc _).qO gU.o.1;have HX:ae (aq ((wA.alloc (.cells eB 47)).setRow wA.heap.size eB) wA.heap.size ({}:aj).cells 47):=aq.aI (aq.new _ _ _);have KO:ae (aa af w ((wA.alloc (.cells eB 47)).setRow wA.heap.size eB)):=(sU.o.alloc _).aI (.inr gU.o.2.2);clear zF sU;generalize(wA.alloc (.cells eB 47)).setRow wA.heap.size eB=w1 at *;generalize wA.heap.size=X at *;go_wp2_with fail;refine(HC.o _).mono ?_;rintro e w2 ⟨m2,h2⟩;have HZ2:ae (aq w2 Z eB 47):=HZ.o.ah (S:=af) m2 id;have uH:ae (aq w2 X ({}:aj).cells 47):=HX.o.ah (S:=af) m2 id;have ep:=ak (KO.o.trans m2);rw[HCM.o]at h2;clear HZ HX KO HC;simp only at h2;obtain⟨v,rfl,hT⟩:=h2;obtain⟨o,cap,rfl,_⟩:=hT.sl.view;obtain⟨g,rfl,VW,hg,hkd,hcap,hmax⟩:=hT.tks (by simp);have Gl:=ak hkd;obtain⟨n,hn⟩:∃n,n=(t::r).length:=⟨_,rfl⟩
 have HN:=ak hn;have VX:ae (wm w2 (.slice (some ⟨g,0,none⟩) n cap) (t::r)):=by rw[ae,hn];exact VW
 have hn0:0<n:=by rw[hn];simp
 have hn1:((n:Int)==0)=false:=by simp;omega
 rw[<-hn]at hcap;rw[<-hn];unfold maxLen at hmax;clear hT VW hkd hn;go_upto_region 6 with fail;have Qn:ae (aq (w2.alloc (.cells #[.slice (some ⟨g,0,none⟩) n cap,.bool false] 92)) w2.heap.size #[.slice (some ⟨g,0,none⟩) n cap,.bool false] 92):=aq.new _ _ _;have Dz:ae (wm (w2.alloc (.cells #[.slice (some ⟨g,0,none⟩) n cap,.bool false] 92)) (.slice (some ⟨g,0,none⟩) n cap) (t::r)):=VX.o.quiet ((aa.refl _ _).alloc _);have HZ3:ae (aq (w2.alloc (.cells #[.slice (some ⟨g,0,none⟩) n cap,.bool false] 92)) Z eB 47):=HZ2.o.alloc _;have oK:ae (aq (w2.alloc (.cells #[.slice (some ⟨g,0,none⟩) n cap,.bool false] 92)) X ({}:aj).cells 47):=uH.o.alloc _;have fw:ae (aa af w (w2.alloc (.cells #[.slice (some ⟨g,0,none⟩) n cap,.bool false] 92))):=ep.o.alloc _;have VY:ae (∀i,(w2.alloc (.cells #[.slice (some ⟨g,0,none⟩) n cap,.bool false] 92)).cell? ⟨g,i,none⟩=w2.cell? ⟨g,i,none⟩):=λi=>by simp only[World.cell?];rw[Below.heap_alloc _ _ _ hg]
 have xX:ae (w.heap.size<=w2.heap.size/\Z≠w2.heap.size/\X≠w2.heap.size/\g≠w2.heap.size):=by have:=ep.o.size;have:=HZ2.o.lt;have:=uH.o.lt;rw[ae];omega
 clear VX HZ2 uH ep hg;generalize w2.alloc (.cells #[.slice (some ⟨g,0,none⟩) n cap,.bool false] 92)=w3 at *;have xC:ae (∀i (hi:i<(t::r).length),w3.cell? ⟨g,i*5,none⟩=some (.int .u8 (t::r)[i].kind)):=λi hi=>by rw[VY.o];exact Gl.o i hi
 clear Gl VY;generalize w2.heap.size=P at *;have VZ:ae (Pk w3 P ⟨t::r,false⟩):=⟨_,Qn.o,Dz.o⟩
 have Nk:=gI P ⟨t::r,false⟩ 110 w3 VZ.o;have V3:ae (Calls prog 31 #[.pointer (some ⟨P,0,none⟩),.int .u8 110] w3 λe w'=>e=.returned (.agg #[.int .u8 tq.1.kind,.string tq.1.s,.int .u64 ((tq.1.n.v%18446744073709551616:Nat):Int),.bool (decide (18446744073709551616<=tq.1.n.v)),.bool tq.1.n.minus])/\Pk w' P tq.2/\aa (Only P) w3 w'):=by rw[<-VV.o]at Nk;exact Nk
 clear Nk VV Qn Dz VZ;obtain⟨⟨kd,word,⟨vv,mi⟩⟩,p1⟩:=tq;simp only at *;generalize((vv%18446744073709551616:Nat):Int)=uu at *;generalize decide (18446744073709551616<=vv)=bg at *;go_wp2_with fail;refine V3.o.mono ?_;rintro e w4 ⟨rfl,k4,m4⟩;have Yj:=ak k4;have Sc:ae (aq w4 Z eB 47):=HZ3.o.ah (S:=Only P) m4 xX.o.2.1;have xE:ae (aq w4 X ({}:aj).cells 47):=oK.o.ah (S:=Only P) m4 xX.o.2.2.1;have jJ:ae (aa af w w4):=fw.o.step m4 (λi hi e=>by have:=xX.o.1;rw[show i=P from e]at hi;omega);have BH:ae (∀i (hi:i<(t::r).length),w4.cell? ⟨g,i*5,none⟩=some (.int .u8 (t::r)[i].kind)):=λi hi=>by rw[<-xC.o i hi];simp only[World.cell?];have hlt:g<w3.heap.size:=block_lt_of_cell (xC.o i hi);rw[m4.block g hlt xX.o.2.2.2]
 clear HZ3 oK fw xC V3 k4 m4;have hfd:∀W,(Instr.field 94 (.agg #[.int .u8 kd,.string word,.int .u64 uu,.bool bg,.bool mi]) 1).run prog W=.ok (.string word) W:=λW=>tu W _ _ _ _ _;obtain⟨ql,V4⟩:∃ql:Bool,ql=decide ((t::r).length=2/\((t::r).getD 1 nS).kind=58):=⟨_,rfl⟩
 have xY:=ak V4;clear V4;go_upto_region 7 with fail;go_cut [43] (λv wx=>v=.bool ql/\wx=w4)
 case first =>
  by_cases h2:n=2
  ·have hl2:(t::r).length=2:=by rw[<-HN.o];exact h2
   have hk:=BH.o 1 (by omega);simp only[ao]at hk;have Jk:ae (((t::r).getD 1 nS).kind=((t::r)[1]'(by omega)).kind):=by rw[ae,List.getD_eq_getElem?_getD,List.getElem?_eq_getElem (by omega)];rfl
   have h2':((n:Int)==2)=true:=by simp;omega
   by_cases uK:((t::r)[1]'(by omega)).kind=58
   ·have qI:ae (ql=true):=by rw[ae,xY.o,decide_eq_true ⟨hl2,Jk.o.trans uK⟩]
    rw[uK]at hk;clear xY Jk hl2 uK;have h1n:(1:Int)<n:=by omega
    go_wp2_with fail;go_meet;exact⟨by rw[qI.o],rfl⟩
   ·have qI:ae (ql=false):=by rw[ae,xY.o,decide_eq_false (λe=>uK (Jk.o.symm.trans e.2))]
    have hk1:(((((t::r)[1]'(by omega)).kind:Nat):Int)==58)=false:=by rw[beq_eq_false_iff_ne];exact λe=>uK (Int.ofNat_inj.1 e)
    generalize((t::r)[1]'(by omega)).kind=k1 at *;clear xY Jk hl2 uK;have h1n:(1:Int)<n:=by omega
    go_wp2_with fail;go_meet;exact⟨by rw[qI.o],rfl⟩
  ·have qI:ae (ql=false):=by rw[ae,xY.o,decide_eq_false (λe=>h2 (by rw[HN.o];exact e.1))]
   have h2':((n:Int)==2)=false:=by simp;omega
   go_wp2_with fail;go_meet;exact⟨by rw[qI.o],rfl⟩
 case rest =>
 obtain⟨rfl,rfl⟩:=hcut;obtain rfl:ql=false:=by rw[xY.o,decide_eq_false CS.o]
 clear xY CS BH HN;have hXZ:¬X=Z:=λe=>gU.o.1 e.symm;have qu:ae (DJ w X Z P {} [] p1 wc):=⟨xE.o,Sl.nil _ _ _,(λk h=>by cases h),Yj.o,Sc.o,jJ.o,xX.o.1,gU.o.2.2,hXZ⟩
 have xZ:ae (DJ w X Z P {kind:=109} [] p1 (wc.setCell ⟨X,0,none⟩ (.int .u8 109))):=qu.o.put 0 rfl rfl;have x0:wc.cell? ⟨X,0,none⟩=some (.int .u8 0):=xE.o.cell 0;have fx:=xE.o.frozen;clear xE Sc jJ Yj hfd;go_upto_region 15 with fail;generalize wc.setCell ⟨X,0,none⟩ (.int .u8 109)=w5 at *;clear qu x0 fx hc0;have HNM:ae (Calls prog 34 #[.pointer (some ⟨P,0,none⟩)] w5 λe w'=>e=.returned (.string p1.name.1)/\Pk w' P p1.name.2/\aa (Only P) w5 w'):=AF P p1 w5 xZ.o.pk Gx.o;generalize p1.name=nq at *;obtain⟨nm,p2⟩:=nq;simp only at *;go_wp2_with fail;refine HNM.o.mono ?_;rintro e w6 ⟨rfl,k6,m6⟩;have uq:=ak (xZ.o.read k6 m6);clear xZ HNM k6 m6;have x1:w6.cell? ⟨X,1,none⟩=some (.string E0):=uq.o.x.cell 1;have fx:=uq.o.x.frozen;have Sg:ae (DJ w X Z P {kind:=109,name:=nm} [] p2 (w6.setCell ⟨X,1,none⟩ (.string nm))):=uq.o.put 1 rfl rfl;go_upto_block 0 with fail;generalize w6.setCell ⟨X,1,none⟩ (.string nm)=w7 at *;clear uq x1 fx;obtain⟨iN,hiN,hzN,hsN,hbN⟩:=info_parts V6;go_cut [] (λwx=>∃vl,DJ w X Z P {kind:=109,name:=nm,vl:=vl} (DK.takeN 3 p2).1 (DK.takeN 3 p2).2 wx)
 case first =>
  go_wp2_with fail;go_loopg [11] 3 (λc v wx=>∃(k:Nat) (vl:Value),k<=3/\v=.int .i64 k/\DJ w X Z P {kind:=109,name:=nm,vl:=vl} (DK.takeN k p2).1 (DK.takeN k p2).2 wx/\c=3-k)
  case atStart=>exact⟨0,.slice none 0 0,by omega,rfl,Sg.o,rfl⟩
  case round =>
   obtain⟨k,vl,hk,rfl,hS,rfl⟩:=hrel;have HS:=ak hS;clear hS Sg;by_cases hk3:k<3
   ·have Mx:ae (DK.takeN (k+1) p2=((DK.takeN k p2).1++[((DK.takeN k p2).2.take 100).1.n],((DK.takeN k p2).2.take 100).2)):=rfl;have x8:ae ((DK.takeN k p2).1.length=k):=Gz k p2;generalize DK.takeN k p2=tn at *;obtain⟨ns,pk⟩:=tn;simp only at *;have HT:=gI P pk 100 wr HS.o.pk;generalize pk.take 100=tk at *;obtain⟨⟨k0,ss,nn⟩,pk2⟩:=tk;simp only at *;have HNC:ae (nn.dG=[.int .u64 ((nn.v%18446744073709551616:Nat):Int),.bool (decide (18446744073709551616<=nn.v)),.bool nn.minus]):=rfl;generalize((nn.v%18446744073709551616:Nat):Int)=u2 at *;generalize decide (18446744073709551616<=nn.v)=b2 at *;generalize nn.minus=m2' at *;have Qk:=ak HT;clear HT;go_wp2_with fail;refine Qk.o.mono ?_;rintro e w8 ⟨rfl,k8,m8⟩;have HS8:ae (DJ w X Z P {kind:=109,name:=nm,vl:=vl} ns pk2 (w8.alloc (.cells #[.int .u8 k0,.string ss,.int .u64 u2,.bool b2,.bool m2'] 94))):=(HS.o.read k8 m8).quiet ((aa.refl _ _).alloc _);have HB8:ae (aq (w8.alloc (.cells #[.int .u8 k0,.string ss,.int .u64 u2,.bool b2,.bool m2'] 94)) w8.heap.size #[.int .u8 k0,.string ss,.int .u64 u2,.bool b2,.bool m2'] 94):=aq.new _ _ _;clear HS Qk k8 m8;go_upto_region 20 with fail;generalize w8.alloc (.cells #[.int .u8 k0,.string ss,.int .u64 u2,.bool b2,.bool m2'] 94)=w9 at *;generalize w8.heap.size=Y at *;have y2:w9.cell? ⟨Y,2,none⟩=some (.int .u64 u2):=HB8.o.cell 2;have y3:w9.cell? ⟨Y,3,none⟩=some (.bool b2):=HB8.o.cell 3;have y4:w9.cell? ⟨Y,4,none⟩=some (.bool m2'):=HB8.o.cell 4;obtain⟨ov,cv,hvv,_⟩:=HS8.o.sl.view;simp only at hvv;subst hvv;have x2:w9.cell? ⟨X,2,none⟩=some (.slice ov ns.length cv):=HS8.o.x.cell 2;have HSA:ae (DJ w X Z P {kind:=109,name:=nm,vl:=.slice ov ns.length cv} ns pk2 (w9.alloc (.cells #[.int .u64 u2,.bool b2,.bool m2'] 45))):=HS8.o.quiet ((aa.refl _ _).alloc _);go_wp2_with (at_builtin;refine aJ _ rfl (.tmp 80) (.tmp 83) 40 rfl 45 iN (.agg #[.int .u64 0,.bool false,.bool false]) 3 16 underlying40 hiN hzN hsN hbN rfl (by decide) (.slice ov ns.length cv) ns.length (ns.flatMap aA.dG) rfl HSA.o.sl ⟨w9.heap.size,0,none⟩ 1 1 nn.dG rfl rfl (by rw[HNC.o];exact aT _ _ _ _ (by simp)) (by rw[HNC.o];exact λu hu=>by simp at hu;rcases hu with rfl|rfl|rfl<;>rfl) (by have:=x8.o;unfold maxLen;omega) (by have:=x8.o;omega) ?_;intro v5 w10 s5 m5 l5;have ac9:=(HSA.o.x.ah m5 (HSA.o.sl.az HSA.o.x (by decide)));have xx2:w10.cell? ⟨X,2,none⟩=some (.slice ov ns.length cv):=ac9.cell 2;have xf:=ac9.frozen;obtain⟨o5,c5,hv5,_⟩:=s5.view;subst hv5);have aeC:ae (DJ w X Z P {kind:=109,name:=nm,vl:=.slice o5 (ns.length+1) c5} (ns++[nn]) pk2 (w10.setCell ⟨X,2,none⟩ (.slice o5 (ns.length+1) c5))):=HSA.o.app s5 m5 l5;go_roundg (3-(k+1))
    case measure=>omega
    case rel=>exact⟨k+1,_,by omega,by go_num,by rw[Mx.o];exact aeC.o,rfl⟩
   ·obtain rfl:k=3:=by omega
    go_wp2_with fail;go_meet;exact⟨vl,HS.o⟩
 case rest =>
 obtain⟨wT,hwT⟩:∃wT,wT=wc:=⟨_,rfl⟩
 rw[<-hwT]at hcut ⊢;obtain⟨vl,hS⟩:=hcut;have abT:=ak KQ.o;generalize DK.takeN 3 p2=tn at *;obtain⟨ns,q⟩:=tn;simp only at hS abT;have HST:=ak hS;have Ct:=ak abT.o;clear hS Sg hwT KQ abT;obtain⟨ov,cv,hvv,_⟩:=HST.o.sl.view;simp only at hvv;have HVV:=ak hvv;clear hvv;obtain⟨y,hy⟩:∃y:aj,y={kind:=109,name:=nm,vl:=vl}:=⟨_,rfl⟩
 have HY:=ak hy;rw[<-hy]at HST;clear hy;have HXT:=ak HST.o.x;have HKT:=ak HST.o.pk;have Qo:=ak HST.o.z;have HMT:=ak HST.o.md;obtain⟨lq,bad⟩:=q;obtain⟨vq,hbq,htq⟩:=HKT.o;obtain⟨oq,cq,rfl,_⟩:=htq;simp only at hbq;have hPZ:¬P=Z:=λe=>xX.o.2.1 e.symm;have HQ:=ak hbq;clear hbq;obtain⟨nq,V5⟩:∃nq,nq=lq.length:=⟨_,rfl⟩
 have HNQ:=ak V5;rw[<-V5]at HQ;clear V5;have e0:∀g:Ext (Only Z) wT,g.w.cell? ⟨P,0,none⟩=some (.slice oq nq cq):=λg=>g.cell HQ.o hPZ 0;have e1:∀g:Ext (Only Z) wT,g.w.cell? ⟨P,1,none⟩=some (.bool bad):=λg=>g.cell HQ.o hPZ 1;have ne1:=Ext.ne (Only Z) wT;go_upto_region 21 with fail;cases bad with
 |true =>
  refine aZ [0,14] (λw'=>∃e:Ext (Only Z) wT,w'=e.w) (by kernel_rfl) (by kernel_rfl) (by kernel_rfl) ⟨⟨_,(aa.refl _ _).drew⟩,rfl⟩ ?_;refine aF rfl rfl ?_;intro K hK;refine wp_load_row 47 (.tmp 4) rfl X rfl 47 y.cells (0,0) _ HXT.o.drew underlying47 rfl (by kernel_rfl) ?_;refine hK _ _ rfl ⟨⟨_,(aa.refl _ _).drew⟩,rfl⟩ ?_;clear hK K;simp only[Act.put,sA9,sB9,sC9]
  iterate 1 (refine aB rfl rfl rfl ?_;intro K hK;go_big_quiet_op;go_big_quiet_on)
  refine bq rfl rfl _ ⟨P,0,none⟩ rfl rfl ?_;simp only[Act.put,sA9,sB9,sC9]
  iterate 4 (refine aB rfl rfl rfl ?_;intro K hK;go_big_quiet_op;go_big_quiet_on)
  iterate 6 (refine uW rfl ?_;simp only[Act.put,sA9,sB9,sC9])
  refine jV rfl rfl _ _ _ _ rfl rfl ?_;simp only[Act.put,Act.eval,sA9,sB9,sC9];refine aF rfl rfl ?_;intro K hK;refine wp_store_row 47 (.tmp 2) (.tmp 86) rfl Z y.cells rfl rfl 47 _ Qo.o.drew (by kernel_rfl) rfl (aj.one _ (by rw[HY.o];simp only[HVV.o];rfl)) ?_;refine hK _ _ rfl ⟨⟨_,((aa.refl _ _).drew).aI (.inl rfl)⟩,rfl⟩ ?_;clear hK K;simp only[Act.put,sA9,sB9,sC9]
  iterate 1 (refine aB rfl rfl rfl ?_;intro K hK;go_big_quiet_op;go_big_quiet_on)
  refine cu ?_;simp only[Exit.then];go_wp2_with fail;refine bodyPost_ret (au results10 _ _ Z 47 _ (0,0) _ _ rfl rfl (Qo.o.drew.aI) underlying47 rfl (by kernel_rfl)) rfl ?_;rw[Ct.o];exact⟨vl,(by first |(simp only[HY.o,HQZ.o];rfl) |(simp only[HY.o];rfl)),(by have h:=HST.o.sl.ah (S:=Only Z) (((aa.refl _ _).drew).aI (ds:=y.cells) (.inl rfl)) (λi hi e=>HST.o.sl.az HST.o.z (by decide) (by rw[<-show i=Z from e];exact hi));simp only[HY.o]at h ⊢;exact h),(λk hk=>HST.o.own k (by rw[HY.o];exact hk)),(HMT.o.drew).aI (.inr gU.o.2.1)⟩
 |false =>
  refine aZ [0,14] (λw'=>∃e:Ext (Only Z) wT,w'=e.w) (by kernel_rfl) (by kernel_rfl) (by kernel_rfl) ⟨⟨_,(aa.refl _ _).drew⟩,rfl⟩ ?_;refine aF rfl rfl ?_;intro K hK;refine wp_load_row 47 (.tmp 4) rfl X rfl 47 y.cells (0,0) _ HXT.o.drew underlying47 rfl (by kernel_rfl) ?_;refine hK _ _ rfl ⟨⟨_,(aa.refl _ _).drew⟩,rfl⟩ ?_;clear hK K;simp only[Act.put,sA9,sB9,sC9]
  iterate 1 (refine aB rfl rfl rfl ?_;intro K hK;go_big_quiet_op;go_big_quiet_on)
  refine bq rfl rfl _ ⟨P,0,none⟩ rfl rfl ?_;simp only[Act.put,sA9,sB9,sC9]
  iterate 4 (refine aB rfl rfl rfl ?_;intro K hK;go_big_quiet_op;go_big_quiet_on)
  refine eU rfl rfl rfl ?_;intro K hK;go_big_quiet_op;go_big_quiet_on;refine jU rfl rfl _ ⟨P,0,none⟩ rfl rfl ?_;simp only[Act.put,sA9,sB9,sC9]
  iterate 2 (refine eU rfl rfl rfl ?_;intro K hK;go_big_quiet_op;go_big_quiet_on)
  refine DI rfl rfl (.tmp 96) 87 94 rfl oq nq cq rfl underlying87 ?_;simp only[Act.put,sA9,sB9,sC9]
  iterate 1 (refine eU rfl rfl rfl ?_;intro K hK;go_big_quiet_op;go_big_quiet_on)
  generalize hqz:((nq:Int)==0)=qz at *;have HQZ:ae (DK.done ⟨lq,false⟩=qz):=by rw[ae,<-hqz,HNQ.o];exact DH lq
  clear hqz;refine jV rfl rfl _ _ _ _ rfl rfl ?_;simp only[Act.put,Act.eval,sA9,sB9,sC9];refine aF rfl rfl ?_;intro K hK;refine wp_store_row 47 (.tmp 2) (.tmp 86) rfl Z y.cells rfl rfl 47 _ Qo.o.drew (by kernel_rfl) rfl (aj.one _ (by rw[HY.o];simp only[HVV.o];rfl)) ?_;refine hK _ _ rfl ⟨⟨_,((aa.refl _ _).drew).aI (.inl rfl)⟩,rfl⟩ ?_;clear hK K;simp only[Act.put,sA9,sB9,sC9]
  iterate 1 (refine aB rfl rfl rfl ?_;intro K hK;go_big_quiet_op;go_big_quiet_on)
  refine cu ?_;simp only[Exit.then];go_wp2_with fail;refine bodyPost_ret (au results10 _ _ Z 47 _ (0,0) _ _ rfl rfl (Qo.o.drew.aI) underlying47 rfl (by kernel_rfl)) rfl ?_;rw[Ct.o];exact⟨vl,(by first |(simp only[HY.o,HQZ.o];rfl) |(simp only[HY.o];rfl)),(by have h:=HST.o.sl.ah (S:=Only Z) (((aa.refl _ _).drew).aI (ds:=y.cells) (.inl rfl)) (λi hi e=>HST.o.sl.az HST.o.z (by decide) (by rw[<-show i=Z from e];exact hi));simp only[HY.o]at h ⊢;exact h),(λk hk=>HST.o.own k (by rw[HY.o];exact hk)),(HMT.o.drew).aI (.inr gU.o.2.1)⟩
