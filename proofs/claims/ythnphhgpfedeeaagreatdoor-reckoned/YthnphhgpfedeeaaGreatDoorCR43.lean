import Derived.Test.YthnphhgpfedeeaaGreatDoorCR42
namespace Go.Proofs.YthnphhgpfedeeaaGreatDoor
open Go.RowKit Tryz
open List renaming length_append->ab,length_cons->an,mem_of_mem_take->ba,length_map->bh,take_of_length_le->bj,mem_of_mem_drop->bt,getElem_mem->b9
open Nat renaming le_refl->al,pow_add->b5
open Option renaming getD_some->ao,map_some->ar,map_none->ca
set_option linter.all false
set_option maxRecDepth 100000
set_option maxHeartbeats 1000000
theorem run_loadVar_rowM{P:Program}(w:tW)(g off:Nat)(ty:TypeId)(cs:tAV)(d:TypeDesc)(hc:∀j (h:j<cs.size),w.cell? ⟨g,off+j,none⟩=some cs[j])(hu:P.underlying ty=some d) (hd:(match (generalizing:=false) d with|.struct _|.array _ _=>true|_=>false)=true) (hi:(P.info? ty).map (·.size)=some cs.size):(loadVar ty ⟨g,off,none⟩).run P w=.ok (.agg cs) w:=by
 have hl:(loadCells ⟨g,off,none⟩ cs.toList.length).run P w=.ok cs.toList.toArray w :=
  run_loadCells_list (P:=P) w ⟨g,off,none⟩ cs.toList (λj v hv=>by
   have hadd:(⟨g,off,none⟩:Addr).add j=⟨g,off+j,none⟩:=by unfold Addr.add;split<;>simp_all
   obtain⟨hj,hv⟩:=List.getElem?_eq_some_iff.1 hv;rw[hadd,hc j (by simpa using hj)]
   simpa using hv)
 cases hq:P.info? ty with
 |none=>simp[hq]at hi
 |some i =>
  have hs:i.size=cs.size:=by simpa [hq]using hi
  have hagg:(isAgg ty).run P w=.ok true w:=by unfold isAgg;rw[Sem.run_bind,run_underlying hu w];cases d<;>simp_all
  simp only[Array.length_toList,Array.toArray_toList]at hl;simp[loadVar,Sem.run_bind,hagg,sizeOf,typeInfo,hq,hs,hl]
theorem oW{P:Program}{ops:Array Oper}{rest:List Oper}{o:Oper}{a:Act}{w:tW}{Q:Exit->Act->tW->Prop}(hgd:o.guard=none)(ty:TypeId)(x:Operand)(ho:o.op=.load ty x)(g off:Nat) (hx:a.eval x=.pointer (some ⟨g,off,none⟩)) (cs:tAV) (d:TypeDesc) (hc:∀j (h:j<cs.size),w.cell? ⟨g,off+j,none⟩=some cs[j])(hu:P.underlying ty=some d) (hd:(match (generalizing:=false) d with|.struct _|.array _ _=>true|_=>false)=true) (hi:(P.info? ty).map (·.size)=some cs.size)(h:wpList P ops Q rest (a.put o.dst (.agg cs)) w):wpList P ops Q (o::rest) a w :=
 wpList_plain hgd λ_ hK=>by unfold Oper.wp execOp;simp only[ho,hx,Instr.loadAt,Instr.sureAddr,Sem.run_bind,Sem.run_pure,Result.andThen_ok,run_loadVar_rowM w g off ty cs d hc hu hd hi];exact hK _ _ h
theorem dF{P:Program}{ops:Array Oper}{rest:List Oper}{o:Oper}{a:Act}{w:tW}{Q:Exit->Act->tW->Prop}(hgd:o.guard=none)(ty:TypeId)(x y:Operand)(ho:o.op=.store ty x y)(g:Nat) (cells:tAV) (hx:a.eval x=.pointer (some ⟨g,0,none⟩)) (hy:a.eval y=.agg cells)(t:TypeId) (old:tAV) (hg:ak w g old t) (hi:(P.info? ty).map (·.size)=some cells.size)(hold:old.size=cells.size) (h1:cells.all (·.oneCell')=true)(h:∀W,ak W g cells t->aa (Only g) w W->wpList P ops Q rest (a.put o.dst undef) W):wpList P ops Q (o::rest) a w :=
 wpList_store_row hgd ty x y ho g cells hx hy t old hg hi hold h1 (h _ (setRow_heap w g old cells t (0,0) hg) (zA cells))
def aC.mo(r:aC)(fn k:Nat):aC:=(r.enter fn k).kP 1 ((r.top.regs.drop 1).take 5)
def kQ(v:MV)(j:Int):Nat:=(((v.bits:Int)+j)%18446744073709551616).toNat
theorem Ms(v:MV)(j:Int):IntKind.u64.wrap (↑v.bits+IntKind.u64.wrap j)=((kQ v j:Nat):Int):=by unfold kQ;rw[Int.toNat_of_nonneg (Int.emod_nonneg _ (by omega))];simp only[IntKind.wrap,IntKind.bits,IntKind.signed];simp
theorem DQ(a:Nat)(h:a<9223372036854775808):RowKit.wrap64 ((a:Nat):Int)=a:=by unfold RowKit.wrap64;omega
theorem Qv(a:Nat)(h:9223372036854775808<=a)(h':a<18446744073709551616):RowKit.wrap64 ((a:Nat):Int)<0:=by unfold RowKit.wrap64;omega
theorem aaP(v:MV)(j:Int):kQ v j<18446744073709551616:=by unfold kQ;omega
theorem DR(w:tW)(rb mb:List Nat)(v:MV)(q:Nat)(hq:v.aD=some q)(rq:v.so=2)(g n cap:Nat)(hG:ak w (rb.getD q 0) #[.slice (some ⟨g,0,none⟩) n cap] 122)(hn:n<=1000)(hcap:n<=cap)(j:Int)(s:Nat)(hs:0<s/\s<=8)(hok:kQ v j+s<=n):Calls prog 286 #[.agg (v.cells rb mb).toArray,.int .i16 j,.int .i64 s] w λe w'=>e=.returned (.slice (some ⟨g,kQ v j,none⟩) s (cap-kQ v j))/\aa ae w w':=by
 have HW:af (∀w',Calls prog 282 #[.agg #[.int .i64 v.so,.int .u64 v.bits,.pointer (v.aD.map λr=>⟨rb.getD r 0,0,none⟩),.pointer (v.tab.map λt=>⟨mb.getD t 0,0,none⟩)],.int .i64 2] w' λe w''=>e=.returned (.tuple #[])/\aa ae w' w''):=λw'=>BV w' rb mb v 2 rq;show Calls _ _ #[.agg #[.int .i64 v.so,.int .u64 v.bits,.pointer (v.aD.map λr=>⟨rb.getD r 0,0,none⟩),.pointer (v.tab.map λt=>⟨mb.getD t 0,0,none⟩)],_,_] _ _
 rw[hq]at HW ⊢;simp only[ar]at HW ⊢;have HGG:af (∀w',aa ae w w'->ak w' (rb.getD q 0) #[.slice (some ⟨g,0,none⟩) n cap] 122):=λw' m=>hG.ag m id;have hX:RowKit.wrap64 (IntKind.u64.wrap (↑v.bits+IntKind.u64.wrap j))=((kQ v j:Nat):Int):=by rw[Ms,DQ _ (by omega)]
 generalize kQ v j=A at *;have hne:¬cap=A:=by omega
 clear hG rq hq;generalize rb.getD q 0=R at *;generalize v.tab.map (λt=>(⟨mb.getD t 0,0,none⟩:Addr))=p3 at *;have HB:af (ak (w.alloc (.cells #[.int .i64 v.so,.int .u64 v.bits,.pointer (some ⟨R,0,none⟩),.pointer p3] 130)) w.heap.size #[.int .i64 v.so,.int .u64 v.bits,.pointer (some ⟨R,0,none⟩),.pointer p3] 130):=ak.new _ _ _;have HM:af (aa ae w (w.alloc (.cells #[.int .i64 v.so,.int .u64 v.bits,.pointer (some ⟨R,0,none⟩),.pointer p3] 130))):=aj;go_enter func286,ntmps286;go_wp2_with fail;refine(HW.o _).mono ?_;rintro e w1 ⟨rfl,m1⟩;have dh:af (aa ae w w1):=HM.o.trans m1;have hB1:=HB.o.ag m1 id;have y1:w1.cell? ⟨w.heap.size,1,none⟩=some (.int .u64 v.bits):=hB1.cell 1;have y2:w1.cell? ⟨w.heap.size,2,none⟩=some (.pointer (some ⟨R,0,none⟩)):=hB1.cell 2;have z0:w1.cell? ⟨R,0,none⟩=some (.slice (some ⟨g,0,none⟩) n cap):=(HGG.o w1 dh.o).cell 0;clear HM HB HW m1 hB1;go_wp2_with fail;go_ret;exact⟨by rw[show A+s-A=s by omega];rfl,dh.o⟩
theorem UL(w:tW)(rb mb:List Nat)(v:MV)(q:Nat)(hq:v.aD=some q)(rq:v.so=2)(o:Option Addr)(n cap:Nat)(hG:ak w (rb.getD q 0) #[.slice o n cap] 122)(hn:n<=1000)(j:Int)(s:Nat)(hs:0<s/\s<=8)(hok:¬kQ v j+s<=n):Calls prog 286 #[.agg (v.cells rb mb).toArray,.int .i16 j,.int .i64 s] w λe w'=>e=aX 3/\aa ae w w':=by
 have HW:af (∀w',Calls prog 282 #[.agg #[.int .i64 v.so,.int .u64 v.bits,.pointer (v.aD.map λr=>⟨rb.getD r 0,0,none⟩),.pointer (v.tab.map λt=>⟨mb.getD t 0,0,none⟩)],.int .i64 2] w' λe w''=>e=.returned (.tuple #[])/\aa ae w' w''):=λw'=>BV w' rb mb v 2 rq;show Calls _ _ #[.agg #[.int .i64 v.so,.int .u64 v.bits,.pointer (v.aD.map λr=>⟨rb.getD r 0,0,none⟩),.pointer (v.tab.map λt=>⟨mb.getD t 0,0,none⟩)],_,_] _ _
 rw[hq]at HW ⊢;simp only[ar]at HW ⊢;have HGG:af (∀w',aa ae w w'->ak w' (rb.getD q 0) #[.slice o n cap] 122):=λw' m=>hG.ag m id
 have hX:RowKit.wrap64 (IntKind.u64.wrap (↑v.bits+IntKind.u64.wrap j))<0\/(n:Int)-s<RowKit.wrap64 (IntKind.u64.wrap (↑v.bits+IntKind.u64.wrap j)):=by
  rw[Ms];rcases Nat.lt_or_ge (kQ v j) 9223372036854775808 with h|h
  ·rw[DQ _ h];omega
  ·exact .inl (Qv _ h (aaP v j))
 obtain⟨A,hE⟩:∃A:Int,RowKit.wrap64 (IntKind.u64.wrap (↑v.bits+IntKind.u64.wrap j))=A:=⟨_,rfl⟩
 rw[hE]at hX;clear hG rq hq;generalize rb.getD q 0=R at *;generalize v.tab.map (λt=>(⟨mb.getD t 0,0,none⟩:Addr))=p3 at *;have HB:af (ak (w.alloc (.cells #[.int .i64 v.so,.int .u64 v.bits,.pointer (some ⟨R,0,none⟩),.pointer p3] 130)) w.heap.size #[.int .i64 v.so,.int .u64 v.bits,.pointer (some ⟨R,0,none⟩),.pointer p3] 130):=ak.new _ _ _;have HM:af (aa ae w (w.alloc (.cells #[.int .i64 v.so,.int .u64 v.bits,.pointer (some ⟨R,0,none⟩),.pointer p3] 130))):=aj;go_enter func286,ntmps286;go_wp2_with fail;refine(HW.o _).mono ?_;rintro e w1 ⟨rfl,m1⟩;have dh:af (aa ae w w1):=HM.o.trans m1;have hB1:=HB.o.ag m1 id;have y1:w1.cell? ⟨w.heap.size,1,none⟩=some (.int .u64 v.bits):=hB1.cell 1;have y2:w1.cell? ⟨w.heap.size,2,none⟩=some (.pointer (some ⟨R,0,none⟩)):=hB1.cell 2;have z0:w1.cell? ⟨R,0,none⟩=some (.slice o n cap):=(HGG.o w1 dh.o).cell 0;clear HM HB HW m1 hB1;rcases hX with hX|hX
 ·go_wp2_with fail;exact⟨rfl,rfl,dh.o⟩
 ·rcases(by omega:A<0\/0<=A)with hA|hA
  ·go_wp2_with fail;exact⟨rfl,rfl,dh.o⟩
  ·go_wp2_with fail;exact⟨rfl,rfl,dh.o⟩
def leN:List Nat->Nat
 |[]=>0
 |b::l=>b+256*leN l
theorem Yk(l:List Nat)(b:Nat):leN (l++[b])=leN l+b*2 ^ (8*l.length):=by
 induction l with
 |nil=>simp[leN]
 |cons x l ih =>rw[List.cons_append,leN,leN,ih,an,Nat.mul_add,show 8*(l.length+1)=8*l.length+8 by omega,b5];have:(2:Nat) ^ 8=256:=rfl;rw[this,Nat.add_assoc];congr 2;rw[Nat.mul_comm 256,Nat.mul_assoc]
theorem aaQ(l:List Nat)(h:∀b∈l,b<256):leN l<2 ^ (8*l.length):=by
 induction l with
 |nil=>simp[leN]
 |cons x l ih =>have h1:=h x (by simp);have h2:=ih (λb hb=>h b (by simp[hb]));rw[leN,an,show 8*(l.length+1)=8*l.length+8 by omega,b5];have:(2:Nat) ^ 8=256:=rfl;rw[this];omega
theorem UM(a b k:Nat)(ha:a<2 ^ (8*k))(hb:b<256)(hk:k<8):bits BinOp.or IntKind.u64 (a:Int) (IntKind.u64.wrap (IntKind.u64.wrap (b:Int)*2 ^ (8*k)))=((a+b*2 ^ (8*k):Nat):Int):=by
 have h64:b*2 ^ (8*k)<2 ^ 64:=by have h1:b*2 ^ (8*k)<2 ^ 8*2 ^ (8*k):=Nat.mul_lt_mul_of_pos_right hb (Nat.pow_pos (by omega));rw[<-b5]at h1;exact Nat.lt_of_lt_of_le h1 (Nat.pow_le_pow_right (by omega) (by omega))
 rw[IntWalk.u64_in (b:Int) (by omega)];have e:(b:Int)*2 ^ (8*k)=((b*2 ^ (8*k):Nat):Int):=by push_cast;rfl
 rw[e,IntWalk.u64_in _ (by omega)];exact GN .u64 (8*k) 64 a b (λn h0 h1=>IntWalk.u64_in n (by omega)) (by decide) (by omega) ha h64
theorem Qw(w:tW)(rb mb:List Nat)(v:MV)(q:Nat)(hq:v.aD=some q)(rq:v.so=2)(g n cap:Nat)(hG:ak w (rb.getD q 0) #[.slice (some ⟨g,0,none⟩) n cap] 122)(l:List Nat)(hl:l.length=n)(hby:∀b∈l,b<256)(hS:pH w (.slice (some ⟨g,0,none⟩) n cap) n l)(hn:n<=1000)(hcap:n<=cap)(j:Int)(s:Nat)(hs:0<s/\s<=8)(hok:kQ v j+s<=n):Calls prog 234 #[.agg (v.cells rb mb).toArray,.int .i16 j,.int .i64 s] w λe w'=>e=.returned (.agg ((kI (leN ((l.drop (kQ v j)).take s))).cells rb mb).toArray)/\aa ae w w':=by
 have Yl:af (∀w',aa ae w w'->Calls prog 286 #[.agg #[.int .i64 v.so,.int .u64 v.bits,.pointer (v.aD.map λr=>⟨rb.getD r 0,0,none⟩),.pointer (v.tab.map λt=>⟨mb.getD t 0,0,none⟩)],.int .i16 j,.int .i64 s] w' λe w''=>e=.returned (.slice (some ⟨g,kQ v j,none⟩) s (cap-kQ v j))/\aa ae w' w''):=λw' m=>DR w' rb mb v q hq rq g n cap (hG.ag m id) hn hcap j s hs hok;have HCE:af (∀w',aa ae w w'->∀k,k<s->w'.cell? ⟨g,kQ v j+k,none⟩=some (.int .u8 (((l.drop (kQ v j)).take s).getD k 0:Nat))):=λw' m k hk=>by rw[((hS.ag m (λ_ _=>id)).cell (kQ v j+k) (by omega)).1,List.getD_eq_getElem?_getD,List.getD_eq_getElem?_getD,List.getElem?_take_of_lt hk,List.getElem?_drop]
 have HBY:af (∀k,((l.drop (kQ v j)).take s).getD k 0<256):=λk=>by
  rw[List.getD_eq_getElem?_getD];rcases h:((l.drop (kQ v j)).take s)[k]? with _|b
  ·simp
  ·exact hby b (bt (ba (List.mem_of_getElem? h)))
 have HLS:af (((l.drop (kQ v j)).take s).length=s):=by unfold af;simp;omega
 have HAC:af (∀k,k<s->leN (((l.drop (kQ v j)).take s).take (k+1))=leN (((l.drop (kQ v j)).take s).take k)+((l.drop (kQ v j)).take s).getD k 0*2 ^ (8*k)/\leN (((l.drop (kQ v j)).take s).take k)<2 ^ (8*k)):=λk hk=>by
  have hk':k<((l.drop (kQ v j)).take s).length:=by rw[HLS.o];exact hk
  have hlen:(((l.drop (kQ v j)).take s).take k).length=k:=by rw[List.length_take];omega
  refine⟨?_,?_⟩
  ·rw[List.take_succ_eq_append_getElem hk',Yk,hlen,List.getD_eq_getElem?_getD,List.getElem?_eq_getElem hk'];rfl
  ·have:=aaQ (((l.drop (kQ v j)).take s).take k) (λb hb=>hby b (bt (ba (ba hb))))
   rwa [hlen]at this
 show Calls _ _ #[.agg #[.int .i64 v.so,.int .u64 v.bits,.pointer (v.aD.map λr=>⟨rb.getD r 0,0,none⟩),.pointer (v.tab.map λt=>⟨mb.getD t 0,0,none⟩)],_,_] _ _
 clear hG hS hok rq hq hl hby;generalize(l.drop (kQ v j)).take s=bl at *;generalize kQ v j=A at *;generalize v.aD.map (λr=>(⟨rb.getD r 0,0,none⟩:Addr))=p2 at *;generalize v.tab.map (λt=>(⟨mb.getD t 0,0,none⟩:Addr))=p3 at *;go_enter func234,ntmps234;go_upto_region 2 with fail;have dD:af (aa ae w ((w.alloc (.cells #[.int .i64 v.so,.int .u64 v.bits,.pointer p2,.pointer p3] 130)).alloc (.cells #[.int .i64 0,.int .u64 0,.pointer none,.pointer none] 130))):=aj.alloc _;have HB2:af (ak ((w.alloc (.cells #[.int .i64 v.so,.int .u64 v.bits,.pointer p2,.pointer p3] 130)).alloc (.cells #[.int .i64 0,.int .u64 0,.pointer none,.pointer none] 130)) w.heap.size #[.int .i64 v.so,.int .u64 v.bits,.pointer p2,.pointer p3] 130):=(ak.new _ _ _).alloc _
 have HZ2:af (ak ((w.alloc (.cells #[.int .i64 v.so,.int .u64 v.bits,.pointer p2,.pointer p3] 130)).alloc (.cells #[.int .i64 0,.int .u64 0,.pointer none,.pointer none] 130)) (w.heap.size+1) #[.int .i64 0,.int .u64 0,.pointer none,.pointer none] 130):=by
  have:=ak.new (w.alloc (.cells #[.int .i64 v.so,.int .u64 v.bits,.pointer p2,.pointer p3] 130)) #[.int .i64 0,.int .u64 0,.pointer none,.pointer none] 130
  rwa [World.size_alloc]at this
 have uF:af (w.heap.size<=w.heap.size+1):=Nat.le_succ _;generalize(w.alloc (.cells #[.int .i64 v.so,.int .u64 v.bits,.pointer p2,.pointer p3] 130)).alloc (.cells #[.int .i64 0,.int .u64 0,.pointer none,.pointer none] 130)=W2 at *;generalize w.heap.size+1=Zb at *;have z0:W2.cell? ⟨w.heap.size,0,none⟩=some (.int .i64 v.so):=HB2.o.cell 0;have z1:W2.cell? ⟨w.heap.size,1,none⟩=some (.int .u64 v.bits):=HB2.o.cell 1;have z2:W2.cell? ⟨w.heap.size,2,none⟩=some (.pointer p2):=HB2.o.cell 2;have z3:W2.cell? ⟨w.heap.size,3,none⟩=some (.pointer p3):=HB2.o.cell 3;go_wp2_with fail;refine(Yl.o _ dD.o).mono ?_;rintro e w3 ⟨rfl,m3⟩;have dw:af (aa ae w w3):=dD.o.trans m3;have HZ3:af (ak w3 Zb #[.int .i64 0,.int .u64 0,.pointer none,.pointer none] 130):=HZ2.o.ag m3 id;clear z0 z1 z2 z3 m3 dD HB2 HZ2 Yl;go_upto_block 0 with fail;go_cut [7] (λnv wx=>nv=.int .u64 (leN bl:Nat)/\wx=w3)
 case first =>
  go_wp2_with fail;go_loopg [7,15] s (λq nv iv wx=>∃k:Nat,iv=.int .i64 k/\nv=.int .u64 (leN (bl.take k):Nat)/\wx=w3/\k<=s/\q=s-k)
  case atStart=>exact⟨0,rfl,rfl,rfl,Nat.zero_le _,rfl⟩
  case round =>
   obtain⟨k,rfl,rfl,rfl,hk,rfl⟩:=hrel;by_cases hlt:k<s
   ·have y:=HCE.o wr dw.o k hlt;obtain⟨e1,e2⟩:=HAC.o k hlt;have e3:=HBY.o k;have e4:=UM _ _ k e2 e3 (by omega);rw[<-e1]at e4;have e5:bl.getD k 0=bl[k]?.getD 0:=List.getD_eq_getElem?_getD ..;rw[e5]at e4 e1 y;clear e5;go_wp2_with fail;go_roundg (s-(k+1))
    case measure=>omega
    case rel=>exact⟨k+1,by go_num,by rw[e1,Int.natCast_add,Int.natCast_mul,Int.natCast_pow];rfl,rfl,by omega,rfl⟩
   ·obtain rfl:k=s:=by omega
    go_wp2_with fail;go_meet;refine⟨?_,rfl⟩;rw[bj (by rw[HLS.o];exact al _)]
 case rest =>
 obtain⟨rfl,rfl⟩:=hcut;have HVN:af (∀w',Calls prog 56 #[.int .u64 (leN bl:Nat)] w' λe w''=>e=.returned (.agg #[.int .i64 0,.int .u64 (leN bl:Nat),.pointer none,.pointer none])/\aa ae w' w''):=λw'=>xN w' [] [] (leN bl);go_wp2_with fail;refine(HVN.o _).mono ?_;rintro e w4 ⟨rfl,m4⟩;have fU:=ai (dw.o.trans m4);have hb4:=HZ3.o.ag m4 id;have z0:=hb4.cell 0;have z1:=hb4.cell 1;have z2:=hb4.cell 2;have z3:=hb4.cell 3;have zf:=hb4.frozen;have gq:=ai hb4;clear hb4 m4 dw HZ3 HVN;go_wp2_with fail;refine bodyPost_ret (results_cell_row results234 _ _ Zb 130 _ (0,0) _ rfl ((((gq.o.set 0 _).set 1 _).set 2 _).set 3 _) underlying130 rfl (by kernel_rfl)) rfl ⟨rfl,?_⟩;exact(((fU.o.set (a:=⟨Zb,0,none⟩) (Or.inr uF.o) _).set (a:=⟨Zb,1,none⟩) (Or.inr uF.o) _).set (a:=⟨Zb,2,none⟩) (Or.inr uF.o) _).set (a:=⟨Zb,3,none⟩) (Or.inr uF.o) _
def putB(l:List Nat)(A num:Nat):Nat->List Nat
 |0=>l
 |k+1=>(putB l A num k).set (A+k) (num/2 ^ (8*k)%256)
theorem xO(l:List Nat)(A num k:Nat):(putB l A num k).length=l.length:=by
 induction k with
 |zero=>rfl
 |succ k ih=>rw[putB,List.length_set,ih]
theorem Qx(w:tW)(rb mb:List Nat)(v:MV)(rq:v.so≠2)(j:Int)(s:Nat):Calls prog 286 #[.agg (v.cells rb mb).toArray,.int .i16 j,.int .i64 s] w λe w'=>e=aX 2/\aa ae w w':=by
 have HW:af (∀w',Calls prog 282 #[.agg #[.int .i64 v.so,.int .u64 v.bits,.pointer (v.aD.map λr=>⟨rb.getD r 0,0,none⟩),.pointer (v.tab.map λt=>⟨mb.getD t 0,0,none⟩)],.int .i64 2] w' λe w''=>e=aX 2/\aa ae w' w''):=λw'=>IC w' rb mb v 2 rq;show Calls _ _ #[.agg #[.int .i64 v.so,.int .u64 v.bits,.pointer (v.aD.map λr=>⟨rb.getD r 0,0,none⟩),.pointer (v.tab.map λt=>⟨mb.getD t 0,0,none⟩)],_,_] _ _
 clear rq;generalize v.aD.map (λr=>(⟨rb.getD r 0,0,none⟩:Addr))=p2 at *;generalize v.tab.map (λt=>(⟨mb.getD t 0,0,none⟩:Addr))=p3 at *;have HM:af (aa ae w (w.alloc (.cells #[.int .i64 v.so,.int .u64 v.bits,.pointer p2,.pointer p3] 130))):=aj;go_enter func286,ntmps286;go_wp2_with fail;refine(HW.o _).mono ?_;rintro e w1 ⟨rfl,m1⟩;exact⟨rfl,rfl,HM.o.trans m1⟩
theorem K4(w:tW)(rb mb:List Nat)(v:MV)(j:Int)(s t:Nat)(hR:∀w',aa ae w w'->Calls prog 286 #[.agg (v.cells rb mb).toArray,.int .i16 j,.int .i64 s] w' λe w''=>e=aX t/\aa ae w' w''):Calls prog 234 #[.agg (v.cells rb mb).toArray,.int .i16 j,.int .i64 s] w λe w'=>e=aX t/\aa ae w w':=by
 have Yl:af (∀w',aa ae w w'->Calls prog 286 #[.agg #[.int .i64 v.so,.int .u64 v.bits,.pointer (v.aD.map λr=>⟨rb.getD r 0,0,none⟩),.pointer (v.tab.map λt=>⟨mb.getD t 0,0,none⟩)],.int .i16 j,.int .i64 s] w' λe w''=>e=aX t/\aa ae w' w''):=hR;show Calls _ _ #[.agg #[.int .i64 v.so,.int .u64 v.bits,.pointer (v.aD.map λr=>⟨rb.getD r 0,0,none⟩),.pointer (v.tab.map λt=>⟨mb.getD t 0,0,none⟩)],_,_] _ _
 clear hR;generalize v.aD.map (λr=>(⟨rb.getD r 0,0,none⟩:Addr))=p2 at *;generalize v.tab.map (λt=>(⟨mb.getD t 0,0,none⟩:Addr))=p3 at *;go_enter func234,ntmps234;go_upto_region 2 with fail;have dD:af (aa ae w ((w.alloc (.cells #[.int .i64 v.so,.int .u64 v.bits,.pointer p2,.pointer p3] 130)).alloc (.cells #[.int .i64 0,.int .u64 0,.pointer none,.pointer none] 130))):=aj.alloc _;have HB2:af (ak ((w.alloc (.cells #[.int .i64 v.so,.int .u64 v.bits,.pointer p2,.pointer p3] 130)).alloc (.cells #[.int .i64 0,.int .u64 0,.pointer none,.pointer none] 130)) w.heap.size #[.int .i64 v.so,.int .u64 v.bits,.pointer p2,.pointer p3] 130):=(ak.new _ _ _).alloc _;generalize(w.alloc (.cells #[.int .i64 v.so,.int .u64 v.bits,.pointer p2,.pointer p3] 130)).alloc (.cells #[.int .i64 0,.int .u64 0,.pointer none,.pointer none] 130)=W2 at *;have z0:W2.cell? ⟨w.heap.size,0,none⟩=some (.int .i64 v.so):=HB2.o.cell 0;have z1:W2.cell? ⟨w.heap.size,1,none⟩=some (.int .u64 v.bits):=HB2.o.cell 1;have z2:W2.cell? ⟨w.heap.size,2,none⟩=some (.pointer p2):=HB2.o.cell 2;have z3:W2.cell? ⟨w.heap.size,3,none⟩=some (.pointer p3):=HB2.o.cell 3;go_wp2_with fail;refine(Yl.o _ dD.o).mono ?_;rintro e w3 ⟨rfl,m3⟩;exact⟨rfl,rfl,dD.o.trans m3⟩
def dK(gs:List (List Nat))(v:MV)(j:Int)(s:Nat):Nat:=if v.so≠2 then 2 else if kQ v j+s<=(gs.getD (v.aD.getD 0) []).length then 0 else 3
def DS(gs:List (List Nat))(v:MV)(j:Int)(s:Nat):Nat:=leN (((gs.getD (v.aD.getD 0) []).drop (kQ v j)).take s)
def storeT(gs:List (List Nat))(v:MV)(j:Int)(s:Nat)(x:MV):Nat:=if x.so≠0 then 2 else dK gs v j s
def B6(gs:List (List Nat))(v:MV)(j:Int)(s:Nat)(x:MV):List (List Nat):=gs.set (v.aD.getD 0) (putB (gs.getD (v.aD.getD 0) []) (kQ v j) x.bits s)
def MV.Pt(v:MV)(n:Nat):Prop:=v.so=2->∃q,v.aD=some q/\q<n
def zN(gs:List (List Nat)):Prop:=∀g∈gs,g.length<=1000/\∀b∈g,b<256
section
variable {w : World} {rb mb : List Nat} {vs : List Value} {gs : List (List Nat)}
theorem nJ.view(h:nJ w rb vs gs)(q:Nat)(hq:q<gs.length):∃o cap,vs.getD q undef=.slice o (gs.getD q []).length cap/\(0<(gs.getD q []).length->∃g,o=some ⟨g,0,none⟩/\(gs.getD q []).length<=cap):=(h.sl q hq).view
theorem zN.at(h:zN gs)(q:Nat)(hq:q<gs.length):(gs.getD q []).length<=1000/\∀b∈gs.getD q [],b<256:=by rw[List.getD_eq_getElem?_getD,List.getElem?_eq_getElem hq];exact h _ (b9 _)
theorem IK(h:nJ w rb vs gs)(hg:zN gs)(v:MV)(hv:v.Pt gs.length)(j:Int)(s:Nat)(hs:0<s/\s<=8)(hT:dK gs v j s≠0):∀w',aa ae w w'->Calls prog 286 #[.agg (v.cells rb mb).toArray,.int .i16 j,.int .i64 s] w' λe w''=>e=aX (dK gs v j s)/\aa ae w' w'':=by
 intro w' m;unfold dK at hT ⊢;by_cases rq:v.so=2
 ·rw[iN9 (by simp[rq])]at hT ⊢;obtain⟨q,hr,hq⟩:=hv rq;rw[hr,ao]at hT ⊢;by_cases hok:kQ v j+s<=(gs.getD q []).length
  ·rw[iP9 hok]at hT;exact absurd rfl hT
  ·rw[iN9 hok];obtain⟨o,cap,e,_⟩:=h.view q hq;have hb:=(h.blk q hq).ag m id;rw[e]at hb;exact UL w' rb mb v q hr rq o _ cap hb (hg.at q hq).1 j s hs hok
 ·rw[iP9 rq];exact Qx w' rb mb v rq j s
theorem Ym(h:nJ w rb vs gs)(hg:zN gs)(v:MV)(hv:v.Pt gs.length)(j:Int)(s:Nat)(hs:0<s/\s<=8):Calls prog 234 #[.agg (v.cells rb mb).toArray,.int .i16 j,.int .i64 s] w λe w'=>e=(if dK gs v j s=0 then .returned (.agg ((kI (DS gs v j s)).cells rb mb).toArray)else aX (dK gs v j s))/\aa ae w w':=by
 by_cases hT:dK gs v j s=0
 ·rw[iP9 hT];unfold dK at hT;by_cases rq:v.so=2
  ·rw[iN9 (by simp[rq])]at hT;obtain⟨q,hr,hq⟩:=hv rq;rw[hr,ao]at hT;by_cases hok:kQ v j+s<=(gs.getD q []).length
   ·obtain⟨o,cap,e,hb⟩:=h.view q hq;obtain⟨g,rfl,hc⟩:=hb (by omega);have hB:=h.blk q hq;have hS:=h.sl q hq;rw[e]at hB hS;unfold DS;rw[hr,ao];exact Qw w rb mb v q hr rq g _ cap hB _ rfl (hg.at q hq).2 hS (hg.at q hq).1 hc j s hs hok
   ·rw[iN9 hok]at hT;cases hT
  ·rw[iP9 rq]at hT;cases hT
 ·rw[iN9 hT];exact K4 w rb mb v j s _ (IK h hg v hv j s hs hT)
end
theorem UO(w:tW)(rb mb:List Nat)(v:MV):Calls prog 275 #[.agg (v.cells rb mb).toArray] w λe w'=>e=.returned (.tuple #[.int .u64 v.bits,.bool (decide (v.so=2))])/\aa ae w w':=by
 show Calls _ _ #[.agg #[.int .i64 v.so,.int .u64 v.bits,.pointer (v.aD.map λr=>⟨rb.getD r 0,0,none⟩),.pointer (v.tab.map λt=>⟨mb.getD t 0,0,none⟩)]] _ _
 have HD:af (((v.so:Int)==2)=decide (v.so=2)):=by unfold af;rw[Bool.eq_iff_iff];simp;omega
 generalize v.aD.map (λr=>(⟨rb.getD r 0,0,none⟩:Addr))=p2 at *;generalize v.tab.map (λt=>(⟨mb.getD t 0,0,none⟩:Addr))=p3 at *;have HM:af (aa ae w (w.alloc (.cells #[.int .i64 v.so,.int .u64 v.bits,.pointer p2,.pointer p3] 130))):=aj;have HB:af (ak (w.alloc (.cells #[.int .i64 v.so,.int .u64 v.bits,.pointer p2,.pointer p3] 130)) w.heap.size #[.int .i64 v.so,.int .u64 v.bits,.pointer p2,.pointer p3] 130):=ak.new _ _ _;go_enter func275,ntmps275;go_upto_region 1 with fail;generalize w.alloc (.cells #[.int .i64 v.so,.int .u64 v.bits,.pointer p2,.pointer p3] 130)=W1 at *;have z0:W1.cell? ⟨w.heap.size,0,none⟩=some (.int .i64 v.so):=HB.o.cell 0;have z1:W1.cell? ⟨w.heap.size,1,none⟩=some (.int .u64 v.bits):=HB.o.cell 1;clear HB;go_quiet (fail);have dD:af (aa ae w (W1.drewN nq)):=HM.o.drewN nq;clear z0 z1;generalize W1.drewN nq=W2 at *;rw[HD.o];go_wp2_with fail;go_ret2;exact⟨rfl,dD.o⟩
theorem Yn(w:tW)(rb mb:List Nat)(v:MV)(n:Nat):Calls prog 276 #[.agg (v.cells rb mb).toArray,.int .u64 n] w λe w'=>e=.returned (.agg (({v with bits:=n}:MV).cells rb mb).toArray)/\aa ae w w':=by
 show Calls _ _ #[.agg #[.int .i64 v.so,.int .u64 v.bits,.pointer (v.aD.map λr=>⟨rb.getD r 0,0,none⟩),.pointer (v.tab.map λt=>⟨mb.getD t 0,0,none⟩)],_] _ λe w'=>e=.returned (.agg #[.int .i64 v.so,.int .u64 n,.pointer (v.aD.map λr=>⟨rb.getD r 0,0,none⟩),.pointer (v.tab.map λt=>⟨mb.getD t 0,0,none⟩)])/\_
 generalize v.aD.map (λr=>(⟨rb.getD r 0,0,none⟩:Addr))=p2 at *;generalize v.tab.map (λt=>(⟨mb.getD t 0,0,none⟩:Addr))=p3 at *;go_enter func276,ntmps276;have HM:af (aa ae w ((w.alloc (.cells #[.int .i64 v.so,.int .u64 n,.pointer p2,.pointer p3] 130)).alloc (.cells #[.int .i64 v.so,.int .u64 n,.pointer p2,.pointer p3] 130))):=aj.alloc _
 have HB:af (ak ((w.alloc (.cells #[.int .i64 v.so,.int .u64 n,.pointer p2,.pointer p3] 130)).alloc (.cells #[.int .i64 v.so,.int .u64 n,.pointer p2,.pointer p3] 130)) (w.heap.size+1) #[.int .i64 v.so,.int .u64 n,.pointer p2,.pointer p3] 130):=by
  have:=ak.new (w.alloc (.cells #[.int .i64 v.so,.int .u64 n,.pointer p2,.pointer p3] 130)) #[.int .i64 v.so,.int .u64 n,.pointer p2,.pointer p3] 130
  rwa [World.size_alloc]at this
 go_wp2_with fail;exact bodyPost_ret (results_cell_row results276 _ _ (w.heap.size+1) 130 _ (0,0) _ rfl HB.o underlying130 rfl (by kernel_rfl)) rfl ⟨rfl,HM.o⟩
def Qy(l:List Nat):List Value:=l.map λ(n:Nat)=>Value.int .u64 n
theorem agP:(prog.info? 22).map (λi=>(i.zero,i.size,i.bytes))=some (some (.int .u64 0),1,8):=by kernel_rfl
def aC.logged(r:aC)(n:Nat):aC:=aC.answer {r with log:=r.log++[n]} (kI 0)
theorem aB.ahJ{w wA:tW}{b:Nat}{rb mb:List Nat}{vM vC vL vA:Value}{r:aC}(h:aB w b rb mb vM vC vL r)(m:aa (Own vL) w wA)(hL:∃n xs,Sl w 22 1 vL n xs)(l:List Nat):aB (wA.setCell ⟨b,5,none⟩ vA) b rb mb vM vC vA {r with log:=l}/\ak wA b #[vM,.pointer (some ⟨rb.getD r.inp 0,0,none⟩),vC,.int .i64 r.fuel,.int .i64 r.used,vL,.int .u64 r.r0,.bool r.ended] 125:=by obtain⟨n,xs,hL⟩:=hL;have hb:ak wA b _ _:=h.blk.ag m (λe=>hL.au h.blk (by decide) e);have hc:=h.calls.ag m (λk hk e=>h.calls.apart hL (by decide) hk e);exact⟨⟨hb.set 5 vA,hc.ag ((aa.refl (Only b) wA).aY 5 _) (λk hk e=>by cases(show k=b from e);exact hc.au hb (by decide) hk),h.regs,h.depth⟩,hb⟩
theorem ag1(w:tW)(b:Nat)(rb mb:List Nat)(vM vC vL:Value)(r:aC)(h:aB w b rb mb vM vC vL r)(hp:0<r.calls.length)(hL:Sl w 22 1 vL r.log.length (Qy r.log))(hl:r.log.length<20)(hv:(r.aD 1).so=0):Calls prog 292 #[.pointer (some ⟨b,0,none⟩)] w λe w'=>∃xY,e=.returned (.tuple #[])/\aB w' b rb mb vM vC xY (r.logged (r.aD 1).bits)/\Sl w' 22 1 xY (r.log.length+1) (Qy (r.log++[(r.aD 1).bits]))/\(∀k,xY.ownBlock=some k->vL.ownBlock=some k\/w.heap.size<=k)/\aa (λk=>k=b\/Own vC k\/Own vL k) w w':=by
 have HG:af (∀w',aa ae w w'->Calls prog 205 #[.pointer (some ⟨b,0,none⟩),.int .u8 1] w' λe w''=>e=.returned (.agg #[.int .i64 (r.aD 1).so,.int .u64 (r.aD 1).bits,.pointer ((r.aD 1).aD.map λr=>⟨rb.getD r 0,0,none⟩),.pointer ((r.aD 1).tab.map λt=>⟨mb.getD t 0,0,none⟩)])/\aa ae w' w''):=λw' m=>fD w' b rb mb vM vC vL r (h.quiet m) hp 1 (by omega);have HN:af (∀w',Calls prog 207 #[.agg #[.int .i64 (r.aD 1).so,.int .u64 (r.aD 1).bits,.pointer ((r.aD 1).aD.map λr=>⟨rb.getD r 0,0,none⟩),.pointer ((r.aD 1).tab.map λt=>⟨mb.getD t 0,0,none⟩)]] w' λe w''=>e=.returned (.int .u64 (r.aD 1).bits)/\aa ae w' w''):=λw'=>jQ w' rb mb (r.aD 1) hv;obtain⟨iU,E8,E9,Fa,Fb⟩:=info_parts agP;have HH:af (∀w',aa ae w w'->aB w' b rb mb vM vC vL r/\Sl w' 22 1 vL r.log.length (Qy r.log)):=λw' m=>⟨h.quiet m,hL.ag m (λ_ _=>id)⟩
 obtain⟨oL,cL,rfl,_⟩:=hL.view;have HAN:af (∀w' vA n,aB w' b rb mb vM vC vA {r with log:=r.log++[n]}->Calls prog 294 #[.pointer (some ⟨b,0,none⟩),.agg #[.int .i64 0,.int .u64 0,.pointer none,.pointer none]] w' λe w''=>e=.returned (.tuple #[])/\aB w'' b rb mb vM vC vA (r.logged n)/\aa (Own vC) w' w''):=λw' vA n h'=>K0 w' b rb mb vM vC vA _ h' hp (kI 0);have HVN:af (∀w',Calls prog 56 #[.int .u64 0] w' λe w''=>e=.returned (.agg #[.int .i64 0,.int .u64 0,.pointer none,.pointer none])/\aa ae w' w''):=λw'=>xN w' rb mb 0;clear h hL hv;generalize r.aD 1=v at *;generalize v.aD.map (λr=>(⟨rb.getD r 0,0,none⟩:Addr))=p2 at *;generalize v.tab.map (λt=>(⟨mb.getD t 0,0,none⟩:Addr))=p3 at *;have hq:((r.log.length:Nat):Int)≠20:=by omega
 go_enter func292,ntmps292;go_wp2_with fail;refine(HG.o _ ax).mono ?_;rintro e w1 ⟨rfl,m1⟩;have dh:=ai m1;clear m1 HG;go_wp2_with fail;refine(HN.o _).mono ?_;rintro e w2 ⟨rfl,m2⟩;have dD:af (aa ae w w2):=dh.o.trans m2;have x5:w2.cell? ⟨b,5,none⟩=some (.slice oL r.log.length cL):=(HH.o w2 dD.o).1.blk.cell 5;clear m2 dh HN;go_upto_region 3 with fail;have ET:af (Sl (w2.alloc (.cells #[.int .u64 v.bits] 22)) 22 1 (.slice oL r.log.length cL) r.log.length (Qy r.log)):=(HH.o _ (dD.o.alloc _)).2;have HAP:af (∀vA wA,aa (Own (.slice oL r.log.length cL)) (w2.alloc (.cells #[.int .u64 v.bits] 22)) wA->aB (wA.setCell ⟨b,5,none⟩ vA) b rb mb vM vC vA {r with log:=r.log++[v.bits]}/\ak wA b #[vM,.pointer (some ⟨rb.getD r.inp 0,0,none⟩),vC,.int .i64 r.fuel,.int .i64 r.used,.slice oL r.log.length cL,.int .u64 r.r0,.bool r.ended] 125):=λvA wA m=>(HH.o _ (dD.o.alloc _)).1.ahJ m ⟨_,_,ET.o⟩ _;go_wp2_with (first |(at_builtin;(refine aL _ rfl (.tmp 17) (.tmp 19) 32 rfl 22 iU (.int .u64 0) 1 8 underlying32 E8 E9 Fa Fb rfl (by decide) (.slice oL r.log.length cL) r.log.length (Qy r.log) rfl ET.o ⟨w2.heap.size,0,none⟩ 1 1 [.int .u64 v.bits] rfl rfl (aV _ _ _ _ rfl) (by simp[Value.oneCell']) (by unfold maxLen;omega) (by omega) ?_;intro vA wA sA mA lA;obtain⟨oA,cA,CF,_⟩:=sA.view;subst CF;obtain⟨hRA,hBA⟩:=HAP.o (.slice oA (r.log.length+1) cA) wA mA;have pA5:=hBA.cell 5;have pAf:=hBA.frozen;have HRA:=ai hRA;have VN:=ai hBA;have HSA:=ai sA;have Ct:=ai mA;have HLA:=ai lA;clear sA mA lA hRA hBA)));have dw:af (aa (λk=>k=b\/Own vC k\/Own (.slice oL r.log.length cL) k) w (wA.setCell ⟨b,5,none⟩ (.slice oA (r.log.length+1) cA))):=(((dD.o.alloc _).mono (λ_ _ h=>h.elim)).trans (Ct.o.mono (λ_ _ h=>.inr (.inr h)))).set (a:=⟨b,5,none⟩) (.inl (.inl rfl)) _;have V7:af (∀k,(Value.slice oA (r.log.length+1) cA).ownBlock=some k->(Value.slice oL r.log.length cL).ownBlock=some k\/w.heap.size<=k):=λk hk=>(HLA.o k hk).imp id (λh=>by rw[World.size_alloc]at h;have:=dD.o.size;omega)
 have HS3:af (Sl (wA.setCell ⟨b,5,none⟩ (.slice oA (r.log.length+1) cA)) 22 1 (.slice oA (r.log.length+1) cA) (r.log.length+1) (Qy (r.log++[v.bits]))):=by
  have e:Qy (r.log++[v.bits])=Qy r.log++[.int .u64 v.bits]:=by unfold Qy;rw[List.map_append];rfl
  unfold af;rw[e];exact HSA.o.ag ((aa.refl (Only b) wA).aY 5 _) (λk hk e=>by cases(show k=b from e);exact HSA.o.au VN.o (by decide) hk)
 clear HAP ET HLA Ct HSA VN pA5 pAf x5 HH dD E8 E9 Fa Fb;generalize wA.setCell ⟨b,5,none⟩ (.slice oA (r.log.length+1) cA)=W3 at *;refine(HVN.o _).mono ?_;rintro e w4 ⟨rfl,m4⟩;have fU:=ai m4;clear m4 HVN;go_wp2_with fail;refine(HAN.o _ _ _ (HRA.o.quiet fU.o)).mono ?_;rintro e w5 ⟨rfl,hr5,m5⟩;have Rj:=ai hr5;have iC:=ai m5;clear hr5 m5 HAN;go_wp2_with fail;go_end0;have h4:=HRA.o.quiet fU.o;have s4:=HS3.o.ag fU.o (λ_ _=>id);exact⟨_,rfl,Rj.o,s4.ag iC.o (λk hk e=>s4.apart h4.calls (by decide) hk e),V7.o,(dw.o.trans (fU.o.mono (λ_ _ h=>h.elim))).trans (iC.o.mono (λ_ _ h=>.inr (.inl h)))⟩
theorem ag2(w:tW)(b:Nat)(rb mb:List Nat)(vM vC vL:Value)(r:aC)(h:aB w b rb mb vM vC vL r)(hp:0<r.calls.length)(hv:(r.aD 1).so≠0):Calls prog 292 #[.pointer (some ⟨b,0,none⟩)] w λe w'=>e=aX 2/\aa ae w w':=by have HG:af (∀w',aa ae w w'->Calls prog 205 #[.pointer (some ⟨b,0,none⟩),.int .u8 1] w' λe w''=>e=.returned (.agg ((r.aD 1).cells rb mb).toArray)/\aa ae w' w''):=λw' m=>fD w' b rb mb vM vC vL r (h.quiet m) hp 1 (by omega);have HN:af (∀w',Calls prog 207 #[.agg ((r.aD 1).cells rb mb).toArray] w' λe w''=>e=aX 2/\aa ae w' w''):=λw'=>oP w' rb mb (r.aD 1) hv;clear h hv;generalize((r.aD 1).cells rb mb).toArray=cs at *;go_enter func292,ntmps292;go_wp2_with fail;refine(HG.o _ ax).mono ?_;rintro e w1 ⟨rfl,m1⟩;have dh:=ai m1;clear m1 HG;go_wp2_with fail;refine(HN.o _).mono ?_;rintro e w2 ⟨rfl,m2⟩;exact⟨rfl,rfl,dh.o.trans m2⟩
theorem agQ(w:tW)(b:Nat)(rb mb:List Nat)(vM vC:Value)(oL:Option Addr)(cL:Nat)(r:aC)(h:aB w b rb mb vM vC (.slice oL 20 cL) r)(hp:0<r.calls.length)(hv:(r.aD 1).so=0):Calls prog 292 #[.pointer (some ⟨b,0,none⟩)] w λe w'=>e=aX 5/\aa ae w w':=by have HG:af (∀w',aa ae w w'->Calls prog 205 #[.pointer (some ⟨b,0,none⟩),.int .u8 1] w' λe w''=>e=.returned (.agg ((r.aD 1).cells rb mb).toArray)/\aa ae w' w''):=λw' m=>fD w' b rb mb vM vC _ r (h.quiet m) hp 1 (by omega);have HN:af (∀w',Calls prog 207 #[.agg ((r.aD 1).cells rb mb).toArray] w' λe w''=>e=.returned (.int .u64 (r.aD 1).bits)/\aa ae w' w''):=λw'=>jQ w' rb mb (r.aD 1) hv;have HH:af (∀w',aa ae w w'->w'.cell? ⟨b,5,none⟩=some (.slice oL 20 cL)):=λw' m=>(h.quiet m).blk.cell 5;clear h hv;generalize((r.aD 1).cells rb mb).toArray=cs at *;go_enter func292,ntmps292;go_wp2_with fail;refine(HG.o _ ax).mono ?_;rintro e w1 ⟨rfl,m1⟩;have dh:=ai m1;clear m1 HG;go_wp2_with fail;refine(HN.o _).mono ?_;rintro e w2 ⟨rfl,m2⟩;have dD:af (aa ae w w2):=dh.o.trans m2;have x5:=HH.o w2 dD.o;clear m2 HN HH;go_wp2_with fail;exact⟨rfl,rfl,dD.o⟩
def ic(s:tBA):List Nat:=s.data.toList.map (·.toNat)
def mq(s:tBA):tBA:=s.extract 0 (min s.size 32)
theorem K6(w:tW)(inp:tBA)(hi:inp.size<=1000):∃cap W1,(convert 9 30 (.string inp)).run prog w=.ok (.slice (some ⟨w.heap.size,0,none⟩) inp.size cap) W1/\aa ae w W1/\pH W1 (.slice (some ⟨w.heap.size,0,none⟩) inp.size cap) inp.size (ic inp)/\W1.heap.size=w.heap.size+1:=by
 have hc:=run_bytes_of_string (P:=prog) w 9 30 5 inp underlying9 underlying30 underlying5;have h1:=grownCap_ge w inp.size 0 5;have h2:=grownCap_le_maxLen w inp.size 0 5 (by unfold maxLen;omega);refine⟨_,_,hc,((aa.refl ae w).drew).alloc _,⟨?_,.inr ⟨w.heap.size,grownCap w inp.size 0 5,bytesRow inp (grownCap w inp.size 0 5),(bytesRow inp (grownCap w inp.size 0 5)).size,(bytesRow inp (grownCap w inp.size 0 5)).size+1,rfl,?_,h1,h2,.inr ?_,?_⟩⟩,?_⟩
 ·unfold ic;rw[bh];rfl
 ·exact heap_alloc_new w.drew _
 ·unfold bytesRow;rw[Array.size_append,Array.size_map];exact Nat.le_add_right _ _
 ·unfold bytesRow BX ic;rw[Array.toList_append,Array.toList_map,List.take_append_of_le_length (by rw[bh];exact al _),bj (by rw[bh];exact al _),List.map_map];rfl
 ·rw[World.size_alloc];rfl
theorem nJ.K7{w w':tW}{rb:List Nat}{vs:List Value}{gs:List (List Nat)}(h:nJ w rb vs gs){b:Nat}{cs:tAV}{t t':TypeId}{size n:Nat}{v:Value}{xs:List Value}(hb:ak w b cs t)(h1:t≠122)(h2:t≠5)(hs:Sl w t' size v n xs)(h3:t'≠122)(h4:t'≠5)(m:aa (λk=>k=b\/Own v k) w w'):nJ w' rb vs gs :=
 h.ag m (λi hi e=>by
  rcases e with e|e
  ·have:=h.blk i hi;rw[e]at this;unfold ak at this hb;rw[hb]at this;cases this;exact h1 rfl
  ·exact hs.au (h.blk i hi) h3 e) (λi k hi hk e=>by
  rcases e with e|e
  ·subst e;exact(h.sl i hi).au hb h2 hk
  ·exact(h.sl i hi).apart hs h4 hk e)
theorem nJ.addN{w:tW}{rb:List Nat}{vs:List Value}{gs:List (List Nat)}(h:nJ w rb vs gs)(N:Nat)(ho:∀i,i<gs.length->rb.getD i 0<N/\∀k,(vs.getD i undef).ownBlock=some k->k<N)(b:Nat)(v:Value)(g:List Nat)(hb:ak w b #[v] 122)(hs:pH w v g.length g)(h1:N<=b)(h2:∀k,v.ownBlock=some k->N<=k):nJ w (rb++[b]) (vs++[v]) (gs++[g]):=by
 have e1:=h.lr;have e2:=h.lv;refine⟨by simp[e1],by simp[e2],λi hi=>?_,λi hi=>?_,λi j hi hj e=>?_,λi j k hi hj e e'=>?_⟩
 all_goals simp only[ab,an,List.length_nil]at *
 ·rw[dI,dI,e1,e2];by_cases hh:i<gs.length
  ·rw[iP9 hh,iP9 hh];exact h.blk i hh
  ·rw[iN9 hh,iN9 hh,iP9 (by omega),iP9 (by omega)];exact hb
 ·rw[dI,dI,e2];by_cases hh:i<gs.length
  ·rw[iP9 hh,iP9 hh];exact h.sl i hh
  ·rw[iN9 hh,iN9 hh,iP9 (by omega),iP9 (by omega)];exact hs
 ·rw[dI,dI,e1]at e;by_cases hi':i<gs.length<;>by_cases hj':j<gs.length
  ·rw[iP9 hi',iP9 hj']at e;exact h.inj i j hi' hj' e
  ·rw[iP9 hi',iN9 hj',iP9 (by omega)]at e;have:=(ho i hi').1;omega
  ·rw[iN9 hi',iP9 hj',iP9 (by omega)]at e;have:=(ho j hj').1;omega
  ·omega
 ·rw[dI,e2]at e e';by_cases hi':i<gs.length<;>by_cases hj':j<gs.length
  ·rw[iP9 hi']at e;rw[iP9 hj']at e';exact h.IG i j k hi' hj' e e'
  ·rw[iP9 hi']at e;rw[iN9 hj',iP9 (by omega)]at e';have:=(ho i hi').2 k e;have:=h2 k e';omega
  ·rw[iN9 hi',iP9 (by omega)]at e;rw[iP9 hj']at e';have:=(ho j hj').2 k e';have:=h2 k e;omega
  ·omega
def DT(fn F q n:Nat):aC:=(((({fuel:=F,inp:=q}:aC).enter fn (q+1)).eY 1 (uA q 0)).eY 2 (kI n))
theorem Qz(w:tW)(rb mb:List Nat)(vs:List Value)(gs:List (List Nat))(hR:nJ w rb vs gs)(oM:Option Addr)(nM cM:Nat)(fn:Nat)(s:tBA)(hs:s.size<=281474976710656)(fuel:Int)(hf:-9223372036854775808<=fuel/\fuel<=9223372036854775807):Calls prog 30 #[.slice oM nM cM,.int .i64 fn,.string s,.int .i64 fuel] w λe w'=>∃b R S v1 v2 vC,e=.returned (.pointer (some ⟨b,0,none⟩))/\aB w' b (rb++[R]++[S]) mb (.slice oM nM cM) vC (.slice none 0 0) (DT fn (min (max fuel 0) 5000).toNat gs.length (mq s).size)/\nJ w' (rb++[R]++[S]) (vs++[v1]++[v2]) (gs++[ic (mq s)]++[bu])/\aa ae w w'/\w.heap.size<=b/\(∀k,vC.ownBlock=some k->w.heap.size<=k)/\w.heap.size<=R/\w.heap.size<=S/\(∀k,v1.ownBlock=some k->w.heap.size<=k)/\(∀k,v2.ownBlock=some k->w.heap.size<=k):=by
 have hmin:min (s.size:Int) 32=((min s.size 32:Nat):Int):=by omega
 have hfu:min (max fuel 0) 5000=(((min (max fuel 0) 5000).toNat:Nat):Int):=by omega
 generalize(min (max fuel 0) 5000).toNat=F at *;have HIS:af ((s.extract 0 (min s.size 32)).size<=32):=by unfold af;rw[ByteArray.size_extract];omega
 unfold mq;generalize aew:s.extract 0 (min s.size 32)=inp at *;obtain⟨cap,W1,hcv,m1,hb1,hsz⟩:=K6 w inp (by have:=HIS.o;omega);have HCV:=ai hcv;have HLR:af (rb.length=gs.length):=hR.lr;have HLV:af (vs.length=gs.length):=hR.lv;have HRQ:af (nJ (W1.alloc (.cells #[.slice (some ⟨w.heap.size,0,none⟩) inp.size cap] 122)) (rb++[W1.heap.size]) (vs++[.slice (some ⟨w.heap.size,0,none⟩) inp.size cap]) (gs++[ic inp])):=by have hl:(ic inp).length=inp.size:=hb1.1;refine hR.add (m1.alloc _) _ _ _ (ak.new W1 _ _) (by rw[hl];exact hb1.ag ((aa.refl ae W1).alloc _) (λ_ _=>id)) (by omega) (λk hk=>by cases hk;exact al _)
 have dD:af (aa ae w (W1.alloc (.cells #[.slice (some ⟨w.heap.size,0,none⟩) inp.size cap] 122))):=m1.alloc _;have HS2:af ((W1.alloc (.cells #[.slice (some ⟨w.heap.size,0,none⟩) inp.size cap] 122)).heap.size=W1.heap.size+1):=World.size_alloc _ _;have IA:=ai hsz;clear hcv m1 hb1 hsz hR;go_enter func30,ntmps30;go_upto_region 3 with(first|rw[HCV.o]|rw[aew,HCV.o])
 generalize W1.alloc (.cells #[.slice (some ⟨w.heap.size,0,none⟩) inp.size cap] 122)=W2 at *;rw[<-HS2.o];clear HCV;generalize hRe:W1.heap.size=R at *;have HRe:=ai hRe;have Wg:af (w.heap.size<=R):=by have:=IA.o;have:=HRe.o;unfold af;omega
 clear hRe;have HB3:af (ak (W2.alloc (.cells #[.slice oM nM cM,.pointer (some ⟨R,0,none⟩),.slice none 0 0,.int .i64 F,.int .i64 0,.slice none 0 0,.int .u64 0,.bool false] 125)) W2.heap.size #[.slice oM nM cM,.pointer (some ⟨R,0,none⟩),.slice none 0 0,.int .i64 F,.int .i64 0,.slice none 0 0,.int .u64 0,.bool false] 125):=ak.new _ _ _;have dw:af (aa ae w (W2.alloc (.cells #[.slice oM nM cM,.pointer (some ⟨R,0,none⟩),.slice none 0 0,.int .i64 F,.int .i64 0,.slice none 0 0,.int .u64 0,.bool false] 125))):=dD.o.alloc _;have xX:af (nJ (W2.alloc (.cells #[.slice oM nM cM,.pointer (some ⟨R,0,none⟩),.slice none 0 0,.int .i64 F,.int .i64 0,.slice none 0 0,.int .u64 0,.bool false] 125)) (rb++[R]) (vs++[.slice (some ⟨w.heap.size,0,none⟩) inp.size cap]) (gs++[ic inp])):=HRQ.o.quiet ((aa.refl ae W2).alloc _);have TV:af (w.heap.size<=W2.heap.size):=dD.o.size;generalize W2.alloc (.cells #[.slice oM nM cM,.pointer (some ⟨R,0,none⟩),.slice none 0 0,.int .i64 F,.int .i64 0,.slice none 0 0,.int .u64 0,.bool false] 125)=W3 at *;generalize W2.heap.size=b at *;have HGR:af ((rb++[R]).getD gs.length 0=R):=by unfold af;rw[dI,HLR.o,iN9 (Nat.lt_irrefl _),iP9 rfl]
 have kG:af (aB W3 b (rb++[R]) mb (.slice oM nM cM) (.slice none 0 0) (.slice none 0 0) {fuel:=F,inp:=gs.length}):=⟨by rw[HGR.o];exact HB3.o,Sl.nil _ _ _,(λf hf=>by cases hf),by show 0<=8;omega⟩
 have Kz:=ai (DN W3 b (rb++[R]) mb _ _ _ _ kG.o (by show 0<8;omega) fn ⟨by show gs.length<(rb++[R]).length;rw[ab,HLR.o];exact Nat.lt_succ_self _,λf hf=>by cases hf⟩);clear HRQ HB3;go_wp2_with fail;refine Kz.o.mono ?_;rintro e w4 ⟨vC,rfl,hr4,m4,l4,g4,s4⟩
 have wm:af (nJ w4 (rb++[R]++[W3.heap.size+1]) (vs++[.slice (some ⟨w.heap.size,0,none⟩) inp.size cap]++[.slice (some ⟨W3.heap.size,0,none⟩) 64 64]) (gs++[ic inp]++[bu])) :=
  (xX.o.K7 kG.o.blk (by decide) (by decide) kG.o.calls (by decide) (by decide) m4).addN W3.heap.size (λi hi=>⟨(xX.o.blk i hi).lt,λk hk=>(xX.o.sl i hi).lt k hk⟩) _ _ _ g4 (s4.bys rfl) (Nat.le_succ _) (λk hk=>by cases hk;exact al _)
 have fU:af (aa (λk=>k=b) w w4):=(dw.o.mono (λ_ _ h=>h.elim)).trans (m4.mono (λ_ _ h=>h.elim id (λh=>by cases h)));have Q9:af (∀k,vC.ownBlock=some k->w.heap.size<=k):=λk hk=>(l4 k hk).elim (λh=>by cases h) (λh=>by have:=dw.o.size;omega);have FY:af ((rb++[R]).length=gs.length+1):=by unfold af;rw[ab,HLR.o];rfl
 have V5:af (aB w4 b (rb++[R]++[W3.heap.size+1]) mb (.slice oM nM cM) vC (.slice none 0 0) (({fuel:=F,inp:=gs.length}:aC).enter fn (gs.length+1))):=by rw[<-FY.o];exact hr4
 have HSN:af (w.heap.size<=W3.heap.size+1):=by have:=dw.o.size;unfold af;omega
 have HSV:af (w.heap.size<=W3.heap.size):=dw.o.size;generalize W3.heap.size+1=S at *;have HGS:af ((rb++[R]++[S]).getD gs.length 0=R):=by unfold af;rw[jR _ _ _ _ (by rw[FY.o];omega)];exact HGR.o
 clear hr4 m4 l4 g4 s4 Kz xX kG dw
 have qQ:af (∀fn':aC,0<(({fuel:=F,inp:=gs.length}:aC).enter fn (gs.length+1)).calls.length):=λ_=>by
  unfold aC.enter;rw[aC.gj];show 0<([]++[_]).length
  exact Nat.succ_pos _
 generalize hr0:({fuel:=F,inp:=gs.length}:aC).enter fn (gs.length+1)=r0 at *;have HVP:af (∀w',Calls prog 55 #[.pointer (some ⟨R,0,none⟩),.int .u64 0] w' λe w''=>e=.returned (.agg #[.int .i64 2,.int .u64 0,.pointer (some ⟨R,0,none⟩),.pointer none])/\aa ae w' w''):=λw'=>by have:=IE w' (rb++[R]++[S]) mb gs.length 0;rw[HGS.o]at this;unfold uA MV.cells at this;simp only[ar,ca,HGS.o]at this;exact this
 have HST:af (∀w',aa ae w4 w'->Calls prog 54 #[.pointer (some ⟨b,0,none⟩),.int .u8 1,.agg #[.int .i64 2,.int .u64 0,.pointer (some ⟨R,0,none⟩),.pointer none]] w' λe w''=>e=.returned (.tuple #[])/\aB w'' b (rb++[R]++[S]) mb (.slice oM nM cM) vC (.slice none 0 0) (r0.eY 1 (uA gs.length 0))/\aa (Own vC) w' w''):=λw' m=>by have:=xM w' b (rb++[R]++[S]) mb _ _ _ _ (V5.o.quiet m) (qQ.o r0) 1 (by omega) (uA gs.length 0);unfold uA MV.cells at this;simp only[ar,ca,HGS.o]at this;exact this
 go_wp2_with fail;refine(HVP.o _).mono ?_;rintro e w5 ⟨rfl,m5⟩;have iC:=ai m5;clear m5 HVP;go_wp2_with fail;refine(HST.o _ iC.o).mono ?_;rintro e w6 ⟨rfl,ZS,m6⟩;have h5:=V5.o.quiet iC.o;have Jq:af (nJ w6 (rb++[R]++[S]) (vs++[.slice (some ⟨w.heap.size,0,none⟩) inp.size cap]++[.slice (some ⟨W3.heap.size,0,none⟩) 64 64]) (gs++[ic inp]++[bu])):=(wm.o.quiet iC.o).K7 h5.blk (by decide) (by decide) h5.calls (by decide) (by decide) (m6.mono (λ_ _ h=>.inr h));have HA6:=ai ZS;have sW:af (aa (λk=>k=b\/Own vC k) w w6):=((fU.o.mono (λ_ _ h=>.inl h)).trans (iC.o.mono (λ_ _ h=>h.elim))).trans (m6.mono (λ_ _ h=>.inr h));have z0:w6.cell? ⟨R,0,none⟩=some (.slice (some ⟨w.heap.size,0,none⟩) inp.size cap):=by have hb:=Jq.o.blk gs.length (by simp only[ab,an,List.length_nil];omega);rw[HGS.o]at hb;rw[jR _ _ _ _ (by rw[ab,HLV.o];exact Nat.lt_succ_self _),dI,HLV.o,iN9 (Nat.lt_irrefl _),iP9 rfl]at hb;exact hb.cell 0
 have HVN:af (∀w',Calls prog 56 #[.int .u64 inp.size] w' λe w''=>e=.returned (.agg #[.int .i64 0,.int .u64 inp.size,.pointer none,.pointer none])/\aa ae w' w''):=λw'=>xN w' [] [] inp.size;have kD:af (0<(r0.eY 1 (uA gs.length 0)).calls.length):=by unfold af;rw[aC.gj];exact qQ.o r0
 have HS7:af (∀w',aa ae w6 w'->Calls prog 54 #[.pointer (some ⟨b,0,none⟩),.int .u8 2,.agg #[.int .i64 0,.int .u64 inp.size,.pointer none,.pointer none]] w' λe w''=>e=.returned (.tuple #[])/\aB w'' b (rb++[R]++[S]) mb (.slice oM nM cM) vC (.slice none 0 0) (DT fn F gs.length inp.size)/\aa (Own vC) w' w''):=λw' m=>by have:=xM w' b (rb++[R]++[S]) mb _ _ _ _ (HA6.o.quiet m) kD.o 2 (by omega) (kI inp.size);unfold DT;rw[hr0];exact this
 have hwr:IntKind.u64.wrap (inp.size:Int)=inp.size:=IntWalk.u64_in _ (by have:=HIS.o;omega);clear ZS m6 h5 HST wm V5 fU iC;go_wp2_with fail;refine(HVN.o _).mono ?_;rintro e w7 ⟨rfl,m7⟩;have xG:=ai m7;clear m7 HVN z0;go_wp2_with fail;refine(HS7.o _ xG.o).mono ?_;rintro e w8 ⟨rfl,hr8,m8⟩;have HA8:=ai hr8;have FV:=ai m8;clear hr8 m8 HS7;go_wp2_with fail;go_ret;have h7:=HA6.o.quiet xG.o;have hm:aa (λk=>k=b\/Own vC k) w w8:=(sW.o.trans (xG.o.mono (λ_ _ h=>h.elim))).trans (FV.o.mono (λ_ _ h=>.inr h));exact⟨b,R,S,_,_,vC,rfl,HA8.o,(Jq.o.quiet xG.o).K7 h7.blk (by decide) (by decide) h7.calls (by decide) (by decide) (FV.o.mono (λ_ _ h=>.inr h)),(aa.refl ae w).step hm (λk hk e=>by rcases e with e|e;(have:=TV.o;omega);(have:=Q9.o k e;omega)),TV.o,Q9.o,Wg.o,HSN.o,λk hk=>by cases hk;exact al _,λk hk=>by cases hk;exact HSV.o⟩
def strOf(l:List Nat):tBA:=⟨(l.map UInt8.ofNat).toArray⟩
theorem Ca(w:tW)(g n cap:Nat)(l:List Nat)(hb:∀b∈l,b<256)(h:pH w (.slice (some ⟨g,0,none⟩) n cap) n l):(convert 30 9 (.slice (some ⟨g,0,none⟩) n cap)).run prog w=.ok (.string (strOf l)) w:=by
 have hl:=h.1
 have key:=run_convert_bytes_back (P:=prog) w 30 9 5 ⟨g,0,none⟩ cap (l.map UInt8.ofNat) underlying30 underlying5 underlying9 (λj hj=>by
  have hadd:(⟨g,0,none⟩:Addr).add j=⟨g,j,none⟩:=by unfold Addr.add;split<;>simp_all
  have hj':j<l.length:=by simpa using hj
  rw[hadd,(h.cell j (by omega)).1,List.getD_eq_getElem?_getD,List.getElem?_eq_getElem hj'];have:=hb l[j] (b9 _);simp only[List.getElem_map,ao];rw[show(UInt8.ofNat l[j]).toNat=l[j]from by rw[UInt8.toNat_ofNat'];omega])
 rw[bh,hl]at key;exact key
