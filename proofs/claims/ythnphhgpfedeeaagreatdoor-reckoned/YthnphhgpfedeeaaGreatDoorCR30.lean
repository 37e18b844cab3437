import Derived.Test.YthnphhgpfedeeaaGreatDoorCR29
import Derived.Test.YthnphhgpfedeeaaGreatDoorCR28
import Derived.Lib.SlBytesConst
namespace Go.Proofs.YthnphhgpfedeeaaGreatDoor
open Go.RowKit Tryz
open Lib renaming run_append_own_string->ca
open List renaming length_append->ab,append_assoc->an,drop_eq_getElem_cons->ao,length_cons->ar,length_nil->bh,flatMap_cons->bj,getElem_mem->b5,drop_length->b9,map_cons->cb,map_toArray->cq,getElem_zip->cw,getElem_map->cx
open Nat renaming le_trans->al,lt_of_lt_of_le->ba,zero_le->bt,le_refl->cj
set_option linter.all false
set_option maxRecDepth 100000
set_option maxHeartbeats 2000000
def rj(l:tLB):List Value:=l.map (λb=>.int .u8 (b.toNat:Int))
theorem xH(a b:tLB):rj (a++b)=rj a++rj b:=by simp[rj]
theorem Kt:∀(l:List Int),(∀x∈l,0<=x/\x<=255)->rj (b8 l)=l.map (Value.int .u8)
 |[],_=>rfl
 |x::l,h=>by
  have hx:=h x (by simp);have e:((UInt8.ofNat x.toNat).toNat:Int)=x:=by rw[UInt8.toNat_ofNat'];omega
  have:=Kt l (λy hy=>h y (List.mem_cons_of_mem _ hy));simp only[rj,b8,cb,List.map_map]at this ⊢;rw[e];congr 1
def Out(w:tW)(v:Value)(l:tLB):Prop:=Sl w 5 1 v l.length (rj l)
def lh(w:tW)(v:Value)(l:tLB)(e:Ending)(w':tW):Prop :=
 ∃v',e=.returned v'/\Out w' v' l/\aa (λk=>v.ownBlock=some k) w w'/\∀k,v'.ownBlock=some k->v.ownBlock=some k\/w.heap.size<=k
theorem Out.ag{w w':tW}{v:Value}{l:tLB}{S:Nat->Prop}(h:Out w v l)(m:aa S w w')(hS:∀k,v.ownBlock=some k->¬S k):Out w' v l:=Sl.ag h m hS
theorem Out.quiet{w w':tW}{v:Value}{l:tLB}(h:Out w v l)(m:aa ae w w'):Out w' v l:=h.ag m (λ_ _=>id)
theorem XG:(prog.info? 5).map (λi=>(i.zero,i.size,i.bytes))=some (some (.int .u8 0),1,1):=by kernel_rfl
theorem vK(l:List Int):∀u∈l.map (Value.int .u8),u.oneCell'=true:=by intro u hu;obtain⟨x,_,rfl⟩:=List.mem_map.1 hu;rfl
theorem Out.app{w:tW}{v:Value}{l:tLB}{n:Nat}{ns:List Int}(h:∀x∈ns,0<=x/\x<=255)(hn:n=l.length+ns.length)(s:Sl w 5 1 v n (rj l++ns.map (Value.int .u8))):Out w v (l++b8 ns):=by unfold Out;rw[xH,Kt ns h,ab,gY,<-hn];exact s
theorem Pz(s:tBA):Lib.strCells s=rj (BL s):=by simp[Lib.strCells,rj,BL]
theorem Bo{P:Program}(w:tW)(t u ty e:TypeId)(i:TypeInfo)(ht:P.underlying t=some (.slice e))(hu:P.underlying u=some .string)(hi:P.info? e=some i)(hz:i.zero=some (.int .u8 0))(hsize:i.size=1) (hby:i.bytes=1) (v:Value) (n:Nat) (xs:List Value) (hown:Sl w e 1 v n xs) (s:tBA) (h63:n+s.size<=maxLen) (hbytes:n+s.size<=140737488355328):∃v' w',(Builtin.append_ #[t,u] ty #[v,.string s]).run P w=.ok v' w'/\Sl w' e 1 v' (n+s.size) (xs++rj (BL s))/\aa (λk=>v.ownBlock=some k) w w' /\ (∀k,v'.ownBlock=some k->v.ownBlock=some k\/w.heap.size<=k):=by
 obtain⟨v',w',hr,h2,h3,_⟩:=ca (P:=P) w 0 t u ty e i ht hu hi hz hsize hby v n xs hown s h63 hbytes (bt _);rw[Pz]at h2;refine⟨v',w',hr,h2,aa.F6 h3,?_⟩;intro k hk;rcases hown.2 with⟨rfl,rfl⟩ |⟨g,cap,cur,rfl,_,hg,hn,hm,hcs,htk⟩
 ·obtain⟨v2,w2,hr2,h22,_⟩:=ca (P:=P) w w.heap.size t u ty e i ht hu hi hz hsize hby _ 0 xs ⟨hown.1,.inl ⟨rfl,rfl⟩⟩ s h63 hbytes (cj _);rw[hr]at hr2;cases hr2;exact .inr (World.ownsRow.lt h22 k hk).1
 ·by_cases hroom:n+s.size<=cap
  ·have hr2:=Lib.run_append_room_string (P:=P) w t u ty e i ht hu hi hsize g n cap cur hg s hroom (by simp at hcs;omega);rw[hr]at hr2;cases hr2;exact .inl hk
  ·have hr2:=Lib.run_append_grow_string (P:=P) w t u ty e i (.int .u8 0) ht hu hi hz ⟨g,0,none⟩ n cap xs (by rw[hsize];exact hown.1) (World.ownsRow.cells hown (g:=g) rfl) s (by omega) (by unfold maxLen at h63;omega) (by rw[hby];exact growslice_fits (by omega) (by omega));rw[hr]at hr2;cases hr2;cases hk;exact .inr (cj _)
theorem uN{P:Program}(w:tW){o:Oper}{a:Act}{K:Act->tW->Prop}{Q:Exit->Act->tW->Prop}(sl x:Operand)(t u:TypeId)(ho:o.op=.call {callee:=.builtin .append,args:=#[sl,x],argTypes:=#[t,u]})(e:TypeId) (i:TypeInfo) (ht:P.underlying t=some (.slice e)) (hu:P.underlying u=some .string) (hi:P.info? e=some i) (hz:i.zero=some (.int .u8 0)) (hsize:i.size=1) (hby:i.bytes=1)(v:Value) (n:Nat) (xs:List Value) (hs:a.eval sl=v) (hown:Sl w e 1 v n xs) (s:tBA) (hx:a.eval x=.string s) (h63:n+s.size<=maxLen) (hbytes:n+s.size<=140737488355328)(h:∀v' w',Sl w' e 1 v' (n+s.size) (xs++rj (BL s))->aa (λk=>v.ownBlock=some k) w w'->(∀k,v'.ownBlock=some k->v.ownBlock=some k\/w.heap.size<=k)->K (a.put o.dst v') w'):o.wp P a w K Q:=by obtain⟨v',w',hr,h2,h3,h4⟩:=Bo (P:=P) w t u o.type e i ht hu hi hz hsize hby v n xs hown s h63 hbytes;unfold Oper.wp execOp;simp only[ho,resolve,invoke,builtin,Sem.run_bind,Sem.run_pure,Result.andThen_ok,cq,cb,List.map_nil,hs,hx,hr];exact h v' w' h2 h3 h4
theorem xI{P:Program}(w:tW){ops:Array Oper}{rest:List Oper}{o:Oper}{a:Act}{Q:Exit->Act->tW->Prop}(hgd:o.guard=none)(sl x:Operand)(t u:TypeId)(ho:o.op=.call {callee:=.builtin .append,args:=#[sl,x],argTypes:=#[t,u]})(e:TypeId) (i:TypeInfo) (ht:P.underlying t=some (.slice e)) (hu:P.underlying u=some .string) (hi:P.info? e=some i) (hz:i.zero=some (.int .u8 0)) (hsize:i.size=1) (hby:i.bytes=1)(v:Value) (n:Nat) (xs:List Value) (hs:a.eval sl=v) (hown:Sl w e 1 v n xs) (s:tBA) (hx:a.eval x=.string s) (h63:n+s.size<=maxLen) (hbytes:n+s.size<=140737488355328)(h:∀v' w',Sl w' e 1 v' (n+s.size) (xs++rj (BL s))->aa (λk=>v.ownBlock=some k) w w'->(∀k,v'.ownBlock=some k->v.ownBlock=some k\/w.heap.size<=k)->wpList P ops Q rest (a.put o.dst v') w'):wpList P ops Q (o::rest) a w :=
 wpList_plain hgd λ_ hK=>uN w sl x t u ho e i ht hu hi hz hsize hby v n xs hs hown s hx h63 hbytes λv' w' h2 h3 h4=>hK _ _ (h v' w' h2 h3 h4)
theorem dx:∃i:TypeInfo,prog.info? 5=some i/\i.zero=some (.int .u8 0)/\i.size=1/\i.bytes=1:=by obtain⟨i,h,hq⟩:=Option.map_eq_some_iff.1 XG;exact⟨i,h,congrArg (·.1) hq,congrArg (·.2.1) hq,congrArg (·.2.2) hq⟩
theorem xJ{w w':tW}{v:Value}{k:Nat}(h:v.ownBlock=some k\/w'.heap.size<=k)(m:w.heap.size<=w'.heap.size):v.ownBlock=some k\/w.heap.size<=k:=by
 rcases h with h|h
 ·exact .inl h
 ·exact .inr (al m h)
theorem oz{w w1:tW}{v v1 v2:Value}(h1:∀k,v1.ownBlock=some k->v.ownBlock=some k\/w.heap.size<=k)(h2:∀k,v2.ownBlock=some k->v1.ownBlock=some k\/w1.heap.size<=k)(m:w.heap.size<=w1.heap.size):∀k,v2.ownBlock=some k->v.ownBlock=some k\/w.heap.size<=k:=by
 intro k hk;rcases h2 k hk with h|h
 ·exact h1 k h
 ·exact .inr (al m h)
theorem Bp{w w1 w2:tW}{v v1:Value}(h1:aa (λk=>v.ownBlock=some k) w w1)(hv:∀k,v1.ownBlock=some k->v.ownBlock=some k\/w.heap.size<=k)(h2:aa (λk=>v1.ownBlock=some k) w1 w2):aa (λk=>v.ownBlock=some k) w w2 :=
 ⟨h2.os.trans h1.os,h2.tape.trans h1.tape,h2.output.trans h1.output,al h1.size h2.size,λk hk hS=>(h2.block k (ba hk h1.size) (λe=>by
  rcases hv k e with h|h
  ·exact hS h
  ·omega)).trans (h1.block k hk hS)⟩
theorem Bq(w:tW)(v:Value)(l:tLB)(h:Out w v l)(hl:l.length<=1000000)(n:Int):Calls prog 147 #[v,.int .i64 n] w λe w'=>lh w v (l++b8 (ko n)) e w':=by
 obtain⟨iU,E8,E9,Fa,Fb⟩:=dx;have HO:=ai h;have HB:af (∀x∈ko n,0<=x/\x<=255):=λx hx=>by simp[ko]at hx;rcases hx with rfl|rfl<;>omega
 clear h;go_enter func147,ntmps147;go_wp2_with (at_builtin;refine aL _ rfl (.tmp 5) (.tmp 11) 30 rfl 5 iU (.int .u8 0) 1 1 underlying30 E8 E9 Fa Fb rfl (by decide) v l.length (rj l) rfl (HO.o.quiet aj) ⟨w.heap.size,0,none⟩ 2 2 ((ko n).map (Value.int .u8)) rfl rfl (aV _ _ _ _ rfl) (vK _) (by unfold maxLen;omega) (by omega) ?_;intro v2 w2 s2 m2 l2);go_ret;exact⟨_,rfl,Out.app HB.o rfl s2,aj.trans m2,λk hk=>xJ (l2 k hk) ((aa.refl ae w).alloc _).size⟩
theorem Hd(w:tW)(v:Value)(l:tLB)(h:Out w v l)(hl:l.length<=1000000)(n:Int)(_hn:-2147483648<=n/\n<=2147483647):Calls prog 258 #[v,.int .i32 n] w λe w'=>lh w v (l++b8 (gG n)) e w':=by
 obtain⟨iU,E8,E9,Fa,Fb⟩:=dx;have HO:=ai h;have HB:af (∀x∈gG n,0<=x/\x<=255):=λx hx=>by simp[gG]at hx;rcases hx with rfl|rfl|rfl|rfl<;>omega
 clear h;go_enter func258,ntmps258;go_wp2_with (at_builtin;refine aL _ rfl (.tmp 5) (.tmp 17) 30 rfl 5 iU (.int .u8 0) 1 1 underlying30 E8 E9 Fa Fb rfl (by decide) v l.length (rj l) rfl (HO.o.quiet aj) ⟨w.heap.size,0,none⟩ 4 4 ((gG n).map (Value.int .u8)) rfl rfl (aV _ _ _ _ rfl) (vK _) (by unfold maxLen;omega) (by omega) ?_;intro v2 w2 s2 m2 l2);go_ret;exact⟨_,rfl,Out.app HB.o rfl s2,aj.trans m2,λk hk=>xJ (l2 k hk) ((aa.refl ae w).alloc _).size⟩
theorem yQ(w:tW)(v:Value)(l:tLB)(h:Out w v l)(hl:l.length<=1000000)(s:tBA)(hs:s.size<=255):Calls prog 148 #[v,.string s] w λe w'=>lh w v (l++fC s) e w':=by
 obtain⟨iU,E8,E9,Fa,Fb⟩:=dx;have HO:=ai h;have HB:af (∀x∈[(s.size:Int)],0<=x/\x<=255):=λx hx=>by simp at hx;subst hx;omega
 have HN:af (l++fC s=l++b8 [(s.size:Int)]++BL s):=by rw[af,fC,Int.emod_eq_of_lt (by omega) (by omega),an]
 clear h;go_enter func148,ntmps148
 go_wp2_with (first
  |(at_builtin;refine aL _ rfl (.tmp 5) (.tmp 9) 30 rfl 5 iU (.int .u8 0) 1 1 underlying30 E8 E9 Fa Fb rfl (by decide) v l.length (rj l) rfl (HO.o.quiet aj) ⟨w.heap.size,0,none⟩ 1 1 ([(s.size:Int)].map (Value.int .u8)) rfl rfl (aV _ _ _ _ rfl) (vK _) (by unfold maxLen;omega) (by omega) ?_;intro v2 w2 s2 m2 l2;have S2:af (Sl w2 5 1 v2 (l.length+1) (rj l++[(s.size:Int)].map (Value.int .u8))):=s2;have L2:af (∀k,v2.ownBlock=some k->v.ownBlock=some k\/w.heap.size<=k):=λk hk=>xJ (l2 k hk) ((aa.refl ae w).alloc _).size;have M2:af (aa (λk=>v.ownBlock=some k) w w2):=aj.trans m2;clear s2 l2 m2)
  |(at_builtin;refine xI _ rfl (.tmp 10) (.tmp 11) 30 9 rfl 5 iU underlying30 underlying9 E8 E9 Fa Fb v2 (l.length+1) (rj l++[(s.size:Int)].map (Value.int .u8)) rfl S2.o s rfl (by unfold maxLen;omega) (by omega) ?_;intro v3 w3 s3 m3 l3))
 go_ret;refine⟨_,rfl,?_,Bp M2.o L2.o m3,oz L2.o l3 M2.o.size⟩;have h1:rj (l++b8 [(s.size:Int)]++BL s)=rj l++[(s.size:Int)].map (Value.int .u8)++rj (BL s):=by rw[xH,xH,Kt _ HB.o]
 have h2:(l++b8 [(s.size:Int)]++BL s).length=l.length+1+s.size:=by simp only[ab,gY,RD,ar,bh]
 rw[HN.o,Out,h1,h2];exact s3
def uO(code:Nat)(d s:Nat)(j n h:Int)(slots:Nat):tLB :=
 b8 [(code:Int),(d:Int)+16*s,j%256,j/256%256]++b8 (gG n)++(if slots=1 then []else [0,0,0,0]++b8 (gG h))
theorem TH(x:Int):IntKind.u8.wrap x=x%256:=by simp[IntKind.wrap,IntKind.bits,IntKind.signed]
theorem aaA:∀d,d<16->∀s,s<16->bits BinOp.or IntKind.u8 ((d:Nat):Int) ((s:Nat)*16:Int)=d+16*s:=by decide +kernel
theorem Ku(w:tW)(v:Value)(l:tLB)(h:Out w v l)(hl:l.length<=900000)(b:Nat)(cs:tAV)(code slots:Nat)(hb:ak w b cs 146)(h0:cs[0]?=some (.int .u8 code))(h2:cs[2]?=some (.int .i64 slots))(d s:Nat) (j n hh:Int) (lab nm:tBA) (hc:code<=255) (hd:d<=15) (hs:s<=15) (_hj:-32768<=j/\j<=32767) (hn:-2147483648<=n/\n<=2147483647) (hhh:-2147483648<=hh/\hh<=2147483647) (hsl:slots<=2):Calls prog 149 #[.agg #[.pointer (some ⟨b,0,none⟩),.int .u8 d,.int .u8 s,.int .i16 j,.int .i32 n,.int .i32 hh,.string lab,.string nm],v] w λe w'=>lh w v (l++uO code d s j n hh slots) e w':=by
 obtain⟨iU,E8,E9,Fa,Fb⟩:=dx;have c0:w.cell? ⟨b,0,none⟩=some (.int .u8 code):=by rw[hb.cell 0];exact h0
 have c2:w.cell? ⟨b,2,none⟩=some (.int .i64 slots):=by rw[hb.cell 2];exact h2
 have hbl:=hb.lt;have HO:=ai h;have Rk:=ai hb;clear h hb;go_enter func149,ntmps149;go_upto_region 1 with fail;have hor:=aaA d (by omega) s (by omega);have hw1:IntKind.u8.wrap ((s:Int)*16)=(s:Int)*16:=by rw[TH];omega
 have hw2:=TH j;have hw3:=TH (j/256);have hbx:=ak.new w #[.pointer (some ⟨b,0,none⟩),.int .u8 d,.int .u8 s,.int .i16 j,.int .i32 n,.int .i32 hh,.string lab,.string nm] 138;have ZF:af (Out (w.alloc (.cells #[.pointer (some ⟨b,0,none⟩),.int .u8 d,.int .u8 s,.int .i16 j,.int .i32 n,.int .i32 hh,.string lab,.string nm] 138)) v l):=HO.o.quiet aj;have HB1:af (ak (w.alloc (.cells #[.pointer (some ⟨b,0,none⟩),.int .u8 d,.int .u8 s,.int .i16 j,.int .i32 n,.int .i32 hh,.string lab,.string nm] 138)) b cs 146):=Rk.o.alloc _;have dh:af (aa ae w (w.alloc (.cells #[.pointer (some ⟨b,0,none⟩),.int .u8 d,.int .u8 s,.int .i16 j,.int .i32 n,.int .i32 hh,.string lab,.string nm] 138))):=aj;have Fe:=ai hbx;generalize w.alloc (.cells #[.pointer (some ⟨b,0,none⟩),.int .u8 d,.int .u8 s,.int .i16 j,.int .i32 n,.int .i32 hh,.string lab,.string nm] 138)=W at *;clear c0 c2;have hnx:¬(v.ownBlock=some w.heap.size):=ZF.o.au Fe.o (by decide);have hnb:¬(v.ownBlock=some b):=ZF.o.au HB1.o (by decide);obtain⟨x0,x1,x2,x3,x4,x5,x6,x7⟩:=Ext.iV (S:=λk=>v.ownBlock=some k) Fe.o hnx;have c0:∀g:Ext (λk=>v.ownBlock=some k) W,g.w.cell? ⟨b,0,none⟩=some (.int .u8 code):=λg=>by rw[(HB1.o.ag g.m hnb).cell 0];exact h0
 have ne1:=Ext.ne (λk=>v.ownBlock=some k) W;clear hbx;refine bE [19,20] (λw'=>∃e:Ext (λk=>v.ownBlock=some k) W,w'=e.w) (by kernel_rfl) (by kernel_rfl) (by kernel_rfl) ⟨⟨_,aJ⟩,rfl⟩ ?_
 iterate 3 (refine aA rfl rfl rfl ?_;intro K hK;go_big_quiet_op;go_big_quiet_on)
 refine bV rfl rfl _ ⟨b,0,none⟩ rfl rfl ?_;simp only[Act.put,sA9,sB9,sC9]
 iterate 15 (refine aA rfl rfl rfl ?_;intro K hK;go_big_quiet_op;go_big_quiet_on)
 refine aF rfl rfl ?_;intro K hK;go_big_op;refine hK _ _ rfl ⟨⟨_,aJ.alloc _⟩,rfl⟩ ?_;clear hK K;refine aF rfl rfl ?_;intro K hK;refine eO _ (.tmp 5) (.tmp 24) 30 rfl 5 iU (.int .u8 0) 1 1 underlying30 E8 E9 Fa Fb rfl (by decide) v l.length (rj l) rfl (ZF.o.quiet (aj.drew)) ⟨W.heap.size,0,none⟩ 4 4 ([(code:Int),(d:Int)+16*s,j%256,j/256%256].map (Value.int .u8)) rfl rfl (λk u hu=>aV W _ _ _ rfl k u hu) (vK _) (by unfold maxLen;omega) (by omega) ?_;intro v2 w2 s2 m2 l2;have M2:af (aa (λk=>v.ownBlock=some k) W w2):=(aj.drew).trans m2;have L2:af (∀k,v2.ownBlock=some k->v.ownBlock=some k\/W.heap.size<=k):=λk hk=>xJ (l2 k hk) (((aa.refl ae W).alloc _).drew).size;have S2:af (Out w2 v2 (l++b8 [(code:Int),(d:Int)+16*s,j%256,j/256%256])):=Out.app (λx hx=>by simp at hx;rcases hx with rfl|rfl|rfl|rfl<;>omega) rfl s2;refine hK _ _ rfl ⟨⟨_,M2.o⟩,rfl⟩ ?_;clear hK K s2 m2 l2;simp only[Act.put,sA9,sB9,sC9]
 iterate 1 (refine aA rfl rfl rfl ?_;intro K hK;go_big_quiet_op;go_big_quiet_on)
 refine bX ?_;simp only[Exit.then];have HB2:=ai (HB1.o.ag M2.o hnb);have xc:=ai (Fe.o.ag M2.o hnx);clear x0 x1 x2 x3 x4 x5 x6 x7 c0 ne1;obtain⟨x0,x1,x2,x3,x4,x5,x6,x7⟩:=xc.o.iV;have hl2:(l++b8 [(code:Int),(d:Int)+16*s,j%256,j/256%256]).length=l.length+4:=by rw[ab,gY];rfl
 have HL2:=ai hl2;clear hl2;have Cz:af (Calls prog 258 #[v2,.int .i32 n] w2 λe w'=>lh w2 v2 (l++b8 [(code:Int),(d:Int)+16*s,j%256,j/256%256]++b8 (gG n)) e w'):=Hd w2 v2 _ S2.o (by rw[HL2.o];omega) n hn;go_wp2_with fail;refine Cz.o.mono ?_;rintro e w3 ⟨v3,rfl,s3,m3,l3⟩
 have M3:af (aa (λk=>v.ownBlock=some k) W w3):=⟨m3.os.trans M2.o.os,m3.tape.trans M2.o.tape,m3.output.trans M2.o.output,al M2.o.size m3.size,λk hk hS=>(m3.block k (ba hk M2.o.size) (λe=>by
  rcases L2.o k e with h|h
  ·exact hS h
  ·omega)).trans (M2.o.block k hk hS)⟩
 have L3:af (∀k,v3.ownBlock=some k->v.ownBlock=some k\/W.heap.size<=k):=oz L2.o l3 M2.o.size;have S3:=ai s3;have HB3:=ai (HB1.o.ag M3.o hnb);have HX3:=ai (Fe.o.ag M3.o hnx);have SX:af ((l++b8 [(code:Int),(d:Int)+16*s,j%256,j/256%256]++b8 (gG n)).length=l.length+8):=by rw[af,ab,HL2.o,gY];rfl
 clear m3 l3 s3 x0 x1 x2 x3 x4 x5 x6 x7;obtain⟨x0,x1,x2,x3,x4,x5,x6,x7⟩:=HX3.o.iV;have c2:w3.cell? ⟨b,2,none⟩=some (.int .i64 slots):=by rw[HB3.o.cell 2];exact h2
 have hWs:w.heap.size<=W.heap.size:=dh.o.size
 have ZK:af (∀(w':tW) (v':Value),aa (λk=>v.ownBlock=some k) W w'->(∀k,v'.ownBlock=some k->v.ownBlock=some k\/W.heap.size<=k)->aa (λk=>v.ownBlock=some k) w w'/\∀k,v'.ownBlock=some k->v.ownBlock=some k\/w.heap.size<=k) :=
  λw' v' m l=>⟨(dh.o.mono (λ_ _ e=>e.elim)).trans m,λk hk=>xJ (l k hk) hWs⟩
 by_cases h1:slots=1
 ·subst h1;go_wp2_with fail;go_ret;refine⟨v3,rfl,?_,ZK.o _ _ M3.o L3.o⟩;have:l++uO code d s j n hh 1=l++b8 [(code:Int),(d:Int)+16*s,j%256,j/256%256]++b8 (gG n):=by simp[uO]
  rw[this];exact S3.o
 ·have hd1:decide ((slots:Int)=1)=false:=by simp;omega
  have hd2:((slots:Int)==1)=false:=by simp;omega
  go_wp2_with fail;clear x0 x1 x2 x3 x4 x5 x6 x7 c2;obtain⟨x0,x1,x2,x3,x4,x5,x6,x7⟩:=Ext.iV (S:=λk=>v.ownBlock=some k) Fe.o hnx;have ne1:=Ext.ne (λk=>v.ownBlock=some k) W;refine bE [1,4] (λw'=>∃e:Ext (λk=>v.ownBlock=some k) W,w'=e.w) (by kernel_rfl) (by kernel_rfl) (by kernel_rfl) ⟨⟨_,M3.o.drew⟩,rfl⟩ ?_
  iterate 1 (refine aA rfl rfl rfl ?_;intro K hK;go_big_quiet_op;go_big_quiet_on)
  refine aF rfl rfl ?_;intro K hK;refine uN _ (.tmp 37) _ 30 9 rfl 5 iU underlying30 underlying9 E8 E9 Fa Fb v3 _ _ rfl (S3.o.quiet aJ) (T [0,0,0,0]) rfl (by rw[SX.o];simp only[bG,ar,bh];unfold maxLen;omega) (by rw[SX.o];simp only[bG,ar,bh];omega) ?_;intro v4 w4 s4 m4 l4
  have M4:af (aa (λk=>v.ownBlock=some k) W w4):=⟨m4.os.trans M3.o.os,m4.tape.trans M3.o.tape,m4.output.trans M3.o.output,al M3.o.size m4.size,λk hk hS=>(m4.block k (ba hk M3.o.size) (λe=>by
   rcases L3.o k e with h|h
   ·exact hS h
   ·omega)).trans (M3.o.block k hk hS)⟩
  have L4:af (∀k,v4.ownBlock=some k->v.ownBlock=some k\/W.heap.size<=k):=oz (w1:=w3.drew) L3.o l4 M3.o.size;have S4:af (Out w4 v4 (l++b8 [(code:Int),(d:Int)+16*s,j%256,j/256%256]++b8 (gG n)++[0,0,0,0])):=by rw[af,Out,xH,ab];exact s4
  have Gy:af ((l++b8 [(code:Int),(d:Int)+16*s,j%256,j/256%256]++b8 (gG n)++[0,0,0,0]).length=l.length+12):=by rw[af,ab,SX.o];rfl
  refine hK _ _ rfl ⟨⟨_,M4.o⟩,rfl⟩ ?_;clear hK K s4 m4 l4;simp only[Act.put,sA9,sB9,sC9]
  iterate 2 (refine aA rfl rfl rfl ?_;intro K hK;go_big_quiet_op;go_big_quiet_on)
  refine aF rfl rfl ?_;intro K hK;go_big_op;refine(Hd w4 v4 _ S4.o (by rw[Gy.o];omega) hh hhh).mono ?_;rintro e w5 ⟨v5,rfl,s5,m5,l5⟩
  have M5:af (aa (λk=>v.ownBlock=some k) W w5):=⟨m5.os.trans M4.o.os,m5.tape.trans M4.o.tape,m5.output.trans M4.o.output,al M4.o.size m5.size,λk hk hS=>(m5.block k (ba hk M4.o.size) (λe=>by
   rcases L4.o k e with h|h
   ·exact hS h
   ·omega)).trans (M4.o.block k hk hS)⟩
  have L5:af (∀k,v5.ownBlock=some k->v.ownBlock=some k\/W.heap.size<=k):=oz L4.o l5 M4.o.size;have S5:=ai s5;refine hK _ _ rfl ⟨⟨_,M5.o⟩,rfl⟩ ?_;clear hK K s5 m5 l5
  iterate 1 (refine aA rfl rfl rfl ?_;intro K hK;go_big_quiet_op;go_big_quiet_on)
  refine bX ?_
  try simp only[Exit.then]
  go_wp2_with fail;go_ret;refine⟨v5,rfl,?_,ZK.o _ _ M5.o L5.o⟩;have:l++uO code d s j n hh slots=l++b8 [(code:Int),(d:Int)+16*s,j%256,j/256%256]++b8 (gG n)++[0,0,0,0]++b8 (gG hh):=by simp[uO,h1]
  rw[this];exact S5.o
def oD(m:az):tLB:=fC (T m.name)++b8 [(m.key:Int),(m.value:Int),(m.entries:Int)]
def jN(f:aS):tLB:=fC (T f.name)++b8 (ko (aM f.code))
def qG(x:PI):tLB:=uO x.o.code x.d x.s x.jump x.num x.high x.o.slots
def kH(f:aS):tLB:=f.code.flatMap qG
def ib(kind:Nat)(ms:List az)(fs:List aS):tLB :=
 [83,80,79,76]++b8 [(kind:Int),(ms.length:Int)]++ms.flatMap oD++b8 [(fs.length:Int)]++fs.flatMap jN++fs.flatMap kH
structure EI(w:tW)(v:Value)(l:tLB)(w':tW):Prop where
 mV:Out w' v l
 md:aa ae w w'
 own:∀k,v.ownBlock=some k->w.heap.size<=k
theorem EI.step{w w1 w2:tW}{v v':Value}{l l':tLB}(h:EI w v l w1)(o:Out w2 v' l')(m:aa (λk=>v.ownBlock=some k) w1 w2)(hv:∀k,v'.ownBlock=some k->v.ownBlock=some k\/w1.heap.size<=k):EI w v' l' w2 :=
 ⟨o,h.md.step m (λi hi e=>by have:=h.own i e;omega),λk hk=>by
  rcases hv k hk with e|e
  ·exact h.own k e
  ·have:=h.md.size;omega⟩
theorem EI.quiet{w w1 w2:tW}{v:Value}{l:tLB}(h:EI w v l w1)(m:aa ae w1 w2):EI w v l w2 :=
 ⟨h.mV.quiet m,h.md.trans m,h.own⟩
structure We(w:tW)(tv:Value)(bs:List Nat)(vM vF:Value)(ms:List az)(fs:List aS)(vs:List Value):Prop where
 maps:Sl w 100 4 vM ms.length (ms.flatMap az.cells)
 len:vs.length=fs.length
 rows:Sl w 96 2 vF fs.length (((fs.map (·.name)).zip vs).flatMap mF)
 code:∀i (_:i<fs.length) (_:i<vs.length),Sl w 138 8 vs[i] fs[i].code.length (eu bs fs[i].code)
 ops:aH 0 w tv bs aq
theorem We.quiet{w w':tW}{tv:Value}{bs:List Nat}{vM vF:Value}{ms:List az}{fs:List aS}{vs:List Value}(h:We w tv bs vM vF ms fs vs)(m:aa ae w w'):We w' tv bs vM vF ms fs vs :=
 ⟨h.maps.ag m (λ_ _=>id),h.len,h.rows.ag m (λ_ _=>id),λi a b=>(h.code i a b).ag m (λ_ _=>id),h.ops.ag m⟩
theorem We.TI{w:tW}{tv:Value}{bs:List Nat}{oF:Option Addr}{cF:Nat}{vM:Value}{ms:List az}{fs:List aS}{vs:List Value}(h:We w tv bs vM (.slice oF fs.length cF) ms fs vs)(k:Nat)(hk:k<fs.length)(hv':k<vs.length):∃g,oF=some ⟨g,0,none⟩/\w.cell? ⟨g,k*2,none⟩=some (.string (T fs[k].name))/\w.cell? ⟨g,k*2+1,none⟩=some vs[k]:=by
 obtain⟨o',cap',hv,h2⟩:=h.rows.view;cases hv;obtain⟨g,cs,rfl,hb,ht,_⟩:=h2 (by omega);have hz:k<((fs.map (·.name)).zip vs).length:=by simp only[List.length_zip,List.length_map];omega
 have key:∀c,c<2->w.cell? ⟨g,k*2+c,none⟩=(mF (fs[k].name,vs[k]))[c]?:=λc hc=>by rw[aW hb ht (k*2+c) (by omega)];have:=flat_get mF 2 (λ_=>rfl) ((fs.map (·.name)).zip vs) k c hz hc;rw[this,cw,cx]
 exact⟨g,rfl,key 0 (by omega),key 1 (by omega)⟩
theorem PB(code d s:Nat)(j n h:Int)(slots:Nat):(uO code d s j n h slots).length<=16:=by unfold uO;split<;>simp[b8,gG]
theorem vN{P:Program}(w:tW){ops:Array Oper}{rest:List Oper}{o:Oper}{a:Act}{Q:Exit->Act->tW->Prop}(hgd:o.guard=none)(s x:Operand)(t:TypeId)(ho:o.op=.call {callee:=.builtin .append,args:=#[s,x],argTypes:=#[t,t]})(e:TypeId) (i:TypeInfo) (z:Value) (size bytes:Nat) (ht:P.underlying t=some (.slice e)) (hi:P.info? e=some i) (hz:i.zero=some z)(hsize:i.size=size) (hby:i.bytes=bytes) (hzs:z.cells.size=size) (hsz:0<size)(b:Addr) (n cap:Nat) (olds:List Value) (hs:a.eval s=.slice (some b) n cap) (hlo:olds.length=n*size) (holds:∀j u,olds[j]?=some u->w.cell? (b.add j)=some u)(ad:Addr) (m c:Nat) (news:List Value) (hx:a.eval x=.slice (some ad) m c) (hl:news.length=m*size) (hnews:∀j u,news[j]?=some u->w.cell? (ad.add j)=some u)(hg:cap<n+m) (h63:n+m<=maxLen) (hbytes:(n+m)*bytes<=140737488355328)(h:∀v' w',Sl w' e size v' (n+m) (olds++news)->aa ae w w'->(∀k,v'.ownBlock=some k->w.heap.size<=k)->wpList P ops Q rest (a.put o.dst v') w'):wpList P ops Q (o::rest) a w:=by
 refine wpList_plain hgd λ_ hK=>?_;obtain⟨v',w',hr,h2,h3⟩:=run_append_arg_grows (P:=P) w t o.type e i z size bytes ht hi hz hsize hby hzs hsz b n cap olds hlo holds ad m c news hl hnews hg h63 hbytes;unfold Oper.wp execOp;simp only[ho,resolve,invoke,builtin,Sem.run_bind,Sem.run_pure,Result.andThen_ok,cq,cb,List.map_nil,hs,hx,hr];refine hK _ _ (h v' w' ⟨h2.1,?_⟩ ⟨h3.os,h3.tape,h3.output,h3.size,λk hk _=>h3.block k hk (by simp)⟩ (λk hk=>(World.ownsRow.lt h2 k hk).1));rcases h2.2 with h |⟨g,cp,cur,h4,_,h5⟩
 ·exact .inl h
 ·exact .inr ⟨g,cp,cur,h4,bt _,h5⟩
theorem TJ(w:tW)(o o2:Obj)(C:tAV)(e:TypeId)(m:Nat×Nat)(j:Nat):(((w.alloc o).alloc (.cells C e m)).alloc o2).cell? ⟨w.heap.size+1,j,none⟩=C[j]?:=by
 have h:(((w.alloc o).alloc (.cells C e m)).alloc o2).heap[w.heap.size+1]?=some (.cells C e m):=by
  show(((w.heap.push o).push (.cells C e m)).push o2)[w.heap.size+1]?=_
  rw[Array.getElem?_push,iN9 (by simp),Array.getElem?_push,iP9 (by simp)]
 unfold World.cell?;simp only[h];rfl
structure aaB(w W:tW)(B:Nat)(cs:tAV)(t:TypeId)(a b:Nat)(u:Value)(l:tLB)(L:Nat->Bool)(w':tW):Prop where
 md:aa ae w w'
 bx:ak w' B cs t
 sz:W.heap.size<=w'.heap.size
 ei:L a=false->L b=false->EI w u l w'
structure Ff(w:tW)(B:Nat)(cs:tAV)(t:TypeId)(a b:Nat)(u:Value)(i:Nat)(w1 w2:tW):Prop where
 q:i≠a->i≠b->aa ae w1 w2
 na:i=a->aa (λk=>u.ownBlock=some k) w1 w2
 nb:i=b->aa ae w w2/\ak w2 B cs t/\w1.heap.size<=w2.heap.size
theorem Ff.quiet{w w1 w2:tW}{B:Nat}{cs:tAV}{t:TypeId}{a b i:Nat}{u:Value}(m:aa ae w1 w2)(ha:i≠a)(hb:i≠b):Ff w B cs t a b u i w1 w2 :=
 ⟨λ_ _=>m,λe=>absurd e ha,λe=>absurd e hb⟩
theorem Ff.keep{w W:tW}{B:Nat}{cs:tAV}{t:TypeId}{a b:Nat}{u:Value}{l:tLB}{md:Region.Mode}{ops:Array Oper}(hu:∀k,u.ownBlock=some k->w.heap.size<=k)(hB:u.ownBlock≠some B)(hab:a≠b):∀(i:Nat) (L:Nat->Bool) w1 w2,pO md ops i L->aaB w W B cs t a b u l L w1->Ff w B cs t a b u i w1 w2->aaB w W B cs t a b u l (gK L i) w2:=by
 intro i L w1 w2 _ c n;by_cases ea:i=a
 ·have m:=n.na ea;subst ea;exact⟨c.md.step m (λk hk e=>by have:=hu k e;omega),c.bx.ag m hB,al c.sz m.size,λh=>by simp[gK]at h⟩
 ·by_cases eb:i=b
  ·obtain⟨m,bx,sz⟩:=n.nb eb;subst eb;exact⟨m,bx,al c.sz sz,λ_ h=>by simp[gK]at h⟩
  ·have m:=n.q ea eb;refine⟨c.md.trans m,c.bx.ag m id,al c.sz m.size,λh1 h2=>(c.ei ?_ ?_).quiet m⟩
   ·simpa [gK,Ne.symm ea]using h1
   ·simpa [gK,Ne.symm eb]using h2
def XH(w:tW)(b:Nat)(l:tLB)(L:Nat->Bool)(v:Value)(w':tW):Prop:=L b=false->EI w v l w'
def XI(W:tW)(b n:Nat)(cs:tAV)(L:Nat->Bool)(v:Value)(w':tW):Prop:=L b=false->∃g,v=.slice (some ⟨g,0,none⟩) n n/\W.heap.size<=g/\ak w' g cs 5
def TK(w:tW)(l:tLB)(_:Nat->Bool)(v:Value)(w':tW):Prop:=EI w v l w'
section
variable {w W : World} {B : Nat} {cs : Array Value} {t : TypeId} {a b : Nat} {u : Value} {l : List UInt8} {md : Region.Mode} {ops : Array Oper}
theorem XJ(hab:a≠b):∀(i:Nat) (L:Nat->Bool) v w1 w2,pO md ops i L->L a=true->Ff w B cs t a b u i w1 w2->XH w b l L v w1->XH w b l (gK L i) v w2:=by
 intro i L v w1 w2 hn ha n h hb;have eb:i≠b:=λe=>by subst e;simp[gK]at hb
 have ea:i≠a:=λe=>by subst e;rw[hn.1]at ha;cases ha
 have hb':L b=false:=by simpa [gK,Ne.symm eb]using hb
 exact(h hb').quiet (n.q ea eb)
theorem XK{c n:Nat}{ds:tAV}(hu:∀k,u.ownBlock=some k->k<W.heap.size):∀(i:Nat) (L:Nat->Bool) v w1 w2,pO md ops i L->L c=true->Ff w B cs t a b u i w1 w2->XI W b n ds L v w1->XI W b n ds (gK L i) v w2:=by
 intro i L v w1 w2 _ _ hn h hb;have eb:i≠b:=λe=>by subst e;simp[gK]at hb
 have hb':L b=false:=by simpa [gK,Ne.symm eb]using hb
 obtain⟨g,h1,h2,h3⟩:=h hb';by_cases ea:i=a
 ·exact⟨g,h1,h2,h3.ag (hn.na ea) (λe=>by have:=hu g e;omega)⟩
 ·exact⟨g,h1,h2,h3.ag (hn.q ea eb) id⟩
theorem Mc{c:Nat}(h1:∃o,ops[c]?=some o/\(dS md o).contains a=true/\(c=b\/(dS md o).contains b=true)):∀(i:Nat) (L:Nat->Bool) v w1 w2,pO md ops i L->L c=true->Ff w B cs t a b u i w1 w2->TK w l L v w1->TK w l (gK L i) v w2:=by
 intro i L v w1 w2 hn hc n h;obtain⟨o,ho,da,db⟩:=h1;have ea:i≠a:=λe=>by subst e;have:=hn.2 c o ho da;rw[hc]at this;cases this
 have eb:i≠b:=λe=>by
  subst e;rcases db with e|e
  ·subst e;have:=hn.1;rw[hc]at this;cases this
  ·have:=hn.2 c o ho e;rw[hc]at this;cases this
 exact EI.quiet h (n.q ea eb)
end
theorem XL:∀k,k<88->(aq[k]?.getD iK).code<=255:=by decide +kernel
structure EOk(ms:List az)(fs:List aS):Prop where
 m:ms.length<=255
 f:fs.length<=100
 mn:∀m∈ms,m.name.length<=255/\m.key<=255/\m.value<=255/\m.entries<=255
 fn:∀f∈fs,f.name.length<=255/\f.code.length<=200/\∀x∈f.code,eU x
structure tC(w:tW)(tv:Value)(bs:List Nat)(vM vF:Value)(ms:List az)(fs:List aS)(vs:List Value):Prop where
 maps:Sl w 100 4 vM ms.length (ms.flatMap az.cells)
 len:vs.length=fs.length
 rows:Sl w 96 2 vF fs.length (((fs.map (·.name)).zip vs).flatMap mF)
 code:∀i (_:i<fs.length) (_:i<vs.length),gX w vs[i] bs fs[i].code
 ops:aH 0 w tv bs aq
theorem tC.quiet{w w':tW}{tv:Value}{bs:List Nat}{vM vF:Value}{ms:List az}{fs:List aS}{vs:List Value}(h:tC w tv bs vM vF ms fs vs)(m:aa ae w w'):tC w' tv bs vM vF ms fs vs :=
 ⟨h.maps.ag m (λ_ _=>id),h.len,h.rows.ag m (λ_ _=>id),λi a b=>(h.code i a b).ag m (λ_ _=>id),h.ops.ag m⟩
theorem tC.atM{w:tW}{tv:Value}{bs:List Nat}{oM:Option Addr}{cM:Nat}{vF:Value}{ms:List az}{fs:List aS}{vs:List Value}(h:tC w tv bs (.slice oM ms.length cM) vF ms fs vs)(k:Nat)(hk:k<ms.length):∃g,oM=some ⟨g,0,none⟩/\w.cell? ⟨g,k*4,none⟩=some (.string (T ms[k].name))/\w.cell? ⟨g,k*4+1,none⟩=some (.int .u8 ms[k].key)/\w.cell? ⟨g,k*4+2,none⟩=some (.int .u8 ms[k].value)/\w.cell? ⟨g,k*4+3,none⟩=some (.int .u8 ms[k].entries):=by
 obtain⟨o',cap',hv,h2⟩:=h.maps.view;cases hv;obtain⟨g,cs,rfl,hb,ht,_⟩:=h2 (by omega);have key:∀c,c<4->w.cell? ⟨g,k*4+c,none⟩=(az.cells ms[k])[c]?:=λc hc=>by rw[aW hb ht (k*4+c) (by omega)];exact flat_get az.cells 4 (λ_=>rfl) ms k c hk hc
 exact⟨g,rfl,key 0 (by omega),key 1 (by omega),key 2 (by omega),key 3 (by omega)⟩
theorem tC.TI{w:tW}{tv:Value}{bs:List Nat}{oF:Option Addr}{cF:Nat}{vM:Value}{ms:List az}{fs:List aS}{vs:List Value}(h:tC w tv bs vM (.slice oF fs.length cF) ms fs vs)(k:Nat)(hk:k<fs.length)(hv':k<vs.length):∃g,oF=some ⟨g,0,none⟩/\w.cell? ⟨g,k*2,none⟩=some (.string (T fs[k].name))/\w.cell? ⟨g,k*2+1,none⟩=some vs[k]:=by
 obtain⟨o',cap',hv,h2⟩:=h.rows.view;cases hv;obtain⟨g,cs,rfl,hb,ht,_⟩:=h2 (by omega);have hz:k<((fs.map (·.name)).zip vs).length:=by simp only[List.length_zip,List.length_map];omega
 have key:∀c,c<2->w.cell? ⟨g,k*2+c,none⟩=(mF (fs[k].name,vs[k]))[c]?:=λc hc=>by rw[aW hb ht (k*2+c) (by omega)];have:=flat_get mF 2 (λ_=>rfl) ((fs.map (·.name)).zip vs) k c hz hc;rw[this,cw,cx]
 exact⟨g,rfl,key 0 (by omega),key 1 (by omega)⟩
theorem He(kind:Nat)(hk:kind<=255)(w:tW)(tv:Value)(bs:List Nat)(vM vF:Value)(ms:List az)(fs:List aS)(vs:List Value)(hP:tC w tv bs vM vF ms fs vs)(hE:EOk ms fs):Calls prog 74 #[.int .u8 kind,.agg #[vM,vF]] w λe w'=>∃v,e=.returned v/\EI w v (ib kind ms fs) w':=by
 obtain⟨iU,E8,E9,Fa,Fb⟩:=dx;obtain⟨oM,cM,yR,_⟩:=hP.maps.view;obtain⟨oF,cF,jZ,_⟩:=hP.rows.view;subst yR jZ;have JG:=hE.m;have hfl:=hE.f;have HP:=ai hP;have HE:=ai hE;clear hP hE;have kc:=Lib.run_convert_bytes_const (P:=prog) (w.alloc (.cells #[.slice oM ms.length cM,.slice oF fs.length cF] 90)) 30 5 #[.int .u8 83,.int .u8 80,.int .u8 79,.int .u8 76] 4 4 underlying30 underlying5;rw[show(w.alloc (.cells #[.slice oM ms.length cM,.slice oF fs.length cF] 90)).heap.size=w.heap.size+1 by simp]at kc;go_enter func74,ntmps74
 have HOL:af (∀(o2:Obj) (j:Nat) (u:Value),([.int .u8 83,.int .u8 80,.int .u8 79,.int .u8 76]:List Value)[j]?=some u->(((w.alloc (.cells #[.slice oM ms.length cM,.slice oF fs.length cF] 90)).alloc (.cells #[.int .u8 83,.int .u8 80,.int .u8 79,.int .u8 76] 5 (4,5))).alloc o2).cell? ((⟨w.heap.size+1,0,none⟩:Addr).add j)=some u):=by
  intro o2 j u hu;have hadd:(⟨w.heap.size+1,0,none⟩:Addr).add j=⟨w.heap.size+1,j,none⟩:=by unfold Addr.add;split<;>simp_all
  rw[hadd,TJ]
  simpa using hu
 go_wp2_with (at_builtin;refine vN _ rfl (.tmp 15) (.tmp 21) 30 rfl 5 iU (.int .u8 0) 1 1 underlying30 E8 E9 Fa Fb rfl (by decide) ⟨w.heap.size+1,0,none⟩ 4 4 [.int .u8 83,.int .u8 80,.int .u8 79,.int .u8 76] rfl rfl (HOL.o _) ⟨w.heap.size+1+1,0,none⟩ 2 2 ([(kind:Int),(ms.length:Int)].map (Value.int .u8)) rfl rfl (aV _ _ _ _ (by simp)) (by decide) (by decide) (by decide) ?_;intro v2 w2 s2 m2 l2;have B2:af (ak w2 w.heap.size #[.slice oM ms.length cM,.slice oF fs.length cF] 90):=ak.ag (((ak.new w _ _).alloc _).alloc _) m2 id;have q0:w2.cell? ⟨w.heap.size,0,none⟩=some (.slice oM ms.length cM):=B2.mV.cell 0);obtain⟨wB,hwB⟩:∃wB,wB=w.alloc (.cells #[.slice oM ms.length cM,.slice oF fs.length cF] 90):=⟨_,rfl⟩
 have Pk:af (aa ae w wB):=by rw[hwB];exact aj
 have Pm:af (ak wB w.heap.size #[.slice oM ms.length cM,.slice oF fs.length cF] 90):=by rw[hwB];exact ak.new _ _ _
 have TL:=ai (HP.o.quiet Pk.o);have HI0:af (EI wB v2 ([83,80,79,76]++b8 [(kind:Int),(ms.length:Int)]) w2):=by rw[<-hwB]at m2 l2;have M0:aa ae wB ((wB.alloc (.cells #[.int .u8 83,.int .u8 80,.int .u8 79,.int .u8 76] 5 (4,5))).alloc (.cells #[.int .u8 kind,.int .u8 ms.length] 5)):=aj.alloc _;refine⟨?_,M0.trans m2,λk hk=>al M0.size (l2 k hk)⟩;exact Out.app (l:=[83,80,79,76]) (λx hx=>by simp at hx;rcases hx with rfl|rfl<;>omega) rfl s2
 clear s2 m2 l2 kc HOL hwB HP;have HO0:af (∀x:Value,x=v2->True):=λ_ _=>trivial;go_loopg [5,26] ms.length (λg ov iv wx=>∃(k:Nat) (l:tLB),iv=.int .i64 k/\EI wB ov l wx/\l++(ms.drop k).flatMap oD=[83,80,79,76]++b8 [(kind:Int),(ms.length:Int)]++ms.flatMap oD/\l.length<=6+k*260/\k<=ms.length/\g=ms.length-k)
 case atStart=>exact⟨0,_,rfl,HI0.o,rfl,by simp[b8],bt _,rfl⟩
 case round =>
  obtain⟨k,l,rfl,hI,iA,hll,hkm,rfl⟩:=hrel;have HR:=ai iA;have HI:=ai hI;clear iA q0;have CL:=TL.o.quiet hI.md;by_cases hkl:k<ms.length
  ·obtain⟨gM,rfl,c0,c1,c2,c3⟩:=CL.atM k hkl;have hok:=HE.o.mn ms[k] (b5 hkl);have HD:af (l++oD ms[k]++(ms.drop (k+1)).flatMap oD=[83,80,79,76]++b8 [(kind:Int),(ms.length:Int)]++ms.flatMap oD):=by rw[af,<-HR.o,ao hkl,bj,an]
   clear CL hI HR;generalize ms[k]=m at *;obtain⟨nm,ky,vl,en⟩:=m;simp only at *;obtain⟨o1,o2,o3,o4⟩:=hok;go_upto_region 5 with fail;have ZL:EI wB u5 l (wr.alloc (.cells #[.string (T nm),.int .u8 ky,.int .u8 vl,.int .u8 en] 100)):=HI.o.quiet aj;have hbx:=ak.new wr #[.string (T nm),.int .u8 ky,.int .u8 vl,.int .u8 en] 100;have hsz:wr.heap.size<(wr.alloc (.cells #[.string (T nm),.int .u8 ky,.int .u8 vl,.int .u8 en] 100)).heap.size:=hbx.lt;generalize wr.alloc (.cells #[.string (T nm),.int .u8 ky,.int .u8 vl,.int .u8 en] 100)=W at *;generalize wr.heap.size=B at *;have HIW:=ai ZL;have HNB:af (u5.ownBlock≠some B):=ZL.mV.au hbx (by decide);have Ro:af (∀k,u5.ownBlock=some k->k<W.heap.size):=λk hk=>ZL.mV.lt k hk;have Fe:=ai hbx;have hts:(T nm).size<=255:=by rw[bG];exact o1
   have FY:=ai hll;clear ZL hbx c0 c1 c2 c3 hsz hll HI
   refine jl [.inl u5,.inl (.pointer (some ⟨B,0,none⟩)),.inl (.string (T nm)),.inr (XH wB 11 (l++fC (T nm))),.inl (.pointer (some ⟨B,1,none⟩)),.inl (.int .u8 ky),.inl (.pointer (some ⟨B,2,none⟩)),.inl (.int .u8 vl),.inl (.pointer (some ⟨B,3,none⟩)),.inl (.int .u8 en),
     .inr (XI W 11 3 #[.int .u8 ky,.int .u8 vl,.int .u8 en]),.inr (TK wB (l++fC (T nm)++b8 [(ky:Int),(vl:Int),(en:Int)])),.inr (TK wB (l++fC (T nm)++b8 [(ky:Int),(vl:Int),(en:Int)]))]
    (aaB wB W B #[.string (T nm),.int .u8 ky,.int .u8 vl,.int .u8 en] 100 3 11 u5 l) (Ff wB B #[.string (T nm),.int .u8 ky,.int .u8 vl,.int .u8 en] 100 3 11 u5) (by kernel_rfl) (by kernel_rfl) (by kernel_rfl)
    ⟨HIW.o.md.drew,Fe.o.drew,cj _,λ_ _=>HIW.o.quiet aJ⟩ ?_ (Ff.keep HIW.o.own HNB.o (by decide)) (.inl (by kernel_rfl)) ?_
   ·intro j s hs i L v w1 w2 hn hj n hr;refine jD (show pR _ _ _ 0 _ from ?_) j s hs i L v w1 w2 hn (by rw[Nat.zero_add];exact hj) n hr;exact⟨XJ (by decide),XK Ro.o,Mc ⟨_,rfl,by decide,.inl rfl⟩,Mc ⟨_,rfl,by decide,.inr (by decide)⟩,trivial⟩
   iterate 2 (refine bS rfl (λL w' hN hC _ K hK=>?_) ?_;(· go_big_op;exact hK _ _ _ rfl (.quiet ax (by decide) (by decide)) rfl);simp only[Act.put,sA9,sB9,sC9])
   refine bS rfl (λL w' hN hC _ K hK=>?_) ?_
   ·have e1:w'.cell? ⟨B,0,none⟩=some (.string (T nm)):=hC.bx.cell 0;go_big_op;exact hK _ _ _ rfl (.quiet ax (by decide) (by decide)) rfl
   simp only[Act.put,sA9,sB9,sC9];refine lK rfl (λL w' hN hC _ K hK=>?_) (λx3=>?_)
   ·have h11:L 11=false:=hN.2 11 _ rfl (by decide);have hei:=hC.ei hN.1 h11;go_big_op;refine(yQ w' u5 l hei.mV (by have:=FY.o;omega) (T nm) hts).mono ?_;rintro e w2' ⟨v3,rfl,s3,m3,l3⟩;exact hK _ _ _ rfl ⟨λh=>absurd rfl h,λ_=>m3,λh=>absurd h (by decide)⟩ (λ_=>hei.step s3 m3 l3)
   simp only[Act.put,sA9,sB9,sC9];refine bS rfl (λL w' hN hC _ K hK=>?_) ?_
   ·go_big_op;exact hK _ _ _ rfl (.quiet ax (by decide) (by decide)) rfl
   simp only[Act.put,sA9,sB9,sC9];refine bS rfl (λL w' hN hC _ K hK=>?_) ?_
   ·have e1:w'.cell? ⟨B,1,none⟩=some (.int .u8 ky):=hC.bx.cell 1;go_big_op;exact hK _ _ _ rfl (.quiet ax (by decide) (by decide)) rfl
   simp only[Act.put,sA9,sB9,sC9];refine bS rfl (λL w' hN hC _ K hK=>?_) ?_
   ·go_big_op;exact hK _ _ _ rfl (.quiet ax (by decide) (by decide)) rfl
   simp only[Act.put,sA9,sB9,sC9];refine bS rfl (λL w' hN hC _ K hK=>?_) ?_
   ·have e1:w'.cell? ⟨B,2,none⟩=some (.int .u8 vl):=hC.bx.cell 2;go_big_op;exact hK _ _ _ rfl (.quiet ax (by decide) (by decide)) rfl
   simp only[Act.put,sA9,sB9,sC9];refine bS rfl (λL w' hN hC _ K hK=>?_) ?_
   ·go_big_op;exact hK _ _ _ rfl (.quiet ax (by decide) (by decide)) rfl
   simp only[Act.put,sA9,sB9,sC9];refine bS rfl (λL w' hN hC _ K hK=>?_) ?_
   ·have e1:w'.cell? ⟨B,3,none⟩=some (.int .u8 en):=hC.bx.cell 3;go_big_op;exact hK _ _ _ rfl (.quiet ax (by decide) (by decide)) rfl
   simp only[Act.put,sA9,sB9,sC9];refine lK rfl (λL w' hN hC _ K hK=>?_) (λx10=>?_)
   ·go_big_op;exact hK _ _ _ rfl (.quiet aj (by decide) (by decide)) (λ_=>⟨_,rfl,hC.sz,ak.new _ _ _⟩)
   simp only[Act.put,sA9,sB9,sC9];refine lK rfl (λL w' hN hC hk K hK=>?_) (λx11=>?_)
   ·have f3:XH wB 11 (l++fC (T nm)) L x3 w':=lL hk 3 (by decide);have f10:XI W 11 3 #[.int .u8 ky,.int .u8 vl,.int .u8 en] L x10 w':=lL hk 10 (by decide);have hei:=f3 hN.1;obtain⟨g,rfl,hgW,hg⟩:=f10 hN.1;refine eO _ (.tmp 33) (.tmp 40) 30 rfl 5 iU (.int .u8 0) 1 1 underlying30 E8 E9 Fa Fb rfl (by decide) x3 _ _ rfl hei.mV ⟨g,0,none⟩ 3 3 ([(ky:Int),(vl:Int),(en:Int)].map (Value.int .u8)) rfl rfl ?_ (vK _) ?_ ?_ ?_
    ·intro j u hu;have hadd:(⟨g,0,none⟩:Addr).add j=⟨g,j,none⟩:=by unfold Addr.add;split<;>simp_all
     rw[hadd,hg.cell j]
     simpa using hu
    ·have:=FY.o;rw[ab,gZ];unfold maxLen;omega
    ·have:=FY.o;rw[ab,gZ];omega
    ·intro v4 w4 s4 m4 l4;have hE4:EI wB v4 (l++fC (T nm)++b8 [(ky:Int),(vl:Int),(en:Int)]) w4:=hei.step (Out.app (λx hx=>by simp at hx;rcases hx with rfl|rfl|rfl<;>omega) rfl s4) m4 l4;exact hK _ _ _ rfl ⟨λ_ h=>absurd rfl h,λh=>absurd h (by decide),λ_=>⟨hE4.md,hC.bx.ag m4 (hei.mV.au hC.bx (by decide)),m4.size⟩⟩ hE4
   simp only[Act.put,sA9,sB9,sC9];refine lK rfl (λL w' hN hC hk K hK=>?_) (λx12=>?_)
   ·have f11:TK wB (l++fC (T nm)++b8 [(ky:Int),(vl:Int),(en:Int)]) L x11 w':=lL hk 11 (by decide);go_big_op;exact hK _ _ _ rfl (.quiet ax (by decide) (by decide)) f11
   simp only[Act.put,sA9,sB9,sC9];refine wI (λL w' hL hC hA=>?_);have hE5:EI wB x12 (l++fC (T nm)++b8 [(ky:Int),(vl:Int),(en:Int)]) w':=wJ hA 12;have HE5:=ai hE5;clear hE5 hA hC hL
   try simp only[Exit.then]
   go_wp2_with fail;go_roundg (ms.length-(k+1))
   case measure=>omega
   case rel =>
    have hlz:=FY.o;refine⟨k+1,l++oD ⟨nm,ky,vl,en⟩,by go_num,?_,HD.o,?_,by omega,rfl⟩
    ·rw[oD,<-an];exact HE5.o
    ·rw[ab,oD,ab,gZ,gY];simp only[ar,bh];omega
  ·obtain rfl:k=ms.length:=by omega
   have dh:af (l=[83,80,79,76]++b8 [(kind:Int),(ms.length:Int)]++ms.flatMap oD):=by
    have:=HR.o;rw[b9]at this;rw[af]
    simpa using this
   have q1:wr.cell? ⟨w.heap.size,1,none⟩=some (.slice oF fs.length cF):=(Pm.o.ag hI.md id).cell 1;have FY:af (l.length<=70000):=by rw[af];omega
   clear CL hI HR hll;go_wp2_with (at_builtin;refine aL _ rfl (.tmp 43) (.tmp 48) 30 rfl 5 iU (.int .u8 0) 1 1 underlying30 E8 E9 Fa Fb rfl (by decide) u5 l.length (rj l) rfl (HI.o.mV.quiet aj) ⟨wr.heap.size,0,none⟩ 1 1 ([(fs.length:Int)].map (Value.int .u8)) rfl rfl (aV _ _ _ _ rfl) (vK _) (by have:=FY.o;unfold maxLen;omega) (by have:=FY.o;omega) ?_;intro v7 w7 s7 m7 l7;have H7:af (EI wB v7 (l++b8 [(fs.length:Int)]) w7):=(HI.o.quiet aj).step (Out.app (λx hx=>by simp at hx;subst hx;omega) rfl s7) m7 l7;have q2:w7.cell? ⟨w.heap.size,1,none⟩=some (.slice oF fs.length cF):=(Pm.o.ag H7.o.md id).cell 1);clear s7 m7 l7 HI;go_loopg [5,53] fs.length (λg ov iv wx=>∃(k:Nat) (l':tLB),iv=.int .i64 k/\EI wB ov l' wx/\l'++(fs.drop k).flatMap jN=l++b8 [(fs.length:Int)]++fs.flatMap jN/\l'.length<=70001+k*260/\k<=fs.length/\g=fs.length-k)
   case atStart=>exact⟨0,_,rfl,H7.o,rfl,by have:=FY.o;rw[ab,gY];simp only[ar,bh];omega,bt _,rfl⟩
   case round =>
    clear q1 q2;obtain⟨k,l',rfl,hI,iA,hll,hkm,rfl⟩:=hrel;have HR:=ai iA;clear iA;have CL:=TL.o.quiet hI.md;have TM:=ai hll;clear hll;by_cases hkl:k<fs.length
    ·have zn:k<vs.length:=by rw[CL.len];exact hkl
     obtain⟨gF,rfl,c0,c1⟩:=CL.TI k hkl zn;have hok:=HE.o.fn fs[k] (b5 hkl);have pF:=CL.code k hkl zn;have HD:af (l'++jN fs[k]++(fs.drop (k+1)).flatMap jN=l++b8 [(fs.length:Int)]++fs.flatMap jN):=by rw[af,<-HR.o,ao hkl,bj,an]
     have zK:af (∀w',aa ae wB w'->aH 0 w' tv bs aq/\gX w' vs[k] bs fs[k].code):=λw' m=>⟨(TL.o.quiet m).ops,(TL.o.quiet m).code k hkl zn⟩
     generalize fs[k]=f at *;generalize vs[k]=vC at *;obtain⟨nm,code⟩:=f;simp only at *;obtain⟨o1,o2,o3⟩:=hok;obtain⟨oC,cC,rfl,_⟩:=pF.view;clear CL HR;have HI:=ai hI;clear hI;have Hf:=ai zK.o;clear zK pF;go_upto_region 11 with fail;have ZL:EI wB u5 l' (wr.alloc (.cells #[.string (T nm),.slice oC code.length cC] 96)):=HI.o.quiet aj;have hbx:=ak.new wr #[.string (T nm),.slice oC code.length cC] 96;generalize wr.alloc (.cells #[.string (T nm),.slice oC code.length cC] 96)=W at *;generalize wr.heap.size=B at *;have HIW:=ai ZL;have hnx:¬(u5.ownBlock=some B):=ZL.mV.au hbx (by decide);have Fe:=ai hbx;have hts:(T nm).size<=255:=by rw[bG];exact o1
     have x0:∀g:Ext (λk=>u5.ownBlock=some k) W,g.w.cell? ⟨B,0,none⟩=some (.string (T nm)):=λg=>(Fe.o.ag g.m hnx).cell 0;have x1:∀g:Ext (λk=>u5.ownBlock=some k) W,g.w.cell? ⟨B,1,none⟩=some (.slice oC code.length cC):=λg=>(Fe.o.ag g.m hnx).cell 1;have ne1:=Ext.ne (λk=>u5.ownBlock=some k) W;clear ZL hbx c0 c1 HI;refine bE [3,5,6] (λw'=>∃e:Ext (λk=>u5.ownBlock=some k) W,w'=e.w) (by kernel_rfl) (by kernel_rfl) (by kernel_rfl) ⟨⟨_,aJ⟩,rfl⟩ ?_
     iterate 3 (refine aA rfl rfl rfl ?_;intro K hK;go_big_quiet_op;go_big_quiet_on)
     refine aF rfl rfl ?_;intro K hK;go_big_op;refine(yQ _ u5 l' (HIW.o.quiet aJ).mV (by have:=TM.o;omega) (T nm) hts).mono ?_;rintro e w3 ⟨v3,rfl,s3,m3,l3⟩;have H3:af (EI wB v3 (l'++fC (T nm)) w3):=(HIW.o.quiet aJ).step s3 m3 l3;have M3:af (aa (λk=>u5.ownBlock=some k) W w3):=aJ.trans m3;have L3:af (∀k,v3.ownBlock=some k->u5.ownBlock=some k\/W.heap.size<=k):=l3;refine hK _ _ rfl ⟨⟨_,M3.mV⟩,rfl⟩ ?_;clear hK K s3 m3 l3
     iterate 1 (refine aA rfl rfl rfl ?_;intro K hK;go_big_quiet_op;go_big_quiet_on)
     refine aF rfl rfl ?_;intro K hK;go_big_op;refine(Ha w3 tv bs (Hf.o w3 H3.o.md).1 code o3 (by omega) _ (Hf.o w3 H3.o.md).2 (T nm)).mono ?_;rintro e w4 ⟨rfl,m4⟩;have H4:=ai (H3.o.quiet m4);have M4:af (aa (λk=>u5.ownBlock=some k) W w4):=M3.mV.trans (m4.mono (λ_ _ e=>e.elim));refine hK _ _ rfl ⟨⟨_,M4.mV⟩,rfl⟩ ?_;clear hK K;refine aF rfl rfl ?_;intro K hK;go_big_op;refine(Bq w4 v3 (l'++fC (T nm)) H4.o.mV (by have:=TM.o;rw[ab,gZ];omega) (aM code)).mono ?_;rintro e w5 ⟨v5,rfl,s5,m5,l5⟩;have H5:af (EI wB v5 (l'++fC (T nm)++b8 (ko (aM code))) w5):=H4.o.step s5 m5 l5
     have M5:af (aa (λk=>u5.ownBlock=some k) W w5):=⟨m5.os.trans M4.mV.os,m5.tape.trans M4.mV.tape,m5.output.trans M4.mV.output,al M4.mV.size m5.size,λk hk hS=>(m5.block k (ba hk M4.mV.size) (λe=>by
      rcases L3.mV k e with h|h
      ·exact hS h
      ·omega)).trans (M4.mV.block k hk hS)⟩
     refine hK _ _ rfl ⟨⟨_,M5.mV⟩,rfl⟩ ?_;clear hK K s5 m5 l5
     iterate 1 (refine aA rfl rfl rfl ?_;intro K hK;go_big_quiet_op;go_big_quiet_on)
     refine bX ?_
     try simp only[Exit.then]
     go_wp2_with fail;go_roundg (fs.length-(k+1))
     case measure=>omega
     case rel =>
      have hlz:=TM.o;refine⟨k+1,l'++jN ⟨nm,code⟩,by go_num,?_,HD.o,?_,by omega,rfl⟩
      ·rw[jN,<-an];exact H5.o
      ·rw[ab,jN,ab,gZ,gY];simp only[ko,ar,bh];omega
    ·obtain rfl:k=fs.length:=by omega
     have dD:af (l'=l++b8 [(fs.length:Int)]++fs.flatMap jN):=by
      have:=HR.o;rw[b9]at this;rw[af]
      simpa using this
     have aeg:af (l'.length<=140000):=by have:=TM.o;rw[af];omega
     have q1:wr.cell? ⟨w.heap.size,1,none⟩=some (.slice oF fs.length cF):=(Pm.o.ag hI.md id).cell 1;have HI:=ai hI;clear CL hI HR TM;go_wp2_with fail;go_loopg [5,68] fs.length (λg ov iv wx=>∃(k:Nat) (a:tLB),iv=.int .i64 k/\EI wB ov a wx/\a++(fs.drop k).flatMap kH=l'++fs.flatMap kH/\a.length<=140000+k*3200/\k<=fs.length/\g=fs.length-k)
     case atStart=>exact⟨0,_,rfl,HI.o,rfl,by have:=aeg.o;omega,bt _,rfl⟩
     case round =>
      clear q1 HI;obtain⟨k,a,rfl,hI,iA,hll,hkm,rfl⟩:=hrel;have HR:=ai iA;clear iA;have CL:=TL.o.quiet hI.md;have aeh:=ai hll;clear hll;by_cases hkl:k<fs.length
      ·have zn:k<vs.length:=by rw[CL.len];exact hkl
       obtain⟨gF,rfl,c0,c1⟩:=CL.TI k hkl zn;have hok:=HE.o.fn fs[k] (b5 hkl);have pF:=CL.code k hkl zn;have HD:af (a++kH fs[k]++(fs.drop (k+1)).flatMap kH=l'++fs.flatMap kH):=by rw[af,<-HR.o,ao hkl,bj,an]
       have zK:af (∀w',aa ae wB w'->aH 0 w' tv bs aq/\gX w' vs[k] bs fs[k].code):=λw' m=>⟨(TL.o.quiet m).ops,(TL.o.quiet m).code k hkl zn⟩
       generalize fs[k]=f at *;generalize vs[k]=vC at *;obtain⟨nm,code⟩:=f;simp only at *;obtain⟨o1,o2,o3⟩:=hok;obtain⟨oC,cC,rfl,_⟩:=pF.view;have Hf:=ai zK.o;have uH:=ai o3;have HIa:af (EI wB u5 a (wr.alloc (.cells #[.string (T nm),.slice oC code.length cC] 96))):=hI.quiet aj;clear zK pF CL HR hI o3;go_wp2_with fail;generalize wr.alloc (.cells #[.string (T nm),.slice oC code.length cC] 96)=W at *;go_loopg [5,75] code.length (λg ov iv wx=>∃(j:Nat) (a':tLB),iv=.int .i64 j/\EI wB ov a' wx/\a'++(code.drop j).flatMap qG=a++kH ⟨nm,code⟩/\a'.length<=140000+k*3200+j*16/\j<=code.length/\g=code.length-j)
       case atStart=>exact⟨0,_,rfl,HIa.o,rfl,by have:=aeh.o;omega,bt _,rfl⟩
       case round =>
        clear c0 c1 HIa;obtain⟨j,a',rfl,hI,iA,hll,hjm,rfl⟩:=hrel;have HR:=ai iA;clear iA;have aaC:=ai hll;clear hll;by_cases hjl:j<code.length
        ·obtain⟨g,lab,rfl,hg,y0,y1,y2,y3,y4,y5,y6,y7⟩:=Bl (Hf.o wr hI.md).2 rfl rfl j hjl;have hx:=uH.o code[j] (b5 hjl);have HD2:af (a'++qG code[j]++(code.drop (j+1)).flatMap qG=a++kH ⟨nm,code⟩):=by rw[af,<-HR.o,ao hjl,bj,an]
         have HAT:af (∀w',aa ae wB w'->bY w' (bs[code[j].k]?.getD 0) code[j].o):=λw' m=>jI (Hf.o w' m).1 code[j] hx.k;have hcl:code[j].o.code<=255:=XL code[j].k hx.k;have aei:=hx.slots;have Zx:af (qG code[j]=uO code[j].o.code code[j].d code[j].s code[j].jump code[j].num code[j].high code[j].o.slots):=rfl;obtain⟨_,hxd,hxs,hxj,hxn,hxh⟩:=hx;generalize code[j].o=o at *;generalize code[j].jump=jmp at *;generalize code[j].d=xd at *;generalize code[j].s=xs at *;generalize code[j].num=xn at *;generalize code[j].high=xh at *;generalize code[j].name=xm at *;generalize bs[code[j].k]?.getD 0=b at *;generalize qG code[j]=su at *;have HI:=ai hI;clear hI HR;go_wp2_with fail;have HIx:af (EI wB u5 a' (wr.alloc (.cells #[.pointer (some ⟨b,0,none⟩),.int .u8 xd,.int .u8 xs,.int .i16 jmp,.int .i32 xn,.int .i32 xh,.string lab,.string (T xm)] 138))):=HI.o.quiet aj;obtain⟨p1,pn,pc,f6,c6,k7,c7,k8,c8,f9,c9,hop,_⟩:=(HAT.o _ HIx.o.md).ex;refine(Ku _ u5 a' HIx.o.mV (by have:=aaC.o;omega) b _ o.code o.slots hop rfl rfl xd xs jmp xn xh _ _ hcl hxd hxs hxj hxn hxh (by omega)).mono ?_;rintro e w3 ⟨v3,rfl,s3,m3,l3⟩;have H3:af (EI wB v3 (a'++su) w3):=by rw[Zx.o];exact HIx.o.step s3 m3 l3
         clear s3 m3 l3 hop;go_wp2_with fail;go_roundg (code.length-(j+1))
         case measure=>omega
         case rel =>
          have hlz:=aaC.o;have hsu:su.length<=16:=by rw[Zx.o];exact PB _ _ _ _ _ _ _
          exact⟨j+1,a'++su,by go_num,H3.o,HD2.o,by rw[ab];omega,by omega,rfl⟩
        ·obtain rfl:j=code.length:=by omega
         have fU:af (a'=a++kH ⟨nm,code⟩):=by
          have:=HR.o;rw[b9]at this;rw[af]
          simpa using this
         have HI:=ai hI;clear hI HR;go_wp2_with fail;go_roundg (fs.length-(k+1))
         case measure=>omega
         case rel =>have:=aaC.o;exact⟨k+1,a',by go_num,HI.o,by rw[fU.o];exact HD.o,by omega,by omega,rfl⟩
      ·obtain rfl:k=fs.length:=by omega
       have dw:af (a=ib kind ms fs):=by
        have:=HR.o;rw[b9]at this;rw[af,ib,<-dh.o,<-dD.o]
        simpa using this
       have HI:=ai hI;clear hI HR CL;go_wp2_with fail;go_ret;refine⟨u5,rfl,?_⟩;rw[<-dw.o];exact⟨HI.o.mV,Pk.o.trans HI.o.md,λk hk=>al Pk.o.size (HI.o.own k hk)⟩
