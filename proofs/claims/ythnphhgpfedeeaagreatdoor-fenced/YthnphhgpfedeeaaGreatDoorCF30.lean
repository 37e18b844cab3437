import Derived.Test.YthnphhgpfedeeaaGreatDoorCF29
import Derived.Test.YthnphhgpfedeeaaGreatDoorCF28
import Derived.Lib.SlBytesConst
namespace Go.Proofs.YthnphhgpfedeeaaGreatDoor
open Go.RowKit Tryz
open Lib renaming run_append_own_string->ao
open List renaming length_append->ab,length_cons->ar,length_nil->aE,map_cons->ba,map_toArray->bh,getElem_zip->bj,getElem_map->bq
open Nat renaming le_trans->al,lt_of_lt_of_le->an
set_option linter.all false
set_option maxRecDepth 100000
set_option maxHeartbeats 1000000
def rj(l:tLB):List Value:=l.map (λb=>.int .u8 (b.toNat:Int))
theorem xH(a b:tLB):rj (a++b)=rj a++rj b:=by simp[rj]
theorem Kt:∀(l:List Int),(∀x∈l,0<=x/\x<=255)->rj (b8 l)=l.map (Value.int .u8)
 |[],_=>rfl
 |x::l,h=>by
  have hx:=h x (by simp);have e:((UInt8.ofNat x.toNat).toNat:Int)=x:=by rw[UInt8.toNat_ofNat'];omega
  have:=Kt l (λy hy=>h y (List.mem_cons_of_mem _ hy));simp only[rj,b8,ba,List.map_map]at this ⊢;rw[e];congr 1
def Out(w:tW)(v:Value)(l:tLB):Prop:=Sl w 5 1 v l.length (rj l)
def lh(w:tW)(v:Value)(l:tLB)(e:Ending)(w':tW):Prop :=
 ∃v',e=.returned v'/\Out w' v' l/\aa (λk=>v.ownBlock=some k) w w'/\∀k,v'.ownBlock=some k->v.ownBlock=some k\/w.heap.size<=k
theorem Out.ag{w w':tW}{v:Value}{l:tLB}{S:Nat->Prop}(h:Out w v l)(m:aa S w w')(hS:∀k,v.ownBlock=some k->¬S k):Out w' v l:=Sl.ag h m hS
theorem Out.quiet{w w':tW}{v:Value}{l:tLB}(h:Out w v l)(m:aa ae w w'):Out w' v l:=h.ag m (λ_ _=>id)
theorem XG:(prog.info? 5).map (λi=>(i.zero,i.size,i.bytes))=some (some (.int .u8 0),1,1):=by kernel_rfl
theorem vK(l:List Int):∀u∈l.map (Value.int .u8),u.oneCell'=true:=by intro u hu;obtain⟨x,_,rfl⟩:=List.mem_map.1 hu;rfl
theorem Out.app{w:tW}{v:Value}{l:tLB}{n:Nat}{ns:List Int}(h:∀x∈ns,0<=x/\x<=255)(hn:n=l.length+ns.length)(s:Sl w 5 1 v n (rj l++ns.map (Value.int .u8))):Out w v (l++b8 ns):=by unfold Out;rw[xH,Kt ns h,ab,gY,<-hn];exact s
theorem Pz(s:tBA):Lib.strCells s=rj (BL s):=by simp[Lib.strCells,rj,BL]
theorem Bo{P:Program}(w:tW)(t u ty e:TypeId)(i:TypeInfo)(ht:P.underlying t=some (.slice e))(hu:P.underlying u=some .string)(hi:P.info? e=some i)(hz:i.zero=some (.int .u8 0))(hsize:i.size=1) (hby:i.bytes=1) (v:Value) (n:Nat) (xs:List Value) (hown:Sl w e 1 v n xs) (s:tBA) (h63:n+s.size<=maxLen) (hbytes:n+s.size<=140737488355328):∃v' w',(Builtin.append_ #[t,u] ty #[v,.string s]).run P w=.ok v' w'/\Sl w' e 1 v' (n+s.size) (xs++rj (BL s))/\aa (λk=>v.ownBlock=some k) w w' /\ (∀k,v'.ownBlock=some k->v.ownBlock=some k\/w.heap.size<=k):=by
 obtain⟨v',w',hr,h2,h3,_⟩:=ao (P:=P) w 0 t u ty e i ht hu hi hz hsize hby v n xs hown s h63 hbytes (Nat.zero_le _);rw[Pz]at h2;refine⟨v',w',hr,h2,aa.F6 h3,?_⟩;intro k hk;rcases hown.2 with⟨rfl,rfl⟩ |⟨g,cap,cur,rfl,_,hg,hn,hm,hcs,htk⟩
 ·obtain⟨v2,w2,hr2,h22,_⟩:=ao (P:=P) w w.heap.size t u ty e i ht hu hi hz hsize hby _ 0 xs ⟨hown.1,.inl ⟨rfl,rfl⟩⟩ s h63 hbytes (Nat.le_refl _);rw[hr]at hr2;cases hr2;exact .inr (World.ownsRow.lt h22 k hk).1
 ·by_cases hroom:n+s.size<=cap
  ·have hr2:=Lib.run_append_room_string (P:=P) w t u ty e i ht hu hi hsize g n cap cur hg s hroom (by simp at hcs;omega);rw[hr]at hr2;cases hr2;exact .inl hk
  ·have hr2:=Lib.run_append_grow_string (P:=P) w t u ty e i (.int .u8 0) ht hu hi hz ⟨g,0,none⟩ n cap xs (by rw[hsize];exact hown.1) (World.ownsRow.cells hown (g:=g) rfl) s (by omega) (by unfold maxLen at h63;omega) (by rw[hby];exact growslice_fits (by omega) (by omega));rw[hr]at hr2;cases hr2;cases hk;exact .inr (Nat.le_refl _)
theorem uN{P:Program}(w:tW){o:Oper}{a:Act}{K:Act->tW->Prop}{Q:Exit->Act->tW->Prop}(sl x:Operand)(t u:TypeId)(ho:o.op=.call {callee:=.builtin .append,args:=#[sl,x],argTypes:=#[t,u]})(e:TypeId) (i:TypeInfo) (ht:P.underlying t=some (.slice e)) (hu:P.underlying u=some .string) (hi:P.info? e=some i) (hz:i.zero=some (.int .u8 0)) (hsize:i.size=1) (hby:i.bytes=1)(v:Value) (n:Nat) (xs:List Value) (hs:a.eval sl=v) (hown:Sl w e 1 v n xs) (s:tBA) (hx:a.eval x=.string s) (h63:n+s.size<=maxLen) (hbytes:n+s.size<=140737488355328)(h:∀v' w',Sl w' e 1 v' (n+s.size) (xs++rj (BL s))->aa (λk=>v.ownBlock=some k) w w'->(∀k,v'.ownBlock=some k->v.ownBlock=some k\/w.heap.size<=k)->K (a.put o.dst v') w'):o.wp P a w K Q:=by obtain⟨v',w',hr,h2,h3,h4⟩:=Bo (P:=P) w t u o.type e i ht hu hi hz hsize hby v n xs hown s h63 hbytes;unfold Oper.wp execOp;simp only[ho,resolve,invoke,builtin,Sem.run_bind,Sem.run_pure,Result.andThen_ok,bh,ba,List.map_nil,hs,hx,hr];exact h v' w' h2 h3 h4
theorem xI{P:Program}(w:tW){ops:Array Oper}{rest:List Oper}{o:Oper}{a:Act}{Q:Exit->Act->tW->Prop}(hgd:o.guard=none)(sl x:Operand)(t u:TypeId)(ho:o.op=.call {callee:=.builtin .append,args:=#[sl,x],argTypes:=#[t,u]})(e:TypeId) (i:TypeInfo) (ht:P.underlying t=some (.slice e)) (hu:P.underlying u=some .string) (hi:P.info? e=some i) (hz:i.zero=some (.int .u8 0)) (hsize:i.size=1) (hby:i.bytes=1)(v:Value) (n:Nat) (xs:List Value) (hs:a.eval sl=v) (hown:Sl w e 1 v n xs) (s:tBA) (hx:a.eval x=.string s) (h63:n+s.size<=maxLen) (hbytes:n+s.size<=140737488355328)(h:∀v' w',Sl w' e 1 v' (n+s.size) (xs++rj (BL s))->aa (λk=>v.ownBlock=some k) w w'->(∀k,v'.ownBlock=some k->v.ownBlock=some k\/w.heap.size<=k)->wpList P ops Q rest (a.put o.dst v') w'):wpList P ops Q (o::rest) a w :=
 wpList_plain hgd λ_ hK=>uN w sl x t u ho e i ht hu hi hz hsize hby v n xs hs hown s hx h63 hbytes λv' w' h2 h3 h4=>hK _ _ (h v' w' h2 h3 h4)
theorem dx:∃i:TypeInfo,prog.info? 5=some i/\i.zero=some (.int .u8 0)/\i.size=1/\i.bytes=1:=by obtain⟨i,h,hq⟩:=Option.map_eq_some_iff.1 XG;exact⟨i,h,congrArg (·.1) hq,congrArg (·.2.1) hq,congrArg (·.2.2) hq⟩
theorem xJ{w w':tW}{v:Value}{k:Nat}(h:v.ownBlock=some k\/w'.heap.size<=k)(m:w.heap.size<=w'.heap.size):v.ownBlock=some k\/w.heap.size<=k:=by
 rcases h with h|h
 ·exact .inl h
 ·exact .inr (al m h)
theorem oz{w w1:tW}{v v1 v2:Value}(h1:∀k,v1.ownBlock=some k->v.ownBlock=some k\/w.heap.size<=k)(h2:∀k,v2.ownBlock=some k->v1.ownBlock=some k\/w1.heap.size<=k)(m:w.heap.size<=w1.heap.size):∀k,v2.ownBlock=some k->v.ownBlock=some k\/w.heap.size<=k:=by
 intro k hk;rcases h2 k hk with h|h
 ·exact h1 k h
 ·exact .inr (al m h)
theorem Bp{w w1 w2:tW}{v v1:Value}(h1:aa (λk=>v.ownBlock=some k) w w1)(hv:∀k,v1.ownBlock=some k->v.ownBlock=some k\/w.heap.size<=k)(h2:aa (λk=>v1.ownBlock=some k) w1 w2):aa (λk=>v.ownBlock=some k) w w2 :=
 ⟨h2.os.trans h1.os,h2.tape.trans h1.tape,h2.output.trans h1.output,al h1.size h2.size,λk hk hS=>(h2.block k (an hk h1.size) (λe=>by
  rcases hv k e with h|h
  ·exact hS h
  ·omega)).trans (h1.block k hk hS)⟩
theorem Bq(w:tW)(v:Value)(l:tLB)(h:Out w v l)(hl:l.length<=1000000)(n:Int):Calls prog 147 #[v,.int .i64 n] w λe w'=>lh w v (l++b8 (ko n)) e w':=by
 obtain⟨iU,E8,E9,Fa,Fb⟩:=dx;have HO:=ai h;have HB:af (∀x∈ko n,0<=x/\x<=255):=λx hx=>by simp[ko]at hx;rcases hx with rfl|rfl<;>omega
 clear h;go_enter func147,ntmps147;go_wp2_with (at_builtin;refine aL _ rfl (.tmp 5) (.tmp 11) 30 rfl 5 iU (.int .u8 0) 1 1 underlying30 E8 E9 Fa Fb rfl (by decide) v l.length (rj l) rfl (HO.o.quiet aj) ⟨w.heap.size,0,none⟩ 2 2 ((ko n).map (Value.int .u8)) rfl rfl (aV _ _ _ _ rfl) (vK _) (by unfold maxLen;omega) (by omega) ?_;intro v2 w2 s2 m2 l2);go_ret;exact⟨_,rfl,Out.app HB.o rfl s2,aj.trans m2,λk hk=>xJ (l2 k hk) ((aa.refl ae w).alloc _).size⟩
theorem Hd(w:tW)(v:Value)(l:tLB)(h:Out w v l)(hl:l.length<=1000000)(n:Int)(_hn:-2147483648<=n/\n<=2147483647):Calls prog 258 #[v,.int .i32 n] w λe w'=>lh w v (l++b8 (gG n)) e w':=by
 obtain⟨iU,E8,E9,Fa,Fb⟩:=dx;have HO:=ai h;have HB:af (∀x∈gG n,0<=x/\x<=255):=λx hx=>by simp[gG]at hx;rcases hx with rfl|rfl|rfl|rfl<;>omega
 clear h;go_enter func258,ntmps258;go_wp2_with (at_builtin;refine aL _ rfl (.tmp 5) (.tmp 17) 30 rfl 5 iU (.int .u8 0) 1 1 underlying30 E8 E9 Fa Fb rfl (by decide) v l.length (rj l) rfl (HO.o.quiet aj) ⟨w.heap.size,0,none⟩ 4 4 ((gG n).map (Value.int .u8)) rfl rfl (aV _ _ _ _ rfl) (vK _) (by unfold maxLen;omega) (by omega) ?_;intro v2 w2 s2 m2 l2);go_ret;exact⟨_,rfl,Out.app HB.o rfl s2,aj.trans m2,λk hk=>xJ (l2 k hk) ((aa.refl ae w).alloc _).size⟩
theorem yQ(w:tW)(v:Value)(l:tLB)(h:Out w v l)(hl:l.length<=1000000)(s:tBA)(hs:s.size<=255):Calls prog 148 #[v,.string s] w λe w'=>lh w v (l++fC s) e w':=by
 obtain⟨iU,E8,E9,Fa,Fb⟩:=dx;have HO:=ai h;have HB:af (∀x∈[(s.size:Int)],0<=x/\x<=255):=λx hx=>by simp at hx;subst hx;omega
 have HN:af (l++fC s=l++b8 [(s.size:Int)]++BL s):=by rw[af,fC,Int.emod_eq_of_lt (by omega) (by omega),List.append_assoc]
 clear h;go_enter func148,ntmps148
 go_wp2_with (first
  |(at_builtin;refine aL _ rfl (.tmp 5) (.tmp 9) 30 rfl 5 iU (.int .u8 0) 1 1 underlying30 E8 E9 Fa Fb rfl (by decide) v l.length (rj l) rfl (HO.o.quiet aj) ⟨w.heap.size,0,none⟩ 1 1 ([(s.size:Int)].map (Value.int .u8)) rfl rfl (aV _ _ _ _ rfl) (vK _) (by unfold maxLen;omega) (by omega) ?_;intro v2 w2 s2 m2 l2;have S2:af (Sl w2 5 1 v2 (l.length+1) (rj l++[(s.size:Int)].map (Value.int .u8))):=s2;have L2:af (∀k,v2.ownBlock=some k->v.ownBlock=some k\/w.heap.size<=k):=λk hk=>xJ (l2 k hk) ((aa.refl ae w).alloc _).size;have M2:af (aa (λk=>v.ownBlock=some k) w w2):=aj.trans m2;clear s2 l2 m2)
  |(at_builtin;refine xI _ rfl (.tmp 10) (.tmp 11) 30 9 rfl 5 iU underlying30 underlying9 E8 E9 Fa Fb v2 (l.length+1) (rj l++[(s.size:Int)].map (Value.int .u8)) rfl S2.o s rfl (by unfold maxLen;omega) (by omega) ?_;intro v3 w3 s3 m3 l3))
 go_ret;refine⟨_,rfl,?_,Bp M2.o L2.o m3,oz L2.o l3 M2.o.size⟩;have h1:rj (l++b8 [(s.size:Int)]++BL s)=rj l++[(s.size:Int)].map (Value.int .u8)++rj (BL s):=by rw[xH,xH,Kt _ HB.o]
 have h2:(l++b8 [(s.size:Int)]++BL s).length=l.length+1+s.size:=by simp only[ab,gY,RD,ar,aE]
 rw[HN.o,Out,h1,h2];exact s3
def uO(code:Nat)(d s:Nat)(j n h:Int)(slots:Nat):tLB :=
 b8 [(code:Int),(d:Int)+16*s,j%256,j/256%256]++b8 (gG n)++(if slots=1 then []else [0,0,0,0]++b8 (gG h))
theorem TH(x:Int):IntKind.u8.wrap x=x%256:=by simp[IntKind.wrap,IntKind.bits,IntKind.signed]
theorem aaA:∀d,d<16->∀s,s<16->bits BinOp.or IntKind.u8 ((d:Nat):Int) ((s:Nat)*16:Int)=d+16*s:=by decide +kernel
theorem Ku(w:tW)(v:Value)(l:tLB)(h:Out w v l)(hl:l.length<=900000)(b:Nat)(cs:tAV)(code slots:Nat)(hb:ak w b cs 146)(h0:cs[0]?=some (.int .u8 code))(h2:cs[2]?=some (.int .i64 slots))(d s:Nat) (j n hh:Int) (lab nm:tBA) (hc:code<=255) (hd:d<=15) (hs:s<=15) (_hj:-32768<=j/\j<=32767) (hn:-2147483648<=n/\n<=2147483647) (hhh:-2147483648<=hh/\hh<=2147483647) (hsl:slots<=2):Calls prog 149 #[.agg #[.pointer (some ⟨b,0,none⟩),.int .u8 d,.int .u8 s,.int .i16 j,.int .i32 n,.int .i32 hh,.string lab,.string nm],v] w λe w'=>lh w v (l++uO code d s j n hh slots) e w':=by
 obtain⟨iU,E8,E9,Fa,Fb⟩:=dx;have c0:w.cell? ⟨b,0,none⟩=some (.int .u8 code):=by rw[hb.cell 0];exact h0
 have c2:w.cell? ⟨b,2,none⟩=some (.int .i64 slots):=by rw[hb.cell 2];exact h2
 have hbl:=hb.lt;have HO:=ai h;have Rk:=ai hb;clear h hb;go_enter func149,ntmps149;go_upto_region 1 with fail;have hor:=aaA d (by omega) s (by omega);have hw1:IntKind.u8.wrap ((s:Int)*16)=(s:Int)*16:=by rw[TH];omega
 have hw2:=TH j;have hw3:=TH (j/256);have hbx:=ak.new w #[.pointer (some ⟨b,0,none⟩),.int .u8 d,.int .u8 s,.int .i16 j,.int .i32 n,.int .i32 hh,.string lab,.string nm] 138;have ZF:af (Out (w.alloc (.cells #[.pointer (some ⟨b,0,none⟩),.int .u8 d,.int .u8 s,.int .i16 j,.int .i32 n,.int .i32 hh,.string lab,.string nm] 138)) v l):=HO.o.quiet aj;have HB1:af (ak (w.alloc (.cells #[.pointer (some ⟨b,0,none⟩),.int .u8 d,.int .u8 s,.int .i16 j,.int .i32 n,.int .i32 hh,.string lab,.string nm] 138)) b cs 146):=Rk.o.alloc _;have dh:af (aa ae w (w.alloc (.cells #[.pointer (some ⟨b,0,none⟩),.int .u8 d,.int .u8 s,.int .i16 j,.int .i32 n,.int .i32 hh,.string lab,.string nm] 138))):=aj;have Fe:=ai hbx;generalize w.alloc (.cells #[.pointer (some ⟨b,0,none⟩),.int .u8 d,.int .u8 s,.int .i16 j,.int .i32 n,.int .i32 hh,.string lab,.string nm] 138)=W at *;clear c0 c2;have hnx:¬(v.ownBlock=some w.heap.size):=ZF.o.au Fe.o (by decide);have hnb:¬(v.ownBlock=some b):=ZF.o.au HB1.o (by decide);obtain⟨x0,x1,x2,x3,x4,x5,x6,x7⟩:=Ext.iV (S:=λk=>v.ownBlock=some k) Fe.o hnx;have c0:∀g:Ext (λk=>v.ownBlock=some k) W,g.w.cell? ⟨b,0,none⟩=some (.int .u8 code):=λg=>by rw[(HB1.o.ag g.m hnb).cell 0];exact h0
 have ne1:=Ext.ne (λk=>v.ownBlock=some k) W;clear hbx;refine bE [19,20] (λw'=>∃e:Ext (λk=>v.ownBlock=some k) W,w'=e.w) (by kernel_rfl) (by kernel_rfl) (by kernel_rfl) ⟨⟨_,aJ⟩,rfl⟩ ?_
 iterate 3 (refine aA rfl rfl rfl ?_;intro K hK;go_big_quiet_op;go_big_quiet_on)
 refine bV rfl rfl _ ⟨b,0,none⟩ rfl rfl ?_;simp only[Act.put,sA9,sB9,sC9]
 iterate 15 (refine aA rfl rfl rfl ?_;intro K hK;go_big_quiet_op;go_big_quiet_on)
 refine aF rfl rfl ?_;intro K hK;go_big_op;refine hK _ _ rfl ⟨⟨_,aJ.alloc _⟩,rfl⟩ ?_;clear hK K;refine aF rfl rfl ?_;intro K hK;refine eO _ (.tmp 5) (.tmp 24) 30 rfl 5 iU (.int .u8 0) 1 1 underlying30 E8 E9 Fa Fb rfl (by decide) v l.length (rj l) rfl (ZF.o.quiet (aj.drew)) ⟨W.heap.size,0,none⟩ 4 4 ([(code:Int),(d:Int)+16*s,j%256,j/256%256].map (Value.int .u8)) rfl rfl (λk u hu=>aV W _ _ _ rfl k u hu) (vK _) (by unfold maxLen;omega) (by omega) ?_;intro v2 w2 s2 m2 l2;have M2:af (aa (λk=>v.ownBlock=some k) W w2):=(aj.drew).trans m2;have L2:af (∀k,v2.ownBlock=some k->v.ownBlock=some k\/W.heap.size<=k):=λk hk=>xJ (l2 k hk) (((aa.refl ae W).alloc _).drew).size;have S2:af (Out w2 v2 (l++b8 [(code:Int),(d:Int)+16*s,j%256,j/256%256])):=Out.app (λx hx=>by simp at hx;rcases hx with rfl|rfl|rfl|rfl<;>omega) rfl s2;refine hK _ _ rfl ⟨⟨_,M2.o⟩,rfl⟩ ?_;clear hK K s2 m2 l2;simp only[Act.put,sA9,sB9,sC9]
 iterate 1 (refine aA rfl rfl rfl ?_;intro K hK;go_big_quiet_op;go_big_quiet_on)
 refine bX ?_;simp only[Exit.then];have HB2:=ai (HB1.o.ag M2.o hnb);have xc:=ai (Fe.o.ag M2.o hnx);clear x0 x1 x2 x3 x4 x5 x6 x7 c0 ne1;obtain⟨x0,x1,x2,x3,x4,x5,x6,x7⟩:=xc.o.iV;have hl2:(l++b8 [(code:Int),(d:Int)+16*s,j%256,j/256%256]).length=l.length+4:=by rw[ab,gY];rfl
 have HL2:=ai hl2;clear hl2;have Cz:af (Calls prog 258 #[v2,.int .i32 n] w2 λe w'=>lh w2 v2 (l++b8 [(code:Int),(d:Int)+16*s,j%256,j/256%256]++b8 (gG n)) e w'):=Hd w2 v2 _ S2.o (by rw[HL2.o];omega) n hn;go_wp2_with fail;refine Cz.o.mono ?_;rintro e w3 ⟨v3,rfl,s3,m3,l3⟩
 have M3:af (aa (λk=>v.ownBlock=some k) W w3):=⟨m3.os.trans M2.o.os,m3.tape.trans M2.o.tape,m3.output.trans M2.o.output,al M2.o.size m3.size,λk hk hS=>(m3.block k (an hk M2.o.size) (λe=>by
  rcases L2.o k e with h|h
  ·exact hS h
  ·omega)).trans (M2.o.block k hk hS)⟩
 have L3:af (∀k,v3.ownBlock=some k->v.ownBlock=some k\/W.heap.size<=k):=oz L2.o l3 M2.o.size;have S3:=ai s3;have HB3:=ai (HB1.o.ag M3.o hnb);have HX3:=ai (Fe.o.ag M3.o hnx);have SX:af ((l++b8 [(code:Int),(d:Int)+16*s,j%256,j/256%256]++b8 (gG n)).length=l.length+8):=by rw[af,ab,HL2.o,gY];rfl
 clear m3 l3 s3 x0 x1 x2 x3 x4 x5 x6 x7;obtain⟨x0,x1,x2,x3,x4,x5,x6,x7⟩:=HX3.o.iV;have c2:w3.cell? ⟨b,2,none⟩=some (.int .i64 slots):=by rw[HB3.o.cell 2];exact h2
 have hWs:w.heap.size<=W.heap.size:=dh.o.size
 have ZK:af (∀(w':tW) (v':Value),aa (λk=>v.ownBlock=some k) W w'->(∀k,v'.ownBlock=some k->v.ownBlock=some k\/W.heap.size<=k)->aa (λk=>v.ownBlock=some k) w w'/\∀k,v'.ownBlock=some k->v.ownBlock=some k\/w.heap.size<=k) :=
  λw' v' m l=>⟨(dh.o.mono (λ_ _ e=>e.elim)).trans m,λk hk=>xJ (l k hk) hWs⟩
 by_cases h1:slots=1
 ·subst h1;go_wp2_with fail;go_ret;refine⟨v3,rfl,?_,ZK.o _ _ M3.o L3.o⟩;have:l++uO code d s j n hh 1=l++b8 [(code:Int),(d:Int)+16*s,j%256,j/256%256]++b8 (gG n):=by simp[uO]
  rw[this];exact S3.o
 ·have hd1:decide ((slots:Int)=1)=false:=by simp;omega
  have hd2:((slots:Int)==1)=false:=by simp;omega
  go_wp2_with fail;clear x0 x1 x2 x3 x4 x5 x6 x7 c2;obtain⟨x0,x1,x2,x3,x4,x5,x6,x7⟩:=Ext.iV (S:=λk=>v.ownBlock=some k) Fe.o hnx;have ne1:=Ext.ne (λk=>v.ownBlock=some k) W;refine bE [1,4] (λw'=>∃e:Ext (λk=>v.ownBlock=some k) W,w'=e.w) (by kernel_rfl) (by kernel_rfl) (by kernel_rfl) ⟨⟨_,M3.o.drew⟩,rfl⟩ ?_
  iterate 1 (refine aA rfl rfl rfl ?_;intro K hK;go_big_quiet_op;go_big_quiet_on)
  refine aF rfl rfl ?_;intro K hK;refine uN _ (.tmp 37) _ 30 9 rfl 5 iU underlying30 underlying9 E8 E9 Fa Fb v3 _ _ rfl (S3.o.quiet aJ) (T [0,0,0,0]) rfl (by rw[SX.o];simp only[bG,ar,aE];unfold maxLen;omega) (by rw[SX.o];simp only[bG,ar,aE];omega) ?_;intro v4 w4 s4 m4 l4
  have M4:af (aa (λk=>v.ownBlock=some k) W w4):=⟨m4.os.trans M3.o.os,m4.tape.trans M3.o.tape,m4.output.trans M3.o.output,al M3.o.size m4.size,λk hk hS=>(m4.block k (an hk M3.o.size) (λe=>by
   rcases L3.o k e with h|h
   ·exact hS h
   ·omega)).trans (M3.o.block k hk hS)⟩
  have L4:af (∀k,v4.ownBlock=some k->v.ownBlock=some k\/W.heap.size<=k):=oz (w1:=w3.drew) L3.o l4 M3.o.size;have S4:af (Out w4 v4 (l++b8 [(code:Int),(d:Int)+16*s,j%256,j/256%256]++b8 (gG n)++[0,0,0,0])):=by rw[af,Out,xH,ab];exact s4
  have Gy:af ((l++b8 [(code:Int),(d:Int)+16*s,j%256,j/256%256]++b8 (gG n)++[0,0,0,0]).length=l.length+12):=by rw[af,ab,SX.o];rfl
  refine hK _ _ rfl ⟨⟨_,M4.o⟩,rfl⟩ ?_;clear hK K s4 m4 l4;simp only[Act.put,sA9,sB9,sC9]
  iterate 2 (refine aA rfl rfl rfl ?_;intro K hK;go_big_quiet_op;go_big_quiet_on)
  refine aF rfl rfl ?_;intro K hK;go_big_op;refine(Hd w4 v4 _ S4.o (by rw[Gy.o];omega) hh hhh).mono ?_;rintro e w5 ⟨v5,rfl,s5,m5,l5⟩
  have M5:af (aa (λk=>v.ownBlock=some k) W w5):=⟨m5.os.trans M4.o.os,m5.tape.trans M4.o.tape,m5.output.trans M4.o.output,al M4.o.size m5.size,λk hk hS=>(m5.block k (an hk M4.o.size) (λe=>by
   rcases L4.o k e with h|h
   ·exact hS h
   ·omega)).trans (M4.o.block k hk hS)⟩
  have L5:af (∀k,v5.ownBlock=some k->v.ownBlock=some k\/W.heap.size<=k):=oz L4.o l5 M4.o.size;have S5:=ai s5;refine hK _ _ rfl ⟨⟨_,M5.o⟩,rfl⟩ ?_;clear hK K s5 m5 l5
  iterate 1 (refine aA rfl rfl rfl ?_;intro K hK;go_big_quiet_op;go_big_quiet_on)
  refine bX ?_
  try simp only[Exit.then]
  go_wp2_with fail;go_ret;refine⟨v5,rfl,?_,ZK.o _ _ M5.o L5.o⟩;have:l++uO code d s j n hh slots=l++b8 [(code:Int),(d:Int)+16*s,j%256,j/256%256]++b8 (gG n)++[0,0,0,0]++b8 (gG hh):=by simp[uO,h1]
  rw[this];exact S5.o
def oD(m:az):tLB:=fC (T m.name)++b8 [(m.key:Int),(m.value:Int),(m.entries:Int)]
def jN(f:aS):tLB:=fC (T f.name)++b8 (ko (aM f.code))
def qG(x:PI):tLB:=uO x.o.code x.d x.s x.jump x.num x.high x.o.slots
def kH(f:aS):tLB:=f.code.flatMap qG
def ib(kind:Nat)(ms:List az)(fs:List aS):tLB :=
 [83,80,79,76]++b8 [(kind:Int),(ms.length:Int)]++ms.flatMap oD++b8 [(fs.length:Int)]++fs.flatMap jN++fs.flatMap kH
structure EI(w:tW)(v:Value)(l:tLB)(w':tW):Prop where
 mV:Out w' v l
 md:aa ae w w'
 own:∀k,v.ownBlock=some k->w.heap.size<=k
theorem EI.step{w w1 w2:tW}{v v':Value}{l l':tLB}(h:EI w v l w1)(o:Out w2 v' l')(m:aa (λk=>v.ownBlock=some k) w1 w2)(hv:∀k,v'.ownBlock=some k->v.ownBlock=some k\/w1.heap.size<=k):EI w v' l' w2 :=
 ⟨o,h.md.step m (λi hi e=>by have:=h.own i e;omega),λk hk=>by
  rcases hv k hk with e|e
  ·exact h.own k e
  ·have:=h.md.size;omega⟩
theorem EI.quiet{w w1 w2:tW}{v:Value}{l:tLB}(h:EI w v l w1)(m:aa ae w1 w2):EI w v l w2 :=
 ⟨h.mV.quiet m,h.md.trans m,h.own⟩
structure We(w:tW)(tv:Value)(bs:List Nat)(vM vF:Value)(ms:List az)(fs:List aS)(vs:List Value):Prop where
 maps:Sl w 100 4 vM ms.length (ms.flatMap az.cells)
 len:vs.length=fs.length
 rows:Sl w 96 2 vF fs.length (((fs.map (·.name)).zip vs).flatMap mF)
 code:∀i (_:i<fs.length) (_:i<vs.length),Sl w 138 8 vs[i] fs[i].code.length (xe bs fs[i].code)
 ops:aH 0 w tv bs aq
theorem We.quiet{w w':tW}{tv:Value}{bs:List Nat}{vM vF:Value}{ms:List az}{fs:List aS}{vs:List Value}(h:We w tv bs vM vF ms fs vs)(m:aa ae w w'):We w' tv bs vM vF ms fs vs :=
 ⟨h.maps.ag m (λ_ _=>id),h.len,h.rows.ag m (λ_ _=>id),λi a b=>(h.code i a b).ag m (λ_ _=>id),h.ops.ag m⟩
theorem We.TI{w:tW}{tv:Value}{bs:List Nat}{oF:Option Addr}{cF:Nat}{vM:Value}{ms:List az}{fs:List aS}{vs:List Value}(h:We w tv bs vM (.slice oF fs.length cF) ms fs vs)(k:Nat)(hk:k<fs.length)(hv':k<vs.length):∃g,oF=some ⟨g,0,none⟩/\w.cell? ⟨g,k*2,none⟩=some (.string (T fs[k].name))/\w.cell? ⟨g,k*2+1,none⟩=some vs[k]:=by
 obtain⟨o',cap',hv,h2⟩:=h.rows.view;cases hv;obtain⟨g,cs,rfl,hb,ht,_⟩:=h2 (by omega);have hz:k<((fs.map (·.name)).zip vs).length:=by simp only[List.length_zip,List.length_map];omega
 have key:∀c,c<2->w.cell? ⟨g,k*2+c,none⟩=(mF (fs[k].name,vs[k]))[c]?:=λc hc=>by rw[aW hb ht (k*2+c) (by omega)];have:=flat_get mF 2 (λ_=>rfl) ((fs.map (·.name)).zip vs) k c hz hc;rw[this,bj,bq]
 exact⟨g,rfl,key 0 (by omega),key 1 (by omega)⟩
theorem PB(code d s:Nat)(j n h:Int)(slots:Nat):(uO code d s j n h slots).length<=16:=by unfold uO;split<;>simp[b8,gG]
theorem vN{P:Program}(w:tW){ops:Array Oper}{rest:List Oper}{o:Oper}{a:Act}{Q:Exit->Act->tW->Prop}(hgd:o.guard=none)(s x:Operand)(t:TypeId)(ho:o.op=.call {callee:=.builtin .append,args:=#[s,x],argTypes:=#[t,t]})(e:TypeId) (i:TypeInfo) (z:Value) (size bytes:Nat) (ht:P.underlying t=some (.slice e)) (hi:P.info? e=some i) (hz:i.zero=some z)(hsize:i.size=size) (hby:i.bytes=bytes) (hzs:z.cells.size=size) (hsz:0<size)(b:Addr) (n cap:Nat) (olds:List Value) (hs:a.eval s=.slice (some b) n cap) (hlo:olds.length=n*size) (holds:∀j u,olds[j]?=some u->w.cell? (b.add j)=some u)(ad:Addr) (m c:Nat) (news:List Value) (hx:a.eval x=.slice (some ad) m c) (hl:news.length=m*size) (hnews:∀j u,news[j]?=some u->w.cell? (ad.add j)=some u)(hg:cap<n+m) (h63:n+m<=maxLen) (hbytes:(n+m)*bytes<=140737488355328)(h:∀v' w',Sl w' e size v' (n+m) (olds++news)->aa ae w w'->(∀k,v'.ownBlock=some k->w.heap.size<=k)->wpList P ops Q rest (a.put o.dst v') w'):wpList P ops Q (o::rest) a w:=by
 refine wpList_plain hgd λ_ hK=>?_;obtain⟨v',w',hr,h2,h3⟩:=run_append_arg_grows (P:=P) w t o.type e i z size bytes ht hi hz hsize hby hzs hsz b n cap olds hlo holds ad m c news hl hnews hg h63 hbytes;unfold Oper.wp execOp;simp only[ho,resolve,invoke,builtin,Sem.run_bind,Sem.run_pure,Result.andThen_ok,bh,ba,List.map_nil,hs,hx,hr];refine hK _ _ (h v' w' ⟨h2.1,?_⟩ ⟨h3.os,h3.tape,h3.output,h3.size,λk hk _=>h3.block k hk (by simp)⟩ (λk hk=>(World.ownsRow.lt h2 k hk).1));rcases h2.2 with h |⟨g,cp,cur,h4,_,h5⟩
 ·exact .inl h
 ·exact .inr ⟨g,cp,cur,h4,Nat.zero_le _,h5⟩
theorem TJ(w:tW)(o o2:Obj)(C:tAV)(e:TypeId)(m:Nat×Nat)(j:Nat):(((w.alloc o).alloc (.cells C e m)).alloc o2).cell? ⟨w.heap.size+1,j,none⟩=C[j]?:=by
 have h:(((w.alloc o).alloc (.cells C e m)).alloc o2).heap[w.heap.size+1]?=some (.cells C e m):=by
  show(((w.heap.push o).push (.cells C e m)).push o2)[w.heap.size+1]?=_
  rw[Array.getElem?_push,iN9 (by simp),Array.getElem?_push,iP9 (by simp)]
 unfold World.cell?;simp only[h];rfl
theorem XL:∀k,k<88->(aq[k]?.getD iK).code<=255:=by decide +kernel
structure EOk(ms:List az)(fs:List aS):Prop where
 m:ms.length<=255
 f:fs.length<=100
 mn:∀m∈ms,m.name.length<=255/\m.key<=255/\m.value<=255/\m.entries<=255
 fn:∀f∈fs,f.name.length<=255/\f.code.length<=200/\∀x∈f.code,eU x
structure tC(w:tW)(tv:Value)(bs:List Nat)(vM vF:Value)(ms:List az)(fs:List aS)(vs:List Value):Prop where
 maps:Sl w 100 4 vM ms.length (ms.flatMap az.cells)
 len:vs.length=fs.length
 rows:Sl w 96 2 vF fs.length (((fs.map (·.name)).zip vs).flatMap mF)
 code:∀i (_:i<fs.length) (_:i<vs.length),gX w vs[i] bs fs[i].code
 ops:aH 0 w tv bs aq
theorem tC.quiet{w w':tW}{tv:Value}{bs:List Nat}{vM vF:Value}{ms:List az}{fs:List aS}{vs:List Value}(h:tC w tv bs vM vF ms fs vs)(m:aa ae w w'):tC w' tv bs vM vF ms fs vs :=
 ⟨h.maps.ag m (λ_ _=>id),h.len,h.rows.ag m (λ_ _=>id),λi a b=>(h.code i a b).ag m (λ_ _=>id),h.ops.ag m⟩
theorem tC.TI{w:tW}{tv:Value}{bs:List Nat}{oF:Option Addr}{cF:Nat}{vM:Value}{ms:List az}{fs:List aS}{vs:List Value}(h:tC w tv bs vM (.slice oF fs.length cF) ms fs vs)(k:Nat)(hk:k<fs.length)(hv':k<vs.length):∃g,oF=some ⟨g,0,none⟩/\w.cell? ⟨g,k*2,none⟩=some (.string (T fs[k].name))/\w.cell? ⟨g,k*2+1,none⟩=some vs[k]:=by
 obtain⟨o',cap',hv,h2⟩:=h.rows.view;cases hv;obtain⟨g,cs,rfl,hb,ht,_⟩:=h2 (by omega);have hz:k<((fs.map (·.name)).zip vs).length:=by simp only[List.length_zip,List.length_map];omega
 have key:∀c,c<2->w.cell? ⟨g,k*2+c,none⟩=(mF (fs[k].name,vs[k]))[c]?:=λc hc=>by rw[aW hb ht (k*2+c) (by omega)];have:=flat_get mF 2 (λ_=>rfl) ((fs.map (·.name)).zip vs) k c hz hc;rw[this,bj,bq]
 exact⟨g,rfl,key 0 (by omega),key 1 (by omega)⟩
