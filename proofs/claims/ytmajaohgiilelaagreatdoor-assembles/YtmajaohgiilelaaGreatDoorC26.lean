import Derived.Test.YtmajaohgiilelaaGreatDoorC23
import Derived.Test.YtmajaohgiilelaaGreatDoorC25
import Derived.Lib.SlBytesConst
namespace Go.Proofs.YtmajaohgiilelaaGreatDoor
open Go.RowKit Tryz
open Lib renaming run_append_own_string->cd
open List renaming length_append->an,append_assoc->ar,drop_eq_getElem_cons->ba,length_cons->bh,length_nil->bt,getElem_mem->b9,flatMap_cons->cb,drop_length->cc,map_cons->ch,getElem_zip->cr,map_toArray->cw
open Nat renaming le_trans->ao,lt_of_lt_of_le->bj,zero_le->ca,le_refl->cj
set_option linter.all false
set_option maxRecDepth 100000
set_option maxHeartbeats 2000000
def uF(n:aA):Int:=(n.aO 9223372036854775808).getD 0
theorem SK(kd:Nat)(nm:tBA)(a b c:aA)(w:tW)(ha:0<=uF a/\uF a<256)(hb:0<=uF b/\uF b<256)(hc:0<=uF c/\uF c<256):Calls prog 55 #[.agg (gx kd nm a b c)] w λe w'=>e=.returned (.agg #[.string nm,.int .u8 (uF a),.int .u8 (uF b),.int .u8 (uF c)])/\aa af w w':=by
 have HSA:ae (∀w,Calls prog 118 #[a.dP] w λe w'=>e=.returned (.int .u8 (uF a))/\aa af w w'):=λw=>ym a w ha;have Fe:ae (∀w,Calls prog 118 #[b.dP] w λe w'=>e=.returned (.int .u8 (uF b))/\aa af w w'):=λw=>ym b w hb;have HSC:ae (∀w,Calls prog 118 #[c.dP] w λe w'=>e=.returned (.int .u8 (uF c))/\aa af w w'):=λw=>ym c w hc;unfold aA.dP gx ES at *;generalize uF a=sa at *;generalize decide (18446744073709551616<=a.v)=ag at *;generalize((a.v%18446744073709551616:Nat):Int)=av at *;generalize a.minus=am at *;generalize uF b=sb at *;generalize decide (18446744073709551616<=b.v)=bg at *;generalize((b.v%18446744073709551616:Nat):Int)=bv at *;generalize b.minus=bm at *;generalize uF c=sc at *;generalize decide (18446744073709551616<=c.v)=cg at *;generalize((c.v%18446744073709551616:Nat):Int)=cv at *;generalize c.minus=cm at *;generalize hcs:(#[.int .i64 kd,.string nm,.bool am,.int .u64 av,.bool ag,.bool bm,.int .u64 bv,.bool bg,.bool cm,.int .u64 cv,.bool cg,.pointer none,.int .u8 (0:Nat),.int .u8 (0:Nat),.int .i16 0,.int .i32 0,.int .i32 0,.string ⟨#[]⟩,.string ⟨#[]⟩,.bool false]:tAV)=cs at *;have gR:=ak hcs.symm;clear hcs;have HB0:ae (aq ((w.alloc (.cells cs 119)).alloc (.cells #[.string ⟨#[]⟩,.int .u8 0,.int .u8 0,.int .u8 0] 141)) w.heap.size cs 119):=(aq.new w _ _).alloc _
 have iy:ae (aq ((w.alloc (.cells cs 119)).alloc (.cells #[.string ⟨#[]⟩,.int .u8 0,.int .u8 0,.int .u8 0] 141)) (w.heap.size+1) #[.string ⟨#[]⟩,.int .u8 0,.int .u8 0,.int .u8 0] 141):=by
  have:=aq.new (w.alloc (.cells cs 119)) #[.string ⟨#[]⟩,.int .u8 0,.int .u8 0,.int .u8 0] 141;have e:(w.alloc (.cells cs 119)).heap.size=w.heap.size+1:=by simp
  rw[e]at this;exact this
 have gq:ae (aa af w ((w.alloc (.cells cs 119)).alloc (.cells #[.string ⟨#[]⟩,.int .u8 0,.int .u8 0,.int .u8 0] 141))):=((aa.refl _ _).alloc _).alloc _;have gU:ae (w.heap.size≠w.heap.size+1):=by rw[ae];omega
 have Dm:ae (w.heap.size<=w.heap.size+1):=by rw[ae];omega
 go_enter func55,ntmps55;go_upto_region 1 with fail;generalize(w.alloc (.cells cs 119)).alloc (.cells #[.string ⟨#[]⟩,.int .u8 0,.int .u8 0,.int .u8 0] 141)=w1 at *;generalize w.heap.size+1=R at *;have HWR:=ak Dm.o;generalize hB:w.heap.size=B at *;have Yq:ae (∀e:Ext (Only R) w1,aq e.w B cs 119):=λe=>HB0.o.ah e.m (λh=>gU.o h);have d1:∀e:Ext (Only R) w1,e.w.cell? ⟨B,1,none⟩=some (.string nm):=λe=>((Yq.o e).cell 1).trans (by rw[gR.o];rfl);have d2:∀e:Ext (Only R) w1,e.w.cell? ⟨B,2,none⟩=some (.bool am):=λe=>((Yq.o e).cell 2).trans (by rw[gR.o];rfl);have d3:∀e:Ext (Only R) w1,e.w.cell? ⟨B,3,none⟩=some (.int .u64 av):=λe=>((Yq.o e).cell 3).trans (by rw[gR.o];rfl);have d4:∀e:Ext (Only R) w1,e.w.cell? ⟨B,4,none⟩=some (.bool ag):=λe=>((Yq.o e).cell 4).trans (by rw[gR.o];rfl);have d5:∀e:Ext (Only R) w1,e.w.cell? ⟨B,5,none⟩=some (.bool bm):=λe=>((Yq.o e).cell 5).trans (by rw[gR.o];rfl);have d6:∀e:Ext (Only R) w1,e.w.cell? ⟨B,6,none⟩=some (.int .u64 bv):=λe=>((Yq.o e).cell 6).trans (by rw[gR.o];rfl);have d7:∀e:Ext (Only R) w1,e.w.cell? ⟨B,7,none⟩=some (.bool bg):=λe=>((Yq.o e).cell 7).trans (by rw[gR.o];rfl);have d8:∀e:Ext (Only R) w1,e.w.cell? ⟨B,8,none⟩=some (.bool cm):=λe=>((Yq.o e).cell 8).trans (by rw[gR.o];rfl);have d9:∀e:Ext (Only R) w1,e.w.cell? ⟨B,9,none⟩=some (.int .u64 cv):=λe=>((Yq.o e).cell 9).trans (by rw[gR.o];rfl);have d10:∀e:Ext (Only R) w1,e.w.cell? ⟨B,10,none⟩=some (.bool cg):=λe=>((Yq.o e).cell 10).trans (by rw[gR.o];rfl)
 haveI:Nonempty (Ext (Only R) w1):=Ext.ne _ _
 refine aZ [5,9,13,15] (λw'=>∃e:Ext (Only R) w1,w'=e.w) (by kernel_rfl) (by kernel_rfl) (by kernel_rfl) ⟨⟨_,(aa.refl _ _).drew⟩,rfl⟩ ?_
 iterate 5 (refine aB rfl rfl rfl ?_;intro K hK;go_big_quiet_op;go_big_quiet_on)
 refine aF rfl rfl ?_;intro K hK;go_big_op;refine(HSA.o _).mono ?_;rintro e w2 ⟨rfl,m2⟩;have Mw2:ae (aa af w1 w2):=((aa.refl _ _).drew).trans m2;refine hK _ _ rfl ⟨⟨_,Mw2.o.mono (λ_ _ h=>h.elim)⟩,rfl⟩ ?_;clear hK K m2
 iterate 3 (refine aB rfl rfl rfl ?_;intro K hK;go_big_quiet_op;go_big_quiet_on)
 refine aF rfl rfl ?_;intro K hK;go_big_op;refine(Fe.o _).mono ?_;rintro e w3 ⟨rfl,m2⟩;have Mw3:=ak (Mw2.o.trans m2);refine hK _ _ rfl ⟨⟨_,Mw3.o.mono (λ_ _ h=>h.elim)⟩,rfl⟩ ?_;clear hK K m2
 iterate 3 (refine aB rfl rfl rfl ?_;intro K hK;go_big_quiet_op;go_big_quiet_on)
 refine aF rfl rfl ?_;intro K hK;go_big_op;refine(HSC.o _).mono ?_;rintro e w4 ⟨rfl,m2⟩;have Mw4:=ak (Mw3.o.trans m2);refine hK _ _ rfl ⟨⟨_,Mw4.o.mono (λ_ _ h=>h.elim)⟩,rfl⟩ ?_;clear hK K m2
 iterate 1 (refine aB rfl rfl rfl ?_;intro K hK;go_big_quiet_op;go_big_quiet_on)
 refine aF rfl rfl ?_;intro K hK;have hr:=iy.o.ah Mw4.o id;have r0:=hr.cell 0;have r1:=hr.cell 1;have r2:=hr.cell 2;have r3:=hr.cell 3;have rf:=hr.frozen;have xW:ae (aq ((((w4.setCell ⟨R,0,none⟩ (.string nm)).setCell ⟨R,1,none⟩ (.int .u8 sa)).setCell ⟨R,2,none⟩ (.int .u8 sb)).setCell ⟨R,3,none⟩ (.int .u8 sc)) R #[.string nm,.int .u8 sa,.int .u8 sb,.int .u8 sc] 141):=(((hr.set 0 _).set 1 _).set 2 _).set 3 _;have mU:ae (aa (Only R) w1 ((((w4.setCell ⟨R,0,none⟩ (.string nm)).setCell ⟨R,1,none⟩ (.int .u8 sa)).setCell ⟨R,2,none⟩ (.int .u8 sb)).setCell ⟨R,3,none⟩ (.int .u8 sc))):=((((Mw4.o.mono (λ_ _ h=>h.elim)).bP _ _).bP _ _).bP _ _).bP _ _;go_big_op;refine hK _ _ rfl ⟨⟨_,mU.o⟩,rfl⟩ ?_;clear hK K hr r0 r1 r2 r3 rf;refine cu ?_;simp only[Exit.then];have HMF:=gq.o.step mU.o (λi hi e=>by have e':i=R:=e;have:=HWR.o;omega);go_wp2_with fail;exact bodyPost_ret (results_cell_row results55 _ _ R 141 #[.string nm,.int .u8 sa,.int .u8 sb,.int .u8 sc] (0,0) _ rfl xW.o underlying141 rfl (by kernel_rfl)) rfl ⟨rfl,HMF⟩
theorem NQ(w:tW)(b:Nat)(o:eQ)(hA:dM w b o)(d:Int)(s:Nat)(num high jump:Int)(label name:tBA)(slot target:Nat)(hs:slot<=30000)(ht:target<=30000)(ho:o.slots<=2):Calls prog 56 #[.agg #[.pointer (some ⟨b,0,none⟩),.int .u8 d,.int .u8 s,.int .i16 jump,.int .i32 num,.int .i32 high,.string label,.string name],.int .i64 slot,.int .i64 target] w λe w'=>e=.returned (.int .i16 ((target:Int)-slot-o.slots))/\aa af w w':=by have hA1:=hA.ah ((aa.refl _ _).alloc (.cells #[.pointer (some ⟨b,0,none⟩),.int .u8 d,.int .u8 s,.int .i16 jump,.int .i32 num,.int .i32 high,.string label,.string name] 117));obtain⟨p1,p2,p3,p4,p5,p6,p7,p8,p9,p10,p11,AR,_⟩:=hA1.ex;have o2:=AR.cell 2;have HM:ae (aa af w (w.alloc (.cells #[.pointer (some ⟨b,0,none⟩),.int .u8 d,.int .u8 s,.int .i16 jump,.int .i32 num,.int .i32 high,.string label,.string name] 117))):=(aa.refl _ _).alloc _;clear AR hA1 hA;generalize o.slots=os at *;go_enter func56,ntmps56;go_wp2_with fail;go_ret;exact⟨rfl,HM.o⟩

def PI.mK(bs:List Nat)(x:PI)(lab:tBA):iw:={x.ins bs with label:=lab}
def vD(bs:List Nat)(l:List (PI×tBA)):List Value:=l.flatMap (λx=>(x.1.mK bs x.2).dG)
def iZ(w:tW)(v:Value)(bs:List Nat)(code:List PI):Prop:=∃aP:List tBA,aP.length=code.length/\Sl w 117 8 v code.length (vD bs (code.zip aP))
theorem iZ.ah{w w':tW}{v:Value}{bs:List Nat}{code:List PI}{S:Nat->Prop}(h:iZ w v bs code)(m:aa S w w')(hS:∀k,v.ownBlock=some k->¬S k):iZ w' v bs code:=by obtain⟨aP,h1,h2⟩:=h;exact⟨aP,h1,h2.ah m hS⟩
theorem iZ.view{w:tW}{v:Value}{bs:List Nat}{code:List PI}(h:iZ w v bs code):∃o cap,v=.slice o code.length cap/\True:=by obtain⟨aP,_,h2⟩:=h;obtain⟨o,cap,hv,_⟩:=h2.view;exact⟨o,cap,hv,trivial⟩
theorem DZ{w:tW}{bs:List Nat}{l:List PI}{v:Value}{n:Nat}(h:iZ w v bs l)(hn:n=l.length){o:Option Addr}{c:Nat}(hv:v=.slice o n c)(k:Nat)(hk:k<l.length):∃g lab,o=some ⟨g,0,none⟩/\g<w.heap.size/\w.cell? ⟨g,k*8,none⟩=some (.pointer (some ⟨bs[l[k].k]?.getD 0,0,none⟩))/\w.cell? ⟨g,k*8+1,none⟩=some (.int .u8 l[k].d)/\w.cell? ⟨g,k*8+2,none⟩=some (.int .u8 l[k].s) /\ w.cell? ⟨g,k*8+3,none⟩=some (.int .i16 l[k].jump)/\w.cell? ⟨g,k*8+4,none⟩=some (.int .i32 l[k].num)/\w.cell? ⟨g,k*8+5,none⟩=some (.int .i32 l[k].high)/\w.cell? ⟨g,k*8+6,none⟩=some (.string lab)/\w.cell? ⟨g,k*8+7,none⟩=some (.string (T l[k].name)):=by
 obtain⟨aP,h1,h0⟩:=h;subst hn;obtain⟨o',c',hv',h2⟩:=h0.view;rw[hv]at hv';cases hv';obtain⟨g,cs,rfl,hb,ht,_⟩:=h2 (by omega);have hz:k<(l.zip aP).length:=by rw[List.length_zip,h1];omega
 have hkl:k<aP.length:=by omega
 have e:(l.zip aP)[k]=(l[k],aP[k]):=cr;have hc:∀j,j<8->w.cell? ⟨g,k*8+j,none⟩=((l[k].mK bs aP[k]).dG)[j]?:=λj hj=>by rw[bA hb ht _ (by omega),vD,flat_get (λx:PI×tBA=>(x.1.mK bs x.2).dG) 8 (λ_=>rfl) (l.zip aP) k j hz hj,e]
 exact⟨g,aP[k],rfl,hb.lt,hc 0 (by omega),hc 1 (by omega),hc 2 (by omega),hc 3 (by omega),hc 4 (by omega),hc 5 (by omega),hc 6 (by omega),hc 7 (by omega)⟩
theorem Le(w:tW)(tv:Value)(bs:List Nat)(hO:aR 0 w tv bs ax)(code:List PI)(hok:∀x∈code,NA x)(hl:code.length<=10000)(vC:Value)(hC:iZ w vC bs code)(nm:tBA):Calls prog 116 #[.agg #[.string nm,vC]] w λe w'=>e=.returned (.int .i64 (yj code))/\aa af w w':=by
 obtain⟨oC,cC,rfl,_⟩:=hC.view;have HO:=ak hO;have HC:=ak hC;have HOk:=ak hok;have aeJ:ae (∀k,Cy code k<=20000):=λk=>by have:=aaj code HOk.o k;omega
 clear hO hC hok;have hM0:aa af w (w.alloc (.cells #[.string nm,.slice oC code.length cC] 145)):=(aa.refl _ _).alloc _;have gq:=ak hM0;clear hM0;go_enter func116,ntmps116;go_wp2_with fail;go_loopw [3,9] (λsv i wl=>∃k:Nat,k<=code.length/\i=.int .i64 k/\sv=.int .i64 (Cy code k)/\aa af w wl) (λ_ i _=>code.length-(intOf i).toNat)
 case atStart=>exact⟨0,ca _,rfl,rfl,gq.o⟩
 case round =>
  obtain⟨k,hk,rfl,rfl,hM⟩:=hrel;have HM:=ak hM;clear hM gq;by_cases hlt:k<code.length
  ·have HSt:ae (Cy code (k+1)=Cy code k+code[k].o.slots):=Sw code k hlt;obtain⟨g,lab,rfl,hg,q0,q1,q2,q3,q4,q5,q6,q7⟩:=DZ (HC.o.ah HM.o (λ_ _=>id)) rfl rfl k hlt;have hx:=HOk.o code[k] (b9 hlt);have hA:=Nz (HO.o.ah HM.o) code[k] hx.k;have hsum:=aeJ.o k;have hsl:=hx.slots;clear hx;generalize code[k].o=o at *;generalize code[k].jump=jmp at *;generalize code[k].d=xd at *;generalize code[k].s=xs at *;generalize code[k].num=xn at *;generalize code[k].high=xh at *;generalize code[k].name=xm at *;generalize bs[code[k].k]?.getD 0=b at *;have hA1:=hA.ah ((aa.refl _ _).alloc (.cells #[.pointer (some ⟨b,0,none⟩),.int .u8 xd,.int .u8 xs,.int .i16 jmp,.int .i32 xn,.int .i32 xh,.string lab,.string (T xm)] 117));obtain⟨y2,_,_,_⟩:=hA1.cells;clear hA hA1;generalize Cy code k=sk at *;generalize o.slots=os at *;go_wp2_with fail;go_roundw
   case rel=>exact⟨k+1,by omega,by go_num,by rw[HSt.o];go_num,HM.o.alloc _⟩
   case measure=>simp[intOf];omega
  ·obtain rfl:k=code.length:=by omega
   have HF:ae (Cy code code.length=yj code):=by rw[ae,Cy,List.take_length];rfl
   rw[HF.o];go_wp2_with fail;go_ret;exact⟨rfl,HM.o⟩
def uL(l:tLB):List Value:=l.map (λb=>.int .u8 (b.toNat:Int))
theorem zR(a b:tLB):uL (a++b)=uL a++uL b:=by simp[uL]
theorem NR:∀(l:List Int),(∀x∈l,0<=x/\x<=255)->uL (b8 l)=l.map (Value.int .u8)
 |[],_=>rfl
 |x::l,h=>by
  have hx:=h x (by simp);have e:((UInt8.ofNat x.toNat).toNat:Int)=x:=by rw[UInt8.toNat_ofNat'];omega
  have:=NR l (λy hy=>h y (List.mem_cons_of_mem _ hy));simp only[uL,b8,ch,List.map_map]at this ⊢;rw[e];congr 1
def Out(w:tW)(v:Value)(l:tLB):Prop:=Sl w 5 1 v l.length (uL l)
def nV(w:tW)(v:Value)(l:tLB)(e:Ending)(w':tW):Prop :=
 ∃v',e=.returned v'/\Out w' v' l/\aa (λk=>v.ownBlock=some k) w w'/\∀k,v'.ownBlock=some k->v.ownBlock=some k\/w.heap.size<=k
theorem Out.ah{w w':tW}{v:Value}{l:tLB}{S:Nat->Prop}(h:Out w v l)(m:aa S w w')(hS:∀k,v.ownBlock=some k->¬S k):Out w' v l:=Sl.ah h m hS
theorem Out.quiet{w w':tW}{v:Value}{l:tLB}(h:Out w v l)(m:aa af w w'):Out w' v l:=h.ah m (λ_ _=>id)
theorem aao:(prog.info? 5).map (λi=>(i.zero,i.size,i.bytes))=some (some (.int .u8 0),1,1):=by kernel_rfl
theorem yu(l:List Int):∀u∈l.map (Value.int .u8),u.oneCell'=true:=by intro u hu;obtain⟨x,_,rfl⟩:=List.mem_map.1 hu;rfl
theorem Out.app{w:tW}{v:Value}{l:tLB}{n:Nat}{ns:List Int}(h:∀x∈ns,0<=x/\x<=255)(hn:n=l.length+ns.length)(s:Sl w 5 1 v n (uL l++ns.map (Value.int .u8))):Out w v (l++b8 ns):=by unfold Out;rw[zR,NR ns h,an,gQ,<-hn];exact s
theorem SL(s:tBA):Lib.strCells s=uL (BL s):=by simp[Lib.strCells,uL,BL]
theorem D3{P:Program}(w:tW)(t u ty e:TypeId)(i:TypeInfo)(ht:P.underlying t=some (.slice e))(hu:P.underlying u=some .string)(hi:P.info? e=some i)(hz:i.zero=some (.int .u8 0))(hsize:i.size=1) (hby:i.bytes=1) (v:Value) (n:Nat) (xs:List Value) (hown:Sl w e 1 v n xs) (s:tBA) (h63:n+s.size<=maxLen) (hbytes:n+s.size<=140737488355328):∃v' w',(Builtin.append_ #[t,u] ty #[v,.string s]).run P w=.ok v' w'/\Sl w' e 1 v' (n+s.size) (xs++uL (BL s))/\aa (λk=>v.ownBlock=some k) w w' /\ (∀k,v'.ownBlock=some k->v.ownBlock=some k\/w.heap.size<=k):=by
 obtain⟨v',w',hr,h2,h3,_⟩:=cd (P:=P) w 0 t u ty e i ht hu hi hz hsize hby v n xs hown s h63 hbytes (ca _);rw[SL]at h2;refine⟨v',w',hr,h2,aa.J9 h3,?_⟩;intro k hk;rcases hown.2 with⟨rfl,rfl⟩ |⟨g,cap,cur,rfl,_,hg,hn,hm,hcs,htk⟩
 ·obtain⟨v2,w2,hr2,h22,_⟩:=cd (P:=P) w w.heap.size t u ty e i ht hu hi hz hsize hby _ 0 xs ⟨hown.1,.inl ⟨rfl,rfl⟩⟩ s h63 hbytes (cj _);rw[hr]at hr2;cases hr2;exact .inr (World.ownsRow.lt h22 k hk).1
 ·by_cases hroom:n+s.size<=cap
  ·have hr2:=Lib.run_append_room_string (P:=P) w t u ty e i ht hu hi hsize g n cap cur hg s hroom (by simp at hcs;omega);rw[hr]at hr2;cases hr2;exact .inl hk
  ·have hr2:=Lib.run_append_grow_string (P:=P) w t u ty e i (.int .u8 0) ht hu hi hz ⟨g,0,none⟩ n cap xs (by rw[hsize];exact hown.1) (World.ownsRow.cells hown (g:=g) rfl) s (by omega) (by unfold maxLen at h63;omega) (by rw[hby];exact growslice_fits (by omega) (by omega));rw[hr]at hr2;cases hr2;cases hk;exact .inr (cj _)
theorem xG{P:Program}(w:tW){o:Oper}{a:Act}{K:Act->tW->Prop}{Q:Exit->Act->tW->Prop}(sl x:Operand)(t u:TypeId)(ho:o.op=.call {callee:=.builtin .append,args:=#[sl,x],argTypes:=#[t,u]})(e:TypeId) (i:TypeInfo) (ht:P.underlying t=some (.slice e)) (hu:P.underlying u=some .string) (hi:P.info? e=some i) (hz:i.zero=some (.int .u8 0)) (hsize:i.size=1) (hby:i.bytes=1)(v:Value) (n:Nat) (xs:List Value) (hs:a.eval sl=v) (hown:Sl w e 1 v n xs) (s:tBA) (hx:a.eval x=.string s) (h63:n+s.size<=maxLen) (hbytes:n+s.size<=140737488355328)(h:∀v' w',Sl w' e 1 v' (n+s.size) (xs++uL (BL s))->aa (λk=>v.ownBlock=some k) w w'->(∀k,v'.ownBlock=some k->v.ownBlock=some k\/w.heap.size<=k)->K (a.put o.dst v') w'):o.wp P a w K Q:=by obtain⟨v',w',hr,h2,h3,h4⟩:=D3 (P:=P) w t u o.type e i ht hu hi hz hsize hby v n xs hown s h63 hbytes;unfold Oper.wp execOp;simp only[ho,resolve,invoke,builtin,Sem.run_bind,Sem.run_pure,Result.andThen_ok,cw,ch,List.map_nil,hs,hx,hr];exact h v' w' h2 h3 h4
theorem zS{P:Program}(w:tW){ops:Array Oper}{rest:List Oper}{o:Oper}{a:Act}{Q:Exit->Act->tW->Prop}(hgd:o.guard=none)(sl x:Operand)(t u:TypeId)(ho:o.op=.call {callee:=.builtin .append,args:=#[sl,x],argTypes:=#[t,u]})(e:TypeId) (i:TypeInfo) (ht:P.underlying t=some (.slice e)) (hu:P.underlying u=some .string) (hi:P.info? e=some i) (hz:i.zero=some (.int .u8 0)) (hsize:i.size=1) (hby:i.bytes=1)(v:Value) (n:Nat) (xs:List Value) (hs:a.eval sl=v) (hown:Sl w e 1 v n xs) (s:tBA) (hx:a.eval x=.string s) (h63:n+s.size<=maxLen) (hbytes:n+s.size<=140737488355328)(h:∀v' w',Sl w' e 1 v' (n+s.size) (xs++uL (BL s))->aa (λk=>v.ownBlock=some k) w w'->(∀k,v'.ownBlock=some k->v.ownBlock=some k\/w.heap.size<=k)->wpList P ops Q rest (a.put o.dst v') w'):wpList P ops Q (o::rest) a w :=
 wpList_plain hgd λ_ hK=>xG w sl x t u ho e i ht hu hi hz hsize hby v n xs hs hown s hx h63 hbytes λv' w' h2 h3 h4=>hK _ _ (h v' w' h2 h3 h4)
theorem iO:∃i:TypeInfo,prog.info? 5=some i/\i.zero=some (.int .u8 0)/\i.size=1/\i.bytes=1:=by obtain⟨i,h,hq⟩:=Option.map_eq_some_iff.1 aao;exact⟨i,h,congrArg (·.1) hq,congrArg (·.2.1) hq,congrArg (·.2.2) hq⟩
theorem zT{w w':tW}{v:Value}{k:Nat}(h:v.ownBlock=some k\/w'.heap.size<=k)(m:w.heap.size<=w'.heap.size):v.ownBlock=some k\/w.heap.size<=k:=by
 rcases h with h|h
 ·exact .inl h
 ·exact .inr (ao m h)
theorem qY{w w1:tW}{v v1 v2:Value}(h1:∀k,v1.ownBlock=some k->v.ownBlock=some k\/w.heap.size<=k)(h2:∀k,v2.ownBlock=some k->v1.ownBlock=some k\/w1.heap.size<=k)(m:w.heap.size<=w1.heap.size):∀k,v2.ownBlock=some k->v.ownBlock=some k\/w.heap.size<=k:=by
 intro k hk;rcases h2 k hk with h|h
 ·exact h1 k h
 ·exact .inr (ao m h)
theorem D4{w w1 w2:tW}{v v1:Value}(h1:aa (λk=>v.ownBlock=some k) w w1)(hv:∀k,v1.ownBlock=some k->v.ownBlock=some k\/w.heap.size<=k)(h2:aa (λk=>v1.ownBlock=some k) w1 w2):aa (λk=>v.ownBlock=some k) w w2 :=
 ⟨h2.os.trans h1.os,h2.tape.trans h1.tape,h2.output.trans h1.output,ao h1.size h2.size,λk hk hS=>(h2.block k (bj hk h1.size) (λe=>by
  rcases hv k e with h|h
  ·exact hS h
  ·omega)).trans (h1.block k hk hS)⟩
theorem D5(w:tW)(v:Value)(l:tLB)(h:Out w v l)(hl:l.length<=1000000)(n:Int):Calls prog 114 #[v,.int .i64 n] w λe w'=>nV w v (l++b8 (dY n)) e w':=by
 obtain⟨iU,Mj,Mk,Ml,Mm⟩:=iO;have HO:=ak h;have HB:ae (∀x∈dY n,0<=x/\x<=255):=λx hx=>by simp[dY]at hx;rcases hx with rfl|rfl<;>omega
 clear h;go_enter func114,ntmps114;go_wp2_with (at_builtin;refine aJ _ rfl (.tmp 5) (.tmp 11) 62 rfl 5 iU (.int .u8 0) 1 1 underlying62 Mj Mk Ml Mm rfl (by decide) v l.length (uL l) rfl (HO.o.quiet ((aa.refl _ _).alloc _)) ⟨w.heap.size,0,none⟩ 2 2 ((dY n).map (Value.int .u8)) rfl rfl (aT _ _ _ _ rfl) (yu _) (by unfold maxLen;omega) (by omega) ?_;intro v2 w2 s2 m2 l2);go_ret;exact⟨_,rfl,Out.app HB.o rfl s2,((aa.refl _ _).alloc _).trans m2,λk hk=>zT (l2 k hk) ((aa.refl af w).alloc _).size⟩
theorem Lf(w:tW)(v:Value)(l:tLB)(h:Out w v l)(hl:l.length<=1000000)(n:Int)(_hn:-2147483648<=n/\n<=2147483647):Calls prog 214 #[v,.int .i32 n] w λe w'=>nV w v (l++b8 (bS n)) e w':=by
 obtain⟨iU,Mj,Mk,Ml,Mm⟩:=iO;have HO:=ak h;have HB:ae (∀x∈bS n,0<=x/\x<=255):=λx hx=>by simp[bS]at hx;rcases hx with rfl|rfl|rfl|rfl<;>omega
 clear h;go_enter func214,ntmps214;go_wp2_with (at_builtin;refine aJ _ rfl (.tmp 5) (.tmp 17) 62 rfl 5 iU (.int .u8 0) 1 1 underlying62 Mj Mk Ml Mm rfl (by decide) v l.length (uL l) rfl (HO.o.quiet ((aa.refl _ _).alloc _)) ⟨w.heap.size,0,none⟩ 4 4 ((bS n).map (Value.int .u8)) rfl rfl (aT _ _ _ _ rfl) (yu _) (by unfold maxLen;omega) (by omega) ?_;intro v2 w2 s2 m2 l2);go_ret;exact⟨_,rfl,Out.app HB.o rfl s2,((aa.refl _ _).alloc _).trans m2,λk hk=>zT (l2 k hk) ((aa.refl af w).alloc _).size⟩
theorem Ba(w:tW)(v:Value)(l:tLB)(h:Out w v l)(hl:l.length<=1000000)(s:tBA)(hs:s.size<=255):Calls prog 115 #[v,.string s] w λe w'=>nV w v (l++dH s) e w':=by
 obtain⟨iU,Mj,Mk,Ml,Mm⟩:=iO;have HO:=ak h;have HB:ae (∀x∈[(s.size:Int)],0<=x/\x<=255):=λx hx=>by simp at hx;subst hx;omega
 have HN:ae (l++dH s=l++b8 [(s.size:Int)]++BL s):=by rw[ae,dH,Int.emod_eq_of_lt (by omega) (by omega),ar]
 clear h;go_enter func115,ntmps115
 go_wp2_with (first
  |(at_builtin;refine aJ _ rfl (.tmp 5) (.tmp 9) 62 rfl 5 iU (.int .u8 0) 1 1 underlying62 Mj Mk Ml Mm rfl (by decide) v l.length (uL l) rfl (HO.o.quiet ((aa.refl _ _).alloc _)) ⟨w.heap.size,0,none⟩ 1 1 ([(s.size:Int)].map (Value.int .u8)) rfl rfl (aT _ _ _ _ rfl) (yu _) (by unfold maxLen;omega) (by omega) ?_;intro v2 w2 s2 m2 l2;have S2:ae (Sl w2 5 1 v2 (l.length+1) (uL l++[(s.size:Int)].map (Value.int .u8))):=s2;have L2:ae (∀k,v2.ownBlock=some k->v.ownBlock=some k\/w.heap.size<=k):=λk hk=>zT (l2 k hk) ((aa.refl af w).alloc _).size;have M2:ae (aa (λk=>v.ownBlock=some k) w w2):=((aa.refl _ _).alloc _).trans m2;clear s2 l2 m2)
  |(at_builtin;refine zS _ rfl (.tmp 10) (.tmp 11) 62 9 rfl 5 iU underlying62 underlying9 Mj Mk Ml Mm v2 (l.length+1) (uL l++[(s.size:Int)].map (Value.int .u8)) rfl S2.o s rfl (by unfold maxLen;omega) (by omega) ?_;intro v3 w3 s3 m3 l3))
 go_ret;refine⟨_,rfl,?_,D4 M2.o L2.o m3,qY L2.o l3 M2.o.size⟩;have h1:uL (l++b8 [(s.size:Int)]++BL s)=uL l++[(s.size:Int)].map (Value.int .u8)++uL (BL s):=by rw[zR,zR,NR _ HB.o]
 have h2:(l++b8 [(s.size:Int)]++BL s).length=l.length+1+s.size:=by simp only[an,gQ,UH,bh,bt]
 rw[HN.o,Out,h1,h2];exact s3
def uA(code:Nat)(d s:Nat)(j n h:Int)(slots:Nat):tLB :=
 b8 [(code:Int),(d:Int)+16*s,j%256,j/256%256]++b8 (bS n)++(if slots=1 then []else [0,0,0,0]++b8 (bS h))
theorem Wv(x:Int):IntKind.u8.wrap x=x%256:=by simp[IntKind.wrap,IntKind.bits,IntKind.signed]
theorem abY:∀d,d<16->∀s,s<16->bits BinOp.or IntKind.u8 ((d:Nat):Int) ((s:Nat)*16:Int)=d+16*s:=by decide +kernel
theorem NS(w:tW)(v:Value)(l:tLB)(h:Out w v l)(hl:l.length<=900000)(b:Nat)(cs:tAV)(code slots:Nat)(hb:aq w b cs 134)(h0:cs[0]?=some (.int .u8 code))(h2:cs[2]?=some (.int .i64 slots))(d s:Nat) (j n hh:Int) (lab nm:tBA) (hc:code<=255) (hd:d<=15) (hs:s<=15) (_hj:-32768<=j/\j<=32767) (hn:-2147483648<=n/\n<=2147483647) (hhh:-2147483648<=hh/\hh<=2147483647) (hsl:slots<=2):Calls prog 117 #[.agg #[.pointer (some ⟨b,0,none⟩),.int .u8 d,.int .u8 s,.int .i16 j,.int .i32 n,.int .i32 hh,.string lab,.string nm],v] w λe w'=>nV w v (l++uA code d s j n hh slots) e w':=by
 obtain⟨iU,Mj,Mk,Ml,Mm⟩:=iO;have c0:w.cell? ⟨b,0,none⟩=some (.int .u8 code):=by rw[hb.cell 0];exact h0
 have c2:w.cell? ⟨b,2,none⟩=some (.int .i64 slots):=by rw[hb.cell 2];exact h2
 have hbl:=hb.lt;have HO:=ak h;have HBO:=ak hb;clear h hb;go_enter func117,ntmps117;go_upto_region 1 with fail;have hor:=abY d (by omega) s (by omega);have hw1:IntKind.u8.wrap ((s:Int)*16)=(s:Int)*16:=by rw[Wv];omega
 have hw2:=Wv j;have hw3:=Wv (j/256);have hbx:=aq.new w #[.pointer (some ⟨b,0,none⟩),.int .u8 d,.int .u8 s,.int .i16 j,.int .i32 n,.int .i32 hh,.string lab,.string nm] 117;have HO1:ae (Out (w.alloc (.cells #[.pointer (some ⟨b,0,none⟩),.int .u8 d,.int .u8 s,.int .i16 j,.int .i32 n,.int .i32 hh,.string lab,.string nm] 117)) v l):=HO.o.quiet ((aa.refl _ _).alloc _);have HB1:ae (aq (w.alloc (.cells #[.pointer (some ⟨b,0,none⟩),.int .u8 d,.int .u8 s,.int .i16 j,.int .i32 n,.int .i32 hh,.string lab,.string nm] 117)) b cs 134):=HBO.o.alloc _;have iG:ae (aa af w (w.alloc (.cells #[.pointer (some ⟨b,0,none⟩),.int .u8 d,.int .u8 s,.int .i16 j,.int .i32 n,.int .i32 hh,.string lab,.string nm] 117))):=(aa.refl _ _).alloc _;have Yr:=ak hbx;generalize w.alloc (.cells #[.pointer (some ⟨b,0,none⟩),.int .u8 d,.int .u8 s,.int .i16 j,.int .i32 n,.int .i32 hh,.string lab,.string nm] 117)=W at *;clear c0 c2;have hnx:¬(v.ownBlock=some w.heap.size):=HO1.o.az Yr.o (by decide);have hnb:¬(v.ownBlock=some b):=HO1.o.az HB1.o (by decide);obtain⟨x0,x1,x2,x3,x4,x5,x6,x7⟩:=Ext.eY (S:=λk=>v.ownBlock=some k) Yr.o hnx;have c0:∀g:Ext (λk=>v.ownBlock=some k) W,g.w.cell? ⟨b,0,none⟩=some (.int .u8 code):=λg=>by rw[(HB1.o.ah g.m hnb).cell 0];exact h0
 have ne1:=Ext.ne (λk=>v.ownBlock=some k) W;clear hbx;refine aZ [19,20] (λw'=>∃e:Ext (λk=>v.ownBlock=some k) W,w'=e.w) (by kernel_rfl) (by kernel_rfl) (by kernel_rfl) ⟨⟨_,(aa.refl _ _).drew⟩,rfl⟩ ?_
 iterate 3 (refine aB rfl rfl rfl ?_;intro K hK;go_big_quiet_op;go_big_quiet_on)
 refine bq rfl rfl _ ⟨b,0,none⟩ rfl rfl ?_;simp only[Act.put,sA9,sB9,sC9]
 iterate 15 (refine aB rfl rfl rfl ?_;intro K hK;go_big_quiet_op;go_big_quiet_on)
 refine aF rfl rfl ?_;intro K hK;go_big_op;refine hK _ _ rfl ⟨⟨_,((aa.refl _ _).drew).alloc _⟩,rfl⟩ ?_;clear hK K;refine aF rfl rfl ?_;intro K hK;refine cZ _ (.tmp 5) (.tmp 24) 62 rfl 5 iU (.int .u8 0) 1 1 underlying62 Mj Mk Ml Mm rfl (by decide) v l.length (uL l) rfl (HO1.o.quiet (((aa.refl _ _).alloc _).drew)) ⟨W.heap.size,0,none⟩ 4 4 ([(code:Int),(d:Int)+16*s,j%256,j/256%256].map (Value.int .u8)) rfl rfl (λk u hu=>aT W _ _ _ rfl k u hu) (yu _) (by unfold maxLen;omega) (by omega) ?_;intro v2 w2 s2 m2 l2;have M2:ae (aa (λk=>v.ownBlock=some k) W w2):=(((aa.refl _ _).alloc _).drew).trans m2;have L2:ae (∀k,v2.ownBlock=some k->v.ownBlock=some k\/W.heap.size<=k):=λk hk=>zT (l2 k hk) (((aa.refl af W).alloc _).drew).size;have S2:ae (Out w2 v2 (l++b8 [(code:Int),(d:Int)+16*s,j%256,j/256%256])):=Out.app (λx hx=>by simp at hx;rcases hx with rfl|rfl|rfl|rfl<;>omega) rfl s2;refine hK _ _ rfl ⟨⟨_,M2.o⟩,rfl⟩ ?_;clear hK K s2 m2 l2;simp only[Act.put,sA9,sB9,sC9]
 iterate 1 (refine aB rfl rfl rfl ?_;intro K hK;go_big_quiet_op;go_big_quiet_on)
 refine cu ?_;simp only[Exit.then];have HB2:=ak (HB1.o.ah M2.o hnb);have uH:=ak (Yr.o.ah M2.o hnx);clear x0 x1 x2 x3 x4 x5 x6 x7 c0 ne1;obtain⟨x0,x1,x2,x3,x4,x5,x6,x7⟩:=uH.o.eY;have hl2:(l++b8 [(code:Int),(d:Int)+16*s,j%256,j/256%256]).length=l.length+4:=by rw[an,gQ];rfl
 have HL2:=ak hl2;clear hl2;have um:ae (Calls prog 214 #[v2,.int .i32 n] w2 λe w'=>nV w2 v2 (l++b8 [(code:Int),(d:Int)+16*s,j%256,j/256%256]++b8 (bS n)) e w'):=Lf w2 v2 _ S2.o (by rw[HL2.o];omega) n hn;go_wp2_with fail;refine um.o.mono ?_;rintro e w3 ⟨v3,rfl,s3,m3,l3⟩
 have M3:ae (aa (λk=>v.ownBlock=some k) W w3):=⟨m3.os.trans M2.o.os,m3.tape.trans M2.o.tape,m3.output.trans M2.o.output,ao M2.o.size m3.size,λk hk hS=>(m3.block k (bj hk M2.o.size) (λe=>by
  rcases L2.o k e with h|h
  ·exact hS h
  ·omega)).trans (M2.o.block k hk hS)⟩
 have L3:ae (∀k,v3.ownBlock=some k->v.ownBlock=some k\/W.heap.size<=k):=qY L2.o l3 M2.o.size;have S3:=ak s3;have HB3:=ak (HB1.o.ah M3.o hnb);have oK:=ak (Yr.o.ah M3.o hnx);have xC:ae ((l++b8 [(code:Int),(d:Int)+16*s,j%256,j/256%256]++b8 (bS n)).length=l.length+8):=by rw[ae,an,HL2.o,gQ];rfl
 clear m3 l3 s3 x0 x1 x2 x3 x4 x5 x6 x7;obtain⟨x0,x1,x2,x3,x4,x5,x6,x7⟩:=oK.o.eY;have c2:w3.cell? ⟨b,2,none⟩=some (.int .i64 slots):=by rw[HB3.o.cell 2];exact h2
 have hWs:w.heap.size<=W.heap.size:=iG.o.size
 have HML:ae (∀(w':tW) (v':Value),aa (λk=>v.ownBlock=some k) W w'->(∀k,v'.ownBlock=some k->v.ownBlock=some k\/W.heap.size<=k)->aa (λk=>v.ownBlock=some k) w w'/\∀k,v'.ownBlock=some k->v.ownBlock=some k\/w.heap.size<=k) :=
  λw' v' m l=>⟨(iG.o.mono (λ_ _ e=>e.elim)).trans m,λk hk=>zT (l k hk) hWs⟩
 by_cases h1:slots=1
 ·subst h1;go_wp2_with fail;go_ret;refine⟨v3,rfl,?_,HML.o _ _ M3.o L3.o⟩;have:l++uA code d s j n hh 1=l++b8 [(code:Int),(d:Int)+16*s,j%256,j/256%256]++b8 (bS n):=by simp[uA]
  rw[this];exact S3.o
 ·have hd1:decide ((slots:Int)=1)=false:=by simp;omega
  have hd2:((slots:Int)==1)=false:=by simp;omega
  go_wp2_with fail;clear x0 x1 x2 x3 x4 x5 x6 x7 c2;obtain⟨x0,x1,x2,x3,x4,x5,x6,x7⟩:=Ext.eY (S:=λk=>v.ownBlock=some k) Yr.o hnx;have ne1:=Ext.ne (λk=>v.ownBlock=some k) W;refine aZ [1,4] (λw'=>∃e:Ext (λk=>v.ownBlock=some k) W,w'=e.w) (by kernel_rfl) (by kernel_rfl) (by kernel_rfl) ⟨⟨_,M3.o.drew⟩,rfl⟩ ?_
  iterate 1 (refine aB rfl rfl rfl ?_;intro K hK;go_big_quiet_op;go_big_quiet_on)
  refine aF rfl rfl ?_;intro K hK;refine xG _ (.tmp 37) _ 62 9 rfl 5 iU underlying62 underlying9 Mj Mk Ml Mm v3 _ _ rfl (S3.o.quiet ((aa.refl _ _).drew)) (T [0,0,0,0]) rfl (by rw[xC.o];simp only[bZ,bh,bt];unfold maxLen;omega) (by rw[xC.o];simp only[bZ,bh,bt];omega) ?_;intro v4 w4 s4 m4 l4
  have M4:ae (aa (λk=>v.ownBlock=some k) W w4):=⟨m4.os.trans M3.o.os,m4.tape.trans M3.o.tape,m4.output.trans M3.o.output,ao M3.o.size m4.size,λk hk hS=>(m4.block k (bj hk M3.o.size) (λe=>by
   rcases L3.o k e with h|h
   ·exact hS h
   ·omega)).trans (M3.o.block k hk hS)⟩
  have L4:ae (∀k,v4.ownBlock=some k->v.ownBlock=some k\/W.heap.size<=k):=qY (w1:=w3.drew) L3.o l4 M3.o.size;have S4:ae (Out w4 v4 (l++b8 [(code:Int),(d:Int)+16*s,j%256,j/256%256]++b8 (bS n)++[0,0,0,0])):=by rw[ae,Out,zR,an];exact s4
  have BH:ae ((l++b8 [(code:Int),(d:Int)+16*s,j%256,j/256%256]++b8 (bS n)++[0,0,0,0]).length=l.length+12):=by rw[ae,an,xC.o];rfl
  refine hK _ _ rfl ⟨⟨_,M4.o⟩,rfl⟩ ?_;clear hK K s4 m4 l4;simp only[Act.put,sA9,sB9,sC9]
  iterate 2 (refine aB rfl rfl rfl ?_;intro K hK;go_big_quiet_op;go_big_quiet_on)
  refine aF rfl rfl ?_;intro K hK;go_big_op;refine(Lf w4 v4 _ S4.o (by rw[BH.o];omega) hh hhh).mono ?_;rintro e w5 ⟨v5,rfl,s5,m5,l5⟩
  have M5:ae (aa (λk=>v.ownBlock=some k) W w5):=⟨m5.os.trans M4.o.os,m5.tape.trans M4.o.tape,m5.output.trans M4.o.output,ao M4.o.size m5.size,λk hk hS=>(m5.block k (bj hk M4.o.size) (λe=>by
   rcases L4.o k e with h|h
   ·exact hS h
   ·omega)).trans (M4.o.block k hk hS)⟩
  have L5:ae (∀k,v5.ownBlock=some k->v.ownBlock=some k\/W.heap.size<=k):=qY L4.o l5 M4.o.size;have S5:=ak s5;refine hK _ _ rfl ⟨⟨_,M5.o⟩,rfl⟩ ?_;clear hK K s5 m5 l5
  iterate 1 (refine aB rfl rfl rfl ?_;intro K hK;go_big_quiet_op;go_big_quiet_on)
  refine cu ?_
  try simp only[Exit.then]
  go_wp2_with fail;go_ret;refine⟨v5,rfl,?_,HML.o _ _ M5.o L5.o⟩;have:l++uA code d s j n hh slots=l++b8 [(code:Int),(d:Int)+16*s,j%256,j/256%256]++b8 (bS n)++[0,0,0,0]++b8 (bS hh):=by simp[uA,h1]
  rw[this];exact S5.o
def nC(m:dD):tLB:=dH (T m.name)++b8 [(m.key:Int),(m.value:Int),(m.entries:Int)]
def jL(f:qd):tLB:=dH (T f.name)++b8 (dY (yj f.code))
def nj(x:PI):tLB:=uA x.o.code x.d x.s x.jump x.num x.high x.o.slots
def kE(f:qd):tLB:=f.code.flatMap nj
def xg(kind:Nat)(ms:List dD)(fs:List qd):tLB :=
 [83,80,79,76]++b8 [(kind:Int),(ms.length:Int)]++ms.flatMap nC++b8 [(fs.length:Int)]++fs.flatMap jL++fs.flatMap kE
structure EI(w:tW)(v:Value)(l:tLB)(w':tW):Prop where
 dW:Out w' v l
 md:aa af w w'
 own:∀k,v.ownBlock=some k->w.heap.size<=k
theorem EI.step{w w1 w2:tW}{v v':Value}{l l':tLB}(h:EI w v l w1)(o:Out w2 v' l')(m:aa (λk=>v.ownBlock=some k) w1 w2)(hv:∀k,v'.ownBlock=some k->v.ownBlock=some k\/w1.heap.size<=k):EI w v' l' w2 :=
 ⟨o,h.md.step m (λi hi e=>by have:=h.own i e;omega),λk hk=>by
  rcases hv k hk with e|e
  ·exact h.own k e
  ·have:=h.md.size;omega⟩
theorem EI.quiet{w w1 w2:tW}{v:Value}{l:tLB}(h:EI w v l w1)(m:aa af w1 w2):EI w v l w2 :=
 ⟨h.dW.quiet m,h.md.trans m,h.own⟩
theorem SN(code d s:Nat)(j n h:Int)(slots:Nat):(uA code d s j n h slots).length<=16:=by unfold uA;split<;>simp[b8,bS]
theorem yw{P:Program}(w:tW){ops:Array Oper}{rest:List Oper}{o:Oper}{a:Act}{Q:Exit->Act->tW->Prop}(hgd:o.guard=none)(s x:Operand)(t:TypeId)(ho:o.op=.call {callee:=.builtin .append,args:=#[s,x],argTypes:=#[t,t]})(e:TypeId) (i:TypeInfo) (z:Value) (size bytes:Nat) (ht:P.underlying t=some (.slice e)) (hi:P.info? e=some i) (hz:i.zero=some z)(hsize:i.size=size) (hby:i.bytes=bytes) (hzs:z.cells.size=size) (hsz:0<size)(b:Addr) (n cap:Nat) (olds:List Value) (hs:a.eval s=.slice (some b) n cap) (hlo:olds.length=n*size) (holds:∀j u,olds[j]?=some u->w.cell? (b.add j)=some u)(ad:Addr) (m c:Nat) (news:List Value) (hx:a.eval x=.slice (some ad) m c) (hl:news.length=m*size) (hnews:∀j u,news[j]?=some u->w.cell? (ad.add j)=some u)(hg:cap<n+m) (h63:n+m<=maxLen) (hbytes:(n+m)*bytes<=140737488355328)(h:∀v' w',Sl w' e size v' (n+m) (olds++news)->aa af w w'->(∀k,v'.ownBlock=some k->w.heap.size<=k)->wpList P ops Q rest (a.put o.dst v') w'):wpList P ops Q (o::rest) a w:=by
 refine wpList_plain hgd λ_ hK=>?_;obtain⟨v',w',hr,h2,h3⟩:=run_append_arg_grows (P:=P) w t o.type e i z size bytes ht hi hz hsize hby hzs hsz b n cap olds hlo holds ad m c news hl hnews hg h63 hbytes;unfold Oper.wp execOp;simp only[ho,resolve,invoke,builtin,Sem.run_bind,Sem.run_pure,Result.andThen_ok,cw,ch,List.map_nil,hs,hx,hr];refine hK _ _ (h v' w' ⟨h2.1,?_⟩ ⟨h3.os,h3.tape,h3.output,h3.size,λk hk _=>h3.block k hk (by simp)⟩ (λk hk=>(World.ownsRow.lt h2 k hk).1));rcases h2.2 with h |⟨g,cp,cur,h4,_,h5⟩
 ·exact .inl h
 ·exact .inr ⟨g,cp,cur,h4,ca _,h5⟩
theorem Ww(w:tW)(o o2:Obj)(C:tAV)(e:TypeId)(m:Nat×Nat)(j:Nat):(((w.alloc o).alloc (.cells C e m)).alloc o2).cell? ⟨w.heap.size+1,j,none⟩=C[j]?:=by
 have h:(((w.alloc o).alloc (.cells C e m)).alloc o2).heap[w.heap.size+1]?=some (.cells C e m):=by
  show(((w.heap.push o).push (.cells C e m)).push o2)[w.heap.size+1]?=_
  rw[Array.getElem?_push,iN9 (by simp),Array.getElem?_push,iP9 (by simp)]
 unfold World.cell?;simp only[h];rfl
structure abZ(w W:tW)(B:Nat)(cs:tAV)(t:TypeId)(a b:Nat)(u:Value)(l:tLB)(L:Nat->Bool)(w':tW):Prop where
 md:aa af w w'
 bx:aq w' B cs t
 sz:W.heap.size<=w'.heap.size
 ei:L a=false->L b=false->EI w u l w'
structure Ju(w:tW)(B:Nat)(cs:tAV)(t:TypeId)(a b:Nat)(u:Value)(i:Nat)(w1 w2:tW):Prop where
 q:i≠a->i≠b->aa af w1 w2
 na:i=a->aa (λk=>u.ownBlock=some k) w1 w2
 nb:i=b->aa af w w2/\aq w2 B cs t/\w1.heap.size<=w2.heap.size
theorem Ju.quiet{w w1 w2:tW}{B:Nat}{cs:tAV}{t:TypeId}{a b i:Nat}{u:Value}(m:aa af w1 w2)(ha:i≠a)(hb:i≠b):Ju w B cs t a b u i w1 w2 :=
 ⟨λ_ _=>m,λe=>absurd e ha,λe=>absurd e hb⟩
theorem Ju.keep{w W:tW}{B:Nat}{cs:tAV}{t:TypeId}{a b:Nat}{u:Value}{l:tLB}{md:Region.Mode}{ops:Array Oper}(hu:∀k,u.ownBlock=some k->w.heap.size<=k)(hB:u.ownBlock≠some B)(hab:a≠b):∀(i:Nat) (L:Nat->Bool) w1 w2,tO md ops i L->abZ w W B cs t a b u l L w1->Ju w B cs t a b u i w1 w2->abZ w W B cs t a b u l (lX L i) w2:=by
 intro i L w1 w2 _ c n;by_cases ea:i=a
 ·have m:=n.na ea;subst ea;exact⟨c.md.step m (λk hk e=>by have:=hu k e;omega),c.bx.ah m hB,ao c.sz m.size,λh=>by simp[lX]at h⟩
 ·by_cases eb:i=b
  ·obtain⟨m,bx,sz⟩:=n.nb eb;subst eb;exact⟨m,bx,ao c.sz sz,λ_ h=>by simp[lX]at h⟩
  ·have m:=n.q ea eb;refine⟨c.md.trans m,c.bx.ah m id,ao c.sz m.size,λh1 h2=>(c.ei ?_ ?_).quiet m⟩
   ·simpa [lX,Ne.symm ea]using h1
   ·simpa [lX,Ne.symm eb]using h2
def aap(w:tW)(b:Nat)(l:tLB)(L:Nat->Bool)(v:Value)(w':tW):Prop:=L b=false->EI w v l w'
def aaq(W:tW)(b n:Nat)(cs:tAV)(L:Nat->Bool)(v:Value)(w':tW):Prop:=L b=false->∃g,v=.slice (some ⟨g,0,none⟩) n n/\W.heap.size<=g/\aq w' g cs 5
def Wx(w:tW)(l:tLB)(_:Nat->Bool)(v:Value)(w':tW):Prop:=EI w v l w'
section
variable {w W : World} {B : Nat} {cs : Array Value} {t : TypeId} {a b : Nat} {u : Value} {l : List UInt8} {md : Region.Mode} {ops : Array Oper}
theorem aar(hab:a≠b):∀(i:Nat) (L:Nat->Bool) v w1 w2,tO md ops i L->L a=true->Ju w B cs t a b u i w1 w2->aap w b l L v w1->aap w b l (lX L i) v w2:=by
 intro i L v w1 w2 hn ha n h hb;have eb:i≠b:=λe=>by subst e;simp[lX]at hb
 have ea:i≠a:=λe=>by subst e;rw[hn.1]at ha;cases ha
 have hb':L b=false:=by simpa [lX,Ne.symm eb]using hb
 exact(h hb').quiet (n.q ea eb)
theorem aas{c n:Nat}{ds:tAV}(hu:∀k,u.ownBlock=some k->k<W.heap.size):∀(i:Nat) (L:Nat->Bool) v w1 w2,tO md ops i L->L c=true->Ju w B cs t a b u i w1 w2->aaq W b n ds L v w1->aaq W b n ds (lX L i) v w2:=by
 intro i L v w1 w2 _ _ hn h hb;have eb:i≠b:=λe=>by subst e;simp[lX]at hb
 have hb':L b=false:=by simpa [lX,Ne.symm eb]using hb
 obtain⟨g,h1,h2,h3⟩:=h hb';by_cases ea:i=a
 ·exact⟨g,h1,h2,h3.ah (hn.na ea) (λe=>by have:=hu g e;omega)⟩
 ·exact⟨g,h1,h2,h3.ah (hn.q ea eb) id⟩
theorem Qx{c:Nat}(h1:∃o,ops[c]?=some o/\(dn md o).contains a=true/\(c=b\/(dn md o).contains b=true)):∀(i:Nat) (L:Nat->Bool) v w1 w2,tO md ops i L->L c=true->Ju w B cs t a b u i w1 w2->Wx w l L v w1->Wx w l (lX L i) v w2:=by
 intro i L v w1 w2 hn hc n h;obtain⟨o,ho,da,db⟩:=h1;have ea:i≠a:=λe=>by subst e;have:=hn.2 c o ho da;rw[hc]at this;cases this
 have eb:i≠b:=λe=>by
  subst e;rcases db with e|e
  ·subst e;have:=hn.1;rw[hc]at this;cases this
  ·have:=hn.2 c o ho e;rw[hc]at this;cases this
 exact EI.quiet h (n.q ea eb)
end
theorem aat:∀k,k<88->(ax[k]?.getD bU).code<=255:=by decide +kernel
structure EOk(ms:List dD)(fs:List qd):Prop where
 m:ms.length<=255
 f:fs.length<=100
 mn:∀m∈ms,m.name.length<=255/\m.key<=255/\m.value<=255/\m.entries<=255
 fn:∀f∈fs,f.name.length<=255/\f.code.length<=200/\∀x∈f.code,NA x
structure xq(w:tW)(tv:Value)(bs:List Nat)(vM vF:Value)(ms:List dD)(fs:List qd)(vs:List Value):Prop where
 maps:Sl w 141 4 vM ms.length (ms.flatMap dD.cells)
 len:vs.length=fs.length
 rows:Sl w 145 2 vF fs.length (((fs.map (·.name)).zip vs).flatMap GJ)
 code:∀i (_:i<fs.length) (_:i<vs.length),iZ w vs[i] bs fs[i].code
 ops:aR 0 w tv bs ax
theorem xq.quiet{w w':tW}{tv:Value}{bs:List Nat}{vM vF:Value}{ms:List dD}{fs:List qd}{vs:List Value}(h:xq w tv bs vM vF ms fs vs)(m:aa af w w'):xq w' tv bs vM vF ms fs vs :=
 ⟨h.maps.ah m (λ_ _=>id),h.len,h.rows.ah m (λ_ _=>id),λi a b=>(h.code i a b).ah m (λ_ _=>id),h.ops.ah m⟩
theorem xq.atM{w:tW}{tv:Value}{bs:List Nat}{oM:Option Addr}{cM:Nat}{vF:Value}{ms:List dD}{fs:List qd}{vs:List Value}(h:xq w tv bs (.slice oM ms.length cM) vF ms fs vs)(k:Nat)(hk:k<ms.length):∃g,oM=some ⟨g,0,none⟩/\w.cell? ⟨g,k*4,none⟩=some (.string (T ms[k].name))/\w.cell? ⟨g,k*4+1,none⟩=some (.int .u8 ms[k].key)/\w.cell? ⟨g,k*4+2,none⟩=some (.int .u8 ms[k].value)/\w.cell? ⟨g,k*4+3,none⟩=some (.int .u8 ms[k].entries):=by
 obtain⟨o',cap',hv,h2⟩:=h.maps.view;cases hv;obtain⟨g,cs,rfl,hb,ht,_⟩:=h2 (by omega);have key:∀c,c<4->w.cell? ⟨g,k*4+c,none⟩=(dD.cells ms[k])[c]?:=λc hc=>by rw[bA hb ht (k*4+c) (by omega)];exact flat_get dD.cells 4 (λ_=>rfl) ms k c hk hc
 exact⟨g,rfl,key 0 (by omega),key 1 (by omega),key 2 (by omega),key 3 (by omega)⟩
theorem xq.atF{w:tW}{tv:Value}{bs:List Nat}{oF:Option Addr}{cF:Nat}{vM:Value}{ms:List dD}{fs:List qd}{vs:List Value}(h:xq w tv bs vM (.slice oF fs.length cF) ms fs vs)(k:Nat)(hk:k<fs.length)(hv':k<vs.length):∃g,oF=some ⟨g,0,none⟩/\w.cell? ⟨g,k*2,none⟩=some (.string (T fs[k].name))/\w.cell? ⟨g,k*2+1,none⟩=some vs[k]:=by
 obtain⟨o',cap',hv,h2⟩:=h.rows.view;cases hv;obtain⟨g,cs,rfl,hb,ht,_⟩:=h2 (by omega);have hz:k<((fs.map (·.name)).zip vs).length:=by simp only[List.length_zip,List.length_map];omega
 have key:∀c,c<2->w.cell? ⟨g,k*2+c,none⟩=(GJ (fs[k].name,vs[k]))[c]?:=λc hc=>by rw[bA hb ht (k*2+c) (by omega)];have:=flat_get GJ 2 (λ_=>rfl) ((fs.map (·.name)).zip vs) k c hz hc;rw[this,cr,List.getElem_map]
 exact⟨g,rfl,key 0 (by omega),key 1 (by omega)⟩
theorem Wy(kind:Nat)(hk:kind<=255)(w:tW)(tv:Value)(bs:List Nat)(vM vF:Value)(ms:List dD)(fs:List qd)(vs:List Value)(hP:xq w tv bs vM vF ms fs vs)(hE:EOk ms fs):Calls prog 54 #[.int .u8 kind,.agg #[vM,vF]] w λe w'=>∃v,e=.returned v/\EI w v (xg kind ms fs) w':=by
 obtain⟨iU,Mj,Mk,Ml,Mm⟩:=iO;obtain⟨oM,cM,Jv,_⟩:=hP.maps.view;obtain⟨oF,cF,uZ,_⟩:=hP.rows.view;subst Jv uZ;have Kl:=hE.m;have hfl:=hE.f;have HP:=ak hP;have HE:=ak hE;clear hP hE;have kc:=Lib.run_convert_bytes_const (P:=prog) (w.alloc (.cells #[.slice oM ms.length cM,.slice oF fs.length cF] 85)) 62 5 #[.int .u8 83,.int .u8 80,.int .u8 79,.int .u8 76] 4 4 underlying62 underlying5;rw[show(w.alloc (.cells #[.slice oM ms.length cM,.slice oF fs.length cF] 85)).heap.size=w.heap.size+1 by simp]at kc;go_enter func54,ntmps54
 have Yl:ae (∀(o2:Obj) (j:Nat) (u:Value),([.int .u8 83,.int .u8 80,.int .u8 79,.int .u8 76]:List Value)[j]?=some u->(((w.alloc (.cells #[.slice oM ms.length cM,.slice oF fs.length cF] 85)).alloc (.cells #[.int .u8 83,.int .u8 80,.int .u8 79,.int .u8 76] 5 (4,5))).alloc o2).cell? ((⟨w.heap.size+1,0,none⟩:Addr).add j)=some u):=by
  intro o2 j u hu;have hadd:(⟨w.heap.size+1,0,none⟩:Addr).add j=⟨w.heap.size+1,j,none⟩:=by unfold Addr.add;split<;>simp_all
  rw[hadd,Ww]
  simpa using hu
 go_wp2_with (at_builtin;refine yw _ rfl (.tmp 15) (.tmp 21) 62 rfl 5 iU (.int .u8 0) 1 1 underlying62 Mj Mk Ml Mm rfl (by decide) ⟨w.heap.size+1,0,none⟩ 4 4 [.int .u8 83,.int .u8 80,.int .u8 79,.int .u8 76] rfl rfl (Yl.o _) ⟨w.heap.size+1+1,0,none⟩ 2 2 ([(kind:Int),(ms.length:Int)].map (Value.int .u8)) rfl rfl (aT _ _ _ _ (by simp)) (by decide) (by decide) (by decide) ?_;intro v2 w2 s2 m2 l2;have B2:ae (aq w2 w.heap.size #[.slice oM ms.length cM,.slice oF fs.length cF] 85):=aq.ah (((aq.new w _ _).alloc _).alloc _) m2 id;have q0:w2.cell? ⟨w.heap.size,0,none⟩=some (.slice oM ms.length cM):=B2.dW.cell 0);obtain⟨wB,hwB⟩:∃wB,wB=w.alloc (.cells #[.slice oM ms.length cM,.slice oF fs.length cF] 85):=⟨_,rfl⟩
 have Qt:ae (aa af w wB):=by rw[hwB];exact(aa.refl _ _).alloc _
 have Uv:ae (aq wB w.heap.size #[.slice oM ms.length cM,.slice oF fs.length cF] 85):=by rw[hwB];exact aq.new _ _ _
 have HPB:=ak (HP.o.quiet Qt.o);have HI0:ae (EI wB v2 ([83,80,79,76]++b8 [(kind:Int),(ms.length:Int)]) w2):=by rw[<-hwB]at m2 l2;have M0:aa af wB ((wB.alloc (.cells #[.int .u8 83,.int .u8 80,.int .u8 79,.int .u8 76] 5 (4,5))).alloc (.cells #[.int .u8 kind,.int .u8 ms.length] 5)):=((aa.refl _ _).alloc _).alloc _;refine⟨?_,M0.trans m2,λk hk=>ao M0.size (l2 k hk)⟩;exact Out.app (l:=[83,80,79,76]) (λx hx=>by simp at hx;rcases hx with rfl|rfl<;>omega) rfl s2
 clear s2 m2 l2 kc Yl hwB HP;have HO0:ae (∀x:Value,x=v2->True):=λ_ _=>trivial;go_loopg [5,26] ms.length (λg ov iv wx=>∃(k:Nat) (l:tLB),iv=.int .i64 k/\EI wB ov l wx/\l++(ms.drop k).flatMap nC=[83,80,79,76]++b8 [(kind:Int),(ms.length:Int)]++ms.flatMap nC/\l.length<=6+k*260/\k<=ms.length/\g=ms.length-k)
 case atStart=>exact⟨0,_,rfl,HI0.o,rfl,by simp[b8],ca _,rfl⟩
 case round =>
  obtain⟨k,l,rfl,hI,iy,hll,hkm,rfl⟩:=hrel;have HR:=ak iy;have HI:=ak hI;clear iy q0;have NT:=HPB.o.quiet hI.md;by_cases hkl:k<ms.length
  ·obtain⟨gM,rfl,c0,c1,c2,c3⟩:=NT.atM k hkl;have hok:=HE.o.mn ms[k] (b9 hkl);have HD:ae (l++nC ms[k]++(ms.drop (k+1)).flatMap nC=[83,80,79,76]++b8 [(kind:Int),(ms.length:Int)]++ms.flatMap nC):=by rw[ae,<-HR.o,ba hkl,cb,ar]
   clear NT hI HR;generalize ms[k]=m at *;obtain⟨nm,ky,vl,en⟩:=m;simp only at *;obtain⟨o1,o2,o3,o4⟩:=hok;go_upto_region 5 with fail;have hIW:EI wB u5 l (wr.alloc (.cells #[.string (T nm),.int .u8 ky,.int .u8 vl,.int .u8 en] 141)):=HI.o.quiet ((aa.refl _ _).alloc _);have hbx:=aq.new wr #[.string (T nm),.int .u8 ky,.int .u8 vl,.int .u8 en] 141;have hsz:wr.heap.size<(wr.alloc (.cells #[.string (T nm),.int .u8 ky,.int .u8 vl,.int .u8 en] 141)).heap.size:=hbx.lt;generalize wr.alloc (.cells #[.string (T nm),.int .u8 ky,.int .u8 vl,.int .u8 en] 141)=W at *;generalize wr.heap.size=B at *;have HIW:=ak hIW;have HNB:ae (u5.ownBlock≠some B):=hIW.dW.az hbx (by decide);have HLT:ae (∀k,u5.ownBlock=some k->k<W.heap.size):=λk hk=>hIW.dW.lt k hk;have Yr:=ak hbx;have hts:(T nm).size<=255:=by rw[bZ];exact o1
   have Ff:=ak hll;clear hIW hbx c0 c1 c2 c3 hsz hll HI
   refine DX [.inl u5,.inl (.pointer (some ⟨B,0,none⟩)),.inl (.string (T nm)),.inr (aap wB 11 (l++dH (T nm))),.inl (.pointer (some ⟨B,1,none⟩)),.inl (.int .u8 ky),.inl (.pointer (some ⟨B,2,none⟩)),.inl (.int .u8 vl),.inl (.pointer (some ⟨B,3,none⟩)),.inl (.int .u8 en),
     .inr (aaq W 11 3 #[.int .u8 ky,.int .u8 vl,.int .u8 en]),.inr (Wx wB (l++dH (T nm)++b8 [(ky:Int),(vl:Int),(en:Int)])),.inr (Wx wB (l++dH (T nm)++b8 [(ky:Int),(vl:Int),(en:Int)]))]
    (abZ wB W B #[.string (T nm),.int .u8 ky,.int .u8 vl,.int .u8 en] 141 3 11 u5 l) (Ju wB B #[.string (T nm),.int .u8 ky,.int .u8 vl,.int .u8 en] 141 3 11 u5) (by kernel_rfl) (by kernel_rfl) (by kernel_rfl)
    ⟨HIW.o.md.drew,Yr.o.drew,cj _,λ_ _=>HIW.o.quiet ((aa.refl _ _).drew)⟩ ?_ (Ju.keep HIW.o.own HNB.o (by decide)) (.inl (by kernel_rfl)) ?_
   ·intro j s hs i L v w1 w2 hn hj n hr;refine yq (show CV _ _ _ 0 _ from ?_) j s hs i L v w1 w2 hn (by rw[Nat.zero_add];exact hj) n hr;exact⟨aar (by decide),aas HLT.o,Qx ⟨_,rfl,by decide,.inl rfl⟩,Qx ⟨_,rfl,by decide,.inr (by decide)⟩,trivial⟩
   refine lu rfl (λL w' hN hC _ K hK=>?_) ?_
   ·go_big_op;exact hK _ _ _ rfl (.quiet (aa.refl _ _) (by decide) (by decide)) rfl
   simp only[Act.put,sA9,sB9,sC9];refine lu rfl (λL w' hN hC _ K hK=>?_) ?_
   ·go_big_op;exact hK _ _ _ rfl (.quiet (aa.refl _ _) (by decide) (by decide)) rfl
   simp only[Act.put,sA9,sB9,sC9];refine lu rfl (λL w' hN hC _ K hK=>?_) ?_
   ·have e1:w'.cell? ⟨B,0,none⟩=some (.string (T nm)):=hC.bx.cell 0;go_big_op;exact hK _ _ _ rfl (.quiet (aa.refl _ _) (by decide) (by decide)) rfl
   simp only[Act.put,sA9,sB9,sC9];refine zP rfl (λL w' hN hC _ K hK=>?_) (λx3=>?_)
   ·have h11:L 11=false:=hN.2 11 _ rfl (by decide);have hei:=hC.ei hN.1 h11;go_big_op;refine(Ba w' u5 l hei.dW (by have:=Ff.o;omega) (T nm) hts).mono ?_;rintro e w2' ⟨v3,rfl,s3,m3,l3⟩;exact hK _ _ _ rfl ⟨λh=>absurd rfl h,λ_=>m3,λh=>absurd h (by decide)⟩ (λ_=>hei.step s3 m3 l3)
   simp only[Act.put,sA9,sB9,sC9];refine lu rfl (λL w' hN hC _ K hK=>?_) ?_
   ·go_big_op;exact hK _ _ _ rfl (.quiet (aa.refl _ _) (by decide) (by decide)) rfl
   simp only[Act.put,sA9,sB9,sC9];refine lu rfl (λL w' hN hC _ K hK=>?_) ?_
   ·have e1:w'.cell? ⟨B,1,none⟩=some (.int .u8 ky):=hC.bx.cell 1;go_big_op;exact hK _ _ _ rfl (.quiet (aa.refl _ _) (by decide) (by decide)) rfl
   simp only[Act.put,sA9,sB9,sC9];refine lu rfl (λL w' hN hC _ K hK=>?_) ?_
   ·go_big_op;exact hK _ _ _ rfl (.quiet (aa.refl _ _) (by decide) (by decide)) rfl
   simp only[Act.put,sA9,sB9,sC9];refine lu rfl (λL w' hN hC _ K hK=>?_) ?_
   ·have e1:w'.cell? ⟨B,2,none⟩=some (.int .u8 vl):=hC.bx.cell 2;go_big_op;exact hK _ _ _ rfl (.quiet (aa.refl _ _) (by decide) (by decide)) rfl
   simp only[Act.put,sA9,sB9,sC9];refine lu rfl (λL w' hN hC _ K hK=>?_) ?_
   ·go_big_op;exact hK _ _ _ rfl (.quiet (aa.refl _ _) (by decide) (by decide)) rfl
   simp only[Act.put,sA9,sB9,sC9];refine lu rfl (λL w' hN hC _ K hK=>?_) ?_
   ·have e1:w'.cell? ⟨B,3,none⟩=some (.int .u8 en):=hC.bx.cell 3;go_big_op;exact hK _ _ _ rfl (.quiet (aa.refl _ _) (by decide) (by decide)) rfl
   simp only[Act.put,sA9,sB9,sC9];refine zP rfl (λL w' hN hC _ K hK=>?_) (λx10=>?_)
   ·go_big_op;exact hK _ _ _ rfl (.quiet ((aa.refl _ _).alloc _) (by decide) (by decide)) (λ_=>⟨_,rfl,hC.sz,aq.new _ _ _⟩)
   simp only[Act.put,sA9,sB9,sC9];refine zP rfl (λL w' hN hC hk K hK=>?_) (λx11=>?_)
   ·have f3:aap wB 11 (l++dH (T nm)) L x3 w':=tT hk 3 (by decide);have f10:aaq W 11 3 #[.int .u8 ky,.int .u8 vl,.int .u8 en] L x10 w':=tT hk 10 (by decide);have hei:=f3 hN.1;obtain⟨g,rfl,hgW,hg⟩:=f10 hN.1;refine cZ _ (.tmp 33) (.tmp 40) 62 rfl 5 iU (.int .u8 0) 1 1 underlying62 Mj Mk Ml Mm rfl (by decide) x3 _ _ rfl hei.dW ⟨g,0,none⟩ 3 3 ([(ky:Int),(vl:Int),(en:Int)].map (Value.int .u8)) rfl rfl ?_ (yu _) ?_ ?_ ?_
    ·intro j u hu;have hadd:(⟨g,0,none⟩:Addr).add j=⟨g,j,none⟩:=by unfold Addr.add;split<;>simp_all
     rw[hadd,hg.cell j]
     simpa using hu
    ·have:=Ff.o;rw[an,dS];unfold maxLen;omega
    ·have:=Ff.o;rw[an,dS];omega
    ·intro v4 w4 s4 m4 l4;have hE4:EI wB v4 (l++dH (T nm)++b8 [(ky:Int),(vl:Int),(en:Int)]) w4:=hei.step (Out.app (λx hx=>by simp at hx;rcases hx with rfl|rfl|rfl<;>omega) rfl s4) m4 l4;exact hK _ _ _ rfl ⟨λ_ h=>absurd rfl h,λh=>absurd h (by decide),λ_=>⟨hE4.md,hC.bx.ah m4 (hei.dW.az hC.bx (by decide)),m4.size⟩⟩ hE4
   simp only[Act.put,sA9,sB9,sC9];refine zP rfl (λL w' hN hC hk K hK=>?_) (λx12=>?_)
   ·have f11:Wx wB (l++dH (T nm)++b8 [(ky:Int),(vl:Int),(en:Int)]) L x11 w':=tT hk 11 (by decide);go_big_op;exact hK _ _ _ rfl (.quiet (aa.refl _ _) (by decide) (by decide)) f11
   simp only[Act.put,sA9,sB9,sC9];refine Wp (λL w' hL hC hA=>?_);have hE5:EI wB x12 (l++dH (T nm)++b8 [(ky:Int),(vl:Int),(en:Int)]) w':=Wq hA 12;have HE5:=ak hE5;clear hE5 hA hC hL
   try simp only[Exit.then]
   go_wp2_with fail;go_roundg (ms.length-(k+1))
   case measure=>omega
   case rel =>
    have hlz:=Ff.o;refine⟨k+1,l++nC ⟨nm,ky,vl,en⟩,by go_num,?_,HD.o,?_,by omega,rfl⟩
    ·rw[nC,<-ar];exact HE5.o
    ·rw[an,nC,an,dS,gQ];simp only[bh,bt];omega
  ·obtain rfl:k=ms.length:=by omega
   have iG:ae (l=[83,80,79,76]++b8 [(kind:Int),(ms.length:Int)]++ms.flatMap nC):=by
    have:=HR.o;rw[cc]at this;rw[ae]
    simpa using this
   have q1:wr.cell? ⟨w.heap.size,1,none⟩=some (.slice oF fs.length cF):=(Uv.o.ah hI.md id).cell 1;have Ff:ae (l.length<=70000):=by rw[ae];omega
   clear NT hI HR hll;go_wp2_with (at_builtin;refine aJ _ rfl (.tmp 43) (.tmp 48) 62 rfl 5 iU (.int .u8 0) 1 1 underlying62 Mj Mk Ml Mm rfl (by decide) u5 l.length (uL l) rfl (HI.o.dW.quiet ((aa.refl _ _).alloc _)) ⟨wr.heap.size,0,none⟩ 1 1 ([(fs.length:Int)].map (Value.int .u8)) rfl rfl (aT _ _ _ _ rfl) (yu _) (by have:=Ff.o;unfold maxLen;omega) (by have:=Ff.o;omega) ?_;intro v7 w7 s7 m7 l7;have H7:ae (EI wB v7 (l++b8 [(fs.length:Int)]) w7):=(HI.o.quiet ((aa.refl _ _).alloc _)).step (Out.app (λx hx=>by simp at hx;subst hx;omega) rfl s7) m7 l7;have q2:w7.cell? ⟨w.heap.size,1,none⟩=some (.slice oF fs.length cF):=(Uv.o.ah H7.o.md id).cell 1);clear s7 m7 l7 HI;go_loopg [5,53] fs.length (λg ov iv wx=>∃(k:Nat) (l':tLB),iv=.int .i64 k/\EI wB ov l' wx/\l'++(fs.drop k).flatMap jL=l++b8 [(fs.length:Int)]++fs.flatMap jL/\l'.length<=70001+k*260/\k<=fs.length/\g=fs.length-k)
   case atStart=>exact⟨0,_,rfl,H7.o,rfl,by have:=Ff.o;rw[an,gQ];simp only[bh,bt];omega,ca _,rfl⟩
   case round =>
    clear q1 q2;obtain⟨k,l',rfl,hI,iy,hll,hkm,rfl⟩:=hrel;have HR:=ak iy;clear iy;have NT:=HPB.o.quiet hI.md;have NU:=ak hll;clear hll;by_cases hkl:k<fs.length
    ·have Fh:k<vs.length:=by rw[NT.len];exact hkl
     obtain⟨gF,rfl,c0,c1⟩:=NT.atF k hkl Fh;have hok:=HE.o.fn fs[k] (b9 hkl);have hcd:=NT.code k hkl Fh;have HD:ae (l'++jL fs[k]++(fs.drop (k+1)).flatMap jL=l++b8 [(fs.length:Int)]++fs.flatMap jL):=by rw[ae,<-HR.o,ba hkl,cb,ar]
     have Fb:ae (∀w',aa af wB w'->aR 0 w' tv bs ax/\iZ w' vs[k] bs fs[k].code):=λw' m=>⟨(HPB.o.quiet m).ops,(HPB.o.quiet m).code k hkl Fh⟩
     generalize fs[k]=f at *;generalize vs[k]=vC at *;obtain⟨nm,code⟩:=f;simp only at *;obtain⟨o1,o2,o3⟩:=hok;obtain⟨oC,cC,rfl,_⟩:=hcd.view;clear NT HR;have HI:=ak hI;clear hI;have Lg:=ak Fb.o;clear Fb hcd;go_upto_region 11 with fail;have hIW:EI wB u5 l' (wr.alloc (.cells #[.string (T nm),.slice oC code.length cC] 145)):=HI.o.quiet ((aa.refl _ _).alloc _);have hbx:=aq.new wr #[.string (T nm),.slice oC code.length cC] 145;generalize wr.alloc (.cells #[.string (T nm),.slice oC code.length cC] 145)=W at *;generalize wr.heap.size=B at *;have HIW:=ak hIW;have hnx:¬(u5.ownBlock=some B):=hIW.dW.az hbx (by decide);have Yr:=ak hbx;have hts:(T nm).size<=255:=by rw[bZ];exact o1
     have x0:∀g:Ext (λk=>u5.ownBlock=some k) W,g.w.cell? ⟨B,0,none⟩=some (.string (T nm)):=λg=>(Yr.o.ah g.m hnx).cell 0;have x1:∀g:Ext (λk=>u5.ownBlock=some k) W,g.w.cell? ⟨B,1,none⟩=some (.slice oC code.length cC):=λg=>(Yr.o.ah g.m hnx).cell 1;have ne1:=Ext.ne (λk=>u5.ownBlock=some k) W;clear hIW hbx c0 c1 HI;refine aZ [3,5,6] (λw'=>∃e:Ext (λk=>u5.ownBlock=some k) W,w'=e.w) (by kernel_rfl) (by kernel_rfl) (by kernel_rfl) ⟨⟨_,(aa.refl _ _).drew⟩,rfl⟩ ?_
     iterate 3 (refine aB rfl rfl rfl ?_;intro K hK;go_big_quiet_op;go_big_quiet_on)
     refine aF rfl rfl ?_;intro K hK;go_big_op;refine(Ba _ u5 l' (HIW.o.quiet ((aa.refl _ _).drew)).dW (by have:=NU.o;omega) (T nm) hts).mono ?_;rintro e w3 ⟨v3,rfl,s3,m3,l3⟩;have H3:ae (EI wB v3 (l'++dH (T nm)) w3):=(HIW.o.quiet ((aa.refl _ _).drew)).step s3 m3 l3;have M3:ae (aa (λk=>u5.ownBlock=some k) W w3):=((aa.refl _ _).drew).trans m3;have L3:ae (∀k,v3.ownBlock=some k->u5.ownBlock=some k\/W.heap.size<=k):=l3;refine hK _ _ rfl ⟨⟨_,M3.dW⟩,rfl⟩ ?_;clear hK K s3 m3 l3
     iterate 1 (refine aB rfl rfl rfl ?_;intro K hK;go_big_quiet_op;go_big_quiet_on)
     refine aF rfl rfl ?_;intro K hK;go_big_op;refine(Le w3 tv bs (Lg.o w3 H3.o.md).1 code o3 (by omega) _ (Lg.o w3 H3.o.md).2 (T nm)).mono ?_;rintro e w4 ⟨rfl,m4⟩;have H4:=ak (H3.o.quiet m4);have M4:ae (aa (λk=>u5.ownBlock=some k) W w4):=M3.dW.trans (m4.mono (λ_ _ e=>e.elim));refine hK _ _ rfl ⟨⟨_,M4.dW⟩,rfl⟩ ?_;clear hK K;refine aF rfl rfl ?_;intro K hK;go_big_op;refine(D5 w4 v3 (l'++dH (T nm)) H4.o.dW (by have:=NU.o;rw[an,dS];omega) (yj code)).mono ?_;rintro e w5 ⟨v5,rfl,s5,m5,l5⟩;have H5:ae (EI wB v5 (l'++dH (T nm)++b8 (dY (yj code))) w5):=H4.o.step s5 m5 l5
     have M5:ae (aa (λk=>u5.ownBlock=some k) W w5):=⟨m5.os.trans M4.dW.os,m5.tape.trans M4.dW.tape,m5.output.trans M4.dW.output,ao M4.dW.size m5.size,λk hk hS=>(m5.block k (bj hk M4.dW.size) (λe=>by
      rcases L3.dW k e with h|h
      ·exact hS h
      ·omega)).trans (M4.dW.block k hk hS)⟩
     refine hK _ _ rfl ⟨⟨_,M5.dW⟩,rfl⟩ ?_;clear hK K s5 m5 l5
     iterate 1 (refine aB rfl rfl rfl ?_;intro K hK;go_big_quiet_op;go_big_quiet_on)
     refine cu ?_
     try simp only[Exit.then]
     go_wp2_with fail;go_roundg (fs.length-(k+1))
     case measure=>omega
     case rel =>
      have hlz:=NU.o;refine⟨k+1,l'++jL ⟨nm,code⟩,by go_num,?_,HD.o,?_,by omega,rfl⟩
      ·rw[jL,<-ar];exact H5.o
      ·rw[an,jL,an,dS,gQ];simp only[dY,bh,bt];omega
    ·obtain rfl:k=fs.length:=by omega
     have ep:ae (l'=l++b8 [(fs.length:Int)]++fs.flatMap jL):=by
      have:=HR.o;rw[cc]at this;rw[ae]
      simpa using this
     have aeK:ae (l'.length<=140000):=by have:=NU.o;rw[ae];omega
     have q1:wr.cell? ⟨w.heap.size,1,none⟩=some (.slice oF fs.length cF):=(Uv.o.ah hI.md id).cell 1;have HI:=ak hI;clear NT hI HR NU;go_wp2_with fail;go_loopg [5,68] fs.length (λg ov iv wx=>∃(k:Nat) (a:tLB),iv=.int .i64 k/\EI wB ov a wx/\a++(fs.drop k).flatMap kE=l'++fs.flatMap kE/\a.length<=140000+k*3200/\k<=fs.length/\g=fs.length-k)
     case atStart=>exact⟨0,_,rfl,HI.o,rfl,by have:=aeK.o;omega,ca _,rfl⟩
     case round =>
      clear q1 HI;obtain⟨k,a,rfl,hI,iy,hll,hkm,rfl⟩:=hrel;have HR:=ak iy;clear iy;have NT:=HPB.o.quiet hI.md;have aeL:=ak hll;clear hll;by_cases hkl:k<fs.length
      ·have Fh:k<vs.length:=by rw[NT.len];exact hkl
       obtain⟨gF,rfl,c0,c1⟩:=NT.atF k hkl Fh;have hok:=HE.o.fn fs[k] (b9 hkl);have hcd:=NT.code k hkl Fh;have HD:ae (a++kE fs[k]++(fs.drop (k+1)).flatMap kE=l'++fs.flatMap kE):=by rw[ae,<-HR.o,ba hkl,cb,ar]
       have Fb:ae (∀w',aa af wB w'->aR 0 w' tv bs ax/\iZ w' vs[k] bs fs[k].code):=λw' m=>⟨(HPB.o.quiet m).ops,(HPB.o.quiet m).code k hkl Fh⟩
       generalize fs[k]=f at *;generalize vs[k]=vC at *;obtain⟨nm,code⟩:=f;simp only at *;obtain⟨o1,o2,o3⟩:=hok;obtain⟨oC,cC,rfl,_⟩:=hcd.view;have Lg:=ak Fb.o;have Yd:=ak o3;have HIa:ae (EI wB u5 a (wr.alloc (.cells #[.string (T nm),.slice oC code.length cC] 145))):=hI.quiet ((aa.refl _ _).alloc _);clear Fb hcd NT HR hI o3;go_wp2_with fail;generalize wr.alloc (.cells #[.string (T nm),.slice oC code.length cC] 145)=W at *;go_loopg [5,75] code.length (λg ov iv wx=>∃(j:Nat) (a':tLB),iv=.int .i64 j/\EI wB ov a' wx/\a'++(code.drop j).flatMap nj=a++kE ⟨nm,code⟩/\a'.length<=140000+k*3200+j*16/\j<=code.length/\g=code.length-j)
       case atStart=>exact⟨0,_,rfl,HIa.o,rfl,by have:=aeL.o;omega,ca _,rfl⟩
       case round =>
        clear c0 c1 HIa;obtain⟨j,a',rfl,hI,iy,hll,hjm,rfl⟩:=hrel;have HR:=ak iy;clear iy;have ab0:=ak hll;clear hll;by_cases hjl:j<code.length
        ·obtain⟨g,lab,rfl,hg,y0,y1,y2,y3,y4,y5,y6,y7⟩:=DZ (Lg.o wr hI.md).2 rfl rfl j hjl;have hx:=Yd.o code[j] (b9 hjl);have HD2:ae (a'++nj code[j]++(code.drop (j+1)).flatMap nj=a++kE ⟨nm,code⟩):=by rw[ae,<-HR.o,ba hjl,cb,ar]
         have HAT:ae (∀w',aa af wB w'->dM w' (bs[code[j].k]?.getD 0) code[j].o):=λw' m=>Nz (Lg.o w' m).1 code[j] hx.k;have hcl:code[j].o.code<=255:=aat code[j].k hx.k;have aeM:=hx.slots;have HPS:ae (nj code[j]=uA code[j].o.code code[j].d code[j].s code[j].jump code[j].num code[j].high code[j].o.slots):=rfl;obtain⟨_,hxd,hxs,hxj,hxn,hxh⟩:=hx;generalize code[j].o=o at *;generalize code[j].jump=jmp at *;generalize code[j].d=xd at *;generalize code[j].s=xs at *;generalize code[j].num=xn at *;generalize code[j].high=xh at *;generalize code[j].name=xm at *;generalize bs[code[j].k]?.getD 0=b at *;generalize nj code[j]=su at *;have HI:=ak hI;clear hI HR;go_wp2_with fail;have HIx:ae (EI wB u5 a' (wr.alloc (.cells #[.pointer (some ⟨b,0,none⟩),.int .u8 xd,.int .u8 xs,.int .i16 jmp,.int .i32 xn,.int .i32 xh,.string lab,.string (T xm)] 117))):=HI.o.quiet ((aa.refl _ _).alloc _);obtain⟨p1,pn,pc,f6,c6,k7,c7,k8,c8,f9,c9,hop,_⟩:=(HAT.o _ HIx.o.md).ex;refine(NS _ u5 a' HIx.o.dW (by have:=ab0.o;omega) b _ o.code o.slots hop rfl rfl xd xs jmp xn xh _ _ hcl hxd hxs hxj hxn hxh (by omega)).mono ?_;rintro e w3 ⟨v3,rfl,s3,m3,l3⟩;have H3:ae (EI wB v3 (a'++su) w3):=by rw[HPS.o];exact HIx.o.step s3 m3 l3
         clear s3 m3 l3 hop;go_wp2_with fail;go_roundg (code.length-(j+1))
         case measure=>omega
         case rel =>
          have hlz:=ab0.o;have hsu:su.length<=16:=by rw[HPS.o];exact SN _ _ _ _ _ _ _
          exact⟨j+1,a'++su,by go_num,H3.o,HD2.o,by rw[an];omega,by omega,rfl⟩
        ·obtain rfl:j=code.length:=by omega
         have jJ:ae (a'=a++kE ⟨nm,code⟩):=by
          have:=HR.o;rw[cc]at this;rw[ae]
          simpa using this
         have HI:=ak hI;clear hI HR;go_wp2_with fail;go_roundg (fs.length-(k+1))
         case measure=>omega
         case rel =>have:=ab0.o;exact⟨k+1,a',by go_num,HI.o,by rw[jJ.o];exact HD.o,by omega,by omega,rfl⟩
      ·obtain rfl:k=fs.length:=by omega
       have fw:ae (a=xg kind ms fs):=by
        have:=HR.o;rw[cc]at this;rw[ae,xg,<-iG.o,<-ep.o]
        simpa using this
       have HI:=ak hI;clear hI HR NT;go_wp2_with fail;go_ret;refine⟨u5,rfl,?_⟩;rw[<-fw.o];exact⟨HI.o.dW,Qt.o.trans HI.o.md,λk hk=>ao Qt.o.size (HI.o.own k hk)⟩
