import Derived.Lib.SlBytesConst
import Derived.Test.YtekmhcbefnmflaaGreatDoorCL20
import Derived.Test.YtekmhcbefnmflaaGreatDoorCL55
namespace Go.Proofs.YtekmhcbefnmflaaGreatDoor
open Go.RowKit Tryz
open Lib renaming run_append_own_string->cx
open List renaming length_append->ab,append_assoc->ao,drop_eq_getElem_cons->ar,length_cons->bh,length_nil->b5,getElem_mem->b9,flatMap_cons->cj,drop_length->cw,getElem_zip->cy,length_zip->cD,map_cons->cG,map_toArray->cI,getElem_map->cN,length->ee
open Nat renaming le_trans->an,lt_of_lt_of_le->bt,zero_le->cb,le_refl->cH
open Obj renaming cells->eR
open Option renaming some->eC,none->ez
open Value renaming slice->eK,string->eI,pointer->ia
open _root_.Go renaming Value->eM,Addr->ju,Calls->fL,Program->jz,TypeId->gh,TypeInfo->pw,maxLen->fX,Oper->fY,Operand->oR,wpList->nB,wpList_plain->pD
set_option linter.all false
set_option maxRecDepth 100000
set_option maxHeartbeats 2000000
def b8(l:List Int):tLB:=l.map (λx=>UInt8.ofNat x.toNat)
theorem lU(l:List Int):ee (b8 l)=ee l:=by simp[b8]
def jd(s:tBA):tLB:=b8 [(s.size:Int)%256]++BL s
theorem kX(s:tBA):ee (jd s)=s.size+1:=by simp[jd,b8,TV]
def PI.pz(bs:tLN)(x:PI)(lab:tBA):dQ:={x.ins bs with label:=lab}
def rX(bs:tLN)(l:List (PI×tBA)):tLV:=l.flatMap (λx=>(x.1.pz bs x.2).di)
def jG(w:tW)(v:eM)(bs:tLN)(code:List PI):Prop:=∃bP:List tBA,ee bP=ee code/\Sl w 141 8 v (ee code) (rX bs (code.zip bP))
theorem jG.ae{w w':tW}{v:eM}{bs:tLN}{code:List PI}{S:Nat->Prop}(h:jG w v bs code)(m:aa S w w')(hS:∀k,v.ownBlock=eC k->¬S k):jG w' v bs code:=by obtain⟨bP,h1,h2⟩:=h;exact⟨bP,h1,h2.ae m hS⟩
theorem jG.view{w:tW}{v:eM}{bs:tLN}{code:List PI}(h:jG w v bs code):∃o cap,v=eK o (ee code) cap/\True:=by obtain⟨bP,_,h2⟩:=h;obtain⟨o,cap,hv,_⟩:=h2.view;exact⟨o,cap,hv,trivial⟩
theorem Dm{w:tW}{bs:tLN}{l:List PI}{v:eM}{n:Nat}(h:jG w v bs l)(hn:n=ee l){o:Option ju}{c:Nat}(hv:v=eK o n c)(k:Nat)(hk:k<ee l):∃g lab,o=eC ⟨g,0,ez⟩/\g<w.heap.size/\w.cell? ⟨g,k*8,ez⟩=eC (vP (bs[l[k].k]?.getD 0))/\w.cell? ⟨g,k*8+1,ez⟩=eC (vB l[k].d)/\w.cell? ⟨g,k*8+2,ez⟩=eC (vB l[k].s) /\ w.cell? ⟨g,k*8+3,ez⟩=eC (.int .i16 l[k].jump)/\w.cell? ⟨g,k*8+4,ez⟩=eC (vJ l[k].num)/\w.cell? ⟨g,k*8+5,ez⟩=eC (vJ l[k].high)/\w.cell? ⟨g,k*8+6,ez⟩=eC (eI lab)/\w.cell? ⟨g,k*8+7,ez⟩=eC (eI (T l[k].name)):=by
 obtain⟨bP,h1,h0⟩:=h;subst hn;obtain⟨o',c',hv',h2⟩:=h0.view;rw[hv]at hv';cases hv';obtain⟨g,cs,rfl,hb,ht,_⟩:=h2 (by omega);have hz:k<ee (l.zip bP):=by rw[cD,h1];omega
 have hkl:k<ee bP:=by omega
 have e:(l.zip bP)[k]=(l[k],bP[k]):=cy;have hc:∀j,j<8->w.cell? ⟨g,k*8+j,ez⟩=((l[k].pz bs bP[k]).di)[j]?:=λj hj=>by rw[aX hb ht _ (by omega),rX,flat_get (λx:PI×tBA=>(x.1.pz bs x.2).di) 8 (λ_=>rfl) (l.zip bP) k j hz hj,e]
 exact⟨g,bP[k],rfl,hb.lt,hc 0 (by omega),hc 1 (by omega),hc 2 (by omega),hc 3 (by omega),hc 4 (by omega),hc 5 (by omega),hc 6 (by omega),hc 7 (by omega)⟩
theorem JM(w:tW)(tv:eM)(bs:tLN)(hO:aT 0 w tv bs ax)(code:List PI)(hok:∀x∈code,kz x)(hl:ee code<=10000)(vC:eM)(hC:jG w vC bs code)(nm:tBA):fL prog 77 #[.agg #[eI nm,vC]] w λe w'=>e=.returned (vI (aL code))/\aa ah w w':=by
 obtain⟨oC,cC,rfl,_⟩:=hC.view;have HO:=ai hO;have HC:=ai hC;have Eb:=ai hok;have Jz:af (∀k,iJ code k<=20000):=λk=>by have:=BK code Eb.o k;omega
 clear hO hC hok;have hM0:aa ah w (w.alloc (eR #[eI nm,eK oC (ee code) cC] 109)):=aq;have dU:=ai hM0;clear hM0;go_in;go_wp2_with fail;go_loopw [3,9] (λsv i wl=>∃k:Nat,k<=ee code/\i=vI k/\sv=vI (iJ code k)/\aa ah w wl) (λ_ i _=>ee code-(intOf i).toNat)
 case atStart=>exact⟨0,cb _,rfl,rfl,dU.o⟩
 case round =>
  obtain⟨k,hk,rfl,rfl,hM⟩:=hrel;have HM:=ai hM;clear hM dU;by_cases hlt:k<ee code
  ·have PT:=ai (vV code k hlt);obtain⟨g,lab,rfl,hg,q0,q1,q2,q3,q4,q5,q6,q7⟩:=Dm (HC.o.ae HM.o (λ_ _=>id)) rfl rfl k hlt;have hx:=Eb.o code[k] (b9 hlt);have hA:=lT (HO.o.ae HM.o) code[k] hx.k;have hsum:=Jz.o k;have hsl:=hx.slots;clear hx;generalize code[k].o=o at *;generalize code[k].jump=jmp at *;generalize code[k].d=xd at *;generalize code[k].s=xs at *;generalize code[k].num=xn at *;generalize code[k].high=xh at *;generalize code[k].name=xm at *;generalize bs[code[k].k]?.getD 0=b at *;have hA1:=hA.ae (aA.alloc (eR #[vP b,vB xd,vB xs,.int .i16 jmp,vJ xn,vJ xh,eI lab,eI (T xm)] 141));obtain⟨y2,_,_,_⟩:=hA1.cells;clear hA hA1;generalize iJ code k=sk at *;generalize o.slots=os at *;go_wp2_with fail;go_roundw
   case rel=>exact⟨k+1,by omega,by go_num,by rw[PT.o];go_num,HM.o.alloc _⟩
   case measure=>simp[intOf];omega
  ·obtain rfl:k=ee code:=by omega
   have HF:af (iJ code (ee code)=aL code):=by rw[af,iJ,List.take_length];rfl
   rw[HF.o];go_wp2_with fail;go_ret;exact⟨rfl,HM.o⟩
def vY(l:tLB):tLV:=l.map (λb=>vB (b.toNat:Int))
theorem zg(a b:tLB):vY (a++b)=vY a++vY b:=by simp[vY]
theorem Ms:∀(l:List Int),(∀x∈l,0<=x/\x<=255)->vY (b8 l)=l.map (Value.int .u8)
 |[],_=>rfl
 |x::l,h=>by
  have hx:=h x (by simp);have e:((UInt8.ofNat x.toNat).toNat:Int)=x:=by rw[UInt8.toNat_ofNat'];omega
  have:=Ms l (λy hy=>h y (List.mem_cons_of_mem _ hy));simp only[vY,b8,cG,List.map_map]at this ⊢;rw[e];congr 1
def Out(w:tW)(v:eM)(l:tLB):Prop:=Sl w 5 1 v (ee l) (vY l)
def rY(w:tW)(v:eM)(l:tLB)(e:Ending)(w':tW):Prop :=
 ∃v',e=.returned v'/\Out w' v' l/\aa (λk=>v.ownBlock=eC k) w w'/\∀k,v'.ownBlock=eC k->v.ownBlock=eC k\/w.heap.size<=k
theorem Out.ae{w w':tW}{v:eM}{l:tLB}{S:Nat->Prop}(h:Out w v l)(m:aa S w w')(hS:∀k,v.ownBlock=eC k->¬S k):Out w' v l:=Sl.ae h m hS
theorem Out.quiet{w w':tW}{v:eM}{l:tLB}(h:Out w v l)(m:aa ah w w'):Out w' v l:=h.ae m (λ_ _=>id)
theorem ZX:(prog.info? 5).map (λi=>(i.zero,i.size,i.bytes))=eC (eC (vB 0),1,1):=by kernel_rfl
theorem xP(l:List Int):∀u∈l.map (Value.int .u8),u.oneCell'=true:=by intro u hu;obtain⟨x,_,rfl⟩:=List.mem_map.1 hu;rfl
theorem Out.app{w:tW}{v:eM}{l:tLB}{n:Nat}{ns:List Int}(h:∀x∈ns,0<=x/\x<=255)(hn:n=ee l+ee ns)(s:Sl w 5 1 v n (vY l++ns.map (Value.int .u8))):Out w v (l++b8 ns):=by unfold Out;rw[zg,Ms ns h,ab,lU,<-hn];exact s
theorem Ru(s:tBA):Lib.strCells s=vY (BL s):=by simp[Lib.strCells,vY,BL]
theorem Dn{P:jz}(w:tW)(t u ty e:gh)(i:pw)(ht:P.underlying t=eC (.slice e))(hu:P.underlying u=eC .string)(hi:P.info? e=eC i)(hz:i.zero=eC (vB 0))(hsize:i.size=1) (hby:i.bytes=1) (v:eM) (n:Nat) (xs:tLV) (hown:Sl w e 1 v n xs) (s:tBA) (h63:n+s.size<=fX) (hbytes:n+s.size<=140737488355328):∃v' w',(Builtin.append_ #[t,u] ty #[v,eI s]).run P w=.ok v' w'/\Sl w' e 1 v' (n+s.size) (xs++vY (BL s))/\aa (λk=>v.ownBlock=eC k) w w' /\ (∀k,v'.ownBlock=eC k->v.ownBlock=eC k\/w.heap.size<=k):=by
 obtain⟨v',w',hr,h2,h3,_⟩:=cx (P:=P) w 0 t u ty e i ht hu hi hz hsize hby v n xs hown s h63 hbytes (cb _);rw[Ru]at h2;refine⟨v',w',hr,h2,aa.Ii h3,?_⟩;intro k hk;rcases hown.2 with⟨rfl,rfl⟩ |⟨g,cap,cur,rfl,_,hg,hn,hm,hcs,htk⟩
 ·obtain⟨v2,w2,hr2,h22,_⟩:=cx (P:=P) w w.heap.size t u ty e i ht hu hi hz hsize hby _ 0 xs ⟨hown.1,.inl ⟨rfl,rfl⟩⟩ s h63 hbytes (cH _);rw[hr]at hr2;cases hr2;exact .inr (World.ownsRow.lt h22 k hk).1
 ·by_cases hroom:n+s.size<=cap
  ·have hr2:=Lib.run_append_room_string (P:=P) w t u ty e i ht hu hi hsize g n cap cur hg s hroom (by simp at hcs;omega);rw[hr]at hr2;cases hr2;exact .inl hk
  ·have hr2:=Lib.run_append_grow_string (P:=P) w t u ty e i (vB 0) ht hu hi hz ⟨g,0,ez⟩ n cap xs (by rw[hsize];exact hown.1) (World.ownsRow.cells hown (g:=g) rfl) s (by omega) (by unfold fX at h63;omega) (by rw[hby];exact growslice_fits (by omega) (by omega));rw[hr]at hr2;cases hr2;cases hk;exact .inr (cH _)
theorem wU{P:jz}(w:tW){o:fY}{a:Act}{K:Act->tW->Prop}{Q:Exit->Act->tW->Prop}(sl x:oR)(t u:gh)(ho:o.op=.call {callee:=.builtin .append,args:=#[sl,x],argTypes:=#[t,u]})(e:gh) (i:pw) (ht:P.underlying t=eC (.slice e)) (hu:P.underlying u=eC .string) (hi:P.info? e=eC i) (hz:i.zero=eC (vB 0)) (hsize:i.size=1) (hby:i.bytes=1)(v:eM) (n:Nat) (xs:tLV) (hs:a.eval sl=v) (hown:Sl w e 1 v n xs) (s:tBA) (hx:a.eval x=eI s) (h63:n+s.size<=fX) (hbytes:n+s.size<=140737488355328)(h:∀v' w',Sl w' e 1 v' (n+s.size) (xs++vY (BL s))->aa (λk=>v.ownBlock=eC k) w w'->(∀k,v'.ownBlock=eC k->v.ownBlock=eC k\/w.heap.size<=k)->K (a.put o.dst v') w'):o.wp P a w K Q:=by obtain⟨v',w',hr,h2,h3,h4⟩:=Dn (P:=P) w t u o.type e i ht hu hi hz hsize hby v n xs hown s h63 hbytes;unfold Oper.wp execOp;simp only[ho,resolve,invoke,builtin,Sem.run_bind,Sem.run_pure,Result.andThen_ok,cI,cG,List.map_nil,hs,hx,hr];exact h v' w' h2 h3 h4
theorem zh{P:jz}(w:tW){ops:Array fY}{rest:List fY}{o:fY}{a:Act}{Q:Exit->Act->tW->Prop}(hgd:o.guard=ez)(sl x:oR)(t u:gh)(ho:o.op=.call {callee:=.builtin .append,args:=#[sl,x],argTypes:=#[t,u]})(e:gh) (i:pw) (ht:P.underlying t=eC (.slice e)) (hu:P.underlying u=eC .string) (hi:P.info? e=eC i) (hz:i.zero=eC (vB 0)) (hsize:i.size=1) (hby:i.bytes=1)(v:eM) (n:Nat) (xs:tLV) (hs:a.eval sl=v) (hown:Sl w e 1 v n xs) (s:tBA) (hx:a.eval x=eI s) (h63:n+s.size<=fX) (hbytes:n+s.size<=140737488355328)(h:∀v' w',Sl w' e 1 v' (n+s.size) (xs++vY (BL s))->aa (λk=>v.ownBlock=eC k) w w'->(∀k,v'.ownBlock=eC k->v.ownBlock=eC k\/w.heap.size<=k)->nB P ops Q rest (a.put o.dst v') w'):nB P ops Q (o::rest) a w :=
 pD hgd λ_ hK=>wU w sl x t u ho e i ht hu hi hz hsize hby v n xs hs hown s hx h63 hbytes λv' w' h2 h3 h4=>hK _ _ (h v' w' h2 h3 h4)
theorem iD:∃i:pw,prog.info? 5=eC i/\i.zero=eC (vB 0)/\i.size=1/\i.bytes=1:=by obtain⟨i,h,hq⟩:=Option.map_eq_some_iff.1 ZX;exact⟨i,h,congrArg (·.1) hq,congrArg (·.2.1) hq,congrArg (·.2.2) hq⟩
theorem zi{w w':tW}{v:eM}{k:Nat}(h:v.ownBlock=eC k\/w'.heap.size<=k)(m:w.heap.size<=w'.heap.size):v.ownBlock=eC k\/w.heap.size<=k:=by
 rcases h with h|h
 ·exact .inl h
 ·exact .inr (an m h)
theorem qm{w w1:tW}{v v1 v2:eM}(h1:∀k,v1.ownBlock=eC k->v.ownBlock=eC k\/w.heap.size<=k)(h2:∀k,v2.ownBlock=eC k->v1.ownBlock=eC k\/w1.heap.size<=k)(m:w.heap.size<=w1.heap.size):∀k,v2.ownBlock=eC k->v.ownBlock=eC k\/w.heap.size<=k:=by
 intro k hk;rcases h2 k hk with h|h
 ·exact h1 k h
 ·exact .inr (an m h)
theorem Dp{w w1 w2:tW}{v v1:eM}(h1:aa (λk=>v.ownBlock=eC k) w w1)(hv:∀k,v1.ownBlock=eC k->v.ownBlock=eC k\/w.heap.size<=k)(h2:aa (λk=>v1.ownBlock=eC k) w1 w2):aa (λk=>v.ownBlock=eC k) w w2 :=
 ⟨h2.os.trans h1.os,h2.tape.trans h1.tape,h2.output.trans h1.output,an h1.size h2.size,λk hk hS=>(h2.block k (bt hk h1.size) (λe=>by
  rcases hv k e with h|h
  ·exact hS h
  ·omega)).trans (h1.block k hk hS)⟩
theorem Dq(w:tW)(v:eM)(l:tLB)(h:Out w v l)(hl:ee l<=1000000)(n:Int):fL prog 143 #[v,vI n] w λe w'=>rY w v (l++b8 (nZ n)) e w':=by
 obtain⟨iU,GR,GS,GU,GV⟩:=iD;have HO:=ai h;have HB:af (∀x∈nZ n,0<=x/\x<=255):=λx hx=>by simp[nZ]at hx;rcases hx with rfl|rfl<;>omega
 clear h;go_in;go_wp2_with (at_builtin;refine aP _ rfl (.tmp 5) (.tmp 11) 162 rfl 5 iU (vB 0) 1 1 underlying162 GR GS GU GV rfl (by decide) v (ee l) (vY l) rfl (HO.o.quiet aq) ⟨w.heap.size,0,ez⟩ 2 2 ((nZ n).map (Value.int .u8)) rfl rfl (aY _ _ _ _ rfl) (xP _) (by unfold fX;omega) (by omega) ?_;intro v2 w2 s2 m2 l2);go_ret;exact⟨_,rfl,Out.app HB.o rfl s2,aq.trans m2,λk hk=>zi (l2 k hk) ((aa.refl ah w).alloc _).size⟩
theorem JN(w:tW)(v:eM)(l:tLB)(h:Out w v l)(hl:ee l<=1000000)(n:Int)(_hn:-2147483648<=n/\n<=2147483647):fL prog 267 #[v,vJ n] w λe w'=>rY w v (l++b8 (qh n)) e w':=by
 obtain⟨iU,GR,GS,GU,GV⟩:=iD;have HO:=ai h;have HB:af (∀x∈qh n,0<=x/\x<=255):=λx hx=>by simp[qh]at hx;rcases hx with rfl|rfl|rfl|rfl<;>omega
 clear h;go_in;go_wp2_with (at_builtin;refine aP _ rfl (.tmp 5) (.tmp 17) 162 rfl 5 iU (vB 0) 1 1 underlying162 GR GS GU GV rfl (by decide) v (ee l) (vY l) rfl (HO.o.quiet aq) ⟨w.heap.size,0,ez⟩ 4 4 ((qh n).map (Value.int .u8)) rfl rfl (aY _ _ _ _ rfl) (xP _) (by unfold fX;omega) (by omega) ?_;intro v2 w2 s2 m2 l2);go_ret;exact⟨_,rfl,Out.app HB.o rfl s2,aq.trans m2,λk hk=>zi (l2 k hk) ((aa.refl ah w).alloc _).size⟩
theorem Ak(w:tW)(v:eM)(l:tLB)(h:Out w v l)(hl:ee l<=1000000)(s:tBA)(hs:s.size<=255):fL prog 144 #[v,eI s] w λe w'=>rY w v (l++jd s) e w':=by
 obtain⟨iU,GR,GS,GU,GV⟩:=iD;have HO:=ai h;have HB:af (∀x∈[(s.size:Int)],0<=x/\x<=255):=λx hx=>by simp at hx;subst hx;omega
 have HN:af (l++jd s=l++b8 [(s.size:Int)]++BL s):=by rw[af,jd,Int.emod_eq_of_lt (by omega) (by omega),ao]
 clear h;go_in
 go_wp2_with (first
  |(at_builtin;refine aP _ rfl (.tmp 5) (.tmp 9) 162 rfl 5 iU (vB 0) 1 1 underlying162 GR GS GU GV rfl (by decide) v (ee l) (vY l) rfl (HO.o.quiet aq) ⟨w.heap.size,0,ez⟩ 1 1 ([(s.size:Int)].map (Value.int .u8)) rfl rfl (aY _ _ _ _ rfl) (xP _) (by unfold fX;omega) (by omega) ?_;intro v2 w2 s2 m2 l2;have S2:=ai s2;have L2:=ai (λk hk=>zi (l2 k hk) ((aa.refl ah w).alloc _).size);have M2:=ai (aq.trans m2);clear s2 l2 m2)
  |(at_builtin;refine zh _ rfl (.tmp 10) (.tmp 11) 162 9 rfl 5 iU underlying162 underlying9 GR GS GU GV v2 (ee l+1) (vY l++[(s.size:Int)].map (Value.int .u8)) rfl S2.o s rfl (by unfold fX;omega) (by omega) ?_;intro v3 w3 s3 m3 l3))
 go_ret;refine⟨_,rfl,?_,Dp M2.o L2.o m3,qm L2.o l3 M2.o.size⟩;have h1:vY (l++b8 [(s.size:Int)]++BL s)=vY l++[(s.size:Int)].map (Value.int .u8)++vY (BL s):=by rw[zg,zg,Ms _ HB.o]
 have h2:ee (l++b8 [(s.size:Int)]++BL s)=ee l+1+s.size:=by simp only[ab,lU,TV,bh,b5]
 rw[HN.o,Out,h1,h2];exact s3
def zj(code:Nat)(d s:Nat)(j n h:Int)(slots:Nat):tLB :=
 b8 [(code:Int),(d:Int)+16*s,j%256,j/256%256]++b8 (qh n)++(if slots=1 then []else [0,0,0,0]++b8 (qh h))
theorem V7(x:Int):IntKind.u8.wrap x=x%256:=by simp[IntKind.wrap,IntKind.bits,IntKind.signed]
theorem abG:∀d,d<16->∀s,s<16->bits BinOp.or IntKind.u8 ((d:Nat):Int) ((s:Nat)*16:Int)=d+16*s:=by decide +kernel
theorem Mt(w:tW)(v:eM)(l:tLB)(h:Out w v l)(hl:ee l<=900000)(b:Nat)(cs:tAV)(code slots:Nat)(hb:ak w b cs 158)(h0:cs[0]?=eC (vB code))(h2:cs[2]?=eC (vI slots))(d s:Nat) (j n hh:Int) (lab nm:tBA) (hc:code<=255) (hd:d<=15) (hs:s<=15) (_hj:-32768<=j/\j<=32767) (hn:-2147483648<=n/\n<=2147483647) (hhh:-2147483648<=hh/\hh<=2147483647) (hsl:slots<=2):fL prog 145 #[.agg #[vP b,vB d,vB s,.int .i16 j,vJ n,vJ hh,eI lab,eI nm],v] w λe w'=>rY w v (l++zj code d s j n hh slots) e w':=by
 obtain⟨iU,GR,GS,GU,GV⟩:=iD;have c0:w.cell? ⟨b,0,ez⟩=eC (vB code):=by rw[hb.cell 0];exact h0
 have c2:w.cell? ⟨b,2,ez⟩=eC (vI slots):=by rw[hb.cell 2];exact h2
 have hbl:=hb.lt;have HO:=ai h;have TC:=ai hb;clear h hb;go_in;go_upto_region 1 with fail;have hor:=abG d (by omega) s (by omega);have hw1:IntKind.u8.wrap ((s:Int)*16)=(s:Int)*16:=by rw[V7];omega
 have hw2:=V7 j;have hw3:=V7 (j/256);have hbx:=ak.new w #[vP b,vB d,vB s,.int .i16 j,vJ n,vJ hh,eI lab,eI nm] 141;have HO1:af (Out (w.alloc (eR #[vP b,vB d,vB s,.int .i16 j,vJ n,vJ hh,eI lab,eI nm] 141)) v l):=HO.o.quiet aq;have HB1:af (ak (w.alloc (eR #[vP b,vB d,vB s,.int .i16 j,vJ n,vJ hh,eI lab,eI nm] 141)) b cs 158):=TC.o.alloc _;have dB:af (aa ah w (w.alloc (eR #[vP b,vB d,vB s,.int .i16 j,vJ n,vJ hh,eI lab,eI nm] 141))):=aq;have JO:=ai hbx;generalize w.alloc (eR #[vP b,vB d,vB s,.int .i16 j,vJ n,vJ hh,eI lab,eI nm] 141)=W at *;clear c0 c2;have hnx:¬(v.ownBlock=eC w.heap.size):=HO1.o.ay JO.o (by decide);have hnb:¬(v.ownBlock=eC b):=HO1.o.ay HB1.o (by decide);obtain⟨x0,x1,x2,x3,x4,x5,x6,x7⟩:=Ext.aO (S:=λk=>v.ownBlock=eC k) JO.o hnx;have c0:∀g:Ext (λk=>v.ownBlock=eC k) W,g.w.cell? ⟨b,0,ez⟩=eC (vB code):=λg=>by rw[(HB1.o.ae g.m hnb).cell 0];exact h0
 have ne1:=Ext.ne (λk=>v.ownBlock=eC k) W;clear hbx;refine bR [19,20] (λw'=>∃e:Ext (λk=>v.ownBlock=eC k) W,w'=e.w) (by kernel_rfl) (by kernel_rfl) (by kernel_rfl) ⟨⟨_,aU⟩,rfl⟩ ?_
 iterate 3 (refine aG rfl rfl rfl ?_;intro K hK;go_big_quiet_op;go_big_quiet_on)
 refine eF rfl rfl _ ⟨b,0,ez⟩ rfl rfl ?_;simp only[Act.put,sA9,sB9,sC9]
 iterate 15 (refine aG rfl rfl rfl ?_;intro K hK;go_big_quiet_op;go_big_quiet_on)
 refine aN rfl rfl ?_;intro K hK;go_big_op;refine hK _ _ rfl ⟨⟨_,aU.alloc _⟩,rfl⟩ ?_;clear hK K;refine aN rfl rfl ?_;intro K hK;refine eG _ (.tmp 5) (.tmp 24) 162 rfl 5 iU (vB 0) 1 1 underlying162 GR GS GU GV rfl (by decide) v (ee l) (vY l) rfl (HO1.o.quiet (aq.drew)) ⟨W.heap.size,0,ez⟩ 4 4 ([(code:Int),(d:Int)+16*s,j%256,j/256%256].map (Value.int .u8)) rfl rfl (λk u hu=>aY W _ _ _ rfl k u hu) (xP _) (by unfold fX;omega) (by omega) ?_;intro v2 w2 s2 m2 l2;have M2:=ai ((aq.drew).trans m2);have L2:=ai (λk hk=>zi (l2 k hk) (((aa.refl ah W).alloc _).drew).size);have S2:=ai (Out.app (λx hx=>by simp at hx;rcases hx with rfl|rfl|rfl|rfl<;>omega) rfl s2);refine hK _ _ rfl ⟨⟨_,M2.o⟩,rfl⟩ ?_;clear hK K s2 m2 l2;simp only[Act.put,sA9,sB9,sC9]
 iterate 1 (refine aG rfl rfl rfl ?_;intro K hK;go_big_quiet_op;go_big_quiet_on)
 refine dR ?_;simp only[Exit.then];have HB2:=ai (HB1.o.ae M2.o hnb);have X9:=ai (JO.o.ae M2.o hnx);clear x0 x1 x2 x3 x4 x5 x6 x7 c0 ne1;obtain⟨x0,x1,x2,x3,x4,x5,x6,x7⟩:=X9.o.aO;have hl2:ee (l++b8 [(code:Int),(d:Int)+16*s,j%256,j/256%256])=ee l+4:=by rw[ab,lU];rfl
 have HL2:=ai hl2;clear hl2;have Eg:=ai (JN w2 v2 _ S2.o (by rw[HL2.o];omega) n hn);go_wp2_with fail;refine Eg.o.mono ?_;rintro e w3 ⟨v3,rfl,s3,m3,l3⟩
 have M3:af (aa (λk=>v.ownBlock=eC k) W w3):=⟨m3.os.trans M2.o.os,m3.tape.trans M2.o.tape,m3.output.trans M2.o.output,an M2.o.size m3.size,λk hk hS=>(m3.block k (bt hk M2.o.size) (λe=>by
  rcases L2.o k e with h|h
  ·exact hS h
  ·omega)).trans (M2.o.block k hk hS)⟩
 have L3:=ai (qm L2.o l3 M2.o.size);have S3:=ai s3;have HB3:=ai (HB1.o.ae M3.o hnb);have HX3:=ai (JO.o.ae M3.o hnx);have Vy:af (ee (l++b8 [(code:Int),(d:Int)+16*s,j%256,j/256%256]++b8 (qh n))=ee l+8):=by rw[af,ab,HL2.o,lU];rfl
 clear m3 l3 s3 x0 x1 x2 x3 x4 x5 x6 x7;obtain⟨x0,x1,x2,x3,x4,x5,x6,x7⟩:=HX3.o.aO;have c2:w3.cell? ⟨b,2,ez⟩=eC (vI slots):=by rw[HB3.o.cell 2];exact h2
 have hWs:=dB.o.size
 have HML:af (∀(w':tW) (v':eM),aa (λk=>v.ownBlock=eC k) W w'->(∀k,v'.ownBlock=eC k->v.ownBlock=eC k\/W.heap.size<=k)->aa (λk=>v.ownBlock=eC k) w w'/\∀k,v'.ownBlock=eC k->v.ownBlock=eC k\/w.heap.size<=k) :=
  λw' v' m l=>⟨(dB.o.mono (λ_ _ e=>e.elim)).trans m,λk hk=>zi (l k hk) hWs⟩
 by_cases h1:slots=1
 ·subst h1;go_wp2_with fail;go_ret;refine⟨v3,rfl,?_,HML.o _ _ M3.o L3.o⟩;have:l++zj code d s j n hh 1=l++b8 [(code:Int),(d:Int)+16*s,j%256,j/256%256]++b8 (qh n):=by simp[zj]
  rw[this];exact S3.o
 ·have hd1:decide ((slots:Int)=1)=false:=by simp;omega
  have hd2:((slots:Int)==1)=false:=by simp;omega
  go_wp2_with fail;clear x0 x1 x2 x3 x4 x5 x6 x7 c2;obtain⟨x0,x1,x2,x3,x4,x5,x6,x7⟩:=Ext.aO (S:=λk=>v.ownBlock=eC k) JO.o hnx;have ne1:=Ext.ne (λk=>v.ownBlock=eC k) W;refine bR [1,4] (λw'=>∃e:Ext (λk=>v.ownBlock=eC k) W,w'=e.w) (by kernel_rfl) (by kernel_rfl) (by kernel_rfl) ⟨⟨_,M3.o.drew⟩,rfl⟩ ?_
  iterate 1 (refine aG rfl rfl rfl ?_;intro K hK;go_big_quiet_op;go_big_quiet_on)
  refine aN rfl rfl ?_;intro K hK;refine wU _ (.tmp 37) _ 162 9 rfl 5 iU underlying162 underlying9 GR GS GU GV v3 _ _ rfl (S3.o.quiet aU) (T [0,0,0,0]) rfl (by rw[Vy.o];simp only[bS,bh,b5];unfold fX;omega) (by rw[Vy.o];simp only[bS,bh,b5];omega) ?_;intro v4 w4 s4 m4 l4
  have M4:af (aa (λk=>v.ownBlock=eC k) W w4):=⟨m4.os.trans M3.o.os,m4.tape.trans M3.o.tape,m4.output.trans M3.o.output,an M3.o.size m4.size,λk hk hS=>(m4.block k (bt hk M3.o.size) (λe=>by
   rcases L3.o k e with h|h
   ·exact hS h
   ·omega)).trans (M3.o.block k hk hS)⟩
  have L4:=ai (qm (w1:=w3.drew) L3.o l4 M3.o.size);have S4:af (Out w4 v4 (l++b8 [(code:Int),(d:Int)+16*s,j%256,j/256%256]++b8 (qh n)++[0,0,0,0])):=by rw[af,Out,zg,ab];exact s4
  have NV:af (ee (l++b8 [(code:Int),(d:Int)+16*s,j%256,j/256%256]++b8 (qh n)++[0,0,0,0])=ee l+12):=by rw[af,ab,Vy.o];rfl
  refine hK _ _ rfl ⟨⟨_,M4.o⟩,rfl⟩ ?_;clear hK K s4 m4 l4;simp only[Act.put,sA9,sB9,sC9]
  iterate 2 (refine aG rfl rfl rfl ?_;intro K hK;go_big_quiet_op;go_big_quiet_on)
  refine aN rfl rfl ?_;intro K hK;go_big_op;refine(JN w4 v4 _ S4.o (by rw[NV.o];omega) hh hhh).mono ?_;rintro e w5 ⟨v5,rfl,s5,m5,l5⟩
  have M5:af (aa (λk=>v.ownBlock=eC k) W w5):=⟨m5.os.trans M4.o.os,m5.tape.trans M4.o.tape,m5.output.trans M4.o.output,an M4.o.size m5.size,λk hk hS=>(m5.block k (bt hk M4.o.size) (λe=>by
   rcases L4.o k e with h|h
   ·exact hS h
   ·omega)).trans (M4.o.block k hk hS)⟩
  have L5:=ai (qm L4.o l5 M4.o.size);have S5:=ai s5;refine hK _ _ rfl ⟨⟨_,M5.o⟩,rfl⟩ ?_;clear hK K s5 m5 l5
  iterate 1 (refine aG rfl rfl rfl ?_;intro K hK;go_big_quiet_op;go_big_quiet_on)
  refine dR ?_
  try simp only[Exit.then]
  go_wp2_with fail;go_ret;refine⟨v5,rfl,?_,HML.o _ _ M5.o L5.o⟩;have:l++zj code d s j n hh slots=l++b8 [(code:Int),(d:Int)+16*s,j%256,j/256%256]++b8 (qh n)++[0,0,0,0]++b8 (qh hh):=by simp[zj,h1]
  rw[this];exact S5.o
def wV(m:aW):tLB:=jd (T m.name)++b8 [(m.key:Int),(m.value:Int),(m.entries:Int)]
def pF(f:cZ):tLB:=jd (T f.name)++b8 (nZ (aL f.code))
def Al(x:PI):tLB:=zj x.o.code x.d x.s x.jump x.num x.high x.o.slots
def rZ(f:cZ):tLB:=f.code.flatMap Al
def qo(kind:Nat)(ms:List aW)(fs:List cZ):tLB :=
 [83,80,79,76]++b8 [(kind:Int),(ee ms:Int)]++ms.flatMap wV++b8 [(ee fs:Int)]++fs.flatMap pF++fs.flatMap rZ
structure EI(w:tW)(v:eM)(l:tLB)(w':tW):Prop where
 gm:Out w' v l
 md:aa ah w w'
 own:∀k,v.ownBlock=eC k->w.heap.size<=k
theorem EI.step{w w1 w2:tW}{v v':eM}{l l':tLB}(h:EI w v l w1)(o:Out w2 v' l')(m:aa (λk=>v.ownBlock=eC k) w1 w2)(hv:∀k,v'.ownBlock=eC k->v.ownBlock=eC k\/w1.heap.size<=k):EI w v' l' w2 :=
 ⟨o,h.md.step m (λi hi e=>by have:=h.own i e;omega),λk hk=>by
  rcases hv k hk with e|e
  ·exact h.own k e
  ·have:=h.md.size;omega⟩
theorem EI.quiet{w w1 w2:tW}{v:eM}{l:tLB}(h:EI w v l w1)(m:aa ah w1 w2):EI w v l w2 :=
 ⟨h.gm.quiet m,h.md.trans m,h.own⟩
structure ZY(w:tW)(tv:eM)(bs:tLN)(vM vF:eM)(ms:List aW)(fs:List cZ)(vs:tLV):Prop where
 maps:Sl w 113 4 vM (ee ms) (ms.flatMap aW.cells)
 len:ee vs=ee fs
 rows:Sl w 109 2 vF (ee fs) (((fs.map (·.name)).zip vs).flatMap wR)
 code:∀i (_:i<ee fs) (_:i<ee vs),Sl w 141 8 vs[i] (ee fs[i].code) (kI bs fs[i].code)
 ops:aT 0 w tv bs ax
theorem ZY.quiet{w w':tW}{tv:eM}{bs:tLN}{vM vF:eM}{ms:List aW}{fs:List cZ}{vs:tLV}(h:ZY w tv bs vM vF ms fs vs)(m:aa ah w w'):ZY w' tv bs vM vF ms fs vs :=
 ⟨h.maps.ae m (λ_ _=>id),h.len,h.rows.ae m (λ_ _=>id),λi a b=>(h.code i a b).ae m (λ_ _=>id),h.ops.ae m⟩
theorem ZY.XR{w:tW}{tv:eM}{bs:tLN}{oF:Option ju}{cF:Nat}{vM:eM}{ms:List aW}{fs:List cZ}{vs:tLV}(h:ZY w tv bs vM (eK oF (ee fs) cF) ms fs vs)(k:Nat)(hk:k<ee fs)(hv':k<ee vs):∃g,oF=eC ⟨g,0,ez⟩/\w.cell? ⟨g,k*2,ez⟩=eC (eI (T fs[k].name))/\w.cell? ⟨g,k*2+1,ez⟩=eC vs[k]:=by
 obtain⟨o',cap',hv,h2⟩:=h.rows.view;cases hv;obtain⟨g,cs,rfl,hb,ht,_⟩:=h2 (by omega);have hz:k<ee ((fs.map (·.name)).zip vs):=by simp only[cD,List.length_map];omega
 have key:∀c,c<2->w.cell? ⟨g,k*2+c,ez⟩=(wR (fs[k].name,vs[k]))[c]?:=λc hc=>by rw[aX hb ht (k*2+c) (by omega)];have:=flat_get wR 2 (λ_=>rfl) ((fs.map (·.name)).zip vs) k c hz hc;rw[this,cy,cN]
 exact⟨g,rfl,key 0 (by omega),key 1 (by omega)⟩
theorem Rv(code d s:Nat)(j n h:Int)(slots:Nat):ee (zj code d s j n h slots)<=16:=by unfold zj;split<;>simp[b8,qh]
theorem xQ{P:jz}(w:tW){ops:Array fY}{rest:List fY}{o:fY}{a:Act}{Q:Exit->Act->tW->Prop}(hgd:o.guard=ez)(s x:oR)(t:gh)(ho:o.op=.call {callee:=.builtin .append,args:=#[s,x],argTypes:=#[t,t]})(e:gh) (i:pw) (z:eM) (size bytes:Nat) (ht:P.underlying t=eC (.slice e)) (hi:P.info? e=eC i) (hz:i.zero=eC z)(hsize:i.size=size) (hby:i.bytes=bytes) (hzs:z.cells.size=size) (hsz:0<size)(b:ju) (n cap:Nat) (olds:tLV) (hs:a.eval s=eK (eC b) n cap) (hlo:ee olds=n*size) (holds:∀j u,olds[j]?=eC u->w.cell? (b.add j)=eC u)(ad:ju) (m c:Nat) (news:tLV) (hx:a.eval x=eK (eC ad) m c) (hl:ee news=m*size) (hnews:∀j u,news[j]?=eC u->w.cell? (ad.add j)=eC u)(hg:cap<n+m) (h63:n+m<=fX) (hbytes:(n+m)*bytes<=140737488355328)(h:∀v' w',Sl w' e size v' (n+m) (olds++news)->aa ah w w'->(∀k,v'.ownBlock=eC k->w.heap.size<=k)->nB P ops Q rest (a.put o.dst v') w'):nB P ops Q (o::rest) a w:=by
 refine pD hgd λ_ hK=>?_;obtain⟨v',w',hr,h2,h3⟩:=run_append_arg_grows (P:=P) w t o.type e i z size bytes ht hi hz hsize hby hzs hsz b n cap olds hlo holds ad m c news hl hnews hg h63 hbytes;unfold Oper.wp execOp;simp only[ho,resolve,invoke,builtin,Sem.run_bind,Sem.run_pure,Result.andThen_ok,cI,cG,List.map_nil,hs,hx,hr];refine hK _ _ (h v' w' ⟨h2.1,?_⟩ ⟨h3.os,h3.tape,h3.output,h3.size,λk hk _=>h3.block k hk (by simp)⟩ (λk hk=>(World.ownsRow.lt h2 k hk).1));rcases h2.2 with h |⟨g,cp,cur,h4,_,h5⟩
 ·exact .inl h
 ·exact .inr ⟨g,cp,cur,h4,cb _,h5⟩
theorem V8(w:tW)(o o2:Obj)(C:tAV)(e:gh)(m:Nat×Nat)(j:Nat):(((w.alloc o).alloc (eR C e m)).alloc o2).cell? ⟨w.heap.size+1,j,ez⟩=C[j]?:=by
 have h:(((w.alloc o).alloc (eR C e m)).alloc o2).heap[w.heap.size+1]?=eC (eR C e m):=by
  show(((w.heap.push o).push (eR C e m)).push o2)[w.heap.size+1]?=_
  rw[Array.getElem?_push,iN9 (by simp),Array.getElem?_push,iP9 (by simp)]
 unfold World.cell?;simp only[h];rfl
structure abH(w W:tW)(B:Nat)(cs:tAV)(t:gh)(a b:Nat)(u:eM)(l:tLB)(L:Nat->Bool)(w':tW):Prop where
 md:aa ah w w'
 bx:ak w' B cs t
 sz:W.heap.size<=w'.heap.size
 ei:L a=false->L b=false->EI w u l w'
structure GW(w:tW)(B:Nat)(cs:tAV)(t:gh)(a b:Nat)(u:eM)(i:Nat)(w1 w2:tW):Prop where
 q:i≠a->i≠b->aa ah w1 w2
 na:i=a->aa (λk=>u.ownBlock=eC k) w1 w2
 nb:i=b->aa ah w w2/\ak w2 B cs t/\w1.heap.size<=w2.heap.size
theorem GW.quiet{w w1 w2:tW}{B:Nat}{cs:tAV}{t:gh}{a b i:Nat}{u:eM}(m:aa ah w1 w2)(ha:i≠a)(hb:i≠b):GW w B cs t a b u i w1 w2 :=
 ⟨λ_ _=>m,λe=>absurd e ha,λe=>absurd e hb⟩
theorem GW.keep{w W:tW}{B:Nat}{cs:tAV}{t:gh}{a b:Nat}{u:eM}{l:tLB}{md:Region.Mode}{ops:Array fY}(hu:∀k,u.ownBlock=eC k->w.heap.size<=k)(hB:u.ownBlock≠eC B)(hab:a≠b):∀(i:Nat) (L:Nat->Bool) w1 w2,rJ md ops i L->abH w W B cs t a b u l L w1->GW w B cs t a b u i w1 w2->abH w W B cs t a b u l (jF L i) w2:=by
 intro i L w1 w2 _ c n;by_cases ea:i=a
 ·have m:=n.na ea;subst ea;exact⟨c.md.step m (λk hk e=>by have:=hu k e;omega),c.bx.ae m hB,an c.sz m.size,λh=>by simp[jF]at h⟩
 ·by_cases eb:i=b
  ·obtain⟨m,bx,sz⟩:=n.nb eb;subst eb;exact⟨m,bx,an c.sz sz,λ_ h=>by simp[jF]at h⟩
  ·have m:=n.q ea eb;refine⟨c.md.trans m,c.bx.ae m id,an c.sz m.size,λh1 h2=>(c.ei ?_ ?_).quiet m⟩
   ·simpa [jF,Ne.symm ea]using h1
   ·simpa [jF,Ne.symm eb]using h2
def ZZ(w:tW)(b:Nat)(l:tLB)(L:Nat->Bool)(v:eM)(w':tW):Prop:=L b=false->EI w v l w'
def Z0(W:tW)(b n:Nat)(cs:tAV)(L:Nat->Bool)(v:eM)(w':tW):Prop:=L b=false->∃g,v=eK (eC ⟨g,0,ez⟩) n n/\W.heap.size<=g/\ak w' g cs 5
def V9(w:tW)(l:tLB)(_:Nat->Bool)(v:eM)(w':tW):Prop:=EI w v l w'
section
variable {w W : World} {B : Nat} {cs : Array Value} {t : gh} {a b : Nat} {u : eM} {l : List UInt8} {md : Region.Mode} {ops : Array fY}
theorem Z4(hab:a≠b):∀(i:Nat) (L:Nat->Bool) v w1 w2,rJ md ops i L->L a=true->GW w B cs t a b u i w1 w2->ZZ w b l L v w1->ZZ w b l (jF L i) v w2:=by
 intro i L v w1 w2 hn ha n h hb;have eb:i≠b:=λe=>by subst e;simp[jF]at hb
 have ea:i≠a:=λe=>by subst e;rw[hn.1]at ha;cases ha
 have hb':L b=false:=by simpa [jF,Ne.symm eb]using hb
 exact(h hb').quiet (n.q ea eb)
theorem Z5{c n:Nat}{ds:tAV}(hu:∀k,u.ownBlock=eC k->k<W.heap.size):∀(i:Nat) (L:Nat->Bool) v w1 w2,rJ md ops i L->L c=true->GW w B cs t a b u i w1 w2->Z0 W b n ds L v w1->Z0 W b n ds (jF L i) v w2:=by
 intro i L v w1 w2 _ _ hn h hb;have eb:i≠b:=λe=>by subst e;simp[jF]at hb
 have hb':L b=false:=by simpa [jF,Ne.symm eb]using hb
 obtain⟨g,h1,h2,h3⟩:=h hb';by_cases ea:i=a
 ·exact⟨g,h1,h2,h3.ae (hn.na ea) (λe=>by have:=hu g e;omega)⟩
 ·exact⟨g,h1,h2,h3.ae (hn.q ea eb) id⟩
theorem Oj{c:Nat}(h1:∃o,ops[c]?=eC o/\(fw md o).contains a=true/\(c=b\/(fw md o).contains b=true)):∀(i:Nat) (L:Nat->Bool) v w1 w2,rJ md ops i L->L c=true->GW w B cs t a b u i w1 w2->V9 w l L v w1->V9 w l (jF L i) v w2:=by
 intro i L v w1 w2 hn hc n h;obtain⟨o,ho,da,db⟩:=h1;have ea:i≠a:=λe=>by subst e;have:=hn.2 c o ho da;rw[hc]at this;cases this
 have eb:i≠b:=λe=>by
  subst e;rcases db with e|e
  ·subst e;have:=hn.1;rw[hc]at this;cases this
  ·have:=hn.2 c o ho e;rw[hc]at this;cases this
 exact EI.quiet h (n.q ea eb)
end
theorem Z6:∀k,k<88->(ax[k]?.getD kg).code<=255:=by decide +kernel
structure EOk(ms:List aW)(fs:List cZ):Prop where
 m:ee ms<=255
 f:ee fs<=100
 mn:∀m∈ms,ee m.name<=255/\m.key<=255/\m.value<=255/\m.entries<=255
 fn:∀f∈fs,ee f.name<=255/\f.code.length<=200/\∀x∈f.code,kz x
structure tu(w:tW)(tv:eM)(bs:tLN)(vM vF:eM)(ms:List aW)(fs:List cZ)(vs:tLV):Prop where
 maps:Sl w 113 4 vM (ee ms) (ms.flatMap aW.cells)
 len:ee vs=ee fs
 rows:Sl w 109 2 vF (ee fs) (((fs.map (·.name)).zip vs).flatMap wR)
 code:∀i (_:i<ee fs) (_:i<ee vs),jG w vs[i] bs fs[i].code
 ops:aT 0 w tv bs ax
theorem tu.quiet{w w':tW}{tv:eM}{bs:tLN}{vM vF:eM}{ms:List aW}{fs:List cZ}{vs:tLV}(h:tu w tv bs vM vF ms fs vs)(m:aa ah w w'):tu w' tv bs vM vF ms fs vs :=
 ⟨h.maps.ae m (λ_ _=>id),h.len,h.rows.ae m (λ_ _=>id),λi a b=>(h.code i a b).ae m (λ_ _=>id),h.ops.ae m⟩
theorem tu.atM{w:tW}{tv:eM}{bs:tLN}{oM:Option ju}{cM:Nat}{vF:eM}{ms:List aW}{fs:List cZ}{vs:tLV}(h:tu w tv bs (eK oM (ee ms) cM) vF ms fs vs)(k:Nat)(hk:k<ee ms):∃g,oM=eC ⟨g,0,ez⟩/\w.cell? ⟨g,k*4,ez⟩=eC (eI (T ms[k].name))/\w.cell? ⟨g,k*4+1,ez⟩=eC (vB ms[k].key)/\w.cell? ⟨g,k*4+2,ez⟩=eC (vB ms[k].value)/\w.cell? ⟨g,k*4+3,ez⟩=eC (vB ms[k].entries):=by
 obtain⟨o',cap',hv,h2⟩:=h.maps.view;cases hv;obtain⟨g,cs,rfl,hb,ht,_⟩:=h2 (by omega);have key:∀c,c<4->w.cell? ⟨g,k*4+c,ez⟩=(aW.cells ms[k])[c]?:=λc hc=>by rw[aX hb ht (k*4+c) (by omega)];exact flat_get aW.cells 4 (λ_=>rfl) ms k c hk hc
 exact⟨g,rfl,key 0 (by omega),key 1 (by omega),key 2 (by omega),key 3 (by omega)⟩
theorem tu.XR{w:tW}{tv:eM}{bs:tLN}{oF:Option ju}{cF:Nat}{vM:eM}{ms:List aW}{fs:List cZ}{vs:tLV}(h:tu w tv bs vM (eK oF (ee fs) cF) ms fs vs)(k:Nat)(hk:k<ee fs)(hv':k<ee vs):∃g,oF=eC ⟨g,0,ez⟩/\w.cell? ⟨g,k*2,ez⟩=eC (eI (T fs[k].name))/\w.cell? ⟨g,k*2+1,ez⟩=eC vs[k]:=by
 obtain⟨o',cap',hv,h2⟩:=h.rows.view;cases hv;obtain⟨g,cs,rfl,hb,ht,_⟩:=h2 (by omega);have hz:k<ee ((fs.map (·.name)).zip vs):=by simp only[cD,List.length_map];omega
 have key:∀c,c<2->w.cell? ⟨g,k*2+c,ez⟩=(wR (fs[k].name,vs[k]))[c]?:=λc hc=>by rw[aX hb ht (k*2+c) (by omega)];have:=flat_get wR 2 (λ_=>rfl) ((fs.map (·.name)).zip vs) k c hz hc;rw[this,cy,cN]
 exact⟨g,rfl,key 0 (by omega),key 1 (by omega)⟩
theorem JP(kind:Nat)(hk:kind<=255)(w:tW)(tv:eM)(bs:tLN)(vM vF:eM)(ms:List aW)(fs:List cZ)(vs:tLV)(hP:tu w tv bs vM vF ms fs vs)(hE:EOk ms fs):fL prog 61 #[vB kind,.agg #[vM,vF]] w λe w'=>∃v,e=.returned v/\EI w v (qo kind ms fs) w':=by
 obtain⟨iU,GR,GS,GU,GV⟩:=iD;obtain⟨oM,cM,Ol,_⟩:=hP.maps.view;obtain⟨oF,cF,qi,_⟩:=hP.rows.view;subst Ol qi;have F5:=hE.m;have hfl:=hE.f;have HP:=ai hP;have HE:=ai hE;clear hP hE;have kc:=Lib.run_convert_bytes_const (P:=prog) (w.alloc (eR #[eK oM (ee ms) cM,eK oF (ee fs) cF] 99)) 162 5 #[vB 83,vB 80,vB 79,vB 76] 4 4 underlying162 underlying5;rw[show(w.alloc (eR #[eK oM (ee ms) cM,eK oF (ee fs) cF] 99)).heap.size=w.heap.size+1 by simp]at kc;go_in
 have HOL:af (∀(o2:Obj) (j:Nat) (u:eM),([vB 83,vB 80,vB 79,vB 76]:tLV)[j]?=eC u->(((w.alloc (eR #[eK oM (ee ms) cM,eK oF (ee fs) cF] 99)).alloc (eR #[vB 83,vB 80,vB 79,vB 76] 5 (4,5))).alloc o2).cell? ((⟨w.heap.size+1,0,ez⟩:ju).add j)=eC u):=by
  intro o2 j u hu;have hadd:(⟨w.heap.size+1,0,ez⟩:ju).add j=⟨w.heap.size+1,j,ez⟩:=by unfold Addr.add;split<;>simp_all
  rw[hadd,V8]
  simpa using hu
 go_wp2_with (at_builtin;refine xQ _ rfl (.tmp 15) (.tmp 21) 162 rfl 5 iU (vB 0) 1 1 underlying162 GR GS GU GV rfl (by decide) ⟨w.heap.size+1,0,ez⟩ 4 4 [vB 83,vB 80,vB 79,vB 76] rfl rfl (HOL.o _) ⟨w.heap.size+1+1,0,ez⟩ 2 2 ([(kind:Int),(ee ms:Int)].map (Value.int .u8)) rfl rfl (aY _ _ _ _ (by simp)) (by decide) (by decide) (by decide) ?_;intro v2 w2 s2 m2 l2;have B2:=ai (ak.ae (((ak.new w _ _).alloc _).alloc _) m2 id);have q0:=B2.gm.c0);obtain⟨wB,hwB⟩:∃wB,wB=w.alloc (eR #[eK oM (ee ms) cM,eK oF (ee fs) cF] 99):=⟨_,rfl⟩
 have GQ:af (aa ah w wB):=by rw[hwB];exact aq
 have KP:af (ak wB w.heap.size #[eK oM (ee ms) cM,eK oF (ee fs) cF] 99):=by rw[hwB];exact ak.new _ _ _
 have Z7:=ai (HP.o.quiet GQ.o);have HI0:af (EI wB v2 ([83,80,79,76]++b8 [(kind:Int),(ee ms:Int)]) w2):=by rw[<-hwB]at m2 l2;have M0:aa ah wB ((wB.alloc (eR #[vB 83,vB 80,vB 79,vB 76] 5 (4,5))).alloc (eR #[vB kind,vB (ee ms)] 5)):=aq.alloc _;refine⟨?_,M0.trans m2,λk hk=>an M0.size (l2 k hk)⟩;exact Out.app (l:=[83,80,79,76]) (λx hx=>by simp at hx;rcases hx with rfl|rfl<;>omega) rfl s2
 clear s2 m2 l2 kc HOL hwB HP;have HO0:=ai (λ(x:Value) (_:x=v2)=>trivial);go_loopg [5,26] (ee ms) (λg ov iv wx=>∃(k:Nat) (l:tLB),iv=vI k/\EI wB ov l wx/\l++(ms.drop k).flatMap wV=[83,80,79,76]++b8 [(kind:Int),(ee ms:Int)]++ms.flatMap wV/\l.length<=6+k*260/\k<=ee ms/\g=ee ms-k)
 case atStart=>exact⟨0,_,rfl,HI0.o,rfl,by simp[b8],cb _,rfl⟩
 case round =>
  obtain⟨k,l,rfl,hI,fQ,hll,hkm,rfl⟩:=hrel;have HR:=ai fQ;have HI:=ai hI;clear fQ q0;have En:=Z7.o.quiet hI.md;by_cases hkl:k<ee ms
  ·obtain⟨gM,rfl,c0,c1,c2,c3⟩:=En.atM k hkl;have hok:=HE.o.mn ms[k] (b9 hkl);have HD:af (l++wV ms[k]++(ms.drop (k+1)).flatMap wV=[83,80,79,76]++b8 [(kind:Int),(ee ms:Int)]++ms.flatMap wV):=by rw[af,<-HR.o,ar hkl,cj,ao]
   clear En hI HR;generalize ms[k]=m at *;obtain⟨nm,ky,vl,en⟩:=m;simp only at *;obtain⟨o1,o2,o3,o4⟩:=hok;go_upto_region 5 with fail;have hIW:EI wB u5 l (wr.alloc (eR #[eI (T nm),vB ky,vB vl,vB en] 113)):=HI.o.quiet aq;have hbx:=ak.new wr #[eI (T nm),vB ky,vB vl,vB en] 113;have hsz:=hbx.lt;generalize wr.alloc (eR #[eI (T nm),vB ky,vB vl,vB en] 113)=W at *;generalize wr.heap.size=B at *;have HIW:=ai hIW;have HNB:=ai (hIW.gm.ay hbx (by decide));have Oc:=ai (λk hk=>hIW.gm.lt k hk);have JO:=ai hbx;have hts:(T nm).size<=255:=by rw[bS];exact o1
   have Ib:=ai hll;clear hIW hbx c0 c1 c2 c3 hsz hll HI
   refine uM [.inl u5,.inl (vP B),.inl (eI (T nm)),.inr (ZZ wB 11 (l++jd (T nm))),.inl (ia (eC ⟨B,1,ez⟩)),.inl (vB ky),.inl (ia (eC ⟨B,2,ez⟩)),.inl (vB vl),.inl (ia (eC ⟨B,3,ez⟩)),.inl (vB en),
     .inr (Z0 W 11 3 #[vB ky,vB vl,vB en]),.inr (V9 wB (l++jd (T nm)++b8 [(ky:Int),(vl:Int),(en:Int)])),.inr (V9 wB (l++jd (T nm)++b8 [(ky:Int),(vl:Int),(en:Int)]))]
    (abH wB W B #[eI (T nm),vB ky,vB vl,vB en] 113 3 11 u5 l) (GW wB B #[eI (T nm),vB ky,vB vl,vB en] 113 3 11 u5) (by kernel_rfl) (by kernel_rfl) (by kernel_rfl)
    ⟨HIW.o.md.drew,JO.o.drew,cH _,λ_ _=>HIW.o.quiet aU⟩ ?_ (GW.keep HIW.o.own HNB.o (by decide)) (.inl (by kernel_rfl)) ?_
   ·intro j s hs i L v w1 w2 hn hj n hr;refine rO (show za _ _ _ 0 _ from ?_) j s hs i L v w1 w2 hn (by rw[Nat.zero_add];exact hj) n hr;exact⟨Z4 (by decide),Z5 Oc.o,Oj ⟨_,rfl,by decide,.inl rfl⟩,Oj ⟨_,rfl,by decide,.inr (by decide)⟩,trivial⟩
   iterate 2 (refine ic rfl (λL w' hN hC _ K hK=>?_) ?_;(· go_big_op;exact hK _ _ _ rfl (.quiet aA (by decide) (by decide)) rfl);simp only[Act.put,sA9,sB9,sC9])
   refine ic rfl (λL w' hN hC _ K hK=>?_) ?_
   ·have e1:=hC.bx.c0;go_big_op;exact hK _ _ _ rfl (.quiet aA (by decide) (by decide)) rfl
   simp only[Act.put,sA9,sB9,sC9];refine uN rfl (λL w' hN hC _ K hK=>?_) (λx3=>?_)
   ·have h11:=hN.2 11 _ rfl (by decide);have hei:=hC.ei hN.1 h11;go_big_op;refine(Ak w' u5 l hei.gm (by have:=Ib.o;omega) (T nm) hts).mono ?_;rintro e w2' ⟨v3,rfl,s3,m3,l3⟩;exact hK _ _ _ rfl ⟨λh=>absurd rfl h,λ_=>m3,λh=>absurd h (by decide)⟩ (λ_=>hei.step s3 m3 l3)
   simp only[Act.put,sA9,sB9,sC9];refine ic rfl (λL w' hN hC _ K hK=>?_) ?_
   ·go_big_op;exact hK _ _ _ rfl (.quiet aA (by decide) (by decide)) rfl
   simp only[Act.put,sA9,sB9,sC9];refine ic rfl (λL w' hN hC _ K hK=>?_) ?_
   ·have e1:=hC.bx.c1;go_big_op;exact hK _ _ _ rfl (.quiet aA (by decide) (by decide)) rfl
   simp only[Act.put,sA9,sB9,sC9];refine ic rfl (λL w' hN hC _ K hK=>?_) ?_
   ·go_big_op;exact hK _ _ _ rfl (.quiet aA (by decide) (by decide)) rfl
   simp only[Act.put,sA9,sB9,sC9];refine ic rfl (λL w' hN hC _ K hK=>?_) ?_
   ·have e1:=hC.bx.c2;go_big_op;exact hK _ _ _ rfl (.quiet aA (by decide) (by decide)) rfl
   simp only[Act.put,sA9,sB9,sC9];refine ic rfl (λL w' hN hC _ K hK=>?_) ?_
   ·go_big_op;exact hK _ _ _ rfl (.quiet aA (by decide) (by decide)) rfl
   simp only[Act.put,sA9,sB9,sC9];refine ic rfl (λL w' hN hC _ K hK=>?_) ?_
   ·have e1:=hC.bx.c3;go_big_op;exact hK _ _ _ rfl (.quiet aA (by decide) (by decide)) rfl
   simp only[Act.put,sA9,sB9,sC9];refine uN rfl (λL w' hN hC _ K hK=>?_) (λx10=>?_)
   ·go_big_op;exact hK _ _ _ rfl (.quiet aq (by decide) (by decide)) (λ_=>⟨_,rfl,hC.sz,ak.new _ _ _⟩)
   simp only[Act.put,sA9,sB9,sC9];refine uN rfl (λL w' hN hC hk K hK=>?_) (λx11=>?_)
   ·have f3:ZZ wB 11 (l++jd (T nm)) L x3 w':=nN hk 3 (by decide);have f10:Z0 W 11 3 #[vB ky,vB vl,vB en] L x10 w':=nN hk 10 (by decide);have hei:=f3 hN.1;obtain⟨g,rfl,hgW,hg⟩:=f10 hN.1;refine eG _ (.tmp 33) (.tmp 40) 162 rfl 5 iU (vB 0) 1 1 underlying162 GR GS GU GV rfl (by decide) x3 _ _ rfl hei.gm ⟨g,0,ez⟩ 3 3 ([(ky:Int),(vl:Int),(en:Int)].map (Value.int .u8)) rfl rfl ?_ (xP _) ?_ ?_ ?_
    ·intro j u hu;have hadd:(⟨g,0,ez⟩:ju).add j=⟨g,j,ez⟩:=by unfold Addr.add;split<;>simp_all
     rw[hadd,hg.cell j]
     simpa using hu
    ·have:=Ib.o;rw[ab,kX];unfold fX;omega
    ·have:=Ib.o;rw[ab,kX];omega
    ·intro v4 w4 s4 m4 l4;have hE4:=hei.step (Out.app (λx hx=>by simp at hx;rcases hx with rfl|rfl|rfl<;>omega) rfl s4) m4 l4;exact hK _ _ _ rfl ⟨λ_ h=>absurd rfl h,λh=>absurd h (by decide),λ_=>⟨hE4.md,hC.bx.ae m4 (hei.gm.ay hC.bx (by decide)),m4.size⟩⟩ hE4
   simp only[Act.put,sA9,sB9,sC9];refine uN rfl (λL w' hN hC hk K hK=>?_) (λx12=>?_)
   ·have f11:V9 wB (l++jd (T nm)++b8 [(ky:Int),(vl:Int),(en:Int)]) L x11 w':=nN hk 11 (by decide);go_big_op;exact hK _ _ _ rfl (.quiet aA (by decide) (by decide)) f11
   simp only[Act.put,sA9,sB9,sC9];refine Jt (λL w' hL hC hA=>?_);have hE5:EI wB x12 (l++jd (T nm)++b8 [(ky:Int),(vl:Int),(en:Int)]) w':=Ju hA 12;have HE5:=ai hE5;clear hE5 hA hC hL
   try simp only[Exit.then]
   go_wp2_with fail;go_roundg (ee ms-(k+1))
   case measure=>omega
   case rel =>
    have hlz:=Ib.o;refine⟨k+1,l++wV ⟨nm,ky,vl,en⟩,by go_num,?_,HD.o,?_,by omega,rfl⟩
    ·rw[wV,<-ao];exact HE5.o
    ·rw[ab,wV,ab,kX,lU];simp only[bh,b5];omega
  ·obtain rfl:k=ee ms:=by omega
   have dB:af (l=[83,80,79,76]++b8 [(kind:Int),(ee ms:Int)]++ms.flatMap wV):=by
    have:=HR.o;rw[cw]at this;rw[af]
    simpa using this
   have q1:=(KP.o.ae hI.md id).c1;have Ib:af (ee l<=70000):=by rw[af];omega
   clear En hI HR hll;go_wp2_with (at_builtin;refine aP _ rfl (.tmp 43) (.tmp 48) 162 rfl 5 iU (vB 0) 1 1 underlying162 GR GS GU GV rfl (by decide) u5 (ee l) (vY l) rfl (HI.o.gm.quiet aq) ⟨wr.heap.size,0,ez⟩ 1 1 ([(ee fs:Int)].map (Value.int .u8)) rfl rfl (aY _ _ _ _ rfl) (xP _) (by have:=Ib.o;unfold fX;omega) (by have:=Ib.o;omega) ?_;intro v7 w7 s7 m7 l7;have H7:=ai ((HI.o.quiet aq).step (Out.app (λx hx=>by simp at hx;subst hx;omega) rfl s7) m7 l7);have q2:=(KP.o.ae H7.o.md id).c1);clear s7 m7 l7 HI;go_loopg [5,53] (ee fs) (λg ov iv wx=>∃(k:Nat) (l':tLB),iv=vI k/\EI wB ov l' wx/\l'++(fs.drop k).flatMap pF=l++b8 [(ee fs:Int)]++fs.flatMap pF/\l'.length<=70001+k*260/\k<=ee fs/\g=ee fs-k)
   case atStart=>exact⟨0,_,rfl,H7.o,rfl,by have:=Ib.o;rw[ab,lU];simp only[bh,b5];omega,cb _,rfl⟩
   case round =>
    clear q1 q2;obtain⟨k,l',rfl,hI,fQ,hll,hkm,rfl⟩:=hrel;have HR:=ai fQ;clear fQ;have En:=Z7.o.quiet hI.md;have Wd:=ai hll;clear hll;by_cases hkl:k<ee fs
    ·have Bd:k<ee vs:=by rw[En.len];exact hkl
     obtain⟨gF,rfl,c0,c1⟩:=En.XR k hkl Bd;have hok:=HE.o.fn fs[k] (b9 hkl);have sZ:=En.code k hkl Bd;have HD:af (l'++pF fs[k]++(fs.drop (k+1)).flatMap pF=l++b8 [(ee fs:Int)]++fs.flatMap pF):=by rw[af,<-HR.o,ar hkl,cj,ao]
     have Bv:af (∀w',aa ah wB w'->aT 0 w' tv bs ax/\jG w' vs[k] bs fs[k].code):=λw' m=>⟨(Z7.o.quiet m).ops,(Z7.o.quiet m).code k hkl Bd⟩
     generalize fs[k]=f at *;generalize vs[k]=vC at *;obtain⟨nm,code⟩:=f;simp only at *;obtain⟨o1,o2,o3⟩:=hok;obtain⟨oC,cC,rfl,_⟩:=sZ.view;clear En HR;have HI:=ai hI;clear hI;have JQ:=ai Bv.o;clear Bv sZ;go_upto_region 11 with fail;have hIW:EI wB u5 l' (wr.alloc (eR #[eI (T nm),eK oC (ee code) cC] 109)):=HI.o.quiet aq;have hbx:=ak.new wr #[eI (T nm),eK oC (ee code) cC] 109;generalize wr.alloc (eR #[eI (T nm),eK oC (ee code) cC] 109)=W at *;generalize wr.heap.size=B at *;have HIW:=ai hIW;have hnx:¬(u5.ownBlock=eC B):=hIW.gm.ay hbx (by decide);have JO:=ai hbx;have hts:(T nm).size<=255:=by rw[bS];exact o1
     have x0:=λ(g:Ext (λk=>u5.ownBlock=some k) W)=>(JO.o.ae g.m hnx).c0;have x1:=λ(g:Ext (λk=>u5.ownBlock=some k) W)=>(JO.o.ae g.m hnx).c1;have ne1:=Ext.ne (λk=>u5.ownBlock=eC k) W;clear hIW hbx c0 c1 HI;refine bR [3,5,6] (λw'=>∃e:Ext (λk=>u5.ownBlock=eC k) W,w'=e.w) (by kernel_rfl) (by kernel_rfl) (by kernel_rfl) ⟨⟨_,aU⟩,rfl⟩ ?_
     iterate 3 (refine aG rfl rfl rfl ?_;intro K hK;go_big_quiet_op;go_big_quiet_on)
     refine aN rfl rfl ?_;intro K hK;go_big_op;refine(Ak _ u5 l' (HIW.o.quiet aU).gm (by have:=Wd.o;omega) (T nm) hts).mono ?_;rintro e w3 ⟨v3,rfl,s3,m3,l3⟩;have H3:=ai ((HIW.o.quiet aU).step s3 m3 l3);have M3:=ai (aU.trans m3);have L3:af (∀k,v3.ownBlock=eC k->u5.ownBlock=eC k\/W.heap.size<=k):=l3;refine hK _ _ rfl ⟨⟨_,M3.gm⟩,rfl⟩ ?_;clear hK K s3 m3 l3
     iterate 1 (refine aG rfl rfl rfl ?_;intro K hK;go_big_quiet_op;go_big_quiet_on)
     refine aN rfl rfl ?_;intro K hK;go_big_op;refine(JM w3 tv bs (JQ.o w3 H3.o.md).1 code o3 (by omega) _ (JQ.o w3 H3.o.md).2 (T nm)).mono ?_;rintro e w4 ⟨rfl,m4⟩;have H4:=ai (H3.o.quiet m4);have M4:=ai (M3.gm.trans (m4.mono (λ_ _ e=>e.elim)));refine hK _ _ rfl ⟨⟨_,M4.gm⟩,rfl⟩ ?_;clear hK K;refine aN rfl rfl ?_;intro K hK;go_big_op;refine(Dq w4 v3 (l'++jd (T nm)) H4.o.gm (by have:=Wd.o;rw[ab,kX];omega) (aL code)).mono ?_;rintro e w5 ⟨v5,rfl,s5,m5,l5⟩;have H5:=ai (H4.o.step s5 m5 l5)
     have M5:af (aa (λk=>u5.ownBlock=eC k) W w5):=⟨m5.os.trans M4.gm.os,m5.tape.trans M4.gm.tape,m5.output.trans M4.gm.output,an M4.gm.size m5.size,λk hk hS=>(m5.block k (bt hk M4.gm.size) (λe=>by
      rcases L3.gm k e with h|h
      ·exact hS h
      ·omega)).trans (M4.gm.block k hk hS)⟩
     refine hK _ _ rfl ⟨⟨_,M5.gm⟩,rfl⟩ ?_;clear hK K s5 m5 l5
     iterate 1 (refine aG rfl rfl rfl ?_;intro K hK;go_big_quiet_op;go_big_quiet_on)
     refine dR ?_
     try simp only[Exit.then]
     go_wp2_with fail;go_roundg (ee fs-(k+1))
     case measure=>omega
     case rel =>
      have hlz:=Wd.o;refine⟨k+1,l'++pF ⟨nm,code⟩,by go_num,?_,HD.o,?_,by omega,rfl⟩
      ·rw[pF,<-ao];exact H5.o
      ·rw[ab,pF,ab,kX,lU];simp only[nZ,bh,b5];omega
    ·obtain rfl:k=ee fs:=by omega
     have dV:af (l'=l++b8 [(ee fs:Int)]++fs.flatMap pF):=by
      have:=HR.o;rw[cw]at this;rw[af]
      simpa using this
     have afl:af (ee l'<=140000):=by have:=Wd.o;rw[af];omega
     have q1:=(KP.o.ae hI.md id).c1;have HI:=ai hI;clear En hI HR Wd;go_wp2_with fail;go_loopg [5,68] (ee fs) (λg ov iv wx=>∃(k:Nat) (a:tLB),iv=vI k/\EI wB ov a wx/\a++(fs.drop k).flatMap rZ=l'++fs.flatMap rZ/\a.length<=140000+k*3200/\k<=ee fs/\g=ee fs-k)
     case atStart=>exact⟨0,_,rfl,HI.o,rfl,by have:=afl.o;omega,cb _,rfl⟩
     case round =>
      clear q1 HI;obtain⟨k,a,rfl,hI,fQ,hll,hkm,rfl⟩:=hrel;have HR:=ai fQ;clear fQ;have En:=Z7.o.quiet hI.md;have afm:=ai hll;clear hll;by_cases hkl:k<ee fs
      ·have Bd:k<ee vs:=by rw[En.len];exact hkl
       obtain⟨gF,rfl,c0,c1⟩:=En.XR k hkl Bd;have hok:=HE.o.fn fs[k] (b9 hkl);have sZ:=En.code k hkl Bd;have HD:af (a++rZ fs[k]++(fs.drop (k+1)).flatMap rZ=l'++fs.flatMap rZ):=by rw[af,<-HR.o,ar hkl,cj,ao]
       have Bv:af (∀w',aa ah wB w'->aT 0 w' tv bs ax/\jG w' vs[k] bs fs[k].code):=λw' m=>⟨(Z7.o.quiet m).ops,(Z7.o.quiet m).code k hkl Bd⟩
       generalize fs[k]=f at *;generalize vs[k]=vC at *;obtain⟨nm,code⟩:=f;simp only at *;obtain⟨o1,o2,o3⟩:=hok;obtain⟨oC,cC,rfl,_⟩:=sZ.view;have JQ:=ai Bv.o;have AY:=ai o3;have HIa:af (EI wB u5 a (wr.alloc (eR #[eI (T nm),eK oC (ee code) cC] 109))):=hI.quiet aq;clear Bv sZ En HR hI o3;go_wp2_with fail;generalize wr.alloc (eR #[eI (T nm),eK oC (ee code) cC] 109)=W at *;go_loopg [5,75] (ee code) (λg ov iv wx=>∃(j:Nat) (a':tLB),iv=vI j/\EI wB ov a' wx/\a'++(code.drop j).flatMap Al=a++rZ ⟨nm,code⟩/\a'.length<=140000+k*3200+j*16/\j<=ee code/\g=ee code-j)
       case atStart=>exact⟨0,_,rfl,HIa.o,rfl,by have:=afm.o;omega,cb _,rfl⟩
       case round =>
        clear c0 c1 HIa;obtain⟨j,a',rfl,hI,fQ,hll,hjm,rfl⟩:=hrel;have HR:=ai fQ;clear fQ;have abI:=ai hll;clear hll;by_cases hjl:j<ee code
        ·obtain⟨g,lab,rfl,hg,y0,y1,y2,y3,y4,y5,y6,y7⟩:=Dm (JQ.o wr hI.md).2 rfl rfl j hjl;have hx:=AY.o code[j] (b9 hjl);have HD2:af (a'++Al code[j]++(code.drop (j+1)).flatMap Al=a++rZ ⟨nm,code⟩):=by rw[af,<-HR.o,ar hjl,cj,ao]
         have HAT:=ai (λw' m=>lT (JQ.o w' m).1 code[j] hx.k);have hcl:code[j].o.code<=255:=Z6 code[j].k hx.k;have afn:=hx.slots;have HPS:af (Al code[j]=zj code[j].o.code code[j].d code[j].s code[j].jump code[j].num code[j].high code[j].o.slots):=rfl;obtain⟨_,hxd,hxs,hxj,hxn,hxh⟩:=hx;generalize code[j].o=o at *;generalize code[j].jump=jmp at *;generalize code[j].d=xd at *;generalize code[j].s=xs at *;generalize code[j].num=xn at *;generalize code[j].high=xh at *;generalize code[j].name=xm at *;generalize bs[code[j].k]?.getD 0=b at *;generalize Al code[j]=su at *;have HI:=ai hI;clear hI HR;go_wp2_with fail;have HIx:af (EI wB u5 a' (wr.alloc (eR #[vP b,vB xd,vB xs,.int .i16 jmp,vJ xn,vJ xh,eI lab,eI (T xm)] 141))):=HI.o.quiet aq;obtain⟨p1,pn,pc,f6,c6,k7,c7,k8,c8,f9,c9,hop,_⟩:=(HAT.o _ HIx.o.md).ex;refine(Mt _ u5 a' HIx.o.gm (by have:=abI.o;omega) b _ o.code o.slots hop rfl rfl xd xs jmp xn xh _ _ hcl hxd hxs hxj hxn hxh (by omega)).mono ?_;rintro e w3 ⟨v3,rfl,s3,m3,l3⟩;have H3:af (EI wB v3 (a'++su) w3):=by rw[HPS.o];exact HIx.o.step s3 m3 l3
         clear s3 m3 l3 hop;go_wp2_with fail;go_roundg (ee code-(j+1))
         case measure=>omega
         case rel =>
          have hlz:=abI.o;have hsu:ee su<=16:=by rw[HPS.o];exact Rv _ _ _ _ _ _ _
          exact⟨j+1,a'++su,by go_num,H3.o,HD2.o,by rw[ab];omega,by omega,rfl⟩
        ·obtain rfl:j=ee code:=by omega
         have jh:af (a'=a++rZ ⟨nm,code⟩):=by
          have:=HR.o;rw[cw]at this;rw[af]
          simpa using this
         have HI:=ai hI;clear hI HR;go_wp2_with fail;go_roundg (ee fs-(k+1))
         case measure=>omega
         case rel =>have:=abI.o;exact⟨k+1,a',by go_num,HI.o,by rw[jh.o];exact HD.o,by omega,by omega,rfl⟩
      ·obtain rfl:k=ee fs:=by omega
       have eH:af (a=qo kind ms fs):=by
        have:=HR.o;rw[cw]at this;rw[af,qo,<-dB.o,<-dV.o]
        simpa using this
       have HI:=ai hI;clear hI HR En;go_wp2_with fail;go_ret;refine⟨u5,rfl,?_⟩;rw[<-eH.o];exact⟨HI.o.gm,GQ.o.trans HI.o.md,λk hk=>an GQ.o.size (HI.o.own k hk)⟩
