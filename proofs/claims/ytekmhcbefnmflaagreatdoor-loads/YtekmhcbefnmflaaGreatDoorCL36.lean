import Derived.Shelf.Strconv.Clone
import Derived.Test.YtekmhcbefnmflaaGreatDoorCL00
import Derived.Test.YtekmhcbefnmflaaGreatDoorCL18
import Derived.Test.YtekmhcbefnmflaaGreatDoorCL58
namespace Go.Proofs.YtekmhcbefnmflaaGreatDoor
open Go.RowKit Tryz
open List renaming flatMap_cons->ab,length_append->an,length_set->ao,length_cons->ar,append_assoc->bh,take_succ_eq_append_getElem->b5,getElem_append_left->b9,length_nil->cj,replicate->cw,getElem_mem->cx,take_length->cy,set_append_right->cD,flatMap_append->cH,take_succ_cons->cI,drop_succ_cons->cN,length_take->cQ,take_of_length_le->cX,take_zero->cY,drop_zero->de,set_append_left->dj,getElem_of_mem->dp,set_cons_zero->dq,size_toArray->dt,cons_append->dy,flatMap_nil->dT,not_mem_nil->ec,length->ee
open Nat renaming le_refl->bt,add_assoc->cb,add_mul->cW,zero_le->du
open Option renaming map_some->cG,map_none->cR,some->eC,none->ez
open Ending renaming returned->fR
open Obj renaming cells->eR
open Value renaming agg->fW,pointer->ia,string->eI,slice->eK,tuple->gb
open _root_.Go renaming Program->jz,TypeId->gh,Oper->fY,Operand->oR,undef->kh,wpList_plain->pD,Calls->fL,Value->eM,info_parts->lO,madeCells->pA,maxLen->fX,Addr->ju,bodyPost_ret->iz,results_cell_row->mz
set_option linter.all false
set_option maxRecDepth 100000
set_option maxHeartbeats 2000000
def Cv(cs:tAV)(o:Nat)(vs:tLV):tAV:=(cs.toList.take o++vs++cs.toList.drop (o+ee vs)).toArray
theorem Wx(cs:tAV)(o:Nat)(vs:tLV)(h:o+ee vs<=cs.size):(Cv cs o vs).size=cs.size:=by simp[Cv];omega
theorem abM(cs:tAV)(o:Nat)(vs:tLV)(h:o+ee vs<=cs.size)(j:Nat)(hj:j<ee vs):(Cv cs o vs)[o+j]?=vs[j]?:=by unfold Cv;rw[List.getElem?_toArray,List.getElem?_append_left (by simp;omega),List.getElem?_append_right (by simp;omega)];congr 1;simp;omega
theorem aag(cs:tAV)(o:Nat)(vs:tLV)(h:o+ee vs<=cs.size)(j:Nat)(hj:j<o\/o+ee vs<=j):(Cv cs o vs)[j]?=cs[j]?:=by
 unfold Cv;rw[List.getElem?_toArray];rcases hj with hj|hj
 ·rw[bh,List.getElem?_append_left (by simp;omega),List.getElem?_take_of_lt hj];simp
 ·rw[List.getElem?_append_right (by simp;omega),List.getElem?_drop];simp only[an,cQ,Array.length_toList,Array.getElem?_toList];congr 1;omega
theorem xV{P:jz}(w:tW)(g off:Nat)(t ty:gh)(old cells:tAV)(hg:w.heap[g]?=eC (eR old t (0,0)))(hi:(P.info? ty).map (·.size)=eC cells.size)(hle:off+cells.size<=old.size)(h1:cells.all (·.oneCell')=true):(storeVar ty ⟨g,off,ez⟩ (fW cells)).run P w=.ok () (w.setRow g (Cv old off cells.toList)):=by
 have:=run_storeCells_at (P:=P) g off t cells.toList 0 old w hg (by simpa using hle) (λv hv=>by rw[Array.all_eq_true]at h1;obtain⟨i,hi',e⟩:=dp hv;have:=h1 i (by simpa using hi');rw[<-e];simpa using this);cases hq:P.info? ty with
 |none=>simp[hq]at hi
 |some i =>
  have hs:cells.size=i.size:=by simp[hq]at hi;omega
  simp[storeVar,sizeOf,typeInfo,hq,Value.cells,hs,this,Cv]
theorem DD{P:jz}{o:fY}{a:Act}{w:tW}{K:Act->tW->Prop}{Q:Exit->Act->tW->Prop}(ty:gh)(x y:oR)(ho:o.op=.store ty x y)(g off:Nat) (cells:tAV) (hx:a.eval x=ia (eC ⟨g,off,ez⟩)) (hy:a.eval y=fW cells)(t:gh) (old:tAV) (hg:w.heap[g]?=eC (eR old t (0,0))) (hi:(P.info? ty).map (·.size)=eC cells.size)(hle:off+cells.size<=old.size) (h1:cells.all (·.oneCell')=true)(h:K (a.put o.dst kh) (w.setRow g (Cv old off cells.toList))):o.wp P a w K Q:=by unfold Oper.wp execOp;simp only[ho,hx,hy,Instr.storeAt,Instr.sureAddr,Sem.run_bind,Sem.run_pure,Result.andThen_ok,xV w g off t ty old cells hg hi hle h1];exact h
theorem xW{P:jz}{ops:Array fY}{rest:List fY}{o:fY}{a:Act}{w:tW}{Q:Exit->Act->tW->Prop}(hgd:o.guard=ez)(ty:gh)(x y:oR)(ho:o.op=.store ty x y)(g off:Nat) (cells:tAV) (hx:a.eval x=ia (eC ⟨g,off,ez⟩)) (hy:a.eval y=fW cells)(t:gh) (old:tAV) (hg:w.heap[g]?=eC (eR old t (0,0))) (hi:(P.info? ty).map (·.size)=eC cells.size)(hle:off+cells.size<=old.size) (h1:cells.all (·.oneCell')=true)(h:wpList P ops Q rest (a.put o.dst kh) (w.setRow g (Cv old off cells.toList))):wpList P ops Q (o::rest) a w :=
 pD hgd λ_ hK=>DD ty x y ho g off cells hx hy t old hg hi hle h1 (hK _ _ h)
theorem ak.Cv{w:tW}{g:Nat}{cs:tAV}{t:gh}(h:ak w g cs t)(o:Nat)(vs:tLV):ak (w.setRow g (Cv cs o vs)) g (Go.Proofs.YtekmhcbefnmflaaGreatDoor.Cv cs o vs) t:=setRow_heap w g cs _ t (0,0) h
theorem Bh{w:tW}{g:Nat}(cs:tAV):aa (Only g) w (w.setRow g cs) :=
 ⟨rfl,rfl,rfl,by simp[World.setRow],λk _ hk=>setRow_other w g k cs hk⟩
theorem RY(w:tW)(s:tBA)(hs:s.size<=281474976710656):fL prog 164 #[eI s] w λe w'=>e=fR (eI s)/\aa ah w w' :=
 (Any.stringslite_Clone lcl s w hs).mono λ_ _ ⟨h1,h2⟩=>⟨h1,aa.of_below h2⟩
theorem MK(w:tW)(s:tBA)(hs:s.size<=281474976710656):fL prog 76 #[eI s] w λe w'=>e=fR (eI s)/\aa ah w w':=by have H:=ai (RY w s hs);go_in;go_wp2_with fail;refine H.o.mono ?_;rintro e w1 ⟨rfl,m1⟩;go_wp2_with fail;go_ret;exact⟨rfl,m1⟩
theorem J8(w:tW)(s:tBA)(hs:s.size<=281474976710656):fL prog 34 #[eI s] w λe w'=>e=fR (eI s)/\aa ah w w':=by have H:=ai (MK w s hs);go_in;go_wp2_with fail;refine H.o.mono ?_;rintro e w1 ⟨rfl,m1⟩;go_wp2_with fail;go_ret;exact⟨rfl,m1⟩
structure MV where
 so:Nat:=0
 bits:Nat:=0
 bq:Option Nat:=ez
 tab:Option Nat:=ez
def qp(n:Nat):MV:=⟨0,n,ez,ez⟩
def wy(r off:Nat):MV:=⟨2,off,eC r,ez⟩
def mmap(t:Nat):MV:=⟨1,0,ez,eC t⟩
def MV.eqB(a b:MV):Bool:=decide (a.so=b.so)&&decide (a.bits=b.bits)&&decide (a.bq=b.bq)&&decide (a.tab=b.tab)
def MV.cells(rb mb:tLN)(v:MV):tLV:=[vI v.so,vU v.bits,ia (v.bq.map λr=>⟨rb.getD r 0,0,ez⟩),ia (v.tab.map λt=>⟨mb.getD t 0,0,ez⟩)]
theorem MV.fI(rb mb:tLN)(v:MV):ee (v.cells rb mb)=4:=rfl
structure jT where
 fn:Nat
 slot:Nat
 next:Nat
 regs:List MV
 qA:Nat
def jT.cells(rb mb:tLN)(f:jT):tLV:=[vI f.fn,vI f.slot,vI f.next]++f.regs.flatMap (MV.cells rb mb)++[vP (rb.getD f.qA 0)]
theorem uT(rb mb:tLN)(l:List MV):ee (l.flatMap (MV.cells rb mb))=ee l*4:=by
 induction l with
 |nil=>rfl
 |cons x l ih=>rw[ab,an,ih,MV.fI,ar];omega
theorem jT.fI(rb mb:tLN)(f:jT)(h:ee f.regs=11):ee (f.cells rb mb)=48:=by unfold jT.cells;simp only[an,uT,h,ar,cj]
structure aH where
 calls:List jT:=[]
 fuel:Nat:=0
 used:Nat:=0
 log:tLN:=[]
 r0:Nat:=0
 ended:Bool:=false
 inp:Nat:=0
def aH.top(r:aH):jT:=r.calls.getD (ee r.calls-1) ⟨0,0,0,[],0⟩
def aH.eX(r:aH)(f:jT):aH:={r with calls:=r.calls.set (ee r.calls-1) f}
def aH.bq(r:aH)(n:Nat):MV:=r.top.regs.getD n {}
def aH.ik(r:aH)(n:Nat)(v:MV):aH:=r.eX {r.top with regs:=r.top.regs.set n v}
structure aV(w:tW)(b:Nat)(rb mb:tLN)(vM vC vL:eM)(r:aH):Prop where
 blk:ak w b #[vM,vP (rb.getD r.inp 0),vC,vI r.fuel,vI r.used,vL,vU r.r0,.bool r.ended] 185
 calls:Sl w 273 48 vC (ee r.calls) (r.calls.flatMap (jT.cells rb mb))
 regs:∀f∈r.calls,ee f.regs=11
 depth:ee r.calls<=8
section
variable {w w' : World} {b : Nat} {rb mb : List Nat} {vM vC vL : eM} {r : aH}
theorem aV.quiet(h:aV w b rb mb vM vC vL r)(m:aa ah w w'):aV w' b rb mb vM vC vL r:=⟨h.blk.ae m id,h.calls.ae m (λ_ _=>id),h.regs,h.depth⟩
theorem qt{α:Type}(enc:α->tLV)(k:Nat):∀(l:List α),(∀x∈l,ee (enc x)=k)->∀(i j:Nat) (hi:i<ee l),j<k->(l.flatMap enc)[i*k+j]?=(enc l[i])[j]?
 |x::l,h,0,j,_,hj=>by rw[ab,List.getElem?_append_left (by rw[h x (by simp)];omega)];simp
 |x::l,h,i+1,j,hi,hj=>by have hx:=h x (by simp);rw[ab,List.getElem?_append_right (by rw[hx,cW];omega),hx];have:=qt enc k l (λy hy=>h y (by simp[hy])) i j (by simpa using hi) hj;rw[show(i+1)*k+j-k=i*k+j by rw[cW];omega,this];rfl
theorem aV.view(h:aV w b rb mb vM vC vL r)(hp:0<ee r.calls):∃g cap,vC=eK (eC ⟨g,0,ez⟩) (ee r.calls) cap/\r.top∈r.calls/\r.top.regs.length=11/\∀j,j<48->w.cell? ⟨g,(ee r.calls-1)*48+j,ez⟩=(r.top.cells rb mb)[j]?:=by
 obtain⟨o,cap,hv,h2⟩:=h.calls.view;obtain⟨g,cs,rfl,hb,ht,_⟩:=h2 hp;have ht':r.top=r.calls[ee r.calls-1]:=by unfold aH.top;rw[List.getD_eq_getElem?_getD,List.getElem?_eq_getElem (by omega)];rfl
 have hm:r.top∈r.calls:=by rw[ht'];exact cx _
 refine⟨g,cap,hv,hm,h.regs _ hm,λj hj=>?_⟩;rw[aX hb ht _ (by omega),qt (jT.cells rb mb) 48 r.calls (λf hf=>jT.fI rb mb f (h.regs f hf)) (ee r.calls-1) j (by omega) hj,ht']
end
theorem Ou(w:tW)(b:Nat)(rb mb:tLN)(vM vL:eM)(g cap:Nat)(r:aH)(h:aV w b rb mb vM (eK (eC ⟨g,0,ez⟩) (ee r.calls) cap) vL r)(hp:0<ee r.calls):fL prog 165 #[vP b] w λe w'=>e=fR (ia (eC ⟨g,(ee r.calls-1)*48,ez⟩))/\aa ah w w':=by
 have x2:=h.blk.c2;have hd:=h.depth;have hi:((ee r.calls:Int)-1)=((ee r.calls-1:Nat):Int):=by omega
 have hlt:ee r.calls-1<ee r.calls:=by omega
 clear h;generalize ee r.calls-1=k at *;generalize ee r.calls=n at *;go_in;go_wp2_with fail;go_quiet (fail);have HM:af (aa ah w (w.drewN nq)):=aA.drewN nq;clear x2;generalize w.drewN nq=w1 at *;go_wp2_with fail;go_ret;exact⟨rfl,HM.o⟩
def atS:Nat->List PI->List (PI×Nat)
 |_,[]=>[]
 |s,x::l=>(x,s)::atS (s+x.o.slots) l
theorem G6:∀(l:List PI) (s:Nat) (x:PI),atS s (l++[x])=atS s l++[(x,s+aL l)]
 |[],s,x=>by simp[atS,aL]
 |y::l,s,x=>by
  rw[dy,atS,atS,G6 l];have:aL (y::l)=y.o.slots+aL l:=by simp[aL]
  rw[this,dy,cb]
theorem BM:∀(l:List PI) (s:Nat) (p:PI×Nat),p∈atS s l->p.1∈l
 |x::l,s,p,h=>by
  rw[atS]at h;rcases List.mem_cons.1 h with rfl|h
  ·simp
  ·have:=BM l _ p h;simp[this]
structure pG(w:tW)(bs:tLN)(g:Nat)(n:Nat)(l:List (PI×Nat)):Prop where
 ex:∃cs,ak w g cs 141/\cs.size=n*8/\∀p∈l,∀c,c<8->cs[p.2*8+c]?=((p.1.ins bs).di)[c]?
theorem pG.ae{S:Nat->Prop}{w w':tW}{bs:tLN}{g n:Nat}{l:List (PI×Nat)}(h:pG w bs g n l)(m:aa S w w')(hS:¬S g):pG w' bs g n l:=by obtain⟨cs,h1,h2⟩:=h.ex;exact⟨⟨cs,h1.ae m hS,h2⟩⟩
theorem ML:∀(l:List PI) (s:Nat) (p:PI×Nat),p∈atS s l->p.2+p.1.o.slots<=s+aL l
 |x::l,s,p,h=>by
  have e:aL (x::l)=x.o.slots+aL l:=by simp[aL]
  rw[atS]at h;rcases List.mem_cons.1 h with rfl|h
  ·simp only;omega
  ·have:=ML l _ p h;omega
theorem RZ(l:List PI)(k:Nat):aL (l.take k)=iJ l k:=rfl
theorem J9(w:tW)(tv:eM)(bs:tLN)(hO:aT 0 w tv bs ax)(code:List PI)(hok:∀x∈code,kz x)(hl:ee code<=10000)(vC:eM)(hC:Sl w 141 8 vC (ee code) (kI bs code))(nm:tBA):fL prog 35 #[fW #[eI nm,vC]] w λe w'=>∃g,e=fR (eK (eC ⟨g,0,ez⟩) (aL code) (aL code))/\w.heap.size<=g/\pG w' bs g (aL code) (atS 0 code)/\aa ah w w':=by
 obtain⟨oC,cC,rfl,_⟩:=hC.view;have HO:=ai hO;have HC:=ai hC;have Eb:=ai hok;have Jz:af (∀k,iJ code k<=20000):=λk=>by have:=BK code Eb.o k;omega
 have hsl:aL code<=20000:=by have:=Jz.o (ee code);rwa [iJ,cy]at this
 have tN:=ai (λw' m=>Dl w' tv bs (hO.ae m) code hok hl _ (hC.ae m (λ_ _=>id)) nm);obtain⟨iP,hiP,sK,hsP,wJ⟩:=lO xL
 have pW:=ai (λw'=>by
  have:=run_make (P:=prog) w' 80 141 iP _ underlying80 hiP sK .i64 .i64 (aL code:Nat) (aL code:Nat) (by omega) (by omega) (by rw[wJ];omega) (by omega);rw[hsP]at this
  simpa [Value.cells]using this)
 have dU:af (aa ah w (w.alloc (eR #[eI nm,eK oC (ee code) cC] 109))):=aq;have HB0:=ai (ak.new w #[eI nm,eK oC (ee code) cC] 109);clear hO hC hok;go_in;go_wp2_with fail;refine(tN.o _ dU.o).mono ?_;rintro e w1 ⟨rfl,m1⟩;have hB1:=HB0.o.ae m1 id;have dB:=ai (dU.o.trans m1);have hmk:=pW.o w1;have HN:af (aL code=iJ code (ee code)):=by rw[af,iJ,cy];rfl
 generalize hn:aL code=n at *;have LX:=ai hn;clear hn;have HG:=ai dB.o.size;have HB2:=ai (ak.new w1 (pA Z8 (n*8)) 141);have dV:=ai (dB.o.alloc (eR (pA Z8 (n*8)) 141));have HZ:af ((pA Z8 (n*8)).size=n*8):=size_madeCells _ _;have b1:(w1.alloc (eR (pA Z8 (n*8)) 141)).cell? ⟨w.heap.size,1,ez⟩=eC (eK oC (ee code) cC):=(hB1.alloc _).cell 1;generalize pA Z8 (n*8)=cs0 at *;go_upto_block 0 with fail;generalize w1.alloc (eR cs0 141)=w2 at *;generalize w1.heap.size=G at *;have HW2:af (pG w2 bs G n []/\w.heap.size<=G):=⟨⟨⟨cs0,HB2.o,HZ.o,λp h=>by cases h⟩⟩,HG.o⟩
 clear HB2 HZ hB1 pW hmk m1 dB HB0 dU tN HG;go_cut [4] (λ_ wx=>pG wx bs G n (atS 0 code)/\aa ah w wx)
 case first =>
  go_wp2_with fail;clear b1;go_loopg [4,13] (ee code) (λq sv iv wx=>∃k:Nat,iv=vI k/\sv=vI (iJ code k)/\pG wx bs G n (atS 0 (code.take k))/\aa ah w wx/\k<=ee code/\q=ee code-k)
  case atStart=>exact⟨0,rfl,rfl,HW2.o.1,dV.o,du _,rfl⟩
  case round =>
   obtain⟨k,rfl,rfl,hB,hM,hk,rfl⟩:=hrel;have HB:=ai hB;have HM:=ai hM;clear hB hM;by_cases hlt:k<ee code
   ·have PT:=ai (vV code k hlt);have HAt:af (atS 0 (code.take (k+1))=atS 0 (code.take k)++[(code[k],iJ code k)]):=by rw[af,b5 hlt,G6,Nat.zero_add];rfl
    have hmono:iJ code (k+1)<=n:=by
     rw[HN.o,iJ,iJ,cy];have:=List.take_append_drop (k+1) code
     conv=>rhs;rw[<-this,List.map_append,List.sum_append]
     omega
    rw[PT.o]at hmono;obtain⟨g,rfl,hg,q0,q1,q2,q3,q4,q5,q6,q7⟩:=oK (HC.o.ae HM.o (λ_ _=>id)) rfl rfl k hlt;have hx:=Eb.o code[k] (cx hlt);have HAT:=ai (λw' (m:aa ah w w')=>lT (HO.o.ae m) code[k] hx.k);have Z7:af (∀p∈atS 0 (code.take k),p.2+1<=iJ code k):=λp hp=>by have h1:=ML _ _ p hp;have h2:=(Eb.o p.1 (List.mem_of_mem_take (BM _ _ p hp))).slots;rw[RZ]at h1;omega
    have hsum:=Jz.o k;have hsl2:=hx.slots;have HCL:af ((code[k].ins bs).di=[vP (bs[code[k].k]?.getD 0),vB code[k].d,vB code[k].s,.int .i16 code[k].jump,vJ code[k].num,vJ code[k].high,eI ByteArray.empty,eI (T code[k].name)]):=rfl;clear hx;generalize code[k].o=o at *;generalize code[k].jump=jmp at *;generalize code[k].d=xd at *;generalize code[k].s=xs at *;generalize code[k].num=xn at *;generalize code[k].high=xh at *;generalize T code[k].name=xm at *;generalize bs[code[k].k]?.getD 0=b at *;obtain⟨cs,hbk,hsz,hcs⟩:=HB.o.ex;have HBK:af (ak (wr.alloc (eR #[vP b,vB xd,vB xs,.int .i16 jmp,vJ xn,vJ xh,eI ByteArray.empty,eI xm] 141)) G cs 141):=hbk.alloc _;have jS:=ai hcs;have TL:=ai hsz;have HX:=ai (ak.new wr #[vP b,vB xd,vB xs,.int .i16 jmp,vJ xn,vJ xh,eI ByteArray.empty,eI xm] 141);have Ge:=ai (HM.o.alloc (eR #[vP b,vB xd,vB xs,.int .i16 jmp,vJ xn,vJ xh,eI ByteArray.empty,eI xm] 141));have HGX:=ai hbk.lt;clear hbk hcs hsz HB HM;generalize iJ code k=sk at *;have hlt2:sk<n:=by omega
    go_upto_region 6 with fail;generalize hwa:wr.alloc (eR #[vP b,vB xd,vB xs,.int .i16 jmp,vJ xn,vJ xh,eI ByteArray.empty,eI xm] 141)=wa at *;generalize wr.heap.size=X at *;have x0:=HX.o.c0;have x1:=HX.o.c1;have x2:=HX.o.c2;have x3:=HX.o.c3;have x4:=HX.o.c4;have x5:=HX.o.c5;have x6:=HX.o.c6;have x7:=HX.o.c7;go_upto_region 7 with(refine xW rfl 141 (.tmp 20) (.tmp 19) rfl G (sk*8) #[vP b,vB xd,vB xs,.int .i16 jmp,vJ xn,vJ xh,eI ByteArray.empty,eI xm] rfl rfl 141 cs HBK.o (by kernel_rfl) (by have:=TL.o;simp;omega) (by simp[Value.oneCell']) ?_)
    have HBN:af (ak (wa.setRow G (Cv cs (sk*8) (#[vP b,vB xd,vB xs,.int .i16 jmp,vJ xn,vJ xh,eI ByteArray.empty,eI xm]:tAV).toList)) G (Cv cs (sk*8) (#[vP b,vB xd,vB xs,.int .i16 jmp,vJ xn,vJ xh,eI ByteArray.empty,eI xm]:tAV).toList) 141):=HBK.o.Cv _ _;have Po:af (aa (Only G) wa (wa.setRow G (Cv cs (sk*8) (#[vP b,vB xd,vB xs,.int .i16 jmp,vJ xn,vJ xh,eI ByteArray.empty,eI xm]:tAV).toList))):=Bh _;generalize wa.setRow G (Cv cs (sk*8) (#[vP b,vB xd,vB xs,.int .i16 jmp,vJ xn,vJ xh,eI ByteArray.empty,eI xm]:tAV).toList)=w3 at *;have eH:=ai (Ge.o.step Po.o (λi hi e=>by have e':i=G:=e;have:=HW2.o.2;omega));have z0:=(HX.o.ae Po.o (show ¬X=G by have:=HGX.o;omega)).c0;obtain⟨y2,_,_,_⟩:=(HAT.o w3 eH.o).cells
    have EO:af (pG w3 bs G n (atS 0 (code.take (k+1)))):=by
     refine⟨⟨_,HBN.o,?_,λp hp c hc=>?_⟩⟩
     ·rw[Wx _ _ _ (by have:=TL.o;simp;omega)];exact TL.o
     ·rw[HAt.o]at hp;have hle:sk*8+ee (#[vP b,vB xd,vB xs,.int .i16 jmp,vJ xn,vJ xh,eI ByteArray.empty,eI xm]:tAV).toList<=cs.size:=by have:=TL.o;simp;omega
      rcases List.mem_append.1 hp with hp|hp
      ·have:=Z7.o p hp;rw[aag _ _ _ hle _ (.inl (by omega))];exact jS.o p hp c hc
      ·rw[List.mem_singleton.1 hp];rw[abM _ _ _ hle c (by simpa using hc),HCL.o]
    clear x0 x1 x2 x3 x4 x5 x6 x7 HBN Po HX HBK jS TL Ge HAT q0 q1 q2 q3 q4 q5 q6 q7;generalize o.slots=os at *;go_wp2_with fail;go_roundg (ee code-(k+1))
    case measure=>omega
    case rel=>exact⟨k+1,by go_num,by rw[PT.o];go_num,EO.o,eH.o,by omega,rfl⟩
   ·obtain rfl:k=ee code:=by omega
    rw[cy]at HB;go_wp2_with fail;go_meet;exact⟨HB.o,HM.o⟩
 case rest =>
 obtain⟨hB,hM⟩:=hcut;go_wp2_with fail;go_ret;exact⟨G,by rw[LX.o];rfl,HW2.o.2,by rw[LX.o];exact hB,hM⟩
theorem MM(w:tW)(s:tBA)(k v n:Int):fL prog 36 #[eI s,vI k,vI v,vI n] w λe w'=>e=fR (vP (w.heap.size))/\w'=w.alloc (eR #[eI s,vI k,vI v,vI n,vN] 179):=by go_in;go_wp2_with fail;go_ret;exact⟨rfl,rfl⟩
def Fq(x:cZ×Nat):tLV:=[eI (T x.1.name),eK (eC ⟨x.2,0,ez⟩) (aL x.1.code) (aL x.1.code)]
def mpC(b:Nat):tLV:=[vP b]
structure oh(w0:tW)(bs:tLN)(b:Nat)(vF vM:eM)(fs:List cZ)(gs:tLN)(ms:List aW)(mb:tLN)(w:tW):Prop where
 blk:ak w b #[vJ 0,.int .u32 0,vF,vM] 79
 lf:ee gs=ee fs
 yw:Sl w 82 2 vF (ee fs) ((fs.zip gs).flatMap Fq)
 code:∀i (h:i<ee fs) (h':i<ee gs),pG w bs gs[i] (aL fs[i].code) (atS 0 fs[i].code)
 lm:ee mb=ee ms
 Eo:Sl w 114 1 vM (ee ms) (mb.flatMap mpC)
 maps:∀i (h:i<ee ms) (h':i<ee mb),ak w mb[i] #[eI (T ms[i].name),vI ms[i].key,vI ms[i].value,vI ms[i].entries,vN] 179
 lo:w0.heap.size<=b
 Ar:∀k,vF.ownBlock=eC k->w0.heap.size<=k
 BA:∀k,vM.ownBlock=eC k->w0.heap.size<=k
 rR:∀g∈gs,w0.heap.size<=g
 ownB:∀g∈mb,w0.heap.size<=g
 nd:mb.Nodup
 md:aa ah w0 w
section
variable {w0 w w' : World} {bs : List Nat} {b : Nat} {vF vM v' : eM} {fs : List cZ} {gs mb : List Nat} {ms : List aW}
theorem oh.quiet(h:oh w0 bs b vF vM fs gs ms mb w)(m:aa ah w w'):oh w0 bs b vF vM fs gs ms mb w' :=
 ⟨h.blk.ae m id,h.lf,h.yw.ae m (λ_ _=>id),λi a c=>(h.code i a c).ae m id,h.lm,h.Eo.ae m (λ_ _=>id),λi a c=>(h.maps i a c).ae m id,h.lo,h.Ar,h.BA,h.rR,h.ownB,h.nd,h.md.trans m⟩
theorem ak.neq{w:tW}{a b:Nat}{cs ds:tAV}{t u:gh}(h:ak w a cs t)(k:ak w b ds u)(hn:t≠u):a≠b:=λe=>by
 subst e;have h1:w.heap[a]?=eC (eR cs t (0,0)):=h;have h2:w.heap[a]?=eC (eR ds u (0,0)):=k;rw[h1]at h2;injection h2 with h2;injection h2 with _ h3 _;exact hn h3
theorem oh.func(h:oh w0 bs b vF vM fs gs ms mb w)(f:cZ)(g:Nat)(hg:pG w bs g (aL f.code) (atS 0 f.code))(hlo:w0.heap.size<=g)(s:Sl w' 82 2 v' (ee fs+1) ((fs.zip gs).flatMap Fq++Fq (f,g)))(m:aa (λk=>vF.ownBlock=eC k) w w')(l:∀k,v'.ownBlock=eC k->vF.ownBlock=eC k\/w.heap.size<=k):ak w' b #[vJ 0,.int .u32 0,vF,vM] 79/\oh w0 bs b v' vM (fs++[f]) (gs++[g]) ms mb (w'.setCell ⟨b,2,ez⟩ v'):=by
 have hB:=h.blk.ae m (λe=>h.yw.ay h.blk (by decide) e);refine⟨hB,?_⟩;have mP:aa (Only b) w' (w'.setCell ⟨b,2,ez⟩ v'):=aA.bz _ _;have hC:∀{g n:Nat} {l:List (PI×Nat)},pG w bs g n l->pG (w'.setCell ⟨b,2,ez⟩ v') bs g n l:=fun{g n l} hb=>by obtain⟨cs,hk,_⟩:=hb.ex;have h1:=hb.ae m (λe=>h.yw.ay hk (by decide) e);obtain⟨cs',hk',_⟩:=h1.ex;exact h1.ae mP (λe=>(ak.neq hk' hB (by decide)) e)
 have hM:=λi a c=>by have h1:=(h.maps i a c).ae m (λe=>h.yw.ay (h.maps i a c) (by decide) e);exact h1.ae mP (λe=>(ak.neq h1 hB (by decide)) e)
 have hs:=s.ae mP (λk hk e=>s.ay hB (by decide) (hk.trans (congrArg eC e)));have hms:=h.Eo.ae m (λk hk e=>h.Eo.apart h.yw (by decide) hk e);refine⟨hB.set 2 v',by simp[h.lf],?_,λi a c=>?_,h.lm,hms.ae mP (λk hk e=>hms.ay hB (by decide) (hk.trans (congrArg eC e))),hM,h.lo,λk hk=>?_,h.BA,λx hx=>?_,h.ownB,h.nd,?_⟩
 ·rw[List.zip_append h.lf.symm,cH,an]
  simpa using hs
 ·by_cases hi:i<ee fs
  ·have hi':i<ee gs:=by rw[h.lf];exact hi
   simp only[b9 hi,b9 hi'];exact hC (h.code i hi hi')
  ·have e1:i=ee fs:=by simp at a;omega
   have e3:(fs++[f])[i]=f:=by subst e1;simp
   have e4:(gs++[g])[i]=g:=by subst e1;simp[<-h.lf]
   rw[e3,e4];exact hC hg
 ·rcases l k hk with e|e
  ·exact h.Ar k e
  ·have:=h.md.size;omega
 ·rcases List.mem_append.1 hx with hx|hx
  ·exact h.rR x hx
  ·rw[List.mem_singleton.1 hx];exact hlo
 ·refine(h.md.step m (λi hi e=>by have:=h.Ar i e;omega)).step mP (λi hi e=>?_);have e':i=b:=e;have:=h.lo;omega
theorem oh.map(h:oh w0 bs b vF vM fs gs ms mb w)(x:aW)(g:Nat)(hg:ak w g #[eI (T x.name),vI x.key,vI x.value,vI x.entries,vN] 179)(hlo:w0.heap.size<=g)(hnew:g ∉ mb)(s:Sl w' 114 1 v' (ee ms+1) (mb.flatMap mpC++mpC g))(m:aa (λk=>vM.ownBlock=eC k) w w')(l:∀k,v'.ownBlock=eC k->vM.ownBlock=eC k\/w.heap.size<=k):ak w' b #[vJ 0,.int .u32 0,vF,vM] 79/\oh w0 bs b vF v' fs gs (ms++[x]) (mb++[g]) (w'.setCell ⟨b,3,ez⟩ v'):=by
 have hB:=h.blk.ae m (λe=>h.Eo.ay h.blk (by decide) e);refine⟨hB,?_⟩;have mP:aa (Only b) w' (w'.setCell ⟨b,3,ez⟩ v'):=aA.bz _ _;have hC:∀{g n:Nat} {l:List (PI×Nat)},pG w bs g n l->pG (w'.setCell ⟨b,3,ez⟩ v') bs g n l:=fun{g n l} hb=>by obtain⟨cs,hk,_⟩:=hb.ex;have h1:=hb.ae m (λe=>h.Eo.ay hk (by decide) e);obtain⟨cs',hk',_⟩:=h1.ex;exact h1.ae mP (λe=>(ak.neq hk' hB (by decide)) e)
 have hM:∀{g:Nat} {cs:tAV},ak w g cs 179->ak (w'.setCell ⟨b,3,ez⟩ v') g cs 179:=fun{g cs} hb=>by have h1:=hb.ae m (λe=>h.Eo.ay hb (by decide) e);exact h1.ae mP (λe=>(ak.neq h1 hB (by decide)) e)
 have hs:=s.ae mP (λk hk e=>s.ay hB (by decide) (hk.trans (congrArg eC e)));have hfs:=h.yw.ae m (λk hk e=>h.yw.apart h.Eo (by decide) hk e);refine⟨hB.set 3 v',h.lf,hfs.ae mP (λk hk e=>hfs.ay hB (by decide) (hk.trans (congrArg eC e))),λi a c=>hC (h.code i a c),by simp[h.lm],?_,λi a c=>?_,h.lo,h.Ar,λk hk=>?_,h.rR,λy hy=>?_,?_,?_⟩
 ·rw[cH,an]
  simpa using hs
 ·by_cases hi:i<ee ms
  ·have hi':i<ee mb:=by rw[h.lm];exact hi
   simp only[b9 hi,b9 hi'];exact hM (h.maps i hi hi')
  ·have e1:i=ee ms:=by simp at a;omega
   have e3:(ms++[x])[i]=x:=by subst e1;simp
   have e4:(mb++[g])[i]=g:=by subst e1;simp[<-h.lm]
   rw[e3,e4];exact hM hg
 ·rcases l k hk with e|e
  ·exact h.BA k e
  ·have:=h.md.size;omega
 ·rcases List.mem_append.1 hy with hy|hy
  ·exact h.ownB y hy
  ·rw[List.mem_singleton.1 hy];exact hlo
 ·rw[List.nodup_append];refine⟨h.nd,by simp,λa ha c hc e=>?_⟩;rw[List.mem_singleton.1 hc]at e;exact hnew (e ▸ ha)
 ·refine(h.md.step m (λi hi e=>by have:=h.BA i e;omega)).step mP (λi hi e=>?_);have e':i=b:=e;have:=h.lo;omega
end
theorem R4:(prog.info? 82).map (λi=>(i.zero,i.size,i.bytes))=eC (eC (fW #[eI ByteArray.empty,vN]),2,40):=by kernel_rfl
theorem R5:(prog.info? 114).map (λi=>(i.zero,i.size,i.bytes))=eC (eC (vO),1,8):=by kernel_rfl
theorem Fs:∀(l pre z:tLV),ee z=ee l->(l.zipIdx (ee pre)).foldl (λ(cs:tAV) x=>cs.setIfInBounds (0+x.2) x.1) (pre++z).toArray=(pre++l).toArray
 |[],pre,z,h=>by have :=List.length_eq_zero_iff.1 h;subst this;rfl
 |a::l,pre,[],h=>by cases h
 |a::l,pre,b::z,h=>by
  rw[List.zipIdx_cons,List.foldl_cons];have e:((pre++b::z).toArray.setIfInBounds (0+ee pre) a)=((pre++[a])++z).toArray:=by rw[Nat.zero_add,List.setIfInBounds_toArray,cD _ _ (bt _),Nat.sub_self,dq,bh];rfl
  have ih:=Fs l (pre++[a]) z (by simpa using h);rw[an,List.length_singleton]at ih;show(l.zipIdx (ee pre+1)).foldl _ ((pre++b::z).toArray.setIfInBounds (0+ee pre) a)=_
  rw[e,ih,bh];rfl
theorem R6(n:Nat)(cs z:tAV)(hc:cs.size=n)(hz:z.size=n):Instr.fill (λi=>eC (i*n,n)) z [(0,fW cs)]=eC cs:=by
 obtain⟨l⟩:=cs;obtain⟨m⟩:=z;simp only[dt]at hc hz;have h:=Fs l [] m (by omega);have hcl:(Value.agg l.toArray).cells=l.toArray:=rfl;simp only[Instr.fill,hcl,dt,hc,hz];rw[iN9 (by simp)];simp only[List.nil_append,cj]at h
 simpa using h
theorem wW{P:jz}{o:fY}{a:Act}{w:tW}{K:Act->tW->Prop}{Q:Exit->Act->tW->Prop}(t e:gh)(n:Nat)(x:oR)(ho:o.op=.buildSlice t 1 #[(0,x)])(cs:tAV)(hx:a.eval x=fW cs)(hn:cs.size=n)(i:TypeInfo)(z:eM)(hu:P.underlying t=eC (.slice e)) (hi:P.info? e=eC i) (hz:i.zero=eC z) (hs:i.size=n) (h0:0<n) (h1:n<=1000)(h:K (a.put o.dst (eK (eC ⟨w.heap.size,0,ez⟩) 1 1)) (w.alloc (eR cs e))):o.wp P a w K Q:=by refine wp_buildSlice t e 1 _ ho cs i z hu hi hz (by rw[hs];omega) (by rw[hs];omega) ?_ h;rw[hs];simp only[List.map_toArray,List.map_cons,List.map_nil,hx];exact R6 n _ _ hn (by simp)
def zk(w:tW)(d:List aW×List cZ×PR)(e:Ending)(w':tW):Prop :=
 if d.2.2.bad then e=fR (gb #[vO,vI 7])/\aa ah w w'
 else ∃bs b vF vM gs mb tv wT,e=fR (gb #[vP b,vI 0])/\aT 0 wT tv bs ax/\aa ah w wT/\(∀f∈d.2.1,∀x∈f.code,kz x)/\oh wT bs b vF vM d.2.1 gs d.1 mb w'
theorem Ka(w:tW)(hW:xG w)(s:tLB)(hs:ee s<=fX)(hok:(bQ s).2.2.bad=false->(∀f∈(bQ s).2.1,ee f.name<=255/\f.code.length<=2000)/\(∀m∈(bQ s).1,ee m.name<=255/\m.key<256/\m.value<256/\m.entries<256)/\(bQ s).2.1.length<=1000/\(bQ s).1.length<=1000):fL prog 17 #[eI (T s)] w λe w'=>zk w (bQ s) e w':=by
 have adr:=ai (zP w hW);have ads:=ai (λwT tv bs hT=>MJ wT wT tv bs hT aA s hs);have AY:af _:=hok;clear hW hok;generalize bQ s=d at *;obtain⟨ms,fs,⟨rst,bad⟩⟩:=d;unfold zk;simp only at *;go_in;go_wp2_with fail;refine adr.o.mono ?_;rintro e w1 ⟨tv,bs,rfl,hO,m1⟩;obtain⟨oT,cT,hv,_⟩:=hO.sl.view;subst hv;have HO:=ai hO;have dB:=ai m1;clear hO m1 adr;go_wp2_with fail;refine(ads.o _ _ _ HO.o).mono ?_;rintro e w2 ⟨vM,vF,vs,rfl,m2,⟨oM,nM,cM,oF,nF,cF,rfl,rfl⟩,hgood⟩;have dV:=ai m2;have HG:af _:=hgood;clear m2 hgood ads;cases bad with
 |true =>go_wp2_with fail;go_ret2;exact⟨rfl,(dB.o.trans dV.o).alloc _⟩
 |false =>
  obtain⟨hmL,hF⟩:=HG.o rfl;obtain⟨k1,k2,k3,k4⟩:=AY.o rfl;obtain rfl:nM=ee ms:=by obtain⟨_,_,e,_⟩:=hmL.view;cases e;rfl
  obtain rfl:nF=ee fs:=by obtain⟨_,_,e,_⟩:=hF.sl.view;cases e;rfl
  have HmL:=ai hmL;have HF:=ai hF;have HK1:=ai k1;have HK2:=ai k2;clear hmL hF k1 k2 HG AY;go_upto_block 0 with fail;have VF:af (aa ah w2 (w2.alloc (eR #[eK oM (ee ms) cM,eK oF (ee fs) cF] 99))):=aq;have HPb:=ai (ak.new w2 #[eK oM (ee ms) cM,eK oF (ee fs) cF] 99);have TL:af ((w2.alloc (eR #[eK oM (ee ms) cM,eK oF (ee fs) cF] 99)).heap.size=w2.heap.size+1):=by simp[af]
  generalize hwp:w2.alloc (eR #[eK oM (ee ms) cM,eK oF (ee fs) cF] 99)=wP at *;clear hwp;have Um:=ai (HF.o.quiet VF.o);have HPM:=ai (HmL.o.ae VF.o (λ_ _=>id));have uf:=ai (HO.o.ae (dV.o.trans VF.o));have GM:=ai ((dB.o.trans dV.o).trans VF.o);have HA0:af (oh wP bs (w2.heap.size+1) (vN) (vN) [] [] [] [] (wP.alloc (eR #[vJ 0,.int .u32 0,vN,vN] 79))):=by refine⟨?_,rfl,Sl.nil _ _ _,(λi h=>by cases h),rfl,Sl.nil _ _ _,(λi h=>by cases h),by rw[TL.o];exact bt _,(λk h=>by cases h),(λk h=>by cases h),(λg h=>by cases h),(λg h=>by cases h),List.nodup_nil,aq⟩;have:=ak.new wP #[vJ 0,.int .u32 0,vN,vN] 79;rw[TL.o]at this;exact this
  generalize wP.alloc (eR #[vJ 0,.int .u32 0,vN,vN] 79)=wM at *;have HBP:af (w2.heap.size<wP.heap.size):=by rw[af,TL.o];omega
  generalize w2.heap.size+1=B at *;generalize w2.heap.size=Pb at *;clear HF HmL HO dB dV VF TL;obtain⟨iP,hiP,sK,hsP,wJ⟩:=lO R4;go_cut [24] (λ_ wx=>∃vF gs,oh wP bs B vF (vN) fs gs [] [] wx)
  case first =>
   go_wp2_with fail;go_loopg [24] (ee fs) (λq iv wx=>∃(k:Nat) (vF:eM) (gs:tLN),iv=vI k/\oh wP bs B vF (vN) (fs.take k) gs [] [] wx/\k<=ee fs/\q=ee fs-k)
   case atStart=>exact⟨0,_,[],rfl,HA0.o,du _,rfl⟩
   case round =>
    obtain⟨k,vFk,gs,rfl,hA,hk,rfl⟩:=hrel;have hlt':ee (fs.take k)=k:=by rw[cQ];omega
    obtain⟨oV,cV,hvV,_⟩:=hA.yw.view;rw[hlt']at hvV;subst hvV;by_cases hlt:k<ee fs
    ·have Wv:=Um.o.quiet hA.md;have hiv:k<ee vs:=by rw[Wv.len];exact hlt
     obtain⟨gF,rfl,c0,c1'⟩:=Wv.XR k hlt hiv;have sZ:=Wv.cd k hlt hiv;have hkn:=HK1.o fs[k] (cx hlt);have afq:=ai (Wv.ok fs[k] (cx hlt));have Ww:=ai (b5 hlt);obtain⟨oC,cC,hvC,_⟩:=sZ.view;rw[hvC]at c1' sZ;have HA:=ai hA;have MI:=ai sZ;clear Wv sZ hA hvC;generalize hfk:fs[k]=f at *;obtain⟨nm,code⟩:=f;simp only at *;go_upto_region 8 with fail;have lq:af (oh wP bs B (eK oV k cV) (vN) (fs.take k) gs [] [] (wr.alloc (eR #[eI (T nm),eK oC (ee code) cC] 109))):=HA.o.quiet aq;have Rk:af (Sl (wr.alloc (eR #[eI (T nm),eK oC (ee code) cC] 109)) 141 8 (eK oC (ee code) cC) (ee code) (kI bs code)):=MI.o.ae ((aa.refl ah _).alloc _) (λ_ _=>id);have HX3:=ai (ak.new wr #[eI (T nm),eK oC (ee code) cC] 109);clear HA MI c0 c1';generalize wr.alloc (eR #[eI (T nm),eK oC (ee code) cC] 109)=W3 at *;generalize wr.heap.size=X at *;have HKC:=ai (λw' (_:aa ah W3 w')=>J8 w' (T nm) (by rw[bS];omega));have EO:=ai (λw' m=>J9 w' _ bs (uf.o.ae (lq.o.md.trans m)) code afq.o (by omega) _ (Rk.o.ae m (λ_ _=>id)) (T nm));have HFN:af (∀(W:tW) g,aa ah W3 W->pG W bs g (aL code) (atS 0 code)->W3.heap.size<=g->∀v' w',Sl w' 82 2 v' (k+1) (((fs.take k).zip gs).flatMap Fq++[eI (T nm),eK (eC ⟨g,0,ez⟩) (aL code) (aL code)])->aa (λj=>(Value.slice oV k cV).ownBlock=eC j) W w'->(∀j,v'.ownBlock=eC j->(Value.slice oV k cV).ownBlock=eC j\/W.heap.size<=j)->(∃oA cA,v'=eK oA (k+1) cA)/\ak w' B #[vJ 0,.int .u32 0,eK oV k cV,vN] 79/\oh wP bs B v' (vN) (fs.take (k+1)) (gs++[g]) [] [] (w'.setCell ⟨B,2,ez⟩ v')):=λW g mW hg hlo v' w' s m l=>by obtain⟨oA,cA,Bw,_⟩:=s.view;have hq:=lq.o.quiet mW;have:=hq.func ⟨nm,code⟩ g hg (by have:=lq.o.md.size;omega) (by rw[hlt'];exact s) m l;rw[Ww.o];exact⟨⟨oA,cA,Bw⟩,this⟩
     have TG:af (∀W,aa ah W3 W->Sl W 82 2 (eK oV k cV) k (((fs.take k).zip gs).flatMap Fq)):=λW mW=>by
      have:=(lq.o.quiet mW).yw
      rwa [hlt']at this
     have Wy:af (∀e:Ext (λj=>(Value.slice oV k cV).ownBlock=eC j) W3,ak e.w B #[vJ 0,.int .u32 0,eK oV k cV,vN] 79/\ak e.w X #[eI (T nm),eK oC (ee code) cC] 109):=λe=>⟨lq.o.blk.ae e.m (λh=>lq.o.yw.ay lq.o.blk (by decide) h),HX3.o.ae e.m (λh=>lq.o.yw.ay HX3.o (by decide) h)⟩
     haveI:Nonempty (Ext (λj=>(Value.slice oV k cV).ownBlock=eC j) W3):=Ext.ne _ _
     have d2:=λ(e:Ext (λj=>(Value.slice oV k cV).ownBlock=some j) W3)=>(Wy.o e).1.c2;have x0:=λ(e:Ext (λj=>(Value.slice oV k cV).ownBlock=some j) W3)=>(Wy.o e).2.c0;have x1:=λ(e:Ext (λj=>(Value.slice oV k cV).ownBlock=some j) W3)=>(Wy.o e).2.c1;clear Ww Rk;refine dS 13 [7,9,10,11,12] (λw'=>∃e:Ext (λj=>(Value.slice oV k cV).ownBlock=eC j) W3,w'=e.w) (by kernel_rfl) (by kernel_rfl) ⟨⟨_,aU⟩,rfl⟩ ?_;simp only[cI,cY,cN,de]
     iterate 2 (refine aG rfl rfl rfl ?_;intro K hK;go_big_quiet_op;go_big_quiet_on)
     refine eF rfl rfl _ ⟨B,0,ez⟩ rfl rfl ?_;simp only[Act.put,sA9,sB9,sC9]
     iterate 4 (refine aG rfl rfl rfl ?_;intro K hK;go_big_quiet_op;go_big_quiet_on)
     refine aN rfl rfl ?_;intro K hK;go_big_op;refine(HKC.o _ aU).mono ?_;rintro e w4 ⟨rfl,m4⟩;have M4:=ai (aU.trans m4);refine hK _ _ rfl ⟨⟨_,M4.o.of_nil⟩,rfl⟩ ?_;clear hK K m4
     try simp only[Act.put,sA9,sB9,sC9]
     refine aG rfl rfl rfl ?_;intro K hK;go_big_quiet_op;go_big_quiet_on;refine aN rfl rfl ?_;intro K hK;go_big_op;refine(EO.o _ M4.o).mono ?_;rintro e w5 ⟨g5,rfl,hg5,hb5,m5⟩;have M5:=ai (M4.o.trans m5);have HG5:af (W3.heap.size<=g5/\pG w5 bs g5 (aL code) (atS 0 code)):=⟨by have:=M4.o.size;omega,hb5⟩
     refine hK _ _ rfl ⟨⟨_,M5.o.of_nil⟩,rfl⟩ ?_;clear hK K m5 hg5 hb5
     try simp only[Act.put,sA9,sB9,sC9]
     generalize aL code=sc at *;refine aN rfl rfl ?_;intro K hK;go_big_op;refine hK _ _ rfl ⟨⟨_,M5.o.of_nil⟩,rfl⟩ ?_;clear hK K
     try simp only[Act.put,sA9,sB9,sC9]
     refine aN rfl rfl ?_;intro K hK;refine wW 76 82 2 (.tmp 38) rfl #[eI (T nm),eK (eC ⟨g5,0,ez⟩) sc sc] rfl rfl iP _ underlying76 hiP sK hsP (by decide) (by decide) ?_;have M6:=ai (M5.o.alloc (eR #[eI (T nm),eK (eC ⟨g5,0,ez⟩) sc sc] 82));have HG6:af (pG (w5.alloc (eR #[eI (T nm),eK (eC ⟨g5,0,ez⟩) sc sc] 82)) bs g5 sc (atS 0 code)):=HG5.o.2.ae ((aa.refl ah _).alloc _) id;refine hK _ _ rfl ⟨⟨_,M6.o.of_nil⟩,rfl⟩ ?_;clear hK K
     try simp only[Act.put,sA9,sB9,sC9]
     refine aN rfl rfl ?_;intro K hK;refine eG _ (.tmp 32) (.tmp 39) 76 rfl 82 iP (fW #[eI ByteArray.empty,vN]) 2 40 underlying76 hiP sK hsP wJ rfl (by decide) (eK oV k cV) k (((fs.take k).zip gs).flatMap Fq) rfl (TG.o _ M6.o) ⟨w5.heap.size,0,ez⟩ 1 1 (#[eI (T nm),eK (eC ⟨g5,0,ez⟩) sc sc]:tAV).toList rfl rfl (aY _ _ _ _ rfl) (by simp[Value.oneCell']) (by unfold fX;omega) (by omega) ?_;intro vA wA sA mA lA;obtain⟨⟨oA,cA,Bw⟩,MN,Jo⟩:=HFN.o _ g5 M6.o HG6.o HG5.o.1 vA wA sA mA lA;subst Bw;have MA:=ai ((M6.o.of_nil).trans mA);refine hK _ _ rfl ⟨⟨_,MA.o⟩,rfl⟩ ?_;clear hK K;refine dR ?_;have pA2:=MN.cell 2;have pAf:=MN.frozen;have Yh:=ai Jo;clear sA mA lA MN Jo d2 x0 x1;go_wp2_with fail;go_roundg (ee fs-(k+1))
     case measure=>omega
     case rel=>exact⟨k+1,_,_,by go_num,Yh.o,by omega,rfl⟩
    ·obtain rfl:k=ee fs:=by omega
     rw[cX (bt _)]at hA;go_wp2_with fail;go_meet;exact⟨_,gs,hA⟩
  case rest =>
  obtain⟨vFe,gs,hA⟩:=hcut;obtain⟨oV,cV,hvV,_⟩:=hA.yw.view;subst hvV;have HA1:=ai hA;have HFO:=ai Um.o.ok;have p0:=(HPb.o.ae hA.md id).c0;clear hA HA0 Um;obtain⟨iQ,hiQ,hzQ,hsQ,hbQ⟩:=lO R5;obtain⟨wC,hwC⟩:∃wC,wC=wc:=⟨_,rfl⟩
  rw[<-hwC]at HA1;go_upto_block 2 with fail;clear p0;go_cut [47] (λ_ wx=>∃vM mb,oh wP bs B (eK oV (ee fs) cV) vM fs gs ms mb wx)
  case first =>
   go_wp2_with fail;go_loopg [47] (ee ms) (λq iv wx=>∃(k:Nat) (vM:eM) (mb:tLN),iv=vI k/\oh wP bs B (eK oV (ee fs) cV) vM fs gs (ms.take k) mb wx/\k<=ee ms/\q=ee ms-k)
   case atStart=>exact⟨0,_,[],rfl,by rw[<-hwC];exact HA1.o,du _,rfl⟩
   case round =>
    clear hwC;obtain⟨k,vMk,mb,rfl,hA,hk,rfl⟩:=hrel;have hlt':ee (ms.take k)=k:=by rw[cQ];omega
    obtain⟨oU,cU,hvU,_⟩:=hA.Eo.view;rw[hlt']at hvU;subst hvU;by_cases hlt:k<ee ms
    ·obtain⟨gM,rfl,q0,q1,q2,q3⟩:=ZU (HPM.o.ae hA.md (λ_ _=>id)) rfl rfl k hlt;have hkn:=HK2.o ms[k] (cx hlt);have Ww:=ai (b5 hlt);have HA:=ai hA;clear hA;generalize hmk:ms[k]=x at *;obtain⟨nm,mk,mv,me⟩:=x;simp only at *;go_upto_region 13 with fail;have lq:af (oh wP bs B (eK oV (ee fs) cV) (eK oU k cU) fs gs (ms.take k) mb (wr.alloc (eR #[eI (T nm),vB (mk:Nat),vB (mv:Nat),vB (me:Nat)] 113))):=HA.o.quiet aq;have HX3:=ai (ak.new wr #[eI (T nm),vB (mk:Nat),vB (mv:Nat),vB (me:Nat)] 113);clear HA q0 q1 q2 q3;generalize wr.alloc (eR #[eI (T nm),vB (mk:Nat),vB (mv:Nat),vB (me:Nat)] 113)=W3 at *;generalize wr.heap.size=X at *;have HKC:=ai (λw'=>J8 w' (T nm) (by rw[bS];omega))
     have HFN:af (∀(W:tW) g,aa ah W3 W->ak W g #[eI (T nm),vI mk,vI mv,vI me,vN] 179->W3.heap.size<=g->∀v' w',Sl w' 114 1 v' (k+1) (mb.flatMap mpC++[vP g])->aa (λj=>(Value.slice oU k cU).ownBlock=eC j) W w'->(∀j,v'.ownBlock=eC j->(Value.slice oU k cU).ownBlock=eC j\/W.heap.size<=j)->(∃oA cA,v'=eK oA (k+1) cA)/\ak w' B #[vJ 0,.int .u32 0,eK oV (ee fs) cV,eK oU k cU] 79/\oh wP bs B (eK oV (ee fs) cV) v' fs gs (ms.take (k+1)) (mb++[g]) (w'.setCell ⟨B,3,ez⟩ v')):=λW g mW hg hlo v' w' s m l=>by obtain⟨oA,cA,Bw,_⟩:=s.view;have hq:=lq.o.quiet mW;have:=hq.map ⟨nm,mk,mv,me⟩ g hg (by have:=lq.o.md.size;omega) (λhm=>by obtain⟨i,hi,e⟩:=dp hm;have h1:=(lq.o.maps i (by rw[<-lq.o.lm];exact hi) hi).lt;omega) (by rw[hlt'];exact s) m l;rw[Ww.o];exact⟨⟨oA,cA,Bw⟩,this⟩
     have TG:af (∀W,aa ah W3 W->Sl W 114 1 (eK oU k cU) k (mb.flatMap mpC)):=λW mW=>by
      have:=(lq.o.quiet mW).Eo
      rwa [hlt']at this
     have Wy:af (∀e:Ext (λj=>(Value.slice oU k cU).ownBlock=eC j) W3,ak e.w B #[vJ 0,.int .u32 0,eK oV (ee fs) cV,eK oU k cU] 79/\ak e.w X #[eI (T nm),vB (mk:Nat),vB (mv:Nat),vB (me:Nat)] 113):=λe=>⟨lq.o.blk.ae e.m (λh=>lq.o.Eo.ay lq.o.blk (by decide) h),HX3.o.ae e.m (λh=>lq.o.Eo.ay HX3.o (by decide) h)⟩
     haveI:Nonempty (Ext (λj=>(Value.slice oU k cU).ownBlock=eC j) W3):=Ext.ne _ _
     have d3:=λ(e:Ext (λj=>(Value.slice oU k cU).ownBlock=some j) W3)=>(Wy.o e).1.c3;have x0:=λ(e:Ext (λj=>(Value.slice oU k cU).ownBlock=some j) W3)=>(Wy.o e).2.c0;have x1:=λ(e:Ext (λj=>(Value.slice oU k cU).ownBlock=some j) W3)=>(Wy.o e).2.c1;have x2:=λ(e:Ext (λj=>(Value.slice oU k cU).ownBlock=some j) W3)=>(Wy.o e).2.c2;have x3:=λ(e:Ext (λj=>(Value.slice oU k cU).ownBlock=some j) W3)=>(Wy.o e).2.c3;clear Ww;refine dS 20 [7,17,18,19] (λw'=>∃e:Ext (λj=>(Value.slice oU k cU).ownBlock=eC j) W3,w'=e.w) (by kernel_rfl) (by kernel_rfl) ⟨⟨_,aU⟩,rfl⟩ ?_;simp only[cI,cY,cN,de]
     iterate 2 (refine aG rfl rfl rfl ?_;intro K hK;go_big_quiet_op;go_big_quiet_on)
     refine eF rfl rfl _ ⟨B,0,ez⟩ rfl rfl ?_;simp only[Act.put,sA9,sB9,sC9]
     iterate 4 (refine aG rfl rfl rfl ?_;intro K hK;go_big_quiet_op;go_big_quiet_on)
     refine aN rfl rfl ?_;intro K hK;go_big_op;refine(HKC.o _).mono ?_;rintro e w4 ⟨rfl,m4⟩;have M4:=ai (aU.trans m4);refine hK _ _ rfl ⟨⟨_,M4.o.of_nil⟩,rfl⟩ ?_;clear hK K m4
     try simp only[Act.put,sA9,sB9,sC9]
     iterate 9 (refine aG rfl rfl rfl ?_;intro K hK;go_big_quiet_op;go_big_quiet_on)
     refine aN rfl rfl ?_;intro K hK;go_big_op;refine(MM _ _ _ _ _).mono ?_;rintro e w5 ⟨rfl,rfl⟩;have M5:=ai (M4.o.alloc (eR #[eI (T nm),vI mk,vI mv,vI me,vN] 179));have HG5:=ai (ak.new w4 #[eI (T nm),vI mk,vI mv,vI me,vN] 179);have HL5:=ai M4.o.size;refine hK _ _ rfl ⟨⟨_,M5.o.of_nil⟩,rfl⟩ ?_;clear hK K
     try simp only[Act.put,sA9,sB9,sC9]
     generalize w4.alloc (eR #[eI (T nm),vI mk,vI mv,vI me,vN] 179)=w5 at *;generalize w4.heap.size=g5 at *;refine aN rfl rfl ?_;intro K hK;go_big_op;have M6:=ai (M5.o.alloc (eR #[vP g5] 114));have HG6:af (ak (w5.alloc (eR #[vP g5] 114)) g5 #[eI (T nm),vI mk,vI mv,vI me,vN] 179):=HG5.o.alloc _;refine hK _ _ rfl ⟨⟨_,M6.o.of_nil⟩,rfl⟩ ?_;clear hK K
     try simp only[Act.put,sA9,sB9,sC9]
     refine aN rfl rfl ?_;intro K hK;refine eG _ (.tmp 55) (.tmp 69) 77 rfl 114 iQ (vO) 1 8 underlying77 hiQ hzQ hsQ hbQ rfl (by decide) (eK oU k cU) k (mb.flatMap mpC) rfl (TG.o _ M6.o) ⟨w5.heap.size,0,ez⟩ 1 1 (#[vP g5]:tAV).toList rfl rfl (aY _ _ _ _ rfl) (by simp[Value.oneCell']) (by unfold fX;omega) (by omega) ?_;intro vA wA sA mA lA;obtain⟨⟨oA,cA,Bw⟩,MN,Jo⟩:=HFN.o _ g5 M6.o HG6.o HL5.o vA wA sA mA lA;subst Bw;have MA:=ai ((M6.o.of_nil).trans mA);refine hK _ _ rfl ⟨⟨_,MA.o⟩,rfl⟩ ?_;clear hK K;refine dR ?_;have pA3:=MN.cell 3;have pAf:=MN.frozen;have Yh:=ai Jo;clear sA mA lA MN Jo d3 x0 x1 x2 x3;go_wp2_with fail;go_roundg (ee ms-(k+1))
     case measure=>omega
     case rel=>exact⟨k+1,_,_,by go_num,Yh.o,by omega,rfl⟩
    ·obtain rfl:k=ee ms:=by omega
     rw[cX (bt _)]at hA;go_wp2_with fail;go_meet;exact⟨_,mb,hA⟩
  case rest =>
  obtain⟨vMe,mb,hA⟩:=hcut;have HAE:=ai hA;clear hA;go_wp2_with fail;go_ret2;exact⟨bs,B,rfl,_,_,gs,mb,_,wP,uf.o,GM.o,HFO.o,HAE.o⟩
theorem MV.G7(rb mb:tLN)(f:jT)(h:ee f.regs=11)(n c:Nat)(hn:n<11)(hc:c<4):(f.cells rb mb)[3+n*4+c]?=((f.regs.getD n {}).cells rb mb)[c]?:=by
 unfold jT.cells;rw[bh,List.getElem?_append_right (by simp;omega),List.getElem?_append_left (by rw[uT];simp;omega)];have:=qt (MV.cells rb mb) 4 f.regs (λx _=>rfl) n c (by omega) hc;simp only[ar,cj];have hl:n<ee f.regs:=by omega
 rw[show 3+n*4+c-(0+1+1+1)=n*4+c by omega,this,List.getD_eq_getElem?_getD,List.getElem?_eq_getElem hl];rfl
theorem qu(w:tW)(b:Nat)(rb mb:tLN)(vM vC vL:eM)(r:aH)(h:aV w b rb mb vM vC vL r)(hp:0<ee r.calls)(n:Nat)(hn:n<11):fL prog 224 #[vP b,vB n] w λe w'=>e=fR (fW ((r.bq n).cells rb mb).toArray)/\aa ah w w':=by
 obtain⟨g,cap,rfl,_,h11,hc⟩:=h.view hp;have HR:=ai (λw' (m:aa ah w w')=>h.quiet m);have HT:=ai (λw' m=>Ou w' b rb mb vM vL g cap r (h.quiet m) hp);have HC:af (∀w',aa ah w w'->∀c,c<4->w'.cell? ⟨g,(ee r.calls-1)*48+3+n*4+c,ez⟩=((r.bq n).cells rb mb)[c]?):=λw' m c hc4=>by obtain⟨g',cap',e,_,_,hc'⟩:=(h.quiet m).view hp;cases e;have:=hc' (3+n*4+c) (by omega);rw[MV.G7 rb mb _ h11 n c hn hc4]at this;rw[<-cb,<-cb]at this;exact this
 clear h hc;generalize r.bq n=v at *;generalize(ee r.calls-1)*48=K at *;have HB:=ai (ak.new w #[vI 0,vU 0,vO,vO] 190);have HM:af (aa ah w (w.alloc (eR #[vI 0,vU 0,vO,vO] 190))):=aq;go_in;go_wp2_with fail;refine(HT.o _ HM.o).mono ?_;rintro e w1 ⟨rfl,m1⟩;have dB:=ai (HM.o.trans m1);have hB1:=HB.o.ae m1 id;have y0:w1.cell? ⟨g,K+3+n*4,ez⟩=eC (vI v.so):=HC.o w1 dB.o 0 (by omega);have y1:w1.cell? ⟨g,K+3+n*4+1,ez⟩=eC (vU v.bits):=HC.o w1 dB.o 1 (by omega);have y2:w1.cell? ⟨g,K+3+n*4+2,ez⟩=eC (ia (v.bq.map λr=>⟨rb.getD r 0,0,ez⟩)):=HC.o w1 dB.o 2 (by omega);have y3:w1.cell? ⟨g,K+3+n*4+3,ez⟩=eC (ia (v.tab.map λt=>⟨mb.getD t 0,0,ez⟩)):=HC.o w1 dB.o 3 (by omega);have z0:=hB1.cell 0;have z1:=hB1.cell 1;have z2:=hB1.cell 2;have z3:=hB1.cell 3;have zf:=hB1.frozen;have HB1:=ai hB1;have HV:af ((v.cells rb mb).toArray=#[vI v.so,vU v.bits,ia (v.bq.map λr=>⟨rb.getD r 0,0,ez⟩),ia (v.tab.map λt=>⟨mb.getD t 0,0,ez⟩)]):=rfl;clear hB1 m1 HB HM HC HT HR;generalize v.bq.map (λr=>(⟨rb.getD r 0,0,ez⟩:ju))=p2 at *;generalize v.tab.map (λt=>(⟨mb.getD t 0,0,ez⟩:ju))=p3 at *;go_wp2_with fail;refine iz (mz results224 _ _ w.heap.size 190 _ (0,0) _ rfl ((((HB1.o.set 0 _).set 1 _).set 2 _).set 3 _) underlying190 rfl (by kernel_rfl)) rfl ⟨by rw[HV.o];rfl,?_⟩;exact(((dB.o.set (a:=⟨w.heap.size,0,ez⟩) (Or.inr (bt _)) _).set (a:=⟨w.heap.size,1,ez⟩) (Or.inr (bt _)) _).set (a:=⟨w.heap.size,2,ez⟩) (Or.inr (bt _)) _).set (a:=⟨w.heap.size,3,ez⟩) (Or.inr (bt _)) _
theorem DE{α:Type}(enc:α->tLV)(k:Nat)(u:eM)(x':α)(j:Nat)(hj:j<k):∀(l:List α),(∀x∈l,ee (enc x)=k)->∀(i:Nat) (hi:i<ee l),enc x'=(enc l[i]).set j u->(l.flatMap enc).set (i*k+j) u=(l.set i x').flatMap enc
 |x::l,h,0,_,he=>by rw[dq,ab,ab,dj _ _ (by rw[h x (by simp)];omega),he];simp
 |x::l,h,i+1,hi,he=>by have hx:=h x (by simp);rw[List.set_cons_succ,ab,ab,cD _ _ (by rw[hx,cW];omega),hx,show(i+1)*k+j-k=i*k+j by rw[cW];omega];rw[DE enc k u x' j hj l (λy hy=>h y (by simp[hy])) i (by simpa using hi) he]
theorem Sl.afr{w:tW}{e:gh}{size:Nat}{g n cap:Nat}{xs:tLV}(h:Sl w e size (eK (eC ⟨g,0,ez⟩) n cap) n xs)(j:Nat)(u:eM):Sl (w.setCell ⟨g,j,ez⟩ u) e size (eK (eC ⟨g,0,ez⟩) n cap) n (xs.set j u):=by
 refine⟨by rw[ao];exact h.1,?_⟩;rcases h.2 with⟨h',_⟩ |⟨g',cap',cur,h',h0,hg,hn,hm,hs,ht⟩
 ·cases h'
 ·cases h';refine .inr ⟨g,cap,cur.setIfInBounds j u,rfl,h0,ak.set (t:=e) hg j u,hn,hm,by simpa using hs,?_⟩;rw[Array.toList_setIfInBounds,<-ht,List.take_set]
theorem aH.Au(r:aH)(hp:0<ee r.calls):r.top=r.calls[ee r.calls-1]:=by unfold aH.top;rw[List.getD_eq_getElem?_getD,List.getElem?_eq_getElem (by omega)];rfl
theorem aH.qw(r:aH)(hp:0<ee r.calls)(f:jT):(r.eX f).top=f:=by unfold aH.top aH.eX;rw[List.getD_eq_getElem?_getD,ao,List.getElem?_set_self (by omega)];rfl
theorem aH.Kb(r:aH)(f f':jT):(r.eX f).eX f'=r.eX f':=by unfold aH.eX;simp only[ao,List.set_set]
theorem aH.jQ(r:aH)(f:jT):ee (r.eX f).calls=ee r.calls:=ao
section
variable {w w' : World} {b g cap : Nat} {rb mb : List Nat} {vM vC vL : eM} {r : aH}
theorem aV.ne(h:aV w b rb mb vM (eK (eC ⟨g,0,ez⟩) (ee r.calls) cap) vL r):b≠g:=λe=>(h.calls.ay h.blk (by decide)) (by rw[e];rfl)
theorem aV.abN(h:aV w b rb mb vM (eK (eC ⟨g,0,ez⟩) (ee r.calls) cap) vL r)(hp:0<ee r.calls)(f:jT)(hf:ee f.regs=11)(j:Nat)(hj:j<48)(u:eM)(he:f.cells rb mb=(r.top.cells rb mb).set j u):aV (w.setCell ⟨g,(ee r.calls-1)*48+j,ez⟩ u) b rb mb vM (eK (eC ⟨g,0,ez⟩) (ee (r.eX f).calls) cap) vL (r.eX f):=by
 refine⟨by rw[aH.jQ];exact h.blk.setOther (Ne.symm h.ne) u,?_,?_,?_⟩
 ·rw[aH.jQ];have:=h.calls.afr ((ee r.calls-1)*48+j) u;rw[DE (jT.cells rb mb) 48 u f j hj r.calls (λf hf=>jT.fI rb mb f (h.regs f hf)) (ee r.calls-1) (by omega) (by rw[he,aH.Au r hp])]at this;exact this
 ·intro x hx;rcases List.mem_or_eq_of_mem_set hx with hx|rfl
  ·exact h.regs x hx
  ·exact hf
 ·rw[aH.jQ];exact h.depth
theorem aV.kit(h:aV w b rb mb vM vC vL r)(hp:0<ee r.calls):∃g cap K,vC=eK (eC ⟨g,0,ez⟩) (ee r.calls) cap/\b≠g/\g<w.heap.size /\ (∀w' zB r',aV w' b rb mb vM vC zB r'->ee r'.calls=ee r.calls->fL prog 165 #[vP b] w' λe w''=>e=fR (ia (eC ⟨g,K,ez⟩))/\aa ah w' w'') /\ (∀w' zB r',aV w' b rb mb vM vC zB r'->ee r'.calls=ee r.calls->∀j,j<48->w'.cell? ⟨g,K+j,ez⟩=(r'.top.cells rb mb)[j]?) /\ (∀w' zB r',aV w' b rb mb vM vC zB r'->ee r'.calls=ee r.calls->∀j,w'.frozen? ⟨g,j,ez⟩=false) /\ (∀w' zB r',aV w' b rb mb vM vC zB r'->ee r'.calls=ee r.calls->ee r'.top.regs=11) /\ (∀w' zB r',aV w' b rb mb vM vC zB r'->ee r'.calls=ee r.calls->∀f:jT,ee f.regs=11->∀j,j<48->∀u,f.cells rb mb=(r'.top.cells rb mb).set j u->aV (w'.setCell ⟨g,K+j,ez⟩ u) b rb mb vM vC zB (r'.eX f)):=by
 obtain⟨g,cap,rfl,_,_,_⟩:=h.view hp;refine⟨g,cap,(ee r.calls-1)*48,rfl,h.ne,h.calls.lt g rfl,?_,?_,?_,?_,?_⟩
 ·intro w' zB r' h' e;have:=h';rw[<-e]at this ⊢;exact Ou w' b rb mb vM zB g cap r' this (by omega)
 ·intro w' zB r' h' e j hj;obtain⟨g',cap',e',_,_,hc'⟩:=h'.view (by omega);injection e' with e1 _ _;injection e1 with e1;injection e1 with e1;subst e1;rw[<-e];exact hc' j hj
 ·intro w' zB r' h' e;have:=h'.calls;rw[<-e]at this;obtain⟨o,c,hv,hb⟩:=this.view;injection hv with h1 h2 h3;obtain⟨g',cs,hg,hb,_⟩:=hb (by omega);rw[<-h1]at hg;cases hg;exact hb.frozen
 ·intro w' zB r' h' e;exact h'.regs _ (h'.view (by omega)).choose_spec.choose_spec.2.1
 ·intro w' zB r' h' e f hf j hj u he;have:=h';rw[<-e]at this;have:=this.abN (by omega) f hf j hj u he;rw[aH.jQ,e]at this;exact this
end
def Own(v:eM):Nat->Prop:=λk=>v.ownBlock=eC k
theorem aa.own{w w':tW}(m:aa ah w w')(v:eM):aa (Own v) w w':=m.mono (λ_ _ h=>h.elim)
theorem aa.pH{w w':tW}{g n cap:Nat}(m:aa (Own (eK (eC ⟨g,0,ez⟩) n cap)) w w')(j:Nat)(u:eM):aa (Own (eK (eC ⟨g,0,ez⟩) n cap)) w (w'.setCell ⟨g,j,ez⟩ u):=m.set (a:=⟨g,j,ez⟩) (.inl rfl) u
theorem Wz(rb mb:tLN)(l:List MV)(n c:Nat)(v:MV)(u:eM)(hn:n<ee l)(hc:c<4)(he:v.cells rb mb=((l.getD n {}).cells rb mb).set c u):(l.set n v).flatMap (MV.cells rb mb)=(l.flatMap (MV.cells rb mb)).set (n*4+c) u:=by rw[DE (MV.cells rb mb) 4 u v c hc l (λ_ _=>rfl) n hn (by rw[he,List.getD_eq_getElem?_getD,List.getElem?_eq_getElem hn];rfl)]
theorem jT.R7(rb mb:tLN)(f:jT)(n c:Nat)(v:MV)(u:eM)(hn:n<ee f.regs)(hc:c<4)(he:v.cells rb mb=((f.regs.getD n {}).cells rb mb).set c u):({f with regs:=f.regs.set n v}:jT).cells rb mb=(f.cells rb mb).set (3+n*4+c) u:=by
 have hl:n*4+c<ee (f.regs.flatMap (MV.cells rb mb)):=by rw[uT];omega
 unfold jT.cells;rw[Wz rb mb f.regs n c v u hn hc he,bh,bh,cD _ _ (by simp;omega),dj _ _ (by simp only[ar,cj];omega)];simp only[ar,cj];rw[show 3+n*4+c-(0+1+1+1)=n*4+c by omega]
theorem aH.Av(r:aH)(hp:0<ee r.calls)(n:Nat)(v v':MV):(r.ik n v).ik n v'=r.ik n v':=by unfold aH.ik;rw[aH.qw r hp,aH.Kb];simp only[List.set_set]
theorem aH.WA(r:aH)(hp:0<ee r.calls)(n:Nat)(v:MV)(hn:n<ee r.top.regs):(r.ik n v).bq n=v:=by unfold aH.ik aH.bq;rw[aH.qw r hp];simp only[List.getD_eq_getElem?_getD];rw[List.getElem?_set_self hn];rfl
theorem aH.jf(r:aH)(n:Nat)(v:MV):ee (r.ik n v).calls=ee r.calls:=aH.jQ _ _
theorem aV.WB{b g K:Nat}{rb mb:tLN}{vM vC:eM}{N:Nat}(hp:0<N)(hR:∀w' zB r',aV w' b rb mb vM vC zB r'->ee r'.calls=N->ee r'.top.regs=11)(hS:∀w' zB r',aV w' b rb mb vM vC zB r'->ee r'.calls=N->∀f:jT,ee f.regs=11->∀j,j<48->∀u,f.cells rb mb=(r'.top.cells rb mb).set j u->aV (w'.setCell ⟨g,K+j,ez⟩ u) b rb mb vM vC zB (r'.eX f))(w:tW) (vL:eM) (r:aH) (h:aV w b rb mb vM vC vL r) (hN:ee r.calls=N) (n:Nat) (hn:n<11) (v:MV):aV ((((w.setCell ⟨g,K+3+n*4,ez⟩ (vI v.so)).setCell ⟨g,K+3+n*4+1,ez⟩ (vU v.bits)).setCell ⟨g,K+3+n*4+2,ez⟩ (ia (v.bq.map λr=>⟨rb.getD r 0,0,ez⟩))).setCell ⟨g,K+3+n*4+3,ez⟩ (ia (v.tab.map λt=>⟨mb.getD t 0,0,ez⟩))) b rb mb vM vC vL (r.ik n v):=by
 have st:∀w' r',aV w' b rb mb vM vC vL r'->ee r'.calls=N->∀c,c<4->∀(v:MV) u,v.cells rb mb=((r'.bq n).cells rb mb).set c u->aV (w'.setCell ⟨g,K+3+n*4+c,ez⟩ u) b rb mb vM vC vL (r'.ik n v):=by intro w' r' h' e c hc v u he;have h11:=hR w' vL r' h' e;have:=hS w' vL r' h' e {r'.top with regs:=r'.top.regs.set n v} (by rw[ao];exact h11) (3+n*4+c) (by omega) u (jT.R7 rb mb r'.top n c v u (by omega) hc he);rw[<-cb,<-cb]at this;exact this
 have h11:=hR w vL r h hN;have hp':0<ee r.calls:=by omega
 have q (v:MV):(r.ik n v).bq n=v:=aH.WA r hp' n v (by omega);have l (v:MV):ee (r.ik n v).calls=N:=(aH.jf r n v).trans hN;have s1:=st w r h hN 0 (by omega) {r.bq n with so:=v.so} (vI v.so) rfl;have s2:=st _ _ s1 (l _) 1 (by omega) {r.bq n with so:=v.so,bits:=v.bits} (vU v.bits) (by rw[q];rfl);rw[aH.Av r hp']at s2;have s3:=st _ _ s2 (l _) 2 (by omega) {r.bq n with so:=v.so,bits:=v.bits,bq:=v.bq} (ia (v.bq.map λr=>⟨rb.getD r 0,0,ez⟩)) (by rw[q];rfl);rw[aH.Av r hp']at s3;have s4:=st _ _ s3 (l _) 3 (by omega) v (ia (v.tab.map λt=>⟨mb.getD t 0,0,ez⟩)) (by rw[q];rfl);rw[aH.Av r hp']at s4;exact s4
def aH.mI(r:aH)(n:Nat):aH:=r.eX {r.top with next:=n}
def aH.jw(r:aH):aH:=r.eX {r.top with slot:=r.top.next}
theorem R8(w:tW)(b:Nat)(rb mb:tLN)(vM vC vL:eM)(r:aH)(h:aV w b rb mb vM vC vL r):fL prog 83 #[vP b] w λe w'=>e=fR (.bool r.ended)/\aa ah w w':=by have x7:=h.blk.c7;clear h;go_in;go_wp2_with fail;go_ret;exact⟨rfl,aA⟩
theorem jT.MO(rb mb:tLN)(f:jT)(n:Nat):({f with slot:=n}:jT).cells rb mb=(f.cells rb mb).set 1 (vI n):=rfl
theorem jT.MQ(rb mb:tLN)(f:jT)(n:Nat):({f with next:=n}:jT).cells rb mb=(f.cells rb mb).set 2 (vI n):=rfl
theorem DF(w:tW)(b:Nat)(rb mb:tLN)(vM vC vL:eM)(r:aH)(h:aV w b rb mb vM vC vL r)(hp:0<ee r.calls):fL prog 82 #[vP b] w λe w'=>e=fR (gb #[vI r.top.fn,vI r.top.slot])/\aa ah w w':=by
 obtain⟨g,cap,K,_,_,_,hT,hC,_⟩:=h.kit hp;have HC:af (∀w',aa ah w w'->w'.cell? ⟨g,K,ez⟩=eC (vI r.top.fn)/\w'.cell? ⟨g,K+1,ez⟩=eC (vI r.top.slot)):=λw' m=>⟨hC w' vL r (h.quiet m) rfl 0 (by omega),hC w' vL r (h.quiet m) rfl 1 (by omega)⟩
 have HT:=hT w vL r h rfl;clear h hC hT;go_in;go_wp2_with fail;refine HT.mono ?_;rintro e w1 ⟨rfl,m1⟩;have dB:=ai m1;obtain⟨y0,y1⟩:=HC.o w1 m1;clear HC HT m1;go_wp2_with fail;go_quiet (fail);have dV:=ai (dB.o.drewN nq);clear y0 y1 dB;generalize w1.drewN nq=w2 at *;go_wp2_with fail;go_ret2;exact⟨rfl,dV.o⟩
theorem WC(w:tW)(b:Nat)(rb mb:tLN)(vM vC vL:eM)(r:aH)(h:aV w b rb mb vM vC vL r)(hp:0<ee r.calls):fL prog 85 #[vP b] w λe w'=>e=fR (gb #[])/\aV w' b rb mb vM vC vL r.jw/\aa (Own vC) w w':=by
 obtain⟨g,cap,K,rfl,_,_,hT,hC,hF,hR,hS⟩:=h.kit hp;have HT:=hT w vL r h rfl
 have HC:af (∀w',aa ah w w'->aV (w'.setCell ⟨g,K+1,ez⟩ (vI r.top.next)) b rb mb vM (eK (eC ⟨g,0,ez⟩) (ee r.calls) cap) vL r.jw/\w'.cell? ⟨g,K+1,ez⟩=eC (vI r.top.slot)/\w'.cell? ⟨g,K+2,ez⟩=eC (vI r.top.next)/\∀j,w'.frozen? ⟨g,j,ez⟩=false):=λw' m =>
  ⟨hS w' vL r (h.quiet m) rfl {r.top with slot:=r.top.next} (hR w' vL r (h.quiet m) rfl) 1 (by omega) _ (jT.MO rb mb _ _),hC w' vL r (h.quiet m) rfl 1 (by omega),hC w' vL r (h.quiet m) rfl 2 (by omega),hF w' vL r (h.quiet m) rfl⟩
 clear h hT hC hF hR hS;go_in;go_wp2_with fail;refine HT.mono ?_;rintro e w1 ⟨rfl,m1⟩;have dB:=ai m1;obtain⟨hr,y0,y1,yf⟩:=HC.o w1 m1;have HR:=ai hr;clear HC HT m1 hr;go_wp2_with fail;go_end0;exact⟨rfl,HR.o,(dB.o.own _).pH (K+1) _⟩
def aH.begin(r:aH)(n:Nat):aH:=aH.mI {r with used:=r.used+1} (r.top.slot+n)
theorem BN(w:tW)(b:Nat)(rb mb:tLN)(vM vC vL:eM)(r:aH)(h:aV w b rb mb vM vC vL r)(hp:0<ee r.calls)(n:Nat)(hn:n<11)(v:MV):fL prog 79 #[vP b,vB n,fW (v.cells rb mb).toArray] w λe w'=>e=fR (gb #[])/\aV w' b rb mb vM vC vL (r.ik n v)/\aa (Own vC) w w':=by
 obtain⟨g,cap,K,rfl,_,_,hT,hC,hF,hR,hS⟩:=h.kit hp;have HT:=ai (λw' m=>hT w' vL r (h.quiet m) rfl);have HC:=ai (λw' (m:aa ah w w')=>h.quiet m);have HK:af (∀w',aV w' b rb mb vM (eK (eC ⟨g,0,ez⟩) (ee r.calls) cap) vL r->∀c,c<4->w'.cell? ⟨g,K+3+n*4+c,ez⟩=((r.bq n).cells rb mb)[c]?):=λw' h' c hc4=>by have:=hC w' vL r h' rfl (3+n*4+c) (by omega);rw[MV.G7 rb mb _ (hR w' vL r h' rfl) n c hn hc4]at this;rw[<-cb,<-cb]at this;exact this
 have HX:=ai (λw' h'=>aV.WB hp hR hS w' vL r h' rfl n hn v);have HF:=ai (λw' h'=>hF w' vL r h' rfl);clear h hT hC hF hR hS;show fL _ _ #[_,_,fW #[vI v.so,vU v.bits,ia (v.bq.map λr=>⟨rb.getD r 0,0,ez⟩),ia (v.tab.map λt=>⟨mb.getD t 0,0,ez⟩)]] _ _
 generalize r.ik n v=r' at *;generalize r.bq n=v0 at *;generalize v.bq.map (λr=>(⟨rb.getD r 0,0,ez⟩:ju))=p2 at *;generalize v.tab.map (λt=>(⟨mb.getD t 0,0,ez⟩:ju))=p3 at *;have HB:=ai (λ(e:Ext ah (w.alloc (.cells #[vI v.so,vU v.bits,.pointer p2,.pointer p3] 190)))=>(ak.new _ _ _).ae e.m id);have x0:=λ(e:Ext ah (w.alloc (.cells #[vI v.so,vU v.bits,.pointer p2,.pointer p3] 190)))=>(HB.o e).c0;have x1:=λ(e:Ext ah (w.alloc (.cells #[vI v.so,vU v.bits,.pointer p2,.pointer p3] 190)))=>(HB.o e).c1;have x2:=λ(e:Ext ah (w.alloc (.cells #[vI v.so,vU v.bits,.pointer p2,.pointer p3] 190)))=>(HB.o e).c2;have x3:=λ(e:Ext ah (w.alloc (.cells #[vI v.so,vU v.bits,.pointer p2,.pointer p3] 190)))=>(HB.o e).c3
 haveI:Nonempty (Ext ah (w.alloc (eR #[vI v.so,vU v.bits,ia p2,ia p3] 190))):=Ext.ne _ _
 have HA:af (aa ah w (w.alloc (eR #[vI v.so,vU v.bits,ia p2,ia p3] 190))):=aq;have HT:=ai (HT.o _ HA.o.drew);go_in;go_wp2_with fail;generalize w.alloc (eR #[vI v.so,vU v.bits,ia p2,ia p3] 190)=W1 at *;refine dS 7 [1] (λw'=>∃e:Ext ah W1,w'=e.w) (by kernel_rfl) (by kernel_rfl) ⟨⟨_,aU⟩,rfl⟩ ?_;simp only[cI,cY,cN,de];refine aG rfl rfl rfl ?_;intro K' hK;go_big_quiet_op;go_big_quiet_on;refine aN rfl rfl ?_;intro K' hK;go_big_op;refine HT.o.mono ?_;rintro e w1 ⟨rfl,m1⟩;have M1:=ai (aU.trans m1);have dB:=ai (HA.o.trans M1.o);refine hK _ _ rfl ⟨⟨_,M1.o⟩,rfl⟩ ?_;clear hK K' m1
 try simp only[Act.put,sA9,sB9,sC9]
 iterate 2 (refine aG rfl rfl rfl ?_;intro K' hK;go_big_quiet_op;go_big_quiet_on)
 refine eF rfl rfl _ ⟨g,K,ez⟩ rfl rfl ?_;simp only[Act.put,sA9,sB9,sC9]
 iterate 2 (refine aG rfl rfl rfl ?_;intro K' hK;go_big_quiet_op;go_big_quiet_on)
 refine dR ?_;have hr:=HC.o w1 dB.o;have y0:w1.cell? ⟨g,K+3+n*4,ez⟩=eC (vI v0.so):=HK.o w1 hr 0 (by omega);have y1:w1.cell? ⟨g,K+3+n*4+1,ez⟩=eC (vU v0.bits):=HK.o w1 hr 1 (by omega);have y2:w1.cell? ⟨g,K+3+n*4+2,ez⟩=eC (ia (v0.bq.map λr=>⟨rb.getD r 0,0,ez⟩)):=HK.o w1 hr 2 (by omega);have y3:w1.cell? ⟨g,K+3+n*4+3,ez⟩=eC (ia (v0.tab.map λt=>⟨mb.getD t 0,0,ez⟩)):=HK.o w1 hr 3 (by omega);have yf:=HF.o w1 hr;have HR:=ai (HX.o w1 hr);clear HC HT hr HX HF HK x0 x1 x2 x3 HB;go_wp2_with fail;go_end0;exact⟨rfl,HR.o,((((dB.o.own _).pH _ _).pH _ _).pH _ _).pH _ _⟩
def gN(k:Nat):Ending:=.panicked [{v:=.iface 52 (vI k),recovered:=false}]
theorem R9(w:tW)(b:Nat)(rb mb:tLN)(vM vC vL:eM)(r:aH)(h:aV w b rb mb vM vC vL r)(n:Nat)(hu:r.used=r.fuel):fL prog 84 #[vP b,vI n] w λe w'=>e=gN 1/\aa ah w w':=by
 have x3:=h.blk.c3;have x4:w.cell? ⟨b,4,ez⟩=eC (vI r.fuel):=by rw[<-hu];exact h.blk.cell 4
 clear h;go_in;go_wp2_with fail;go_quiet (fail);have HM:af (aa ah w (w.drewN nq)):=aA.drewN nq;clear x3 x4;generalize w.drewN nq=w1 at *;go_wp2_with fail;exact⟨rfl,rfl,HM.o⟩
theorem aV.use{w:tW}{b:Nat}{rb mb:tLN}{vM vC vL:eM}{r:aH}(h:aV w b rb mb vM vC vL r)(n:Nat):aV (w.setCell ⟨b,4,ez⟩ (vI n)) b rb mb vM vC vL {r with used:=n} :=
 ⟨h.blk.set 4 _,h.calls.ae ((aa.refl (Only b) w).bz 4 _) (λk hk e=>by cases(show k=b from e);exact h.calls.ay h.blk (by decide) hk),h.regs,h.depth⟩
theorem Sa(w:tW)(b:Nat)(rb mb:tLN)(vM vC vL:eM)(r:aH)(h:aV w b rb mb vM vC vL r)(hp:0<ee r.calls)(n:Nat)(hf:r.fuel<=2 ^ 40)(hn:r.top.slot+n<=2 ^ 40)(hu:r.used<r.fuel):fL prog 84 #[vP b,vI n] w λe w'=>e=fR (gb #[])/\aV w' b rb mb vM vC vL (r.begin n)/\aa (λk=>k=b\/Own vC k) w w':=by
 obtain⟨g,cap,K,rfl,_,_,hT,hC,hF,hR,hS⟩:=h.kit hp;have x3:=h.blk.c3;have x4:=h.blk.c4;have hq:(r.used:Int)≠r.fuel:=by omega
 have HT:af (∀w',aa ah w w'->fL prog 165 #[vP b] (w'.setCell ⟨b,4,ez⟩ (vI ((r.used:Int)+1))) λe w''=>e=fR (ia (eC ⟨g,K,ez⟩))/\aa ah (w'.setCell ⟨b,4,ez⟩ (vI ((r.used:Int)+1))) w''):=λw' m=>hT _ vL _ ((h.quiet m).use (r.used+1)) rfl;have HC:af (∀w' w'',aa ah w w'->aa ah (w'.setCell ⟨b,4,ez⟩ (vI ((r.used:Int)+1))) w''->aV (w''.setCell ⟨g,K+2,ez⟩ (vI ((r.top.slot:Int)+n))) b rb mb vM (eK (eC ⟨g,0,ez⟩) (ee r.calls) cap) vL (r.begin n)/\w''.cell? ⟨g,K+2,ez⟩=eC (vI r.top.next)/\w''.cell? ⟨g,K+1,ez⟩=eC (vI r.top.slot)/\∀j,w''.frozen? ⟨g,j,ez⟩=false):=λw' w'' m m'=>by have h2:=((h.quiet m).use (r.used+1)).quiet m';exact⟨hS w'' vL _ h2 rfl {r.top with next:=r.top.slot+n} (hR w'' vL {r with used:=r.used+1} h2 rfl) 2 (by omega) _ (jT.MQ rb mb _ _),hC w'' vL _ h2 rfl 2 (by omega),hC w'' vL _ h2 rfl 1 (by omega),hF w'' vL _ h2 rfl⟩
 clear hT hC hF hR hS;go_in;go_wp2_with fail;go_quiet (fail);have HM:af (aa ah w (w.drewN nq)):=aA.drewN nq;have h1:=h.quiet HM.o;clear x3 x4 h;generalize w.drewN nq=w1 at *;have x4:=h1.blk.c4;have xf:=h1.blk.frozen;clear h1;go_wp2_with fail;refine(HT.o w1 HM.o).mono ?_;rintro e w2 ⟨rfl,m2⟩;obtain⟨hr,y2,y1,yf⟩:=HC.o w1 w2 HM.o m2;have HR:=ai hr;have dV:af (aa (λk=>k=b\/Own (eK (eC ⟨g,0,ez⟩) (ee r.calls) cap) k) w w2):=((HM.o.mono (λ_ _ h=>h.elim)).set (a:=⟨b,4,ez⟩) (.inl (.inl rfl)) _).trans (m2.mono (λ_ _ h=>h.elim));clear HC HT m2 hr x4 xf;go_wp2_with fail;go_end0;exact⟨rfl,HR.o,dV.o.set (a:=⟨g,K+2,ez⟩) (.inl (.inr rfl)) _⟩
theorem WD(w:tW)(rb mb:tLN)(v:MV)(s:Nat)(h:v.so=s):fL prog 307 #[fW (v.cells rb mb).toArray,vI s] w λe w'=>e=fR (gb #[])/\aa ah w w':=by
 subst h;show fL _ _ #[fW #[vI v.so,vU v.bits,ia (v.bq.map λr=>⟨rb.getD r 0,0,ez⟩),ia (v.tab.map λt=>⟨mb.getD t 0,0,ez⟩)],_] _ _
 go_in;go_wp2_with fail;go_end0;exact⟨rfl,aq⟩
theorem WE(w:tW)(rb mb:tLN)(v:MV)(s:Nat)(h:v.so≠s):fL prog 307 #[fW (v.cells rb mb).toArray,vI s] w λe w'=>e=gN 2/\aa ah w w':=by
 show fL _ _ #[fW #[vI v.so,vU v.bits,ia (v.bq.map λr=>⟨rb.getD r 0,0,ez⟩),ia (v.tab.map λt=>⟨mb.getD t 0,0,ez⟩)],_] _ _
 have h':(v.so:Int)≠s:=by omega
 go_in;go_wp2_with fail;exact⟨rfl,rfl,aq⟩
theorem DH(w:tW)(rb mb:tLN)(n:Nat):fL prog 81 #[vU n] w λe w'=>e=fR (fW ((qp n).cells rb mb).toArray)/\aa ah w w':=by go_in;go_wp2_with fail;exact iz (mz results81 _ _ w.heap.size 190 _ (0,0) _ rfl (ak.new _ _ _) underlying190 rfl (by kernel_rfl)) rfl ⟨rfl,aq⟩
theorem Kc(w:tW)(rb mb:tLN)(q n:Nat):fL prog 80 #[vP (rb.getD q 0),vU n] w λe w'=>e=fR (fW ((wy q n).cells rb mb).toArray)/\aa ah w w':=by go_in;go_wp2_with fail;exact iz (mz results80 _ _ w.heap.size 190 _ (0,0) _ rfl (ak.new _ _ _) underlying190 rfl (by kernel_rfl)) rfl ⟨rfl,aq⟩
theorem vZ(w:tW)(rb mb:tLN)(v:MV)(h:v.so=0):fL prog 226 #[fW (v.cells rb mb).toArray] w λe w'=>e=fR (vU v.bits)/\aa ah w w':=by
 have HW:af (∀w',fL prog 307 #[fW #[vI v.so,vU v.bits,ia (v.bq.map λr=>⟨rb.getD r 0,0,ez⟩),ia (v.tab.map λt=>⟨mb.getD t 0,0,ez⟩)],vI 0] w' λe w''=>e=fR (gb #[])/\aa ah w' w''):=λw'=>WD w' rb mb v 0 h;show fL _ _ #[fW #[vI v.so,vU v.bits,ia (v.bq.map λr=>⟨rb.getD r 0,0,ez⟩),ia (v.tab.map λt=>⟨mb.getD t 0,0,ez⟩)]] _ _
 clear h;generalize v.bq.map (λr=>(⟨rb.getD r 0,0,ez⟩:ju))=p2 at *;generalize v.tab.map (λt=>(⟨mb.getD t 0,0,ez⟩:ju))=p3 at *;have HB:=ai (ak.new w #[vI v.so,vU v.bits,ia p2,ia p3] 190);have HM:af (aa ah w (w.alloc (eR #[vI v.so,vU v.bits,ia p2,ia p3] 190))):=aq;go_in;go_wp2_with fail;refine(HW.o _).mono ?_;rintro e w1 ⟨rfl,m1⟩;have dB:=ai (HM.o.trans m1);have y1:=(HB.o.ae m1 id).c1;clear HM HB HW m1;go_wp2_with fail;go_ret;exact⟨rfl,dB.o⟩
theorem Aw(w:tW)(rb mb:tLN)(v:MV)(h:v.so≠0):fL prog 226 #[fW (v.cells rb mb).toArray] w λe w'=>e=gN 2/\aa ah w w':=by
 have HW:af (∀w',fL prog 307 #[fW #[vI v.so,vU v.bits,ia (v.bq.map λr=>⟨rb.getD r 0,0,ez⟩),ia (v.tab.map λt=>⟨mb.getD t 0,0,ez⟩)],vI 0] w' λe w''=>e=gN 2/\aa ah w' w''):=λw'=>WE w' rb mb v 0 h;show fL _ _ #[fW #[vI v.so,vU v.bits,ia (v.bq.map λr=>⟨rb.getD r 0,0,ez⟩),ia (v.tab.map λt=>⟨mb.getD t 0,0,ez⟩)]] _ _
 clear h;generalize v.bq.map (λr=>(⟨rb.getD r 0,0,ez⟩:ju))=p2 at *;generalize v.tab.map (λt=>(⟨mb.getD t 0,0,ez⟩:ju))=p3 at *;have HB:=ai (ak.new w #[vI v.so,vU v.bits,ia p2,ia p3] 190);have HM:af (aa ah w (w.alloc (eR #[vI v.so,vU v.bits,ia p2,ia p3] 190))):=aq;go_in;go_wp2_with fail;refine(HW.o _).mono ?_;rintro e w1 ⟨rfl,m1⟩;exact⟨rfl,rfl,HM.o.trans m1⟩
def KR(l:tLN):tLV:=l.map λ(b:Nat)=>Value.int .u8 b
def Bi(w:tW)(v:eM)(n:Nat)(l:tLN):Prop :=
 ee l=n/\((v=vN/\n=0)\/∃g cap cur lo hi,v=eK (eC ⟨g,0,ez⟩) n cap/\w.heap[g]?=eC (eR cur 5 (lo,hi))/\n<=cap/\cap<=fX/\(hi<=lo\/n<=lo)/\cur.toList.take n=KR l)
section
variable {w w' : World} {v : eM} {n : Nat} {l : List Nat} {S : Nat -> Prop}
theorem Bi.nil(w:tW):Bi w (vN) 0 []:=⟨rfl,.inl ⟨rfl,rfl⟩⟩
theorem Bi.lt(h:Bi w v n l)(k:Nat)(hk:v.ownBlock=eC k):k<w.heap.size:=by
 rcases h.2 with⟨rfl,_⟩ |⟨g,cap,cur,lo,hi,rfl,hg,_⟩
 ·cases hk
 ·cases hk;exact(Array.getElem?_eq_some_iff.1 hg).1
theorem Bi.ae(h:Bi w v n l)(m:aa S w w')(hS:∀k,v.ownBlock=eC k->¬S k):Bi w' v n l:=by
 refine⟨h.1,?_⟩;rcases h.2 with h' |⟨g,cap,cur,lo,hi,rfl,hg,hr⟩
 ·exact .inl h'
 ·exact .inr ⟨g,cap,cur,lo,hi,rfl,(m.block g (Array.getElem?_eq_some_iff.1 hg).1 (hS g rfl)).trans hg,hr⟩
theorem Bi.ay{t:gh}{cs:tAV}{k:Nat}(h:Bi w v n l)(hb:ak w k cs t)(ht:t≠5):v.ownBlock≠eC k:=by
 intro hk;rcases h.2 with⟨rfl,_⟩ |⟨g,cap,cur,lo,hi,rfl,hg,_⟩
 ·cases hk
 ·cases hk;unfold ak at hb;rw[hg]at hb;cases hb;exact ht rfl
theorem Bi.apart{t:gh}{size n' k:Nat}{v':eM}{xs:tLV}(h:Bi w v n l)(h':Sl w t size v' n' xs)(ht:t≠5)(hk:v.ownBlock=eC k):v'.ownBlock≠eC k:=by
 intro hk';rcases h'.2 with⟨rfl,_⟩ |⟨g,cap,cur,rfl,_,hg,_⟩
 ·cases hk'
 ·cases hk';exact h.ay hg ht hk
theorem Bi.cell{g cap:Nat}(h:Bi w (eK (eC ⟨g,0,ez⟩) n cap) n l)(i:Nat)(hi:i<n):w.cell? ⟨g,i,ez⟩=eC (vB (l.getD i 0:Nat))/\w.frozen? ⟨g,i,ez⟩=false:=by
 have hl:=h.1;rcases h.2 with⟨e,_⟩ |⟨g',cap',cur,lo,hi',e,hg,hn,hm,hf,ht⟩
 ·cases e
 ·cases e;refine⟨?_,?_⟩
  ·have:cur.toList[i]?=(KR l)[i]?:=by rw[<-ht,List.getElem?_take_of_lt hi]
   simp only[World.cell?,hg];rw[Array.getElem?_toList]at this;unfold KR at this;rw[List.getElem?_map,List.getElem?_eq_getElem (by omega),cG]at this;rw[List.getD_eq_getElem?_getD,List.getElem?_eq_getElem (by omega)];exact this
  ·simp only[World.frozen?,hg];simp;omega
theorem Sl.bys(h:Sl w 5 1 v n (KR l))(hl:ee l=n):Bi w v n l:=by
 refine⟨hl,?_⟩;rcases h.2 with h' |⟨g,cap,cur,h',h0,hg,hn,hm,hs,ht⟩
 ·exact .inl h'
 ·exact .inr ⟨g,cap,cur,0,0,h',hg,hn,hm,.inl (bt _),by rw[Nat.mul_one]at ht;exact ht⟩
end
structure yx(w:tW)(rb:tLN)(vs:tLV)(gs:List tLN):Prop where
 lr:ee rb=ee gs
 lv:ee vs=ee gs
 blk:∀i,i<ee gs->ak w (rb.getD i 0) #[vs.getD i kh] 182
 sl:∀i,i<ee gs->Bi w (vs.getD i kh) (ee (gs.getD i [])) (gs.getD i [])
 inj:∀i j,i<ee gs->j<ee gs->rb.getD i 0=rb.getD j 0->i=j
 Sb:∀i j k,i<ee gs->j<ee gs->(vs.getD i kh).ownBlock=eC k->(vs.getD j kh).ownBlock=eC k->i=j
section
variable {w w' : World} {rb : List Nat} {vs : List eM} {gs : List (List Nat)} {S : Nat -> Prop}
theorem yx.ae(h:yx w rb vs gs)(m:aa S w w')(hb:∀i,i<ee gs->¬S (rb.getD i 0))(hv:∀i k,i<ee gs->(vs.getD i kh).ownBlock=eC k->¬S k):yx w' rb vs gs :=
 ⟨h.lr,h.lv,λi hi=>(h.blk i hi).ae m (hb i hi),λi hi=>(h.sl i hi).ae m (λk=>hv i k hi),h.inj,h.Sb⟩
theorem yx.quiet(h:yx w rb vs gs)(m:aa ah w w'):yx w' rb vs gs:=h.ae m (λ_ _=>id) (λ_ _ _ _=>id)
theorem ed{α:Type}(l:List α)(x d:α)(i:Nat):(l++[x]).getD i d=if i<ee l then l.getD i d else if i=ee l then x else d:=by
 simp only[List.getD_eq_getElem?_getD];by_cases h:i<ee l
 ·rw[iP9 h,List.getElem?_append_left h]
 ·rw[iN9 h,List.getElem?_append_right (by omega)];by_cases h':i=ee l
  ·rw[iP9 h',h'];simp
  ·rw[iN9 h',List.getElem?_eq_none (by simp;omega)];rfl
theorem yx.add(h:yx w rb vs gs)(m:aa ah w w')(b:Nat)(v:eM)(g:tLN)(hb:ak w' b #[v] 182)(hs:Bi w' v (ee g) g)(h1:w.heap.size<=b)(h2:∀k,v.ownBlock=eC k->w.heap.size<=k):yx w' (rb++[b]) (vs++[v]) (gs++[g]):=by
 have hq:=h.quiet m;have e1:=h.lr;have e2:=h.lv;refine⟨by simp[e1],by simp[e2],λi hi=>?_,λi hi=>?_,λi j hi hj e=>?_,λi j k hi hj e e'=>?_⟩
 all_goals simp only[an,ar,cj]at *
 ·rw[ed,ed,e1,e2];by_cases hh:i<ee gs
  ·rw[iP9 hh,iP9 hh];exact hq.blk i hh
  ·rw[iN9 hh,iN9 hh,iP9 (by omega),iP9 (by omega)];exact hb
 ·rw[ed,ed,e2];by_cases hh:i<ee gs
  ·rw[iP9 hh,iP9 hh];exact hq.sl i hh
  ·rw[iN9 hh,iN9 hh,iP9 (by omega),iP9 (by omega)];exact hs
 ·rw[ed,ed,e1]at e;by_cases hi':i<ee gs<;>by_cases hj':j<ee gs
  ·rw[iP9 hi',iP9 hj']at e;exact h.inj i j hi' hj' e
  ·rw[iP9 hi',iN9 hj',iP9 (by omega)]at e;have:=(h.blk i hi').lt;omega
  ·rw[iN9 hi',iP9 hj',iP9 (by omega)]at e;have:=(h.blk j hj').lt;omega
  ·omega
 ·rw[ed,e2]at e e';by_cases hi':i<ee gs<;>by_cases hj':j<ee gs
  ·rw[iP9 hi']at e;rw[iP9 hj']at e';exact h.Sb i j k hi' hj' e e'
  ·rw[iP9 hi']at e;rw[iN9 hj',iP9 (by omega)]at e';have:=(h.sl i hi').lt k e;have:=h2 k e';omega
  ·rw[iN9 hi',iP9 (by omega)]at e;rw[iP9 hj']at e';have:=(h.sl j hj').lt k e';have:=h2 k e;omega
  ·omega
theorem uU{α:Type}(l:List α)(x d:α)(i j:Nat)(hj:j<ee l):(l.set j x).getD i d=if i=j then x else l.getD i d:=by
 simp only[List.getD_eq_getElem?_getD];by_cases h:i=j
 ·subst h;rw[iP9 rfl,List.getElem?_set_self hj];rfl
 ·rw[iN9 h,List.getElem?_set_ne (Ne.symm h)]
theorem yx.die(h:yx w rb vs gs)(j:Nat)(hj:j<ee gs):yx (w.setCell ⟨rb.getD j 0,0,ez⟩ (vN)) rb (vs.set j (vN)) (gs.set j []):=by
 have e2:=h.lv;have hj':j<ee vs:=by omega
 have m:aa (Only (rb.getD j 0)) w (w.setCell ⟨rb.getD j 0,0,ez⟩ (vN)):=aA.bz 0 _;refine⟨by rw[ao];exact h.lr,by rw[ao,ao];exact h.lv,λi hi=>?_,λi hi=>?_,λi k hi hk e=>?_,λi l k hi hl e e'=>?_⟩
 all_goals rw[ao]at *
 ·rw[uU _ _ _ _ _ hj'];by_cases hh:i=j
  ·subst hh;rw[iP9 rfl];exact(h.blk i hi).set 0 _
  ·rw[iN9 hh];exact(h.blk i hi).ae m (λe=>hh (h.inj i j hi hj e))
 ·rw[uU _ _ _ _ _ hj',uU _ _ _ _ _ hj];by_cases hh:i=j
  ·rw[iP9 hh,iP9 hh];exact Bi.nil _
  ·rw[iN9 hh,iN9 hh];exact(h.sl i hi).ae m (λk hk e=>by cases(show k=_ from e);exact(h.sl i hi).ay (h.blk j hj) (by decide) hk)
 ·exact h.inj i k hi hk e
 ·rw[uU _ _ _ _ _ hj']at e e';by_cases hi':i=j
  ·rw[iP9 hi']at e;cases e
  ·by_cases hl':l=j
   ·rw[iP9 hl']at e';cases e'
   ·rw[iN9 hi']at e;rw[iN9 hl']at e';exact h.Sb i l k hi hl e e'
end
def z11:List MV:=cw 11 {}
def aH.pI(r:aH)(fn k:Nat):aH:={r with calls:=r.calls++[⟨fn,0,0,z11,k⟩]}
def aH.enter(r:aH)(fn k:Nat):aH:=(r.pI fn k).ik 10 (wy k 64)
def MV.In(v:MV)(n:Nat):Prop:=∀q,v.bq=eC q->q<n
def jT.In(f:jT)(n:Nat):Prop:=f.qA<n/\∀v∈f.regs,v.In n
def aH.In(r:aH)(n:Nat):Prop:=r.inp<n/\∀f∈r.calls,f.In n
theorem kY{α:Type}(l:List α)(x d:α)(i:Nat)(h:i<ee l):(l++[x]).getD i d=l.getD i d:=by rw[ed,iP9 h]
theorem MV.grow(rb mb:tLN)(x:Nat)(v:MV)(h:v.In (ee rb)):v.cells (rb++[x]) mb=v.cells rb mb:=by
 obtain⟨s,b,q,t⟩:=v;cases q with
 |none=>rfl
 |some q =>have:=h q rfl;simp only[MV.cells,cG,kY _ _ _ _ this]
theorem si{α:Type}(f g:α->tLV):∀(l:List α),(∀x∈l,f x=g x)->l.flatMap f=l.flatMap g
 |[],_=>rfl
 |x::l,h=>by rw[ab,ab,h x (by simp),si f g l (λy hy=>h y (by simp[hy]))]
theorem jT.grow(rb mb:tLN)(x:Nat)(f:jT)(h:f.In (ee rb)):f.cells (rb++[x]) mb=f.cells rb mb:=by unfold jT.cells;rw[si _ _ f.regs (λv hv=>MV.grow rb mb x v (h.2 v hv)),kY _ _ _ _ h.1]
theorem aV.grow{w:tW}{b:Nat}{rb mb:tLN}{vM vC vL:eM}{r:aH}(h:aV w b rb mb vM vC vL r)(hi:r.In (ee rb))(x:Nat):aV w b (rb++[x]) mb vM vC vL r :=
 ⟨by rw[kY _ _ _ _ hi.1];exact h.blk,by rw[si _ _ r.calls (λf hf=>jT.grow rb mb x f (hi.2 f hf))];exact h.calls,h.regs,h.depth⟩
def nU(fn:Nat)(p:eM):tAV:=#[vI fn,vI 0,vI 0,vI 0,vU 0,vO,vO,vI 0,vU 0,vO,vO,vI 0,vU 0,vO,vO,vI 0,vU 0,vO,vO,vI 0,vU 0,vO,vO,vI 0,vU 0,vO,vO,vI 0,vU 0,vO,vO,vI 0,vU 0,vO,vO,vI 0,vU 0,vO,vO,vI 0,vU 0,vO,vO,vI 0,vU 0,vO,vO,p]
theorem WG(rb mb:tLN)(fn k:Nat):(nU fn (vP (rb.getD k 0))).toList=jT.cells rb mb ⟨fn,0,0,z11,k⟩:=rfl
theorem Sc:(prog.info? 273).map (λi=>(i.zero,i.size,i.bytes))=eC (eC (fW (nU 0 (vO))),48,384):=by kernel_rfl
theorem WH:(prog.info? 5).map (λi=>(i.zero,i.size,i.bytes))=eC (eC (vB 0),1,1):=by kernel_rfl
def dx:tLN:=cw 64 0
theorem aah:pA (Value.int .u8 0).cells (Int.toNat 64*1)=(KR dx).toArray:=by kernel_rfl
theorem aV.pI{w wA:tW}{b:Nat}{rb mb:tLN}{vM vC vL vA:eM}{r:aH}(h:aV w b rb mb vM vC vL r)(hd:ee r.calls<8)(fn k:Nat)(s:Sl wA 273 48 vA (ee r.calls+1) (r.calls.flatMap (jT.cells rb mb)++(nU fn (vP (rb.getD k 0))).toList))(m:aa (Own vC) w wA):aV (wA.setCell ⟨b,2,ez⟩ vA) b rb mb vM vA vL (r.pI fn k):=by
 have hb:ak wA b _ _:=h.blk.ae m (λe=>h.calls.ay h.blk (by decide) e);refine⟨hb.set 2 vA,?_,?_,?_⟩
 ·have:Sl wA 273 48 vA (ee (r.pI fn k).calls) ((r.pI fn k).calls.flatMap (jT.cells rb mb)):=by
   show Sl wA 273 48 vA (ee (r.calls++[_])) ((r.calls++[_]).flatMap _)
   rw[cH,an,ab,dT,List.append_nil,<-WG];exact s
  exact this.ae ((aa.refl (Only b) wA).bz 2 _) (λk hk e=>by cases(show k=b from e);exact s.ay hb (by decide) hk)
 ·intro f hf;rcases List.mem_append.1 hf with hf|hf
  ·exact h.regs f hf
  ·rw[List.mem_singleton]at hf;subst hf;rfl
 ·show(r.calls++[_]).length<=8
  rw[an];exact hd
theorem Sd(w:tW)(b:Nat)(rb mb:tLN)(vM vC vL:eM)(r:aH)(h:aV w b rb mb vM vC vL r)(hd:ee r.calls<8)(fn:Nat)(hi:r.In (ee rb)):fL prog 78 #[vP b,vI fn] w λe w'=>∃WI,e=fR (gb #[])/\aV w' b (rb++[w.heap.size+1]) mb vM WI vL (r.enter fn (ee rb))/\aa (λk=>k=b\/Own vC k) w w'/\(∀k,WI.ownBlock=eC k->vC.ownBlock=eC k\/w.heap.size<=k)/\ak w' (w.heap.size+1) #[eK (eC ⟨w.heap.size,0,ez⟩) 64 64] 182/\Sl w' 5 1 (eK (eC ⟨w.heap.size,0,ez⟩) 64 64) 64 (KR dx):=by
 obtain⟨iU,GR,GS,GU,GV⟩:=lO WH;obtain⟨iP,hiP,sK,hsP,wJ⟩:=lO Sc;have pW:af (∀w',(Instr.makeSlice 162 (vI 64) (vI 64)).run prog w'=.ok (eK (eC ⟨w'.heap.size,0,ez⟩) 64 64) (w'.alloc (eR (KR dx).toArray 5))):=λw'=>by have:=run_make (P:=prog) w' 162 5 iU _ underlying162 GR GS .i64 .i64 64 64 (by omega) (by omega) (by rw[GV];omega) (by omega);rw[GU,aah]at this;exact this
 have dV:af (aa ah w ((w.alloc (eR (KR dx).toArray 5)).alloc (eR #[eK (eC ⟨w.heap.size,0,ez⟩) 64 64] 182))):=aq.alloc _;have H2:=ai ((h.quiet dV.o).grow hi (w.heap.size+1));have HG:af ((rb++[w.heap.size+1]).getD (ee rb) 0=w.heap.size+1):=by unfold af;rw[ed,iN9 (Nat.lt_irrefl _),iP9 rfl]
 have HBR:af (ak ((w.alloc (eR (KR dx).toArray 5)).alloc (eR #[eK (eC ⟨w.heap.size,0,ez⟩) 64 64] 182)) (w.heap.size+1) #[eK (eC ⟨w.heap.size,0,ez⟩) 64 64] 182):=by
  have:=ak.new (w.alloc (eR (KR dx).toArray 5)) #[eK (eC ⟨w.heap.size,0,ez⟩) 64 64] 182
  rwa [World.size_alloc]at this
 have EO:af (Sl ((w.alloc (eR (KR dx).toArray 5)).alloc (eR #[eK (eC ⟨w.heap.size,0,ez⟩) 64 64] 182)) 5 1 (eK (eC ⟨w.heap.size,0,ez⟩) 64 64) 64 (KR dx)):=Sl.fresh (((ak.new w (KR dx).toArray 5)).alloc _) rfl (by unfold fX;omega);clear h hi;go_in;go_upto_region 1 with(rw[pW.o])
 generalize(w.alloc (eR (KR dx).toArray 5)).alloc (eR #[eK (eC ⟨w.heap.size,0,ez⟩) 64 64] 182)=W2 at *;generalize hGe:w.heap.size+1=G at *;have HGe:=ai hGe;clear hGe;have x2:=H2.o.blk.c2;have HAP:af (∀vA wA,Sl wA 273 48 vA (ee r.calls+1) (r.calls.flatMap (jT.cells (rb++[G]) mb)++(nU fn (vP G)).toList)->aa (Own vC) (W2.alloc (eR (nU fn (vP G)) 273)) wA->aV (wA.setCell ⟨b,2,ez⟩ vA) b (rb++[G]) mb vM vA vL (r.pI fn (ee rb))/\ak wA b #[vM,vP ((rb++[G]).getD r.inp 0),vC,vI r.fuel,vI r.used,vL,vU r.r0,.bool r.ended] 185):=λvA wA s m=>by have h3:=H2.o.quiet ((aa.refl ah W2).alloc (eR (nU fn (vP G)) 273));exact⟨h3.pI hd fn (ee rb) (by rw[HG.o];exact s) m,h3.blk.ae m (λe=>h3.calls.ay h3.blk (by decide) e)⟩
 have tN:af (Sl (W2.alloc (eR (nU fn (vP G)) 273)) 273 48 vC (ee r.calls) (r.calls.flatMap (jT.cells (rb++[G]) mb))):=(H2.o.quiet ((aa.refl ah W2).alloc _)).calls;have Hz:af (∀u∈(nU fn (vP G)).toList,u.oneCell'=true):=by intro u hu;simp only[nU,List.mem_cons,ec,or_false]at hu;rcases hu with rfl|rfl|rfl|rfl|rfl|rfl|rfl|rfl|rfl|rfl|rfl|rfl|rfl|rfl|rfl|rfl|rfl|rfl|rfl|rfl|rfl|rfl|rfl|rfl|rfl|rfl|rfl|rfl|rfl|rfl|rfl|rfl|rfl|rfl|rfl|rfl|rfl|rfl|rfl|rfl|rfl|rfl|rfl|rfl|rfl|rfl|rfl|rfl<;>rfl
 have HZ:af (nU fn (vP G)=#[vI fn,vI 0,vI 0,vI 0,vU 0,vO,vO,vI 0,vU 0,vO,vO,vI 0,vU 0,vO,vO,vI 0,vU 0,vO,vO,vI 0,vU 0,vO,vO,vI 0,vU 0,vO,vO,vI 0,vU 0,vO,vO,vI 0,vU 0,vO,vO,vI 0,vU 0,vO,vO,vI 0,vU 0,vO,vO,vI 0,vU 0,vO,vO,vP G]):=rfl;have HZ2:af ((nU fn (vP G)).size=48):=rfl;go_wp2_with (first |(rw[<-HZ.o];refine pD rfl λ_ hK=>wW 183 273 48 (.tmp 15) rfl (nU fn (vP G)) rfl HZ2.o iP _ underlying183 hiP sK hsP (by decide) (by decide) (hK _ _ ?_);clear hK) |(at_builtin;(refine aP _ rfl (.tmp 12) (.tmp 16) 183 rfl 273 iP (fW (nU 0 (vO))) 48 384 underlying183 hiP sK hsP wJ rfl (by decide) vC (ee r.calls) (r.calls.flatMap (jT.cells (rb++[G]) mb)) rfl tN.o ⟨W2.heap.size,0,ez⟩ 1 1 (nU fn (vP G)).toList rfl rfl (aY _ _ _ _ rfl) Hz.o (by unfold fX;omega) (by omega) ?_;intro vA wA sA mA lA;obtain⟨oA,cA,Bw,_⟩:=sA.view;subst Bw;obtain⟨hRA,hBA⟩:=HAP.o _ wA sA mA;have pA2:=hBA.cell 2;have pAf:=hBA.frozen;have HRA:=ai hRA;have Ge:af (aa (Own vC) (W2.alloc (eR (nU fn (vP G)) 273)) wA):=mA;have HLA:=ai lA;clear sA mA lA hRA hBA)));have HVP:af (∀w',fL prog 80 #[vP G,vU 64] w' λe w''=>e=fR (fW #[vI 2,vU 64,vP G,vO])/\aa ah w' w''):=λw'=>by have:=Kc w' (rb++[G]) mb (ee rb) 64;rw[HG.o]at this;unfold wy MV.cells at this;simp only[cG,cR,HG.o]at this;exact this
 have GQ:af (aa (λk=>k=b\/Own vC k) W2 (wA.setCell ⟨b,2,ez⟩ (eK oA (ee r.calls+1) cA))):=(((((aa.refl ah W2).alloc _).mono (λ_ _ h=>h.elim)).trans (Ge.o.mono (λ_ _ h=>.inr h)))).set (a:=⟨b,2,ez⟩) (.inl (.inl rfl)) _;have Rc:af (∀k,(Value.slice oA (ee r.calls+1) cA).ownBlock=eC k->vC.ownBlock=eC k\/W2.heap.size<=k):=λk hk=>(HLA.o k hk).imp id (λh=>by rw[World.size_alloc]at h;omega);have HST:af (∀w',aa ah (wA.setCell ⟨b,2,ez⟩ (eK oA (ee r.calls+1) cA)) w'->fL prog 79 #[vP b,vB 10,fW #[vI 2,vU 64,vP G,vO]] w' λe w''=>e=fR (gb #[])/\aV w'' b (rb++[G]) mb vM (eK oA (ee r.calls+1) cA) vL (r.enter fn (ee rb))/\aa (Own (eK oA (ee r.calls+1) cA)) w' w''):=λw' m=>by have:=BN w' b (rb++[G]) mb vM _ vL _ (HRA.o.quiet m) (by show 0<ee (r.calls++[_]);rw[an];exact Nat.succ_pos _) 10 (by omega) (wy (ee rb) 64);unfold wy MV.cells at this;simp only[cG,cR,HG.o]at this;exact this
 have Q8:af (∀w',aa (λk=>k=b\/Own vC k) W2 w'->aa (λk=>k=b\/Own vC k) w w'/\ak w' G #[eK (eC ⟨w.heap.size,0,ez⟩) 64 64] 182/\Sl w' 5 1 (eK (eC ⟨w.heap.size,0,ez⟩) 64 64) 64 (KR dx)):=λw' m=>by
  refine⟨(dV.o.mono (λ_ _ h=>h.elim)).trans m,HBR.o.ae m ?_,EO.o.ae m ?_⟩
  ·rintro(e|e)
   ·have hb:=H2.o.blk;rw[<-e]at hb;have hr:=HBR.o;unfold ak at hb hr;rw[hb]at hr;cases hr
   ·exact H2.o.calls.ay HBR.o (by decide) e
  ·rintro k hk (e|e)
   ·subst e;exact EO.o.ay H2.o.blk (by decide) hk
   ·exact EO.o.apart H2.o.calls (by decide) hk e
 have xu:af (∀k,(Value.slice oA (ee r.calls+1) cA).ownBlock=eC k->vC.ownBlock=eC k\/w.heap.size<=k):=λk hk=>(Rc.o k hk).imp id (λh=>by have:=dV.o.size;omega);clear HAP tN Hz HZ HZ2 pW HLA HRA Ge x2 pA2 pAf H2 HBR EO HG dV GR GS GU GV hiP sK hsP wJ;refine(HVP.o _).mono ?_;rintro e w3 ⟨rfl,m3⟩;have eH:=ai m3;clear m3 HVP;go_wp2_with fail;refine(HST.o _ eH.o).mono ?_;rintro e w4 ⟨rfl,hr4,m4⟩;have sW:=ai hr4;have jh:=ai ((GQ.o.trans (eH.o.mono (λ_ _ h=>h.elim))).step m4 (λk hk e=>(Rc.o k e).elim .inr (λh=>absurd hk (by omega))));clear hr4 m4 HST;go_wp2_with fail;go_end0;obtain⟨f1,f2,f3⟩:=Q8.o w4 jh.o;rw[HGe.o];exact⟨_,rfl,sW.o,f1,xu.o,f2,f3⟩
def aH.nV(r:aH):Nat->List MV->aH
 |_,[]=>r
 |n,v::vs=>aH.nV (r.ik n v) (n+1) vs
def aH.answer(r:aH)(v:MV):aH:=(r.ik 0 v).nV 1 (cw 5 {})
theorem aV.nV{b g K:Nat}{rb mb:tLN}{vM vC:eM}{N:Nat}(hp:0<N)(hR:∀w' zB r',aV w' b rb mb vM vC zB r'->ee r'.calls=N->ee r'.top.regs=11)(hS:∀w' zB r',aV w' b rb mb vM vC zB r'->ee r'.calls=N->∀f:jT,ee f.regs=11->∀j,j<48->∀u,f.cells rb mb=(r'.top.cells rb mb).set j u->aV (w'.setCell ⟨g,K+j,ez⟩ u) b rb mb vM vC zB (r'.eX f))(vL:eM):∀(vs:List MV) (w:tW) (r:aH),aV w b rb mb vM vC vL r->ee r.calls=N->∀(n:Nat),n+ee vs<=11->aV (w.setCells g (K+3+n*4) (vs.flatMap (MV.cells rb mb))) b rb mb vM vC vL (r.nV n vs)
 |[],_,_,h,_,_,_=>h
 |v::vs,w,r,h,e,n,hn=>by rw[ar]at hn;have h4:=aV.WB hp hR hS w vL r h e n (by omega) v;have:=aV.nV hp hR hS vL vs _ _ h4 ((aH.jf r n v).trans e) (n+1) (by omega);rw[show K+3+(n+1)*4=K+3+n*4+1+1+1+1 by omega]at this;exact this
def z20:tLV:=(cw 5 ({}:MV)).flatMap (MV.cells [] [])
theorem abO(rb mb:tLN):(cw 5 ({}:MV)).flatMap (MV.cells rb mb)=z20:=rfl
theorem WJ:(Builtin.zeroCells #[vI 0,vU 0,vO,vO] 5).toList=z20:=by kernel_rfl
theorem WL:(prog.info? 190).map (λi=>(i.zero,i.size,i.bytes))=eC (eC (fW #[vI 0,vU 0,vO,vO]),4,32):=by kernel_rfl
theorem WM(w:tW):(zeroValue 190).run prog w=.ok (fW #[vI 0,vU 0,vO,vO]) w:=by obtain⟨i,hi,hz,hs,hb⟩:=lO WL;simp[zeroValue,typeInfo,hi,hz]
theorem MR(w:tW)(ty:gh)(b o c:Nat)(hc:∀j,j<20->(w.cell? ⟨b,o+j,ez⟩).isSome=true)(hf:∀j,j<20->w.frozen? ⟨b,o+j,ez⟩=false):(Builtin.clear_ #[361] ty #[eK (eC ⟨b,o,ez⟩) 5 c]).run prog w=.ok (gb #[]) (w.setCells b o z20):=by have hst:=run_storeCells_cells (P:=prog) b o z20 0 w hc hf (by intro v hv;simp only[z20,cw,MV.cells,ab,dT,List.mem_append,List.mem_cons,ec,or_false,or_self,cR]at hv;rcases hv with rfl|rfl|rfl|rfl<;>rfl);simp only[Nat.add_zero]at hst;have hz:=WM;simp[Builtin.clear_,run_underlying underlying361,hz,Value.cells,WJ,hst]
