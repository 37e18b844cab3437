import Derived.Test.YthnphhgpfedeeaaGreatDoorCF00
import Derived.Test.YthnphhgpfedeeaaGreatDoorCF40
namespace Go.Proofs.YthnphhgpfedeeaaGreatDoor
open Go.RowKit Tryz
open List renaming length_append->ab,take_succ_eq_append_getElem->al,getElem_append_left->an,getElem_mem->ao,take_length->ar,append_assoc->aE,flatMap_cons->ba,length_take->bh,take_of_length_le->bq,getElem_of_mem->bt,flatMap_append->bO,take_succ_cons->bQ,drop_succ_cons->b5,size_toArray->b9,length_cons->cj,cons_append->cq
open Nat renaming le_refl->bj,zero_le->ca
set_option linter.all false
set_option maxRecDepth 100000
set_option maxHeartbeats 2000000
def AO(cs:tAV)(o:Nat)(vs:List Value):tAV:=(cs.toList.take o++vs++cs.toList.drop (o+vs.length)).toArray
theorem Uy(cs:tAV)(o:Nat)(vs:List Value)(h:o+vs.length<=cs.size):(AO cs o vs).size=cs.size:=by simp[AO];omega
theorem aaM(cs:tAV)(o:Nat)(vs:List Value)(h:o+vs.length<=cs.size)(j:Nat)(hj:j<vs.length):(AO cs o vs)[o+j]?=vs[j]?:=by unfold AO;rw[List.getElem?_toArray,List.getElem?_append_left (by simp;omega),List.getElem?_append_right (by simp;omega)];congr 1;simp;omega
theorem Yf(cs:tAV)(o:Nat)(vs:List Value)(h:o+vs.length<=cs.size)(j:Nat)(hj:j<o\/o+vs.length<=j):(AO cs o vs)[j]?=cs[j]?:=by
 unfold AO;rw[List.getElem?_toArray];rcases hj with hj|hj
 ·rw[aE,List.getElem?_append_left (by simp;omega),List.getElem?_take_of_lt hj];simp
 ·rw[List.getElem?_append_right (by simp;omega),List.getElem?_drop];simp only[ab,bh,Array.length_toList,Array.getElem?_toList];congr 1;omega
theorem vU{P:Program}(w:tW)(g off:Nat)(t ty:TypeId)(old cells:tAV)(hg:w.heap[g]?=some (.cells old t (0,0)))(hi:(P.info? ty).map (·.size)=some cells.size)(hle:off+cells.size<=old.size)(h1:cells.all (·.oneCell')=true):(storeVar ty ⟨g,off,none⟩ (.agg cells)).run P w=.ok () (w.setRow g (AO old off cells.toList)):=by
 have:=run_storeCells_at (P:=P) g off t cells.toList 0 old w hg (by simpa using hle) (λv hv=>by rw[Array.all_eq_true]at h1;obtain⟨i,hi',e⟩:=bt hv;have:=h1 i (by simpa using hi');rw[<-e];simpa using this);cases hq:P.info? ty with
 |none=>simp[hq]at hi
 |some i =>
  have hs:cells.size=i.size:=by simp[hq]at hi;omega
  simp[storeVar,sizeOf,typeInfo,hq,Value.cells,hs,this,AO]
theorem BQ{P:Program}{o:Oper}{a:Act}{w:tW}{K:Act->tW->Prop}{Q:Exit->Act->tW->Prop}(ty:TypeId)(x y:Operand)(ho:o.op=.store ty x y)(g off:Nat) (cells:tAV) (hx:a.eval x=.pointer (some ⟨g,off,none⟩)) (hy:a.eval y=.agg cells)(t:TypeId) (old:tAV) (hg:w.heap[g]?=some (.cells old t (0,0))) (hi:(P.info? ty).map (·.size)=some cells.size)(hle:off+cells.size<=old.size) (h1:cells.all (·.oneCell')=true)(h:K (a.put o.dst undef) (w.setRow g (AO old off cells.toList))):o.wp P a w K Q:=by unfold Oper.wp execOp;simp only[ho,hx,hy,Instr.storeAt,Instr.sureAddr,Sem.run_bind,Sem.run_pure,Result.andThen_ok,vU w g off t ty old cells hg hi hle h1];exact h
theorem vV{P:Program}{ops:Array Oper}{rest:List Oper}{o:Oper}{a:Act}{w:tW}{Q:Exit->Act->tW->Prop}(hgd:o.guard=none)(ty:TypeId)(x y:Operand)(ho:o.op=.store ty x y)(g off:Nat) (cells:tAV) (hx:a.eval x=.pointer (some ⟨g,off,none⟩)) (hy:a.eval y=.agg cells)(t:TypeId) (old:tAV) (hg:w.heap[g]?=some (.cells old t (0,0))) (hi:(P.info? ty).map (·.size)=some cells.size)(hle:off+cells.size<=old.size) (h1:cells.all (·.oneCell')=true)(h:wpList P ops Q rest (a.put o.dst undef) (w.setRow g (AO old off cells.toList))):wpList P ops Q (o::rest) a w :=
 wpList_plain hgd λ_ hK=>BQ ty x y ho g off cells hx hy t old hg hi hle h1 (hK _ _ h)
theorem ak.AO{w:tW}{g:Nat}{cs:tAV}{t:TypeId}(h:ak w g cs t)(o:Nat)(vs:List Value):ak (w.setRow g (AO cs o vs)) g (Go.Proofs.YthnphhgpfedeeaaGreatDoor.AO cs o vs) t:=setRow_heap w g cs _ t (0,0) h
theorem zA{w:tW}{g:Nat}(cs:tAV):aa (Only g) w (w.setRow g cs) :=
 ⟨rfl,rfl,rfl,by simp[World.setRow],λk _ hk=>setRow_other w g k cs hk⟩
theorem Qh(w:tW)(s:tBA)(hs:s.size<=281474976710656):Calls prog 133 #[.string s] w λe w'=>e=.returned (.string s)/\aa ae w w' :=
 (Any.stringslite_Clone lcl s w hs).mono λ_ _ ⟨h1,h2⟩=>⟨h1,aa.of_below h2⟩
theorem KV(w:tW)(s:tBA)(hs:s.size<=281474976710656):Calls prog 68 #[.string s] w λe w'=>e=.returned (.string s)/\aa ae w w':=by have H:af (Calls prog 133 #[.string s] w λe w'=>e=.returned (.string s)/\aa ae w w'):=Qh w s hs;go_enter func68,ntmps68;go_wp2_with fail;refine H.o.mono ?_;rintro e w1 ⟨rfl,m1⟩;go_wp2_with fail;go_ret;exact⟨rfl,m1⟩
theorem Iy(w:tW)(s:tBA)(hs:s.size<=281474976710656):Calls prog 38 #[.string s] w λe w'=>e=.returned (.string s)/\aa ae w w':=by have H:af (Calls prog 68 #[.string s] w λe w'=>e=.returned (.string s)/\aa ae w w'):=KV w s hs;go_enter func38,ntmps38;go_wp2_with fail;refine H.o.mono ?_;rintro e w1 ⟨rfl,m1⟩;go_wp2_with fail;go_ret;exact⟨rfl,m1⟩
structure MV where
 so:Nat:=0
 bits:Nat:=0
 aD:Option Nat:=none
 tab:Option Nat:=none
def kI(n:Nat):MV:=⟨0,n,none,none⟩
def uA(r off:Nat):MV:=⟨2,off,some r,none⟩
def mmap(t:Nat):MV:=⟨1,0,none,some t⟩
def MV.Rt(a b:MV):Bool:=decide (a.so=b.so)&&decide (a.bits=b.bits)&&decide (a.aD=b.aD)&&decide (a.tab=b.tab)
def MV.cells(rb mb:List Nat)(v:MV):List Value:=[.int .i64 v.so,.int .u64 v.bits,.pointer (v.aD.map λr=>⟨rb.getD r 0,0,none⟩),.pointer (v.tab.map λt=>⟨mb.getD t 0,0,none⟩)]
theorem MV.jP(rb mb:List Nat)(v:MV):(v.cells rb mb).length=4:=rfl
structure ja where
 fn:Nat
 slot:Nat
 next:Nat
 regs:List MV
 oJ:Nat
def ja.cells(rb mb:List Nat)(f:ja):List Value:=[.int .i64 f.fn,.int .i64 f.slot,.int .i64 f.next]++f.regs.flatMap (MV.cells rb mb)++[.pointer (some ⟨rb.getD f.oJ 0,0,none⟩)]
theorem jA(rb mb:List Nat)(l:List MV):(l.flatMap (MV.cells rb mb)).length=l.length*4:=by
 induction l with
 |nil=>rfl
 |cons x l ih=>rw[ba,ab,ih,MV.jP,cj];omega
theorem ja.jP(rb mb:List Nat)(f:ja)(h:f.regs.length=11):(f.cells rb mb).length=48:=by unfold ja.cells;simp only[ab,jA,h,cj,List.length_nil]
structure aC where
 calls:List ja:=[]
 fuel:Nat:=0
 used:Nat:=0
 log:List Nat:=[]
 r0:Nat:=0
 ended:Bool:=false
 inp:Nat:=0
def aC.top(r:aC):ja:=r.calls.getD (r.calls.length-1) ⟨0,0,0,[],0⟩
def aC.dQ(r:aC)(f:ja):aC:={r with calls:=r.calls.set (r.calls.length-1) f}
def aC.aD(r:aC)(n:Nat):MV:=r.top.regs.getD n {}
def aC.eY(r:aC)(n:Nat)(v:MV):aC:=r.dQ {r.top with regs:=r.top.regs.set n v}
structure aB(w:tW)(b:Nat)(rb mb:List Nat)(vM vC vL:Value)(r:aC):Prop where
 blk:ak w b #[vM,.pointer (some ⟨rb.getD r.inp 0,0,none⟩),vC,.int .i64 r.fuel,.int .i64 r.used,vL,.int .u64 r.r0,.bool r.ended] 125
 calls:Sl w 190 48 vC r.calls.length (r.calls.flatMap (ja.cells rb mb))
 regs:∀f∈r.calls,f.regs.length=11
 depth:r.calls.length<=8
section
variable {w w' : World} {b : Nat} {rb mb : List Nat} {vM vC vL : Value} {r : aC}
theorem aB.quiet(h:aB w b rb mb vM vC vL r)(m:aa ae w w'):aB w' b rb mb vM vC vL r:=⟨h.blk.ag m id,h.calls.ag m (λ_ _=>id),h.regs,h.depth⟩
theorem kr{α:Type}(enc:α->List Value)(k:Nat):∀(l:List α),(∀x∈l,(enc x).length=k)->∀(i j:Nat) (hi:i<l.length),j<k->(l.flatMap enc)[i*k+j]?=(enc l[i])[j]?
 |x::l,h,0,j,_,hj=>by rw[ba,List.getElem?_append_left (by rw[h x (by simp)];omega)];simp
 |x::l,h,i+1,j,hi,hj=>by have hx:=h x (by simp);rw[ba,List.getElem?_append_right (by rw[hx,Nat.add_mul];omega),hx];have:=kr enc k l (λy hy=>h y (by simp[hy])) i j (by simpa using hi) hj;rw[show(i+1)*k+j-k=i*k+j by rw[Nat.add_mul];omega,this];rfl
theorem aB.view(h:aB w b rb mb vM vC vL r)(hp:0<r.calls.length):∃g cap,vC=.slice (some ⟨g,0,none⟩) r.calls.length cap/\r.top∈r.calls/\r.top.regs.length=11/\∀j,j<48->w.cell? ⟨g,(r.calls.length-1)*48+j,none⟩=(r.top.cells rb mb)[j]?:=by
 obtain⟨o,cap,hv,h2⟩:=h.calls.view;obtain⟨g,cs,rfl,hb,ht,_⟩:=h2 hp;have ht':r.top=r.calls[r.calls.length-1]:=by unfold aC.top;rw[List.getD_eq_getElem?_getD,List.getElem?_eq_getElem (by omega)];rfl
 have hm:r.top∈r.calls:=by rw[ht'];exact ao _
 refine⟨g,cap,hv,hm,h.regs _ hm,λj hj=>?_⟩;rw[aW hb ht _ (by omega),kr (ja.cells rb mb) 48 r.calls (λf hf=>ja.jP rb mb f (h.regs f hf)) (r.calls.length-1) j (by omega) hj,ht']
end
theorem Mq(w:tW)(b:Nat)(rb mb:List Nat)(vM vL:Value)(g cap:Nat)(r:aC)(h:aB w b rb mb vM (.slice (some ⟨g,0,none⟩) r.calls.length cap) vL r)(hp:0<r.calls.length):Calls prog 95 #[.pointer (some ⟨b,0,none⟩)] w λe w'=>e=.returned (.pointer (some ⟨g,(r.calls.length-1)*48,none⟩))/\aa ae w w':=by
 have x2:w.cell? ⟨b,2,none⟩=some (.slice (some ⟨g,0,none⟩) r.calls.length cap):=h.blk.cell 2;have hd:=h.depth;have hi:((r.calls.length:Int)-1)=((r.calls.length-1:Nat):Int):=by omega
 have hlt:r.calls.length-1<r.calls.length:=by omega
 clear h;generalize r.calls.length-1=k at *;generalize r.calls.length=n at *;go_enter func95,ntmps95;go_wp2_with fail;go_quiet (fail);have HM:af (aa ae w (w.drewN nq)):=ax.drewN nq;clear x2;generalize w.drewN nq=w1 at *;go_wp2_with fail;go_ret;exact⟨rfl,HM.o⟩
def atS:Nat->List PI->List (PI×Nat)
 |_,[]=>[]
 |s,x::l=>(x,s)::atS (s+x.o.slots) l
theorem Mr:∀(l:List PI) (s:Nat) (x:PI),atS s (l++[x])=atS s l++[(x,s+aM l)]
 |[],s,x=>by simp[atS,aM]
 |y::l,s,x=>by
  rw[cq,atS,atS,Mr l];have:aM (y::l)=y.o.slots+aM l:=by simp[aM]
  rw[this,cq,Nat.add_assoc]
theorem Fw:∀(l:List PI) (s:Nat) (p:PI×Nat),p∈atS s l->p.1∈l
 |x::l,s,p,h=>by
  rw[atS]at h;rcases List.mem_cons.1 h with rfl|h
  ·simp
  ·have:=Fw l _ p h;simp[this]
structure mI(w:tW)(bs:List Nat)(g:Nat)(n:Nat)(l:List (PI×Nat)):Prop where
 ex:∃cs,ak w g cs 138/\cs.size=n*8/\∀p∈l,∀c,c<8->cs[p.2*8+c]?=((p.1.ins bs).dU)[c]?
theorem mI.ag{S:Nat->Prop}{w w':tW}{bs:List Nat}{g n:Nat}{l:List (PI×Nat)}(h:mI w bs g n l)(m:aa S w w')(hS:¬S g):mI w' bs g n l:=by obtain⟨cs,h1,h2⟩:=h.ex;exact⟨⟨cs,h1.ag m hS,h2⟩⟩
theorem KW:∀(l:List PI) (s:Nat) (p:PI×Nat),p∈atS s l->p.2+p.1.o.slots<=s+aM l
 |x::l,s,p,h=>by
  have e:aM (x::l)=x.o.slots+aM l:=by simp[aM]
  rw[atS]at h;rcases List.mem_cons.1 h with rfl|h
  ·simp only;omega
  ·have:=KW l _ p h;omega
theorem Qi(l:List PI)(k:Nat):aM (l.take k)=eH l k:=rfl
theorem Iz(w:tW)(tv:Value)(bs:List Nat)(hO:aH 0 w tv bs aq)(code:List PI)(hok:∀x∈code,eU x)(hl:code.length<=10000)(vC:Value)(hC:Sl w 138 8 vC code.length (xe bs code))(nm:tBA):Calls prog 39 #[.agg #[.string nm,vC]] w λe w'=>∃g,e=.returned (.slice (some ⟨g,0,none⟩) (aM code) (aM code))/\w.heap.size<=g/\mI w' bs g (aM code) (atS 0 code)/\aa ae w w':=by
 obtain⟨oC,cC,rfl,_⟩:=hC.view;have HO:=ai hO;have HC:=ai hC;have Cu:=ai hok;have GR:af (∀k,eH code k<=20000):=λk=>by have:=zR code Cu.o k;omega
 have hsl:aM code<=20000:=by have:=GR.o code.length;rwa [eH,ar]at this
 have ET:af (∀w',aa ae w w'->Calls prog 69 #[.agg #[.string nm,.slice oC code.length cC]] w' λe w2=>e=.returned (.int .i64 (aM code))/\aa ae w' w2):=λw' m=>Bk w' tv bs (hO.ag m) code hok hl _ (hC.ag m (λ_ _=>id)) nm;obtain⟨iP,hiP,rX,hsP,wj⟩:=info_parts vH
 have qV:af (∀w',(Instr.makeSlice 73 (.int .i64 (aM code:Nat)) (.int .i64 (aM code:Nat))).run prog w'=.ok (.slice (some ⟨w'.heap.size,0,none⟩) (aM code) (aM code)) (w'.alloc (.cells (madeCells Z8 (aM code*8)) 138))):=λw'=>by
  have:=run_make (P:=prog) w' 73 138 iP _ underlying73 hiP rX .i64 .i64 (aM code:Nat) (aM code:Nat) (by omega) (by omega) (by rw[wj];omega) (by omega);rw[hsP]at this
  simpa [Value.cells]using this
 have eX:af (aa ae w (w.alloc (.cells #[.string nm,.slice oC code.length cC] 96))):=aj;have HB0:af (ak (w.alloc (.cells #[.string nm,.slice oC code.length cC] 96)) w.heap.size #[.string nm,.slice oC code.length cC] 96):=ak.new _ _ _;clear hO hC hok;go_enter func39,ntmps39;go_wp2_with fail;refine(ET.o _ eX.o).mono ?_;rintro e w1 ⟨rfl,m1⟩;have hB1:=HB0.o.ag m1 id;have dh:=ai (eX.o.trans m1);have hmk:=qV.o w1;have HN:af (aM code=eH code code.length):=by rw[af,eH,ar];rfl
 generalize hn:aM code=n at *;have LU:=ai hn;clear hn;have HG:=ai dh.o.size;have HB2:af (ak (w1.alloc (.cells (madeCells Z8 (n*8)) 138)) w1.heap.size (madeCells Z8 (n*8)) 138):=ak.new _ _ _;have dD:af (aa ae w (w1.alloc (.cells (madeCells Z8 (n*8)) 138))):=dh.o.alloc _;have HZ:af ((madeCells Z8 (n*8)).size=n*8):=size_madeCells _ _;have b1:(w1.alloc (.cells (madeCells Z8 (n*8)) 138)).cell? ⟨w.heap.size,1,none⟩=some (.slice oC code.length cC):=(hB1.alloc _).cell 1;generalize madeCells Z8 (n*8)=cs0 at *;go_upto_block 0 with fail;generalize w1.alloc (.cells cs0 138)=w2 at *;generalize w1.heap.size=G at *;have HW2:af (mI w2 bs G n []/\w.heap.size<=G):=⟨⟨⟨cs0,HB2.o,HZ.o,λp h=>by cases h⟩⟩,HG.o⟩
 clear HB2 HZ hB1 qV hmk m1 dh HB0 eX ET HG;go_cut [4] (λ_ wx=>mI wx bs G n (atS 0 code)/\aa ae w wx)
 case first =>
  go_wp2_with fail;clear b1;go_loopg [4,13] code.length (λq sv iv wx=>∃k:Nat,iv=.int .i64 k/\sv=.int .i64 (eH code k)/\mI wx bs G n (atS 0 (code.take k))/\aa ae w wx/\k<=code.length/\q=code.length-k)
  case atStart=>exact⟨0,rfl,rfl,HW2.o.1,dD.o,ca _,rfl⟩
  case round =>
   obtain⟨k,rfl,rfl,hB,hM,hk,rfl⟩:=hrel;have HB:=ai hB;have HM:=ai hM;clear hB hM;by_cases hlt:k<code.length
   ·have NL:af (eH code (k+1)=eH code k+code[k].o.slots):=uf code k hlt;have HAt:af (atS 0 (code.take (k+1))=atS 0 (code.take k)++[(code[k],eH code k)]):=by rw[af,al hlt,Mr,Nat.zero_add];rfl
    have hmono:eH code (k+1)<=n:=by
     rw[HN.o,eH,eH,ar];have:=List.take_append_drop (k+1) code
     conv=>rhs;rw[<-this,List.map_append,List.sum_append]
     omega
    rw[NL.o]at hmono;obtain⟨g,rfl,hg,q0,q1,q2,q3,q4,q5,q6,q7⟩:=kZ (HC.o.ag HM.o (λ_ _=>id)) rfl rfl k hlt;have hx:=Cu.o code[k] (ao hlt);have HAT:af (∀w',aa ae w w'->bY w' (bs[code[k].k]?.getD 0) code[k].o):=λw' m=>jI (HO.o.ag m) code[k] hx.k;have TL:af (∀p∈atS 0 (code.take k),p.2+1<=eH code k):=λp hp=>by have h1:=KW _ _ p hp;have h2:=(Cu.o p.1 (List.mem_of_mem_take (Fw _ _ p hp))).slots;rw[Qi]at h1;omega
    have hsum:=GR.o k;have hsl2:=hx.slots;have XV:af ((code[k].ins bs).dU=[.pointer (some ⟨bs[code[k].k]?.getD 0,0,none⟩),.int .u8 code[k].d,.int .u8 code[k].s,.int .i16 code[k].jump,.int .i32 code[k].num,.int .i32 code[k].high,.string ByteArray.empty,.string (T code[k].name)]):=rfl;clear hx;generalize code[k].o=o at *;generalize code[k].jump=jmp at *;generalize code[k].d=xd at *;generalize code[k].s=xs at *;generalize code[k].num=xn at *;generalize code[k].high=xh at *;generalize T code[k].name=xm at *;generalize bs[code[k].k]?.getD 0=b at *;obtain⟨cs,hbk,hsz,hcs⟩:=HB.o.ex;have HBK:af (ak (wr.alloc (.cells #[.pointer (some ⟨b,0,none⟩),.int .u8 xd,.int .u8 xs,.int .i16 jmp,.int .i32 xn,.int .i32 xh,.string ByteArray.empty,.string xm] 138)) G cs 138):=hbk.alloc _;have nE:=ai hcs;have IA:=ai hsz;have HX:af (ak (wr.alloc (.cells #[.pointer (some ⟨b,0,none⟩),.int .u8 xd,.int .u8 xs,.int .i16 jmp,.int .i32 xn,.int .i32 xh,.string ByteArray.empty,.string xm] 138)) wr.heap.size #[.pointer (some ⟨b,0,none⟩),.int .u8 xd,.int .u8 xs,.int .i16 jmp,.int .i32 xn,.int .i32 xh,.string ByteArray.empty,.string xm] 138):=ak.new _ _ _;have Ct:af (aa ae w (wr.alloc (.cells #[.pointer (some ⟨b,0,none⟩),.int .u8 xd,.int .u8 xs,.int .i16 jmp,.int .i32 xn,.int .i32 xh,.string ByteArray.empty,.string xm] 138))):=HM.o.alloc _;have HGX:=ai hbk.lt;clear hbk hcs hsz HB HM;generalize eH code k=sk at *;have hlt2:sk<n:=by omega
    go_upto_region 6 with fail;generalize hwa:wr.alloc (.cells #[.pointer (some ⟨b,0,none⟩),.int .u8 xd,.int .u8 xs,.int .i16 jmp,.int .i32 xn,.int .i32 xh,.string ByteArray.empty,.string xm] 138)=wa at *;generalize wr.heap.size=X at *;have x0:wa.cell? ⟨X,0,none⟩=some (.pointer (some ⟨b,0,none⟩)):=HX.o.cell 0;have x1:wa.cell? ⟨X,1,none⟩=some (.int .u8 xd):=HX.o.cell 1;have x2:wa.cell? ⟨X,2,none⟩=some (.int .u8 xs):=HX.o.cell 2;have x3:wa.cell? ⟨X,3,none⟩=some (.int .i16 jmp):=HX.o.cell 3;have x4:wa.cell? ⟨X,4,none⟩=some (.int .i32 xn):=HX.o.cell 4;have x5:wa.cell? ⟨X,5,none⟩=some (.int .i32 xh):=HX.o.cell 5;have x6:wa.cell? ⟨X,6,none⟩=some (.string ByteArray.empty):=HX.o.cell 6;have x7:wa.cell? ⟨X,7,none⟩=some (.string xm):=HX.o.cell 7;go_upto_region 7 with(refine vV rfl 138 (.tmp 20) (.tmp 19) rfl G (sk*8) #[.pointer (some ⟨b,0,none⟩),.int .u8 xd,.int .u8 xs,.int .i16 jmp,.int .i32 xn,.int .i32 xh,.string ByteArray.empty,.string xm] rfl rfl 138 cs HBK.o (by kernel_rfl) (by have:=IA.o;simp;omega) (by simp[Value.oneCell']) ?_)
    have TV:af (ak (wa.setRow G (AO cs (sk*8) (#[.pointer (some ⟨b,0,none⟩),.int .u8 xd,.int .u8 xs,.int .i16 jmp,.int .i32 xn,.int .i32 xh,.string ByteArray.empty,.string xm]:tAV).toList)) G (AO cs (sk*8) (#[.pointer (some ⟨b,0,none⟩),.int .u8 xd,.int .u8 xs,.int .i16 jmp,.int .i32 xn,.int .i32 xh,.string ByteArray.empty,.string xm]:tAV).toList) 138):=HBK.o.AO _ _;have Et:af (aa (Only G) wa (wa.setRow G (AO cs (sk*8) (#[.pointer (some ⟨b,0,none⟩),.int .u8 xd,.int .u8 xs,.int .i16 jmp,.int .i32 xn,.int .i32 xh,.string ByteArray.empty,.string xm]:tAV).toList))):=zA _;generalize wa.setRow G (AO cs (sk*8) (#[.pointer (some ⟨b,0,none⟩),.int .u8 xd,.int .u8 xs,.int .i16 jmp,.int .i32 xn,.int .i32 xh,.string ByteArray.empty,.string xm]:tAV).toList)=w3 at *;have dw:af (aa ae w w3):=Ct.o.step Et.o (λi hi e=>by have e':i=G:=e;have:=HW2.o.2;omega);have z0:w3.cell? ⟨X,0,none⟩=some (.pointer (some ⟨b,0,none⟩)):=(HX.o.ag Et.o (show ¬X=G by have:=HGX.o;omega)).cell 0;obtain⟨y2,_,_,_⟩:=(HAT.o w3 dw.o).cells
    have Fs:af (mI w3 bs G n (atS 0 (code.take (k+1)))):=by
     refine⟨⟨_,TV.o,?_,λp hp c hc=>?_⟩⟩
     ·rw[Uy _ _ _ (by have:=IA.o;simp;omega)];exact IA.o
     ·rw[HAt.o]at hp;have hle:sk*8+(#[.pointer (some ⟨b,0,none⟩),.int .u8 xd,.int .u8 xs,.int .i16 jmp,.int .i32 xn,.int .i32 xh,.string ByteArray.empty,.string xm]:tAV).toList.length<=cs.size:=by have:=IA.o;simp;omega
      rcases List.mem_append.1 hp with hp|hp
      ·have:=TL.o p hp;rw[Yf _ _ _ hle _ (.inl (by omega))];exact nE.o p hp c hc
      ·rw[List.mem_singleton.1 hp];rw[aaM _ _ _ hle c (by simpa using hc),XV.o]
    clear x0 x1 x2 x3 x4 x5 x6 x7 TV Et HX HBK nE IA Ct HAT q0 q1 q2 q3 q4 q5 q6 q7;generalize o.slots=os at *;go_wp2_with fail;go_roundg (code.length-(k+1))
    case measure=>omega
    case rel=>exact⟨k+1,by go_num,by rw[NL.o];go_num,Fs.o,dw.o,by omega,rfl⟩
   ·obtain rfl:k=code.length:=by omega
    rw[ar]at HB;go_wp2_with fail;go_meet;exact⟨HB.o,HM.o⟩
 case rest =>
 obtain⟨hB,hM⟩:=hcut;go_wp2_with fail;go_ret;exact⟨G,by rw[LU.o];rfl,HW2.o.2,by rw[LU.o];exact hB,hM⟩
theorem KX(w:tW)(s:tBA)(k v n:Int):Calls prog 40 #[.string s,.int .i64 k,.int .i64 v,.int .i64 n] w λe w'=>e=.returned (.pointer (some ⟨w.heap.size,0,none⟩))/\w'=w.alloc (.cells #[.string s,.int .i64 k,.int .i64 v,.int .i64 n,.slice none 0 0] 85):=by go_enter func40,ntmps40;go_wp2_with fail;go_ret;exact⟨rfl,rfl⟩
def Fx(x:aS×Nat):List Value:=[.string (T x.1.name),.slice (some ⟨x.2,0,none⟩) (aM x.1.code) (aM x.1.code)]
def Wf(b:Nat):List Value:=[.pointer (some ⟨b,0,none⟩)]
structure oK(w0:tW)(bs:List Nat)(b:Nat)(vF vM:Value)(fs:List aS)(gs:List Nat)(ms:List az)(mb:List Nat)(w:tW):Prop where
 blk:ak w b #[.int .i32 0,.int .u32 0,vF,vM] 71
 lf:gs.length=fs.length
 vT:Sl w 75 2 vF fs.length ((fs.zip gs).flatMap Fx)
 code:∀i (h:i<fs.length) (h':i<gs.length),mI w bs gs[i] (aM fs[i].code) (atS 0 fs[i].code)
 lm:mb.length=ms.length
 zx:Sl w 82 1 vM ms.length (mb.flatMap Wf)
 maps:∀i (h:i<ms.length) (h':i<mb.length),ak w mb[i] #[.string (T ms[i].name),.int .i64 ms[i].key,.int .i64 ms[i].value,.int .i64 ms[i].entries,.slice none 0 0] 85
 lo:w0.heap.size<=b
 oH:∀k,vF.ownBlock=some k->w0.heap.size<=k
 qH:∀k,vM.ownBlock=some k->w0.heap.size<=k
 l8:∀g∈gs,w0.heap.size<=g
 ownB:∀g∈mb,w0.heap.size<=g
 nd:mb.Nodup
 md:aa ae w0 w
section
variable {w0 w w' : World} {bs : List Nat} {b : Nat} {vF vM v' : Value} {fs : List aS} {gs mb : List Nat} {ms : List az}
theorem oK.quiet(h:oK w0 bs b vF vM fs gs ms mb w)(m:aa ae w w'):oK w0 bs b vF vM fs gs ms mb w' :=
 ⟨h.blk.ag m id,h.lf,h.vT.ag m (λ_ _=>id),λi a c=>(h.code i a c).ag m id,h.lm,h.zx.ag m (λ_ _=>id),λi a c=>(h.maps i a c).ag m id,h.lo,h.oH,h.qH,h.l8,h.ownB,h.nd,h.md.trans m⟩
theorem ak.neq{w:tW}{a b:Nat}{cs ds:tAV}{t u:TypeId}(h:ak w a cs t)(k:ak w b ds u)(hn:t≠u):a≠b:=λe=>by
 subst e;have h1:w.heap[a]?=some (.cells cs t (0,0)):=h;have h2:w.heap[a]?=some (.cells ds u (0,0)):=k;rw[h1]at h2;injection h2 with h2;injection h2 with _ h3 _;exact hn h3
theorem oK.func(h:oK w0 bs b vF vM fs gs ms mb w)(f:aS)(g:Nat)(hg:mI w bs g (aM f.code) (atS 0 f.code))(hlo:w0.heap.size<=g)(s:Sl w' 75 2 v' (fs.length+1) ((fs.zip gs).flatMap Fx++Fx (f,g)))(m:aa (λk=>vF.ownBlock=some k) w w')(l:∀k,v'.ownBlock=some k->vF.ownBlock=some k\/w.heap.size<=k):ak w' b #[.int .i32 0,.int .u32 0,vF,vM] 71/\oK w0 bs b v' vM (fs++[f]) (gs++[g]) ms mb (w'.setCell ⟨b,2,none⟩ v'):=by
 have hB:ak w' b #[.int .i32 0,.int .u32 0,vF,vM] 71:=h.blk.ag m (λe=>h.vT.au h.blk (by decide) e);refine⟨hB,?_⟩;have mP:aa (Only b) w' (w'.setCell ⟨b,2,none⟩ v'):=ax.aY _ _;have hC:∀{g n:Nat} {l:List (PI×Nat)},mI w bs g n l->mI (w'.setCell ⟨b,2,none⟩ v') bs g n l:=fun{g n l} hb=>by obtain⟨cs,hk,_⟩:=hb.ex;have h1:=hb.ag m (λe=>h.vT.au hk (by decide) e);obtain⟨cs',hk',_⟩:=h1.ex;exact h1.ag mP (λe=>(ak.neq hk' hB (by decide)) e)
 have hM:∀i (a:i<ms.length) (c:i<mb.length),ak (w'.setCell ⟨b,2,none⟩ v') mb[i] #[.string (T ms[i].name),.int .i64 ms[i].key,.int .i64 ms[i].value,.int .i64 ms[i].entries,.slice none 0 0] 85:=λi a c=>by have h1:=(h.maps i a c).ag m (λe=>h.vT.au (h.maps i a c) (by decide) e);exact h1.ag mP (λe=>(ak.neq h1 hB (by decide)) e)
 have hs:Sl (w'.setCell ⟨b,2,none⟩ v') 75 2 v' (fs.length+1) ((fs.zip gs).flatMap Fx++Fx (f,g)):=s.ag mP (λk hk e=>s.au hB (by decide) (hk.trans (congrArg some e)));have hms:Sl w' 82 1 vM ms.length (mb.flatMap Wf):=h.zx.ag m (λk hk e=>h.zx.apart h.vT (by decide) hk e);refine⟨hB.set 2 v',by simp[h.lf],?_,λi a c=>?_,h.lm,hms.ag mP (λk hk e=>hms.au hB (by decide) (hk.trans (congrArg some e))),hM,h.lo,λk hk=>?_,h.qH,λx hx=>?_,h.ownB,h.nd,?_⟩
 ·rw[List.zip_append h.lf.symm,bO,ab]
  simpa using hs
 ·by_cases hi:i<fs.length
  ·have hi':i<gs.length:=by rw[h.lf];exact hi
   simp only[an hi,an hi'];exact hC (h.code i hi hi')
  ·have e1:i=fs.length:=by simp at a;omega
   have e3:(fs++[f])[i]=f:=by subst e1;simp
   have e4:(gs++[g])[i]=g:=by subst e1;simp[<-h.lf]
   rw[e3,e4];exact hC hg
 ·rcases l k hk with e|e
  ·exact h.oH k e
  ·have:=h.md.size;omega
 ·rcases List.mem_append.1 hx with hx|hx
  ·exact h.l8 x hx
  ·rw[List.mem_singleton.1 hx];exact hlo
 ·refine(h.md.step m (λi hi e=>by have:=h.oH i e;omega)).step mP (λi hi e=>?_);have e':i=b:=e;have:=h.lo;omega
theorem oK.map(h:oK w0 bs b vF vM fs gs ms mb w)(x:az)(g:Nat)(hg:ak w g #[.string (T x.name),.int .i64 x.key,.int .i64 x.value,.int .i64 x.entries,.slice none 0 0] 85)(hlo:w0.heap.size<=g)(hnew:g ∉ mb)(s:Sl w' 82 1 v' (ms.length+1) (mb.flatMap Wf++Wf g))(m:aa (λk=>vM.ownBlock=some k) w w')(l:∀k,v'.ownBlock=some k->vM.ownBlock=some k\/w.heap.size<=k):ak w' b #[.int .i32 0,.int .u32 0,vF,vM] 71/\oK w0 bs b vF v' fs gs (ms++[x]) (mb++[g]) (w'.setCell ⟨b,3,none⟩ v'):=by
 have hB:ak w' b #[.int .i32 0,.int .u32 0,vF,vM] 71:=h.blk.ag m (λe=>h.zx.au h.blk (by decide) e);refine⟨hB,?_⟩;have mP:aa (Only b) w' (w'.setCell ⟨b,3,none⟩ v'):=ax.aY _ _;have hC:∀{g n:Nat} {l:List (PI×Nat)},mI w bs g n l->mI (w'.setCell ⟨b,3,none⟩ v') bs g n l:=fun{g n l} hb=>by obtain⟨cs,hk,_⟩:=hb.ex;have h1:=hb.ag m (λe=>h.zx.au hk (by decide) e);obtain⟨cs',hk',_⟩:=h1.ex;exact h1.ag mP (λe=>(ak.neq hk' hB (by decide)) e)
 have hM:∀{g:Nat} {cs:tAV},ak w g cs 85->ak (w'.setCell ⟨b,3,none⟩ v') g cs 85:=fun{g cs} hb=>by have h1:=hb.ag m (λe=>h.zx.au hb (by decide) e);exact h1.ag mP (λe=>(ak.neq h1 hB (by decide)) e)
 have hs:Sl (w'.setCell ⟨b,3,none⟩ v') 82 1 v' (ms.length+1) (mb.flatMap Wf++Wf g):=s.ag mP (λk hk e=>s.au hB (by decide) (hk.trans (congrArg some e)));have hfs:Sl w' 75 2 vF fs.length ((fs.zip gs).flatMap Fx):=h.vT.ag m (λk hk e=>h.vT.apart h.zx (by decide) hk e);refine⟨hB.set 3 v',h.lf,hfs.ag mP (λk hk e=>hfs.au hB (by decide) (hk.trans (congrArg some e))),λi a c=>hC (h.code i a c),by simp[h.lm],?_,λi a c=>?_,h.lo,h.oH,λk hk=>?_,h.l8,λy hy=>?_,?_,?_⟩
 ·rw[bO,ab]
  simpa using hs
 ·by_cases hi:i<ms.length
  ·have hi':i<mb.length:=by rw[h.lm];exact hi
   simp only[an hi,an hi'];exact hM (h.maps i hi hi')
  ·have e1:i=ms.length:=by simp at a;omega
   have e3:(ms++[x])[i]=x:=by subst e1;simp
   have e4:(mb++[g])[i]=g:=by subst e1;simp[<-h.lm]
   rw[e3,e4];exact hM hg
 ·rcases l k hk with e|e
  ·exact h.qH k e
  ·have:=h.md.size;omega
 ·rcases List.mem_append.1 hy with hy|hy
  ·exact h.ownB y hy
  ·rw[List.mem_singleton.1 hy];exact hlo
 ·rw[List.nodup_append];refine⟨h.nd,by simp,λa ha c hc e=>?_⟩;rw[List.mem_singleton.1 hc]at e;exact hnew (e ▸ ha)
 ·refine(h.md.step m (λi hi e=>by have:=h.qH i e;omega)).step mP (λi hi e=>?_);have e':i=b:=e;have:=h.lo;omega
end
theorem Qj:(prog.info? 75).map (λi=>(i.zero,i.size,i.bytes))=some (some (.agg #[.string ByteArray.empty,.slice none 0 0]),2,40):=by kernel_rfl
theorem Qk:(prog.info? 82).map (λi=>(i.zero,i.size,i.bytes))=some (some (.pointer none),1,8):=by kernel_rfl
theorem DM:∀(l pre z:List Value),z.length=l.length->(l.zipIdx pre.length).foldl (λ(cs:tAV) x=>cs.setIfInBounds (0+x.2) x.1) (pre++z).toArray=(pre++l).toArray
 |[],pre,z,h=>by have:z=[]:=List.length_eq_zero_iff.1 h;subst this;rfl
 |a::l,pre,[],h=>by cases h
 |a::l,pre,b::z,h=>by
  rw[List.zipIdx_cons,List.foldl_cons];have e:((pre++b::z).toArray.setIfInBounds (0+pre.length) a)=((pre++[a])++z).toArray:=by rw[Nat.zero_add,List.setIfInBounds_toArray,List.set_append_right _ _ (bj _),Nat.sub_self,List.set_cons_zero,aE];rfl
  have ih:=DM l (pre++[a]) z (by simpa using h);rw[ab,List.length_singleton]at ih;show(l.zipIdx (pre.length+1)).foldl _ ((pre++b::z).toArray.setIfInBounds (0+pre.length) a)=_
  rw[e,ih,aE];rfl
theorem Ql(n:Nat)(cs z:tAV)(hc:cs.size=n)(hz:z.size=n):Instr.fill (λi=>some (i*n,n)) z [(0,.agg cs)]=some cs:=by
 obtain⟨l⟩:=cs;obtain⟨m⟩:=z;simp only[b9]at hc hz;have h:=DM l [] m (by omega);have hcl:(Value.agg l.toArray).cells=l.toArray:=rfl;simp only[Instr.fill,hcl,b9,hc,hz];rw[iN9 (by simp)];simp only[List.nil_append,List.length_nil]at h
 simpa using h
theorem uP{P:Program}{o:Oper}{a:Act}{w:tW}{K:Act->tW->Prop}{Q:Exit->Act->tW->Prop}(t e:TypeId)(n:Nat)(x:Operand)(ho:o.op=.buildSlice t 1 #[(0,x)])(cs:tAV)(hx:a.eval x=.agg cs)(hn:cs.size=n)(i:TypeInfo)(z:Value)(hu:P.underlying t=some (.slice e)) (hi:P.info? e=some i) (hz:i.zero=some z) (hs:i.size=n) (h0:0<n) (h1:n<=1000)(h:K (a.put o.dst (.slice (some ⟨w.heap.size,0,none⟩) 1 1)) (w.alloc (.cells cs e))):o.wp P a w K Q:=by refine wp_buildSlice t e 1 _ ho cs i z hu hi hz (by rw[hs];omega) (by rw[hs];omega) ?_ h;rw[hs];simp only[List.map_toArray,List.map_cons,List.map_nil,hx];exact Ql n _ _ hn (by simp)
def xL(w:tW)(d:List az×List aS×PR)(e:Ending)(w':tW):Prop :=
 if d.2.2.bad then e=.returned (.tuple #[.pointer none,.int .i64 7])/\aa ae w w'
 else ∃bs b vF vM gs mb tv wT,e=.returned (.tuple #[.pointer (some ⟨b,0,none⟩),.int .i64 0])/\aH 0 wT tv bs aq/\aa ae w wT/\(∀f∈d.2.1,∀x∈f.code,eU x)/\oK wT bs b vF vM d.2.1 gs d.1 mb w'
theorem Uz(w:tW)(hW:sV w)(s:tLB)(hs:s.length<=maxLen)(hok:(dP s).2.2.bad=false->(∀f∈(dP s).2.1,f.name.length<=255/\f.code.length<=2000)/\(∀m∈(dP s).1,m.name.length<=255/\m.key<256/\m.value<256/\m.entries<256)/\(dP s).2.1.length<=1000/\(dP s).1.length<=1000):Calls prog 22 #[.string (T s)] w λe w'=>xL w (dP s) e w':=by
 have acv:af (Calls prog 37 #[] w λe w'=>∃v bs,e=.returned v/\aH 0 w' v bs aq/\aa ae w w'):=yC w hW;have acw:af (∀(wT:tW) (tv:Value) (bs:List Nat),aH 0 wT tv bs aq->Calls prog 36 #[tv,.string (T s)] wT λe w'=>mZ wT bs (dP s) e w'):=λwT tv bs hT=>KU wT wT tv bs hT ax s hs;have uH:af _:=hok;clear hW hok;generalize dP s=d at *;obtain⟨ms,fs,⟨rst,bad⟩⟩:=d;unfold xL;simp only at *;go_enter func22,ntmps22;go_wp2_with fail;refine acv.o.mono ?_;rintro e w1 ⟨tv,bs,rfl,hO,m1⟩;obtain⟨oT,cT,hv,_⟩:=hO.sl.view;subst hv;have HO:=ai hO;have dh:=ai m1;clear hO m1 acv;go_wp2_with fail;refine(acw.o _ _ _ HO.o).mono ?_;rintro e w2 ⟨vM,vF,vs,rfl,m2,⟨oM,nM,cM,oF,nF,cF,rfl,rfl⟩,hgood⟩;have dD:=ai m2;have HG:af _:=hgood;clear m2 hgood acw;cases bad with
 |true =>go_wp2_with fail;go_ret2;exact⟨rfl,(dh.o.trans dD.o).alloc _⟩
 |false =>
  obtain⟨hmL,hF⟩:=HG.o rfl;obtain⟨k1,k2,k3,k4⟩:=uH.o rfl;obtain rfl:nM=ms.length:=by obtain⟨_,_,e,_⟩:=hmL.view;cases e;rfl
  obtain rfl:nF=fs.length:=by obtain⟨_,_,e,_⟩:=hF.sl.view;cases e;rfl
  have HmL:=ai hmL;have HF:=ai hF;have HK1:=ai k1;have HK2:=ai k2;clear hmL hF k1 k2 HG uH;go_upto_block 0 with fail;have ZC:af (aa ae w2 (w2.alloc (.cells #[.slice oM ms.length cM,.slice oF fs.length cF] 90))):=aj;have HPb:af (ak (w2.alloc (.cells #[.slice oM ms.length cM,.slice oF fs.length cF] 90)) w2.heap.size #[.slice oM ms.length cM,.slice oF fs.length cF] 90):=ak.new _ _ _;have IA:af ((w2.alloc (.cells #[.slice oM ms.length cM,.slice oF fs.length cF] 90)).heap.size=w2.heap.size+1):=by simp[af]
  generalize hwp:w2.alloc (.cells #[.slice oM ms.length cM,.slice oF fs.length cF] 90)=wP at *;clear hwp;have FP:=ai (HF.o.quiet ZC.o);have HPM:af (Sl wP 100 4 (.slice oM ms.length cM) ms.length (ms.flatMap az.cells)):=HmL.o.ag ZC.o (λ_ _=>id);have rQ:=ai (HO.o.ag (dD.o.trans ZC.o));have Pc:af (aa ae w wP):=(dh.o.trans dD.o).trans ZC.o;have HA0:af (oK wP bs (w2.heap.size+1) (.slice none 0 0) (.slice none 0 0) [] [] [] [] (wP.alloc (.cells #[.int .i32 0,.int .u32 0,.slice none 0 0,.slice none 0 0] 71))):=by refine⟨?_,rfl,Sl.nil _ _ _,(λi h=>by cases h),rfl,Sl.nil _ _ _,(λi h=>by cases h),by rw[IA.o];exact bj _,(λk h=>by cases h),(λk h=>by cases h),(λg h=>by cases h),(λg h=>by cases h),List.nodup_nil,aj⟩;have:=ak.new wP #[.int .i32 0,.int .u32 0,.slice none 0 0,.slice none 0 0] 71;rw[IA.o]at this;exact this
  generalize wP.alloc (.cells #[.int .i32 0,.int .u32 0,.slice none 0 0,.slice none 0 0] 71)=wM at *;have HBP:af (w2.heap.size<wP.heap.size):=by rw[af,IA.o];omega
  generalize w2.heap.size+1=B at *;generalize w2.heap.size=Pb at *;clear HF HmL HO dh dD ZC IA;obtain⟨iP,hiP,rX,hsP,wj⟩:=info_parts Qj;go_cut [24] (λ_ wx=>∃vF gs,oK wP bs B vF (.slice none 0 0) fs gs [] [] wx)
  case first =>
   go_wp2_with fail;go_loopg [24] fs.length (λq iv wx=>∃(k:Nat) (vF:Value) (gs:List Nat),iv=.int .i64 k/\oK wP bs B vF (.slice none 0 0) (fs.take k) gs [] [] wx/\k<=fs.length/\q=fs.length-k)
   case atStart=>exact⟨0,_,[],rfl,HA0.o,ca _,rfl⟩
   case round =>
    obtain⟨k,vFk,gs,rfl,hA,hk,rfl⟩:=hrel;have hlt':(fs.take k).length=k:=by rw[bh];omega
    obtain⟨oV,cV,hvV,_⟩:=hA.vT.view;rw[hlt']at hvV;subst hvV;by_cases hlt:k<fs.length
    ·have Cw:=FP.o.quiet hA.md;have CP:k<vs.length:=by rw[Cw.len];exact hlt
     obtain⟨gF,rfl,c0,c1'⟩:=Cw.TI k hlt CP;have pF:=Cw.cd k hlt CP;have hkn:=HK1.o fs[k] (ao hlt);have aeu:af (∀x∈fs[k].code,eU x):=Cw.ok fs[k] (ao hlt);have Yd:af (fs.take (k+1)=fs.take k++[fs[k]]):=al hlt;obtain⟨oC,cC,hvC,_⟩:=pF.view;rw[hvC]at c1' pF;have HA:=ai hA;have PM:=ai pF;clear Cw pF hA hvC;generalize hfk:fs[k]=f at *;obtain⟨nm,code⟩:=f;simp only at *;go_upto_region 8 with fail;have kG:af (oK wP bs B (.slice oV k cV) (.slice none 0 0) (fs.take k) gs [] [] (wr.alloc (.cells #[.string (T nm),.slice oC code.length cC] 96))):=HA.o.quiet aj;have Ph:af (Sl (wr.alloc (.cells #[.string (T nm),.slice oC code.length cC] 96)) 138 8 (.slice oC code.length cC) code.length (xe bs code)):=PM.o.ag ((aa.refl ae _).alloc _) (λ_ _=>id);have HX3:af (ak (wr.alloc (.cells #[.string (T nm),.slice oC code.length cC] 96)) wr.heap.size #[.string (T nm),.slice oC code.length cC] 96):=ak.new _ _ _;clear HA PM c0 c1';generalize wr.alloc (.cells #[.string (T nm),.slice oC code.length cC] 96)=W3 at *;generalize wr.heap.size=X at *;have HKC:af (∀w',aa ae W3 w'->Calls prog 38 #[.string (T nm)] w' λe w''=>e=.returned (.string (T nm))/\aa ae w' w''):=λw' _=>Iy w' (T nm) (by rw[bG];omega);have Fs:af (∀w',aa ae W3 w'->Calls prog 39 #[.agg #[.string (T nm),.slice oC code.length cC]] w' λe w''=>∃g,e=.returned (.slice (some ⟨g,0,none⟩) (aM code) (aM code))/\w'.heap.size<=g/\mI w'' bs g (aM code) (atS 0 code)/\aa ae w' w''):=λw' m=>Iz w' _ bs (rQ.o.ag (kG.o.md.trans m)) code aeu.o (by omega) _ (Ph.o.ag m (λ_ _=>id)) (T nm);have KC:af (∀(W:tW) g,aa ae W3 W->mI W bs g (aM code) (atS 0 code)->W3.heap.size<=g->∀v' w',Sl w' 75 2 v' (k+1) (((fs.take k).zip gs).flatMap Fx++[.string (T nm),.slice (some ⟨g,0,none⟩) (aM code) (aM code)])->aa (λj=>(Value.slice oV k cV).ownBlock=some j) W w'->(∀j,v'.ownBlock=some j->(Value.slice oV k cV).ownBlock=some j\/W.heap.size<=j)->(∃oA cA,v'=.slice oA (k+1) cA)/\ak w' B #[.int .i32 0,.int .u32 0,.slice oV k cV,.slice none 0 0] 71/\oK wP bs B v' (.slice none 0 0) (fs.take (k+1)) (gs++[g]) [] [] (w'.setCell ⟨B,2,none⟩ v')):=λW g mW hg hlo v' w' s m l=>by obtain⟨oA,cA,CF,_⟩:=s.view;have hq:=kG.o.quiet mW;have:=hq.func ⟨nm,code⟩ g hg (by have:=kG.o.md.size;omega) (by rw[hlt'];exact s) m l;rw[Yd.o];exact⟨⟨oA,cA,CF⟩,this⟩
     have Rn:af (∀W,aa ae W3 W->Sl W 75 2 (.slice oV k cV) k (((fs.take k).zip gs).flatMap Fx)):=λW mW=>by
      have:=(kG.o.quiet mW).vT
      rwa [hlt']at this
     have Yg:af (∀e:Ext (λj=>(Value.slice oV k cV).ownBlock=some j) W3,ak e.w B #[.int .i32 0,.int .u32 0,.slice oV k cV,.slice none 0 0] 71/\ak e.w X #[.string (T nm),.slice oC code.length cC] 96):=λe=>⟨kG.o.blk.ag e.m (λh=>kG.o.vT.au kG.o.blk (by decide) h),HX3.o.ag e.m (λh=>kG.o.vT.au HX3.o (by decide) h)⟩
     haveI:Nonempty (Ext (λj=>(Value.slice oV k cV).ownBlock=some j) W3):=Ext.ne _ _
     have d2:∀e:Ext (λj=>(Value.slice oV k cV).ownBlock=some j) W3,e.w.cell? ⟨B,2,none⟩=some (.slice oV k cV):=λe=>(Yg.o e).1.cell 2;have x0:∀e:Ext (λj=>(Value.slice oV k cV).ownBlock=some j) W3,e.w.cell? ⟨X,0,none⟩=some (.string (T nm)):=λe=>(Yg.o e).2.cell 0;have x1:∀e:Ext (λj=>(Value.slice oV k cV).ownBlock=some j) W3,e.w.cell? ⟨X,1,none⟩=some (.slice oC code.length cC):=λe=>(Yg.o e).2.cell 1;clear Yd Ph;refine dC 13 [7,9,10,11,12] (λw'=>∃e:Ext (λj=>(Value.slice oV k cV).ownBlock=some j) W3,w'=e.w) (by kernel_rfl) (by kernel_rfl) ⟨⟨_,aJ⟩,rfl⟩ ?_;simp only[bQ,List.take_zero,b5,List.drop_zero]
     iterate 2 (refine aA rfl rfl rfl ?_;intro K hK;go_big_quiet_op;go_big_quiet_on)
     refine bV rfl rfl _ ⟨B,0,none⟩ rfl rfl ?_;simp only[Act.put,sA9,sB9,sC9]
     iterate 4 (refine aA rfl rfl rfl ?_;intro K hK;go_big_quiet_op;go_big_quiet_on)
     refine aF rfl rfl ?_;intro K hK;go_big_op;refine(HKC.o _ aJ).mono ?_;rintro e w4 ⟨rfl,m4⟩;have M4:af (aa ae W3 w4):=aJ.trans m4;refine hK _ _ rfl ⟨⟨_,M4.o.of_nil⟩,rfl⟩ ?_;clear hK K m4
     try simp only[Act.put,sA9,sB9,sC9]
     refine aA rfl rfl rfl ?_;intro K hK;go_big_quiet_op;go_big_quiet_on;refine aF rfl rfl ?_;intro K hK;go_big_op;refine(Fs.o _ M4.o).mono ?_;rintro e w5 ⟨g5,rfl,hg5,hb5,m5⟩;have M5:=ai (M4.o.trans m5);have HG5:af (W3.heap.size<=g5/\mI w5 bs g5 (aM code) (atS 0 code)):=⟨by have:=M4.o.size;omega,hb5⟩
     refine hK _ _ rfl ⟨⟨_,M5.o.of_nil⟩,rfl⟩ ?_;clear hK K m5 hg5 hb5
     try simp only[Act.put,sA9,sB9,sC9]
     generalize aM code=sc at *;refine aF rfl rfl ?_;intro K hK;go_big_op;refine hK _ _ rfl ⟨⟨_,M5.o.of_nil⟩,rfl⟩ ?_;clear hK K
     try simp only[Act.put,sA9,sB9,sC9]
     refine aF rfl rfl ?_;intro K hK;refine uP 68 75 2 (.tmp 38) rfl #[.string (T nm),.slice (some ⟨g5,0,none⟩) sc sc] rfl rfl iP _ underlying68 hiP rX hsP (by decide) (by decide) ?_;have M6:af (aa ae W3 (w5.alloc (.cells #[.string (T nm),.slice (some ⟨g5,0,none⟩) sc sc] 75))):=M5.o.alloc _;have HG6:af (mI (w5.alloc (.cells #[.string (T nm),.slice (some ⟨g5,0,none⟩) sc sc] 75)) bs g5 sc (atS 0 code)):=HG5.o.2.ag ((aa.refl ae _).alloc _) id;refine hK _ _ rfl ⟨⟨_,M6.o.of_nil⟩,rfl⟩ ?_;clear hK K
     try simp only[Act.put,sA9,sB9,sC9]
     refine aF rfl rfl ?_;intro K hK;refine eO _ (.tmp 32) (.tmp 39) 68 rfl 75 iP (.agg #[.string ByteArray.empty,.slice none 0 0]) 2 40 underlying68 hiP rX hsP wj rfl (by decide) (.slice oV k cV) k (((fs.take k).zip gs).flatMap Fx) rfl (Rn.o _ M6.o) ⟨w5.heap.size,0,none⟩ 1 1 (#[.string (T nm),.slice (some ⟨g5,0,none⟩) sc sc]:tAV).toList rfl rfl (aV _ _ _ _ rfl) (by simp[Value.oneCell']) (by unfold maxLen;omega) (by omega) ?_;intro vA wA sA mA lA;obtain⟨⟨oA,cA,CF⟩,Ut,LZ⟩:=KC.o _ g5 M6.o HG6.o HG5.o.1 vA wA sA mA lA;subst CF;have MA:af (aa (λj=>(Value.slice oV k cV).ownBlock=some j) W3 wA):=(M6.o.of_nil).trans mA;refine hK _ _ rfl ⟨⟨_,MA.o⟩,rfl⟩ ?_;clear hK K;refine bX ?_;have pA2:=Ut.cell 2;have pAf:=Ut.frozen;have ZR:=ai LZ;clear sA mA lA Ut LZ d2 x0 x1;go_wp2_with fail;go_roundg (fs.length-(k+1))
     case measure=>omega
     case rel=>exact⟨k+1,_,_,by go_num,ZR.o,by omega,rfl⟩
    ·obtain rfl:k=fs.length:=by omega
     rw[bq (bj _)]at hA;go_wp2_with fail;go_meet;exact⟨_,gs,hA⟩
  case rest =>
  obtain⟨vFe,gs,hA⟩:=hcut;obtain⟨oV,cV,hvV,_⟩:=hA.vT.view;subst hvV;have HA1:=ai hA;have HFO:=ai FP.o.ok;have p0:wc.cell? ⟨Pb,0,none⟩=some (.slice oM ms.length cM):=(HPb.o.ag hA.md id).cell 0;clear hA HA0 FP;obtain⟨iQ,hiQ,hzQ,hsQ,hbQ⟩:=info_parts Qk;obtain⟨wC,hwC⟩:∃wC,wC=wc:=⟨_,rfl⟩
  rw[<-hwC]at HA1;go_upto_block 2 with fail;clear p0;go_cut [47] (λ_ wx=>∃vM mb,oK wP bs B (.slice oV fs.length cV) vM fs gs ms mb wx)
  case first =>
   go_wp2_with fail;go_loopg [47] ms.length (λq iv wx=>∃(k:Nat) (vM:Value) (mb:List Nat),iv=.int .i64 k/\oK wP bs B (.slice oV fs.length cV) vM fs gs (ms.take k) mb wx/\k<=ms.length/\q=ms.length-k)
   case atStart=>exact⟨0,_,[],rfl,by rw[<-hwC];exact HA1.o,ca _,rfl⟩
   case round =>
    clear hwC;obtain⟨k,vMk,mb,rfl,hA,hk,rfl⟩:=hrel;have hlt':(ms.take k).length=k:=by rw[bh];omega
    obtain⟨oU,cU,hvU,_⟩:=hA.zx.view;rw[hlt']at hvU;subst hvU;by_cases hlt:k<ms.length
    ·obtain⟨gM,rfl,q0,q1,q2,q3⟩:=L9 (HPM.o.ag hA.md (λ_ _=>id)) rfl rfl k hlt;have hkn:=HK2.o ms[k] (ao hlt);have Yd:af (ms.take (k+1)=ms.take k++[ms[k]]):=al hlt;have HA:=ai hA;clear hA;generalize hmk:ms[k]=x at *;obtain⟨nm,mk,mv,me⟩:=x;simp only at *;go_upto_region 13 with fail;have kG:af (oK wP bs B (.slice oV fs.length cV) (.slice oU k cU) fs gs (ms.take k) mb (wr.alloc (.cells #[.string (T nm),.int .u8 (mk:Nat),.int .u8 (mv:Nat),.int .u8 (me:Nat)] 100))):=HA.o.quiet aj;have HX3:af (ak (wr.alloc (.cells #[.string (T nm),.int .u8 (mk:Nat),.int .u8 (mv:Nat),.int .u8 (me:Nat)] 100)) wr.heap.size #[.string (T nm),.int .u8 (mk:Nat),.int .u8 (mv:Nat),.int .u8 (me:Nat)] 100):=ak.new _ _ _;clear HA q0 q1 q2 q3;generalize wr.alloc (.cells #[.string (T nm),.int .u8 (mk:Nat),.int .u8 (mv:Nat),.int .u8 (me:Nat)] 100)=W3 at *;generalize wr.heap.size=X at *;have HKC:af (∀w',Calls prog 38 #[.string (T nm)] w' λe w''=>e=.returned (.string (T nm))/\aa ae w' w''):=λw'=>Iy w' (T nm) (by rw[bG];omega)
     have KC:af (∀(W:tW) g,aa ae W3 W->ak W g #[.string (T nm),.int .i64 mk,.int .i64 mv,.int .i64 me,.slice none 0 0] 85->W3.heap.size<=g->∀v' w',Sl w' 82 1 v' (k+1) (mb.flatMap Wf++[.pointer (some ⟨g,0,none⟩)])->aa (λj=>(Value.slice oU k cU).ownBlock=some j) W w'->(∀j,v'.ownBlock=some j->(Value.slice oU k cU).ownBlock=some j\/W.heap.size<=j)->(∃oA cA,v'=.slice oA (k+1) cA)/\ak w' B #[.int .i32 0,.int .u32 0,.slice oV fs.length cV,.slice oU k cU] 71/\oK wP bs B (.slice oV fs.length cV) v' fs gs (ms.take (k+1)) (mb++[g]) (w'.setCell ⟨B,3,none⟩ v')):=λW g mW hg hlo v' w' s m l=>by obtain⟨oA,cA,CF,_⟩:=s.view;have hq:=kG.o.quiet mW;have:=hq.map ⟨nm,mk,mv,me⟩ g hg (by have:=kG.o.md.size;omega) (λhm=>by obtain⟨i,hi,e⟩:=bt hm;have h1:=(kG.o.maps i (by rw[<-kG.o.lm];exact hi) hi).lt;omega) (by rw[hlt'];exact s) m l;rw[Yd.o];exact⟨⟨oA,cA,CF⟩,this⟩
     have Rn:af (∀W,aa ae W3 W->Sl W 82 1 (.slice oU k cU) k (mb.flatMap Wf)):=λW mW=>by
      have:=(kG.o.quiet mW).zx
      rwa [hlt']at this
     have Yg:af (∀e:Ext (λj=>(Value.slice oU k cU).ownBlock=some j) W3,ak e.w B #[.int .i32 0,.int .u32 0,.slice oV fs.length cV,.slice oU k cU] 71/\ak e.w X #[.string (T nm),.int .u8 (mk:Nat),.int .u8 (mv:Nat),.int .u8 (me:Nat)] 100):=λe=>⟨kG.o.blk.ag e.m (λh=>kG.o.zx.au kG.o.blk (by decide) h),HX3.o.ag e.m (λh=>kG.o.zx.au HX3.o (by decide) h)⟩
     haveI:Nonempty (Ext (λj=>(Value.slice oU k cU).ownBlock=some j) W3):=Ext.ne _ _
     have d3:∀e:Ext (λj=>(Value.slice oU k cU).ownBlock=some j) W3,e.w.cell? ⟨B,3,none⟩=some (.slice oU k cU):=λe=>(Yg.o e).1.cell 3;have x0:∀e:Ext (λj=>(Value.slice oU k cU).ownBlock=some j) W3,e.w.cell? ⟨X,0,none⟩=some (.string (T nm)):=λe=>(Yg.o e).2.cell 0;have x1:∀e:Ext (λj=>(Value.slice oU k cU).ownBlock=some j) W3,e.w.cell? ⟨X,1,none⟩=some (.int .u8 (mk:Nat)):=λe=>(Yg.o e).2.cell 1;have x2:∀e:Ext (λj=>(Value.slice oU k cU).ownBlock=some j) W3,e.w.cell? ⟨X,2,none⟩=some (.int .u8 (mv:Nat)):=λe=>(Yg.o e).2.cell 2;have x3:∀e:Ext (λj=>(Value.slice oU k cU).ownBlock=some j) W3,e.w.cell? ⟨X,3,none⟩=some (.int .u8 (me:Nat)):=λe=>(Yg.o e).2.cell 3;clear Yd;refine dC 20 [7,17,18,19] (λw'=>∃e:Ext (λj=>(Value.slice oU k cU).ownBlock=some j) W3,w'=e.w) (by kernel_rfl) (by kernel_rfl) ⟨⟨_,aJ⟩,rfl⟩ ?_;simp only[bQ,List.take_zero,b5,List.drop_zero]
     iterate 2 (refine aA rfl rfl rfl ?_;intro K hK;go_big_quiet_op;go_big_quiet_on)
     refine bV rfl rfl _ ⟨B,0,none⟩ rfl rfl ?_;simp only[Act.put,sA9,sB9,sC9]
     iterate 4 (refine aA rfl rfl rfl ?_;intro K hK;go_big_quiet_op;go_big_quiet_on)
     refine aF rfl rfl ?_;intro K hK;go_big_op;refine(HKC.o _).mono ?_;rintro e w4 ⟨rfl,m4⟩;have M4:af (aa ae W3 w4):=aJ.trans m4;refine hK _ _ rfl ⟨⟨_,M4.o.of_nil⟩,rfl⟩ ?_;clear hK K m4
     try simp only[Act.put,sA9,sB9,sC9]
     iterate 9 (refine aA rfl rfl rfl ?_;intro K hK;go_big_quiet_op;go_big_quiet_on)
     refine aF rfl rfl ?_;intro K hK;go_big_op;refine(KX _ _ _ _ _).mono ?_;rintro e w5 ⟨rfl,rfl⟩;have M5:af (aa ae W3 (w4.alloc (.cells #[.string (T nm),.int .i64 mk,.int .i64 mv,.int .i64 me,.slice none 0 0] 85))):=M4.o.alloc _;have HG5:af (ak (w4.alloc (.cells #[.string (T nm),.int .i64 mk,.int .i64 mv,.int .i64 me,.slice none 0 0] 85)) w4.heap.size #[.string (T nm),.int .i64 mk,.int .i64 mv,.int .i64 me,.slice none 0 0] 85):=ak.new _ _ _;have HL5:=ai M4.o.size;refine hK _ _ rfl ⟨⟨_,M5.o.of_nil⟩,rfl⟩ ?_;clear hK K
     try simp only[Act.put,sA9,sB9,sC9]
     generalize w4.alloc (.cells #[.string (T nm),.int .i64 mk,.int .i64 mv,.int .i64 me,.slice none 0 0] 85)=w5 at *;generalize w4.heap.size=g5 at *;refine aF rfl rfl ?_;intro K hK;go_big_op;have M6:af (aa ae W3 (w5.alloc (.cells #[.pointer (some ⟨g5,0,none⟩)] 82))):=M5.o.alloc _;have HG6:af (ak (w5.alloc (.cells #[.pointer (some ⟨g5,0,none⟩)] 82)) g5 #[.string (T nm),.int .i64 mk,.int .i64 mv,.int .i64 me,.slice none 0 0] 85):=HG5.o.alloc _;refine hK _ _ rfl ⟨⟨_,M6.o.of_nil⟩,rfl⟩ ?_;clear hK K
     try simp only[Act.put,sA9,sB9,sC9]
     refine aF rfl rfl ?_;intro K hK;refine eO _ (.tmp 55) (.tmp 69) 69 rfl 82 iQ (.pointer none) 1 8 underlying69 hiQ hzQ hsQ hbQ rfl (by decide) (.slice oU k cU) k (mb.flatMap Wf) rfl (Rn.o _ M6.o) ⟨w5.heap.size,0,none⟩ 1 1 (#[.pointer (some ⟨g5,0,none⟩)]:tAV).toList rfl rfl (aV _ _ _ _ rfl) (by simp[Value.oneCell']) (by unfold maxLen;omega) (by omega) ?_;intro vA wA sA mA lA;obtain⟨⟨oA,cA,CF⟩,Ut,LZ⟩:=KC.o _ g5 M6.o HG6.o HL5.o vA wA sA mA lA;subst CF;have MA:af (aa (λj=>(Value.slice oU k cU).ownBlock=some j) W3 wA):=(M6.o.of_nil).trans mA;refine hK _ _ rfl ⟨⟨_,MA.o⟩,rfl⟩ ?_;clear hK K;refine bX ?_;have pA3:=Ut.cell 3;have pAf:=Ut.frozen;have ZR:=ai LZ;clear sA mA lA Ut LZ d3 x0 x1 x2 x3;go_wp2_with fail;go_roundg (ms.length-(k+1))
     case measure=>omega
     case rel=>exact⟨k+1,_,_,by go_num,ZR.o,by omega,rfl⟩
    ·obtain rfl:k=ms.length:=by omega
     rw[bq (bj _)]at hA;go_wp2_with fail;go_meet;exact⟨_,mb,hA⟩
  case rest =>
  obtain⟨vMe,mb,hA⟩:=hcut;have HAE:=ai hA;clear hA;go_wp2_with fail;go_ret2;exact⟨bs,B,rfl,_,_,gs,mb,_,wP,rQ.o,Pc.o,HFO.o,HAE.o⟩
