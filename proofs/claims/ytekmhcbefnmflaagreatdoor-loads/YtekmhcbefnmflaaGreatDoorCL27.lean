import Derived.Test.YtekmhcbefnmflaaGreatDoorCL22
import Derived.Test.YtekmhcbefnmflaaGreatDoorCL26
namespace Go.Proofs.YtekmhcbefnmflaaGreatDoor
open Go.RowKit Tryz
open List renaming count_cons_self->ab,count_le_length->an,take_succ_cons->ao,drop_succ_cons->ar,length->ee
open Option renaming getD_some->bh,some->eC,none->ez
open Bool renaming true->eJ,false->eE
open Ending renaming returned->fR
open Obj renaming cells->eR,map->kq
open Value renaming string->eI,slice->eK,map->jn,bool->fS
open _root_.Go renaming Calls->fL,Value->eM,wpQuiet_nil->lz
set_option linter.all false
set_option maxRecDepth 100000
set_option maxHeartbeats 4000000
theorem rT(w:tW)(b:Nat)(o:dX)(hA:eu w b o)(d:Int)(s:Nat)(num high jump:Int)(label name:tBA):fL prog 71 #[.agg #[vP b,vB d,vB s,.int .i16 jump,vJ num,vJ high,eI label,eI name]] w λe w'=>e=fR (vI ((if s=1 then o.aJ else 0:Nat):Int))/\aa ah w w':=by
 have hA1:=(hA.ae (aA.alloc (eR #[vP b,vB d,vB s,.int .i16 jump,vJ num,vJ high,eI label,eI name] 141))).cells;obtain⟨_,_,_,z5⟩:=hA1;generalize o.aJ=rf at *;by_cases h1:s=1
 ·subst h1;simp only[Int.cast_ofNat_Int]at *;go_in;go_wp2_with fail;go_ret;exact⟨rfl,aq⟩
 ·have h2:¬((s:Int)=1):=by omega
  go_in;go_wp2_with fail;go_ret;exact⟨rfl,aq⟩
theorem ZU{w:tW}{ms:List aW}{v:eM}{n:Nat}(h:Sl w 113 4 v n (ms.flatMap aW.cells))(hn:n=ee ms){o:Option Addr}{c:Nat}(hv:v=eK o n c)(k:Nat)(hk:k<ee ms):∃g,o=eC ⟨g,0,ez⟩/\w.cell? ⟨g,k*4,ez⟩=eC (eI (T ms[k].name))/\w.cell? ⟨g,k*4+1,ez⟩=eC (vB ms[k].key)/\w.cell? ⟨g,k*4+2,ez⟩=eC (vB ms[k].value)/\w.cell? ⟨g,k*4+3,ez⟩=eC (vB ms[k].entries):=by
 obtain⟨o',c',hv',h2⟩:=h.view;rw[hv]at hv';cases hv';obtain⟨g,cs,rfl,hb,ht,_⟩:=h2 (by omega);have key:∀j,j<4->w.cell? ⟨g,k*4+j,ez⟩=(aW.cells ms[k])[j]?:=λj hj=>by rw[hb.cell (k*4+j),<-Array.getElem?_toList,<-List.getElem?_take_of_lt (show k*4+j<n*4 by omega),ht];exact flat_get aW.cells 4 (λ_=>rfl) ms k j hk hj
 exact⟨g,rfl,key 0 (by omega),key 1 (by omega),key 2 (by omega),key 3 (by omega)⟩
theorem kC{P:Program}{id:Nat}{Q:Exit->Act->tW->Prop}{a:Act}{w:tW}{l:List Oper}(hm:P.follows .mixedOrders=eJ)(hB:Region.lexB .any l.toArray=eJ)(h:∀W,W=w.drew->wpQuiet P l.toArray (λw'=>w'=W) (λa'=>Q .normal a' W) l a):(Code.region id l.toArray eJ).wp P Q a w :=
 wp_region_still_lit hm hB (jU _ _ (h _ rfl))
structure WK where
 maps:List tLB:=[]
 funcs:List tLB:=[]
 labels:List tLB:=[]
 slots:Nat:=0
def rU(f:tM)(x:tLB):Bool:=(ib f.bP x).isSome&&decide ((ib f.bP x).getD 0<f.slots)
def ql(k:WK)(x:fJ):Nat:=if kT (x.ns.getD 0 aD) (x.ns.getD 1 aD) (x.ns.getD 2 aD)=eE then 3 else if 0<k.maps.count x.name then 4 else if 8<ee k.maps+1 then 1 else 0
def ze(k:WK)(x:fJ):WK:={k with maps:=x.name::k.maps}
def nT(o:OL)(k:WK)(x:fJ):Nat:=if 0<k.funcs.count x.name then 4 else if 16<ee k.funcs+1 then 1 else if(o.fs.getD (ee k.funcs) {}).ends=eE then 6 else 0
def jP(k:WK)(x:fJ):WK:={k with funcs:=x.name::k.funcs,labels:=[]}
def vW(k:WK)(x:fJ):Nat:=if 0<k.labels.count x.name then 4 else 0
def uQ(k:WK)(x:fJ):WK:={k with labels:=x.name::k.labels}
def rV(o:OL)(k:WK)(x:fJ):Nat :=
 if x.x.fits=eE then 3
 else if(x.x.o.jumps&&!rU (o.fs.getD (ee k.funcs-1) {}) x.x.r.label)=eJ then 5
 else if(decide ((if x.x.r.s=1 then x.x.o.aJ else 0)=2)&&decide (o.maps.count x.x.r.name=0))=eJ then 5
 else if 200<k.slots+x.x.o.slots then 1 else 0
def iC(k:WK)(x:fJ):WK:={k with slots:=k.slots+x.x.o.slots}
def fD(o:OL)(k:WK)(x:fJ):Nat:=if x.kind=1 then ql k x else if x.kind=2 then nT o k x else if x.kind=3 then vW k x else if x.kind=4 then rV o k x else 0
def kD(k:WK)(x:fJ):WK:=if x.kind=1 then ze k x else if x.kind=2 then jP k x else if x.kind=3 then uQ k x else if x.kind=4 then iC k x else k
structure ig(w0:tW)(b bm:Nat)(vF:eM)(bM bF:Nat)(vL:eM)(k:WK)(w:tW):Prop where
 blk:ak w b #[jn (eC bm),vF,jn (eC bM),jn (eC bF),vL,vI ((ee k.funcs:Int)-1),vI k.slots] 160
 ms:eQ w bM k.maps
 fs:eQ w bF k.funcs
 vl:∃q,vL=jn q
 ls:k.funcs≠[]->∃bL,vL=jn (eC bL)/\eQ w bL k.labels/\bL≠bM/\bL≠bF/\w0.heap.size<=bL
 ne:bM≠bF
 lo:w0.heap.size<=b/\w0.heap.size<=bM/\w0.heap.size<=bF
 md:aa ah w0 w
section
variable {w0 w w' : World} {b bm bM bF : Nat} {vF vL : eM} {k : WK}
theorem ig.quiet(h:ig w0 b bm vF bM bF vL k w)(m:aa ah w w'):ig w0 b bm vF bM bF vL k w' :=
 ⟨h.blk.ae m id,h.ms.ae m id,h.fs.ae m id,h.vl,λhn=>by obtain⟨bL,h1,h2,h3⟩:=h.ls hn;exact⟨bL,h1,h2.ae m id,h3⟩,h.ne,h.lo,h.md.trans m⟩
theorem ig.map{x:fJ}(h:ig w0 b bm vF bM bF vL k w)(hc:eQ w' bM (x.name::k.maps))(m:aa (λi=>i=bM) w w'):ig w0 b bm vF bM bF vL (ze k x) w' :=
 ⟨h.blk.ae m (λe=>h.ms.ay h.blk e),hc,h.fs.ae m (λe=>h.ne e.symm),h.vl,λhn=>by obtain⟨bL,h1,h2,h3,h4⟩:=h.ls hn;exact⟨bL,h1,h2.ae m (λe=>h3 e),h3,h4⟩,h.ne,h.lo,h.md.step m (λi hi e=>by have:=h.lo.2.1;have e':=e;omega)⟩
theorem ig.lab{x:fJ}{bL:Nat}(h:ig w0 b bm vF bM bF (jn (eC bL)) k w)(hn:k.funcs≠[])(hc:eQ w' bL (x.name::k.labels))(m:aa (λi=>i=bL) w w'):ig w0 b bm vF bM bF (jn (eC bL)) (uQ k x) w':=by obtain⟨bL',h1,h2,h3,h4,h5⟩:=h.ls hn;injection h1 with h1;injection h1 with h1;subst h1;exact⟨h.blk.ae m (λe=>h2.ay h.blk e),h.ms.ae m (λe=>h3 e.symm),h.fs.ae m (λe=>h4 e.symm),h.vl,λ_=>⟨_,rfl,hc,h3,h4,h5⟩,h.ne,h.lo,h.md.step m (λi hi e=>by have e':=e;omega)⟩
theorem ig.code{x:fJ}{n:Int}(h:ig w0 b bm vF bM bF vL k w)(hn:n=(k.slots:Int)+x.x.o.slots):ig w0 b bm vF bM bF vL (iC k x) (w.setCell ⟨b,6,ez⟩ (vI n)):=by
 have m:aa (Only b) w (w.setCell ⟨b,6,ez⟩ (vI n)):=aA.bz _ _;refine⟨?_,h.ms.ae m (λe=>h.ms.ay h.blk (show _=b from e).symm),h.fs.ae m (λe=>h.fs.ay h.blk (show _=b from e).symm),h.vl,λhn=>?_,h.ne,h.lo,h.md.step m (λi hi e=>by have e':i=b:=e;have:=h.lo.1;omega)⟩
 ·subst hn;exact h.blk.set 6 _
 ·obtain⟨bL,h1,h2,h3⟩:=h.ls hn;exact⟨bL,h1,h2.ae m (λe=>h2.ay h.blk (show _=b from e).symm),h3⟩
theorem ig.func{x:fJ}{n:Int}(h:ig w0 b bm vF bM bF vL k w)(hc:eQ w' bF (x.name::k.funcs))(m:aa (λi=>i=bF) w w')(hn:n=ee k.funcs):ig w0 b bm vF bM bF (jn (eC w'.heap.size)) (jP k x) (((w'.alloc (kq #[] 0)).setCell ⟨b,4,ez⟩ (jn (eC w'.heap.size))).setCell ⟨b,5,ez⟩ (vI n)):=by
 have hb':=h.blk.ae m (λe=>h.fs.ay h.blk e);have hM':=h.ms.ae m (λe=>h.ne e);have m1:aa ah w' (w'.alloc (kq #[] 0)):=aq;have m2:aa (Only b) (w'.alloc (kq #[] 0)) (((w'.alloc (kq #[] 0)).setCell ⟨b,4,ez⟩ (jn (eC w'.heap.size))).setCell ⟨b,5,ez⟩ (vI n)):=(aA.bz _ _).bz _ _;have hb1:=hb'.ae m1 id;have hs:=m.size;have h0:=h.md.size;have hMl:=hM'.lt;have hFl:=hc.lt;refine⟨?_,(hM'.ae m1 id).ae m2 (λe=>(hM'.ae m1 id).ay hb1 (show _=b from e).symm),(hc.ae m1 id).ae m2 (λe=>(hc.ae m1 id).ay hb1 (show _=b from e).symm),⟨_,rfl⟩,λ_=>⟨_,rfl,?_,by omega,by omega,by omega⟩,h.ne,h.lo,((h.md.step m (λi hi e=>by have e':=e;have:=h.lo.2.2;omega)).trans m1).step m2 (λi hi e=>by have e':i=b:=e;have:=h.lo.1;omega)⟩
 ·have:=(hb1.set 4 (jn (eC w'.heap.size))).set 5 (vI n);have e:(ee (jP k x).funcs:Int)-1=n:=by rw[hn];simp[jP]
  rw[e];exact this
 ·have hl:=eQ.new w';exact hl.ae m2 (λe=>hl.ay hb1 (show _=b from e).symm)
end
theorem V4(w0 w:tW)(b bm bM bF:Nat)(vF vL:eM)(k:WK)(bs:tLN)(x:fJ)(h:ig w0 b bm vF bM bF vL k w)(hv:∃o n c,vF=eK o n c)(hx:x.kind=1)(hl:ee k.maps<=1000001)(hnd:k.maps.Nodup):fL prog 140 #[vP b,.agg (x.cells bs)] w λe w'=>e=fR (vI (ql k x))/\ig w0 b bm vF bM bF vL (ze k x) w':=by
 have HFT:af (∀w',fL prog 265 #[.agg (x.cells bs)] w' λe w''=>e=fR (fS (kT (x.ns.getD 0 aD) (x.ns.getD 1 aD) (x.ns.getD 2 aD)))/\aa ah w' w''):=λw'=>by rw[fJ.cells,iN9 (by omega)];exact ZI _ _ _ _ _ w'
 have HF:af (ql k x=if kT (x.ns.getD 0 aD) (x.ns.getD 1 aD) (x.ns.getD 2 aD)=eE then 3 else if 0<k.maps.count x.name then 4 else if 8<ee k.maps+1 then 1 else 0):=rfl;have jS:=ai (gV bs x);have E4:=ai (cells_one bs x);have Hz:=ai (nK bs x (by omega))
 have XY:af (∀W,eQ W bM (x.name::k.maps)->0<k.maps.count x.name\/(Builtin.len_ #[88] 3 #[jn (eC bM)]).run prog W=.ok (vI ((ee k.maps+1:Nat):Int)) W):=λW hW=>by
  by_cases e:0<k.maps.count x.name
  ·exact .inl e
  ·exact .inr (hW.size (List.nodup_cons.2 ⟨λhm=>e (List.count_pos_iff.2 hm),hnd⟩))
 have GH:af (∀W,eQ W bM (x.name::k.maps)->(Instr.lookup 88 (jn (eC bM)) (eI (T x.name)) eE).run prog W=.ok (vI ((k.maps.count x.name+1:Nat):Int)) W):=λW hW=>by
  have:=hW.look x.name
  rwa [ab]at this
 have hcn:k.maps.count x.name<=1000001:=Nat.le_trans an hl;have Ye:=ai h;obtain⟨vo,vn,vc,rfl⟩:=hv;obtain⟨vq,rfl⟩:=h.vl;clear h hx hnd;generalize ql k x=r at *;generalize kT (x.ns.getD 0 aD) (x.ns.getD 1 aD) (x.ns.getD 2 aD)=sf at *;generalize x.cells bs=cs at *;have GQ:af (aa ah w (w.alloc (eR cs 143))):=aq;have KP:=ai (ak.new w cs 143);have HW1:=ai (Ye.o.quiet GQ.o);go_in;go_upto_region 1 with fail;generalize w.alloc (eR cs 143)=w1 at *;generalize w.heap.size=B at *;have gu:af (aa ah w1 w1.drew):=aU;refine bU 8 (by kernel_rfl) (by kernel_rfl) ?_;intro W hW;rw[<-hW]at gu;clear hW;have HW2:=ai (HW1.o.quiet gu.o);have HB2:=ai (KP.o.ae gu.o id);have c1:=(HB2.o.cell 1).trans Hz.o;have b2:=HW2.o.blk.c2;have hlk:=HW2.o.ms.look x.name;obtain⟨w5,ZG,Ra,m5⟩:=HW2.o.ms.put x.name;have sN:=ai (HW2.o.map Ra m5);have jr:=ai (HB2.o.ae m5 (λe=>HW2.o.ms.ay HB2.o e));have HC5:=ai Ra;clear Ra m5 Ye HW1 KP GQ;generalize k.maps.count x.name=cn at *;simp only[ao,List.take_zero,ar,List.drop_zero]
 repeat(go_big_quiet_step (fail))
 refine lz ?_;clear hlk c1 b2 HW2 HB2 gu;go_wp2_with (refine wpList_load_row rfl 143 (.tmp 3) rfl B rfl 143 cs (0,0) _ jr.o underlying143 rfl (by rw[jS.o];kernel_rfl) ?_);refine(HFT.o _).mono ?_;rintro e w6 ⟨rfl,m6⟩;have mO:=ai (sN.o.quiet m6);have tK:=ai (jr.o.ae m6 id);clear m6 sN jr HC5 ZG;cases sf with
 |false =>
  have HR:af (r=3):=by rw[af,HF.o,iP9 rfl]
  go_wp2_with fail;go_ret;exact⟨bT (by rw[HR.o];rfl),mO.o⟩
 |true =>
  go_upto_region 4 with fail;have gu:af (aa ah w6 w6.drew):=aU;refine kC (by kernel_rfl) (by kernel_rfl) ?_;intro W7 hW7;rw[<-hW7]at gu;clear hW7;have tL:=ai (mO.o.quiet gu.o);have c1:=((tK.o.ae gu.o id).cell 1).trans Hz.o;have b2:=tL.o.blk.c2;have hlk:=GH.o W7 tL.o.ms;have Tu:=XY.o W7 tL.o.ms;clear gu mO tK;by_cases h0:0<cn
  ·have HR:af (r=4):=by rw[af,HF.o,iN9 (by decide),iP9 h0]
   have hq:((1:Int)<((cn+1:Nat):Int)):=by omega
   repeat(go_big_quiet_step (fail))
   refine lz ?_;go_wp2_with fail;go_ret;exact⟨bT (by rw[HR.o];rfl),tL.o⟩
  ·have hc0:cn=0:=by omega
   subst hc0;have hle:=Tu.resolve_left h0;have HR:af (r=if 8<ee k.maps+1 then 1 else 0):=by rw[af,HF.o,iN9 (by decide),iN9 h0]
   clear Tu;generalize ee k.maps=ml at *;by_cases h8:8<ml+1
   ·have iO:af (r=1):=by rw[af,HR.o,iP9 h8]
    have hq:(8:Int)<((ml+1:Nat):Int):=by omega
    repeat(go_big_quiet_step (fail))
    refine lz ?_;go_wp2_with fail;go_ret;exact⟨bT (by rw[iO.o];rfl),tL.o⟩
   ·have iO:af (r=0):=by rw[af,HR.o,iN9 h8]
    have hq:¬(8:Int)<((ml+1:Nat):Int):=by omega
    repeat(go_big_quiet_step (fail))
    refine lz ?_;go_wp2_with fail;go_ret;exact⟨bT (by rw[iO.o];rfl),tL.o⟩
theorem dY.kV{w0 w:tW}{bm:Nat}{oF:Option Addr}{nF cF:Nat}{lb:tLN}{o:OL}(h:dY w0 bm (eK oF nF cF) lb o w)(i:Nat)(hi:i<ee o.fs):∃g,oF=eC ⟨g,0,ez⟩/\nF=ee o.fs/\o.fs.length<=cF/\∀w',aa ah w w'->∀j (hj:j<(kH (lb[i]?.getD 0) o.fs[i]).toArray.size),w'.cell? ⟨g,i*3+j,ez⟩=eC (kH (lb[i]?.getD 0) o.fs[i]).toArray[j]:=by
 obtain⟨o',c',hv,hb⟩:=h.sl.view;injection hv with e1 e2 e3;subst e1 e3;obtain⟨g,cs,rfl,hb,ht,hc,_⟩:=hb (by omega);refine⟨g,rfl,e2,hc,λw' m j hj=>?_⟩;have hz:i<ee (lb.zip o.fs):=by rw[List.length_zip,h.len];omega
 have hj':j<3:=hj;have hlb:i<ee lb:=by rw[h.len];exact hi
 rw[aX (hb.ae m id) ht (i*3+j) (by omega),ja,flat_get (λx:Nat×tM=>kH x.1 x.2) 3 (λ_=>rfl) (lb.zip o.fs) i j hz hj'];rw[List.getElem_zip,List.getElem?_eq_getElem hlb];simp only[bh,List.getElem_toArray];rw[List.getElem?_eq_getElem]
theorem Rl(wO w0 w:tW)(b bm bM bF:Nat)(vF vL:eM)(lb:tLN)(o:OL)(k:WK)(bs:tLN)(x:fJ)(hO:dY wO bm vF lb o w0)(h:ig w0 b bm vF bM bF vL k w)(hx:x.kind=2)(hl:ee k.funcs<ee o.fs)(hl2:ee o.fs<=1000001)(hnd:k.funcs.Nodup):fL prog 141 #[vP b,.agg (x.cells bs)] w λe w'=>e=fR (vI (nT o k x))/\∃zB,ig w0 b bm vF bM bF zB (jP k x) w':=by
 have HF:af (nT o k x=if 0<k.funcs.count x.name then 4 else if 16<ee k.funcs+1 then 1 else if(o.fs.getD (ee k.funcs) {}).ends=eE then 6 else 0):=rfl;have HGD:af (o.fs.getD (ee k.funcs) {}=o.fs[ee k.funcs]):=by rw[af,List.getD_eq_getElem?_getD,List.getElem?_eq_getElem hl];rfl
 have jS:=ai (gV bs x);have E4:=ai (cells_one bs x);have Hz:=ai (nK bs x (by omega))
 have XY:af (∀W,eQ W bF (x.name::k.funcs)->0<k.funcs.count x.name\/(Builtin.len_ #[88] 3 #[jn (eC bF)]).run prog W=.ok (vI ((ee k.funcs+1:Nat):Int)) W):=λW hW=>by
  by_cases e:0<k.funcs.count x.name
  ·exact .inl e
  ·exact .inr (hW.size (List.nodup_cons.2 ⟨λhm=>e (List.count_pos_iff.2 hm),hnd⟩))
 have GH:af (∀W,eQ W bF (x.name::k.funcs)->(Instr.lookup 88 (jn (eC bF)) (eI (T x.name)) eE).run prog W=.ok (vI ((k.funcs.count x.name+1:Nat):Int)) W):=λW hW=>by
  have:=hW.look x.name
  rwa [ab]at this
 have hcn:k.funcs.count x.name<=1000001:=Nat.le_trans an (by omega);have Ye:=ai h;obtain⟨vo,vc,qi,_⟩:=hO.sl.view;subst qi;obtain⟨g,rfl,_,hvc,hrow⟩:=hO.kV _ hl;obtain⟨vq,rfl⟩:=h.vl;have HE:af (∀W,aa ah w0 W->W.cell? ⟨g,ee k.funcs*3+1,ez⟩=eC (fS (o.fs.getD (ee k.funcs) {}).ends)):=λW m=>by rw[HGD.o];exact hrow W m 1 (by show 1<3;decide)
 have Ya:af ((ee (jP k x).funcs:Int)-1=(ee k.funcs:Int)):=by rw[af];simp[jP]
 clear h hx hnd hO hrow HGD;generalize nT o k x=r at *;generalize(o.fs.getD (ee k.funcs) {}).ends=en at *;generalize ee o.fs=nF at *;generalize x.cells bs=cs at *;have GQ:af (aa ah w (w.alloc (eR cs 143))):=aq;have KP:=ai (ak.new w cs 143);have HW1:=ai (Ye.o.quiet GQ.o);go_in;go_upto_region 1 with fail;generalize w.alloc (eR cs 143)=w1 at *;generalize w.heap.size=B at *;have gu:af (aa ah w1 w1.drew):=aU;refine bU 8 (by kernel_rfl) (by kernel_rfl) ?_;intro W hW;rw[<-hW]at gu;clear hW;have HW2:=ai (HW1.o.quiet gu.o);have HB2:=ai (KP.o.ae gu.o id);have c1:=(HB2.o.cell 1).trans Hz.o;have b3:=HW2.o.blk.c3;have hlk:=HW2.o.fs.look x.name;obtain⟨w5,ZG,Ra,m5⟩:=HW2.o.fs.put x.name;have HW8:=ai (HW2.o.func Ra m5 rfl);have hb5:=HW2.o.blk.ae m5 (λe=>HW2.o.fs.ay HW2.o.blk e);have jr:=ai (HB2.o.ae m5 (λe=>HW2.o.fs.ay HB2.o e));have TJ:=hb5.alloc (kq #[] 0);have hbS:=TJ.set 4 (jn (eC w5.heap.size));have e4:=TJ.cell 4;have e5:=TJ.cell 5;have ef:=TJ.frozen;have e5':=hbS.cell 5;have ef':=hbS.frozen;have HBb:af (B≠b):=λe=>jr.o.apart hb5 (by decide) e;have ZV:af (ak (((w5.alloc (kq #[] 0)).setCell ⟨b,4,ez⟩ (jn (eC w5.heap.size))).setCell ⟨b,5,ez⟩ (vI (ee k.funcs))) B cs 143):=((jr.o.alloc _).setOther (a:=⟨b,4,ez⟩) HBb.o.symm _).setOther (a:=⟨b,5,ez⟩) HBb.o.symm _;have hmm:=@run_makeMap prog;have hi5:(ee k.funcs:Int)-1+1=ee k.funcs:=by omega
 clear Ra m5 Ye HW1 KP GQ hb5 TJ hbS;generalize hcn':k.funcs.count x.name=cn at *;generalize hfl:ee k.funcs=fl at *;simp only[ao,List.take_zero,ar,List.drop_zero]
 repeat(go_big_quiet_step (fail))
 refine lz ?_;clear hlk c1 b3 HW2 HB2 gu;go_upto_region 4 with fail;generalize((w5.alloc (kq #[] 0)).setCell ⟨b,4,ez⟩ (jn (eC w5.heap.size))).setCell ⟨b,5,ez⟩ (vI (fl:Int))=w8 at *;generalize w5.heap.size=bL at *;have gu:af (aa ah w8 w8.drew):=aU;refine kC (by kernel_rfl) (by kernel_rfl) ?_;intro W7 hW7;rw[<-hW7]at gu;clear hW7;have tL:=ai (HW8.o.quiet gu.o);have c1:=((ZV.o.ae gu.o id).cell 1).trans Hz.o;have b2:=tL.o.blk.c3;have hlk:=GH.o W7 tL.o.fs;have Tu:=XY.o W7 tL.o.fs;clear gu HW8 ZV ZG e4 e5 ef e5' ef';by_cases h0:0<cn
 ·have HR:af (r=4):=by rw[af,HF.o,iP9 h0]
  have hq:((1:Int)<((cn+1:Nat):Int)):=by omega
  repeat(go_big_quiet_step (fail))
  refine lz ?_;go_wp2_with fail;go_ret;exact⟨bT (by rw[HR.o];rfl),_,tL.o⟩
 ·have hc0:cn=0:=by omega
  subst hc0;have hle:=Tu.resolve_left h0;have HR:af (r=if 16<fl+1 then 1 else if en=eE then 6 else 0):=by rw[af,HF.o,iN9 h0]
  clear Tu;by_cases h8:16<fl+1
  ·have iO:af (r=1):=by rw[af,HR.o,iP9 h8]
   have hq:(16:Int)<((fl+1:Nat):Int):=by omega
   repeat(go_big_quiet_step (fail))
   refine lz ?_;go_wp2_with fail;go_ret;exact⟨bT (by rw[iO.o];rfl),_,tL.o⟩
  ·have iO:af (r=if en=eE then 6 else 0):=by rw[af,HR.o,iN9 h8]
   have hq:¬(16:Int)<((fl+1:Nat):Int):=by omega
   repeat(go_big_quiet_step (fail))
   refine lz ?_;go_upto_region 8 with fail;have gu:af (aa ah W7 W7.drew):=aU;refine kC (by kernel_rfl) (by kernel_rfl) ?_;intro W9 hW9;rw[<-hW9]at gu;clear hW9;have HW9:=ai (tL.o.quiet gu.o);have f1:=HW9.o.blk.c1;have f5:W9.cell? ⟨b,5,ez⟩=eC (vI fl):=by have:=HW9.o.blk.cell 5;rw[Ya.o]at this;exact this
   have fe:=HE.o W9 HW9.o.md;clear gu tL c1 b2 hlk hle;cases en with
   |false =>
    have tJ:af (r=6):=by rw[af,iO.o,iP9 rfl]
    repeat(go_big_quiet_step (fail))
    refine lz ?_;go_wp2_with fail;go_ret;exact⟨bT (by rw[tJ.o];rfl),_,HW9.o⟩
   |true =>
    have tJ:af (r=0):=by rw[af,iO.o,iN9 (by decide)]
    repeat(go_big_quiet_step (fail))
    refine lz ?_;go_wp2_with fail;go_ret;exact⟨bT (by rw[tJ.o];rfl),_,HW9.o⟩
theorem V5(wO w0 w:tW)(b bm bM bF:Nat)(vF vL:eM)(lb:tLN)(o:OL)(k:WK)(y:tLB)(hO:dY wO bm vF lb o w0)(h:ig w0 b bm vF bM bF vL k w)(hne:k.funcs≠[])(hl:ee k.funcs<=ee o.fs)(hl2:ee o.fs<=1000001):fL prog 266 #[vP b,eI (T y)] w λe w'=>e=fR (fS (rU (o.fs.getD (ee k.funcs-1) {}) y))/\aa ah w w':=by
 have hp:=List.length_pos_iff.2 hne;obtain⟨n,hn⟩:∃n,n=ee k.funcs-1:=⟨_,rfl⟩
 have hnl:n<ee o.fs:=by omega
 have hgd:o.fs.getD n {}=o.fs[n]:=by rw[List.getD_eq_getElem?_getD,List.getElem?_eq_getElem hnl];rfl
 obtain⟨vo,vc,qi,_⟩:=hO.sl.view;subst qi;obtain⟨g,rfl,_,hvc,hrow⟩:=hO.kV _ hnl;have Rc:af (∀W,aa ah w0 W->jN W (lb[n]?.getD 0) o.fs[n].bP):=λW m=>MapOf.ae (hO.bP n hnl) m id;have HR:af (∀W,aa ah w0 W->W.cell? ⟨g,n*3,ez⟩=eC (vI o.fs[n].slots)/\W.cell? ⟨g,n*3+1,ez⟩=eC (fS o.fs[n].ends)/\W.cell? ⟨g,n*3+2,ez⟩=eC (jn (eC (lb[n]?.getD 0)))):=λW m=>⟨hrow W m 0 (by show 0<3;decide),hrow W m 1 (by show 1<3;decide),hrow W m 2 (by show 2<3;decide)⟩
 have HF:af (rU (o.fs.getD (ee k.funcs-1) {}) y=((ib o.fs[n].bP y).isSome&&decide ((ib o.fs[n].bP y).getD 0<o.fs[n].slots))):=by rw[af,<-hn,hgd];rfl
 have HB:af (∀W,aa ah w W->W.cell? ⟨b,1,ez⟩=eC (eK (eC ⟨g,0,ez⟩) (ee o.fs) vc)/\W.cell? ⟨b,5,ez⟩=eC (vI (n:Int))):=λW m=>by
  have hb:=(h.quiet m).blk;refine⟨hb.cell 1,?_⟩;rw[hb.cell 5];have:((ee k.funcs:Int)-1)=(n:Int):=by omega
  rw[this];rfl
 have GM:=ai h.md;clear hrow hO h hn hgd;generalize rU (o.fs.getD (ee k.funcs-1) {}) y=r at *;generalize o.fs[n]=f at *;obtain⟨sl,en,las⟩:=f;dsimp only at *;generalize lb[n]?.getD 0=bl at *;generalize ee o.fs=nF at *;have f1:=λ(e:Ext ah w)=>(HB.o e.w e.m).1;have f5:=λ(e:Ext ah w)=>(HB.o e.w e.m).2;have g0:=λ(e:Ext ah w)=>(HR.o e.w (GM.o.trans e.m)).1;have g1:=λ(e:Ext ah w)=>(HR.o e.w (GM.o.trans e.m)).2.1;have g2:=λ(e:Ext ah w)=>(HR.o e.w (GM.o.trans e.m)).2.2
 haveI:Nonempty (Ext ah w):=Ext.ne _ _
 go_in;go_upto_region 1 with fail;refine bR [11,12] (λw'=>∃e:Ext ah w,w'=e.w) (by kernel_rfl) (by kernel_rfl) (by kernel_rfl) ⟨⟨_,aU⟩,rfl⟩ ?_
 iterate 1 (refine aG rfl rfl rfl ?_;intro K hK;go_big_quiet_op;go_big_quiet_on)
 refine eF rfl rfl _ ⟨b,0,ez⟩ rfl rfl ?_;simp only[Act.put,sA9,sB9,sC9]
 iterate 4 (refine aG rfl rfl rfl ?_;intro K hK;go_big_quiet_op;go_big_quiet_on)
 refine eF rfl rfl _ ⟨b,0,ez⟩ rfl rfl ?_;simp only[Act.put,sA9,sB9,sC9]
 iterate 4 (refine aG rfl rfl rfl ?_;intro K hK;go_big_quiet_op;go_big_quiet_on)
 refine aN rfl rfl ?_;intro K hK;go_big_op;refine hK _ _ rfl ⟨⟨_,aU.alloc _⟩,rfl⟩ ?_;clear hK K;refine aN rfl rfl ?_;intro K hK;have hz:ak ((w.alloc (eR #[vI 0,fS eE,jn ez] 148)).drew) w.heap.size #[vI 0,fS eE,jn ez] 148:=(ak.new w _ _).drew;have z0:=hz.cell 0;have z1:=hz.cell 1;have z2:=hz.cell 2;have zf:=hz.frozen;have HZ3:af (ak ((w.alloc (eR #[vI sl,fS en,jn (eC bl)] 148)).drew) w.heap.size #[vI sl,fS en,jn (eC bl)] 148):=(ak.new w _ _).drew;have eH:af (aa ah w ((w.alloc (eR #[vI sl,fS en,jn (eC bl)] 148)).drew)):=((aa.refl ah w).alloc _).drew;go_big_op;refine hK _ _ rfl ⟨⟨_,eH.o⟩,rfl⟩ ?_;clear hK K hz z0 z1 z2 zf;refine dR ?_;simp only[Exit.then];generalize(w.alloc (eR #[vI sl,fS en,jn (eC bl)] 148)).drew=w3 at *;generalize w.heap.size=C at *;have c0:=HZ3.o.c0;have c2:=HZ3.o.c2;have hlk:=(Rc.o w3 (GM.o.trans eH.o)).look y;clear f1 f5 g0 g1 g2;generalize ib las y=lo at *;cases lo with
 |none =>
  have iO:af (r=eE):=by rw[af,HF.o];rfl
  simp only[Option.getD_none,Option.isSome_none]at hlk;go_wp2_with fail;go_ret;exact⟨by rw[iO.o];rfl,eH.o⟩
 |some q =>
  simp only[bh,Option.isSome_some]at hlk;have iO:af (r=decide (q<sl)):=by rw[af,HF.o];rfl
  go_wp2_with fail;go_ret;exact⟨by rw[iO.o];rfl,eH.o⟩
