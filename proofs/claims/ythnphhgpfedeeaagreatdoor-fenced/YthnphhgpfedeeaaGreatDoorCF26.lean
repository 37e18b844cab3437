import Derived.Test.YthnphhgpfedeeaaGreatDoorCF25
namespace Go.Proofs.YthnphhgpfedeeaaGreatDoor
open Go.RowKit Tryz
open List renaming take_succ_cons->ao,drop_succ_cons->ar,take_zero->aE,drop_zero->bj,count_cons_self->bq,count_le_length->bt,foldl_append->bO,getElem_mem->b5
open Nat renaming le_succ_of_le->ab,le_trans->al,le_refl->an,zero_le->ba
open Option renaming bind_eq_some_iff->bh,getD_some->bQ
set_option linter.all false
set_option maxRecDepth 100000
set_option maxHeartbeats 4000000
theorem l9{P:Program}{id:Nat}{Q:Exit->Act->tW->Prop}{a:Act}{w:tW}{l:List Oper}(hm:P.follows .mixedOrders=true)(hB:Region.lexB .any l.toArray=true)(h:∀W,W=w.drew->wpQuiet P l.toArray (λw'=>w'=W) (λa'=>Q .normal a' W) l a):(Code.region id l.toArray true).wp P Q a w :=
 wp_region_still_lit hm hB (jk _ _ (h _ rfl))
structure WK where
 maps:List tLB:=[]
 funcs:List tLB:=[]
 labels:List tLB:=[]
 slots:Nat:=0
def ajt(f:ra)(x:tLB):Bool:=(fA f.bB x).isSome&&decide ((fA f.bB x).getD 0<f.slots)
def yM(k:WK)(x:dN):Nat:=if yF (x.ns.getD 0 aT) (x.ns.getD 1 aT) (x.ns.getD 2 aT)=false then 3 else if 0<k.maps.count x.name then 4 else if 8<k.maps.length+1 then 1 else 0
def xE(k:WK)(x:dN):WK:={k with maps:=x.name::k.maps}
def jK(o:OL)(k:WK)(x:dN):Nat:=if 0<k.funcs.count x.name then 4 else if 16<k.funcs.length+1 then 1 else if(o.fs.getD k.funcs.length {}).ends=false then 6 else 0
def sw(k:WK)(x:dN):WK:={k with funcs:=x.name::k.funcs,labels:=[]}
def ug(k:WK)(x:dN):Nat:=if 0<k.labels.count x.name then 4 else 0
def ow(k:WK)(x:dN):WK:={k with labels:=x.name::k.labels}
def jL(o:OL)(k:WK)(x:dN):Nat :=
 if x.x.fits=false then 3
 else if(x.x.o.jumps&&!ajt (o.fs.getD (k.funcs.length-1) {}) x.x.r.label)=true then 5
 else if(decide ((if x.x.r.s=1 then x.x.o.aO else 0)=2)&&decide (o.maps.count x.x.r.name=0))=true then 5
 else if 200<k.slots+x.x.o.slots then 1 else 0
def gu(k:WK)(x:dN):WK:={k with slots:=k.slots+x.x.o.slots}
def dJ(o:OL)(k:WK)(x:dN):Nat:=if x.kind=1 then yM k x else if x.kind=2 then jK o k x else if x.kind=3 then ug k x else if x.kind=4 then jL o k x else 0
def fI(k:WK)(x:dN):WK:=if x.kind=1 then xE k x else if x.kind=2 then sw k x else if x.kind=3 then ow k x else if x.kind=4 then gu k x else k
structure gW(w0:tW)(b bm:Nat)(vF:Value)(bM bF:Nat)(vL:Value)(k:WK)(w:tW):Prop where
 blk:ak w b #[.map (some bm),vF,.map (some bM),.map (some bF),vL,.int .i64 ((k.funcs.length:Int)-1),.int .i64 k.slots] 168
 ms:ed w bM k.maps
 fs:ed w bF k.funcs
 vl:∃q,vL=.map q
 ls:k.funcs≠[]->∃bL,vL=.map (some bL)/\ed w bL k.labels/\bL≠bM/\bL≠bF/\w0.heap.size<=bL
 ne:bM≠bF
 lo:w0.heap.size<=b/\w0.heap.size<=bM/\w0.heap.size<=bF
 md:aa ae w0 w
section
variable {w0 w w' : World} {b bm bM bF : Nat} {vF vL : Value} {k : WK}
theorem gW.quiet(h:gW w0 b bm vF bM bF vL k w)(m:aa ae w w'):gW w0 b bm vF bM bF vL k w' :=
 ⟨h.blk.ag m id,h.ms.ag m id,h.fs.ag m id,h.vl,λhn=>by obtain⟨bL,h1,h2,h3⟩:=h.ls hn;exact⟨bL,h1,h2.ag m id,h3⟩,h.ne,h.lo,h.md.trans m⟩
theorem gW.lab{x:dN}{bL:Nat}(h:gW w0 b bm vF bM bF (.map (some bL)) k w)(hn:k.funcs≠[])(hc:ed w' bL (x.name::k.labels))(m:aa (λi=>i=bL) w w'):gW w0 b bm vF bM bF (.map (some bL)) (ow k x) w':=by obtain⟨bL',h1,h2,h3,h4,h5⟩:=h.ls hn;injection h1 with h1;injection h1 with h1;subst h1;exact⟨h.blk.ag m (λe=>h2.au h.blk e),h.ms.ag m (λe=>h3 e.symm),h.fs.ag m (λe=>h4 e.symm),h.vl,λ_=>⟨_,rfl,hc,h3,h4,h5⟩,h.ne,h.lo,h.md.step m (λi hi e=>by have e':i=bL:=e;omega)⟩
theorem gW.code{x:dN}{n:Int}(h:gW w0 b bm vF bM bF vL k w)(hn:n=(k.slots:Int)+x.x.o.slots):gW w0 b bm vF bM bF vL (gu k x) (w.setCell ⟨b,6,none⟩ (.int .i64 n)):=by
 have m:aa (Only b) w (w.setCell ⟨b,6,none⟩ (.int .i64 n)):=ax.aY _ _;refine⟨?_,h.ms.ag m (λe=>h.ms.au h.blk (show _=b from e).symm),h.fs.ag m (λe=>h.fs.au h.blk (show _=b from e).symm),h.vl,λhn=>?_,h.ne,h.lo,h.md.step m (λi hi e=>by have e':i=b:=e;have:=h.lo.1;omega)⟩
 ·subst hn;exact h.blk.set 6 _
 ·obtain⟨bL,h1,h2,h3⟩:=h.ls hn;exact⟨bL,h1,h2.ag m (λe=>h2.au h.blk (show _=b from e).symm),h3⟩
theorem gW.func{x:dN}{n:Int}(h:gW w0 b bm vF bM bF vL k w)(hc:ed w' bF (x.name::k.funcs))(m:aa (λi=>i=bF) w w')(hn:n=k.funcs.length):gW w0 b bm vF bM bF (.map (some w'.heap.size)) (sw k x) (((w'.alloc (.map #[] 0)).setCell ⟨b,4,none⟩ (.map (some w'.heap.size))).setCell ⟨b,5,none⟩ (.int .i64 n)):=by
 have hb':=h.blk.ag m (λe=>h.fs.au h.blk e);have hM':ed w' bM k.maps:=h.ms.ag m (λe=>h.ne e);have m1:aa ae w' (w'.alloc (.map #[] 0)):=aj;have m2:aa (Only b) (w'.alloc (.map #[] 0)) (((w'.alloc (.map #[] 0)).setCell ⟨b,4,none⟩ (.map (some w'.heap.size))).setCell ⟨b,5,none⟩ (.int .i64 n)):=(ax.aY _ _).aY _ _;have hb1:=hb'.ag m1 id;have hs:w.heap.size<=w'.heap.size:=m.size;have h0:=h.md.size;have hMl:=hM'.lt;have hFl:=hc.lt;refine⟨?_,(hM'.ag m1 id).ag m2 (λe=>(hM'.ag m1 id).au hb1 (show _=b from e).symm),(hc.ag m1 id).ag m2 (λe=>(hc.ag m1 id).au hb1 (show _=b from e).symm),⟨_,rfl⟩,λ_=>⟨_,rfl,?_,by omega,by omega,by omega⟩,h.ne,h.lo,((h.md.step m (λi hi e=>by have e':i=bF:=e;have:=h.lo.2.2;omega)).trans m1).step m2 (λi hi e=>by have e':i=b:=e;have:=h.lo.1;omega)⟩
 ·have:=(hb1.set 4 (.map (some w'.heap.size))).set 5 (.int .i64 n);have e:((sw k x).funcs.length:Int)-1=n:=by rw[hn];simp[sw]
  rw[e];exact this
 ·have hl:=ed.new w';exact hl.ag m2 (λe=>hl.au hb1 (show _=b from e).symm)
end
theorem dL.jy{w0 w:tW}{bm:Nat}{oF:Option Addr}{nF cF:Nat}{lb:List Nat}{o:OL}(h:dL w0 bm (.slice oF nF cF) lb o w)(i:Nat)(hi:i<o.fs.length):∃g,oF=some ⟨g,0,none⟩/\nF=o.fs.length/\o.fs.length<=cF/\∀w',aa ae w w'->∀j (hj:j<(jC (lb[i]?.getD 0) o.fs[i]).toArray.size),w'.cell? ⟨g,i*3+j,none⟩=some (jC (lb[i]?.getD 0) o.fs[i]).toArray[j]:=by
 obtain⟨o',c',hv,hb⟩:=h.sl.view;injection hv with e1 e2 e3;subst e1 e3;obtain⟨g,cs,rfl,hb,ht,hc,_⟩:=hb (by omega);refine⟨g,rfl,e2,hc,λw' m j hj=>?_⟩;have hz:i<(lb.zip o.fs).length:=by rw[List.length_zip,h.len];omega
 have hj':j<3:=hj;have hlb:i<lb.length:=by rw[h.len];exact hi
 rw[aW (hb.ag m id) ht (i*3+j) (by omega),gV,flat_get (λx:Nat×ra=>jC x.1 x.2) 3 (λ_=>rfl) (lb.zip o.fs) i j hz hj'];rw[List.getElem_zip,List.getElem?_eq_getElem hlb];simp only[bQ,List.getElem_toArray];rw[List.getElem?_eq_getElem]
theorem Pj(wO w0 w:tW)(b bm bM bF:Nat)(vF vL:Value)(lb:List Nat)(o:OL)(k:WK)(bs:List Nat)(x:dN)(hO:dL wO bm vF lb o w0)(h:gW w0 b bm vF bM bF vL k w)(hx:x.kind=2)(hl:k.funcs.length<o.fs.length)(hl2:o.fs.length<=1000001)(hnd:k.funcs.Nodup):Calls prog 145 #[.pointer (some ⟨b,0,none⟩),.agg (x.cells bs)] w λe w'=>e=.returned (.int .i64 (jK o k x))/\∃xY,gW w0 b bm vF bM bF xY (sw k x) w':=by
 have HF:af (jK o k x=if 0<k.funcs.count x.name then 4 else if 16<k.funcs.length+1 then 1 else if(o.fs.getD k.funcs.length {}).ends=false then 6 else 0):=rfl;have HGD:af (o.fs.getD k.funcs.length {}=o.fs[k.funcs.length]):=by rw[af,List.getD_eq_getElem?_getD,List.getElem?_eq_getElem hl];rfl
 have nE:af ((x.cells bs).size=20):=gT bs x;have GM:af ((x.cells bs).all (·.oneCell')=true):=cells_one bs x;have O6:af ((x.cells bs)[1]?=some (.string (T x.name))):=qC bs x (by omega)
 have Zw:af (∀W,ed W bF (x.name::k.funcs)->0<k.funcs.count x.name\/(Builtin.len_ #[105] 3 #[.map (some bF)]).run prog W=.ok (.int .i64 ((k.funcs.length+1:Nat):Int)) W):=λW hW=>by
  by_cases e:0<k.funcs.count x.name
  ·exact .inl e
  ·exact .inr (hW.size (List.nodup_cons.2 ⟨λhm=>e (List.count_pos_iff.2 hm),hnd⟩))
 have VZ:af (∀W,ed W bF (x.name::k.funcs)->(Instr.lookup 105 (.map (some bF)) (.string (T x.name)) false).run prog W=.ok (.int .i64 ((k.funcs.count x.name+1:Nat):Int)) W):=λW hW=>by
  have:=hW.look x.name
  rwa [bq]at this
 have hcn:k.funcs.count x.name<=1000001:=al bt (by omega);have HWK:=ai h;obtain⟨vo,vc,jZ,_⟩:=hO.sl.view;subst jZ;obtain⟨g,rfl,_,hvc,hrow⟩:=hO.jy _ hl;obtain⟨vq,rfl⟩:=h.vl;have HE:af (∀W,aa ae w0 W->W.cell? ⟨g,k.funcs.length*3+1,none⟩=some (.bool (o.fs.getD k.funcs.length {}).ends)):=λW m=>by rw[HGD.o];exact hrow W m 1 (by show 1<3;decide)
 have VY:af (((sw k x).funcs.length:Int)-1=(k.funcs.length:Int)):=by rw[af];simp[sw]
 clear h hx hnd hO hrow HGD;generalize jK o k x=r at *;generalize(o.fs.getD k.funcs.length {}).ends=en at *;generalize o.fs.length=nF at *;generalize x.cells bs=cs at *;have Pk:af (aa ae w (w.alloc (.cells cs 160))):=aj;have Pm:af (ak (w.alloc (.cells cs 160)) w.heap.size cs 160):=ak.new w _ _;have HW1:=ai (HWK.o.quiet Pk.o);go_enter func145,ntmps145;go_upto_region 1 with fail;generalize w.alloc (.cells cs 160)=w1 at *;generalize w.heap.size=B at *;have eZ:af (aa ae w1 w1.drew):=aJ;refine bJ 8 (by kernel_rfl) (by kernel_rfl) ?_;intro W hW;rw[<-hW]at eZ;clear hW;have HW2:=ai (HW1.o.quiet eZ.o);have HB2:=ai (Pm.o.ag eZ.o id);have c1:W.cell? ⟨B,1,none⟩=some (.string (T x.name)):=(HB2.o.cell 1).trans O6.o;have b3:W.cell? ⟨b,3,none⟩=some (.map (some bF)):=HW2.o.blk.cell 3;have hlk:=HW2.o.fs.look x.name;obtain⟨w5,hup,hc5,m5⟩:=HW2.o.fs.put x.name;have HW8:af (gW w0 b bm (.slice (some ⟨g,0,none⟩) nF vc) bM bF (.map (some w5.heap.size)) (sw k x) (((w5.alloc (.map #[] 0)).setCell ⟨b,4,none⟩ (.map (some w5.heap.size))).setCell ⟨b,5,none⟩ (.int .i64 k.funcs.length))):=HW2.o.func hc5 m5 rfl;have hb5:=HW2.o.blk.ag m5 (λe=>HW2.o.fs.au HW2.o.blk e);have iT:af (ak w5 B cs 160):=HB2.o.ag m5 (λe=>HW2.o.fs.au HB2.o e);have hbA:=hb5.alloc (.map #[] 0);have hbS:=hbA.set 4 (.map (some w5.heap.size));have e4:=hbA.cell 4;have e5:=hbA.cell 5;have ef:=hbA.frozen;have e5':=hbS.cell 5;have ef':=hbS.frozen;have HBb:af (B≠b):=λe=>iT.o.apart hb5 (by decide) e;have Kh:af (ak (((w5.alloc (.map #[] 0)).setCell ⟨b,4,none⟩ (.map (some w5.heap.size))).setCell ⟨b,5,none⟩ (.int .i64 k.funcs.length)) B cs 160):=((iT.o.alloc _).setOther (a:=⟨b,4,none⟩) HBb.o.symm _).setOther (a:=⟨b,5,none⟩) HBb.o.symm _;have hmm:=@run_makeMap prog;have hi5:(k.funcs.length:Int)-1+1=k.funcs.length:=by omega
 clear hc5 m5 HWK HW1 Pm Pk hb5 hbA hbS;generalize hcn':k.funcs.count x.name=cn at *;generalize hfl:k.funcs.length=fl at *;simp only[ao,aE,ar,bj]
 repeat(go_big_quiet_step (fail))
 refine wpQuiet_nil ?_;clear hlk c1 b3 HW2 HB2 eZ;go_upto_region 4 with fail;generalize((w5.alloc (.map #[] 0)).setCell ⟨b,4,none⟩ (.map (some w5.heap.size))).setCell ⟨b,5,none⟩ (.int .i64 (fl:Int))=w8 at *;generalize w5.heap.size=bL at *;have eZ:af (aa ae w8 w8.drew):=aJ;refine l9 (by kernel_rfl) (by kernel_rfl) ?_;intro W7 hW7;rw[<-hW7]at eZ;clear hW7;have xq:=ai (HW8.o.quiet eZ.o);have c1:W7.cell? ⟨B,1,none⟩=some (.string (T x.name)):=((Kh.o.ag eZ.o id).cell 1).trans O6.o;have b2:W7.cell? ⟨b,3,none⟩=some (.map (some bF)):=xq.o.blk.cell 3;have hlk:=VZ.o W7 xq.o.fs;have HLE:=Zw.o W7 xq.o.fs;clear eZ HW8 Kh hup e4 e5 ef e5' ef';by_cases h0:0<cn
 ·have HR:af (r=4):=by rw[af,HF.o,iP9 h0]
  have hq:((1:Int)<((cn+1:Nat):Int)):=by omega
  repeat(go_big_quiet_step (fail))
  refine wpQuiet_nil ?_;go_wp2_with fail;go_ret;exact⟨dB (by rw[HR.o];rfl),_,xq.o⟩
 ·have hc0:cn=0:=by omega
  subst hc0;have hle:=HLE.resolve_left h0;have HR:af (r=if 16<fl+1 then 1 else if en=false then 6 else 0):=by rw[af,HF.o,iN9 h0]
  clear HLE;by_cases h8:16<fl+1
  ·have kE:af (r=1):=by rw[af,HR.o,iP9 h8]
   have hq:(16:Int)<((fl+1:Nat):Int):=by omega
   repeat(go_big_quiet_step (fail))
   refine wpQuiet_nil ?_;go_wp2_with fail;go_ret;exact⟨dB (by rw[kE.o];rfl),_,xq.o⟩
  ·have kE:af (r=if en=false then 6 else 0):=by rw[af,HR.o,iN9 h8]
   have hq:¬(16:Int)<((fl+1:Nat):Int):=by omega
   repeat(go_big_quiet_step (fail))
   refine wpQuiet_nil ?_;go_upto_region 8 with fail;have eZ:af (aa ae W7 W7.drew):=aJ;refine l9 (by kernel_rfl) (by kernel_rfl) ?_;intro W9 hW9;rw[<-hW9]at eZ;clear hW9;have HW9:=ai (xq.o.quiet eZ.o);have f1:W9.cell? ⟨b,1,none⟩=some (.slice (some ⟨g,0,none⟩) nF vc):=HW9.o.blk.cell 1;have f5:W9.cell? ⟨b,5,none⟩=some (.int .i64 fl):=by have:=HW9.o.blk.cell 5;rw[VY.o]at this;exact this
   have fe:=HE.o W9 HW9.o.md;clear eZ xq c1 b2 hlk hle;cases en with
   |false =>
    have xX:af (r=6):=by rw[af,kE.o,iP9 rfl]
    repeat(go_big_quiet_step (fail))
    refine wpQuiet_nil ?_;go_wp2_with fail;go_ret;exact⟨dB (by rw[xX.o];rfl),_,HW9.o⟩
   |true =>
    have xX:af (r=0):=by rw[af,kE.o,iN9 (by decide)]
    repeat(go_big_quiet_step (fail))
    refine wpQuiet_nil ?_;go_wp2_with fail;go_ret;exact⟨dB (by rw[xX.o];rfl),_,HW9.o⟩
theorem Tv(wO w0 w:tW)(b bm bM bF:Nat)(vF vL:Value)(lb:List Nat)(o:OL)(k:WK)(y:tLB)(hO:dL wO bm vF lb o w0)(h:gW w0 b bm vF bM bF vL k w)(hne:k.funcs≠[])(hl:k.funcs.length<=o.fs.length)(hl2:o.fs.length<=1000001):Calls prog 257 #[.pointer (some ⟨b,0,none⟩),.string (T y)] w λe w'=>e=.returned (.bool (ajt (o.fs.getD (k.funcs.length-1) {}) y))/\aa ae w w':=by
 have hp:0<k.funcs.length:=List.length_pos_iff.2 hne;obtain⟨n,hn⟩:∃n,n=k.funcs.length-1:=⟨_,rfl⟩
 have hnl:n<o.fs.length:=by omega
 have hgd:o.fs.getD n {}=o.fs[n]:=by rw[List.getD_eq_getElem?_getD,List.getElem?_eq_getElem hnl];rfl
 obtain⟨vo,vc,jZ,_⟩:=hO.sl.view;subst jZ;obtain⟨g,rfl,_,hvc,hrow⟩:=hO.jy _ hnl;have V7:af (∀W,aa ae w0 W->gU W (lb[n]?.getD 0) o.fs[n].bB):=λW m=>MapOf.ag (hO.bB n hnl) m id;have HR:af (∀W,aa ae w0 W->W.cell? ⟨g,n*3,none⟩=some (.int .i64 o.fs[n].slots)/\W.cell? ⟨g,n*3+1,none⟩=some (.bool o.fs[n].ends)/\W.cell? ⟨g,n*3+2,none⟩=some (.map (some (lb[n]?.getD 0)))):=λW m=>⟨hrow W m 0 (by show 0<3;decide),hrow W m 1 (by show 1<3;decide),hrow W m 2 (by show 2<3;decide)⟩
 have HF:af (ajt (o.fs.getD (k.funcs.length-1) {}) y=((fA o.fs[n].bB y).isSome&&decide ((fA o.fs[n].bB y).getD 0<o.fs[n].slots))):=by rw[af,<-hn,hgd];rfl
 have HB:af (∀W,aa ae w W->W.cell? ⟨b,1,none⟩=some (.slice (some ⟨g,0,none⟩) o.fs.length vc)/\W.cell? ⟨b,5,none⟩=some (.int .i64 (n:Int))):=λW m=>by
  have hb:=(h.quiet m).blk;refine⟨hb.cell 1,?_⟩;rw[hb.cell 5];have:((k.funcs.length:Int)-1)=(n:Int):=by omega
  rw[this];rfl
 have Pc:=ai h.md;clear hrow hO h hn hgd;generalize ajt (o.fs.getD (k.funcs.length-1) {}) y=r at *;generalize o.fs[n]=f at *;obtain⟨sl,en,las⟩:=f;dsimp only at *;generalize lb[n]?.getD 0=bl at *;generalize o.fs.length=nF at *;have f1:∀e:Ext ae w,e.w.cell? ⟨b,1,none⟩=some (.slice (some ⟨g,0,none⟩) nF vc):=λe=>(HB.o e.w e.m).1;have f5:∀e:Ext ae w,e.w.cell? ⟨b,5,none⟩=some (.int .i64 (n:Int)):=λe=>(HB.o e.w e.m).2;have g0:∀e:Ext ae w,e.w.cell? ⟨g,n*3,none⟩=some (.int .i64 sl):=λe=>(HR.o e.w (Pc.o.trans e.m)).1;have g1:∀e:Ext ae w,e.w.cell? ⟨g,n*3+1,none⟩=some (.bool en):=λe=>(HR.o e.w (Pc.o.trans e.m)).2.1;have g2:∀e:Ext ae w,e.w.cell? ⟨g,n*3+2,none⟩=some (.map (some bl)):=λe=>(HR.o e.w (Pc.o.trans e.m)).2.2
 haveI:Nonempty (Ext ae w):=Ext.ne _ _
 go_enter func257,ntmps257;go_upto_region 1 with fail;refine bE [11,12] (λw'=>∃e:Ext ae w,w'=e.w) (by kernel_rfl) (by kernel_rfl) (by kernel_rfl) ⟨⟨_,aJ⟩,rfl⟩ ?_
 iterate 1 (refine aA rfl rfl rfl ?_;intro K hK;go_big_quiet_op;go_big_quiet_on)
 refine bV rfl rfl _ ⟨b,0,none⟩ rfl rfl ?_;simp only[Act.put,sA9,sB9,sC9]
 iterate 4 (refine aA rfl rfl rfl ?_;intro K hK;go_big_quiet_op;go_big_quiet_on)
 refine bV rfl rfl _ ⟨b,0,none⟩ rfl rfl ?_;simp only[Act.put,sA9,sB9,sC9]
 iterate 4 (refine aA rfl rfl rfl ?_;intro K hK;go_big_quiet_op;go_big_quiet_on)
 refine aF rfl rfl ?_;intro K hK;go_big_op;refine hK _ _ rfl ⟨⟨_,aJ.alloc _⟩,rfl⟩ ?_;clear hK K;refine aF rfl rfl ?_;intro K hK;have hz:ak ((w.alloc (.cells #[.int .i64 0,.bool false,.map none] 164)).drew) w.heap.size #[.int .i64 0,.bool false,.map none] 164:=(ak.new w _ _).drew;have z0:=hz.cell 0;have z1:=hz.cell 1;have z2:=hz.cell 2;have zf:=hz.frozen;have HZ3:af (ak ((w.alloc (.cells #[.int .i64 sl,.bool en,.map (some bl)] 164)).drew) w.heap.size #[.int .i64 sl,.bool en,.map (some bl)] 164):=(ak.new w _ _).drew;have dw:af (aa ae w ((w.alloc (.cells #[.int .i64 sl,.bool en,.map (some bl)] 164)).drew)):=((aa.refl ae w).alloc _).drew;go_big_op;refine hK _ _ rfl ⟨⟨_,dw.o⟩,rfl⟩ ?_;clear hK K hz z0 z1 z2 zf;refine bX ?_;simp only[Exit.then];generalize(w.alloc (.cells #[.int .i64 sl,.bool en,.map (some bl)] 164)).drew=w3 at *;generalize w.heap.size=C at *;have c0:w3.cell? ⟨C,0,none⟩=some (.int .i64 sl):=HZ3.o.cell 0;have c2:w3.cell? ⟨C,2,none⟩=some (.map (some bl)):=HZ3.o.cell 2;have hlk:=(V7.o w3 (Pc.o.trans dw.o)).look y;clear f1 f5 g0 g1 g2;generalize fA las y=lo at *;cases lo with
 |none =>
  have kE:af (r=false):=by rw[af,HF.o];rfl
  simp only[Option.getD_none,Option.isSome_none]at hlk;go_wp2_with fail;go_ret;exact⟨by rw[kE.o];rfl,dw.o⟩
 |some q =>
  simp only[bQ,Option.isSome_some]at hlk;have kE:af (r=decide (q<sl)):=by rw[af,HF.o];rfl
  go_wp2_with fail;go_ret;exact⟨by rw[kE.o];rfl,dw.o⟩
theorem aat(bs:List Nat)(x:dN)(h:x.kind=4):x.cells bs=OQ 4 ⟨#[]⟩ aT aT aT (.pointer (some ⟨bs[x.x.k]?.getD 0,0,none⟩)) x.x.r.d x.x.r.s x.x.r.jump x.x.r.num x.x.r.high (T x.x.r.label) (T x.x.r.name) x.x.fits:=by unfold dN.cells;rw[iP9 h]
theorem Pn(wO w0 w:tW)(b bm bM bF:Nat)(vF vL:Value)(lb:List Nat)(o:OL)(k:WK)(bs:List Nat)(x:dN)(hO:dL wO bm vF lb o w0)(h:gW w0 b bm vF bM bF vL k w)(hx:x.kind=4)(hA:∀W,aa ae w0 W->bY W (bs[x.x.k]?.getD 0) x.x.o)(hne:k.funcs≠[])(hl:k.funcs.length<=o.fs.length)(hl2:o.fs.length<=1000001)(hs:k.slots<=2000002):Calls prog 146 #[.pointer (some ⟨b,0,none⟩),.agg (x.cells bs)] w λe w'=>e=.returned (.int .i64 (jL o k x))/\gW w0 b bm vF bM bF vL (gu k x) w':=by
 have HF:af (jL o k x=if x.x.fits=false then 3
  else if(x.x.o.jumps&&!ajt (o.fs.getD (k.funcs.length-1) {}) x.x.r.label)=true then 5
  else if(decide ((if x.x.r.s=1 then x.x.o.aO else 0)=2)&&decide (o.maps.count x.x.r.name=0))=true then 5
  else if 200<k.slots+x.x.o.slots then 1 else 0):=rfl
 have HHL:af (∀w',gW w0 b bm vF bM bF vL (gu k x) w'->Calls prog 257 #[.pointer (some ⟨b,0,none⟩),.string (T x.x.r.label)] w' λe w''=>e=.returned (.bool (ajt (o.fs.getD (k.funcs.length-1) {}) x.x.r.label))/\aa ae w' w''):=λw' h'=>Tv wO w0 w' b bm bM bF vF vL lb o (gu k x) x.x.r.label hO h' hne hl hl2;have AY:af (∀w',aa ae w0 w'->Calls prog 84 #[.agg #[.pointer (some ⟨bs[x.x.k]?.getD 0,0,none⟩),.int .u8 x.x.r.d,.int .u8 x.x.r.s,.int .i16 x.x.r.jump,.int .i32 x.x.r.num,.int .i32 x.x.r.high,.string (T x.x.r.label),.string (T x.x.r.name)]] w' λe w''=>e=.returned (.int .i64 ((if x.x.r.s=1 then x.x.o.aO else 0:Nat):Int))/\aa ae w' w''):=λw' m=>jJ w' _ x.x.o (hA w' m) _ _ _ _ _ _ _;have VZ:af (∀w',aa ae w0 w'->(Instr.lookup 105 (.map (some bm)) (.string (T x.x.r.name)) false).run prog w'=.ok (.int .i64 (o.maps.count x.x.r.name:Nat)) w'):=λw' m=>(hO.quiet m).maps.look x.x.r.name;have hs2:=x.x.vz;have Xm:=ai hA;have HWK:=ai h;have HST:af (∀W,gW w0 b bm vF bM bF vL k W->gW w0 b bm vF bM bF vL (gu k x) (W.setCell ⟨b,6,none⟩ (.int .i64 ((k.slots:Int)+x.x.o.slots)))):=λW hW=>hW.code rfl;have LK:af (((gu k x).slots:Int)=(k.slots:Int)+x.x.o.slots):=by rw[af];simp[gu]
 obtain⟨vo,vc,jZ,_⟩:=hO.sl.view;subst jZ;obtain⟨vq,rfl⟩:=h.vl;rw[aat bs x hx];unfold OQ aT;dsimp only;clear h hx hO hA;generalize jL o k x=r at *;generalize ajt (o.fs.getD (k.funcs.length-1) {}) x.x.r.label=hb at *;generalize bs[x.x.k]?.getD 0=bo at *;generalize o.maps.count x.x.r.name=mc at *;generalize T x.x.r.label=lab at *;generalize T x.x.r.name=ZI at *;generalize hcs:(#[.int .i64 ((4:Nat):Int),.string ⟨#[]⟩,.bool false,.int .u64 ((0%18446744073709551616:Nat):Int),.bool (decide (18446744073709551616<=0)),.bool false,.int .u64 ((0%18446744073709551616:Nat):Int),.bool (decide (18446744073709551616<=0)),.bool false,.int .u64 ((0%18446744073709551616:Nat):Int),.bool (decide (18446744073709551616<=0)),.pointer (some ⟨bo,0,none⟩),.int .u8 x.x.r.d,.int .u8 x.x.r.s,.int .i16 x.x.r.jump,.int .i32 x.x.r.num,.int .i32 x.x.r.high,.string lab,.string ZI,.bool x.x.fits]:tAV)=cs at *;have nE:=ai hcs.symm;clear hcs;have Pk:af (aa ae w (w.alloc (.cells cs 160))):=aj;have Pm:af (ak (w.alloc (.cells cs 160)) w.heap.size cs 160):=ak.new w _ _;have HW1:=ai (HWK.o.quiet Pk.o);go_enter func146,ntmps146;go_upto_region 1 with fail;generalize w.alloc (.cells cs 160)=w1 at *;generalize w.heap.size=B at *;have eZ:af (aa ae w1 w1.drew):=aJ;refine bJ 13 (by kernel_rfl) (by kernel_rfl) ?_;intro W hW;rw[<-hW]at eZ;clear hW;have HW2:=ai (HW1.o.quiet eZ.o);have HB2:=ai (Pm.o.ag eZ.o id);obtain⟨p1,p2,p3,p4,p5,p6,p7,p8,p9,p10,p11,yD,_⟩:=(Xm.o W HW2.o.md).ex;have c11:W.cell? ⟨B,11,none⟩=some (.pointer (some ⟨bo,0,none⟩)):=(HB2.o.cell 11).trans (by rw[nE.o];rfl);have b6:W.cell? ⟨b,6,none⟩=some (.int .i64 k.slots):=HW2.o.blk.cell 6;have o2:=yD.cell 2;have bf:=HW2.o.blk.frozen;have HBb:af (B≠b):=λe=>HB2.o.apart HW2.o.blk (by decide) e;have HOb:af (bo≠b):=λe=>yD.apart HW2.o.blk (by decide) e;have vw:=HST.o W HW2.o;have iT:af (ak (W.setCell ⟨b,6,none⟩ (.int .i64 ((k.slots:Int)+x.x.o.slots))) B cs 160):=HB2.o.setOther (a:=⟨b,6,none⟩) HBb.o.symm _;have vw:=ai vw;clear yD HW1 Pm Pk HWK HST;generalize x.x.o.slots=os at *;generalize k.slots=ks at *;simp only[ao,aE,ar,bj]
 repeat(go_big_quiet_step (fail))
 refine wpQuiet_nil ?_;go_upto_region 2 with fail;generalize W.setCell ⟨b,6,none⟩ (.int .i64 ((ks:Int)+os))=w5 at *;clear c11 b6 o2 bf HW2 HB2 eZ;have HBC:af (∀W,ak W B cs 160->W.cell? ⟨B,11,none⟩=some (.pointer (some ⟨bo,0,none⟩))/\W.cell? ⟨B,17,none⟩=some (.string lab)/\W.cell? ⟨B,19,none⟩=some (.bool x.x.fits)):=λW hb=>⟨(hb.cell 11).trans (by rw[nE.o];rfl),(hb.cell 17).trans (by rw[nE.o];rfl),(hb.cell 19).trans (by rw[nE.o];rfl)⟩
 have Ki:af (∀W,ak W B cs 160->W.cell? ⟨B,12,none⟩=some (.int .u8 x.x.r.d)/\W.cell? ⟨B,13,none⟩=some (.int .u8 x.x.r.s)/\W.cell? ⟨B,14,none⟩=some (.int .i16 x.x.r.jump)/\W.cell? ⟨B,15,none⟩=some (.int .i32 x.x.r.num)/\W.cell? ⟨B,16,none⟩=some (.int .i32 x.x.r.high)/\W.cell? ⟨B,18,none⟩=some (.string ZI)):=λW hb=>⟨(hb.cell 12).trans (by rw[nE.o];rfl),(hb.cell 13).trans (by rw[nE.o];rfl),(hb.cell 14).trans (by rw[nE.o];rfl),(hb.cell 15).trans (by rw[nE.o];rfl),(hb.cell 16).trans (by rw[nE.o];rfl),(hb.cell 18).trans (by rw[nE.o];rfl)⟩
 have HOJ:af (∀W,aa ae w0 W->W.cell? ⟨bo,3,none⟩=some (.bool x.x.o.jumps)):=λW m=>by obtain⟨p1,p2,p3,p4,p5,p6,p7,p8,p9,p10,p11,yD,_⟩:=(Xm.o W m).ex;exact yD.cell 3
 clear Xm nE;generalize aee:(if x.x.r.s=1 then x.x.o.aO else 0)=rf at *;generalize x.x.o.jumps=oj at *;generalize x.x.r.d=xd at *;generalize x.x.r.s=xs at *;generalize x.x.r.jump=xj at *;generalize x.x.r.num=xn at *;generalize x.x.r.high=xh at *;generalize x.x.fits=xf at *;clear aee;obtain⟨c11,c17,c19⟩:=HBC.o w5 iT.o;have o3:=HOJ.o w5 vw.o.md;cases xf with
 |false =>
  have HR:af (r=3):=by rw[af,HF.o,iP9 rfl]
  go_wp2_with fail;go_ret;exact⟨dB (by rw[HR.o];rfl),vw.o⟩
 |true =>
  have ZH:af (r=if(oj&&!hb)=true then 5 else if(decide (rf=2)&&decide (mc=0))=true then 5 else if 200<ks+os then 1 else 0):=by rw[af,HF.o,iN9 (by decide)]
  cases oj with
  |true =>
   go_wp2_with fail;refine(HHL.o _ vw.o).mono ?_;rintro e w6 ⟨rfl,m6⟩;have tq:=ai (vw.o.quiet m6);have uM:=ai (iT.o.ag m6 id);clear m6 vw iT;cases hb with
   |false =>
    have HR:af (r=5):=by rw[af,ZH.o,iP9 (by decide)]
    go_wp2_with fail;go_ret;exact⟨dB (by rw[HR.o];rfl),tq.o⟩
   |true =>
    have V9:af (r=if(decide (rf=2)&&decide (mc=0))=true then 5 else if 200<ks+os then 1 else 0):=by rw[af,ZH.o,iN9 (by decide)]
    go_upto_region 6 with fail;have hw6:=tq.o;have hb6:=uM.o;have d11:∀e:Ext ae w6,e.w.cell? ⟨B,11,none⟩=some (.pointer (some ⟨bo,0,none⟩)):=λe=>(HBC.o e.w (uM.o.ag e.m id)).1;have d17:∀e:Ext ae w6,e.w.cell? ⟨B,17,none⟩=some (.string lab):=λe=>(HBC.o e.w (uM.o.ag e.m id)).2.1;have d12:∀e:Ext ae w6,e.w.cell? ⟨B,12,none⟩=some (.int .u8 xd):=λe=>(Ki.o e.w (uM.o.ag e.m id)).1;have d13:∀e:Ext ae w6,e.w.cell? ⟨B,13,none⟩=some (.int .u8 xs):=λe=>(Ki.o e.w (uM.o.ag e.m id)).2.1;have d14:∀e:Ext ae w6,e.w.cell? ⟨B,14,none⟩=some (.int .i16 xj):=λe=>(Ki.o e.w (uM.o.ag e.m id)).2.2.1;have d15:∀e:Ext ae w6,e.w.cell? ⟨B,15,none⟩=some (.int .i32 xn):=λe=>(Ki.o e.w (uM.o.ag e.m id)).2.2.2.1;have d16:∀e:Ext ae w6,e.w.cell? ⟨B,16,none⟩=some (.int .i32 xh):=λe=>(Ki.o e.w (uM.o.ag e.m id)).2.2.2.2.1;have d18:∀e:Ext ae w6,e.w.cell? ⟨B,18,none⟩=some (.string ZI):=λe=>(Ki.o e.w (uM.o.ag e.m id)).2.2.2.2.2;have dm:∀e:Ext ae w6,e.w.cell? ⟨b,0,none⟩=some (.map (some bm)):=λe=>(tq.o.quiet e.m).blk.cell 0;have dl:∀e:Ext ae w6,(Instr.lookup 105 (.map (some bm)) (.string ZI) false).run prog e.w=.ok (.int .i64 (mc:Nat)) e.w:=λe=>VZ.o e.w (tq.o.md.trans e.m);have Rs:af (∀e:Ext ae w6,Calls prog 84 #[.agg #[.pointer (some ⟨bo,0,none⟩),.int .u8 xd,.int .u8 xs,.int .i16 xj,.int .i32 xn,.int .i32 xh,.string lab,.string ZI]] e.w λe' w''=>e'=.returned (.int .i64 (rf:Nat))/\aa ae e.w w''):=λe=>AY.o e.w (tq.o.md.trans e.m);clear hw6 hb6 c11 c17 c19 o3;have ne1:=Ext.ne ae w6;refine gm ae (by kernel_rfl) (by kernel_rfl) ?_
    have Po:af (∀w2,aa ae w6 w2->gW w0 b bm (.slice vo o.fs.length vc) bM bF (.map vq) (gu k x) w2/\w2.cell? ⟨b,6,none⟩=some (.int .i64 ((ks:Int)+os))):=λw2 m=>⟨tq.o.quiet m,by
     have:=(tq.o.quiet m).blk.cell 6;rw[LK.o]at this;exact this⟩
    by_cases h2:rf=2
    ·subst h2;by_cases h0:mc=0
     ·subst h0;have HR:af (r=5):=by rw[af,V9.o,iP9 (by decide)]
      repeat(go_big_quiet_step (first |(go_at_call 84;exact Calls.nu (Rs.o _))))
      refine wpQuiet_nil ?_;rintro w2 ⟨e2,GY⟩;have m2:aa ae w6 w2:=by rw[GY];exact e2.m
      clear GY e2;obtain⟨hW2,b6⟩:=Po.o w2 m2;have HW2:=ai hW2;clear hW2 m2 Po;go_wp2_with fail;go_ret;exact⟨dB (by rw[HR.o];rfl),HW2.o⟩
     ·have hq0:((mc:Int)==0)=false:=by simp;omega
      have HR:af (r=if 200<ks+os then 1 else 0):=by rw[af,V9.o,iN9 (by simp;omega)]
      repeat(go_big_quiet_step (first |(go_at_call 84;exact Calls.nu (Rs.o _))))
      refine wpQuiet_nil ?_;rintro w2 ⟨e2,GY⟩;have m2:aa ae w6 w2:=by rw[GY];exact e2.m
      clear GY e2;obtain⟨hW2,b6⟩:=Po.o w2 m2;have HW2:=ai hW2;clear hW2 m2 Po;by_cases h3:200<ks+os
      ·have kE:af (r=1):=by rw[af,HR.o,iP9 h3]
       have h3':(200:Int)<(ks:Int)+os:=by omega
       go_wp2_with fail;go_ret;exact⟨dB (by rw[kE.o];rfl),HW2.o⟩
      ·have kE:af (r=0):=by rw[af,HR.o,iN9 h3]
       have h3':¬(200:Int)<(ks:Int)+os:=by omega
       go_wp2_with fail;go_ret;exact⟨dB (by rw[kE.o];rfl),HW2.o⟩
    ·have hq2:((rf:Int)==2)=false:=by simp;omega
     have HR:af (r=if 200<ks+os then 1 else 0):=by rw[af,V9.o,iN9 (by simp;omega)]
     repeat(go_big_quiet_step (first |(go_at_call 84;exact Calls.nu (Rs.o _))))
     refine wpQuiet_nil ?_;rintro w2 ⟨e2,GY⟩;have m2:aa ae w6 w2:=by rw[GY];exact e2.m
     clear GY e2;obtain⟨hW2,b6⟩:=Po.o w2 m2;have HW2:=ai hW2;clear hW2 m2 Po;by_cases h3:200<ks+os
     ·have kE:af (r=1):=by rw[af,HR.o,iP9 h3]
      have h3':(200:Int)<(ks:Int)+os:=by omega
      go_wp2_with fail;go_ret;exact⟨dB (by rw[kE.o];rfl),HW2.o⟩
     ·have kE:af (r=0):=by rw[af,HR.o,iN9 h3]
      have h3':¬(200:Int)<(ks:Int)+os:=by omega
      go_wp2_with fail;go_ret;exact⟨dB (by rw[kE.o];rfl),HW2.o⟩
  |false =>
   have V9:af (r=if(decide (rf=2)&&decide (mc=0))=true then 5 else if 200<ks+os then 1 else 0):=by rw[af,ZH.o,iN9 (by simp)]
   go_upto_region 6 with fail;have hw6:=vw.o;have hb6:=iT.o;have d11:∀e:Ext ae w5,e.w.cell? ⟨B,11,none⟩=some (.pointer (some ⟨bo,0,none⟩)):=λe=>(HBC.o e.w (iT.o.ag e.m id)).1;have d17:∀e:Ext ae w5,e.w.cell? ⟨B,17,none⟩=some (.string lab):=λe=>(HBC.o e.w (iT.o.ag e.m id)).2.1;have d12:∀e:Ext ae w5,e.w.cell? ⟨B,12,none⟩=some (.int .u8 xd):=λe=>(Ki.o e.w (iT.o.ag e.m id)).1;have d13:∀e:Ext ae w5,e.w.cell? ⟨B,13,none⟩=some (.int .u8 xs):=λe=>(Ki.o e.w (iT.o.ag e.m id)).2.1;have d14:∀e:Ext ae w5,e.w.cell? ⟨B,14,none⟩=some (.int .i16 xj):=λe=>(Ki.o e.w (iT.o.ag e.m id)).2.2.1;have d15:∀e:Ext ae w5,e.w.cell? ⟨B,15,none⟩=some (.int .i32 xn):=λe=>(Ki.o e.w (iT.o.ag e.m id)).2.2.2.1;have d16:∀e:Ext ae w5,e.w.cell? ⟨B,16,none⟩=some (.int .i32 xh):=λe=>(Ki.o e.w (iT.o.ag e.m id)).2.2.2.2.1;have d18:∀e:Ext ae w5,e.w.cell? ⟨B,18,none⟩=some (.string ZI):=λe=>(Ki.o e.w (iT.o.ag e.m id)).2.2.2.2.2;have dm:∀e:Ext ae w5,e.w.cell? ⟨b,0,none⟩=some (.map (some bm)):=λe=>(vw.o.quiet e.m).blk.cell 0;have dl:∀e:Ext ae w5,(Instr.lookup 105 (.map (some bm)) (.string ZI) false).run prog e.w=.ok (.int .i64 (mc:Nat)) e.w:=λe=>VZ.o e.w (vw.o.md.trans e.m);have Rs:af (∀e:Ext ae w5,Calls prog 84 #[.agg #[.pointer (some ⟨bo,0,none⟩),.int .u8 xd,.int .u8 xs,.int .i16 xj,.int .i32 xn,.int .i32 xh,.string lab,.string ZI]] e.w λe' w''=>e'=.returned (.int .i64 (rf:Nat))/\aa ae e.w w''):=λe=>AY.o e.w (vw.o.md.trans e.m);clear hw6 hb6 c11 c17 c19 o3;have ne1:=Ext.ne ae w5;refine gm ae (by kernel_rfl) (by kernel_rfl) ?_
   have Po:af (∀w2,aa ae w5 w2->gW w0 b bm (.slice vo o.fs.length vc) bM bF (.map vq) (gu k x) w2/\w2.cell? ⟨b,6,none⟩=some (.int .i64 ((ks:Int)+os))):=λw2 m=>⟨vw.o.quiet m,by
    have:=(vw.o.quiet m).blk.cell 6;rw[LK.o]at this;exact this⟩
   by_cases h2:rf=2
   ·subst h2;by_cases h0:mc=0
    ·subst h0;have HR:af (r=5):=by rw[af,V9.o,iP9 (by decide)]
     repeat(go_big_quiet_step (first |(go_at_call 84;exact Calls.nu (Rs.o _))))
     refine wpQuiet_nil ?_;rintro w2 ⟨e2,GY⟩;have m2:aa ae w5 w2:=by rw[GY];exact e2.m
     clear GY e2;obtain⟨hW2,b6⟩:=Po.o w2 m2;have HW2:=ai hW2;clear hW2 m2 Po;go_wp2_with fail;go_ret;exact⟨dB (by rw[HR.o];rfl),HW2.o⟩
    ·have hq0:((mc:Int)==0)=false:=by simp;omega
     have HR:af (r=if 200<ks+os then 1 else 0):=by rw[af,V9.o,iN9 (by simp;omega)]
     repeat(go_big_quiet_step (first |(go_at_call 84;exact Calls.nu (Rs.o _))))
     refine wpQuiet_nil ?_;rintro w2 ⟨e2,GY⟩;have m2:aa ae w5 w2:=by rw[GY];exact e2.m
     clear GY e2;obtain⟨hW2,b6⟩:=Po.o w2 m2;have HW2:=ai hW2;clear hW2 m2 Po;by_cases h3:200<ks+os
     ·have kE:af (r=1):=by rw[af,HR.o,iP9 h3]
      have h3':(200:Int)<(ks:Int)+os:=by omega
      go_wp2_with fail;go_ret;exact⟨dB (by rw[kE.o];rfl),HW2.o⟩
     ·have kE:af (r=0):=by rw[af,HR.o,iN9 h3]
      have h3':¬(200:Int)<(ks:Int)+os:=by omega
      go_wp2_with fail;go_ret;exact⟨dB (by rw[kE.o];rfl),HW2.o⟩
   ·have hq2:((rf:Int)==2)=false:=by simp;omega
    have HR:af (r=if 200<ks+os then 1 else 0):=by rw[af,V9.o,iN9 (by simp;omega)]
    repeat(go_big_quiet_step (first |(go_at_call 84;exact Calls.nu (Rs.o _))))
    refine wpQuiet_nil ?_;rintro w2 ⟨e2,GY⟩;have m2:aa ae w5 w2:=by rw[GY];exact e2.m
    clear GY e2;obtain⟨hW2,b6⟩:=Po.o w2 m2;have HW2:=ai hW2;clear hW2 m2 Po;by_cases h3:200<ks+os
    ·have kE:af (r=1):=by rw[af,HR.o,iP9 h3]
     have h3':(200:Int)<(ks:Int)+os:=by omega
     go_wp2_with fail;go_ret;exact⟨dB (by rw[kE.o];rfl),HW2.o⟩
    ·have kE:af (r=0):=by rw[af,HR.o,iN9 h3]
     have h3':¬(200:Int)<(ks:Int)+os:=by omega
     go_wp2_with fail;go_ret;exact⟨dB (by rw[kE.o];rfl),HW2.o⟩
def mY(w0:tW)(b bm bM bF:Nat)(vF:Value)(k:WK)(r:Nat)(e:Ending)(w':tW):Prop:=e=.returned (.int .i64 r)/\∃vL,gW w0 b bm vF bM bF vL k w'
def firstP(o:OL):List dN->WK->Nat->Nat×Nat
 |[],_,_=>(0,0)
 |x::ls,k,n=>if dJ o k x=0 then firstP o ls (fI k x) (n+1)else(dJ o k x,n+1)
theorem GZ(o:OL)(ls:List dN)(i:Nat)(h:i<ls.length)(k:WK)(n:Nat):firstP o (ls.drop i) k n=if dJ o k ls[i]=0 then firstP o (ls.drop (i+1)) (fI k ls[i]) (n+1)else(dJ o k ls[i],n+1):=by rw[List.drop_eq_getElem_cons h];rfl
structure EX(ls:List dN)(i:Nat)(k:WK):Prop where
 m:k.maps.Nodup
 f:k.funcs.Nodup
 n:k.funcs.length=(ah (ls.take i)).fs.length
 s:k.slots<=2*i
 ml:k.maps.length<=i
 ll:k.labels.length<=i
theorem jM(o:OL)(f:ra):(o.cZ f).fs.length=o.fs.length:=by simp[OL.cZ]
theorem EX.step{ls:List dN}{i:Nat}{k:WK}(h:EX ls i k)(o:OL)(hi:i<ls.length)(hz:dJ o k ls[i]=0):EX ls (i+1) (fI k ls[i]):=by
 obtain⟨h1,h2,h3,h4,h5,h6⟩:=h;have hs:=fO ls i hi;generalize ls[i]=x at *;unfold dJ at hz;unfold fI;by_cases k1:x.kind=1
 ·rw[iP9 k1]at hz ⊢;unfold yM at hz;split at hz
  ·cases hz
  split at hz
  ·cases hz
  rename_i _ hc
  refine⟨List.nodup_cons.2 ⟨λhm=>hc (List.count_pos_iff.2 hm),h1⟩,h2,?_,al h4 (by omega),by simpa [xE]using h5,ab h6⟩;rw[hs,bH,iP9 k1];exact h3
 rw[iN9 k1]at hz ⊢;by_cases k2:x.kind=2
 ·rw[iP9 k2]at hz ⊢;unfold jK at hz;split at hz
  ·cases hz
  rename_i hc
  refine⟨h1,List.nodup_cons.2 ⟨λhm=>hc (List.count_pos_iff.2 hm),h2⟩,?_,al h4 (by omega),ab h5,ba _⟩;rw[hs,bH,iN9 k1,iP9 k2];simp[sw,h3]
 rw[iN9 k2]at hz ⊢;by_cases k3:x.kind=3
 ·rw[iP9 k3]at hz ⊢;refine⟨h1,h2,?_,al h4 (by omega),ab h5,by simpa [ow]using h6⟩;rw[hs,bH,iN9 k1,iN9 k2,iP9 k3,jM];exact h3
 rw[iN9 k3]at hz ⊢;by_cases k4:x.kind=4
 ·rw[iP9 k4]at hz ⊢;have:=x.x.vz;refine⟨h1,h2,?_,by show k.slots+x.x.o.slots<=_;omega,ab h5,ab h6⟩;rw[hs,bH,iN9 k1,iN9 k2,iN9 k3,iP9 k4,jM];exact h3
 ·rw[iN9 k4]at hz ⊢;refine⟨h1,h2,?_,al h4 (by omega),ab h5,ab h6⟩;rw[hs,bH,iN9 k1,iN9 k2,iN9 k3,iN9 k4];exact h3
theorem zo(o:OL)(x:dN):o.fs.length<=(bH o x).fs.length:=by
 unfold bH;split
 ·exact an _
 split
 ·simp
 split
 ·rw[jM];exact an _
 split
 ·rw[jM];exact an _
 ·exact an _
theorem G5:∀(ls:List dN) (o:OL),o.fs.length<=(ls.foldl bH o).fs.length
 |[],_=>an _
 |x::ls,o=>al (zo o x) (G5 ls (bH o x))
theorem qF(ls:List dN)(i:Nat):(ah (ls.take i)).fs.length<=(ah ls).fs.length:=by
 have h:=G5 (ls.drop i) (ah (ls.take i));have e:(ls.drop i).foldl bH (ah (ls.take i))=ah ls:=by unfold ah;rw[<-bO,List.take_append_drop]
 rwa [e]at h
theorem G6(ls:List dN)(i:Nat)(hi:i<ls.length)(h2:ls[i].kind=2):(ah (ls.take i)).fs.length<(ah ls).fs.length:=by have h:=qF ls (i+1);rw[fO ls i hi,bH,iN9 (by omega),iP9 h2]at h;simp at h;omega
def uh(w:tW)(p:Nat×Nat)(e:Ending)(w':tW):Prop:=e=.returned (.tuple #[.int .i64 p.1,.int .i64 p.2])/\aa ae w w'
theorem Kj(ls:List dN):(ah ls).fs.length<=ls.length:=by
 have:=(iJ ls ls.length (an _)).2
 rwa [List.take_length]at this
theorem zq(w l:tLB):∀(os:List dY) (k:Nat) (p:dH),readFrom w l k os=some p->p.k<k+os.length
 |[],k,p,h=>by simp[readFrom]at h
 |o::os,k,p,h=>by
  rw[readFrom]at h;have ih:=zq w l os (k+1) p;split at h
  ·split at h
   ·have:=ih h;simp;omega
   ·split at h
    ·injection h with h;subst h;simp
    ·have:=ih h;simp;omega
  ·have:=ih h;simp;omega
theorem Kk{l:tLB}{x:dN}(h:uU l=some x):x.kind=1:=by
 unfold uU at h;split at h
 ·simp only[bh]at h;obtain⟨a,_,b,_,c,_,h⟩:=h;split at h
  ·injection h with h;subst h;rfl
  ·cases h
 ·cases h
theorem Tw{t:tLB}{x:dN}(h:bT t=some x)(h4:x.kind=4):x.x.k<aq.length:=by
 unfold bT at h;simp only[bh]at h;obtain⟨l,_,h⟩:=h;split at h
 ·injection h with h;subst h;cases h4
 split at h
 ·split at h
  ·injection h with h;subst h;cases h4
  ·cases h
 split at h
 ·have:=Kk h;omega
 split at h
 ·split at h
  ·injection h with h;subst h;cases h4
  ·cases h
 ·rw[Option.map_eq_some_iff]at h;obtain⟨p,hp,rfl⟩:=h;have:=zq _ _ aq 0 p hp
  simpa using this
structure G7(lH:Bool)(ls:List dN):Prop where
 row:∀x∈ls,x.kind=4->x.x.k<aq.length
 inf:InF ls
 fn:lH=true->(ah ls).fs≠[]
theorem G8(ls:List dN)(x:dN):ah (ls++[x])=bH (ah ls) x:=by unfold ah;rw[bO];rfl
theorem ab8(o:OL)(x:dN)(h:o.fs≠[]\/x.kind=2):(bH o x).fs≠[]:=by
 rcases h with h|h
 ·have:=zo o x;intro e;rw[e]at this;have h0:o.fs.length=0:=Nat.le_zero.1 this;exact h (List.length_eq_zero_iff.1 h0)
 ·rw[bH,iN9 (by omega),iP9 h];simp
theorem G7.app{lH:Bool}{ls:List dN}{x:dN}(h:G7 lH ls)(hx:x.kind=4->x.x.k<aq.length)(hn:¬((lH||x.kind==2)=false/\(x.kind=3\/x.kind=4))):G7 (lH||x.kind==2) (ls++[x]):=by
 refine⟨λy hy h4=>?_,λk hk Ma=>?_,λhf=>?_⟩
 ·rcases List.mem_append.1 hy with h1|h1
  ·exact h.row y h1 h4
  ·have:y=x:=by simpa using h1
   subst this;exact hx h4
 ·rcases Nat.lt_or_ge k ls.length with e|e
  ·rw[List.getElem_append_left e]at Ma;rw[List.take_append_of_le_length (by omega)];exact h.inf k e Ma
  ·have hk':k=ls.length:=by simp at hk;omega
   subst hk';have ex:(ls++[x])[ls.length]'hk=x:=by simp
   rw[ex]at Ma;rw[List.take_left']
   ·apply h.fn;cases lH with
    |true=>rfl
    |false =>exfalso;refine hn ⟨?_,Ma⟩;simp;omega
   ·rfl
 ·rw[G8];refine ab8 _ _ ?_;cases lH with
  |true=>exact .inl (h.fn rfl)
  |false=>exact .inr (by simpa using hf)
theorem G9:∀(ts:List tLB) (lH:Bool) (n:Nat) (acc ls:List dN),parseP ts lH n acc=.inl ls->G7 lH acc->∃f,G7 f ls
 |[],lH,n,acc,ls,h,hk=>by rw[parseP]at h;injection h with h;subst h;exact⟨lH,hk⟩
 |t::ts,lH,n,acc,ls,h,hk=>by
  rw[parseP]at h;cases hl:bT t with
  |none=>rw[hl]at h;cases h
  |some x =>
   rw[hl]at h;simp only at h;split at h
   ·cases h
   ·rename_i hn
    exact G9 ts _ _ _ ls h (hk.app (Tw hl) hn)
theorem zt:∀(ts:List tLB) (lH:Bool) (n:Nat) (acc ls:List dN),parseP ts lH n acc=.inl ls->ls.length=acc.length+ts.length
 |[],lH,n,acc,ls,h=>by rw[parseP]at h;injection h with h;subst h;simp
 |t::ts,lH,n,acc,ls,h=>by
  rw[parseP]at h;cases hl:bT t with
  |none=>rw[hl]at h;cases h
  |some x =>
   rw[hl]at h;simp only at h;split at h
   ·cases h
   ·have:=zt ts _ _ _ ls h;simp at this ⊢;omega
theorem Pp{l:tLB}{ls:List dN}(h:parseP (linesP l) false 0 []=.inl ls):InF ls/\(∀x∈ls,x.kind=4->x.x.k<aq.length)/\ls.length<=l.length+1:=by obtain⟨f,hf⟩:=G9 _ _ _ _ _ h ⟨λx hx=>(by cases hx),λk hk=>absurd hk (Nat.not_lt_zero _),λe=>by cases e⟩;refine⟨hf.inf,hf.row,?_⟩;have h1:=zt _ _ _ _ _ h;have h2:=Dk l;simp at h1;omega
theorem aau(wO w0 w:tW)(b bm bM bF:Nat)(vF vL:Value)(lb:List Nat)(o:OL)(k:WK)(bs:List Nat)(x:dN)(hO:dL wO bm vF lb o w0)(h:gW w0 b bm vF bM bF vL k w)(hA:x.kind=4->∀W,aa ae w0 W->bY W (bs[x.x.k]?.getD 0) x.x.o)(hx2:2<=x.kind/\x.kind<=4) (hFn:k.funcs.Nodup) (Ma:x.kind=3\/x.kind=4->k.funcs≠[]) (h2:x.kind=2->k.funcs.length<o.fs.length) (hl:k.funcs.length<=o.fs.length) (hl2:o.fs.length<=1000001) (hs:k.slots<=2000002) (hm:k.maps.length<=1000001) (hlb:k.labels.length<=1000001):Calls prog 72 #[.pointer (some ⟨b,0,none⟩),.agg (x.cells bs)] w λe w'=>mY w0 b bm bM bF vF (fI k x) (dJ o k x) e w':=by
 obtain⟨vo,vc,jZ,_⟩:=hO.sl.view;have HC2:af (x.kind=2->∀w',gW w0 b bm vF bM bF vL k w'->Calls prog 145 #[.pointer (some ⟨b,0,none⟩),.agg (x.cells bs)] w' λe w''=>mY w0 b bm bM bF vF (fI k x) (dJ o k x) e w''):=λhx w' h'=>(Pj wO w0 w' b bm bM bF vF vL lb o k bs x hO h' hx (h2 hx) hl2 hFn).mono λe w'' hp=>⟨by rw[dJ,iN9 (by omega),iP9 hx];exact hp.1,by rw[fI,iN9 (by omega),iP9 hx];exact hp.2⟩
 have HC4:af (x.kind=4->∀w',gW w0 b bm vF bM bF vL k w'->Calls prog 146 #[.pointer (some ⟨b,0,none⟩),.agg (x.cells bs)] w' λe w''=>mY w0 b bm bM bF vF (fI k x) (dJ o k x) e w''):=λhx w' h'=>(Pn wO w0 w' b bm bM bF vF vL lb o k bs x hO h' hx (hA hx) (Ma (.inr hx)) hl hl2 hs).mono λe w'' hp=>⟨by rw[dJ,iN9 (by omega),iN9 (by omega),iN9 (by omega),iP9 hx];exact hp.1,vL,by rw[fI,iN9 (by omega),iN9 (by omega),iN9 (by omega),iP9 hx];exact hp.2⟩
 have Ph:af (x.kind=3->∀e w',e=.returned (.int .i64 (ug k x))->gW w0 b bm vF bM bF vL (ow k x) w'->mY w0 b bm bM bF vF (fI k x) (dJ o k x) e w'):=λhx e w' h1 h2=>⟨by rw[dJ,iN9 (by omega),iN9 (by omega),iP9 hx];exact h1,vL,by rw[fI,iN9 (by omega),iN9 (by omega),iP9 hx];exact h2⟩
 have FY:af (x.kind=3->∃bL,vL=.map (some bL)/\∀W,gW w0 b bm vF bM bF vL k W->ed W bL k.labels/\∀W',ed W' bL (x.name::k.labels)->aa (λi=>i=bL) W W'->gW w0 b bm vF bM bF vL (ow k x) W'):=λhx=>by obtain⟨bL,h1,_⟩:=h.ls (Ma (.inl hx));subst h1;refine⟨bL,rfl,λW hW=>⟨?_,λW' hc m=>hW.lab (Ma (.inl hx)) hc m⟩⟩;obtain⟨bL',h1,h2,_⟩:=hW.ls (Ma (.inl hx));injection h1 with h1;injection h1 with h1;subst h1;exact h2
 have nE:af ((x.cells bs).size=20):=gT bs x;have Xu:af ((x.cells bs)[0]?=some (.int .i64 x.kind)):=qB bs x;have O6:af (x.kind≠4->(x.cells bs)[1]?=some (.string (T x.name))):=qC bs x;have ZF:af ((x.cells bs).all (·.oneCell')=true):=cells_one bs x;have HLF:af (ug k x=if 0<k.labels.count x.name then 4 else 0):=rfl;have hcn:k.labels.count x.name<=1000001:=al bt hlb;have HWK:=ai h;subst jZ;obtain⟨vq,rfl⟩:=h.vl;clear h hO hA hFn Ma h2;have Rs:af (∀e w',mY w0 b bm bM bF (.slice vo o.fs.length vc) (fI k x) (dJ o k x) e w'->∃n:Nat,e=.returned (.int .i64 n)):=λe w' hp=>⟨_,hp.1⟩
 generalize mY w0 b bm bM bF (.slice vo o.fs.length vc) (fI k x) (dJ o k x)=RP at *;generalize ug k x=lf at *;generalize x.cells bs=cs at *;have Pk:af (aa ae w (w.alloc (.cells cs 160))):=aj;have HB1:af (ak (w.alloc (.cells cs 160)) w.heap.size cs 160):=ak.new w _ _;have HW1:=ai (HWK.o.quiet Pk.o);go_enter func72,ntmps72;go_upto_region 1 with fail;generalize w.alloc (.cells cs 160)=w1 at *;generalize w.heap.size=B at *;have c0:w1.cell? ⟨B,0,none⟩=some (.int .i64 x.kind):=(HB1.o.cell 0).trans Xu.o;have hcase:x.kind=2\/x.kind=3\/x.kind=4:=by omega
 rcases hcase with hx|hx|hx
 ·have q1:((x.kind:Int)==1)=false:=by rw[hx];rfl
  have q2:((x.kind:Int)==2)=true:=by rw[hx];rfl
  have HC:=HC2.o hx;clear hx;go_wp2_with (refine wpList_load_row rfl 160 (.tmp 3) rfl B rfl 160 cs (0,0) _ HB1.o underlying160 rfl (by rw[nE.o];kernel_rfl) ?_);refine(HC _ HW1.o).mono ?_;intro e w2 hp;obtain⟨n,rfl⟩:=Rs.o e w2 hp;have HP:=ai hp;clear hp;go_wp2_with fail;exact HP.o
 ·have q1:((x.kind:Int)==1)=false:=by rw[hx];rfl
  have q2:((x.kind:Int)==2)=false:=by rw[hx];rfl
  have q3:((x.kind:Int)==3)=true:=by rw[hx];rfl
  have HC:=ai (Ph.o hx);obtain⟨bL,hbL,hLL⟩:=FY.o hx;injection hbL with hbL;subst hbL;have HL:=ai hLL;have HN:=ai (O6.o (by omega));clear hx hLL;go_upto_region 7 with fail;have eZ:af (aa ae w1 w1.drew):=aJ;refine bJ 8 (by kernel_rfl) (by kernel_rfl) ?_;intro W hW;rw[<-hW]at eZ;clear hW c0;have HW2:=ai (HW1.o.quiet eZ.o);have HB2:=ai (HB1.o.ag eZ.o id);have c1:W.cell? ⟨B,1,none⟩=some (.string (T x.name)):=(HB2.o.cell 1).trans HN.o;have b4:W.cell? ⟨b,4,none⟩=some (.map (some bL)):=HW2.o.blk.cell 4;obtain⟨hcL,hst⟩:=HL.o W HW2.o;have hlk:=hcL.look x.name;obtain⟨w5,hup,hc5,m5⟩:=hcL.put x.name;have vw:af (gW w0 b bm (.slice vo o.fs.length vc) bM bF (.map (some bL)) (ow k x) w5):=hst w5 hc5 m5;have iT:af (ak w5 B cs 160):=HB2.o.ag m5 (λe=>hcL.au HB2.o e);have HC5:=ai hc5;have HLC:af ((x.name::k.labels).count x.name=k.labels.count x.name+1):=bq ..;clear hc5 m5 hst hcL;generalize k.labels.count x.name=cn at *;simp only[ao,aE,ar,bj]
  repeat(go_big_quiet_step (fail))
  refine wpQuiet_nil ?_;clear hlk c1 b4 HW2 HB2 eZ;go_upto_region 8 with fail;have eZ:af (aa ae w5 w5.drew):=aJ;refine l9 (by kernel_rfl) (by kernel_rfl) ?_;intro W7 hW7;rw[<-hW7]at eZ;clear hW7 hup;have xq:=ai (vw.o.quiet eZ.o);have c1:W7.cell? ⟨B,1,none⟩=some (.string (T x.name)):=((iT.o.ag eZ.o id).cell 1).trans HN.o;have b4:W7.cell? ⟨b,4,none⟩=some (.map (some bL)):=xq.o.blk.cell 4;have hlk:=(HC5.o.ag eZ.o id).look x.name;rw[HLC.o]at hlk;clear eZ vw iT HC5;by_cases h0:0<cn
  ·have HR:af (lf=4):=by rw[af,HLF.o,iP9 h0]
   have hq:((1:Int)<((cn+1:Nat):Int)):=by omega
   repeat(go_big_quiet_step (fail))
   refine wpQuiet_nil ?_;go_wp2_with fail;exact HC.o _ _ (dB (by rw[HR.o];rfl)) xq.o
  ·have hc0:cn=0:=by omega
   subst hc0;have HR:af (lf=0):=by rw[af,HLF.o,iN9 h0]
   repeat(go_big_quiet_step (fail))
   refine wpQuiet_nil ?_;go_wp2_with fail;exact HC.o _ _ (dB (by rw[HR.o];rfl)) xq.o
 ·have q1:((x.kind:Int)==1)=false:=by rw[hx];rfl
  have q2:((x.kind:Int)==2)=false:=by rw[hx];rfl
  have q3:((x.kind:Int)==3)=false:=by rw[hx];rfl
  have q4:((x.kind:Int)==4)=true:=by rw[hx];rfl
  have HC:=HC4.o hx;clear hx;go_wp2_with (refine wpList_load_row rfl 160 (.tmp 3) rfl B rfl 160 cs (0,0) _ HB1.o underlying160 rfl (by rw[nE.o];kernel_rfl) ?_);refine(HC _ HW1.o).mono ?_;intro e w2 hp;obtain⟨n,rfl⟩:=Rs.o e w2 hp;have HP:=ai hp;clear hp;go_wp2_with fail;exact HP.o
theorem Tx(wT wL wO w:tW)(v vL vF:Value)(bm:Nat)(lb bs:List Nat)(ls:List dN)(hT:aH 0 wT v bs aq)(m:aa ae wT w)(hL:fG wL vL bs ls w)(hO:dL wO bm vF lb (ah ls) w)(hin:InF ls)(hk4:∀x∈ls,x.kind=4->x.x.k<aq.length)(hnl:ls.length<=1000001)(hkk:∀x∈ls,2<=x.kind/\x.kind<=4)(h0:(firstP (ah ls) ls {} 0).1=0):Calls prog 43 #[vL,.agg #[.map (some bm),vF]] w λe w'=>uh w (firstP (ah ls) ls {} 0) e w':=by
 have zK:af (∀w',aa ae w w'->∀x∈ls,x.kind=4->bY w' (bs[x.x.k]?.getD 0) x.x.o):=λw' m' x hx h4=>by
  have h1:=hk4 x hx h4;have h2:x.x.k<bs.length:=by rw[hT.len];exact h1
  have:=(hT.ag (m.trans m')).at' x.x.k h2 h1;rw[List.getElem?_eq_getElem h2];unfold dH.o;rw[List.getElem?_eq_getElem h1];exact this
 have VY:=ai hL;have hol:=al (Kj ls) hnl
 have Pq:af (∀i (hi:i<ls.length) (b bM bF:Nat) (vl:Value) (k:WK) (w':tW),EX ls i k->gW w b bm vF bM bF vl k w'->Calls prog 72 #[.pointer (some ⟨b,0,none⟩),.agg (ls[i].cells bs)] w' λe w''=>mY w b bm bM bF vF (fI k ls[i]) (dJ (ah ls) k ls[i]) e w''):=λi hi b bM bF vl k w' hk hw=>by
  have hm:=qF ls i;refine aau wO w w' b bm bM bF vF vl lb (ah ls) k bs ls[i] hO hw (λh4 W hW=>zK.o W hW _ (b5 hi) h4) (hkk _ (b5 hi)) hk.f (λMa=>?_) (λh2=>?_) (by rw[hk.n];exact hm) hol ?_ ?_ ?_
  ·have:=hin i hi Ma;intro e;have hn:=hk.n;rw[e]at hn;exact this (List.length_eq_zero_iff.1 hn.symm)
  ·rw[hk.n];exact G6 ls i hi h2
  ·have:=hk.s;omega
  ·have:=hk.ml;omega
  ·have:=hk.ll;omega
 have HDR:af (∀i (h:i<ls.length) k n,firstP (ah ls) (ls.drop i) k n=if dJ (ah ls) k ls[i]=0 then firstP (ah ls) (ls.drop (i+1)) (fI k ls[i]) (n+1)else(dJ (ah ls) k ls[i],n+1)):=λi h k n=>GZ _ ls i h k n;have FP:af (∀e w',e=.returned (.tuple #[.int .i64 (firstP (ah ls) ls {} 0).1,.int .i64 (firstP (ah ls) ls {} 0).2])->aa ae w w'->uh w (firstP (ah ls) ls {} 0) e w'):=λe w' h1 h2=>⟨h1,h2⟩
 obtain⟨oL,cL,rfl,_⟩:=hL.sl.view;obtain⟨oF,cF,jZ,_⟩:=hO.sl.view;have uH:af (EX ls 0 {}):=⟨List.nodup_nil,List.nodup_nil,by rw[aE];rfl,ba _,ba _,ba _⟩
 have HST:af (∀i k (hi:i<ls.length),EX ls i k->dJ (ah ls) k ls[i]=0->EX ls (i+1) (fI k ls[i])):=λi k hi h hz=>h.step (ah ls) hi hz;have hmm:=@run_makeMap prog;generalize uh w (firstP (ah ls) ls {} 0)=RP at *;have Xl:af (firstP (ah ls) (ls.drop 0) {} 0=firstP (ah ls) ls {} 0):=rfl;have HZ:=ai h0;clear h0;generalize firstP (ah ls) ls {} 0=pr at *;clear hT m hL hO hin hk4 hkk;subst jZ;generalize ah ls=o at *
 have HW0:af (gW w (w.heap.size+1+1+1) bm (.slice oF o.fs.length cF) (w.heap.size+1) (w.heap.size+1+1) (.map none) {} ((((w.alloc (.cells #[.map (some bm),.slice oF o.fs.length cF] 108)).alloc (.map #[] 0)).alloc (.map #[] 0)).alloc (.cells #[.map (some bm),.slice oF o.fs.length cF,.map (some (w.heap.size+1)),.map (some (w.heap.size+1+1)),.map none,.int .i64 (-1),.int .i64 0] 168))):=by
  have e1:(w.alloc (.cells #[.map (some bm),.slice oF o.fs.length cF] 108)).heap.size=w.heap.size+1:=by simp
  have e2:((w.alloc (.cells #[.map (some bm),.slice oF o.fs.length cF] 108)).alloc (.map #[] 0)).heap.size=w.heap.size+1+1:=by simp
  have e3:(((w.alloc (.cells #[.map (some bm),.slice oF o.fs.length cF] 108)).alloc (.map #[] 0)).alloc (.map #[] 0)).heap.size=w.heap.size+1+1+1:=by simp
  have m1:=ed.new (w.alloc (.cells #[.map (some bm),.slice oF o.fs.length cF] 108));have m2:=ed.new ((w.alloc (.cells #[.map (some bm),.slice oF o.fs.length cF] 108)).alloc (.map #[] 0));rw[e1]at m1;rw[e2]at m2;have hb:=ak.new (((w.alloc (.cells #[.map (some bm),.slice oF o.fs.length cF] 108)).alloc (.map #[] 0)).alloc (.map #[] 0)) #[.map (some bm),.slice oF o.fs.length cF,.map (some (w.heap.size+1)),.map (some (w.heap.size+1+1)),.map none,.int .i64 (-1),.int .i64 0] 168;rw[e3]at hb;refine⟨hb,(m1.ag ((aa.refl ae _).alloc _) id).ag ((aa.refl ae _).alloc _) id,m2.ag ((aa.refl ae _).alloc _) id,⟨_,rfl⟩,λh=>absurd rfl h,by omega,by omega,((aj.alloc _).alloc _).alloc _⟩
 go_enter func43,ntmps43;go_upto_region 1 with fail;go_wp2_with fail;generalize((((w.alloc (.cells #[.map (some bm),.slice oF o.fs.length cF] 108)).alloc (.map #[] 0)).alloc (.map #[] 0)).alloc (.cells #[.map (some bm),.slice oF o.fs.length cF,.map (some (w.heap.size+1)),.map (some (w.heap.size+1+1)),.map none,.int .i64 (-1),.int .i64 0] 168))=w4 at *;generalize w.heap.size+1+1+1=b at *;generalize w.heap.size+1+1=bF at *;generalize w.heap.size+1=bM at *;go_loopg [16] ls.length (λq v16 wx=>∃(i:Nat) (k:WK) (vl:Value),i<=ls.length/\v16=.int .i64 i/\gW w b bm (.slice oF o.fs.length cF) bM bF vl k wx/\EX ls i k/\firstP o (ls.drop i) k i=pr/\q=ls.length-i)
 case atStart=>exact⟨0,_,_,ba _,rfl,HW0.o,uH.o,Xl.o,rfl⟩
 case round =>
  obtain⟨i,k,vl,hi,rfl,hA,hok,hpr,rfl⟩:=hrel;have HA:=ai hA;have HK:=ai hok;have HP:=ai hpr;clear hA hok hpr HW0 uH Xl;by_cases hlt:i<ls.length
  ·obtain⟨g,cL',hv,hcl,hrow⟩:=VY.o.row i hlt;injection hv with hv1 hv2 hv3;subst hv1;have HRW:=hrow wr HA.o.md;have HD:af (pr=if dJ o k ls[i]=0 then firstP o (ls.drop (i+1)) (fI k ls[i]) (i+1)else(dJ o k ls[i],i+1)):=by rw[af,<-HP.o];exact HDR.o i hlt k i
   have HS:af (dJ o k ls[i]=0->EX ls (i+1) (fI k ls[i])):=λhz=>HST.o i k hlt HK.o hz;have HF:af (∀w',gW w b bm (.slice oF o.fs.length cF) bM bF vl k w'->Calls prog 72 #[.pointer (some ⟨b,0,none⟩),.agg (ls[i].cells bs)] w' λe w''=>mY w b bm bM bF (.slice oF o.fs.length cF) (fI k ls[i]) (dJ o k ls[i]) e w''):=λw' hw=>Pq.o i hlt b bM bF vl k w' HK.o hw;clear hrow hv3 Pq zK HDR HST HP HK;generalize dJ o k ls[i]=r at *;generalize fI k ls[i]=k' at *;generalize ls[i]=x at *;have nE:af ((x.cells bs).size=20):=gT bs x;have GM:af ((x.cells bs).all (·.oneCell')=true):=cells_one bs x;have HB2:af (ak (wr.alloc (.cells (xg 0 ⟨#[]⟩ aT aT aT) 160)) wr.heap.size (xg 0 ⟨#[]⟩ aT aT aT) 160):=ak.new wr _ _;generalize x.cells bs=cs at *;go_upto_region 5 with(first |(refine dO rfl 160 (.tmp 19) rfl g (i*20) rfl cs _ HRW underlying160 rfl (by rw[nE.o];kernel_rfl) ?_) |(refine fw rfl 160 (.tmp 8) (.tmp 20) rfl wr.heap.size cs rfl rfl 160 _ HB2.o (by rw[nE.o];kernel_rfl) (by rw[nE.o];rfl) GM.o ?_;intro W3 hB3 uy))
   have kG:=ai (HA.o.quiet uy.fresh);have HB3:=ai hB3;clear HA HB2 HRW uy hB3;generalize wr.heap.size=B at *;go_wp2_with (refine wpList_load_row rfl 160 (.tmp 8) rfl B rfl 160 cs (0,0) _ HB3.o underlying160 rfl (by rw[nE.o];kernel_rfl) ?_);refine(HF.o _ kG.o).mono ?_;rintro e w5 ⟨rfl,vl',hw5⟩;have vw:=ai hw5;clear hw5 kG HF HB3;by_cases hr:r=0
   ·have HS2:=ai (HS.o hr);clear HS;subst hr;have kD:af (firstP o (ls.drop (i+1)) k' (i+1)=pr):=by rw[af,HD.o,iP9 rfl]
    go_wp2_with fail;go_roundg (ls.length-(i+1))
    case measure=>omega
    case rel=>exact⟨i+1,k',vl',by omega,by go_num,vw.o,HS2.o,kD.o,rfl⟩
   ·exfalso;have h1:=HZ.o;rw[HD.o,iN9 hr]at h1;exact hr h1
  ·have kD:af (pr=(0,0)):=by rw[af,<-HP.o,List.drop_eq_nil_of_le (by omega)];rfl
   go_wp2_with fail;refine FP.o _ _ ?_ HA.o.md;rw[kD.o];rfl
