import Derived.Deep.OwnRows
import Derived.Lib.AppendZerosOnto
import Derived.Test.YtekmhcbefnmflaaGreatDoorCL14
import Derived.Test.YtekmhcbefnmflaaGreatDoorCL24
namespace Go.Proofs.YtekmhcbefnmflaaGreatDoor
open Go.RowKit Tryz
open Bool renaming false->eE,true->eJ
open Ending renaming returned->fR
open List renaming length->ee
open Obj renaming cells->eR
open Option renaming none->ez,some->eC
open Value renaming string->eI,bool->fS,slice->eK,tuple->gb,agg->fW
open _root_.Go renaming TypeId->gh,Value->eM,Calls->fL,undef->kh,bodyPost_ret->iz
set_option linter.all false
set_option maxRecDepth 100000
set_option maxHeartbeats 2000000
def nZ(n:Int):List Int:=[n%256,n/256%256]
def qh(n:Int):List Int:=[n%256,n/256%256,n/65536%256,n/16777216%256]
theorem ak.apart{w:tW}{a b:Nat}{cs ds:tAV}{t u:gh}(h:ak w a cs t)(k:ak w b ds u)(ht:t≠u):a≠b:=by rintro rfl;have e:=(show w.heap[a]?=_ from h).symm.trans k;injection e with e;injection e with e1 e2 e3;exact ht e2


theorem ak.dC{w:tW}{g:Nat}{cs ds:tAV}{t:gh}(h:ak w g cs t):ak (w.setRow g ds) g ds t:=setRow_heap w g cs ds t (0,0) h
theorem aa.dC{S:Nat->Prop}{w w':tW}{g:Nat}{ds:tAV}(h:aa S w w')(hg:S g\/w.heap.size<=g):aa S w (w'.setRow g ds) :=
 ⟨h.os,h.tape,h.output,by have:=h.size;rw[size_setRow];exact this,λk hk hs=>by rw[setRow_other _ _ _ _ (by rintro rfl;rcases hg with hg|hg;exact hs hg;omega)];exact h.block k hk hs⟩


theorem contains_eq(ws:List tLB)(x:tLB):Lib.containsS (ws.map T) (T x)=ws.contains x:=by
 rw[Bool.eq_iff_iff,Lib.containsS_iff,List.contains_iff_mem,List.mem_map];constructor
 ·rintro⟨a,ha,e⟩;rw[<-px e];exact ha
 ·intro h;exact⟨x,h,rfl⟩
theorem wK(ws:List tLB)(x:tLB)(v:eM)(w:tW)(h:Sl w 9 1 v (ee ws) (ws.map (λt=>eI (T t))))(hn:0<ee ws)(hl:ee ws<=1000):fL prog 191 #[v,eI (T x)] w λe w'=>e=fR (fS (ws.contains x))/\w'=w:=by
 obtain⟨o,c,rfl,h2⟩:=h.view;obtain⟨g,cs,rfl,hb,ht,_,_⟩:=h2 hn
 have:=Any.slices_Contains_string lk g 0 (ee ws) c (ws.map T) (T x) w (by simp) (by omega) (λj hj=>by
  have hj':j<ee ws:=by simpa using hj
  rw[Nat.zero_add,aX hb ht j (by omega)];simp[hj'])
 rw[List.take_of_length_le (by simp),contains_eq]at this;exact this
theorem EW(o:dX):0<ee o.words/\o.words.length<=2:=by unfold dX.words;split<;>simp
theorem eu.abx{w:tW}{b:Nat}{o:dX}(h:eu w b o)(x:tLB):∃v1:eM,(∃a n c,v1=eK a n c)/\(∀w',aa ah w w'->w'.cell? ⟨b,1,ez⟩=eC v1)/\∀w',aa ah w w'->fL prog 191 #[v1,eI (T x)] w' λe w''=>e=fR (fS (o.words.contains x))/\w''=w':=by obtain⟨o1,n1,c1,f6,c6,k7,c7,k8,c8,f9,c9,hblk,GG⟩:=h.ex;have hw:=EW o;exact⟨_,⟨_,_,_,rfl⟩,λw' m=>(hblk.ae m id).cell 1,λw' m=>wK _ x _ w' (GG.ws.ae m (λ_ _=>id)) hw.1 (by omega)⟩
theorem Jc{w:tW}{v:eM}{bs:tLN}{os:List dX}(h:aT 0 w v bs os):∃o c,v=eK o (ee os) c/\∀k (hk:k<ee os),∃g,o=eC ⟨g,0,ez⟩/\∀w',aa ah w w'->w'.cell? ⟨g,k,ez⟩=eC (vP (bs[k]?.getD 0)):=by
 obtain⟨o,c,hv,h2⟩:=h.sl.view;rw[h.len]at hv;refine⟨o,c,hv,λk hk=>?_⟩;have hkb:k<ee bs:=by rw[h.len];exact hk
 obtain⟨g,cs,ho,hb,ht,_,_⟩:=h2 (by omega);refine⟨g,ho,λw' m=>?_⟩;rw[aX (hb.ae m id) ht k (by omega),List.getElem?_map,List.getElem?_eq_getElem hkb];rfl
theorem Vs{w:tW}{v:eM}{bs:tLN}{os:List dX}(h:aT 0 w v bs os)(k:Nat)(hk:k<ee os):eu w (bs[k]?.getD 0) os[k]:=by
 have hkb:k<ee bs:=by rw[h.len];exact hk
 have:=h.at' k hkb hk;rw[List.getElem?_eq_getElem hkb];exact this
theorem LH(wT w:tW)(v:eM)(bs:tLN)(x:tLB)(hO:aT 0 wT v bs ax)(m:aa ah wT w):fL prog 189 #[v,eI (T x)] w λe w'=>e=fR (fS (l8 x))/\w'=w:=by
 have N0:=hO.ae m;obtain⟨o,c,rfl,hcell⟩:=Jc N0;have HAT:=ai (λk hk=>Vs N0 k hk);have HB:af (∀k,(∀j (hj:j<k) (h:j<ee ax),ax[j].words.contains x=eE)->ee ax<=k->l8 x=eE):=λk h1 h2=>by unfold l8;rw[List.any_eq_false];intro y hy;obtain⟨j,hj,rfl⟩:=List.getElem_of_mem hy;rw[h1 j (by omega) hj];simp
 have HB1:af (∀k (h:k<ee ax),ax[k].words.contains x=eJ->l8 x=eJ):=λk h h1=>by unfold l8;rw[List.any_eq_true];exact⟨_,List.getElem_mem h,h1⟩
 have ac1:ee ax<=1000:=by rw[eZ];omega
 have HC:=ai hcell;clear hO N0 m hcell;generalize l8 x=bx at *;generalize ax=os at *;go_in;go_wp2_with fail;go_loop [9] (λv=>∃k:Nat,k<=ee os/\v=vI k/\∀j (hj:j<k) (h:j<ee os),os[j].words.contains x=eE) (λv=>ee os-(intOf v).toNat)
 case atStart=>exact⟨0,Nat.zero_le _,rfl,λj hj=>absurd hj (Nat.not_lt_zero _)⟩
 case round =>
  obtain⟨k,hk,rfl,hj⟩:=hrel;have HJ:=ai hj;clear hj;by_cases hlt:k<ee os
  ·obtain⟨g,rfl,hg⟩:=HC.o k hlt;have q0:=hg w aA;obtain⟨v1,⟨va,vn,vc,rfl⟩,hv1,hct⟩:=(HAT.o k hlt).abx x;have q1:=hv1 w aA;have XY:=ai (hct w aA);clear hg hv1 hct HC;cases hc:os[k].words.contains x with
   |true =>have HX:=ai (HB1.o k hlt hc);go_wp2_with fail;refine XY.o.mono ?_;rintro e w1 ⟨rfl,rfl⟩;rw[hc];go_wp2_with fail;go_ret;rw[HX.o];exact⟨rfl,rfl⟩
   |false =>
    have HJ2:af (∀j (hj:j<k+1) (h:j<ee os),os[j].words.contains x=eE):=λj hj h=>by
     rcases Nat.lt_or_ge j k with e|e
     ·exact HJ.o j e h
     ·have:j=k:=by omega
      subst this;exact hc
    go_wp2_with fail;refine XY.o.mono ?_;rintro e w1 ⟨rfl,rfl⟩;rw[hc];go_wp2_with fail;go_round
    case rel=>exact⟨k+1,by omega,by go_num,HJ2.o⟩
    case measure=>simp[intOf];omega
  ·have HX:=ai (HB.o k HJ.o (by omega));go_wp2_with fail;go_ret;rw[HX.o];exact⟨rfl,rfl⟩
theorem ko{P:Program}{fn:Func}{p u1 u2:Tmp}{ty:gh}(h:fn.results=#[.cell p ty,.tmp u1,.tmp u2])(tmps:tAV)(w:tW)(g:Nat)(t:gh)(cs:tAV)(fr:Nat×Nat)(d:TypeDesc)(v1 v2:eM)(hp:tmps.getD p kh=vP g) (hv1:tmps.getD u1 kh=v1) (hv2:tmps.getD u2 kh=v2) (hg:w.heap[g]?=eC (eR cs t fr))(hu:P.underlying ty=eC d) (hd:(match d with|.struct _|.array _ _=>eJ|_=>eE)=eJ) (hi:(P.info? ty).map (·.size)=eC cs.size):(results fn tmps).run P w=.ok (gb #[fW cs,v1,v2]) w:=by
 have hp':tmps[p]?.getD kh=vP g:=by simpa using hp
 have h1':tmps[u1]?.getD kh=v1:=by simpa using hv1
 have h2':tmps[u2]?.getD kh=v2:=by simpa using hv2
 simp only[results,h];simp[hp',h1',h2',asAddr,run_loadVar_row w g t ty cs fr d hg hu hd hi]
structure dA.sU(r:dA):Prop where
 d:r.d<=15
 s:r.s<=15
 j0:-32768<=r.jump
 j1:r.jump<=32767
 n0:-2147483648<=r.num
 n1:r.num<=2147483647
 h0:-2147483648<=r.high
 h1:r.high<=2147483647
 l:ee r.label<=100
 m:ee r.name<=300
theorem xJ{l:tLB}(h:nameB l=eJ):ee l<=16:=by unfold nameB at h;simp only[Bool.and_eq_true,decide_eq_true_eq]at h;exact h.1.1
theorem Jd{w:tLB}{n:Nat}(h:dz w=eC n):n<=10:=by unfold dz at h;have h2:=List.mem_of_find?_eq_some h;simp at h2;omega
theorem EX(v:Nat):-2147483648<=xq v/\xq v<=2147483647:=by unfold xq;omega
theorem Vt(p:PK)(r r':dA)(h:p.read r=eC r')(hf:r.sU):r'.sU:=by
 obtain⟨fd,fs,Vu,Vv,fn0,XZ,TA,TB,fl,fm⟩:=hf
 have hm:∀c:UInt8,r.mark c=eC r'->r'.sU:=λc h=>by
  unfold dA.mark at h;split at h
  ·cases h;exact⟨fd,fs,Vu,Vv,fn0,XZ,TA,TB,fl,fm⟩
  ·cases h
 have hd:r.BV=eC r'->r'.sU:=λh=>by unfold dA.BV at h;obtain⟨v,hv,rfl⟩:=Option.map_eq_some_iff.1 h;exact⟨by have:=Jd hv;show v<=15;omega,fs,Vu,Vv,fn0,XZ,TA,TB,fl,fm⟩
 have hs:r.Ef=eC r'->r'.sU:=λh=>by unfold dA.Ef at h;obtain⟨v,hv,rfl⟩:=Option.map_eq_some_iff.1 h;exact⟨fd,by have:=Jd hv;show v<=15;omega,Vu,Vv,fn0,XZ,TA,TB,fl,fm⟩
 have hn:r.number=eC r'->r'.sU:=λh=>by unfold dA.number at h;obtain⟨v,hv,rfl⟩:=Option.map_eq_some_iff.1 h;have:=mK v.1 2147483648 (by omega);exact⟨fd,fs,Vu,Vv,this.1,by have:=this.2;show(v.1.dL 2147483648).getD 0<=2147483647;omega,TA,TB,fl,fm⟩
 have hl:r.lab=eC r'->r'.sU:=λh=>by
  unfold dA.lab at h;split at h
  ·rename_i hb
   cases h;exact⟨fd,fs,Vu,Vv,fn0,XZ,TA,TB,by have:=xJ hb;show(aQ r.rest).1.length<=100;omega,fm⟩
  ·cases h
 have ho:r.off=eC r'->r'.sU:=λh=>by
  unfold dA.off at h;split at h
  ·obtain⟨v,hv,rfl⟩:=Option.map_eq_some_iff.1 h;have:=mK ⟨v,eJ⟩ 32768 (by omega);exact⟨fd,fs,this.1,by have:=this.2;show((bE.mk v eJ).dL 32768).getD 0<=32767;omega,fn0,XZ,TA,TB,fl,fm⟩
  ·split at h
   ·obtain⟨v,hv,rfl⟩:=Option.map_eq_some_iff.1 h;have:=mK ⟨v,eE⟩ 32768 (by omega);exact⟨fd,fs,this.1,by have:=this.2;show((bE.mk v eE).dL 32768).getD 0<=32767;omega,fn0,XZ,TA,TB,fl,fm⟩
   ·cases h;exact⟨fd,fs,Vu,Vv,fn0,XZ,TA,TB,fl,fm⟩
 have hwd:r.wide=eC r'->r'.sU:=λh=>by
  unfold dA.wide at h;split at h
  ·split at h
   ·rename_i hb
    cases h;exact⟨fd,by show 1<=15;omega,Vu,Vv,fn0,XZ,TA,TB,fl,by have:=xJ hb;show(aQ (aQ r.rest).2).1.length<=300;omega⟩
   ·cases h
  ·obtain⟨v,hv,rfl⟩:=Option.map_eq_some_iff.1 h;have h1:=EX (v.1.gH.getD 0);have h2:=EX (v.1.gH.getD 0/4294967296);exact⟨fd,fs,Vu,Vv,h1.1,h1.2,h2.1,h2.2,fl,fm⟩
 unfold PK.read at h;split at h
 ·exact hm _ h
 ·exact hm _ h
 ·exact hm _ h
 ·exact hd h
 ·exact hd h
 ·exact hs h
 ·exact hn h
 ·exact hl h
 ·exact ho h
 ·exact hwd h
 ·cases h
theorem CG:∀(ps:List PK) (r r':dA),readPs ps r=eC r'->r.sU->r'.sU
 |[],r,r',h,hf=>by cases h;exact hf
 |p::ps,r,r',h,hf=>by obtain⟨r1,h1,h2⟩:=Option.bind_eq_some_iff.1 (show(p.read r).bind (readPs ps)=eC r' from h);exact CG ps r1 r' h2 (Vt p r r1 h1 hf)
theorem Vw(r r':dA)(h:r.call=eC r')(hf:r.sU):r'.sU:=by
 obtain⟨fd,fs,Vu,Vv,fn0,XZ,TA,TB,fl,fm⟩:=hf;unfold dA.call at h;split at h
 ·split at h
  ·rename_i hb
   cases h;exact⟨fd,by show 1<=15;omega,Vu,Vv,fn0,XZ,TA,TB,fl,by have:=xJ hb;show(aQ r.rest).1.length<=300;omega⟩
  ·cases h
 ·obtain⟨v,hv,rfl⟩:=Option.map_eq_some_iff.1 h;rw[List.findIdx?_eq_some_iff_getElem]at hv;obtain⟨hv,_⟩:=hv;have hv':v<4:=hv;exact⟨fd,fs,Vu,Vv,by show -2147483648<=((1+v:Nat):Int);omega,by show((1+v:Nat):Int)<=2147483647;omega,TA,TB,fl,fm⟩
theorem QY(o:dX)(r r':dA)(h:o.read r=eC r')(hf:r.sU):r'.sU:=by
 unfold dX.read at h;split at h
 ·exact Vw r r' h hf
 ·exact CG _ r r' h hf
def CJ(x l:tLB):dA:=⟨x,l,0,0,0,0,0,[],[],eE⟩
theorem Vx(x l:tLB):(CJ x l).sU:=by constructor<;>simp[CJ]
def fG.cells(bs:tLN)(x:fG):tAV:=#[vP (bs[x.k]?.getD 0),vB x.r.d,vB x.r.s,.int .i16 x.r.jump,vJ x.r.num,vJ x.r.high,eI (T x.r.label),eI (T x.r.name)]
def yT:tAV:=#[vO,vB 0,vB 0,.int .i16 0,vJ 0,vJ 0,eI ⟨#[]⟩,eI ⟨#[]⟩]
def uL(w:tW)(bs:tLN)(o:Option fG)(e:Ending)(w':tW):Prop :=
 aa ah w w'/\e=fR (match o with|none=>gb #[fW yT,fS eE,fS eE]|some x=>gb #[fW (x.cells bs),fS x.fits,fS eJ])
theorem QZ(o:dX)(x y:dQ)(h:x.d=y.d/\x.s=y.s/\x.jump=y.jump/\x.num=y.num/\x.high=y.high):o.needs x=o.needs y:=by
 obtain⟨h1,h2,h3,h4,h5⟩:=h;have hr:PK.right x=PK.right y:=by funext p;unfold PK.right;rw[h1,h2,h5]
 unfold dX.needs cK;rw[hr,h1,h2,h3,h4]
def zW(o:dX)(x l:tLB)(k:Nat):Option fG :=
 if o.words.contains x then(match o.read (CJ x l)with|none=>ez|some r=>if aC r.rest=[]then eC ⟨k,{r with rest:=[]}⟩else ez)else ez
theorem Ej(x l:tLB)(k:Nat)(hk:k<ee ax):readFrom x l k (ax.drop k)=match zW ax[k] x l k with|some y=>eC y|none=>readFrom x l (k+1) (ax.drop (k+1)):=by
 rw[List.drop_eq_getElem_cons hk,readFrom];unfold zW CJ;by_cases h1:ax[k].words.contains x=eJ
 ·rw[iP9 h1,iP9 h1];cases ax[k].read ⟨x,l,0,0,0,0,0,[],[],eE⟩with
  |none=>rfl
  |some r =>
   dsimp only;by_cases h2:aC r.rest=[]
   ·rw[iP9 h2,iP9 h2]
   ·rw[iN9 h2,iN9 h2]
 ·rw[iN9 h1,iN9 h1]
structure Zt(wT:tW)(b:Nat)(o:dX)(x l:tLB)(va:Option Addr)(vn vc:Nat)(k6:FuncId)(c6:tAV)(k8:FuncId)(c8:tAV):Prop where
 c1:∀w,aa ah wT w->w.cell? ⟨b,1,ez⟩=eC (eK va vn vc)
 c6':∀w,aa ah wT w->w.cell? ⟨b,6,ez⟩=eC (.func (.func k6) #[] c6)
 c8':∀w,aa ah wT w->w.cell? ⟨b,8,ez⟩=eC (.func (.func k8) #[] c8)
 ct:∀w,aa ah wT w->fL prog 191 #[eK va vn vc,eI (T x)] w λe w'=>e=fR (fS (o.words.contains x))/\w'=w
 e6:ym k6
 e8:ym k8
 rd:∀w b',aa ah wT w->wT.heap.size<=b'->(∀w'',aa (Only b') w w''->Env w'')->ak w b' ((CJ x l).cells (vP b)) 297->ee l<=1000000->fL prog k6 (#[vP (b')]++c6) w λe w''=>bO w b' (vP b) (o.read (CJ x l)) e w''
 nd:∀w (y:dQ),aa ah wT w->y.Fit->fL prog k8 (#[fW y.cells]++c8) w λe w''=>e=fR (fS (o.needs y))/\aa ah w w''
theorem eu.does{wT:tW}{b:Nat}{o:dX}(h:eu wT b o)(x l:tLB):∃va vn vc k6 c6 k8 c8,Zt wT b o x l va vn vc k6 c6 k8 c8:=by
 obtain⟨o1,n1,c1,f6,c6,k7,c7,k8,c8,f9,c9,hblk,GG⟩:=h.ex;have hw:=EW o;obtain⟨k6,hf6,hen,Tt⟩:=GG.rd.ex;subst hf6
 exact⟨o1,n1,c1,k6,c6,k8,c8,{
  c1:=λw m=>(hblk.ae m id).cell 1
  c6':=λw m=>(hblk.ae m id).cell 6
  c8':=λw m=>(hblk.ae m id).cell 8
  ct:=λw m=>wK _ x _ w (GG.ws.ae m (λ_ _=>id)) hw.1 (by omega)
  e6:=hen
  e8:=GG.e8
  rd:=λw b' m _ hE hb hl=>Tt w b' _ (CJ x l) m.kp hE hb hl
  nd:=λw y m hy=>GG.nd w y m.kp hy}⟩
def dA.pins(op:eM)(r:dA):dQ:=⟨op,r.d,r.s,r.jump,r.num,r.high,T r.label,T r.name⟩
theorem dA.sU.fit{r:dA}(h:r.sU)(op:eM):(r.pins op).Fit :=
 ⟨h.d,h.s,h.j0,h.j1,h.n0,h.n1,h.h0,h.h1,by show(T r.label).size<=100;rw[bS];exact h.l,by show(T r.name).size<=300;rw[bS];exact h.m⟩
theorem opsRead_any(wT w:tW)(v:eM)(bs:tLN)(x l:tLB)(hO:aT 0 wT v bs ax)(m:aa ah wT w)(hE:Env w)(hl:ee l<=1000000):fL prog 109 #[v,eI (T x),fW #[eI (T l)]] w λe w'=>uL w bs (nj x l) e w':=by
 have N0:=hO.ae m;obtain⟨o,c,rfl,hcell⟩:=Jc N0;have Hw:=ai (λk hk=>(Vs N0 k hk).does x l);have HC:=ai hcell;have ac1:=eZ;have HST:af (∀k (hk:k<ee ax),readFrom x l k (ax.drop k)=match zW ax[k] x l k with|some y=>eC y|none=>readFrom x l (k+1) (ax.drop (k+1))):=λk hk=>Ej x l k hk;have sV:af (readFrom x l (ee ax) (ax.drop (ee ax))=ez):=by rw[af,List.drop_length];rfl
 have ac2:af (nj x l=readFrom x l 0 (ax.drop 0)):=rfl;have HOO:af (∀k (hk:k<ee ax),(fG.o ⟨k,CJ x l⟩)=ax[k]):=λk hk=>by simp[fG.o,hk]
 have HE:=ai hE;clear hO N0 m hcell hE;have HPZ:af (∀e w',nj x l=ez->aa ah w w'->e=fR (gb #[fW yT,fS eE,fS eE])->uL w bs (nj x l) e w'):=λe w' h1 h2 h3=>⟨h2,by rw[h1];exact h3⟩
 have HPS:af (∀e w' y,nj x l=eC y->aa ah w w'->e=fR (gb #[fW (y.cells bs),fS y.fits,fS eJ])->uL w bs (nj x l) e w'):=λe w' y h1 h2 h3=>⟨h2,by rw[h1];exact h3⟩
 generalize uL w bs (nj x l)=RP at *;generalize nj x l=rp at *;have Tq:af (ak ((w.alloc (eR #[eI (T l)] 211)).alloc (eR yT 141)) w.heap.size #[eI (T l)] 211):=(ak.new w _ _).alloc _
 have fQ:af (ak ((w.alloc (eR #[eI (T l)] 211)).alloc (eR yT 141)) (w.heap.size+1) yT 141):=by
  have:=ak.new (w.alloc (eR #[eI (T l)] 211)) yT 141
  simpa [af]using this
 have dU:af (aa ah w ((w.alloc (eR #[eI (T l)] 211)).alloc (eR yT 141))):=aq.alloc _;go_in;go_upto_block 0 with fail;unfold yT at Tq fQ dU;generalize(w.alloc (eR #[eI (T l)] 211)).alloc (eR #[vO,vB 0,vB 0,.int .i16 0,vJ 0,vJ 0,eI ⟨#[]⟩,eI ⟨#[]⟩] 141)=w1 at *;obtain⟨F,hF⟩:∃F:Nat->Option fG,∀k,readFrom x l k (ax.drop k)=F k:=⟨_,λ_=>rfl⟩
 have ac3:=ai (λk hk=>by have:=HST.o k hk;rw[hF,hF]at this;exact this);have aaO:af (F (ee ax)=ez):=by rw[af,<-hF];exact sV.o
 have ac4:af (rp=F 0):=by rw[af,<-hF];exact ac2.o
 clear hF HST sV ac2;have afZ:=ai fQ.o.lt;generalize hLb:w.heap.size=Lb at *;generalize hRb:Lb+1=Rb at *;have HLR:af (Lb≠Rb):=by rw[af];omega
 go_wp2_with fail;go_loopg [14] (ee ax) (λq v wx=>∃k:Nat,k<=ee ax/\v=vI k/\ak wx Lb #[eI (T l)] 211/\ak wx Rb #[vO,vB 0,vB 0,.int .i16 0,vJ 0,vJ 0,eI ⟨#[]⟩,eI ⟨#[]⟩] 141/\aa ah w wx/\rp=F k/\q=ee ax-k)
 case atStart=>exact⟨0,Nat.zero_le _,rfl,Tq.o,fQ.o,dU.o,ac4.o,rfl⟩
 case round =>
  obtain⟨k,hk,rfl,hlb,hrb,hmk,NQ,rfl⟩:=hrel;have HLk:=ai hlb;have vH:=ai hrb;have xx:=ai hmk;have HFk:=ai NQ;clear hlb hrb hmk NQ Tq fQ dU ac4;by_cases hlt:k<ee ax
  ·obtain⟨va,vn,vc,k6,c6,k8,c8,HD⟩:=Hw.o k hlt;have HT:=ai (ac3.o k hlt);have Eb:af (∀r,fG.o ⟨k,r⟩=ax[k]):=λr=>by simp[fG.o,hlt]
   obtain⟨g,rfl,hg⟩:=HC.o k hlt;have q0:=hg wr xx.o;have q1:=HD.c1 wr xx.o;have Q0:=ai HD;have XY:=ai (HD.ct wr xx.o);clear HD hg HC Hw ac3 aaO HOO;generalize ax[k]=ok at *;generalize hbk:bs[k]?.getD 0=bk at *;cases hc:ok.words.contains x with
   |false =>
    have HN:af (rp=F (k+1)):=by rw[af,HFk.o,HT.o,zW,hc]<;>rfl
    go_wp2_with fail;refine XY.o.mono ?_;rintro e w2 ⟨rfl,rfl⟩;rw[hc];go_wp2_with fail;go_roundg (ee ax-(k+1))
    case measure=>omega
    case rel=>exact⟨k+1,by omega,by go_num,HLk.o,vH.o,xx.o,HN.o,rfl⟩
   |true =>
    have Zu:af (zW ok x l k=match ok.read (CJ x l)with|none=>ez|some r=>if aC r.rest=[]then eC ⟨k,{r with rest:=[]}⟩else ez):=by rw[af,zW,iP9 hc]<;>rfl
    have y0:=HLk.o.c0;have q6:∀cs t,(wr.alloc (eR cs t)).cell? ⟨bk,6,ez⟩=eC (.func (.func k6) #[] c6):=λcs t=>Q0.o.c6' _ (xx.o.alloc _);have hen:=Q0.o.e6;unfold ym at hen;go_wp2_with fail;refine XY.o.mono ?_;rintro e w2 ⟨rfl,rfl⟩;rw[hc];go_wp2_with fail;have HB3:=ai (ak.new w2 ((CJ x l).cells (vP bk)) 297);have eH:af (∀cs t,aa ah w (w2.alloc (eR cs t))):=λcs t=>xx.o.alloc _;have Vy:af (∀cs t,ak (w2.alloc (eR cs t)) Lb #[eI (T l)] 211):=λcs t=>HLk.o.alloc _;have tJ:af (∀cs t,ak (w2.alloc (eR cs t)) Rb #[vO,vB 0,vB 0,.int .i16 0,vJ 0,vJ 0,eI ⟨#[]⟩,eI ⟨#[]⟩] 141):=λcs t=>vH.o.alloc _;have hLl:=HLk.o.lt;have hRl:=vH.o.lt;have hws:=xx.o.size;refine(Q0.o.rd _ w2.heap.size (eH.o _ _) hws (λw'' m=>HE.o.ae ((eH.o _ _).step m (λi hi e=>by have:i=w2.heap.size:=e;omega))) HB3.o hl).mono ?_;intro e w3 hpo;obtain⟨rfl,yt,hat⟩:=hpo;generalize hBB:w2.heap.size=B at *;have jh:=ai ((eH.o _ _).step yt (λi hi e=>by have:i=B:=e;omega));have NV:=ai ((Vy.o _ _).ae yt (λe=>by have:Lb=B:=e;omega));have sW:=ai ((tJ.o _ _).ae yt (λe=>by have:Rb=B:=e;omega));have HAT:=ai hat;clear yt hat HB3 eH Vy tJ XY y0 q6 hen q0 q1 HLk vH xx;cases hx:ok.read (CJ x l)with
    |none =>
     have HN:af (rp=F (k+1)):=by rw[af,HFk.o,HT.o,Zu.o,hx]
     go_wp2_with fail;go_roundg (ee ax-(k+1))
     case measure=>omega
     case rel=>exact⟨k+1,by omega,by go_num,NV.o,sW.o,jh.o,HN.o,rfl⟩
    |some r1 =>
     have hb1:=HAT.o r1 hx;have HF1:=ai (QY ok _ r1 hx (Vx x l));have El:=ai (lI B 1 _ _ r1.rest w3 (lX hb1));clear hb1 HAT;by_cases hd:aC r1.rest=[]
     ·have HN:af (rp=eC ⟨k,{r1 with rest:=[]}⟩):=by rw[af,HFk.o,HT.o,Zu.o,hx];dsimp only;rw[iP9 hd]
      have HFI:af ((fG.mk k {r1 with rest:=[]}).fits=(!r1.far&&ok.needs (r1.pins (vP bk)))):=by unfold fG.fits;rw[Eb.o];exact congrArg _ (QZ ok _ _ ⟨rfl,rfl,rfl,rfl,rfl⟩)
      have HYC:af ((fG.mk k {r1 with rest:=[]}).cells bs=(r1.pins (vP bk)).cells):=by unfold fG.cells;dsimp only;rw[hbk];rfl
      rw[hd]at El;go_wp2_with fail;refine El.o.mono ?_;rintro e w4 ⟨rfl,yu⟩;have iH:=ai yu.rd;have jK:=ai (jh.o.step yu.2 (λi hi e=>by have:i=B:=e;omega));have KO:=ai (sW.o.ae yu.2 (λe=>by have:Rb=B:=e;omega));clear yu El jh NV sW;have Zv:¬Only Rb B:=λe=>by have:B=Rb:=e;omega
      have HMg:=ai (λ(g:Ext (Only Rb) w4)=>jK.o.step g.m (λi hi e=>by have:i=Rb:=e;omega));have e2:∀g:Ext (Only Rb) w4,g.w.cell? ⟨B,2,ez⟩=eC (vP bk):=λg=>g.cell iH.o Zv 2;have e3:∀g:Ext (Only Rb) w4,g.w.cell? ⟨B,3,ez⟩=eC (vB r1.d):=λg=>g.cell iH.o Zv 3;have e4:∀g:Ext (Only Rb) w4,g.w.cell? ⟨B,4,ez⟩=eC (vB r1.s):=λg=>g.cell iH.o Zv 4;have e5:∀g:Ext (Only Rb) w4,g.w.cell? ⟨B,5,ez⟩=eC (.int .i16 r1.jump):=λg=>g.cell iH.o Zv 5;have e6:∀g:Ext (Only Rb) w4,g.w.cell? ⟨B,6,ez⟩=eC (vJ r1.num):=λg=>g.cell iH.o Zv 6;have e7:∀g:Ext (Only Rb) w4,g.w.cell? ⟨B,7,ez⟩=eC (vJ r1.high):=λg=>g.cell iH.o Zv 7;have e8:∀g:Ext (Only Rb) w4,g.w.cell? ⟨B,8,ez⟩=eC (eI (T r1.label)):=λg=>g.cell iH.o Zv 8;have e9:∀g:Ext (Only Rb) w4,g.w.cell? ⟨B,9,ez⟩=eC (eI (T r1.name)):=λg=>g.cell iH.o Zv 9;have e10:∀g:Ext (Only Rb) w4,g.w.cell? ⟨B,10,ez⟩=eC (fS r1.far):=λg=>g.cell iH.o Zv 10;have c8e:=λg=>Q0.o.c8' g.w (HMg.o g);have ne1:=Ext.ne (Only Rb) w4;have ae5:=Q0.o.e8;unfold ym at ae5;have HND:af (∀g:Ext (Only Rb) w4,fL prog k8 (#[fW #[vP bk,vB r1.d,vB r1.s,.int .i16 r1.jump,vJ r1.num,vJ r1.high,eI (T r1.label),eI (T r1.name)]]++c8) g.w λe w''=>e=fR (fS (ok.needs (r1.pins (vP bk))))/\aa ah g.w w''):=λg=>Q0.o.nd g.w (r1.pins (vP bk)) (HMg.o g) (HF1.o.fit _);have ac5:af (∀w' fi,aa ah w w'->(!r1.far&&ok.needs (r1.pins (vP bk)))=fi->RP (fR (gb #[fW #[vP bk,vB r1.d,vB r1.s,.int .i16 r1.jump,vJ r1.num,vJ r1.high,eI (T r1.label),eI (T r1.name)],fS fi,fS eJ])) w'):=λw' fi hm hfi=>by refine HPS.o _ w' _ HN.o hm ?_;rw[HFI.o,hfi,HYC.o];rfl
      clear iH HMg Q0 HPS HFI HYC HPZ HT Zu Eb HN HFk;generalize ok.needs (r1.pins (vP bk))=nq at *;go_upto_region 7 with fail;generalize r1.far=fr at *;cases fr with
      |false =>
       refine bR [12,14] (λw'=>∃e:Ext (Only Rb) w4,w'=e.w) (by kernel_rfl) (by kernel_rfl) (by kernel_rfl) ⟨⟨_,aU⟩,rfl⟩ ?_
       iterate 6 (refine aG rfl rfl rfl ?_;intro K hK;go_big_quiet_op;go_big_quiet_on)
       refine zC rfl rfl rfl ?_;intro K hK;go_big_quiet_op;go_big_quiet_on;refine wE rfl rfl _ ⟨bk,0,ez⟩ rfl rfl ?_;simp only[Act.put,sA9,sB9,sC9]
       iterate 4 (refine zC rfl rfl rfl ?_;intro K hK;go_big_quiet_op;go_big_quiet_on)
       refine Ih rfl rfl ?_;intro K hK;go_big_op;refine(HND.o ⟨w4.drew,aU⟩).mono ?_;rintro e w5 ⟨rfl,m5⟩;have yq:=ai ((jK.o.drew).trans m5);have Je:=ai ((KO.o.drew).ae m5 id);have X5:af (aa (Only Rb) w4 w5):=aU.trans m5.of_nil;refine hK _ _ rfl ⟨⟨_,X5.o⟩,rfl⟩ ?_;clear hK K m5 jK KO HND
       try simp only[Act.put,sA9,sB9,sC9]
       refine Jf rfl rfl _ _ _ _ rfl rfl ?_;simp only[Act.put,Act.eval,sA9,sB9,sC9];obtain⟨r0,r1',r2,r3,r4,r5,r6,r7⟩:=Je.o.aO;have rf:=Je.o.frozen;refine aN rfl rfl ?_;intro K hK;go_big_op;refine hK _ _ rfl ⟨⟨_,aa.dI X5.o (.inl rfl) _ _ _ _ _ _ _ _⟩,rfl⟩ ?_;clear hK K r0 r1' r2 r3 r4 r5 r6 r7 rf
       try simp only[Act.put,sA9,sB9,sC9]
       iterate 2 (refine aG rfl rfl rfl ?_;intro K hK;go_big_quiet_op;go_big_quiet_on)
       refine dR ?_
       try simp only[Exit.then]
       go_wp2_with fail;refine iz (ko results109 _ _ Rb 141 _ (0,0) _ _ _ rfl rfl rfl (ak.dI Je.o _ _ _ _ _ _ _ _) underlying141 rfl (by kernel_rfl)) rfl ?_;exact ac5.o _ _ (aa.dI yq.o (.inr (by omega)) _ _ _ _ _ _ _ _) (by simp)
      |true =>
       have yq:=ai jK.o.drew;have Je:=ai KO.o.drew;have X5:af (aa (Only Rb) w4 w4.drew):=aU;clear jK KO HND;refine bR [12,14] (λw'=>∃e:Ext (Only Rb) w4,w'=e.w) (by kernel_rfl) (by kernel_rfl) (by kernel_rfl) ⟨⟨_,aU⟩,rfl⟩ ?_
       change wpMix _ _ _ _ _ _ _ _ w4.drew
       generalize w4.drew=W at *
       iterate 6 (refine aG rfl rfl rfl ?_;intro K hK;go_big_quiet_op;go_big_quiet_on)
       iterate 7 (refine Vz rfl ?_;simp only[Act.put,sA9,sB9,sC9])
       refine Jf rfl rfl _ _ _ _ rfl rfl ?_;simp only[Act.put,Act.eval,sA9,sB9,sC9];obtain⟨r0,r1',r2,r3,r4,r5,r6,r7⟩:=Je.o.aO;have rf:=Je.o.frozen;refine aN rfl rfl ?_;intro K hK;go_big_op;refine hK _ _ rfl ⟨⟨_,aa.dI X5.o (.inl rfl) _ _ _ _ _ _ _ _⟩,rfl⟩ ?_;clear hK K r0 r1' r2 r3 r4 r5 r6 r7 rf
       try simp only[Act.put,sA9,sB9,sC9]
       iterate 2 (refine aG rfl rfl rfl ?_;intro K hK;go_big_quiet_op;go_big_quiet_on)
       refine dR ?_
       try simp only[Exit.then]
       go_wp2_with fail;refine iz (ko results109 _ _ Rb 141 _ (0,0) _ _ _ rfl rfl rfl (ak.dI Je.o _ _ _ _ _ _ _ _) underlying141 rfl (by kernel_rfl)) rfl ?_;exact ac5.o _ _ (aa.dI yq.o (.inr (by omega)) _ _ _ _ _ _ _ _) (by simp)
     ·have HN:af (rp=F (k+1)):=by rw[af,HFk.o,HT.o,Zu.o,hx];dsimp only;rw[iN9 hd]
      have hd':decide (aC r1.rest=[])=eE:=by simpa using hd
      rw[hd']at El;go_wp2_with fail;refine El.o.mono ?_;rintro e w4 ⟨rfl,yu⟩;have jK:=ai (jh.o.step yu.2 (λi hi e=>by have:i=B:=e;omega));have HL5:=ai (NV.o.ae yu.2 (λe=>by have:Lb=B:=e;omega));have KO:=ai (sW.o.ae yu.2 (λe=>by have:Rb=B:=e;omega));clear yu El jh NV sW;go_wp2_with fail;go_roundg (ee ax-(k+1))
      case measure=>omega
      case rel=>exact⟨k+1,by omega,by go_num,HL5.o,KO.o,jK.o,HN.o,rfl⟩
  ·have hke:k=ee ax:=by omega
   have HN:af (rp=ez):=by rw[af,HFk.o,hke];exact aaO.o
   have r0:=vH.o.aO;obtain⟨r0,r1,r2,r3,r4,r5,r6,r7⟩:=r0;have rf:=vH.o.frozen;go_wp2_with fail;refine iz (ko results109 _ _ Rb 141 _ (0,0) _ _ _ rfl rfl rfl (ak.dI vH.o _ _ _ _ _ _ _ _) underlying141 rfl (by kernel_rfl)) rfl ?_;exact HPZ.o _ _ HN.o (aa.dI xx.o (.inr (by omega)) _ _ _ _ _ _ _ _) rfl
