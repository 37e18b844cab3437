import Derived.Test.YtekmhcbefnmflaaGreatDoorCL31
import Derived.Test.YtekmhcbefnmflaaGreatDoorCL36
namespace Go.Proofs.YtekmhcbefnmflaaGreatDoor
open Go.RowKit Tryz
open Int renaming toNat_of_nonneg->bt
open List renaming zipWith->ab,getElem_mem->an,zipWith_cons_cons->ao,take_of_length_le->ar,length_zipWith->bh,take_succ_cons->b5,drop_succ_cons->b9,take_zero->cb,mem_or_eq_of_mem_set->cj,drop_zero->cx,map_cons->cy,length->ee
open Nat renaming le_refl->cw
open Option renaming map_some->cD,some->eC,none->ez
open Bool renaming false->eE,true->eJ
open Ending renaming returned->fR
open Obj renaming cells->eR
open Value renaming agg->fW,slice->eK,map->jn,string->eI,tuple->gb
open _root_.Go renaming Value->eM,Calls->fL,info_parts->lO,wp_load_row->B0,maxLen->fX
set_option linter.all false
set_option maxRecDepth 100000
set_option maxHeartbeats 4000000
theorem sD{P:Program}{o:Oper}{a:Act}{w:tW}{K:Act->tW->Prop}{Q:Exit->Act->tW->Prop}(t e:TypeId)(n:Nat)(x:Operand)(ho:o.op=.buildSlice t 1 #[(0,x)])(cs:tAV)(hx:a.eval x=fW cs)(hn:cs.size=n)(i:TypeInfo)(z:eM)(hu:P.underlying t=eC (.slice e)) (hi:P.info? e=eC i) (hz:i.zero=eC z) (hs:i.size=n) (h0:0<n) (h1:n<=1000)(h:K (a.put o.dst (eK (eC ⟨w.heap.size,0,ez⟩) 1 1)) (w.alloc (eR cs e))):o.wp P a w K Q:=by refine wp_buildSlice t e 1 _ ho cs i z hu hi hz (by rw[hs];omega) (by rw[hs];omega) ?_ h;rw[hs];simp only[List.map_toArray,cy,List.map_nil,hx];exact E5 n _ _ hn (by simp)
structure Hg(w0:tW)(R A P bm:Nat)(vO:eM)(bs:tLN)(vM vF:eM)(b:BS)(vs:tLV)(w:tW):Prop where
 bd:og w0 P bs vM vF b.ms b.fs vs w
 res:ak w R #[vN,vN] 99
 all:ak w A #[jn (eC bm),vO] 91
 ne:R≠P
section
variable {w0 w w' : World} {R A P bm : Nat} {vO vM vF v' : eM} {bs : List Nat} {b : BS} {vs : List eM}
theorem Hg.quiet(h:Hg w0 R A P bm vO bs vM vF b vs w)(m:aa ah w w'):Hg w0 R A P bm vO bs vM vF b vs w':=⟨h.bd.quiet m,h.res.ae m id,h.all.ae m id,h.ne⟩
theorem Hg.map{x:fJ}(o:OL)(hx:x.kind=1)(h:Hg w0 R A P bm vO bs vM vF b vs w)(s:Sl w' 113 4 v' (ee b.ms+1) (b.ms.flatMap aW.cells++aW.cells (Dz x)))(m:aa (λk=>vM.ownBlock=eC k) w w')(l:∀k,v'.ownBlock=eC k->vM.ownBlock=eC k\/w.heap.size<=k):Hg w0 R A P bm vO bs v' vF (fU o b x) vs (w'.setCell ⟨P,0,ez⟩ v'):=by
 have mP:aa (Only P) w' (w'.setCell ⟨P,0,ez⟩ v'):=aA.bz _ _;have hB:=h.bd.aad m;have hr:=h.res.ae m (λe=>h.bd.maps.ay h.res (by decide) e);have ha:=h.all.ae m (λe=>h.bd.maps.ay h.all (by decide) e);have e:fU o b x={b with ms:=b.ms++[Dz x]}:=by unfold fU;rw[iP9 hx]
 rw[e];exact⟨h.bd.map (Dz x) s m l,hr.ae mP (λe=>h.ne e),ha.ae mP (λe=>ha.apart hB (by decide) e),h.ne⟩
theorem Hg.func{x:fJ}(o:OL)(hx:x.kind=2)(h:Hg w0 R A P bm vO bs vM vF b vs w)(s:Sl w' 109 2 v' (ee b.fs+1) (((b.fs.map (·.name)).zip vs).flatMap wR++wR (x.name,vN)))(m:aa (λk=>vF.ownBlock=eC k) w w')(l:∀k,v'.ownBlock=eC k->vF.ownBlock=eC k\/w.heap.size<=k):Hg w0 R A P bm vO bs vM v' (fU o b x) (vs++[vN]) (w'.setCell ⟨P,1,ez⟩ v'):=by
 have mP:aa (Only P) w' (w'.setCell ⟨P,1,ez⟩ v'):=aA.bz _ _;have hB:=h.bd.blk.ae m (λe=>h.bd.rows.ay h.bd.blk (by decide) e);have hr:=h.res.ae m (λe=>h.bd.rows.ay h.res (by decide) e);have ha:=h.all.ae m (λe=>h.bd.rows.ay h.all (by decide) e);have e:fU o b x={b with fs:=b.fs++[⟨x.name,[]⟩],slot:=0}:=by unfold fU;rw[iN9 (by omega),iP9 hx]
 rw[e];exact⟨h.bd.func x.name s m l,hr.ae mP (λe=>h.ne e),ha.ae mP (λe=>ha.apart hB (by decide) e),h.ne⟩
theorem Hg.instr{x:fJ}(o:OL)(hx:x.kind=4){g c n:Nat}{u:eM}{lab:tBA}(hn:n=ee b.fs-1)(hk:n<ee b.fs)(Bd:n<ee vs){nf:Nat}(hnf:nf=ee b.fs)(h:Hg w0 R A P bm vO bs vM (eK (eC ⟨g,0,ez⟩) nf c) b vs w)(hu:vs[n]=u){bP:List tBA} (hl1:ee bP=ee b.fs[n].code) (s:Sl w' 141 8 v' (ee b.fs[n].code+1) (rX bs (b.fs[n].code.zip bP)++((abK o n b.slot x.x).pz bs lab).di)) (m:aa (λk=>u.ownBlock=eC k) w w') (l:∀k,v'.ownBlock=eC k->u.ownBlock=eC k\/w.heap.size<=k):Hg w0 R A P bm vO bs vM (eK (eC ⟨g,0,ez⟩) nf c) (fU o b x) (vs.set n v') (w'.setCell ⟨g,n*2+1,ez⟩ v'):=by
 have hI:=h.bd.instr hk Bd hnf hu hl1 s m l;have hcode:=h.bd.code n hk Bd;rw[hu]at hcode;have mg:aa (Only g) w' (w'.setCell ⟨g,n*2+1,ez⟩ v'):=aA.bz _ _;have hr:=h.res.ae m (λe=>hcode.ay h.res (by decide) e);have ha:=h.all.ae m (λe=>hcode.ay h.all (by decide) e);have hrow:=h.bd.rows.ae m (λk' hk' e=>hcode.apart h.bd.rows (by decide) e hk')
 have e:fU o b x={b with fs:=b.fs.set n ⟨b.fs[n].name,b.fs[n].code++[abK o n b.slot x.x]⟩,slot:=b.slot+x.x.o.slots}:=by
  unfold fU;rw[iN9 (by omega),iN9 (by omega),iP9 hx];have hl:b.last=b.fs[n]:=by unfold BS.last;rw[<-hn,List.getD_eq_getElem?_getD,List.getElem?_eq_getElem hk];rfl
  rw[hl,<-hn]
 rw[e];exact⟨hI,hr.ae mg (λe=>hrow.ay hr (by decide) (congrArg eC (show g=R from e.symm))),ha.ae mg (λe=>hrow.ay ha (by decide) (congrArg eC (show g=A from e.symm))),h.ne⟩
end
def Kj(f:cZ):eM->iT
 |eK o n c=>⟨f,o,n,c⟩
 |_=>⟨f,ez,0,0⟩
theorem xY:∀(fs:List cZ) (vs:tLV),ee vs=ee fs->(∀u∈vs,∃o n c,u=eK o n c)->(ab Kj fs vs).flatMap iT.cells=((fs.map (·.name)).zip vs).flatMap wR/\(ab Kj fs vs).map (·.f)=fs/\(ab Kj fs vs).map iT.v=vs
 |[],[],_,_=>⟨rfl,rfl,rfl⟩
 |f::fs,v::vs,h,hs=>by
  obtain⟨h1,h2,h3⟩:=xY fs vs (by simpa using h) (λu hu=>hs u (by simp[hu]));obtain⟨o,n,c,rfl⟩:=hs v (by simp);refine⟨?_,?_,?_⟩
  ·rw[ao,List.flatMap_cons,h1];rfl
  ·rw[ao,cy,h2];rfl
  ·rw[ao,cy,h3];rfl
 |[],_::_,h,_=>by simp at h
 |_::_,[],h,_=>by simp at h
theorem og.slices{w0 w:tW}{P:Nat}{bs:tLN}{vM vF:eM}{ms:List aW}{fs:List cZ}{vs:tLV}(h:og w0 P bs vM vF ms fs vs w):∀u∈vs,∃o n c,u=eK o n c:=λu hu=>by
 obtain⟨code,hc⟩:=h.aaR hu;obtain⟨o,c,hv,_⟩:=hc.view;exact⟨o,_,c,hv⟩
theorem Hg.sorted{w0 w w':tW}{R A P bm:Nat}{vO vM vF:eM}{bs:tLN}{b:BS}{vs:tLV}(h:Hg w0 R A P bm vO bs vM vF b vs w){tv:eM}{ms':List aW}{rs':List iT}(hp:rs'.Perm (ab Kj b.fs vs))(sM:Sl w' 113 4 vM (ee ms') (ms'.flatMap aW.cells))(sF:Sl w' 109 2 vF (ee rs') (rs'.flatMap iT.cells))(m:aa (λk=>vM.ownBlock=eC k\/vF.ownBlock=eC k\/k=R) w w')(hO:aT 0 w' tv bs ax):tu w' tv bs vM vF ms' (rs'.map (·.f)) (rs'.map iT.v)/\(rs'.map (·.f)).Perm b.fs:=by
 obtain⟨h1,h2,h3⟩:=xY b.fs vs h.bd.len h.bd.slices;refine⟨⟨sM,by simp,?_,λi hi hi'=>?_,hO⟩,?_⟩
 ·have e:(((rs'.map (·.f)).map (·.name)).zip (rs'.map iT.v)).flatMap wR=rs'.flatMap iT.cells:=by rw[List.map_map,List.zip_map',List.flatMap_map];rfl
  rw[e,List.length_map];exact sF
 ·have hi2:i<ee rs':=by simpa using hi
  have hm:=hp.mem_iff.1 (an hi2);obtain⟨j,hj,e⟩:=List.getElem_of_mem hm;have hjf:j<ee b.fs:=by rw[bh]at hj;omega
  have hjv:j<ee vs:=by rw[bh]at hj;omega
  have e1:rs'[i].f=b.fs[j]:=by have:=congrArg (λl:List cZ=>l[j]?) h2;simp only[List.getElem?_map,List.getElem?_eq_getElem hj,List.getElem?_eq_getElem hjf,cD,Option.some.injEq]at this;rw[<-e];exact this
  have e2:rs'[i].v=vs[j]:=by have:=congrArg (λl:tLV=>l[j]?) h3;simp only[List.getElem?_map,List.getElem?_eq_getElem hj,List.getElem?_eq_getElem hjv,cD,Option.some.injEq]at this;rw[<-e];exact this
  simp only[List.getElem_map];rw[e1,e2];have hc:=h.bd.code j hjf hjv;refine hc.ae m (λk hk hS=>?_);rcases hS with hS|hS|hS
  ·exact hc.apart h.bd.maps (by decide) hk hS
  ·exact hc.apart h.bd.rows (by decide) hk hS
  ·exact hc.ay h.res (by decide) (hk.trans (congrArg eC hS))
 ·have:=hp.map (·.f);rw[h2]at this;exact this
theorem zt(ls:List fJ):∀k,k<=ee ls->∀f∈(au (ls.take k)).fs,∀p∈f.bP,p.2<=2*k
 |0,_=>by rw[cb];exact λf hf=>(by cases hf)
 |k+1,h=>by
  have ih:=zt ls k (by omega);have hs:=(jE ls k (by omega)).1;rw[gW ls k (by omega)];generalize au (ls.take k)=o at *;generalize ls[k]=x;have h3:∀f∈o.fs,∀p∈f.bP,p.2<=2*(k+1):=λf hf p hp=>by have:=ih f hf p hp;omega
  have hlast:∀p∈o.last.bP,p.2<=2*(k+1):=by
   by_cases e:o.fs=[]
   ·unfold OL.last;rw[e];exact λp hp=>(by cases hp)
   ·exact h3 _ (Jj e)
  have hsl:=rG hs;unfold bV;split
  ·exact h3
  split
  ·intro f hf;rcases List.mem_append.1 hf with h5|h5
   ·exact h3 f h5
   ·have:f={}:=by simpa using h5
    subst this;exact λp hp=>(by cases hp)
  split
  ·intro f hf;rcases cj hf with h5|rfl
   ·exact h3 f h5
   ·unfold tM.label;split
    ·exact hlast
    ·intro p hp;rcases List.mem_append.1 hp with h6|h6
     ·exact hlast p h6
     ·rw[List.mem_singleton.1 h6];show o.last.slots<=_;omega
  split
  ·intro f hf;rcases cj hf with h5|rfl
   ·exact h3 f h5
   ·exact hlast
  ·exact h3
theorem Xc{l:List (tLB×Nat)}{n:Nat}(h:∀p∈l,p.2<=n)(y:tLB):(ib l y).getD 0<=n:=by
 unfold ib;cases hf:l.find? (λp=>p.1==y)with
 |none=>exact Nat.zero_le _
 |some p=>exact h p (List.mem_of_find?_eq_some hf)
def Hl(w:tW)(tv:eM)(bs:tLN)(b:BS)(e:Ending)(w':tW):Prop :=
 ∃vM vF ms fs vs,e=fR (fW #[vM,vF])/\tu w' tv bs vM vF ms fs vs/\ms.Perm b.ms/\ms.Pairwise (λx y=>mo (T y.name) (T x.name)=eE)/\fs.Perm b.fs/\fs.Pairwise (λx y=>mo (T y.name) (T x.name)=eE)/\aa ah w w'
theorem SF(wT wL wO w:tW)(tv vL:eM)(bs:tLN)(ls:List fJ)(bm:Nat)(vO:eM)(lb:tLN)(hO:aT 0 wT tv bs ax)(m:aa ah wT w)(hL:jD wL vL bs ls w)(hA:dY wO bm vO lb (au ls) w)(hin:InF ls)(hk4:∀x∈ls,x.kind=4->x.x.k<ee ax)(hnl:ee ls<=10000)(hsz:∀x∈ls,x.kind=1->(0<=tO (x.ns.getD 0 aD)/\tO (x.ns.getD 0 aD)<256)/\(0<=tO (x.ns.getD 1 aD)/\tO (x.ns.getD 1 aD)<256)/\(0<=tO (x.ns.getD 2 aD)/\tO (x.ns.getD 2 aD)<256)):fL prog 27 #[vL,fW #[jn (eC bm),vO]] w λe w'=>Hl w tv bs (aZ (au ls) ls) e w':=by
 have XU:af (∀e w',(∃vM vF ms fs vs,e=fR (fW #[vM,vF])/\tu w' tv bs vM vF ms fs vs/\ms.Perm (aZ (au ls) ls).ms/\ms.Pairwise (λx y=>mo (T y.name) (T x.name)=eE)/\fs.Perm (aZ (au ls) ls).fs/\fs.Pairwise (λx y=>mo (T y.name) (T x.name)=eE)/\aa ah w w')->Hl w tv bs (aZ (au ls) ls) e w'):=λe w' h=>h
 have Bv:af (∀w',aa ah w w'->∀x∈ls,x.kind=4->eu w' (bs[x.x.k]?.getD 0) x.x.o):=λw' m' x hx h4=>by
  have h1:=hk4 x hx h4;have h2:x.x.k<ee bs:=by rw[hO.len];exact h1
  have:=(hO.ae (m.trans m')).at' x.x.k h2 h1;rw[List.getElem?_eq_getElem h2];unfold fG.o;rw[List.getElem?_eq_getElem h1];exact this
 have HOI:=ai (λw' (m':aa ah w w')=>hO.ae (m.trans m'));have Ya:=ai hL;have ZH:=ai hA;have ZF:=ai (Aq (au ls) ls);have HST:=ai (DA (au ls) ls);have sV:af (∀k,¬k<ee ls->aZ (au ls) (ls.take k)=aZ (au ls) ls):=λk h=>by rw[ar (by omega)]
 have HIN:af (∀k (h:k<ee ls),ls[k].kind=4->0<ee (aZ (au ls) (ls.take k)).fs):=λk h h4=>by rw[(Aq (au ls) ls k (by omega)).1];exact List.length_pos_iff.2 (hin k h (.inr h4))
 have HMO:af (∀x∈ls,x.kind=1->∀w,fL prog 62 #[fW (x.cells bs)] w λe w'=>e=fR (fW #[eI (T (Dz x).name),vB ((Dz x).key:Nat),vB ((Dz x).value:Nat),vB ((Dz x).entries:Nat)])/\aa ah w w'):=λx hx h1 w=>by
  obtain⟨s0,s1,s2⟩:=hsz x hx h1;have hc:x.cells bs=jx x.kind (T x.name) (x.ns.getD 0 aD) (x.ns.getD 1 aD) (x.ns.getD 2 aD):=by unfold fJ.cells;rw[iN9 (by omega)]
  rw[hc];refine(Rq x.kind (T x.name) _ _ _ w s0 s1 s2).mono ?_;rintro e w' ⟨rfl,m'⟩;refine⟨?_,m'⟩;unfold Dz;simp only[bt s0.1,bt s1.1,bt s2.1]
 obtain⟨oL,cL,Ni,_⟩:=hL.sl.view;subst Ni;obtain⟨oO,cO,hvO,_⟩:=hA.sl.view;have hOL:ee (au ls).fs<=10000:=by have:=(jE ls (ee ls) (cw _)).2;rw[ar (cw _)]at this;omega
 subst hvO;clear hO m hL hin hk4 hsz hA;generalize Hl w tv bs (aZ (au ls) ls)=RP at *
 have HW0:af (Hg w (w.heap.size+1) w.heap.size (w.heap.size+1+1) bm (eK oO (ee (au ls).fs) cO) bs (vN) (vN) {} [] (((w.alloc (eR #[jn (eC bm),eK oO (ee (au ls).fs) cO] 91)).alloc (eR #[vN,vN] 99)).alloc (eR #[vN,vN] 99))):=by
  have m1:aa ah w ((w.alloc (eR #[jn (eC bm),eK oO (ee (au ls).fs) cO] 91)).alloc (eR #[vN,vN] 99)):=aq.alloc _;have h1:=og.new w bs _ m1;have hs:((w.alloc (eR #[jn (eC bm),eK oO (ee (au ls).fs) cO] 91)).alloc (eR #[vN,vN] 99)).heap.size=w.heap.size+1+1:=by simp
  rw[hs]at h1;have h2:=ak.new (w.alloc (eR #[jn (eC bm),eK oO (ee (au ls).fs) cO] 91)) #[vN,vN] 99;have hs2:(w.alloc (eR #[jn (eC bm),eK oO (ee (au ls).fs) cO] 91)).heap.size=w.heap.size+1:=by simp
  rw[hs2]at h2;exact⟨h1,h2.alloc _,((ak.new w _ _).alloc _).alloc _,by omega⟩
 go_in;go_upto_region 2 with fail;go_wp2_with fail;generalize((w.alloc (eR #[jn (eC bm),eK oO (ee (au ls).fs) cO] 91)).alloc (eR #[vN,vN] 99)).alloc (eR #[vN,vN] 99)=w1 at *;generalize hA0:w.heap.size=A at *;generalize hR0:A+1=R at *;generalize hP0:R+1=P at *;go_loopg [13,6] (ee ls) (λq v13 v6 wx=>∃(k:Nat) (vM vF:eM) (vs:tLV),k<=ee ls/\v13=vI k/\v6=vI (aZ (au ls) (ls.take k)).slot/\Hg w R A P bm (eK oO (ee (au ls).fs) cO) bs vM vF (aZ (au ls) (ls.take k)) vs wx/\q=ee ls-k)
 case atStart=>exact⟨0,_,_,[],Nat.zero_le _,rfl,rfl,HW0.o,rfl⟩
 case round =>
  obtain⟨k,vM,vF,vs,hk,rfl,rfl,hB,rfl⟩:=hrel;have HB:=ai hB;clear hB HW0;obtain⟨hb1,hb2,hb3,hb4,hb5⟩:=ZF.o k hk;obtain⟨oM,cM,Ol,_⟩:=HB.o.bd.maps.view;obtain⟨oF,cF,qi,_⟩:=HB.o.bd.rows.view;subst Ol qi;by_cases hlt:k<ee ls
  ·obtain⟨g,cL',hv,hcl,hrow⟩:=Ya.o.row k hlt;injection hv with hv1 hv2 hv3;subst hv1;have HRW:=hrow wr HB.o.bd.md;have HS:=ai (HST.o k hlt);have HI:=ai (HIN.o k hlt);have VK:=ai (λw' m'=>Bv.o w' m' ls[k] (an hlt));have dB:=ai (HMO.o ls[k] (an hlt));have HFL:af (ee (aZ (au ls) (ls.take k)).fs<=ee (au ls).fs):=by rw[af,hb1];exact rW ls k
   have HTG:af (∀n,n<ee (au ls).fs->∀y,(ib ((au ls).fs.getD n {}).bP y).getD 0<=20000):=λn hn y=>by
    have h1:=zt ls (ee ls) (cw _);rw[ar (cw _)]at h1;rw[List.getD_eq_getElem?_getD,List.getElem?_eq_getElem hn];have:=Xc (h1 _ (an hn)) y;show(ib (au ls).fs[n].bP y).getD 0<=20000
    omega
   have HOR:af (∀n,n<ee (au ls).fs->∃gO,oO=eC ⟨gO,0,ez⟩/\(au ls).fs.length<=cO/\∀W,aa ah w W->W.cell? ⟨gO,n*3+2,ez⟩=eC (jn (eC (lb[n]?.getD 0)))/\jN W (lb[n]?.getD 0) ((au ls).fs.getD n {}).bP):=λn hn=>by obtain⟨gO,h1,_,h3,h4⟩:=ZH.o.kV n hn;refine⟨gO,h1,h3,λW mW=>⟨h4 W mW 2 (by show 2<3;decide),?_⟩⟩;rw[List.getD_eq_getElem?_getD,List.getElem?_eq_getElem hn];exact MapOf.ae (ZH.o.bP n hn) mW id
   clear hrow HST HIN Bv hv3 sV HMO ZF hb1;generalize aZ (au ls) (ls.take k)=b at *;generalize ls[k]=x at *;generalize(au ls).fs.length=nO at *;have jS:=ai (gV bs x);have HC0:=ai (rF bs x);have E4:=ai (cells_one bs x);have Hz:=ai (nK bs x);have HB2:=ai (ak.new wr (jx 0 ⟨#[]⟩ aD aD aD) 143);have HC4:af (x.kind=4->x.cells bs=Jg 4 ⟨#[]⟩ aD aD aD (vP (bs[x.x.k]?.getD 0)) x.x.r.d x.x.r.s x.x.r.jump x.x.r.num x.x.r.high (T x.x.r.label) (T x.x.r.name) x.x.fits):=λh=>by unfold fJ.cells;rw[iP9 h]
   generalize x.cells bs=cs at *;go_upto_region 6 with(first |(refine eW rfl 143 (.tmp 15) rfl g (k*20) rfl cs _ HRW underlying143 rfl (by rw[jS.o];kernel_rfl) ?_) |(refine gz rfl 143 (.tmp 8) (.tmp 16) rfl wr.heap.size cs rfl rfl 143 _ HB2.o (by rw[jS.o];kernel_rfl) (by rw[jS.o];rfl) E4.o ?_;intro W3 hB3 yt))
   have HB3:=ai (HB.o.quiet yt.fresh);have c0:=(hB3.cell 0).trans HC0.o;have p0:=HB3.o.bd.blk.c0;have p1:=HB3.o.bd.blk.c1;have Rc:=ai hB3;clear HB HB2 HRW yt hB3;generalize wr.heap.size=B at *;have hcase:x.kind=1\/x.kind=2\/x.kind=4\/(x.kind≠1/\x.kind≠2/\x.kind≠4):=by omega
   rcases hcase with hx|hx|hx|hx
   ·have q1:((x.kind:Int)==1)=eJ:=by rw[hx];rfl
    have HMC:=dB.o hx;have EO:af (∀W vA wA,aa ah W3 W->Sl wA 113 4 vA (ee b.ms+1) (b.ms.flatMap aW.cells++aW.cells (Dz x))->aa (λk=>(Value.slice oM (ee b.ms) cM).ownBlock=eC k) W wA->(∀k,vA.ownBlock=eC k->(Value.slice oM (ee b.ms) cM).ownBlock=eC k\/W.heap.size<=k)->(∃oA cA,vA=eK oA (ee b.ms+1) cA)/\ak wA P #[eK oM (ee b.ms) cM,eK oF (ee b.fs) cF] 99/\Hg w R A P bm (eK oO nO cO) bs vA (eK oF (ee b.fs) cF) (fU (au ls) b x) vs (wA.setCell ⟨P,0,ez⟩ vA)):=λW vA wA mW sA mA lA=>by obtain⟨oA,cA,Bw,_⟩:=sA.view;exact⟨⟨oA,cA,Bw⟩,(HB3.o.quiet mW).bd.aad mA,(HB3.o.quiet mW).map (au ls) hx sA mA lA⟩
    have GM:=ai (λW (mW:aa ah W3 W)=>(HB3.o.quiet mW).bd.maps);have Wy:af (∀e:Ext (λk=>(Value.slice oM (ee b.ms) cM).ownBlock=eC k) W3,ak e.w P #[eK oM (ee b.ms) cM,eK oF (ee b.fs) cF] 99/\ak e.w B cs 143):=λe=>⟨HB3.o.bd.aad e.m,Rc.o.ae e.m (λh=>HB3.o.bd.maps.ay Rc.o (by decide) h)⟩
    have tN:af (aZ (au ls) (ls.take (k+1))=fU (au ls) b x/\(fU (au ls) b x).slot=b.slot):=⟨HS.o,by unfold fU;rw[iP9 hx]⟩
    obtain⟨iP,hiP,sK,hsP,wJ⟩:=lO Af;clear hx HS HI VK dB HC4 Hz HB3;generalize Dz x=pm at *;generalize fU (au ls) b x=b' at *;go_upto_region 9 with fail
    haveI:Nonempty (Ext (λk=>(Value.slice oM (ee b.ms) cM).ownBlock=eC k) W3):=Ext.ne _ _
    have d0:=λ(e:Ext (λk=>(Value.slice oM (ee b.ms) cM).ownBlock=some k) W3)=>(Wy.o e).1.c0;have HLD:=ai Rc.o.drew;refine dS 6 [2,3,4,5] (λw'=>∃e:Ext (λk=>(Value.slice oM (ee b.ms) cM).ownBlock=eC k) W3,w'=e.w) (by kernel_rfl) (by kernel_rfl) ⟨⟨_,aU⟩,rfl⟩ ?_;simp only[b5,cb,b9,cx]
    iterate 2 (refine aG rfl rfl rfl ?_;intro K hK;go_big_quiet_op;go_big_quiet_on)
    refine aN rfl rfl ?_;intro K hK;refine B0 143 (.tmp 8) rfl B rfl 143 cs (0,0) _ HLD.o underlying143 rfl (by rw[jS.o];kernel_rfl) ?_;refine hK _ _ rfl ⟨⟨_,aU⟩,rfl⟩ ?_;clear hK K
    try simp only[Act.put,sA9,sB9,sC9]
    refine aN rfl rfl ?_;intro K hK;go_big_op;refine(HMC _).mono ?_;rintro e w4 ⟨rfl,m4⟩;have M4:=ai (aU.trans m4);refine hK _ _ rfl ⟨⟨_,M4.o.of_nil⟩,rfl⟩ ?_;clear hK K m4
    try simp only[Act.put,sA9,sB9,sC9]
    refine aN rfl rfl ?_;intro K hK;refine sD 96 113 4 (.tmp 28) rfl #[eI (T pm.name),vB (pm.key:Nat),vB (pm.value:Nat),vB (pm.entries:Nat)] rfl rfl iP _ underlying96 hiP sK hsP (by decide) (by decide) ?_;have M5:=ai (M4.o.alloc (eR #[eI (T pm.name),vB (pm.key:Nat),vB (pm.value:Nat),vB (pm.entries:Nat)] 113));refine hK _ _ rfl ⟨⟨_,M5.o.of_nil⟩,rfl⟩ ?_;clear hK K
    try simp only[Act.put,sA9,sB9,sC9]
    refine aN rfl rfl ?_;intro K hK;refine eG _ (.tmp 26) (.tmp 29) 96 rfl 113 iP (fW #[eI E0,vB 0,vB 0,vB 0]) 4 24 underlying96 hiP sK hsP wJ rfl (by decide) (eK oM (ee b.ms) cM) (ee b.ms) (b.ms.flatMap aW.cells) rfl (GM.o _ M5.o) ⟨w4.heap.size,0,ez⟩ 1 1 (#[eI (T pm.name),vB (pm.key:Nat),vB (pm.value:Nat),vB (pm.entries:Nat)]:tAV).toList rfl rfl (aY _ _ _ _ rfl) (by simp[Value.oneCell']) (by unfold fX;omega) (by omega) ?_;intro vA wA sA mA lA;obtain⟨⟨oA,cA,Bw⟩,MN,Jo⟩:=EO.o _ vA wA M5.o sA mA lA;subst Bw;have MA:=ai ((M5.o.of_nil).trans mA);refine hK _ _ rfl ⟨⟨_,MA.o⟩,rfl⟩ ?_;clear hK K;refine dR ?_;have pA0:=MN.cell 0;have pAf:=MN.frozen;have Yh:=ai Jo;clear sA mA lA MN Jo;go_wp2_with fail;go_roundg (ee ls-(k+1))
    case measure=>omega
    case rel=>exact⟨k+1,_,_,vs,by omega,by go_num,by rw[tN.o.1,tN.o.2],by rw[tN.o.1];exact Yh.o,rfl⟩
   ·have q1:((x.kind:Int)==1)=eE:=by rw[hx];rfl
    have q2:((x.kind:Int)==2)=eJ:=by rw[hx];rfl
    have c1:=(Rc.o.cell 1).trans (Hz.o (by omega));have EO:af (∀W vA wA,aa ah W3 W->Sl wA 109 2 vA (ee b.fs+1) (((b.fs.map (·.name)).zip vs).flatMap wR++wR (x.name,vN))->aa (λk=>(Value.slice oF (ee b.fs) cF).ownBlock=eC k) W wA->(∀k,vA.ownBlock=eC k->(Value.slice oF (ee b.fs) cF).ownBlock=eC k\/W.heap.size<=k)->(∃oA cA,vA=eK oA (ee b.fs+1) cA)/\ak wA P #[eK oM (ee b.ms) cM,eK oF (ee b.fs) cF] 99/\Hg w R A P bm (eK oO nO cO) bs (eK oM (ee b.ms) cM) vA (fU (au ls) b x) (vs++[vN]) (wA.setCell ⟨P,1,ez⟩ vA)):=λW vA wA mW sA mA lA=>by obtain⟨oA,cA,Bw,_⟩:=sA.view;have hq:=HB3.o.quiet mW;exact⟨⟨oA,cA,Bw⟩,hq.bd.blk.ae mA (λe=>hq.bd.rows.ay hq.bd.blk (by decide) e),hq.func (au ls) hx sA mA lA⟩
    have GM:=ai (λW (mW:aa ah W3 W)=>(HB3.o.quiet mW).bd.rows);have tN:af (aZ (au ls) (ls.take (k+1))=fU (au ls) b x/\(fU (au ls) b x).slot=0):=⟨HS.o,by unfold fU;rw[iN9 (by omega),iP9 hx]⟩
    obtain⟨iP,hiP,sK,hsP,wJ⟩:=lO xM;clear hx HS HI VK dB HC4 Hz HB3;generalize fU (au ls) b x=b' at *;generalize x.name=nm at *;have M5:af (aa ah W3 (W3.alloc (eR #[eI (T nm),vN] 109))):=aq;go_wp2_with (first |(refine wpList_plain rfl λ_ hK=>sD 97 109 2 (.tmp 38) rfl #[eI (T nm),vN] rfl rfl iP _ underlying97 hiP sK hsP (by decide) (by decide) (hK _ _ ?_);clear hK) |(at_builtin;(refine aP _ rfl (.tmp 35) (.tmp 39) 97 rfl 109 iP (fW #[eI E0,vN]) 2 40 underlying97 hiP sK hsP wJ rfl (by decide) (eK oF (ee b.fs) cF) (ee b.fs) (((b.fs.map (·.name)).zip vs).flatMap wR) rfl (GM.o _ M5.o) ⟨W3.heap.size,0,ez⟩ 1 1 (#[eI (T nm),vN]:tAV).toList rfl rfl (aY _ _ _ _ rfl) (by simp[Value.oneCell']) (by unfold fX;omega) (by omega) ?_;intro vA wA sA mA lA;obtain⟨⟨oA,cA,Bw⟩,MN,Jo⟩:=EO.o _ vA wA M5.o sA mA lA;subst Bw;have pA1:=MN.cell 1;have pAf:=MN.frozen;have Yh:=ai Jo;clear sA mA lA MN Jo)));go_roundg (ee ls-(k+1))
    case measure=>omega
    case rel=>exact⟨k+1,_,_,_,by omega,by go_num,by rw[tN.o.1,tN.o.2];rfl,by rw[tN.o.1];exact Yh.o,rfl⟩
   ·have q1:((x.kind:Int)==1)=eE:=by rw[hx];rfl
    have q2:((x.kind:Int)==2)=eE:=by rw[hx];rfl
    have q4:((x.kind:Int)==4)=eJ:=by rw[hx];rfl
    have hpos:=HI.o hx;have hi:((ee b.fs:Int)-1)=((ee b.fs-1:Nat):Int):=by omega
    have abW:af (ee b.fs-1<nO):=by have:=HFL.o;rw[af];omega
    obtain⟨gO,hoO,hcO,hOR⟩:=HOR.o (ee b.fs-1) abW.o;subst hoO;have af6:=HTG.o (ee b.fs-1) abW.o x.x.r.label;have HJM:af (Ot (au ls) (ee b.fs-1) b.slot x.x=if x.x.o.jumps then(((ib ((au ls).fs.getD (ee b.fs-1) {}).bP x.x.r.label).getD 0:Nat):Int)-b.slot-x.x.o.slots else x.x.r.jump):=rfl;have tN:af (aZ (au ls) (ls.take (k+1))=fU (au ls) b x/\(fU (au ls) b x).slot=b.slot+x.x.o.slots):=⟨HS.o,by unfold fU;rw[iN9 (by omega),iN9 (by omega),iP9 hx]⟩
    have abX:=ai HB3.o.bd.md
    have HIC:af (∀j (h:j<(#[vP (bs[x.x.k]?.getD 0),vB x.x.r.d,vB x.x.r.s,.int .i16 x.x.r.jump,vJ x.x.r.num,vJ x.x.r.high,eI (T x.x.r.label),eI (T x.x.r.name)]:tAV).size),W3.cell? ⟨B,11+j,ez⟩=eC (#[vP (bs[x.x.k]?.getD 0),vB x.x.r.d,vB x.x.r.s,.int .i16 x.x.r.jump,vJ x.x.r.num,vJ x.x.r.high,eI (T x.x.r.label),eI (T x.x.r.name)]:tAV)[j]):=λj hj=>by
     rw[Rc.o.cell,HC4.o hx]
     match j,hj with
     |0,_=>rfl
     |1,_=>rfl
     |2,_=>rfl
     |3,_=>rfl
     |4,_=>rfl
     |5,_=>rfl
     |6,_=>rfl
     |7,_=>rfl
    have KN:=ai (λw' m'=>VK.o w' m' hx);have DM:af (ee b.fs-1<ee b.fs/\b.fs.length-1<ee vs):=⟨by omega,by rw[HB3.o.bd.len];omega⟩
    have adB:=ai x.x.zX;have HZ2:=ai (ak.new W3 Z8 141);clear HI VK dB HC4 Hz HS HOR HTG;go_upto_region 15 with(first |(refine eW rfl 141 (.tmp 44) rfl B 11 rfl #[vP (bs[x.x.k]?.getD 0),vB x.x.r.d,vB x.x.r.s,.int .i16 x.x.r.jump,vJ x.x.r.num,vJ x.x.r.high,eI (T x.x.r.label),eI (T x.x.r.name)] _ HIC.o underlying141 rfl (by kernel_rfl) ?_) |(refine gz rfl 141 (.tmp 10) (.tmp 45) rfl W3.heap.size _ rfl rfl 141 _ HZ2.o (by kernel_rfl) (by rfl) (by simp[Value.oneCell']) ?_;intro W4 hB4 UQ))
    have HNI:af (∀u∈vs,∀k,u.ownBlock=eC k->k≠W3.heap.size):=λu hu k hk e=>by obtain⟨code,hc⟩:=HB3.o.bd.aaR hu;have:=hc.lt k hk;omega
    have HI4:=ai hB4;have jh:=ai UQ.fresh;have EO:af (∀W vA wA u bP,aa ah W3 W->vs[ee b.fs-1]'(DM.o.2)=u->∀gF cF',oF=eC ⟨gF,0,ez⟩->cF'=cF->ee bP=(b.fs[ee b.fs-1]'(DM.o.1)).code.length->Sl wA 141 8 vA ((b.fs[ee b.fs-1]'(DM.o.1)).code.length+1) (rX bs ((b.fs[ee b.fs-1]'(DM.o.1)).code.zip bP)++[vP (bs[x.x.k]?.getD 0),vB x.x.r.d,vB x.x.r.s,.int .i16 (Ot (au ls) (ee b.fs-1) b.slot x.x),vJ x.x.r.num,vJ x.x.r.high,eI (T x.x.r.label),eI (T x.x.r.name)])->aa (λk=>u.ownBlock=eC k) W wA->(∀k,vA.ownBlock=eC k->u.ownBlock=eC k\/W.heap.size<=k)->(∃oA cA,vA=eK oA ((b.fs[ee b.fs-1]'(DM.o.1)).code.length+1) cA)/\Hg w R A P bm (eK (eC ⟨gO,0,ez⟩) nO cO) bs (eK oM (ee b.ms) cM) (eK oF (ee b.fs) cF) (fU (au ls) b x) (vs.set (ee b.fs-1) vA) (wA.setCell ⟨gF,(ee b.fs-1)*2+1,ez⟩ vA)):=λW vA wA u bP mW hu gF cF' hoF hcF hlb sA mA lA=>by obtain⟨oA,cA,Bw,_⟩:=sA.view;have hq:=HB3.o.quiet mW;subst hoF;exact⟨⟨oA,cA,Bw⟩,hq.instr (au ls) hx rfl DM.o.1 DM.o.2 rfl hu hlb (lab:=T x.x.r.label) sA mA lA⟩
    obtain⟨z1,z2,z3,z4,z5,z6,z7,z8,z9,z10,z11,CK,_⟩:=(KN.o W4 (abX.o.trans jh.o)).ex;have o3:=CK.cell 3;have i0:=HI4.o.cell 0;clear CK HZ2 HIC hB4 UQ hx;generalize hjj:Ot (au ls) (ee b.fs-1) b.slot x.x=jj at *;clear hjj;generalize fU (au ls) b x=b' at *;generalize hI:W3.heap.size=I at *;have HIL:=ai (Nat.le_of_eq hI);clear hI;go_upto_if 50 with fail;go_cut [] (λwx=>aa ah W3 wx/\ak wx I #[vP (bs[x.x.k]?.getD 0),vB x.x.r.d,vB x.x.r.s,.int .i16 jj,vJ x.x.r.num,vJ x.x.r.high,eI (T x.x.r.label),eI (T x.x.r.name)] 141)
    case first =>
     have abY:af (∀W,aa ah W4 W->x.x.o.jumps=eJ->fL prog 63 #[fW #[vP (bs[x.x.k]?.getD 0),vB x.x.r.d,vB x.x.r.s,.int .i16 x.x.r.jump,vJ x.x.r.num,vJ x.x.r.high,eI (T x.x.r.label),eI (T x.x.r.name)],vI b.slot,vI ((ib ((au ls).fs.getD (ee b.fs-1) {}).bP x.x.r.label).getD 0:Nat)] W λe w'=>e=fR (.int .i16 jj)/\aa ah W w'):=λW mW hj=>by refine(Mq W _ x.x.o (KN.o W (abX.o.trans (jh.o.trans mW))) x.x.r.d x.x.r.s x.x.r.num x.x.r.high x.x.r.jump (T x.x.r.label) (T x.x.r.name) b.slot _ (by omega) (by omega) adB.o).mono ?_;rintro e w' ⟨rfl,m'⟩;have hjm:=HJM.o;rw[iP9 hj]at hjm;exact⟨by rw[hjm],m'⟩
     generalize hjb:x.x.o.jumps=jb at *;cases jb with
     |false =>
      have HJ3:af (jj=x.x.r.jump):=by have:=HJM.o;rw[af];simpa using this
      clear abY HJM;go_wp2_with fail;go_meet;rw[HJ3.o];exact⟨jh.o,HI4.o⟩
     |true =>
      go_upto_region 16 with fail;have gu:af (aa ah W4 W4.drew):=aU;refine bU 11 (by kernel_rfl) (by kernel_rfl) ?_;intro W hW;rw[<-hW]at gu;clear hW;have KQ:=ai (HI4.o.ae gu.o id);have j0:=KQ.o.cell 0;have j1:=KQ.o.cell 1;have j2:=KQ.o.cell 2;have j3:=KQ.o.cell 3;have j4:=KQ.o.cell 4;have j5:=KQ.o.cell 5;have j6:=KQ.o.cell 6;have j7:=KQ.o.cell 7;have a1:=(HB3.o.quiet (jh.o.trans gu.o)).all.c1;obtain⟨oc,hlb⟩:=hOR W (abX.o.trans (jh.o.trans gu.o));have hlk:=hlb.ac6 x.x.r.label;have HJT:=abY.o W gu.o rfl;have Eg:=abW.o;clear hlb HJM abY;generalize(ib ((au ls).fs.getD (ee b.fs-1) {}).bP x.x.r.label).getD 0=tg at *;simp only[b5,cb,b9,cx]
      repeat(go_big_quiet_step (fail))
      refine wpQuiet_nil ?_;go_wp2_with fail;refine HJT.mono ?_;rintro e w6 ⟨rfl,m6⟩;have hI6:=KQ.o.ae m6 id;have k3:=hI6.cell 3;have kf:=hI6.frozen;have HI7:af (ak (w6.setCell ⟨I,3,ez⟩ (.int .i16 jj)) I #[vP (bs[x.x.k]?.getD 0),vB x.x.r.d,vB x.x.r.s,.int .i16 jj,vJ x.x.r.num,vJ x.x.r.high,eI (T x.x.r.label),eI (T x.x.r.name)] 141):=hI6.set 3 _;have J4:af (aa ah W3 (w6.setCell ⟨I,3,ez⟩ (.int .i16 jj))):=(jh.o.trans (gu.o.trans m6)).step ((aa.refl (Only I) _).bz 3 _) (λi hi e=>by have e':i=I:=e;have:=HIL.o;omega);clear m6 hI6 j0 j1 j2 j3 j4 j5 j6 j7 a1 oc hlk HJT;go_wp2_with fail;go_meet;exact⟨J4.o,HI7.o⟩
    case rest =>
    obtain⟨hM7,hI7⟩:=hcut;have J4:=ai hM7;have HI7:=ai hI7;have TF:=ai (HB3.o.quiet hM7);clear hM7 hI7 o3 i0 HI4 jh p0 p1 c0;obtain⟨oF',cF',afv,Ia⟩:=TF.o.bd.rows.view;injection afv with e1 e2 e3;subst e1 e3;obtain⟨gF,csF,rfl,Ia,htF,hcF,_⟩:=Ia (by omega);have HVF:af (∀W,ak W gF csF 109->W.cell? ⟨gF,(ee b.fs-1)*2+1,ez⟩=eC (vs[ee b.fs-1]'(DM.o.2))):=λW hW=>by rw[aX hW htF _ (by omega),flat_get wR 2 (λ_=>rfl) _ (ee b.fs-1) 1 (by have:=DM.o;simp;omega) (by omega),Mi _ _ _ (by simpa using DM.o.1) DM.o.2];rfl
    obtain⟨bP,hl1,hl2⟩:=TF.o.bd.code _ DM.o.1 DM.o.2;have HCL:=ai hl1;have af7:=hb5 _ (an DM.o.1);have HVN:af (vs[ee b.fs-1]'(DM.o.2)∈vs):=an _;obtain⟨oC,cC,hvC,_⟩:=hl2.view;have afw:=EO.o;clear EO;generalize(b.fs[ee b.fs-1]'(DM.o.1)).code=code at *;generalize(vs[ee b.fs-1]'(DM.o.2))=vC at *;subst hvC;have Mg:af (∀e:Ext (λk=>(Value.slice oC (ee code) cC).ownBlock=eC k) wc,ak e.w P #[eK oM (ee b.ms) cM,eK (eC ⟨gF,0,ez⟩) (ee b.fs) cF] 99/\ak e.w gF csF 109/\ak e.w I #[vP (bs[x.x.k]?.getD 0),vB x.x.r.d,vB x.x.r.s,.int .i16 jj,vJ x.x.r.num,vJ x.x.r.high,eI (T x.x.r.label),eI (T x.x.r.name)] 141):=λe=>⟨TF.o.bd.blk.ae e.m (λh=>hl2.ay TF.o.bd.blk (by decide) h),Ia.ae e.m (λh=>hl2.ay Ia (by decide) h),HI7.o.ae e.m (λh=>HNI.o _ HVN.o I h rfl)⟩
    have TG:=ai (λW (mW:aa ah wc W)=>hl2.ae mW (λ_ _=>id));have HNG:=ai (HI7.o.apart Ia (by decide));obtain⟨iP,hiP,sK,hsP,wJ⟩:=lO xL;clear hl1 hl2 Ia htF;go_upto_region 17 with fail
    haveI:Nonempty (Ext (λk=>(Value.slice oC (ee code) cC).ownBlock=eC k) wc):=Ext.ne _ _
    have d1:=λ(e:Ext (λk=>(Value.slice oC (ee code) cC).ownBlock=some k) wc)=>(Mg.o e).1.c1;have d2:=λe=>HVF.o _ (Mg.o e).2.1;have HID:=ai HI7.o.drew;have hn1:=DM.o.1;refine dS 12 [9,10,11] (λw'=>∃e:Ext (λk=>(Value.slice oC (ee code) cC).ownBlock=eC k) wc,w'=e.w) (by kernel_rfl) (by kernel_rfl) ⟨⟨_,aU⟩,rfl⟩ ?_;simp only[b5,cb,b9,cx]
    iterate 9 (refine aG rfl rfl rfl ?_;intro K hK;go_big_quiet_op;go_big_quiet_on)
    refine aN rfl rfl ?_;intro K hK;refine B0 141 (.tmp 10) rfl I rfl 141 _ (0,0) _ HID.o underlying141 rfl (by kernel_rfl) ?_;refine hK _ _ rfl ⟨⟨_,aU⟩,rfl⟩ ?_;clear hK K
    try simp only[Act.put,sA9,sB9,sC9]
    refine aN rfl rfl ?_;intro K hK;refine sD 80 141 8 (.tmp 73) rfl #[vP (bs[x.x.k]?.getD 0),vB x.x.r.d,vB x.x.r.s,.int .i16 jj,vJ x.x.r.num,vJ x.x.r.high,eI (T x.x.r.label),eI (T x.x.r.name)] rfl rfl iP _ underlying80 hiP sK hsP (by decide) (by decide) ?_;have M5:af (aa ah wc (wc.drew.alloc (eR #[vP (bs[x.x.k]?.getD 0),vB x.x.r.d,vB x.x.r.s,.int .i16 jj,vJ x.x.r.num,vJ x.x.r.high,eI (T x.x.r.label),eI (T x.x.r.name)] 141))):=aU.alloc _;refine hK _ _ rfl ⟨⟨_,M5.o.of_nil⟩,rfl⟩ ?_;clear hK K
    try simp only[Act.put,sA9,sB9,sC9]
    refine aN rfl rfl ?_;intro K hK;refine eG _ (.tmp 72) (.tmp 74) 80 rfl 141 iP (fW Z8) 8 56 underlying80 hiP sK hsP wJ rfl (by decide) (eK oC (ee code) cC) (ee code) (rX bs (code.zip bP)) rfl (TG.o _ M5.o) ⟨wc.drew.heap.size,0,ez⟩ 1 1 (#[vP (bs[x.x.k]?.getD 0),vB x.x.r.d,vB x.x.r.s,.int .i16 jj,vJ x.x.r.num,vJ x.x.r.high,eI (T x.x.r.label),eI (T x.x.r.name)]:tAV).toList rfl rfl (aY _ _ _ _ rfl) (by simp[Value.oneCell']) (by unfold fX;omega) (by omega) ?_;intro vA wA sA mA lA;obtain⟨⟨oA,cA,Bw⟩,Jo⟩:=afw _ vA wA _ bP (J4.o.trans M5.o) rfl gF cF rfl rfl HCL.o sA mA lA;subst Bw;have MA:=ai ((M5.o.of_nil).trans mA);refine hK _ _ rfl ⟨⟨_,MA.o⟩,rfl⟩ ?_;clear hK K;refine dR ?_;obtain⟨_,hgA,hIA⟩:=Mg.o ⟨_,MA.o⟩;have gA1:=HVF.o _ hgA;have gAf:=hgA.frozen;have Yh:=ai Jo;have hI9:ak (wA.setCell ⟨gF,(ee b.fs-1)*2+1,ez⟩ (eK oA (ee code+1) cA)) I _ 141:=hIA.ae ((aa.refl (Only gF) _).bz _ _) (λe=>HNG.o e);have i9:=hI9.cell 0;obtain⟨z1,z2,z3,z4,z5,z6,z7,z8,z9,z10,z11,adC,_⟩:=(KN.o _ Yh.o.bd.md).ex;have o9:=adC.cell 2;have hs2:=adB.o;clear sA mA lA Jo hgA hIA hI9 adC;go_wp2_with fail;go_roundg (ee ls-(k+1))
    case measure=>omega
    case rel=>exact⟨k+1,_,_,_,by omega,by go_num,by rw[tN.o.1,tN.o.2];go_num,by rw[tN.o.1];exact Yh.o,rfl⟩
   ·have q1:((x.kind:Int)==1)=eE:=by rw[beq_eq_false_iff_ne];omega
    have q2:((x.kind:Int)==2)=eE:=by rw[beq_eq_false_iff_ne];omega
    have q4:((x.kind:Int)==4)=eE:=by rw[beq_eq_false_iff_ne];omega
    have HE:af (fU (au ls) b x=b):=by rw[af,fU,iN9 hx.1,iN9 hx.2.1,iN9 hx.2.2]
    clear hx;go_wp2_with fail;go_roundg (ee ls-(k+1))
    case measure=>omega
    case rel=>exact⟨k+1,_,_,vs,by omega,by go_num,by rw[HS.o,HE.o],by rw[HS.o,HE.o];exact HB3.o,rfl⟩
  ·have hend:=sV.o k hlt;rw[hend]at HB
   have adD:af (∀(W:tW) (ms':List aW) (rs':List iT),rs'.Perm (ab Kj (aZ (au ls) ls).fs vs)->ms'.Perm (aZ (au ls) ls).ms->ms'.Pairwise (λx y=>mo (T y.name) (T x.name)=eE)->rs'.Pairwise (λx y=>mo (T y.f.name) (T x.f.name)=eE)->Sl W 113 4 (eK oM (ee (aZ (au ls) ls).ms) cM) (ee ms') (ms'.flatMap aW.cells)->Sl W 109 2 (eK oF (ee (aZ (au ls) ls).fs) cF) (ee rs') (rs'.flatMap iT.cells)->aa (λk=>(Value.slice oM (ee (aZ (au ls) ls).ms) cM).ownBlock=eC k\/(Value.slice oF (ee (aZ (au ls) ls).fs) cF).ownBlock=eC k) wr W->ak W P #[eK oM (ee (aZ (au ls) ls).ms) cM,eK oF (ee (aZ (au ls) ls).fs) cF] 99/\ak W R #[vN,vN] 99/\∀W',aa (Only R) W W'->RP (fR (fW #[eK oM (ee (aZ (au ls) ls).ms) cM,eK oF (ee (aZ (au ls) ls).fs) cF])) W'):=λW ms' rs' hp hpm hw1 hw2 sM sF mW=>by
    have hbd:=HB.o.bd;have hB:=hbd.blk.ae mW (λh=>h.elim (λh=>hbd.maps.ay hbd.blk (by decide) h) (λh=>hbd.rows.ay hbd.blk (by decide) h));have hR:=HB.o.res.ae mW (λh=>h.elim (λh=>hbd.maps.ay HB.o.res (by decide) h) (λh=>hbd.rows.ay HB.o.res (by decide) h));refine⟨hB,hR,λW' mR=>?_⟩;have mW':aa (λk=>(Value.slice oM (ee (aZ (au ls) ls).ms) cM).ownBlock=eC k\/(Value.slice oF (ee (aZ (au ls) ls).fs) cF).ownBlock=eC k\/k=R) wr W':=(mW.mono (λ_ _ h=>h.elim .inl (λh=>.inr (.inl h)))).trans (mR.mono (λ_ _ h=>.inr (.inr h)))
    have hmd:=hbd.md.step mW' (λi hi h=>by
     rcases h with h|h|h
     ·have:=hbd.BA i h;omega
     ·have:=hbd.Ar i h;omega
     ·omega)
    have sM':=sM.ae mR (λk hk e=>sM.ay hR (by decide) (hk.trans (congrArg eC e)));have sF':=sF.ae mR (λk hk e=>sF.ay hR (by decide) (hk.trans (congrArg eC e)));obtain⟨hP,hpf⟩:=HB.o.sorted hp sM' sF' mW' (HOI.o W' hmd);exact XU.o _ W' ⟨_,_,ms',rs'.map (·.f),_,rfl,hP,hpm,hw1,hpf,List.pairwise_map.2 hw2,hmd⟩
   have HSO:af (fL prog 64 #[fW #[eK oM (ee (aZ (au ls) ls).ms) cM,eK oF (ee (aZ (au ls) ls).fs) cF]] wr λr w'=>r=fR (gb #[])/\∃(ms':List aW) (rs':List iT),ms'.Perm (aZ (au ls) ls).ms/\ms'.Pairwise (λx y=>mo (T y.name) (T x.name)=eE)/\rs'.Perm (ab Kj (aZ (au ls) ls).fs vs)/\rs'.Pairwise (λx y=>mo (T y.f.name) (T x.f.name)=eE)/\Sl w' 113 4 (eK oM (ee (aZ (au ls) ls).ms) cM) (ee ms') (ms'.flatMap aW.cells)/\Sl w' 109 2 (eK oF (ee (aZ (au ls) ls).fs) cF) (ee rs') (rs'.flatMap iT.cells)/\aa (λb=>(Value.slice oM (ee (aZ (au ls) ls).ms) cM).ownBlock=eC b\/(Value.slice oF (ee (aZ (au ls) ls).fs) cF).ownBlock=eC b) wr w'):=by
    obtain⟨h1,h2,h3⟩:=xY _ vs HB.o.bd.len HB.o.bd.slices;have hl:ee (ab Kj (aZ (au ls) ls).fs vs)=ee (aZ (au ls) ls).fs:=by rw[bh,HB.o.bd.len];simp
    rw[hend]at hb3 hb4;refine RO wr _ _ _ (ab Kj (aZ (au ls) ls).fs vs) (by omega) (by omega) HB.o.bd.maps ?_;rw[h1,hl];exact HB.o.bd.rows
   have p0:=HB.o.bd.blk.c0;have p1:=HB.o.bd.blk.c1;rw[hend];clear hend HB ZF HST sV HIN Bv HMO Ya ZH hb1 hb2 hb3 hb4 hb5 HOI XU;generalize aZ (au ls) ls=b at *;go_wp2_with fail;refine HSO.o.mono ?_;rintro e w5 ⟨rfl,ms',rs',hp1,hp2,hp3,yu,hs1,hs2,hm5⟩;obtain⟨hB5,hR5,hfin⟩:=adD.o w5 ms' rs' hp3 hp1 hp2 yu hs1 hs2 hm5;have HFI:=ai hfin;have b0:=hB5.cell 0;have b1:=hB5.cell 1;have r0:=hR5.cell 0;have r1:=hR5.cell 1;have rf:=hR5.frozen;have Je:af (ak ((w5.setCell ⟨R,0,ez⟩ (eK oM (ee b.ms) cM)).setCell ⟨R,1,ez⟩ (eK oF (ee b.fs) cF)) R #[eK oM (ee b.ms) cM,eK oF (ee b.fs) cF] 99):=(hR5.set 0 _).set 1 _;have yq:af (aa (Only R) w5 ((w5.setCell ⟨R,0,ez⟩ (eK oM (ee b.ms) cM)).setCell ⟨R,1,ez⟩ (eK oF (ee b.fs) cF))):=(aA.bz _ _).bz _ _;clear hp1 hp2 hp3 yu hs1 hs2 hm5 hfin adD HSO hB5 hR5;go_wp2_with fail;exact bodyPost_ret (results_cell_row results27 _ _ R 99 #[eK oM (ee b.ms) cM,eK oF (ee b.fs) cF] (0,0) _ rfl Je.o underlying99 rfl (by kernel_rfl)) rfl (HFI.o _ yq.o)
def Xd(ms:List aW)(fs:List cZ):tLB:=qo 1 ms fs++b8 (nZ (pcntR fs))++prefF 0 fs
def Ep(l:tLB)(s:tBA)(c n:Nat):Prop :=
 if 4000<ee l then s=⟨#[]⟩/\c=1/\n=0
 else match parseP (linesP l) eE 0 []with
  |.inr k=>s=⟨#[]⟩/\c=2/\n=k
  |.inl ls=>if(firstP (au ls) ls {} 0).1=0 then(c=0/\n=0/\∃ms fs,ms.Perm (aZ (au ls) ls).ms/\ms.Pairwise (λx y=>mo (T y.name) (T x.name)=eE)/\fs.Perm (aZ (au ls) ls).fs/\fs.Pairwise (λx y=>mo (T y.name) (T x.name)=eE)/\s=T (Xd ms fs))
   else s=⟨#[]⟩/\c=(firstP (au ls) ls {} 0).1/\n=(firstP (au ls) ls {} 0).2
theorem Ep.ok{l:tLB}{ls:List fJ}{ms:List aW}{fs:List cZ}(hb:¬4000<ee l)(hp:parseP (linesP l) eE 0 []=.inl ls)(h0:(firstP (au ls) ls {} 0).1=0)(h1:ms.Perm (aZ (au ls) ls).ms)(h2:ms.Pairwise (λx y=>mo (T y.name) (T x.name)=eE))(h3:fs.Perm (aZ (au ls) ls).fs)(h4:fs.Pairwise (λx y=>mo (T y.name) (T x.name)=eE)):Ep l (T (Xd ms fs)) 0 0:=by
 unfold Ep;rw[iN9 hb,hp];show if(firstP (au ls) ls {} 0).1=0 then _ else _
 rw[iP9 h0];exact⟨rfl,rfl,ms,fs,h1,h2,h3,h4,rfl⟩
def Hm(w:tW)(l:tLB)(e:Ending)(w':tW):Prop:=∃s c n,e=fR (gb #[eI s,vI (c:Nat),vI (n:Nat)])/\Ep l s c n/\aa ah w w'
set_option linter.all false
def abZ(t:tLB):Bool:=match dP t with
 |some x=>decide (1<=x.kind/\x.kind<=4)
 |none=>eE
theorem ab0{t:tLB}(h:abZ t=eJ):Ji t:=by
 unfold abZ at h;cases hl:dP t with
 |none=>rw[hl]at h;cases h
 |some x=>rw[hl]at h;exact⟨x,hl,of_decide_eq_true h⟩
structure TxM(t:tLB)(ls:List fJ):Prop where
 big:¬4000<ee t
 read:parseP (linesP t) eE 0 []=.inl ls
 fit:(firstP (au ls) ls {} 0).1=0
 lns:∀u∈linesP t,Ji u
 sz:∀x∈ls,x.kind=1->(0<=tO (x.ns.getD 0 aD)/\tO (x.ns.getD 0 aD)<256)/\(0<=tO (x.ns.getD 1 aD)/\tO (x.ns.getD 1 aD)<256)/\(0<=tO (x.ns.getD 2 aD)/\tO (x.ns.getD 2 aD)<256)
 enc:∀ms fs,ms.Perm (aZ (au ls) ls).ms->ms.Pairwise (λx y=>mo (T y.name) (T x.name)=eE)->fs.Perm (aZ (au ls) ls).fs->fs.Pairwise (λx y=>mo (T y.name) (T x.name)=eE)->EOk ms fs/\(∀f∈fs,∀x∈f.code,ee x.name<=255)/\uR fs<=1000/\(qo 1 ms fs).length<=300000
theorem zu:∀(ts:List tLB) (nY:Bool) (n:Nat) (acc ls:List fJ),parseP ts nY n acc=.inl ls->(∀t∈ts,Ji t)->(∀x∈acc,1<=x.kind/\x.kind<=4)->∀x∈ls,1<=x.kind/\x.kind<=4
 |[],_,_,acc,ls,h,_,ha=>by rw[parseP]at h;injection h with h;rw[<-h];exact ha
 |t::ts,nY,n,acc,ls,h,hq,ha=>by
  obtain⟨y,hy,hk⟩:=hq t (by simp);rw[parseP,hy]at h;dsimp only at h;split at h
  ·cases h
  ·refine zu ts _ _ _ ls h (λu hu=>hq u (List.mem_cons_of_mem _ hu)) (λx hx=>?_);rcases List.mem_append.1 hx with hx|hx
   ·exact ha x hx
   ·rw[List.mem_singleton.1 hx];exact hk
theorem aao(w:tW)(l:tLB)(hW:xG w)(hE:Env w)(hM:wo w)(ls:List fJ)(hT:TxM l ls):fL prog 15 #[eI (T l)] w λe w'=>Hm w l e w':=by
 have HTB:=ai (zP w hW);have hsz:(T l).size=ee l:=rfl;obtain⟨hbig,hp,h0,hq,hms,hen⟩:=hT;have ZA:=ai (λw' v bs h m=>parseM_any w' w' v bs l h aA (hE.ae m) (hM.ae m) (by omega) hq ⟨ls,hp⟩);have hkk:=zu _ _ _ _ _ hp hq (λx h=>(by cases h));obtain⟨hin,hk4,hnl⟩:=Rp hp;have HOU:=ai (λwT w' v vL bs hO m hL=>Jm wT wT w' v vL bs ls hO m hL hin hk4 hkk (by omega));have HFI:=ai (λwT wO w' v vL vF bm lb bs hO m hL hA=>Ro wT wT wO w' v vL vF bm lb bs ls hO m hL hA hin hk4 (by omega) hkk h0);rw[hp]at ZA;have HBU:=ai (λwT wO w' v vL vF bm lb bs hO m hL hA=>SF wT wT wO w' v vL bs ls bm vF lb hO m hL hA hin hk4 (by omega) hms);have HEN:af (∀w' v bs vM vF ms fs vs,tu w' v bs vM vF ms fs vs->ms.Perm (aZ (au ls) ls).ms->ms.Pairwise (λx y=>mo (T y.name) (T x.name)=eE)->fs.Perm (aZ (au ls) ls).fs->fs.Pairwise (λx y=>mo (T y.name) (T x.name)=eE)->fL prog 26 #[fW #[vM,vF]] w' λe w''=>e=fR (eI (T (Xd ms fs)))/\aa ah w' w''):=λw' v bs vM vF ms fs vs hP hm hm2 hf hf2=>by obtain⟨h1,h2,h3,h4⟩:=hen ms fs hm hm2 hf hf2;exact JR w' v bs vM vF ms fs vs hP h1 h2 h3 h4
 have HF:af (∀w' ms fs,ms.Perm (aZ (au ls) ls).ms->ms.Pairwise (λx y=>mo (T y.name) (T x.name)=eE)->fs.Perm (aZ (au ls) ls).fs->fs.Pairwise (λx y=>mo (T y.name) (T x.name)=eE)->aa ah w w'->Hm w l (fR (gb #[eI (T (Xd ms fs)),vI 0,vI 0])) w'):=λw' ms fs h1 h2 h3 h4 m=>⟨_,0,0,rfl,Ep.ok hbig hp h0 h1 h2 h3 h4,m⟩
 clear hp hin hk4 hms hen;generalize linesP l=ll at *;generalize T l=t at *;generalize Hm w l=RP at *;generalize firstP (au ls) ls {} 0=fp at *;generalize aZ (au ls) ls=bb at *;obtain⟨f1,f2⟩:=fp;dsimp only at *;go_in;go_wp2_with fail;refine HTB.o.mono ?_;rintro e w2 ⟨v,bs,rfl,hO2,m2⟩;have pO:=ZA.o w2 v bs hO2 m2;have HO2:=ai hO2;have dV:=ai m2;clear hO2 m2 ZA HTB;go_wp2_with fail;refine pO.mono ?_;rintro e w3 ⟨vL,rfl,hL3⟩;have Vy:=ai hL3;clear hL3 pO;have Rk:=HOU.o w2 w3 v vL bs HO2.o Vy.o.md Vy.o;obtain⟨oL,cL,Ni,_⟩:=Vy.o.sl.view;subst Ni;go_wp2_with fail;refine Rk.mono ?_;rintro e w4 ⟨bm,vF,lb,rfl,hA4⟩;have Yb:=ai hA4;clear hA4 Rk;obtain⟨oF,cF,qi,_⟩:=Yb.o.sl.view;subst qi;have jr:=ai (ak.new w4 #[jn (eC bm),eK oF (ee (au ls).fs) cF] 91);have jK:af (aa ah w4 (w4.alloc (eR #[jn (eC bm),eK oF (ee (au ls).fs) cF] 91))):=aq;generalize hol:au ls=ol at *;go_upto_region 7 with fail;generalize w4.alloc (eR #[jn (eC bm),eK oF (ee ol.fs) cF] 91)=w5 at *;generalize w4.heap.size=X at *;have HL5:=ai ((Vy.o.quiet Yb.o.md).quiet jK.o);have HA5:=ai (Yb.o.quiet jK.o);have x0:=jr.o.c0;have x1:=jr.o.c1;have HC5:=HFI.o w2 w3 w5 v (eK oL (ee ls) cL) (eK oF (ee ol.fs) cF) bm lb bs HO2.o HL5.o.md HL5.o HA5.o;go_wp2_with fail;refine HC5.mono ?_;rintro e w6 ⟨rfl,m6⟩;have HL6:=ai (HL5.o.quiet m6);have HA6:=ai (HA5.o.quiet m6);have hB6:=jr.o.ae m6 id;have y0:=hB6.c0;have y1:=hB6.c1;clear m6 hB6 x0 x1 HC5;have HC6:=HBU.o w2 w3 w6 v (eK oL (ee ls) cL) (eK oF (ee ol.fs) cF) bm lb bs HO2.o HL6.o.md HL6.o HA6.o;subst h0;go_wp2_with fail;refine HC6.mono ?_;rintro e w7 ⟨vM,vF,ms,fs,vs,rfl,hP7,p1,p2,p3,p4,m7⟩;have HC7:=HEN.o w7 v bs vM vF ms fs vs hP7 p1 p2 p3 p4;have HFF:=ai (λw' m'=>HF.o w' ms fs p1 p2 p3 p4 (dV.o.trans (HL6.o.md.trans (m7.trans m'))));clear hP7 p1 p2 p3 p4 m7 HC6;go_wp2_with fail;refine HC7.mono ?_;rintro e w8 ⟨rfl,m8⟩;have Gf:=ai m8;clear m8;go_wp2_with fail;go_ret3;exact HFF.o _ Gf.o
def ab1(t:tLB):BS:=match parseP (linesP t) eE 0 []with
 |.inl ls=>aZ (au ls) ls
 |.inr _=>{}
def adE(t:tLB):Nat:=match parseP (linesP t) eE 0 []with
 |.inl ls=>(firstP (au ls) ls {} 0).1
 |.inr _=>1
