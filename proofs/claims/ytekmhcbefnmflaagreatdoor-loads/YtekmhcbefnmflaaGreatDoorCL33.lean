import Derived.Deep.Upon
import Derived.Shelf.SlSortCmp.WholeK
import Derived.Shelf.Small.Strs
import Derived.Test.YtekmhcbefnmflaaGreatDoorCL02
import Derived.Test.YtekmhcbefnmflaaGreatDoorCL28
import Derived.Test.YtekmhcbefnmflaaGreatDoorCL30
namespace Go.Proofs.YtekmhcbefnmflaaGreatDoor
open Go.RowKit Tryz
open Go.RowKit Go.Sort
open _root_.Array renaming length_toList->cj
open Lib renaming compareBytes->ab
open List renaming getElem_append_left->an,getElem_set->ao,ext_getElem->bh,cons_lt_cons_iff->bt,mem_or_eq_of_mem_set->b5,getElem_mem->b9,length_set->cb,flatMap_append->cw,length_append->cx,length->ee
open Nat renaming zero_le->ar,le_trans->cy,lt_of_lt_of_le->cD,le_refl->cG
open Bool renaming false->eE,true->eJ
open Decidable renaming decide->eS
open Ending renaming returned->fR
open Obj renaming cells->eR
open Option renaming some->eC,none->ez
open Value renaming agg->fW,slice->eK,string->eI,func->eL,tuple->gb
open _root_.Go renaming TypeId->gh,Value->eM,Addr->ju,Calls->fL,callFunc->rB,bodyPost_ret->iz,results_none->tA
set_option linter.all false
set_option maxRecDepth 100000
set_option maxHeartbeats 1000000
theorem aab(x:tLB):∀y:tLB,Op.bytesLess x y=eS (x<y):=by
 induction x with
 |nil=>intro y;cases y<;>simp[Op.bytesLess]
 |cons a x ih =>
  intro y;cases y with
  |nil=>simp[Op.bytesLess]
  |cons b y =>
   rw[Op.bytesLess,ih y];by_cases h:a=b
   ·subst h;simp
   ·simp[bt,h]
theorem GY(a b:tBA):mo a b=eS (a.toList<b.toList):=by unfold mo;exact aab _ _
theorem MC(a:tBA):mo a a=eE:=by rw[GY];simp[List.lt_irrefl]
theorem Fm{a b c:tBA}(h1:mo a b=eJ)(h2:mo b c=eJ):mo a c=eJ:=by rw[GY]at *;simp only[decide_eq_true_eq]at *;exact List.lt_trans h1 h2
theorem Rz{a b:tBA}(h1:mo a b=eE)(h2:mo b a=eE):a=b:=by rw[GY]at *;simp only[decide_eq_false_iff_not]at *;have h3:=List.le_antisymm (List.not_lt.1 h2) (List.not_lt.1 h1);apply ByteArray.ext;apply Array.toList_inj.1;rw[<-ByteArray.toList_eq,<-ByteArray.toList_eq];exact h3
theorem RA{a b c:tBA}(h1:mo b a=eE)(h2:mo c b=eE):mo c a=eE:=by
 cases h:mo c a with
 |false=>rfl
 |true =>
  cases h3:mo b c with
  |true=>have:=Fm h3 h;rw[h1]at this;cases this
  |false =>have:=Rz h2 h3;subst this;rw[h1]at h;cases h
theorem Dy{P:Program}(w:tW)(t ty e:gh)(i:TypeInfo)(z:eM)(size bytes:Nat)(ht:P.underlying t=eC (.slice e))(hi:P.info? e=eC i)(hz:i.zero=eC z)(hsize:i.size=size) (hby:i.bytes=bytes) (hzs:z.cells.size=size) (hsz:0<size)(v:eM) (n:Nat) (xs:tLV) (hown:Sl w e size v n xs) (u:eM) (m:Nat) (ys:tLV) (RB:Sl w e size u m ys) (h1:∀u∈ys,u.oneCell'=eJ)(h63:n+m<=maxLen) (hbytes:(n+m)*bytes<=140737488355328):∃v' w',(Builtin.append_ #[t,t] ty #[v,u]).run P w=.ok v' w'/\Sl w' e size v' (n+m) (xs++ys)/\aa (λk=>v.ownBlock=eC k) w w'/\(∀k,v'.ownBlock=eC k->v.ownBlock=eC k\/w.heap.size<=k):=by
 rcases RB.2 with⟨rfl,rfl⟩ |⟨g,cap,cur,rfl,_,hg,hn,hm,hcs,htk⟩
 ·have hy:=List.length_eq_zero_iff.1 (by rw[RB.1];omega);subst hy;obtain⟨o,c,hv,h2⟩:=hown.view
  have hle:n<=c:=by
   rcases hown.2 with⟨rfl,rfl⟩ |⟨g,cap,cur,rfl,_,hg,hn,hm,hcs,htk⟩
   ·exact ar _
   ·cases hv;exact hn
  subst hv;have:=run_append_nothing (P:=P) w t t ty e i ht hi o n c hle (vN) (Src.ofNil w ht 0);exact⟨_,_,this,by rw[List.append_nil];exact hown,aA,λk hk=>.inl hk⟩
 ·refine wF (P:=P) w t ty e i z size bytes ht hi hz hsize hby hzs hsz v n xs hown ⟨g,0,ez⟩ m cap ys RB.1 ?_ h1 h63 hbytes;intro j x hx;have hb:ak w g cur e:=hg;have hadd:(⟨g,0,ez⟩:ju).add j=⟨g,j,ez⟩:=by unfold Addr.add;split<;>simp_all
  have hj:=(List.getElem?_eq_some_iff.1 hx).1;rw[hadd,aX hb htk j (by rw[<-RB.1];exact hj),hx]
theorem oQ{P:Program}(w:tW){ops:Array Oper}{rest:List Oper}{o:Oper}{a:Act}{Q:Exit->Act->tW->Prop}(hgd:o.guard=ez)(s x:Operand)(t:gh)(ho:o.op=.call {callee:=.builtin .append,args:=#[s,x],argTypes:=#[t,t]})(e:gh) (i:TypeInfo) (z:eM) (size bytes:Nat) (ht:P.underlying t=eC (.slice e)) (hi:P.info? e=eC i) (hz:i.zero=eC z)(hsize:i.size=size) (hby:i.bytes=bytes) (hzs:z.cells.size=size) (hsz:0<size)(v:eM) (n:Nat) (xs:tLV) (hs:a.eval s=v) (hown:Sl w e size v n xs) (u:eM) (m:Nat) (ys:tLV) (hx:a.eval x=u) (RB:Sl w e size u m ys) (h1:∀u∈ys,u.oneCell'=eJ)(h63:n+m<=maxLen) (hbytes:(n+m)*bytes<=140737488355328)(h:∀v' w',Sl w' e size v' (n+m) (xs++ys)->aa (λk=>v.ownBlock=eC k) w w'->(∀k,v'.ownBlock=eC k->v.ownBlock=eC k\/w.heap.size<=k)->wpList P ops Q rest (a.put o.dst v') w'):wpList P ops Q (o::rest) a w:=by refine wpList_plain hgd λ_ hK=>?_;obtain⟨v',w',hr,h2,h3,h4⟩:=Dy (P:=P) w t o.type e i z size bytes ht hi hz hsize hby hzs hsz v n xs hown u m ys RB h1 h63 hbytes;unfold Oper.wp execOp;simp only[ho,resolve,invoke,builtin,Sem.run_bind,Sem.run_pure,Result.andThen_ok,List.map_toArray,List.map_cons,List.map_nil,hs,hx,hr];exact hK _ _ (h v' w' h2 h3 h4)
def Ap(fs:List cZ):Nat:=(fs.map (λf=>aL f.code)).sum
theorem RC(fs:List cZ)(k:Nat)(h:k<ee fs):Ap (fs.take (k+1))=Ap (fs.take k)+aL fs[k].code:=by unfold Ap;rw[List.take_add_one,List.map_append,List.sum_append];simp[h]
theorem aac(w:tW)(tv:eM)(bs:tLN)(vM vF:eM)(ms:List aW)(fs:List cZ)(vs:tLV)(hP:ZY w tv bs vM vF ms fs vs)(hm:ee ms<=1000)(hf:ee fs<=1000)(hok:∀f∈fs,ee f.code<=200/\∀x∈f.code,kz x)(hsum:∀k,Ap (fs.take k)<=1000000):fL prog 70 #[fW #[vM,vF]] w λe w'=>e=fR (.bool (eS (8<ee ms)||decide (16<ee fs)||decide (200<Ap fs)))/\aa ah w w':=by
 obtain⟨oM,cM,Ol,_⟩:=hP.maps.view;obtain⟨oF,cF,qi,_⟩:=hP.rows.view;subst Ol qi;have HP:=ai hP;have AY:=ai hok;have HSU:=ai hsum;have HB0:=ai (ak.new w #[eK oM (ee ms) cM,eK oF (ee fs) cF] 99);have dU:af (aa ah w (w.alloc (eR #[eK oM (ee ms) cM,eK oF (ee fs) cF] 99))):=aq;clear hP hok hsum;obtain⟨r,hr⟩:∃r:Bool,r=(eS (8<ee ms)||decide (16<ee fs)||decide (200<Ap fs)):=⟨_,rfl⟩
 rw[<-hr];have fQ:=ai hr;clear hr;go_in;go_wp2_with fail;generalize w.alloc (eR #[eK oM (ee ms) cM,eK oF (ee fs) cF] 99)=wB at *;generalize w.heap.size=B at *;go_loopg [3,9] (ee fs) (λg sv iv wx=>∃k:Nat,iv=vI k/\sv=vI (Ap (fs.take k))/\aa ah wB wx/\k<=ee fs/\g=ee fs-k)
 case atStart=>exact⟨0,rfl,rfl,aA,ar _,rfl⟩
 case round =>
  obtain⟨k,rfl,rfl,hmd,hk,rfl⟩:=hrel;have HMD:=ai hmd;clear hmd;have hs0:=HSU.o k;by_cases hkl:k<ee fs
  ·have En:=HP.o.quiet (dU.o.trans HMD.o);have Bd:k<ee vs:=by rw[En.len];exact hkl
   obtain⟨gF,rfl,c0,c1⟩:=En.XR k hkl Bd;have hk1:=AY.o fs[k] (b9 hkl);have sZ:=En.code k hkl Bd;have HST:=ai (RC fs k hkl);have hs1:=HSU.o (k+1);rw[HST.o]at hs1;have HPS:=ai (λw' m=>Dl w' tv bs (En.ops.ae m) fs[k].code hk1.2 (by have:=hk1.1;omega) _ (sZ.ae m (λ_ _=>id)) (T fs[k].name));obtain⟨oC,cC,hvC,_⟩:=sZ.view;rw[hvC]at c1 HPS;clear En sZ hk1 hvC;generalize T fs[k].name=tn at *;generalize aL fs[k].code=sp at *;generalize ee fs[k].code=cl at *;generalize Ap (fs.take k)=sk at *;go_wp2_with fail;refine(HPS.o _ aq).mono ?_;rintro e w2 ⟨rfl,m2⟩;have dV:=ai ((HMD.o.alloc _).trans m2);clear m2;go_wp2_with fail;go_roundg (ee fs-(k+1))
   case measure=>omega
   case rel=>exact⟨k+1,by go_num,by rw[HST.o];go_num,dV.o,by omega,rfl⟩
  ·obtain rfl:k=ee fs:=by omega
   have HSE:af (Ap (fs.take (ee fs))=Ap fs):=by rw[af,List.take_length]
   rw[HSE.o]at hs0 ⊢;have q0:=(HB0.o.ae HMD.o id).c0;have q1:=(HB0.o.ae HMD.o id).c1;have HMF:=ai (dU.o.trans HMD.o);generalize Ap fs=sf at *;by_cases h1:8<ee ms
   ·have HR:af (r=eJ):=by rw[af,fQ.o];simp[h1]
    go_wp2_with fail;go_ret;exact⟨by rw[HR.o];rfl,HMF.o⟩
   ·by_cases h2:16<ee fs
    ·have HR:af (r=eJ):=by rw[af,fQ.o];simp[h2]
     have t1:eS ((8:Int)<(ee ms:Int))=eE:=by simp;omega
     go_wp2_with fail;go_ret;exact⟨by rw[HR.o];rfl,HMF.o⟩
    ·have HR:af (r=eS (200<sf)):=by rw[af,fQ.o];simp[h1,h2]
     have t1:eS ((8:Int)<(ee ms:Int))=eE:=by simp;omega
     have t2:eS ((16:Int)<(ee fs:Int))=eE:=by simp;omega
     have HD:af (eS ((200:Int)<(sf:Int))=eS (200<sf)):=by rw[af];congr 1;exact propext (by omega)
     go_wp2_with fail;go_ret;exact⟨by rw[HR.o,<-HD.o];rfl,HMF.o⟩
theorem xN.XR{w:tW}{lo:Nat}{bs:tLN}{oF:Option ju}{cF:Nat}{fs:List cZ}{vs:tLV}(h:xN w lo bs (eK oF (ee fs) cF) fs vs)(k:Nat)(hk:k<ee fs)(hv':k<ee vs):∃g,oF=eC ⟨g,0,ez⟩/\w.cell? ⟨g,k*2,ez⟩=eC (eI (T fs[k].name))/\w.cell? ⟨g,k*2+1,ez⟩=eC vs[k]:=by
 obtain⟨o',cap',hv,h2⟩:=h.sl.view;cases hv;obtain⟨g,cs,rfl,hb,ht,_⟩:=h2 (by omega);have hz:k<ee ((fs.map (·.name)).zip vs):=by simp only[List.length_zip,List.length_map];omega
 have key:∀c,c<2->w.cell? ⟨g,k*2+c,ez⟩=(wR (fs[k].name,vs[k]))[c]?:=λc hc=>by rw[aX hb ht (k*2+c) (by omega)];have:=flat_get wR 2 (λ_=>rfl) ((fs.map (·.name)).zip vs) k c hz hc;rw[this,List.getElem_zip,List.getElem_map]
 exact⟨g,rfl,key 0 (by omega),key 1 (by omega)⟩
theorem RD:∀k,k<88->(ax[k]?.getD kg).aJ<=2:=by decide +kernel
theorem kz.refs{x:PI}(h:kz x):x.o.aJ<=2:=RD x.k h.k
section
variable {α : Type} [Inhabited α]
theorem xU(enc:α->tLV)(k:Nat)(hk:∀x,ee (enc x)=k)(l:List α):(flatK enc k l.toArray).toList=l.flatMap enc:=by
 have hl:ee (l.flatMap enc)=ee l*k:=by
  induction l with
  |nil=>simp
  |cons x l ih=>rw[List.flatMap_cons,cx,ih,hk,List.length_cons,Nat.succ_mul,Nat.add_comm]
 refine bh (by rw[cj,size_flatK,hl];rfl) λt h1 h2=>?_;have ht:t<ee l*k:=by rw[<-hl];exact h2
 have k0:0<k:=by
  rcases Nat.eq_zero_or_pos k with h|h
  ·subst h;simp at ht
  ·exact h
 have hi:=Nat.div_lt_of_lt_mul (by rw[Nat.mul_comm];exact ht);have hc:=Nat.mod_lt t k0;have e:=flat_get enc k hk l (t/k) (t%k) hi hc;rw[Nat.div_add_mod' t k,List.getElem?_eq_getElem h2]at e;have e1:(flatK enc k l.toArray).toList[t]=(flatK enc k l.toArray)[t]!:=by rw[getElem!_pos (flatK enc k l.toArray) t (by simpa using h1)];simp
 rw[e1,get_flatK enc k l.toArray t (by simpa using ht)];have e2:l.toArray[t/k]! = l[t/k]:=by rw[getElem!_pos l.toArray (t/k) (by simpa using hi)];simp
 rw[e2];have e3:(enc l[t/k])[t%k]?=eC (enc l[t/k])[t%k]!:=by rw[getElem!_pos (enc l[t/k]) (t%k) (by rw[hk];exact hc),List.getElem?_eq_getElem (by rw[hk];exact hc)]
 rw[e3]at e;exact(Option.some.inj e).symm
theorem RF{d d':Array α}{n:Nat}(hn:n=d.size)(h:PermIn 0 n d d'):d'.toList.Perm d.toList:=by
 obtain⟨hs,_,hp⟩:=h;subst hn;have e1:(d'.extract 0 d.size).toList=d'.toList:=by rw[<-hs];simp
 have e2:(d.extract 0 d.size).toList=d.toList:=by simp
 rwa [e1,e2]at hp
theorem JW{lt:α->α->Bool}{d:Array α}{n:Nat}(hn:n=d.size)(h:SortedIn lt 0 n d):d.toList.Pairwise (λx y=>lt y x=eE):=by
 rw[List.pairwise_iff_getElem];intro i j hi hj hij;have:=h i j (ar _) hij (by rw[hn];simpa using hj);rw[getElem!_pos d i (by simpa using hi),getElem!_pos d j (by simpa using hj)]at this
 simpa using this
theorem Wi{w:tW}{g:Nat}{o:Obj}{os:Array Obj}(h:w.heap[g]?=eC o):(grow w os).heap[g]?=eC o:=by
 have hg:=(Array.getElem?_eq_some_iff.1 h).1;show(w.heap++os)[g]?=_
 rw[Array.getElem?_append_left hg,h]
theorem GZ{w:tW}{e:gh}(enc:α->tLV)(k:Nat)(hk:∀x,ee (enc x)=k){g cap n:Nat}{l l':List α}(hl:ee l'=ee l)(hs:Sl w e k (eK (eC ⟨g,0,ez⟩) (ee l) cap) (ee l) (l.flatMap enc))(os:Array Obj):Sl (sortWorldK enc k w g 0 n l'.toArray os) e k (eK (eC ⟨g,0,ez⟩) (ee l) cap) (ee l) (l'.flatMap enc)/\aa (λb=>b=g) w (sortWorldK enc k w g 0 n l'.toArray os):=by
 have hF:=xU enc k hk l';have hFs:(flatK enc k l'.toArray).size=ee l*k:=by rw[size_flatK];simp[hl]
 have hlen:ee (l'.flatMap enc)=ee l*k:=by rw[<-hF,cj,hFs]
 generalize flatK enc k l'.toArray=F at hF hFs;rcases hs.2 with⟨h,_⟩ |⟨g',cap',cur,h,h0,hg,hn,hm,hcs,ht⟩
 ·cases h
 cases h
 have hb:(sortWorldK enc k w g 0 n l'.toArray os).heap[g]?=eC (eR (putCells id 0 (flatK enc k l'.toArray) cur) e):=by
  refine Wi ?_;show(w.heap.modify g _)[g]?=_
  rw[Array.getElem?_modify,iP9 rfl,hg];rfl
 refine⟨⟨hlen,.inr ⟨g,cap,_,rfl,h0,hb,hn,hm,?_,?_⟩⟩,⟨rfl,rfl,rfl,?_,λb hb1 hb2=>?_⟩⟩
 ·unfold putCells;rw[Array.size_mapIdx,hcs]
 ·rw[<-xU enc k hk l'];have af4:(flatK enc k l'.toArray).size=ee l*k:=by rw[size_flatK];simp[hl]
  have af5:ee l*k<=cur.size:=by rw[hcs];exact Nat.mul_le_mul_right _ hn
  refine bh (by simp[putCells,hl];omega) λt h1 h2=>?_;have h3:t<(flatK enc k l'.toArray).size:=by simpa using h2
  rw[List.getElem_take];simp only[putCells,Array.getElem_toList,Array.getElem_mapIdx];rw[iP9 ⟨ar _,by omega⟩,Nat.sub_zero,getElem!_pos _ t h3];rfl
 ·show w.heap.size<=(w.heap.modify g _++os).size
  simp
 ·show(w.heap.modify g _++os)[b]?=_
  rw[Array.getElem?_append_left (by simpa using hb1),Array.getElem?_modify,iN9 (λe=>hb2 e.symm)]
theorem RG{w:tW}{e:gh}(enc:α->tLV)(k:Nat)(hk:∀x,ee (enc x)=k){g cap:Nat}{l:List α}(hs:Sl w e k (eK (eC ⟨g,0,ez⟩) (ee l) cap) (ee l) (l.flatMap enc)):HoldsK enc k w g 0 l.toArray/\g<w.heap.size:=by
 rcases hs.2 with⟨h',_⟩ |⟨g',cap',cs,h',_,hg,_,_,_,ht⟩
 ·cases h'
 cases h';have hb:ak w g cs e:=hg;refine⟨λj hj=>?_,hb.lt⟩;rw[Nat.zero_add];refine⟨?_,hb.frozen _⟩;have hj':j<ee l*k:=by rw[size_flatK]at hj;simpa using hj
 rw[aX hb ht j hj',<-xU enc k hk l,getElem!_pos _ j hj,List.getElem?_eq_getElem (by simpa using hj)];simp
theorem Om{ρ:Go.Shelf.Ren}(L:SlLaysF0.n6 prog ρ)(k:Nat)(aE:∀w,(isAgg (ρ.t 24)).run prog w=.ok eJ w)(zE:∀w,(Go.sizeOf (ρ.t 24)).run prog w=.ok k w)(enc:α->tLV)(hk:∀x,ee (enc x)=k)(h1:∀x,∀v∈enc x,v.oneCell'=eJ)(cf:α->α->Int)(hO:SWO (ltOf cf))(f:Nat)(eg:∀args w,(rB f args).run prog w=.ok (.enter f args) w) (hcmp:∀(w:tW) x y,fL prog f #[fW (enc x).toArray,fW (enc y).toArray] w λe w'=>e=fR (vI (cf x y))/\∃q os',w'=grow (w.drewN q) os')(w:tW) (e:gh) (v:eM) (l:List α) (g cap:Nat) (hv:v=eK (eC ⟨g,0,ez⟩) (ee l) cap) (hl:ee l<=1000000) (hs:Sl w e k v (ee l) (l.flatMap enc)):fL prog (ρ.f 6) #[v,eL (.func f) #[] #[]] w λr w'=>r=fR (gb #[])/\∃l':List α,l'.Perm l/\l'.Pairwise (λx y=>ltOf cf y x=eE)/\Sl w' e k v (ee l') (l'.flatMap enc)/\aa (λb=>v.ownBlock=eC b) w w':=by
 subst hv;obtain⟨hH,hg⟩:=RG enc k hk hs;have hcon:=AnyQ.slices_SortFunc L k aE zE enc hk h1 cf hO f #[] g 0 cap l.toArray w eg (λm os dk _ x y=>hcmp _ x y) hH hg (by simp;omega);refine hcon.mono ?_;rintro r w' ⟨rfl,d',n,os,hp,hso,rfl⟩;have hp':=RF rfl hp;have hs':=JW (d:=d') (by rw[hp.1]) hso;have e1:ee d'.toList=ee l:=by rw[hp'.length_eq]
 obtain⟨hA,hB⟩:=GZ (n:=n) enc k hk (l':=d'.toList) e1 hs os;refine⟨rfl,d'.toList,by simpa using hp',hs',?_,?_⟩
 ·rw[e1];exact hA
 ·exact⟨hB.os,hB.tape,hB.output,hB.size,λb hb hn=>hB.block b hb (λe=>hn (by rw[e];rfl))⟩
end
theorem Oo:∀a b:tLB,eS (ab a b<0)=eS (a<b)
 |[],[]=>by simp[ab,List.lt_irrefl]
 |[],b::bs=>by simp[ab]
 |a::as',[]=>by simp[ab]
 |a::as',b::bs=>by
  unfold ab;by_cases h:a<b
  ·rw[iP9 h];simp[bt,h]
  ·rw[iN9 h];by_cases h2:b<a
   ·rw[iP9 h2];have h3:¬a=b:=λe=>by subst e;exact h h2
    simp[bt,h,h3]
   ·rw[iN9 h2];have h3:a=b:=by apply UInt8.toNat_inj.1;have h4:¬a.toNat<b.toNat:=λe=>h (UInt8.lt_iff_toNat_lt.2 e);have h5:¬b.toNat<a.toNat:=λe=>h2 (UInt8.lt_iff_toNat_lt.2 e);omega
    subst h3;rw[Oo as' bs];simp
section
variable {α : Type} (nm : α -> List UInt8)
def cfN(x y:α):Int:=ab (nm x) (nm y)
theorem ltN(x y:α):ltOf (cfN nm) x y=mo (T (nm x)) (T (nm y)):=by
 unfold ltOf cfN;rw[Oo,GY];have e:∀l:tLB,(T l).toList=l:=λl=>by rw[ByteArray.toList_eq];simp[T]
 rw[e,e]
theorem adn:SWO (ltOf (cfN nm)) where
 irrefl x:=by rw[ltN];exact MC _
 trans x y z h1 h2:=by rw[ltN]at *;exact Fm h1 h2
 ntrans x y z h1 h2:=by rw[ltN]at *;exact RA h2 h1
end
theorem Oq(w:tW)(a b:tLB):fL prog 149 #[eI (T a),eI (T b)] w λe w'=>e=fR (vI (ab a b))/\w'=w:=by
 have h:=Any.strings_Compare lc (T a) (T b) w;have e:∀l:tLB,(T l).data.toList=l:=λl=>by simp[T]
 rw[e,e]at h;exact h
theorem JX(w:tW):fL prog 270 #[vU 0] w λe w'=>e=fR (vI 0)/\w'=w:=by have h:=Any.bits_Len lb 0 w (by omega) (by omega);refine h.mono ?_;rintro e w' ⟨rfl,rfl⟩;exact⟨rfl,rfl⟩
theorem RH(w:tW)(a b:tLB)(x1 x2 x3 y1 y2 y3:Int):fL prog 148 #[fW #[eI (T a),vB x1,vB x2,vB x3],fW #[eI (T b),vB y1,vB y2,vB y3]] w λe w'=>e=fR (vI (ab a b))/\∃q os',w'=grow (w.drewN q) os':=by have hcon:=λW=>Oq W a b;generalize ab a b=r at *;generalize T a=ta at *;generalize T b=tb at *;go_in;go_wp2_with fail;refine(hcon _).mono ?_;rintro e w' ⟨rfl,rfl⟩;go_wp2_with fail;go_ret;exact⟨rfl,0,_,by rw[alloc_eq_grow,alloc_eq_grow,grow_grow];rfl⟩
theorem RI(w:tW)(a b:tLB)(o1 o2:Option ju)(n1 c1 n2 c2:Nat):fL prog 151 #[fW #[eI (T a),eK o1 n1 c1],fW #[eI (T b),eK o2 n2 c2]] w λe w'=>e=fR (vI (ab a b))/\∃q os',w'=grow (w.drewN q) os':=by have hcon:=λW=>Oq W a b;generalize ab a b=r at *;generalize T a=ta at *;generalize T b=tb at *;go_in;go_wp2_with fail;refine(hcon _).mono ?_;rintro e w' ⟨rfl,rfl⟩;go_wp2_with fail;go_ret;exact⟨rfl,0,_,by rw[alloc_eq_grow,alloc_eq_grow,grow_grow];rfl⟩
structure iT where
 f:cZ
 o:Option ju
 n:Nat
 c:Nat
def iT.v(x:iT):eM:=eK x.o x.n x.c
def iT.cells(x:iT):tLV:=[eI (T x.f.name),eK x.o x.n x.c]
theorem ME(w:tW)(v:eM)(l:List aW)(g cap:Nat)(hv:v=eK (eC ⟨g,0,ez⟩) (ee l) cap)(hl:ee l<=1000000)(hs:Sl w 113 4 v (ee l) (l.flatMap aW.cells)):fL prog 147 #[v,eL (.func 148) #[] #[]] w λr w'=>r=fR (gb #[])/\∃l':List aW,l'.Perm l/\l'.Pairwise (λx y=>mo (T y.name) (T x.name)=eE)/\Sl w' 113 4 v (ee l') (l'.flatMap aW.cells)/\aa (λb=>v.ownBlock=eC b) w w':=by
 have eg:∀args w,(rB 148 args).run prog w=.ok (.enter 148 args) w:=enters_of func148 (by kernel_rfl) rfl;have inh:Inhabited aW:=⟨⟨[],0,0,0⟩⟩
 have h:=Om soM 4 isAgg113 sizeOf113 aW.cells (λ_=>rfl) (λx v hv=>by simp[aW.cells]at hv;rcases hv with rfl|rfl|rfl|rfl<;>rfl) (cfN aW.name) (adn _) 148 eg (λw x y=>RH w x.name y.name _ _ _ _ _ _) w 113 v l g cap hv hl hs;refine h.mono ?_;rintro r w' ⟨rfl,l',hp,hq,hs',hm⟩;exact⟨rfl,l',hp,hq.imp (fun{x y} e=>by rw[<-ltN aW.name];exact e),hs',hm⟩
theorem MF(w:tW)(v:eM)(l:List iT)(g cap:Nat)(hv:v=eK (eC ⟨g,0,ez⟩) (ee l) cap)(hl:ee l<=1000000)(hs:Sl w 109 2 v (ee l) (l.flatMap iT.cells)):fL prog 150 #[v,eL (.func 151) #[] #[]] w λr w'=>r=fR (gb #[])/\∃l':List iT,l'.Perm l/\l'.Pairwise (λx y=>mo (T y.f.name) (T x.f.name)=eE)/\Sl w' 109 2 v (ee l') (l'.flatMap iT.cells)/\aa (λb=>v.ownBlock=eC b) w w':=by
 have eg:∀args w,(rB 151 args).run prog w=.ok (.enter 151 args) w:=enters_of func151 (by kernel_rfl) rfl;have inh:Inhabited iT:=⟨⟨⟨[],[]⟩,ez,0,0⟩⟩
 have h:=Om soF 2 isAgg109 sizeOf109 iT.cells (λ_=>rfl) (λx v hv=>by simp[iT.cells]at hv;rcases hv with rfl|rfl<;>rfl) (cfN (λx:iT=>x.f.name)) (adn _) 151 eg (λw x y=>RI w x.f.name y.f.name _ _ _ _ _ _) w 109 v l g cap hv hl hs;refine h.mono ?_;rintro r w' ⟨rfl,l',hp,hq,hs',hm⟩;exact⟨rfl,l',hp,hq.imp (fun{x y} e=>by rw[<-ltN (λx:iT=>x.f.name)];exact e),hs',hm⟩
theorem Wj(w:tW)(f:eM)(hf:f=eL (.func 148) #[] #[]):fL prog 320 #[vN,vI 0,vI 0,f] w λe w'=>e=fR (gb #[])/\aa ah w w':=by
 subst hf;go_in;go_wp2_with fail;go_loopg [8] 1 (λg iv wx=>iv=vI 1/\aa ah w wx/\g=1)
 case atStart=>exact⟨rfl,aA,rfl⟩
 case round =>obtain⟨rfl,HM,rfl⟩:=hrel;go_wp2_with fail;go_end0;exact⟨rfl,HM⟩
theorem Wk(w:tW)(f:eM)(hf:f=eL (.func 148) #[] #[]):fL prog 269 #[vN,vI 0,vI 0,vI 0,f] w λe w'=>e=fR (gb #[])/\aa ah w w':=by
 subst hf;go_in;go_wp2_with fail;go_loopg [1,2,3] 1 (λg a b c wx=>a=vI 0/\b=vI 0/\c=vI 0/\aa ah w wx/\g=1)
 case atStart=>exact⟨rfl,rfl,rfl,aA,rfl⟩
 case round =>obtain⟨rfl,rfl,rfl,HM,rfl⟩:=hrel;go_wp2_with fail;refine(Wj _ _ rfl).mono ?_;rintro e w2 ⟨rfl,m2⟩;go_wp2_with fail;refine iz (tA rfl _ _ _) rfl ?_;exact⟨rfl,HM.trans m2⟩
theorem RJ(w:tW):fL prog 147 #[vN,eL (.func 148) #[] #[]] w λe w'=>e=fR (gb #[])/\aa ah w w':=by go_in;go_wp2_with fail;refine(JX _).mono ?_;rintro e w1 ⟨rfl,rfl⟩;go_wp2_with fail;refine(Wk _ _ rfl).mono ?_;rintro e w2 ⟨rfl,m2⟩;go_wp2_with fail;go_end0;exact⟨rfl,m2⟩
theorem Wl(w:tW)(f:eM)(hf:f=eL (.func 151) #[] #[]):fL prog 331 #[vN,vI 0,vI 0,f] w λe w'=>e=fR (gb #[])/\aa ah w w':=by
 subst hf;go_in;go_wp2_with fail;go_loopg [8] 1 (λg iv wx=>iv=vI 1/\aa ah w wx/\g=1)
 case atStart=>exact⟨rfl,aA,rfl⟩
 case round =>obtain⟨rfl,HM,rfl⟩:=hrel;go_wp2_with fail;go_end0;exact⟨rfl,HM⟩
theorem Wm(w:tW)(f:eM)(hf:f=eL (.func 151) #[] #[]):fL prog 272 #[vN,vI 0,vI 0,vI 0,f] w λe w'=>e=fR (gb #[])/\aa ah w w':=by
 subst hf;go_in;go_wp2_with fail;go_loopg [1,2,3] 1 (λg a b c wx=>a=vI 0/\b=vI 0/\c=vI 0/\aa ah w wx/\g=1)
 case atStart=>exact⟨rfl,rfl,rfl,aA,rfl⟩
 case round =>obtain⟨rfl,rfl,rfl,HM,rfl⟩:=hrel;go_wp2_with fail;refine(Wl _ _ rfl).mono ?_;rintro e w2 ⟨rfl,m2⟩;go_wp2_with fail;refine iz (tA rfl _ _ _) rfl ?_;exact⟨rfl,HM.trans m2⟩
theorem RL(w:tW):fL prog 150 #[vN,eL (.func 151) #[] #[]] w λe w'=>e=fR (gb #[])/\aa ah w w':=by go_in;go_wp2_with fail;refine(JX _).mono ?_;rintro e w1 ⟨rfl,rfl⟩;go_wp2_with fail;refine(Wm _ _ rfl).mono ?_;rintro e w2 ⟨rfl,m2⟩;go_wp2_with fail;go_end0;exact⟨rfl,m2⟩
theorem RM(w:tW)(v:eM)(l:List aW)(hl:ee l<=1000000)(hs:Sl w 113 4 v (ee l) (l.flatMap aW.cells)):fL prog 147 #[v,eL (.func 148) #[] #[]] w λr w'=>r=fR (gb #[])/\∃l':List aW,l'.Perm l/\l'.Pairwise (λx y=>mo (T y.name) (T x.name)=eE)/\Sl w' 113 4 v (ee l') (l'.flatMap aW.cells)/\aa (λb=>v.ownBlock=eC b) w w':=by
 rcases hs.2 with⟨h',hn⟩ |⟨g,cap,cs,h',_⟩
 case inr=>exact ME w v l g cap h' hl hs
 case inl =>have e:=List.length_eq_zero_iff.1 (by omega);subst e;rw[h'];refine(RJ w).mono ?_;rintro r w' ⟨rfl,m⟩;exact⟨rfl,[],List.Perm.refl _,List.Pairwise.nil,Sl.nil _ _ _,m.os,m.tape,m.output,m.size,λb hb _=>m.block b hb id⟩
theorem RN(w:tW)(v:eM)(l:List iT)(hl:ee l<=1000000)(hs:Sl w 109 2 v (ee l) (l.flatMap iT.cells)):fL prog 150 #[v,eL (.func 151) #[] #[]] w λr w'=>r=fR (gb #[])/\∃l':List iT,l'.Perm l/\l'.Pairwise (λx y=>mo (T y.f.name) (T x.f.name)=eE)/\Sl w' 109 2 v (ee l') (l'.flatMap iT.cells)/\aa (λb=>v.ownBlock=eC b) w w':=by
 rcases hs.2 with⟨h',hn⟩ |⟨g,cap,cs,h',_⟩
 case inr=>exact MF w v l g cap h' hl hs
 case inl =>have e:=List.length_eq_zero_iff.1 (by omega);subst e;rw[h'];refine(RL w).mono ?_;rintro r w' ⟨rfl,m⟩;exact⟨rfl,[],List.Perm.refl _,List.Pairwise.nil,Sl.nil _ _ _,m.os,m.tape,m.output,m.size,λb hb _=>m.block b hb id⟩
theorem RO(w:tW)(vM vF:eM)(ms:List aW)(rs:List iT)(F5:ee ms<=1000000)(hrl:ee rs<=1000000)(hM:Sl w 113 4 vM (ee ms) (ms.flatMap aW.cells))(hF:Sl w 109 2 vF (ee rs) (rs.flatMap iT.cells)):fL prog 64 #[fW #[vM,vF]] w λr w'=>r=fR (gb #[])/\∃(ms':List aW) (rs':List iT),ms'.Perm ms/\ms'.Pairwise (λx y=>mo (T y.name) (T x.name)=eE)/\rs'.Perm rs/\rs'.Pairwise (λx y=>mo (T y.f.name) (T x.f.name)=eE) /\ Sl w' 113 4 vM (ee ms') (ms'.flatMap aW.cells)/\Sl w' 109 2 vF (ee rs') (rs'.flatMap iT.cells)/\aa (λb=>vM.ownBlock=eC b\/vF.ownBlock=eC b) w w':=by
 obtain⟨oM,cM,Ol,_⟩:=hM.view;obtain⟨oF,cF,qi,_⟩:=hF.view;have m0:aa ah w (w.alloc (eR #[vM,vF] 99)):=aq;have hb0:=ak.new w #[vM,vF] 99;have H1:=ai (RM _ vM ms F5 (hM.ae m0 (λ_ _=>id)));have H2:af (∀w',aa (λb=>vM.ownBlock=eC b) (w.alloc (eR #[vM,vF] 99)) w'->ak w' w.heap.size #[vM,vF] 99/\fL prog 150 #[vF,eL (.func 151) #[] #[]] w' λr w''=>r=fR (gb #[])/\∃l':List iT,l'.Perm rs/\l'.Pairwise (λx y=>mo (T y.f.name) (T x.f.name)=eE)/\Sl w'' 109 2 vF (ee l') (l'.flatMap iT.cells)/\aa (λb=>vF.ownBlock=eC b) w' w''):=λw' m=>by refine⟨hb0.ae m ((hM.ae m0 (λ_ _=>id)).ay hb0 (by decide)),RN _ vF rs hrl ((hF.ae m0 (λ_ _=>id)).ae m (λk hk e=>?_))⟩;exact hM.apart hF (by decide) e hk
 have H3:=ai (λw' w'' (ms':List aW) (h:Sl w' 113 4 vM (ee ms') (ms'.flatMap aW.cells)) (m:aa (λb=>vF.ownBlock=some b) w' w'')=>h.ae m (λk hk e=>hM.apart hF (by decide) hk e));have dU:=ai m0;subst Ol qi;clear hM hF hb0 m0;go_in;go_wp2_with fail;refine H1.o.mono ?_;rintro e w1 ⟨rfl,ms',p1,q1,s1,m1⟩;have hb1:=(H2.o w1 m1).1.cell 1;have z1:w1.cell? ⟨w.heap.size,1,ez⟩=eC (eK oF (ee rs) cF):=hb1;have HC:=ai ((H2.o w1 m1).2);have xz:af (ms'.Perm ms/\ms'.Pairwise (λx y=>mo (T y.name) (T x.name)=eE)/\Sl w1 113 4 (eK oM (ee ms) cM) (ee ms') (ms'.flatMap aW.cells)/\aa (λb=>(Value.slice oM (ee ms) cM).ownBlock=eC b) (w.alloc (eR #[eK oM (ee ms) cM,eK oF (ee rs) cF] 99)) w1):=⟨p1,q1,s1,m1⟩
 clear hb1 p1 q1 s1 m1 H1 H2;go_wp2_with fail;refine HC.o.mono ?_;rintro e w2 ⟨rfl,rs',p2,q2,s2,m2⟩;have pO:af (rs'.Perm rs/\rs'.Pairwise (λx y=>mo (T y.f.name) (T x.f.name)=eE)/\Sl w2 109 2 (eK oF (ee rs) cF) (ee rs') (rs'.flatMap iT.cells)/\aa (λb=>(Value.slice oF (ee rs) cF).ownBlock=eC b) w1 w2):=⟨p2,q2,s2,m2⟩
 clear p2 q2 s2 m2 HC z1;go_wp2_with fail;go_end0;obtain⟨p1,q1,s1,m1⟩:=xz.o;obtain⟨p2,q2,s2,m2⟩:=pO.o;refine⟨rfl,ms',rs',p1,q1,p2,q2,H3.o _ _ _ s1 m2,s2,?_⟩;have hm:=dU.o;exact⟨m2.os.trans (m1.os.trans hm.os),m2.tape.trans (m1.tape.trans hm.tape),m2.output.trans (m1.output.trans hm.output),cy hm.size (cy m1.size m2.size),λk hk hn=>by rw[m2.block k (cD hk (cy hm.size m1.size)) (λe=>hn (.inr e)),m1.block k (cD hk hm.size) (λe=>hn (.inl e)),hm.block k hk id]⟩
theorem JY(w:tW)(n:Nat)(hn:n=0\/n=1):fL prog 270 #[vU n] w λe w'=>∃L,e=fR (vI L)/\w'=w:=by have h:=Any.bits_Len lb n w (by omega) (by omega);refine h.mono ?_;rintro e w' ⟨rfl,rfl⟩;exact⟨_,rfl,rfl⟩
theorem Wo(w:tW)(o:Option ju)(n c:Nat)(f:eM)(hf:f=eL (.func 148) #[] #[])(hn:n=0\/n=1):fL prog 320 #[eK o n c,vI 0,vI n,f] w λe w'=>e=fR (gb #[])/\aa ah w w':=by
 subst hf;rcases hn with rfl|rfl
 all_goals
  go_in;go_wp2_with fail;go_loopg [8] 1 (λg iv wx=>iv=vI 1/\aa ah w wx/\g=1)
  case atStart=>exact⟨rfl,aA,rfl⟩
  case round =>obtain⟨rfl,HM,rfl⟩:=hrel;go_wp2_with fail;go_end0;exact⟨rfl,HM⟩
theorem Wp(w:tW)(o:Option ju)(n c:Nat)(L:Int)(f:eM)(hf:f=eL (.func 148) #[] #[])(hn:n=0\/n=1):fL prog 269 #[eK o n c,vI 0,vI n,vI L,f] w λe w'=>e=fR (gb #[])/\aa ah w w':=by
 have HI:=ai (λW=>Wo W o n c f hf hn);subst hf;rcases hn with rfl|rfl
 all_goals
  go_in;go_wp2_with fail;go_loopg [1,2,3] 1 (λg a b c wx=>a=vI 0/\b=vI _/\c=vI L/\aa ah w wx/\g=1)
  case atStart=>exact⟨rfl,rfl,rfl,aA,rfl⟩
  case round =>obtain⟨rfl,rfl,rfl,HM,rfl⟩:=hrel;go_wp2_with fail;refine(HI.o _).mono ?_;rintro e w2 ⟨rfl,m2⟩;go_wp2_with fail;refine iz (tA rfl _ _ _) rfl ?_;exact⟨rfl,HM.trans m2⟩
theorem RQ(w:tW)(o:Option ju)(n c:Nat)(hn:n=0\/n=1):fL prog 147 #[eK o n c,eL (.func 148) #[] #[]] w λe w'=>e=fR (gb #[])/\aa ah w w':=by
 have HP:=ai (λW L=>Wp W o n c L _ rfl hn);have HL:=ai (λW=>JY W n hn);rcases hn with rfl|rfl
 all_goals
  go_in;go_wp2_with fail;refine(HL.o _).mono ?_;rintro e w1 ⟨L,rfl,rfl⟩;go_wp2_with fail;refine(HP.o _ L).mono ?_;rintro e w2 ⟨rfl,m2⟩;go_wp2_with fail;go_end0;exact⟨rfl,m2⟩
theorem Wq(w:tW)(o:Option ju)(n c:Nat)(f:eM)(hf:f=eL (.func 151) #[] #[])(hn:n=0\/n=1):fL prog 331 #[eK o n c,vI 0,vI n,f] w λe w'=>e=fR (gb #[])/\aa ah w w':=by
 subst hf;rcases hn with rfl|rfl
 all_goals
  go_in;go_wp2_with fail;go_loopg [8] 1 (λg iv wx=>iv=vI 1/\aa ah w wx/\g=1)
  case atStart=>exact⟨rfl,aA,rfl⟩
  case round =>obtain⟨rfl,HM,rfl⟩:=hrel;go_wp2_with fail;go_end0;exact⟨rfl,HM⟩
theorem Ws(w:tW)(o:Option ju)(n c:Nat)(L:Int)(f:eM)(hf:f=eL (.func 151) #[] #[])(hn:n=0\/n=1):fL prog 272 #[eK o n c,vI 0,vI n,vI L,f] w λe w'=>e=fR (gb #[])/\aa ah w w':=by
 have HI:=ai (λW=>Wq W o n c f hf hn);subst hf;rcases hn with rfl|rfl
 all_goals
  go_in;go_wp2_with fail;go_loopg [1,2,3] 1 (λg a b c wx=>a=vI 0/\b=vI _/\c=vI L/\aa ah w wx/\g=1)
  case atStart=>exact⟨rfl,rfl,rfl,aA,rfl⟩
  case round =>obtain⟨rfl,rfl,rfl,HM,rfl⟩:=hrel;go_wp2_with fail;refine(HI.o _).mono ?_;rintro e w2 ⟨rfl,m2⟩;go_wp2_with fail;refine iz (tA rfl _ _ _) rfl ?_;exact⟨rfl,HM.trans m2⟩
theorem RT(w:tW)(o:Option ju)(n c:Nat)(hn:n=0\/n=1):fL prog 150 #[eK o n c,eL (.func 151) #[] #[]] w λe w'=>e=fR (gb #[])/\aa ah w w':=by
 have HP:=ai (λW L=>Ws W o n c L _ rfl hn);have HL:=ai (λW=>JY W n hn);rcases hn with rfl|rfl
 all_goals
  go_in;go_wp2_with fail;refine(HL.o _).mono ?_;rintro e w1 ⟨L,rfl,rfl⟩;go_wp2_with fail;refine(HP.o _ L).mono ?_;rintro e w2 ⟨rfl,m2⟩;go_wp2_with fail;go_end0;exact⟨rfl,m2⟩
theorem abJ(w:tW)(oM oF:Option ju)(nM cM nF cF:Nat)(hM:nM<=1)(hF:nF<=1):fL prog 64 #[fW #[eK oM nM cM,eK oF nF cF]] w λr w'=>r=fR (gb #[])/\aa ah w w':=by have HB:=ai (ak.new w #[eK oM nM cM,eK oF nF cF] 99);have dU:af (aa ah w (w.alloc (eR #[eK oM nM cM,eK oF nF cF] 99))):=aq;have Jn:=ai (λW=>RQ W oM nM cM (by omega));have Wt:=ai (λW=>RT W oF nF cF (by omega));clear hM hF;go_in;go_wp2_with fail;refine(Jn.o _).mono ?_;rintro e w1 ⟨rfl,m1⟩;have HB1:=ai (HB.o.ae m1 id);have dB:=ai (dU.o.trans m1);clear m1 HB dU;have z1:=HB1.o.c1;go_wp2_with fail;refine(Wt.o _).mono ?_;rintro e w2 ⟨rfl,m2⟩;have dV:=ai (dB.o.trans m2);clear m2 z1;go_wp2_with fail;go_end0;exact⟨rfl,dV.o⟩
structure BS where
 ms:List aW:=[]
 fs:List cZ:=[]
 slot:Nat:=0
def Dz(x:fJ):aW:=⟨x.name,(tO (x.ns.getD 0 aD)).toNat,(tO (x.ns.getD 1 aD)).toNat,(tO (x.ns.getD 2 aD)).toNat⟩
def fG.pi(x:fG)(j:Int):PI:=⟨x.k,x.r.d,x.r.s,j,x.r.num,x.r.high,x.r.name⟩
def Ot(o:OL)(last slot:Nat)(x:fG):Int:=if x.o.jumps then(((ib (o.fs.getD last {}).bP x.r.label).getD 0:Nat):Int)-slot-x.o.slots else x.r.jump
def abK(o:OL)(last slot:Nat)(x:fG):PI:=x.pi (Ot o last slot x)
def BS.last(b:BS):cZ:=b.fs.getD (ee b.fs-1) ⟨[],[]⟩
def fU(o:OL)(b:BS)(x:fJ):BS :=
 if x.kind=1 then{b with ms:=b.ms++[Dz x]}
 else if x.kind=2 then{b with fs:=b.fs++[⟨x.name,[]⟩],slot:=0}
 else if x.kind=4 then{b with fs:=b.fs.set (ee b.fs-1) ⟨b.last.name,b.last.code++[abK o (ee b.fs-1) b.slot x.x]⟩,slot:=b.slot+x.x.o.slots}
 else b
def aZ(o:OL)(ls:List fJ):BS:=ls.foldl (fU o) {}
theorem DA(o:OL)(ls:List fJ)(k:Nat)(h:k<ee ls):aZ o (ls.take (k+1))=fU o (aZ o (ls.take k)) ls[k]:=by unfold aZ;rw[List.take_succ_eq_append_getElem h,List.foldl_append];rfl
theorem Aq(o:OL)(ls:List fJ):∀k,k<=ee ls->ee (aZ o (ls.take k)).fs=ee (au (ls.take k)).fs/\(aZ o (ls.take k)).slot<=2*k/\(aZ o (ls.take k)).ms.length<=k/\(aZ o (ls.take k)).fs.length<=k/\(∀f∈(aZ o (ls.take k)).fs,ee f.code<=k)
 |0,_=>by rw[List.take_zero];exact⟨rfl,cG _,cG _,cG _,λf hf=>(by cases hf)⟩
 |k+1,h=>by
  obtain⟨h1,h2,h3,h4,h5⟩:=Aq o ls k (by omega);rw[gW ls k (by omega),DA o ls k (by omega)];generalize au (ls.take k)=ol at *;generalize aZ o (ls.take k)=b at *;generalize ls[k]=x;have h6:∀f∈b.fs,ee f.code<=k+1:=λf hf=>by have:=h5 f hf;omega
  unfold bV fU;by_cases k1:x.kind=1
  ·rw[iP9 k1,iP9 k1];exact⟨h1,by simp only;omega,by simp;omega,by simp only;omega,h6⟩
  rw[iN9 k1,iN9 k1];by_cases k2:x.kind=2
  ·rw[iP9 k2,iP9 k2];refine⟨by simp[h1],ar _,by simp only;omega,by simp;omega,λf hf=>?_⟩;rcases List.mem_append.1 hf with hf|hf
   ·exact h6 f hf
   ·rw[List.mem_singleton.1 hf];exact ar _
  rw[iN9 k2,iN9 k2];by_cases k3:x.kind=3
  ·rw[iP9 k3,iN9 (by omega)];exact⟨by rw[kW];exact h1,by omega,by omega,by omega,h6⟩
  rw[iN9 k3];by_cases k4:x.kind=4
  ·rw[iP9 k4,iP9 k4];have:=x.x.zX;refine⟨by rw[kW];simpa using h1,by simp only;omega,by simp only;omega,by simp;omega,λf hf=>?_⟩;rcases b5 hf with hf|rfl
   ·exact h6 f hf
   ·simp only[cx,List.length_singleton]
    have:ee b.last.code<=k:=by
     unfold BS.last;cases hq:b.fs[ee b.fs-1]? with
     |none =>rw[List.getD_eq_getElem?_getD,hq];exact ar _
     |some f =>rw[List.getD_eq_getElem?_getD,hq];exact h5 f (List.mem_of_getElem? hq)
    omega
  ·rw[iN9 k4,iN9 k4];exact⟨h1,by omega,by omega,by omega,h6⟩
structure og(w0:tW)(P:Nat)(bs:tLN)(vM vF:eM)(ms:List aW)(fs:List cZ)(vs:tLV)(w:tW):Prop where
 blk:ak w P #[vM,vF] 99
 maps:Sl w 113 4 vM (ee ms) (ms.flatMap aW.cells)
 len:ee vs=ee fs
 rows:Sl w 109 2 vF (ee fs) (((fs.map (·.name)).zip vs).flatMap wR)
 code:∀i (_:i<ee fs) (_:i<ee vs),jG w vs[i] bs fs[i].code
 lo:w0.heap.size<=P
 BA:∀k,vM.ownBlock=eC k->w0.heap.size<=k
 Ar:∀k,vF.ownBlock=eC k->w0.heap.size<=k
 rR:∀u∈vs,∀k,u.ownBlock=eC k->w0.heap.size<=k
 ne:∀i j (_:i<ee vs) (_:j<ee vs),i≠j->∀k,vs[i].ownBlock=eC k->vs[j].ownBlock≠eC k
 md:aa ah w0 w
section
variable {w0 w w' : World} {P : Nat} {bs : List Nat} {vM vF v' : eM} {ms : List aW} {fs : List cZ} {vs : List eM}
theorem jG.ay{v:eM}{code:List PI}{k:Nat}{cs:tAV}{e':gh}(h:jG w v bs code)(hb:ak w k cs e')(he:141≠e'):v.ownBlock≠eC k:=by obtain⟨_,_,h2⟩:=h;exact h2.ay hb he
theorem jG.apart{v:eM}{code:List PI}{k n' size':Nat}{e':gh}{xs':tLV}(h:jG w v bs code)(h':Sl w e' size' v' n' xs')(he:141≠e')(hk:v.ownBlock=eC k):v'.ownBlock≠eC k:=by obtain⟨_,_,h2⟩:=h;exact h2.apart h' he hk
theorem jG.lt{v:eM}{code:List PI}(h:jG w v bs code)(k:Nat)(hk:v.ownBlock=eC k):k<w.heap.size:=by obtain⟨_,_,h2⟩:=h;exact h2.lt k hk
theorem og.quiet(h:og w0 P bs vM vF ms fs vs w)(m:aa ah w w'):og w0 P bs vM vF ms fs vs w' :=
 ⟨h.blk.ae m id,h.maps.ae m (λ_ _=>id),h.len,h.rows.ae m (λ_ _=>id),λi a b=>(h.code i a b).ae m (λ_ _=>id),h.lo,h.BA,h.Ar,h.rR,h.ne,h.md.trans m⟩
theorem og.aaR{u:eM}(h:og w0 P bs vM vF ms fs vs w)(hu:u∈vs):∃code,jG w u bs code:=by obtain⟨i,hi,rfl⟩:=List.getElem_of_mem hu;exact⟨_,h.code i (by rw[<-h.len];exact hi) hi⟩
theorem og.aad(h:og w0 P bs vM vF ms fs vs w)(m:aa (λk=>vM.ownBlock=eC k) w w'):ak w' P #[vM,vF] 99 :=
 h.blk.ae m (λe=>h.maps.ay h.blk (by decide) e)
theorem og.map(h:og w0 P bs vM vF ms fs vs w)(x:aW)(s:Sl w' 113 4 v' (ee ms+1) (ms.flatMap aW.cells++aW.cells x))(m:aa (λk=>vM.ownBlock=eC k) w w')(l:∀k,v'.ownBlock=eC k->vM.ownBlock=eC k\/w.heap.size<=k):og w0 P bs v' vF (ms++[x]) fs vs (w'.setCell ⟨P,0,ez⟩ v'):=by
 have hB:=h.aad m;have mP:aa (Only P) w' (w'.setCell ⟨P,0,ez⟩ v'):=aA.bz _ _;have hP:∀{e:gh} {size n:Nat} {v:eM} {xs:tLV},Sl w' e size v n xs->e≠99->∀k,v.ownBlock=eC k->¬Only P k:=λs he k hk e=>s.ay hB he (hk.trans (congrArg eC e));have hrow:=h.rows.ae m (λk hk e=>h.rows.apart h.maps (by decide) hk e);have hcode:=λi a b=>(h.code i a b).ae m (λk hk e=>(h.code i a b).apart h.maps (by decide) hk e);refine⟨hB.set 0 v',?_,h.len,hrow.ae mP (hP hrow (by decide)),λi a b=>(hcode i a b).ae mP (λk hk e=>(hcode i a b).ay hB (by decide) (hk.trans (congrArg eC e))),h.lo,λk hk=>?_,h.Ar,h.rR,h.ne,?_⟩
 ·have:=s.ae mP (hP s (by decide))
  simpa using this
 ·rcases l k hk with e|e
  ·exact h.BA k e
  ·have:=h.md.size;omega
 ·refine(h.md.step m (λi hi e=>by have:=h.BA i e;omega)).step mP (λi hi e=>?_);have e':i=P:=e;have:=h.lo;omega
theorem og.func(h:og w0 P bs vM vF ms fs vs w)(nm:tLB)(s:Sl w' 109 2 v' (ee fs+1) (((fs.map (·.name)).zip vs).flatMap wR++wR (nm,vN)))(m:aa (λk=>vF.ownBlock=eC k) w w')(l:∀k,v'.ownBlock=eC k->vF.ownBlock=eC k\/w.heap.size<=k):og w0 P bs vM v' ms (fs++[⟨nm,[]⟩]) (vs++[vN]) (w'.setCell ⟨P,1,ez⟩ v'):=by
 have hB:=h.blk.ae m (λe=>h.rows.ay h.blk (by decide) e);have mP:aa (Only P) w' (w'.setCell ⟨P,1,ez⟩ v'):=aA.bz _ _;have hP:∀{e:gh} {size n:Nat} {v:eM} {xs:tLV},Sl w' e size v n xs->e≠99->∀k,v.ownBlock=eC k->¬Only P k:=λs he k hk e=>s.ay hB he (hk.trans (congrArg eC e));have hmap:=h.maps.ae m (λk hk e=>h.maps.apart h.rows (by decide) hk e);have hcode:=λi a b=>(h.code i a b).ae m (λk hk e=>(h.code i a b).apart h.rows (by decide) hk e);refine⟨hB.set 1 v',hmap.ae mP (hP hmap (by decide)),by simp[h.len],?_,λi a b=>?_,h.lo,h.BA,λk hk=>?_,λu hu k hk=>?_,λi j hi hj hij k hk=>?_,?_⟩
 ·have:=s.ae mP (hP s (by decide));have e:((fs++[(⟨nm,[]⟩:cZ)]).map (·.name)).zip (vs++[Value.slice ez 0 0])=((fs.map (·.name)).zip vs)++[(nm,Value.slice ez 0 0)]:=by rw[List.map_append,List.zip_append (by simp[h.len])];rfl
  rw[e,cw]
  simpa using this
 ·by_cases hi:i<ee fs
  ·have hi':i<ee vs:=by rw[h.len];exact hi
   simp only[an hi,an hi'];exact(hcode i hi hi').ae mP (λk hk e=>(hcode i hi hi').ay hB (by decide) (hk.trans (congrArg eC e)))
  ·have e1:i=ee fs:=by simp at a;omega
   have e2:i=ee vs:=by rw[h.len];exact e1
   have e3:(fs++[(⟨nm,[]⟩:cZ)])[i]=⟨nm,[]⟩:=by subst e1;simp
   have e4:(vs++[Value.slice ez 0 0])[i]=vN:=by subst e2;simp
   rw[e3,e4];exact⟨[],rfl,Sl.nil _ _ _⟩
 ·rcases l k hk with e|e
  ·exact h.Ar k e
  ·have:=h.md.size;omega
 ·rcases List.mem_append.1 hu with hu|hu
  ·exact h.rR u hu k hk
  ·rw[List.mem_singleton.1 hu]at hk;cases hk
 ·by_cases hi':i<ee vs
  ·rw[an hi']at hk;by_cases hj':j<ee vs
   ·rw[an hj'];exact h.ne i j hi' hj' hij k hk
   ·have e2:j=ee vs:=by simp at hj;omega
    have e4:(vs++[Value.slice ez 0 0])[j]=vN:=by subst e2;simp
    rw[e4];intro e;cases e
  ·have e2:i=ee vs:=by simp at hi;omega
   have e4:(vs++[Value.slice ez 0 0])[i]=vN:=by subst e2;simp
   rw[e4]at hk;cases hk
 ·refine(h.md.step m (λi hi e=>by have:=h.Ar i e;omega)).step mP (λi hi e=>?_);have e':i=P:=e;have:=h.lo;omega
theorem og.instr{g c k:Nat}{u:eM}{x:PI}{lab:tBA}(hk:k<ee fs)(Bd:k<ee vs){nf:Nat}(hnf:nf=ee fs)(h:og w0 P bs vM (eK (eC ⟨g,0,ez⟩) nf c) ms fs vs w)(hu:vs[k]=u){bP:List tBA} (hl1:ee bP=ee fs[k].code) (s:Sl w' 141 8 v' (ee fs[k].code+1) (rX bs (fs[k].code.zip bP)++(x.pz bs lab).di)) (m:aa (λk=>u.ownBlock=eC k) w w') (l:∀k,v'.ownBlock=eC k->u.ownBlock=eC k\/w.heap.size<=k):og w0 P bs vM (eK (eC ⟨g,0,ez⟩) nf c) ms (fs.set k ⟨fs[k].name,fs[k].code++[x]⟩) (vs.set k v') (w'.setCell ⟨g,k*2+1,ez⟩ v'):=by
 subst hnf hu;have hown:(Value.slice (eC ⟨g,0,ez⟩) (ee fs) c).ownBlock=eC g:=rfl;have hck:=h.code k hk Bd;have hB:=h.blk.ae m (λe=>hck.ay h.blk (by decide) e);have hmap:=h.maps.ae m (λk' hk' e=>hck.apart h.maps (by decide) e hk');have hrow:=h.rows.ae m (λk' hk' e=>hck.apart h.rows (by decide) e hk');have hcode:=λi a b hik=>(h.code i a b).ae m (λk' hk' e=>h.ne i k b Bd hik k' hk' e)
 have hnew:jG w' v' bs (fs[k].code++[x]):=by
  refine⟨bP++[lab],by simp[hl1],?_⟩;have e:(fs[k].code++[x]).zip (bP++[lab])=fs[k].code.zip bP++[(x,lab)]:=by rw[List.zip_append hl1.symm];rfl
  rw[e];have:=s;unfold rX at *;rw[cw]
  simpa using this
 have mg:aa (Only g) w' (w'.setCell ⟨g,k*2+1,ez⟩ v'):=aA.bz _ _;have hgI:∀{v:eM} {code:List PI},jG w' v bs code->∀k',v.ownBlock=eC k'->¬Only g k':=λhc k' hk' e=>hc.apart hrow (by decide) hk' (by rw[hown];exact congrArg eC (show g=k' from e.symm));have hkz:k<ee ((fs.map (·.name)).zip vs):=by simp;omega
 have hnm:(fs.set k ⟨fs[k].name,fs[k].code++[x]⟩).map (·.name)=fs.map (·.name):=by
  rw[List.map_set]
  exact bh (by simp) (λi h1 h2=>by
   rw[ao];split
   ·rename_i e;subst e;simp
   ·rfl)
 refine⟨hB.ae mg (λe=>hrow.ay hB (by decide) (by rw[hown];exact congrArg eC (show g=P from e.symm))),hmap.ae mg (λk' hk' e=>hmap.apart hrow (by decide) hk' (by rw[hown];exact congrArg eC (show g=k' from e.symm))),by simp[h.len],?_,λi a b=>?_,h.lo,h.BA,h.Ar,λu hu k' hk'=>?_,λi j hi hj hij k' hk'=>?_,?_⟩
 ·have:=hrow.setAt (k*2+1) v' (by omega);rw[tT wR 2 (λ_=>rfl) _ k 1 hkz (by omega) v' (fs[k].name,v') (by rw[Mi _ _ k (by simpa using hk) Bd];simp[wR])]at this;rw[hnm,cb]
  have e:((fs.map (·.name)).zip vs).set k (fs[k].name,v')=(fs.map (·.name)).zip (vs.set k v'):=by
   refine bh (by simp) (λi h1 h2=>?_);rw[ao];split
   ·rename_i e;subst e;simp
   ·rename_i e
    simp[e]
  rw[e]at this;exact this
 ·rw[cb]at a b;by_cases e:k=i
  ·subst e;simp only[ao,if_true];exact hnew.ae mg (hgI hnew)
  ·simp only[e,if_false,ao];exact(hcode i a b (Ne.symm e)).ae mg (hgI (hcode i a b (Ne.symm e)))
 ·rcases b5 hu with h'|h'
  ·exact h.rR u h' k' hk'
  ·subst h';rcases l k' hk' with e|e
   ·exact h.rR _ (b9 Bd) k' e
   ·have:=h.md.size;omega
 ·rw[cb]at hi hj;rw[ao]at hk' ⊢
  have hnn:∀i' (_:i'<ee vs),k≠i'->∀k',vs[i'].ownBlock=eC k'->v'.ownBlock≠eC k':=λi' hi' hik k' hk' e=>by
   rcases l k' e with e2|e2
   ·exact h.ne i' k hi' Bd (Ne.symm hik) k' hk' e2
   ·have:=(h.code i' (by rw[<-h.len];exact hi') hi').lt k' hk';omega
  by_cases e:k=i
  ·subst e;rw[iP9 rfl]at hk';rw[iN9 hij];intro e2;exact hnn j hj hij k' e2 hk'
  ·rw[iN9 e]at hk';by_cases e2:k=j
   ·subst e2;rw[iP9 rfl];exact hnn i hi e k' hk'
   ·rw[iN9 e2];exact h.ne i j hi hj hij k' hk'
 ·refine(h.md.step m (λi hi e=>by have:=h.rR _ (b9 Bd) i e;omega)).step mg (λi hi e=>?_);have e':i=g:=e;have:=h.Ar g hown;omega
theorem og.new(w0:tW)(bs:tLN)(w:tW)(m:aa ah w0 w):og w0 w.heap.size bs (vN) (vN) [] [] [] (w.alloc (eR #[vN,vN] 99)) :=
 ⟨ak.new w _ _,Sl.nil _ _ _,rfl,Sl.nil _ _ _,λi h=>absurd h (Nat.not_lt_zero _),m.size,λk h=>(by cases h),λk h=>(by cases h),λu h=>(by cases h),λi j h=>absurd h (Nat.not_lt_zero _),m.alloc _⟩
end
