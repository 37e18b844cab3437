import Derived.Test.YthnphhgpfedeeaaGreatDoorCK40
namespace Go.Proofs.YthnphhgpfedeeaaGreatDoor
open Go.RowKit Tryz
open List renaming getElem_mem->ab,flatMap_cons->al,length_map->ar,map_cons->ba,length_append->bh,length_cons->bt,length_take->b5,mem_of_mem_take->b9,pairwise_iff_getElem->cj,take_length->cq,zipWith_cons_cons->cw,getElem_of_mem->cy,length_zipWith->cD,flatMap_append->cG,zipWith->cH,zip_cons_cons->cI,map_map->cN,take_add_one->cP,getElem_map->cW,flatMap_map->cY,length->eJ
open Nat renaming le_trans->ao,le_refl->bj,mul_le_mul_right->cx,min_self->cJ
open Bool renaming true->fR,false->fj
open Decidable renaming decide->gh
open Ending renaming returned->fW
open Obj renaming cells->fL
open Option renaming some->eK,none->eL
open Value renaming slice->eS,string->eR,tuple->jl,agg->fY
open _root_.Go renaming Value->fa,Calls->fS,info_parts->oY,maxLen->jz
set_option linter.all false
set_option maxRecDepth 100000
set_option maxHeartbeats 2000000
def jw(l:List aB)(i:Nat):aB:=l[i]?.getD ⟨[],0,0,0⟩
def xH(l:List aB)(i:Nat):Bool:=gh (i=0)||!lh (jw l i) (jw l (i-1))
def compU(l:List aB):Nat->List aB
 |0=>[]
 |n+1=>compU l n++(if xH l n then [jw l n]else [])
def dz(l:List aB):List aB:=compU l (eJ l)
theorem MJ(l:List aB)(i:Nat)(h:i<eJ l):jw l i=l[i]:=by simp[jw,h]
theorem J8(l:List aB):∀n,eJ (compU l n)<=n
 |0=>bj _
 |n+1=>by unfold compU;rw[bh];have:=J8 l n;split<;>simp<;>omega
theorem AP(l:List aB):∀n,n<=eJ l->(∀j,j<n->xH l j=fR)->compU l n=l.take n
 |0,_,_=>by simp[compU]
 |n+1,h,hk=>by unfold compU;rw[AP l n (by omega) (λj hj=>hk j (by omega)),hk n (by omega),iP9 rfl,cP,MJ l n (by omega)];simp[show n<eJ l by omega]
theorem FT(l:List aB)(h:∀j,j<eJ l->xH l j=fR):dz l=l:=by unfold dz;rw[AP l _ (bj _) h,cq]
theorem DM(l:List aB):xH l 0=fR:=rfl
theorem wF{α:Type}(f:α->tLV)(n:Nat)(hf:∀x,eJ (f x)=n):∀l:List α,eJ (l.flatMap f)=eJ l*n
 |[]=>by simp
 |x::l=>by rw[al,bh,hf,wF f n hf l,bt,Nat.succ_mul,Nat.add_comm]
theorem wG{α:Type}(f:α->tLV)(n:Nat)(hf:∀x,eJ (f x)=n):∀(l:List α) (k:Nat),(l.flatMap f).take (k*n)=(l.take k).flatMap f
 |[],k=>by simp
 |x::l,0=>by simp
 |x::l,k+1=>by rw[al,List.take_succ_cons,al,Nat.succ_mul,Nat.add_comm,List.take_append,hf,Nat.add_sub_cancel_left,wG f n hf l k,List.take_of_length_le (by rw[hf];omega)]
structure Ey(w0:tW)(g cap n:Nat)(l:List aB)(w:tW):Prop where
 sl:Sl w 100 4 (eS (eK ⟨g,0,eL⟩) n cap) n (l.flatMap aB.cells)
 len:eJ l=n
 md:aa (Only g) w0 w
theorem Ey.quiet{w0 w w':tW}{g cap n:Nat}{l:List aB}(h:Ey w0 g cap n l w)(m:aa af w w'):Ey w0 g cap n l w' :=
 ⟨h.sl.ai m (λ_ _=>id),h.len,h.md.trans (m.mono (λ_ _ e=>e.elim))⟩
theorem Ey.put{w0 w:tW}{g cap n:Nat}{l:List aB}(h:Ey w0 g cap n l w)(k:Nat)(hk:k<n)(m:aB):Ey w0 g cap n (l.set k m) ((((w.setCell ⟨g,k*4,eL⟩ (eR (T m.name))).setCell ⟨g,k*4+1,eL⟩ (vB m.key)).setCell ⟨g,k*4+2,eL⟩ (vB m.value)).setCell ⟨g,k*4+3,eL⟩ (vB m.entries)):=by
 have hl:=h.len;have hm:=h.sl;have hf:∀x:aB,eJ x.cells=4:=λ_=>rfl;have hk':k<eJ l:=by omega
 have e1:=hm.setAt (k*4) (eR (T m.name)) (by omega);have e2:=e1.setAt (k*4+1) (vB m.key) (by omega);have e3:=e2.setAt (k*4+2) (vB m.value) (by omega);have e4:=e3.setAt (k*4+3) (vB m.entries) (by omega)
 rw[show k*4=k*4+0 from rfl,iO aB.cells 4 hf l k 0 hk' (by omega) _ {l[k]with name:=m.name} rfl,
  iO aB.cells 4 hf _ k 1 (by simpa using hk') (by omega) _ {l[k]with name:=m.name,key:=m.key} (by simp[aB.cells]),
  iO aB.cells 4 hf _ k 2 (by simpa using hk') (by omega) _ {l[k]with name:=m.name,key:=m.key,value:=m.value} (by simp[aB.cells]),
  iO aB.cells 4 hf _ k 3 (by simpa using hk') (by omega) _ m (by simp[aB.cells])]at e4
 simp only[List.set_set]at e4;exact⟨e4,by rw[List.length_set];exact hl,(((h.md.set (a:=⟨g,k*4,eL⟩) (.inl rfl) _).set (a:=⟨g,k*4+1,eL⟩) (.inl rfl) _).set (a:=⟨g,k*4+2,eL⟩) (.inl rfl) _).set (a:=⟨g,k*4+3,eL⟩) (.inl rfl) _⟩
theorem Ey.at{w0 w:tW}{g cap n:Nat}{l:List aB}(h:Ey w0 g cap n l w)(k:Nat)(hk:k<n):w.cell? ⟨g,k*4,eL⟩=eK (eR (T (jw l k).name))/\w.cell? ⟨g,k*4+1,eL⟩=eK (vB (jw l k).key)/\w.cell? ⟨g,k*4+2,eL⟩=eK (vB (jw l k).value)/\w.cell? ⟨g,k*4+3,eL⟩=eK (vB (jw l k).entries):=by
 have hk':k<eJ l:=by rw[h.len];exact hk
 obtain⟨o',cap',hv,h2⟩:=h.sl.view;cases hv;obtain⟨g',cs,e,hb,ht,_⟩:=h2 (by omega);cases e;have key:∀c,c<4->w.cell? ⟨g,k*4+c,eL⟩=(aB.cells l[k])[c]?:=λc hc=>by rw[aV hb ht (k*4+c) (by omega)];exact flat_get aB.cells 4 (λ_=>rfl) l k c hk' hc
 rw[MJ l k hk'];exact⟨key 0 (by omega),key 1 (by omega),key 2 (by omega),key 3 (by omega)⟩
theorem Ey.frz{w0 w:tW}{g cap n:Nat}{l:List aB}(h:Ey w0 g cap n l w)(hn:0<n)(j:Nat):w.frozen? ⟨g,j,eL⟩=fj:=by obtain⟨o',cap',hv,h2⟩:=h.sl.view;cases hv;obtain⟨g',cs,e,hb,_⟩:=h2 hn;cases e;exact hb.frozen j
theorem rX{b:Nat}{t:TypeId}:∀(vs:tLV) (w:tW) (o:Nat) (cs:tAV),au w b cs t->∃cs',au (w.setCells b o vs) b cs' t/\cs'.size=cs.size/\(∀j,j<o->cs'[j]?=cs[j]?)/\aa (Only b) w (w.setCells b o vs)
 |[],w,o,cs,h=>⟨cs,h,rfl,λ_ _=>rfl,ax⟩
 |v::vs,w,o,cs,h=>by obtain⟨cs',h1,h2,h3,h4⟩:=rX vs (w.setCell ⟨b,o,eL⟩ v) (o+1) _ (h.set o v);refine⟨cs',h1,by rw[h2];simp,λj hj=>?_,(ax.bA _ _).trans h4⟩;rw[h3 j (by omega),Array.getElem?_setIfInBounds,iN9 (by omega)]
theorem Ey.clear{w0 w:tW}{g cap n:Nat}{l:List aB}(h:Ey w0 g cap n l w)(k c:Nat)(hk:k<n)(ty:TypeId):∃w',(Builtin.clear_ #[87] ty #[eS (eK ⟨g,k*4,eL⟩) (n-k) c]).run prog w=.ok (jl #[]) w'/\Sl w' 100 4 (eS (eK ⟨g,0,eL⟩) k cap) k ((l.take k).flatMap aB.cells)/\aa (Only g) w0 w':=by
 obtain⟨m,hm⟩:∃m,n-k=m+1:=⟨n-k-1,by omega⟩
 rcases h.sl.2 with⟨h',_⟩ |⟨g',cap',cur,h',h0,hg,hn,hmx,hs,ht⟩
 ·cases h'
 cases h';have hb:au w g cur 100:=hg;obtain⟨zs,hz⟩:∃zs,zs=(Builtin.zeroCells (Value.agg #[eR E0,vB 0,vB 0,vB 0]).cells (n-k)).toList:=⟨_,rfl⟩
 have hzl:eJ zs=(n-k)*4:=by rw[hz];simp[Builtin.zeroCells,Value.cells]
 have hz1:∀v∈zs,v.oneCell'=fR:=by
  rw[hz];intro v hv;simp only[Builtin.zeroCells,Value.cells,Array.toList_map,List.mem_map]at hv;obtain⟨i,_,rfl⟩:=hv;have h4:i%(#[Value.string E0,vB 0,vB 0,vB 0]:tAV).size<4:=Nat.mod_lt _ (by decide);generalize i%(#[Value.string E0,vB 0,vB 0,vB 0]:tAV).size=q at h4 ⊢;rcases q with _|_|_|_|q
  ·rfl
  ·rfl
  ·rfl
  ·rfl
  ·omega
 have hst:=run_storeCells_cells (P:=prog) g (k*4) zs 0 w (λj hj=>by
   rw[Nat.add_zero,hb.cell];have:k*4+j<cur.size:=by rw[hs];omega
   simp[this]) (λj _=>hb.frozen _) hz1
 rw[Nat.add_zero]at hst;obtain⟨cs',b1,b2,b3,b4⟩:=rX zs w (k*4) cur hb;refine⟨w.setCells g (k*4) zs,?_,?_,h.md.trans b4⟩
 ·rw[hm]at hz ⊢;simp[Builtin.clear_,run_underlying underlying87,zeroValue100,<-hz,hst]
 ·refine⟨by rw[wF aB.cells 4 (λ_=>rfl),b5,h.len,Nat.min_eq_left (by omega)],.inr ⟨g,cap,cs',rfl,h0,b1,by omega,hmx,by rw[b2,hs],?_⟩⟩
  have e1:cs'.toList.take (k*4)=cur.toList.take (k*4):=by
   refine List.ext_getElem? λj=>?_;rw[List.getElem?_take,List.getElem?_take];by_cases hj:j<k*4
   ·rw[iP9 hj,iP9 hj,Array.getElem?_toList,Array.getElem?_toList,b3 j hj]
   ·rw[iN9 hj,iN9 hj]
  rw[e1,<-wG aB.cells 4 (λ_=>rfl) l k,<-ht,List.take_take,Nat.min_eq_left (by omega)]
theorem Wg(w:tW)(v:fa)(l:List aB)(hl:eJ l<=1000000)(hs:Sl w 100 4 v (eJ l) (l.flatMap aB.cells)):fS prog 79 #[v] w λe w'=>∃v',e=fW v'/\Sl w' 100 4 v' (eJ (dz l)) ((dz l).flatMap aB.cells)/\aa (λb=>v.ownBlock=eK b) w w'/\v'.ownBlock=v.ownBlock:=by
 obtain⟨o,cap,hv,h2⟩:=hs.view;by_cases hn:eJ l<2
 ·have HS:ah (Sl w 100 4 v (eJ (dz l)) ((dz l).flatMap aB.cells)):=by
   rw[ah,FT l (λj hj=>by
     have e:j=0:=by omega
     rw[e];exact DM l)];exact hs
  subst hv;generalize eJ l=n at *;clear hs h2;go_in;go_wp2_with fail;go_ret;exact⟨_,rfl,HS.o,ax,rfl⟩
 ·obtain⟨g,cs,rfl,hb,_,hnc,hcm⟩:=h2 (by omega);subst hv;have NV:ah (Ey w g cap (eJ l) l w):=⟨hs,rfl,ax⟩
  have hno:2<=eJ l:=by omega
  have HE:ah (∀(a b:aB) (w':tW),(binOp .eql 100 (fY #[eR (T a.name),vB a.key,vB a.value,vB a.entries]) (fY #[eR (T b.name),vB b.key,vB b.value,vB b.entries])).run prog w'=.ok (.bool (lh a b)) w'):=λa b w'=>afK w' a b;have HN:ah (∀(a b:aB) (w':tW),(binOp .neq 100 (fY #[eR (T a.name),vB a.key,vB a.value,vB a.entries]) (fY #[eR (T b.name),vB b.key,vB b.value,vB b.entries])).run prog w'=.ok (.bool (!lh a b)) w'):=λa b w'=>adV w' a b;obtain⟨n,hnl⟩:∃n,n=eJ l:=⟨_,rfl⟩
  have QK:=aq hnl;rw[<-hnl]at NV hno hl hnc hn ⊢;clear hs hb h2 hnl;go_in;go_wp2_with fail;go_loopg [3] n (λgg iv wx=>∃k:Nat,iv=vI k/\Ey w g cap n l wx/\(∀j,j<k->xH l j=fR)/\1<=k/\k<=n/\gg=n+1-k)
  case atStart=>exact⟨1,rfl,NV.o,λj hj=>by
     have e:j=0:=by omega
     rw[e];exact DM l,bj _,by omega,rfl⟩
  case round =>
   obtain⟨k,rfl,hC,hkp,hk1,hkn,rfl⟩:=hrel;have HC:=aq hC;have HK:=aq hkp;clear hC hkp NV;by_cases hkl:k<n
   ·obtain⟨c0,c1,c2,c3⟩:=HC.o.at k hkl;obtain⟨d0,d1,d2,d3⟩:=HC.o.at (k-1) (by omega);have hkc:((k:Int)-1)=((k-1:Nat):Int):=by omega
    have heq:=HE.o (jw l k) (jw l (k-1));have HKS:ah (xH l k=!lh (jw l k) (jw l (k-1))):=by unfold xH;rw[ah,decide_eq_false (by omega),Bool.false_or]
    clear HE;generalize hq:lh (jw l k) (jw l (k-1))=q at *;clear hq;generalize(jw l k).key=ak at *;generalize(jw l k).value=av at *;generalize(jw l k).entries=ae at *;generalize T (jw l k).name=an at *;generalize(jw l (k-1)).key=bk at *;generalize(jw l (k-1)).value=bv at *;generalize(jw l (k-1)).entries=be at *;generalize T (jw l (k-1)).name=bn at *;cases q with
    |false =>
     go_upto_region 6 with fail;go_quiet (fail);have Wh:=aq (HC.o.quiet (ax.drewN nq));generalize wr.drewN nq=W at *;clear c0 c1 c2 c3 d0 d1 d2 d3 heq HC
     have HKn:ah (∀j,j<k+1->xH l j=fR):=λj hj=>by
      by_cases e:j<k
      ·exact HK.o j e
      ·have e2:j=k:=by omega
       rw[e2,HKS.o];rfl
     go_wp2_with fail;go_roundg (n+1-(k+1))
     case measure=>omega
     case rel=>exact⟨k+1,by go_num,Wh.o,HKn.o,by omega,by omega,rfl⟩
    |true =>
     go_upto_region 6 with fail;go_quiet (fail);have Wh:=aq (HC.o.quiet (ax.drewN nq));generalize wr.drewN nq=W at *;clear c0 c1 c2 c3 d0 d1 d2 d3 heq HC;go_wp2_with fail
     have HT0:ah (l.take k=compU l (k+1)/\k=eJ (compU l (k+1))):=by
      have e:compU l (k+1)=l.take k:=by rw[compU,AP l k (by rw[<-QK.o];omega) HK.o,HKS.o];simp
      exact⟨e.symm,by rw[e,b5,<-QK.o];omega⟩
     clear HKS hkc;go_loopg [3,5] (n-(k+1)) (λgg kv qv wx=>∃(K q:Nat) (L:List aB),kv=vI K/\qv=vI q/\Ey w g cap n L wx/\L.take K=compU l (k+q)/\K=eJ (compU l (k+q))/\(∀j,k+q-1<=j->j<n->jw L j=jw l j)/\K<=k+q-1/\1<=q/\k+q<=n/\gg=n-(k+q))
     case atStart=>exact⟨k,1,l,rfl,rfl,Wh.o,HT0.o.1,HT0.o.2,λ_ _ _=>rfl,by omega,bj _,by omega,rfl⟩
     case round =>
      obtain⟨K,q,L,rfl,rfl,hC,htk,hKl,hat,hKq,hq1,hqn,rfl⟩:=hrel;have HC:=aq hC;have MK:=aq htk;have HKL:=aq hKl;have HAT:=aq hat;clear hC htk hKl hat HT0 Wh;by_cases hql:k+q<n
      ·have hqi:q<n-k:=by omega
       have HX:ah (jw L (k+q)=jw l (k+q)/\jw L (k+q-1)=jw l (k+q-1)):=⟨HAT.o _ (by omega) hql,HAT.o _ (bj _) (by omega)⟩
       have EU:ah (∀w',Ey w g cap n L w'->(w'.cell? ⟨g,k*4+q*4,eL⟩=eK (eR (T (jw l (k+q)).name))/\w'.cell? ⟨g,k*4+q*4+1,eL⟩=eK (vB (jw l (k+q)).key)/\w'.cell? ⟨g,k*4+q*4+2,eL⟩=eK (vB (jw l (k+q)).value)/\w'.cell? ⟨g,k*4+q*4+3,eL⟩=eK (vB (jw l (k+q)).entries)) /\
         (w'.cell? ⟨g,k*4+(q-1)*4,eL⟩=eK (eR (T (jw l (k+q-1)).name))/\w'.cell? ⟨g,k*4+(q-1)*4+1,eL⟩=eK (vB (jw l (k+q-1)).key)/\w'.cell? ⟨g,k*4+(q-1)*4+2,eL⟩=eK (vB (jw l (k+q-1)).value)/\w'.cell? ⟨g,k*4+(q-1)*4+3,eL⟩=eK (vB (jw l (k+q-1)).entries))):=λw' h=>by
        have h1:=h.at (k+q) hql;have h2:=h.at (k+q-1) (by omega);rw[HX.o.1,Nat.add_mul]at h1;rw[HX.o.2,show k+q-1=k+(q-1) by omega,Nat.add_mul]at h2;rw[show k+q-1=k+(q-1) by omega];exact⟨h1,h2⟩
       obtain⟨⟨c0,c1,c2,c3⟩,⟨d0,d1,d2,d3⟩⟩:=EU.o wr HC.o;have hkc:((q:Int)-1)=((q-1:Nat):Int):=by omega
       have hne:=HN.o (jw l (k+q)) (jw l (k+q-1));have HKS:ah (xH l (k+q)=!lh (jw l (k+q)) (jw l (k+q-1))):=by unfold xH;rw[ah,decide_eq_false (by omega),Bool.false_or]
       have adZ:ah (∀w',Ey w g cap n L w'->Ey w g cap n (L.set K (jw l (k+q))) ((((w'.setCell ⟨g,K*4,eL⟩ (eR (T (jw l (k+q)).name))).setCell ⟨g,K*4+1,eL⟩ (vB (jw l (k+q)).key)).setCell ⟨g,K*4+2,eL⟩ (vB (jw l (k+q)).value)).setCell ⟨g,K*4+3,eL⟩ (vB (jw l (k+q)).entries))):=λw' h=>h.put K (by omega) _;have Io:ah (lh (jw l (k+q)) (jw l (k+q-1))=fR->compU l (k+(q+1))=compU l (k+q)):=λh=>by rw[<-Nat.add_assoc,compU,HKS.o,h];simp
       have Cr:ah (lh (jw l (k+q)) (jw l (k+q-1))=fj->compU l (k+(q+1))=compU l (k+q)++[jw l (k+q)]):=λh=>by rw[<-Nat.add_assoc,compU,HKS.o,h];simp
       have FJ:=aq HC.o.len;clear HKS HX;generalize lh (jw l (k+q)) (jw l (k+q-1))=sm at *;generalize jw l (k+q)=x at *;generalize(jw l (k+q-1)).key=bk at *;generalize(jw l (k+q-1)).value=bv at *;generalize(jw l (k+q-1)).entries=be at *;generalize T (jw l (k+q-1)).name=bn at *;obtain⟨xn,xk,xv,xe⟩:=x
       try simp only at *
       generalize T xn=an at *;cases sm with
       |true =>
        go_upto_region 11 with fail;go_quiet (fail);have Wh:=aq (HC.o.quiet (ax.drewN nq));generalize wr.drewN nq=W2 at *;clear c0 c1 c2 c3 d0 d1 d2 d3 hne HC hkc;have HE:=Io.o rfl;have HTn:ah (L.take K=compU l (k+(q+1))/\K=eJ (compU l (k+(q+1)))):=by rw[ah,HE];exact⟨MK.o,HKL.o⟩
        clear HE;go_wp2_with fail;go_roundg (n-(k+(q+1)))
        case measure=>omega
        case rel=>exact⟨K,q+1,L,rfl,by go_num,Wh.o,HTn.o.1,HTn.o.2,λj h1 h2=>HAT.o j (by omega) h2,by omega,by omega,by omega,rfl⟩
       |false =>
        go_upto_region 11 with fail;go_quiet (fail);have Wh:=aq (HC.o.quiet (ax.drewN nq));generalize wr.drewN nq=W2 at *;clear c0 c1 c2 c3 d0 d1 d2 d3 hne HC hkc;obtain⟨⟨c0,c1,c2,c3⟩,_⟩:=EU.o W2 Wh.o;obtain⟨y0,y1,y2,y3⟩:=Wh.o.at K (by omega);have fz:=Wh.o.frz (by omega);have HTn:ah ((L.set K ⟨xn,xk,xv,xe⟩).take (K+1)=compU l (k+(q+1))/\K+1=eJ (compU l (k+(q+1)))):=by rw[ah,Cr.o rfl];refine⟨?_,by rw[bh,<-HKL.o];rfl⟩;rw[cP,List.take_set_of_le (bj _),MK.o];simp[FJ.o,show K<n by omega]
        have HAn:ah (∀j,k+(q+1)-1<=j->j<n->jw (L.set K ⟨xn,xk,xv,xe⟩) j=jw l j):=λj h1 h2=>by rw[<-HAT.o j (by omega) h2];unfold jw;rw[List.getElem?_set_ne (by omega)]
        have HPn:=aq (adZ.o W2 Wh.o);clear adZ EU;go_wp2_with fail;go_roundg (n-(k+(q+1)))
        case measure=>omega
        case rel=>exact⟨K+1,q+1,_,by go_num,by go_num,HPn.o,HTn.o.1,HTn.o.2,HAn.o,by omega,by omega,by omega,rfl⟩
      ·obtain rfl:n=k+q:=by omega
       obtain⟨w9,hcl,hs9,m9⟩:=HC.o.clear K (cap-K) (by omega) 0;have HR:ah (dz l=L.take K/\(dz l).length=K):=by unfold dz;rw[ah,<-QK.o,MK.o];exact⟨rfl,HKL.o.symm⟩
       have HS9:=aq hs9;have HM9:=aq m9;have hz:k+q-k=q:=by omega
       clear hs9 m9;go_wp2_with fail;go_ret;refine⟨_,rfl,?_,?_,rfl⟩
       ·rw[HR.o.2,HR.o.1];exact HS9.o
       ·exact HM9.o.mono (λb _ e=>by rw[show b=g from e];rfl)
   ·obtain rfl:k=n:=by omega
    have HR:=aq (FT l (by rw[<-QK.o];exact HK.o));go_wp2_with fail;go_ret;refine⟨_,rfl,?_,?_,rfl⟩
    ·rw[HR.o,<-QK.o];exact HC.o.sl
    ·exact HC.o.md.mono (λb _ e=>by rw[show b=g from e];rfl)
def rowOf(f:bz):fa->dN
 |eS o n c=>⟨f,o,n,c⟩
 |_=>⟨f,eL,0,0⟩
def bR.rows(p:bR):List dN:=cH rowOf p.fs p.vs
theorem DN:∀(fs:List bz) (vs:tLV),eJ vs=eJ fs->(∀u∈vs,∃o n c,u=eS o n c)->((fs.map (·.name)).zip vs).flatMap nW=(cH rowOf fs vs).flatMap dN.cells
 |[],[],_,_=>rfl
 |[],_::_,h,_=>by simp at h
 |_::_,[],h,_=>by simp at h
 |f::fs,v::vs,h,hv=>by obtain⟨o,n,c,rfl⟩:=hv v (by simp);rw[ba,cI,al,cw,al,DN fs vs (by simpa using h) (λu hu=>hv u (by simp[hu]))];rfl
theorem pR.slices{w:tW}{lo:Nat}{bs:tLN}{v:fa}{fs:List bz}{vs:tLV}(h:pR w lo bs v fs vs):∀u∈vs,∃o n c,u=eS o n c:=by intro u hu;obtain⟨i,hi,rfl⟩:=cy hu;obtain⟨o,c,e,_⟩:=(h.cd i (by rw[<-h.len];exact hi) hi).view;exact⟨o,_,c,e⟩
theorem fI.Wi{w:tW}{bs:tLN}{p:bR}(h:fI w bs p):Sl w 96 2 p.vF (eJ p.rows) (p.rows.flatMap dN.cells):=by
 have hl:eJ p.rows=eJ p.fs:=by unfold bR.rows;rw[cD,h.fns.len,cJ]
 rw[hl];unfold bR.rows;rw[<-DN p.fs p.vs h.fns.len h.fns.slices];exact h.fns.sl
theorem Wj(l:List dN):∀u∈l.flatMap dN.cells,u.oneCell'=fR:=by intro u hu;obtain⟨x,_,hx⟩:=List.mem_flatMap.1 hu;simp[dN.cells]at hx;rcases hx with rfl|rfl<;>rfl
theorem RI(l:List aB):∀u∈l.flatMap aB.cells,u.oneCell'=fR:=by intro u hu;obtain⟨x,_,hx⟩:=List.mem_flatMap.1 hu;simp[aB.cells]at hx;rcases hx with rfl|rfl|rfl|rfl<;>rfl
structure nY(w0:tW)(B R:Nat)(vM vF:fa)(ms:List aB)(rs:List dN)(w:tW):Prop where
 box:au w B #[vM,vF] 90
 res:au w R #[vN,vN] 90
 maps:Sl w 100 4 vM (eJ ms) (ms.flatMap aB.cells)
 rows:Sl w 96 2 vF (eJ rs) (rs.flatMap dN.cells)
 pF:∀k,vM.ownBlock=eK k->w0.heap.size<=k
 pG:∀k,vF.ownBlock=eK k->w0.heap.size<=k
 J9:w0.heap.size<=B
 RJ:w0.heap.size<=R
 ne:B≠R
 md:aa af w0 w
theorem nY.quiet{w0 w w':tW}{B R:Nat}{vM vF:fa}{ms:List aB}{rs:List dN}(h:nY w0 B R vM vF ms rs w)(m:aa af w w'):nY w0 B R vM vF ms rs w' :=
 ⟨h.box.ai m id,h.res.ai m id,h.maps.ai m (λ_ _=>id),h.rows.ai m (λ_ _=>id),h.pF,h.pG,h.J9,h.RJ,h.ne,h.md.trans m⟩
theorem nY.afN{w0 w w':tW}{B R:Nat}{vM vF v':fa}{ms m2:List aB}{rs:List dN}(h:nY w0 B R vM vF ms rs w)(s:Sl w' 100 4 v' (eJ ms+eJ m2) (ms.flatMap aB.cells++m2.flatMap aB.cells))(m:aa (λk=>vM.ownBlock=eK k) w w')(l:∀k,v'.ownBlock=eK k->vM.ownBlock=eK k\/w.heap.size<=k):nY w0 B R v' vF (ms++m2) rs (w'.setCell ⟨B,0,eL⟩ v'):=by
 have hb:=h.box.ai m (h.maps.aA h.box (by decide));have hr:=h.res.ai m (h.maps.aA h.res (by decide));have mB:aa (Only B) w' (w'.setCell ⟨B,0,eL⟩ v'):=ax.bA _ _;have hF:=h.rows.ai m (λk hk e=>h.rows.apart h.maps (by decide) hk e);refine⟨hb.set 0 v',hr.setOther (a:=⟨B,0,eL⟩) h.ne _,?_,hF.ai mB (λk hk e=>hF.aA hb (by decide) (by rw[<-show k=B from e];exact hk)),λk hk=>?_,h.pG,h.J9,h.RJ,h.ne,(h.md.step m (λi hi e=>by have:=h.pF i e;omega)).set (a:=⟨B,0,eL⟩) (.inr h.J9) _⟩
 ·rw[bh,cG];exact s.ai mB (λk hk e=>s.aA hb (by decide) (by rw[<-show k=B from e];exact hk))
 ·rcases l k hk with e|e
  ·exact h.pF k e
  ·have:=h.md.size;omega
theorem nY.afO{w0 w w':tW}{B R:Nat}{vM vF v':fa}{ms:List aB}{rs r2:List dN}(h:nY w0 B R vM vF ms rs w)(s:Sl w' 96 2 v' (eJ rs+eJ r2) (rs.flatMap dN.cells++r2.flatMap dN.cells))(m:aa (λk=>vF.ownBlock=eK k) w w')(l:∀k,v'.ownBlock=eK k->vF.ownBlock=eK k\/w.heap.size<=k):nY w0 B R vM v' ms (rs++r2) (w'.setCell ⟨B,1,eL⟩ v'):=by
 have hb:=h.box.ai m (h.rows.aA h.box (by decide));have hr:=h.res.ai m (h.rows.aA h.res (by decide));have mB:aa (Only B) w' (w'.setCell ⟨B,1,eL⟩ v'):=ax.bA _ _;have hM:=h.maps.ai m (λk hk e=>h.maps.apart h.rows (by decide) hk e);refine⟨hb.set 1 v',hr.setOther (a:=⟨B,1,eL⟩) h.ne _,hM.ai mB (λk hk e=>hM.aA hb (by decide) (by rw[<-show k=B from e];exact hk)),?_,h.pF,λk hk=>?_,h.J9,h.RJ,h.ne,(h.md.step m (λi hi e=>by have:=h.pG i e;omega)).set (a:=⟨B,1,eL⟩) (.inr h.J9) _⟩
 ·rw[bh,cG];exact s.ai mB (λk hk e=>s.aA hb (by decide) (by rw[<-show k=B from e];exact hk))
 ·rcases l k hk with e|e
  ·exact h.pG k e
  ·have:=h.md.size;omega
theorem nY.sorted{w0 w w':tW}{B R:Nat}{vM vF:fa}{ms ms':List aB}{rs rs':List dN}(h:nY w0 B R vM vF ms rs w)(sM:Sl w' 100 4 vM (eJ ms') (ms'.flatMap aB.cells))(sF:Sl w' 96 2 vF (eJ rs') (rs'.flatMap dN.cells))(m:aa (λb=>vM.ownBlock=eK b\/vF.ownBlock=eK b) w w'):nY w0 B R vM vF ms' rs' w':=by
 refine⟨h.box.ai m ?_,h.res.ai m ?_,sM,sF,h.pF,h.pG,h.J9,h.RJ,h.ne,h.md.step m (λi hi e=>?_)⟩
 ·rintro(e|e)
  ·exact h.maps.aA h.box (by decide) e
  ·exact h.rows.aA h.box (by decide) e
 ·rintro(e|e)
  ·exact h.maps.aA h.res (by decide) e
  ·exact h.rows.aA h.res (by decide) e
 ·rcases e with e|e
  ·have:=h.pF i e;omega
  ·have:=h.pG i e;omega
theorem nY.comp{w0 w w':tW}{B R:Nat}{vM vF v':fa}{ms m2:List aB}{rs:List dN}(h:nY w0 B R vM vF ms rs w)(s:Sl w' 100 4 v' (eJ m2) (m2.flatMap aB.cells))(m:aa (λk=>vM.ownBlock=eK k) w w')(l:v'.ownBlock=vM.ownBlock):nY w0 B R v' vF m2 rs (w'.setCell ⟨B,0,eL⟩ v'):=by have hb:=h.box.ai m (h.maps.aA h.box (by decide));have hr:=h.res.ai m (h.maps.aA h.res (by decide));have mB:aa (Only B) w' (w'.setCell ⟨B,0,eL⟩ v'):=ax.bA _ _;have hF:=h.rows.ai m (λk hk e=>h.rows.apart h.maps (by decide) hk e);exact⟨hb.set 0 v',hr.setOther (a:=⟨B,0,eL⟩) h.ne _,s.ai mB (λk hk e=>s.aA hb (by decide) (by rw[<-show k=B from e];exact hk)),hF.ai mB (λk hk e=>hF.aA hb (by decide) (by rw[<-show k=B from e];exact hk)),λk hk=>h.pF k (l ▸ hk),h.pG,h.J9,h.RJ,h.ne,(h.md.step m (λi hi e=>by have:=h.pF i e;omega)).set (a:=⟨B,0,eL⟩) (.inr h.J9) _⟩
theorem Wk(w0 w:tW)(bs:tLN)(v:fa)(ps:List bR)(hP:Parts w0 bs v ps w)(hpl:eJ ps<=100)(Pk:∀p∈ps,eJ p.ms<=1000)(hfl:∀p∈ps,eJ p.rows<=1000):fS prog 47 #[v] w λe w'=>∃(vM vF:fa) (ms:List aB) (rs:List dN),e=fW (fY #[vM,vF])/\Sl w' 100 4 vM (eJ (dz ms)) ((dz ms).flatMap aB.cells)/\Sl w' 96 2 vF (eJ rs) (rs.flatMap dN.cells)/\ms.Perm (ps.flatMap (·.ms))/\ms.Pairwise (λx y=>jA (T y.name) (T x.name)=fj)/\rs.Perm (ps.flatMap bR.rows)/\rs.Pairwise (λx y=>jA (T y.f.name) (T x.f.name)=fj)/\aa af w w':=by
 obtain⟨o,c,hvv,_⟩:=hP.sl.view;subst hvv;obtain⟨iM,hiM,hzM,hsM,hbM⟩:=oY Av;obtain⟨iF,hiF,hzF,hsF,QZ⟩:=oY yj;have HP:=aq hP;have HML:=aq Pk;have Q5:=aq hfl;have hJ0:nY w (w.heap.size+1) w.heap.size (vN) (vN) [] [] ((w.alloc (fL #[vN,vN] 90)).alloc (fL #[vN,vN] 90)):=by have hb:=au.new (w.alloc (fL #[vN,vN] 90)) #[vN,vN] 90;rw[show(w.alloc (fL #[vN,vN] 90)).heap.size=w.heap.size+1 by simp]at hb;exact⟨hb,(au.new w _ _).alloc _,Sl.nil _ _ _,Sl.nil _ _ _,(λ_ h=>by cases h),(λ_ h=>by cases h),by omega,by omega,by omega,aw.alloc _⟩
 have HJ0:=aq hJ0;clear hP Pk hfl hJ0;go_in;go_wp2_with fail;generalize(w.alloc (fL #[vN,vN] 90)).alloc (fL #[vN,vN] 90)=wB at *;generalize w.heap.size+1=B at *;generalize w.heap.size=R at *;go_loopg [8] (eJ ps) (λg iv wx=>∃(k:Nat) (vM vF:fa),iv=vI k/\nY w B R vM vF ((ps.take k).flatMap (·.ms)) ((ps.take k).flatMap bR.rows) wx/\k<=eJ ps/\g=eJ ps-k)
 case atStart=>exact⟨0,_,_,rfl,HJ0.o,Nat.zero_le _,rfl⟩
 case round =>
  obtain⟨k,vM,vF,rfl,hJ,hk,rfl⟩:=hrel;have HJ:=aq hJ;have hmb:eJ ((ps.take k).flatMap (·.ms))<=100000:=by have:=zB (λp:bR=>p.ms) 1000 (ps.take k) (λx hx=>HML.o x (b9 hx));rw[b5]at this;have h2:min k (eJ ps)*1000<=100*1000:=cx _ (by omega);exact ao this h2
  have hfb:eJ ((ps.take k).flatMap bR.rows)<=100000:=by have:=zB bR.rows 1000 (ps.take k) (λx hx=>Q5.o x (b9 hx));rw[b5]at this;have h2:min k (eJ ps)*1000<=100*1000:=cx _ (by omega);exact ao this h2
  obtain⟨oM,cM,wE,_⟩:=hJ.maps.view;obtain⟨oF,cF,kC,_⟩:=hJ.rows.view;clear hJ HJ0;by_cases hkl:k<eJ ps
  ·obtain⟨gP,rfl,c0,c1'⟩:=(HP.o.quiet HJ.o.md).at k hkl;have Ew:ah ((ps.take (k+1)).flatMap (·.ms)=(ps.take k).flatMap (·.ms)++ps[k].ms):=FN _ ps k hkl;have HFT:ah ((ps.take (k+1)).flatMap bR.rows=(ps.take k).flatMap bR.rows++ps[k].rows):=FN _ ps k hkl;have hpa:=(HP.o.quiet HJ.o.md).each _ (ab hkl);have h1:=HML.o ps[k] (ab hkl);have h2:=Q5.o ps[k] (ab hkl);obtain⟨a1,a2,ha,_⟩:=hpa.maps.view;obtain⟨b1,b2,hb,_⟩:=hpa.Wi.view;have HPM:ah (Sl wr 100 4 (eS a1 (eJ ps[k].ms) a2) (eJ ps[k].ms) (ps[k].ms.flatMap aB.cells)):=by rw[<-ha];exact hpa.maps
   have Ff:ah (∀w',aa af w w'->Sl w' 96 2 (eS b1 (eJ ps[k].rows) b2) (eJ ps[k].rows) (ps[k].rows.flatMap dN.cells)):=λw' m=>by rw[<-hb];exact((HP.o.quiet m).each _ (ab hkl)).Wi
   rw[ha]at c0;rw[hb]at c1';clear hpa ha hb;generalize ps[k].ms=m2 at *;generalize ps[k].rows=r2 at *;generalize(ps.take k).flatMap (·.ms)=ms at *;generalize(ps.take k).flatMap bR.rows=rs at *;subst wE kC;have bU:ah (aa af wr (wr.alloc (fL #[eS a1 (eJ m2) a2,eS b1 (eJ r2) b2] 90))):=aw;have HBp:=aq (au.new wr #[eS a1 (eJ m2) a2,eS b1 (eJ r2) b2] 90);go_upto_region 5 with fail;have Wl:=aq (HJ.o.quiet bU.o);have ad1:=aq (HPM.o.ai bU.o (λ_ _=>id));generalize wr.alloc (fL #[eS a1 (eJ m2) a2,eS b1 (eJ r2) b2] 90)=W at *;have HPn:ah (wr.heap.size≠B):=λe=>by have:=HJ.o.box.lt;omega
   clear c0 c1' HJ HPM bU;generalize wr.heap.size=P at *;have y0:=Wl.o.box.c0;have y1:=HBp.o.c0;go_upto_region 6 with(at_builtin;refine oI _ rfl (.tmp 13) (.tmp 15) 87 rfl 100 iM (fY #[eR E0,vB 0,vB 0,vB 0]) 4 24 underlying87 hiM hzM hsM hbM rfl (by decide) (eS oM (eJ ms) cM) (eJ ms) (ms.flatMap aB.cells) rfl Wl.o.maps (eS a1 (eJ m2) a2) (eJ m2) (m2.flatMap aB.cells) rfl ad1.o (RI _) (by unfold jz;omega) (by omega) ?_;intro v5 w5 s5 m5 l5;obtain⟨o5,c5,rfl,_⟩:=Sl.view s5;have y2:=(Wl.o.box.ai m5 (Wl.o.maps.aA Wl.o.box (by decide))).c0;have y3:=(Wl.o.box.ai m5 (Wl.o.maps.aA Wl.o.box (by decide))).frozen 0)
   have Iw:=aq (Wl.o.afN s5 m5 l5);have ad2:ah (au (w5.setCell ⟨B,0,eL⟩ (eS o5 (eJ ms+eJ m2) c5)) P #[eS a1 (eJ m2) a2,eS b1 (eJ r2) b2] 90):=(HBp.o.ai m5 (Wl.o.maps.aA HBp.o (by decide))).setOther (a:=⟨B,0,eL⟩) (λe=>HPn.o e.symm) _;clear y0 y1 y2 y3 s5 m5 l5 Wl HBp ad1;generalize w5.setCell ⟨B,0,eL⟩ (eS o5 (eJ ms+eJ m2) c5)=W6 at *;have ad3:=aq (Ff.o W6 Iw.o.md);have y0:=Iw.o.box.c1;have y1:=ad2.o.c1;go_upto_region 7 with(at_builtin;refine oI _ rfl (.tmp 19) (.tmp 21) 88 rfl 96 iF (fY #[eR E0,vN]) 2 40 underlying88 hiF hzF hsF QZ rfl (by decide) (eS oF (eJ rs) cF) (eJ rs) (rs.flatMap dN.cells) rfl Iw.o.rows (eS b1 (eJ r2) b2) (eJ r2) (r2.flatMap dN.cells) rfl ad3.o (Wj _) (by unfold jz;omega) (by omega) ?_;intro v7 w7 s7 m7 l7;obtain⟨o7,c7,rfl,_⟩:=Sl.view s7;have y2:=(Iw.o.box.ai m7 (Iw.o.rows.aA Iw.o.box (by decide))).c1;have y3:=(Iw.o.box.ai m7 (Iw.o.rows.aA Iw.o.box (by decide))).frozen 1)
   have HJ3:=aq (Iw.o.afO s7 m7 l7);clear y0 y1 y2 y3 s7 m7 l7 Iw ad2 ad3;generalize w7.setCell ⟨B,1,eL⟩ (eS o7 (eJ rs+eJ r2) c7)=W8 at *;go_wp2_with fail;go_roundg (eJ ps-(k+1))
   case measure=>omega
   case rel=>exact⟨k+1,_,_,by go_num,by rw[Ew.o,HFT.o];exact HJ3.o,by omega,rfl⟩
  ·obtain rfl:k=eJ ps:=by omega
   have HJe:ah (nY w B R vM vF (ps.flatMap (·.ms)) (ps.flatMap bR.rows) wr):=by have:=HJ.o;rw[cq]at this;exact this
   rw[cq]at hmb hfb wE kC;generalize hms:ps.flatMap (·.ms)=ms at *;generalize hrs:ps.flatMap bR.rows=rs at *;have Es:=aq hms;have IQ:=aq hrs;clear hms hrs;subst wE kC;have y0:=HJe.o.box.c0;have y1:=HJe.o.box.c1;go_wp2_with fail;refine(FQ wr (eS oM (eJ ms) cM) (eS oF (eJ rs) cF) ms rs (by omega) (by omega) HJe.o.maps HJe.o.rows).mono ?_;rintro e w2 ⟨rfl,ms',rs',p1,q1,p2,q2,s1,s2,m2⟩;have HJs:=aq (HJe.o.sorted s1 s2 m2);have HPQ:ah (ms'.Perm ms/\ms'.Pairwise (λx y=>jA (T y.name) (T x.name)=fj)/\rs'.Perm rs/\rs'.Pairwise (λx y=>jA (T y.f.name) (T x.f.name)=fj)):=⟨p1,q1,p2,q2⟩
   have e1:=p1.length_eq;have GW:=aq e1;have e2:=p2.length_eq;have HE2:=aq e2;clear y0 y1 p1 q1 p2 q2 s1 s2 m2 e1 e2 HJe HJ;have y0:=HJs.o.box.c0;go_wp2_with fail;refine(Wg w2 (eS oM (eJ ms) cM) ms' (by rw[GW.o];omega) HJs.o.maps).mono ?_;rintro e w3 ⟨v3,rfl,s3,m3,l3⟩;have ML:=aq (HJs.o.comp s3 m3 l3);have hb3:=HJs.o.box.ai m3 (HJs.o.maps.aA HJs.o.box (by decide));obtain⟨o3,c3,hv3,_⟩:=s3.view;subst hv3;have y2:=hb3.c0;have y3:=hb3.frozen 0;clear y0 s3 m3 l3 hb3 HJs;go_upto_region 10 with fail;generalize w3.setCell ⟨B,0,eL⟩ (eS o3 (eJ (dz ms')) c3)=w4 at *;clear y2 y3;have y0:=ML.o.box.c0;have y1:=ML.o.box.c1;have y2:=ML.o.res.c0;have y3:=ML.o.res.c1;have y4:=ML.o.res.frozen 0;have y5:=ML.o.res.frozen 1;go_wp2_with fail;refine bodyPost_ret (results_cell_row results47 _ _ R 90 #[eS o3 (eJ (dz ms')) c3,eS oF (eJ rs) cF] (0,0) _ rfl ((ML.o.res.set 0 _).set 1 _) underlying90 rfl (by kernel_rfl)) rfl ?_;obtain⟨p1,q1,p2,q2⟩:=HPQ.o;have mR:aa (Only R) w4 ((w4.setCell ⟨R,0,eL⟩ (eS o3 (eJ (dz ms')) c3)).setCell ⟨R,1,eL⟩ (eS oF (eJ rs) cF)):=(ax.bA _ _).bA _ _;refine⟨_,_,ms',rs',rfl,ML.o.maps.ai mR (λk hk e=>ML.o.maps.aA ML.o.res (by decide) (by rw[<-show k=R from e];exact hk)),ML.o.rows.ai mR (λk hk e=>ML.o.rows.aA ML.o.res (by decide) (by rw[<-show k=R from e];exact hk)),by rw[Es.o];exact p1,q1,by rw[IQ.o];exact p2,q2,?_⟩;exact ML.o.md.step mR (λi hi e=>by have h1:i=R:=e;have:=ML.o.RJ;omega)
structure uZ(p:List aB×List bz):Prop where
 ml:eJ p.1<=8
 fl:eJ p.2<=16
 mb:∀m∈p.1,eJ m.name<=255/\m.key<=255/\m.value<=255/\m.entries<=255
 fb:∀f∈p.2,eJ f.name<=255/\f.code.length<=200
theorem Ka{w:tW}{bs:tLN}{p:bR}(h:fI w bs p):eJ p.rows=eJ p.fs:=by unfold bR.rows;rw[cD,h.fns.len,cJ]
theorem abl:∀(fs:List bz) (vs:tLV),eJ vs=eJ fs->(cH rowOf fs vs).map (·.f)=fs
 |[],_,_=>rfl
 |f::fs,[],h=>by simp at h
 |f::fs,v::vs,h=>by rw[cw,ba,abl fs vs (by simpa using h)];cases v<;>rfl
theorem ab2{w:tW}{bs:tLN}{p:bR}(h:fI w bs p):p.rows.map (·.f)=p.fs:=abl p.fs p.vs h.fns.len
structure Wm(w:tW)(lo:Nat)(bs:tLN)(r:dN):Prop where
 sl:Sl w 138 8 r.v (eJ r.f.code) (fH bs r.f.code)
 ok:∀x∈r.f.code,gm x
 own:∀k,r.v.ownBlock=eK k->lo<=k
theorem DP{w:tW}{bs:tLN}{p:bR}(h:fI w bs p)(i:Nat)(hi:i<eJ p.rows):∃(h1:i<eJ p.fs) (h2:i<eJ p.vs),p.rows[i].f=p.fs[i]/\p.rows[i].v=p.vs[i]:=by
 have h1:i<eJ p.fs:=by rw[<-Ka h];exact hi
 have h2:i<eJ p.vs:=by rw[h.fns.len];exact h1
 refine⟨h1,h2,?_⟩;have e:p.rows[i]=rowOf p.fs[i] p.vs[i]:=List.getElem_zipWith (f:=rowOf) (h:=hi);obtain⟨o,n,c,ev⟩:=h.fns.slices p.vs[i] (ab h2);rw[e,ev];exact⟨rfl,rfl⟩
theorem AQ{w:tW}{bs:tLN}{p:bR}(h:fI w bs p):∀r∈p.rows,Wm w p.lo bs r/\r.v∈p.vs/\r.f∈p.fs:=by
 intro r hr;obtain⟨i,hi,rfl⟩:=cy hr;obtain⟨h1,h2,e1,e2⟩:=DP h i hi;refine⟨⟨?_,?_,?_⟩,by rw[e2];exact ab h2,by rw[e1];exact ab h1⟩
 ·rw[e1,e2];exact h.fns.cd i h1 h2
 ·rw[e1];exact h.fns.ok _ (ab h1)
 ·rw[e2];exact h.fns.ma _ (ab h2)
def MM(x y:dN):Prop:=∀k,x.v.ownBlock=eK k->y.v.ownBlock≠eK k
theorem aaj{w:tW}{bs:tLN}{p:bR}(h:fI w bs p):p.rows.Pairwise MM:=by rw[cj];intro i j hi hj hij k hk;obtain⟨a1,a2,_,e2⟩:=DP h i hi;obtain⟨b1,b2,_,f2⟩:=DP h j hj;rw[e2]at hk;rw[f2];exact h.fns.ne i j a2 b2 (by omega) k hk
theorem Kb{w:tW}{bs:tLN}:∀(ps:List bR),(∀p∈ps,fI w bs p)->ps.Pairwise (λp q=>∀u∈p.vs,∀k,u.ownBlock=eK k->k<q.lo)->(ps.flatMap bR.rows).Pairwise MM
 |[],_,_=>List.Pairwise.nil
 |p::ps,h,ho=>by rw[al,List.pairwise_append];rw[List.pairwise_cons]at ho;refine⟨aaj (h p (by simp)),Kb ps (λq hq=>h q (by simp[hq])) ho.2,λx hx y hy k hk hk2=>?_⟩;obtain⟨q,hq,hy⟩:=List.mem_flatMap.1 hy;have h1:=ho.1 q hq x.v (AQ (h p (by simp)) x hx).2.1 k hk;have h2:=(AQ (h q (by simp[hq])) y hy).1.own k hk2;omega
theorem Kc:∀rs:List dN,(((rs.map (·.f)).map (·.name)).zip (rs.map dN.v)).flatMap nW=rs.flatMap dN.cells
 |[]=>rfl
 |r::rs=>by rw[ba,ba,ba,cI,al,al,Kc rs];rfl
theorem ab3{wT w:tW}{bs:tLN}{v vM vF:fa}{ps:List bR}{ms:List aB}{rs:List dN}(hP:Parts wT bs v ps w)(hM:Sl w 100 4 vM (eJ ms) (ms.flatMap aB.cells))(hF:Sl w 96 2 vF (eJ rs) (rs.flatMap dN.cells))(hp:rs.Perm (ps.flatMap bR.rows)):uX wT w bs vM vF ms (rs.map (·.f)) (rs.map dN.v)/\∀f∈rs.map (·.f),∀x∈f.code,gm x:=by
 have hr:∀r∈rs,Wm w wT.heap.size bs r:=λr hr=>by obtain⟨p,hpm,hr⟩:=List.mem_flatMap.1 (hp.subset hr);have h:=(AQ (hP.each p hpm) r hr).1;exact⟨h.sl,h.ok,λk hk=>ao (hP.lo p hpm) (h.own k hk)⟩
 have hne:=(hp.pairwise_iff (fun{x y} h k hk e=>h k e hk)).2 (Kb ps hP.each hP.ord);rw[cj]at hne;refine⟨⟨hM,by simp,?_,λi h1 h2=>?_,λi j h1 h2 hij k hk e=>?_,λu hu k hk=>?_,hP.md⟩,λf hf x hx=>?_⟩
 ·rw[Kc,ar];exact hF
 ·rw[ar]at h1 h2;simp only[cW];exact(hr rs[i] (ab h1)).sl
 ·rw[ar]at h1 h2;simp only[cW]at hk e;rcases Nat.lt_or_ge i j with c|c
  ·exact hne i j h1 h2 c k hk e
  ·exact hne j i h2 h1 (by omega) k e hk
 ·obtain⟨r,hrm,rfl⟩:=List.mem_map.1 hu;exact(hr r hrm).own k hk
 ·obtain⟨r,hrm,rfl⟩:=List.mem_map.1 hf;exact(hr r hrm).ok x hx
def iG(r1 r2 r3:Int)(tm:Bool):Int×Int:=if r1≠-1 then(4,r1)else if r2≠-1 then(8,r2)else if r3≠-1 then(5,r3)else if tm then(1,0)else(0,0)
theorem RL(wT w:tW)(tv:fa)(bs:tLN)(hT:aM 0 wT tv bs az)(v:fa)(ps:List bR)(hP:Parts wT bs v ps w)(hpl:eJ ps<=8)(hok:∀p∈ps,uZ p.plain)(vM vF:fa) (ms:List aB) (fs:List bz) (vs:tLV) (hW:uX wT w bs vM vF ms fs vs) (hm:eJ ms<=1000) (hf:eJ fs<=1000) (hfo:∀f∈fs,eJ f.code<=200/\∀x∈f.code,gm x) (hsum:∀k,qk (fs.take k)<=1000000)(r1 r2 r3:Int) (tm:Bool) (h1:r1=twiceP 0 [] (ps.map (λp=>p.fs.map (λf=>T f.name)))) (h2:r2=otherP 0 [] (ps.map (·.ms))) (h3:r3=missP ((fs.map (·.name)).map T) 0 (ps.map (·.fs))) (h4:tm=(gh (8<eJ ms)||decide (16<eJ fs)||decide (200<qk fs))):fS prog 48 #[v,fY #[vM,vF]] w λe w'=>e=fW (jl #[vI (iG r1 r2 r3 tm).1,vI (iG r1 r2 r3 tm).2])/\aa af w w':=by
 obtain⟨o,c,hv,_⟩:=hP.sl.view;obtain⟨oM,cM,wE,_⟩:=hW.maps.view;obtain⟨oF,cF,kC,_⟩:=hW.rows.view;have H1:=aq (λw' m=>Rx wT w' bs v ps (hP.quiet m) (by omega) (λp hp=>ao (hok p hp).fl (by omega)) r1 h1);have H2:=aq (λw' m=>ME wT w' bs v ps (hP.quiet m) (by omega) (λp hp=>ao (hok p hp).ml (by omega)) r2 h2);have hz:eJ ((fs.map (·.name)).zip vs)=eJ fs:=by rw[List.length_zip,ar,hW.len,cJ]
 have H3:=aq (λw' m=>by have:=VQ wT w' tv bs hT v ps (hP.quiet m) (by omega) (λp hp=>⟨ao (hok p hp).fl (by omega),λf hf=>ao ((hok p hp).fb f hf).2 (by omega)⟩) vM vF oM (eJ ms) cM wE ((fs.map (·.name)).zip vs) hW.slices (by rw[hz];exact(hW.quiet m).rows) (by rw[hz];exact hf) _ (FO _ (by rw[ar];exact hW.len)).symm;rw[<-h3]at this;exact this);have H4:ah (∀w',aa af w w'->fS prog 83 #[fY #[vM,vF]] w' λe w2=>e=fW (.bool tm)/\aa af w' w2):=λw' m=>by rw[h4];exact aac w' tv bs vM vF ms fs vs ((hW.quiet m).ppr hT) hm hf hfo hsum
 have HB0:=aq (au.new w #[vM,vF] 90);have eW:ah (aa af w (w.alloc (fL #[vM,vF] 90))):=aw;subst hv wE kC;clear hP hW hok hfo hsum h1 h2 h3 h4 hT hz;obtain⟨e1,he1⟩:∃e1,e1=(iG r1 r2 r3 tm).1:=⟨_,rfl⟩
 obtain⟨e2,he2⟩:∃e2,e2=(iG r1 r2 r3 tm).2:=⟨_,rfl⟩
 rw[<-he1,<-he2];have HE:ah (e1=(iG r1 r2 r3 tm).1/\e2=(iG r1 r2 r3 tm).2):=⟨he1,he2⟩
 clear he1 he2;go_in;go_wp2_with fail;refine(H1.o _ eW.o).mono ?_;rintro e w1 ⟨rfl,m1⟩;have bU:=aq (eW.o.trans m1);have HB1:=aq (HB0.o.ai m1 id);clear m1;by_cases c1:r1=-1
 ·subst c1;go_wp2_with fail;refine(H2.o _ bU.o).mono ?_;rintro e w2 ⟨rfl,m2⟩;have bP:=aq (bU.o.trans m2);have HB2:=aq (HB1.o.ai m2 id);clear m2;by_cases c2:r2=-1
  ·subst c2;have y0:=HB2.o.c0;have y1:=HB2.o.c1;go_wp2_with fail;refine(H3.o _ bP.o).mono ?_;rintro e w3 ⟨rfl,m3⟩;have dF:=aq (bP.o.trans m3);have HB3:=aq (HB2.o.ai m3 id);clear m3 y0 y1;by_cases c3:r3=-1
   ·subst c3;have y0:=HB3.o.c0;have y1:=HB3.o.c1;go_wp2_with fail;refine(H4.o _ dF.o).mono ?_;rintro e w4 ⟨rfl,m4⟩;have gG:=aq (dF.o.trans m4);clear m4 y0 y1;cases tm with
    |true =>go_wp2_with fail;go_ret2;exact⟨by rw[HE.o.1,HE.o.2];rfl,gG.o⟩
    |false =>go_wp2_with fail;go_ret2;exact⟨by rw[HE.o.1,HE.o.2];rfl,gG.o⟩
   ·have t1:gh (r3=-1)=fj:=by simpa using c3
    have t2:(r3==-1)=fj:=by simpa using c3
    have Re:ah (e1=5/\e2=r3):=by have:=HE.o;unfold iG at this;rw[iN9 (by decide),iN9 (by decide),iP9 c3]at this;exact this
    clear c3;go_wp2_with fail;go_ret2;exact⟨by rw[Re.o.1,Re.o.2];rfl,dF.o⟩
  ·have t1:gh (r2=-1)=fj:=by simpa using c2
   have t2:(r2==-1)=fj:=by simpa using c2
   have Re:ah (e1=8/\e2=r2):=by have:=HE.o;unfold iG at this;rw[iN9 (by decide),iP9 c2]at this;exact this
   clear c2;go_wp2_with fail;go_ret2;exact⟨by rw[Re.o.1,Re.o.2];rfl,bP.o⟩
 ·have t1:gh (r1=-1)=fj:=by simpa using c1
  have t2:(r1==-1)=fj:=by simpa using c1
  have Re:ah (e1=4/\e2=r1):=by have:=HE.o;unfold iG at this;rw[iP9 c1]at this;exact this
  clear c1;go_wp2_with fail;go_ret2;exact⟨by rw[Re.o.1,Re.o.2];rfl,bU.o⟩
def TF(ms:List aB):List tBA:=ms.map (λx=>T x.name)
def RM(fs:List bz):List tBA:=(fs.map (·.name)).map T
def RN(ms:List aB)(fs:List bz):Bool:=gh (8<eJ ms)||decide (16<eJ fs)||decide (200<qk fs)
def mr(ds:List (List aB×List bz))(ms:List aB)(fs:List bz):Int×Int :=
 iG (twiceP 0 [] (ds.map (λp=>p.2.map (λf=>T f.name)))) (otherP 0 [] (ds.map (·.1))) (missP (RM fs) 0 (ds.map (·.2))) (RN (dz ms) fs)
def kg(bO:List tLB)(s:tBA)(e a:Int):Prop :=
 if eJ bO=0\/8<eJ bO then s=E0/\e=9/\a=0
 else if(decsP bO).length<eJ bO then s=E0/\e=7/\a=eJ (decsP bO)
 else ∃(ms:List aB) (fs:List bz),ms.Perm ((decsP bO).flatMap (·.1))/\ms.Pairwise (λx y=>jA (T y.name) (T x.name)=fj)/\fs.Perm ((decsP bO).flatMap (·.2))/\fs.Pairwise (λx y=>jA (T y.name) (T x.name)=fj) /\
  (if(mr (decsP bO) ms fs).1≠0 then s=E0/\e=(mr (decsP bO) ms fs).1/\a=(mr (decsP bO) ms fs).2
   else s=T (kJ 2 (dz ms) (fs.map (bz.linked (TF (dz ms)) (RM fs))))/\e=0/\a=0)
theorem DQ:∀l:List PI,(∀x∈l,gm x)->aU l<=2*eJ l
 |[],_=>by simp[aU]
 |x::l,h=>by have h1:=DQ l (λy hy=>h y (by simp[hy]));have h2:=(h x (by simp)).slots;unfold aU at *;simp only[ba,List.sum_cons,bt];omega
theorem Oj:∀fs:List bz,(∀f∈fs,eJ f.code<=200/\∀x∈f.code,gm x)->qk fs<=400*eJ fs
 |[],_=>by simp[qk]
 |f::fs,h=>by have h1:=Oj fs (λy hy=>h y (by simp[hy]));have h2:=h f (by simp);have h3:=DQ f.code h2.2;unfold qk at *;simp only[ba,List.sum_cons,bt];omega
theorem gm.linked{x:PI}(h:gm x)(mn fn:List tBA)(hm:eJ mn<=1000)(hf:eJ fn<=1000):gm (x.linked mn fn):=by
 refine⟨h.k,h.d,h.s,h.j,?_,h.h⟩;show -2147483648<=EO mn fn x/\EO mn fn x<=2147483647
 unfold EO;have h1:=mQ (T x.name) fn;have h2:=mQ (T x.name) mn;have h3:=h.n;split
 ·omega
 ·split<;>omega
theorem FU(l:List aB):∀n,n<=eJ l->∀m∈compU l n,m∈l
 |0,_,m,hm=>by simp[compU]at hm
 |n+1,h,m,hm=>by
  unfold compU at hm;rcases List.mem_append.1 hm with hm|hm
  ·exact FU l n (by omega) m hm
  ·split at hm
   ·rw[List.mem_singleton.1 hm,MJ l n (by omega)];exact ab _
   ·cases hm
theorem RO(l:List aB):∀m∈dz l,m∈l:=FU l (eJ l) (bj _)
theorem Ke(l:List aB):eJ (dz l)<=eJ l:=J8 l (eJ l)
theorem Kf{ps:List bR}{ds:List (List aB×List bz)}(h:ps.map bR.plain=ds):eJ ds=eJ ps/\ds.flatMap (·.1)=ps.flatMap (·.ms)/\ds.flatMap (·.2)=ps.flatMap (·.fs)/\ds.map (·.1)=ps.map (·.ms)/\ds.map (·.2)=ps.map (·.fs)/\ds.map (λp=>p.2.map (λf=>T f.name))=ps.map (λp=>p.fs.map (λf=>T f.name)):=by
 subst h;refine⟨by simp,?_,?_,?_,?_,?_⟩
 ·rw[cY];rfl
 ·rw[cY];rfl
 ·rw[cN];rfl
 ·rw[cN];rfl
 ·rw[cN];rfl
theorem DR{w:tW}{bs:tLN}:∀(ps:List bR),(∀p∈ps,fI w bs p)->(ps.flatMap bR.rows).map (·.f)=ps.flatMap (·.fs)
 |[],_=>rfl
 |p::ps,h=>by rw[al,List.map_append,al,ab2 (h p (by simp)),DR ps (λq hq=>h q (by simp[hq]))]
theorem MN(r1 r2 r3:Int)(tm:Bool):((iG r1 r2 r3 tm).1=0/\tm=fj)\/(1<=(iG r1 r2 r3 tm).1/\(iG r1 r2 r3 tm).1<=8):=by
 unfold iG;split
 ·right;exact⟨(by decide:(1:Int)<=4),(by decide:(4:Int)<=8)⟩
 ·split
  ·right;exact⟨(by decide:(1:Int)<=8),(by decide:(8:Int)<=8)⟩
  ·split
   ·right;exact⟨(by decide:(1:Int)<=5),(by decide:(5:Int)<=8)⟩
   ·cases tm
    ·left;exact⟨rfl,rfl⟩
    ·right;exact⟨(by decide:(1:Int)<=1),(by decide:(1:Int)<=8)⟩
theorem Kg:∀l:List tLB,eJ (decsP l)<=eJ l
 |[]=>bj _
 |s::l=>by
  rw[decsP];split
  ·exact Nat.zero_le _
  ·rw[bt,bt];exact Nat.succ_le_succ (Kg l)
theorem Kh{ps:List bR}(hn:eJ ps<=8)(hok:∀p∈ps,uZ p.plain){ms:List aB}{fs:List bz}(pm:ms.Perm (ps.flatMap (·.ms)))(pf:fs.Perm (ps.flatMap (·.fs)))(hpi:∀f∈fs,∀x∈f.code,gm x):eJ ms<=64/\fs.length<=128/\(∀f∈fs,eJ f.name<=255/\f.code.length<=200/\∀x∈f.code,gm x)/\(∀m∈ms,eJ m.name<=255/\m.key<=255/\m.value<=255/\m.entries<=255)/\∀k,qk (fs.take k)<=1000000:=by
 have h1:eJ ms<=64:=by have:=zB (λp:bR=>p.ms) 8 ps (λp hp=>(hok p hp).ml);rw[pm.length_eq];omega
 have h2:eJ fs<=128:=by have:=zB (λp:bR=>p.fs) 16 ps (λp hp=>(hok p hp).fl);rw[pf.length_eq];omega
 have h3:∀f∈fs,eJ f.name<=255/\f.code.length<=200/\∀x∈f.code,gm x:=λf hf=>by obtain⟨p,hp,hf2⟩:=List.mem_flatMap.1 (pf.mem_iff.1 hf);have:=(hok p hp).fb f hf2;exact⟨this.1,this.2,hpi f hf⟩
 refine⟨h1,h2,h3,λm hm=>?_,λk=>?_⟩
 ·obtain⟨p,hp,hf2⟩:=List.mem_flatMap.1 (pm.mem_iff.1 hm);exact(hok p hp).mb m hf2
 ·have:=Oj (fs.take k) (λf hf=>(h3 f (b9 hf)).2);rw[b5]at this;omega
theorem Wo{ms:List aB}{fs:List bz}(h3:∀f∈fs,eJ f.name<=255/\f.code.length<=200/\∀x∈f.code,gm x)(h4:∀m∈ms,eJ m.name<=255/\m.key<=255/\m.value<=255/\m.entries<=255)(ht:RN (dz ms) fs=fj):EOk (dz ms) (fs.map (bz.linked (TF (dz ms)) (RM fs))):=by unfold RN at ht;simp only[Bool.or_eq_false_iff,decide_eq_false_iff_not]at ht;refine⟨by omega,by rw[ar];omega,λm hm=>h4 m (RO ms m hm),λf hf=>?_⟩;obtain⟨g,hg,rfl⟩:=List.mem_map.1 hf;have:=h3 g hg;refine⟨this.1,by show(g.code.map _).length<=200;rw[ar];exact this.2.1,λx hx=>?_⟩;obtain⟨y,hy,rfl⟩:=List.mem_map.1 (show x∈g.code.map (PI.linked (TF (dz ms)) (RM fs))from hx);exact(this.2.2 y hy).linked _ _ (by unfold TF;rw[ar];omega) (by unfold RM;rw[ar,ar];omega)
theorem Wp(w:tW)(hE:uS w)(o:Option Addr)(cap:Nat)(bO:List tLB)(hb:0<eJ bO->∃g cs,o=eK ⟨g,0,eL⟩/\au w g cs 9/\∀k (h:k<eJ bO),cs[k]?=eK (eR (T bO[k])))(hn:eJ bO<=jz)(hs:∀s∈bO,eJ s<=jz)(hq:∀q∈decsP bO,uZ q):fS prog 25 #[eS o (eJ bO) cap] w λr w'=>∃s e a,r=fW (jl #[eR s,vI e,vI a])/\kg bO s e a/\aa af w w':=by
 by_cases h0:eJ bO=0
 ·have HL:ah (kg bO E0 9 0):=by unfold kg;rw[ah,iP9 (.inl h0)];exact⟨rfl,rfl,rfl⟩
  rw[h0];clear hb hq hs;go_in;go_wp2_with fail;go_ret3;exact⟨_,_,_,rfl,HL.o,ax⟩
 by_cases h8:8<eJ bO
 ·have HL:ah (kg bO E0 9 0):=by unfold kg;rw[ah,iP9 (.inr h8)];exact⟨rfl,rfl,rfl⟩
  clear hb hq hs;generalize eJ bO=n at *;have t1:gh ((n:Int)=0)=fj:=by simp;omega
  have t2:((n:Int)==0)=fj:=by simp;omega
  have hn2:n<=9223372036854775807:=hn;go_in;go_wp2_with fail;go_ret3;exact⟨_,_,_,rfl,HL.o,ax⟩
 obtain⟨g,cs,rfl,hbk,hcs⟩:=hb (by omega);have ad4:=aq (VP w hE g cap cs bO hbk hcs (by omega) hs);have HQ:=aq hq
 have HLQ:ah (∀s e a,kg bO s e a↔if(decsP bO).length<eJ bO then s=E0/\e=7/\a=eJ (decsP bO)
   else ∃(ms:List aB) (fs:List bz),ms.Perm ((decsP bO).flatMap (·.1))/\ms.Pairwise (λx y=>jA (T y.name) (T x.name)=fj)/\fs.Perm ((decsP bO).flatMap (·.2))/\fs.Pairwise (λx y=>jA (T y.name) (T x.name)=fj) /\
    (if(mr (decsP bO) ms fs).1≠0 then s=E0/\e=(mr (decsP bO) ms fs).1/\a=(mr (decsP bO) ms fs).2
     else s=T (kJ 2 (dz ms) (fs.map (bz.linked (TF (dz ms)) (RM fs))))/\e=0/\a=0)):=λs e a=>by
  unfold kg;rw[iN9 (by omega)]
 have hno:eJ bO<=8:=by omega
 have HDL:=aq (Kg bO);clear hbk hcs hE hs hq hb h8 hn;generalize eJ bO=n at *;have t1:gh ((n:Int)=0)=fj:=by simp;omega
 have t2:((n:Int)==0)=fj:=by simp;omega
 have t3:gh ((8:Int)<n)=fj:=by simp;omega
 clear h0;go_in;go_wp2_with fail;refine ad4.o.mono ?_;rintro e w1 ⟨v,tv,bs,ps,wT,rfl,hT,mT,hP,hpl⟩;obtain⟨o5,c5,hv5,_⟩:=hP.sl.view;subst hv5;obtain⟨d1,d2,d3,d4,d5,d6⟩:=Kf hpl;have bU:=aq (mT.trans hP.md);have Ew:=aq mT;have HP:=aq hP;have HT:=aq hT;have HD:=aq d1;have HDS:ah ((decsP bO).flatMap (·.1)=ps.flatMap (·.ms)/\(decsP bO).flatMap (·.2)=ps.flatMap (·.fs)/\(decsP bO).map (·.1)=ps.map (·.ms)/\(decsP bO).map (·.2)=ps.map (·.fs)/\(decsP bO).map (λp=>p.2.map (λf=>T f.name))=ps.map (λp=>p.fs.map (λf=>T f.name))):=⟨d2,d3,d4,d5,d6⟩
 have xx:=aq (λp hp=>HQ.o _ (by rw[<-hpl];exact List.mem_map.2 ⟨p,hp,rfl⟩));clear hP hT mT hpl d1 d2 d3 d4 d5 d6 ad4 HQ t1 t2 t3;by_cases hlt:eJ ps<n
 ·have HR:ah (kg bO E0 7 (eJ ps)):=by rw[ah,HLQ.o,iP9 (by rw[HD.o];exact hlt),HD.o];exact⟨rfl,rfl,rfl⟩
  go_wp2_with fail;go_ret3;exact⟨_,_,_,rfl,HR.o,bU.o⟩
 ·have hps:eJ ps<=8:=by have:=HDL.o;rw[HD.o]at this;exact ao this hno
  go_wp2_with fail;refine(Wk wT w1 bs _ ps HP.o (by omega) (λp hp=>ao (xx.o p hp).ml (by omega)) (λp hp=>by rw[Ka (HP.o.each p hp)];exact ao (xx.o p hp).fl (by omega))).mono ?_;rintro e w2 ⟨vM,vF,ms,rs,rfl,hM,hF,pm,sm,pr,sr,m2⟩;obtain⟨hW,hok⟩:=ab3 (HP.o.quiet m2) hM hF pr;obtain⟨oM,cM,wE,_⟩:=hM.view;obtain⟨oF,cF,kC,_⟩:=hF.view;have pf:(rs.map (·.f)).Perm (ps.flatMap (·.fs)):=by rw[<-DR ps HP.o.each];exact pr.map _
  have sf:(rs.map (·.f)).Pairwise (λx y=>jA (T y.name) (T x.name)=fj):=List.pairwise_map.2 sr;have hrl:eJ rs=eJ (rs.map (·.f)):=by simp
  rw[hrl]at kC;clear hM hF pr sr hrl;generalize rs.map (·.f)=fs at *;generalize rs.map dN.v=vs at *;have hbd:=Kh hps xx.o pm pf hok;obtain⟨F,hFF⟩:∃F,F=mr (decsP bO) ms fs:=⟨_,rfl⟩
  have AJ:ah (∀s e a,(if F.1≠0 then s=E0/\e=F.1/\a=F.2 else s=T (kJ 2 (dz ms) (fs.map (bz.linked (TF (dz ms)) (RM fs))))/\e=0/\a=0)->kg bO s e a):=λs e a h=>by rw[HLQ.o,iN9 (by rw[HD.o];exact hlt)];refine⟨ms,fs,by rw[HDS.o.1];exact pm,sm,by rw[HDS.o.2.1];exact pf,sf,?_⟩;rw[<-hFF];exact h
  have HFZ:ah ((F.1=0/\RN (dz ms) fs=fj)\/(1<=F.1/\F.1<=8)):=by rw[ah,hFF];exact MN _ _ _ _
  have HFA:ah (∀w',aa af w2 w'->fS prog 48 #[eS o5 (eJ ps) c5,fY #[vM,vF]] w' λe w3=>e=fW (jl #[vI F.1,vI F.2])/\aa af w' w3):=λw' m=>by rw[hFF];exact RL wT w' tv bs HT.o _ ps ((HP.o.quiet m2).quiet m) hps xx.o vM vF (dz ms) fs vs (hW.quiet m) (ao (Ke ms) (by omega)) (by omega) (λf hf=>(hbd.2.2.1 f hf).2) hbd.2.2.2.2 _ _ _ _ (by rw[HDS.o.2.2.2.2]) (by rw[HDS.o.2.2.1]) (by rw[HDS.o.2.2.2.1];rfl) rfl
  have Da:ah (∀w',aa af w2 w'->∀X cX,au w' X cX 90->fS prog 49 #[fY #[vM,vF]] w' λe w3=>e=fW (jl #[])/\uX wT w3 bs vM vF (dz ms) (fs.map (bz.linked (TF (dz ms)) (RM fs))) vs/\au w3 X cX 90):=λw' m X cX hX =>
   Ru wT w' tv bs HT.o vM vF (dz ms) fs vs (hW.quiet m) (ao (Ke ms) (by omega)) (by omega) (λf hf=>⟨ao (hbd.2.2.1 f hf).2.1 (by omega),(hbd.2.2.1 f hf).2.2⟩) _ _ rfl rfl X cX hX
  have HIM:=aq (λ(ht:RN (dz ms) fs=false) w' (h:uX wT w' bs vM vF (dz ms) (fs.map (bz.linked (TF (dz ms)) (RM fs))) vs)=>aab w' tv bs vM vF _ _ vs (h.ppr HT.o) (Wo hbd.2.2.1 hbd.2.2.2.1 ht));have bP:=aq (bU.o.trans m2);clear hbd hFF pm sm pf sf hok m2 hW HLQ HD HDS HDL xx HP bU hps;generalize RN (dz ms) fs=tm at *;generalize T (kJ 2 (dz ms) (fs.map (bz.linked (TF (dz ms)) (RM fs))))=im at *;subst wE kC;obtain⟨F1,F2⟩:=F;have HB0:=aq (au.new w2 #[eS oM (eJ (dz ms)) cM,eS oF (eJ fs) cF] 90);have dF:ah (aa af w2 (w2.alloc (fL #[eS oM (eJ (dz ms)) cM,eS oF (eJ fs) cF] 90))):=aw;go_wp2_with fail;refine(HFA.o _ dF.o).mono ?_;rintro e w3 ⟨rfl,m3⟩;have HB3:=aq (HB0.o.ai m3 id);have gG:=aq (dF.o.trans m3);clear m3 HB0 dF HFA;generalize w2.heap.size=B at *;by_cases hz:F1=0
  ·subst hz
   have htm:tm=fj:=by
    rcases HFZ.o with h|h
    ·exact h.2
    ·exact absurd h.1 (by decide)
   have gq:=aq (AJ.o im 0 0 (by rw[iN9 (by decide)];exact⟨rfl,rfl,rfl⟩));have ad5:=aq (HIM.o htm);have y0:=HB3.o.c0;have y1:=HB3.o.c1;clear AJ HFZ htm HIM;go_wp2_with fail;refine(Da.o _ gG.o _ _ HB3.o).mono ?_;rintro e w4 ⟨rfl,hW4,hB4⟩;have Ev:=aq hW4;clear y0 y1 HB3 Da gG hW4;have y0:=hB4.c0;have y1:=hB4.c1;clear hB4;go_wp2_with fail;refine(ad5.o _ Ev.o).mono ?_;rintro e w5 ⟨rfl,m5⟩;have Yt:=aq ((Ew.o.trans Ev.o.md).trans m5);clear ad5 Ev m5 y0 y1;go_wp2_with fail;go_ret3;exact⟨_,_,_,rfl,gq.o,Yt.o⟩
  ·have t1:gh (F1=0)=fj:=by simpa using hz
   have t2:(F1==0)=fj:=by simpa using hz
   have gq:=aq (AJ.o E0 F1 F2 (by rw[iP9 hz];exact⟨rfl,rfl,rfl⟩));have Yt:=aq (bP.o.trans gG.o);clear AJ HFZ HIM Da gG HB3 hz;go_wp2_with fail;go_ret3;exact⟨_,_,_,rfl,gq.o,Yt.o⟩
def Ki(ms:List aB)(fs:List bz):tLB:=kJ 1 ms fs++b8 (lH (pcntR fs))++prefF 0 fs
def zG(l:tLB)(s:tBA)(c n:Nat):Prop :=
 if 4000<eJ l then s=⟨#[]⟩/\c=1/\n=0
 else match parseP (linesP l) fj 0 []with
  |.inr k=>s=⟨#[]⟩/\c=2/\n=k
  |.inl ls=>if(firstP (aj ls) ls {} 0).1=0 then(c=0/\n=0/\∃ms fs,ms.Perm (aR (aj ls) ls).ms/\ms.Pairwise (λx y=>jA (T y.name) (T x.name)=fj)/\fs.Perm (aR (aj ls) ls).fs/\fs.Pairwise (λx y=>jA (T y.name) (T x.name)=fj)/\s=T (Ki ms fs))
   else s=⟨#[]⟩/\c=(firstP (aj ls) ls {} 0).1/\n=(firstP (aj ls) ls {} 0).2
theorem zG.ok{l:tLB}{ls:List fE}{ms:List aB}{fs:List bz}(hb:¬4000<eJ l)(hp:parseP (linesP l) fj 0 []=.inl ls)(h0:(firstP (aj ls) ls {} 0).1=0)(h1:ms.Perm (aR (aj ls) ls).ms)(h2:ms.Pairwise (λx y=>jA (T y.name) (T x.name)=fj))(h3:fs.Perm (aR (aj ls) ls).fs)(h4:fs.Pairwise (λx y=>jA (T y.name) (T x.name)=fj)):zG l (T (Ki ms fs)) 0 0:=by
 unfold zG;rw[iN9 hb,hp];show if(firstP (aj ls) ls {} 0).1=0 then _ else _
 rw[iP9 h0];exact⟨rfl,rfl,ms,fs,h1,h2,h3,h4,rfl⟩
def Hq(w:tW)(l:tLB)(e:Ending)(w':tW):Prop:=∃s c n,e=fW (jl #[eR s,vI (c:Nat),vI (n:Nat)])/\zG l s c n/\aa af w w'
set_option linter.all false
def ab4(t:tLB):Bool:=match dR t with
 |some x=>gh (1<=x.kind/\x.kind<=4)
 |none=>fj
theorem ab5{t:tLB}(h:ab4 t=fR):Jk t:=by
 unfold ab4 at h;cases hl:dR t with
 |none=>rw[hl]at h;cases h
 |some x=>rw[hl]at h;exact⟨x,hl,of_decide_eq_true h⟩
structure TxM(t:tLB)(ls:List fE):Prop where
 big:¬4000<eJ t
 read:parseP (linesP t) fj 0 []=.inl ls
 fit:(firstP (aj ls) ls {} 0).1=0
 lns:∀u∈linesP t,Jk u
 sz:∀x∈ls,x.kind=1->(0<=tL (x.ns.getD 0 aF)/\tL (x.ns.getD 0 aF)<256)/\(0<=tL (x.ns.getD 1 aF)/\tL (x.ns.getD 1 aF)<256)/\(0<=tL (x.ns.getD 2 aF)/\tL (x.ns.getD 2 aF)<256)
 enc:∀ms fs,ms.Perm (aR (aj ls) ls).ms->ms.Pairwise (λx y=>jA (T y.name) (T x.name)=fj)->fs.Perm (aR (aj ls) ls).fs->fs.Pairwise (λx y=>jA (T y.name) (T x.name)=fj)->EOk ms fs/\(∀f∈fs,∀x∈f.code,eJ x.name<=255)/\qj fs<=1000/\(kJ 1 ms fs).length<=300000
theorem zH:∀(ts:List tLB) (nU:Bool) (n:Nat) (acc ls:List fE),parseP ts nU n acc=.inl ls->(∀t∈ts,Jk t)->(∀x∈acc,1<=x.kind/\x.kind<=4)->∀x∈ls,1<=x.kind/\x.kind<=4
 |[],_,_,acc,ls,h,_,ha=>by rw[parseP]at h;injection h with h;rw[<-h];exact ha
 |t::ts,nU,n,acc,ls,h,hq,ha=>by
  obtain⟨y,hy,hk⟩:=hq t (by simp);rw[parseP,hy]at h;dsimp only at h;split at h
  ·cases h
  ·refine zH ts _ _ _ ls h (λu hu=>hq u (List.mem_cons_of_mem _ hu)) (λx hx=>?_);rcases List.mem_append.1 hx with hx|hx
   ·exact ha x hx
   ·rw[List.mem_singleton.1 hx];exact hk
theorem aak(w:tW)(l:tLB)(hW:uS w)(hE:Env w)(hM:lY w)(ls:List fE)(hT:TxM l ls):fS prog 24 #[eR (T l)] w λe w'=>Hq w l e w':=by
 have HTB:=aq (Ah w hW);have hsz:(T l).size=eJ l:=rfl;obtain⟨hbig,hp,h0,hq,hms,hen⟩:=hT;have QL:=aq (λw' v bs h m=>parseM_any w' w' v bs l h ax (hE.ai m) (hM.ai m) (by omega) hq ⟨ls,hp⟩);have hkk:=zH _ _ _ _ _ hp hq (λx h=>(by cases h));obtain⟨hin,hk4,hnl⟩:=Q6 hp;have HOU:=aq (λwT w' v vL bs hO m hL=>Jo wT wT w' v vL bs ls hO m hL hin hk4 hkk (by omega));have HFI:=aq (λwT wO w' v vL vF bm lb bs hO m hL hA=>Q4 wT wT wO w' v vL vF bm lb bs ls hO m hL hA hin hk4 (by omega) hkk h0);rw[hp]at QL;have HBU:=aq (λwT wO w' v vL vF bm lb bs hO m hL hA=>RH wT wT wO w' v vL bs ls bm vF lb hO m hL hA hin hk4 (by omega) hms);have JU:ah (∀w' v bs vM vF ms fs vs,sZ w' v bs vM vF ms fs vs->ms.Perm (aR (aj ls) ls).ms->ms.Pairwise (λx y=>jA (T y.name) (T x.name)=fj)->fs.Perm (aR (aj ls) ls).fs->fs.Pairwise (λx y=>jA (T y.name) (T x.name)=fj)->fS prog 44 #[fY #[vM,vF]] w' λe w''=>e=fW (eR (T (Ki ms fs)))/\aa af w' w''):=λw' v bs vM vF ms fs vs hP hm hm2 hf hf2=>by obtain⟨h1,h2,h3,h4⟩:=hen ms fs hm hm2 hf hf2;exact JT w' v bs vM vF ms fs vs hP h1 h2 h3 h4
 have HF:ah (∀w' ms fs,ms.Perm (aR (aj ls) ls).ms->ms.Pairwise (λx y=>jA (T y.name) (T x.name)=fj)->fs.Perm (aR (aj ls) ls).fs->fs.Pairwise (λx y=>jA (T y.name) (T x.name)=fj)->aa af w w'->Hq w l (fW (jl #[eR (T (Ki ms fs)),vI 0,vI 0])) w'):=λw' ms fs h1 h2 h3 h4 m=>⟨_,0,0,rfl,zG.ok hbig hp h0 h1 h2 h3 h4,m⟩
 clear hp hin hk4 hms hen;generalize linesP l=ll at *;generalize T l=t at *;generalize Hq w l=RP at *;generalize firstP (aj ls) ls {} 0=fp at *;generalize aR (aj ls) ls=bb at *;obtain⟨f1,f2⟩:=fp;dsimp only at *;go_in;go_wp2_with fail;refine HTB.o.mono ?_;rintro e w2 ⟨v,bs,rfl,hO2,m2⟩;have lU:=QL.o w2 v bs hO2 m2;have HO2:=aq hO2;have bP:=aq m2;clear hO2 m2 QL HTB;go_wp2_with fail;refine lU.mono ?_;rintro e w3 ⟨vL,rfl,hL3⟩;have U3:=aq hL3;clear hL3 lU;have Q0:=HOU.o w2 w3 v vL bs HO2.o U3.o.md U3.o;obtain⟨oL,cL,MH,_⟩:=U3.o.sl.view;subst MH;go_wp2_with fail;refine Q0.mono ?_;rintro e w4 ⟨bm,vF,lb,rfl,hA4⟩;have Yv:=aq hA4;clear hA4 Q0;obtain⟨oF,cF,kC,_⟩:=Yv.o.sl.view;subst kC;have ji:=aq (au.new w4 #[.map (eK bm),eS oF (eJ (aj ls).fs) cF] 108);have jo:ah (aa af w4 (w4.alloc (fL #[.map (eK bm),eS oF (eJ (aj ls).fs) cF] 108))):=aw;generalize hol:aj ls=ol at *;go_upto_region 7 with fail;generalize w4.alloc (fL #[.map (eK bm),eS oF (eJ ol.fs) cF] 108)=w5 at *;generalize w4.heap.size=X at *;have Zw:=aq ((U3.o.quiet Yv.o.md).quiet jo.o);have HA5:=aq (Yv.o.quiet jo.o);have x0:=ji.o.c0;have x1:=ji.o.c1;have HC5:=HFI.o w2 w3 w5 v (eS oL (eJ ls) cL) (eS oF (eJ ol.fs) cF) bm lb bs HO2.o Zw.o.md Zw.o HA5.o;go_wp2_with fail;refine HC5.mono ?_;rintro e w6 ⟨rfl,m6⟩;have HL6:=aq (Zw.o.quiet m6);have HA6:=aq (HA5.o.quiet m6);have hB6:=ji.o.ai m6 id;have y0:=hB6.c0;have y1:=hB6.c1;clear m6 hB6 x0 x1 HC5;have HC6:=HBU.o w2 w3 w6 v (eS oL (eJ ls) cL) (eS oF (eJ ol.fs) cF) bm lb bs HO2.o HL6.o.md HL6.o HA6.o;subst h0;go_wp2_with fail;refine HC6.mono ?_;rintro e w7 ⟨vM,vF,ms,fs,vs,rfl,hP7,p1,p2,p3,p4,m7⟩;have HC7:=JU.o w7 v bs vM vF ms fs vs hP7 p1 p2 p3 p4;have HFF:=aq (λw' m'=>HF.o w' ms fs p1 p2 p3 p4 (bP.o.trans (HL6.o.md.trans (m7.trans m'))));clear hP7 p1 p2 p3 p4 m7 HC6;go_wp2_with fail;refine HC7.mono ?_;rintro e w8 ⟨rfl,m8⟩;have Iu:=aq m8;clear m8;go_wp2_with fail;go_ret3;exact HFF.o _ Iu.o
