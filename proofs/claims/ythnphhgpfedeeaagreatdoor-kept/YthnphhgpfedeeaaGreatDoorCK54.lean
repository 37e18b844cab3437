import Derived.Test.YthnphhgpfedeeaaGreatDoorCK52
import Derived.Deep.DeepAppendWide
import Derived.Lib.LazyBuf
namespace Go.Proofs.YthnphhgpfedeeaaGreatDoor
open Go.RowKit Tryz
open _root_.Array renaming length_toList->cj,toList_append->du,size_append->ew
open Int renaming emod_nonneg->cJ,toNat_of_nonneg->ee,emod_lt_of_pos->eo
open List renaming length_append->ab,length_take->al,length_set->ao,length_drop->ar,mem_or_eq_of_mem_set->ba,take_append_of_le_length->bh,append_assoc->bj,take_of_length_le->bt,take_append_drop->b5,getElem_mem->b9,mem_of_mem_drop->cq,perm_middle->cw,flatMap_append->cx,size_toArray->cy,mem_of_mem_take->cH,map_append->cI,flatMap_cons->cN,drop_eq_getElem_cons->cP,length_cons->cY,length_map->dj,drop_eq_nil_of_le->dq,map_cons->dr,map_congr_left->dy,getElem_of_mem->dT,take->eh,getElem_take->ey,getElem_drop->ez,drop_sublist->eC,cons_append->eI,length->eJ
open Nat renaming le_trans->cG,zero_add->cW,min_eq_left->de,le_refl->dp,lt_irrefl->dt,zero_le->eE
open Option renaming getD_some->cD,none->eL,some->eK
open Bool renaming true->fR,false->fj
open Ending renaming returned->fW
open Obj renaming cells->fL
open Value renaming string->eR,slice->eS,bool->fX,agg->fY,pointer->ia,tuple->jl
open _root_.Go renaming Value->fa,Calls->fS,maxLen->jz,info_parts->oY,grownCap->pS,size_zeroCells->Hi,wpQuiet_nil->mS,Addr->kh,undef->kO
set_option linter.all false
set_option maxRecDepth 100000
set_option maxHeartbeats 1000000
set_option linter.all false
theorem KP{P:Program}{w:tW}{ops:Array Oper}{rest:List Oper}{o:Oper}{a:Act}{Q:Exit->Act->tW->Prop}(hgd:o.guard=eL)(s x:Operand)(t t':TypeId)(ho:o.op=.call {callee:=.builtin .append,args:=#[s,x],argTypes:=#[t,t']}) (v u v':fa) (w':tW) (hs:a.eval s=v) (hx:a.eval x=u) (hr:(Builtin.append_ #[t,t'] o.type #[v,u]).run P w=.ok v' w')(h:wpList P ops Q rest (a.put o.dst v') w'):wpList P ops Q (o::rest) a w :=
 wpList_plain hgd λ_ hK=>by unfold Oper.wp execOp;simp only[ho,resolve,invoke,builtin,Sem.run_bind,Sem.run_pure,Result.andThen_ok,List.map_toArray,dr,List.map_nil,hs,hx,hr];exact hK _ _ h
theorem SS(w:tW)(g n i vb G:Nat)(s:tBA)(cur:tAV)(hg:au w g cur 148)(hi:i<n)(hn:n<=1000)(hs:n*2<=cur.size)(h1:∀u∈cur.toList.take (n*2),u.oneCell'=fR)(hv:au w vb #[eR s,vP G] 148):fS prog 360 #[eS (eK ⟨g,0,eL⟩) n n,vI i,eS (eK ⟨vb,0,eL⟩) 1 1] w λe w'=>∃GC R2,e=fW (eS (eK ⟨w.heap.size,0,eL⟩) (n+1) GC)/\au w' w.heap.size R2 148/\n+1<=GC/\GC<=jz/\R2.size=GC*2 /\ R2.toList.take ((n+1)*2)=cur.toList.take (i*2)++[eR s,vP G]++(cur.toList.drop (i*2)).take ((n-i)*2)/\aa af w w':=by
 obtain⟨iE,hiE,hzE,hsE,hbE⟩:=oY vT;have hln:n+1<=jz:=by unfold jz;omega
 have af8:n+1<=pS w (n+1) n 148:=grownCap_ge _ _ _ _;have acE:pS w (n+1) n 148<=jz:=grownCap_le_maxLen _ _ _ _ hln;have hlo:eJ (cur.toList.take (i*2))=i*2:=by rw[al,cj];omega
 have hold:(Builtin.firstCells iE.size i (eS (eK ⟨g,0,eL⟩) i n)).run prog w.drew=.ok (cur.toList.take (i*2)).toArray w.drew:=by
  refine run_firstCells_some w.drew iE.size i ⟨g,0,eL⟩ i n (cur.toList.take (i*2)) (by rw[hlo,hsE]) (λj u hu=>?_);rw[Addr.add_lit,cW,(hg.ai (aa.refl af w).drew id).cell,<-Array.getElem?_toList];rw[List.getElem?_take]at hu;split at hu
  ·exact hu
  ·cases hu
 have hap:=λty=>Lib.run_append_grow_zeros (P:=prog) w 83 3 ty 148 iE _ .i64 .i64 underlying83 underlying3 hiE hzE (eK ⟨g,0,eL⟩) i n (cur.toList.take (i*2)) hold (n+1-i) (by omega) (by omega) (by omega) (by omega) (by rw[hbE];omega) (by rw[hbE];exact growslice_fits_wide (by omega) (by omega));have hik:i+(n+1-i)=n+1:=by omega
 rw[hik]at hap;have hki:((n+1-i:Nat):Int)=(n:Int)+1-(i:Int):=by omega
 rw[hki]at hap;clear hki hik hold;generalize pS w (n+1) n 148=GC at *;obtain⟨ROW,hROW⟩:∃ROW,ROW=(cur.toList.take (i*2)).toArray++Builtin.zeroCells (Value.agg #[eR ⟨#[]⟩,vO]).cells (n+1-i)++Builtin.zeroCells (Value.agg #[eR ⟨#[]⟩,vO]).cells (GC-(n+1)):=⟨_,rfl⟩
 rw[<-hROW]at hap
 have hzR:ROW.size=GC*2:=by
  rw[hROW,ew,ew,cy,hlo,Hi,Hi];show i*2+(n+1-i)*2+(GC-(n+1))*2=GC*2
  omega
 have htR:ROW.toList.take (i*2)=cur.toList.take (i*2):=by rw[hROW,du,du,bj,bh (by show i*2<=eJ (cur.toList.take (i*2));omega)];exact bt (by show(cur.toList.take (i*2)).length<=i*2;omega)
 clear hROW;obtain⟨R1,SQ⟩:∃R1,R1=(ROW.toList.take (i*2)++[Value.string s,vP G]++ROW.toList.drop (i*2+2)).toArray:=⟨_,rfl⟩
 have hz1:R1.size=GC*2:=by
  rw[SQ,cy,ab,ab,al,ar,cj];show min (i*2) ROW.size+2+(ROW.size-(i*2+2))=GC*2
  omega
 have ht1:R1.toList.take ((i+1)*2)=cur.toList.take (i*2)++[eR s,vP G]:=by
  rw[SQ,htR];show eh ((i+1)*2) (cur.toList.take (i*2)++[Value.string s,vP G]++ROW.toList.drop (i*2+2))=_
  rw[bh (by rw[ab,hlo];show(i+1)*2<=i*2+2;omega),bt (by rw[ab,hlo];show i*2+2<=(i+1)*2;omega)]
 have hl:eJ ((cur.toList.drop (i*2)).take ((n-i)*2))=(n-i)*2:=by rw[al,ar,cj];omega
 obtain⟨R2,hR2⟩:∃R2,R2=(R1.toList.take ((i+1)*2)++(cur.toList.drop (i*2)).take ((n-i)*2)++R1.toList.drop ((i+1)*2+eJ ((cur.toList.drop (i*2)).take ((n-i)*2)))).toArray:=⟨_,rfl⟩
 have HZ2:ah (R2.size=GC*2):=by unfold ah;rw[hR2,cy,ab,ab,hl,al,ar,cj];omega
 have HT2:ah (R2.toList.take ((n+1)*2)=cur.toList.take (i*2)++[eR s,vP G]++(cur.toList.drop (i*2)).take ((n-i)*2)):=by
  unfold ah;rw[hR2,ht1];show eh ((n+1)*2) (cur.toList.take (i*2)++[Value.string s,vP G]++(cur.toList.drop (i*2)).take ((n-i)*2)++_)=_
  have e:eJ (cur.toList.take (i*2)++[Value.string s,vP G]++(cur.toList.drop (i*2)).take ((n-i)*2))=(n+1)*2:=by
   rw[ab,ab,hlo,hl];show i*2+2+(n-i)*2=(n+1)*2
   omega
  rw[bh (by omega),bt (by omega)]
 have hgw:=hg.lt;have hvw:=hv.lt;have bU:ah (aa af w (w.drew.alloc (fL ROW 148))):=(aa.refl af w).drew.alloc _;have hB1:au (w.drew.alloc (fL ROW 148)) w.heap.size ROW 148:=au.new w.drew ROW 148;have hg1:=hg.ai bU.o id;have hv1:=hv.ai bU.o id
 have Bk:ah (∀w',aa af (w.drew.alloc (fL ROW 148)) w'->∀ty c,(Builtin.copy_ #[83,83] ty #[eS (eK ⟨w.heap.size,i*2,eL⟩) (n+1-i) c,eS (eK ⟨vb,0,eL⟩) 1 1]).run prog w'=.ok (goInt 1) (w'.setRow w.heap.size R1)):=λw' m ty c=>by
  have KO:Nat.min 1 (n+1-i)=1:=by show min 1 (n+1-i)=1;omega
  have:=mF w' ty w.heap.size (i*2) (n+1-i) c ⟨vb,0,eL⟩ 1 1 ROW [eR s,vP G] (hB1.ai m id) (by rw[KO];rfl) (Nw (hv1.ai m id)) (by show i*2+2<=ROW.size;omega) (Cl s G);rw[KO]at this;exact SQ.symm ▸ this
 have TD:ah (∀w' w'',aa af (w.drew.alloc (fL ROW 148)) w'->aa af (w'.setRow w.heap.size R1) w''->∀ty c1 c2,(Builtin.copy_ #[83,83] ty #[eS (eK ⟨w.heap.size,(i+1)*2,eL⟩) (n-i) c1,eS (eK ⟨g,i*2,eL⟩) (n-i) c2]).run prog w''=.ok (goInt ((n-i:Nat):Int)) (w''.setRow w.heap.size R2)):=λw' w'' m m2 ty c1 c2=>by
  have hb:=((hB1.ai m id).setRow R1).ai m2 id;have hbg:=((hg1.ai m id).oD (Nat.ne_of_lt hgw) R1).ai m2 id;have hmin:Nat.min (n-i) (n-i)=n-i:=Nat.min_self _
  have:=mF w'' ty w.heap.size ((i+1)*2) (n-i) c1 ⟨g,i*2,eL⟩ (n-i) c2 R1 ((cur.toList.drop (i*2)).take ((n-i)*2)) hb (by rw[hl,hmin]) (λk u hu=>by
   rw[Addr.add_lit,hbg.cell,<-Array.getElem?_toList];rw[List.getElem?_take]at hu;split at hu
   ·rw[List.getElem?_drop]at hu;exact hu
   ·cases hu) (by rw[hl];omega) (λu hu=>h1 u (by
    rw[List.take_drop]at hu;have e:i*2+(n-i)*2=n*2:=by omega
    rw[e]at hu;exact cq hu))
  rw[hmin]at this;exact hR2.symm ▸ this
 have Yx:ah (∀w' w'',aa af (w.drew.alloc (fL ROW 148)) w'->aa af (w'.setRow w.heap.size R1) w''->au (w''.setRow w.heap.size R2) w.heap.size R2 148/\aa af w (w''.setRow w.heap.size R2)):=λw' w'' m m2=>⟨(((hB1.ai m id).setRow R1).ai m2 id).setRow R2,aa.setRow ((aa.setRow (bU.o.trans m) (.inr (dp _)) R1).trans m2) (.inr (dp _)) R2⟩
 have hz2:¬((i:Int)=(n:Int)):=by omega
 have hc1:¬GC=i+1:=by omega
 have hc2:¬GC=i:=by omega
 have hc3:¬n=i:=by omega
 have hmG:GC<=9223372036854775807:=acE;have HG:=aq acE;clear SQ hR2 ht1 hz1 hl htR hzR hg hv hg1 hv1 hB1 h1 hs hlo hln hiE hzE hsE hbE acE bU;generalize w.drew.alloc (fL ROW 148)=W1 at *;generalize w.heap.size=H at *;have HAP:=aq hap;clear hap;go_in;go_upto_region 10 with(at_builtin;refine KP rfl (.tmp 34) (.tmp 39) 83 3 rfl (eS (eK ⟨g,0,eL⟩) i n) (vI ((n:Int)+1-(i:Int))) _ _ rfl rfl (HAP.o _) ?_)
 have hcp1:=Bk.o W1 ax;go_upto_region 11 with fail;refine bK 8 (by kernel_rfl) (by kernel_rfl) ?_;intro W hW;simp only[List.take_succ_cons,List.take_zero,List.drop_succ_cons,List.drop_zero]
 repeat(go_big_quiet_step (fail))
 refine mS ?_;have HM:ah (aa af (W1.setRow H R1) W):=by rw[hW];exact aN
 clear hW hcp1;refine BF rfl (.tmp 50) (.tmp 53) 83 rfl (eS (eK ⟨H,(i+1)*2,eL⟩) (n-i) (GC-(i+1))) (eS (eK ⟨g,i*2,eL⟩) (n-i) (n-i)) _ _ rfl rfl (TD.o W1 W ax HM.o _ _ _) ?_;have HE:=aq (Yx.o W1 W ax HM.o);clear Bk TD Yx HM;generalize W.setRow H R2=W2 at *;simp only[Act.put,sA9,sB9,sC9];go_wp2_with fail;go_ret;exact⟨GC,R2,rfl,HE.o.1,af8,HG.o,HZ2.o,HT2.o,HE.o.2⟩
theorem KQ(rb:tLN)(xs:List (tLN×Nat))(i:Nat)(e:tLN×Nat)(cur:tLV)(n:Nat)(hn:n=eJ xs)(hi:i<=n)(ht:cur.take (n*2)=xs.flatMap (meC rb)):cur.take (i*2)++meC rb e++(cur.drop (i*2)).take ((n-i)*2)=(xs.take i++e::xs.drop i).flatMap (meC rb):=by
 rw[cx,cN,<-wG (meC rb) 2 (λ_=>rfl),<-A7 (meC rb) 2 (λ_=>rfl),<-ht,List.take_take,de (by omega),List.take_drop,bj];have e2:i*2+(n-i)*2=n*2:=by omega
 rw[e2]
theorem XA(w:tW)(v:fa)(xs:List (tLN×Nat))(rb key:tLN)(i q vb:Nat)(hi:i<=eJ xs)(hl:eJ xs<=1000)(hS:Sl w 148 2 v (eJ xs) (xs.flatMap (meC rb)))(hv:au w vb #[eR (strOf key),vP (rb.getD q 0)] 148)(hne:¬Own v vb):fS prog 360 #[v,vI i,eS (eK ⟨vb,0,eL⟩) 1 1] w λe w'=>∃v',e=fW v'/\Sl w' 148 2 v' (eJ xs+1) ((xs.take i++(key,q)::xs.drop i).flatMap (meC rb))/\aa (Own v) w w'/\(∀k,v'.ownBlock=eK k->v.ownBlock=eK k\/w.heap.size<=k):=by
 have hfl:eJ ((xs.take i++(key,q)::xs.drop i).flatMap (meC rb))=(eJ xs+1)*2:=by rw[wF (meC rb) 2 (λ_=>rfl),ab,cY,al,ar];omega
 by_cases hin:i=eJ xs
 ·subst hin;refine(Xy w v (eJ xs) _ vb (rb.getD q 0) (strOf key) hS hl hv).mono ?_;rintro e w' ⟨v',rfl,h1,h2,h3⟩;refine⟨v',rfl,?_,h2,h3⟩;rw[List.take_length,List.drop_length,cx];exact h1
 ·rcases hS.2 with⟨_,h0⟩ |⟨g,cap,cur,rfl,hb,hg,hn,hm,hs,ht⟩
  ·omega
  have hB:au w g cur 148:=hg;have hcz:eJ cur.toList=cur.size:=cj;have h1:=λu hu=>OO rb xs u (ht ▸ hu);by_cases hc:cap=eJ xs
  ·subst hc;refine(SS w g (eJ xs) i vb (rb.getD q 0) (strOf key) cur hB (by omega) hl (by omega) h1 hv).mono ?_;rintro e w' ⟨GC,R2,rfl,hB2,g1,g2,hz,ht2,m2⟩;refine⟨_,rfl,⟨hfl,.inr ⟨w.heap.size,GC,R2,rfl,eE _,hB2,g1,g2,hz,?_⟩⟩,m2.mono (λ_ _ h=>h.elim),λk hk=>by cases hk;exact .inr (dp _)⟩;rw[ht2];exact KQ rb xs i (key,q) cur.toList (eJ xs) rfl hi ht
  ·refine(SN w g (eJ xs) cap i vb (rb.getD q 0) (strOf key) cur _ _ hB (by omega) (by omega) hm (by omega) h1 hv (λe=>hne (by rw[e];rfl)) rfl rfl).mono ?_;rintro e w' ⟨rfl,hB2,m2⟩;have hl1:eJ (cur.toList.take ((i+1)*2))=(i+1)*2:=by rw[al,hcz];omega
   have hl2:((cur.toList.drop (i*2)).take ((eJ xs-i)*2)).length=(eJ xs-i)*2:=by rw[al,ar,hcz];omega
   refine⟨_,rfl,⟨hfl,.inr ⟨g,cap,_,rfl,hb,hB2,by omega,hm,?_,?_⟩⟩,m2.mono (λk _ h=>by cases(show k=g from h);rfl),λk hk=>by cases hk;exact .inl rfl⟩
   ·have SQ:(cur.toList.take ((i+1)*2)++(cur.toList.drop (i*2)).take ((eJ xs-i)*2)++cur.toList.drop ((i+1)*2+((cur.toList.drop (i*2)).take ((eJ xs-i)*2)).length)).length=cur.size:=by rw[ab,ab,hl1,ar,hl2,hcz];omega
    show(eh (i*2) _++[_,_]++List.drop (i*2+2) _).length=cap*2
    rw[ab,ab,al,ar,SQ];show min (i*2) cur.size+2+(cur.size-(i*2+2))=cap*2
    omega
   ·rw[<-KQ rb xs i (key,q) cur.toList (eJ xs) rfl hi ht];have e0:(cur.toList.take ((i+1)*2)++(cur.toList.drop (i*2)).take ((eJ xs-i)*2)++cur.toList.drop ((i+1)*2+((cur.toList.drop (i*2)).take ((eJ xs-i)*2)).length)).toArray.toList=cur.toList.take ((i+1)*2)++(cur.toList.drop (i*2)).take ((eJ xs-i)*2)++cur.toList.drop ((i+1)*2+((cur.toList.drop (i*2)).take ((eJ xs-i)*2)).length):=rfl;rw[e0];generalize hD:(cur.toList.drop (i*2)).take ((eJ xs-i)*2)=D at *;generalize hE:cur.toList.drop ((i+1)*2+eJ D)=E at *;have e1:(cur.toList.take ((i+1)*2)++D++E).take (i*2)=cur.toList.take (i*2):=by rw[bj,bh (by omega),List.take_take,de (by omega)]
    have e2:(cur.toList.take ((i+1)*2)++D++E).drop (i*2+2)=D++E:=by
     rw[bj,List.drop_append,dq (by omega),List.nil_append];have:i*2+2-eJ (cur.toList.take ((i+1)*2))=0:=by omega
     rw[this];rfl
    rw[e1,e2];show eh ((eJ xs+1)*2) (cur.toList.take (i*2)++meC rb (key,q)++(D++E))=_
    have hl0:eJ (cur.toList.take (i*2))=i*2:=by rw[al,hcz];omega
    have e3:eJ (cur.toList.take (i*2)++meC rb (key,q)++D)=(eJ xs+1)*2:=by
     rw[ab,ab,hl0,hl2];show i*2+2+(eJ xs-i)*2=(eJ xs+1)*2
     omega
    rw[<-bj,bh (by omega),bt (by omega)]
set_option linter.all false
theorem XB{α:Type}(l:List α)(k:Nat)(v:α)(rest:List α)(hk:k+(eJ rest+1)<=eJ l):(l.set k v).take (k+1)++rest++(l.set k v).drop (k+1+eJ rest)=l.take k++(v::rest)++l.drop (k+(eJ rest+1)):=by
 have h1:(l.set k v).take (k+1)=l.take k++[v]:=by
  apply List.ext_getElem?;intro i;rw[List.getElem?_take,List.getElem?_append,List.getElem?_take];simp only[al];rw[de (by omega)];by_cases h:i<k
  ·rw[iP9 (by omega),iP9 h,iP9 h,List.getElem?_set_ne (by omega)]
  ·by_cases h2:i=k
   ·subst h2;rw[iP9 (by omega),iN9 h,List.getElem?_set_self (by omega),Nat.sub_self];rfl
   ·rw[iN9 (by omega),iN9 h];obtain⟨d,hd⟩:∃d,i-k=d+1:=⟨i-k-1,by omega⟩
    rw[hd];rfl
 rw[h1,List.drop_set_of_lt (by omega)];simp[Nat.add_assoc,Nat.add_comm,Nat.add_left_comm]
theorem mD.over{g n cap:Nat}:∀(vl:tLN) (w:tW) (k:Nat) (l:tLN),mD w (eS (eK ⟨g,0,eL⟩) n cap) n l->k+eJ vl<=n->mD (w.setCells g k (xJ vl)) (eS (eK ⟨g,0,eL⟩) n cap) n (l.take k++vl++l.drop (k+eJ vl))/\aa (Only g) w (w.setCells g k (xJ vl))
 |[],w,k,l,h,_=>by refine⟨?_,ax⟩;simp only[List.append_nil,List.length_nil,Nat.add_zero,b5];exact h
 |b::r,w,k,l,h,hk=>by have ih:=mD.over r (w.setCell ⟨g,k,eL⟩ (vB b)) (k+1) (l.set k b) (h.set k b) (by simp at hk;omega);have hl:=h.1;rw[XB l k b r (by simp at hk;omega)]at ih;exact⟨ih.1,(ax.bA _ _).trans ih.2⟩
theorem mD.all{w:tW}{g n cap:Nat}{l vl:tLN}(h:mD w (eS (eK ⟨g,0,eL⟩) n cap) n l)(hv:eJ vl=n):mD (w.setCells g 0 (xJ vl)) (eS (eK ⟨g,0,eL⟩) n cap) n vl/\aa (Only g) w (w.setCells g 0 (xJ vl)):=by have:=mD.over vl w 0 l h (by omega);rw[List.take_zero,List.nil_append,cW,dq (by rw[h.1,hv];exact dp _),List.append_nil]at this;exact this
theorem Nx(l:tLN)(h:∀b∈l,b<256):(strOf l).data.toList.map (λx=>Value.int .u8 (x.toNat:Int))=xJ l:=by
 show((l.map UInt8.ofNat).toArray.toList).map _=_
 rw[List.map_map];unfold xJ;refine dy (λb hb=>?_);show Value.int .u8 ((UInt8.ofNat b).toNat:Int)=_
 rw[UInt8.toNat_ofNat',Nat.mod_eq_of_lt (h b hb)]
theorem mY(l:tLN):(strOf l).size=eJ l:=by
 show(l.map UInt8.ofNat).toArray.size=_
 rw[cy,dj]
theorem aaL(w:tW):(Go.sizeOf 5).run prog w=.ok 1 w:=by obtain⟨i,hi,hz,hs,hb⟩:=oY (show(prog.info? 5).map (λi=>(i.zero,i.size,i.bytes))=eK (eK (vB 0),1,1) by kernel_rfl);simp[Go.sizeOf,typeInfo,hi,hs]
theorem Ic(w:tW)(ty:TypeId)(g n cap:Nat)(l vl:tLN)(h:mD w (eS (eK ⟨g,0,eL⟩) n cap) n l)(hv:eJ vl=n)(hb:∀b∈vl,b<256):(Builtin.copy_ #[30,9] ty #[eS (eK ⟨g,0,eL⟩) n cap,eR (strOf vl)]).run prog w=.ok (goInt (n:Int)) (w.setCells g 0 (xJ vl)):=by have:=run_copy_string (P:=prog) w 30 9 ty 5 g 0 n cap (strOf vl) underlying30 aaL (by rw[mY];omega) (λj hj=>by rw[cW,(h.cell j (by rw[mY]at hj;omega)).1];rfl) (λj hj=>by rw[cW];exact(h.cell j (by rw[mY]at hj;omega)).2);rw[Nx vl hb,mY,hv]at this;exact this
theorem SV(w:tW)(m:Nat)(nm c1 c2 c3 vE:fa)(ks:List (tLN×Nat))(rb key val l:tLN)(gb cap:Nat)(hB:au w m #[nm,c1,c2,c3,vE] 85)(hS:Sl w 148 2 vE (eJ ks) (ks.flatMap (meC rb)))(hl:eJ ks<=1000000)(hs:ks.Pairwise (λa b=>ltNs a.1 b.1=fR)) (hk:∀e∈ks,∀b∈e.1,b<256) (hy:∀b∈key,b<256) (hf:aT ks key=fR) (hR:au w (rb.getD (aY ks key) 0) #[eS (eK ⟨gb,0,eL⟩) (eJ val) cap] 122) (hy2:mD w (eS (eK ⟨gb,0,eL⟩) (eJ val) cap) (eJ val) l) (hv:∀b∈val,b<256):fS prog 334 #[pt m,eR (strOf key),eR (strOf val)] w λe w'=>e=fW (fX fR)/\∃w1,aa af w w1/\w'=w1.setCells gb 0 (xJ val):=by
 have HF:=aq (wN w m nm c1 c2 c3 vE ks rb key hB hS hl hs hk hy);have hlt:=qx hf;obtain⟨g,cp,rfl,hc⟩:=El hS hf;have HX:ah (∀w',aa af w w'->w'.cell? ⟨m,4,eL⟩=eK (eS (eK ⟨g,0,eL⟩) (eJ ks) cp)/\w'.cell? ⟨g,aL ks key*2+1,eL⟩=eK (vP (rb.getD (aY ks key) 0))/\w'.cell? ⟨rb.getD (aY ks key) 0,0,eL⟩=eK (eS (eK ⟨gb,0,eL⟩) (eJ val) cap)):=λw' m'=>⟨(hB.ai m' id).cell 4,hc w' m',(hR.ai m' id).cell 0⟩
 have HC:=aq (λw' (m':aa af w w') ty=>Ic w' ty gb (eJ val) cap l val (hy2.ai m' (λ_ _=>id)) rfl hv);rw[hf]at HF;clear hc hR hB hS hs hk hy hy2 hv;generalize strOf val=sv at *;generalize strOf key=sk at *;generalize rb.getD (aY ks key) 0=G at *;generalize aL ks key=f at *;generalize xJ val=bv at *;generalize eJ val=nv at *;go_in;go_wp2_with fail;refine HF.o.mono ?_;rintro e w2 ⟨rfl,m2⟩;obtain⟨y0,y1,y2⟩:=HX.o w2 m2;have hcp:=HC.o w2 m2;have bP:=aq m2;clear m2 HF HC HX;go_wp2_with fail;go_ret;exact⟨rfl,w2,bP.o,rfl⟩
set_option linter.all false
theorem Ny(l:tLN)(h:∀b∈l,b<256):fw (strOf l)=l:=by
 show((l.map UInt8.ofNat).toArray.toList).map (·.toNat)=l
 rw[List.map_map]
 conv=>rhs;rw[<-List.map_id l]
 refine dy (λb hb=>?_);show(UInt8.ofNat b).toNat=b
 rw[UInt8.toNat_ofNat',Nat.mod_eq_of_lt (h b hb)]
theorem XC(w:tW)(m:Nat)(nm c1 c2 vE:fa)(most:Nat)(ks:List (tLN×Nat))(rb key val:tLN)(hB:au w m #[nm,c1,c2,vI most,vE] 85)(hS:Sl w 148 2 vE (eJ ks) (ks.flatMap (meC rb)))(hl:eJ ks<=1000)(hs:ks.Pairwise (λa b=>ltNs a.1 b.1=fR)) (hk:∀e∈ks,∀b∈e.1,b<256) (hy:∀b∈key,b<256) (hf:aT ks key=fj) (hin:∀e∈ks,e.2<eJ rb) (hv:∀b∈val,b<256) (hvl:eJ val<=1000):fS prog 334 #[pt m,eR (strOf key),eR (strOf val)] w λe w'=>e=fW (fX (decide (eJ ks≠most)))/\(eJ ks=most->aa af w w')/\(eJ ks≠most->∃R gb cp v' w2,w.heap.size<=R/\w.heap.size<=gb/\au w2 R #[eS (eK ⟨gb,0,eL⟩) (eJ val) cp] 122 /\
   mD w2 (eS (eK ⟨gb,0,eL⟩) (eJ val) cp) (eJ val) val/\Sl w2 148 2 v' (eJ ks+1) ((ks.take (aL ks key)++(key,eJ rb)::ks.drop (aL ks key)).flatMap (meC (rb++[R])))/\aa (Own vE) w w2/\(∀k,v'.ownBlock=eK k->vE.ownBlock=eK k\/w.heap.size<=k)/\w'=w2.setCell ⟨m,4,eL⟩ v'):=by
 have HF:=aq (wN w m nm c1 c2 _ vE ks rb key hB hS (by omega) hs hk hy);have hfl:=vR ks key;rw[hf]at HF;obtain⟨oE,cE,hvE,_⟩:=hS.view;subst hvE;have hmE:¬Own (eS oE (eJ ks) cE) m:=λe=>by exact absurd ((hS.ty e).one hB.ty) (by decide)
 have HX:ah (∀w',aa af w w'->w'.cell? ⟨m,4,eL⟩=eK (eS oE (eJ ks) cE)/\w'.cell? ⟨m,3,eL⟩=eK (vI most)):=λw' m'=>⟨(hB.ai m' id).cell 4,(hB.ai m' id).cell 3⟩
 by_cases hm:eJ ks=most
 ·subst hm;have hd:decide (eJ ks≠ks.length)=fj:=by simp
  rw[hd];clear hB hS hs hk hy hin hv hvl hf hmE;generalize strOf val=sv at *;generalize strOf key=sk at *;generalize aL ks key=f at *;go_in;go_wp2_with fail;refine HF.o.mono ?_;rintro e w2 ⟨rfl,m2⟩;have bP:=aq m2.drew;clear m2 HF;go_upto_region 5 with fail;refine gy (by kernel_rfl) (by kernel_rfl) ?_;intro W hW;rw[<-hW]at bP;clear hW;obtain⟨y0,y1⟩:=HX.o W bP.o;clear HX
  repeat(go_big_quiet_step (fail))
  refine mS ?_;go_wp2_with fail;go_ret;exact⟨rfl,⟨λ_=>bP.o,λh=>absurd rfl h⟩⟩
 ·have hd:decide (eJ ks≠most)=fR:=by simpa using hm
  rw[hd];have HBY:=aq (λw'=>by have:=DZ w' (strOf val) (by rw[mY];exact hvl);rw[mY,Ny val hv]at this;exact this)
  have NU:ah (∀w' R vb,aa af w w'->au w' vb #[eR (strOf key),vP R] 148->w.heap.size<=vb->fS prog 360 #[eS oE (eJ ks) cE,vI (aL ks key),eS (eK ⟨vb,0,eL⟩) 1 1] w' λe w''=>∃v',e=fW v'/\Sl w'' 148 2 v' (eJ ks+1) ((ks.take (aL ks key)++(key,eJ rb)::ks.drop (aL ks key)).flatMap (meC (rb++[R])))/\aa (Own (eS oE (eJ ks) cE)) w' w''/\(∀k,v'.ownBlock=eK k->(Value.slice oE (eJ ks) cE).ownBlock=eK k\/w'.heap.size<=k)):=λw' R vb m' hb hvb=>by
   have e1:(rb++[R]).getD (eJ rb) 0=R:=by rw[dW,iN9 (dt _),iP9 rfl]
   refine XA w' _ ks (rb++[R]) key (aL ks key) (eJ rb) vb hfl hl ?_ (by rw[e1];exact hb) (λe=>?_)
   ·rw[Eb rb R ks hin];exact hS.ai m' (λ_ _ e=>e)
   ·have:=hS.lt vb e;omega
  have HBm:=aq (λw' (m':aa af w w') w'' (m2:aa (Own (.slice oE (eJ ks) cE)) w' w'')=>(hB.ai m' id).ai m2 hmE);have hEt:=λk (e:Own (.slice oE (eJ ks) cE) k)=>hS.lt k e;have HEt:=aq hEt;have hmn:¬((eJ ks:Int)=(most:Int)):=by omega
  clear hB hS hs hk hy hin hv hvl hf hmE hEt;generalize strOf val=sv at *;generalize strOf key=sk at *;generalize aL ks key=f at *;go_in;go_wp2_with fail;refine HF.o.mono ?_;rintro e w2 ⟨rfl,m2⟩;have bP:=aq m2.drew;clear m2 HF;go_upto_region 5 with fail;refine gy (by kernel_rfl) (by kernel_rfl) ?_;intro W hW;rw[<-hW]at bP;clear hW;obtain⟨y0,y1⟩:=HX.o W bP.o;clear HX
  repeat(go_big_quiet_step (fail))
  refine mS ?_;obtain⟨cp,W1,hcv,m1,hby,hsz⟩:=HBY.o W;have WM:=aq hcv;have bU:=aq (bP.o.trans m1);have HBy:=aq hby;have HSz:=aq hsz;have zZ:=aq bP.o.size;have jh:=aq (au.new W1 #[eS (eK ⟨W.heap.size,0,eL⟩) (eJ val) cp] 122);clear hcv m1 hby hsz HBY;go_wp2_with (rw[WM.o]);have dF:ah (aa af w ((W1.alloc (fL #[eS (eK ⟨W.heap.size,0,eL⟩) (eJ val) cp] 122)).alloc (fL #[eR sk,vP (W1.heap.size)] 148))):=(bU.o.alloc _).alloc _
  have HB3:ah (au ((W1.alloc (fL #[eS (eK ⟨W.heap.size,0,eL⟩) (eJ val) cp] 122)).alloc (fL #[eR sk,vP (W1.heap.size)] 148)) (W1.heap.size+1) #[eR sk,vP (W1.heap.size)] 148):=by
   have:=au.new (W1.alloc (fL #[eS (eK ⟨W.heap.size,0,eL⟩) (eJ val) cp] 122)) #[eR sk,vP (W1.heap.size)] 148
   rwa [World.size_alloc]at this
  have tH:ah (au ((W1.alloc (fL #[eS (eK ⟨W.heap.size,0,eL⟩) (eJ val) cp] 122)).alloc (fL #[eR sk,vP (W1.heap.size)] 148)) W1.heap.size #[eS (eK ⟨W.heap.size,0,eL⟩) (eJ val) cp] 122):=jh.o.alloc _;have HY3:ah (mD ((W1.alloc (fL #[eS (eK ⟨W.heap.size,0,eL⟩) (eJ val) cp] 122)).alloc (fL #[eR sk,vP (W1.heap.size)] 148)) (eS (eK ⟨W.heap.size,0,eL⟩) (eJ val) cp) (eJ val) val):=HBy.o.ai (((aa.refl af W1).alloc _).alloc _) (λ_ _=>id);have Tk:ah (w.heap.size<=W1.heap.size):=by have:=zZ.o;have:=HSz.o;unfold ah;omega
  clear jh HBy bU WM HSz bP;generalize(W1.alloc (fL #[eS (eK ⟨W.heap.size,0,eL⟩) (eJ val) cp] 122)).alloc (fL #[eR sk,vP (W1.heap.size)] 148)=W3 at *;generalize W1.heap.size=R at *;generalize W.heap.size=gb at *;refine(NU.o W3 R (R+1) dF.o HB3.o (Nat.le_succ_of_le Tk.o)).mono ?_;rintro e w5 ⟨v',rfl,hS',m5,hv'⟩;obtain⟨o',cap',hvv,_⟩:=hS'.view;subst hvv;have hbm:=HBm.o W3 dF.o w5 m5;have z4:=hbm.cell 4;have zf:=hbm.frozen
  have nu:ah (∃R gb cp v' w2,w.heap.size<=R/\w.heap.size<=gb/\au w2 R #[eS (eK ⟨gb,0,eL⟩) (eJ val) cp] 122 /\
   mD w2 (eS (eK ⟨gb,0,eL⟩) (eJ val) cp) (eJ val) val/\Sl w2 148 2 v' (eJ ks+1) ((ks.take f++(key,eJ rb)::ks.drop f).flatMap (meC (rb++[R])))/\aa (Own (eS oE (eJ ks) cE)) w w2/\(∀k,v'.ownBlock=eK k->(Value.slice oE (eJ ks) cE).ownBlock=eK k\/w.heap.size<=k)/\w5.setCell ⟨m,4,eL⟩ (eS o' (eJ ks+1) cap')=w2.setCell ⟨m,4,eL⟩ v') :=
   ⟨R,gb,cp,_,w5,Tk.o,zZ.o,tH.o.ai m5 (λe=>by have:=HEt.o R e;have:=Tk.o;omega),HY3.o.ai m5 (λk hk e=>by cases hk;have:=HEt.o gb e;have:=zZ.o;omega),hS',(dF.o.mono (λ_ _ h=>h.elim)).trans m5,λk hk=>(hv' k hk).imp id (λh=>cG dF.o.size h),rfl⟩
  clear hS' m5 hv' hbm NU HBm dF HB3 tH HY3 HEt;go_wp2_with fail;go_ret;exact⟨rfl,⟨λh=>absurd h hm,λ_=>nu.o⟩⟩
set_option linter.all false
theorem yI(w:tW)(rb mb:tLN)(v:MV)(t:Nat)(h:v.so=1)(ht:v.tab=eK t):fS prog 330 #[fY (v.cells rb mb).toArray] w λe w'=>e=fW (pt (mb.getD t 0))/\aa af w w':=by
 have HW:ah (∀w',fS prog 282 #[fY #[vI v.so,vU v.bits,ia (v.aD.map λr=>⟨rb.getD r 0,0,eL⟩),ia (v.tab.map λt=>⟨mb.getD t 0,0,eL⟩)],vI 1] w' λe w''=>e=fW (jl #[])/\aa af w' w''):=λw'=>zJ w' rb mb v 1 h;show fS _ _ #[fY #[vI v.so,vU v.bits,ia (v.aD.map λr=>⟨rb.getD r 0,0,eL⟩),ia (v.tab.map λt=>⟨mb.getD t 0,0,eL⟩)]] _ _
 rw[ht]at HW ⊢;simp only[Option.map_some]at HW ⊢;clear h ht;generalize v.aD.map (λr=>(⟨rb.getD r 0,0,eL⟩:kh))=p2 at *;generalize mb.getD t 0=M at *;have HB:=aq (au.new w #[vI v.so,vU v.bits,ia p2,vP M] 130);have HM:ah (aa af w (w.alloc (fL #[vI v.so,vU v.bits,ia p2,vP M] 130))):=aw;go_in;go_wp2_with fail;refine(HW.o _).mono ?_;rintro e w1 ⟨rfl,m1⟩;have bU:=aq (HM.o.trans m1);have y3:=(HB.o.ai m1 id).c3;clear HM HB HW m1;go_wp2_with fail;go_ret;exact⟨rfl,bU.o⟩
theorem A8(w:tW)(rb mb:tLN)(v:MV)(h:v.so≠1):fS prog 330 #[fY (v.cells rb mb).toArray] w λe w'=>e=bG 2/\aa af w w':=by
 have HW:ah (∀w',fS prog 282 #[fY #[vI v.so,vU v.bits,ia (v.aD.map λr=>⟨rb.getD r 0,0,eL⟩),ia (v.tab.map λt=>⟨mb.getD t 0,0,eL⟩)],vI 1] w' λe w''=>e=bG 2/\aa af w' w''):=λw'=>DW w' rb mb v 1 h;show fS _ _ #[fY #[vI v.so,vU v.bits,ia (v.aD.map λr=>⟨rb.getD r 0,0,eL⟩),ia (v.tab.map λt=>⟨mb.getD t 0,0,eL⟩)]] _ _
 clear h;generalize v.aD.map (λr=>(⟨rb.getD r 0,0,eL⟩:kh))=p2 at *;generalize v.tab.map (λt=>(⟨mb.getD t 0,0,eL⟩:kh))=p3 at *;have HM:ah (aa af w (w.alloc (fL #[vI v.so,vU v.bits,ia p2,ia p3] 130))):=aw;go_in;go_wp2_with fail;refine(HW.o _).mono ?_;rintro e w1 ⟨rfl,m1⟩;exact⟨rfl,rfl,HM.o.trans m1⟩
theorem SX(w:tW)(g n cap o s c:Nat)(l:tLN)(hb:∀b∈l,b<256)(h:mD w (eS (eK ⟨g,0,eL⟩) n cap) n l)(hos:o+s<=n):(convert 30 9 (eS (eK ⟨g,o,eL⟩) s c)).run prog w=.ok (eR (strOf ((l.drop o).take s))) w:=by
 have hl:=h.1;have hlen:eJ ((l.drop o).take s)=s:=by rw[al,ar];omega
 have key:=run_convert_bytes_back (P:=prog) w 30 9 5 ⟨g,o,eL⟩ c (((l.drop o).take s).map UInt8.ofNat) underlying30 underlying5 underlying9 (λj hj=>by
  have hj':j<s:=by rw[dj,hlen]at hj;exact hj
  rw[Addr.add_lit,(h.cell (o+j) (by omega)).1,List.getD_eq_getElem?_getD,List.getElem?_eq_getElem (by omega)];have:=hb (l[o+j]'(by omega)) (b9 _);simp only[List.getElem_map,cD,ey,ez];rw[show(UInt8.ofNat (l[o+j]'(by omega))).toNat=l[o+j]'(by omega)from by rw[UInt8.toNat_ofNat'];omega])
 rw[dj,hlen]at key;exact key
theorem XD{gs:List tLN}{v:MV}{n:Nat}(hv:v.Pt (eJ gs))(hT:aZ gs v 0 n=0):∃q,v.so=2/\v.aD=eK q/\q<eJ gs/\lq v 0+n<=eJ (gs.getD q []):=by
 unfold aZ at hT;by_cases tN:v.so=2
 ·rw[iN9 (by simp[tN])]at hT;obtain⟨q,hr,hq⟩:=hv tN;rw[hr,cD]at hT;by_cases hok:lq v 0+n<=eJ (gs.getD q [])
  ·exact⟨q,tN,hr,hq,hok⟩
  ·rw[iN9 hok]at hT;cases hT
 ·rw[iP9 tN]at hT;cases hT
theorem zO(w:tW)(b:Nat)(rb mb:tLN)(vM vC vL:fa)(r:aJ)(vs:tLV)(gs:List tLN)(h:aI w b rb mb vM vC vL r)(hp:0<eJ r.calls)(hR:pH w rb vs gs)(hg:yC gs)(k:Nat)(hk:k<11)(n:Nat)(hn:0<n/\n<=16)(hv:(r.aD k).Pt (eJ gs))(hT:aZ gs (r.aD k) 0 n=0):fS prog 332 #[pt b,vB k,vI n] w λe w'=>e=fW (eR (strOf (aS gs (r.aD k) n)))/\aa af w w':=by
 obtain⟨q,tN,hr,hq,hok⟩:=XD hv hT;have HG:=aq (λw' m=>eZ w' b rb mb vM vC vL r (h.quiet m) hp k hk);obtain⟨o,cap,e,hb⟩:=hR.view q hq;obtain⟨g,rfl,hc⟩:=hb (by omega);have hB:=hR.blk q hq;have hS:=hR.sl q hq;rw[e]at hB hS;have IC:=aq (λw' (m:aa af w w')=>FY w' rb mb (r.aD k) q hr tN g _ cap (hB.ai m id) (hg.at q hq).1 hc 0 n hn hok);have WM:ah (∀w',aa af w w'->(convert 30 9 (eS (eK ⟨g,lq (r.aD k) 0,eL⟩) n (cap-lq (r.aD k) 0))).run prog w'=.ok (eR (strOf (aS gs (r.aD k) n))) w'):=λw' m=>by have:=SX w' g _ cap (lq (r.aD k) 0) n (cap-lq (r.aD k) 0) _ (hg.at q hq).2 (hS.ai m (λ_ _=>id)) hok;unfold aS;rw[hr,cD];exact this
 have hk8:(k:Int)<=255:=by omega
 clear h hp hR hg hv hT hb hB hS hok hc hq hr tN e;generalize strOf (aS gs (r.aD k) n)=S at *;generalize lq (r.aD k) 0=A at *;generalize((r.aD k).cells rb mb).toArray=C at *;go_in;go_wp2_with fail;refine(HG.o w ax).mono ?_;rintro e w1 ⟨rfl,m1⟩;have bU:=aq m1;clear m1 HG;go_wp2_with fail;refine(IC.o w1 bU.o).mono ?_;rintro e w2 ⟨rfl,m2⟩;have bP:=aq (bU.o.trans m2);clear m2 IC bU;have TD:=aq (WM.o w2 bP.o);go_wp2_with (rw[TD.o]);go_ret;exact⟨rfl,bP.o⟩
theorem zP(w:tW)(b:Nat)(rb mb:tLN)(vM vC vL:fa)(r:aJ)(vs:tLV)(gs:List tLN)(h:aI w b rb mb vM vC vL r)(hp:0<eJ r.calls)(hR:pH w rb vs gs)(hg:yC gs)(k:Nat)(hk:k<11)(n:Nat)(hn:0<n/\n<=16)(hv:(r.aD k).Pt (eJ gs))(hT:aZ gs (r.aD k) 0 n≠0):fS prog 332 #[pt b,vB k,vI n] w λe w'=>e=bG (aZ gs (r.aD k) 0 n)/\aa af w w':=by
 have HG:=aq (λw' m=>eZ w' b rb mb vM vC vL r (h.quiet m) hp k hk);have IC:=aq (Ku (mb:=mb) hR hg (r.aD k) hv 0 n hn hT);have hk8:(k:Int)<=255:=by omega
 clear h hp hR hg hv hT;generalize aZ gs (r.aD k) 0 n=t at *;generalize((r.aD k).cells rb mb).toArray=C at *;go_in;go_wp2_with fail;refine(HG.o w ax).mono ?_;rintro e w1 ⟨rfl,m1⟩;have bU:=aq m1;clear m1 HG;go_wp2_with fail;refine(IC.o w1 bU.o).mono ?_;rintro e w2 ⟨rfl,m2⟩;exact⟨rfl,rfl,bU.o.trans m2⟩
theorem BG(w:tW)(b:Nat)(rb mb:tLN)(vM vC vL:fa)(r:aJ)(h:aI w b rb mb vM vC vL r)(hp:0<eJ r.calls)(B:Bool):fS prog 333 #[pt b,fX B] w λe w'=>e=fW (jl #[])/\aI w' b rb mb vM vC vL (r.answer (dI (if B then 0 else 1)))/\aa (Own vC) w w':=by
 have HN:=aq (λw' k=>qm w' rb mb k);have HA:=aq (λw' k m=>yB w' b rb mb vM vC vL r (h.quiet m) hp (dI k));clear h hp;cases B
 ·have Io:ah (∀w',fS prog 56 #[vU 1] w' λe w''=>e=fW (fY ((dI 1).cells rb mb).toArray)/\aa af w' w''):=λw'=>HN.o w' 1;have HA1:=aq (λw'=>HA.o w' 1);clear HN HA;show fS _ _ _ _ λe w'=>e=fW (jl #[])/\aI w' b rb mb vM vC vL (r.answer (dI 1))/\aa (Own vC) w w'
  generalize((dI 1).cells rb mb).toArray=C at *;go_in;go_wp2_with fail;refine(Io.o _).mono ?_;rintro e w1 ⟨rfl,m1⟩;have bU:=aq m1;clear m1 Io;go_wp2_with fail;refine(HA1.o w1 bU.o).mono ?_;rintro e w2 ⟨rfl,h2,m2⟩;have HR:=aq (And.intro h2 ((bU.o.mono (λ_ _ h=>h.elim)).trans m2:aa (Own vC) w w2));clear h2 m2;go_wp2_with fail;go_end0;exact⟨rfl,HR.o⟩
 ·have Io:ah (∀w',fS prog 56 #[vU 0] w' λe w''=>e=fW (fY ((dI 0).cells rb mb).toArray)/\aa af w' w''):=λw'=>HN.o w' 0;have HA1:=aq (λw'=>HA.o w' 0);clear HN HA;show fS _ _ _ _ λe w'=>e=fW (jl #[])/\aI w' b rb mb vM vC vL (r.answer (dI 0))/\aa (Own vC) w w'
  generalize((dI 0).cells rb mb).toArray=C at *;go_in;go_wp2_with fail;refine(Io.o _).mono ?_;rintro e w1 ⟨rfl,m1⟩;have bU:=aq m1;clear m1 Io;go_wp2_with fail;refine(HA1.o w1 bU.o).mono ?_;rintro e w2 ⟨rfl,h2,m2⟩;have HR:=aq (And.intro h2 ((bU.o.mono (λ_ _ h=>h.elim)).trans m2:aa (Own vC) w w2));clear h2 m2;go_wp2_with fail;go_end0;exact⟨rfl,HR.o⟩
set_option linter.all false
theorem kP{gs:List tLN}(hg:yC gs)(v:MV)(n:Nat):∀b∈aS gs v n,b<256:=λb hb=>by
 unfold aS at hb;have hb:=cq (cH hb);by_cases hq:v.aD.getD 0<eJ gs
 ·exact(hg.at _ hq).2 b hb
 ·rw[List.getD_eq_getElem?_getD,List.getElem?_eq_none (by omega)]at hb;cases hb
theorem vW{gs:List tLN}{v:MV}{n:Nat}(hv:v.Pt (eJ gs))(hT:aZ gs v 0 n=0):eJ (aS gs v n)=n:=by obtain⟨q,_,hr,_,hok⟩:=XD hv hT;unfold aS;rw[hr,cD,al,ar];omega
section
variable {F : Nat -> Prop} {w : World} {b : Nat} {a : Ad} {s : aX} {fn : Nat}
theorem Nz(h:dX F w b a s)(ho:bT fn s)(h1:(s.r.aD 1).so=1):(s.r.aD 1).tab=eK s.t1/\s.t1<eJ s.ms/\zK s.gs (s.mapOf s.t1):=by
 rcases(ho.aD 1).2 with⟨e,_⟩ |⟨_,_,t,e,ht⟩ |⟨e,_⟩
 ·omega
 ·have et:s.t1=t:=by unfold aX.t1;rw[e];rfl
  rw[et];refine⟨e,ht,?_⟩;unfold aX.mapOf;rw[List.getD_eq_getElem?_getD,List.getElem?_eq_getElem ht];exact ho.maps _ (b9 _)
 ·omega
theorem acF(h:dX F w b a s)(ho:bT fn s):fS prog 289 #[pt b] w λe w'=>bJ F w b a (pJ s) e w':=by
 have HG:ah (∀w',aa af w w'->fS prog 205 #[vP b,vB 1] w' λe w''=>e=fW (fY ((s.r.aD 1).cells a.rb a.mb).toArray)/\aa af w' w''):=λw' m=>eZ w' b a.rb a.mb a.vM a.vC a.vL s.r (h.run.quiet m) ho.pos 1 (by decide);by_cases h1:(s.r.aD 1).so=1
 ·obtain⟨et,hlt,hmo⟩:=Nz h ho h1;have wu:=aq (λw'=>yI w' a.rb a.mb (s.r.aD 1) s.t1 h1 et);have hB:=h.maps.blk s.t1 hlt;have hS:=h.maps.sl s.t1 hlt;have HK:ah (∀w',aa af w w'->w'.cell? ⟨a.mb.getD s.t1 0,1,eL⟩=eK (vI (s.mapOf s.t1).key)):=λw' m=>(hB.ai m id).cell 1;by_cases hT:aZ s.gs (s.r.aD 2) 0 (s.mapOf s.t1).key=0
  ·have Cd:ah (∀w',aa af w w'->fS prog 332 #[pt b,vB 2,vI (s.mapOf s.t1).key] w' λe w''=>e=fW (eR (strOf (aS s.gs (s.r.aD 2) (s.mapOf s.t1).key)))/\aa af w' w''):=λw' m=>zO w' b a.rb a.mb a.vM a.vC a.vL s.r a.vs s.gs (h.run.quiet m) ho.pos (h.kL.quiet m) ho.gs 2 (by decide) _ ⟨by have:=hmo.key;omega,by have:=hmo.key;omega⟩ (ho.aD 2).pt hT
   have HGT:ah (∀w',aa af w w'->fS prog 331 #[pt (a.mb.getD s.t1 0),eR (strOf (aS s.gs (s.r.aD 2) (s.mapOf s.t1).key))] w' λe w''=>e=fW (fY ((if aT (s.mapOf s.t1).aP (aS s.gs (s.r.aD 2) (s.mapOf s.t1).key)then eY (aY (s.mapOf s.t1).aP (aS s.gs (s.r.aD 2) (s.mapOf s.t1).key)) 0 else dI 0).cells a.rb a.mb).toArray)/\aa af w' w''):=λw' m =>
    SH w' _ _ _ _ _ _ _ a.rb a.mb _ (hB.ai m id) (hS.ai m (λ_ _=>id)) (by have:=hmo.len;have:=hmo.most;show(s.mapOf s.t1).aP.length<=1000000;omega) hmo.srt (λe he=>(hmo.ek e he).2) (kP ho.gs _ _)
   have HP:ah (pJ s=(0,s.ans (if aT (s.mapOf s.t1).aP (aS s.gs (s.r.aD 2) (s.mapOf s.t1).key)then eY (aY (s.mapOf s.t1).aP (aS s.gs (s.r.aD 2) (s.mapOf s.t1).key)) 0 else dI 0))):=by unfold pJ ah;rw[iN9 (by simp[h1]),iN9 (by simp[hT])]
   rw[HP.o];have HAN:ah (∀w' v,aa af w w'->fS prog 294 #[vP b,fY (v.cells a.rb a.mb).toArray] w' λe w''=>e=fW (jl #[])/\bJ F w b a (0,s.ans v) e w''):=λw' v m=>(yB w' b a.rb a.mb a.vM a.vC a.vL s.r (h.run.quiet m) ho.pos v).mono λe w'' ⟨he,hr,m2⟩=>by rw[he];refine⟨rfl,?_⟩;exact bJ.ok (h.vD ((m.mono (λ_ _ h=>h.elim)).trans m2) _ hr rfl)
   clear HP hB hS h1 et hlt hmo hT h ho;generalize(if aT (s.mapOf s.t1).aP (aS s.gs (s.r.aD 2) (s.mapOf s.t1).key)then eY (aY (s.mapOf s.t1).aP (aS s.gs (s.r.aD 2) (s.mapOf s.t1).key)) 0 else dI 0)=mv at *;have HA2:=aq (λw'=>HAN.o w' mv);clear HAN;generalize strOf (aS s.gs (s.r.aD 2) (s.mapOf s.t1).key)=sk at *;generalize(mv.cells a.rb a.mb).toArray=C2 at *;generalize((s.r.aD 1).cells a.rb a.mb).toArray=C1 at *;generalize a.mb.getD s.t1 0=M at *;generalize(s.mapOf s.t1).key=kn at *;go_in;go_wp2_with fail;refine(HG.o w ax).mono ?_;rintro e w1 ⟨rfl,m1⟩;have bU:=aq m1;clear m1 HG;go_wp2_with fail;refine(wu.o w1).mono ?_;rintro e w2 ⟨rfl,m2⟩;have bP:=aq (bU.o.trans m2);clear m2 bU wu;have y1:=HK.o w2 bP.o;go_wp2_with fail;refine(Cd.o w2 bP.o).mono ?_;rintro e w3 ⟨rfl,m3⟩;have dF:=aq (bP.o.trans m3);clear m3 bP Cd y1 HK;go_wp2_with fail;refine(HGT.o w3 dF.o).mono ?_;rintro e w4 ⟨rfl,m4⟩;have gG:=aq (dF.o.trans m4);clear m4 dF HGT;go_wp2_with fail;refine(HA2.o w4 gG.o).mono ?_;rintro e w5 ⟨rfl,hd⟩;have HD:=aq hd;clear hd HA2 gG;go_wp2_with fail;go_end0;exact HD.o
  ·have Cd:ah (∀w',aa af w w'->fS prog 332 #[pt b,vB 2,vI (s.mapOf s.t1).key] w' λe w''=>e=bG (aZ s.gs (s.r.aD 2) 0 (s.mapOf s.t1).key)/\aa af w' w''):=λw' m=>zP w' b a.rb a.mb a.vM a.vC a.vL s.r a.vs s.gs (h.run.quiet m) ho.pos (h.kL.quiet m) ho.gs 2 (by decide) _ ⟨by have:=hmo.key;omega,by have:=hmo.key;omega⟩ (ho.aD 2).pt hT;have HP:ah (pJ s=(aZ s.gs (s.r.aD 2) 0 (s.mapOf s.t1).key,s)):=by unfold pJ ah;rw[iN9 (by simp[h1]),iP9 hT]
   rw[HP.o];have HD:=aq (λw' (m:aa af w w')=>bJ.trap hT h m);clear HP hB hS h1 et hlt hmo hT h ho;generalize aZ s.gs (s.r.aD 2) 0 (s.mapOf s.t1).key=t at *;generalize((s.r.aD 1).cells a.rb a.mb).toArray=C1 at *;generalize a.mb.getD s.t1 0=M at *;generalize(s.mapOf s.t1).key=kn at *;go_in;go_wp2_with fail;refine(HG.o w ax).mono ?_;rintro e w1 ⟨rfl,m1⟩;have bU:=aq m1;clear m1 HG;go_wp2_with fail;refine(wu.o w1).mono ?_;rintro e w2 ⟨rfl,m2⟩;have bP:=aq (bU.o.trans m2);clear m2 bU wu;have y1:=HK.o w2 bP.o;go_wp2_with fail;refine(Cd.o w2 bP.o).mono ?_;rintro e w3 ⟨rfl,m3⟩;exact⟨rfl,HD.o w3 (bP.o.trans m3)⟩
 ·have wu:=aq (λw'=>A8 w' a.rb a.mb (s.r.aD 1) h1);have HP:ah (pJ s=(2,s)):=by unfold pJ ah;rw[iP9 h1]
  rw[HP.o];have HD:ah (∀w',aa af w w'->bJ F w b a (2,s) (bG 2) w'):=λw' m=>bJ.trap (by decide) h m;clear HP h1 h ho;generalize((s.r.aD 1).cells a.rb a.mb).toArray=C1 at *;go_in;go_wp2_with fail;refine(HG.o w ax).mono ?_;rintro e w1 ⟨rfl,m1⟩;have bU:=aq m1;clear m1 HG;go_wp2_with fail;refine(wu.o w1).mono ?_;rintro e w2 ⟨rfl,m2⟩;exact⟨rfl,HD.o w2 (bU.o.trans m2)⟩
end
set_option linter.all false
theorem Gb(ms:List iK)(t i:Nat)(x:iK)(ht:t<eJ ms):(ms.set t x).getD i jZ=if i=t then x else ms.getD i jZ:=by
 rw[List.getD_eq_getElem?_getD,List.getD_eq_getElem?_getD,List.getElem?_set];by_cases e:t=i
 ·subst e;rw[iP9 rfl,iP9 rfl,iP9 ht];rfl
 ·rw[iN9 e,iN9 (λh=>e h.symm)]
theorem wR(vs:tLV)(t i:Nat)(x:fa)(ht:t<eJ vs):(vs.set t x).getD i kO=if i=t then x else vs.getD i kO:=by
 rw[List.getD_eq_getElem?_getD,List.getD_eq_getElem?_getD,List.getElem?_set];by_cases e:t=i
 ·subst e;rw[iP9 rfl,iP9 rfl,iP9 ht];rfl
 ·rw[iN9 e,iN9 (λh=>e h.symm)]
theorem oN.turn{w w2:tW}{rb rb' mb:tLN}{vM:fa}{ve:tLV}{ms:List iK}{S:Nat->Prop}(h:oN w rb mb vM ve ms)(t:Nat)(ht:t<eJ ms)(m:aa S w w2)(hS:∀k,S k->Own (ve.getD t kO) k\/∃ty∈[122,5],Ty w k ty) (v':fa) (E':List (tLN×Nat)) (YF:Sl w2 148 2 v' (eJ E') (E'.flatMap (meC rb'))) (hN:∀k,v'.ownBlock=eK k->(ve.getD t kO).ownBlock=eK k\/w.heap.size<=k)(hrb:∀i,i<eJ ms->i≠t->(ms.getD i jZ).aP.flatMap (meC rb')=(ms.getD i jZ).aP.flatMap (meC rb)):oN (w2.setCell ⟨mb.getD t 0,4,eL⟩ v') rb' mb vM (ve.set t v') (ms.set t {ms.getD t jZ with aP:=E'})/\ep [148,122,5] w w2/\ep [85] w2 (w2.setCell ⟨mb.getD t 0,4,eL⟩ v'):=by
 have hle:=h.le;have htv:t<eJ ve:=by omega
 have mT:ep [148,122,5] w w2:=ep.of m (λk hk=>by
  rcases hS k hk with e |⟨ty,hty,hk'⟩
  ·exact⟨148,by simp,(h.sl t ht).ty e⟩
  ·exact⟨ty,by simp only[List.mem_cons,List.not_mem_nil,or_false]at hty ⊢;exact .inr hty,hk'⟩)
 have hBt:=(h.blk t ht).cK mT (by decide);have mM:aa (Only (mb.getD t 0)) w2 (w2.setCell ⟨mb.getD t 0,4,eL⟩ v'):=ax.bA 4 _;have TI:ep [85] w2 (w2.setCell ⟨mb.getD t 0,4,eL⟩ v'):=ep.of mM (λk hk=>⟨85,by simp,by cases(show k=_ from hk);exact hBt.ty⟩);refine⟨⟨by rw[ao];exact h.lm,by rw[ao,ao];exact h.le,?_,λi hi=>?_,λi hi=>?_,λi j hi hj=>?_,λi j k hi hj=>?_⟩,mT,TI⟩
 ·rw[ao];exact(h.uW.cK mT (by decide)).cK TI (by decide)
 ·rw[ao]at hi;rw[Gb ms t i _ ht,wR ve t i _ htv];by_cases e:i=t
  ·subst e;rw[iP9 rfl,iP9 rfl];exact hBt.set 4 v'
  ·rw[iN9 e,iN9 e];exact((h.blk i hi).cK mT (by decide)).ai mM (λhk=>e (h.inj i t hi ht hk))
 ·rw[ao]at hi;rw[Gb ms t i _ ht,wR ve t i _ htv];by_cases e:i=t
  ·subst e;rw[iP9 rfl,iP9 rfl];exact YF.cK TI (by decide)
  ·rw[iN9 e,iN9 e,hrb i hi e];refine((h.sl i hi).ai m (λk hk hs=>?_)).cK TI (by decide);rcases hS k hs with e2 |⟨ty,hty,hk'⟩
   ·exact e (h.Kx i t k hi ht hk e2)
   ·have:=((h.sl i hi).ty hk).one hk';subst this;exact absurd hty (by decide)
 ·rw[ao]at hi hj;exact h.inj i j hi hj
 ·rw[ao]at hi hj;rw[wR ve t i _ htv,wR ve t j _ htv];have old:=λi hi k hk=>(h.sl i hi).lt k hk;by_cases ei:i=t
  ·by_cases ej:j=t
   ·exact λ_ _=>ei.trans ej.symm
   ·rw[iP9 ei,iN9 ej];intro h1 h2;rcases hN k h1 with h3|h3
    ·rw[ei];exact h.Kx t j k ht hj h3 h2
    ·have:=old j hj k h2;omega
  ·by_cases ej:j=t
   ·rw[iN9 ei,iP9 ej];intro h1 h2;rcases hN k h2 with h3|h3
    ·rw[ej];exact h.Kx i t k hi ht h1 h3
    ·have:=old i hi k h1;omega
   ·rw[iN9 ei,iN9 ej];exact h.Kx i j k hi hj
set_option linter.all false
section
variable {F : Nat -> Prop} {w : World} {b : Nat} {a : Ad} {s : aX} {fn : Nat}
theorem jg{α:Type}(l:List α)(i:Nat)(d:α)(h:i<eJ l):l.getD i d∈l:=by rw[List.getD_eq_getElem?_getD,List.getElem?_eq_getElem h];exact b9 _
theorem dX.aeB(h:dX F w b a s)(t:Nat)(ht:t<eJ s.ms)(q:Nat)(hq:q<eJ s.gs)(v':fa)(w1 w2:tW)(m1:aa af w w1)(m2:aa (Own (a.ve.getD t kO)) (w1.setCell ⟨a.rb.getD q 0,0,eL⟩ (vN)) w2)(hv:v'.ownBlock=(a.ve.getD t kO).ownBlock) (E':List (tLN×Nat)) (YF:Sl w2 148 2 v' (eJ E') (E'.flatMap (meC a.rb))):dX F (w2.setCell ⟨a.mb.getD t 0,4,eL⟩ v') b {a with vs:=a.vs.set q (vN),ve:=a.ve.set t v'} {s with gs:=s.gs.set q [],ms:=s.ms.set t {s.ms.getD t jZ with aP:=E'}}/\aa F w (w2.setCell ⟨a.mb.getD t 0,4,eL⟩ v'):=by
 have h1:=h.quiet m1;have hr:=h1.kL.lr;have hve:a.ve.getD t kO∈a.ve:=jg _ _ _ (by have:=h.maps.le;omega);have hmb:a.mb.getD t 0∈a.mb:=jg _ _ _ (by have:=h.maps.lm;omega);have hrb:a.rb.getD q 0∈a.rb:=jg _ _ _ (by omega);have mG:aa (Only (a.rb.getD q 0)) w1 (w1.setCell ⟨a.rb.getD q 0,0,eL⟩ (vN)):=ax.bA 0 _;have mGT:ep [122] w1 (w1.setCell ⟨a.rb.getD q 0,0,eL⟩ (vN)):=ep.of mG (λk hk=>⟨122,by simp,by cases(show k=_ from hk);exact(h1.kL.blk q hq).ty⟩);have mET:ep [148] (w1.setCell ⟨a.rb.getD q 0,0,eL⟩ (vN)) w2:=ep.of m2 (λk hk=>⟨148,by simp,((h1.maps.sl t ht).cK mGT (by decide)).ty hk⟩);have m12:aa (λk=>k=a.rb.getD q 0\/Own (a.ve.getD t kO) k) w1 w2:=(mG.mono (λk _ hk=>.inl hk)).trans (m2.mono (λk _ hk=>.inr hk));obtain⟨hM,mT,TI⟩:=h1.maps.turn (rb':=a.rb) t ht m12 (λk hk=>hk.elim (λe=>.inr ⟨122,by simp,by rw[e];exact(h1.kL.blk q hq).ty⟩) .inl) v' E' YF (λk hk=>.inl (hv ▸ hk)) (λ_ _ _=>rfl);have mM:aa (Only (a.mb.getD t 0)) w2 (w2.setCell ⟨a.mb.getD t 0,4,eL⟩ v'):=ax.bA 4 _;refine⟨⟨(h1.run.cK mT (by decide) (by decide)).cK TI (by decide) (by decide),(((h1.kL.die q hq).cK mET (by decide) (by decide)).cK TI (by decide) (by decide)),(h1.log.cK mT (by decide)).cK TI (by decide),hM,h.fb,h.fc,h.fl,h.fr,λv hv2 k hk=>?_,h.fm,λv hv2 k hk=>?_⟩,?_⟩
 ·rcases ba hv2 with hv2|rfl
  ·exact h.fv v hv2 k hk
  ·cases hk
 ·rcases ba hv2 with hv2|rfl
  ·exact h.fe v hv2 k hk
  ·exact h.fe _ hve k (hv ▸ hk)
 ·refine((m1.mono (λ_ _ h=>h.elim)).trans (m12.mono (λk _ hk=>?_))).trans (mM.mono (λk _ hk=>?_))
  ·rcases hk with e|e
   ·rw[e];exact h.fr _ hrb
   ·exact h.fe _ hve k e
  ·rw[show k=_ from hk];exact h.fm _ hmb
theorem acG(h:dX F w b a s)(ho:bT fn s):fS prog 291 #[pt b] w λe w'=>bJ F w b a (oh s) e w':=by
 have HG:ah (∀w',aa af w w'->fS prog 205 #[vP b,vB 1] w' λe w''=>e=fW (fY ((s.r.aD 1).cells a.rb a.mb).toArray)/\aa af w' w''):=λw' m=>eZ w' b a.rb a.mb a.vM a.vC a.vL s.r (h.run.quiet m) ho.pos 1 (by decide);by_cases h1:(s.r.aD 1).so=1
 ·obtain⟨et,hlt,hmo⟩:=Nz h ho h1;have wu:=aq (λw'=>yI w' a.rb a.mb (s.r.aD 1) s.t1 h1 et);have hB:=h.maps.blk s.t1 hlt;have hS:=h.maps.sl s.t1 hlt;have HK:ah (∀w',aa af w w'->w'.cell? ⟨a.mb.getD s.t1 0,1,eL⟩=eK (vI (s.mapOf s.t1).key)):=λw' m=>(hB.ai m id).cell 1;by_cases hT:aZ s.gs (s.r.aD 2) 0 (s.mapOf s.t1).key=0
  ·have Cd:ah (∀w',aa af w w'->fS prog 332 #[pt b,vB 2,vI (s.mapOf s.t1).key] w' λe w''=>e=fW (eR (strOf (aS s.gs (s.r.aD 2) (s.mapOf s.t1).key)))/\aa af w' w''):=λw' m=>zO w' b a.rb a.mb a.vM a.vC a.vL s.r a.vs s.gs (h.run.quiet m) ho.pos (h.kL.quiet m) ho.gs 2 (by decide) _ ⟨by have:=hmo.key;omega,by have:=hmo.key;omega⟩ (ho.aD 2).pt hT;have hfq:aT (s.mapOf s.t1).aP (aS s.gs (s.r.aD 2) (s.mapOf s.t1).key)=fR->aY (s.mapOf s.t1).aP (aS s.gs (s.r.aD 2) (s.mapOf s.t1).key)<eJ s.gs:=λhf=>by rw[vV hf];exact(hmo.er _ (b9 _)).1
   have HDL:ah (∀w',aa af w w'->fS prog 335 #[pt (a.mb.getD s.t1 0),eR (strOf (aS s.gs (s.r.aD 2) (s.mapOf s.t1).key))] w' λe w''=>∃B a' s',e=fW (fX B)/\dX F w'' b a' s'/\aa F w w''/\a'.mb=a.mb/\a'.vM=a.vM/\oh s=(0,s'.ans (dI (if B then 0 else 1)))/\s'.r=s.r):=λw' m=>by
    have hB':=hB.ai m id;have hS':=hS.ai m (λ_ _=>id);refine(SK w' _ _ _ _ _ _ (a.vs.getD (aY (s.mapOf s.t1).aP (aS s.gs (s.r.aD 2) (s.mapOf s.t1).key)) kO) _ a.rb (aS s.gs (s.r.aD 2) (s.mapOf s.t1).key) hB' hS' (by have:=hmo.len;have:=hmo.most;show(s.mapOf s.t1).aP.length<=1000000;omega) hmo.srt (λe he=>(hmo.ek e he).2) (kP ho.gs _ _) (λhf=>((h.kL.blk _ (hfq hf)).ai m id))).mono ?_;rintro e w'' ⟨rfl,hn,hy⟩;have hP:oh s=(0,(tC s s.t1 (aS s.gs (s.r.aD 2) (s.mapOf s.t1).key)).1.ans (dI (if(tC s s.t1 (aS s.gs (s.r.aD 2) (s.mapOf s.t1).key)).2 then 0 else 1))):=by unfold oh;rw[iN9 (by simp[h1]),iN9 (by simp[hT])]
    by_cases hf:aT (s.mapOf s.t1).aP (aS s.gs (s.r.aD 2) (s.mapOf s.t1).key)=fR
    ·obtain⟨v',w1,w2,m1,m2,hv,YF,rfl⟩:=hy hf;obtain⟨hst,hmd⟩:=h.aeB s.t1 hlt _ (hfq hf) v' w1 w2 (m.trans m1) m2 hv _ YF;refine⟨fR,_,_,congrArg (λx=>Ending.returned (fX x)) hf,hst,hmd,rfl,rfl,?_,rfl⟩;rw[hP];unfold tC;rw[iP9 hf];rfl
    ·have hf':aT (s.mapOf s.t1).aP (aS s.gs (s.r.aD 2) (s.mapOf s.t1).key)=fj:=by simpa using hf
     have hm:=hn hf';refine⟨fj,a,s,congrArg (λx=>Ending.returned (fX x)) hf',(h.quiet' (m.trans hm)).1,(h.quiet' (m.trans hm)).2,rfl,rfl,?_,rfl⟩;rw[hP];unfold tC;rw[iN9 hf]
   have HWH:ah (∀w' B a' s',dX F w' b a' s'->aa F w w'->a'.mb=a.mb->a'.vM=a.vM->s'.r=s.r->fS prog 333 #[pt b,fX B] w' λe w''=>e=fW (jl #[])/\bJ F w b a (0,s'.ans (dI (if B then 0 else 1))) e w''):=λw' B a' s' hst hmd e1 e2 e3=>(BG w' b a'.rb a'.mb a'.vM a'.vC a'.vL s'.r hst.run (by rw[e3];exact ho.pos) B).mono λe w'' ⟨he,hr,m2⟩=>by obtain⟨g1,g2⟩:=hst.vD m2 _ hr (aJ.yE _ _);exact⟨he,he ▸ ⟨rfl,hmd.trans g2,a',g1,e1,e2⟩⟩
   clear hB hS h1 et hlt hmo hT h ho hfq;generalize strOf (aS s.gs (s.r.aD 2) (s.mapOf s.t1).key)=sk at *;generalize((s.r.aD 1).cells a.rb a.mb).toArray=C1 at *;generalize a.mb.getD s.t1 0=M at *;generalize(s.mapOf s.t1).key=kn at *;go_in;go_wp2_with fail;refine(HG.o w ax).mono ?_;rintro e w1 ⟨rfl,m1⟩;have bU:=aq m1;clear m1 HG;go_wp2_with fail;refine(wu.o w1).mono ?_;rintro e w2 ⟨rfl,m2⟩;have bP:=aq (bU.o.trans m2);clear m2 bU wu;have y1:=HK.o w2 bP.o;go_wp2_with fail;refine(Cd.o w2 bP.o).mono ?_;rintro e w3 ⟨rfl,m3⟩;have dF:=aq (bP.o.trans m3);clear m3 bP Cd y1 HK;go_wp2_with fail;refine(HDL.o w3 dF.o).mono ?_;rintro e w4 ⟨B,a',s',rfl,hst,hmd,e1,e2,hP,e3⟩;have HW:=aq (HWH.o w4 B a' s' hst hmd e1 e2 e3);rw[<-hP]at HW;clear hst hmd e1 e2 hP e3 HWH HDL dF;go_wp2_with fail;refine HW.o.mono ?_;rintro e w5 ⟨rfl,hd⟩;have HD:=aq hd;clear hd HW;go_wp2_with fail;go_end0;exact HD.o
  ·have Cd:ah (∀w',aa af w w'->fS prog 332 #[pt b,vB 2,vI (s.mapOf s.t1).key] w' λe w''=>e=bG (aZ s.gs (s.r.aD 2) 0 (s.mapOf s.t1).key)/\aa af w' w''):=λw' m=>zP w' b a.rb a.mb a.vM a.vC a.vL s.r a.vs s.gs (h.run.quiet m) ho.pos (h.kL.quiet m) ho.gs 2 (by decide) _ ⟨by have:=hmo.key;omega,by have:=hmo.key;omega⟩ (ho.aD 2).pt hT;have HP:ah (oh s=(aZ s.gs (s.r.aD 2) 0 (s.mapOf s.t1).key,s)):=by unfold oh ah;rw[iN9 (by simp[h1]),iP9 hT]
   rw[HP.o];have HD:=aq (λw' (m:aa af w w')=>bJ.trap hT h m);clear HP hB hS h1 et hlt hmo hT h ho;generalize aZ s.gs (s.r.aD 2) 0 (s.mapOf s.t1).key=t at *;generalize((s.r.aD 1).cells a.rb a.mb).toArray=C1 at *;generalize a.mb.getD s.t1 0=M at *;generalize(s.mapOf s.t1).key=kn at *;go_in;go_wp2_with fail;refine(HG.o w ax).mono ?_;rintro e w1 ⟨rfl,m1⟩;have bU:=aq m1;clear m1 HG;go_wp2_with fail;refine(wu.o w1).mono ?_;rintro e w2 ⟨rfl,m2⟩;have bP:=aq (bU.o.trans m2);clear m2 bU wu;have y1:=HK.o w2 bP.o;go_wp2_with fail;refine(Cd.o w2 bP.o).mono ?_;rintro e w3 ⟨rfl,m3⟩;exact⟨rfl,HD.o w3 (bP.o.trans m3)⟩
 ·have wu:=aq (λw'=>A8 w' a.rb a.mb (s.r.aD 1) h1);have HP:ah (oh s=(2,s)):=by unfold oh ah;rw[iP9 h1]
  rw[HP.o];have HD:ah (∀w',aa af w w'->bJ F w b a (2,s) (bG 2) w'):=λw' m=>bJ.trap (by decide) h m;clear HP h1 h ho;generalize((s.r.aD 1).cells a.rb a.mb).toArray=C1 at *;go_in;go_wp2_with fail;refine(HG.o w ax).mono ?_;rintro e w1 ⟨rfl,m1⟩;have bU:=aq m1;clear m1 HG;go_wp2_with fail;refine(wu.o w1).mono ?_;rintro e w2 ⟨rfl,m2⟩;exact⟨rfl,HD.o w2 (bU.o.trans m2)⟩
end
set_option linter.all false
section
variable {F : Nat -> Prop} {w : World} {b : Nat} {a : Ad} {s : aX} {fn : Nat}
theorem dX.acH(h:dX F w b a s)(q:Nat)(hq:q<eJ s.gs)(gb cap:Nat)(val:tLN)(he:a.vs.getD q kO=eS (eK ⟨gb,0,eL⟩) (eJ val) cap)(hl:eJ val=eJ (s.gs.getD q []))(w1:tW)(m1:aa af w w1):dX F (w1.setCells gb 0 (xJ val)) b a {s with gs:=s.gs.set q val}/\aa F w (w1.setCells gb 0 (xJ val)):=by have h1:=h.quiet m1;have hs:=h1.kL.sl q hq;rw[he,<-hl]at hs;obtain⟨hy,my⟩:=hs.all rfl;have hR:=h1.kL.put q hq gb (eJ val) cap he val rfl hl my hy;obtain⟨g1,g2⟩:=h1.aek q hq (my.mono (λk _ hk=>by rw[show k=gb from hk,he];rfl)) _ hR;exact⟨g1,(m1.mono (λ_ _ h=>h.elim)).trans g2⟩
theorem dX.acI(h:dX F w b a s)(ho:bT fn s)(hF:∀k,w.heap.size<=k->F k)(t:Nat)(ht:t<eJ s.ms)(R gb cp:Nat)(val:tLN)(v':fa)(w2:tW)(SQ:w.heap.size<=R)(hR2:w.heap.size<=gb)(hB:au w2 R #[eS (eK ⟨gb,0,eL⟩) (eJ val) cp] 122)(hY:mD w2 (eS (eK ⟨gb,0,eL⟩) (eJ val) cp) (eJ val) val) (E':List (tLN×Nat)) (YF:Sl w2 148 2 v' (eJ E') (E'.flatMap (meC (a.rb++[R])))) (m2:aa (Own (a.ve.getD t kO)) w w2) (hN:∀k,v'.ownBlock=eK k->(a.ve.getD t kO).ownBlock=eK k\/w.heap.size<=k):dX F (w2.setCell ⟨a.mb.getD t 0,4,eL⟩ v') b {a with rb:=a.rb++[R],vs:=a.vs++[eS (eK ⟨gb,0,eL⟩) (eJ val) cp],ve:=a.ve.set t v'} {s with gs:=s.gs++[val],ms:=s.ms.set t {s.ms.getD t jZ with aP:=E'}}/\aa F w (w2.setCell ⟨a.mb.getD t 0,4,eL⟩ v'):=by
 have hve:a.ve.getD t kO∈a.ve:=jg _ _ _ (by have:=h.maps.le;omega);have hmb:a.mb.getD t 0∈a.mb:=jg _ _ _ (by have:=h.maps.lm;omega);have hlr:=h.kL.lr;obtain⟨hM,mT,TI⟩:=h.maps.turn (rb':=a.rb++[R]) t ht m2 (λk hk=>.inl hk) v' E' YF hN (λi hi _=>Eb a.rb R _ (λe he=>by rw[hlr];exact((ho.maps _ (jg _ _ _ hi)).er e he).1));have mET:ep [148] w w2:=ep.of m2 (λk hk=>⟨148,by simp,(h.maps.sl t ht).ty hk⟩);have hRg:=(h.kL.cK mET (by decide) (by decide)).addN w.heap.size (λi hi=>⟨(h.kL.blk i hi).lt,λk hk=>(h.kL.sl i hi).lt k hk⟩) R _ val hB hY SQ (λk hk=>by cases hk;exact hR2);have mM:aa (Only (a.mb.getD t 0)) w2 (w2.setCell ⟨a.mb.getD t 0,4,eL⟩ v'):=ax.bA 4 _;have hrun:=((h.run.cK mT (by decide) (by decide)).cK TI (by decide) (by decide)).grow (ho.In hlr) R;refine⟨⟨hrun,hRg.cK TI (by decide) (by decide),(h.log.cK mT (by decide)).cK TI (by decide),hM,h.fb,h.fc,h.fl,λx hx=>?_,λv hv2 k hk=>?_,h.fm,λv hv2 k hk=>?_⟩,?_⟩
 ·rcases List.mem_append.1 hx with hx|hx
  ·exact h.fr x hx
  ·rw[List.mem_singleton.1 hx];exact hF _ SQ
 ·rcases List.mem_append.1 hv2 with hv2|hv2
  ·exact h.fv v hv2 k hk
  ·rw[List.mem_singleton.1 hv2]at hk;cases hk;exact hF _ hR2
 ·rcases ba hv2 with hv2|rfl
  ·exact h.fe v hv2 k hk
  ·exact(hN k hk).elim (h.fe _ hve k) (hF k)
 ·refine(m2.mono (λk _ hk=>h.fe _ hve k hk)).trans (mM.mono (λk _ hk=>?_));rw[show k=_ from hk];exact h.fm _ hmb
end
set_option linter.all false
section
variable {F : Nat -> Prop} {w : World} {b : Nat} {a : Ad} {s : aX} {fn : Nat}
theorem aaM(h:dX F w b a s)(ho:bT fn s)(hF:∀k,w.heap.size<=k->F k)(t:Nat)(ht:t<eJ s.ms)(hmo:zK s.gs (s.mapOf t))(key val:tLN)(hy:∀x∈key,x<256)(hv:∀x∈val,x<256)(hvl:eJ val=(s.mapOf t).value):fS prog 334 #[pt (a.mb.getD t 0),eR (strOf key),eR (strOf val)] w λe w'=>∃a',e=fW (fX (lJ s t key val).2)/\dX F w' b a' (lJ s t key val).1/\aa F w w'/\a'.mb=a.mb/\a'.vM=a.vM:=by
 have hB:=h.maps.blk t ht;have hS:=h.maps.sl t ht;have hln:=cG hmo.len hmo.most;have af9:=hmo.val;by_cases hf:aT (s.mapOf t).aP key=fR
 ·have hq:aY (s.mapOf t).aP key<eJ s.gs/\(s.gs.getD (aY (s.mapOf t).aP key) []).length=(s.mapOf t).value:=by rw[vV hf];exact hmo.er _ (b9 _)
  obtain⟨o,cap,e,hb⟩:=h.kL.view _ hq.1;obtain⟨gb,rfl,hc⟩:=hb (by omega);have e2:a.vs.getD (aY (s.mapOf t).aP key) kO=eS (eK ⟨gb,0,eL⟩) (eJ val) cap:=by rw[e,hq.2,hvl]
  have hR:=h.kL.blk _ hq.1;have hY:=h.kL.sl _ hq.1;rw[e2]at hR hY;rw[hq.2,<-hvl]at hY;refine(SV w _ _ _ _ _ _ (s.mapOf t).aP a.rb key val _ gb cap hB hS (by omega) hmo.srt (λe he=>(hmo.ek e he).2) hy hf hR hY hv).mono ?_;rintro e w' ⟨rfl,w1,m1,rfl⟩;obtain⟨g1,g2⟩:=h.acH _ hq.1 gb cap val e2 (by rw[hvl,hq.2]) w1 m1;unfold lJ;rw[iP9 hf];exact⟨a,rfl,g1,g2,rfl,rfl⟩
 ·have hf':aT (s.mapOf t).aP key=fj:=by simpa using hf
  have hlr:=h.kL.lr;refine(XC w _ _ _ _ _ (s.mapOf t).most (s.mapOf t).aP a.rb key val hB hS (by omega) hmo.srt (λe he=>(hmo.ek e he).2) hy hf' (λe he=>by rw[hlr];exact(hmo.er e he).1) hv (by omega)).mono ?_;rintro e w' ⟨rfl,h0,h1⟩;by_cases hm:eJ (s.mapOf t).aP=(s.mapOf t).most
  ·have mN:=h0 hm;unfold lJ;rw[iN9 hf,iP9 hm];refine⟨a,?_,(h.quiet' mN).1,(h.quiet' mN).2,rfl,rfl⟩;have:decide (eJ (s.mapOf t).aP≠(s.mapOf t).most)=fj:=by simpa using hm
   rw[this]
  ·obtain⟨R,gb,cp,v',w2,r1,r2,U4,hYR,YF,m2,hN,rfl⟩:=h1 hm;have hE:((s.mapOf t).aP.take (aL (s.mapOf t).aP key)++(key,eJ a.rb)::(s.mapOf t).aP.drop (aL (s.mapOf t).aP key)).length=eJ (s.mapOf t).aP+1:=by have:=vR (s.mapOf t).aP key;rw[ab,cY,al,ar];omega
   rw[<-hE]at YF;obtain⟨g1,g2⟩:=h.acI ho hF t ht R gb cp val v' w2 r1 r2 U4 hYR _ YF m2 hN;unfold lJ;rw[iN9 hf,iN9 hm];have hd:decide (eJ (s.mapOf t).aP≠(s.mapOf t).most)=fR:=by simpa using hm
   rw[hlr]at g1;exact⟨_,congrArg (λx=>Ending.returned (fX x)) hd,g1,g2,rfl,rfl⟩
theorem acJ(h:dX F w b a s)(ho:bT fn s)(hF:∀k,w.heap.size<=k->F k):fS prog 290 #[pt b] w λe w'=>bJ F w b a (nR s) e w':=by
 have HG:ah (∀w',aa af w w'->fS prog 205 #[vP b,vB 1] w' λe w''=>e=fW (fY ((s.r.aD 1).cells a.rb a.mb).toArray)/\aa af w' w''):=λw' m=>eZ w' b a.rb a.mb a.vM a.vC a.vL s.r (h.run.quiet m) ho.pos 1 (by decide);by_cases h1:(s.r.aD 1).so=1
 ·obtain⟨et,hlt,hmo⟩:=Nz h ho h1;have wu:=aq (λw'=>yI w' a.rb a.mb (s.r.aD 1) s.t1 h1 et);have hB:=h.maps.blk s.t1 hlt;have HK:ah (∀w',aa af w w'->w'.cell? ⟨a.mb.getD s.t1 0,1,eL⟩=eK (vI (s.mapOf s.t1).key)/\w'.cell? ⟨a.mb.getD s.t1 0,2,eL⟩=eK (vI (s.mapOf s.t1).value)):=λw' m=>⟨(hB.ai m id).cell 1,(hB.ai m id).cell 2⟩
  have hkey:=hmo.key;have hval:=hmo.val;by_cases hT:aZ s.gs (s.r.aD 2) 0 (s.mapOf s.t1).key=0
  ·have Cd:ah (∀w',aa af w w'->fS prog 332 #[pt b,vB 2,vI (s.mapOf s.t1).key] w' λe w''=>e=fW (eR (strOf (aS s.gs (s.r.aD 2) (s.mapOf s.t1).key)))/\aa af w' w''):=λw' m=>zO w' b a.rb a.mb a.vM a.vC a.vL s.r a.vs s.gs (h.run.quiet m) ho.pos (h.kL.quiet m) ho.gs 2 (by decide) _ ⟨by omega,by omega⟩ (ho.aD 2).pt hT;by_cases YG:aZ s.gs (s.r.aD 3) 0 (s.mapOf s.t1).value=0
   ·have tH:ah (∀w',aa af w w'->fS prog 332 #[pt b,vB 3,vI (s.mapOf s.t1).value] w' λe w''=>e=fW (eR (strOf (aS s.gs (s.r.aD 3) (s.mapOf s.t1).value)))/\aa af w' w''):=λw' m=>zO w' b a.rb a.mb a.vM a.vC a.vL s.r a.vs s.gs (h.run.quiet m) ho.pos (h.kL.quiet m) ho.gs 3 (by decide) _ ⟨by omega,by omega⟩ (ho.aD 3).pt YG
    have HPT:ah (∀w',aa af w w'->fS prog 334 #[pt (a.mb.getD s.t1 0),eR (strOf (aS s.gs (s.r.aD 2) (s.mapOf s.t1).key)),eR (strOf (aS s.gs (s.r.aD 3) (s.mapOf s.t1).value))] w' λe w''=>∃a',e=fW (fX (lJ s s.t1 (aS s.gs (s.r.aD 2) (s.mapOf s.t1).key) (aS s.gs (s.r.aD 3) (s.mapOf s.t1).value)).2)/\dX F w'' b a' (lJ s s.t1 (aS s.gs (s.r.aD 2) (s.mapOf s.t1).key) (aS s.gs (s.r.aD 3) (s.mapOf s.t1).value)).1/\aa F w w''/\a'.mb=a.mb/\a'.vM=a.vM):=λw' m =>
     (aaM (h.quiet m) ho (λk hk=>hF k (cG m.size hk)) s.t1 hlt hmo _ _ (kP ho.gs _ _) (kP ho.gs _ _) (vW (ho.aD 3).pt YG)).mono λe w'' ⟨a',q1,q2,q3,q4,q5⟩=>⟨a',q1,q2,(m.mono (λ_ _ h=>h.elim)).trans q3,q4,q5⟩
    have HP:ah (nR s=(0,(lJ s s.t1 (aS s.gs (s.r.aD 2) (s.mapOf s.t1).key) (aS s.gs (s.r.aD 3) (s.mapOf s.t1).value)).1.ans (dI (if(lJ s s.t1 (aS s.gs (s.r.aD 2) (s.mapOf s.t1).key) (aS s.gs (s.r.aD 3) (s.mapOf s.t1).value)).2 then 0 else 1)))):=by unfold nR ah;rw[iN9 (by simp[h1]),iN9 (by simp[hT]),iN9 (by simp[YG])]
    have hpr:(lJ s s.t1 (aS s.gs (s.r.aD 2) (s.mapOf s.t1).key) (aS s.gs (s.r.aD 3) (s.mapOf s.t1).value)).1.r=s.r:=by
     unfold lJ;split
     ·rfl
     ·split<;>rfl
    rw[HP.o];have HWH:ah (∀w' B a' s',dX F w' b a' s'->aa F w w'->a'.mb=a.mb->a'.vM=a.vM->s'.r=s.r->fS prog 333 #[pt b,fX B] w' λe w''=>e=fW (jl #[])/\bJ F w b a (0,s'.ans (dI (if B then 0 else 1))) e w''):=λw' B a' s' hst hmd e1 e2 e3=>(BG w' b a'.rb a'.mb a'.vM a'.vC a'.vL s'.r hst.run (by rw[e3];exact ho.pos) B).mono λe w'' ⟨he,hr,m2⟩=>by obtain⟨g1,g2⟩:=hst.vD m2 _ hr (aJ.yE _ _);exact⟨he,he ▸ ⟨rfl,hmd.trans g2,a',g1,e1,e2⟩⟩
    have QL:=aq hpr;clear HP hB h1 et hlt hmo hT YG h ho hF hpr hkey hval;generalize lJ s s.t1 (aS s.gs (s.r.aD 2) (s.mapOf s.t1).key) (aS s.gs (s.r.aD 3) (s.mapOf s.t1).value)=pm at *;obtain⟨p1,B⟩:=pm;simp only at HPT QL ⊢;have HW2:=aq (λw' a' hst hmd e1 e2=>HWH.o w' B a' p1 hst hmd e1 e2 QL.o);clear HWH QL;generalize p1.ans (dI (if B then 0 else 1))=sA at *;generalize strOf (aS s.gs (s.r.aD 2) (s.mapOf s.t1).key)=sk at *;generalize strOf (aS s.gs (s.r.aD 3) (s.mapOf s.t1).value)=sv at *;generalize((s.r.aD 1).cells a.rb a.mb).toArray=C1 at *;generalize a.mb.getD s.t1 0=M at *;generalize(s.mapOf s.t1).key=kn at *;generalize(s.mapOf s.t1).value=vn at *;go_in;go_wp2_with fail;refine(HG.o w ax).mono ?_;rintro e w1 ⟨rfl,m1⟩;have bU:=aq m1;clear m1 HG;go_wp2_with fail;refine(wu.o w1).mono ?_;rintro e w2 ⟨rfl,m2⟩;have bP:=aq (bU.o.trans m2);clear m2 bU wu;have y1:=(HK.o w2 bP.o).1;go_wp2_with fail;refine(Cd.o w2 bP.o).mono ?_;rintro e w3 ⟨rfl,m3⟩;have dF:=aq (bP.o.trans m3);clear m3 bP Cd y1;have y2:=(HK.o w3 dF.o).2;clear HK;go_wp2_with fail;refine(tH.o w3 dF.o).mono ?_;rintro e w4 ⟨rfl,m4⟩;have gG:=aq (dF.o.trans m4);clear m4 dF tH y2;go_wp2_with fail;refine(HPT.o w4 gG.o).mono ?_;rintro e w5 ⟨a',rfl,hst,hmd,e1,e2⟩;have HW:=aq (HW2.o w5 a' hst hmd e1 e2);clear hst hmd e1 e2 HW2 HPT gG;go_wp2_with fail;refine HW.o.mono ?_;rintro e w6 ⟨rfl,hd⟩;have HD:=aq hd;clear hd HW;go_wp2_with fail;go_end0;exact HD.o
   ·have tH:ah (∀w',aa af w w'->fS prog 332 #[pt b,vB 3,vI (s.mapOf s.t1).value] w' λe w''=>e=bG (aZ s.gs (s.r.aD 3) 0 (s.mapOf s.t1).value)/\aa af w' w''):=λw' m=>zP w' b a.rb a.mb a.vM a.vC a.vL s.r a.vs s.gs (h.run.quiet m) ho.pos (h.kL.quiet m) ho.gs 3 (by decide) _ ⟨by omega,by omega⟩ (ho.aD 3).pt YG;have HP:ah (nR s=(aZ s.gs (s.r.aD 3) 0 (s.mapOf s.t1).value,s)):=by unfold nR ah;rw[iN9 (by simp[h1]),iN9 (by simp[hT]),iP9 YG]
    rw[HP.o];have HD:=aq (λw' (m:aa af w w')=>bJ.trap YG h m);clear HP hB h1 et hlt hmo hT YG h ho hF hkey hval;generalize aZ s.gs (s.r.aD 3) 0 (s.mapOf s.t1).value=tr at *;generalize strOf (aS s.gs (s.r.aD 2) (s.mapOf s.t1).key)=sk at *;generalize((s.r.aD 1).cells a.rb a.mb).toArray=C1 at *;generalize a.mb.getD s.t1 0=M at *;generalize(s.mapOf s.t1).key=kn at *;generalize(s.mapOf s.t1).value=vn at *;go_in;go_wp2_with fail;refine(HG.o w ax).mono ?_;rintro e w1 ⟨rfl,m1⟩;have bU:=aq m1;clear m1 HG;go_wp2_with fail;refine(wu.o w1).mono ?_;rintro e w2 ⟨rfl,m2⟩;have bP:=aq (bU.o.trans m2);clear m2 bU wu;have y1:=(HK.o w2 bP.o).1;go_wp2_with fail;refine(Cd.o w2 bP.o).mono ?_;rintro e w3 ⟨rfl,m3⟩;have dF:=aq (bP.o.trans m3);clear m3 bP Cd y1;have y2:=(HK.o w3 dF.o).2;clear HK;go_wp2_with fail;refine(tH.o w3 dF.o).mono ?_;rintro e w4 ⟨rfl,m4⟩;exact⟨rfl,HD.o w4 (dF.o.trans m4)⟩
  ·have Cd:ah (∀w',aa af w w'->fS prog 332 #[pt b,vB 2,vI (s.mapOf s.t1).key] w' λe w''=>e=bG (aZ s.gs (s.r.aD 2) 0 (s.mapOf s.t1).key)/\aa af w' w''):=λw' m=>zP w' b a.rb a.mb a.vM a.vC a.vL s.r a.vs s.gs (h.run.quiet m) ho.pos (h.kL.quiet m) ho.gs 2 (by decide) _ ⟨by omega,by omega⟩ (ho.aD 2).pt hT;have HP:ah (nR s=(aZ s.gs (s.r.aD 2) 0 (s.mapOf s.t1).key,s)):=by unfold nR ah;rw[iN9 (by simp[h1]),iP9 hT]
   rw[HP.o];have HD:=aq (λw' (m:aa af w w')=>bJ.trap hT h m);clear HP hB h1 et hlt hmo hT h ho hF hkey hval;generalize aZ s.gs (s.r.aD 2) 0 (s.mapOf s.t1).key=tr at *;generalize((s.r.aD 1).cells a.rb a.mb).toArray=C1 at *;generalize a.mb.getD s.t1 0=M at *;generalize(s.mapOf s.t1).key=kn at *;generalize(s.mapOf s.t1).value=vn at *;go_in;go_wp2_with fail;refine(HG.o w ax).mono ?_;rintro e w1 ⟨rfl,m1⟩;have bU:=aq m1;clear m1 HG;go_wp2_with fail;refine(wu.o w1).mono ?_;rintro e w2 ⟨rfl,m2⟩;have bP:=aq (bU.o.trans m2);clear m2 bU wu;have y1:=(HK.o w2 bP.o).1;go_wp2_with fail;refine(Cd.o w2 bP.o).mono ?_;rintro e w3 ⟨rfl,m3⟩;exact⟨rfl,HD.o w3 (bP.o.trans m3)⟩
 ·have wu:=aq (λw'=>A8 w' a.rb a.mb (s.r.aD 1) h1);have HP:ah (nR s=(2,s)):=by unfold nR ah;rw[iP9 h1]
  rw[HP.o];have HD:ah (∀w',aa af w w'->bJ F w b a (2,s) (bG 2) w'):=λw' m=>bJ.trap (by decide) h m;clear HP h1 h ho hF;generalize((s.r.aD 1).cells a.rb a.mb).toArray=C1 at *;go_in;go_wp2_with fail;refine(HG.o w ax).mono ?_;rintro e w1 ⟨rfl,m1⟩;have bU:=aq m1;clear m1 HG;go_wp2_with fail;refine(wu.o w1).mono ?_;rintro e w2 ⟨rfl,m2⟩;exact⟨rfl,HD.o w2 (bU.o.trans m2)⟩
theorem KR(h:dX F w b a s)(ho:bT fn s)(hF:∀k,w.heap.size<=k->F k):OB F w b a s:=λw' m=>⟨acF (h.quiet m) ho,acJ (h.quiet m) ho (λk hk=>hF k (cG m.size hk)),acG (h.quiet m) ho⟩
end
set_option linter.all false
section
variable {fn : Nat} {s : aX}
theorem Ie(ho:bT fn s)(h1:(s.r.aD 1).so=1):s.t1<eJ s.ms/\zK s.gs (s.mapOf s.t1):=by
 rcases(ho.aD 1).2 with⟨e,_⟩ |⟨_,_,t,e,ht⟩ |⟨e,_⟩
 ·omega
 ·have et:s.t1=t:=by unfold aX.t1;rw[e];rfl
  rw[et];exact⟨ht,ho.maps _ (jg _ _ _ ht)⟩
 ·omega
theorem A9{gs:List tLN}{m:iK}(hm:zK gs m){key:tLN}(hf:aT m.aP key=fR):aY m.aP key<eJ gs/\(gs.getD (aY m.aP key) []).length=m.value:=by rw[vV hf];exact hm.er _ (b9 _)
theorem OP(ho:bT fn s):bT fn (pJ s).2/\(pJ s).2.ms.length=eJ s.ms:=by
 unfold pJ;split
 ·exact⟨ho,rfl⟩
 ·rename_i h1
  obtain⟨_,hm⟩:=Ie ho (by simpa using h1);split
  ·exact⟨ho,rfl⟩
  ·refine⟨ho.answer _ ?_,rfl⟩;split
   ·rename_i hf
    exact MV.Ok.ptr (A9 hm hf).1 (by decide)
   ·exact MV.Ok.num (by decide)
theorem XE(ms:List iK)(t:Nat)(ht:t<eJ ms):ms=ms.take t++ms.getD t jZ::ms.drop (t+1):=by
 rw[List.getD_eq_getElem?_getD,List.getElem?_eq_getElem ht];show ms=ms.take t++ms[t]::ms.drop (t+1)
 rw[<-cP ht,b5]
theorem acK(ms:List iK)(t:Nat)(ht:t<eJ ms)(x:iK):ms.set t x=ms.take t++x::ms.drop (t+1):=List.set_eq_take_append_cons_drop .. |>.trans (iP9 ht)
theorem BH(ms:List iK)(t:Nat)(ht:t<eJ ms):dA ms=dA (ms.take t)++((ms.getD t jZ).aP.map (·.2)++dA (ms.drop (t+1))):=by
 conv=>lhs;rw[XE ms t ht]
 unfold dA;rw[cx,cN]
theorem Gc(ms:List iK)(t:Nat)(ht:t<eJ ms)(x:iK):dA (ms.set t x)=dA (ms.take t)++(x.aP.map (·.2)++dA (ms.drop (t+1))):=by rw[acK ms t ht];unfold dA;rw[cx,cN]
theorem SY{ms:List iK}{m:iK}{e:tLN×Nat}(hm:m∈ms)(he:e∈m.aP):e.2∈dA ms:=List.mem_flatMap.2 ⟨m,hm,List.mem_map.2 ⟨e,he,rfl⟩⟩
theorem NA{m:iK}{key:tLN}(hf:aT m.aP key=fR):m.aP.map (·.2)=(m.aP.take (aL m.aP key)).map (·.2)++aY m.aP key::(m.aP.drop (aL m.aP key+1)).map (·.2):=by
 have hlt:=qx hf;rw[vV hf]
 conv=>lhs;rw[<-b5 (aL m.aP key) m.aP,cP hlt]
 rw[cI,dr]
theorem aaN(ho:bT fn s)(t:Nat)(ht:t<eJ s.ms)(key:tLN):bT fn (tC s t key).1/\(tC s t key).1.ms.length=eJ s.ms/\(tC s t key).1.gs.length=eJ s.gs:=by
 unfold tC;have hmo:zK s.gs (s.mapOf t):=ho.maps _ (jg _ _ _ ht);split
 ·rename_i hf
  have hq:=(A9 hmo hf).1;refine⟨?_,ao ..,ao ..⟩;have hnd:=ho.own;unfold Ca at hnd;have hr:=BH s.ms t ht;rw[show(s.ms.getD t jZ)=s.mapOf t from rfl,NA hf]at hr;have hr2:=Gc s.ms t ht {s.mapOf t with aP:=(s.mapOf t).aP.take (aL (s.mapOf t).aP key)++(s.mapOf t).aP.drop (aL (s.mapOf t).aP key+1)};rw[show({s.mapOf t with aP:=(s.mapOf t).aP.take (aL (s.mapOf t).aP key)++(s.mapOf t).aP.drop (aL (s.mapOf t).aP key+1)}:iK).aP=(s.mapOf t).aP.take (aL (s.mapOf t).aP key)++(s.mapOf t).aP.drop (aL (s.mapOf t).aP key+1)from rfl,cI]at hr2;have hsub:(dA (s.ms.set t {s.mapOf t with aP:=(s.mapOf t).aP.take (aL (s.mapOf t).aP key)++(s.mapOf t).aP.drop (aL (s.mapOf t).aP key+1)})).Sublist (dA s.ms):=by rw[hr,hr2];refine List.Sublist.append (List.Sublist.refl _) (List.Sublist.append (List.Sublist.append (List.Sublist.refl _) (List.sublist_cons_self _ _)) (List.Sublist.refl _))
  have hnq:aY (s.mapOf t).aP key ∉ dA (s.ms.set t {s.mapOf t with aP:=(s.mapOf t).aP.take (aL (s.mapOf t).aP key)++(s.mapOf t).aP.drop (aL (s.mapOf t).aP key+1)}):=by
   have h2:=(List.nodup_append.1 (List.nodup_cons.1 hnd).2).2.1;rw[hr]at h2;rw[hr2];have hp:(dA (s.ms.take t)++((((s.mapOf t).aP.take (aL (s.mapOf t).aP key)).map (·.2)++aY (s.mapOf t).aP key::((s.mapOf t).aP.drop (aL (s.mapOf t).aP key+1)).map (·.2))++dA (s.ms.drop (t+1)))).Perm (aY (s.mapOf t).aP key::(dA (s.ms.take t)++((((s.mapOf t).aP.take (aL (s.mapOf t).aP key)).map (·.2)++((s.mapOf t).aP.drop (aL (s.mapOf t).aP key+1)).map (·.2))++dA (s.ms.drop (t+1))))):=by simp only[bj,eI];exact(List.Perm.append_left _ cw).trans cw
   exact(List.nodup_cons.1 (hp.nodup_iff.1 h2)).1
  refine⟨ho.pos,ho.deep,λf hf2=>?_,λg hg=>?_,?_,ho.log,λm hm=>?_,?_⟩
  ·show Kz fn (eJ (s.gs.set _ [])) (eJ (s.ms.set _ _)) f
   rw[ao,ao];exact ho.Oy f hf2
  ·rcases ba hg with hg|rfl
   ·exact ho.gs g hg
   ·exact⟨eE _,λ_ h=>by cases h⟩
  ·show s.r.inp<eJ (s.gs.set _ [])
   rw[ao];exact ho.inp
  ·have aga:∀e∈m.aP,e.2≠aY (s.mapOf t).aP key:=λe he h=>hnq (h ▸ SY hm he);have fit:∀m0:iK,zK s.gs m0->m0.key=m.key->m0.value=m.value->m0.most=m.most->m.aP.Sublist m0.aP->zK (s.gs.set (aY (s.mapOf t).aP key) []) m:=λm0 h0 e1 e2 e3 hs=>⟨e1 ▸ h0.key,e2 ▸ h0.val,e3 ▸ h0.most,e3 ▸ cG hs.length_le h0.len,λe he=>e1 ▸ h0.ek e (hs.subset he),λe he=>by have:=h0.er e (hs.subset he);rw[ao,FZ _ _ _ _ hq,iN9 (aga e he),<-e2];exact this,h0.srt.sublist hs⟩
   rcases ba hm with hm2|rfl
   ·exact fit m (ho.maps m hm2) rfl rfl rfl (List.Sublist.refl _)
   ·refine fit (s.mapOf t) hmo rfl rfl rfl ?_;show((s.mapOf t).aP.take (aL (s.mapOf t).aP key)++(s.mapOf t).aP.drop (aL (s.mapOf t).aP key+1)).Sublist (s.mapOf t).aP
    conv=>rhs;rw[<-b5 (aL (s.mapOf t).aP key) (s.mapOf t).aP]
    refine List.Sublist.append (List.Sublist.refl _) ?_;rw[<-List.drop_drop];exact eC _ _
  ·exact List.Nodup.sublist (List.Sublist.cons₂ _ (List.Sublist.append (List.Sublist.refl _) hsub)) hnd
 ·exact⟨ho,rfl,rfl⟩
theorem OQ(ho:bT fn s):bT fn (oh s).2/\(oh s).2.ms.length=eJ s.ms:=by
 unfold oh;split
 ·exact⟨ho,rfl⟩
 ·rename_i h1
  obtain⟨ht,hm⟩:=Ie ho (by simpa using h1);split
  ·exact⟨ho,rfl⟩
  ·obtain⟨g1,g2,g3⟩:=aaN ho s.t1 ht (aS s.gs (s.r.aD 2) (s.mapOf s.t1).key);exact⟨g1.answer _ (MV.Ok.num (by split<;>decide)),g2⟩
end
set_option linter.all false
theorem Em:∀a b:tLN,ltNs a b=fR\/a=b\/ltNs b a=fR
 |[],[]=>.inr (.inl rfl)
 |[],_::_=>.inl rfl
 |_::_,[]=>.inr (.inr rfl)
 |x::a,y::b=>by
  unfold ltNs;by_cases h1:x<y
  ·rw[iP9 h1];exact .inl rfl
  ·rw[iN9 h1];by_cases h2:y<x
   ·rw[iP9 h2,iP9 h2];exact .inr (.inr rfl)
   ·rw[iN9 h2,iN9 h2,iN9 h1];obtain rfl:x=y:=by omega
    rcases Em a b with h|h|h
    ·exact .inl h
    ·exact .inr (.inl (by rw[h]))
    ·exact .inr (.inr h)
theorem XF{ks:List (tLN×Nat)}{key:tLN}(hs:ks.Pairwise (λa b=>ltNs a.1 b.1=fR))(hf:aT ks key=fj)(k:Nat)(hk:k<eJ ks)(hge:aL ks key<=k):ltNs key ks[k].1=fR:=by
 have hn:¬ltNs ks[k].1 key=fR:=λh=>by have:=(vQ ks key hs k hk).1 h;omega
 rcases Em ks[k].1 key with h|h|h
 ·exact absurd h hn
 ·exfalso;by_cases e:aL ks key=k
  ·have:aT ks key=fR:=by unfold aT;rw[e,List.getD_eq_getElem?_getD,List.getElem?_eq_getElem hk];simp[hk,h]
   rw[this]at hf;cases hf
  ·have hlt:aL ks key<eJ ks:=by omega
   have h2:=List.pairwise_iff_getElem.1 hs (aL ks key) k hlt hk (by omega);rw[h]at h2;have:=(vQ ks key hs _ hlt).1 h2;omega
 ·exact h
theorem aaO{ks:List (tLN×Nat)}{key:tLN}(q:Nat)(hs:ks.Pairwise (λa b=>ltNs a.1 b.1=fR))(hf:aT ks key=fj):(ks.take (aL ks key)++(key,q)::ks.drop (aL ks key)).Pairwise (λa b=>ltNs a.1 b.1=fR):=by
 have hle:=vR ks key;have hT:∀e∈ks.take (aL ks key),ltNs e.1 key=fR:=λe he=>by obtain⟨k,hk,rfl⟩:=dT he;rw[al]at hk;rw[ey];exact(vQ ks key hs k (by omega)).2 (by omega)
 have hD:∀e∈ks.drop (aL ks key),ltNs key e.1=fR:=λe he=>by obtain⟨k,hk,rfl⟩:=dT he;rw[ar]at hk;rw[ez];exact XF hs hf _ (by omega) (by omega)
 refine List.pairwise_append.2 ⟨hs.sublist (List.take_sublist _ _),List.pairwise_cons.2 ⟨hD,hs.sublist (eC _ _)⟩,λa ha b hb=>?_⟩;rcases List.mem_cons.1 hb with rfl|hb
 ·exact hT a ha
 ·exact yH _ _ _ (hT a ha) (hD b hb)
section
variable {fn : Nat} {s : aX}
theorem acL(ho:bT fn s):∀x∈Ca s,x<eJ s.gs:=λx hx=>by
 unfold Ca at hx;rcases List.mem_cons.1 hx with rfl|hx
 ·exact ho.inp
 ·rcases List.mem_append.1 hx with hx|hx
  ·obtain⟨f,hf,rfl⟩:=List.mem_map.1 hx;exact(ho.Oy f hf).oJ
  ·obtain⟨m,hm,hx⟩:=List.mem_flatMap.1 hx;obtain⟨e,he,rfl⟩:=List.mem_map.1 hx;exact((ho.maps m hm).er e he).1
theorem aaP(ho:bT fn s)(t:Nat)(ht:t<eJ s.ms)(key val:tLN)(hk:eJ key=(s.mapOf t).key/\∀b∈key,b<256)(hv:eJ val=(s.mapOf t).value/\∀b∈val,b<256):bT fn (lJ s t key val).1/\(lJ s t key val).1.ms.length=eJ s.ms:=by
 have hmo:zK s.gs (s.mapOf t):=ho.maps _ (jg _ _ _ ht);have af9:=hmo.val;unfold lJ;split
 ·rename_i hf
  obtain⟨hq,hl⟩:=A9 hmo hf;exact⟨ho.acq _ hq val ⟨by omega,hv.2⟩ (λm hm e he _=>by rw[hl,hv.1]),rfl⟩
 ·rename_i hf
  have hf':aT (s.mapOf t).aP key=fj:=by simpa using hf
  split
  ·exact⟨ho,rfl⟩
  ·rename_i agl
   refine⟨?_,ao ..⟩;have hlen:((s.mapOf t).aP.take (aL (s.mapOf t).aP key)++(key,eJ s.gs)::(s.mapOf t).aP.drop (aL (s.mapOf t).aP key)).length=eJ (s.mapOf t).aP+1:=by have:=vR (s.mapOf t).aP key;rw[ab,cY,al,ar];omega
   refine⟨ho.pos,ho.deep,λf hf2=>?_,λg hg=>?_,?_,ho.log,λm hm=>?_,?_⟩
   ·show Kz fn (eJ (s.gs++[val])) (eJ (s.ms.set _ _)) f
    rw[ao];exact(ho.Oy f hf2).grow (by rw[ab];omega)
   ·rcases List.mem_append.1 hg with hg|hg
    ·exact ho.gs g hg
    ·rw[List.mem_singleton.1 hg];exact⟨by omega,hv.2⟩
   ·show s.r.inp<eJ (s.gs++[val])
    rw[ab];exact Nat.lt_of_lt_of_le ho.inp (Nat.le_add_right _ _)
   ·rcases ba hm with hm2|rfl
    ·exact(ho.maps m hm2).grow val
    ·have hg:=hmo.grow val;refine⟨hg.key,hg.val,hg.most,?_,λe he=>?_,λe he=>?_,aaO _ hmo.srt hf'⟩
     ·show _<=(s.mapOf t).most
      rw[hlen];have:=hmo.len;omega
     ·rcases List.mem_append.1 he with he|he
      ·exact hg.ek e (cH he)
      ·rcases List.mem_cons.1 he with rfl|he
       ·exact hk
       ·exact hg.ek e (cq he)
     ·rcases List.mem_append.1 he with he|he
      ·exact hg.er e (cH he)
      ·rcases List.mem_cons.1 he with rfl|he
       ·refine⟨by rw[ab];exact Nat.lt_succ_self _,?_⟩;show((s.gs++[val]).getD (eJ s.gs) []).length=(s.mapOf t).value
        rw[dW,iN9 (dt _),iP9 rfl];exact hv.1
       ·exact hg.er e (cq he)
   ·have hnew:eJ s.gs ∉ Ca s:=λh=>dt _ (acL ho _ h)
    have hp:(dA (s.ms.set t {s.mapOf t with aP:=(s.mapOf t).aP.take (aL (s.mapOf t).aP key)++(key,eJ s.gs)::(s.mapOf t).aP.drop (aL (s.mapOf t).aP key)})).Perm (eJ s.gs::dA s.ms):=by
     rw[Gc s.ms t ht,BH s.ms t ht];show(dA (s.ms.take t)++(((s.mapOf t).aP.take (aL (s.mapOf t).aP key)++(key,eJ s.gs)::(s.mapOf t).aP.drop (aL (s.mapOf t).aP key)).map (·.2)++dA (s.ms.drop (t+1)))).Perm (eJ s.gs::(dA (s.ms.take t)++((s.mapOf t).aP.map (·.2)++dA (s.ms.drop (t+1)))))
     have e0:(s.mapOf t).aP.map (·.2)=((s.mapOf t).aP.take (aL (s.mapOf t).aP key)).map (·.2)++((s.mapOf t).aP.drop (aL (s.mapOf t).aP key)).map (·.2):=by rw[<-cI,b5]
     rw[e0,cI,dr];simp only[bj,eI];exact(List.Perm.append_left _ cw).trans cw
    show(s.r.inp::(s.r.calls.map (·.oJ)++dA (s.ms.set t _))).Nodup
    have hp2:(s.r.inp::(s.r.calls.map (·.oJ)++dA (s.ms.set t {s.mapOf t with aP:=(s.mapOf t).aP.take (aL (s.mapOf t).aP key)++(key,eJ s.gs)::(s.mapOf t).aP.drop (aL (s.mapOf t).aP key)}))).Perm (eJ s.gs::Ca s) :=
     ((List.Perm.cons _ ((List.Perm.append_left _ hp).trans cw)).trans (List.Perm.swap _ _ _))
    exact hp2.nodup_iff.2 (List.nodup_cons.2 ⟨hnew,ho.own⟩)
theorem OT(ho:bT fn s):bT fn (nR s).2/\(nR s).2.ms.length=eJ s.ms:=by
 unfold nR;split
 ·exact⟨ho,rfl⟩
 ·rename_i h1
  obtain⟨ht,hm⟩:=Ie ho (by simpa using h1);split
  ·exact⟨ho,rfl⟩
  ·rename_i hT
   split
   ·exact⟨ho,rfl⟩
   ·rename_i YG
    obtain⟨g1,g2⟩:=aaP ho s.t1 ht (aS s.gs (s.r.aD 2) (s.mapOf s.t1).key) (aS s.gs (s.r.aD 3) (s.mapOf s.t1).value) ⟨vW (ho.aD 2).pt (by simpa using hT),kP ho.gs _ _⟩ ⟨vW (ho.aD 3).pt (by simpa using YG),kP ho.gs _ _⟩;exact⟨g1.answer _ (MV.Ok.num (by split<;>decide)),g2⟩
theorem Ig(ho:bT fn s):Ef fn s:=⟨(OP ho).1,(OT ho).1,(OQ ho).1,(OP ho).2,(OT ho).2,(OQ ho).2⟩
end
def BK(l:List tLB):tLV:=l.map (λs=>Value.string (T s))
theorem S9(l:List tLB)(s:tLB):BK (l++[s])=BK l++[eR (T s)]:=by simp[BK]
structure vX(w0 w:tW)(v:fa)(l:List tLB):Prop where
 sl:Sl w 9 1 v (eJ l) (BK l)
 lo:∀k,v.ownBlock=eK k->w0.heap.size<=k
 md:aa af w0 w
theorem vX.nil{w0 w:tW}(m:aa af w0 w):vX w0 w (vN) []:=⟨Sl.nil _ _ _,λk h=>(by cases h),m⟩
theorem vX.quiet{w0 w w':tW}{v:fa}{l:List tLB}(h:vX w0 w v l)(m:aa af w w'):vX w0 w' v l:=⟨h.sl.ai m (λ_ _=>id),h.lo,h.md.trans m⟩
theorem vX.app{w0 w w':tW}{v v':fa}{l:List tLB}{s:tLB}(h:vX w0 w v l)(hs:Sl w' 9 1 v' (eJ l+1) (BK l++[eR (T s)]))(m:aa (λk=>v.ownBlock=eK k) w w')(hl:∀k,v'.ownBlock=eK k->v.ownBlock=eK k\/w.heap.size<=k):vX w0 w' v' (l++[s]):=by
 refine⟨?_,λk hk=>?_,h.md.step m (λi hi e=>by have:=h.lo i e;omega)⟩
 ·rw[S9,ab];exact hs
 ·rcases hl k hk with e|e
  ·exact h.lo k e
  ·have:=h.md.size;omega
theorem vX.view{w0 w:tW}{v:fa}{l:List tLB}(h:vX w0 w v l):∃o cap,v=eS o (eJ l) cap/\(0<eJ l->∃g cs,o=eK ⟨g,0,eL⟩/\au w g cs 9/\(∀k (h:k<eJ l),cs[k]?=eK (eR (T l[k])))/\∀k (h:k<eJ l),w.cell? ⟨g,k,eL⟩=eK (eR (T l[k]))):=by
 obtain⟨o,cap,hv,h2⟩:=h.sl.view;refine⟨o,cap,hv,λhp=>?_⟩;obtain⟨g,cs,rfl,hb,ht,_⟩:=h2 hp;have key:∀k (h:k<eJ l),w.cell? ⟨g,k,eL⟩=eK (eR (T l[k])):=λk hk=>by rw[aV hb ht k (by omega)];simp[BK,hk]
 refine⟨g,cs,rfl,hb,λk hk=>?_,key⟩;have:=key k hk
 rwa [hb.cell]at this
theorem si{w w':tW}{a:kh}{v:fa}(m:aa af w w')(h:w.cell? a=eK v):w'.cell? a=eK v:=by
 have hl:a.block<w.heap.size:=by
  unfold World.cell? at h;cases hq:w.heap[a.block]? with
  |none=>rw[hq]at h;simp at h
  |some x=>exact(Array.getElem?_eq_some_iff.1 hq).1
 unfold World.cell? at h ⊢;rw[m.block a.block hl id];exact h
theorem Ta(w:tW)(o:Option kh)(cap:Nat)(texts bO:List tLB)(img:tLB)(hlen:eJ bO=eJ texts)(hn:eJ texts<=8)(PP:Nat->tW->Prop)(hb:0<eJ texts->∃g off,o=eK ⟨g,off,eL⟩/\∀k (h:k<eJ texts),w.cell? ⟨g,off+k,eL⟩=eK (eR (T texts[k])))(HAS:ah (∀w1 k (h:k<eJ texts) (h':k<eJ bO),aa af w w1->fS prog 18 #[eR (T texts[k])] w1 λe w'=>(∃n:Nat,e=fW (jl #[eR (T bO[k]),vI 0,vI n]))/\aa af w1 w'))(HLI:ah (∀w1 v,vX w w1 v bO->fS prog 19 #[v] w1 λe w'=>(∃a:Int,e=fW (jl #[eR (T img),vI 0,vI a]))/\aa af w1 w'))(ZD:ah (∀w1,aa af w w1->fS prog 16 #[eR (T img)] w1 λe w'=>∃sb,e=fW (jl #[pt sb,vI 0])/\PP sb w')):fS prog 10 #[eS o (eJ texts) cap] w λe w'=>∃sb,e=fW (pt sb)/\PP sb w':=by
 obtain⟨iS,hiS,hzS,hsS,hbS⟩:=oY Uu;have HB:=aq hb;clear hb;obtain⟨n,hnn⟩:∃n,n=eJ texts:=⟨_,rfl⟩
 have EG:=aq hnn;have xC:=aq (hlen.trans hnn.symm);have hn':n<=8:=by rw[hnn];exact hn
 rw[<-hnn];clear hnn hn hlen;go_in;go_upto_block 0 with fail;go_cut [3] (λv wx=>vX w wx v bO)
 case first =>
  go_wp2_with fail;go_loopg [3,4] 8 (λq v iv wx=>∃(k:Nat),iv=vI k/\vX w wx v (bO.take k)/\k<=n/\q=8-k)
  case atStart=>exact⟨0,rfl,vX.nil ax,eE _,rfl⟩
  case round =>
   obtain⟨k,rfl,hS,hkn,rfl⟩:=hrel;have hlk:eJ (bO.take k)=k:=by rw[al,xC.o];omega
   obtain⟨o1,c1,rfl,_⟩:=hS.view;rw[hlk]at hS;rw[hlk];have HS:=aq hS;clear hS;by_cases hlt:k<n
   ·have hko:k<eJ texts:=by rw[<-EG.o];exact hlt
    have hkp:k<eJ bO:=by rw[xC.o];exact hlt
    obtain⟨g,off,rfl,hcl⟩:=HB.o (by omega);have l1:=si HS.o.md (hcl k hko);have HA:=HAS.o wr k hko hkp HS.o.md;have MK:=aq (List.take_succ_eq_append_getElem hkp);clear hcl;generalize T texts[k]=sk at *;generalize bO[k]=ok at *;go_wp2_with fail;refine HA.mono ?_;rintro e w2 ⟨⟨a,rfl⟩,m2⟩;have HS2:=aq (HS.o.quiet m2);clear HA HS m2 l1;have NY:ah (vX w (w2.alloc (fL #[eR (T ok)] 9)) (eS o1 k c1) (bO.take k)):=HS2.o.quiet aw;have hsl:Sl (w2.alloc (fL #[eR (T ok)] 9)) 9 1 (eS o1 k c1) k (BK (bO.take k)):=by have:=NY.o.sl;rw[hlk]at this;exact this
    have Bl:=aq hsl;clear hsl;go_wp2_with (at_builtin;refine aQ _ rfl (.tmp 30) (.tmp 32) 24 rfl 9 iS (eR ByteArray.empty) 1 16 underlying24 hiS hzS hsS hbS rfl (by decide) (eS o1 k c1) k (BK (bO.take k)) rfl Bl.o ⟨w2.heap.size,0,eL⟩ 1 1 (#[eR (T ok)]:tAV).toList rfl rfl (bH w2 #[eR (T ok)] 9 _ rfl) (by simp[Value.oneCell']) (by unfold jz;omega) (by omega) ?_;intro v5 w5 s5 m5 l5;obtain⟨o5,c5,hv5,_⟩:=s5.view;subst hv5);have IB:ah (vX w w5 (eS o5 (k+1) c5) (bO.take (k+1))):=by unfold ah;rw[MK.o];exact NY.o.app (by rw[hlk];exact s5) m5 l5
    clear s5 m5 l5 NY HS2 Bl;go_roundg (8-(k+1))
    case measure=>omega
    case rel=>exact⟨k+1,by go_num,IB.o,by omega,rfl⟩
   ·have hkk:k=n:=by omega
    have HE:ah (bO.take k=bO):=bt (by rw[xC.o];omega);rw[HE.o]at HS;go_wp2_with fail;go_meet;exact HS.o
 case rest =>
 have hS:vX w wc _ bO:=hcut;obtain⟨o1,c1,rfl,_⟩:=hS.view;have HL:=aq (HLI.o wc _ hS);have kV:=aq hS.md;clear hS hcut HLI HAS HB;go_wp2_with fail;refine HL.o.mono ?_;rintro e w2 ⟨⟨a,rfl⟩,m2⟩;have HLD:=aq (ZD.o w2 (kV.o.trans m2));clear HL ZD m2;go_wp2_with fail;refine HLD.o.mono ?_;rintro e w3 ⟨sb,rfl,hP⟩;have HP:=aq hP;clear hP HLD;go_wp2_with fail;go_ret;exact⟨sb,rfl,HP.o⟩
def KS(t:tLB):BS:=match parseP (linesP t) fj 0 []with
 |.inl ls=>aR (aj ls) ls
 |.inr _=>{}
def aaQ(t:tLB):Nat:=match parseP (linesP t) fj 0 []with
 |.inl ls=>(firstP (aj ls) ls {} 0).1
 |.inr _=>1
theorem aaR{t o:tLB}(hl:¬4000<eJ t)(h1:aaQ t=0)(h2:eJ (KS t).ms=0)(h3:eJ (KS t).fs=1)(h4:Ki [] (KS t).fs=o){s:tBA}{c n:Nat}(h:zG t s c n):s=T o/\c=0:=by
 unfold KS at h2 h3 h4;unfold aaQ at h1;unfold zG at h;rw[iN9 hl]at h;cases hp:parseP (linesP t) fj 0 []with
 |inr k=>rw[hp]at h1;cases h1
 |inl ls =>
  rw[hp]at h h1 h2 h3 h4;dsimp only at h h1 h2 h3 h4;rw[iP9 h1]at h;obtain⟨hc,_,ms,fs,pm,_,pf,_,rfl⟩:=h;have e1:ms=[]:=by have:=pm.length_eq;rw[h2]at this;exact List.length_eq_zero_iff.1 this
  obtain⟨f,hf⟩:=List.length_eq_one_iff.1 h3;rw[hf]at pf h4;rw[e1,List.perm_singleton.1 pf,h4];exact⟨rfl,hc⟩
def TJ:tLB:=[102,117,110,99,32,102,10,109,111,118,32,114,48,44,32,50,10,109,117,108,32,114,48,44,32,50,49,10,101,120,105,116]
def awO:tLB:=Ki [] (KS TJ).fs
def Ih:List bz:=[⟨[102],[⟨2,0,0,0,2,0,[]⟩,⟨14,0,0,0,21,0,[]⟩,⟨87,0,0,0,0,0,[]⟩]⟩]
theorem acM{s:tBA}{c n:Nat}(h:zG TJ s c n):s=T awO/\c=0:=aaR (by decide) (by decide +kernel) (by decide +kernel) (by decide +kernel) rfl h
def xM(c:Int)(n:Nat):Nat:=(if c<0 then(-(c+1))%(n:Int)else c%(n:Int)).toNat
theorem XG(c:Int)(n:Nat)(hn:0<n):xM c n<n:=by
 unfold xM;split
 ·have:=eo (-(c+1)) (show(0:Int)<n by omega);have:=cJ (-(c+1)) (show(n:Int)≠0 by omega);omega
 ·have:=eo c (show(0:Int)<n by omega);have:=cJ c (show(n:Int)≠0 by omega);omega
theorem Tc(w:tW)(c:Int)(n:Nat)(h0:-9223372036854775808<=c)(h1:c<=9223372036854775807)(hn:0<n)(hn8:n<=1073741824):fS prog 9 #[vI c,vI n] w λe w'=>e=fW (vI (xM c n))/\w'=w:=by
 by_cases hc:c<0
 ·have e:((xM c n:Nat):Int)=-((c+1).tmod n):=by unfold xM;rw[iP9 hc,<-Int.neg_tmod,Int.tmod_eq_emod_of_nonneg (by omega)];exact ee (cJ _ (by omega))
  have HE:=aq e;clear e;generalize xM c n=r at *;go_in;go_wp2_with fail;go_ret;exact⟨by rw[HE.o];rfl,rfl⟩
 ·have e:((xM c n:Nat):Int)=c%n:=by unfold xM;rw[iN9 hc];exact ee (cJ _ (by omega))
  have HE:=aq e;clear e;generalize xM c n=r at *;go_in;go_wp2_with fail;go_ret;exact⟨by rw[HE.o];rfl,rfl⟩
