import Derived.Test.YtmajaohgiilelaaGreatDoorC20
namespace Go.Proofs.YtmajaohgiilelaaGreatDoor
open Go.RowKit Tryz
open List renaming take_zero->bh,size_toArray->bj,getElem_mem->bt
open Nat renaming le_succ_of_le->ar,zero_le->ba
open Option renaming getD_some->an,isSome_some->ao
set_option linter.all false
set_option maxRecDepth 100000
set_option maxHeartbeats 4000000
theorem aia{P:Program}(w:tW)(g off:Nat)(ty:TypeId)(cs:tAV)(d:TypeDesc)(hc:∀j (h:j<cs.size),w.cell? ⟨g,off+j,none⟩=some cs[j])(hu:P.underlying ty=some d) (hd:(match (generalizing:=false) d with|.struct _|.array _ _=>true|_=>false)=true) (hi:(P.info? ty).map (·.size)=some cs.size):(loadVar ty ⟨g,off,none⟩).run P w=.ok (.agg cs) w:=by
 have hl:(loadCells ⟨g,off,none⟩ cs.toList.length).run P w=.ok cs.toList.toArray w :=
  run_loadCells_list (P:=P) w ⟨g,off,none⟩ cs.toList (λj v hv=>by
   have hadd:(⟨g,off,none⟩:Addr).add j=⟨g,off+j,none⟩:=by unfold Addr.add;split<;>simp_all
   obtain⟨hj,hv⟩:=List.getElem?_eq_some_iff.1 hv;rw[hadd,hc j (by simpa using hj)]
   simpa using hv)
 cases hq:P.info? ty with
 |none=>simp[hq]at hi
 |some i =>
  have hs:i.size=cs.size:=by simpa [hq]using hi
  have hagg:(isAgg ty).run P w=.ok true w:=by unfold isAgg;rw[Sem.run_bind,run_underlying hu w];cases d<;>simp_all
  simp only[Array.length_toList,Array.toArray_toList]at hl;simp[loadVar,Sem.run_bind,hagg,sizeOf,typeInfo,hq,hs,hl]
theorem dR{P:Program}{ops:Array Oper}{rest:List Oper}{o:Oper}{a:Act}{w:tW}{Q:Exit->Act->tW->Prop}(hgd:o.guard=none)(ty:TypeId)(x:Operand)(ho:o.op=.load ty x)(g off:Nat) (hx:a.eval x=.pointer (some ⟨g,off,none⟩)) (cs:tAV) (d:TypeDesc) (hc:∀j (h:j<cs.size),w.cell? ⟨g,off+j,none⟩=some cs[j])(hu:P.underlying ty=some d) (hd:(match (generalizing:=false) d with|.struct _|.array _ _=>true|_=>false)=true) (hi:(P.info? ty).map (·.size)=some cs.size)(h:wpList P ops Q rest (a.put o.dst (.agg cs)) w):wpList P ops Q (o::rest) a w :=
 wpList_plain hgd λ_ hK=>by unfold Oper.wp execOp;simp only[ho,hx,Instr.loadAt,Instr.sureAddr,Sem.run_bind,Sem.run_pure,Result.andThen_ok,aia w g off ty cs d hc hu hd hi];exact hK _ _ h
theorem ed.row{w0 w:tW}{v:Value}{bs:List Nat}{ls:List bV}(h:ed w0 v bs ls w)(k:Nat)(hk:k<ls.length):∃g c,v=.slice (some ⟨g,0,none⟩) ls.length c/\ls.length<=c/\∀w',aa af w w'->∀j (hj:j<(ls[k].cells bs).size),w'.cell? ⟨g,k*20+j,none⟩=some (ls[k].cells bs)[j]:=by obtain⟨o,c,hv,hb⟩:=h.sl.view;obtain⟨g,cs,rfl,hb,ht,hc,_⟩:=hb (by omega);refine⟨g,c,hv,hc,λw' m j hj=>?_⟩;have hs:=iE bs ls[k];rw[bA (hb.ah m id) ht (k*20+j) (by omega),flat_get (λx:bV=>(x.cells bs).toList) 20 (λx=>by simp[iE]) ls k j hk (by omega)];simp[hj]
theorem py(bs:List Nat)(x:bV)(h:x.kind≠4):(x.cells bs)[1]?=some (.string (T x.name)):=by unfold bV.cells;rw[iN9 h];rfl
theorem We(bs:List Nat)(x:bV)(h:x.kind=4):(x.cells bs)[11]?=some (.pointer (some ⟨bs[x.x.k]?.getD 0,0,none⟩)):=by unfold bV.cells;rw[iP9 h];rfl
theorem aae:∀o∈ax,o.slots<=2:=by
 have:ax.all (λo=>decide (o.slots<=2))=true:=by decide +kernel
 intro o ho
 simpa using List.all_eq_true.1 this o ho
theorem bH.yh(x:bH):x.o.slots<=2:=by
 unfold bH.o;cases h:ax[x.k]? with
 |none=>exact ba _
 |some o=>exact aae o (List.mem_of_getElem? h)
theorem KT{o:OL}(h:o.fs≠[]):o.last∈o.fs:=by obtain⟨h1,h2⟩:=px h;rw[h2];exact bt h1
theorem zI{o:OL}{f:pR}{n:Nat}(h:∀g∈o.fs,g.slots<=n)(hf:f.slots<=n):∀g∈(o.dx f).fs,g.slots<=n:=by
 intro g hg;rcases List.mem_or_eq_of_mem_set hg with h1|rfl
 ·exact h g h1
 ·exact hf
theorem tF{o:OL}{n:Nat}(h:∀g∈o.fs,g.slots<=n):o.last.slots<=n:=by
 by_cases e:o.fs=[]
 ·unfold OL.last;rw[e];exact ba _
 ·exact h _ (KT e)
theorem jW(ls:List bV):∀k,k<=ls.length->(∀f∈(ai (ls.take k)).fs,f.slots<=2*k)/\(ai (ls.take k)).fs.length<=k
 |0,_=>by rw[bh];exact⟨λf hf=>(by cases hf),Nat.le_refl _⟩
 |k+1,h=>by
  obtain⟨h1,h2⟩:=jW ls k (by omega);rw[gy ls k (by omega)];generalize ai (ls.take k)=o at *;generalize ls[k]=x;have h3:∀f∈o.fs,f.slots<=2*(k+1):=λf hf=>by have:=h1 f hf;omega
  have h4:=tF h1;unfold bG;split
  ·exact⟨h3,by simpa using ar h2⟩
  split
  ·refine⟨λf hf=>?_,by simpa using h2⟩;rcases List.mem_append.1 hf with h5|h5
   ·exact h3 f h5
   ·have:f={}:=by simpa using h5
    subst this;exact ba _
  split
  ·refine⟨zI h3 ?_,by simp[OL.dx];omega⟩;unfold pR.label;split
   ·omega
   ·show o.last.slots<=_;omega
  split
  ·refine⟨zI h3 ?_,by simp[OL.dx];omega⟩;have:=x.x.yh;show o.last.slots+x.x.o.slots<=_;omega
  ·exact⟨h3,by omega⟩
theorem zJ(ls:List bV):∀k,k<=ls.length->(ai (ls.take k)).maps.length<=k
 |0,_=>by rw[bh];exact Nat.le_refl _
 |k+1,h=>by
  have ih:=zJ ls k (by omega);rw[gy ls k (by omega)];generalize ai (ls.take k)=o at *;generalize ls[k]=x;unfold bG;split
  ·simpa using ih
  split
  ·exact ar ih
  split
  ·exact ar ih
  split
  ·exact ar ih
  ·exact ar ih
theorem dQ.tH{w0 w:tW}{bm:Nat}{oF:Option Addr}{cF:Nat}{lb:List Nat}{o:OL}(h:dQ w0 bm (.slice oF o.fs.length cF) lb o w)(hne:o.fs≠[]):∃g,oF=some ⟨g,0,none⟩/\o.fs.length<=cF/\∀w',aa af w w'->∀j (hj:j<(lL (lb[o.fs.length-1]?.getD 0) o.last).toArray.size),w'.cell? ⟨g,(o.fs.length-1)*3+j,none⟩=some (lL (lb[o.fs.length-1]?.getD 0) o.last).toArray[j]:=by
 obtain⟨hl,hg⟩:=px hne;obtain⟨o',c',hv,hb⟩:=h.sl.view;injection hv with e1 e2 e3;subst e1 e3;obtain⟨g,cs,rfl,hb,ht,hc,_⟩:=hb (by omega);refine⟨g,rfl,hc,λw' m j hj=>?_⟩;have hz:o.fs.length-1<(lb.zip o.fs).length:=by rw[List.length_zip,h.len];omega
 have hj':j<3:=hj;have hlb:o.fs.length-1<lb.length:=by rw[h.len];exact hl
 rw[bA (hb.ah m id) ht ((o.fs.length-1)*3+j) (by omega),jq,flat_get (λx:Nat×pR=>lL x.1 x.2) 3 (λ_=>rfl) (lb.zip o.fs) (o.fs.length-1) j hz hj'];rw[List.getElem_zip,List.getElem?_eq_getElem hlb,<-hg];simp only[an,List.getElem_toArray];rw[List.getElem?_eq_getElem]
theorem dQ.keep{w0 w w':tW}{bm A:Nat}{vF:Value}{lb:List Nat}{o:OL}{cs:tAV}{t:TypeId}(h:dQ w0 bm vF lb o w)(hA:aq w A cs t)(ht:124≠t)(hlo:w0.heap.size<=A)(m:aa (Only A) w w'):dQ w0 bm vF lb o w':=by
 refine⟨h.len,?_,h.sl.ah m (λk hk e=>?_),λi hi=>MapOf.ah (h.aP i hi) m (λe=>?_),h.nd,h.lo,h.own,h.md.step m (λi hi e=>by have:i=A:=e;omega)⟩
 ·exact h.maps.ah m (λe=>h.maps.az hA (show bm=A from e).symm)
 ·have e':k=A:=e;exact h.sl.az hA ht (by rw[hk,e'])
 ·exact MapOf.az (h.aP i hi) hA (show _=A from e).symm
structure lh(w0:tW)(R A bm:Nat)(vF:Value)(lb:List Nat)(o:OL)(w:tW):Prop where
 res:aq w R #[.map none,.slice none 0 0] 77
 all:aq w A #[.map (some bm),vF] 77
 dW:dQ w0 bm vF lb o w
 lt:w0.heap.size<=A/\w0.heap.size<=R/\R≠A
section
variable {w0 w w' : World} {R A bm : Nat} {vF : Value} {lb : List Nat} {o : OL}
theorem lh.quiet(h:lh w0 R A bm vF lb o w)(m:aa af w w'):lh w0 R A bm vF lb o w':=⟨h.res.ah m id,h.all.ah m id,h.dW.quiet m,h.lt⟩
theorem lh.map{x:tLB}(h:lh w0 R A bm vF lb o w)(hc:eD w' bm (x::o.maps))(m:aa (λk=>k=bm) w w'):lh w0 R A bm vF lb {o with maps:=x::o.maps} w' :=
 ⟨h.res.ah m (λe=>h.dW.maps.az h.res e),h.all.ah m (λe=>h.dW.maps.az h.all e),h.dW.map hc m,h.lt⟩
theorem lh.func{bN:Nat}{Ns:Value}(h:lh w0 R A bm vF lb o w)(hN:jo w bN [])(hlo:w0.heap.size<=bN)(hnew:bN ∉ bm::lb)(s:Sl w' 124 3 Ns (o.fs.length+1) (jq lb o.fs++lL bN ({}:pR))) (m:aa (λk=>vF.ownBlock=some k) w w') (lv:∀k,Ns.ownBlock=some k->vF.ownBlock=some k\/w.heap.size<=k):lh w0 R A bm Ns (lb++[bN]) {o with fs:=o.fs++[({}:pR)]} (w'.setCell ⟨A,1,none⟩ Ns):=by have h1:=h.dW.func hN hlo hnew s m lv;have hA:=h.all.ah m (λe=>h.dW.sl.az h.all (by decide) e);have hR:=h.res.ah m (λe=>h.dW.sl.az h.res (by decide) e);refine⟨hR.setOther (a:=⟨A,1,none⟩) h.lt.2.2.symm _,?_,h1.keep hA (by decide) h.lt.1 ((aa.refl _ _).bP _ _),h.lt⟩;exact hA.set 1 Ns
theorem lh.lab{l':List (tLB×Nat)}(h:lh w0 R A bm vF lb o w)(hne:o.fs≠[])(hL:jo w' (lb[o.fs.length-1]?.getD 0) l')(m:aa (λk=>k=lb[o.fs.length-1]?.getD 0) w w'):lh w0 R A bm vF lb (o.dx {o.last with aP:=l'}) w':=by obtain⟨hl,_⟩:=px hne;have hlast:=h.dW.aP _ hl;exact⟨h.res.ah m (λe=>MapOf.az hlast h.res e),h.all.ah m (λe=>MapOf.az hlast h.all e),h.dW.lab hne hL m,h.lt⟩
theorem lh.row{g cap:Nat}{f:pR}(h:lh w0 R A bm (.slice (some ⟨g,0,none⟩) o.fs.length cap) lb o w)(hne:o.fs≠[])(hf:f.aP=o.last.aP):lh w0 R A bm (.slice (some ⟨g,0,none⟩) o.fs.length cap) lb (o.dx f) ((w.setCell ⟨g,(o.fs.length-1)*3,none⟩ (.int .i64 f.slots)).setCell ⟨g,(o.fs.length-1)*3+1,none⟩ (.bool f.ends)):=by have hA:A≠g:=λe=>h.dW.sl.az h.all (by decide) (by rw[e];rfl);have hR:R≠g:=λe=>h.dW.sl.az h.res (by decide) (by rw[e];rfl);exact⟨(h.res.setOther (a:=⟨g,_,none⟩) hR.symm _).setOther (a:=⟨g,_,none⟩) hR.symm _,(h.all.setOther (a:=⟨g,_,none⟩) hA.symm _).setOther (a:=⟨g,_,none⟩) hA.symm _,h.dW.row hne hf rfl,h.lt⟩
end
theorem KU{o:OL}(h:o.fs≠[]):o.dx o.last=o:=by obtain⟨h1,h2⟩:=px h;unfold OL.dx;rw[h2,List.set_getElem_self]
theorem dQ.aaf{w0 w:tW}{bm:Nat}{vF:Value}{lb:List Nat}{o:OL}(h:dQ w0 bm vF lb o w)(hne:o.fs≠[]):jo w (lb[o.fs.length-1]?.getD 0) o.last.aP:=by obtain⟨h1,h2⟩:=px hne;rw[h2];exact h.aP _ h1
theorem aag(w:tW):jo (w.alloc (.map #[] 0)) w.heap.size []:=⟨#[],0,[],heap_alloc_new w _,rfl,λ_=>rfl⟩
def zK(w:tW)(o:OL)(e:Ending)(w':tW):Prop:=∃bm vF lb,e=.returned (.agg #[.map (some bm),vF])/\dQ w bm vF lb o w'
theorem KV:(prog.info? 124).map (λi=>(i.zero,i.size,i.bytes))=some (some (.agg #[.int .i64 0,.bool false,.map none]),3,24):=by kernel_rfl
theorem GD(n:Nat)(cs z:tAV)(hc:cs.size=n)(hz:z.size=n):Instr.fill (λi=>some (i*n,n)) z [(0,.agg cs)]=some cs:=by
 obtain⟨l⟩:=cs;obtain⟨m⟩:=z;simp only[bj]at hc hz;have h:=DN l [] m (by omega);have hcl:(Value.agg l.toArray).cells=l.toArray:=rfl;simp only[Instr.fill,hcl,bj,hc,hz];rw[iN9 (by simp)];simp only[List.nil_append,List.length_nil]at h
 simpa using h
theorem Cx{ops:Array Oper}{rest:List Oper}{o:Oper}{a:Act}{w:tW}{Q:Exit->Act->tW->Prop}(hg:o.guard=none)(x:Operand)(ho:o.op=.buildSlice 75 1 #[(0,x)])(a0 a1 a2:Value) (hx:a.eval x=.agg #[a0,a1,a2])(h:wpList prog ops Q rest (a.put o.dst (.slice (some ⟨w.heap.size,0,none⟩) 1 1)) (w.alloc (.cells #[a0,a1,a2] 124))):wpList prog ops Q (o::rest) a w:=by obtain⟨iP,hiP,qH,hsP,vZ⟩:=info_parts KV;refine wpList_buildSlice hg 75 124 1 _ ho #[a0,a1,a2] iP _ underlying75 hiP qH (by rw[hsP];decide) (by rw[hsP];decide) ?_ h;rw[hsP];simp only[List.map_toArray,List.map_cons,List.map_nil,hx];exact GD 3 _ _ rfl (by simp)
theorem KW(wT wL w:tW)(v vL:Value)(bs:List Nat)(ls:List bV)(hO:aR 0 wT v bs ax)(m:aa af wT w)(hL:ed wL vL bs ls w)(hin:InF ls)(hk4:∀x∈ls,x.kind=4->x.x.k<ax.length)(hnl:ls.length<=1000001):Calls prog 26 #[vL] w λe w'=>zK w (ai ls) e w':=by
 have adb:ae (∀e w' bm vF lb,e=.returned (.agg #[.map (some bm),vF])->dQ w bm vF lb (ai ls) w'->zK w (ai ls) e w'):=λe w' bm vF lb h1 h2=>⟨bm,vF,lb,h1,h2⟩
 generalize zK w (ai ls)=RP at *
 have Fb:ae (∀w',aa af w w'->∀x∈ls,x.kind=4->dM w' (bs[x.x.k]?.getD 0) x.x.o):=λw' m' x hx h4=>by
  have h1:=hk4 x hx h4;have h2:x.x.k<bs.length:=by rw[hO.len];exact h1
  have:=(hO.ah (m.trans m')).at' x.x.k h2 h1;rw[List.getElem?_eq_getElem h2];unfold bH.o;rw[List.getElem?_eq_getElem h1];exact this
 have x8:=ak hL;have Ji:=ak hin;have Gx:ae (∀k,k<=ls.length->(∀f∈(ai (ls.take k)).fs,f.slots<=2*k)/\(ai (ls.take k)).fs.length<=k):=jW ls;have HMP:ae (∀k,k<=ls.length->(ai (ls.take k)).maps.length<=k):=zJ ls;have HST:ae (∀k (h:k<ls.length),ai (ls.take (k+1))=bG (ai (ls.take k)) ls[k]):=gy ls;have Jg:ae (∀k,¬k<ls.length->ai (ls.take k)=ai ls):=λk h=>by rw[List.take_of_length_le (by omega)]
 obtain⟨oL,cL,rfl,_⟩:=hL.sl.view;have hmm:=@run_makeMap prog;clear hO m hL hin hk4
 have HW0:ae (lh w w.heap.size (w.heap.size+1+1) (w.heap.size+1) (.slice none 0 0) [] {} (((w.alloc (.cells #[.map none,.slice none 0 0] 77)).alloc (.map #[] 0)).alloc (.cells #[.map (some (w.heap.size+1)),.slice none 0 0] 77))):=by
  have m1:aa af w (w.alloc (.cells #[.map none,.slice none 0 0] 77)):=(aa.refl _ _).alloc _;have h1:=dQ.new w _ m1;have hs:(w.alloc (.cells #[.map none,.slice none 0 0] 77)).heap.size=w.heap.size+1:=by simp
  rw[hs]at h1;have hs2:((w.alloc (.cells #[.map none,.slice none 0 0] 77)).alloc (.map #[] 0)).heap.size=w.heap.size+1+1:=by simp
  refine⟨((aq.new w _ _).alloc _).alloc _,?_,h1.quiet ((aa.refl _ _).alloc _),by omega⟩;have:=aq.new ((w.alloc (.cells #[.map none,.slice none 0 0] 77)).alloc (.map #[] 0)) #[.map (some (w.heap.size+1)),.slice none 0 0] 77;rw[hs2]at this;exact this
 go_enter func26,ntmps26;go_upto_region 1 with fail;go_wp2_with fail;generalize((w.alloc (.cells #[.map none,.slice none 0 0] 77)).alloc (.map #[] 0)).alloc (.cells #[.map (some (w.heap.size+1)),.slice none 0 0] 77)=w1 at *;generalize w.heap.size=R at *;generalize Qr:R+1=bm at *;generalize bm+1=A at *;clear Qr;go_loopg [15] ls.length (λq Qp wx=>∃(k:Nat) (vF:Value) (lb:List Nat),k<=ls.length/\Qp=.int .i64 k/\lh w R A bm vF lb (ai (ls.take k)) wx/\q=ls.length-k)
 case atStart=>exact⟨0,_,[],ba _,rfl,HW0.o,rfl⟩
 case round =>
  obtain⟨k,vF,lb,hk,rfl,hA,rfl⟩:=hrel;have HA:=ak hA;clear hA HW0;have hsm:=(Gx.o k hk).2;obtain⟨oF,cF,uZ,_⟩:=HA.o.dW.sl.view;subst uZ;by_cases hlt:k<ls.length
  ·obtain⟨g,cL',hv,hcl,hrow⟩:=x8.o.row k hlt;injection hv with hv1 hv2 hv3;subst hv1;have HRW:=hrow wr HA.o.dW.md;have HS:=ak (HST.o k hlt);have HI:=ak (Ji.o k hlt);have JU:ae (∀f∈(ai (ls.take k)).fs,f.slots<=2*k):=(Gx.o k hk).1;have HO4:ae (∀w',aa af w w'->ls[k].kind=4->dM w' (bs[ls[k].x.k]?.getD 0) ls[k].x.o):=λw' m'=>Fb.o w' m' ls[k] (bt hlt);have hmp:=HMP.o k hk;clear hrow HST Ji Gx Fb hv3 Jg HMP;generalize ai (ls.take k)=o at *;generalize ls[k]=x at *;have gR:ae ((x.cells bs).size=20):=iE bs x;have KS:ae ((x.cells bs)[0]?=some (.int .i64 x.kind)):=tC bs x;have yg:ae ((x.cells bs).all (·.oneCell')=true):=cells_one bs x;have Nt:ae (x.kind≠4->(x.cells bs)[1]?=some (.string (T x.name))):=py bs x;have HCO:ae (x.kind=4->(x.cells bs)[11]?=some (.pointer (some ⟨bs[x.x.k]?.getD 0,0,none⟩))):=We bs x;have HB2:ae (aq (wr.alloc (.cells (gx 0 ⟨#[]⟩ ay ay ay) 119)) wr.heap.size (gx 0 ⟨#[]⟩ ay ay ay) 119):=aq.new wr _ _;generalize x.cells bs=cs at *;go_upto_region 5 with(first |(refine dR rfl 119 (.tmp 17) rfl g (k*20) rfl cs _ HRW underlying119 rfl (by rw[gR.o];kernel_rfl) ?_) |(refine dI rfl 119 (.tmp 5) (.tmp 18) rfl wr.heap.size cs rfl rfl 119 _ HB2.o (by rw[gR.o];kernel_rfl) (by rw[gR.o];rfl) yg.o ?_;intro W3 hB3 zG))
   have kT:=ak (HA.o.quiet zG.fresh);have c0:W3.cell? ⟨wr.heap.size,0,none⟩=some (.int .i64 x.kind):=(hB3.cell 0).trans KS.o;have a0:W3.cell? ⟨A,0,none⟩=some (.map (some bm)):=kT.o.all.cell 0;have a1:W3.cell? ⟨A,1,none⟩=some (.slice oF o.fs.length cF):=kT.o.all.cell 1;have HB3:=ak hB3;have Yh:=ak HA.o.dW.md.size;clear HA HB2 HRW zG hB3;generalize wr.heap.size=B at *;have hcase:x.kind=1\/x.kind=2\/x.kind=3\/x.kind=4\/(x.kind≠1/\x.kind≠2/\x.kind≠3/\x.kind≠4):=by omega
   rcases hcase with hx|hx|hx|hx|hx
   ·have q1:((x.kind:Int)==1)=true:=by rw[hx];rfl
    have c1:W3.cell? ⟨B,1,none⟩=some (.string (T x.name)):=(HB3.o.cell 1).trans (Nt.o (by omega));have hlk:=kT.o.dW.maps.look x.name;obtain⟨w5,J7,Sr,m5⟩:=kT.o.dW.maps.put x.name;have hcn:o.maps.count x.name<=k:=Nat.le_trans List.count_le_length hmp;have xW:ae (lh w R A bm (.slice oF o.fs.length cF) lb (bG o x) w5):=by have:=kT.o.map Sr m5;unfold bG;rw[iP9 hx];exact this
    clear Sr m5 hx;generalize o.maps.count x.name=cn at *;go_wp2_with fail;go_roundg (ls.length-(k+1))
    case measure=>omega
    case rel=>exact⟨k+1,_,lb,by omega,by go_num,by rw[HS.o];exact xW.o,rfl⟩
   ·have q1:((x.kind:Int)==1)=false:=by rw[hx];rfl
    have q2:((x.kind:Int)==2)=true:=by rw[hx];rfl
    have HWN:ae (lh w R A bm (.slice oF o.fs.length cF) lb o (W3.alloc (.map #[] 0))):=kT.o.quiet ((aa.refl _ _).alloc _);have HLW:ae (jo (W3.alloc (.map #[] 0)) W3.heap.size []):=aag W3;have HOS:ae (bG o x={o with fs:=o.fs++[({}:pR)]}):=by rw[ae,bG,iN9 (by omega),iP9 hx]
    have HLO:=ak kT.o.dW.md.size
    have rH:ae (W3.heap.size ∉ bm::lb):=λhm=>by
     rcases List.mem_cons.1 hm with e|e
     ·have:=kT.o.dW.maps.lt;omega
     ·obtain⟨i,hi,e⟩:=List.getElem_of_mem e;have hi':i<o.fs.length:=by rw[<-kT.o.dW.len];exact hi
      have:=MapOf.lt (kT.o.dW.aP i hi');rw[List.getElem?_eq_getElem hi]at this;simp only[an]at this;omega
    clear hx;obtain⟨iP,hiP,qH,hsP,vZ⟩:=info_parts KV;go_upto_region 10 with fail;have HWS:ae (∀os,lh w R A bm (.slice oF o.fs.length cF) lb o ((W3.alloc (.map #[] 0)).alloc os)):=λos=>HWN.o.quiet ((aa.refl _ _).alloc _);have HLS:ae (∀os,jo ((W3.alloc (.map #[] 0)).alloc os) W3.heap.size []):=λos=>MapOf.ah HLW.o ((aa.refl af _).alloc os) id
    have Yk:ae (∀os vA wA,Sl wA 124 3 vA (o.fs.length+1) (jq lb o.fs++lL W3.heap.size ({}:pR))->aa (λk=>(Value.slice oF o.fs.length cF).ownBlock=some k) ((W3.alloc (.map #[] 0)).alloc os) wA->(∀k,vA.ownBlock=some k->(Value.slice oF o.fs.length cF).ownBlock=some k\/((W3.alloc (.map #[] 0)).alloc os).heap.size<=k)->aq wA A #[.map (some bm),.slice oF o.fs.length cF] 77/\(∃oA cA,vA=.slice oA (o.fs.length+1) cA)/\lh w R A bm vA (lb++[W3.heap.size]) (bG o x) (wA.setCell ⟨A,1,none⟩ vA)):=λos vA wA sA mA lA=>by
     refine⟨(HWS.o os).all.ah mA (λe=>(HWS.o os).dW.sl.az (HWS.o os).all (by decide) e),?_,?_⟩
     ·obtain⟨oA,cA,Ar,_⟩:=sA.view;exact⟨oA,cA,Ar⟩
     ·rw[HOS.o];exact(HWS.o os).func (HLS.o os) HLO.o rH.o sA mA lA
    go_wp2_with (first |(refine Cx rfl (.tmp 38) rfl (.int .i64 0) (.bool false) (.map (some W3.heap.size)) rfl ?_) |(at_builtin;(refine aJ _ rfl (.tmp 36) (.tmp 39) 75 rfl 124 iP (.agg #[.int .i64 0,.bool false,.map none]) 3 24 underlying75 hiP qH hsP vZ rfl (by decide) (.slice oF o.fs.length cF) o.fs.length (jq lb o.fs) rfl (HWS.o _).dW.sl ⟨(W3.alloc (.map #[] 0)).heap.size,0,none⟩ 1 1 (#[.int .i64 0,.bool false,.map (some W3.heap.size)]:tAV).toList rfl rfl (aT _ _ _ _ rfl) (by simp[Value.oneCell']) (by unfold maxLen;omega) (by omega) ?_;intro vA wA sA mA lA;obtain⟨hAA,⟨oA,cA,Ar⟩,Qs⟩:=Yk.o _ _ _ sA mA lA;subst Ar;have aA1:=hAA.cell 1;have aAf:=hAA.frozen;have Sk:ae (lh w R A bm (.slice oA (o.fs.length+1) cA) (lb++[W3.heap.size]) (bG o x) (wA.setCell ⟨A,1,none⟩ (.slice oA (o.fs.length+1) cA))):=Qs;clear sA mA lA hAA Qs)));go_roundg (ls.length-(k+1))
    case measure=>omega
    case rel=>exact⟨k+1,_,_,by omega,by go_num,by rw[HS.o];exact Sk.o,rfl⟩
   ·have q1:((x.kind:Int)==1)=false:=by rw[hx];rfl
    have q2:((x.kind:Int)==2)=false:=by rw[hx];rfl
    have q3:((x.kind:Int)==3)=true:=by rw[hx];rfl
    have hne:=HI.o (.inl hx);obtain⟨gF,rfl,hcF,hrw⟩:=kT.o.dW.tH hne;have Au:∀j (h:j<(#[.int .i64 o.last.slots,.bool o.last.ends,.map (some (lb[o.fs.length-1]?.getD 0))]:tAV).size),W3.cell? ⟨gF,(o.fs.length-1)*3+j,none⟩=some (#[.int .i64 o.last.slots,.bool o.last.ends,.map (some (lb[o.fs.length-1]?.getD 0))]:tAV)[j]:=hrw W3 (aa.refl _ _);have hn1:1<=o.fs.length:=List.length_pos_iff.2 hne;have hi:((o.fs.length:Int)-1)=((o.fs.length-1:Nat):Int):=by omega
    have HSW:ae (∀W,aa af W3 W->lh w R A bm (.slice (some ⟨gF,0,none⟩) o.fs.length cF) lb o W):=λW m=>kT.o.quiet m;have Yl:=tF JU.o;have wY:=ak (Nt.o (by omega));have HOS:ae (bG o x=o.dx (o.last.label x.name)):=by rw[ae,bG,iN9 (by omega),iN9 (by omega),iP9 hx]
    have Wf:ae (o.dx o.last=o):=KU hne;have CS:ae (∀W,aa af W3 W->jo W (lb[o.fs.length-1]?.getD 0) o.last.aP):=λW m=>(HSW.o W m).dW.aaf hne;have xX:ae (∀W w',aa af W3 W->jo w' (lb[o.fs.length-1]?.getD 0) (o.last.aP++[(x.name,o.last.slots)])->aa (λk=>k=lb[o.fs.length-1]?.getD 0) W w'->lh w R A bm (.slice (some ⟨gF,0,none⟩) o.fs.length cF) lb (o.dx {o.last with aP:=o.last.aP++[(x.name,o.last.slots)]}) w'):=λW w' m h1 h2=>(HSW.o W m).lab hne h1 h2;clear hx hrw;go_upto_region 12 with fail;generalize lb[o.fs.length-1]?.getD 0=bl at *;generalize hn1':o.fs.length-1=n1 at *;generalize hnn:o.fs.length=nn at *;have HLD:ae (o.last.label x.name=if(dC o.last.aP x.name).isSome then o.last else{o.last with aP:=o.last.aP++[(x.name,o.last.slots)]}):=rfl;generalize aeE:o.last=la at *;obtain⟨sl,en,las⟩:=la;dsimp only at *;have jJ:ae (aa af W3 (W3.alloc (.cells #[.int .i64 sl,.bool en,.map (some bl)] 124))):=(aa.refl _ _).alloc _;have c1':(W3.alloc (.cells #[.int .i64 sl,.bool en,.map (some bl)] 124)).cell? ⟨B,1,none⟩=some (.string (T x.name)):=((HB3.o.ah jJ.o id).cell 1).trans wY.o;have hlk:=(CS.o _ jJ.o).look x.name;have HPU:ae ((dC las x.name).isSome=false->∃w',(Instr.mapUpdate 74 (.map (some bl)) (.string (T x.name)) (.int .i64 sl)).run prog (W3.alloc (.cells #[.int .i64 sl,.bool en,.map (some bl)] 124))=.ok () w'/\jo w' bl (las++[(x.name,sl)])/\aa (λk=>k=bl) (W3.alloc (.cells #[.int .i64 sl,.bool en,.map (some bl)] 124)) w'):=λh=>(CS.o _ jJ.o).put x.name sl h;generalize dC las x.name=lo at *;cases lo with
    |some lv =>
     have xW:ae (lh w R A bm (.slice (some ⟨gF,0,none⟩) nn cF) lb (bG o x) (W3.alloc (.cells #[.int .i64 sl,.bool en,.map (some bl)] 124))):=by rw[HOS.o,HLD.o];simp only[ao,if_true];rw[Wf.o];exact HSW.o _ jJ.o
     simp only[an,ao]at hlk;go_wp2_with (refine dR rfl 124 (.tmp 47) rfl gF (n1*3) rfl #[.int .i64 sl,.bool en,.map (some bl)] _ Au underlying124 rfl (by kernel_rfl) ?_);go_roundg (ls.length-(k+1))
     case measure=>omega
     case rel=>exact⟨k+1,_,lb,by omega,by go_num,by rw[HS.o];exact xW.o,rfl⟩
    |none =>
     obtain⟨w5,J7,hl5,m5⟩:=HPU.o rfl;have xW:ae (lh w R A bm (.slice (some ⟨gF,0,none⟩) nn cF) lb (bG o x) w5):=by rw[HOS.o,HLD.o];exact xX.o _ _ jJ.o hl5 m5
     simp only[Option.getD_none,Option.isSome_none]at hlk;clear hl5 m5;go_wp2_with (refine dR rfl 124 (.tmp 47) rfl gF (n1*3) rfl #[.int .i64 sl,.bool en,.map (some bl)] _ Au underlying124 rfl (by kernel_rfl) ?_);go_roundg (ls.length-(k+1))
     case measure=>omega
     case rel=>exact⟨k+1,_,lb,by omega,by go_num,by rw[HS.o];exact xW.o,rfl⟩
   ·have q1:((x.kind:Int)==1)=false:=by rw[hx];rfl
    have q2:((x.kind:Int)==2)=false:=by rw[hx];rfl
    have q3:((x.kind:Int)==3)=false:=by rw[hx];rfl
    have q4:((x.kind:Int)==4)=true:=by rw[hx];rfl
    have hne:=HI.o (.inr hx);obtain⟨gF,rfl,hcF,hrw⟩:=kT.o.dW.tH hne;have Au:∀j (h:j<(#[.int .i64 o.last.slots,.bool o.last.ends,.map (some (lb[o.fs.length-1]?.getD 0))]:tAV).size),W3.cell? ⟨gF,(o.fs.length-1)*3+j,none⟩=some (#[.int .i64 o.last.slots,.bool o.last.ends,.map (some (lb[o.fs.length-1]?.getD 0))]:tAV)[j]:=hrw W3 (aa.refl _ _);have hn1:1<=o.fs.length:=List.length_pos_iff.2 hne;have hi:((o.fs.length:Int)-1)=((o.fs.length-1:Nat):Int):=by omega
    have HSW:ae (∀W,aa af W3 W->lh w R A bm (.slice (some ⟨gF,0,none⟩) o.fs.length cF) lb o W):=λW m=>kT.o.quiet m;have Yl:=tF JU.o;have HOS:ae (bG o x=o.dx (o.last.code x.x.o)):=by rw[ae,bG,iN9 (by omega),iN9 (by omega),iN9 (by omega),iP9 hx]
    have aeF:=ak (HCO.o hx);have HOA:ae (∀W,aa af W3 W->dM W (bs[x.x.k]?.getD 0) x.x.o):=λW m=>HO4.o W (kT.o.dW.md.trans m) hx;have hs2:=x.x.yh;have YX:ae (∀W,aa af W3 W->W.cell? ⟨gF,(o.fs.length-1)*3,none⟩=some (.int .i64 o.last.slots)/\W.cell? ⟨gF,(o.fs.length-1)*3+1,none⟩=some (.bool o.last.ends)):=λW m=>⟨hrw W m 0 (by show 0<3;decide),hrw W m 1 (by show 1<3;decide)⟩
    have HGB:ae (∀W,aa af W3 W->∃cs,aq W gF cs 124):=λW m=>by obtain⟨o',c',hv',hb'⟩:=(HSW.o W m).dW.sl.view;obtain⟨g',cs',h1,h2,_⟩:=hb' hn1;injection hv' with e1 e2 e3;rw[h1]at e1;injection e1 with e1;injection e1 with e1;exact⟨cs',by rw[e1];exact h2⟩
    clear hx hrw HO4 HCO Au;go_upto_region 17 with fail;generalize lb[o.fs.length-1]?.getD 0=bl at *;generalize bs[x.x.k]?.getD 0=bo at *;have HRW:ae (∀W f,aa af W3 W->f.aP=o.last.aP->lh w R A bm (.slice (some ⟨gF,0,none⟩) o.fs.length cF) lb (o.dx f) ((W.setCell ⟨gF,(o.fs.length-1)*3,none⟩ (.int .i64 f.slots)).setCell ⟨gF,(o.fs.length-1)*3+1,none⟩ (.bool f.ends))):=λW f m hf=>(HSW.o W m).row hne hf;generalize hn1':o.fs.length-1=n1 at *;generalize hnn:o.fs.length=nn at *;have HFS:ae (o.last.code x.x.o={slots:=o.last.slots+x.x.o.slots,ends:=x.x.o.ends,aP:=o.last.aP}):=rfl;generalize aeE:o.last=la at *;obtain⟨sl,en,las⟩:=la;dsimp only at *;go_upto_region 18 with fail;have gV:ae (aa af W3 W3.drew):=(aa.refl _ _).drew;refine dz 13 (by kernel_rfl) (by kernel_rfl) ?_;intro W hW;rw[<-hW]at gV;clear hW c0 a0 a1;obtain⟨d0,d1⟩:=YX.o W gV.o;have e11:W.cell? ⟨B,11,none⟩=some (.pointer (some ⟨bo,0,none⟩)):=((HB3.o.ah gV.o id).cell 11).trans aeF.o;obtain⟨p1,p2,p3,p4,p5,p6,p7,p8,p9,p10,p11,AR,_⟩:=(HOA.o W gV.o).ex;have o2:=AR.cell 2;have o4:=AR.cell 4;obtain⟨wZ,hgb⟩:=HGB.o W gV.o;have gf:=hgb.frozen;have gB:B≠gF:=λe=>(HB3.o.ah gV.o id).apart hgb (by decide) e;have gO:bo≠gF:=λe=>AR.apart hgb (by decide) e;have xW:ae (lh w R A bm (.slice (some ⟨gF,0,none⟩) nn cF) lb (bG o x) ((W.setCell ⟨gF,n1*3,none⟩ (.int .i64 ((sl:Int)+(x.x.o.slots:Int)))).setCell ⟨gF,n1*3+1,none⟩ (.bool x.x.o.ends))):=by rw[HOS.o,HFS.o];exact HRW.o W {slots:=sl+x.x.o.slots,ends:=x.x.o.ends,aP:=las} gV.o rfl
    clear AR hgb;generalize x.x.o.slots=os at *;generalize x.x.o.ends=oe at *;simp only[List.take_succ_cons,bh,List.drop_succ_cons,List.drop_zero]
    repeat(go_big_quiet_step (fail))
    refine wpQuiet_nil ?_;go_wp2_with fail;go_roundg (ls.length-(k+1))
    case measure=>omega
    case rel=>exact⟨k+1,_,lb,by omega,by go_num,by rw[HS.o];exact xW.o,rfl⟩
   ·have q1:((x.kind:Int)==1)=false:=by simp;omega
    have q2:((x.kind:Int)==2)=false:=by simp;omega
    have q3:((x.kind:Int)==3)=false:=by simp;omega
    have q4:((x.kind:Int)==4)=false:=by simp;omega
    have xW:ae (lh w R A bm (.slice oF o.fs.length cF) lb (bG o x) W3):=by unfold bG;rw[iN9 hx.1,iN9 hx.2.1,iN9 hx.2.2.1,iN9 hx.2.2.2];exact kT.o
    clear hx;go_wp2_with fail;go_roundg (ls.length-(k+1))
    case measure=>omega
    case rel=>exact⟨k+1,_,lb,by omega,by go_num,by rw[HS.o];exact xW.o,rfl⟩
  ·rw[Jg.o k hlt]at HA;have a0:wr.cell? ⟨A,0,none⟩=some (.map (some bm)):=HA.o.all.cell 0;have a1:wr.cell? ⟨A,1,none⟩=some (.slice oF (ai ls).fs.length cF):=HA.o.all.cell 1;have r0:=HA.o.res.cell 0;have r1:=HA.o.res.cell 1;have rf:=HA.o.res.frozen;have HF:ae (dQ w bm (.slice oF (ai ls).fs.length cF) lb (ai ls) ((wr.setCell ⟨R,0,none⟩ (.map (some bm))).setCell ⟨R,1,none⟩ (.slice oF (ai ls).fs.length cF))):=HA.o.dW.keep HA.o.res (by decide) HA.o.lt.2.1 (((aa.refl _ _).bP _ _).bP _ _);have HRB:ae (aq ((wr.setCell ⟨R,0,none⟩ (.map (some bm))).setCell ⟨R,1,none⟩ (.slice oF (ai ls).fs.length cF)) R #[.map (some bm),.slice oF (ai ls).fs.length cF] 77):=(HA.o.res.set 0 _).set 1 _;go_wp2_with fail;exact bodyPost_ret (results_cell_row results26 _ _ R 77 #[.map (some bm),.slice oF (ai ls).fs.length cF] (0,0) _ rfl HRB.o underlying77 rfl (by kernel_rfl)) rfl (adb.o _ _ _ _ lb rfl HF.o)
def u7(n:aA)(most:Int):Bool:=(n.aO 9223372036854775808).isSome&&decide (1<=(n.aO 9223372036854775808).getD 0)&&decide ((n.aO 9223372036854775808).getD 0<=most)
def cK(a b c:aA):Bool:=u7 a 8&&u7 b 16&&u7 c 8
theorem ade(W:tW):(Instr.index 288 (.agg #[.int .i64 8,.int .i64 16,.int .i64 8]) (.int .i64 0)).run prog W=.ok (.int .i64 8) W:=rfl
theorem adf(W:tW):(Instr.index 288 (.agg #[.int .i64 8,.int .i64 16,.int .i64 8]) (.int .i64 1)).run prog W=.ok (.int .i64 16) W:=rfl
theorem adg(W:tW):(Instr.index 288 (.agg #[.int .i64 8,.int .i64 16,.int .i64 8]) (.int .i64 2)).run prog W=.ok (.int .i64 8) W:=rfl
theorem aah(kd:Nat)(nm:tBA)(a b c:aA)(w:tW):Calls prog 212 #[.agg (gx kd nm a b c)] w λe w'=>e=.returned (.bool (cK a b c))/\aa af w w':=by
 have HF:ae (cK a b c=(((a.aO 9223372036854775808).isSome&&decide (1<=(a.aO 9223372036854775808).getD 0)&&decide ((a.aO 9223372036854775808).getD 0<=8))&&((b.aO 9223372036854775808).isSome&&decide (1<=(b.aO 9223372036854775808).getD 0)&&decide ((b.aO 9223372036854775808).getD 0<=16))&&((c.aO 9223372036854775808).isSome&&decide (1<=(c.aO 9223372036854775808).getD 0)&&decide ((c.aO 9223372036854775808).getD 0<=8)))):=rfl;have HSA:ae (∀w,Calls prog 215 #[a.dP,.int .i64 64] w λe w'=>e=.returned (.tuple #[.int .i64 ((a.aO 9223372036854775808).getD 0),.bool (a.aO 9223372036854775808).isSome])/\aa af w w'):=nN a;have Fe:ae (∀w,Calls prog 215 #[b.dP,.int .i64 64] w λe w'=>e=.returned (.tuple #[.int .i64 ((b.aO 9223372036854775808).getD 0),.bool (b.aO 9223372036854775808).isSome])/\aa af w w'):=nN b;have HSC:ae (∀w,Calls prog 215 #[c.dP,.int .i64 64] w λe w'=>e=.returned (.tuple #[.int .i64 ((c.aO 9223372036854775808).getD 0),.bool (c.aO 9223372036854775808).isSome])/\aa af w w'):=nN c;unfold aA.dP gx ES at *;generalize cK a b c=r at *;generalize a.aO 9223372036854775808=sa at *;generalize decide (18446744073709551616<=a.v)=ag at *;generalize((a.v%18446744073709551616:Nat):Int)=av at *;generalize a.minus=am at *;generalize b.aO 9223372036854775808=sb at *;generalize decide (18446744073709551616<=b.v)=bg at *;generalize((b.v%18446744073709551616:Nat):Int)=bv at *;generalize b.minus=bm at *;generalize c.aO 9223372036854775808=sc at *;generalize decide (18446744073709551616<=c.v)=cg at *;generalize((c.v%18446744073709551616:Nat):Int)=cv at *;generalize c.minus=cm at *;generalize hcs:(#[.int .i64 kd,.string nm,.bool am,.int .u64 av,.bool ag,.bool bm,.int .u64 bv,.bool bg,.bool cm,.int .u64 cv,.bool cg,.pointer none,.int .u8 (0:Nat),.int .u8 (0:Nat),.int .i16 0,.int .i32 0,.int .i32 0,.string ⟨#[]⟩,.string ⟨#[]⟩,.bool false]:tAV)=cs at *;have gR:=ak hcs.symm;clear hcs;have HB0:ae (aq (w.alloc (.cells cs 119)) w.heap.size cs 119):=aq.new w _ _;have gq:ae (aa af w (w.alloc (.cells cs 119))):=(aa.refl _ _).alloc _;go_enter func212,ntmps212;go_upto_region 1 with fail;go_wp2_with fail;generalize w.alloc (.cells cs 119)=w1 at *;generalize w.heap.size=B at *;go_loopg [8] 3 (λq v8 wx=>∃k:Nat,k<=3/\v8=.int .i64 k/\aa af w1 wx/\(1<=k->(sa.isSome&&decide (1<=sa.getD 0)&&decide (sa.getD 0<=8))=true)/\(2<=k->(sb.isSome&&decide (1<=sb.getD 0)&&decide (sb.getD 0<=16))=true)/\(3<=k->(sc.isSome&&decide (1<=sc.getD 0)&&decide (sc.getD 0<=8))=true)/\q=3-k)
 case atStart=>exact⟨0,by omega,rfl,aa.refl _ _,λh=>absurd h (by omega),λh=>absurd h (by omega),λh=>absurd h (by omega),rfl⟩
 case round =>
  obtain⟨k,hk,rfl,hm,g1,g2,g3,rfl⟩:=hrel;have HM:=ak hm;have G1:=ak g1;have G2:=ak g2;have G3:=ak g3;clear hm g1 g2 g3;have hcase:k=0\/k=1\/k=2\/k=3:=by omega
  rcases hcase with rfl|rfl|rfl|rfl
  ·have qk:=HB0.o.ah HM.o id;rw[gR.o]at qk;have d0:=qk.cell 2;have d1:=qk.cell 3;have d2:=qk.cell 4;clear qk;have hix:=ade;go_wp2_with fail;refine(HSA.o _).mono ?_;rintro e w2 ⟨rfl,m2⟩;have ep:=ak (HM.o.trans m2);clear m2 d0 d1 d2;cases sa with
   |none =>have AQ:ae (((none:Option Int).isSome&&decide (1<=(none:Option Int).getD 0)&&decide ((none:Option Int).getD 0<=8))=false):=rfl;go_wp2_with fail;go_ret;exact⟨by rw[HF.o,AQ.o];simp,gq.o.trans ep.o⟩
   |some v =>
    simp only[an,ao];by_cases h1:v<1
    ·have AQ:ae (((some v).isSome&&decide (1<=(some v).getD 0)&&decide ((some v).getD 0<=8))=false):=by rw[ae];simp;omega
     go_wp2_with fail;go_ret;exact⟨by rw[HF.o,AQ.o];simp,gq.o.trans ep.o⟩
    ·by_cases h2:8<v
     ·have AQ:ae (((some v).isSome&&decide (1<=(some v).getD 0)&&decide ((some v).getD 0<=8))=false):=by rw[ae];simp;omega
      go_wp2_with fail;go_ret;exact⟨by rw[HF.o,AQ.o];simp,gq.o.trans ep.o⟩
     ·have Ng:ae (((some v).isSome&&decide (1<=(some v).getD 0)&&decide ((some v).getD 0<=8))=true):=by rw[ae];simp;omega
      go_wp2_with fail;go_roundg (3-1)
      case measure=>omega
      case rel=>exact⟨1,by omega,by go_num,ep.o,λ_=>Ng.o,λh=>absurd h (by omega),λh=>absurd h (by omega),rfl⟩
  ·have qk:=HB0.o.ah HM.o id;rw[gR.o]at qk;have d0:=qk.cell 5;have d1:=qk.cell 6;have d2:=qk.cell 7;clear qk;have hix:=adf;go_wp2_with fail;refine(Fe.o _).mono ?_;rintro e w2 ⟨rfl,m2⟩;have ep:=ak (HM.o.trans m2);clear m2 d0 d1 d2;cases sb with
   |none =>have AQ:ae (((none:Option Int).isSome&&decide (1<=(none:Option Int).getD 0)&&decide ((none:Option Int).getD 0<=16))=false):=rfl;go_wp2_with fail;go_ret;exact⟨by rw[HF.o,AQ.o];simp,gq.o.trans ep.o⟩
   |some v =>
    simp only[an,ao];by_cases h1:v<1
    ·have AQ:ae (((some v).isSome&&decide (1<=(some v).getD 0)&&decide ((some v).getD 0<=16))=false):=by rw[ae];simp;omega
     go_wp2_with fail;go_ret;exact⟨by rw[HF.o,AQ.o];simp,gq.o.trans ep.o⟩
    ·by_cases h2:16<v
     ·have AQ:ae (((some v).isSome&&decide (1<=(some v).getD 0)&&decide ((some v).getD 0<=16))=false):=by rw[ae];simp;omega
      go_wp2_with fail;go_ret;exact⟨by rw[HF.o,AQ.o];simp,gq.o.trans ep.o⟩
     ·have Ng:ae (((some v).isSome&&decide (1<=(some v).getD 0)&&decide ((some v).getD 0<=16))=true):=by rw[ae];simp;omega
      go_wp2_with fail;go_roundg (3-2)
      case measure=>omega
      case rel=>exact⟨2,by omega,by go_num,ep.o,λ_=>G1.o (by omega),λ_=>Ng.o,λh=>absurd h (by omega),rfl⟩
  ·have qk:=HB0.o.ah HM.o id;rw[gR.o]at qk;have d0:=qk.cell 8;have d1:=qk.cell 9;have d2:=qk.cell 10;clear qk;have hix:=adg;go_wp2_with fail;refine(HSC.o _).mono ?_;rintro e w2 ⟨rfl,m2⟩;have ep:=ak (HM.o.trans m2);clear m2 d0 d1 d2;cases sc with
   |none =>have AQ:ae (((none:Option Int).isSome&&decide (1<=(none:Option Int).getD 0)&&decide ((none:Option Int).getD 0<=8))=false):=rfl;go_wp2_with fail;go_ret;exact⟨by rw[HF.o,AQ.o];simp,gq.o.trans ep.o⟩
   |some v =>
    simp only[an,ao];by_cases h1:v<1
    ·have AQ:ae (((some v).isSome&&decide (1<=(some v).getD 0)&&decide ((some v).getD 0<=8))=false):=by rw[ae];simp;omega
     go_wp2_with fail;go_ret;exact⟨by rw[HF.o,AQ.o];simp,gq.o.trans ep.o⟩
    ·by_cases h2:8<v
     ·have AQ:ae (((some v).isSome&&decide (1<=(some v).getD 0)&&decide ((some v).getD 0<=8))=false):=by rw[ae];simp;omega
      go_wp2_with fail;go_ret;exact⟨by rw[HF.o,AQ.o];simp,gq.o.trans ep.o⟩
     ·have Ng:ae (((some v).isSome&&decide (1<=(some v).getD 0)&&decide ((some v).getD 0<=8))=true):=by rw[ae];simp;omega
      go_wp2_with fail;go_roundg (3-3)
      case measure=>omega
      case rel=>exact⟨3,by omega,by go_num,ep.o,λ_=>G1.o (by omega),λ_=>G2.o (by omega),λ_=>Ng.o,rfl⟩
  ·go_wp2_with fail;go_ret;exact⟨by rw[HF.o,G1.o (by omega),G2.o (by omega),G3.o (by omega)];rfl,gq.o.trans HM.o⟩
structure dD where
 name:tLB
 key:Nat
 value:Nat
 entries:Nat
def dD.cells(m:dD):List Value:=[.string (T m.name),.int .u8 m.key,.int .u8 m.value,.int .u8 m.entries]
structure PI where
 k:Nat
 d:Nat
 s:Nat
 jump:Int
 num:Int
 high:Int
 name:tLB
def bU:eQ:=⟨0,[],[],0,false,false,0,false⟩
def PI.o(x:PI):eQ:=ax[x.k]?.getD bU
def PI.ins(bs:List Nat)(x:PI):iw:=⟨.pointer (some ⟨bs[x.k]?.getD 0,0,none⟩),x.d,x.s,x.jump,x.num,x.high,ByteArray.empty,T x.name⟩
def PI.aX(x:PI):Nat:=if x.s=1 then x.o.aX else 0
structure qd where
 name:tLB
 code:List PI
def yj(l:List PI):Nat:=(l.map (·.o.slots)).sum
