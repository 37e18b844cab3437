import Derived.Test.YthnphhgpfedeeaaGreatDoorCR34
namespace Go.Proofs.YthnphhgpfedeeaaGreatDoor
open Go.RowKit
open List renaming length_map->ab,flatMap_cons->al,getElem_mem->an,map_cons->ao,length_cons->ar,length_append->ba,pairwise_iff_getElem->bh,zipWith_cons_cons->bt,getElem_of_mem->b5,length_zipWith->b9,flatMap_append->ca,zipWith->cb,zip_cons_cons->cj,map_map->cq,getElem_map->cw,flatMap_map->cx
open Nat renaming le_refl->bj
set_option linter.all false
def atM(l:List az)(i:Nat):az:=l[i]?.getD ⟨[],0,0,0⟩
def Mj(l:List az)(i:Nat):Bool:=decide (i=0)||!ZO (atM l i) (atM l (i-1))
def compU(l:List az):Nat->List az
 |0=>[]
 |n+1=>compU l n++(if Mj l n then [atM l n]else [])
def bQ(l:List az):List az:=compU l l.length
theorem Um(l:List az)(i:Nat)(h:i<l.length):atM l i=l[i]:=by simp[atM,h]
theorem Ic(l:List az):∀n,(compU l n).length<=n
 |0=>bj _
 |n+1=>by unfold compU;rw[ba];have:=Ic l n;split<;>simp<;>omega
theorem DD(l:List az):∀n,n<=l.length->(∀j,j<n->Mj l j=true)->compU l n=l.take n
 |0,_,_=>by simp[compU]
 |n+1,h,hk=>by unfold compU;rw[DD l n (by omega) (λj hj=>hk j (by omega)),hk n (by omega),iP9 rfl,List.take_add_one,Um l n (by omega)];simp[show n<l.length by omega]
theorem P7(l:List az)(h:∀j,j<l.length->Mj l j=true):bQ l=l:=by unfold bQ;rw[DD l _ (bj _) h,List.take_length]
theorem KI(l:List az):Mj l 0=true:=rfl
def rowOf(f:aS):Value->bZ
 |.slice o n c=>⟨f,o,n,c⟩
 |_=>⟨f,none,0,0⟩
def bq.rows(p:bq):List bZ:=cb rowOf p.fs p.vs
theorem BC:∀(fs:List aS) (vs:List Value),vs.length=fs.length->(∀u∈vs,∃o n c,u=.slice o n c)->((fs.map (·.name)).zip vs).flatMap mF=(cb rowOf fs vs).flatMap bZ.cells
 |[],[],_,_=>rfl
 |[],_::_,h,_=>by simp at h
 |_::_,[],h,_=>by simp at h
 |f::fs,v::vs,h,hv=>by obtain⟨o,n,c,rfl⟩:=hv v (by simp);rw[ao,cj,al,bt,al,BC fs vs (by simpa using h) (λu hu=>hv u (by simp[hu]))];rfl
theorem pG.slices{w:tW}{lo:Nat}{bs:List Nat}{v:Value}{fs:List aS}{vs:List Value}(h:pG w lo bs v fs vs):∀u∈vs,∃o n c,u=.slice o n c:=by intro u hu;obtain⟨i,hi,rfl⟩:=b5 hu;obtain⟨o,c,e,_⟩:=(h.cd i (by rw[<-h.len];exact hi) hi).view;exact⟨o,_,c,e⟩
theorem eV.Un{w:tW}{bs:List Nat}{p:bq}(h:eV w bs p):Sl w 96 2 p.vF p.rows.length (p.rows.flatMap bZ.cells):=by
 have hl:p.rows.length=p.fs.length:=by unfold bq.rows;rw[b9,h.fns.len,Nat.min_self]
 rw[hl];unfold bq.rows;rw[<-BC p.fs p.vs h.fns.len h.fns.slices];exact h.fns.sl
theorem Uo(l:List bZ):∀u∈l.flatMap bZ.cells,u.oneCell'=true:=by intro u hu;obtain⟨x,_,hx⟩:=List.mem_flatMap.1 hu;simp[bZ.cells]at hx;rcases hx with rfl|rfl<;>rfl
theorem P8(l:List az):∀u∈l.flatMap az.cells,u.oneCell'=true:=by intro u hu;obtain⟨x,_,hx⟩:=List.mem_flatMap.1 hu;simp[az.cells]at hx;rcases hx with rfl|rfl|rfl|rfl<;>rfl
structure mH(w0:tW)(B R:Nat)(vM vF:Value)(ms:List az)(rs:List bZ)(w:tW):Prop where
 box:ak w B #[vM,vF] 90
 res:ak w R #[.slice none 0 0,.slice none 0 0] 90
 maps:Sl w 100 4 vM ms.length (ms.flatMap az.cells)
 rows:Sl w 96 2 vF rs.length (rs.flatMap bZ.cells)
 qH:∀k,vM.ownBlock=some k->w0.heap.size<=k
 oH:∀k,vF.ownBlock=some k->w0.heap.size<=k
 Ie:w0.heap.size<=B
 P9:w0.heap.size<=R
 ne:B≠R
 md:aa ae w0 w
theorem mH.quiet{w0 w w':tW}{B R:Nat}{vM vF:Value}{ms:List az}{rs:List bZ}(h:mH w0 B R vM vF ms rs w)(m:aa ae w w'):mH w0 B R vM vF ms rs w' :=
 ⟨h.box.ag m id,h.res.ag m id,h.maps.ag m (λ_ _=>id),h.rows.ag m (λ_ _=>id),h.qH,h.oH,h.Ie,h.P9,h.ne,h.md.trans m⟩
theorem mH.aeq{w0 w w':tW}{B R:Nat}{vM vF v':Value}{ms m2:List az}{rs:List bZ}(h:mH w0 B R vM vF ms rs w)(s:Sl w' 100 4 v' (ms.length+m2.length) (ms.flatMap az.cells++m2.flatMap az.cells))(m:aa (λk=>vM.ownBlock=some k) w w')(l:∀k,v'.ownBlock=some k->vM.ownBlock=some k\/w.heap.size<=k):mH w0 B R v' vF (ms++m2) rs (w'.setCell ⟨B,0,none⟩ v'):=by
 have hb:=h.box.ag m (h.maps.au h.box (by decide));have hr:=h.res.ag m (h.maps.au h.res (by decide));have mB:aa (Only B) w' (w'.setCell ⟨B,0,none⟩ v'):=ax.aY _ _;have hF:=h.rows.ag m (λk hk e=>h.rows.apart h.maps (by decide) hk e);refine⟨hb.set 0 v',hr.setOther (a:=⟨B,0,none⟩) h.ne _,?_,hF.ag mB (λk hk e=>hF.au hb (by decide) (by rw[<-show k=B from e];exact hk)),λk hk=>?_,h.oH,h.Ie,h.P9,h.ne,(h.md.step m (λi hi e=>by have:=h.qH i e;omega)).set (a:=⟨B,0,none⟩) (.inr h.Ie) _⟩
 ·rw[ba,ca];exact s.ag mB (λk hk e=>s.au hb (by decide) (by rw[<-show k=B from e];exact hk))
 ·rcases l k hk with e|e
  ·exact h.qH k e
  ·have:=h.md.size;omega
theorem mH.aer{w0 w w':tW}{B R:Nat}{vM vF v':Value}{ms:List az}{rs r2:List bZ}(h:mH w0 B R vM vF ms rs w)(s:Sl w' 96 2 v' (rs.length+r2.length) (rs.flatMap bZ.cells++r2.flatMap bZ.cells))(m:aa (λk=>vF.ownBlock=some k) w w')(l:∀k,v'.ownBlock=some k->vF.ownBlock=some k\/w.heap.size<=k):mH w0 B R vM v' ms (rs++r2) (w'.setCell ⟨B,1,none⟩ v'):=by
 have hb:=h.box.ag m (h.rows.au h.box (by decide));have hr:=h.res.ag m (h.rows.au h.res (by decide));have mB:aa (Only B) w' (w'.setCell ⟨B,1,none⟩ v'):=ax.aY _ _;have hM:=h.maps.ag m (λk hk e=>h.maps.apart h.rows (by decide) hk e);refine⟨hb.set 1 v',hr.setOther (a:=⟨B,1,none⟩) h.ne _,hM.ag mB (λk hk e=>hM.au hb (by decide) (by rw[<-show k=B from e];exact hk)),?_,h.qH,λk hk=>?_,h.Ie,h.P9,h.ne,(h.md.step m (λi hi e=>by have:=h.oH i e;omega)).set (a:=⟨B,1,none⟩) (.inr h.Ie) _⟩
 ·rw[ba,ca];exact s.ag mB (λk hk e=>s.au hb (by decide) (by rw[<-show k=B from e];exact hk))
 ·rcases l k hk with e|e
  ·exact h.oH k e
  ·have:=h.md.size;omega
theorem mH.sorted{w0 w w':tW}{B R:Nat}{vM vF:Value}{ms ms':List az}{rs rs':List bZ}(h:mH w0 B R vM vF ms rs w)(sM:Sl w' 100 4 vM ms'.length (ms'.flatMap az.cells))(sF:Sl w' 96 2 vF rs'.length (rs'.flatMap bZ.cells))(m:aa (λb=>vM.ownBlock=some b\/vF.ownBlock=some b) w w'):mH w0 B R vM vF ms' rs' w':=by
 refine⟨h.box.ag m ?_,h.res.ag m ?_,sM,sF,h.qH,h.oH,h.Ie,h.P9,h.ne,h.md.step m (λi hi e=>?_)⟩
 ·rintro(e|e)
  ·exact h.maps.au h.box (by decide) e
  ·exact h.rows.au h.box (by decide) e
 ·rintro(e|e)
  ·exact h.maps.au h.res (by decide) e
  ·exact h.rows.au h.res (by decide) e
 ·rcases e with e|e
  ·have:=h.qH i e;omega
  ·have:=h.oH i e;omega
theorem mH.comp{w0 w w':tW}{B R:Nat}{vM vF v':Value}{ms m2:List az}{rs:List bZ}(h:mH w0 B R vM vF ms rs w)(s:Sl w' 100 4 v' m2.length (m2.flatMap az.cells))(m:aa (λk=>vM.ownBlock=some k) w w')(l:v'.ownBlock=vM.ownBlock):mH w0 B R v' vF m2 rs (w'.setCell ⟨B,0,none⟩ v'):=by have hb:=h.box.ag m (h.maps.au h.box (by decide));have hr:=h.res.ag m (h.maps.au h.res (by decide));have mB:aa (Only B) w' (w'.setCell ⟨B,0,none⟩ v'):=ax.aY _ _;have hF:=h.rows.ag m (λk hk e=>h.rows.apart h.maps (by decide) hk e);exact⟨hb.set 0 v',hr.setOther (a:=⟨B,0,none⟩) h.ne _,s.ag mB (λk hk e=>s.au hb (by decide) (by rw[<-show k=B from e];exact hk)),hF.ag mB (λk hk e=>hF.au hb (by decide) (by rw[<-show k=B from e];exact hk)),λk hk=>h.qH k (l ▸ hk),h.oH,h.Ie,h.P9,h.ne,(h.md.step m (λi hi e=>by have:=h.qH i e;omega)).set (a:=⟨B,0,none⟩) (.inr h.Ie) _⟩
structure nI(p:List az×List aS):Prop where
 ml:p.1.length<=8
 fl:p.2.length<=16
 mb:∀m∈p.1,m.name.length<=255/\m.key<=255/\m.value<=255/\m.entries<=255
 fb:∀f∈p.2,f.name.length<=255/\f.code.length<=200
theorem Ig{w:tW}{bs:List Nat}{p:bq}(h:eV w bs p):p.rows.length=p.fs.length:=by unfold bq.rows;rw[b9,h.fns.len,Nat.min_self]
theorem ZQ:∀(fs:List aS) (vs:List Value),vs.length=fs.length->(cb rowOf fs vs).map (·.f)=fs
 |[],_,_=>rfl
 |f::fs,[],h=>by simp at h
 |f::fs,v::vs,h=>by rw[bt,ao,ZQ fs vs (by simpa using h)];cases v<;>rfl
theorem aaF{w:tW}{bs:List Nat}{p:bq}(h:eV w bs p):p.rows.map (·.f)=p.fs:=ZQ p.fs p.vs h.fns.len
structure Uq(w:tW)(lo:Nat)(bs:List Nat)(r:bZ):Prop where
 sl:Sl w 138 8 r.v r.f.code.length (eu bs r.f.code)
 ok:∀x∈r.f.code,eU x
 own:∀k,r.v.ownBlock=some k->lo<=k
theorem BD{w:tW}{bs:List Nat}{p:bq}(h:eV w bs p)(i:Nat)(hi:i<p.rows.length):∃(h1:i<p.fs.length) (h2:i<p.vs.length),p.rows[i].f=p.fs[i]/\p.rows[i].v=p.vs[i]:=by
 have h1:i<p.fs.length:=by rw[<-Ig h];exact hi
 have h2:i<p.vs.length:=by rw[h.fns.len];exact h1
 refine⟨h1,h2,?_⟩;have e:p.rows[i]=rowOf p.fs[i] p.vs[i]:=List.getElem_zipWith (f:=rowOf) (h:=hi);obtain⟨o,n,c,ev⟩:=h.fns.slices p.vs[i] (an h2);rw[e,ev];exact⟨rfl,rfl⟩
theorem yS{w:tW}{bs:List Nat}{p:bq}(h:eV w bs p):∀r∈p.rows,Uq w p.lo bs r/\r.v∈p.vs/\r.f∈p.fs:=by
 intro r hr;obtain⟨i,hi,rfl⟩:=b5 hr;obtain⟨h1,h2,e1,e2⟩:=BD h i hi;refine⟨⟨?_,?_,?_⟩,by rw[e2];exact an h2,by rw[e1];exact an h1⟩
 ·rw[e1,e2];exact h.fns.cd i h1 h2
 ·rw[e1];exact h.fns.ok _ (an h1)
 ·rw[e2];exact h.fns.l8 _ (an h2)
def KJ(x y:bZ):Prop:=∀k,x.v.ownBlock=some k->y.v.ownBlock≠some k
theorem XY{w:tW}{bs:List Nat}{p:bq}(h:eV w bs p):p.rows.Pairwise KJ:=by rw[bh];intro i j hi hj hij k hk;obtain⟨a1,a2,_,e2⟩:=BD h i hi;obtain⟨b1,b2,_,f2⟩:=BD h j hj;rw[e2]at hk;rw[f2];exact h.fns.ne i j a2 b2 (by omega) k hk
theorem Ih{w:tW}{bs:List Nat}:∀(ps:List bq),(∀p∈ps,eV w bs p)->ps.Pairwise (λp q=>∀u∈p.vs,∀k,u.ownBlock=some k->k<q.lo)->(ps.flatMap bq.rows).Pairwise KJ
 |[],_,_=>List.Pairwise.nil
 |p::ps,h,ho=>by rw[al,List.pairwise_append];rw[List.pairwise_cons]at ho;refine⟨XY (h p (by simp)),Ih ps (λq hq=>h q (by simp[hq])) ho.2,λx hx y hy k hk hk2=>?_⟩;obtain⟨q,hq,hy⟩:=List.mem_flatMap.1 hy;have h1:=ho.1 q hq x.v (yS (h p (by simp)) x hx).2.1 k hk;have h2:=(yS (h q (by simp[hq])) y hy).1.own k hk2;omega
theorem Ii:∀rs:List bZ,(((rs.map (·.f)).map (·.name)).zip (rs.map bZ.v)).flatMap mF=rs.flatMap bZ.cells
 |[]=>rfl
 |r::rs=>by rw[ao,ao,ao,cj,al,al,Ii rs];rfl
theorem aaG{wT w:tW}{bs:List Nat}{v vM vF:Value}{ps:List bq}{ms:List az}{rs:List bZ}(hP:Parts wT bs v ps w)(hM:Sl w 100 4 vM ms.length (ms.flatMap az.cells))(hF:Sl w 96 2 vF rs.length (rs.flatMap bZ.cells))(hp:rs.Perm (ps.flatMap bq.rows)):ui wT w bs vM vF ms (rs.map (·.f)) (rs.map bZ.v)/\∀f∈rs.map (·.f),∀x∈f.code,eU x:=by
 have hr:∀r∈rs,Uq w wT.heap.size bs r:=λr hr=>by obtain⟨p,hpm,hr⟩:=List.mem_flatMap.1 (hp.subset hr);have h:=(yS (hP.each p hpm) r hr).1;exact⟨h.sl,h.ok,λk hk=>Nat.le_trans (hP.lo p hpm) (h.own k hk)⟩
 have hne:rs.Pairwise KJ:=(hp.pairwise_iff (fun{x y} h k hk e=>h k e hk)).2 (Ih ps hP.each hP.ord);rw[bh]at hne;refine⟨⟨hM,by simp,?_,λi h1 h2=>?_,λi j h1 h2 hij k hk e=>?_,λu hu k hk=>?_,hP.md⟩,λf hf x hx=>?_⟩
 ·rw[Ii,ab];exact hF
 ·rw[ab]at h1 h2;simp only[cw];exact(hr rs[i] (an h1)).sl
 ·rw[ab]at h1 h2;simp only[cw]at hk e;rcases Nat.lt_or_ge i j with c|c
  ·exact hne i j h1 h2 c k hk e
  ·exact hne j i h2 h1 (by omega) k e hk
 ·obtain⟨r,hrm,rfl⟩:=List.mem_map.1 hu;exact(hr r hrm).own k hk
 ·obtain⟨r,hrm,rfl⟩:=List.mem_map.1 hf;exact(hr r hrm).ok x hx
def gJ(r1 r2 r3:Int)(tm:Bool):Int×Int:=if r1≠-1 then(4,r1)else if r2≠-1 then(8,r2)else if r3≠-1 then(5,r3)else if tm then(1,0)else(0,0)
def Mk(ms:List az):List tBA:=ms.map (λx=>T x.name)
def KK(fs:List aS):List tBA:=(fs.map (·.name)).map T
def Qa(ms:List az)(fs:List aS):Bool:=decide (8<ms.length)||decide (16<fs.length)||decide (200<oG fs)
def lu(ds:List (List az×List aS))(ms:List az)(fs:List aS):Int×Int :=
 gJ (twiceP 0 [] (ds.map (λp=>p.2.map (λf=>T f.name)))) (otherP 0 [] (ds.map (·.1))) (missP (KK fs) 0 (ds.map (·.2))) (Qa (bQ ms) fs)
def iD(aR:List tLB)(s:tBA)(e a:Int):Prop :=
 if aR.length=0\/8<aR.length then s=E0/\e=9/\a=0
 else if(decsP aR).length<aR.length then s=E0/\e=7/\a=(decsP aR).length
 else ∃(ms:List az) (fs:List aS),ms.Perm ((decsP aR).flatMap (·.1))/\ms.Pairwise (λx y=>ji (T y.name) (T x.name)=false)/\fs.Perm ((decsP aR).flatMap (·.2))/\fs.Pairwise (λx y=>ji (T y.name) (T x.name)=false) /\
  (if(lu (decsP aR) ms fs).1≠0 then s=E0/\e=(lu (decsP aR) ms fs).1/\a=(lu (decsP aR) ms fs).2
   else s=T (ib 2 (bQ ms) (fs.map (aS.linked (Mk (bQ ms)) (KK fs))))/\e=0/\a=0)
theorem BF:∀l:List PI,(∀x∈l,eU x)->aM l<=2*l.length
 |[],_=>by simp[aM]
 |x::l,h=>by have h1:=BF l (λy hy=>h y (by simp[hy]));have h2:=(h x (by simp)).slots;unfold aM at *;simp only[ao,List.sum_cons,ar];omega
theorem Ml:∀fs:List aS,(∀f∈fs,f.code.length<=200/\∀x∈f.code,eU x)->oG fs<=400*fs.length
 |[],_=>by simp[oG]
 |f::fs,h=>by have h1:=Ml fs (λy hy=>h y (by simp[hy]));have h2:=h f (by simp);have h3:=BF f.code h2.2;unfold oG at *;simp only[ao,List.sum_cons,ar];omega
theorem eU.linked{x:PI}(h:eU x)(mn fn:List tBA)(hm:mn.length<=1000)(hf:fn.length<=1000):eU (x.linked mn fn):=by
 refine⟨h.k,h.d,h.s,h.j,?_,h.h⟩;show -2147483648<=CQ mn fn x/\CQ mn fn x<=2147483647
 unfold CQ;have h1:=lG (T x.name) fn;have h2:=lG (T x.name) mn;have h3:=h.n;split
 ·omega
 ·split<;>omega
theorem DE(l:List az):∀n,n<=l.length->∀m∈compU l n,m∈l
 |0,_,m,hm=>by simp[compU]at hm
 |n+1,h,m,hm=>by
  unfold compU at hm;rcases List.mem_append.1 hm with hm|hm
  ·exact DE l n (by omega) m hm
  ·split at hm
   ·rw[List.mem_singleton.1 hm,Um l n (by omega)];exact an _
   ·cases hm
theorem Qb(l:List az):∀m∈bQ l,m∈l:=DE l l.length (bj _)
theorem Ij(l:List az):(bQ l).length<=l.length:=Ic l l.length
theorem Ik{ps:List bq}{ds:List (List az×List aS)}(h:ps.map bq.plain=ds):ds.length=ps.length/\ds.flatMap (·.1)=ps.flatMap (·.ms)/\ds.flatMap (·.2)=ps.flatMap (·.fs)/\ds.map (·.1)=ps.map (·.ms)/\ds.map (·.2)=ps.map (·.fs)/\ds.map (λp=>p.2.map (λf=>T f.name))=ps.map (λp=>p.fs.map (λf=>T f.name)):=by
 subst h;refine⟨by simp,?_,?_,?_,?_,?_⟩
 ·rw[cx];rfl
 ·rw[cx];rfl
 ·rw[cq];rfl
 ·rw[cq];rfl
 ·rw[cq];rfl
theorem BG{w:tW}{bs:List Nat}:∀(ps:List bq),(∀p∈ps,eV w bs p)->(ps.flatMap bq.rows).map (·.f)=ps.flatMap (·.fs)
 |[],_=>rfl
 |p::ps,h=>by rw[al,List.map_append,al,aaF (h p (by simp)),BG ps (λq hq=>h q (by simp[hq]))]
theorem KL(r1 r2 r3:Int)(tm:Bool):((gJ r1 r2 r3 tm).1=0/\tm=false)\/(1<=(gJ r1 r2 r3 tm).1/\(gJ r1 r2 r3 tm).1<=8):=by
 unfold gJ;split
 ·right;exact⟨(by decide:(1:Int)<=4),(by decide:(4:Int)<=8)⟩
 ·split
  ·right;exact⟨(by decide:(1:Int)<=8),(by decide:(8:Int)<=8)⟩
  ·split
   ·right;exact⟨(by decide:(1:Int)<=5),(by decide:(5:Int)<=8)⟩
   ·cases tm
    ·left;exact⟨rfl,rfl⟩
    ·right;exact⟨(by decide:(1:Int)<=1),(by decide:(1:Int)<=8)⟩
theorem Il:∀l:List tLB,(decsP l).length<=l.length
 |[]=>bj _
 |s::l=>by
  rw[decsP];split
  ·exact Nat.zero_le _
  ·rw[ar,ar];exact Nat.succ_le_succ (Il l)
theorem Im{ps:List bq}(hn:ps.length<=8)(hok:∀p∈ps,nI p.plain){ms:List az}{fs:List aS}(pm:ms.Perm (ps.flatMap (·.ms)))(pf:fs.Perm (ps.flatMap (·.fs)))(hpi:∀f∈fs,∀x∈f.code,eU x):ms.length<=64/\fs.length<=128/\(∀f∈fs,f.name.length<=255/\f.code.length<=200/\∀x∈f.code,eU x)/\(∀m∈ms,m.name.length<=255/\m.key<=255/\m.value<=255/\m.entries<=255)/\∀k,oG (fs.take k)<=1000000:=by
 have h1:ms.length<=64:=by have:=lq (λp:bq=>p.ms) 8 ps (λp hp=>(hok p hp).ml);rw[pm.length_eq];omega
 have h2:fs.length<=128:=by have:=lq (λp:bq=>p.fs) 16 ps (λp hp=>(hok p hp).fl);rw[pf.length_eq];omega
 have h3:∀f∈fs,f.name.length<=255/\f.code.length<=200/\∀x∈f.code,eU x:=λf hf=>by obtain⟨p,hp,hf2⟩:=List.mem_flatMap.1 (pf.mem_iff.1 hf);have:=(hok p hp).fb f hf2;exact⟨this.1,this.2,hpi f hf⟩
 refine⟨h1,h2,h3,λm hm=>?_,λk=>?_⟩
 ·obtain⟨p,hp,hf2⟩:=List.mem_flatMap.1 (pm.mem_iff.1 hm);exact(hok p hp).mb m hf2
 ·have:=Ml (fs.take k) (λf hf=>(h3 f (List.mem_of_mem_take hf)).2);rw[List.length_take]at this;omega
theorem Ur{ms:List az}{fs:List aS}(h3:∀f∈fs,f.name.length<=255/\f.code.length<=200/\∀x∈f.code,eU x)(h4:∀m∈ms,m.name.length<=255/\m.key<=255/\m.value<=255/\m.entries<=255)(ht:Qa (bQ ms) fs=false):EOk (bQ ms) (fs.map (aS.linked (Mk (bQ ms)) (KK fs))):=by unfold Qa at ht;simp only[Bool.or_eq_false_iff,decide_eq_false_iff_not]at ht;refine⟨by omega,by rw[ab];omega,λm hm=>h4 m (Qb ms m hm),λf hf=>?_⟩;obtain⟨g,hg,rfl⟩:=List.mem_map.1 hf;have:=h3 g hg;refine⟨this.1,by show(g.code.map _).length<=200;rw[ab];exact this.2.1,λx hx=>?_⟩;obtain⟨y,hy,rfl⟩:=List.mem_map.1 (show x∈g.code.map (PI.linked (Mk (bQ ms)) (KK fs))from hx);exact(this.2.2 y hy).linked _ _ (by unfold Mk;rw[ab];omega) (by unfold KK;rw[ab,ab];omega)
