import Derived.Test.YthnphhgpfedeeaaGreatDoorCF51
import Derived.Test.YthnphhgpfedeeaaGreatDoorCF39
namespace Go.Proofs.YthnphhgpfedeeaaGreatDoor
open Go.RowKit Tryz
open _root_.Array renaming length_toList->ar
open Bool renaming and_eq_true->ao
open Lib renaming compareBytes->ab
open List renaming length_take->al,length_drop->an,length_append->aE,mem_cons_of_mem->ba,getElem_mem->bh,drop_succ_cons->bq,mem_cons_self->bt,size_toArray->bQ,not_mem_nil->b9
open Nat renaming le_refl->bj,le_trans->bO,zero_le->b5
set_option linter.all false
set_option maxRecDepth 100000
set_option maxHeartbeats 1000000
theorem ajC{c:Bool}{r:PR}(h:(aI c r).bad=false):r.bad=false/\c=true:=by unfold aI at h;simp only[Bool.or_eq_false_iff,Bool.not_eq_false']at h;exact h
theorem amt{r:PR}(h:(oneP r).2.bad=false):r.bad=false:=by
 unfold oneP at h;obtain⟨l,bd⟩:=r;cases l with
 |nil=>cases h
 |cons b l=>exact h
theorem ann{n:Nat}{r:PR}(h:(bU n r).2.bad=false):r.bad=false:=by
 unfold bU at h;by_cases hl:r.rest.length<n
 ·rw[iP9 hl]at h;cases h
 ·rw[iN9 hl]at h;exact h
theorem akr(n:Nat)(r:PR):(bU n r).1.length<=n:=by
 unfold bU;by_cases hl:r.rest.length<n
 ·rw[iP9 hl];simp only;omega
 ·rw[iN9 hl,al];omega
theorem ano{r:PR}(h:(dA r).2.bad=false):r.bad=false:=amt (ann (ajC h).1)
theorem ala{most:Nat}{r:PR}(h:(cu most r).2.bad=false):r.bad=false/\1<=(cu most r).1/\(cu most r).1<=most:=by unfold cu at h ⊢;obtain⟨h1,hc⟩:=ajC h;simp only[ao,decide_eq_true_eq]at hc;exact⟨amt h1,hc⟩
theorem mapM{r:PR}(h:(Xj r).2.bad=false):r.bad=false/\ZX (Xj r).1:=by unfold Xj at h ⊢;simp only at h ⊢;obtain⟨h1,c1⟩:=ala h;obtain⟨h2,c2⟩:=ala h1;obtain⟨h3,c3⟩:=ala h2;exact⟨ano h3,c3,c2,c1.2⟩
theorem anp:∀(k:Nat) (r:PR) (last:tLB) (acc:List az),(mapsP k r last acc).2.bad=false->(∀m∈acc,ZX m)->r.bad=false/\∀m∈(mapsP k r last acc).1,ZX m
 |0,r,last,acc,h,ha=>⟨h,ha⟩
 |k+1,r,last,acc,h,ha=>by
  rw[mapsP]at h ⊢;have h1:=anp k _ _ _ h
  have hb:(aI (ZA last (Xj r).1.name) (Xj r).2).bad=false:=by
   by_cases hq:(aI (ZA last (Xj r).1.name) (Xj r).2).bad=true
   ·exact absurd (akE k _ _ _ hq) (by rw[h];decide)
   ·simpa using hq
  obtain⟨h2,hm⟩:=mapM (ajC hb).1;refine⟨h2,(h1 (λm hm'=>?_)).2⟩;rcases List.mem_append.1 hm' with hm'|hm'
  ·exact ha m hm'
  ·rw[List.mem_singleton.1 hm'];exact hm
def alO(o:dY)(n:Nat):Bool:=o.parts.any (λp=>decide ((p:Nat)=n))
theorem akb:∀o∈aq,((dz o.code).t=1\/(dz o.code).t=2->o.jumps=true)/\((dz o.code).t≠2->(dz o.code).t<=6->o.ends=false)/\((dz o.code).t=6->o.call=true/\o.aO=1)/\((dz o.code).t=5->o.aO=2)/\((dz o.code).t=3\/(dz o.code).t=4->0<(dz o.code).k/\(dz o.code).k<=8)/\(o.call=false->(alO o 3=true\/alO o 4=true\/lM o.parts%2=0)/\(alO o 5=true\/alO o 9=true\/lM o.parts &&& 2=0)):=by decide +kernel
theorem ajz{o:dY}{x:di}{n:Nat}(h:o.parts.all (PK.right x)=true)(hp:alO o n=true):∃p:PK,(p:Nat)=n/\PK.right x p=true:=by unfold alO at hp;obtain⟨p,hm,he⟩:=List.any_eq_true.1 hp;exact⟨p,by simpa using he,List.all_eq_true.1 h p hm⟩
theorem alb{o:dY}(ho:o∈aq)(x:di)(h:o.needs x=true):x.d<11/\x.s<11/\(o.call=true->x.s≠1->1<=x.num/\x.num<=4):=by
 obtain⟨_,_,_,_,_,hf⟩:=akb o ho;unfold dY.needs at h;by_cases hc:o.call=true
 ·rw[iP9 hc]at h;simp only[fJ,ao,Bool.or_eq_true,decide_eq_true_eq]at h;obtain⟨⟨⟨⟨h1,h2⟩,h3⟩,h4⟩,h5⟩:=h;refine⟨?_,?_,λ_ hs=>?_⟩
  ·rcases h1 with h1|h1
   ·exact absurd rfl h1
   ·omega
  ·rcases h5 with h5 |⟨⟨h5,_⟩,_⟩<;>omega
  ·rcases h5 with h5 |⟨⟨_,h6⟩,h7⟩
   ·exact absurd h5 hs
   ·exact⟨h6,by omega⟩
 ·rw[iN9 hc]at h;have hc':o.call=false:=by simpa using hc
  obtain⟨f1,f2⟩:=hf hc';obtain⟨hr,hoth⟩:=Bool.and_eq_true_iff.1 h;simp only[fJ,ao,Bool.or_eq_true,decide_eq_true_eq]at hoth;obtain⟨⟨⟨h1,h2⟩,h3⟩,h4⟩:=hoth;refine⟨?_,?_,λe=>absurd e hc⟩
  ·rcases f1 with f1|f1|f1
   ·obtain⟨p,rfl,e⟩:=ajz hr f1;have:x.d<10:=by simpa [PK.right]using e
    omega
   ·obtain⟨p,rfl,e⟩:=ajz hr f1;have:x.d<=10:=by simpa [PK.right]using e
    omega
   ·rcases h1 with h1|h1
    ·exact absurd f1 h1
    ·omega
  ·rcases f2 with f2|f2|f2
   ·obtain⟨p,rfl,e⟩:=ajz hr f2;have:x.s<=10:=by simpa [PK.right]using e
    omega
   ·obtain⟨p,rfl,e⟩:=ajz hr f2;have:x.s=0\/x.s=1/\x.high=0:=by simpa [PK.right]using e
    omega
   ·rcases h2 with h2|h2
    ·exact absurd f2 h2
    ·omega
theorem alc{l:tLB}{x:PI}(h:jf l=some x):x.o.needs (x.ins [])=true:=by
 unfold jf at h;split at h
 ·cases h
 cases hb:kX (at' l 0)with
 |none=>rw[hb]at h;cases h
 |some k =>
  rw[hb]at h;simp only at h;split at h
  ·cases h
  split at h
  ·cases h
  by_cases hn:(aq[k]?.getD iK).needs (PI.ins [] ⟨k,at' l 1%16,at' l 1/16,ep (at' l 2+256*at' l 3),bA (l.drop 4),if 1<(aq[k]?.getD iK).slots then bA (l.drop 12)else 0,[]⟩)=true
  ·rw[iP9 hn]at h;injection h with h;rw[<-h];exact hn
  ·rw[iN9 hn]at h;cases h
structure Cin(l:List PI)(st:List Bool):Prop where
 ok:∀x∈l,eU x/\x.o.needs (x.ins [])=true
 st:∀i,st[i]?.getD false=true->∃x,(x,i)∈atS 0 l
theorem akN(sl:tLB):∀(f a:Nat) (acc:List PI) (st:List Bool) (l:List PI) (st':List Bool),codeL sl (sl.length/8) f a acc st=some (l,st')->Cin acc st->aM acc=a->a<=sl.length/8->Cin l st'/\aM l<=sl.length/8
 |0,a,acc,st,l,st',h,_,_,_=>by cases h
 |f+1,a,acc,st,l,st',h,hi,hs,ha=>by
  rw[codeL]at h;split at h
  ·rename_i hlt
   cases hx:jf (sl.drop (a*8))with
   |none=>rw[hx]at h;cases h
   |some x =>
    rw[hx]at h;simp only at h;have hlen:=GS _ _ hx;rw[an]at hlen;have e:aM (acc++[x])=a+x.o.slots:=by unfold aM at hs ⊢;rw[List.map_append,List.sum_append,hs];simp
    refine akN sl f _ _ _ l st' h ⟨λy hy=>?_,λi hi'=>?_⟩ e (by omega)
    ·rcases List.mem_append.1 hy with hy|hy
     ·exact hi.ok y hy
     ·rw[List.mem_singleton.1 hy];exact⟨L6 _ _ hx,alc hx⟩
    ·rw[Mr,hs];by_cases hia:i=a
     ·subst hia;exact⟨x,List.mem_append.2 (.inr (by simp))⟩
     ·rw[List.getElem?_set_ne (λe=>hia e.symm)]at hi';obtain⟨y,hy⟩:=hi.st i hi';exact⟨y,List.mem_append.2 (.inl hy)⟩
  ·injection h with h;injection h with h1 h2;subst h1 h2;exact⟨hi,by rw[hs];exact ha⟩
theorem als(st:List Bool):∀(l:List PI) (s:Nat),leadP st s l=true->∀p∈atS s l,p.1.o.jumps=true->0<=p.1.target p.2/\st[(p.1.target p.2).toNat]?.getD false=true
 |x::l,s,h,p,hp,hj=>by
  rw[leadP,ao]at h;rw[atS]at hp;rcases List.mem_cons.1 hp with rfl|hp
  ·rw[iP9 hj,ao]at h;exact⟨by simpa using h.1.1,h.1.2⟩
  ·exact als st l _ h.2 p hp hj
theorem alu:∀(l:List PI) (s:Nat) (p:PI×Nat),p∈atS s l->(∃y,(y,p.2+p.1.o.slots)∈atS s l)\/l.getLast?=some p.1
 |x::l,s,p,hp=>by
  rw[atS]at hp;rcases List.mem_cons.1 hp with rfl|hp
  ·cases l with
   |nil=>exact .inr rfl
   |cons y l=>exact .inl ⟨y,by rw[atS,atS];simp⟩
  ·rcases alu l _ p hp with⟨y,hy⟩|hy
   ·exact .inl ⟨y,by rw[atS];exact ba _ hy⟩
   ·refine .inr ?_;rw[List.getLast?_cons,hy];rfl
structure amW(f:aS):Prop where
 ok:∀x∈f.code,eU x/\x.o.needs (x.ins [])=true
 lead:∀p∈atS 0 f.code,p.1.o.jumps=true->0<=p.1.target p.2/\nr f (p.1.target p.2).toNat
 last:zj f.code=true
theorem amu{sl:tLB}{r:PR}(h:(codeP sl r).2.bad=false)(nm:tLB):r.bad=false/\amW ⟨nm,(codeP sl r).1⟩/\aM (codeP sl r).1<=sl.length/8:=by
 unfold codeP at h ⊢;split at h
 ·cases h
 ·rename_i l st he
  simp only at h ⊢;obtain⟨h1,c1⟩:=ajC h;obtain⟨h2,c2⟩:=ajC h1;obtain⟨hi,hl⟩:=akN sl _ _ _ _ _ _ he ⟨λx hx=>(by cases hx),λi hi=>(by rw[List.getElem?_replicate]at hi;split at hi<;>cases hi)⟩ rfl (b5 _);refine⟨h2,⟨hi.ok,λp hp hj=>?_,c2⟩,hl⟩
  ·obtain⟨a,b⟩:=als st l 0 c1 p hp hj;exact⟨a,hi.st _ b⟩
theorem akc:∀(hs:List fH) (r:PR) (acc:List aS),r.bad=true->(codesP hs r acc).2.bad=true
 |[],r,acc,h=>h
 |x::hs,r,acc,h=>by
  rw[codesP];refine akc hs _ _ ?_
  have ht:(bU (x.slots*8) r).2.bad=true:=by
   unfold bU;split
   ·rfl
   ·exact h
  unfold codeP;split
  ·rfl
  ·simp[aI,ht]
theorem akd:∀(k:Nat) (r:PR) (last:tLB) (all:Nat) (acc:List fH),r.bad=true->(headsP k r last all acc).2.2.bad=true
 |0,r,last,all,acc,h=>h
 |k+1,r,last,all,acc,h=>by
  rw[headsP];refine akd k _ _ _ _ ?_;by_cases hq:(aI (ZA last (GK r).1.name) (GK r).2).bad=true
  ·exact hq
  ·have h1:(GK r).2.bad=false:=(ajC (by simpa using hq)).1;unfold GK iY at h1;have:=ano (amt (amt h1));rw[h]at this;cases this
theorem alP(c:Bool)(r:PR)(h:r.bad=true):(aI c r).bad=true:=by simp[aI,h]
theorem ald(r:PR)(h:r.bad=true):(jH r).2.bad=true:=by
 have ho:(oneP r).2.bad=true:=by
  by_cases hq:(oneP r).2.bad=true
  ·exact hq
  ·have:=amt (r:=r) (by simpa using hq);rw[h]at this;cases this
 unfold jH;simp only;have hh:=akd (oneP r).1 (aI (decide ((oneP r).1<=16)) (oneP r).2) [] 0 [] (by simp[aI,ho]);split
 ·rename_i hb;exact hb
 ·rename_i hb
  exact absurd (alP _ _ hh) hb
theorem akO:∀(hs:List fH) (r:PR) (acc:List aS) (n:Nat),(codesP hs r acc).2.bad=false->(∀h∈hs,h.slots<=n)->(∀f∈acc,amW f/\aM f.code<=n)->r.bad=false/\∀f∈(codesP hs r acc).1,amW f/\aM f.code<=n
 |[],r,acc,n,h,_,ha=>⟨h,ha⟩
 |x::hs,r,acc,n,h,hn,ha=>by
  rw[codesP]at h ⊢
  have hb:(codeP (bU (x.slots*8) r).1 (bU (x.slots*8) r).2).2.bad=false:=by
   by_cases hq:(codeP (bU (x.slots*8) r).1 (bU (x.slots*8) r).2).2.bad=true
   ·exact absurd (akc hs _ _ hq) (by rw[h];decide)
   ·simpa using hq
  obtain⟨h2,hf,hl⟩:=amu hb x.name;refine⟨ann h2,(akO hs _ _ n h (λy hy=>hn y (ba _ hy)) (λf hf'=>?_)).2⟩;rcases List.mem_append.1 hf' with hf'|hf'
  ·exact ha f hf'
  ·rw[List.mem_singleton.1 hf'];refine⟨hf,?_⟩;have h3:=akr (x.slots*8) r;have h4:=hn x (bt ..);simp only;omega
theorem akP:∀(k:Nat) (r:PR) (last:tLB) (all:Nat) (acc:List fH),(∀h∈acc,h.slots<=all)->(∀h∈(headsP k r last all acc).1,h.slots<=(headsP k r last all acc).2.1)/\all<=(headsP k r last all acc).2.1
 |0,r,last,all,acc,ha=>⟨ha,bj _⟩
 |k+1,r,last,all,acc,ha=>by
  rw[headsP]
  have ih:=akP k (aI (ZA last (GK r).1.name) (GK r).2) (GK r).1.name (all+(GK r).1.slots) (acc++[(GK r).1]) (λh hh=>by
   rcases List.mem_append.1 hh with hh|hh
   ·have:=ha h hh;omega
   ·rw[List.mem_singleton.1 hh];omega)
  exact⟨ih.1,by omega⟩
theorem amv{r:PR}(h:(jH r).2.bad=false):∀f∈(jH r).1,amW f/\aM f.code<=200:=by
 unfold jH at h ⊢;simp only at h ⊢;split at h
 ·rename_i hb
  rw[hb]at h;cases h
 ·rename_i hb
  have hq:(aI (decide ((headsP (oneP r).1 (aI (decide ((oneP r).1<=16)) (oneP r).2) [] 0 []).2.1<=200)) (headsP (oneP r).1 (aI (decide ((oneP r).1<=16)) (oneP r).2) [] 0 []).2.2).bad=false:=by simpa using hb
  have hc:=(ajC hq).2;have hall:=(akP (oneP r).1 (aI (decide ((oneP r).1<=16)) (oneP r).2) [] 0 [] (λh hh=>by cases hh)).1;have ae8:=of_decide_eq_true hc;rw[iN9 hb];exact(akO _ _ _ 200 h (λx hx=>bO (hall x hx) ae8) (λf hf=>by cases hf)).2
theorem alv(m f:Nat):∀(l:List PI) (r:PR),(BO m f l r).bad=false->r.bad=false/\∀x∈l,(x.aO=1->tJ x.num f=true)/\(x.aO=2->tJ x.num m=true)
 |[],r,h=>⟨h,λx hx=>by cases hx⟩
 |x::l,r,h=>by
  obtain⟨h1,h2⟩:=alv m f l (Yc m f x r) h;unfold Yc at h1;split at h1
  ·rename_i e
   obtain⟨h3,h4⟩:=ajC h1;refine⟨h3,λy hy=>?_⟩;rcases List.mem_cons.1 hy with rfl|hy
   ·exact⟨λ_=>h4,λe2=>by rw[e]at e2;cases e2⟩
   ·exact h2 y hy
  ·rename_i e
   split at h1
   ·rename_i e2
    obtain⟨h3,h4⟩:=ajC h1;refine⟨h3,λy hy=>?_⟩;rcases List.mem_cons.1 hy with rfl|hy
    ·exact⟨λe3=>absurd e3 e,λ_=>h4⟩
    ·exact h2 y hy
   ·rename_i e2
    refine⟨h1,λy hy=>?_⟩;rcases List.mem_cons.1 hy with rfl|hy
    ·exact⟨λe3=>absurd e3 e,λe3=>absurd e3 e2⟩
    ·exact h2 y hy
theorem alx(m f:Nat):∀(l:List aS) (r:PR),(BP m f l r).bad=false->r.bad=false/\∀g∈l,∀x∈g.code,(x.aO=1->tJ x.num f=true)/\(x.aO=2->tJ x.num m=true)
 |[],r,h=>⟨h,λx hx=>by cases hx⟩
 |g::l,r,h=>by
  obtain⟨h1,h2⟩:=alx m f l (BO m f g.code r) h;obtain⟨h3,h4⟩:=alv m f g.code r h1;refine⟨h3,λy hy=>?_⟩;rcases List.mem_cons.1 hy with rfl|hy
  ·exact h4
  ·exact h2 y hy
theorem PI.an4{x:PI}(h:x.k<88):x.o∈aq:=by
 have hkt:x.k<aq.length:=by rw[dZ];exact h
 have e2:x.o=aq[x.k]:=by simp[PI.o,hkt]
 rw[e2];exact bh hkt
theorem ajm{s:tLB}(h:(dP s).2.2.bad=false):qK (dP s).2.1 (dP s).1.length/\∀m∈(dP s).1,ZX m:=by
 unfold dP at h ⊢;simp only at h ⊢;generalize hm:mapsP (oneP (aI (decide ((oneP (aI ((bU 4 ⟨s,false⟩).1==[83,80,79,76]) (bU 4 ⟨s,false⟩).2)).1=2)) (oneP (aI ((bU 4 ⟨s,false⟩).1==[83,80,79,76]) (bU 4 ⟨s,false⟩).2)).2)).1 _ [] []=mp at *;obtain⟨ms,q5⟩:=mp;simp only at h ⊢;obtain⟨h1,_⟩:=ajC h;obtain⟨h2,hN⟩:=alx _ _ _ _ h1;have hF:=amv h2
 have hq5:q5.bad=false:=by
  by_cases hq:q5.bad=true
  ·exact absurd (ald q5 hq) (by rw[h2];decide)
  ·simpa using hq
 refine⟨⟨λf hf=>?_,λf hf=>by have:=(hF f hf).2;omega,λf hf p hp=>?_⟩,?_⟩
 ·have hl:=(hF f hf).1.last;unfold zj at hl;unfold nr;cases hc:f.code with
  |nil=>rw[hc]at hl;cases hl
  |cons x l=>exact⟨x,by rw[atS];simp⟩
 ·have hx:=Fw _ _ _ hp;obtain⟨hok,hnd⟩:=(hF f hf).1.ok _ hx;have hmem:=PI.an4 hok.k;obtain⟨n1,n2,n3⟩:=alb hmem _ hnd;obtain⟨r1,r2,r3,r4,r5,_⟩:=akb _ hmem;obtain⟨u1,u2⟩:=hN f hf _ hx
  have isn:∀(k:Int) (n:Nat),tJ k n=true->0<=k/\k<n:=λk n e=>by
   unfold tJ at e
   simpa using e
  refine⟨⟨n1,n2,hok.j,hok.n,λh6=>⟨λhs=>isn _ _ (u1 ?_),n3 (r3 h6).1⟩,λh5 hs=>isn _ _ (u2 ?_),r5⟩,hok,λh12=>(hF f hf).1.lead p hp (r1 h12),λh2 h6=>?_⟩
  ·unfold PI.aO;rw[iP9 hs];exact(r3 h6).2
  ·unfold PI.aO;rw[iP9 hs];exact r4 h5
  ·rcases alu _ _ _ hp with hy|hy
   ·exact hy
   ·have hl:=(hF f hf).1.last;unfold zj at hl;rw[hy]at hl;simp only at hl;rw[r2 h2 h6]at hl;cases hl
 ·have:=anp _ _ _ _ (by rw[hm];exact hq5) (λm hm'=>by cases hm');rw[hm]at this;exact this.2
theorem aly(r:PR):(oneP r).1<=255:=by
 unfold oneP;split
 ·exact b5 _
 ·rename_i b l _
  have:=b.toNat_lt;simp only;omega
theorem aks(r:PR):(dA r).1.length<=255:=bO (akr _ _) (aly r)
theorem ake:∀(k:Nat) (r:PR) (last:tLB) (acc:List az),(∀m∈acc,m.name.length<=255)->∀m∈(mapsP k r last acc).1,m.name.length<=255
 |0,r,last,acc,h=>h
 |k+1,r,last,acc,h=>by
  rw[mapsP];refine ake k _ _ _ (λm hm=>?_);rcases List.mem_append.1 hm with hm|hm
  ·exact h m hm
  ·rw[List.mem_singleton.1 hm];exact aks r
theorem ajW:∀(k:Nat) (r:PR) (last:tLB) (all:Nat) (acc:List fH),(∀h∈acc,h.name.length<=255)->∀h∈(headsP k r last all acc).1,h.name.length<=255
 |0,r,last,all,acc,h=>h
 |k+1,r,last,all,acc,h=>by
  rw[headsP];refine ajW k _ _ _ _ (λm hm=>?_);rcases List.mem_append.1 hm with hm|hm
  ·exact h m hm
  ·rw[List.mem_singleton.1 hm];exact aks r
theorem ajX:∀(hs:List fH) (r:PR) (acc:List aS),(∀h∈hs,h.name.length<=255)->(∀f∈acc,f.name.length<=255)->∀f∈(codesP hs r acc).1,f.name.length<=255
 |[],r,acc,_,h=>h
 |x::hs,r,acc,hh,h=>by
  rw[codesP];refine ajX hs _ _ (λy hy=>hh y (ba _ hy)) (λm hm=>?_);rcases List.mem_append.1 hm with hm|hm
  ·exact h m hm
  ·rw[List.mem_singleton.1 hm];exact hh x (bt ..)
theorem akQ(r:PR):∀f∈(jH r).1,f.name.length<=255:=by
 unfold jH;simp only;split
 ·intro f hf;cases hf
 ·exact ajX _ _ _ (ajW _ _ _ _ _ (λh hh=>by cases hh)) (λf hf=>by cases hf)
theorem akf{s:tLB}(h:(dP s).2.2.bad=false):(∀f∈(dP s).2.1,f.name.length<=255/\f.code.length<=2000)/\(∀m∈(dP s).1,m.name.length<=255/\m.key<256/\m.value<256/\m.entries<256)/\(dP s).2.1.length<=1000/\(dP s).1.length<=1000:=by
 have hm:=(ajm h).2;have e:∃(k:Nat) (r:PR),k<=255/\(dP s).1=(mapsP k r [] []).1/\(dP s).2.1=(jH (mapsP k r [] []).2).1:=⟨_,_,aly _,rfl,rfl⟩
 obtain⟨k,r,hk,e1,e2⟩:=e;rw[e1]at hm ⊢;rw[e2];obtain⟨c1,c2,_⟩:=Bi (mapsP k r [] []).2;refine⟨λf hf=>⟨akQ _ f hf,c2 f hf⟩,λm hm'=>?_,by omega,by rw[yO];simp;omega⟩;obtain⟨a,b,c⟩:=hm m hm';exact⟨ake k r [] [] (λm hm=>by cases hm) m hm',by omega,by omega,by omega⟩
def Made(w:tW)(MU:tLB)(sb:Nat)(w':tW):Prop:=∃bs b vF vM gs mb tv wT,ak w' sb #[pt b] 58/\w.heap.size<=sb/\aa ae w w'/\aa ae w wT/\dR (.int .i32 0) (.int .u32 0) wT tv bs b vF (dP MU).2.1 gs (MT vM mb (dP MU).1.length) [] (jB (dP MU).1) w'/\∀k,Whole b vF gs (MT vM mb (dP MU).1.length) k->w.heap.size<=k
theorem uq.made{w w':tW}{MU:tLB}(hD:(dP MU).2.2.bad=false){e:Ending}(h:uq w (dP MU) e w'):∃sb,e=.returned (.tuple #[pt sb,.int .i64 0])/\Made w MU sb w':=by
 unfold uq at h;rw[iN9 (by rw[hD];decide)]at h;obtain⟨sb,bs,b,vF,vM,gs,mb,tv,wT,he,hO,mT,hP,hA,hB,hl,m⟩:=h;refine⟨sb,he,bs,b,vF,vM,gs,mb,tv,wT,hB,hl,m,mT,hA.mch hO (ajm hD).2,λk hk=>?_⟩;refine bO mT.size ?_;rcases hk with rfl|hk|hk|hk|hk
 ·exact hA.lo
 ·exact(hA.mch hO (ajm hD).2).base k hk
 ·exact hA.oH k hk
 ·exact hA.l8 k hk
 ·exact hA.qH k hk
theorem ajF(w:tW)(hW:sV w)(MU:tLB)(hs:MU.length<=maxLen)(hD:(dP MU).2.2.bad=false):Calls prog 16 #[.string (T MU)] w λe w'=>∃sb,e=.returned (.tuple #[pt sb,.int .i64 0])/\Made w MU sb w' :=
 (Q0 w (T MU) (dP MU) (Uz w hW MU hs (λh=>akf h))).mono (λ_ _ h=>h.made hD)
set_option linter.all false
def u8s(l:List Nat):tLB:=l.map UInt8.ofNat
theorem amX(l:List Nat):strOf l=T (u8s l):=rfl
theorem akt(w:tW)(a b:tLB)(g:Nat):Calls prog 373 #[.agg #[.string (T a),.pointer (some ⟨g,0,none⟩)],.string (T b)] w λe w'=>e=.returned (.int .i64 (ab a b))/\aa ae w w':=by have HC:af (∀w',Calls prog 153 #[.string (T a),.string (T b)] w' λe w''=>e=.returned (.int .i64 (ab a b))/\w''=w'):=λw'=>Mi w' a b;generalize T a=sa at *;generalize T b=sb at *;go_enter func373,ntmps373;go_wp2_with fail;refine(HC.o _).mono ?_;rintro e w2 ⟨rfl,rfl⟩;go_wp2_with fail;go_ret;exact⟨rfl,aj⟩
theorem amY(w:tW)(vE:Value)(ks:List (List Nat×Nat))(rb key:List Nat)(f:Nat)(B:Bool)(hS:Sl w 148 2 vE ks.length (ks.flatMap (meC rb)))(hl:ks.length<=1000000)(hf:f<=ks.length)(hP:∀k (h:k<ks.length),ab (u8s ks[k].1) (u8s key)<0↔k<f) (hB0:¬f<ks.length->B=false) (hB1:∀h:f<ks.length,B=decide (ab (u8s ks[f].1) (u8s key)=0)):Calls prog 372 #[vE,.string (strOf key),.func (.func 373) #[] #[]] w λe w'=>e=.returned (.tuple #[.int .i64 f,.bool B])/\aa ae w w':=by
 obtain⟨oE,cE,hvE,_⟩:=hS.view;subst hvE;have HS:=ai hS;have HP:=ai hP;have HB0:=ai hB0;have HB1:=ai hB1;clear hS hP hB0 hB1;have hE1:=enters_of (P:=prog) func373 (by kernel_rfl) rfl;rw[amX];go_enter func372,ntmps372;go_upto_block 0 with fail;go_wp2_with fail;go_loopg [9,10] ks.length (λg iv jv wx=>∃i j:Nat,i<=f/\f<=j/\j<=ks.length/\iv=.int .i64 i/\jv=.int .i64 j/\aa ae w wx/\g=j-i)
 case atStart=>exact⟨0,ks.length,b5 _,hf,bj _,rfl,rfl,ax,rfl⟩
 case round =>
  obtain⟨i,j,hi,hj,hn,rfl,rfl,hmd,rfl⟩:=hrel;have nP:=ai hmd;clear hmd;by_cases hlt:i<j
  ·have HIJ:af (((i:Int)+j)/2=((i+j)/2:Nat)):=by unfold af;omega
   go_upto_region 5 with fail;obtain⟨o',cap',hvv,h2⟩:=(HS.o.ag nP.o (λ_ _=>id)).view;cases hvv;obtain⟨g,cs,rfl,hb',ht',_⟩:=h2 (by omega);have hk:(i+j)/2<ks.length:=by omega
   obtain⟨k,hkk⟩:∃k,k=(i+j)/2:=⟨_,rfl⟩
   rw[<-hkk]at hk;have c0:wr.cell? ⟨g,k*2,none⟩=some (.string (T (u8s ks[k].1))):=by rw[aW hb' ht' (k*2) (by omega)];exact flat_get (meC rb) 2 (λ_=>rfl) ks k 0 hk (by omega)
   have c1:wr.cell? ⟨g,k*2+1,none⟩=some (.pointer (some ⟨rb.getD ks[k].2 0,0,none⟩)):=by rw[aW hb' ht' (k*2+1) (by omega)];exact flat_get (meC rb) 2 (λ_=>rfl) ks k 1 hk (by omega)
   have HC:=ai (akt wr (u8s ks[k].1) (u8s key) (rb.getD ks[k].2 0));have HK:=ai (HP.o k hk);clear hb' ht' h2;generalize T (u8s ks[k].1)=tk at *;generalize T (u8s key)=tx at *;generalize ab (u8s ks[k].1) (u8s key)=cm at *;generalize rb.getD ks[k].2 0=pk at *;have HE:af (((i:Int)+j)/2=k):=HIJ.o.trans (by rw[hkk]);rw[HE.o];have hki:i<=k:=by omega
   have hkj:k<j:=by omega
   clear hkk HIJ HE;go_wp2_with fail;refine HC.o.mono ?_;rintro e w2 ⟨rfl,m2⟩;have dD:=ai (nP.o.trans m2);clear m2 HC nP c0 c1;by_cases hc:cm<0
   ·have hkf:k<f:=HK.o.1 hc;clear HK;go_wp2_with fail;go_roundg (j-(k+1))
    case measure=>omega
    case rel=>exact⟨k+1,j,hkf,hj,hn,by go_num,rfl,dD.o,rfl⟩
   ·have hkf:f<=k:=Nat.not_lt.1 (λh=>hc (HK.o.2 h));clear HK;go_wp2_with fail;go_roundg (k-i)
    case measure=>omega
    case rel=>exact⟨i,k,hi,hkf,by omega,rfl,rfl,dD.o,rfl⟩
  ·obtain rfl:i=f:=by omega
   obtain rfl:j=i:=by omega
   clear hlt hi hj;by_cases hfl:j<ks.length
   ·obtain⟨o',cap',hvv,h2⟩:=(HS.o.ag nP.o (λ_ _=>id)).view;cases hvv;obtain⟨g,cs,rfl,hb',ht',_⟩:=h2 (by omega);have c0:wr.cell? ⟨g,j*2,none⟩=some (.string (T (u8s ks[j].1))):=by rw[aW hb' ht' (j*2) (by omega)];exact flat_get (meC rb) 2 (λ_=>rfl) ks j 0 hfl (by omega)
    have c1:wr.cell? ⟨g,j*2+1,none⟩=some (.pointer (some ⟨rb.getD ks[j].2 0,0,none⟩)):=by rw[aW hb' ht' (j*2+1) (by omega)];exact flat_get (meC rb) 2 (λ_=>rfl) ks j 1 hfl (by omega)
    have HC:=ai (akt wr (u8s ks[j].1) (u8s key) (rb.getD ks[j].2 0));have Pm:=ai (HB1.o hfl);clear hb' ht' h2 HB0 HB1 HP HS;generalize T (u8s ks[j].1)=tk at *;generalize T (u8s key)=tx at *;generalize ab (u8s ks[j].1) (u8s key)=cm at *;generalize rb.getD ks[j].2 0=pk at *;go_wp2_with fail;refine HC.o.mono ?_;rintro e w2 ⟨rfl,m2⟩;have dD:=ai (nP.o.trans m2);clear m2 HC nP c0 c1;obtain rfl:B=(cm==0):=Pm.o;clear Pm;go_wp2_with fail;go_ret2;exact⟨rfl,dD.o⟩
   ·have hBt:B=false:=HB0.o hfl;subst hBt;clear HB0 HB1 HP HS;generalize T (u8s key)=tx at *;go_wp2_with fail;go_ret2;exact⟨rfl,nP.o⟩
set_option linter.all false
theorem anq{x y:Nat}(hx:x<256)(hy:y<256):UInt8.ofNat x<UInt8.ofNat y↔x<y:=by rw[UInt8.lt_iff_toNat_lt,UInt8.toNat_ofNat',UInt8.toNat_ofNat',Nat.mod_eq_of_lt hx,Nat.mod_eq_of_lt hy]
theorem akg:∀a b:List Nat,(∀x∈a,x<256)->(∀x∈b,x<256)->(ab (u8s a) (u8s b)<0↔ltNs a b=true)/\(ab (u8s a) (u8s b)=0↔a=b)
 |[],[],_,_=>by simp[u8s,ab,ltNs]
 |[],y::b,_,_=>by simp[u8s,ab,ltNs]
 |x::a,[],_,_=>by simp[u8s,ab,ltNs]
 |x::a,y::b,ha,hb=>by
  have hx:=ha x (by simp);have hy:=hb y (by simp);have ih:=akg a b (λz hz=>ha z (by simp[hz])) (λz hz=>hb z (by simp[hz]));have e1:=anq hx hy;have e2:=anq hy hx;show(ab (UInt8.ofNat x::u8s a) (UInt8.ofNat y::u8s b)<0↔_)/\(ab (UInt8.ofNat x::u8s a) (UInt8.ofNat y::u8s b)=0↔_)
  unfold ab ltNs;by_cases h1:x<y
  ·rw[iP9 (e1.2 h1),iP9 h1];refine⟨by simp,?_⟩;have:x≠y:=by omega
   simp[this]
  ·rw[iN9 (λh=>h1 (e1.1 h)),iN9 h1];by_cases h2:y<x
   ·rw[iP9 (e2.2 h2),iP9 h2];refine⟨by simp,?_⟩;have:x≠y:=by omega
    simp[this]
   ·rw[iN9 (λh=>h2 (e2.1 h)),iN9 h2];obtain rfl:x=y:=by omega
    refine⟨ih.1,ih.2.trans (by simp)⟩
theorem ajG:∀a b c:List Nat,ltNs a b=true->ltNs b c=true->ltNs a c=true
 |[],_,[],_,h=>by cases ‹List Nat›<;>simp[ltNs]at h
 |[],_,_::_,_,_=>rfl
 |_::_,[],_,h,_=>by simp[ltNs]at h
 |_::_,_::_,[],_,h=>by simp[ltNs]at h
 |x::a,y::b,z::c,h,h'=>by
  unfold ltNs at h h' ⊢;by_cases h1:x<y
  ·by_cases h2:y<z
   ·rw[iP9 (by omega)]
   ·rw[iN9 h2]at h';by_cases h3:z<y
    ·rw[iP9 h3]at h';cases h'
    ·rw[iP9 (by omega)]
  ·rw[iN9 h1]at h;by_cases h2:y<x
   ·rw[iP9 h2]at h;cases h
   ·rw[iN9 h2]at h;obtain rfl:x=y:=by omega
    by_cases h3:x<z
    ·rw[iP9 h3]
    ·rw[iN9 h3]at h' ⊢;by_cases h4:z<x
     ·rw[iP9 h4]at h';cases h'
     ·rw[iN9 h4]at h' ⊢;exact ajG a b c h h'
theorem ajv:∀(ks:List (List Nat×Nat)) (key:List Nat),ks.Pairwise (λa b=>ltNs a.1 b.1=true)->∀k (h:k<ks.length),ltNs ks[k].1 key=true↔k<Cb ks key
 |[],_,_,k,h=>absurd h (Nat.not_lt_zero _)
 |e::r,key,hs,k,h=>by
  obtain⟨h1,h2⟩:=List.pairwise_cons.1 hs;have ih:=ajv r key h2;by_cases he:ltNs e.1 key=true
  ·have ef:Cb (e::r) key=Cb r key+1:=by simp[Cb,he]
   rw[ef];cases k with
   |zero=>simp[he]
   |succ k=>simpa using ih k (by simpa using h)
  ·have e0:Cb r key=0:=by refine List.countP_eq_zero.2 (λx hx=>?_);exact λhx2=>he (ajG _ _ _ (h1 x hx) hx2)
   have ef:Cb (e::r) key=0:=by
    have:Cb (e::r) key=Cb r key:=by simp[Cb,he]
    rw[this,e0]
   rw[ef];cases k with
   |zero=>simp[he]
   |succ k =>
    have:=(ih k (by simpa using h))
    rw[e0]at this
    simpa using this
theorem ajw(ks:List (List Nat×Nat))(key:List Nat):Cb ks key<=ks.length:=List.countP_le_length
theorem ajA(w:tW)(m:Nat)(nm:Value)(c1 c2 c3:Value)(vE:Value)(ks:List (List Nat×Nat))(rb key:List Nat)(hB:ak w m #[nm,c1,c2,c3,vE] 85)(hS:Sl w 148 2 vE ks.length (ks.flatMap (meC rb)))(hl:ks.length<=1000000)(hs:ks.Pairwise (λa b=>ltNs a.1 b.1=true)) (hk:∀e∈ks,∀b∈e.1,b<256) (hy:∀b∈key,b<256):Calls prog 359 #[pt m,.string (strOf key)] w λe w'=>e=.returned (.tuple #[.int .i64 (Cb ks key),.bool (K8 ks key)])/\aa ae w w':=by
 have HC:af (Calls prog 372 #[vE,.string (strOf key),.func (.func 373) #[] #[]] w λe w'=>e=.returned (.tuple #[.int .i64 (Cb ks key),.bool (K8 ks key)])/\aa ae w w'):=by
  refine amY w vE ks rb key (Cb ks key) (K8 ks key) hS hl (ajw _ _) (λk h=>?_) (λh=>?_) (λh=>?_)
  ·rw[(akg _ _ (hk _ (bh h)) hy).1];exact ajv ks key hs k h
  ·simp[K8,h]
  ·have e:ks.getD (Cb ks key) ([],0)=ks[Cb ks key]:=by rw[List.getD_eq_getElem?_getD,List.getElem?_eq_getElem h];rfl
   unfold K8;rw[e];have:=(akg _ _ (hk _ (bh h)) hy).2;simp[h,this]
 obtain⟨oE,cE,hvE,_⟩:=hS.view;subst hvE;have x4:w.cell? ⟨m,4,none⟩=some (.slice oE ks.length cE):=hB.cell 4;clear hB hS hs hk hy;generalize strOf key=sk at *;generalize K8 ks key=B at *;generalize Cb ks key=f at *;go_enter func359,ntmps359;go_wp2_with fail;refine HC.o.mono ?_;rintro e w2 ⟨rfl,m2⟩;go_wp2_with fail;go_ret2;exact⟨rfl,m2⟩
set_option linter.all false
theorem alQ(w:tW)(m:Nat)(nm:Value)(c1 c2 c3:Value)(vE:Value)(ks:List (List Nat×Nat))(rb mb key:List Nat)(hB:ak w m #[nm,c1,c2,c3,vE] 85)(hS:Sl w 148 2 vE ks.length (ks.flatMap (meC rb)))(hl:ks.length<=1000000)(hs:ks.Pairwise (λa b=>ltNs a.1 b.1=true)) (hk:∀e∈ks,∀b∈e.1,b<256) (hy:∀b∈key,b<256):Calls prog 331 #[pt m,.string (strOf key)] w λe w'=>e=.returned (.agg ((if K8 ks key then uA (K9 ks key) 0 else kI 0).cells rb mb).toArray)/\aa ae w w':=by
 have HF:af (∀w',aa ae w w'->Calls prog 359 #[pt m,.string (strOf key)] w' λe w''=>e=.returned (.tuple #[.int .i64 (Cb ks key),.bool (K8 ks key)])/\aa ae w' w''):=λw' m'=>ajA w' m nm c1 c2 c3 vE ks rb key (hB.ag m' id) (hS.ag m' (λ_ _ e=>e)) hl hs hk hy;obtain⟨oE,cE,hvE,_⟩:=hS.view;subst hvE;have HX:af (∀w',aa ae w w'->w'.cell? ⟨m,4,none⟩=some (.slice oE ks.length cE)):=λw' m'=>(hB.ag m' id).cell 4
 have HE:af (K8 ks key=true->∃g,oE=some ⟨g,0,none⟩/\Cb ks key<ks.length/\∀w',aa ae w w'->w'.cell? ⟨g,Cb ks key*2+1,none⟩=some (.pointer (some ⟨rb.getD (K9 ks key) 0,0,none⟩))):=λhf=>by
  have hlt:Cb ks key<ks.length:=by unfold K8 at hf;simp at hf;exact hf.1
  obtain⟨o',cap',hvv,h2⟩:=hS.view;cases hvv;obtain⟨g,cs,rfl,_,_,_⟩:=h2 (by omega);refine⟨g,rfl,hlt,λw' m'=>?_⟩;obtain⟨o',cap',hvv,h2⟩:=(hS.ag m' (λ_ _ e=>e)).view;cases hvv;obtain⟨g',cs,hg,hb',ht',_⟩:=h2 (by omega);injection hg with hg;injection hg with hg;subst hg;rw[aW hb' ht' (Cb ks key*2+1) (by omega)];refine(flat_get (meC rb) 2 (λ_=>rfl) ks (Cb ks key) 1 hlt (by omega)).trans ?_;have e:ks.getD (Cb ks key) ([],0)=ks[Cb ks key]:=by rw[List.getD_eq_getElem?_getD,List.getElem?_eq_getElem hlt];rfl
  unfold K9;rw[e];rfl
 have HB1:af (ak (w.alloc (.cells #[.int .i64 0,.int .u64 0,.pointer none,.pointer none] 130)) w.heap.size #[.int .i64 0,.int .u64 0,.pointer none,.pointer none] 130):=ak.new _ _ _;have dh:af (aa ae w (w.alloc (.cells #[.int .i64 0,.int .u64 0,.pointer none,.pointer none] 130))):=aj;have HVN:af (∀w',Calls prog 56 #[.int .u64 (0:Nat)] w' λe w''=>e=.returned (.agg #[.int .i64 0,.int .u64 0,.pointer none,.pointer none])/\aa ae w' w''):=λw'=>xN w' rb mb 0;have HVP:af (∀w',Calls prog 55 #[.pointer (some ⟨rb.getD (K9 ks key) 0,0,none⟩),.int .u64 (0:Nat)] w' λe w''=>e=.returned (.agg #[.int .i64 2,.int .u64 0,.pointer (some ⟨rb.getD (K9 ks key) 0,0,none⟩),.pointer none])/\aa ae w' w''):=λw'=>IE w' rb mb (K9 ks key) 0;clear hB hS hs hk hy;have Cs:af (K8 ks key=true->((if K8 ks key then uA (K9 ks key) 0 else kI 0).cells rb mb).toArray=#[.int .i64 2,.int .u64 0,.pointer (some ⟨rb.getD (K9 ks key) 0,0,none⟩),.pointer none]):=λh=>by rw[iP9 h];rfl
 have iA:af (K8 ks key=false->((if K8 ks key then uA (K9 ks key) 0 else kI 0).cells rb mb).toArray=#[.int .i64 0,.int .u64 0,.pointer none,.pointer none]):=λh=>by rw[h];rfl
 generalize((if K8 ks key then uA (K9 ks key) 0 else kI 0).cells rb mb).toArray=R at *;generalize strOf key=sk at *;generalize rb.getD (K9 ks key) 0=pq at *;generalize K8 ks key=B at *;generalize Cb ks key=f at *;go_enter func331,ntmps331;go_upto_region 1 with fail;generalize w.alloc (.cells #[.int .i64 0,.int .u64 0,.pointer none,.pointer none] 130)=W1 at *;go_wp2_with fail;refine(HF.o W1 dh.o).mono ?_;rintro e w2 ⟨rfl,m2⟩;have dD:=ai (dh.o.trans m2);have HB2:=ai (HB1.o.ag m2 id);clear m2 dh HB1 HF;cases B
 ·have hR:=iA.o rfl;subst hR;clear Cs iA HE HX HVP;go_wp2_with fail;refine(HVN.o _).mono ?_;rintro e w3 ⟨rfl,m3⟩;have dw:=ai (dD.o.trans m3);have HB3:=ai (HB2.o.ag m3 id);clear m3 dD HB2 HVN;have z0:=HB3.o.cell 0;have z1:=HB3.o.cell 1;have z2:=HB3.o.cell 2;have z3:=HB3.o.cell 3;have zf:=HB3.o.frozen;go_wp2_with fail;refine bodyPost_ret (results_cell_row results331 _ _ w.heap.size 130 _ (0,0) _ rfl ((((HB3.o.set 0 _).set 1 _).set 2 _).set 3 _) underlying130 rfl (by kernel_rfl)) rfl ⟨rfl,?_⟩;have q:∀{X:tW} (i:Nat) (u:Value),aa ae w X->aa ae w (X.setCell ⟨w.heap.size,i,none⟩ u):=λi u m=>m.set (a:=⟨w.heap.size,i,none⟩) (Or.inr (bj _)) u;exact q 3 _ (q 2 _ (q 1 _ (q 0 _ dw.o)))
 ·obtain⟨g,rfl,hlt,hc⟩:=HE.o rfl;have y0:=HX.o w2 dD.o;have y1:=hc w2 dD.o;have hR:=Cs.o rfl;subst hR;clear Cs iA HE HX HVN hc;go_wp2_with fail;refine(HVP.o _).mono ?_;rintro e w3 ⟨rfl,m3⟩;have dw:=ai (dD.o.trans m3);have HB3:=ai (HB2.o.ag m3 id);clear m3 dD HB2 HVP y0 y1;have z0:=HB3.o.cell 0;have z1:=HB3.o.cell 1;have z2:=HB3.o.cell 2;have z3:=HB3.o.cell 3;have zf:=HB3.o.frozen;go_wp2_with fail;refine bodyPost_ret (results_cell_row results331 _ _ w.heap.size 130 _ (0,0) _ rfl ((((HB3.o.set 0 _).set 1 _).set 2 _).set 3 _) underlying130 rfl (by kernel_rfl)) rfl ⟨rfl,?_⟩;have q:∀{X:tW} (i:Nat) (u:Value),aa ae w X->aa ae w (X.setCell ⟨w.heap.size,i,none⟩ u):=λi u m=>m.set (a:=⟨w.heap.size,i,none⟩) (Or.inr (bj _)) u;exact q 3 _ (q 2 _ (q 1 _ (q 0 _ dw.o)))
set_option linter.all false
theorem ajK:(prog.info? 148).map (λi=>(i.zero,i.size,i.bytes))=some (some (.agg #[.string ⟨#[]⟩,.pointer none]),2,24):=by kernel_rfl
theorem an5(w:tW):(zeroValue 148).run prog w=.ok (.agg #[.string ⟨#[]⟩,.pointer none]) w:=by obtain⟨i,hi,hz,hs,hb⟩:=info_parts ajK;simp[zeroValue,typeInfo,hi,hz]
theorem ale:(Builtin.zeroCells #[.string ⟨#[]⟩,.pointer none] 1).toList=[.string ⟨#[]⟩,.pointer none]:=by kernel_rfl
theorem akp(w:tW)(ty:TypeId)(b o c:Nat)(hc:∀j,j<2->(w.cell? ⟨b,o+j,none⟩).isSome=true)(hf:∀j,j<2->w.frozen? ⟨b,o+j,none⟩=false):(Builtin.clear_ #[83] ty #[.slice (some ⟨b,o,none⟩) 1 c]).run prog w=.ok (.tuple #[]) (w.setCells b o [.string ⟨#[]⟩,.pointer none]):=by have hst:=run_storeCells_cells (P:=prog) b o [.string ⟨#[]⟩,.pointer none] 0 w hc hf (by intro v hv;simp only[List.mem_cons,b9,or_false]at hv;rcases hv with rfl|rfl<;>rfl);simp only[Nat.add_zero]at hst;simp[Builtin.clear_,run_underlying underlying83,an5,Value.cells,ale,hst]
theorem akR(w:tW)(ty:TypeId)(g n cap i:Nat)(cur:tAV)(hg:ak w g cur 148)(hi:i<n)(hn:n<=cap)(hs:n*2<=cur.size)(h1:∀u∈cur.toList.take (n*2),u.oneCell'=true)(c:Nat)(AD:Addr)(hD:AD=⟨g,(i+1)*2,none⟩\/n=i+1):(Builtin.append_ #[83,83] ty #[.slice (some ⟨g,0,none⟩) i cap,.slice (some AD) (n-(i+1)) c]).run prog w = .ok (.slice (some ⟨g,0,none⟩) (n-1) cap) (w.setRow g (cur.toList.take (i*2)++(cur.toList.drop ((i+1)*2)).take ((n-(i+1))*2)++cur.toList.drop ((n-1)*2)).toArray):=by
 obtain⟨j,hj,hz,hs2,hb⟩:=info_parts ajK;have hl:((cur.toList.drop ((i+1)*2)).take ((n-(i+1))*2)).length=(n-(i+1))*2:=by rw[al,an,ar];omega
 have:=run_append_room (P:=prog) w 83 ty 148 j underlying83 hj g i cap cur hg AD (n-(i+1)) c ((cur.toList.drop ((i+1)*2)).take ((n-(i+1))*2)) (by rw[hl,hs2]) (λk u hu=>?_) (λu hu=>h1 u (by
  rw[List.take_drop]at hu;have e:(i+1)*2+(n-(i+1))*2=n*2:=by omega
  rw[e]at hu;exact List.mem_of_mem_drop hu)) (by omega) (by rw[hl,hs2];omega)
 ·rw[this,hl,hs2];have e1:i+(n-(i+1))=n-1:=by omega
  have e2:i*2+(n-(i+1))*2=(n-1)*2:=by omega
  rw[e1,e2]
 ·rw[List.getElem?_take]at hu;split at hu
  ·obtain rfl:AD=⟨g,(i+1)*2,none⟩:=hD.resolve_right (by omega);rw[Addr.add_lit,hg.cell];rw[List.getElem?_drop]at hu;rw[<-Array.getElem?_toList];exact hu
  ·cases hu
theorem alf{P:Program}{w:tW}{ops:Array Oper}{rest:List Oper}{o:Oper}{a:Act}{Q:Exit->Act->tW->Prop}(hgd:o.guard=none)(s x:Operand)(t:TypeId)(ho:o.op=.call {callee:=.builtin .append,args:=#[s,x],argTypes:=#[t,t]}) (v u v':Value) (w':tW) (hs:a.eval s=v) (hx:a.eval x=u) (hr:(Builtin.append_ #[t,t] o.type #[v,u]).run P w=.ok v' w')(h:wpList P ops Q rest (a.put o.dst v') w'):wpList P ops Q (o::rest) a w :=
 wpList_plain hgd λ_ hK=>by unfold Oper.wp execOp;simp only[ho,resolve,invoke,builtin,Sem.run_bind,Sem.run_pure,Result.andThen_ok,List.map_toArray,List.map_cons,List.map_nil,hs,hx,hr];exact hK _ _ h
theorem alR(w:tW)(g k cap i:Nat)(cur CS:tAV)(hg:ak w g cur 148)(hi:i<=k)(hn:k+1<=cap)(hm:cap<=maxLen)(hs:(k+1)*2<=cur.size)(h1:∀u∈cur.toList.take ((k+1)*2),u.oneCell'=true)(hCS:(cur.toList.take (i*2)++(cur.toList.drop ((i+1)*2)).take ((k+1-(i+1))*2)++cur.toList.drop ((k+1-1)*2)).toArray=CS):Calls prog 361 #[.slice (some ⟨g,0,none⟩) (k+1) cap,.int .i64 i,.int .i64 ((i:Int)+1)] w λe w'=>e=.returned (.slice (some ⟨g,0,none⟩) k cap)/\∃w1,aa ae w w1/\w'=(w1.setRow g CS).setCells g (k*2) [.string ⟨#[]⟩,.pointer none]:=by
 have hmx:cap<=9223372036854775807:=hm
 obtain⟨AD,hAD,hD⟩:∃AD,(if cap=i+1 then some (⟨g,0,none⟩:Addr)else some ⟨g,(i+1)*2,none⟩)=some AD/\(AD=⟨g,(i+1)*2,none⟩\/k+1=i+1):=by
  split
  ·exact⟨_,rfl,.inr (by omega)⟩
  ·exact⟨_,rfl,.inl rfl⟩
 have HA:af (∀w',aa ae w w'->∀ty c,(Builtin.append_ #[83,83] ty #[.slice (some ⟨g,0,none⟩) i cap,.slice (some AD) (k-i) c]).run prog w'=.ok (.slice (some ⟨g,0,none⟩) k cap) (w'.setRow g CS)):=λw' m ty c=>by have:=akR w' ty g (k+1) cap i cur (hg.ag m id) (by omega) hn hs h1 c AD hD;rw[hCS,Nat.add_sub_add_right]at this;exact this
 have HB:af (∀w',aa ae w w'->ak (w'.setRow g CS) g CS 148):=λw' m=>(hg.ag m id).setRow _;have hsz:(k+1)*2<=CS.size:=by rw[<-hCS];simp only[bQ,aE,al,an,ar];omega
 have hne:((i:Int)==(i:Int)+1)=false:=beq_eq_false_iff_ne.2 (by omega);have HAD:=ai hAD;clear hm hAD hD hg h1 hs hCS;go_enter func361,ntmps361;go_upto_region 5 with fail;refine bJ 6 (by kernel_rfl) (by kernel_rfl) ?_;intro W hW;simp only[List.take_succ_cons,List.take_zero,bq,List.drop_zero]
 repeat(go_big_quiet_step (fail))
 rw[HAD.o];refine wpQuiet_nil ?_;have HM:af (aa ae w W):=by rw[hW];exact aJ
 clear hW;have hA2:=HA.o W HM.o 83 (cap-(i+1));clear HA;refine alf rfl (.tmp 22) (.tmp 25) 83 rfl (.slice (some ⟨g,0,none⟩) i cap) (.slice (some AD) (k-i) (cap-(i+1))) _ _ rfl rfl hA2 ?_;have hb:=HB.o W HM.o
 have XV:af (∀ty c,(Builtin.clear_ #[83] ty #[.slice (some ⟨g,k*2,none⟩) 1 c]).run prog (W.setRow g CS)=.ok (.tuple #[]) ((W.setRow g CS).setCells g (k*2) [.string ⟨#[]⟩,.pointer none])):=λty c=>akp (W.setRow g CS) ty g (k*2) c (λj hj=>by
  rw[hb.cell];have:k*2+j<CS.size:=by omega
  simp[this]) (λj _=>hb.frozen _)
 clear hb HB hsz hA2;simp only[Act.put,sA9,sB9,sC9];have Pc:af (∃w1,aa ae w w1/\(W.setRow g CS).setCells g (k*2) [.string ⟨#[]⟩,.pointer none]=(w1.setRow g CS).setCells g (k*2) [.string ⟨#[]⟩,.pointer none]):=⟨W,HM.o,rfl⟩
 generalize W.setRow g CS=W3 at *;have hcl:=XV.o;have hck:¬cap=k:=by omega
 go_wp2_with fail;go_ret;exact⟨rfl,Pc.o⟩
theorem alz(rb:List Nat)(xs:List (List Nat×Nat)):∀u∈xs.flatMap (meC rb),u.oneCell'=true:=λu hu=>by
 obtain⟨e,_,he⟩:=List.mem_flatMap.1 hu;simp only[meC,List.mem_cons,b9,or_false]at he;rcases he with rfl|rfl<;>rfl
theorem ajQ{α:Type}(f:α->List Value)(n:Nat)(hf:∀x,(f x).length=n):∀(l:List α) (k:Nat),(l.flatMap f).drop (k*n)=(l.drop k).flatMap f
 |_,0=>by simp
 |[],k+1=>by simp
 |x::l,k+1=>by
  rw[List.flatMap_cons,bq,<-ajQ f n hf l k,List.drop_append,hf x];have e:(k+1)*n-n=k*n:=by rw[Nat.succ_mul];omega
  rw[e,List.drop_eq_nil_of_le (by rw[hf x,Nat.succ_mul];omega),List.nil_append]
theorem amw(w:tW)(v:Value)(xs:List (List Nat×Nat))(rb:List Nat)(i:Nat)(hi:i<xs.length)(hS:Sl w 148 2 v xs.length (xs.flatMap (meC rb))):Calls prog 361 #[v,.int .i64 i,.int .i64 ((i:Int)+1)] w λe w'=>∃v',e=.returned v'/\v'.ownBlock=v.ownBlock/\Sl w' 148 2 v' (xs.take i++xs.drop (i+1)).length ((xs.take i++xs.drop (i+1)).flatMap (meC rb))/\aa (Own v) w w':=by
 rcases hS.2 with⟨_,h0⟩ |⟨g,cap,cur,rfl,hb,hg,hn,hm,hs,ht⟩
 ·omega
 obtain⟨k,hk⟩:∃k,xs.length=k+1:=⟨xs.length-1,by omega⟩
 rw[hk]at hn ht hi ⊢;have hB:ak w g cur 148:=hg;refine(alR w g k cap i cur _ hB (by omega) hn hm (by omega) (λu hu=>?_) rfl).mono ?_
 ·rw[ht]at hu;exact alz rb xs u hu
 rintro e w' ⟨rfl,w1,m1,rfl⟩;have hB1:=(hB.ag m1 id).setRow (cur.toList.take (i*2)++(cur.toList.drop ((i+1)*2)).take ((k+1-(i+1))*2)++cur.toList.drop ((k+1-1)*2)).toArray;obtain⟨cs',b1,b2,b3,b4⟩:=ajJ [.string ⟨#[]⟩,.pointer none] _ (k*2) _ hB1;have hlen:(xs.take i++xs.drop (i+1)).length=k:=by rw[aE,al,an];omega
 refine⟨_,rfl,rfl,?_,(aa.setRow (S:=Own (.slice (some ⟨g,0,none⟩) (k+1) cap)) (m1.mono (λ_ _ h=>h.elim)) (.inl rfl) _).trans (b4.mono (λk _ h=>by cases(show k=g from h);rfl))⟩;rw[hlen];refine⟨by rw[ajO (meC rb) 2 (λ_=>rfl),hlen],.inr ⟨g,cap,cs',rfl,hb,b1,by omega,hm,?_,?_⟩⟩
 ·rw[b2];simp only[bQ,aE,al,an,ar];omega
 ·have e1:cs'.toList.take (k*2)=(cur.toList.take (i*2)++(cur.toList.drop ((i+1)*2)).take ((k+1-(i+1))*2)++cur.toList.drop ((k+1-1)*2)).take (k*2):=by
   refine List.ext_getElem? λj=>?_;rw[List.getElem?_take,List.getElem?_take];by_cases hj:j<k*2
   ·rw[iP9 hj,iP9 hj,Array.getElem?_toList,b3 j hj,<-Array.getElem?_toList]
   ·rw[iN9 hj,iN9 hj]
  have hl:(cur.toList.take (i*2)++(cur.toList.drop ((i+1)*2)).take ((k+1-(i+1))*2)).length=k*2:=by rw[aE,al,al,an,ar];omega
  rw[e1,List.take_append_of_le_length (by omega),List.take_of_length_le (by omega),List.flatMap_append,<-ajP (meC rb) 2 (λ_=>rfl),<-ajQ (meC rb) 2 (λ_=>rfl),<-ht,List.take_take,Nat.min_eq_left (by omega),List.take_drop];have e2:(i+1)*2+(k+1-(i+1))*2=(k+1)*2:=by omega
  rw[e2]
