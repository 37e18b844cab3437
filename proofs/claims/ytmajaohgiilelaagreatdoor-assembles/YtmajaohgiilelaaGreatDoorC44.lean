import Derived.Test.YtmajaohgiilelaaGreatDoorC41
import Derived.Test.YtmajaohgiilelaaGreatDoorC42
namespace Go.Proofs.YtmajaohgiilelaaGreatDoor
open Go.RowKit Tryz
open List renaming length_map->an,map_map->ao,getElem_map->ar,map_cons->bh,pairwise_map->bj,take_of_length_le->bt,length_reverse->b9,mem_cons_of_mem->cb,reverse_perm->cc
open Nat renaming le_refl->ba,zero_le->ca
set_option linter.all false
set_option maxRecDepth 100000
set_option maxHeartbeats 1000000
theorem Ug{w:tBA}(h:aD w≠0):w.size<=100:=by
 have hR:∀x∈gW,x.size<=50:=by decide
 have hC:∀x∈fD,x.size<=50:=by decide
 unfold aD at h;split at h
 ·rename_i h1
  have h2:=hR _ (Al.1 h1);unfold fM at h2;split at h2
  ·rw[ByteArray.size_extract]at h2;omega
  ·omega
 split at h
 ·rename_i h1
  have:=hC _ (Al.1 h1);omega
 split at h
 ·rename_i h1;rw[mB w _ h1];decide
 split at h
 ·rename_i h1;rw[mB w _ h1];decide
 split at h
 ·rename_i h1;rw[h1];decide
 split at h
 ·rename_i h1;rw[h1];decide
 split at h
 ·rename_i h1;rw[h1];decide
 split at h
 ·rename_i h1;rw[h1];decide
 ·exact absurd rfl h
theorem acO{x:bH}{y:aj}(hI:mh x y)(hf:x.fits=true):y.ri.Fit:=by
 have hl:=hI.lt
 have hoff:y.tZ=false:=by
  have:=hI.fits;rw[hf]at this;cases h:y.tZ with
  |false=>rfl
  |true=>rw[h]at this;cases this
 unfold aj.tZ at hoff;simp only[Bool.or_eq_false_iff]at hoff;obtain⟨⟨hoj,_⟩,_⟩:=hoff;have hd:y.ri.d=(x.r.d:Int):=hI.d;have hdb:=hI.db
 have hj:-32768<=y.ri.jump/\y.ri.jump<=32767:=by
  show -32768<=(if y.hj then y.j.signed else y.i.jump)/\(if y.hj then y.j.signed else y.i.jump)<=32767
  by_cases e:y.hj=true
  ·rw[iP9 e];rw[e,Bool.true_and]at hoj;have hn:=pH y.j 32768 (by decide);rw[hoj]at hn;cases hs:y.j.aO 32768 with
   |none=>rw[hs]at hn;cases hn
   |some v =>have h1:=Ah hs (by decide);rw[Em hs];omega
  ·rw[iN9 e,hl.j];decide
 have hn:0<=y.ri.n/\y.ri.n<18446744073709551616:=by
  show 0<=(if y.hn then y.n.bits else y.i.n)/\(if y.hn then y.n.bits else y.i.n)<18446744073709551616
  split
  ·rw[Ag];exact⟨Int.emod_nonneg _ (by decide),Int.emod_lt_of_pos _ (by decide)⟩
  ·rw[hl.n];decide
 have hs0:aD y.ri.word≠0:=by
  show aD y.i.word≠0
  rcases hl.so with h|h|h|h|h|h|h|h
  ·rw[h];decide
  ·rw[h];decide
  ·rw[h.1];decide
  ·rw[h];decide
  ·rw[h];decide
  ·rw[h];decide
  ·rw[h];decide
  ·rw[h];decide
 refine⟨by omega,by omega,?_,hl.s0,hj.1,hj.2,hn.1,hn.2,Ug hs0,hl.l,?_,hl.b,hl.so⟩
 ·have:=hl.s1;show y.i.s<=15
  omega
 ·show y.i.name.size<=300
  rw[hI.name];rcases hI.nm with e|e
  ·rw[e];decide
  ·have:=oG e;omega
theorem Me:∀(xs:List GI) (s:Nat),wP s xs->(∀z∈xs,z.x.k<88)->(∀z∈xs,s<=z.slot/\z.slot<s+CJ xs)/\xs.length<=CJ xs
 |[],s,_,_=>⟨λz h=>(by cases h),ca _⟩
 |y::xs,s,h1,h2=>by
  obtain⟨i1,i2⟩:=Me xs _ h1.2 (λz hz=>h2 z (by simp[hz]));have hp:=Ck y.x (h2 y (by simp));have e:CJ (y::xs)=y.x.o.slots+CJ xs:=by simp[CJ]
  rw[e];refine⟨λz hz=>?_,by rw[List.length_cons];omega⟩;rcases List.mem_cons.1 hz with rfl|hz
  ·rw[h1.1];omega
  ·have:=i1 z hz;omega
structure vW(ps:List (bV×aj)):Prop where
 rd:Read ps
 z:∀m p,ps[m]?=some p->bQ (ai (ps.map (·.1))) (kQ ((ps.map (·.1)).take m)) p.1=0
 len:ps.length<=5000
 lok:∀p∈ps,YG p.1
section
variable {ps : List (bV × aj)}
theorem vW.g(h:vW ps):RG (ai (ps.map (·.1))) (gAt ps ps.length) (Cn ps ps.length) (ai (ps.map (·.1))) (kQ (ps.map (·.1))) (aK (ai (ps.map (·.1))) (ps.map (·.1))):=by
 have hG:=h.rd.at ps.length (ba _)
 rwa [bt (by rw[an];exact ba _)]at hG
theorem vW.clean(h:vW ps):∀g∈(gAt ps ps.length).gs,∀z∈g.xs,z.Clean g:=λg hg z hz=>by
 have hG:=h.g;obtain⟨m,p,hm,hp,hk,hzx,hzy,hzl,hgx⟩:=(h.rd.lines ps.length (ba _)).i1 g hg z hz;have hno:=(vV _ _ _).1 (h.z m p hp);have hfl:(kQ ((ps.map (·.1)).take m)).funcs.length=g.ix+1:=by rw[(h.rd.at m (by omega)).kf,b9,an,hgx]
 constructor
 ·cases hf:z.x.fits with
  |true=>rfl
  |false=>exact absurd (.inl (.inr (.inr (.inr ⟨hk,.inl ⟨rfl,by rw[<-hzx];exact hf⟩⟩)))) (hno 3)
 ·cases hf:(z.x.o.jumps&&!fK g.dW z.x.r.label)with
  |false=>rfl
  |true =>refine absurd (.inr (.inr ⟨hk,rfl,.inl ?_⟩)) (hno 5);unfold EF;rw[hfl,Nat.add_sub_cancel,wQ hG hg,<-hzx];exact hf
theorem QZ(ps:List (bV×aj)):∀n,n<=ps.length->∀x∈(gAt ps n).gm,∃m p,m<n/\ps[m]?=some p/\p.1=x/\x.kind=1
 |0,_,x,h=>by cases h
 |n+1,hn,x,h=>by
  have ih:=QZ ps n (by omega);have hp:ps[n]?=some ps[n]:=List.getElem?_eq_getElem (by omega);have old:x∈(gAt ps n).gm->∃m p,m<n+1/\ps[m]?=some p/\p.1=x/\x.kind=1:=λhx=>by obtain⟨m,p,a,b⟩:=ih x hx;exact⟨m,p,by omega,b⟩
  rw[Ak hp]at h;unfold EC at h;split at h
  ·rename_i k1
   rcases List.mem_append.1 h with h|h
   ·exact old h
   ·rw[List.mem_singleton.1 h];exact⟨n,ps[n],by omega,hp,rfl,k1⟩
  split at h
  ·exact old h
  split at h
  ·exact old h
  split at h
  ·exact old h
  ·exact old h
theorem vW.sizes(h:vW ps):∀x∈(gAt ps ps.length).gm,cK (x.ns.getD 0 ay) (x.ns.getD 1 ay) (x.ns.getD 2 ay)=true:=λx hx=>by
 obtain⟨m,p,hm,hp,rfl,hk⟩:=QZ ps ps.length (ba _) x hx;have hno:=(vV _ _ _).1 (h.z m p hp);cases hf:cK (p.1.ns.getD 0 ay) (p.1.ns.getD 1 ay) (p.1.ns.getD 2 ay)with
 |true=>rfl
 |false=>exact absurd (.inl (.inl ⟨hk,.inl ⟨rfl,hf⟩⟩)) (hno 3)
theorem vW.wk(h:vW ps):∀n,n<=ps.length->Fg (ps.map (·.1)) n (kQ ((ps.map (·.1)).take n))
 |0,_=>by rw[List.take_zero];exact⟨List.nodup_nil,List.nodup_nil,by rw[List.take_zero];rfl,ca _,ca _,ca _⟩
 |n+1,hn=>by
  have hl:n<(ps.map (·.1)).length:=by rw[an];omega
  rw[Bt _ n hl];refine(h.wk n (by omega)).step (ai (ps.map (·.1))) hl ?_;have:=h.z n ps[n] (List.getElem?_eq_getElem (by omega));rw[ar];exact this
theorem vW.nodup(h:vW ps):((gAt ps ps.length).gm.map (·.name)).Nodup/\((gAt ps ps.length).gs.map (·.name)).Nodup:=by have hw:=h.wk ps.length (ba _);rw[bt (by rw[an];exact ba _)]at hw;have h1:=hw.m;have h2:=hw.f;rw[h.g.km,(cc _).nodup_iff]at h1;rw[h.g.kf,(cc _).nodup_iff]at h2;exact⟨h1,h2⟩
theorem Q0(ps:List (bV×aj)):∀n,n<=ps.length->∀g∈(gAt ps n).gs,g.aP.length<=n
 |0,_,g,h=>by cases h
 |n+1,hn,g,h=>by
  have ih:=Q0 ps n (by omega);have hp:ps[n]?=some ps[n]:=List.getElem?_eq_getElem (by omega);have old:∀f∈(gAt ps n).gs,f.aP.length<=n+1:=λf hf=>by have:=ih f hf;omega
  have lst:∀t:GF->GF,(∀f,(t f).aP.length<=f.aP.length+1)->g∈Aj (gAt ps n).gs t->g.aP.length<=n+1:=λt ht hg=>by
   rcases List.eq_nil_or_concat (gAt ps n).gs with e |⟨i,f,e⟩
   ·rw[e]at hg;cases hg
   ·rw[List.concat_eq_append]at e;rw[e,rF]at hg;rcases List.mem_append.1 hg with hg|hg
    ·exact old g (by rw[e];simp[hg])
    ·rw[List.mem_singleton.1 hg];have:=ih f (by rw[e];simp);have:=ht f;omega
  rw[Ak hp]at h;unfold EC at h;split at h
  ·exact old g h
  split at h
  ·rcases List.mem_append.1 h with h|h
   ·exact old g h
   ·rw[List.mem_singleton.1 h];exact ca _
  split at h
  ·exact lst _ (λf=>by simp[GF.lab]) h
  split at h
  ·exact lst _ (λf=>by simp[GF.code]) h
  ·exact old g h
theorem vW.bok(h:vW ps):YH (kQ (ps.map (·.1))) (aK (ai (ps.map (·.1))) (ps.map (·.1))):=by
 have h0:(ahM (ai (ps.map (·.1))) (ps.map (·.1)) {} 0).1=0:=by
  rcases yK (ai (ps.map (·.1))) (ps.map (·.1)) {} 0 with⟨h1,_⟩ |⟨i,hi,h1,_,_⟩
  ·rw[h1]
  ·refine absurd ?_ h1;rw[ar];exact h.z i _ (List.getElem?_eq_getElem (by simpa using hi))
 have hb:=EA (ls:=ps.map (·.1)) (λx hx=>by obtain⟨p,hp,rfl⟩:=List.mem_map.1 hx;exact h.lok p hp) h.rd.kM (by rw[an];have:=h.len;omega) h0 (ps.map (·.1)).length (ba _)
 rwa [bt (ba _)]at hb
theorem vW.tok(h:vW ps):(Cn ps ps.length).fs.length<=16/\(Cn ps ps.length).ms.length<=8/\(∀m∈(Cn ps ps.length).ms,MOk m)/\∀f∈(Cn ps ps.length).fs,ab1 f.f f.o:=by
 have hG:=h.g;have hB:=h.bok;refine⟨?_,?_,λm hm=>?_,λf hf=>?_⟩
 ·have:=hB.f16;rw[hG.kf,b9,an]at this;rw[hG.Ua,an];exact this
 ·have:=hB.m8;rw[hG.km,b9,an]at this;rw[hG.YI,an];exact this
 ·rw[hG.YI]at hm;obtain⟨x,hx,rfl⟩:=List.mem_map.1 hm;have hk:=(QY (h.sizes x hx)).2;have hn:=oG (hG.gk x hx).2;exact⟨by show(T x.name).size<=300;omega,hk.k0,hk.k1,hk.v0,hk.v1,hk.e0,hk.e1⟩
 ·rw[hG.Ua]at hf;obtain⟨g,hg,rfl⟩:=List.mem_map.1 hf;have hok:=hG.ok g hg;have hcl:=h.clean g hg;have ad5:g.dW.slots<=200:=by have h1:=hG.tot g hg;have h2:=hB.TV;rw[hG.ks]at h2;omega
  obtain⟨s1,s2⟩:=Me g.xs 0 hok.sa (λz hz=>(hok.xs z hz).k);have hss:=hok.ss;refine⟨λi hi=>?_,?_,λa ha=>?_,λi hi hs=>?_,ad5,?_,?_,?_⟩
  ·obtain⟨z,hz,rfl⟩:=List.mem_map.1 (show i∈g.xs.map (λz=>z.y.ri)from hi);exact acO (hok.xs z hz) (hcl z hz).1
  ·show(g.xs.map _).length=(g.xs.map _).length
   rw[an,an]
  ·obtain⟨z,hz,rfl⟩:=List.mem_map.1 (show a∈g.xs.map (λz=>(z.slot:Int))from ha);have:=s1 z hz;show 0<=(z.slot:Int)/\(z.slot:Int)<(g.dW.slots:Int)
   omega
  ·obtain⟨z,hz,rfl⟩:=List.mem_map.1 (show i∈g.xs.map (λz=>z.y.ri)from hi);have hno:=(hcl z hz).2;have hn2:¬(aD z.y.ri.word=106/\(ahJ z.y.ri.label g.pK.o.lab<0\/(g.pK.f.slots:Int)<=ahJ z.y.ri.label g.pK.o.lab)):=λe=>by rw[(Bv hok (hok.xs z hz)).2 e]at hno;cases hno
   have JX:¬(ahJ z.y.ri.label g.pK.o.lab<0\/(g.pK.f.slots:Int)<=ahJ z.y.ri.label g.pK.o.lab):=λe=>hn2 ⟨hs,e⟩;omega
  ·show(g.xs.map _).length<=200
   rw[an];omega
  ·show(g.aP.map _).length<=10000
   rw[an];have:=Q0 ps ps.length (ba _) g hg;have:=h.len;omega
  ·show(T g.name).size<=300
   have:=oG hok.nm;omega
end
theorem EK{α:Type}{R:α->α->Prop}(ha:∀x y,R x y->¬R y x):∀{l k:List α},l.Pairwise R->k.Pairwise R->(∀x,x∈l↔x∈k)->l=k
 |[],[],_,_,_=>rfl
 |[],b::k,_,_,h=>absurd ((h b).2 (by simp)) (by simp)
 |a::l,[],_,_,h=>absurd ((h a).1 (by simp)) (by simp)
 |a::l,b::k,h1,h2,h=>by
  rw[List.pairwise_cons]at h1 h2
  have e:a=b:=by
   by_cases e:a=b
   ·exact e
   ·exfalso
    have p1:a∈k:=by
     rcases List.mem_cons.1 ((h a).1 (by simp))with c|c
     ·exact absurd c e
     ·exact c
    have p2:b∈l:=by
     rcases List.mem_cons.1 ((h b).2 (by simp))with c|c
     ·exact absurd c.symm e
     ·exact c
    exact ha _ _ (h1.1 b p2) (h2.1 a p1)
  subst e;congr 1;refine EK ha h1.2 h2.2 (λx=>⟨λhx=>?_,λhx=>?_⟩)
  ·rcases List.mem_cons.1 ((h x).1 (cb _ hx))with c|c
   ·subst c;exact absurd (h1.1 _ hx) (λr=>ha _ _ r r)
   ·exact c
  ·rcases List.mem_cons.1 ((h x).2 (cb _ hx))with c|c
   ·subst c;exact absurd (h2.1 _ hx) (λr=>ha _ _ r r)
   ·exact c
theorem uj{α β:Type}(f:α->β){l k:List β}(h:l.Perm k):∀L:List α,L.map f=k->∃L':List α,L'.Perm L/\L'.map f=l:=by
 induction h with
 |nil=>intro L e;exact⟨L,.refl _,e⟩
 |cons x _ ih =>
  intro L e;cases L with
  |nil=>simp at e
  |cons a L =>rw[bh]at e;injection e with e1 e2;obtain⟨L',p,q⟩:=ih L e2;exact⟨a::L',p.cons a,by rw[bh,e1,q]⟩
 |swap x y l =>
  intro L e
  match L,e with
  |a::b::L,e =>rw[bh,bh]at e;injection e with e1 e2;injection e2 with e2 e3;exact⟨b::a::L,.swap _ _ _,by rw[bh,bh,e1,e2,e3]⟩
 |trans _ _ ih1 ih2 =>intro L e;obtain⟨L2,p2,q2⟩:=ih2 L e;obtain⟨L1,p1,q1⟩:=ih1 L2 q2;exact⟨L1,p1.trans p2,q1⟩
theorem Co{α:Type}{nm:α->tBA}{L L1 L2:List α}(p1:L1.Perm L)(p2:L2.Perm L)(nd:(L.map nm).Nodup)(s1:L1.Pairwise (λx y=>jO (nm y) (nm x)=false))(s2:L2.Pairwise (λx y=>jO (nm y) (nm x)=false)):L1=L2:=by
 have strict:∀{K:List α},K.Perm L->K.Pairwise (λx y=>jO (nm y) (nm x)=false)->K.Pairwise (λx y=>jO (nm x) (nm y)=true):=fun{K} p s=>by
  have h2:(K.map nm).Nodup:=((p.map nm).nodup_iff).2 nd;have h3:K.Pairwise (λx y=>nm x≠nm y):=List.pairwise_map.1 h2;refine(s.and h3).imp (fun{x y} h=>?_);cases c:jO (nm x) (nm y)with
  |true=>rfl
  |false=>exact absurd (GQ c h.1) h.2
 refine EK (R:=λx y=>jO (nm x) (nm y)=true) (λx y h c=>?_) (strict p1 s1) (strict p2 s2) (λx=>by rw[p1.mem_iff,p2.mem_iff]);rw[Bd h]at c;cases c
theorem EL{α:Type}{nm:α->tBA}{l:List α}(h:ib nm l l.length):l.Pairwise (λx y=>jO (nm y) (nm x)=false):=by rw[List.pairwise_iff_getElem];exact λi j hi hj hij=>h i j hi hj hij hj
theorem Q1{l:List tLB}(h:l.Nodup):(l.map T).Nodup:=by refine List.pairwise_map.2 (h.imp (fun{a b} hab e=>hab (XW.1 e)))
theorem P8{O:OL}{G:GS}{a:uB}{k:WK}{b:BS}(hG:RG O G a O k b)(hsz:∀x∈G.gm,cK (x.ns.getD 0 ay) (x.ns.getD 1 ay) (x.ns.getD 2 ay)=true)(hcl:∀g∈G.gs,∀z∈g.xs,z.Clean g)(nd1:(G.gm.map (·.name)).Nodup)(nd2:(G.gs.map (·.name)).Nodup){ms:List dD} {fs:List qd} (hm:ms.Perm b.ms) (sm:ms.Pairwise (λx y=>jO (T y.name) (T x.name)=false)) (hf:fs.Perm b.fs) (sf:fs.Pairwise (λx y=>jO (T y.name) (T x.name)=false)){ms':List bz} {z':List (yY×lS)} (hm':ms'.Perm a.ms) (sm':ms'.Pairwise (λx y=>jO y.name x.name=false)) (hz':z'.Perm (a.fs.map (λf=>(f.f,f.o)))) (sz':z'.Pairwise (λx y=>jO y.1.name x.1.name=false)):vw false ms' (z'.map (·.1)) (z'.map (·.2))=Ge ms fs:=by
 obtain⟨L1,p1,e1⟩:=uj pT hm G.gm hG.bm.symm;obtain⟨L2,p2,e2⟩:=uj (λx:bV=>kH (T x.name) x.ns) hm' G.gm hG.YI.symm;obtain⟨K1,q1,e3⟩:=uj (GF.pf O) hf G.gs hG.bf.symm;obtain⟨K2,q2,e4⟩:=uj (λg:GF=>(g.pK.f,g.pK.o)) hz' G.gs (by rw[hG.Ua,ao];rfl);have n1:(G.gm.map (λx:bV=>T x.name)).Nodup:=by have:=Q1 nd1;rw[ao]at this;exact this
 have n2:(G.gs.map (λx:GF=>T x.name)).Nodup:=by have:=Q1 nd2;rw[ao]at this;exact this
 have s1:L1.Pairwise (λx y:bV=>jO (T y.name) (T x.name)=false):=by rw[<-e1,bj]at sm;exact sm
 have s2:L2.Pairwise (λx y:bV=>jO (T y.name) (T x.name)=false):=by rw[<-e2,bj]at sm';exact sm'
 have t1:K1.Pairwise (λx y:GF=>jO (T y.name) (T x.name)=false):=by rw[<-e3,bj]at sf;exact sf
 have t2:K2.Pairwise (λx y:GF=>jO (T y.name) (T x.name)=false):=by rw[<-e4,bj]at sz';exact sz'
 have eL:L2=L1:=Co (nm:=λx:bV=>T x.name) p2 p1 n1 s2 s1;have eK:K2=K1:=Co (nm:=λx:GF=>T x.name) q2 q1 n2 t2 t1;have hK:∀g∈K2,g∈G.gs:=λg hg=>q2.mem_iff.1 hg;have f1:z'.map (·.1)=K2.map (λg=>g.pK.f):=by rw[<-e4,ao];rfl
 have f2:z'.map (·.2)=K2.map (λg=>g.pK.o):=by rw[<-e4,ao];rfl
 rw[f1,f2,<-e2,<-e1,<-e3,<-eL,<-eK];exact Uf (λx hx=>hsz x (p2.mem_iff.1 hx)) (λg hg=>hG.ok g (hK g hg)) (λg hg=>wQ hG (hK g hg)) (λg hg=>hcl g (hK g hg))
theorem vW.object{ps:List (bV×aj)}(h:vW ps){ms:List dD}{fs:List qd}(hm:ms.Perm (aK (ai (ps.map (·.1))) (ps.map (·.1))).ms)(sm:ms.Pairwise (λx y=>jO (T y.name) (T x.name)=false))(hf:fs.Perm (aK (ai (ps.map (·.1))) (ps.map (·.1))).fs)(sf:fs.Pairwise (λx y=>jO (T y.name) (T x.name)=false)){ms':List bz} {z':List (yY×lS)} (hm':ms'.Perm (Cn ps ps.length).ms) (sm':ib (·.name) ms' ms'.length) (hz':z'.Perm ((Cn ps ps.length).fs.map (λf=>(f.f,f.o)))) (sz':ib (λz:yY×lS=>z.1.name) z' z'.length):vw false ms' (z'.map (·.1)) (z'.map (·.2))=Ge ms fs :=
 P8 h.g h.sizes h.clean h.nodup.1 h.nodup.2 hm sm hf sf hm' (EL sm') hz' (EL sz')
theorem acP(l:tLB)(s:tBA)(c n:Nat)(h:qB l s c n):(∀c' n',JB (T l)=.inr (c',n')->s=⟨#[]⟩/\(c:Int)=c'/\(n:Int)=n'/\c'≠0) /\ (∀a,JB (T l)=.inl a->c=0/\n=0/\a.fs.length<=16/\a.ms.length<=8/\(∀m∈a.ms,MOk m)/\(∀f∈a.fs,ab1 f.f f.o) /\
   ∀(ms':List bz) (z':List (yY×lS)),ms'.Perm a.ms->ib (·.name) ms' ms'.length->z'.Perm (a.fs.map (λf=>(f.f,f.o)))->ib (λz:yY×lS=>z.1.name) z' z'.length->s=T (vw false ms' (z'.map (·.1)) (z'.map (·.2)))):=by
 unfold qB at h;unfold JB;have hs:(T l).size=l.length:=rfl;rw[hs];by_cases hb:4000<l.length
 ·rw[iP9 hb]at h ⊢;refine⟨λc' n' e=>?_,λa e=>(by cases e)⟩;injection e with e;injection e with e1 e2;subst e1 e2;exact⟨h.1,by rw[h.2.1];rfl,by rw[h.2.2];rfl,by decide⟩
 rw[iN9 hb]at h ⊢;have hla:=TZ l;rw[hs]at hla;rw[hla];obtain⟨pr,pl⟩:=Cl (ahK l) false 0 [] {} ⟨λ_=>rfl,λ_=>rfl⟩;cases hp:ahL (ahK l) false 0 []with
 |inr k =>rw[hp]at h;rw[pr k hp];dsimp only at h ⊢;refine⟨λc' n' e=>?_,λa e=>(by cases e)⟩;injection e with e;injection e with e1 e2;subst e1 e2;exact⟨h.1,by rw[h.2.1];rfl,by rw[h.2.2],by decide⟩
 |inl ls =>
  obtain⟨ps,e1,e2,e3⟩:=pl ls hp;rw[List.nil_append]at e1;rw[e3,XV];rw[hp]at h;obtain⟨o1,_,o3⟩:=GK hp;have ag2:=Br _ _ _ _ _ hp (λx hx=>(by cases hx));subst e1;have hR:Read ps:=⟨e2,o1⟩
  obtain⟨f1,f2⟩:=hR.first rfl;dsimp only at h ⊢;by_cases h0:(ahM (ai (ps.map (·.1))) (ps.map (·.1)) {} 0).1=0
  ·rw[iP9 h0]at h;rw[h0]at f1;rw[iN9 (λe=>e f1)];refine⟨λc' n' e=>(by cases e),λa e=>?_⟩;injection e with e;subst e;obtain⟨hc,hn,ms,fs,g1,g2,g3,g4,hse⟩:=h;have hF:vW ps:=⟨hR,λm p hpm=>by obtain⟨hm,rfl⟩:=List.getElem?_eq_some_iff.1 hpm;have:=ui _ (ps.map (·.1)) {} 0 h0 m (by rw[an];exact hm);rw[ar]at this;exact this,by rw[an]at o3;omega,λp hp=>ag2 _ (List.mem_map_of_mem hp)⟩
   obtain⟨t1,t2,t3,t4⟩:=hF.tok;exact⟨hc,hn,t1,t2,t3,t4,λms' z' a1 a2 a3 a4=>by rw[hse,hF.object g1 g2 g3 g4 a1 a2 a3 a4]⟩
  ·rw[iN9 h0]at h;have hne:¬(fB (Cn ps ps.length).ms (Cn ps ps.length).fs (Cn ps ps.length).sn).code=0:=by rw[f1];omega
   rw[iP9 hne];refine⟨λc' n' e=>?_,λa e=>(by cases e)⟩;injection e with e;injection e with e1 e2;subst e1 e2;exact⟨h.1,by rw[h.2.1,f1],by rw[h.2.2,f2 h0],hne⟩
theorem Uh(w:tW)(l:tLB)(hW:E4 w)(hE:Env w)(hM:lV w):Calls prog 5 #[.string (T l)] w λe w'=>lH w l e w':=by
 have H:ae (Calls prog 9 #[.string (T l)] w λe w'=>∃s c n,e=.returned (.tuple #[.string s,.int .i64 (c:Nat),.int .i64 (n:Nat)])/\qB l s c n/\aa af w w'):=aba w l hW hE hM;clear hW hE hM;unfold lH;generalize T l=s0 at *;go_enter func5,ntmps5;go_wp2_with fail;refine H.o.mono ?_;rintro e w1 ⟨s,c,n,rfl,hq,m⟩;have HQ:ae (qB l s c n/\aa af w w1):=⟨hq,m⟩
 clear hq m H;go_wp2_with fail;go_ret3;exact⟨s,c,n,rfl,HQ.o.1,HQ.o.2⟩
theorem Mf(w:tW)(n:Int):Calls prog 8 #[.int .i64 n] w λe w'=>e=.returned (.int .i64 n)/\w'=w:=by go_enter func8,ntmps8;go_wp2_with fail;go_ret;exact⟨rfl,rfl⟩
theorem abj{w w':tW}{l:tLB}{e:Ending}(h:ahY w (T l) e w'){s:tBA}{c n:Nat}(hq:qB l s c n):∃p:Option Addr,e=.returned (.tuple #[.pointer p,.int .i64 c,.int .i64 n])/\((p=none/\s=⟨#[]⟩)\/∃ab:Nat,p=some ⟨ab,0,none⟩/\Calls prog 7 #[.pointer (some ⟨ab,0,none⟩),.bool false] w' λe w3=>e=.returned (.string s)/\aa af w' w3)/\aa af w w':=by
 obtain⟨h1,h2⟩:=acP l s c n hq;unfold ahY at h;obtain⟨m,h⟩:=h;cases ha:JB (T l)with
 |inr p =>obtain⟨c',n'⟩:=p;rw[ha]at h;obtain⟨e1,e2,e3,_⟩:=h1 c' n' ha;exact⟨none,by rw[e2,e3];exact h,.inl ⟨rfl,e1⟩,m⟩
 |inl a =>
  rw[ha]at h;obtain⟨pb,vM,vF,xs,ms',z',he,hfs,pm,sm,pz,sz,hP⟩:=h;obtain⟨rfl,rfl,k1,k2,k3,k4,k5⟩:=h2 a ha;refine⟨_,he,.inr ⟨pb,rfl,?_⟩,m⟩;have hz:(z'.map (λz:ug=>(z.1.1,z.2))).Perm (a.fs.map (λf=>(f.f,f.o))):=by have:=pz.map (λz:ug=>(z.1.1,z.2));rw[ao]at this;rw[hfs,ao];exact this
  have zl:z'.length=a.fs.length:=by rw[hfs,an,pz.length_eq,an]
  have sz':ib (λz:yY×lS=>z.1.name) (z'.map (λz:ug=>(z.1.1,z.2))) (z'.map (λz:ug=>(z.1.1,z.2))).length:=λi j hi hj hij _=>by
   have hi2:i<z'.length:=by rw[an]at hi;exact hi
   have hj2:j<z'.length:=by rw[an]at hj;exact hj
   have:=sz i j hi2 hj2 hij hj2;rw[ar,ar];exact this
  have hs:=k5 ms' _ pm sm hz sz'
  have hb:=Ps false rfl w' pb vM vF ms' (z'.map (·.1)) (z'.map (·.2)) hP (by rw[an,an]) (by rw[an,zl];exact k1) (by rw[pm.length_eq];exact k2) (λm hm=>k3 m (pm.mem_iff.1 hm)) (λi h h'=>by
   have hi:i<z'.length:=by rw[an]at h;exact h
   rw[ar,ar];have hmem:(z'[i].1.1,z'[i].2)∈a.fs.map (λf=>(f.f,f.o)):=hz.mem_iff.1 (List.mem_map.2 ⟨z'[i],List.getElem_mem hi,rfl⟩);obtain⟨f,hf,e⟩:=List.mem_map.1 hmem;injection e with e1 e2;rw[<-e1,<-e2];exact k4 f hf)
  have f1:(z'.map (λz:ug=>(z.1.1,z.2))).map (·.1)=(z'.map (·.1)).map (·.1):=by rw[ao,ao];rfl
  have f2:(z'.map (λz:ug=>(z.1.1,z.2))).map (·.2)=z'.map (·.2):=by rw[ao];rfl
  rw[f1,f2]at hs;rw[<-hs]at hb;exact hb
theorem xJ(w:tW)(l:tLB)(hW:E4 w)(hE:Env w)(hM:lV w):Calls prog 4 #[.string (T l)] w λe w'=>∃s c n,e=.returned (.tuple #[.string s,.bool true])/\qB l s c n/\aa af w w':=by
 have H1:ae (Calls prog 5 #[.string (T l)] w λe w'=>∃s c n,e=.returned (.tuple #[.string s,.int .i64 (c:Nat),.int .i64 (n:Nat)])/\qB l s c n/\aa af w w'):=Uh w l hW hE hM;have H2:ae (∀w1,Calls prog 6 #[.string (T l)] w1 λe w'=>ahY w1 (T l) e w'):=λw1=>ait (T l) w1;have H3:ae (∀{w w':tW} {e:Ending} (_:ahY w (T l) e w') {s:tBA} {c n:Nat} (_:qB l s c n),∃p:Option Addr,e=.returned (.tuple #[.pointer p,.int .i64 c,.int .i64 n])/\((p=none/\s=⟨#[]⟩)\/∃ab:Nat,p=some ⟨ab,0,none⟩/\Calls prog 7 #[.pointer (some ⟨ab,0,none⟩),.bool false] w' λe w3=>e=.returned (.string s)/\aa af w' w3)/\aa af w w'):=λh _ _ _ hq=>abj h hq;clear hW hE hM;generalize T l=s0 at *;go_enter func4,ntmps4;go_wp2_with fail;refine H1.o.mono ?_;rintro e w1 ⟨s,c,n,rfl,hq,m1⟩;have HQ:=ak hq;have iG:=ak m1;clear hq m1 H1;go_wp2_with fail;refine(H2.o w1).mono ?_;rintro e w2 hD;obtain⟨p,rfl,hcase,m2⟩:=H3.o hD HQ.o;have ep:=ak (iG.o.trans m2);clear H2 H3 hD m2 iG;have te:(s.toList==s.toList)=true:=by simp
 rcases hcase with⟨rfl,rfl⟩ |⟨ab,rfl,hc⟩
 ·go_wp2_with fail;refine(Mf _ _).mono ?_;rintro e w3 ⟨rfl,rfl⟩;go_wp2_with fail;go_ret2;exact⟨_,c,n,rfl,HQ.o,ep.o⟩
 ·have HC:=ak hc;clear hc;go_wp2_with fail;refine HC.o.mono ?_;rintro e w3 ⟨rfl,m3⟩;have fw:=ak (ep.o.trans m3);clear m3 HC ep;go_wp2_with fail;refine(Mf _ _).mono ?_;rintro e w4 ⟨rfl,rfl⟩;go_wp2_with fail;go_ret2;exact⟨s,c,n,rfl,HQ.o,fw.o⟩
def xaT:tLB:=[102,117,110,99,32,102,10,97,100,100,32,114,49,44,32,49,32,59,32,111,110,101,32,109,111,114,101,10,101,120,105,116,10]
def xaO:tLB:=[83,80,79,76,1,0,1,1,102,2,0,34,1,0,0,1,0,0,0,194,0,0,0,0,0,0,0,0,0]
def xaB:BS:=match ahL (ahK xaT) false 0 []with
 |.inl ls=>aK (ai ls) ls
 |.inr _=>{}
def xaF:Nat:=match ahL (ahK xaT) false 0 []with
 |.inl ls=>(ahM (ai ls) ls {} 0).1
 |.inr _=>1
theorem Ya:xaF=0:=by decide +kernel
theorem abk:xaB.ms.length=0:=by decide +kernel
theorem acQ:xaB.fs.length=1:=by decide +kernel
theorem acR:Ge [] xaB.fs=xaO:=by decide +kernel
theorem acS{s:tBA}{c n:Nat}(h:qB xaT s c n):s=T xaO:=by
 have h1:=Ya;have h2:=abk;have h3:=acQ;have h4:=acR;unfold xaB at h2 h3 h4;unfold xaF at h1;unfold qB at h;rw[iN9 (by decide)]at h;cases hp:ahL (ahK xaT) false 0 []with
 |inr k=>rw[hp]at h1;cases h1
 |inl ls =>
  rw[hp]at h h1 h2 h3 h4;dsimp only at h h1 h2 h3 h4;rw[iP9 h1]at h;obtain⟨_,_,ms,fs,pm,_,pf,_,rfl⟩:=h;have e1:ms=[]:=by have:=pm.length_eq;rw[h2]at this;exact List.length_eq_zero_iff.1 this
  obtain⟨f,hf⟩:=List.length_eq_one_iff.1 h3;rw[hf]at pf h4;rw[e1,List.perm_singleton.1 pf,h4]
theorem Gf(w:tW)(l:tLB)(hW:E4 w)(hE:Env w)(hM:lV w):Calls prog 3 #[.string (T l)] w λe w'=>e=.returned (.bool true)/\aa af w w':=by
 have H1:ae (Calls prog 4 #[.string ⟨#[102,117,110,99,32,102,10,97,100,100,32,114,49,44,32,49,32,59,32,111,110,101,32,109,111,114,101,10,101,120,105,116,10]⟩] w λe w'=>e=.returned (.tuple #[.string ⟨#[83,80,79,76,1,0,1,1,102,2,0,34,1,0,0,1,0,0,0,194,0,0,0,0,0,0,0,0,0]⟩,.bool true])/\aa af w w') :=
  (xJ w xaT hW hE hM).mono λe w' ⟨s,c,n,h1,h2,h3⟩=>by refine⟨?_,h3⟩;rw[h1,acS h2];rfl
 have H2:ae (∀w1,aa af w w1->Calls prog 4 #[.string (T l)] w1 λe w'=>∃s:tBA,e=.returned (.tuple #[.string s,.bool true])/\aa af w w'):=λw1 m =>
  (xJ w1 l (hW.ah m) (hE.ah m) (hM.ah m)).mono λe w' ⟨s,c,n,h1,h2,h3⟩=>⟨s,h1,m.trans h3⟩
 clear hW hE hM;generalize T l=s0 at *;go_enter func3,ntmps3;go_wp2_with fail;refine H1.o.mono ?_;rintro e w1 ⟨rfl,m1⟩;have iG:=ak m1;clear m1 H1;go_wp2_with fail;refine(H2.o _ iG.o).mono ?_;rintro e w2 ⟨s2,rfl,m2⟩;have ep:=ak m2;clear m2 H2 iG;go_wp2_with fail;go_ret;exact⟨rfl,ep.o⟩
