import Derived.Test.YtmajaohgiilelaaGreatDoorC33
import Derived.Test.YtmajaohgiilelaaGreatDoorC30
namespace Go.Proofs.YtmajaohgiilelaaGreatDoor
open Go.RowKit
open Bool renaming and_eq_true->bt,false_or->cb
open List renaming dropWhile_cons->ba,range'->bh,length_cons->bj,isPrefixOf->b9,range_eq_range'->ca,takeWhile_cons->cc,range'_succ->cd
open Option renaming bind_some->an,map_some->ao,map_eq_some_iff->ar,map_none->ch
set_option linter.all false
def aid:tLB->Option (aY×tLB)
 |[]=>none
 |c::r =>
  if di (c.toNat:Int)then some (⟨110,T ((c::r).takeWhile aG),⟨0,false⟩⟩,(c::r).dropWhile aG)
  else if aS (c.toNat:Int)then(aU ((c::r).takeWhile aG)).map λv=>(⟨100,T ((c::r).takeWhile aG),⟨v,false⟩⟩,(c::r).dropWhile aG)
  else if c=45/\(r.head?.map λd=>aS (d.toNat:Int))=some true then(aU (r.takeWhile aG)).map λv=>(⟨100,T (45::r.takeWhile aG),⟨v,true⟩⟩,r.dropWhile aG)
  else if mM (c.toNat:Int)then some (⟨c.toNat,T [c],⟨0,false⟩⟩,r)else none
def tkF:Nat->tLB->Option (List aY)
 |0,_=>none
 |f+1,l=>match aw l with
  |[]=>some []
  |c::r=>(aid (c::r)).bind λx=>(tkF f x.2).map (x.1::·)
def jP(l:tLB):Option (List aY):=tkF (l.length+1) l
theorem Pv(p:UInt8->Bool)(l:tLB):(l.dropWhile p).length<=l.length:=(List.dropWhile_sublist p).length_le
theorem Ls(l:tLB):(aw l).length<=l.length:=Pv _ _
theorem ik(c:UInt8)(r:tLB):aid (c::r) = if di (c.toNat:Int)then some (⟨110,T ((c::r).takeWhile aG),⟨0,false⟩⟩,(c::r).dropWhile aG) else if aS (c.toNat:Int)then(aU ((c::r).takeWhile aG)).map λv=>(⟨100,T ((c::r).takeWhile aG),⟨v,false⟩⟩,(c::r).dropWhile aG) else if c=45/\(r.head?.map λd=>aS (d.toNat:Int))=some true then(aU (r.takeWhile aG)).map λv=>(⟨100,T (45::r.takeWhile aG),⟨v,true⟩⟩,r.dropWhile aG) else if mM (c.toNat:Int)then some (⟨c.toNat,T [c],⟨0,false⟩⟩,r)else none:=rfl
theorem QC(p:UInt8->Bool)(c:UInt8)(r:tLB)(h:p c=true):((c::r).dropWhile p).length<=r.length:=by rw[ba,iP9 h];exact Pv _ _
theorem Eb{c:UInt8}(h:di (c.toNat:Int)=true):aG c=true:=by unfold aG jd;rw[h];simp
theorem Pw{c:UInt8}(h:aS (c.toNat:Int)=true):aG c=true:=by unfold aG jd;rw[h];simp
theorem Ec(c:UInt8)(r:tLB)(t:aY)(r':tLB)(h:aid (c::r)=some (t,r')):r'.length<=r.length:=by
 rw[ik]at h;split at h
 ·rename_i hs;cases h;exact QC aG c r (Eb hs)
 ·split at h
  ·rename_i hd
   obtain⟨v,_,hv⟩:=Option.map_eq_some_iff.1 h;cases hv;exact QC aG c r (Pw hd)
  ·split at h
   ·obtain⟨v,_,hv⟩:=Option.map_eq_some_iff.1 h;cases hv;exact Pv _ _
   ·split at h
    ·cases h;exact Nat.le_refl _
    ·cases h
theorem WQ(f g:Nat)(l:tLB)(hf:l.length<f)(hg:l.length<g):tkF f l=tkF g l:=by
 induction f generalizing g l with
 |zero=>omega
 |succ f ih =>
  cases g with
  |zero=>omega
  |succ g =>
   simp only[tkF];have hk:=Ls l;generalize aw l=m at *;cases m with
   |nil=>rfl
   |cons c r =>
    simp only[bj]at hk;simp only;cases h1:aid (c::r)with
    |none=>rfl
    |some x =>have:=Ec c r x.1 x.2 h1;simp only[an];rw[ih g x.2 (by omega) (by omega)]
theorem vH{l:tLB}(h:aw l=[]):jP l=some []:=by unfold jP;simp[tkF,h]
theorem lC{l:tLB}{c:UInt8}{r:tLB}(h:aw l=c::r):jP l=(aid (c::r)).bind λx=>(jP x.2).map (x.1::·):=by
 have hk:=Ls l;rw[h]at hk;simp only[bj]at hk;unfold jP;rw[tkF];simp only[h];cases h1:aid (c::r)with
 |none=>rfl
 |some x =>have:=Ec c r x.1 x.2 h1;simp only[an];rw[WQ l.length (x.2.length+1) x.2 (by omega) (by omega)]
theorem wD(l:tLB):aw (aw l)=aw l:=by
 unfold aw;induction l with
 |nil=>rfl
 |cons c r ih =>
  rw[ba];split
  ·exact ih
  ·rename_i h;rw[ba,iN9 h]
theorem Ac(l:tLB):jP (aw l)=jP l:=by
 cases h:aw l with
 |nil=>rw[vH h,vH (l:=[]) rfl]
 |cons c r =>
  have h2:aw (c::r)=c::r:=by rw[<-h,wD]
  rw[lC h2,lC h]
theorem JC{l:tLB}:jP l=some []↔aw l=[]:=by
 constructor
 ·intro h;cases hs:aw l with
  |nil=>rfl
  |cons c r =>
   rw[lC hs]at h;cases h1:aid (c::r)with
   |none=>rw[h1]at h;cases h
   |some x =>
    rw[h1]at h;simp only[an]at h;cases h2:jP x.2 with
    |none=>rw[h2]at h;cases h
    |some y=>rw[h2]at h;cases h
 ·exact vH
def lead(w:tLB):Bool:=match w with | []=>false|c::_=>di (c.toNat:Int)
theorem wE{w:tLB}(h:ahI w=true):lead w=true:=by unfold ahI at h;simp only[bt]at h;exact h.1.2
def iA(w:tLB):aY:=⟨110,T w,⟨0,false⟩⟩
theorem eH{p:UInt8->Bool}{l:tLB}{c:UInt8}{r:tLB}(h:l.takeWhile p=c::r):∃r',l=c::r'/\p c=true:=by
 cases l with
 |nil=>cases h
 |cons d l =>
  rw[cc]at h;split at h
  ·rename_i hp;cases h;exact⟨l,rfl,hp⟩
  ·cases h
theorem nW{l:tLB}(h:lead (aC l).1=true):jP l=(jP (aC l).2).map (iA (aC l).1::·):=by
 cases hw:(aC l).1 with
 |nil=>rw[hw]at h;cases h
 |cons c r =>
  rw[hw]at h;have h':di (c.toNat:Int)=true:=h;obtain⟨r',hr,_⟩:=eH (p:=aG) (l:=aw l) hw;have ht:aid (c::r')=some (iA (aC l).1,(aC l).2):=by rw[ik,iP9 h'];unfold iA aC;rw[hr]
  rw[lC hr,ht,hw];rfl
def Gb(b:UInt8):aY:=⟨b.toNat,T [b],⟨0,false⟩⟩
theorem gC{b:UInt8}{l:tLB}:aH b l=true ↔ ∃r,aw l=b::r:=by
 unfold aH;cases aw l with
 |nil=>simp
 |cons c r=>simp
theorem l9{b:UInt8}{l r:tLB}(h:aw l=b::r):aH b l=true/\aL b l=r:=by have h1:=gC.2 ⟨r,h⟩;refine⟨h1,?_⟩;unfold aL;rw[iP9 h1,h];rfl
theorem vI{b:UInt8}{l:tLB}(h:aH b l=false):aL b l=aw l:=by unfold aL;rw[iN9 (by simp[h])]
theorem wF(b:UInt8)(hb:b=58\/b=44\/b=91\/b=93\/b=43){l:tLB}(h:aH b l=true):jP l=(jP (aL b l)).map (Gb b::·):=by
 obtain⟨r,hr⟩:=gC.1 h;rw[(l9 hr).2,lC hr];have:aid (b::r)=some (Gb b,r):=by rw[ik];rcases hb with rfl|rfl|rfl|rfl|rfl<;>rfl
 rw[this];rfl
theorem Ed{l r:tLB}(h:aw l=45::r)(hd:(r.head?.map λd=>aS (d.toNat:Int))≠some true):jP l=(jP r).map (Gb 45::·):=by
 rw[lC h];have:aid (45::r)=some (Gb 45,r):=by rw[ik,iN9 (by decide),iN9 (by decide),iN9 (λe=>hd e.2),iP9 (by decide)];rfl
 rw[this];rfl
theorem wG{l r:tLB}(h:aw l=45::r)(hd:(r.head?.map λd=>aS (d.toNat:Int))=some true):jP l=(aU (r.takeWhile aG)).bind λv=>(jP (r.dropWhile aG)).map (⟨100,T (45::r.takeWhile aG),⟨v,true⟩⟩::·):=by
 rw[lC h];have:aid (45::r)=(aU (r.takeWhile aG)).map λv=>(⟨100,T (45::r.takeWhile aG),⟨v,true⟩⟩,r.dropWhile aG):=by rw[ik,iN9 (by decide),iN9 (by decide),iP9 ⟨rfl,hd⟩]
 rw[this];cases aU (r.takeWhile aG)<;>rfl
theorem WR{l r:tLB}{c:UInt8}(h:aw l=c::r)(hs:di (c.toNat:Int)=false)(hd:aS (c.toNat:Int)=true):jP l=(aU ((c::r).takeWhile aG)).bind λv=>(jP ((c::r).dropWhile aG)).map (⟨100,T ((c::r).takeWhile aG),⟨v,false⟩⟩::·):=by
 rw[lC h];have:aid (c::r)=(aU ((c::r).takeWhile aG)).map λv=>(⟨100,T ((c::r).takeWhile aG),⟨v,false⟩⟩,(c::r).dropWhile aG):=by rw[ik,iN9 (by simp[hs]),iP9 hd]
 rw[this];cases aU ((c::r).takeWhile aG)<;>rfl
theorem B6{c:UInt8}(h:aS (c.toNat:Int)=true):di (c.toNat:Int)=false:=by unfold aS at h;unfold di;simp only[bt,decide_eq_true_eq]at h;rw[Bool.and_eq_false_iff];left;simp;omega
theorem Px{c:UInt8}(h:ku c<10):aS (c.toNat:Int)=true:=by
 unfold ku at h;unfold aS;split at h
 ·simp;omega
 ·split at h<;>omega
theorem Tq(base:Nat)(l:tLB)(v u:Nat)(h:ahZ base l v=some u):∀c∈l,ku c<base:=by
 induction l generalizing v with
 |nil=>simp
 |cons c l ih =>
  simp only[ahZ]at h;split at h
  ·cases h
  ·intro d hd;rcases List.mem_cons.1 hd with rfl|hd
   ·omega
   ·exact ih _ h d hd
theorem vK{w:tLB}:wR w=true ↔ ∃r,w=48::120::r:=by
 unfold wR
 match w with
 |[]=>simp[b9]
 |[a]=>simp[b9]
 |a::b::r =>
  simp only[b9,Bool.and_true,bt,beq_iff_eq,List.cons.injEq];constructor
  ·rintro⟨rfl,rfl⟩;exact⟨r,rfl,rfl,rfl⟩
  ·rintro⟨r',rfl,rfl,_⟩;exact⟨rfl,rfl⟩
theorem vQ{w:tLB}{v:Nat}(h:aU w=some v):∃c r,w=c::r/\aS (c.toNat:Int)=true:=by
 unfold aU at h;split at h
 ·cases h
 ·rename_i hn
  by_cases hx:wR w=true
  ·obtain⟨r,rfl⟩:=vK.1 hx;exact⟨48,120::r,rfl,by decide⟩
  ·unfold jS gY at *;rw[iN9 hx]at hn h;rw[iN9 hx]at h;cases w with
   |nil=>exact absurd (.inl rfl) hn
   |cons c r=>exact⟨c,r,rfl,Px (Tq _ _ _ _ h c (by simp))⟩
theorem JD{w:tLB}(h:lead w=true):aU w=none:=by
 cases hv:aU w with
 |none=>rfl
 |some v =>obtain⟨c,r,rfl,hd⟩:=vQ hv;have h2:=B6 hd;have h3:di (c.toNat:Int)=true:=h;rw[h2]at h3;cases h3
def Bg(l:tLB)(n:aA):aY:=⟨100,T (if n.minus then 45::(aC (aL 45 l)).1 else(aC l).1),n⟩
theorem wH{r:tLB}(h:r.head?≠some 32):aw r=r:=by
 cases r with
 |nil=>rfl
 |cons c r =>unfold aw;rw[ba,iN9 (by intro e;apply h;simp at e;simp[e])]
theorem tV{l:tLB}{n:aA}{r:tLB}(h:bJ l=some (n,r)):jP l=(jP r).map (Bg l n::·):=by
 unfold bJ at h;split at h
 ·cases h
 ·rename_i hb
  obtain⟨v,hv,he⟩:=Option.map_eq_some_iff.1 h;cases he;cases hm:aH 45 l with
  |true =>
   obtain⟨r0,hr⟩:=gC.1 hm;have h2:=(l9 hr).2;rw[hm,h2]at hb;have hsk:aw r0=r0:=wH (λe=>hb (by simp[e]));rw[h2]at hv ⊢;have hw1:(aC r0).1=r0.takeWhile aG:=by unfold aC;rw[hsk]
   have hw2:(aC r0).2=r0.dropWhile aG:=by unfold aC;rw[hsk]
   rw[hw1]at hv;obtain⟨c,r1,hc,hd⟩:=vQ hv;obtain⟨r2,hr2,_⟩:=eH hc;rw[wG hr (by rw[hr2];simp[hd]),hv];unfold Bg;rw[h2,hw1,hw2];rfl
  |false =>
   rw[vI hm]at hv ⊢;have hw:aC (aw l)=aC l:=by unfold aC;rw[wD]
   rw[hw]at hv ⊢;obtain⟨c,r1,hc,hd⟩:=vQ hv;obtain⟨r2,hr2,_⟩:=eH (l:=aw l) hc;have hw1:(aC l).1=(c::r2).takeWhile aG:=by unfold aC;rw[hr2]
   have hw2:(aC l).2=(c::r2).dropWhile aG:=by unfold aC;rw[hr2]
   rw[hw1]at hv;rw[WR hr2 (B6 hd) hd,hv];unfold Bg;rw[hw1,hw2];rfl
theorem mF{l:tLB}{t:aY}{ts:List aY}(h:jP l=some (t::ts)):(lead (aC l).1=true/\t=iA (aC l).1/\jP (aC l).2=some ts/\t.kind=110) \/ (∃n r,bJ l=some (n,r)/\t=Bg l n/\jP r=some ts/\t.kind=100) \/ (∃b,(b=58\/b=44\/b=91\/b=93\/b=43\/b=45)/\aH b l=true/\t=Gb b/\jP (aL b l)=some ts/\(b=45->aU (aC (aL b l)).1≠none->(aL b l).head?=some 32)):=by
 cases hs:aw l with
 |nil=>rw[vH hs]at h;cases h
 |cons c r =>
  have hw1:(aC l).1=(c::r).takeWhile aG:=by unfold aC;rw[hs]
  have hw2:(aC l).2=(c::r).dropWhile aG:=by unfold aC;rw[hs]
  have h0:=h;rw[lC hs,ik]at h;split at h
  ·rename_i hsm
   left;simp only[an,ar]at h;obtain⟨u,hu,he⟩:=h;cases he;refine⟨?_,by unfold iA;rw[hw1],by rw[hw2];exact hu,rfl⟩;rw[hw1,cc,iP9 (Eb hsm)];exact hsm
  ·rename_i hsm
   split at h
   ·rename_i hd
    right;left
    have hm:aH 45 l=false:=by
     cases e:aH 45 l with
     |false=>rfl
     |true =>obtain⟨r0,hr0⟩:=gC.1 e;rw[hs]at hr0;cases hr0;revert hd;decide
    cases hv:aU ((c::r).takeWhile aG)with
    |none=>rw[hv]at h;cases h
    |some v =>
     rw[hv]at h;simp only[ao,an,ar]at h;obtain⟨u,hu,he⟩:=h;cases he;refine⟨⟨v,false⟩,(aC l).2,?_,?_,by rw[hw2];exact hu,rfl⟩
     ·unfold bJ;rw[iN9 (by simp[hm]),vI hm];have hw:aC (aw l)=aC l:=by unfold aC;rw[wD]
      rw[hw,hw1,hv,hm];rfl
     ·unfold Bg;rw[hw1];rfl
   ·rename_i hd
    split at h
    ·rename_i hmm
     right;left;obtain⟨rfl,hmd⟩:=hmm;have hm:=l9 hs;cases hv:aU (r.takeWhile aG)with
     |none=>rw[hv]at h;cases h
     |some v =>
      rw[hv]at h;simp only[ao,an,ar]at h;obtain⟨u,hu,he⟩:=h;cases he;have aay:r.head?≠some 32:=by intro e;rw[e]at hmd;revert hmd;decide
      have hsk:=wH aay;have hv1:(aC r).1=r.takeWhile aG:=by unfold aC;rw[hsk]
      have hv2:(aC r).2=r.dropWhile aG:=by unfold aC;rw[hsk]
      refine⟨⟨v,true⟩,(aC r).2,?_,?_,by rw[hv2];exact hu,rfl⟩
      ·unfold bJ;rw[hm.1,hm.2,iN9 (by simpa using aay),hv1,hv];rfl
      ·unfold Bg;rw[hm.2,hv1];rfl
    ·rename_i hmm
     split at h
     ·rename_i hsg
      right;right;simp only[an,ar]at h;obtain⟨u,hu,he⟩:=h;cases he;have hm:=l9 hs;refine⟨c,?_,hm.1,rfl,by rw[hm.2];exact hu,?_⟩
      ·unfold mM at hsg;simp only[Bool.or_eq_true,decide_eq_true_eq]at hsg;have key:∀k:UInt8,(c.toNat:Int)=(k.toNat:Int)->c=k:=λk e=>UInt8.toNat_inj.1 (by omega);rcases hsg with((((e|e)|e)|e)|e)|e
       ·exact .inl (key 58 e)
       ·exact .inr (.inl (key 44 e))
       ·exact .inr (.inr (.inl (key 91 e)))
       ·exact .inr (.inr (.inr (.inl (key 93 e))))
       ·exact .inr (.inr (.inr (.inr (.inl (key 43 e)))))
       ·exact .inr (.inr (.inr (.inr (.inr (key 45 e)))))
      ·rintro rfl hne;rw[hm.2]at hne ⊢;refine Classical.byContradiction λaay=>hne ?_;have hsk:=wH aay;have hv1:(aC r).1=r.takeWhile aG:=by unfold aC;rw[hsk]
       rw[hv1];cases hv:aU (r.takeWhile aG)with
       |none=>rfl
       |some v =>obtain⟨d,r1,hc,hdd⟩:=vQ hv;obtain⟨r2,hr2,_⟩:=eH hc;exact absurd ⟨rfl,by rw[hr2];simp[hdd]⟩ hmm
     ·cases h
abbrev PP(α:Type):=tLB->Option (α×tLB)
def dJ{α:Type}(f:PP α):Prop:=∀l a l',f l=some (a,l')->jP l=none->jP l'=none
def Bh{β:Type}(g:DK->β×DK):Prop:=∀p,p.bad=true->(g p).2.bad=true
structure dE{α β:Type}(f:PP α)(g:DK->β×DK)(R:α->β->Prop):Prop where
 ok:∀l a l',f l=some (a,l')->∀ts,jP l=some ts->∃ts',jP l'=some ts'/\(g ⟨ts,false⟩).2=⟨ts',false⟩/\R a (g ⟨ts,false⟩).1
 no:∀l,f l=none->∀ts,jP l=some ts->(g ⟨ts,false⟩).2.bad=true
theorem dJ.bind{α γ:Type}{f:PP α}{f':α->PP γ}(h:dJ f)(h':∀a,dJ (f' a)):dJ (λl=>(f l).bind λx=>f' x.1 x.2):=λl c l2 hl ht=>by
 obtain⟨⟨a,l1⟩,h1,h2⟩:=Option.bind_eq_some_iff.1 hl;exact h' a l1 c l2 h2 (h l a l1 h1 ht)
theorem dE.bind{α β γ δ:Type}{f:PP α}{g:DK->β×DK}{R:α->β->Prop}{f':α->PP γ}{g':β->DK->δ×DK}{R':γ->δ->Prop}(h:dE f g R) (h':∀a b,R a b->dE (f' a) (g' b) R') (hm:∀b,Bh (g' b)):dE (λl=>(f l).bind λx=>f' x.1 x.2) (λp=>g' (g p).1 (g p).2) R' where
 ok:=λl c l2 hl ts ht=>by
  obtain⟨⟨a,l1⟩,h1,h2⟩:=Option.bind_eq_some_iff.1 hl;obtain⟨ts1,k1,k2,k3⟩:=h.ok l a l1 h1 ts ht;obtain⟨ts2,m1,m2,m3⟩:=(h' a _ k3).ok l1 c l2 h2 ts1 k1;refine⟨ts2,m1,?_,?_⟩
  ·show(g' (g ⟨ts,false⟩).1 (g ⟨ts,false⟩).2).2=_
   rw[k2];exact m2
  ·show R' c (g' (g ⟨ts,false⟩).1 (g ⟨ts,false⟩).2).1
   rw[k2];exact m3
 no:=λl hl ts ht=>by
  show(g' (g ⟨ts,false⟩).1 (g ⟨ts,false⟩).2).2.bad=true
  cases h1:f l with
  |none=>exact hm _ _ (h.no l h1 ts ht)
  |some x =>rw[h1]at hl;obtain⟨ts1,k1,k2,k3⟩:=h.ok l x.1 x.2 h1 ts ht;rw[k2];exact(h' x.1 _ k3).no x.2 hl ts1 k1
theorem dE.mono{α β:Type}{f:PP α}{g:DK->β×DK}{R R':α->β->Prop}(h:dE f g R)(hr:∀a b,R a b->R' a b):dE f g R' :=
 ⟨λl a l' hl ts ht=>by obtain⟨ts',a1,a2,a3⟩:=h.ok l a l' hl ts ht;exact⟨ts',a1,a2,hr _ _ a3⟩,h.no⟩
theorem dE.pure{α β:Type}(a:α)(b:β){R:α->β->Prop}(h:R a b):dE (λl=>some (a,l)) (λp=>(b,p)) R :=
 ⟨λl a' l' hl ts ht=>by cases hl;exact⟨ts,ht,rfl,h⟩,λl hl=>by cases hl⟩
theorem dE.whole{α β:Type}{f:PP α}{g:DK->β×DK}{R:α->β->Prop}(h:dE f g R)(hk:dJ f)(l:tLB)(a:α)(l':tLB)(hl:f l=some (a,l'))(hd:aw l'=[]):∃ts,jP l=some ts/\(g ⟨ts,false⟩).2.done=true/\R a (g ⟨ts,false⟩).1:=by
 have h0:=vH hd;cases ht:jP l with
 |none=>rw[hk l a l' hl ht]at h0;cases h0
 |some ts =>obtain⟨ts',k1,k2,k3⟩:=h.ok l a l' hl ts ht;rw[h0]at k1;cases k1;exact⟨ts,rfl,by rw[k2];rfl,k3⟩
theorem dE.refused{α β:Type}{f:PP α}{g:DK->β×DK}{R:α->β->Prop}(h:dE f g R)(l:tLB)(hn:∀a l',f l=some (a,l')->aw l'≠[])(ts:List aY)(ht:jP l=some ts):(g ⟨ts,false⟩).2.done=false:=by
 cases hl:f l with
 |none =>have:=h.no l hl ts ht;unfold DK.done;rw[this];rfl
 |some x =>
  obtain⟨ts',k1,k2,_⟩:=h.ok l x.1 x.2 hl ts ht;rw[k2];unfold DK.done;cases ts' with
  |nil=>exact absurd (JC.1 k1) (hn x.1 x.2 hl)
  |cons t r=>rfl
theorem jx(t:aY)(r:List aY)(b:Bool):(DK.mk (t::r) b).take t.kind=(t,⟨r,b⟩):=by unfold DK.take;simp
theorem iR(t:aY)(r:List aY)(b:Bool)(k:Nat)(h:t.kind≠k):(DK.mk (t::r) b).take k=(nS,⟨[],true⟩):=by unfold DK.take;simp[h]
theorem cU(p:DK)(k:Nat)(h:p.bad=true):(p.take k).2.bad=true:=by
 unfold DK.take;split
 ·rfl
 ·split
  ·exact h
  ·rfl
theorem fZ(p:DK)(b:Bool)(h:p.bad=true):(p.fail b).bad=true:=by simp[DK.fail,h]
theorem ru:Bh DK.name:=λp h=>fZ _ _ (cU p 110 h)
theorem Ad:Bh DK.fF:=λp h=>fZ _ _ (cU p 110 h)
theorem map_none{α β:Type}{f:α->β}{o:Option α}(h:o.map f=none):o=none:=by cases o<;>simp_all
def bB(b:UInt8):PP Unit:=λl=>if aH b l then some ((),aL b l)else none
theorem kI(b:UInt8)(hb:b=58\/b=44\/b=91\/b=93\/b=43):dJ (bB b):=λl a l' hl ht=>by
 unfold bB at hl;split at hl
 ·rename_i hm
  cases hl;rw[wF b hb hm]at ht;exact map_none ht
 ·cases hl
theorem pG(b:UInt8)(hb:b=58\/b=44\/b=91\/b=93\/b=43):dE (bB b) (λp=>((),(p.take b.toNat).2)) (λ_ _=>True) where
 ok:=λl a l' hl ts ht=>by
  unfold bB at hl;split at hl
  ·rename_i hm
   cases hl;rw[wF b hb hm]at ht;obtain⟨ts',h1,h2⟩:=Option.map_eq_some_iff.1 ht;subst h2;exact⟨ts',h1,by show(DK.take _ _).2=_;rw[show b.toNat=(Gb b).kind from rfl,jx],trivial⟩
  ·cases hl
 no:=λl hl ts ht=>by
  show((DK.mk ts false).take b.toNat).2.bad=true
  cases ts with
  |nil=>rfl
  |cons t r =>
   rw[iR];intro hk;unfold bB at hl;split at hl
   ·cases hl
   ·rename_i hm
    rcases mF ht with⟨_,_,_,e⟩ |⟨n,r',_,_,_,e⟩ |⟨c,hc,hcm,e,_⟩
    ·rw[e]at hk;rcases hb with rfl|rfl|rfl|rfl|rfl<;>cases hk
    ·rw[e]at hk;rcases hb with rfl|rfl|rfl|rfl|rfl<;>cases hk
    ·subst e;have:c=b:=UInt8.toNat_inj.1 hk;subst this;exact hm hcm
def dB:PP tLB:=λl=>if ahI (aC l).1 then some ((aC l).1,(aC l).2)else none
theorem BT(l:tLB):(T l).data.toList=l:=by simp[T]
theorem ma:dJ dB:=λl a l' hl ht=>by
 unfold dB at hl;split at hl
 ·rename_i hm
  cases hl;rw[nW (wE hm)]at ht;exact map_none ht
 ·cases hl
theorem jY:dE dB DK.name (λw v=>v=T w/\ahI w=true) where
 ok:=λl a l' hl ts ht=>by
  unfold dB at hl;split at hl
  ·rename_i hm
   cases hl;rw[nW (wE hm)]at ht;obtain⟨ts',h1,h2⟩:=Option.map_eq_some_iff.1 ht;subst h2;have e:(DK.mk (iA (aC l).1::ts') false).take 110=(iA (aC l).1,⟨ts',false⟩):=jx (iA (aC l).1) ts' false;refine⟨ts',h1,?_,?_,hm⟩
   ·unfold DK.name;rw[e];show DK.fail _ _=_
    unfold DK.fail iA;rw[BT,hm];rfl
   ·unfold DK.name;rw[e];rfl
  ·cases hl
 no:=λl hl ts ht=>by
  unfold dB at hl;split at hl
  ·cases hl
  ·rename_i hm
   cases ts with
   |nil=>rfl
   |cons t r =>
    by_cases hk:t.kind=110
    ·rcases mF ht with⟨_,e,_,_⟩ |⟨n,r',_,e,_,_⟩ |⟨c,hc,hcm,e,_⟩
     ·unfold DK.name;rw[show(110:Nat)=t.kind from hk.symm,jx,e];simp at hm;simp[DK.fail,iA,BT,hm]
     ·rw[e]at hk;cases hk
     ·rw[e]at hk;rcases hc with rfl|rfl|rfl|rfl|rfl|rfl<;>cases hk
    ·exact fZ _ _ (by rw[iR t r false 110 hk])
theorem mf{a b:tLB}:T a=T b↔a=b:=⟨λh=>by rw[<-BT a,<-BT b,h],λh=>by rw[h]⟩
theorem aie(w:tLB)(L:List tLB):ahH (T w) (L.map T)=match L.findIdx? (λx=>x==w)with|some k=>(k:Int)|none=>-1:=by
 induction L with
 |nil=>rfl
 |cons x L ih =>
  simp only[List.map_cons,ahH,List.findIdx?_cons];by_cases h:x=w
  ·simp[h]
  ·have h1:(x==w)=false:=by simpa using h
   rw[iN9 (λe=>h (mf.1 e)),ih,h1];cases L.findIdx? (λx=>x==w)with
   |none=>simp
   |some k=>simp;omega
theorem WS(w:tLB)(f:Nat->tLB)(n k:Nat):(bh k n).find? (λm=>w==f m)=(((bh k n).map f).findIdx? (λx=>x==w)).map (λj=>k+j):=by
 induction n generalizing k with
 |zero=>rfl
 |succ n ih =>
  simp only[cd,List.find?_cons,List.map_cons,List.findIdx?_cons];have h:(w==f k)=(f k==w):=by rw[Bool.eq_iff_iff,beq_iff_eq,beq_iff_eq];exact eq_comm
  rw[h];cases(f k==w)with
  |true=>rfl
  |false =>
   simp only[ih];cases((bh (k+1) n).map f).findIdx? (λx=>x==w)with
   |none=>rfl
   |some j=>simp;omega
theorem Py(w:tLB):bC w=((List.range 11).map yU).findIdx? (λx=>x==w):=by unfold bC;rw[ca,WS];cases((bh 0 11).map yU).findIdx? (λx=>x==w)<;>simp
theorem aaz:pY=((List.range 11).map yU).map T:=by decide +kernel
theorem JE(w:tLB):uX (T w)=match bC w with|some k=>(k:Int)|none=>-1:=by unfold uX;rw[aaz,aie,Py]
theorem Ae{w:tLB}{n:Nat}(h:bC w=some n):lead w=true/\n<=10:=by unfold bC at h;have h1:=List.find?_some h;have h2:=List.mem_of_find?_eq_some h;simp at h1 h2;subst h1;exact⟨rfl,by omega⟩
def fJ:PP Nat:=λl=>(bC (aC l).1).map λn=>(n,(aC l).2)
theorem oD:dJ fJ:=λl a l' hl ht=>by
 unfold fJ at hl;obtain⟨n,hn,e⟩:=Option.map_eq_some_iff.1 hl;cases e;rw[nW (Ae hn).1]at ht;exact map_none ht
theorem tX:dE fJ DK.fF (λn v=>v=(n:Int)/\n<=10) where
 ok:=λl a l' hl ts ht=>by
  unfold fJ at hl;obtain⟨n,hn,e⟩:=Option.map_eq_some_iff.1 hl;cases e;rw[nW (Ae hn).1]at ht;obtain⟨ts',h1,h2⟩:=Option.map_eq_some_iff.1 ht;subst h2;have e:(DK.mk (iA (aC l).1::ts') false).take 110=(iA (aC l).1,⟨ts',false⟩):=jx (iA (aC l).1) ts' false;have hr:uX (iA (aC l).1).s=(a:Int):=by show uX (T _)=_;rw[JE,hn]
  refine⟨ts',h1,?_,?_,(Ae hn).2⟩
  ·unfold DK.fF;rw[e];show DK.fail _ _=_
   rw[hr];unfold DK.fail;have:decide ((a:Int)<0)=false:=by simp
   rw[this];rfl
  ·unfold DK.fF;rw[e];exact hr
 no:=λl hl ts ht=>by
  unfold fJ at hl;have hn:=map_none hl;cases ts with
  |nil=>rfl
  |cons t r =>
   by_cases hk:t.kind=110
   ·rcases mF ht with⟨_,e,_,_⟩ |⟨n,r',_,e,_,_⟩ |⟨c,hc,hcm,e,_⟩
    ·unfold DK.fF;rw[show(110:Nat)=t.kind from hk.symm,jx,e];have:uX (iA (aC l).1).s=-1:=by show uX (T _)=_;rw[JE,hn]
     simp[DK.fail,this]
    ·rw[e]at hk;cases hk
    ·rw[e]at hk;rcases hc with rfl|rfl|rfl|rfl|rfl|rfl<;>cases hk
   ·exact fZ _ _ (by rw[iR t r false 110 hk])
theorem rz:dJ bJ:=λl a l' hl ht=>by
 rw[tV hl]at ht;exact map_none ht
def takeN(p:DK):aA×DK:=((p.take 100).1.n,(p.take 100).2)
theorem iF:Bh takeN:=λp h=>cU p 100 h
theorem wI:dE bJ takeN (λn v=>v=n) where
 ok:=λl a l' hl ts ht=>by
  rw[tV hl]at ht;obtain⟨ts',h1,h2⟩:=Option.map_eq_some_iff.1 ht;subst h2;have e:(DK.mk (Bg l a::ts') false).take 100=(Bg l a,⟨ts',false⟩):=jx (Bg l a) ts' false;refine⟨ts',h1,?_,?_⟩
  ·unfold takeN;rw[e]
  ·unfold takeN;rw[e];rfl
 no:=λl hl ts ht=>by
  cases ts with
  |nil=>rfl
  |cons t r =>
   by_cases hk:t.kind=100
   ·rcases mF ht with⟨_,e,_,_⟩ |⟨n,r',e',_⟩ |⟨c,hc,hcm,e,_⟩
    ·rw[e]at hk;cases hk
    ·rw[hl]at e';cases e'
    ·rw[e]at hk;rcases hc with rfl|rfl|rfl|rfl|rfl|rfl<;>cases hk
   ·unfold takeN;rw[iR t r false 100 hk]
theorem QD{l:tLB}{ts:List aY}(ht:jP l=some ts)(b:Bool):(DK.mk ts b).is 100=(bJ l).isSome:=by
 cases ts with
 |nil =>
  cases hn:bJ l with
  |none=>rfl
  |some x=>rw[tV hn]at ht;cases h2:jP x.2<;>rw[h2]at ht<;>cases ht
 |cons t r =>
  show decide (t.kind=100)=_
  rcases mF ht with⟨hl,e,_,_⟩ |⟨n,r',e',_,_,e⟩ |⟨c,hc,hcm,e,hr,hm⟩
  ·have:bJ l=none:=by
    cases hn:bJ l with
    |none=>rfl
    |some x=>rw[tV hn]at ht;cases h2:jP x.2<;>rw[h2]at ht<;>cases ht;cases e
   rw[this,e];rfl
  ·rw[e',e];rfl
  ·have:bJ l=none:=by
    cases hn:bJ l with
    |none=>rfl
    |some x =>
     rw[tV hn]at ht;cases h2:jP x.2<;>rw[h2]at ht<;>cases ht
     have:=congrArg aY.kind e;have h3:(100:Nat)=c.toNat:=this;rcases hc with rfl|rfl|rfl|rfl|rfl|rfl<;>cases h3
   rw[this,e];rcases hc with rfl|rfl|rfl|rfl|rfl|rfl<;>rfl
def sw{α:Type}(x:DK×α):α×DK:=(x.2,x.1)
theorem Ee(l:tLB):aC (aw l)=aC l:=by unfold aC;rw[wD]
theorem Tt{l:tLB}(h:lead (aC l).1=true):∃c r,aw l=c::r/\di (c.toNat:Int)=true:=by
 cases hw:(aC l).1 with
 |nil=>rw[hw]at h;cases h
 |cons c r =>rw[hw]at h;obtain⟨r',hr,_⟩:=eH (p:=aG) (l:=aw l) hw;exact⟨c,r',hr,h⟩
theorem Tu{l:tLB}(h:lead (aC l).1=true)(b:UInt8)(hb:di (b.toNat:Int)=false):aH b l=false:=by
 obtain⟨c,r,hr,hs⟩:=Tt h;cases hm:aH b l with
 |false=>rfl
 |true =>obtain⟨r',hr'⟩:=gC.1 hm;rw[hr]at hr';cases hr';rw[hs]at hb;cases hb
theorem Tv{l:tLB}(h:lead (aC l).1=true):bJ l=none:=by have hm:=Tu h 45 (by decide);unfold bJ;rw[hm,vI hm,Ee,JD h];rfl
theorem Ef{l:tLB}{n:aA}{r:tLB}(h:bJ l=some (n,r)):n.minus=aH 45 l:=by
 unfold bJ at h;split at h
 ·cases h
 ·obtain⟨v,hv,he⟩:=Option.map_eq_some_iff.1 h;cases he;rfl
theorem yB(x:aj):Bh (λp=>sw (p.other x)):=λp h=>by
 show(p.other x).1.bad=true
 unfold DK.other;split
 ·exact cU _ _ h
 ·exact Ad p h
def ah2:PP (Nat ⊕ aA):=λl=>match fJ l with
 |some x=>some (.inl x.1,x.2)
 |none=>(bJ l).map λx=>(.inr x.1,x.2)
def WT(x:aj)(v:Nat ⊕ aA)(y:aj):Prop:=match v with
 |.inl n=>y={x with i:={x.i with s:=(n:Int)}}/\n<=10
 |.inr n=>y={x with i:={x.i with s:=-1},n:=n,hn:=true}
theorem Af{l:tLB}{x:Nat×tLB}(h:fJ l=some x):bJ l=none:=by unfold fJ at h;obtain⟨n,hn,_⟩:=Option.map_eq_some_iff.1 h;exact Tv (Ae hn).1
theorem GW:dJ ah2:=λl a l' hl ht=>by
 unfold ah2 at hl;split at hl
 ·rename_i x hx
  cases hl;exact oD l x.1 x.2 hx ht
 ·obtain⟨n,hn,e⟩:=Option.map_eq_some_iff.1 hl;cases e;exact rz l n.1 n.2 hn ht
theorem GX(x:aj):dE ah2 (λp=>sw (p.other x)) (WT x) where
 ok:=λl a l' hl ts ht=>by
  have hi:=QD ht false;unfold ah2 at hl;split at hl
  ·rename_i z hx
   cases hl;rw[Af hx]at hi;obtain⟨ts',h1,h2,h3⟩:=tX.ok l z.1 z.2 hx ts ht;refine⟨ts',h1,?_,?_⟩
   ·show(DK.other _ x).1=_
    unfold DK.other;rw[hi];exact h2
   ·show WT x (.inl z.1) (DK.other _ x).2
    unfold DK.other;rw[hi];exact⟨by simp only[Option.isSome];rw[h3.1];rfl,h3.2⟩
  ·obtain⟨n,hn,e⟩:=Option.map_eq_some_iff.1 hl;cases e;rw[hn]at hi;obtain⟨ts',h1,h2,h3⟩:=wI.ok l n.1 n.2 hn ts ht;refine⟨ts',h1,?_,?_⟩
   ·show(DK.other _ x).1=_
    unfold DK.other;rw[hi];exact h2
   ·show WT x (.inr n.1) (DK.other _ x).2
    unfold DK.other;rw[hi];show _=_
    simp only[Option.isSome,if_true];rw[show(DK.take ⟨ts,false⟩ 100).1.n=n.1 from h3]
 no:=λl hl ts ht=>by
  have hi:=QD ht false;unfold ah2 at hl;split at hl
  ·cases hl
  ·rename_i hx
   rw[map_none hl]at hi;show(DK.other _ x).1.bad=true
   unfold DK.other;rw[hi];exact tX.no l hx ts ht
def nE:PP (Option aA):=λl =>
 if aH 45 l then(aU (aC (aL 45 l)).1).map λv=>(some ⟨v,true⟩,(aC (aL 45 l)).2)
 else if aH 43 l then(aU (aC (aL 43 l)).1).map λv=>(some ⟨v,false⟩,(aC (aL 43 l)).2)
 else some (none,aw l)
theorem Bi{l:tLB}{v:Nat}(h:aU (aC l).1=some v):bJ l=some (⟨v,false⟩,(aC l).2):=by
 obtain⟨c,r,hc,hd⟩:=vQ h;obtain⟨r2,hr2,_⟩:=eH (l:=aw l) hc
 have hm:aH 45 l=false:=by
  cases e:aH 45 l with
  |false=>rfl
  |true =>obtain⟨r0,hr0⟩:=gC.1 e;rw[hr2]at hr0;cases hr0;revert hd;decide
 unfold bJ;rw[hm,vI hm,Ee,h];rfl
theorem yC{r:tLB}(hd:(r.head?.map λd=>aS (d.toNat:Int))=some true):aC r=(r.takeWhile aG,r.dropWhile aG):=by
 have:r.head?≠some 32:=by intro e;rw[e]at hd;revert hd;decide
 unfold aC;rw[wH this]
theorem Tw:dJ nE:=λl a l' hl ht=>by
 unfold nE at hl;split at hl
 ·rename_i hm
  obtain⟨v,hv,e⟩:=Option.map_eq_some_iff.1 hl;cases e;obtain⟨r,hr⟩:=gC.1 hm;rw[(l9 hr).2]at hv ⊢;by_cases hd:(r.head?.map λd=>aS (d.toNat:Int))=some true
  ·rw[wG hr hd]at ht;rw[yC hd]at hv ⊢;rw[hv]at ht;exact map_none ht
  ·rw[Ed hr hd]at ht;have h2:=map_none ht;rw[tV (Bi hv)]at h2;exact map_none h2
 ·split at hl
  ·rename_i hm
   obtain⟨v,hv,e⟩:=Option.map_eq_some_iff.1 hl;cases e;rw[wF 43 (by simp) hm]at ht;have h2:=map_none ht;rw[tV (Bi hv)]at h2;exact map_none h2
  ·cases hl;rw[Ac];exact ht
theorem wJ(x:aj):Bh (λp=>sw (p.jump x)):=λp h=>by
 show(p.jump x).1.bad=true
 unfold DK.jump;split
 ·exact fZ _ _ (cU _ _ h)
 ·split
  ·exact cU _ _ h
  ·exact h
def adq(x:aj)(v:Option aA)(y:aj):Prop:=y={x with j:=v.getD x.j}
theorem Eg{l:tLB}{v:Nat}(h:aU (aC l).1=some v){ts:List aY}(ht:jP l=some ts):∃ts',jP (aC l).2=some ts'/\ts=Bg l ⟨v,false⟩::ts':=by rw[tV (Bi h)]at ht;obtain⟨ts',h1,h2⟩:=Option.map_eq_some_iff.1 ht;exact⟨ts',h1,h2.symm⟩
theorem GY{l:tLB}(h:aU (aC l).1=none){ts:List aY}(ht:jP l=some ts):(((DK.mk ts false).take 100).2.fail ((DK.mk ts false).take 100).1.n.minus).bad=true:=by
 cases ts with
 |nil=>rfl
 |cons t r =>
  by_cases hk:t.kind=100
  ·rcases mF ht with⟨_,_,_,e⟩ |⟨n,r',e',e,_⟩ |⟨c,hc,hcm,e,_⟩
   ·rw[e]at hk;cases hk
   ·rw[show(100:Nat)=t.kind from hk.symm,jx,e];have hm:=Ef e';cases hq:aH 45 l with
    |true =>
     show(false||n.minus)=true
     rw[hm,hq];rfl
    |false =>unfold bJ at e';rw[hq,vI hq,Ee,h]at e';cases e'
   ·rw[e]at hk;rcases hc with rfl|rfl|rfl|rfl|rfl|rfl<;>cases hk
  ·exact fZ _ _ (by rw[iR t r false 100 hk])
theorem WU(x:aj):dE nE (λp=>sw (p.jump x)) (adq x) where
 ok:=λl a l' hl ts ht=>by
  unfold nE at hl;split at hl
  ·rename_i hm
   obtain⟨v,hv,e⟩:=Option.map_eq_some_iff.1 hl;cases e;obtain⟨r,hr⟩:=gC.1 hm;rw[(l9 hr).2]at hv ⊢;by_cases hd:(r.head?.map λd=>aS (d.toNat:Int))=some true
   ·rw[wG hr hd]at ht;rw[yC hd]at hv ⊢;rw[hv]at ht;obtain⟨ts',h1,h2⟩:=Option.map_eq_some_iff.1 ht;subst h2;refine⟨ts',h1,?_,?_⟩<;>rfl
   ·rw[Ed hr hd]at ht;obtain⟨t1,h1,h2⟩:=Option.map_eq_some_iff.1 ht;subst h2;obtain⟨ts',k1,rfl⟩:=Eg hv h1;exact⟨ts',k1,rfl,rfl⟩
  ·rename_i hm0
   split at hl
   ·rename_i hm
    obtain⟨v,hv,e⟩:=Option.map_eq_some_iff.1 hl;cases e;rw[wF 43 (by simp) hm]at ht;obtain⟨t1,h1,h2⟩:=Option.map_eq_some_iff.1 ht;subst h2;obtain⟨ts',k1,rfl⟩:=Eg hv h1;exact⟨ts',k1,rfl,rfl⟩
   ·rename_i hm
    cases hl
    have hj:DK.jump ⟨ts,false⟩ x=(⟨ts,false⟩,x):=by
     cases ts with
     |nil=>rfl
     |cons t r =>
      unfold DK.jump;rcases mF ht with⟨_,_,_,e⟩ |⟨n,r',e',e,_,ek⟩ |⟨c,hc,hcm,e,_⟩
      ·simp[DK.is,e]
      ·have VI:=Ef e'
       have:t.n.minus=false:=by
        rw[e];show n.minus=false
        rw[VI];simpa using hm0
       simp[DK.is,ek,this]
      ·rw[e];rcases hc with rfl|rfl|rfl|rfl|rfl|rfl
       ·rfl
       ·rfl
       ·rfl
       ·rfl
       ·exact absurd hcm hm
       ·exact absurd hcm hm0
    refine⟨ts,by rw[Ac];exact ht,?_,?_⟩
    ·show(DK.jump _ x).1=_
     rw[hj]
    ·show(DK.jump _ x).2=_
     rw[hj];rfl
 no:=λl hl ts ht=>by
  show(DK.jump _ x).1.bad=true
  unfold nE at hl;split at hl
  ·rename_i hm
   have hv:=map_none hl;obtain⟨r,hr⟩:=gC.1 hm;rw[(l9 hr).2]at hv;by_cases hd:(r.head?.map λd=>aS (d.toNat:Int))=some true
   ·rw[wG hr hd]at ht;rw[yC hd]at hv;rw[hv]at ht;cases ht
   ·rw[Ed hr hd]at ht;obtain⟨t1,h1,h2⟩:=Option.map_eq_some_iff.1 ht;subst h2;exact GY hv h1
  ·split at hl
   ·rename_i hm
    have hv:=map_none hl;rw[wF 43 (by simp) hm]at ht;obtain⟨t1,h1,h2⟩:=Option.map_eq_some_iff.1 ht;subst h2;exact GY hv h1
   ·cases hl
def lD:PP (tLB ⊕ aA):=λl =>
 if(aC l).1=[109,97,112]then(dB (aC l).2).map λx=>(.inl x.1,x.2)
 else(bJ l).map λx=>(.inr x.1,x.2)
def WV(x:aj)(v:tLB ⊕ aA)(y:aj):Prop:=match v with
 |.inl n=>y={x with i:={x.i with name:=T n}}/\ahI n=true
 |.inr n=>y={x with n:=n,hn:=true}
theorem Eh{l:tLB}(h:(aC l).1=[109,97,112]):lead (aC l).1=true:=by rw[h];rfl
theorem Pz:dJ lD:=λl a l' hl ht=>by
 unfold lD at hl;split at hl
 ·rename_i hm
  obtain⟨v,hv,e⟩:=Option.map_eq_some_iff.1 hl;cases e;rw[nW (Eh hm)]at ht;exact ma _ v.1 v.2 hv (map_none ht)
 ·obtain⟨n,hn,e⟩:=Option.map_eq_some_iff.1 hl;cases e;exact rz l n.1 n.2 hn ht
theorem Bj(x:aj):Bh (λp=>sw (p.wide x)):=λp h=>by
 show(p.wide x).1.bad=true
 unfold DK.wide;split
 ·unfold DK.BI;exact ru _ (fZ _ _ (cU _ _ h))
 ·exact cU _ _ h
theorem GZ:MAP=T [109,97,112]:=by decide +kernel
theorem WW(x:aj):dE lD (λp=>sw (p.wide x)) (WV x) where
 ok:=λl a l' hl ts ht=>by
  unfold lD at hl;split at hl
  ·rename_i hm
   obtain⟨v,hv,e⟩:=Option.map_eq_some_iff.1 hl;cases e;rw[nW (Eh hm),hm]at ht;obtain⟨t1,h1,h2⟩:=Option.map_eq_some_iff.1 ht;subst h2;obtain⟨ts',k1,k2,k3⟩:=jY.ok _ v.1 v.2 hv t1 h1;have e:(DK.mk (iA [109,97,112]::t1) false).take 110=(iA [109,97,112],⟨t1,false⟩):=jx (iA [109,97,112]) t1 false
   have e2:(DK.mk t1 false).fail (decide ((iA [109,97,112]).s≠MAP))=⟨t1,false⟩:=by
    have:decide ((iA [109,97,112]).s≠MAP)=false:=by rw[GZ];simp[iA]
    rw[this];rfl
   have e3:DK.wide ⟨iA [109,97,112]::t1,false⟩ x=((DK.mk t1 false).name.2,{x with i:={x.i with name:=(DK.mk t1 false).name.1}}):=by
    show DK.BI _ x=_
    unfold DK.BI;rw[e,e2]
   refine⟨ts',k1,?_,?_⟩
   ·show(DK.wide _ x).1=_
    rw[e3];exact k2
   ·show WV x _ (DK.wide _ x).2
    rw[e3];exact⟨by rw[k3.1],k3.2⟩
  ·obtain⟨n,hn,e⟩:=Option.map_eq_some_iff.1 hl;cases e;obtain⟨ts',h1,h2,h3⟩:=wI.ok l n.1 n.2 hn ts ht;rw[tV hn]at ht;obtain⟨t1,k1,k2⟩:=Option.map_eq_some_iff.1 ht;subst k2;refine⟨ts',h1,h2,?_⟩;have e4:(DK.wide ⟨Bg l n.1::t1,false⟩ x).2={x with n:=(takeN ⟨Bg l n.1::t1,false⟩).1,hn:=true}:=rfl;show(DK.wide ⟨Bg l n.1::t1,false⟩ x).2={x with n:=n.1,hn:=true}
   rw[e4,h3]
 no:=λl hl ts ht=>by
  show(DK.wide _ x).1.bad=true
  unfold lD at hl;split at hl
  ·rename_i hm
   rw[nW (Eh hm),hm]at ht;obtain⟨t1,h1,h2⟩:=Option.map_eq_some_iff.1 ht;subst h2;have hb:=jY.no _ (map_none hl) t1 h1;have e:(DK.mk (iA [109,97,112]::t1) false).take 110=(iA [109,97,112],⟨t1,false⟩):=jx (iA [109,97,112]) t1 false
   have e2:(DK.mk t1 false).fail (decide ((iA [109,97,112]).s≠MAP))=⟨t1,false⟩:=by
    have:decide ((iA [109,97,112]).s≠MAP)=false:=by rw[GZ];simp[iA]
    rw[this];rfl
   show(DK.BI _ x).1.bad=true
   unfold DK.BI;rw[e,e2];exact hb
  ·rename_i hm
   have hn:=map_none hl;unfold DK.wide;split
   ·rename_i adr
    cases ts with
    |nil=>cases adr
    |cons t r =>
     have hk:t.kind=110:=by simpa [DK.is]using adr
     rcases mF ht with⟨_,e,_,_⟩ |⟨n,r',_,e,_,_⟩ |⟨c,hc,hcm,e,_⟩
     ·unfold DK.BI;refine ru _ ?_;rw[show(110:Nat)=t.kind from hk.symm,jx,e];have:decide ((iA (aC l).1).s≠MAP)=true:=by rw[GZ,decide_eq_true_eq];exact λc=>hm (mf.1 c)
      rw[this];rfl
     ·rw[e]at hk;cases hk
     ·rw[e]at hk;rcases hc with rfl|rfl|rfl|rfl|rfl|rfl<;>cases hk
   ·exact wI.no l hn ts ht
def tY:PP Nat:=λl=>(jg.findIdx? (λh=>h==(aC l).1)).map λn=>(n,(aC l).2)
theorem wK:bO=jg.map T:=by decide +kernel
theorem G5{w:tLB}{n:Nat}(h:jg.findIdx? (λh=>h==w)=some n):n<4/\jg[n]?=some w/\ahI w=true:=by
 obtain⟨h1,h2,_⟩:=List.findIdx?_eq_some_iff_getElem.1 h;have h3:jg[n]=w:=by simpa using h2
 have h4:n<4:=h1;refine⟨h4,by rw[List.getElem?_eq_getElem h1,h3],?_⟩;subst h3;have:∀k:Fin 4,ahI (jg[k.val]'(by have:=k.2;exact this))=true:=by decide
 exact this ⟨n,h4⟩
theorem PB:dJ tY:=λl a l' hl ht=>by
 unfold tY at hl;obtain⟨n,hn,e⟩:=Option.map_eq_some_iff.1 hl;cases e;rw[nW (wE (G5 hn).2.2)]at ht;exact map_none ht
def abr(x:aj)(n:Nat)(y:aj):Prop:=n<4/\∃w,jg[n]?=some w/\y={x with i:={x.i with label:=T w}}
theorem WX(x:aj):dE tY (λp=>sw (p.AL x)) (abr x) where
 ok:=λl a l' hl ts ht=>by
  unfold tY at hl;obtain⟨n,hn,e⟩:=Option.map_eq_some_iff.1 hl;cases e;obtain⟨h1,h2,h3⟩:=G5 hn;have hp:dB l=some ((aC l).1,(aC l).2):=by unfold dB;rw[iP9 h3]
  obtain⟨ts',k1,k2,k3⟩:=jY.ok l _ _ hp ts ht;refine⟨ts',k1,?_,h1,_,h2,?_⟩
  ·show(DK.AL _ x).1=_
   unfold DK.AL;rw[k2,k3.1,wK,aie,hn];have:decide ((a:Int)<0)=false:=by simp
   simp only[this];rfl
  ·show(DK.AL _ x).2=_
   unfold DK.AL;rw[k3.1]
 no:=λl hl ts ht=>by
  show(DK.AL _ x).1.bad=true
  unfold tY at hl;have hn:=map_none hl;unfold DK.AL;by_cases h3:ahI (aC l).1=true
  ·have hp:dB l=some ((aC l).1,(aC l).2):=by unfold dB;rw[iP9 h3]
   obtain⟨ts',k1,k2,k3⟩:=jY.ok l _ _ hp ts ht;rw[k2,k3.1,wK,aie,hn];rfl
  ·exact fZ _ _ (jY.no l (by unfold dB;rw[iN9 h3]) ts ht)
theorem dE.last{α β γ:Type}{f:PP α}{g:DK->β×DK}{R:α->β->Prop}(h:dE f g R)(k:α->γ):dE (λl=>(f l).bind λx=>some (k x.1,x.2)) g (λc b=>∃a,c=k a/\R a b) where
 ok:=λl c l' hl ts ht=>by obtain⟨⟨a,l1⟩,h1,h2⟩:=Option.bind_eq_some_iff.1 hl;cases h2;obtain⟨ts',k1,k2,k3⟩:=h.ok l a l1 h1 ts ht;exact⟨ts',k1,k2,a,rfl,k3⟩
 no:=λl hl ts ht=>by
  cases h1:f l with
  |none=>exact h.no l h1 ts ht
  |some x=>rw[h1]at hl;cases hl
theorem dE.Ca{α β δ:Type}{f:PP α}{g:DK->β×DK}{R:α->β->Prop}(h:dE f g R)(k:β->δ):dE f (λp=>(k (g p).1,(g p).2)) (λa c=>∃b,c=k b/\R a b) where
 ok:=λl a l' hl ts ht=>by obtain⟨ts',k1,k2,k3⟩:=h.ok l a l' hl ts ht;exact⟨ts',k1,k2,_,rfl,k3⟩
 no:=λl hl ts ht=>h.no l hl ts ht
theorem dJ.last{α γ:Type}{f:PP α}(h:dJ f)(k:α->γ):dJ (λl=>(f l).bind λx=>some (k x.1,x.2)):=λl c l' hl ht=>by
 obtain⟨⟨a,l1⟩,h1,h2⟩:=Option.bind_eq_some_iff.1 hl;cases h2;exact h l a l1 h1 ht
theorem Bh.Ca{β δ:Type}{g:DK->β×DK}(h:Bh g)(k:β->δ):Bh (λp=>(k (g p).1,(g p).2)):=λp hp=>h p hp
section
variable (x : aj)
def fU(d:Int):aj:={x with i:={x.i with d:=d}}
def PD(s:Int):aj:={x with i:={x.i with s:=s}}
def Tx(l:tBA):aj:={x with i:={x.i with label:=l}}
def Ty:PP (Nat×(Nat ⊕ aA)):=λl=>(fJ l).bind λa=>(bB 44 a.2).bind λm=>(ah2 m.2).bind λb=>some ((a.1,b.1),b.2)
def arG(p:DK):aj×DK:=sw (p.fF.2.then (fU x p.fF.1))
def arR(v:Nat×(Nat ⊕ aA))(y:aj):Prop:=v.1<=10/\WT (fU x v.1) v.2 y
theorem Lt:dJ Ty:=dJ.bind (f':=λa l=>(bB 44 l).bind λm=>(ah2 m.2).bind λb=>some ((a,b.1),b.2)) oD (λa=>dJ.bind (f':=λ_ l=>(ah2 l).bind λb=>some ((a,b.1),b.2)) (kI 44 (by simp)) (λ_=>GW.last _))
theorem rA:Bh (λp=>sw (p.then x)):=λp h=>yB x _ (cU p 44 h)
theorem WY:dE Ty (arG x) (arR x):=by
 have h1:∀(a:Nat) (b:Int),(b=(a:Int)/\a<=10)->dE (λl=>(bB 44 l).bind λm=>(ah2 m.2).bind λb=>some ((a,b.1),b.2)) (λp=>sw (p.then (fU x b))) (arR x):=by rintro a _ ⟨rfl,ha⟩;refine dE.bind (g:=λp=>((),(p.take 44).2)) (f':=λ_ l=>(ah2 l).bind λb=>some ((a,b.1),b.2)) (g':=λ_ p=>sw (p.other (fU x a))) (pG 44 (by simp)) (λ_ _ _=>?_) (λ_=>yB _);refine((GX (fU x a)).last (λb=>(a,b))).mono ?_;rintro c b ⟨v,rfl,hv⟩;exact⟨ha,hv⟩
 exact dE.bind (f':=λa l=>(bB 44 l).bind λm=>(ah2 m.2).bind λb=>some ((a,b.1),b.2)) (g':=λb p=>sw (p.then (fU x b))) tX h1 (λb=>rA _)
def ngG(p:DK):aj×DK:=(fU x p.fF.1,p.fF.2)
theorem ab5:dE fJ (ngG x) (λn y=>n<=10/\y=fU x n):=by refine(tX.Ca (fU x)).mono ?_;rintro a _ ⟨b,rfl,rfl,h⟩;exact⟨h,rfl⟩
def jaG(p:DK):aj×DK:=sw (p.named x)
theorem WZ:dE dB (jaG x) (λn y=>ahI n=true/\y=Tx x (T n)):=by refine(jY.Ca (Tx x)).mono ?_;rintro a _ ⟨b,rfl,rfl,h⟩;exact⟨h,rfl⟩
theorem aaA:Bh (jaG x):=λp h=>ru p h
def aaB:PP ((Nat×(Nat ⊕ aA))×tLB):=λl=>(Ty l).bind λa=>(bB 44 a.2).bind λm=>(dB m.2).bind λb=>some ((a.1,b.1),b.2)
def jpG(p:DK):aj×DK:=sw (((p.fF.2.then (fU x p.fF.1)).1.take 44).2.named (p.fF.2.then (fU x p.fF.1)).2)
def jpR(v:(Nat×(Nat ⊕ aA))×tLB)(y:aj):Prop:=∃y1,arR x v.1 y1/\ahI v.2=true/\y=Tx y1 (T v.2)
theorem Xa:dJ aaB:=dJ.bind (f':=λa l=>(bB 44 l).bind λm=>(dB m.2).bind λb=>some ((a,b.1),b.2)) Lt (λa=>dJ.bind (f':=λ_ l=>(dB l).bind λb=>some ((a,b.1),b.2)) (kI 44 (by simp)) (λ_=>ma.last _))
theorem ab6:dE aaB (jpG x) (jpR x):=by
 have h1:∀(a:Nat×(Nat ⊕ aA)) (b:aj),arR x a b->dE (λl=>(bB 44 l).bind λm=>(dB m.2).bind λb=>some ((a,b.1),b.2)) (λp=>sw ((p.take 44).2.named b)) (jpR x):=by intro a b hab;refine dE.bind (g:=λp=>((),(p.take 44).2)) (f':=λ_ l=>(dB l).bind λb=>some ((a,b.1),b.2)) (g':=λ_ p=>jaG b p) (pG 44 (by simp)) (λ_ _ _=>?_) (λ_=>aaA _);refine((WZ b).last (λn=>(a,n))).mono ?_;rintro c y ⟨v,rfl,hv,rfl⟩;exact⟨b,hab,hv,rfl⟩
 exact dE.bind (f':=λa l=>(bB 44 l).bind λm=>(dB m.2).bind λb=>some ((a,b.1),b.2)) (g':=λb p=>sw ((p.take 44).2.named b)) (WY x) h1 (λb p h=>ru _ (cU p 44 h))
def Ei:PP (Nat×Option aA):=λl=>(bB 91 l).bind λm=>(fJ m.2).bind λa=>(nE a.2).bind λo=>(bB 93 o.2).bind λm3=>some ((a.1,o.1),m3.2)
def Xb(p:DK):(Int×aj)×DK:=(((p.brackets x).1,(p.brackets x).2.2),(p.brackets x).2.1)
def brR(v:Nat×Option aA)(y:Int×aj):Prop:=v.1<=10/\y.1=(v.1:Int)/\y.2={x with hj:=true,j:=v.2.getD x.j}
theorem Lu:dJ Ei:=dJ.bind (f':=λ_ l=>(fJ l).bind λa=>(nE a.2).bind λo=>(bB 93 o.2).bind λm3=>some ((a.1,o.1),m3.2)) (kI 91 (by simp)) (λ_=>dJ.bind (f':=λa l=>(nE l).bind λo=>(bB 93 o.2).bind λm3=>some ((a,o.1),m3.2)) oD (λa=>dJ.bind (f':=λo l=>(bB 93 l).bind λm3=>some ((a,o),m3.2)) Tw (λo=>(kI 93 (by simp)).last (λ_=>(a,o)))))
theorem JF:Bh (Xb x):=λp h=>cU _ 93 (wJ _ _ (Ad _ (cU p 91 h)))
theorem Xc:dE Ei (Xb x) (brR x):=by
 have h3:∀(a:Nat) (b:Int),(b=(a:Int)/\a<=10)->∀(o:Option aA) (y:aj),adq {x with hj:=true} o y->dE (λl=>(bB 93 l).bind λm3=>some ((a,o),m3.2)) (λp=>((b,y),(p.take 93).2)) (brR x):=by rintro a _ ⟨rfl,ha⟩ o y hy;refine(((pG 93 (by simp)).last (λ_=>(a,o))).Ca (λ_=>((a:Int),y))).mono ?_;rintro c _ ⟨_,rfl,_,rfl,_⟩;exact⟨ha,rfl,hy⟩
 have h2:∀(a:Nat) (b:Int),(b=(a:Int)/\a<=10)->dE (λl=>(nE l).bind λo=>(bB 93 o.2).bind λm3=>some ((a,o.1),m3.2)) (λp=>((b,(p.jump {x with hj:=true}).2),((p.jump {x with hj:=true}).1.take 93).2)) (brR x):=by intro a b hab;exact dE.bind (f':=λo l=>(bB 93 l).bind λm3=>some ((a,o),m3.2)) (g':=λy p=>((b,y),(p.take 93).2)) (WU {x with hj:=true}) (h3 a b hab) (λy p h=>cU p 93 h)
 have h1:dE (λl=>(fJ l).bind λa=>(nE a.2).bind λo=>(bB 93 o.2).bind λm3=>some ((a.1,o.1),m3.2)) (λp=>((p.fF.1,(p.fF.2.jump {x with hj:=true}).2),((p.fF.2.jump {x with hj:=true}).1.take 93).2)) (brR x) :=
  dE.bind (f':=λa l=>(nE l).bind λo=>(bB 93 o.2).bind λm3=>some ((a,o.1),m3.2)) (g':=λb p=>((b,(p.jump {x with hj:=true}).2),((p.jump {x with hj:=true}).1.take 93).2)) tX h2 (λb p h=>cU _ 93 (wJ _ _ h))
 exact dE.bind (g:=λp=>((),(p.take 91).2)) (f':=λ_ l=>(fJ l).bind λa=>(nE a.2).bind λo=>(bB 93 o.2).bind λm3=>some ((a.1,o.1),m3.2)) (g':=λ_ p=>((p.fF.1,(p.fF.2.jump {x with hj:=true}).2),((p.fF.2.jump {x with hj:=true}).1.take 93).2)) (pG 91 (by simp)) (λ_ _ _=>h1) (λ_ p h=>cU _ 93 (wJ _ _ (Ad p h)))
def aaC:PP (Nat×Nat×Option aA):=λl=>(fJ l).bind λa=>(bB 44 a.2).bind λm=>(Ei m.2).bind λb=>some ((a.1,b.1),b.2)
def ldG(p:DK):aj×DK:=sw (p.mK x)
def ldR(v:Nat×Nat×Option aA)(y:aj):Prop:=v.1<=10/\v.2.1<=10/\y={PD (fU x v.1) v.2.1 with hj:=true,j:=v.2.2.getD x.j}
theorem Xd:dJ aaC:=dJ.bind (f':=λa l=>(bB 44 l).bind λm=>(Ei m.2).bind λb=>some ((a,b.1),b.2)) oD (λa=>dJ.bind (f':=λ_ l=>(Ei l).bind λb=>some ((a,b.1),b.2)) (kI 44 (by simp)) (λ_=>Lu.last _))
theorem ab7:dE aaC (ldG x) (ldR x):=by
 have h1:∀(a:Nat) (b:Int),(b=(a:Int)/\a<=10)->dE (λl=>(bB 44 l).bind λm=>(Ei m.2).bind λb=>some ((a,b.1),b.2)) (λp=>(PD (Xb (fU x b) (p.take 44).2).1.2 (Xb (fU x b) (p.take 44).2).1.1,(Xb (fU x b) (p.take 44).2).2)) (ldR x):=by rintro a _ ⟨rfl,ha⟩;refine dE.bind (g:=λp=>((),(p.take 44).2)) (f':=λ_ l=>(Ei l).bind λb=>some ((a,b.1),b.2)) (g':=λ_ p=>(PD (Xb (fU x a) p).1.2 (Xb (fU x a) p).1.1,(Xb (fU x a) p).2)) (pG 44 (by simp)) (λ_ _ _=>?_) (λ_=>(JF _).Ca (λy=>PD y.2 y.1));refine(((Xc (fU x a)).last (λb=>(a,b))).Ca (λy=>PD y.2 y.1)).mono ?_;rintro _ _ ⟨⟨b1,b2⟩,rfl,v,rfl,hv⟩;obtain⟨h1,h2,h3⟩:=hv;refine⟨ha,h1,?_⟩;dsimp only at h2 h3;subst h2 h3;rfl
 exact dE.bind (f':=λa l=>(bB 44 l).bind λm=>(Ei m.2).bind λb=>some ((a,b.1),b.2)) (g':=λb p=>(PD (Xb (fU x b) (p.take 44).2).1.2 (Xb (fU x b) (p.take 44).2).1.1,(Xb (fU x b) (p.take 44).2).2)) tX h1 (λb p h=>JF _ _ (cU p 44 h))
def aaD:PP ((Nat×Option aA)×(Nat ⊕ aA)):=λl=>(Ei l).bind λa=>(bB 44 a.2).bind λm=>(ah2 m.2).bind λb=>some ((a.1,b.1),b.2)
def stG(p:DK):aj×DK:=sw (p.RU x)
def stR(v:(Nat×Option aA)×(Nat ⊕ aA))(y:aj):Prop:=v.1.1<=10/\WT {fU x v.1.1 with hj:=true,j:=v.1.2.getD x.j} v.2 y
theorem Xe:dJ aaD:=dJ.bind (f':=λa l=>(bB 44 l).bind λm=>(ah2 m.2).bind λb=>some ((a,b.1),b.2)) Lu (λa=>dJ.bind (f':=λ_ l=>(ah2 l).bind λb=>some ((a,b.1),b.2)) (kI 44 (by simp)) (λ_=>GW.last _))
theorem ab8:dE aaD (stG x) (stR x):=by
 have h1:∀(a:Nat×Option aA) (b:Int×aj),brR x a b->dE (λl=>(bB 44 l).bind λm=>(ah2 m.2).bind λb=>some ((a,b.1),b.2)) (λp=>sw (p.then (fU b.2 b.1))) (stR x):=by rintro⟨a1,a2⟩ ⟨b1,b2⟩ ⟨h1,h2,h3⟩;dsimp only at h1 h2 h3;subst h2 h3;refine dE.bind (g:=λp=>((),(p.take 44).2)) (f':=λ_ l=>(ah2 l).bind λb=>some (((a1,a2),b.1),b.2)) (g':=λ_ p=>sw (p.other _)) (pG 44 (by simp)) (λ_ _ _=>?_) (λ_=>yB _);refine((GX _).last (λb=>((a1,a2),b))).mono ?_;rintro c b ⟨v,rfl,hv⟩;exact⟨h1,hv⟩
 exact dE.bind (f':=λa l=>(bB 44 l).bind λm=>(ah2 m.2).bind λb=>some ((a,b.1),b.2)) (g':=λb p=>sw (p.then (fU b.2 b.1))) (Xc x) h1 (λb=>rA _)
def aaE:PP (Nat×(tLB ⊕ aA)):=λl=>(fJ l).bind λa=>(bB 44 a.2).bind λm=>(lD m.2).bind λb=>some ((a.1,b.1),b.2)
def wiG(p:DK):aj×DK:=sw (p.KL x)
def wiR(v:Nat×(tLB ⊕ aA))(y:aj):Prop:=v.1<=10/\WV (fU x v.1) v.2 y
theorem Xf:dJ aaE:=dJ.bind (f':=λa l=>(bB 44 l).bind λm=>(lD m.2).bind λb=>some ((a,b.1),b.2)) oD (λa=>dJ.bind (f':=λ_ l=>(lD l).bind λb=>some ((a,b.1),b.2)) (kI 44 (by simp)) (λ_=>Pz.last _))
theorem ab9:dE aaE (wiG x) (wiR x):=by
 have h1:∀(a:Nat) (b:Int),(b=(a:Int)/\a<=10)->dE (λl=>(bB 44 l).bind λm=>(lD m.2).bind λb=>some ((a,b.1),b.2)) (λp=>sw ((p.take 44).2.wide (fU x b))) (wiR x):=by rintro a _ ⟨rfl,ha⟩;refine dE.bind (g:=λp=>((),(p.take 44).2)) (f':=λ_ l=>(lD l).bind λb=>some ((a,b.1),b.2)) (g':=λ_ p=>sw (p.wide (fU x a))) (pG 44 (by simp)) (λ_ _ _=>?_) (λ_=>Bj _);refine((WW (fU x a)).last (λb=>(a,b))).mono ?_;rintro c b ⟨v,rfl,hv⟩;exact⟨ha,hv⟩
 exact dE.bind (f':=λa l=>(bB 44 l).bind λm=>(lD m.2).bind λb=>some ((a,b.1),b.2)) (g':=λb p=>sw ((p.take 44).2.wide (fU x b))) tX h1 (λb p h=>Bj _ _ (cU p 44 h))
def Na(n:tBA):aj:={x with i:={x.i with name:=n}}
def caG(p:DK):aj×DK:=sw (p.RV x)
theorem aca:dE dB (caG x) (λn y=>ahI n=true/\y=Na x (T n)):=by refine(jY.Ca (Na x)).mono ?_;rintro a _ ⟨b,rfl,rfl,h⟩;exact⟨h,rfl⟩
def aaF:PP Unit:=λl=>some ((),l)
theorem Xg:dJ aaF:=λl a l' hl ht=>by cases hl;exact ht
theorem acb:dE aaF (λp=>(x,p)) (λ_ y=>y=x):=dE.pure () x rfl
end
def r0(w l:tLB):bE:=⟨w,l,0,0,0,0,0,[],[],false⟩
def rdW(o:Option bE):Option bE:=o.bind λr=>if aw r.rest=[]then some {r with rest:=[]}else none
def uG(w l:tLB)(k:Nat):Option bH:=(rdW ((ax[k]?.getD bU).read (r0 w l))).map λr=>⟨k,r⟩
def mQ(w:tLB):List Nat:=(List.range 88).filter λk=>(ax[k]?.getD bU).words.contains w
theorem xI(w l:tLB):∀(os:List eQ) (k:Nat),(∀j,j<os.length->ax[k+j]?=os[j]?)->ahR w l k os=((bh k os.length).filter λk=>(ax[k]?.getD bU).words.contains w).findSome? (uG w l)
 |[],k,_=>rfl
 |o::os,k,h=>by
  have h0:ax[k]?=some o:=by simpa using h 0 (by simp)
  have ih:=xI w l os (k+1) (λj hj=>by have:=h (j+1) (by simp;omega);rw[show k+1+j=k+(j+1)from by omega,this];rfl);rw[bj,cd,List.filter_cons,h0];unfold ahR;simp only[Option.getD_some];by_cases hc:o.words.contains w=true
  ·rw[iP9 hc,iP9 hc,List.findSome?_cons];have ht:uG w l k=(rdW (o.read (r0 w l))).map λr=>⟨k,r⟩:=by unfold uG;rw[h0];rfl
   rw[ht];cases hr:o.read (r0 w l)with
   |none=>rw[show eQ.read o ⟨w,l,0,0,0,0,0,[],[],false⟩=none from hr];exact ih
   |some r =>
    rw[show eQ.read o ⟨w,l,0,0,0,0,0,[],[],false⟩=some r from hr];simp only[rdW,an];by_cases hs:aw r.rest=[]
    ·rw[iP9 hs,iP9 hs];rfl
    ·rw[iN9 hs,iN9 hs];exact ih
  ·rw[iN9 hc,iN9 hc];exact ih
theorem yD(w l:tLB):kL w l=(mQ w).findSome? (uG w l):=by unfold kL mQ;rw[xI w l ax 0 (λj _=>by rw[Nat.zero_add])];rw[show ax.length=88 by decide,ca]
section
variable (r : bE)
theorem wM:r.pQ=(fJ r.rest).bind λa=>some {r with d:=a.1,rest:=a.2}:=by unfold bE.pQ fJ;cases bC (aC r.rest).1<;>rfl
theorem CW:r.wS=(fJ r.rest).bind λa=>some {r with s:=a.1,rest:=a.2}:=by unfold bE.wS fJ;cases bC (aC r.rest).1<;>rfl
theorem lF(b:UInt8):r.mark b=(bB b r.rest).bind λa=>some {r with rest:=a.2}:=by unfold bE.mark bB;split<;>rfl
theorem Bk:r.number=(bJ r.rest).bind λx=>some {r with num:=(x.1.aO 2147483648).getD 0,far:=r.far||(x.1.aO 2147483648).isNone,rest:=x.2}:=by unfold bE.number;cases bJ r.rest<;>rfl
theorem PE:r.lab=(dB r.rest).bind λa=>some {r with label:=a.1,rest:=a.2}:=by unfold bE.lab dB;split<;>rfl
def air(r:bE)(o:Option aA)(l:tLB):bE:=match o with
 |none=>{r with rest:=l}
 |some n=>{r with jump:=(n.aO 32768).getD 0,far:=r.far||(n.aO 32768).isNone,rest:=l}
theorem Xh:r.off=(nE r.rest).bind λa=>some (air r a.1 a.2):=by
 unfold bE.off nE;split
 ·cases aU (aC (aL 45 r.rest)).1<;>rfl
 ·split
  ·cases aU (aC (aL 43 r.rest)).1<;>rfl
  ·rfl
def ais(r:bE)(v:tLB ⊕ aA)(l:tLB):bE:=match v with
 |.inl n=>{r with s:=1,name:=n,rest:=l}
 |.inr n=>{r with num:=kR (n.bT.getD 0),high:=kR ((n.bT.getD 0)/4294967296),far:=r.far||n.bT.isNone,rest:=l}
theorem aaG:r.wide=(lD r.rest).bind λa=>some (ais r a.1 a.2):=by
 unfold bE.wide lD dB;split
 ·split<;>rfl
 ·cases bJ r.rest<;>rfl
end
def whole{α:Type}(o:Option (α×tLB)):Option α:=o.bind λx=>if aw x.2=[]then some x.1 else none
def arX(w:tLB)(k1 k2:Nat)(v:Nat×(Nat ⊕ aA)):bH:=match v.2 with
 |.inl s=>⟨k1,{r0 w []with d:=v.1,s:=s}⟩
 |.inr n=>⟨k2,{r0 w []with d:=v.1,num:=(n.aO 2147483648).getD 0,far:=(n.aO 2147483648).isNone}⟩
def rC(k:Nat)(ps:List PK):Prop:=(ax[k]?.getD bU).call=false/\(ax[k]?.getD bU).parts=ps
theorem lG{w l:tLB}{k:Nat}{ps:List PK}(h:rC k ps):uG w l k=(rdW (ahQ ps (r0 w l))).map λr=>⟨k,r⟩:=by unfold uG eQ.read;rw[h.1,h.2];rfl
theorem fs2{α β:Type}(f:α->Option β)(a b:α):[a,b].findSome? f=(f a).or (f b):=by
 simp only[List.findSome?_cons,List.findSome?_nil];cases f a with
 |none=>cases f b<;>rfl
 |some x=>rfl
theorem fs1{α β:Type}(f:α->Option β)(a:α):[a].findSome? f=f a:=by simp only[List.findSome?_cons,List.findSome?_nil];cases f a<;>rfl
theorem bs{α β:Type}(a:α)(f:α->Option β):(some a).bind f=f a:=rfl
theorem bn{α β:Type}(f:α->Option β):(none:Option α).bind f=none:=rfl
theorem gD(r:bE):rdW (some r)=if aw r.rest=[]then some {r with rest:=[]}else none:=rfl
theorem aaH{w l:tLB}{k1 k2:Nat}(h1:rC k1 lJ)(h2:rC k2 lK):[k1,k2].findSome? (uG w l)=(whole (Ty l)).map (arX w k1 k2):=by
 rw[fs2,lG h1,lG h2];have e1:∀r:bE,ahQ lJ r=r.pQ.bind λr1=>(r1.mark 44).bind λr2=>r2.wS.bind some:=λ_=>rfl;have e2:∀r:bE,ahQ lK r=r.pQ.bind λr1=>(r1.mark 44).bind λr2=>r2.number.bind some:=λ_=>rfl;simp only[e1,e2,wM,Ty];rw[show(r0 w l).rest=l from rfl];cases fJ l with
 |none=>rfl
 |some a =>
  simp only[bs,lF];cases bB 44 a.2 with
  |none=>rfl
  |some m =>
   simp only[bs,CW,Bk,ah2];cases hb:fJ m.2 with
   |none =>
    cases bJ m.2 with
    |none=>rfl
    |some n =>
     simp only[bs,bn,gD,whole,ao,r0,cb];by_cases hs:aw n.2=[]
     ·simp only[iP9 hs];rfl
     ·simp only[iN9 hs];rfl
   |some b =>
    rw[Af hb];simp only[bs,bn,gD,whole,r0];by_cases hs:aw b.2=[]
    ·simp only[iP9 hs];rfl
    ·simp only[iN9 hs];rfl
def jpX(w:tLB)(k1 k2:Nat)(v:(Nat×(Nat ⊕ aA))×tLB):bH:=match v.1.2 with
 |.inl s=>⟨k1,{r0 w []with d:=v.1.1,s:=s,label:=v.2}⟩
 |.inr n=>⟨k2,{r0 w []with d:=v.1.1,num:=(n.aO 2147483648).getD 0,far:=(n.aO 2147483648).isNone,label:=v.2}⟩
theorem aaI{w l:tLB}{k1 k2:Nat}(h1:rC k1 oH)(h2:rC k2 oI):[k1,k2].findSome? (uG w l)=(whole (aaB l)).map (jpX w k1 k2):=by
 rw[fs2,lG h1,lG h2];have e1:∀r:bE,ahQ oH r=r.pQ.bind λr1=>(r1.mark 44).bind λr2=>r2.wS.bind λr3=>(r3.mark 44).bind λr4=>r4.lab.bind some:=λ_=>rfl;have e2:∀r:bE,ahQ oI r=r.pQ.bind λr1=>(r1.mark 44).bind λr2=>r2.number.bind λr3=>(r3.mark 44).bind λr4=>r4.lab.bind some:=λ_=>rfl;simp only[e1,e2,wM,aaB,Ty];rw[show(r0 w l).rest=l from rfl];cases fJ l with
 |none=>rfl
 |some a =>
  simp only[bs,lF];cases bB 44 a.2 with
  |none=>rfl
  |some m =>
   simp only[bs,CW,Bk,ah2];cases hb:fJ m.2 with
   |none =>
    cases bJ m.2 with
    |none=>rfl
    |some n =>
     simp only[bs,bn,lF,ao];cases bB 44 n.2 with
     |none=>rfl
     |some m2 =>
      simp only[bs,PE];cases dB m2.2 with
      |none=>rfl
      |some c =>
       simp only[bs,bn,gD,whole,r0,cb];by_cases hs:aw c.2=[]
       ·simp only[iP9 hs];rfl
       ·simp only[iN9 hs];rfl
   |some b =>
    rw[Af hb];simp only[bs,bn,lF];cases bB 44 b.2 with
    |none=>rfl
    |some m2 =>
     simp only[bs,PE];cases dB m2.2 with
     |none=>rfl
     |some c =>
      simp only[bs,bn,gD,whole,r0];by_cases hs:aw c.2=[]
      ·simp only[iP9 hs];rfl
      ·simp only[iN9 hs];rfl
theorem aaJ{w l:tLB}{k:Nat}(h:rC k [.result]):[k].findSome? (uG w l)=(whole (fJ l)).map λd=>⟨k,{r0 w []with d:=d}⟩:=by
 rw[fs1,lG h];have e1:∀r:bE,ahQ [.result] r=r.pQ.bind some:=λ_=>rfl;simp only[e1,wM];rw[show(r0 w l).rest=l from rfl];cases fJ l with
 |none=>rfl
 |some a =>
  simp only[bs,gD,whole,r0];by_cases hs:aw a.2=[]
  ·simp only[iP9 hs];rfl
  ·simp only[iN9 hs];rfl
theorem aaK{w l:tLB}{k:Nat}(h:rC k [.label]):[k].findSome? (uG w l)=(whole (dB l)).map λn=>⟨k,{r0 w []with label:=n}⟩:=by
 rw[fs1,lG h];have e1:∀r:bE,ahQ [.label] r=r.lab.bind some:=λ_=>rfl;simp only[e1,PE];rw[show(r0 w l).rest=l from rfl];cases dB l with
 |none=>rfl
 |some a =>
  simp only[bs,gD,whole,r0];by_cases hs:aw a.2=[]
  ·simp only[iP9 hs];rfl
  ·simp only[iN9 hs];rfl
theorem aaL{w l:tLB}{k:Nat}(h:rC k []):[k].findSome? (uG w l)=(whole (aaF l)).map λ_=>⟨k,r0 w []⟩:=by
 rw[fs1,lG h];have e1:∀r:bE,ahQ [] r=some r:=λ_=>rfl;simp only[e1,aaF,gD,whole,r0,bs];by_cases hs:aw l=[]
 ·simp only[iP9 hs];rfl
 ·simp only[iN9 hs];rfl
def JG(r:bE)(o:Option aA):bE:=match o with
 |none=>r
 |some n=>{r with jump:=(n.aO 32768).getD 0,far:=r.far||(n.aO 32768).isNone}
def ldX(w:tLB)(k:Nat)(v:Nat×Nat×Option aA):bH:=⟨k,JG {r0 w []with d:=v.1,s:=v.2.1} v.2.2⟩
theorem aaM{w l:tLB}{k:Nat}(h:rC k lQ):[k].findSome? (uG w l)=(whole (aaC l)).map (ldX w k):=by
 rw[fs1,lG h];have e1:∀r:bE,ahQ lQ r=r.pQ.bind λr1=>(r1.mark 44).bind λr2=>(r2.mark 91).bind λr3=>r3.wS.bind λr4=>r4.off.bind λr5=>(r5.mark 93).bind some:=λ_=>rfl;simp only[e1,wM,aaC,Ei];rw[show(r0 w l).rest=l from rfl];cases fJ l with
 |none=>rfl
 |some a =>
  simp only[bs,lF];cases bB 44 a.2 with
  |none=>rfl
  |some m =>
   simp only[bs,lF];cases bB 91 m.2 with
   |none=>rfl
   |some m2 =>
    simp only[bs,CW];cases fJ m2.2 with
    |none=>rfl
    |some b =>
     simp only[bs,Xh];cases nE b.2 with
     |none=>rfl
     |some o =>
      obtain⟨o1,o2⟩:=o;simp only[bs,lF];cases o1 with
      |none =>
       simp only[air];cases bB 93 o2 with
       |none=>rfl
       |some m3 =>
        simp only[bs,gD,whole,r0];by_cases hs:aw m3.2=[]
        ·simp only[iP9 hs];rfl
        ·simp only[iN9 hs];rfl
      |some n =>
       simp only[air];cases bB 93 o2 with
       |none=>rfl
       |some m3 =>
        simp only[bs,gD,whole,r0];by_cases hs:aw m3.2=[]
        ·simp only[iP9 hs];rfl
        ·simp only[iN9 hs];rfl
def stX(w:tLB)(k1 k2:Nat)(v:(Nat×Option aA)×(Nat ⊕ aA)):bH:=match v.2 with
 |.inl s=>⟨k1,{JG {r0 w []with d:=v.1.1} v.1.2 with s:=s}⟩
 |.inr n=>⟨k2,{JG {r0 w []with d:=v.1.1} v.1.2 with num:=(n.aO 2147483648).getD 0,far:=(JG {r0 w []with d:=v.1.1} v.1.2).far||(n.aO 2147483648).isNone}⟩
theorem aaN{w l:tLB}{k1 k2:Nat}(h1:rC k1 jC)(h2:rC k2 gX):[k1,k2].findSome? (uG w l)=(whole (aaD l)).map (stX w k1 k2):=by
 rw[fs2,lG h1,lG h2];have e1:∀r:bE,ahQ jC r=(r.mark 91).bind λr1=>r1.pQ.bind λr2=>r2.off.bind λr3=>(r3.mark 93).bind λr4=>(r4.mark 44).bind λr5=>r5.wS.bind some:=λ_=>rfl;have e2:∀r:bE,ahQ gX r=(r.mark 91).bind λr1=>r1.pQ.bind λr2=>r2.off.bind λr3=>(r3.mark 93).bind λr4=>(r4.mark 44).bind λr5=>r5.number.bind some:=λ_=>rfl;simp only[e1,e2,lF,aaD,Ei];rw[show(r0 w l).rest=l from rfl];cases bB 91 l with
 |none=>rfl
 |some m =>
  simp only[bs,wM];cases fJ m.2 with
  |none=>rfl
  |some a =>
   simp only[bs,Xh];cases nE a.2 with
   |none=>rfl
   |some o =>
    obtain⟨o1,o2⟩:=o;simp only[bs,lF];have ho:(air {r0 w l with d:=a.1,rest:=a.2} o1 o2).rest=o2:=by cases o1<;>rfl
    have hx:∀l':tLB,{air {r0 w l with d:=a.1,rest:=a.2} o1 o2 with rest:=l'}={JG {r0 w []with d:=a.1} o1 with rest:=l'}:=by cases o1<;>intro l'<;>rfl
    have hr:(JG {r0 w []with d:=a.1} o1).rest=[]:=by cases o1<;>rfl
    simp only[hx]at *;rw[ho];cases bB 93 o2 with
    |none=>rfl
    |some m3 =>
     simp only[bs,lF,hx];cases bB 44 m3.2 with
     |none=>rfl
     |some m4 =>
      simp only[bs,CW,Bk,ah2,hx];cases hb:fJ m4.2 with
      |none =>
       cases bJ m4.2 with
       |none=>rfl
       |some n =>
        simp only[bs,bn,gD,whole,ao];by_cases hs:aw n.2=[]
        ·simp only[iP9 hs,ch,ao,stX,Option.none_or];cases o1<;>rfl
        ·simp only[iN9 hs];rfl
      |some b =>
       rw[Af hb];simp only[bs,bn,gD,whole];by_cases hs:aw b.2=[]
       ·simp only[iP9 hs,ch,ao,stX,Option.or_none];cases o1<;>rfl
       ·simp only[iN9 hs];rfl
def wiX(w:tLB)(k:Nat)(v:Nat×(tLB ⊕ aA)):bH:=match v.2 with
 |.inl n=>⟨k,{r0 w []with d:=v.1,s:=1,name:=n}⟩
 |.inr n=>⟨k,{r0 w []with d:=v.1,num:=kR (n.bT.getD 0),high:=kR ((n.bT.getD 0)/4294967296),far:=n.bT.isNone}⟩
theorem aaO{w l:tLB}{k:Nat}(h:rC k [.result,.comma,.wide]):[k].findSome? (uG w l)=(whole (aaE l)).map (wiX w k):=by
 rw[fs1,lG h];have e1:∀r:bE,ahQ [.result,.comma,.wide] r=r.pQ.bind λr1=>(r1.mark 44).bind λr2=>r2.wide.bind some:=λ_=>rfl;simp only[e1,wM,aaE];rw[show(r0 w l).rest=l from rfl];cases fJ l with
 |none=>rfl
 |some a =>
  simp only[bs,lF];cases bB 44 a.2 with
  |none=>rfl
  |some m =>
   simp only[bs,aaG];cases lD m.2 with
   |none=>rfl
   |some b =>
    obtain⟨b1,b2⟩:=b;cases b1 with
    |inl n =>
     simp only[bs,ais,gD,whole,r0];by_cases hs:aw b2=[]
     ·simp only[iP9 hs];rfl
     ·simp only[iN9 hs];rfl
    |inr n =>
     simp only[bs,ais,gD,whole,r0,cb];by_cases hs:aw b2=[]
     ·simp only[iP9 hs];rfl
     ·simp only[iN9 hs];rfl
theorem aaP(l:tLB):bE.call (r0 [99,97,108,108] l)=(dB l).bind λa=>some {r0 [99,97,108,108] l with s:=1,name:=a.1,rest:=a.2}:=by
 unfold bE.call dB;rw[iP9 (show(r0 [99,97,108,108] l).word=[99,97,108,108]from rfl)];show(if ahI (aC l).1 then _ else _)=_
 split<;>rfl
theorem aaQ(l:tLB):bE.call (r0 [104,101,108,112] l)=(tY l).bind λa=>some {r0 [104,101,108,112] l with num:=((1+a.1:Nat):Int),rest:=a.2}:=by
 unfold bE.call tY;rw[iN9 (show ¬(r0 [104,101,108,112] l).word=[99,97,108,108]from(by decide:¬([104,101,108,112]:tLB)=[99,97,108,108]))];show Option.map _ (jg.findIdx? (λh=>h==(aC l).1))=_
 cases jg.findIdx? (λh=>h==(aC l).1)<;>rfl
theorem G6{w l:tLB}{k:Nat}(h:(ax[k]?.getD bU).call=true):uG w l k=(rdW (r0 w l).call).map λr=>⟨k,r⟩:=by unfold uG eQ.read;rw[h];rfl
theorem aaR{l:tLB}{k:Nat}(h:(ax[k]?.getD bU).call=true):[k].findSome? (uG [99,97,108,108] l)=(whole (dB l)).map λn=>⟨k,{r0 [99,97,108,108] []with s:=1,name:=n}⟩:=by
 rw[fs1,G6 h,aaP];cases dB l with
 |none=>rfl
 |some a =>
  simp only[bs,gD,whole,r0];by_cases hs:aw a.2=[]
  ·simp only[iP9 hs];rfl
  ·simp only[iN9 hs];rfl
theorem aaS{l:tLB}{k:Nat}(h:(ax[k]?.getD bU).call=true):[k].findSome? (uG [104,101,108,112] l)=(whole (tY l)).map λn=>⟨k,{r0 [104,101,108,112] []with num:=((1+n:Nat):Int)}⟩:=by
 rw[fs1,G6 h,aaQ];cases tY l with
 |none=>rfl
 |some a =>
  simp only[bs,gD,whole,r0];by_cases hs:aw a.2=[]
  ·simp only[iP9 hs];rfl
  ·simp only[iN9 hs];rfl
