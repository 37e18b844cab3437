import Derived.Test.YthnphhgpfedeeaaGreatDoorCR39
namespace Go.Proofs.YthnphhgpfedeeaaGreatDoor
open Go.RowKit
open Bool renaming and_eq_true->al
open Lib renaming decDigits->ab,itoa_nonneg->ba,nDigits_small->b5
open List renaming dropWhile_cons->an,cons_append->ao,takeWhile_cons->ar,getElem_cons_zero->bh,mem_cons_of_mem->bj,mem_singleton->bt
open Option renaming bind_some->b9
set_option linter.all false
def Stop(t:tLB):Prop:=∀c r,t=c::r->iy c=false
theorem Stop.nil:Stop []:=λ_ _ h=>by cases h
theorem Stop.cons{c:UInt8}{r:tLB}(h:iy c=false):Stop (c::r):=λ_ _ e=>by cases e;exact h
theorem pq{c:UInt8}{l:tLB}(h:c≠32):ay (c::l)=c::l:=by unfold ay;rw[an,iN9 (by simpa using h)]
theorem wg(l:tLB):ay (32::l)=ay l:=by unfold ay;rw[an];rfl
theorem yZ:∀(w t:tLB),(∀c∈w,iy c=true)->Stop t->(w++t).takeWhile iy=w/\(w++t).dropWhile iy=t
 |[],t,_,ht=>by
  cases t with
  |nil=>exact⟨rfl,rfl⟩
  |cons c r =>have:=ht c r rfl;rw[List.nil_append,ar,an,this];exact⟨rfl,rfl⟩
 |c::w,t,hw,ht=>by obtain⟨h1,h2⟩:=yZ w t (λd hd=>hw d (by simp[hd])) ht;have hc:=hw c (by simp);rw[ao,ar,an,hc];exact⟨by rw[iP9 rfl,h1],by rw[iP9 rfl,h2]⟩
theorem zV{l w t:tLB}(hl:ay l=w++t)(hw:∀c∈w,iy c=true)(ht:Stop t):aG l=(w,t):=by unfold aG;rw[hl,(yZ w t hw ht).1,(yZ w t hw ht).2]
theorem I6{l:tLB}{b:UInt8}{t:tLB}(hl:ay l=b::t):aP b l=true/\aN b l=t:=by
 have h:aP b l=true:=by unfold aP;rw[hl];simp
 refine⟨h,?_⟩;unfold aN;rw[iP9 h,hl];rfl
theorem MW{l:tLB}{b c:UInt8}{t:tLB}(hl:ay l=c::t)(h:c≠b):aP b l=false/\aN b l=c::t:=by
 have h:aP b l=false:=by unfold aP;rw[hl];simp[h]
 refine⟨h,?_⟩;unfold aN;rw[h,hl];rfl
theorem y9(u:Nat):∀c∈ab u,48<=c.toNat/\c.toNat<=57:=by
 induction u using Nat.strongRecOn with
 |ind u ih =>
  intro c hc;rw[ab]at hc;split at hc
  ·rename_i h
   rw[bt]at hc;subst hc;have:(UInt8.ofNat (48+u)).toNat=(48+u)%256:=by simp
   rw[this];omega
  ·rename_i h
   rcases List.mem_append.1 hc with hc|hc
   ·exact ih (u/10) (by omega) c hc
   ·rw[bt]at hc;subst hc;have:(UInt8.ofNat (48+u%10)).toNat=(48+u%10)%256:=by simp
    rw[this];omega
theorem Vo(u:Nat):ab u≠[]:=by rw[ab];split<;>simp
theorem I7{c:UInt8}(h:48<=c.toNat/\c.toNat<=57):iy c=true:=by unfold iy ru lI;simp;left;left;omega
theorem px(u:Nat):∀c∈ab u,iy c=true:=λc hc=>I7 (y9 u c hc)
theorem I8(b:Nat):∀(l:tLB) (c:UInt8) (v:Nat),digsP b (l++[c]) v=(digsP b l v).bind (λv'=>if b<=rJ c then none else some (v'*b+rJ c))
 |[],c,v=>by simp[digsP]
 |d::l,c,v=>by
  rw[ao,digsP,digsP];split
  ·rfl
  ·exact I8 b l c _
theorem Vp{n:Nat}(h:n<10):rJ (UInt8.ofNat (48+n))=n:=by
 have:(UInt8.ofNat (48+n)).toNat=48+n:=by simp;omega
 unfold rJ;rw[this,iP9 (by omega)];omega
theorem Cj(u:Nat):digsP 10 (ab u) 0=some u:=by
 induction u using Nat.strongRecOn with
 |ind u ih =>
  rw[ab];split
  ·rename_i h
   rw[digsP,Vp h,iN9 (by omega),digsP];simp
  ·rename_i h
   rw[I8,ih (u/10) (by omega),Vp (by omega)];show(if 10<=u%10 then none else some (u/10*10+u%10))=some u
   rw[iN9 (by omega)];congr 1;omega
theorem MX:∀(k u:Nat),u<10 ^ (k+1)->Lib.nDigits u<=k+1
 |0,u,h=>by rw[b5 (by simpa using h)];exact Nat.le_refl _
 |k+1,u,h=>by
  by_cases hu:u<10
  ·rw[b5 hu];omega
  ·rw[Lib.nDigits_big hu];have:=MX k (u/10) (by rw[Nat.div_lt_iff_lt_mul (by omega)];rw[Nat.pow_succ]at h;exact h);omega
theorem uu{u:Nat}(h:u<18446744073709551616):(ab u).length<=20:=by rw[Lib.decDigits_length];exact MX 19 u (by omega)
theorem YH(u:Nat):Cy (ab u)=false:=by
 unfold Cy;have h:=y9 u
 match hd:ab u with
 |[]=>rfl
 |[a]=>simp[List.isPrefixOf]
 |a::b::l =>
  rw[hd]at h;have hb:=h b (by simp);have:b≠120:=λe=>by subst e;revert hb;decide
  simp[List.isPrefixOf];intro _ e;exact this e.symm
theorem Ea{u:Nat}(h:u<18446744073709551616):cK (ab u)=some u:=by unfold cK lQ rM;rw[YH];simp only[Bool.false_eq_true,if_false];rw[iN9 (λe=>e.elim (Vo u) (λc=>by have:=uu h;omega)),Cj]
theorem Ck(u:Nat):∃c r,ab u=c::r/\48<=c.toNat/\c.toNat<=57:=by
 match hd:ab u with
 |[]=>exact absurd hd (Vo u)
 |c::r=>exact⟨c,r,rfl,y9 u c (by rw[hd];simp)⟩
theorem Vq{l t:tLB}{u:Nat}(hl:ay l=ab u++t)(h:u<18446744073709551616)(ht:Stop t):gz l=some (⟨u,false⟩,t):=by
 obtain⟨c,r,hc,h1,h2⟩:=Ck u;have hl2:ay l=c::(r++t):=by rw[hl,hc];rfl
 have hne:c≠45:=λe=>by subst e;revert h1;decide
 have hne2:c≠32:=λe=>by subst e;revert h1;decide
 obtain⟨m1,m2⟩:=MW hl2 hne;unfold gz;have hw:aG (aN 45 l)=(ab u,t):=zV (by rw[m2,pq hne2,<-hl2,hl]) (px u) ht;rw[m1,hw,Ea h];rfl
theorem Eb(n:Nat):∀c∈kR n,iy c=true:=by
 intro c hc;unfold kR at hc;rcases List.mem_cons.1 hc with rfl|hc
 ·decide
 ·rw[ba]at hc;exact px n c hc
theorem Vs{a b:Nat}(h:Lib.itoa (a:Int)=Lib.itoa (b:Int)):a=b:=by rw[ba,ba]at h;have:=Cj a;rw[h,Cj b]at this;exact(Option.some.inj this).symm
theorem Q1{n:Nat}(h:n<=10):aZ (kR n)=some n:=by
 unfold aZ;rw[List.find?_range_eq_some];refine⟨by simp[kR,uS],List.mem_range.2 (by omega),λj hj=>?_⟩;have:kR n≠uS j:=λe=>by unfold kR uS at e;injection e with _ e;have:=Vs e;omega
 simpa using this
theorem MZ(r:bD){n:Nat}{t:tLB}(hl:ay r.rest=kR n++t)(h:n<=10)(ht:Stop t):r.rO=some {r with d:=n,rest:=t}:=by unfold bD.rO;rw[zV hl (Eb n) ht,Q1 h];rfl
theorem Na(r:bD){b:UInt8}{t:tLB}(hl:ay r.rest=b::t):r.mark b=some {r with rest:=t}:=by unfold bD.mark;obtain⟨h1,h2⟩:=I6 hl;rw[iP9 h1,h2]
theorem agS(r:bD){h n:Int}{t:tLB}(hl:ay r.rest=ab ((h%4294967296).toNat*4294967296+(n%4294967296).toNat)++t)(h0:-2147483648<=h/\h<=2147483647)(h1:-2147483648<=n/\n<=2147483647)(ht:Stop t):r.wide=some {r with num:=n,high:=h,rest:=t}:=by
 have hb:(h%4294967296).toNat*4294967296+(n%4294967296).toNat<18446744073709551616:=by omega
 unfold bD.wide;rw[zV hl (px _) ht,Vq hl hb ht];obtain⟨c,q,hc,g1,g2⟩:=Ck ((h%4294967296).toNat*4294967296+(n%4294967296).toNat);have hm:¬ab ((h%4294967296).toNat*4294967296+(n%4294967296).toNat)=[109,97,112]:=λe=>by rw[hc]at e;injection e with e _;subst e;revert g2;decide
 simp only[hm,if_false,Option.map_some];have hw:(bC.mk ((h%4294967296).toNat*4294967296+(n%4294967296).toNat) false).dW=some ((h%4294967296).toNat*4294967296+(n%4294967296).toNat):=by unfold bC.dW;rw[iN9 (by simp only;omega)];simp
 rw[hw];have e1:nY ((h%4294967296).toNat*4294967296+(n%4294967296).toNat)=n:=by unfold nY;omega
 have e2:nY (((h%4294967296).toNat*4294967296+(n%4294967296).toNat)/4294967296)=h:=by unfold nY;omega
 simp[e1,e2]
def st0(w l:tLB):bD:=⟨w,l,0,0,0,0,0,[],[],false⟩
theorem I9(n:Nat)(t:tLB):ay (kR n++t)=kR n++t:=by unfold kR;rw[ao,pq (by decide)]
section
variable {w l : List UInt8} {d s : Nat} {j n : Int} {lab : List UInt8}
theorem ah6{h:Int}{D:tLB}(hD:∃c q,D=c::q/\c≠32)(key:∀r:bD,ay r.rest=D++[]->r.wide=some {r with num:=n,high:=h,rest:=[]})(hl:ay l=kR d++44::32::D)(hd:d<=10):readPs [.result,.comma,.wide] (st0 w l)=some {st0 w []with d:=d,num:=n,high:=h}:=by
 obtain⟨c,q,hc,hne2⟩:=hD;show(bD.rO (st0 w l)).bind (readPs [.comma,.wide])=_
 rw[MZ _ hl hd (Stop.cons (by decide)),b9];show(bD.mark 44 _).bind (readPs [.wide])=_
 rw[Na (t:=32::D) _ (by rfl),b9];show(bD.wide _).bind (readPs [])=_
 rw[key _ (by show ay (32::D)=_;rw[wg,hc,pq hne2,List.append_nil])];rfl
end
def YP(k:Nat):dY:=aq[k]?.getD iK
theorem agt:aq.length=88:=by decide +kernel
theorem agu{k:Nat}(h:k<aq.length):aq[k]=YP k:=by unfold YP;rw[List.getElem?_eq_getElem h];rfl
theorem agh(w l:tLB)(r:bD):∀(os:List dY) (k0 i:Nat) (hi:i<os.length),(∀j (h:j<i),(os[j]'(by omega)).words.contains w=false\/(os[j]'(by omega)).read (st0 w l)=none)->os[i].words.contains w=true->os[i].read (st0 w l)=some r->ay r.rest=[]->readFrom w l k0 os=some ⟨k0+i,{r with rest:=[]}⟩
 |[],_,_,hi,_,_,_,_=>by cases hi
 |o::os,k0,0,_,_,hc,hr,hs=>by unfold readFrom;rw[bh]at hc hr;rw[iP9 hc];have hr':o.read ⟨w,l,0,0,0,0,0,[],[],false⟩=some r:=hr;rw[hr'];simp only[hs,if_true,Nat.add_zero]
 |o::os,k0,i+1,hi,hb,hc,hr,hs=>by
  rw[List.getElem_cons_succ]at hc hr
  have ih:=agh w l r os (k0+1) i (by simpa using hi) (λj h=>by
   have:=hb (j+1) (by omega)
   simpa using this) hc hr hs
  have e:k0+1+i=k0+(i+1):=by omega
  rw[e]at ih;unfold readFrom;have h0:=hb 0 (by omega);rw[bh]at h0;rcases h0 with h0|h0
  ·rw[h0];simpa using ih
  ·have h0':o.read ⟨w,l,0,0,0,0,0,[],[],false⟩=none:=h0;rw[h0'];split
   ·exact ih
   ·exact ih
theorem Cl{o:dY}(hc:o.call=false)(r:bD):o.read r=readPs o.parts r:=by unfold dY.read;rw[hc];rfl
def Ja(c:UInt8):Bool:=decide (32<=c.toNat)&&decide (c.toNat<=126)&&(c != 59)
theorem Cm{c:UInt8}(h:iy c=true):Ja c=true:=by
 have hn:c≠59:=λe=>by subst e;revert h;decide
 unfold iy ru lI pI at h;unfold Ja;simp only[Bool.or_eq_true,al,decide_eq_true_eq,beq_iff_eq]at h;simp only[al,decide_eq_true_eq,bne_iff_ne];exact⟨⟨by omega,by omega⟩,hn⟩
theorem tU(p:UInt8->Bool):∀l:tLB,(∀d∈l,p d=true)->l.takeWhile p=l
 |[],_=>rfl
 |c::l,h=>by rw[ar,iP9 (h c (by simp)),tU p l (λd hd=>h d (by simp[hd]))]
theorem abj{l:tLB}(h:∀c∈l,Ja c=true):jE l=some l:=by unfold jE;rw[iP9 (List.all_eq_true.2 (λc hc=>by have:=h c hc;unfold Ja at this;simp only[al,decide_eq_true_eq]at this ⊢;omega))];congr 1;refine tU _ _ (λc hc=>?_);have:=h c hc;unfold Ja at this;simp only[al]at this;exact this.2
theorem abk{l:tLB}(h:∀c∈l,Ja c=true):∀c∈l,c≠10:=λc hc e=>by
 have:=h c hc;subst e;revert this;decide
theorem Ee:∀(a b:tLB),(∀c∈a,c≠10)->linesP (a++10::b)=a::linesP b
 |[],b,_=>by rw[List.nil_append,linesP,iP9 rfl]
 |c::a,b,h=>by rw[ao,linesP,iN9 (h c (by simp)),Ee a b (λd hd=>h d (by simp[hd]))]
def behindF:Bool->List dN->Bool
 |_,[]=>true
 |b,x::l=>(b||x.kind==2||!(x.kind==3||x.kind==4))&&behindF (b||x.kind==2) l
theorem Ef:∀(ts:List tLB) (xs:List dN) (b:Bool) (n:Nat) (acc:List dN),ts.map bT=xs.map some->behindF b xs=true->parseP ts b n acc=.inl (acc++xs)
 |[],[],_,_,acc,_,_=>by rw[parseP,List.append_nil]
 |[],x::xs,_,_,_,h,_=>by cases h
 |t::ts,[],_,_,_,h,_=>by cases h
 |t::ts,x::xs,b,n,acc,h,hb=>by rw[List.map_cons,List.map_cons]at h;injection h with h1 h2;rw[behindF,al]at hb;rw[parseP,h1];simp only;rw[iN9 ?_,Ef ts xs _ _ _ h2 hb.2,List.append_assoc];rfl;rintro⟨e1,e2⟩;have:=hb.1;rw[e1]at this;rcases e2 with e2|e2<;>rw[e2]at this<;>simp at this
theorem ado(x:Int)(l:List Int):b8 (x::l)=UInt8.ofNat x.toNat::b8 l:=rfl
theorem aeQ:b8 []=[]:=rfl
theorem zD{α:Type}{R:α->α->Prop}(ha:∀x y,R x y->¬R y x):∀{l k:List α},l.Pairwise R->k.Pairwise R->(∀x,x∈l↔x∈k)->l=k
 |[],[],_,_,_=>rfl
 |[],b::k,_,_,h=>absurd ((h b).2 (by simp)) (by simp)
 |a::l,[],_,_,h=>absurd ((h a).1 (by simp)) (by simp)
 |a::l,b::k,h1,h2,h=>by
  rw[List.pairwise_cons]at h1 h2
  have e:a=b:=by
   by_cases e:a=b
   ·exact e
   ·exfalso
    have p1:a∈k:=by
     rcases List.mem_cons.1 ((h a).1 (by simp))with c|c
     ·exact absurd c e
     ·exact c
    have p2:b∈l:=by
     rcases List.mem_cons.1 ((h b).2 (by simp))with c|c
     ·exact absurd c.symm e
     ·exact c
    exact ha _ _ (h1.1 b p2) (h2.1 a p1)
  subst e;congr 1;refine zD ha h1.2 h2.2 (λx=>⟨λhx=>?_,λhx=>?_⟩)
  ·rcases List.mem_cons.1 ((h x).1 (bj _ hx))with c|c
   ·subst c;exact absurd (h1.1 _ hx) (λr=>ha _ _ r r)
   ·exact c
  ·rcases List.mem_cons.1 ((h x).2 (bj _ hx))with c|c
   ·subst c;exact absurd (h2.1 _ hx) (λr=>ha _ _ r r)
   ·exact c
theorem xV{α:Type}{nm:α->tBA}{L L1 L2:List α}(p1:L1.Perm L)(p2:L2.Perm L)(nd:(L.map nm).Nodup)(s1:L1.Pairwise (λx y=>ji (nm y) (nm x)=false))(s2:L2.Pairwise (λx y=>ji (nm y) (nm x)=false)):L1=L2:=by
 have strict:∀{K:List α},K.Perm L->K.Pairwise (λx y=>ji (nm y) (nm x)=false)->K.Pairwise (λx y=>ji (nm x) (nm y)=true):=fun{K} p s=>by
  have h2:(K.map nm).Nodup:=((p.map nm).nodup_iff).2 nd;have h3:K.Pairwise (λx y=>nm x≠nm y):=List.pairwise_map.1 h2;refine(s.and h3).imp (fun{x y} h=>?_);cases c:ji (nm x) (nm y)with
  |true=>rfl
  |false=>exact absurd (Dx c h.1) h.2
 refine zD (R:=λx y=>ji (nm x) (nm y)=true) (λx y h c=>?_) (strict p1 s1) (strict p2 s2) (λx=>by rw[p1.mem_iff,p2.mem_iff]);rw[Px h]at c;cases c
theorem byte_of{v:Int}(h0:0<=v)(h1:v<256):((UInt8.ofNat v.toNat).toNat:Int)=v:=by
 have:(UInt8.ofNat v.toNat).toNat=v.toNat:=by simp;omega
 rw[this];omega
theorem abl{n:Int}(h:-2147483648<=n/\n<=2147483647)(r:tLB):bA (b8 (gG n)++r)=n:=by have e:b8 (gG n)++r=UInt8.ofNat (n%256).toNat::UInt8.ofNat (n/256%256).toNat::UInt8.ofNat (n/65536%256).toNat::UInt8.ofNat (n/16777216%256).toNat::r:=rfl;rw[e];have q:∀a b c d:UInt8,bA (a::b::c::d::r)=xA (a.toNat+256*b.toNat+65536*c.toNat+16777216*d.toNat):=λ_ _ _ _=>rfl;rw[q];have h1:=byte_of (v:=n%256) (by omega) (by omega);have h2:=byte_of (v:=n/256%256) (by omega) (by omega);have h3:=byte_of (v:=n/65536%256) (by omega) (by omega);have h4:=byte_of (v:=n/16777216%256) (by omega) (by omega);unfold xA;split<;>omega
