import Derived.Test.YthnphhgpfedeeaaGreatDoorCR30
namespace Go.Proofs.YthnphhgpfedeeaaGreatDoor
open Go.RowKit
open List renaming drop_eq_getElem_cons->an
open Nat renaming zero_le->al
open Option renaming bind_some->ab
set_option linter.all false
theorem Bw(n:bC)(half:Nat)(h:0<half):-(half:Int)<=(n.dV half).getD 0/\(n.dV half).getD 0<=(half:Int)-1:=by
 unfold bC.dV;split
 ·simp;omega
 ·split
  ·split<;>simp<;>omega
  ·split<;>simp<;>omega
theorem Ho(v:Nat):-2147483648<=nY v/\nY v<=2147483647:=by unfold nY;omega
theorem Me{w:tLB}{n:Nat}(h:aZ w=some n):n<=10:=by unfold aZ at h;have:=List.mem_range.1 (List.mem_of_find?_eq_some h);omega
structure bD.In(r:bD):Prop where
 d:r.d<=10
 s:r.s<=10
 j:-32768<=r.jump/\r.jump<=32767
 n:-2147483648<=r.num/\r.num<=2147483647
 h:-2147483648<=r.high/\r.high<=2147483647
 m:r.name=[]\/nameB r.name=true
theorem map_some{α β:Type}{o:Option α}{f:α->β}{y:β}(h:o.map f=some y):∃x,o=some x/\f x=y:=by
 cases o with
 |none=>cases h
 |some x=>exact⟨x,rfl,Option.some.inj h⟩
theorem Fh{p:PK}{r r':bD}(h:p.read r=some r')(hi:r.In):r'.In/\(p≠9->r'.high=r.high/\r'.name=r.name)/\(p≠9->p≠5->r'.s=r.s)/\(p≠9->p≠6->r'.num=r.num):=by
 have mk:∀b,r.mark b=some r'->r'.In/\(p≠9->r'.high=r.high/\r'.name=r.name)/\(p≠9->p≠5->r'.s=r.s)/\(p≠9->p≠6->r'.num=r.num):=λb h=>by
  unfold bD.mark at h;split at h
  ·obtain rfl:=Option.some.inj h;exact⟨⟨hi.d,hi.s,hi.j,hi.n,hi.h,hi.m⟩,λ_=>⟨rfl,rfl⟩,λ_ _=>rfl,λ_ _=>rfl⟩
  ·cases h
 have rd:r.rO=some r'->r'.In/\(p≠9->r'.high=r.high/\r'.name=r.name)/\(p≠9->p≠5->r'.s=r.s)/\(p≠9->p≠6->r'.num=r.num):=λh=>by unfold bD.rO at h;obtain⟨n,h1,rfl⟩:=map_some h;exact⟨⟨Me h1,hi.s,hi.j,hi.n,hi.h,hi.m⟩,λ_=>⟨rfl,rfl⟩,λ_ _=>rfl,λ_ _=>rfl⟩
 unfold PK.read at h;split at h
 ·exact mk _ h
 ·exact mk _ h
 ·exact mk _ h
 ·exact rd h
 ·exact rd h
 ·unfold bD.wR at h;obtain⟨n,h1,rfl⟩:=map_some h;exact⟨⟨hi.d,Me h1,hi.j,hi.n,hi.h,hi.m⟩,λ_=>⟨rfl,rfl⟩,λ_ h5=>absurd rfl h5,λ_ _=>rfl⟩
 ·unfold bD.number at h;obtain⟨x,h1,rfl⟩:=map_some h;have:=Bw x.1 2147483648 (by decide);exact⟨⟨hi.d,hi.s,hi.j,⟨this.1,by simp only;omega⟩,hi.h,hi.m⟩,λ_=>⟨rfl,rfl⟩,λ_ _=>rfl,λ_ h6=>absurd rfl h6⟩
 ·unfold bD.lab at h;split at h
  ·obtain rfl:=Option.some.inj h;exact⟨⟨hi.d,hi.s,hi.j,hi.n,hi.h,hi.m⟩,λ_=>⟨rfl,rfl⟩,λ_ _=>rfl,λ_ _=>rfl⟩
  ·cases h
 ·unfold bD.off at h;split at h
  ·obtain⟨x,h1,rfl⟩:=map_some h;have:=Bw ⟨x,true⟩ 32768 (by decide);exact⟨⟨hi.d,hi.s,⟨this.1,by simp only;omega⟩,hi.n,hi.h,hi.m⟩,λ_=>⟨rfl,rfl⟩,λ_ _=>rfl,λ_ _=>rfl⟩
  ·split at h
   ·obtain⟨x,h1,rfl⟩:=map_some h;have:=Bw ⟨x,false⟩ 32768 (by decide);exact⟨⟨hi.d,hi.s,⟨this.1,by simp only;omega⟩,hi.n,hi.h,hi.m⟩,λ_=>⟨rfl,rfl⟩,λ_ _=>rfl,λ_ _=>rfl⟩
   ·obtain rfl:=Option.some.inj h;exact⟨⟨hi.d,hi.s,hi.j,hi.n,hi.h,hi.m⟩,λ_=>⟨rfl,rfl⟩,λ_ _=>rfl,λ_ _=>rfl⟩
 ·refine⟨?_,λh=>absurd rfl h,λh=>absurd rfl h,λh=>absurd rfl h⟩;unfold bD.wide at h;split at h
  ·split at h
   ·rename_i hn
    obtain rfl:=Option.some.inj h;exact⟨hi.d,(show(1:Nat)<=10 by decide),hi.j,hi.n,hi.h,.inr hn⟩
   ·cases h
  ·obtain⟨x,h1,rfl⟩:=map_some h;exact⟨hi.d,hi.s,hi.j,Ho _,Ho _,hi.m⟩
 ·cases h
theorem Hq:∀(ps:List PK) {r r':bD},readPs ps r=some r'->r.In->r'.In/\(9 ∉ ps->r'.high=r.high/\r'.name=r.name)
 |[],r,r',h,hi=>by obtain rfl:=Option.some.inj h;exact⟨hi,λ_=>⟨rfl,rfl⟩⟩
 |p::ps,r,r',h,hi=>by
  rw[readPs]at h;cases hp:p.read r with
  |none=>rw[hp]at h;cases h
  |some r1 =>rw[hp]at h;obtain⟨a1,a2,_⟩:=Fh hp hi;obtain⟨b1,b2⟩:=Hq ps h a1;refine⟨b1,λhn=>?_⟩;obtain⟨c1,c2⟩:=a2 (λe=>hn (by rw[e];simp));obtain⟨d1,d2⟩:=b2 (λe=>hn (by simp[e]));exact⟨d1.trans c1,d2.trans c2⟩
structure dH.In(x:dH):Prop where
 k:x.k<88
 i:x.r.In
 one:x.o.slots=1->x.r.high=0
 nm:(if x.r.s=1 then x.o.aO else 0)≠0->nameB x.r.name=true/\x.r.num=0
 no:(if x.r.s=1 then x.o.aO else 0)=0->x.r.name=[]
theorem TY:∀k:Fin 88,(aq[k.1]?.getD iK).call=false->9 ∉ (aq[k.1]?.getD iK).parts->(aq[k.1]?.getD iK).aO=0:=by decide +kernel
theorem TZ:∀k:Fin 88,(aq[k.1]?.getD iK).call=false->9∈(aq[k.1]?.getD iK).parts->(aq[k.1]?.getD iK).parts=[3,0,9]/\(aq[k.1]?.getD iK).slots=2/\(aq[k.1]?.getD iK).aO=2:=by decide +kernel
theorem T9:∀k:Fin 88,(aq[k.1]?.getD iK).call=true->(aq[k.1]?.getD iK).aO=1:=by decide +kernel
def Ua(w l:tLB):bD:=⟨w,l,0,0,0,0,0,[],[],false⟩
theorem Mf(w l:tLB):(Ua w l).In:=⟨al _,al _,(show -32768<=(0:Int)/\(0:Int)<=32767 by decide),(show -2147483648<=(0:Int)/\(0:Int)<=2147483647 by decide),(show -2147483648<=(0:Int)/\(0:Int)<=2147483647 by decide),.inl rfl⟩
theorem DA{r r':bD}(h:r.wide=some r')(hs:r.s=0)(hn:r.name=[])(h0:r.num=0):(r'.s=1/\nameB r'.name=true/\r'.num=0)\/(r'.s=0/\r'.name=[]):=by
 unfold bD.wide at h;split at h
 ·split at h
  ·rename_i hm
   obtain rfl:=Option.some.inj h;exact .inl ⟨rfl,hm,h0⟩
  ·cases h
 ·obtain⟨x,h1,rfl⟩:=map_some h;exact .inr ⟨hs,hn⟩
theorem row_in{k:Nat}(hk:k<88){w l:tLB}{r:bD}(h:(aq[k]?.getD iK).read (Ua w l)=some r)(q:tLB):(dH.mk k {r with rest:=q}).In:=by
 have ho:(dH.mk k {r with rest:=q}).o=aq[k]?.getD iK:=rfl;unfold dY.read at h;cases hc:(aq[k]?.getD iK).call with
 |true =>
  rw[hc,iP9 rfl]at h;have hr:(aq[k]?.getD iK).aO=1:=T9 ⟨k,hk⟩ hc;unfold bD.call at h;split at h
  ·split at h
   ·rename_i hm
    obtain rfl:=Option.some.inj h;refine⟨hk,⟨al _,(show(1:Nat)<=10 by decide),(show -32768<=(0:Int)/\(0:Int)<=32767 by decide),(show -2147483648<=(0:Int)/\(0:Int)<=2147483647 by decide),(show -2147483648<=(0:Int)/\(0:Int)<=2147483647 by decide),.inr hm⟩,λ_=>rfl,λ_=>⟨hm,rfl⟩,λe=>?_⟩;rw[ho,iP9 rfl,hr]at e;cases e
   ·cases h
  ·obtain⟨n,h1,rfl⟩:=map_some h
   have hn:n<4:=by
    have:=(List.findIdx?_eq_some_iff_getElem.1 h1).1
    simpa [lN]using this
   refine⟨hk,⟨al _,al _,(show -32768<=(0:Int)/\(0:Int)<=32767 by decide),?_,(show -2147483648<=(0:Int)/\(0:Int)<=2147483647 by decide),.inl rfl⟩,λ_=>rfl,λe=>?_,λ_=>rfl⟩
   ·simp only;omega
   ·exact absurd rfl e
 |false =>
  rw[hc]at h;simp only[Bool.false_eq_true,if_false]at h;obtain⟨a1,a2⟩:=Hq _ h (Mf w l);by_cases h9:9∈(aq[k]?.getD iK).parts
  ·obtain⟨hp,hs2,hr2⟩:=TZ ⟨k,hk⟩ hc h9;rw[hp]at h;simp only[readPs]at h;cases p1:(PK.read 3 (Ua w l))with
   |none=>rw[p1]at h;cases h
   |some r1 =>
   rw[p1,ab]at h;cases p2:(PK.read 0 r1)with
   |none=>rw[p2]at h;cases h
   |some r2 =>
   rw[p2,ab]at h;cases p3:(PK.read 9 r2)with
   |none=>rw[p3]at h;cases h
   |some r3 =>
   rw[p3,ab]at h;obtain rfl:=Option.some.inj h;obtain⟨i1,q1,s1,n1⟩:=Fh p1 (Mf w l);obtain⟨i2,q2,s2,n2⟩:=Fh p2 i1;have e1:r2.s=0:=(s2 (by decide) (by decide)).trans (s1 (by decide) (by decide));have e2:r2.name=[]:=(q2 (by decide)).2.trans (q1 (by decide)).2;have e3:r2.num=0:=(n2 (by decide) (by decide)).trans (n1 (by decide) (by decide));refine⟨hk,⟨a1.d,a1.s,a1.j,a1.n,a1.h,a1.m⟩,λe=>?_,λe=>?_,λe=>?_⟩
   ·rw[ho,hs2]at e;cases e
   ·rcases DA p3 e1 e2 e3 with⟨b1,b2,b3⟩ |⟨b1,b2⟩
    ·exact⟨b2,b3⟩
    ·exact absurd (iN9 (by show ¬r3.s=1;rw[b1];decide)) e
   ·rcases DA p3 e1 e2 e3 with⟨b1,b2,b3⟩ |⟨b1,b2⟩
    ·rw[ho,hr2,iP9 b1]at e;cases e
    ·exact b2
  ·have hr:(aq[k]?.getD iK).aO=0:=TY ⟨k,hk⟩ hc h9;obtain⟨b1,b2⟩:=a2 h9;refine⟨hk,⟨a1.d,a1.s,a1.j,a1.n,a1.h,a1.m⟩,λ_=>b1,λe=>?_,λ_=>b2⟩;rw[ho,hr]at e;exact absurd (ite_self _) e
theorem ni(w l:tLB):∀(os:List dY) (k:Nat) (p:dH),aq.drop k=os->readFrom w l k os=some p->p.In
 |[],k,p,_,h=>by cases h
 |o::os,k,p,hd,h=>by
  have hlt:k<aq.length:=by apply Classical.byContradiction;intro hc;rw[List.drop_eq_nil_of_le (by omega)]at hd;cases hd
  have h0:aq[k]?.getD iK=o:=by rw[an hlt]at hd;rw[List.getElem?_eq_getElem hlt];exact(List.cons.inj hd).1
  have h1:aq.drop (k+1)=os:=by rw[an hlt]at hd;exact(List.cons.inj hd).2
  have hk:k<88:=by rw[<-show aq.length=88 by decide];exact hlt
  rw[readFrom]at h;split at h
  ·split at h
   ·exact ni w l os (k+1) p h1 h
   ·rename_i r hr
    split at h
    ·obtain rfl:=Option.some.inj h;exact row_in hk (w:=w) (l:=l) (by rw[h0];exact hr) []
    ·exact ni w l os (k+1) p h1 h
  ·exact ni w l os (k+1) p h1 h
structure dN.In(x:dN):Prop where
 kd:x.kind<=4
 nm:x.kind=1\/x.kind=2\/x.kind=3->nameB x.name=true
 x:x.kind=4->x.x.In
theorem XR{t:tLB}{x:dN}(h:bT t=some x):x.In:=by
 unfold bT at h;cases hn:jE t with
 |none=>rw[hn]at h;cases h
 |some l =>
  rw[hn,ab]at h;split at h
  ·obtain rfl:=Option.some.inj h;exact⟨al _,λe=>by simp at e,λe=>by simp at e⟩
  split at h
  ·split at h
   ·rename_i hc
    obtain rfl:=Option.some.inj h;exact⟨(show(3:Nat)<=4 by decide),λ_=>hc.2.1,λe=>by simp at e⟩
   ·cases h
  split at h
  ·unfold uU at h;split at h
   ·rename_i hc
    cases h1:gz (aG (ay (aG l).2)).2 with
    |none=>rw[h1]at h;cases h
    |some a =>
    rw[h1,ab]at h;cases h2:gz a.2 with
    |none=>rw[h2]at h;cases h
    |some b =>
    rw[h2,ab]at h;cases h3:gz b.2 with
    |none=>rw[h3]at h;cases h
    |some c =>
    rw[h3,ab]at h;split at h
    ·obtain rfl:=Option.some.inj h;exact⟨(show(1:Nat)<=4 by decide),λ_=>hc,λe=>by simp at e⟩
    ·cases h
   ·cases h
  split at h
  ·split at h
   ·rename_i hc
    obtain rfl:=Option.some.inj h;exact⟨(show(2:Nat)<=4 by decide),λ_=>hc.1,λe=>by simp at e⟩
   ·cases h
  ·obtain⟨p,h1,rfl⟩:=map_some h;exact⟨(show(4:Nat)<=4 by decide),λe=>by simp at e,λ_=>ni _ _ aq 0 p rfl h1⟩
def CQ(mn fn:List tBA)(x:PI):Int:=if x.aO=1 then placeM (T x.name) fn else if x.aO=2 then placeM (T x.name) mn else x.num
def PI.linked(mn fn:List tBA)(x:PI):PI:={x with num:=CQ mn fn x}
def aS.linked(mn fn:List tBA)(f:aS):aS:=⟨f.name,f.code.map (PI.linked mn fn)⟩
