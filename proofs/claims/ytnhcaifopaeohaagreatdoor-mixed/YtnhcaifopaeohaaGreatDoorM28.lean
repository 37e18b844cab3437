import Derived.Test.YtnhcaifopaeohaaGreatDoorM06
import Derived.Test.YtnhcaifopaeohaaGreatDoorM21
import Derived.Test.YtnhcaifopaeohaaGreatDoorM25
namespace Go.Proofs.YtnhcaifopaeohaaGreatDoor
open Go.RowKit
set_option linter.all false
theorem sgn_rngC (n:RNum) (half:Nat) (h:0<half):-(half:Int)<=(n.sgnP half).getD 0/\(n.sgnP half).getD 0<=(half:Int) - 1:=by
 unfold RNum.sgnP
 split
 ·simp;omega
 ·split
  ·split<;>simp<;>omega
  ·split<;>simp<;>omega
theorem low_rngC (v:Nat):-2147483648<=lowP v/\lowP v<=2147483647:=by unfold lowP;omega
theorem reg_rng {w:List UInt8} {n:Nat} (h:regOfP w=some n):n<=10:=by
 unfold regOfP at h
 have:=List.mem_range.1 (List.mem_of_find?_eq_some h)
 omega
structure RSt.In (r:RSt):Prop where
 d:r.d<=10
 s:r.s<=10
 j:-32768<=r.jump/\r.jump<=32767
 n:-2147483648<=r.num/\r.num<=2147483647
 h:-2147483648<=r.high/\r.high<=2147483647
 m:r.name=[]\/nameB r.name=true
theorem map_some {α β:Type} {o:Option α} {f:α->β} {y:β} (h:o.map f=some y):∃ x,o=some x/\f x=y:=by
 cases o with
 | none=>cases h
 | some x=>exact ⟨x,rfl,Option.some.inj h⟩
theorem part_in {p:PK} {r r':RSt} (h:p.read r=some r') (hi:r.In):r'.In/\(p≠9->r'.high=r.high/\r'.name=r.name)/\(p≠9->p≠5->r'.s=r.s)/\(p≠9->p≠6->r'.num=r.num):=by
 have mk:∀ b,r.mark b=some r'->r'.In/\(p≠9->r'.high=r.high/\r'.name=r.name)/\(p≠9->p≠5->r'.s=r.s)/\(p≠9->p≠6->r'.num=r.num):=fun b h=>by
  unfold RSt.mark at h
  split at h
  ·obtain rfl:=Option.some.inj h
   exact ⟨⟨hi.d,hi.s,hi.j,hi.n,hi.h,hi.m⟩,fun _=>⟨rfl,rfl⟩,fun _ _=>rfl,fun _ _=>rfl⟩
  ·cases h
 have rd:r.regD=some r'->r'.In/\(p≠9->r'.high=r.high/\r'.name=r.name)/\(p≠9->p≠5->r'.s=r.s)/\(p≠9->p≠6->r'.num=r.num):=fun h=>by
  unfold RSt.regD at h;obtain ⟨n,h1,rfl⟩:=map_some h
  exact ⟨⟨reg_rng h1,hi.s,hi.j,hi.n,hi.h,hi.m⟩,fun _=>⟨rfl,rfl⟩,fun _ _=>rfl,fun _ _=>rfl⟩
 unfold PK.read at h
 split at h
 ·exact mk _ h
 ·exact mk _ h
 ·exact mk _ h
 ·exact rd h
 ·exact rd h
 ·unfold RSt.regS at h;obtain ⟨n,h1,rfl⟩:=map_some h
  exact ⟨⟨hi.d,reg_rng h1,hi.j,hi.n,hi.h,hi.m⟩,fun _=>⟨rfl,rfl⟩,fun _ h5=>absurd rfl h5,fun _ _=>rfl⟩
 ·unfold RSt.number at h;obtain ⟨x,h1,rfl⟩:=map_some h
  have:=sgn_rngC x.1 2147483648 (by decide)
  exact ⟨⟨hi.d,hi.s,hi.j,⟨this.1,by simp only;omega⟩,hi.h,hi.m⟩,fun _=>⟨rfl,rfl⟩,fun _ _=>rfl,fun _ h6=>absurd rfl h6⟩
 ·unfold RSt.lab at h
  split at h
  ·obtain rfl:=Option.some.inj h
   exact ⟨⟨hi.d,hi.s,hi.j,hi.n,hi.h,hi.m⟩,fun _=>⟨rfl,rfl⟩,fun _ _=>rfl,fun _ _=>rfl⟩
  ·cases h
 ·unfold RSt.off at h
  split at h
  ·obtain ⟨x,h1,rfl⟩:=map_some h
   have:=sgn_rngC ⟨x,true⟩ 32768 (by decide)
   exact ⟨⟨hi.d,hi.s,⟨this.1,by simp only;omega⟩,hi.n,hi.h,hi.m⟩,fun _=>⟨rfl,rfl⟩,fun _ _=>rfl,fun _ _=>rfl⟩
  ·split at h
   ·obtain ⟨x,h1,rfl⟩:=map_some h
    have:=sgn_rngC ⟨x,false⟩ 32768 (by decide)
    exact ⟨⟨hi.d,hi.s,⟨this.1,by simp only;omega⟩,hi.n,hi.h,hi.m⟩,fun _=>⟨rfl,rfl⟩,fun _ _=>rfl,fun _ _=>rfl⟩
   ·obtain rfl:=Option.some.inj h
    exact ⟨⟨hi.d,hi.s,hi.j,hi.n,hi.h,hi.m⟩,fun _=>⟨rfl,rfl⟩,fun _ _=>rfl,fun _ _=>rfl⟩
 ·refine ⟨?_,fun h=>absurd rfl h,fun h=>absurd rfl h,fun h=>absurd rfl h⟩
  unfold RSt.wide at h
  split at h
  ·split at h
   ·rename_i hn
    obtain rfl:=Option.some.inj h
    exact ⟨hi.d,(show (1:Nat)<=10 by decide),hi.j,hi.n,hi.h,.inr hn⟩
   ·cases h
  ·obtain ⟨x,h1,rfl⟩:=map_some h
   exact ⟨hi.d,hi.s,hi.j,low_rngC _,low_rngC _,hi.m⟩
 ·cases h
theorem parts_in:∀ (ps:List PK) {r r':RSt},readPs ps r=some r'->r.In->r'.In/\(9 ∉ ps->r'.high=r.high/\r'.name=r.name)
 | [],r,r',h,hi=>by
  obtain rfl:=Option.some.inj h
  exact ⟨hi,fun _=>⟨rfl,rfl⟩⟩
 | p::ps,r,r',h,hi=>by
  rw [readPs] at h
  cases hp:p.read r with
  | none=>rw [hp] at h;cases h
  | some r1 =>
   rw [hp] at h;obtain ⟨a1,a2,_⟩:=part_in hp hi;obtain ⟨b1,b2⟩:=parts_in ps h a1
   refine ⟨b1,fun hn=>?_⟩
   obtain ⟨c1,c2⟩:=a2 (fun e=>hn (by rw [e];simp))
   obtain ⟨d1,d2⟩:=b2 (fun e=>hn (by simp [e]))
   exact ⟨d1.trans c1,d2.trans c2⟩
structure PRead.In (x:PRead):Prop where
 k:x.k<88
 i:x.r.In
 one:x.o.slots=1->x.r.high=0
 nm:(if x.r.s=1 then x.o.refers else 0)≠0->nameB x.r.name=true/\x.r.num=0
 no:(if x.r.s=1 then x.o.refers else 0)=0->x.r.name=[]
theorem tab_wide:∀ k:Fin 88,(tableS[k.1]?.getD noOp).call=false->9 ∉ (tableS[k.1]?.getD noOp).parts->(tableS[k.1]?.getD noOp).refers=0:=by decide +kernel
theorem tab_nine:∀ k:Fin 88,(tableS[k.1]?.getD noOp).call=false->9∈(tableS[k.1]?.getD noOp).parts->(tableS[k.1]?.getD noOp).parts=[3,0,9]/\(tableS[k.1]?.getD noOp).slots=2/\(tableS[k.1]?.getD noOp).refers=2:=by decide +kernel
theorem tab_call:∀ k:Fin 88,(tableS[k.1]?.getD noOp).call=true->(tableS[k.1]?.getD noOp).refers=1:=by decide +kernel
def rst0C (w l:List UInt8):RSt:=⟨w,l,0,0,0,0,0,[],[],false⟩
theorem rst0_in (w l:List UInt8):(rst0C w l).In:=⟨Nat.zero_le _,Nat.zero_le _,(show -32768<=(0:Int)/\(0:Int)<=32767 by decide),(show -2147483648<=(0:Int)/\(0:Int)<=2147483647 by decide),(show -2147483648<=(0:Int)/\(0:Int)<=2147483647 by decide),.inl rfl⟩
theorem wide_name {r r':RSt} (h:r.wide=some r') (hs:r.s=0) (hn:r.name=[]) (h0:r.num=0):(r'.s=1/\nameB r'.name=true/\r'.num=0)\/(r'.s=0/\r'.name=[]):=by
 unfold RSt.wide at h
 split at h
 ·split at h
  ·rename_i hm
   obtain rfl:=Option.some.inj h
   exact .inl ⟨rfl,hm,h0⟩
  ·cases h
 ·obtain ⟨x,h1,rfl⟩:=map_some h
  exact .inr ⟨hs,hn⟩
theorem row_in {k:Nat} (hk:k<88) {w l:List UInt8} {r:RSt} (h:(tableS[k]?.getD noOp).read (rst0C w l)=some r) (q:List UInt8):(PRead.mk k { r with rest:=q }).In:=by
 have ho:(PRead.mk k { r with rest:=q }).o=tableS[k]?.getD noOp:=rfl
 unfold OpS.read at h
 cases hc:(tableS[k]?.getD noOp).call with
 | true =>
  rw [hc,if_pos rfl] at h
  have hr:(tableS[k]?.getD noOp).refers=1:=tab_call ⟨k,hk⟩ hc
  unfold RSt.call at h
  split at h
  ·split at h
   ·rename_i hm
    obtain rfl:=Option.some.inj h
    refine ⟨hk,⟨Nat.zero_le _,(show (1:Nat)<=10 by decide),(show -32768<=(0:Int)/\(0:Int)<=32767 by decide),(show -2147483648<=(0:Int)/\(0:Int)<=2147483647 by decide),(show -2147483648<=(0:Int)/\(0:Int)<=2147483647 by decide),.inr hm⟩,fun _=>rfl,fun _=>⟨hm,rfl⟩,fun e=>?_⟩
    rw [ho,if_pos rfl,hr] at e;cases e
   ·cases h
  ·obtain ⟨n,h1,rfl⟩:=map_some h
   have hn:n<4:=by
    have:=(List.findIdx?_eq_some_iff_getElem.1 h1).1
    simpa [helpW] using this
   refine ⟨hk,⟨Nat.zero_le _,Nat.zero_le _,(show -32768<=(0:Int)/\(0:Int)<=32767 by decide),?_,(show -2147483648<=(0:Int)/\(0:Int)<=2147483647 by decide),.inl rfl⟩,fun _=>rfl,fun e=>?_,fun _=>rfl⟩
   ·simp only;omega
   ·exact absurd rfl e
 | false =>
  rw [hc] at h
  simp only [Bool.false_eq_true,if_false] at h
  obtain ⟨a1,a2⟩:=parts_in _ h (rst0_in w l)
  by_cases h9:9∈(tableS[k]?.getD noOp).parts
  ·obtain ⟨hp,hs2,hr2⟩:=tab_nine ⟨k,hk⟩ hc h9
   rw [hp] at h
   simp only [readPs] at h
   cases p1:(PK.read 3 (rst0C w l)) with
   | none=>rw [p1] at h;cases h
   | some r1 =>
   rw [p1,Option.bind_some] at h
   cases p2:(PK.read 0 r1) with
   | none=>rw [p2] at h;cases h
   | some r2 =>
   rw [p2,Option.bind_some] at h
   cases p3:(PK.read 9 r2) with
   | none=>rw [p3] at h;cases h
   | some r3 =>
   rw [p3,Option.bind_some] at h
   obtain rfl:=Option.some.inj h
   obtain ⟨i1,q1,s1,n1⟩:=part_in p1 (rst0_in w l)
   obtain ⟨i2,q2,s2,n2⟩:=part_in p2 i1
   have e1:r2.s=0:=(s2 (by decide) (by decide)).trans (s1 (by decide) (by decide))
   have e2:r2.name=[]:=(q2 (by decide)).2.trans (q1 (by decide)).2
   have e3:r2.num=0:=(n2 (by decide) (by decide)).trans (n1 (by decide) (by decide))
   refine ⟨hk,⟨a1.d,a1.s,a1.j,a1.n,a1.h,a1.m⟩,fun e=>?_,fun e=>?_,fun e=>?_⟩
   ·rw [ho,hs2] at e;cases e
   ·rcases wide_name p3 e1 e2 e3 with ⟨b1,b2,b3⟩ | ⟨b1,b2⟩
    ·exact ⟨b2,b3⟩
    ·exact absurd (if_neg (by show ¬ r3.s=1;rw [b1];decide)) e
   ·rcases wide_name p3 e1 e2 e3 with ⟨b1,b2,b3⟩ | ⟨b1,b2⟩
    ·rw [ho,hr2,if_pos b1] at e;cases e
    ·exact b2
  ·have hr:(tableS[k]?.getD noOp).refers=0:=tab_wide ⟨k,hk⟩ hc h9
   obtain ⟨b1,b2⟩:=a2 h9
   refine ⟨hk,⟨a1.d,a1.s,a1.j,a1.n,a1.h,a1.m⟩,fun _=>b1,fun e=>?_,fun _=>b2⟩
   rw [ho,hr] at e
   exact absurd (ite_self _) e
theorem readFrom_in (w l:List UInt8):∀ (os:List OpS) (k:Nat) (p:PRead),tableS.drop k=os->readFrom w l k os=some p->p.In
 | [],k,p,_,h=>by cases h
 | o::os,k,p,hd,h=>by
  have hlt:k<tableS.length:=by
   apply Classical.byContradiction
   intro hc
   rw [List.drop_eq_nil_of_le (by omega)] at hd;cases hd
  have h0:tableS[k]?.getD noOp=o:=by
   rw [List.drop_eq_getElem_cons hlt] at hd;rw [List.getElem?_eq_getElem hlt]
   exact (List.cons.inj hd).1
  have h1:tableS.drop (k+1)=os:=by
   rw [List.drop_eq_getElem_cons hlt] at hd
   exact (List.cons.inj hd).2
  have hk:k<88:=by rw [<- show tableS.length=88 by decide];exact hlt
  rw [readFrom] at h
  split at h
  ·split at h
   ·exact readFrom_in w l os (k+1) p h1 h
   ·rename_i r hr
    split at h
    ·obtain rfl:=Option.some.inj h
     exact row_in hk (w:=w) (l:=l) (by rw [h0];exact hr) []
    ·exact readFrom_in w l os (k+1) p h1 h
  ·exact readFrom_in w l os (k+1) p h1 h
structure PLn.In (x:PLn):Prop where
 kd:x.kind<=4
 nm:x.kind=1\/x.kind=2\/x.kind=3->nameB x.name=true
 x:x.kind=4->x.x.In
theorem line_in {t:List UInt8} {x:PLn} (h:lineP t=some x):x.In:=by
 unfold lineP at h
 cases hn:newL t with
 | none=>rw [hn] at h;cases h
 | some l =>
  rw [hn,Option.bind_some] at h
  split at h
  ·obtain rfl:=Option.some.inj h
   exact ⟨Nat.zero_le _,fun e=>by simp at e,fun e=>by simp at e⟩
  split at h
  ·split at h
   ·rename_i hc
    obtain rfl:=Option.some.inj h
    exact ⟨(show (3:Nat)<=4 by decide),fun _=>hc.2.1,fun e=>by simp at e⟩
   ·cases h
  split at h
  ·unfold mapLnP at h
   split at h
   ·rename_i hc
    cases h1:numL (wdL (skipL (wdL l).2)).2 with
    | none=>rw [h1] at h;cases h
    | some a =>
    rw [h1,Option.bind_some] at h
    cases h2:numL a.2 with
    | none=>rw [h2] at h;cases h
    | some b =>
    rw [h2,Option.bind_some] at h
    cases h3:numL b.2 with
    | none=>rw [h3] at h;cases h
    | some c =>
    rw [h3,Option.bind_some] at h
    split at h
    ·obtain rfl:=Option.some.inj h
     exact ⟨(show (1:Nat)<=4 by decide),fun _=>hc,fun e=>by simp at e⟩
    ·cases h
   ·cases h
  split at h
  ·split at h
   ·rename_i hc
    obtain rfl:=Option.some.inj h
    exact ⟨(show (2:Nat)<=4 by decide),fun _=>hc.1,fun e=>by simp at e⟩
   ·cases h
  ·obtain ⟨p,h1,rfl⟩:=map_some h
   exact ⟨(show (4:Nat)<=4 by decide),fun e=>by simp at e,fun _=>readFrom_in _ _ tableS 0 p rfl h1⟩
end Go.Proofs.YtnhcaifopaeohaaGreatDoor
