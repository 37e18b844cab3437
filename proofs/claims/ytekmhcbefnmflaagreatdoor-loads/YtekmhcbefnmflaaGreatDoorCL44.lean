import Derived.Test.YtekmhcbefnmflaaGreatDoorCL32
import Derived.Test.YtekmhcbefnmflaaGreatDoorCL58
import Derived.Test.YtekmhcbefnmflaaGreatDoorCL40
namespace Go.Proofs.YtekmhcbefnmflaaGreatDoor
open Go.RowKit
open Bool renaming eq_iff_iff->ab,and_eq_true->an,not_eq_true'->bh,false_and->cb,true_and->cw,true->eJ,false->eE
open List renaming mem_cons_of_mem->ao,drop_drop->ar,length_drop->bt,length_take->b5,length_nil->b9,replicate->cj,map_map->cx,length->ee
open Decidable renaming decide->eS
open Option renaming none->ez,some->eC
set_option linter.all false
set_option linter.all false
def AB(mN fN:List tBA)(rf:Nat)(num:Int):Option tBA:=if 0<=num then(if rf=2 then mN else fN)[num.toNat]? else ez
theorem Bo{mN fN:List tBA}(gm:ep)(h:gm.i.word≠WIDE/\gm.i.word≠CALL):jq mN fN gm=eC gm.i:=by unfold jq;rw[iN9 (by rintro⟨_,h'|h'⟩;exact h.1 h';exact h.2 h')]
section
variable {o : dX} {v : aK × Bool} {x y : fF} {QV : Bool} {r1 r2 : RS} {x' : PI} {mN fN : List ByteArray}
structure Ny(mN fN:List tBA)(o:dX)(i:aK)(x:fF)(x':PI)(gm:ep)(r:RS):Prop where
 yes:o.needs (x'.ins [])=eJ->¬10<x.d/\¬10<x.s/\gm.ok=eJ/\gm.r=r/\gm.jump=zU i x'/\jq mN fN gm=(if(if x'.s=1 then o.aJ else 0)≠0 then(AB mN fN (if x'.s=1 then o.aJ else 0) x'.num).map (λnm=>xI i nm x')else eC (xI i (T [63]) x'))
 no:o.needs (x'.ins [])=eE->10<x.d\/10<x.s\/gm.ok=eE
theorem kG{gm:ep}(hF:QU o v)(h1:aF v.1.word≠119)(h2:aF v.1.word≠99)(hw:gm.i.word=v.1.word)(hr:gm.r=r1)(hj:gm.jump=zU v.1 x')(hi:gm.i=xI v.1 (T [63]) x')(hn:o.needs (x'.ins [])=(eS (x.d<=10)&&eS (x.s<=10)&&gm.ok)):Ny mN fN o v.1 x x' gm r1 where
 yes:=λh=>by
  rw[hn]at h;simp only[an,decide_eq_true_eq]at h;refine⟨by omega,by omega,h.2,hr,hj,?_⟩;rw[Bo gm (by rw[hw];exact LG h1 h2),hi];have:o.aJ=0:=by rw[hF.aJ,iN9 h1,iN9 h2]
  simp[this]
 no:=λh=>by
  rw[hn]at h;by_cases a:x.d<=10
  ·by_cases b:x.s<=10
   ·right;right;simpa [a,b]using h
   ·right;left;omega
  ·left;omega
theorem Nz(hm:ee mN<=1000)(hf:ee fN<=1000)(hd:x'.d=x.d)(hs:x'.s=x.s)(hj:x'.jump=x.jump)(hn:x.n=u64 x'.num)(hb:-2147483648<=x'.num/\x'.num<=2147483647)(hF:QU o v)(hk:aF v.1.word≠119):Ny mN fN o v.1 x x' (fK v.1 x y QV r1 r2) r1:=by
 have hz:=I9 x'.num hb;rw[<-hn]at hz;have hcall:=hF.call;obtain⟨z1,z2,z3,z4,z5⟩:=hF.z;rcases hF.kind with⟨k,hw,hp⟩ |⟨k,hw,hp⟩ |⟨k,hw,hp,h0⟩ |⟨k,hw,hp⟩ |⟨k,_⟩ |⟨k,h0,hw⟩ |⟨k,hw,hp,h0,he⟩
 ·-- what reckons
  rw[k]at hcall;have hc:o.call=eE:=by rw[hcall];decide
  refine kG hF (by rw[k];decide) (by rw[k];decide) ?_ ?_ ?_ ?_ ?_
  ·simp[fK,k,aM]
  ·simp[fK,k]
  ·simp[fK,k,zU]
  ·simp[fK,k,aM,xI,hd,hs,<-hn]
  ·rcases hp with⟨hN,hp,h0⟩ |⟨hN,⟨hp,h0⟩ |⟨hp,h0⟩⟩
   ·rw[Vr o _ hc hp,ab];simp[fK,hN,h0,PI.ins,hd,hs,hj]
    try grind
   ·rw[LA o _ hc hp,ab];simp[fK,k,hN,h0,PI.ins,hd,hs,hj,hz]
    try grind
   ·rw[LB o _ hc hp,ab];simp[fK,k,hN,h0,PI.ins,hd,hs,hj]
    try grind
 ·-- jumps
  rw[k]at hcall;have hc:o.call=eE:=by rw[hcall];decide
  refine kG hF (by rw[k];decide) (by rw[k];decide) ?_ ?_ ?_ ?_ ?_
  ·simp[fK,k,aM]
  ·simp[fK,k]
  ·simp[fK,k,zU,hj]
  ·simp[fK,k,aM,xI,hd,hs,<-hn]
  ·rcases hp with⟨hN,hp,h0,_⟩ |⟨hN,⟨hp,h0⟩ |⟨hp,h0⟩,_⟩
   ·rw[Zp o _ hc hp,ab];simp[fK,hN,h0,PI.ins,hd,hs,hj]
    try grind
   ·rw[LC o _ hc hp,ab];simp[fK,k,hN,h0,PI.ins,hd,hs,hj,hz]
    try grind
   ·rw[LD o _ hc hp,ab];simp[fK,k,hN,h0,PI.ins,hd,hs,hj]
    try grind
 ·-- loads
  rw[k]at hcall;have hc:o.call=eE:=by rw[hcall];decide
  refine kG hF (by rw[k];decide) (by rw[k];decide) ?_ ?_ ?_ ?_ ?_
  ·simp[fK,k,aM]
  ·simp[fK,k]
  ·simp[fK,k,zU]
  ·simp[fK,k,aM,xI,hd,hs,hj,<-hn]
  ·rw[LF o _ hc hp,ab];simp[fK,k,h0,PI.ins,hd,hs,hj,hz]
   try grind
 ·-- stores
  rw[k]at hcall;have hc:o.call=eE:=by rw[hcall];decide
  refine kG hF (by rw[k];decide) (by rw[k];decide) ?_ ?_ ?_ ?_ ?_
  ·simp[fK,k,aM]
  ·simp[fK,k]
  ·simp[fK,k,zU]
  ·simp[fK,k,aM,xI,hd,hs,hj,<-hn]
  ·rcases hp with⟨hp,h0⟩ |⟨hp,h0⟩
   ·rw[Ja o _ hc hp,ab];simp[fK,k,h0,PI.ins,hd,hs,hj,hz]
    try grind
   ·rw[GA o _ hc hp,ab];simp[fK,k,h0,PI.ins,hd,hs,hj]
    try grind
 ·exact absurd k hk
 ·-- calls
  rw[k]at hcall;have hc:o.call=eJ:=by rw[hcall];decide
  have hrf:o.aJ=1:=by rw[hF.aJ,k];decide
  have hu:x.n=if 0<=x'.num then x'.num else x'.num+18446744073709551616:=by rw[hn];unfold u64;split<;>omega
  by_cases hh:x.s=0/\1<=x.n/\x.n<=4/\x.d=0/\x.jump=0
  ·have hout:fK v.1 x y QV r1 r2=⟨{aM v.1 x with n:=0,word:=T [104,101,108,112],label:=lF[x.n.toNat-1]?.getD E0},0,0,eJ,r1⟩:=by simp only[fK,k];rw[iN9 (by decide),iN9 (by decide),iN9 (by decide),iN9 (by decide)];simp only[if_true];rw[iP9 hh]
   refine⟨λ_=>?_,λh=>?_⟩
   ·rw[hout];refine⟨by omega,by omega,rfl,rfl,?_,?_⟩
    ·simp[zU,k,hs,hh.1]
    ·rw[Bo _ Zq,iN9 (by rw[hs,hh.1];simp)];simp[xI,k,hs,hh.1,aM,hd,<-hn]
   ·exfalso;rw[zT o _ hc]at h;simp[PI.ins,hd,hs,hj,hh.1,hh.2.2.2.1,hh.2.2.2.2]at h;split at hu<;>omega
  ·have hout:fK v.1 x y QV r1 r2=⟨{aM v.1 x with n:=0},1,x.n,((x.s:Int)==1)&&((x.d:Int)==0)&&(x.jump==0),r1⟩:=by simp only[fK,k];rw[iN9 (by decide),iN9 (by decide),iN9 (by decide),iN9 (by decide)];simp only[if_true];rw[iN9 hh]
   rw[hout];refine⟨λh=>?_,λh=>?_⟩
   ·rw[zT o _ hc]at h;simp[PI.ins,hd,hs,hj]at h
    have h1:x.s=1:=by
     rcases h.2 with h2|h2
     ·exact h2
     ·exfalso;apply hh;split at hu<;>omega
    refine⟨by omega,by omega,by simp[h1,h.1],rfl,?_,?_⟩
    ·simp[zU,k,hs,h1]
    ·have hwd:({aM v.1 x with n:=0}:aK).word=CALL:=by simp[aM,hw]
     have hne:CALL≠WIDE:=by decide +kernel
     unfold jq;rw[iP9 ⟨rfl,.inr hwd⟩];dsimp only at hwd ⊢;rw[hwd,iN9 hne,hs,h1,iP9 rfl,hrf,iP9 (by decide)];unfold AB;rw[iN9 (show ¬(1:Nat)=2 by decide),hn];by_cases h5:0<=x'.num
     ·have e:u64 x'.num=x'.num:=by unfold u64;omega
      rw[iP9 h5,e];congr 1;funext nm;simp[xI,zV,hs,h1,aM,hd,hw]
     ·have e:fN[(u64 x'.num).toNat]?=ez:=List.getElem?_eq_none (by unfold u64;omega);rw[iN9 h5,e];rfl
   ·right;right;rw[zT o _ hc]at h;simp[PI.ins,hd,hs,hj]at h;simp;omega
 ·-- exit
  rw[k]at hcall;have hc:o.call=eE:=by rw[hcall];decide
  refine kG hF (by rw[k];decide) (by rw[k];decide) ?_ ?_ ?_ ?_ ?_
  ·simp[fK,k,aM]
  ·simp[fK,k]
  ·simp[fK,k,zU]
  ·simp[fK,k,aM,xI,hd,hs,<-hn]
  ·rw[QT o _ hc hp,ab];simp[fK,k,PI.ins,hd,hs,hj,hz]
   try grind
theorem KF(hm:ee mN<=1000)(hf:ee fN<=1000)(hd:x'.d=x.d)(hs:x'.s=x.s)(hj:x'.jump=x.jump)(hn:x.n=u64 x'.num)(hb:-2147483648<=x'.num/\x'.num<=2147483647)(hF:QU o v)(hk:aF v.1.word=119)(hy:y.n=u64 x'.high)(hh:-2147483648<=x'.high/\x'.high<=2147483647)(h2:y.op=0/\y.d=0/\y.s=0/\y.jump=0):Ny mN fN o v.1 x x' (fK v.1 x y eE r1 r2) r2:=by
 have hzy:=I9 x'.high hh;rw[<-hy]at hzy;have hcall:=hF.call;rcases hF.kind with⟨k,_⟩ |⟨k,_⟩ |⟨k,_⟩ |⟨k,_⟩ |⟨k,hw,hp,h0,hW⟩ |⟨k,_⟩ |⟨k,_⟩<;>(try(rw[k]at hk;exact absurd hk (by decide)))
 rw[k]at hcall;have hc:o.call=eE:=by rw[hcall];decide
 have hrf:o.aJ=2:=by rw[hF.aJ,k];decide
 have hlow:x.n%4294967296=0↔x'.num=0:=by rw[hn];unfold u64;omega
 have OU:o.needs (x'.ins [])=(eS (x.d<=10)&&eS (x.s<=10)&&!(((x.d:Int)==10)||decide (1<(x.s:Int))||(x.jump != 0)||((x.s:Int)==1&&y.n != 0))):=by
  rw[QP o _ hc hp,ab];simp[PI.ins,hd,hs,hj,hzy]
  grind
 have hout:fK v.1 x y eE r1 r2=if x.s=1 then⟨{aM v.1 x with n:=0},1,x.n%4294967296,!(((x.d:Int)==10)||decide (1<(x.s:Int))||(x.jump != 0)||((x.s:Int)==1&&y.n != 0)),r2⟩
   else⟨{aM v.1 x with n:=(x'.ins []).wide},0,0,!(((x.d:Int)==10)||decide (1<(x.s:Int))||(x.jump != 0)||((x.s:Int)==1&&y.n != 0)),r2⟩:=by
  have e:((x'.ins []).wide:Int)=IntKind.u64.wrap (x.n%4294967296+IntKind.u64.wrap (y.n*4294967296)):=by rw[hn,hy,Zr _ _ hb hh];rfl
  simp only[fK,k];rw[iN9 (by decide),iN9 (by decide),iN9 (by decide)];simp[h2.1,h2.2.1,h2.2.2.1,h2.2.2.2,e]
 by_cases h1:x.s=1
 ·rw[iP9 h1]at hout;rw[hout];refine⟨λh=>?_,λh=>?_⟩
  ·rw[OU]at h;simp only[an,decide_eq_true_eq]at h;refine⟨by omega,by omega,h.2,rfl,?_,?_⟩
   ·simp[zU,k,hs,h1]
   ·have hwd:({aM v.1 x with n:=0}:aK).word=WIDE:=by simp[aM,hW]
    unfold jq;rw[iP9 ⟨rfl,.inl hwd⟩];dsimp only at hwd ⊢;rw[hwd,iP9 rfl,hs,h1,iP9 rfl,hrf,iP9 (by decide)];unfold AB;rw[iP9 (show(2:Nat)=2 from rfl),hn];by_cases h5:0<=x'.num
    ·have e:u64 x'.num%4294967296=x'.num:=by unfold u64;omega
     rw[iP9 h5,e];congr 1;funext nm;simp[xI,vT,hs,h1,aM,hd,hW]
    ·have e:mN[(u64 x'.num%4294967296).toNat]?=ez:=List.getElem?_eq_none (by unfold u64;omega);rw[iN9 h5,e];rfl
  ·rw[OU]at h;by_cases a:x.d<=10
   ·by_cases b:x.s<=10
    ·right;right;simpa [a,b]using h
    ·right;left;omega
   ·left;omega
 ·rw[iN9 h1]at hout;rw[hout];refine⟨λh=>?_,λh=>?_⟩
  ·rw[OU]at h;simp only[an,decide_eq_true_eq]at h;refine⟨by omega,by omega,h.2,rfl,?_,?_⟩
   ·simp[zU,k,hs,h1]
   ·unfold jq;rw[iN9 (by rintro⟨h,_⟩;simp at h),iN9 (by rw[hs,iN9 h1];simp)];simp[xI,k,hs,h1,aM,hd]
  ·rw[OU]at h;by_cases a:x.d<=10
   ·by_cases b:x.s<=10
    ·right;right;simpa [a,b]using h
    ·right;left;omega
   ·left;omega
end
set_option linter.all false
structure aaB(mN fN:List tBA)(s:tBA)(p m:Nat)(l:tLB):Prop where
 yes:∀x,gp (l.take m)=eC x->x.k<88/\p+8*x.o.slots<=s.size/\8*x.o.slots<=m/\(bu s ⟨p,eE⟩).ok=eJ/\(bu s ⟨p,eE⟩).r=⟨p+8*x.o.slots,eE⟩/\(bu s ⟨p,eE⟩).jump=x.jmp /\
  jq mN fN (bu s ⟨p,eE⟩)=(if x.aJ≠0 then(AB mN fN x.aJ x.num).map (λnm=>x.GD nm)else eC (x.GD (T [63])))/\x.name=[]/\x.d<=15/\x.s<=15/\(-32768<=x.jump/\x.jump<=32767)/\(-2147483648<=x.num/\x.num<=2147483647)/\(-2147483648<=x.high/\x.high<=2147483647)/\x.o.needs (x.ins [])=eJ
 no:gp (l.take m)=ez->(bu s ⟨p,eE⟩).ok=eE\/(bu s ⟨p,eE⟩).r.bad=eJ\/(m<16/\∀i,jq mN fN (bu s ⟨p,eE⟩)=eC i->dH i.word=2)
theorem KG{mN fN:List tBA}(hm0:ee mN<=1000)(hf0:ee fN<=1000)(s:tBA)(p m:Nat)(h8:8<=m)(hm:p+m<=s.size):aaB mN fN s p m ((BL s).drop p):=by
 have hl:ee ((BL s).drop p)=s.size-p:=by rw[bt,dO]
 have hs8:p+8<=s.size:=by omega
 have hlt:ee (((BL s).drop p).take m)=m:=by rw[b5,hl];omega
 have hM:=NY s p hs8;have hnext:p+16<=s.size->aI s ⟨p+8,eE⟩=(dW ((BL s).drop (p+8)),⟨p+16,eE⟩):=λh=>Lx s (p+8) (by omega)
 have afM:(aI s ⟨p+8,eE⟩).2.bad=eJ\/p+16<=s.size:=by
  by_cases h:p+16<=s.size
  ·exact .inr h
  ·exact .inl (Gz s (p+8) (by omega))
 have afN:(BL s).drop (p+8)=((BL s).drop p).drop 8:=by rw[ar]
 generalize(BL s).drop p=l at *;have hc0:=jo l 0;have e0:=mF l m 0 (by omega);have e1:=mF l m 1 (by omega);have e2:=mF l m 2 (by omega);have e3:=mF l m 3 (by omega);have e4:=CF l 4 m (by omega);have h1l:=jo l 1;have h2l:=jo l 2;have h3l:=jo l 3;cases hk:gU (at' l 0)with
 |none =>
  have hw:(aB (at' l 0)).2=eE:=by
   have:=List.all_eq_true.1 Vp (at' l 0) (List.mem_range.2 hc0)
   simpa [hk]using this
  have hf:gp (l.take m)=ez:=by unfold gp;rw[iN9 (by omega),e0,hk]
  have hok:(bu s ⟨p,eE⟩).ok=eE:=by rw[hM,iP9 (.inl hw)]
  exact⟨λx hx=>(by rw[hf]at hx;cases hx),λ_=>.inl hok⟩
 |some k =>
  have hkc:=List.all_eq_true.1 Vq (at' l 0) (List.mem_range.2 hc0);simp only[hk,an,decide_eq_true_eq]at hkc;obtain⟨VT,hcode⟩:=hkc;obtain⟨hF,_⟩:=EV k VT;rw[hcode]at hF;have hw:=hF.ok;have hop:(dW l).op=at' l 0:=rfl;rw[hop]at hM;have hsl:=Jb _ _ hF
  let x:PI:=⟨k,at' l 1%16,at' l 1/16,eP (at' l 2+256*at' l 3),bI (l.drop 4),if 1<(ax[k]?.getD kg).slots then bI ((l.take m).drop 12)else 0,[]⟩
  have hfr:gp (l.take m)=if m<(ax[k]?.getD kg).slots*8 then ez else if 1<(ax[k]?.getD kg).slots/\((l.take m).drop 8).take 4≠[0,0,0,0]then ez else if(ax[k]?.getD kg).needs (x.ins [])then eC x else ez:=by unfold gp;rw[iN9 (by omega),e0,hk];simp only[hlt,e1,e2,e3,e4];rfl
  have xo:x.o=ax[k]?.getD kg:=rfl;have hxd:x.d=(dW l).d:=rfl;have hxs:x.s=(dW l).s:=rfl;have hxj:x.jump=(dW l).jump:=Vm _;have hxn:(dW l).n=u64 x.num:=(NZ l 4).symm;have hxb:=qg (l.drop 4);have hjb:=CE (at' l 2+256*at' l 3) (by omega)
  have hhb:-2147483648<=x.high/\x.high<=2147483647:=by
   show -2147483648<=(if _ then _ else _)/\(if _ then _ else _)<=_
   split
   ·exact qg _
   ·omega
  have OV:x.view=(aB (at' l 0)).1:=by unfold PI.view;rw[xo,hcode]
  rcases hsl with h1 |⟨h2,XG,hW⟩
  ·-- of one slot
   have ad1:aF (aB (at' l 0)).1.word≠119:=by
    intro h;have h':=hF.slots;rw[h1]at h';rcases hF.kind with⟨k,_⟩ |⟨k,_⟩ |⟨k,_⟩ |⟨k,_⟩ |⟨_,_,_,_,hW⟩ |⟨k,_⟩ |⟨k,_⟩<;>(try(rw[k]at h;exact absurd h (by decide)))
    rw[hW]at h';simp[dH]at h'
   have hA:=Nz hm0 hf0 (y:=(aI s ⟨p+8,eE⟩).1) (QV:=(aI s ⟨p+8,eE⟩).2.bad) (r1:=⟨p+8,eE⟩) (r2:=(aI s ⟨p+8,eE⟩).2) hxd hxs hxj hxn hxb hF ad1;rw[h1,iN9 (by omega),iN9 (by omega)]at hfr;cases hn:(ax[k]?.getD kg).needs (x.ins [])with
   |true =>rw[hn,iP9 rfl]at hfr;obtain⟨g1,g2,g3,g4,g5,g6⟩:=hA.yes hn;rw[iN9 (by rintro(h|h|h);rw[hw]at h;cases h;exact g1 h;exact g2 h)]at hM;refine⟨λx' hx=>?_,λhx=>by rw[hfr]at hx;cases hx⟩;rw[hfr]at hx;cases hx;rw[hM];refine⟨VT,by rw[xo,h1];omega,by rw[xo,h1];omega,g3,by rw[g4,xo,h1],by rw[g5,PI.jmp,OV],?_,rfl,by show at' l 1%16<=15;omega,by show at' l 1/16<=15;omega,hjb,hxb,hhb,hn⟩;rw[g6];unfold PI.GD;rw[OV];rfl
   |false =>
    rw[hn,iN9 (by simp)]at hfr;refine⟨λx' hx=>(by rw[hfr]at hx;cases hx),λ_=>.inl ?_⟩;rw[hM];split
    ·rfl
    ·rename_i hno
     rcases hA.no hn with h|h|h
     ·exact absurd (.inr (.inl h)) hno
     ·exact absurd (.inr (.inr h)) hno
     ·exact h
  ·-- of two
   rw[h2]at hfr;by_cases afO:m<16
   ·rw[iP9 (by omega)]at hfr;refine⟨λx' hx=>(by rw[hfr]at hx;cases hx),λ_=>?_⟩;cases hok:(bu s ⟨p,eE⟩).ok with
    |false=>exact .inl rfl
    |true =>
     refine .inr (.inr ⟨afO,λi hi=>?_⟩)
     have hword:(bu s ⟨p,eE⟩).i.word=WIDE:=by
      rw[hM];split
      ·exact hW
      ·simp only[fK,XG];rw[iN9 (by decide),iN9 (by decide),iN9 (by decide),iP9 (by trivial)];split<;>simp[aM,hW]
     have:i.word=WIDE:=by rw[xZ hi];exact hword
     rw[this];simp[dH]
   ·rw[iN9 (by omega)]at hfr;have zF:=abw (l.take m) (by omega);rw[mF l m 8 (by omega),mF l m 9 (by omega),mF l m 10 (by omega),mF l m 11 (by omega)]at zF;have hsz:=QX (l.drop 8);simp only[vR]at hsz;have hN:=hnext (by omega);rw[afN]at hN;by_cases hzz:((l.take m).drop 8).take 4=[0,0,0,0]
    ·rw[iN9 (by rintro⟨_,h⟩;exact h hzz)]at hfr;have hzero:=hsz.2 (zF.1 hzz)
     have hxh:x.high=bI (l.drop 12):=by
      show(if _ then _ else _)=_
      rw[iP9 (by rw[h2];omega),CF l 12 m (by omega)]
     have hyn:(dW (l.drop 8)).n=u64 x.high:=by rw[hxh,NZ l 12];simp only[dW,vR]
     have hA:=KF hm0 hf0 (y:=dW (l.drop 8)) (r1:=⟨p+8,eE⟩) (r2:=⟨p+16,eE⟩) hxd hxs hxj hxn hxb hF XG hyn hhb hzero;rw[hN]at hM;cases hn:(ax[k]?.getD kg).needs (x.ins [])with
     |true =>rw[hn,iP9 rfl]at hfr;obtain⟨g1,g2,g3,g4,g5,g6⟩:=hA.yes hn;rw[iN9 (by rintro(h|h|h);rw[hw]at h;cases h;exact g1 h;exact g2 h)]at hM;refine⟨λx' hx=>?_,λhx=>by rw[hfr]at hx;cases hx⟩;rw[hfr]at hx;cases hx;rw[hM];refine⟨VT,by rw[xo,h2];omega,by rw[xo,h2];omega,g3,by rw[g4,xo,h2],by rw[g5,PI.jmp,OV],?_,rfl,by show at' l 1%16<=15;omega,by show at' l 1/16<=15;omega,hjb,hxb,hhb,hn⟩;rw[g6];unfold PI.GD;rw[OV];rfl
     |false =>
      rw[hn,iN9 (by simp)]at hfr;refine⟨λx' hx=>(by rw[hfr]at hx;cases hx),λ_=>.inl ?_⟩;rw[hM];split
      ·rfl
      ·rename_i hno
       rcases hA.no hn with h|h|h
       ·exact absurd (.inr (.inl h)) hno
       ·exact absurd (.inr (.inr h)) hno
       ·exact h
    ·rw[iP9 ⟨by omega,hzz⟩]at hfr;refine⟨λx' hx=>(by rw[hfr]at hx;cases hx),λ_=>.inl ?_⟩;have hnz:¬((dW (l.drop 8)).op=0/\(dW (l.drop 8)).d=0/\(dW (l.drop 8)).s=0/\(dW (l.drop 8)).jump=0):=λh=>hzz (zF.2 (hsz.1 h));rw[hM,hN];split
     ·rfl
     ·simp only[fK,XG];rw[iN9 (by decide),iN9 (by decide),iN9 (by decide),iP9 (by trivial)];split<;>simp<;>grind
set_option linter.all false
def NA(mN fN:List tBA)(x:PI):Bool:=if x.aJ≠0 then(AB mN fN x.aJ x.num).isSome else eJ
def yg(mN fN:List tBA)(l:List PI):Bool:=l.all (NA mN fN)
def toJ(mN fN:List tBA)(x:PI):aK:=x.GD (if x.aJ≠0 then(AB mN fN x.aJ x.num).getD E0 else T [63])
theorem aaC(mN fN:List tBA)(x:PI):(if x.aJ≠0 then(AB mN fN x.aJ x.num).map (λnm=>x.GD nm)else eC (x.GD (T [63])))=if NA mN fN x=eJ then eC (toJ mN fN x)else ez:=by
 unfold NA toJ;by_cases h:x.aJ≠0
 ·simp only[iP9 h];cases AB mN fN x.aJ x.num with
  |none=>rfl
  |some v=>rfl
 ·simp only[iN9 h,if_true]
theorem FN(s:tBA)(oo slots:Nat)(hsz:oo+8*slots<=s.size):∀(f p:Nat) (acc:List PI) (st:List Bool) (o:List PI×List Bool),slots<p+f->p<=slots->p=aL acc->r9 st acc slots->(∀x∈acc,x.Ok/\x.name=[]) -> codeL (((BL s).drop oo).take (8*slots)) slots f p acc st=eC o->aL o.1=slots/\r9 o.2 o.1 slots/\(∀x∈o.1,x.Ok/\x.name=[])
 |0,p,acc,st,o,h,hp,_,_,_,_=>by omega
 |f+1,p,acc,st,o,h,hp,hs,hS,hO,ho=>by
  by_cases hlt:p<slots
  ·have hI:=KG (mN:=[]) (fN:=[]) (by simp) (by simp) s (oo+8*p) (8*(slots-p)) (by omega) (by omega)
   have hdt:(((BL s).drop oo).take (8*slots)).drop (p*8)=((BL s).drop (oo+8*p)).take (8*(slots-p)):=by
    rw[List.drop_take,ar];congr 1
    ·omega
    ·congr 1;omega
   rw[codeL,iP9 hlt,hdt]at ho;generalize(BL s).drop (oo+8*p)=l at *;cases hfr:gp (l.take (8*(slots-p)))with
   |none=>rw[hfr]at ho;cases ho
   |some x =>
    rw[hfr]at ho;obtain⟨g1,g2,g3,g4,g5,g6,g7,g8,g9,g10,g11,g12,g13,g14⟩:=hI.yes x hfr;have hxO:x.Ok:=⟨g1,g9,g10,g11,g12,g13,g14⟩
    have hsl:=hxO.slots
    exact FN s oo slots hsz f (p+x.o.slots) (acc++[x]) (st.set p eJ) o (by omega) (by omega) (by rw[Dv];simp[aL]at hs ⊢;omega) (by rw[hs];exact hS.step x (by omega)) (λy hy=>by
     rcases List.mem_append.1 hy with hy|hy
     ·exact hO y hy
     ·rw[List.mem_singleton.1 hy];exact⟨hxO,g8⟩) ho
  ·rw[codeL,iN9 hlt]at ho;cases ho;exact⟨by rw[<-hs];omega,hS,hO⟩
theorem FO{mN fN:List tBA}(hm0:ee mN<=1000)(hf0:ee fN<=1000)(s:tBA)(oo slots:Nat)(hsz:oo+8*slots<=s.size):∀(f p:Nat) (acc:List PI) (st:List Bool),slots<p+f->p<=slots->yg mN fN acc=eJ->p=aL acc->r9 st acc slots->(∀x∈acc,x.Ok/\x.name=[]) -> (codeL (((BL s).drop oo).take (8*slots)) slots f p acc st=ez->∀b,bodyLJ mN fN s slots f ⟨oo+8*p,eE⟩ p (acc.map (toJ mN fN)) (posL 0 acc) (acc.map PI.jmp)=eC b->b.pos≠slots) /\ (∀o,codeL (((BL s).drop oo).take (8*slots)) slots f p acc st=eC o ->
   (yg mN fN o.1=eJ->bodyLJ mN fN s slots f ⟨oo+8*p,eE⟩ p (acc.map (toJ mN fN)) (posL 0 acc) (acc.map PI.jmp)=eC ⟨o.1.map (toJ mN fN),posL 0 o.1,o.1.map PI.jmp,⟨oo+8*slots,eE⟩,slots⟩) /\
   (yg mN fN o.1=eE->bodyLJ mN fN s slots f ⟨oo+8*p,eE⟩ p (acc.map (toJ mN fN)) (posL 0 acc) (acc.map PI.jmp)=ez))
 |0,p,acc,st,h,hp,_,_,_,_=>by omega
 |f+1,p,acc,st,h,hp,hN,hs,hS,hO=>by
  by_cases hlt:p<slots
  ·have hI:=KG hm0 hf0 s (oo+8*p) (8*(slots-p)) (by omega) (by omega)
   have hdt:(((BL s).drop oo).take (8*slots)).drop (p*8)=((BL s).drop (oo+8*p)).take (8*(slots-p)):=by
    rw[List.drop_take,ar];congr 1
    ·omega
    ·congr 1;omega
   rw[codeL,iP9 hlt,hdt,bodyLJ,iP9 hlt];generalize(BL s).drop (oo+8*p)=l at *;cases hfr:gp (l.take (8*(slots-p)))with
   |none =>
    refine⟨λ_ b hb=>?_,λo ho=>by cases ho⟩;rcases hI.no hfr with h1|h1 |⟨hm,h1⟩
    ·rw[iP9 (.inl h1)]at hb;cases hb
    ·rw[iP9 (.inr h1)]at hb;cases hb
    ·split at hb
     ·cases hb
     ·split at hb
      ·cases hb
      ·rename_i i hi
       rw[h1 i hi]at hb;cases f with
       |zero=>cases hb
       |succ f =>
        rw[bodyLJ,iN9 (by omega)]at hb;cases hb;show p+2≠slots
        omega
   |some x =>
    obtain⟨g1,g2,g3,g4,g5,g6,g7,g8,g9,g10,g11,g12,g13,g14⟩:=hI.yes x hfr;have hxO:x.Ok:=⟨g1,g9,g10,g11,g12,g13,g14⟩
    have hsl:=hxO.slots;simp only;rw[iN9 (by rw[g4,g5];rintro(h|h)<;>cases h),g7];rw[aaC];cases hno:NA mN fN x with
    |false =>
     rw[iN9 (by decide)];refine⟨λ_ b hb=>(by cases hb),λo ho=>?_⟩;obtain⟨k,hk⟩:=Fg _ _ _ _ _ _ _ ho;have hbad:yg mN fN o.1=eE:=by rw[hk];simp[yg,hno]
     exact⟨λh=>(by rw[hbad]at h;cases h),λ_=>rfl⟩
    |true =>
     rw[iP9 rfl];simp only;rw[show dH (toJ mN fN x).word=x.o.slots from(hxO.word _).1,g5,g6];have e:oo+8*p+8*x.o.slots=oo+8*(p+x.o.slots):=by omega
     rw[e]
     have IH:=FO hm0 hf0 s oo slots hsz f (p+x.o.slots) (acc++[x]) (st.set p eJ) (by omega) (by omega) (by simp only[yg,List.all_append,an]at hN ⊢;exact⟨hN,by simp[hno]⟩) (by rw[Dv];simp[aL]at hs ⊢;omega) (by rw[hs];exact hS.step x (by omega)) (λy hy=>by
      rcases List.mem_append.1 hy with hy|hy
      ·exact hO y hy
      ·rw[List.mem_singleton.1 hy];exact⟨hxO,g8⟩)
     have e2:posL 0 (acc++[x])=posL 0 acc++[(p:Int)]:=by rw[Dw];simp[posL,hs]
     rw[e2,List.map_append,List.map_append]at IH;exact IH
  ·have hpe:p=slots:=by omega
   subst hpe;rw[codeL,iN9 (by omega),bodyLJ,iN9 (by omega)];refine⟨λh=>(by cases h),λo ho=>?_⟩;cases ho;exact⟨λ_=>rfl,λh=>(by rw[hN]at h;cases h)⟩
set_option linter.all false
theorem KH(XH:PI->tBA)(st:List Bool)(l0:List PI)(n:Nat)(hS:r9 st l0 n)(hn:aL l0=n)(hO:∀x∈l0,0<x.o.slots):∀(rest:List PI) (p:Nat) (done:List aK) (lab:PL),(∀x∈rest,x.Ok) -> (labG (posL 0 l0) done (nz (rest.map (λx=>x.GD (XH x))) (posL p rest) (rest.map PI.jmp)) lab).isSome=leadP st p rest
 |[],p,done,lab,_=>by simp[nz,labG,leadP]
 |x::rest,p,done,lab,hR=>by
  have hx:=hR x (by simp);have hw:=hx.word (XH x);have IH:=λdone lab=>KH XH st l0 n hS hn hO rest (p+x.o.slots) done lab (λy hy=>hR y (ao _ hy));have e:nz ((x::rest).map (λx=>x.GD (XH x))) (posL p (x::rest)) ((x::rest).map PI.jmp)=(x.GD (XH x),(p:Int),x.jmp)::nz (rest.map (λx=>x.GD (XH x))) (posL (p+x.o.slots) rest) (rest.map PI.jmp):=rfl;rw[e,labG,leadP];cases hj:x.o.jumps with
  |true =>
   have acj:=hw.2.2.2 hj;rw[iP9 acj,show dH (x.GD (XH x)).word=x.o.slots from hw.1,Wf hx hj];have ht:(p:Int)+x.o.slots+x.jump=x.target p:=rfl;rw[ht];simp only[if_true];have hm:=MB hS hn hO (x.target p);by_cases hin:x.target p∈posL 0 l0
   ·rw[iP9 hin,IH,hm.1 hin,cw]
   ·rw[iN9 hin]
    have:(eS (0<=x.target p)&&st[(x.target p).toNat]?.getD eE)=eE:=by
     rcases bK (eS (0<=x.target p)&&st[(x.target p).toNat]?.getD eE)with h|h
     ·exact absurd (hm.2 h) hin
     ·exact h
    rw[this,cb];rfl
  |false =>
   have acj:aF (x.GD (XH x)).word≠106:=λh=>by rw[hw.2.2.1 h]at hj;cases hj
   rw[iN9 acj,IH];simp
theorem S9{mN fN:List tBA}(s:tBA)(p:Nat)(i:aK)(hok:(bu s ⟨p,eE⟩).ok=eJ)(hb:(bu s ⟨p,eE⟩).r.bad=eE)(hi:jq mN fN (bu s ⟨p,eE⟩)=eC i):(bu s ⟨p,eE⟩).r=⟨p+8*dH i.word,eE⟩/\p+8*dH i.word<=s.size:=by
 by_cases h8:p+8<=s.size
 ·have hM:=NY s p h8;split at hM
  ·rw[hM]at hok;cases hok
  ·generalize(aB (dW ((BL s).drop p)).op).1=v at *;generalize dW ((BL s).drop p)=x at *;have hword:=xZ hi;rw[hM]at hword hb ⊢;by_cases NB:aF v.word=119
   ·have hr:(fK v x (aI s ⟨p+8,eE⟩).1 (aI s ⟨p+8,eE⟩).2.bad ⟨p+8,eE⟩ (aI s ⟨p+8,eE⟩).2).r=(aI s ⟨p+8,eE⟩).2/\(fK v x (aI s ⟨p+8,eE⟩).1 (aI s ⟨p+8,eE⟩).2.bad ⟨p+8,eE⟩ (aI s ⟨p+8,eE⟩).2).i.word=v.word:=by simp only[fK,NB];rw[iN9 (by decide),iN9 (by decide),iN9 (by decide),iP9 (by trivial)];split<;>simp[aM]
    rw[hr.1]at hb ⊢;rw[hword,hr.2,Wg _ NB];have:p+16<=s.size:=by refine Classical.byContradiction λhn=>?_;rw[Gz s (p+8) (by omega)]at hb;cases hb
    rw[Lx s (p+8) (by omega)];simp[dH];omega
   ·have hr:(fK v x (aI s ⟨p+8,eE⟩).1 (aI s ⟨p+8,eE⟩).2.bad ⟨p+8,eE⟩ (aI s ⟨p+8,eE⟩).2).r=⟨p+8,eE⟩/\aF (fK v x (aI s ⟨p+8,eE⟩).1 (aI s ⟨p+8,eE⟩).2.bad ⟨p+8,eE⟩ (aI s ⟨p+8,eE⟩).2).i.word≠119:=by
     unfold fK;dsimp only;split
     ·exact⟨rfl,NB⟩
     split
     ·exact⟨rfl,NB⟩
     split
     ·exact⟨rfl,NB⟩
     split
     ·split
      ·refine⟨rfl,?_⟩;dsimp only;rw[QW];decide
      ·exact⟨rfl,NB⟩
     ·exact⟨rfl,NB⟩
    rw[hr.1,hword,Wh _ hr.2];exact⟨rfl,by omega⟩
 ·exfalso;have:(bu s ⟨p,eE⟩).ok=eE:=by unfold bu;rw[iP9 (.inr (.inl (Gz s p (by omega))))]
  rw[this]at hok;cases hok
theorem Bp{mN fN:List tBA}(s:tBA)(slots:Nat):∀(f p pos:Nat) (ls:List aK) (ats js:List Int) (b:YE),pos<=s.size->bodyLJ mN fN s slots f ⟨pos,eE⟩ p ls ats js=eC b->b.r.pos+8*p=pos+8*b.pos/\b.r.pos<=s.size/\p<=b.pos
 |0,_,_,_,_,_,_,_,h=>by cases h
 |f+1,p,pos,ls,ats,js,b,hp,h=>by
  rw[bodyLJ]at h;split at h
  ·split at h
   ·cases h
   ·rename_i hno
    split at h
    ·cases h
    ·rename_i i hi
     have hok:(bu s ⟨pos,eE⟩).ok=eJ:=by
      rcases bK (bu s ⟨pos,eE⟩).ok with e|e
      ·exact e
      ·exact absurd (.inl e) hno
     have hb:(bu s ⟨pos,eE⟩).r.bad=eE:=by
      rcases bK (bu s ⟨pos,eE⟩).r.bad with e|e
      ·exact absurd (.inr e) hno
      ·exact e
     obtain⟨h1,h2⟩:=S9 s pos i hok hb hi;rw[h1]at h;have:=Bp s slots f _ _ _ _ _ b h2 h;omega
  ·cases h;exact⟨rfl,hp,Nat.le_refl _⟩
theorem Ta(XH:PI->tBA)(l:List PI)(h:∀x∈l,x.Ok):pX (l.map (λx=>x.GD (XH x)))=qd l:=by
 unfold pX qd;rw[List.getLast?_map];cases hl:l.getLast? with
 |none=>rfl
 |some x=>exact((h x (List.mem_of_getLast? hl)).word (XH x)).2.1
theorem Tc{mN fN:List tBA}(hm0:ee mN<=1000)(hf0:ee fN<=1000)(s:tBA)(slots:Nat)(r:RS)(q:PR)(hS:yR s r q)(hq:q.bad=eE):((codeP (aR (slots*8) q).1 (aR (slots*8) q).2).2.bad=eE->yg mN fN (codeP (aR (slots*8) q).1 (aR (slots*8) q).2).1=eJ ->
   ∃o,bodyMJ mN fN s slots r=eC o/\yR s o (codeP (aR (slots*8) q).1 (aR (slots*8) q).2).2) /\
  ((codeP (aR (slots*8) q).1 (aR (slots*8) q).2).2.bad=eE->(∃r',yR s r' (codeP (aR (slots*8) q).1 (aR (slots*8) q).2).2)/\∀x∈(codeP (aR (slots*8) q).1 (aR (slots*8) q).2).1,x.Ok) /\
  ((codeP (aR (slots*8) q).1 (aR (slots*8) q).2).2.bad=eJ\/yg mN fN (codeP (aR (slots*8) q).1 (aR (slots*8) q).2).1=eE->bodyMJ mN fN s slots r=ez):=by
 obtain⟨hr1,hr2⟩:=hS.good hq;have hrb:=hS.1.trans hq;obtain⟨pos,agc⟩:=r;simp only at hr1 hr2 hrb;subst hrb;have hlen:ee q.rest=s.size-pos:=by rw[hr1,bt,dO]
 by_cases hshort:ee q.rest<slots*8
 ·have ht:(aR (slots*8) q).2.bad=eJ:=by simp[aR,hshort]
  have hb:=JS (aR (slots*8) q).1 _ ht;refine⟨λh=>(by rw[hb]at h;cases h),λh=>(by rw[hb]at h;cases h),λ_=>?_⟩;unfold bodyMJ;split
  ·rfl
  ·rename_i b hbl
   have:=Bp s slots _ _ _ _ _ _ b hr2 hbl;rw[iP9 (.inl (by omega))]
 ·have ht:aR (slots*8) q=(((BL s).drop pos).take (8*slots),⟨(BL s).drop (pos+8*slots),eE⟩):=by unfold aR;rw[iN9 hshort,hq,hr1,ar,Nat.mul_comm slots 8]
  rw[ht];have hn:ee (((BL s).drop pos).take (8*slots))/8=slots:=by rw[b5,bt,dO];omega
  unfold codeP;rw[hn];have hS0:r9 (cj slots eE) [] slots:=⟨by simp,λi hi=>by simp[posL,hi]⟩
  have hsz:pos+8*slots<=s.size:=by omega
  have hC:=FO hm0 hf0 s pos slots hsz (slots+1) 0 [] (cj slots eE) (by omega) (by omega) rfl rfl hS0 (λx hx=>by cases hx);simp only[List.map_nil,posL,Nat.mul_zero,Nat.add_zero]at hC;cases hcl:codeL (((BL s).drop pos).take (8*slots)) slots (slots+1) 0 [] (cj slots eE)with
  |none =>
   refine⟨λh=>(by cases h),λh=>(by cases h),λ_=>?_⟩;unfold bodyMJ;split
   ·rfl
   ·rename_i b hbl
    rw[iP9 (.inl (hC.1 hcl b hbl))]
  |some o =>
   obtain⟨code,st⟩:=o;obtain⟨c1,c2⟩:=hC.2 _ hcl;obtain⟨d1,d2,d3⟩:=FN s pos slots hsz (slots+1) 0 [] _ _ (by omega) (by omega) rfl hS0 (λx hx=>by cases hx) hcl;simp only at c1 c2 d1 d2 d3 ⊢;have hok:=λx hx=>(d3 x hx).1;have hlab:=KH (λx=>if x.aJ≠0 then(AB mN fN x.aJ x.num).getD E0 else T [63]) st code slots d2 d1 (λx hx=>Ry (hok x hx)) code 0 [] [] hok;have hle:=Ta (λx=>if x.aJ≠0 then(AB mN fN x.aJ x.num).getD E0 else T [63]) code hok;have hmp:code.map (toJ mN fN)=code.map (λx=>x.GD (if x.aJ≠0 then(AB mN fN x.aJ x.num).getD E0 else T [63])):=rfl;rw[<-hmp]at hlab hle;refine⟨λhb hN=>?_,λhb=>?_,λh=>?_⟩
   ·obtain⟨hb1,hld⟩:=nE hb;obtain⟨_,hla⟩:=nE hb1;refine⟨⟨pos+8*slots,eE⟩,?_,hb.symm,λ_=>⟨rfl,hsz⟩⟩;unfold bodyMJ;rw[c1 hN];simp only;rw[iN9 (by rw[hle,hla];simp)];rw[hld]at hlab;obtain⟨v,hv⟩:=Option.isSome_iff_exists.1 hlab;rw[hv];rfl
   ·exact⟨⟨⟨pos+8*slots,eE⟩,hb.symm,λ_=>⟨rfl,hsz⟩⟩,hok⟩
   ·unfold bodyMJ;rcases bK (yg mN fN code)with hN|hN
    ·rcases h with h|h
     ·rw[c1 hN];simp only;simp only[az,Bool.or_eq_true,bh]at h;rcases h with(h|h)|h
      ·cases h
      ·rw[iP9 (.inr (by rw[hle];exact h))]
      ·split
       ·rfl
       ·rw[h]at hlab;cases hv:labG (posL 0 code) [] (nz (code.map (toJ mN fN)) (posL 0 code) (code.map PI.jmp)) []with
        |none=>rfl
        |some v=>rw[hv]at hlab;cases hlab
     ·rw[hN]at h;cases h
    ·rw[c2 hN]
set_option linter.all false
def yh(mN fN:List tBA)(fs:List cZ):Bool:=fs.all (λf=>yg mN fN f.code)
theorem codesJ_sim{mN fN:List tBA}(hm0:ee mN<=1000)(hf0:ee fN<=1000)(s:tBA):∀(hs:List bY) (r:RS) (q:PR),yR s r q->q.bad=eE -> ((codesP hs q []).2.bad=eE->yh mN fN (codesP hs q []).1=eJ->∃r',rdBodiesJ mN fN s (hs.map bY.toR) r=eC r'/\yR s r' (codesP hs q []).2) /\ ((codesP hs q []).2.bad=eE->(codesP hs q []).1.map (·.name)=hs.map (·.name)/\∀g∈(codesP hs q []).1,∀x∈g.code,x.Ok) /\ ((codesP hs q []).2.bad=eJ\/yh mN fN (codesP hs q []).1=eE->rdBodiesJ mN fN s (hs.map bY.toR) r=ez)
 |[],r,q,hS,hq=>by
  refine⟨λ_ _=>⟨r,rfl,hS⟩,λ_=>⟨rfl,λg hg=>by cases hg⟩,λh=>?_⟩;rcases h with h|h
  ·rw[show(codesP [] q []).2=q from rfl,hq]at h;cases h
  ·cases h
 |h::hs,r,q,hS,hq=>by
  obtain⟨b1,b2,b3⟩:=Tc hm0 hf0 s h.slots r q hS hq;have e:codesP (h::hs) q []=(⟨h.name,(codeP (aR (h.slots*8) q).1 (aR (h.slots*8) q).2).1⟩::(codesP hs (codeP (aR (h.slots*8) q).1 (aR (h.slots*8) q).2).2 []).1,(codesP hs (codeP (aR (h.slots*8) q).1 (aR (h.slots*8) q).2).2 []).2):=by rw[codesP,Am];rfl
  have e2:rdBodiesJ mN fN s ((h::hs).map bY.toR) r=match bodyMJ mN fN s h.slots r with
   |none=>ez
   |some o=>rdBodiesJ mN fN s (hs.map bY.toR) o:=rfl
  rw[e,e2];generalize codeP (aR (h.slots*8) q).1 (aR (h.slots*8) q).2=c at *;obtain⟨code,q'⟩:=c;simp only at *;rcases bK q'.bad with hb|hb
  ·have hbad:=Fh hs q' [] hb;refine⟨λh=>(by rw[hbad]at h;cases h),λh=>(by rw[hbad]at h;cases h),λ_=>?_⟩;rw[b3 (.inl hb)]
  ·obtain⟨⟨r0,hS0⟩,hok⟩:=b2 hb;have nn:∀fs,yh mN fN (⟨h.name,code⟩::fs)=(yg mN fN code&&yh mN fN fs):=λfs=>rfl;refine⟨λh1 h2=>?_,λh1=>?_,λh1=>?_⟩
   ·rw[nn,an]at h2;obtain⟨o,g1,g2⟩:=b1 hb h2.1;obtain⟨r',k1,k2⟩:=(codesJ_sim hm0 hf0 s hs o q' g2 hb).1 h1 h2.2;rw[g1];exact⟨r',k1,k2⟩
   ·obtain⟨k1,k2⟩:=(codesJ_sim hm0 hf0 s hs r0 q' hS0 hb).2.1 h1;refine⟨by rw[List.map_cons,List.map_cons,k1],λg hg=>?_⟩;rcases List.mem_cons.1 hg with rfl|hg
    ·exact hok
    ·exact k2 g hg
   ·rcases bK (yg mN fN code)with hN|hN
    ·obtain⟨o,g1,g2⟩:=b1 hb hN;rw[g1]
     exact(codesJ_sim hm0 hf0 s hs o q' g2 hb).2.2 (by
      rcases h1 with h1|h1
      ·exact .inl h1
      ·rw[nn,hN,cw]at h1;exact .inr h1)
    ·rw[b3 (.inr hN)]
theorem OW{α:Type}(l:List α)(n:Nat):l[n]?.isSome=eS (n<ee l):=by
 by_cases h:n<ee l
 ·rw[List.getElem?_eq_getElem h,decide_eq_true h];rfl
 ·rw[List.getElem?_eq_none (by omega),decide_eq_false h];rfl
theorem KI(mN fN:List tBA)(rf:Nat)(num:Int):(AB mN fN rf num).isSome=jt num (if rf=2 then ee mN else ee fN):=by
 unfold AB jt;by_cases h:0<=num
 ·rw[iP9 h,decide_eq_true h,cw];split
  ·rw[OW];exact decide_eq_decide.2 (by omega)
  ·rw[OW];exact decide_eq_decide.2 (by omega)
 ·rw[iN9 h,decide_eq_false h,cb];rfl
theorem Td(x:PI)(h:x.Ok):x.aJ=0\/x.aJ=1\/x.aJ=2:=by
 by_cases hr:x.aJ=0
 ·exact .inl hr
 ·rcases(PI.JT h hr).2.2 with h|h
  ·exact .inr (.inr h.1)
  ·exact .inr (.inl h.1)
set_option linter.all false
theorem aaD(m f:Nat)(mN fN:List tBA)(hm:ee mN=m)(hf:ee fN=f)(x:PI)(hx:x.Ok)(r:PR):DB m f x r=az (NA mN fN x) r:=by
 unfold DB NA;rcases Td x hx with h|h|h
 ·rw[h];simp[az]
 ·rw[h,iP9 rfl,iP9 (by decide),KI,iN9 (by decide),hf]
 ·rw[h,iN9 (by decide),iP9 rfl,iP9 (by decide),KI,iP9 rfl,hm]
theorem FP(a b:Bool)(r:PR):az b (az a r)=az (a&&b) r:=by cases a<;>cases b<;>simp[az]
theorem AF(r:PR):az eJ r=r:=by simp[az]
theorem OX(m f:Nat)(mN fN:List tBA)(hm:ee mN=m)(hf:ee fN=f):∀(l:List PI) (r:PR),(∀x∈l,x.Ok)->wu m f l r=az (yg mN fN l) r
 |[],r,_=>by show r=az eJ r;rw[AF]
 |x::l,r,h=>by
  show wu m f l (DB m f x r)=az (NA mN fN x&&yg mN fN l) r
  rw[OX m f mN fN hm hf l _ (λy hy=>h y (ao _ hy)),aaD m f mN fN hm hf x (h x (by simp)),FP]
theorem OY(m f:Nat)(mN fN:List tBA)(hm:ee mN=m)(hf:ee fN=f):∀(l:List cZ) (r:PR),(∀g∈l,∀x∈g.code,x.Ok)->uS m f l r=az (yh mN fN l) r
 |[],r,_=>by show r=az eJ r;rw[AF]
 |g::l,r,h=>by
  show uS m f l (wu m f g.code r)=az (yg mN fN g.code&&yh mN fN l) r
  rw[OY m f mN fN hm hf l _ (λy hy=>h y (ao _ hy)),OX m f mN fN hm hf g.code r (h g (by simp)),FP]
theorem DW(m f:Nat):∀(l:List cZ) (r:PR),r.bad=eJ->(uS m f l r).bad=eJ:=by
 have h1:∀(x:PI) (r:PR),r.bad=eJ->(DB m f x r).bad=eJ:=λx r h=>by
  unfold DB;split
  ·exact dh _ _ h
  ·split
   ·exact dh _ _ h
   ·exact h
 have h2:∀(l:List PI) (r:PR),r.bad=eJ->(wu m f l r).bad=eJ:=by
  intro l;induction l with
  |nil=>exact λr h=>h
  |cons x l ih=>exact λr h=>ih _ (h1 x r h)
 intro l;induction l with
 |nil=>exact λr h=>h
 |cons g l ih=>exact λr h=>ih _ (h2 g.code r h)
def gQ(s:tBA)(ms:List dE)(r:RS):Option (List dE×List jR) :=
 fM s ms (rdFns s (rb s r).1 (rb s r).2 [] 0).1 (rdFns s (rb s r).1 (rb s r).2 [] 0).2.1 (rdFns s (rb s r).1 (rb s r).2 [] 0).2.2
theorem vg(s:tBA)(ms:List dE)(r:RS)(h:r.bad=eJ):gQ s ms r=ez:=by unfold gQ fM;have hb:=rD s r h;rw[zS s _ _ _ _ hb,iP9 (.inl hb)]
theorem zy(s:tBA)(ms:List dE)(r:RS)(h:mapsR ez ms=eE\/8<ee ms):gQ s ms r=ez:=by
 unfold gQ fM
 have hr:∀fs,gx ms fs=eE:=by
  intro fs;unfold gx;rcases h with h|h
  ·simp[h]
  ·have:eS (ee ms<=8)=eE:=by simp;omega
   simp[this]
 rw[iP9 (.inr (.inl (hr _)))]
structure OZ(ms:List aW)(fs:List cZ)(o:List dE×List jR):Prop where
 me:o.1=ms.map aW.toR
 nm:o.2.map (·.name)=fs.map (λf=>T f.name)
theorem behindJ_sim(s:tBA)(ms:List aW)(r:RS)(q:PR)(hS:yR s r q)(_hq:q.bad=eE)(hR:mapsR ez (ms.map aW.toR)=eJ)(h8:ee ms<=8)(g:PR)(hg0:g=uS (ee ms) (ee (dF q).1) (dF q).1 (dF q).2):((az (g.rest==[]) g).bad=eE->∃o,gQ s (ms.map aW.toR) r=eC o/\OZ ms (dF q).1 o) /\ ((az (g.rest==[]) g).bad=eJ->gQ s (ms.map aW.toR) r=ez):=by
 obtain⟨h1,e1⟩:=oI s r q hS;have hrise:∀fs:List jR,gx (ms.map aW.toR) fs=(eS (ee fs<=16)&&namesR ez (fs.map (·.name))):=by intro fs;unfold gx;rw[hR];simp[h8]
 have DX:(dF q).2.bad=eJ->(az (g.rest==[]) g).bad=eJ:=λh=>dh _ _ (by rw[hg0];exact DW _ _ _ _ h);unfold gQ;rcases bK (oneP q).2.bad with hb|hb
 ·-- no number of functions
  have hf:(dF q).2.bad=eJ:=by unfold dF;dsimp only;have:(az (eS ((headsP (oneP q).1 (az (eS ((oneP q).1<=16)) (oneP q).2) [] 0 []).2.1<=200)) (headsP (oneP q).1 (az (eS ((oneP q).1<=16)) (oneP q).2) [] 0 []).2.2).bad=eJ:=dh _ _ (kS _ _ _ _ _ (dh _ _ hb));rw[iP9 this];exact this
  refine⟨λh=>(by rw[DX hf]at h;cases h),λ_=>?_⟩;have hb':=h1.1.trans hb;unfold fM;rw[zS s _ _ _ _ hb',iP9 (.inl hb')]
 ·have hb':=h1.1.trans hb;rw[e1 hb'];generalize hg:dF q=F at *;unfold dF at hg;dsimp only at hg;generalize(rb s r).2=r1 at *;generalize oneP q=c at *;obtain⟨cn,cq⟩:=c;simp only at *;by_cases h16:cn<=16
  ·have aaE:eS (cn<=16)=eJ:=by simp[h16]
   rw[aaE]at hg;obtain⟨a1,a2⟩:=EU s cn r1 (az eJ cq) [] [] [] 0 (h1.want rfl) (by simp[az,hb]) rfl rfl (.inl ⟨rfl,rfl⟩);have hle:=JU cn (az eJ cq) [] 0 [];have hct:=Fj cn (az eJ cq) [] 0 [];generalize headsP cn (az eJ cq) [] 0 []=H at *;obtain⟨hs,all,hq1⟩:=H;have hcnt:=Ao s cn r1 [] 0;generalize rdFns s cn r1 [] 0=D at *;obtain⟨fs,t,r2⟩:=D;simp only at *;rcases bK (az (eS (all<=200)) hq1).bad with hb2|hb2
   ·rw[iP9 hb2]at hg;have hf:F.2.bad=eJ:=by rw[<-hg];exact hb2
    refine⟨λh=>(by rw[DX hf]at h;cases h),λ_=>?_⟩;unfold fM;rw[iP9 ?_];rcases bK hq1.bad with hb3|hb3
    ·rcases a2 hb3 with h|h
     ·exact .inl h
     ·refine .inr (.inl ?_);rw[hrise,h,Bool.and_false]
    ·obtain⟨k1,k2,k3,k4⟩:=a1 hb3;refine .inr (.inr ?_);simp only[az,hb3,Bool.false_or,bh,decide_eq_false_iff_not]at hb2;omega
   ·rw[iN9 (by rw[hb2];decide)]at hg;obtain⟨hb3,hall⟩:=nE hb2;obtain⟨k1,k2,k3,k4⟩:=a1 hb3;have hr2:=k1.1.trans hb3;have hle2:∀h∈hs,h.slots<=200/\nameB h.name=eJ:=λh hh=>by have:=hle hb3 (λx hx=>by cases hx) h hh;simp only[decide_eq_true_eq]at hall;exact⟨by omega,this.2⟩
    have XI:=hcnt hr2
    have hmid:fM s (ms.map aW.toR) fs t r2=match rdBodiesJ ((ms.map aW.toR).map (·.name)) (fs.map (·.name)) s fs r2 with
      |none=>ez
      |some r3=>if r3.bad=eE/\r3.pos=s.size then eC (ms.map aW.toR,fs)else ez:=by
     have hcond:¬(r2.bad=eJ\/gx (ms.map aW.toR) fs=eE\/200<t):=by
      rw[hrise,k4];simp only[b9,Nat.zero_add]at XI;have h3:eS (ee fs<=16)=eJ:=by rw[XI];exact aaE
      rw[h3];simp only[decide_eq_true_eq]at hall;rintro(h|h|h)
      ·rw[hr2]at h;cases h
      ·cases h
      ·omega
     unfold fM;rw[iN9 hcond];rfl
    rw[hmid,k2];have hlm:ee ((ms.map aW.toR).map (·.name))=ee ms:=by simp
    have hlf:ee ((hs.map bY.toR).map (·.name))=ee hs:=by simp
    have hfl:ee hs<=16:=by
     have:ee fs=ee hs:=by rw[k2];simp
     simp only[b9,Nat.zero_add]at XI;omega
    obtain⟨c1,c2,c3⟩:=codesJ_sim (mN:=(ms.map aW.toR).map (·.name)) (fN:=(hs.map bY.toR).map (·.name)) (by omega) (by omega) s hs r2 (az (eS (all<=200)) hq1) (k1.want hall) hb2;rw[hg]at c1 c2 c3;obtain⟨ff,fq⟩:=F;simp only at c1 c2 c3 DX hg0 ⊢;rcases bK fq.bad with hb4|hb4
    ·refine⟨λh=>(by rw[DX hb4]at h;cases h),λ_=>?_⟩;rw[c3 (.inl hb4)]
    ·obtain⟨hnm,hok⟩:=c2 hb4
     have afP:ee ff=ee hs:=by
      have:=congrArg List.length hnm
      simpa using this
     rw[OY _ _ _ _ hlm (hlf.trans afP.symm) ff fq hok]at hg0;rcases bK (yh ((ms.map aW.toR).map (·.name)) ((hs.map bY.toR).map (·.name)) ff)with hN|hN
     ·obtain⟨r3,m1,m2⟩:=c1 hb4 hN;rw[hN,AF]at hg0;subst hg0;obtain⟨n1,n2⟩:=m2.good hb4;have n3:=m2.1.trans hb4;rw[m1];simp only;have hiff:r3.pos=s.size↔g.rest=[]:=by rw[n1,List.drop_eq_nil_iff,dO];omega
      by_cases hp:r3.pos=s.size
      ·have hz:=hiff.1 hp;rw[iP9 ⟨n3,hp⟩];refine⟨λ_=>⟨_,rfl,⟨rfl,?_⟩⟩,λh=>?_⟩
       ·show(hs.map bY.toR).map (·.name)=ff.map (λf=>T f.name)
        have:ff.map (λf=>T f.name)=(ff.map (·.name)).map T:=by rw[cx];rfl
        rw[this,hnm,cx,cx];rfl
       ·simp[az,hz,hb4]at h
      ·have hz:¬g.rest=[]:=λh=>hp (hiff.2 h);rw[iN9 (λh=>hp h.2)];refine⟨λh=>?_,λ_=>rfl⟩;exact absurd (by simpa using(nE h).2) hz
     ·rw[hN]at hg0;have hgb:g.bad=eJ:=by rw[hg0];simp[az]
      refine⟨λh=>(by rw[dh _ _ hgb]at h;cases h),λ_=>?_⟩;rw[c3 (.inr hN)]
  ·have aaE:eS (cn<=16)=eE:=by simp;omega
   rw[aaE]at hg;have hf:F.2.bad=eJ:=by have hw:(az (eS ((headsP cn (az eE cq) [] 0 []).2.1<=200)) (headsP cn (az eE cq) [] 0 []).2.2).bad=eJ:=dh _ _ (kS _ _ _ _ _ (by simp[az]));rw[iP9 hw]at hg;rw[<-hg];exact hw
   refine⟨λh=>(by rw[DX hf]at h;cases h),λ_=>?_⟩;unfold fM;rw[iP9 ?_];rcases bK (rdFns s cn r1 [] 0).2.2.bad with hb3|hb3
   ·exact .inl hb3
   ·refine .inr (.inl ?_);rw[hrise];have:=Ao s cn r1 [] 0 hb3;have h3:eS (ee (rdFns s cn r1 [] 0).1<=16)=eE:=by rw[this];simp;omega
    rw[h3,cb]
theorem NC(s:tBA)(h:5<=s.size):s.extract 0 5=FJ↔((BL s).take 4=[83,80,79,76]/\at' (BL s) 4=2):=by
 have e:s.extract 0 5=T ((BL s).take 5):=by
  have:(s.extract 0 5).data.toList=(BL s).take 5:=by rw[ByteArray.data_extract,Array.toList_extract,List.extract_eq_take_drop];simp[BL]
  rw[<-this];rfl
 have e5:(BL s).take 5=(BL s).take 4++[(BL s)[4]'(by rw[dO];omega)]:=by rw[List.take_succ_eq_append_getElem (by rw[dO];omega)]
 have ea:at' (BL s) 4=((BL s)[4]'(by rw[dO];omega)).toNat:=by unfold at';rw[List.getElem?_eq_getElem (by rw[dO];omega)];rfl
 rw[e,e5,ea];generalize(BL s)[4]'(by rw[dO];omega)=b;generalize hl:(BL s).take 4=l;have hl4:ee l=4:=by rw[<-hl,b5,dO];omega
 constructor
 ·intro h;have h2:l++[b]=[83,80,79,76]++[2]:=adm h;obtain⟨h3,h4⟩:=List.append_inj h2 (by rw[hl4];rfl);exact⟨h3,by rw[List.cons.inj h4 |>.1];rfl⟩
 ·rintro⟨h1,h2⟩;have:b=2:=UInt8.toNat_inj.1 (by rw[h2];rfl);rw[h1,this];rfl
theorem Te(s:tBA):gq s=if s.size<5\/s.extract 0 5≠FJ then ez else gQ s (rdMaps s (rb s ⟨5,eE⟩).1 (rb s ⟨5,eE⟩).2 []).1 (rdMaps s (rb s ⟨5,eE⟩).1 (rb s ⟨5,eE⟩).2 []).2:=rfl
def pq(q:PR):List aW×List cZ×PR :=
 let c:=oneP q
 let m:=mapsP c.1 (az (eS (c.1<=8)) c.2) [] []
 let f:=dF m.2
 let g:=uS (ee m.1) (ee f.1) f.1 f.2
 (m.1,f.1,az (g.rest==[]) g)
theorem ND(l:tLB):bQ l=pq (az (eS ((oneP (az ((aR 4 ⟨l,eE⟩).1==[83,80,79,76]) (aR 4 ⟨l,eE⟩).2)).1=2)) (oneP (az ((aR 4 ⟨l,eE⟩).1==[83,80,79,76]) (aR 4 ⟨l,eE⟩).2)).2):=rfl
theorem DY(q:PR)(h:q.bad=eJ):(pq q).2.2.bad=eJ:=by unfold pq;exact dh _ _ (DW _ _ _ _ (Fl _ (nG _ _ _ _ (dh _ _ (rE _ h)))))
theorem AJ(ms:List aW)(mq:PR)(c:Bool)(h:mq.bad=eJ):¬(az c (uS (ee ms) (ee (dF mq).1) (dF mq).1 (dF mq).2)).bad=eE:=by rw[dh _ _ (DW _ _ _ _ (Fl _ h))];decide
theorem KJ(s:tBA):((bQ (BL s)).2.2.bad=eE->∃o,gq s=eC o/\OZ (bQ (BL s)).1 (bQ (BL s)).2.1 o)/\((bQ (BL s)).2.2.bad=eJ->gq s=ez):=by
 rw[Te,ND];by_cases h5:s.size<5
 ·rw[iP9 (.inl h5)]
  have hbad:(az (eS ((oneP (az ((aR 4 ⟨BL s,eE⟩).1==[83,80,79,76]) (aR 4 ⟨BL s,eE⟩).2)).1=2)) (oneP (az ((aR 4 ⟨BL s,eE⟩).1==[83,80,79,76]) (aR 4 ⟨BL s,eE⟩).2)).2).bad=eJ:=by
   refine dh _ _ ?_;by_cases h4:s.size<4
   ·exact rE _ (dh _ _ (by simp[aR,dO,h4]))
   ·have h0:(az ((aR 4 ⟨BL s,eE⟩).1==[83,80,79,76]) (aR 4 ⟨BL s,eE⟩).2).rest=[]:=by
     have:(aR 4 ⟨BL s,eE⟩).2.rest=(BL s).drop 4:=by simp[aR,dO,h4]
     show(aR 4 ⟨BL s,eE⟩).2.rest=[]
     rw[this,List.drop_eq_nil_of_le (by rw[dO];omega)]
    unfold oneP;rw[h0]
  have hb:=DY _ hbad;exact⟨λh=>(by rw[hb]at h;cases h),λ_=>rfl⟩
 ·have ht:aR 4 ⟨BL s,eE⟩=((BL s).take 4,⟨(BL s).drop 4,eE⟩):=by unfold aR;rw[iN9 (by simp only[dO];omega)]
  rw[ht];simp only;have hd:(BL s).drop 4=(BL s)[4]'(by rw[dO];omega)::(BL s).drop 5:=by rw[List.drop_eq_getElem_cons (by rw[dO];omega)]
  have ho:∀c,oneP (az c ⟨(BL s).drop 4,eE⟩)=(at' (BL s) 4,⟨(BL s).drop 5,!c⟩):=by
   intro c;have ea:at' (BL s) 4=((BL s)[4]'(by rw[dO];omega)).toNat:=by unfold at';rw[List.getElem?_eq_getElem (by rw[dO];omega)];rfl
   simp only[oneP,az,hd,ea,Bool.false_or]
  rw[ho];simp only;have hh:=NC s (by omega);by_cases hc:(BL s).take 4=[83,80,79,76]/\at' (BL s) 4=2
  ·rw[iN9 (by rintro(h|h);exact h5 h;exact h (hh.2 hc))];have hq:az (eS (at' (BL s) 4=2)) ⟨(BL s).drop 5,!((BL s).take 4==[83,80,79,76])⟩=⟨(BL s).drop 5,eE⟩:=by simp[az,hc.1,hc.2]
   rw[hq];have hS:yR s ⟨5,eE⟩ ⟨(BL s).drop 5,eE⟩:=⟨rfl,λ_=>⟨rfl,by show 5<=s.size;omega⟩⟩
   obtain⟨h1,e1⟩:=oI s _ _ hS;unfold pq;dsimp only;rcases bK (oneP ⟨(BL s).drop 5,eE⟩).2.bad with hb|hb
   ·have hbad:∀c k,(mapsP k (az c (oneP ⟨(BL s).drop 5,eE⟩).2) [] []).2.bad=eJ:=λc k=>nG _ _ _ _ (dh _ _ hb);refine⟨λh=>?_,λ_=>?_⟩
    ·exact absurd h (AJ _ _ _ (hbad _ _))
    ·have hb':=h1.1.trans hb;rw[Cx s _ _ _ hb'];exact vg s _ _ hb'
   ·have hb':=h1.1.trans hb;rw[e1 hb'];generalize(rb s ⟨5,eE⟩).2=r1 at *;generalize oneP ⟨(BL s).drop 5,eE⟩=c at *;obtain⟨cn,cq⟩:=c;simp only at *;by_cases h8:cn<=8
    ·have hd8:eS (cn<=8)=eJ:=by simp[h8]
     rw[hd8];obtain⟨a1,a2⟩:=I8 s cn r1 (az eJ cq) [] [] [] (h1.want rfl) (by simp[az,hb]) rfl rfl (.inl ⟨rfl,rfl⟩);have hcnt:=xS s cn r1 [];generalize mapsP cn (az eJ cq) [] []=M at *;obtain⟨ms,mq⟩:=M;generalize rdMaps s cn r1 []=D at *;obtain⟨ds,dr⟩:=D;simp only at *;rcases bK mq.bad with hb2|hb2
     ·refine⟨λh=>?_,λ_=>?_⟩
      ·exact absurd h (AJ _ _ _ hb2)
      ·rcases a2 hb2 with h|h
       ·exact vg s _ _ h
       ·exact zy s _ _ (.inl h)
     ·obtain⟨k1,k2,k3⟩:=a1 hb2;subst k2;have hl:=hcnt (k1.1.trans hb2);simp only[b9,List.length_map]at hl;exact behindJ_sim s ms dr mq k1 hb2 k3 (by omega) _ rfl
    ·have hd8:eS (cn<=8)=eE:=by simp;omega
     rw[hd8];have hbad:(mapsP cn (az eE cq) [] []).2.bad=eJ:=nG _ _ _ _ (by simp[az]);refine⟨λh=>?_,λ_=>?_⟩
     ·exact absurd h (AJ _ _ _ hbad)
     ·rcases bK (rdMaps s cn r1 []).2.bad with hb3|hb3
      ·exact vg s _ _ hb3
      ·refine zy s _ _ (.inr ?_);rw[xS s cn r1 [] hb3];simp;omega
  ·rw[iP9 (.inr (λh=>hc (hh.1 h)))]
   have hq:(az (eS (at' (BL s) 4=2)) ⟨(BL s).drop 5,!((BL s).take 4==[83,80,79,76])⟩).bad=eJ:=by
    simp only[az,Bool.or_eq_true,bh,decide_eq_false_iff_not,beq_eq_false_iff_ne];refine Classical.byContradiction λhn=>hc ?_;simp only[not_or,Classical.not_not]at hn
    simpa using hn
   have hb:=DY _ hq;exact⟨λh=>(by rw[hb]at h;cases h),λ_=>rfl⟩
