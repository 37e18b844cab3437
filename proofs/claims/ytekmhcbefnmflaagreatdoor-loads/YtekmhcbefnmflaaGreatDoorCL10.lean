import Derived.Test.YtekmhcbefnmflaaGreatDoorCL07
namespace Go.Proofs.YtekmhcbefnmflaaGreatDoor
open Go.RowKit Tryz
open Nat renaming le_refl->ab,lt_or_ge->an
open Bool renaming true->eJ,false->eE
open Decidable renaming decide->eS
open Ending renaming returned->fR
open Option renaming none->ez
open Value renaming tuple->gb,agg->fW,bool->fS
open _root_.Go renaming Calls->fL,bodyPost_ret->iz,undef->kh,maxLen->fX
set_option linter.all false
set_option maxRecDepth 100000
set_option maxHeartbeats 2000000
theorem aa8(op l:Nat)(w:tW)(hop:(op:Int)=(l:Int)+96)(hl1:0<l)(hl:l<12)(HM:af (aB op=({word:=fH[l]?.getD E0,s:=-1},eJ))):fL prog 169 #[vI op] w λe w'=>e=fR (gb #[fW (aB op).1.cells,fS (aB op).2])/\aa ah w w':=by
 obtain rfl:op=l+96:=by omega
 clear hop;go_in;go_wp2_with fail;refine(qE _).mono ?_;rintro e w1 ⟨rfl,b1,m1⟩;have hc:=jM b1 (k:=l) (by show l<12;omega);simp at hc;obtain⟨hz,hx⟩:=Iw m1 (λ_ _ e=>e);obtain⟨x0,x1,x2,x3,x4,x5,x6,x7⟩:=hx.aO;obtain⟨z0,z1,z2,z3,z4,z5,z6,z7⟩:=hz.aO;have fx:=hx.frozen;have fz:=hz.frozen;have M1:=(aq.alloc _).trans m1;clear m1 b1;go_wp2;refine iz (aw results169 _ _ w.heap.size 197 _ (0,0) _ _ rfl rfl (ak.dI ((hz.setOther (a:=⟨w.heap.size+1,0,ez⟩) (by simp) _).setOther (a:=⟨w.heap.size+1,3,ez⟩) (by simp) _) _ _ _ _ _ _ _ _) underlying197 rfl (by kernel_rfl)) rfl ⟨?_,((M1.bJ (a:=⟨w.heap.size+1,0,ez⟩) (by simp) _).bJ (a:=⟨w.heap.size+1,3,ez⟩) (by simp) _).dI (.inr (ab _)) _ _ _ _ _ _ _ _⟩;rw[HM.o];rfl
theorem aa9(op:Nat)(w:tW)(h:op=192\/op=193\/op=194):fL prog 169 #[vI op] w λe w'=>e=fR (gb #[fW (aB op).1.cells,fS (aB op).2])/\aa ah w w':=by
 rcases h with rfl|rfl|rfl
 all_goals
  go_in;go_wp2;refine iz (aw results169 _ _ w.heap.size 197 _ (0,0) _ _ rfl rfl ((ak.new w _ _).alloc _) underlying197 rfl (by kernel_rfl)) rfl ⟨rfl,aq.alloc _⟩
theorem aba(op:Nat)(w:tW)(h:op=128\/op=129\/op=130\/op=131\/op=132\/op=133):fL prog 169 #[vI op] w λe w'=>e=fR (gb #[fW (aB op).1.cells,fS (aB op).2])/\aa ah w w':=by
 rcases h with rfl|rfl|rfl|rfl|rfl|rfl
 all_goals
  go_in;go_wp2;refine iz (aw results169 _ _ w.heap.size 197 _ (0,0) _ _ rfl rfl (((ak.new w _ _).alloc _).alloc _) underlying197 rfl (by kernel_rfl)) rfl ⟨rfl,(aq.alloc _).alloc _⟩
theorem Yx(op:Nat)(w:tW)(h:op=134\/op=135\/op=136\/op=137\/op=138\/op=139):fL prog 169 #[vI op] w λe w'=>e=fR (gb #[fW (aB op).1.cells,fS (aB op).2])/\aa ah w w':=by
 rcases h with rfl|rfl|rfl|rfl|rfl|rfl
 all_goals
  go_in;go_wp2;refine iz (aw results169 _ _ w.heap.size 197 _ (0,0) _ _ rfl rfl (((ak.new w _ _).alloc _).alloc _) underlying197 rfl (by kernel_rfl)) rfl ⟨rfl,(aq.alloc _).alloc _⟩
theorem PD(op:Nat)(w:tW)(h1:((op:Int)<64/\((op:Int)%16=0\/13<(op:Int)%16\/((op:Int)%16=13/\32<=(op:Int))))\/(76<=(op:Int)/\(op:Int)<=96)\/(108<=(op:Int)/\(op:Int)<128)\/(140<=(op:Int)/\(op:Int)<192)\/(194<(op:Int)))(h2:op<=255)(HM:af (aB op=({},eE))):fL prog 169 #[vI op] w λe w'=>e=fR (gb #[fW (aB op).1.cells,fS (aB op).2])/\aa ah w w':=by
 have hb:(op:Int)<=255:=by omega
 rcases h1 with⟨h1,h3|h3 |⟨h3,h4⟩⟩ |⟨h1,h3⟩ |⟨h1,h3⟩ |⟨h1,h3⟩|h1
 all_goals
  go_in;go_wp2;refine iz (aw results169 _ _ w.heap.size 197 _ (0,0) _ _ rfl rfl ((ak.new w _ _).alloc _) underlying197 rfl (by kernel_rfl)) rfl ⟨?_,aq.alloc _⟩;rw[HM.o];rfl
theorem dN(op:Nat)(w:tW)(h:op<=255):fL prog 169 #[vI op] w λe w'=>e=fR (gb #[fW (aB op).1.cells,fS (aB op).2])/\aa ah w w':=by
 by_cases c1:op<64/\1<=op%16/\op%16<=13/\(op%16<13\/op<32)
 ·exact aa4 op (op%16-1) w (by omega) (by omega) (by omega) (by omega) (by rw[af,aB,iP9 c1])
 ·by_cases c2:64<=op/\op<76
  ·exact aa5 op (op-64) w (by omega) (by omega) (by rw[af,aB,iN9 c1,iP9 c2])
  ·by_cases c3:96<op/\op<108
   ·exact aa8 op (op-96) w (by omega) (by omega) (by omega) (by rw[af,aB,iN9 c1,iN9 c2,iP9 c3])
   ·by_cases c4:128<=op/\op<140
    ·by_cases c5:op<134
     ·exact aba op w (by omega)
     ·exact Yx op w (by omega)
    ·by_cases c6:op=192\/op=193\/op=194
     ·exact aa9 op w c6
     ·exact PD op w (by omega) h (by rw[af,aB,iN9 c1,iN9 c2,iN9 c3,iN9 c4,iN9 (λe=>c6 (.inl e)),iN9 (λe=>c6 (.inr (.inl e))),iN9 (λe=>c6 (.inr (.inr e)))])
structure ep where
 i:aK
 jump:Int
 num:Int
 ok:Bool
 r:RS
def ep.val(x:ep):Value:=gb #[fW x.i.cells,vI x.jump,vU x.num,fS x.ok]
def aM(i:aK)(x:fF):aK:={i with d:=x.d,s:=if i.s<0 then i.s else x.s,n:=x.n}
def NEG:tBA:=T [110,101,103]
def JA:tBA:=T [106,97]
def bu(s:tBA)(r:RS):ep :=
 let x:=(aI s r).1;let r1:=(aI s r).2
 let i:=(aB x.op).1
 if(aB x.op).2=eE\/r1.bad=eJ\/10<x.d\/10<x.s then⟨i,0,0,eE,r1⟩
 else
  let k:=aF i.word
  let b:=eS (i.s<0)
  let j:=aM i x
  if k=114 then⟨j,0,0,!(((x.d:Int)==10)||(x.jump != 0)||(!b&&x.n != 0)||((b||decide (i.word=NEG))&&(x.s:Int) != 0)),r1⟩
  else if k=106 then⟨j,x.jump,0,!((!b&&x.n != 0)||((b||decide (i.word=JA))&&(x.s:Int) != 0)||(eS (i.word=JA)&&(x.d:Int) != 0)),r1⟩
  else if k=108\/k=115 then⟨{j with jump:=x.jump},0,0,!((k==108&&(x.d:Int)==10)||(!b&&x.n != 0)||(b&&(x.s:Int) != 0)),r1⟩
  else if k=119 then
   let y:=(aI s r1).1;let r2:=(aI s r1).2
   let low:=x.n%4294967296
   let n:=IntKind.u64.wrap (low+IntKind.u64.wrap (y.n*4294967296))
   let bad:=r2.bad||((x.d:Int)==10)||decide (1<(x.s:Int))||(x.jump != 0)||((y.op:Int) != 0)||((y.d:Int) != 0)||((y.s:Int) != 0)||(y.jump != 0)||((x.s:Int)==1&&y.n != 0)
   if x.s=1 then⟨{j with n:=0},1,low,!bad,r2⟩else⟨{j with n:=n},0,0,!bad,r2⟩
  else if k=99 then
   if x.s=0/\1<=x.n/\x.n<=4/\x.d=0/\x.jump=0 then⟨{j with n:=0,word:=T [104,101,108,112],label:=lF[x.n.toNat-1]?.getD E0},0,0,eJ,r1⟩
   else⟨{j with n:=0},1,x.n,((x.s:Int)==1)&&((x.d:Int)==0)&&(x.jump==0),r1⟩
  else⟨j,0,0,((x.d:Int)==0)&&((x.s:Int)==0)&&(x.jump==0)&&(x.n==0),r1⟩
theorem fC(s:tBA)(r:RS):(aI s r).1.op<=255/\(aI s r).1.d<=15/\(aI s r).1.s<=15/\-32768<=(aI s r).1.jump/\(aI s r).1.jump<=32767/\0<=(aI s r).1.n/\(aI s r).1.n<=18446744073709551615:=by
 have l1:=ou s r;have l2:=ou s (rb s r).2;have l3:=xe s (rb s (rb s r).2).2;have l4:=TU s (mX s (rb s (rb s r).2).2).2;refine⟨l1,?_,?_,?_,?_,?_,?_⟩
 ·show _%16<=15;omega
 ·show _/16<=15;omega
 ·show _<=tY _;unfold tY;split<;>omega
 ·show tY _<=_;unfold tY;split<;>omega
 ·show _<=yG _;unfold yG;split<;>omega
 ·show yG _<=_;unfold yG;split<;>omega
theorem F7(k:Nat):(jA[k]?.getD E0).size<=16:=by
 rcases an k 13 with h|h
 ·have:k=0\/k=1\/k=2\/k=3\/k=4\/k=5\/k=6\/k=7\/k=8\/k=9\/k=10\/k=11\/k=12:=by omega
  rcases this with rfl|rfl|rfl|rfl|rfl|rfl|rfl|rfl|rfl|rfl|rfl|rfl|rfl<;>decide
 ·have:jA[k]?=ez:=List.getElem?_eq_none (by show 13<=k;exact h);rw[this];decide
theorem wH(k:Nat):(fH[k]?.getD E0).size<=16:=by
 rcases an k 12 with h|h
 ·have:k=0\/k=1\/k=2\/k=3\/k=4\/k=5\/k=6\/k=7\/k=8\/k=9\/k=10\/k=11:=by omega
  rcases this with rfl|rfl|rfl|rfl|rfl|rfl|rfl|rfl|rfl|rfl|rfl|rfl<;>decide
 ·have:fH[k]?=ez:=List.getElem?_eq_none (by show 12<=k;exact h);rw[this];decide
theorem UB(k:Nat):(Pg[k]?.getD E0).size<=16:=by
 rcases an k 12 with h|h
 ·have:k=0\/k=1\/k=2\/k=3\/k=4\/k=5\/k=6\/k=7\/k=8\/k=9\/k=10\/k=11:=by omega
  rcases this with rfl|rfl|rfl|rfl|rfl|rfl|rfl|rfl|rfl|rfl|rfl|rfl<;>decide
 ·have:Pg[k]?=ez:=List.getElem?_eq_none (by show 12<=k;exact h);rw[this];decide
theorem xA{P:aK×Bool->Prop}{c:Prop}[Decidable c]{a b:aK×Bool}(h1:P a)(h2:P b):P (if c then a else b):=by
 split
 ·exact h1
 ·exact h2
def Wsz(x:aK×Bool):Prop:=x.1.word.size<=16
theorem cu(op:Nat):(aB op).1.word.size<=16:=by
 show Wsz (aB op)
 unfold aB;refine xA (F7 _) (xA (wH _) (xA (wH _) (xA (UB (op-128)) (xA ?_ (xA ?_ (xA ?_ ?_))))))
 all_goals (unfold Wsz;dsimp only;decide)
theorem aS{P:Program}{fn:Func}{p u1 u2 u3:Tmp}{ty:TypeId}(h:fn.results=#[.cell p ty,.tmp u1,.tmp u2,.tmp u3])(tmps:tAV)(w:tW)(g:Nat)(t:TypeId)(cs:tAV)(fr:Nat×Nat)(d:TypeDesc)(v1 v2 v3:Value)(hp:tmps.getD p kh=vP g) (hv1:tmps.getD u1 kh=v1) (hv2:tmps.getD u2 kh=v2) (hv3:tmps.getD u3 kh=v3) (hg:w.heap[g]?=some (.cells cs t fr))(hu:P.underlying ty=some d) (hd:(match d with|.struct _|.array _ _=>eJ|_=>eE)=eJ) (hi:(P.info? ty).map (·.size)=some cs.size):(results fn tmps).run P w=.ok (gb #[fW cs,v1,v2,v3]) w:=by
 have hp':tmps[p]?.getD kh=vP g:=by simpa using hp
 have h1':tmps[u1]?.getD kh=v1:=by simpa using hv1
 have h2':tmps[u2]?.getD kh=v2:=by simpa using hv2
 have h3':tmps[u3]?.getD kh=v3:=by simpa using hv3
 simp only[results,h];simp[hp',h1',h2',h3',asAddr,run_loadVar_row w g t ty cs fr d hg hu hd hi]
theorem Yy(b:Nat)(s:tBA)(r:RS)(w:tW)(hs:s.size<=fX)(h:bH w b s r)(hno:(aB (aI s r).1.op).2=eE):fL prog 87 #[vP b] w λe w'=>e=fR (bu s r).val/\bH w' b s (bu s r).r/\aa (Only b) w w':=by
 have hlt:=h.lt;obtain⟨l1,l2,l3,l4,l5,l6,l7⟩:=fC s r;have lw:=cu (aI s r).1.op;have HM:af (bu s r=⟨(aB (aI s r).1.op).1,0,0,eE,(aI s r).2⟩):=by rw[af,bu,iP9 (.inl hno)]
 go_in;go_wp2_with fail;refine(dG b s r _ hs (h.alloc _)).mono ?_;rintro e w1 ⟨rfl,h1,m1⟩;generalize aI s r=q at *;obtain⟨⟨op,d,sr,jump,n⟩,r1⟩:=q;simp only at *;have hz:ak w1 w.heap.size (aK.cells {}) 197:=ak.ae (ak.new w _ _) m1 (by simp[Only];omega);have M1:=aq.trans m1;have hsz:w.heap.size+1<=w1.heap.size:=by have:=m1.size;simpa using this
 clear m1;simp only[fF.val];go_wp2_with fail;refine(dN op _ l1).mono ?_;rintro e w2 ⟨rfl,m2⟩;have h2:bH w2 b s r1:=(ak.alloc h1 _).ae m2 (λe=>e);have hz2:=(hz.alloc _).ae m2 (λe=>e);have hx:ak w2 w1.heap.size (C5 op d sr jump n) 277:=(ak.new w1 _ _).ae m2 (λe=>e);have M2:=(M1.alloc _).trans (m2.of_nil);have hsz2:w1.heap.size+1<=w2.heap.size:=by have:=m2.size;simpa using this
 clear m2 M1 hz h1;generalize aB op=q at *;obtain⟨i,ok⟩:=q;simp only at *;simp only[aK.cells];subst hno;obtain⟨z0,z1,z2,z3,z4,z5,z6,z7⟩:=hz2.aO;have fz:=hz2.frozen;obtain⟨x0,x1,x2,x3,x4⟩:=hx.cells5;have n1:w.heap.size<w2.heap.size:=by omega
 have n2:w1.heap.size<w2.heap.size:=by omega
 have n3:b<w2.heap.size:=by omega
 have n4:b<w1.heap.size:=by omega
 clear hsz hsz2;go_wp2;refine iz (aS results87 _ _ w.heap.size 197 _ (0,0) _ _ _ _ rfl rfl rfl rfl (ak.alloc (ak.dI hz2 _ _ _ _ _ _ _ _) _) underlying197 rfl (by kernel_rfl)) rfl ⟨?_,?_,?_⟩
 ·rw[HM.o];rfl
 ·rw[HM.o];refine ak.alloc ?_ _
  iterate 8 refine ak.setOther ?_ (by simp;omega) _
  exact h2
 ·exact(M2.dI (.inr (ab _)) _ _ _ _ _ _ _ _).alloc _
theorem Yz(b:Nat)(s:tBA)(r:RS)(w:tW)(hs:s.size<=fX)(h:bH w b s r)(hok:(aB (aI s r).1.op).2=eJ)(hno:(aI s r).2.bad=eJ):fL prog 87 #[vP b] w λe w'=>e=fR (bu s r).val/\bH w' b s (bu s r).r/\aa (Only b) w w':=by
 have hlt:=h.lt;obtain⟨l1,l2,l3,l4,l5,l6,l7⟩:=fC s r;have lw:=cu (aI s r).1.op;have HM:af (bu s r=⟨(aB (aI s r).1.op).1,0,0,eE,(aI s r).2⟩):=by rw[af,bu,iP9 (.inr (.inl hno))]
 go_in;go_wp2_with fail;refine(dG b s r _ hs (h.alloc _)).mono ?_;rintro e w1 ⟨rfl,h1,m1⟩;generalize aI s r=q at *;obtain⟨⟨op,d,sr,jump,n⟩,r1⟩:=q;simp only at *;have hz:ak w1 w.heap.size (aK.cells {}) 197:=ak.ae (ak.new w _ _) m1 (by simp[Only];omega);have M1:=aq.trans m1;have hsz:w.heap.size+1<=w1.heap.size:=by have:=m1.size;simpa using this
 clear m1;simp only[fF.val];go_wp2_with fail;refine(dN op _ l1).mono ?_;rintro e w2 ⟨rfl,m2⟩;have h2:bH w2 b s r1:=(ak.alloc h1 _).ae m2 (λe=>e);have hz2:=(hz.alloc _).ae m2 (λe=>e);have hx:ak w2 w1.heap.size (C5 op d sr jump n) 277:=(ak.new w1 _ _).ae m2 (λe=>e);have M2:=(M1.alloc _).trans (m2.of_nil);have hsz2:w1.heap.size+1<=w2.heap.size:=by have:=m2.size;simpa using this
 clear m2 M1 hz h1;generalize aB op=q at *;obtain⟨i,ok⟩:=q;simp only at *;simp only[aK.cells];subst hok;obtain⟨p,bad⟩:=r1;simp only at hno;subst hno;obtain⟨z0,z1,z2,z3,z4,z5,z6,z7⟩:=hz2.aO;have fz:=hz2.frozen;obtain⟨x0,x1,x2,x3,x4⟩:=hx.cells5;have n1:w.heap.size<w2.heap.size:=by omega
 have n2:w1.heap.size<w2.heap.size:=by omega
 have n3:b<w2.heap.size:=by omega
 have n4:b<w1.heap.size:=by omega
 clear hsz hsz2;have r2:=h2.cell 2;simp at r2;go_wp2;refine iz (aS results87 _ _ w.heap.size 197 _ (0,0) _ _ _ _ rfl rfl rfl rfl (ak.alloc (ak.dI hz2 _ _ _ _ _ _ _ _) _) underlying197 rfl (by kernel_rfl)) rfl ⟨?_,?_,?_⟩
 ·rw[HM.o];rfl
 ·rw[HM.o];refine ak.alloc ?_ _
  iterate 8 refine ak.setOther ?_ (by simp;omega) _
  exact h2
 ·exact(M2.dI (.inr (ab _)) _ _ _ _ _ _ _ _).alloc _
theorem YA(b:Nat)(s:tBA)(r:RS)(w:tW)(hs:s.size<=fX)(h:bH w b s r)(hok:(aB (aI s r).1.op).2=eJ)(hb:(aI s r).2.bad=eE)(hno:10<(aI s r).1.d):fL prog 87 #[vP b] w λe w'=>e=fR (bu s r).val/\bH w' b s (bu s r).r/\aa (Only b) w w':=by
 have hlt:=h.lt;obtain⟨l1,l2,l3,l4,l5,l6,l7⟩:=fC s r;have lw:=cu (aI s r).1.op;have HM:af (bu s r=⟨(aB (aI s r).1.op).1,0,0,eE,(aI s r).2⟩):=by rw[af,bu,iP9 (.inr (.inr (.inl hno)))]
 go_in;go_wp2_with fail;refine(dG b s r _ hs (h.alloc _)).mono ?_;rintro e w1 ⟨rfl,h1,m1⟩;generalize aI s r=q at *;obtain⟨⟨op,d,sr,jump,n⟩,r1⟩:=q;simp only at *;have hz:ak w1 w.heap.size (aK.cells {}) 197:=ak.ae (ak.new w _ _) m1 (by simp[Only];omega);have M1:=aq.trans m1;have hsz:w.heap.size+1<=w1.heap.size:=by have:=m1.size;simpa using this
 clear m1;simp only[fF.val];go_wp2_with fail;refine(dN op _ l1).mono ?_;rintro e w2 ⟨rfl,m2⟩;have h2:bH w2 b s r1:=(ak.alloc h1 _).ae m2 (λe=>e);have hz2:=(hz.alloc _).ae m2 (λe=>e);have hx:ak w2 w1.heap.size (C5 op d sr jump n) 277:=(ak.new w1 _ _).ae m2 (λe=>e);have M2:=(M1.alloc _).trans (m2.of_nil);have hsz2:w1.heap.size+1<=w2.heap.size:=by have:=m2.size;simpa using this
 clear m2 M1 hz h1;generalize aB op=q at *;obtain⟨i,ok⟩:=q;simp only at *;simp only[aK.cells];subst hok;obtain⟨p,bad⟩:=r1;simp only at hb;subst hb;obtain⟨z0,z1,z2,z3,z4,z5,z6,z7⟩:=hz2.aO;have fz:=hz2.frozen;obtain⟨x0,x1,x2,x3,x4⟩:=hx.cells5;have n1:w.heap.size<w2.heap.size:=by omega
 have n2:w1.heap.size<w2.heap.size:=by omega
 have n3:b<w2.heap.size:=by omega
 have n4:b<w1.heap.size:=by omega
 clear hsz hsz2;have r2:=h2.cell 2;simp at r2;have hd:(10:Int)<(d:Int):=by omega
 go_wp2;refine iz (aS results87 _ _ w.heap.size 197 _ (0,0) _ _ _ _ rfl rfl rfl rfl (ak.alloc (ak.dI hz2 _ _ _ _ _ _ _ _) _) underlying197 rfl (by kernel_rfl)) rfl ⟨?_,?_,?_⟩
 ·rw[HM.o];rfl
 ·rw[HM.o];refine ak.alloc ?_ _
  iterate 8 refine ak.setOther ?_ (by simp;omega) _
  exact h2
 ·exact(M2.dI (.inr (ab _)) _ _ _ _ _ _ _ _).alloc _
theorem YB(b:Nat)(s:tBA)(r:RS)(w:tW)(hs:s.size<=fX)(h:bH w b s r)(hok:(aB (aI s r).1.op).2=eJ)(hb:(aI s r).2.bad=eE)(hd:(aI s r).1.d<=10)(hno:10<(aI s r).1.s):fL prog 87 #[vP b] w λe w'=>e=fR (bu s r).val/\bH w' b s (bu s r).r/\aa (Only b) w w':=by
 have hlt:=h.lt;obtain⟨l1,l2,l3,l4,l5,l6,l7⟩:=fC s r;have lw:=cu (aI s r).1.op;have HM:af (bu s r=⟨(aB (aI s r).1.op).1,0,0,eE,(aI s r).2⟩):=by rw[af,bu,iP9 (.inr (.inr (.inr hno)))]
 go_in;go_wp2_with fail;refine(dG b s r _ hs (h.alloc _)).mono ?_;rintro e w1 ⟨rfl,h1,m1⟩;generalize aI s r=q at *;obtain⟨⟨op,d,sr,jump,n⟩,r1⟩:=q;simp only at *;have hz:ak w1 w.heap.size (aK.cells {}) 197:=ak.ae (ak.new w _ _) m1 (by simp[Only];omega);have M1:=aq.trans m1;have hsz:w.heap.size+1<=w1.heap.size:=by have:=m1.size;simpa using this
 clear m1;simp only[fF.val];go_wp2_with fail;refine(dN op _ l1).mono ?_;rintro e w2 ⟨rfl,m2⟩;have h2:bH w2 b s r1:=(ak.alloc h1 _).ae m2 (λe=>e);have hz2:=(hz.alloc _).ae m2 (λe=>e);have hx:ak w2 w1.heap.size (C5 op d sr jump n) 277:=(ak.new w1 _ _).ae m2 (λe=>e);have M2:=(M1.alloc _).trans (m2.of_nil);have hsz2:w1.heap.size+1<=w2.heap.size:=by have:=m2.size;simpa using this
 clear m2 M1 hz h1;generalize aB op=q at *;obtain⟨i,ok⟩:=q;simp only at *;simp only[aK.cells];subst hok;obtain⟨p,bad⟩:=r1;simp only at hb;subst hb;obtain⟨z0,z1,z2,z3,z4,z5,z6,z7⟩:=hz2.aO;have fz:=hz2.frozen;obtain⟨x0,x1,x2,x3,x4⟩:=hx.cells5;have n1:w.heap.size<w2.heap.size:=by omega
 have n2:w1.heap.size<w2.heap.size:=by omega
 have n3:b<w2.heap.size:=by omega
 have n4:b<w1.heap.size:=by omega
 clear hsz hsz2;have r2:=h2.cell 2;simp at r2;have hd':eS ((10:Int)<(d:Int))=eE:=decide_eq_false (by omega);have wj:(10:Int)<(sr:Int):=by omega
 go_wp2;refine iz (aS results87 _ _ w.heap.size 197 _ (0,0) _ _ _ _ rfl rfl rfl rfl (ak.alloc (ak.dI hz2 _ _ _ _ _ _ _ _) _) underlying197 rfl (by kernel_rfl)) rfl ⟨?_,?_,?_⟩
 ·rw[HM.o];rfl
 ·rw[HM.o];refine ak.alloc ?_ _
  iterate 8 refine ak.setOther ?_ (by simp;omega) _
  exact h2
 ·exact(M2.dI (.inr (ab _)) _ _ _ _ _ _ _ _).alloc _
def acF(x:aK×Bool):Prop:=x.2=eJ->(aF x.1.word=114)\/(aF x.1.word=106)\/((aF x.1.word=108\/aF x.1.word=115))\/(¬x.1.s<0/\(aF x.1.word=119\/aF x.1.word=99\/aF x.1.word=101))
theorem yL(k:Nat)(h:k<13):aF (jA[k]?.getD E0)=114:=by
 have:k=0\/k=1\/k=2\/k=3\/k=4\/k=5\/k=6\/k=7\/k=8\/k=9\/k=10\/k=11\/k=12:=by omega
 rcases this with rfl|rfl|rfl|rfl|rfl|rfl|rfl|rfl|rfl|rfl|rfl|rfl|rfl<;>decide +kernel
theorem py(k:Nat)(h:k<12):aF (fH[k]?.getD E0)=106:=by
 have:k=0\/k=1\/k=2\/k=3\/k=4\/k=5\/k=6\/k=7\/k=8\/k=9\/k=10\/k=11:=by omega
 rcases this with rfl|rfl|rfl|rfl|rfl|rfl|rfl|rfl|rfl|rfl|rfl|rfl<;>decide +kernel
theorem UC(k:Nat)(h:k<12):aF (Pg[k]?.getD E0)=108\/aF (Pg[k]?.getD E0)=115:=by
 have:k=0\/k=1\/k=2\/k=3\/k=4\/k=5\/k=6\/k=7\/k=8\/k=9\/k=10\/k=11:=by omega
 rcases this with rfl|rfl|rfl|rfl|rfl|rfl|rfl|rfl|rfl|rfl|rfl|rfl<;>decide +kernel
theorem PE:aF (T [119,105,100,101])=119:=by decide +kernel
theorem PG:aF (T [99,97,108,108])=99:=by decide +kernel
theorem PH:aF (T [101,120,105,116])=101:=by decide +kernel
theorem B6(op:Nat):acF (aB op):=by
 by_cases c1:op<64/\1<=op%16/\op%16<=13/\(op%16<13\/op<32)
 ·rw[aB,iP9 c1];exact λ_=>.inl (yL (op%16-1) (by omega))
 rw[aB,iN9 c1];by_cases c2:64<=op/\op<76
 ·rw[iP9 c2];exact λ_=>.inr (.inl (py (op-64) (by omega)))
 rw[iN9 c2];by_cases c3:96<op/\op<108
 ·rw[iP9 c3];exact λ_=>.inr (.inl (py (op-96) (by omega)))
 rw[iN9 c3];by_cases c4:128<=op/\op<140
 ·rw[iP9 c4];exact λ_=>.inr (.inr (.inl (UC (op-128) (by omega))))
 rw[iN9 c4];by_cases c5:op=192
 ·rw[iP9 c5];exact λ_=>.inr (.inr (.inr ⟨by simp,.inl PE⟩))
 rw[iN9 c5];by_cases c6:op=193
 ·rw[iP9 c6];exact λ_=>.inr (.inr (.inr ⟨by simp,.inr (.inl PG)⟩))
 rw[iN9 c6];by_cases c7:op=194
 ·rw[iP9 c7];exact λ_=>.inr (.inr (.inr ⟨by simp,.inr (.inr PH)⟩))
 rw[iN9 c7];exact λh=>by simp at h
theorem abb(b:Nat)(s:tBA)(r:RS)(w:tW)(hs:s.size<=fX)(h:bH w b s r)(hok:(aB (aI s r).1.op).2=eJ)(hb:(aI s r).2.bad=eE)(hd:(aI s r).1.d<=10)(wj:(aI s r).1.s<=10)(hk:aF (aB (aI s r).1.op).1.word=114)(hby:(aB (aI s r).1.op).1.s<0):fL prog 87 #[vP b] w λe w'=>e=fR (bu s r).val/\bH w' b s (bu s r).r/\aa (Only b) w w':=by
 have hlt:=h.lt;obtain⟨l1,l2,l3,l4,l5,l6,l7⟩:=fC s r;have lw:=cu (aI s r).1.op;have HM:af (bu s r=⟨aM (aB (aI s r).1.op).1 (aI s r).1,0,0,!((((aI s r).1.d:Int)==10)||((aI s r).1.jump != 0)||(((aI s r).1.s:Int) != 0)),(aI s r).2⟩):=by rw[af,bu,iN9 (by simp[hok,hb];omega)];simp only[hk];simp[hby]
 go_in;go_wp2_with fail;refine(dG b s r _ hs (h.alloc _)).mono ?_;rintro e w1 ⟨rfl,h1,m1⟩;generalize aI s r=q at *;obtain⟨⟨op,d,sr,jump,n⟩,r1⟩:=q;simp only at *;have hz:ak w1 w.heap.size (aK.cells {}) 197:=ak.ae (ak.new w _ _) m1 (by simp[Only];omega);have M1:=aq.trans m1;have hsz:w.heap.size+1<=w1.heap.size:=by have:=m1.size;simpa using this
 clear m1;simp only[fF.val];go_wp2_with fail;refine(dN op _ l1).mono ?_;rintro e w2 ⟨rfl,m2⟩;have h2:bH w2 b s r1:=(ak.alloc h1 _).ae m2 (λe=>e);have hz2:=(hz.alloc _).ae m2 (λe=>e);have hx:ak w2 w1.heap.size (C5 op d sr jump n) 277:=(ak.new w1 _ _).ae m2 (λe=>e);have M2:=(M1.alloc _).trans (m2.of_nil);have hsz2:w1.heap.size+1<=w2.heap.size:=by have:=m2.size;simpa using this
 clear m2 M1 hz h1;generalize aB op=q at *;obtain⟨i,ok⟩:=q;simp only at *;simp only[aK.cells];subst hok;obtain⟨p,bad⟩:=r1;simp only at hb;subst hb;obtain⟨z0,z1,z2,z3,z4,z5,z6,z7⟩:=hz2.aO;have fz:=hz2.frozen;obtain⟨x0,x1,x2,x3,x4⟩:=hx.cells5;have n0:w.heap.size<w1.heap.size:=by omega
 have n1:w.heap.size<w2.heap.size:=by omega
 have n2:w1.heap.size<w2.heap.size:=by omega
 have n3:b<w2.heap.size:=by omega
 have n4:b<w1.heap.size:=by omega
 clear hsz hsz2;have r2:=h2.cell 2;simp at r2;have hd':eS ((10:Int)<(d:Int))=eE:=decide_eq_false (by omega);have hs':eS ((10:Int)<(sr:Int))=eE:=decide_eq_false (by omega);go_wp2_with fail;refine(eO _ _ (by unfold fX;omega)).mono ?_;rintro e w3 ⟨rfl,m3⟩;have h3:bH w3 b s ⟨p,eE⟩:=(ak.alloc h2 _).ae m3 (λe=>e);have hz3:=(hz2.alloc _).ae m3 (λe=>e);have hx3:=(hx.alloc _).ae m3 (λe=>e);have hi3:ak w3 w2.heap.size (aK.cells {i with d:=d}) 197:=(ak.new w2 _ _).ae m3 (λe=>e);have M3:=(M2.alloc _).trans (m3.of_nil);have n5:=hi3.lt;clear m3 M2 h2 hz2 hx x0 x1 x2 x3 x4 z0 z1 z2 z3 z4 z5 z6 z7 fz r2;obtain⟨z0,z1,z2,z3,z4,z5,z6,z7⟩:=hz3.aO;have fz:=hz3.frozen;obtain⟨x0,x1,x2,x3,x4⟩:=hx3.cells5;obtain⟨i0,i1,i2,i3,i4,i5,i6,i7⟩:=hi3.aO;have fi:=hi3.frozen;have r2:=h3.cell 2;simp at r2;simp only at i0 i1 i2 i3 i4 i5 i6 i7;rw[hk];go_wp2
 all_goals
  refine iz (aS results87 _ _ w.heap.size 197 _ (0,0) _ _ _ _ rfl rfl rfl rfl (ak.dI (hz3.setOther (a:=⟨w2.heap.size,5,ez⟩) (by simp;omega) _) _ _ _ _ _ _ _ _) underlying197 rfl (by kernel_rfl)) rfl ⟨?_,?_,?_⟩
  ·rw[HM.o];simp[ep.val,aM,aK.cells, *]
  ·rw[HM.o]
   iterate 9 refine ak.setOther ?_ (by simp;omega) _
   exact h3
  ·exact(M3.bJ (a:=⟨w2.heap.size,5,ez⟩) (by simp;omega) _).dI (.inr (ab _)) _ _ _ _ _ _ _ _
theorem abd(b:Nat)(s:tBA)(r:RS)(w:tW)(hs:s.size<=fX)(h:bH w b s r)(hok:(aB (aI s r).1.op).2=eJ)(hb:(aI s r).2.bad=eE)(hd:(aI s r).1.d<=10)(wj:(aI s r).1.s<=10)(hk:aF (aB (aI s r).1.op).1.word=114)(kP:¬(aB (aI s r).1.op).1.s<0)(HW:af ((aB (aI s r).1.op).1.word=T [110,101,103])):fL prog 87 #[vP b] w λe w'=>e=fR (bu s r).val/\bH w' b s (bu s r).r/\aa (Only b) w w':=by
 have hlt:=h.lt;obtain⟨l1,l2,l3,l4,l5,l6,l7⟩:=fC s r;have lw:=cu (aI s r).1.op;have HM:af (bu s r=⟨aM (aB (aI s r).1.op).1 (aI s r).1,0,0,!((((aI s r).1.d:Int)==10)||((aI s r).1.jump != 0)||((aI s r).1.n != 0)||(((aI s r).1.s:Int) != 0)),(aI s r).2⟩):=by rw[af,bu,iN9 (by simp[hok,hb];omega)];simp only[hk];simp[kP,HW.o,NEG]
 go_in;go_wp2_with fail;refine(dG b s r _ hs (h.alloc _)).mono ?_;rintro e w1 ⟨rfl,h1,m1⟩;generalize aI s r=q at *;obtain⟨⟨op,d,sr,jump,n⟩,r1⟩:=q;simp only at *;have hz:ak w1 w.heap.size (aK.cells {}) 197:=ak.ae (ak.new w _ _) m1 (by simp[Only];omega);have M1:=aq.trans m1;have hsz:w.heap.size+1<=w1.heap.size:=by have:=m1.size;simpa using this
 clear m1;simp only[fF.val];go_wp2_with fail;refine(dN op _ l1).mono ?_;rintro e w2 ⟨rfl,m2⟩;have h2:bH w2 b s r1:=(ak.alloc h1 _).ae m2 (λe=>e);have hz2:=(hz.alloc _).ae m2 (λe=>e);have hx:ak w2 w1.heap.size (C5 op d sr jump n) 277:=(ak.new w1 _ _).ae m2 (λe=>e);have M2:=(M1.alloc _).trans (m2.of_nil);have hsz2:w1.heap.size+1<=w2.heap.size:=by have:=m2.size;simpa using this
 clear m2 M1 hz h1;generalize aB op=q at *;obtain⟨i,ok⟩:=q;simp only at *;simp only[aK.cells];subst hok;obtain⟨p,bad⟩:=r1;simp only at hb;subst hb;obtain⟨z0,z1,z2,z3,z4,z5,z6,z7⟩:=hz2.aO;have fz:=hz2.frozen;obtain⟨x0,x1,x2,x3,x4⟩:=hx.cells5;have n0:w.heap.size<w1.heap.size:=by omega
 have n1:w.heap.size<w2.heap.size:=by omega
 have n2:w1.heap.size<w2.heap.size:=by omega
 have n3:b<w2.heap.size:=by omega
 have n4:b<w1.heap.size:=by omega
 clear hsz hsz2;have r2:=h2.cell 2;simp at r2;have hd':eS ((10:Int)<(d:Int))=eE:=decide_eq_false (by omega);have hs':eS ((10:Int)<(sr:Int))=eE:=decide_eq_false (by omega);go_wp2_with fail;refine(eO _ _ (by unfold fX;omega)).mono ?_;rintro e w3 ⟨rfl,m3⟩;have h3:bH w3 b s ⟨p,eE⟩:=(ak.alloc h2 _).ae m3 (λe=>e);have hz3:=(hz2.alloc _).ae m3 (λe=>e);have hx3:=(hx.alloc _).ae m3 (λe=>e);have hi3:ak w3 w2.heap.size (aK.cells {i with d:=d}) 197:=(ak.new w2 _ _).ae m3 (λe=>e);have M3:=(M2.alloc _).trans (m3.of_nil);have n5:=hi3.lt;clear m3 M2 h2 hz2 hx x0 x1 x2 x3 x4 z0 z1 z2 z3 z4 z5 z6 z7 fz r2;obtain⟨z0,z1,z2,z3,z4,z5,z6,z7⟩:=hz3.aO;have fz:=hz3.frozen;obtain⟨x0,x1,x2,x3,x4⟩:=hx3.cells5;obtain⟨i0,i1,i2,i3,i4,i5,i6,i7⟩:=hi3.aO;have fi:=hi3.frozen;have r2:=h3.cell 2;simp at r2;simp only at i0 i1 i2 i3 i4 i5 i6 i7;rw[hk];have hby:eS (i.s<0)=eE:=decide_eq_false (by omega);have HB0:af (¬i.s<0):=by unfold af;omega
 have hin:af (aM i ⟨op,d,sr,jump,n⟩={i with d:=d,s:=sr,n:=n}):=by simp[af,aM,HB0.o]
 clear kP;have hwb:=gi (l:=[110,101,103]) HW.o;go_wp2
 all_goals
  rw[hin.o]at HM;refine iz (aS results87 _ _ w.heap.size 197 _ (0,0) _ _ _ _ rfl rfl rfl rfl (ak.dI ((hz3.setOther (a:=⟨w2.heap.size,3,ez⟩) (by simp;omega) _).setOther (a:=⟨w2.heap.size,5,ez⟩) (by simp;omega) _) _ _ _ _ _ _ _ _) underlying197 rfl (by kernel_rfl)) rfl ⟨?_,?_,?_⟩
  ·rw[HM.o];simp[ep.val,aK.cells, *]
  ·rw[HM.o]
   iterate 10 refine ak.setOther ?_ (by simp;omega) _
   exact h3
  ·exact((M3.bJ (a:=⟨w2.heap.size,3,ez⟩) (by simp;omega) _).bJ (a:=⟨w2.heap.size,5,ez⟩) (by simp;omega) _).dI (.inr (ab _)) _ _ _ _ _ _ _ _
theorem abe(b:Nat)(s:tBA)(r:RS)(w:tW)(hs:s.size<=fX)(h:bH w b s r)(hok:(aB (aI s r).1.op).2=eJ)(hb:(aI s r).2.bad=eE)(hd:(aI s r).1.d<=10)(wj:(aI s r).1.s<=10)(hk:aF (aB (aI s r).1.op).1.word=114)(kP:¬(aB (aI s r).1.op).1.s<0)(HW:af (¬(aB (aI s r).1.op).1.word=T [110,101,103])):fL prog 87 #[vP b] w λe w'=>e=fR (bu s r).val/\bH w' b s (bu s r).r/\aa (Only b) w w':=by
 have hlt:=h.lt;obtain⟨l1,l2,l3,l4,l5,l6,l7⟩:=fC s r;have lw:=cu (aI s r).1.op;have HM:af (bu s r=⟨aM (aB (aI s r).1.op).1 (aI s r).1,0,0,!((((aI s r).1.d:Int)==10)||((aI s r).1.jump != 0)||((aI s r).1.n != 0)),(aI s r).2⟩):=by rw[af,bu,iN9 (by simp[hok,hb];omega)];simp only[hk];simp[kP,HW.o,NEG]
 go_in;go_wp2_with fail;refine(dG b s r _ hs (h.alloc _)).mono ?_;rintro e w1 ⟨rfl,h1,m1⟩;generalize aI s r=q at *;obtain⟨⟨op,d,sr,jump,n⟩,r1⟩:=q;simp only at *;have hz:ak w1 w.heap.size (aK.cells {}) 197:=ak.ae (ak.new w _ _) m1 (by simp[Only];omega);have M1:=aq.trans m1;have hsz:w.heap.size+1<=w1.heap.size:=by have:=m1.size;simpa using this
 clear m1;simp only[fF.val];go_wp2_with fail;refine(dN op _ l1).mono ?_;rintro e w2 ⟨rfl,m2⟩;have h2:bH w2 b s r1:=(ak.alloc h1 _).ae m2 (λe=>e);have hz2:=(hz.alloc _).ae m2 (λe=>e);have hx:ak w2 w1.heap.size (C5 op d sr jump n) 277:=(ak.new w1 _ _).ae m2 (λe=>e);have M2:=(M1.alloc _).trans (m2.of_nil);have hsz2:w1.heap.size+1<=w2.heap.size:=by have:=m2.size;simpa using this
 clear m2 M1 hz h1;generalize aB op=q at *;obtain⟨i,ok⟩:=q;simp only at *;simp only[aK.cells];subst hok;obtain⟨p,bad⟩:=r1;simp only at hb;subst hb;obtain⟨z0,z1,z2,z3,z4,z5,z6,z7⟩:=hz2.aO;have fz:=hz2.frozen;obtain⟨x0,x1,x2,x3,x4⟩:=hx.cells5;have n0:w.heap.size<w1.heap.size:=by omega
 have n1:w.heap.size<w2.heap.size:=by omega
 have n2:w1.heap.size<w2.heap.size:=by omega
 have n3:b<w2.heap.size:=by omega
 have n4:b<w1.heap.size:=by omega
 clear hsz hsz2;have r2:=h2.cell 2;simp at r2;have hd':eS ((10:Int)<(d:Int))=eE:=decide_eq_false (by omega);have hs':eS ((10:Int)<(sr:Int))=eE:=decide_eq_false (by omega);go_wp2_with fail;refine(eO _ _ (by unfold fX;omega)).mono ?_;rintro e w3 ⟨rfl,m3⟩;have h3:bH w3 b s ⟨p,eE⟩:=(ak.alloc h2 _).ae m3 (λe=>e);have hz3:=(hz2.alloc _).ae m3 (λe=>e);have hx3:=(hx.alloc _).ae m3 (λe=>e);have hi3:ak w3 w2.heap.size (aK.cells {i with d:=d}) 197:=(ak.new w2 _ _).ae m3 (λe=>e);have M3:=(M2.alloc _).trans (m3.of_nil);have n5:=hi3.lt;clear m3 M2 h2 hz2 hx x0 x1 x2 x3 x4 z0 z1 z2 z3 z4 z5 z6 z7 fz r2;obtain⟨z0,z1,z2,z3,z4,z5,z6,z7⟩:=hz3.aO;have fz:=hz3.frozen;obtain⟨x0,x1,x2,x3,x4⟩:=hx3.cells5;obtain⟨i0,i1,i2,i3,i4,i5,i6,i7⟩:=hi3.aO;have fi:=hi3.frozen;have r2:=h3.cell 2;simp at r2;simp only at i0 i1 i2 i3 i4 i5 i6 i7;rw[hk];have hby:eS (i.s<0)=eE:=decide_eq_false (by omega);have HB0:af (¬i.s<0):=by unfold af;omega
 have hin:af (aM i ⟨op,d,sr,jump,n⟩={i with d:=d,s:=sr,n:=n}):=by simp[af,aM,HB0.o]
 clear kP;have hwb:=fP (l:=[110,101,103]) HW.o;go_wp2
 all_goals
  rw[hin.o]at HM;refine iz (aS results87 _ _ w.heap.size 197 _ (0,0) _ _ _ _ rfl rfl rfl rfl (ak.dI ((hz3.setOther (a:=⟨w2.heap.size,3,ez⟩) (by simp;omega) _).setOther (a:=⟨w2.heap.size,5,ez⟩) (by simp;omega) _) _ _ _ _ _ _ _ _) underlying197 rfl (by kernel_rfl)) rfl ⟨?_,?_,?_⟩
  ·rw[HM.o];simp[ep.val,aK.cells, *]
  ·rw[HM.o]
   iterate 10 refine ak.setOther ?_ (by simp;omega) _
   exact h3
  ·exact((M3.bJ (a:=⟨w2.heap.size,3,ez⟩) (by simp;omega) _).bJ (a:=⟨w2.heap.size,5,ez⟩) (by simp;omega) _).dI (.inr (ab _)) _ _ _ _ _ _ _ _
theorem acG(b:Nat)(s:tBA)(r:RS)(w:tW)(hs:s.size<=fX)(h:bH w b s r)(hok:(aB (aI s r).1.op).2=eJ)(hb:(aI s r).2.bad=eE)(hd:(aI s r).1.d<=10)(wj:(aI s r).1.s<=10)(hk:aF (aB (aI s r).1.op).1.word=101)(kP:¬(aB (aI s r).1.op).1.s<0):fL prog 87 #[vP b] w λe w'=>e=fR (bu s r).val/\bH w' b s (bu s r).r/\aa (Only b) w w':=by
 have hlt:=h.lt;obtain⟨l1,l2,l3,l4,l5,l6,l7⟩:=fC s r;have lw:=cu (aI s r).1.op;have HM:af (bu s r=⟨aM (aB (aI s r).1.op).1 (aI s r).1,0,0,(((aI s r).1.d:Int)==0)&&(((aI s r).1.s:Int)==0)&&((aI s r).1.jump==0)&&((aI s r).1.n==0),(aI s r).2⟩):=by rw[af,bu,iN9 (by simp[hok,hb];omega)];simp only[hk];simp
 go_in;go_wp2_with fail;refine(dG b s r _ hs (h.alloc _)).mono ?_;rintro e w1 ⟨rfl,h1,m1⟩;generalize aI s r=q at *;obtain⟨⟨op,d,sr,jump,n⟩,r1⟩:=q;simp only at *;have hz:ak w1 w.heap.size (aK.cells {}) 197:=ak.ae (ak.new w _ _) m1 (by simp[Only];omega);have M1:=aq.trans m1;have hsz:w.heap.size+1<=w1.heap.size:=by have:=m1.size;simpa using this
 clear m1;simp only[fF.val];go_wp2_with fail;refine(dN op _ l1).mono ?_;rintro e w2 ⟨rfl,m2⟩;have h2:bH w2 b s r1:=(ak.alloc h1 _).ae m2 (λe=>e);have hz2:=(hz.alloc _).ae m2 (λe=>e);have hx:ak w2 w1.heap.size (C5 op d sr jump n) 277:=(ak.new w1 _ _).ae m2 (λe=>e);have M2:=(M1.alloc _).trans (m2.of_nil);have hsz2:w1.heap.size+1<=w2.heap.size:=by have:=m2.size;simpa using this
 clear m2 M1 hz h1;generalize aB op=q at *;obtain⟨i,ok⟩:=q;simp only at *;simp only[aK.cells];subst hok;obtain⟨p,bad⟩:=r1;simp only at hb;subst hb;obtain⟨z0,z1,z2,z3,z4,z5,z6,z7⟩:=hz2.aO;have fz:=hz2.frozen;obtain⟨x0,x1,x2,x3,x4⟩:=hx.cells5;have n0:w.heap.size<w1.heap.size:=by omega
 have n1:w.heap.size<w2.heap.size:=by omega
 have n2:w1.heap.size<w2.heap.size:=by omega
 have n3:b<w2.heap.size:=by omega
 have n4:b<w1.heap.size:=by omega
 clear hsz hsz2;have r2:=h2.cell 2;simp at r2;have hd':eS ((10:Int)<(d:Int))=eE:=decide_eq_false (by omega);have hs':eS ((10:Int)<(sr:Int))=eE:=decide_eq_false (by omega);go_wp2_with fail;refine(eO _ _ (by unfold fX;omega)).mono ?_;rintro e w3 ⟨rfl,m3⟩;have h3:bH w3 b s ⟨p,eE⟩:=(ak.alloc h2 _).ae m3 (λe=>e);have hz3:=(hz2.alloc _).ae m3 (λe=>e);have hx3:=(hx.alloc _).ae m3 (λe=>e);have hi3:ak w3 w2.heap.size (aK.cells {i with d:=d}) 197:=(ak.new w2 _ _).ae m3 (λe=>e);have M3:=(M2.alloc _).trans (m3.of_nil);have n5:=hi3.lt;clear m3 M2 h2 hz2 hx x0 x1 x2 x3 x4 z0 z1 z2 z3 z4 z5 z6 z7 fz r2;obtain⟨z0,z1,z2,z3,z4,z5,z6,z7⟩:=hz3.aO;have fz:=hz3.frozen;obtain⟨x0,x1,x2,x3,x4⟩:=hx3.cells5;obtain⟨i0,i1,i2,i3,i4,i5,i6,i7⟩:=hi3.aO;have fi:=hi3.frozen;have r2:=h3.cell 2;simp at r2;simp only at i0 i1 i2 i3 i4 i5 i6 i7;rw[hk];have hby:eS (i.s<0)=eE:=decide_eq_false (by omega);have HB0:af (¬i.s<0):=by unfold af;omega
 have hin:af (aM i ⟨op,d,sr,jump,n⟩={i with d:=d,s:=sr,n:=n}):=by simp[af,aM,HB0.o]
 clear kP;have hc:((d:Int)==0)=eE\/(((d:Int)==0)=eJ/\((sr:Int)==0)=eE)\/(((d:Int)==0)=eJ/\((sr:Int)==0)=eJ/\(jump==0)=eE)\/(((d:Int)==0)=eJ/\((sr:Int)==0)=eJ/\(jump==0)=eJ):=by cases((d:Int)==0)<;>cases((sr:Int)==0)<;>cases(jump==0)<;>simp
 rcases hc with g1 |⟨g1,g2⟩ |⟨g1,g2,g3⟩ |⟨g1,g2,g3⟩
 all_goals
  go_wp2;go_region
  all_goals
   go_wp2;rw[hin.o]at HM;refine iz (aS results87 _ _ w.heap.size 197 _ (0,0) _ _ _ _ rfl rfl rfl rfl (ak.drew (ak.dI ((hz3.setOther (a:=⟨w2.heap.size,3,ez⟩) (by simp;omega) _).setOther (a:=⟨w2.heap.size,5,ez⟩) (by simp;omega) _) _ _ _ _ _ _ _ _)) underlying197 rfl (by kernel_rfl)) rfl ⟨?_,?_,?_⟩
   ·rw[HM.o];simp[ep.val,aK.cells, *]
   ·rw[HM.o];refine ak.drew ?_
    iterate 10 refine ak.setOther ?_ (by simp;omega) _
    exact h3
   ·exact((M3.bJ (a:=⟨w2.heap.size,3,ez⟩) (by simp;omega) _).bJ (a:=⟨w2.heap.size,5,ez⟩) (by simp;omega) _).dI (.inr (ab _)) _ _ _ _ _ _ _ _ |>.drew
