import Derived.Test.YtekmhcbefnmflaaGreatDoorCL06
import Derived.Deep.DeepCutAuto
import Derived.Deep.CutBlock
namespace Go.Proofs.YtekmhcbefnmflaaGreatDoor
open Go.RowKit Tryz
open Nat renaming mod_eq_of_lt->ab,le_refl->an
open Bool renaming false->eE,true->eJ
open Option renaming none->ez,some->eC
open Value renaming agg->fW,string->eI,bool->fS,tuple->gb
open _root_.Go renaming Value->eM,TypeId->gh,bodyPost_ret->iz,results_cell_row->mz
set_option linter.all false
set_option maxRecDepth 100000
set_option maxHeartbeats 1000000
def tY(n:Nat):Int:=if 32768<=n then(n:Int)-65536 else n
def yG(n:Nat):Int:=if 2147483648<=n then(n:Int)+18446744069414584320 else n
structure fF where
 op:Nat
 d:Nat
 s:Nat
 jump:Int
 n:Int
def fF.val(x:fF):eM:=fW #[vI x.op,vI x.d,vI x.s,vI x.jump,vU x.n]
def aI(s:tBA)(r:RS):fF×RS :=
 let a:=rb s r;let b:=rb s a.2;let j:=mX s b.2;let n:=KV s j.2
 (⟨a.1,b.1%16,b.1/16,tY j.1,yG n.1⟩,n.2)
abbrev C5(a b c d:Int)(n:Int):tAV:=#[vI a,vI b,vI c,vI d,vU n]
theorem ak.cells5{w:tW}{b:Nat}{v0 v1 v2 v3 v4:eM}{t:gh}(h:ak w b #[v0,v1,v2,v3,v4] t):w.cell? ⟨b,0,ez⟩=eC v0/\w.cell? ⟨b,1,ez⟩=eC v1/\w.cell? ⟨b,2,ez⟩=eC v2/\w.cell? ⟨b,3,ez⟩=eC v3/\w.cell? ⟨b,4,ez⟩=eC v4 :=
 ⟨h.cell 0,h.cell 1,h.cell 2,h.cell 3,h.cell 4⟩
theorem Iu(op ds:Nat)(J n:Int):Value.agg (C5 op ((ds:Int)%16) ((ds:Int)/16) J n)=fF.val ⟨op,ds%16,ds/16,J,n⟩:=by simp[fF.val]
theorem EB{a b:eM}(h:a=b):Ending.returned a=.returned b:=by rw[h]
theorem Uh(n:Nat)(h1:2147483648<=n)(h2:n<=4294967295):IntKind.u64.wrap ((n:Int)-4294967296)=(n:Int)+18446744069414584320:=by simp only[IntKind.wrap,IntKind.bits,IntKind.signed,Bool.false_and,Bool.false_eq_true,if_false];omega
theorem Ym(n:Nat)(h1:2147483648<=n)(h2:n<=4294967295):yG n=IntKind.u64.wrap ((n:Int)-4294967296):=by rw[Uh n h1 h2,yG,iP9 h1]
theorem Yn(n:Nat)(h1:¬2147483648<=n):yG n=(n:Int):=by rw[yG,iN9 h1]
theorem dG(b:Nat)(s:tBA)(r:RS)(w:tW)(hs:s.size<=maxLen)(h:bH w b s r):Calls prog 168 #[vP b] w λe w'=>e=.returned (aI s r).1.val/\bH w' b s (aI s r).2/\aa (Only b) w w':=by
 have hlt:=h.lt;have l1:=ou s r;have l2:=ou s (rb s r).2;have l3:=xe s (rb s (rb s r).2).2;have l4:=TU s (mX s (rb s (rb s r).2).2).2;have HR:af (aI s r=(⟨(rb s r).1,(rb s (rb s r).2).1%16,(rb s (rb s r).2).1/16,tY (mX s (rb s (rb s r).2).2).1,yG (KV s (mX s (rb s (rb s r).2).2).2).1⟩,(KV s (mX s (rb s (rb s r).2).2).2).2)):=rfl;go_in;go_wp2_with fail;refine(iq b s r _ hs ((h.alloc _).alloc _)).mono ?_;rintro e w1 ⟨rfl,h1,m1⟩;generalize rb s r=q1 at *;obtain⟨op,r1⟩:=q1;simp only at *;have hx:=ak.ae (by have:=ak.new (w.alloc (.cells (C5 0 0 0 0 0) 277)) (C5 0 0 0 0 0) 277;simpa using this) m1 (by simp[Only];omega);have hz:=ak.ae ((ak.new w (C5 0 0 0 0 0) 277).alloc _) m1 (by simp[Only];omega);have M1:=(aq.alloc _).trans m1;clear m1;obtain⟨g0,g1,g2,g3,g4⟩:=hx.cells5;have f0:=hx.frozen 0;go_wp2_with fail;clear g0 g1 g2 g3 g4 f0;refine(iq b s _ _ hs (ak.setOther h1 (by simp;omega) _)).mono ?_;rintro e w2 ⟨rfl,h2,m2⟩;have hx2:=(hx.set 0 (vI op)).ae m2 (by simp[Only];omega);have hz2:=(hz.setOther (a:=⟨w.heap.size+1,0,ez⟩) (by simp) (vI op)).ae m2 (by simp[Only];omega);have M2:=(M1.set (a:=⟨w.heap.size+1,0,ez⟩) (.inr (by simp)) _).trans m2;clear m2 M1 hx hz h1;generalize rb s r1=q2 at *;obtain⟨ds,r2⟩:=q2;simp only at *;have Ui:ak w2 (w.heap.size+1) (C5 op 0 0 0 0) 277:=hx2;clear hx2;obtain⟨g0,g1,g2,g3,g4⟩:=Ui.cells5;have f1:=Ui.frozen 1;have f2:=Ui.frozen 2;go_wp2_with fail;refine(yD b s _ _ hs ((ak.setOther h2 (by simp;omega) _).setOther (by simp;omega) _)).mono ?_;rintro e w3 ⟨rfl,h3,m3⟩;have hx3:ak w3 (w.heap.size+1) (C5 op (ds%16) (ds/16) 0 0) 277:=((Ui.set 1 _).set 2 _).ae m3 (by simp[Only];omega);have hz3:=((hz2.setOther (by simp) _).setOther (by simp) _).ae m3 (by simp[Only];omega);have M3:=((M2.set (a:=⟨w.heap.size+1,1,ez⟩) (.inr (by simp)) _).set (a:=⟨w.heap.size+1,2,ez⟩) (.inr (by simp)) _).trans m3;clear m3 M2 Ui hz2 h2 g0 g1 g2 g3 g4 f1 f2;generalize mX s r2=q3 at *;obtain⟨j,r3⟩:=q3;simp only at *;obtain⟨g0,g1,g2,g3,g4⟩:=hx3.cells5;have f3:=hx3.frozen 3;by_cases hj:32768<=j
 case' pos =>
  have HJ:af ((j:Int)-65536=tY j):=by simp[af,tY,hj]
  have hj':(32768:Int)<=(j:Int):=by omega
  clear hj;go_wp2_with fail;refine(Ew b s _ _ hs ((ak.setOther h3 (by simp;omega) _).setOther (by simp;omega) _)).mono ?_;rintro e w4 ⟨rfl,h4,m4⟩;have hx4:ak w4 (w.heap.size+1) (C5 op (ds%16) (ds/16) (tY j) 0) 277:=by have:=((hx3.set 3 (vI j)).set 3 (vI ((j:Int)-65536))).ae m4 (by simp[Only];omega);rw[HJ.o]at this;exact this
  have zF:=((hz3.setOther (by simp) _).setOther (by simp) _).ae m4 (by simp[Only];omega);have M4:=((M3.set (a:=⟨w.heap.size+1,3,ez⟩) (.inr (by simp)) _).set (a:=⟨w.heap.size+1,3,ez⟩) (.inr (by simp)) _).trans m4
 case' neg =>
  have HJ:af ((j:Int)=tY j):=by simp[af,tY,hj]
  have hj':decide ((32768:Int)<=(j:Int))=eE:=decide_eq_false (by omega);clear hj;go_wp2_with fail;refine(Ew b s _ _ hs (ak.setOther h3 (by simp;omega) _)).mono ?_;rintro e w4 ⟨rfl,h4,m4⟩;have hx4:ak w4 (w.heap.size+1) (C5 op (ds%16) (ds/16) (tY j) 0) 277:=by have:=(hx3.set 3 (vI j)).ae m4 (by simp[Only];omega);rw[HJ.o]at this;exact this
  have zF:=(hz3.setOther (by simp) _).ae m4 (by simp[Only];omega);have M4:=(M3.set (a:=⟨w.heap.size+1,3,ez⟩) (.inr (by simp)) _).trans m4
 all_goals
  clear m4 M3 hx3 hz3 h3 g0 g1 g2 g3 g4 f3 HJ;generalize KV s r3=q4 at *;obtain⟨n,r4⟩:=q4;simp only at *;generalize tY j=J at *;obtain⟨g0,g1,g2,g3,g4⟩:=hx4.cells5;obtain⟨k0,k1,k2,k3,k4⟩:=zF.cells5;have f4:=hx4.frozen 4;have z0:=zF.frozen 0;have z1:=zF.frozen 1;have z2:=zF.frozen 2;have z3:=zF.frozen 3;have z4:=zF.frozen 4;by_cases hn:2147483648<=n
  ·have hn':(2147483648:Int)<=(n:Int):=by omega
   have HE:af (_=_):=Ym n hn l4;clear hn;go_wp2;generalize IntKind.u64.wrap ((n:Int)-4294967296)=N at *;rw[HE.o]at HR
   refine iz (v:=fW (C5 op ((ds:Int)%16) ((ds:Int)/16) J N)) (mz results168 _ _ w.heap.size 277 _ (0,0) _ rfl
    (((((((zF.setOther (a:=⟨w.heap.size+1,4,ez⟩) (by simp) _).setOther (a:=⟨w.heap.size+1,4,ez⟩) (by simp) _).set 0 _).set 1 _).set 2 _).set 3 _).set 4 _) underlying277 rfl (by kernel_rfl)) rfl ⟨?_,?_,?_⟩
   ·rw[HR.o];exact EB (Iu _ _ _ _)
   ·rw[HR.o]
    iterate 7 refine ak.setOther ?_ (by simp;omega) _
    exact h4
   ·iterate 7 refine aa.set ?_ (.inr (by simp)) _
    exact M4
  ·have hn':decide ((2147483648:Int)<=(n:Int))=eE:=decide_eq_false (by omega);have HE:af (_=_):=Yn n hn;clear hn;go_wp2;rw[HE.o]at HR
   refine iz (v:=fW (C5 op ((ds:Int)%16) ((ds:Int)/16) J n)) (mz results168 _ _ w.heap.size 277 _ (0,0) _ rfl
    ((((((zF.setOther (a:=⟨w.heap.size+1,4,ez⟩) (by simp) _).set 0 _).set 1 _).set 2 _).set 3 _).set 4 _) underlying277 rfl (by kernel_rfl)) rfl ⟨?_,?_,?_⟩
   ·rw[HR.o];exact EB (Iu _ _ _ _)
   ·rw[HR.o]
    iterate 6 refine ak.setOther ?_ (by simp;omega) _
    exact h4
   ·iterate 6 refine aa.set ?_ (.inr (by simp)) _
    exact M4
abbrev E0:tBA:={data:=#[]}
theorem Iw{S:Nat->Prop}{w w1:tW}{cs cs':tAV}{t t':gh}(m:aa S ((w.alloc (.cells cs t)).alloc (.cells cs' t')) w1)(hS:∀k,w.heap.size<=k->¬S k):ak w1 w.heap.size cs t/\ak w1 (w.heap.size+1) cs' t':=by
 refine⟨((ak.new w cs t).alloc _).ae m (hS _ (an _)),?_⟩;have h:=ak.new (w.alloc (.cells cs t)) cs' t';have e:(w.alloc (.cells cs t)).heap.size=w.heap.size+1:=by simp
 rw[e]at h;exact h.ae m (hS _ (by omega))
theorem ak.aO{w:tW}{b:Nat}{v0 v1 v2 v3 v4 v5 v6 v7:eM}{t:gh}(h:ak w b #[v0,v1,v2,v3,v4,v5,v6,v7] t):w.cell? ⟨b,0,ez⟩=eC v0/\w.cell? ⟨b,1,ez⟩=eC v1/\w.cell? ⟨b,2,ez⟩=eC v2/\w.cell? ⟨b,3,ez⟩=eC v3/\w.cell? ⟨b,4,ez⟩=eC v4/\w.cell? ⟨b,5,ez⟩=eC v5/\w.cell? ⟨b,6,ez⟩=eC v6/\w.cell? ⟨b,7,ez⟩=eC v7 :=
 ⟨h.cell 0,h.cell 1,h.cell 2,h.cell 3,h.cell 4,h.cell 5,h.cell 6,h.cell 7⟩
structure aK where
 word:tBA:=E0
 is32:Bool:=eE
 d:Int:=0
 s:Int:=0
 jump:Int:=0
 n:Int:=0
 label:tBA:=E0
 name:tBA:=E0
def aK.cells(i:aK):tAV:=#[eI i.word,fS i.is32,vI i.d,vI i.s,vI i.jump,vU i.n,eI i.label,eI i.name]
def Pg:List tBA:=[T [108,100,49],T [108,100,50],T [108,100,52],T [108,100,56],T [115,116,49],T [115,116,50],T [115,116,52],T [115,116,56],T [115,116,49],T [115,116,50],T [115,116,52],T [115,116,56]]
def aB(op:Nat):aK×Bool :=
 if op<64/\1<=op%16/\op%16<=13/\(op%16<13\/op<32)then({word:=jA[op%16-1]?.getD E0,is32:=((op:Int)/16%2==1),s:=-((op:Int)/32)},eJ)
 else if 64<=op/\op<76 then({word:=fH[op-64]?.getD E0},eJ)
 else if 96<op/\op<108 then({word:=fH[op-96]?.getD E0,s:=-1},eJ)
 else if 128<=op/\op<140 then({word:=Pg[op-128]?.getD E0,s:=if 136<=op then -1 else 0},eJ)
 else if op=192 then({word:=T [119,105,100,101]},eJ)
 else if op=193 then({word:=T [99,97,108,108]},eJ)
 else if op=194 then({word:=T [101,120,105,116]},eJ)
 else({},eE)
theorem ak.dI{w:tW}{z:Nat}{t:gh}{v0 v1 v2 v3 v4 v5 v6 v7:eM}(h:ak w z #[v0,v1,v2,v3,v4,v5,v6,v7] t)(a0 a1 a2 a3 a4 a5 a6 a7:eM):ak ((((((((w.setCell ⟨z,0,ez⟩ a0).setCell ⟨z,1,ez⟩ a1).setCell ⟨z,2,ez⟩ a2).setCell ⟨z,3,ez⟩ a3).setCell ⟨z,4,ez⟩ a4).setCell ⟨z,5,ez⟩ a5).setCell ⟨z,6,ez⟩ a6).setCell ⟨z,7,ez⟩ a7) z #[a0,a1,a2,a3,a4,a5,a6,a7] t:=by have h0:ak (w.setCell ⟨z,0,ez⟩ a0) z #[a0,v1,v2,v3,v4,v5,v6,v7] t:=h.set 0 a0;have h1:ak ((w.setCell ⟨z,0,ez⟩ a0).setCell ⟨z,1,ez⟩ a1) z #[a0,a1,v2,v3,v4,v5,v6,v7] t:=h0.set 1 a1;have h2:ak (((w.setCell ⟨z,0,ez⟩ a0).setCell ⟨z,1,ez⟩ a1).setCell ⟨z,2,ez⟩ a2) z #[a0,a1,a2,v3,v4,v5,v6,v7] t:=h1.set 2 a2;have h3:ak ((((w.setCell ⟨z,0,ez⟩ a0).setCell ⟨z,1,ez⟩ a1).setCell ⟨z,2,ez⟩ a2).setCell ⟨z,3,ez⟩ a3) z #[a0,a1,a2,a3,v4,v5,v6,v7] t:=h2.set 3 a3;have h4:ak (((((w.setCell ⟨z,0,ez⟩ a0).setCell ⟨z,1,ez⟩ a1).setCell ⟨z,2,ez⟩ a2).setCell ⟨z,3,ez⟩ a3).setCell ⟨z,4,ez⟩ a4) z #[a0,a1,a2,a3,a4,v5,v6,v7] t:=h3.set 4 a4;have h5:ak ((((((w.setCell ⟨z,0,ez⟩ a0).setCell ⟨z,1,ez⟩ a1).setCell ⟨z,2,ez⟩ a2).setCell ⟨z,3,ez⟩ a3).setCell ⟨z,4,ez⟩ a4).setCell ⟨z,5,ez⟩ a5) z #[a0,a1,a2,a3,a4,a5,v6,v7] t:=h4.set 5 a5;have h6:ak (((((((w.setCell ⟨z,0,ez⟩ a0).setCell ⟨z,1,ez⟩ a1).setCell ⟨z,2,ez⟩ a2).setCell ⟨z,3,ez⟩ a3).setCell ⟨z,4,ez⟩ a4).setCell ⟨z,5,ez⟩ a5).setCell ⟨z,6,ez⟩ a6) z #[a0,a1,a2,a3,a4,a5,a6,v7] t:=h5.set 6 a6;have h7:ak ((((((((w.setCell ⟨z,0,ez⟩ a0).setCell ⟨z,1,ez⟩ a1).setCell ⟨z,2,ez⟩ a2).setCell ⟨z,3,ez⟩ a3).setCell ⟨z,4,ez⟩ a4).setCell ⟨z,5,ez⟩ a5).setCell ⟨z,6,ez⟩ a6).setCell ⟨z,7,ez⟩ a7) z #[a0,a1,a2,a3,a4,a5,a6,a7] t:=h6.set 7 a7;exact h7
theorem aa.dI{S:Nat->Prop}{w0 w:tW}{z:Nat}(h:aa S w0 w)(hz:S z\/w0.heap.size<=z)(a0 a1 a2 a3 a4 a5 a6 a7:eM):aa S w0 ((((((((w.setCell ⟨z,0,ez⟩ a0).setCell ⟨z,1,ez⟩ a1).setCell ⟨z,2,ez⟩ a2).setCell ⟨z,3,ez⟩ a3).setCell ⟨z,4,ez⟩ a4).setCell ⟨z,5,ez⟩ a5).setCell ⟨z,6,ez⟩ a6).setCell ⟨z,7,ez⟩ a7) :=
 (((((((h.set (a:=⟨z,0,ez⟩) hz a0).set (a:=⟨z,1,ez⟩) hz a1).set (a:=⟨z,2,ez⟩) hz a2).set (a:=⟨z,3,ez⟩) hz a3).set (a:=⟨z,4,ez⟩) hz a4).set (a:=⟨z,5,ez⟩) hz a5).set (a:=⟨z,6,ez⟩) hz a6).set (a:=⟨z,7,ez⟩) hz a7
theorem aa.bJ{S:Nat->Prop}{w0 w:tW}(h:aa S w0 w){a:Addr}(hz:w0.heap.size<=a.block)(v:eM):aa S w0 (w.setCell a v):=h.set (.inr hz) v
theorem aw{P:Program}{fn:Func}{p u:Tmp}{ty:gh}(h:fn.results=#[.cell p ty,.tmp u])(tmps:tAV)(w:tW)(g:Nat)(t:gh)(cs:tAV)(fr:Nat×Nat)(d:TypeDesc)(v:eM)(hp:tmps.getD p undef=vP g) (hv:tmps.getD u undef=v) (hg:w.heap[g]?=eC (.cells cs t fr))(hu:P.underlying ty=eC d) (hd:(match d with|.struct _|.array _ _=>eJ|_=>eE)=eJ) (hi:(P.info? ty).map (·.size)=eC cs.size):(results fn tmps).run P w=.ok (gb #[fW cs,v]) w:=by rw[results_cell_tmp h,hp,hv];simp[asAddr,run_loadVar_row w g t ty cs fr d hg hu hd hi]
theorem jM{w:tW}{b k:Nat}{l:List tBA}(h:ak w b (strs l) 9)(hk:k<l.length):w.cell? ⟨b,k,ez⟩=eC (eI (l[k]?.getD E0)):=by rw[h.cell k,Il l k hk];simp[hk]
theorem aa4(op:Nat)(l:Nat)(w:tW)(h1:(op:Int)<64)(hl:(op:Int)%16=(l:Int)+1)(hl2:l<=12)(h2:(l:Int)+1<13\/(op:Int)<32)(HM:af (aB op=({word:=jA[l]?.getD E0,is32:=((op:Int)/16%2==1),s:=-((op:Int)/32)},eJ))):Calls prog 169 #[vI op] w λe w'=>e=.returned (gb #[fW (aB op).1.cells,fS (aB op).2])/\aa ah w w':=by
 by_cases h3:(l:Int)+1<13
 ·clear h2;go_in;go_wp2_with fail;refine(tU _).mono ?_;rintro e w1 ⟨rfl,b1,m1⟩;have hc:=jM b1 (k:=l) (by show l<13;omega);simp at hc;obtain⟨hz,hx⟩:=Iw m1 (λ_ _ e=>e);obtain⟨x0,x1,x2,x3,x4,x5,x6,x7⟩:=hx.aO;obtain⟨z0,z1,z2,z3,z4,z5,z6,z7⟩:=hz.aO;have fx:=hx.frozen;have fz:=hz.frozen;have M1:=(aq.alloc _).trans m1;clear m1 b1;go_wp2;refine iz (aw results169 _ _ w.heap.size 197 _ (0,0) _ _ rfl rfl (ak.dI (((hz.setOther (a:=⟨w.heap.size+1,0,ez⟩) (by simp) _).setOther (a:=⟨w.heap.size+1,1,ez⟩) (by simp) _).setOther (a:=⟨w.heap.size+1,3,ez⟩) (by simp) _) _ _ _ _ _ _ _ _) underlying197 rfl (by kernel_rfl)) rfl ⟨?_,(((M1.bJ (a:=⟨w.heap.size+1,0,ez⟩) (by simp) _).bJ (a:=⟨w.heap.size+1,1,ez⟩) (by simp) _).bJ (a:=⟨w.heap.size+1,3,ez⟩) (by simp) _).dI (.inr (an _)) _ _ _ _ _ _ _ _⟩;rw[HM.o];rfl
 ·have h2:(op:Int)<32:=by omega
  have h3':=decide_eq_false h3;clear h3;go_in;go_wp2_with fail;refine(tU _).mono ?_;rintro e w1 ⟨rfl,b1,m1⟩;have hc:=jM b1 (k:=l) (by show l<13;omega);simp at hc;obtain⟨hz,hx⟩:=Iw m1 (λ_ _ e=>e);obtain⟨x0,x1,x2,x3,x4,x5,x6,x7⟩:=hx.aO;obtain⟨z0,z1,z2,z3,z4,z5,z6,z7⟩:=hz.aO;have fx:=hx.frozen;have fz:=hz.frozen;have M1:=(aq.alloc _).trans m1;clear m1 b1;go_wp2;refine iz (aw results169 _ _ w.heap.size 197 _ (0,0) _ _ rfl rfl (ak.dI (((hz.setOther (a:=⟨w.heap.size+1,0,ez⟩) (by simp) _).setOther (a:=⟨w.heap.size+1,1,ez⟩) (by simp) _).setOther (a:=⟨w.heap.size+1,3,ez⟩) (by simp) _) _ _ _ _ _ _ _ _) underlying197 rfl (by kernel_rfl)) rfl ⟨?_,(((M1.bJ (a:=⟨w.heap.size+1,0,ez⟩) (by simp) _).bJ (a:=⟨w.heap.size+1,1,ez⟩) (by simp) _).bJ (a:=⟨w.heap.size+1,3,ez⟩) (by simp) _).dI (.inr (an _)) _ _ _ _ _ _ _ _⟩;rw[HM.o];rfl
theorem aa5(op l:Nat)(w:tW)(hop:(op:Int)=(l:Int)+64)(hl:l<12)(HM:af (aB op=({word:=fH[l]?.getD E0},eJ))):Calls prog 169 #[vI op] w λe w'=>e=.returned (gb #[fW (aB op).1.cells,fS (aB op).2])/\aa ah w w':=by
 obtain rfl:op=l+64:=by omega
 clear hop;go_in;go_wp2_with fail;refine(qE _).mono ?_;rintro e w1 ⟨rfl,b1,m1⟩;have hc:=jM b1 (k:=l) (by show l<12;omega);simp at hc;obtain⟨hz,hx⟩:=Iw m1 (λ_ _ e=>e);obtain⟨x0,x1,x2,x3,x4,x5,x6,x7⟩:=hx.aO;obtain⟨z0,z1,z2,z3,z4,z5,z6,z7⟩:=hz.aO;have fx:=hx.frozen;have fz:=hz.frozen;have M1:=(aq.alloc _).trans m1;clear m1 b1;go_wp2;refine iz (aw results169 _ _ w.heap.size 197 _ (0,0) _ _ rfl rfl (ak.dI (hz.setOther (a:=⟨w.heap.size+1,0,ez⟩) (by simp) _) _ _ _ _ _ _ _ _) underlying197 rfl (by kernel_rfl)) rfl ⟨?_,(M1.bJ (a:=⟨w.heap.size+1,0,ez⟩) (by simp) _).dI (.inr (an _)) _ _ _ _ _ _ _ _⟩;rw[HM.o];rfl
structure bE where
 v:Nat
 minus:Bool
def wG(c:UInt8):Bool:=pR (c.toNat:Int)
def aC(l:tLB):tLB:=l.dropWhile (λc=>c==32)
def aQ(l:tLB):tLB×tLB:=((aC l).takeWhile wG,(aC l).dropWhile wG)
def bB(b:UInt8)(l:tLB):Bool:=(aC l).head?==eC b
def bC(b:UInt8)(l:tLB):tLB:=if bB b l then(aC l).tail else aC l
def sQ(l:tLB):Option tLB :=
 if l.all (λc=>decide (32<=(c.toNat:Int))&&decide ((c.toNat:Int)<=126))then eC (l.takeWhile (λc=>c != 59))else ez
def BU(n:Nat):tLB:=114::Lib.itoa (n:Int)
def dz(w:tLB):Option Nat:=(List.range 11).find? (λn=>w==BU n)
def Br(c:UInt8):Nat:=if 48<=c.toNat/\c.toNat<=57 then c.toNat-48 else if 97<=c.toNat/\c.toNat<=102 then c.toNat-87 else 255
def digsP(base:Nat):tLB->Nat->Option Nat
 |[],v=>eC v
 |c::l,v=>if base<=Br c then ez else digsP base l (v*base+Br c)
def Iy(w:tLB):Bool:=List.isPrefixOf [48,120] w
def yH(w:tLB):Nat:=if Iy w then 16 else 10
def pU(w:tLB):tLB:=if Iy w then w.drop 2 else w
def fA(w:tLB):Option Nat:=if pU w=[]\/20<w.length then ez else digsP (yH w) (pU w) 0
def bE.xg(n:bE):tLV:=[fS n.minus,vU ((n.v%18446744073709551616:Nat):Int),fS (decide (18446744073709551616<=n.v))]
def gT(l:tLB):Option (bE×tLB) :=
 if bB 45 l&&(bC 45 l).head?==eC 32 then ez
 else(fA (aQ (bC 45 l)).1).map (λv=>(⟨v,bB 45 l⟩,(aQ (bC 45 l)).2))
def bE.dL(n:bE)(half:Nat):Option Int :=
 if 18446744073709551616<=n.v then ez
 else if n.minus then(if n.v<=half then eC (-(n.v:Int))else ez)
 else(if n.v<half then eC (n.v:Int)else ez)
def bE.gH(n:bE):Option Nat :=
 if 18446744073709551616<=n.v then ez
 else if n.minus then(if n.v<=9223372036854775808 then eC ((18446744073709551616-n.v)%18446744073709551616)else ez)
 else eC n.v
structure dA where
 word:tLB
 rest:tLB
 d:Nat:=0
 s:Nat:=0
 jump:Int:=0
 num:Int:=0
 high:Int:=0
 label:tLB:=[]
 name:tLB:=[]
 far:Bool:=eE
def dA.cells(op:eM)(r:dA):tAV:=#[eI (T r.word),eI (T r.rest),op,vB r.d,vB r.s,.int .i16 r.jump,vJ r.num,vJ r.high,eI (T r.label),eI (T r.name),fS r.far]
def dA.mark(b:UInt8)(r:dA):Option dA:=if bB b r.rest then eC {r with rest:=bC b r.rest}else ez
def dA.BV(r:dA):Option dA:=(dz (aQ r.rest).1).map (λn=>{r with d:=n,rest:=(aQ r.rest).2})
def dA.Ef(r:dA):Option dA:=(dz (aQ r.rest).1).map (λn=>{r with s:=n,rest:=(aQ r.rest).2})
def dA.number(r:dA):Option dA:=(gT r.rest).map (λx=>{r with num:=(x.1.dL 2147483648).getD 0,far:=r.far||(x.1.dL 2147483648).isNone,rest:=x.2})
def dA.lab(r:dA):Option dA:=if nameB (aQ r.rest).1 then eC {r with label:=(aQ r.rest).1,rest:=(aQ r.rest).2}else ez
def dA.off(r:dA):Option dA :=
 if bB 45 r.rest then
  (fA (aQ (bC 45 r.rest)).1).map (λv=>{r with jump:=((bE.mk v eJ).dL 32768).getD 0,far:=r.far||((bE.mk v eJ).dL 32768).isNone,rest:=(aQ (bC 45 r.rest)).2})
 else if bB 43 r.rest then
  (fA (aQ (bC 43 r.rest)).1).map (λv=>{r with jump:=((bE.mk v eE).dL 32768).getD 0,far:=r.far||((bE.mk v eE).dL 32768).isNone,rest:=(aQ (bC 43 r.rest)).2})
 else eC {r with rest:=aC r.rest}
def xq(v:Nat):Int:=(((v:Int)+2147483648)%4294967296)-2147483648
def dA.wide(r:dA):Option dA :=
 if(aQ r.rest).1=[109,97,112]then
  (if nameB (aQ (aQ r.rest).2).1 then eC {r with s:=1,name:=(aQ (aQ r.rest).2).1,rest:=(aQ (aQ r.rest).2).2}else ez)
 else(gT r.rest).map (λx=>{r with num:=xq (x.1.gH.getD 0),high:=xq ((x.1.gH.getD 0)/4294967296),far:=r.far||x.1.gH.isNone,rest:=x.2})
def dA.call(r:dA):Option dA :=
 if r.word=[99,97,108,108]then
  (if nameB (aQ r.rest).1 then eC {r with s:=1,name:=(aQ r.rest).1,rest:=(aQ r.rest).2}else ez)
 else(pT.findIdx? (λh=>h==(aQ r.rest).1)).map (λn=>{r with num:=(1+n:Nat),rest:=(aQ r.rest).2})
def PK.read(p:PK)(r:dA):Option dA :=
 match (p:Nat)with
 |0=>r.mark 44
 |1=>r.mark 91
 |2=>r.mark 93
 |3=>r.BV
 |4=>r.BV
 |5=>r.Ef
 |6=>r.number
 |7=>r.lab
 |8=>r.off
 |9=>r.wide
 |_=>ez
def readPs:List PK->dA->Option dA
 |[],r=>eC r
 |p::ps,r=>(p.read r).bind (readPs ps)
def dX.words(o:dX):List tLB:=if o.call then [[104,101,108,112],[99,97,108,108]]else [o.word]
def dX.read(o:dX)(r:dA):Option dA:=if o.call then r.call else readPs o.parts r
structure fG where
 k:Nat
 r:dA
def dA.ins(r:dA):dQ:=⟨vO,r.d,r.s,r.jump,r.num,r.high,T r.label,T r.name⟩
def fG.o(x:fG):dX:=ax[x.k]?.getD ⟨0,[],[],0,eE,eE,0,eE⟩
def fG.fits(x:fG):Bool:=!x.r.far&&x.o.needs x.r.ins
def readFrom(w l:tLB):Nat->List dX->Option fG
 |_,[]=>ez
 |k,o::os =>
  if o.words.contains w then
   (match o.read ⟨w,l,0,0,0,0,0,[],[],eE⟩with
    |none=>readFrom w l (k+1) os
    |some r=>if aC r.rest=[]then eC ⟨k,{r with rest:=[]}⟩else readFrom w l (k+1) os)
  else readFrom w l (k+1) os
def nj(w l:tLB):Option fG:=readFrom w l 0 ax
def l8(w:tLB):Bool:=ax.any (λo=>o.words.contains w)
structure fJ where
 kind:Nat:=0
 name:tLB:=[]
 ns:List bE:=[⟨0,eE⟩,⟨0,eE⟩,⟨0,eE⟩]
 x:fG:=⟨0,⟨[],[],0,0,0,0,0,[],[],eE⟩⟩
def iy(w:tLB):Bool:=w==[109,97,112]||w==[102,117,110,99]||(dz w).isSome||l8 w
def gy(l:tLB):Option fJ :=
 if nameB (aQ l).1 then
  (gT (aQ l).2).bind λa=>(gT a.2).bind λb=>(gT b.2).bind λc=>if aC c.2=[]then eC {kind:=1,name:=(aQ l).1,ns:=[a.1,b.1,c.1]}else ez
 else ez
def dP(t:tLB):Option fJ :=
 (sQ t).bind λl =>
  if aC l=[]then eC {}
  else if bB 58 (aQ l).2 then
   (if aC (bC 58 (aQ l).2)=[]/\nameB (aQ l).1=eJ/\iy (aQ l).1=eE then eC {kind:=3,name:=(aQ l).1}else ez)
  else if(aQ l).1=[109,97,112]then gy (aC (aQ l).2)
  else if(aQ l).1=[102,117,110,99]then
   (if nameB (aQ (aC (aQ l).2)).1=eJ/\aC (aQ (aC (aQ l).2)).2=[]then eC {kind:=2,name:=(aQ (aC (aQ l).2)).1}else ez)
  else(nj (aQ l).1 (aC (aQ l).2)).map λx=>{kind:=4,x:=x}
theorem Uj(v base d:Nat)(hb:base=10\/base=16)(hd:d<=15):(decide (18446744073709551616<=v*base+d)=(decide (18446744073709551616<=v)||decide ((18446744073709551615-d)/base<v%18446744073709551616))) /\ (v*base+d)%18446744073709551616=(v%18446744073709551616*base+d)%18446744073709551616:=by
 constructor
 ·rw[Bool.eq_iff_iff];simp only[Bool.or_eq_true,decide_eq_true_eq];rcases hb with rfl|rfl
  ·constructor
   ·intro h;by_cases hv:18446744073709551616<=v
    ·exact .inl hv
    ·right;rw[ab (by omega)];omega
   ·rintro(h|h)
    ·omega
    ·by_cases hv:18446744073709551616<=v
     ·omega
     ·rw[ab (by omega)]at h;omega
  ·constructor
   ·intro h;by_cases hv:18446744073709551616<=v
    ·exact .inl hv
    ·right;rw[ab (by omega)];omega
   ·rintro(h|h)
    ·omega
    ·by_cases hv:18446744073709551616<=v
     ·omega
     ·rw[ab (by omega)]at h;omega
 ·rw[Nat.add_mod,Nat.mul_mod]
  conv=>rhs;rw[Nat.add_mod,Nat.mul_mod,Nat.mod_mod]
theorem wrap64(x:Int):IntKind.u64.wrap x=x%18446744073709551616:=by simp[IntKind.wrap,IntKind.signed,IntKind.bits]
