import Derived.Test.YtekmhcbefnmflaaGreatDoorCL09
import Derived.Laws.EntriesVeiled
import Derived.Test.YtekmhcbefnmflaaGreatDoorCL10
namespace Go.Proofs.YtekmhcbefnmflaaGreatDoor
open Go.RowKit Tryz
open List renaming getElem_mem->ab,all_eq_true->an,getElem_append_right->ao,getElem_append_left->ar,length_map->bh,take_of_length_le->b5,all_toArray->cb,not_mem_nil->cj,length->ee
open Nat renaming zero_le->bt,le_refl->b9
open Bool renaming true->eJ,false->eE
open Ending renaming returned->fR
open Obj renaming cells->eR
open Option renaming some->eC,none->ez
open Value renaming func->eL,agg->fW,bool->fS,nilFunc->oY,string->eI,slice->eK
open _root_.Go renaming TypeId->gh,Value->eM,FuncId->kO,Calls->fL,bodyPost_ret->iz,results_cell_row->mz,bits->pd,setRow_other->ud,wpList_store_row->oX
set_option linter.all false
set_option maxRecDepth 100000
set_option maxHeartbeats 2000000
def EG(w:tW)(k:Nat):Prop:=∃cs t fr,w.heap[k]?=eC (eR cs t fr)/\(t=158\/t=138\/t=297)
def Kp(w w':tW):Prop:=aa (EG w) w w'
theorem aa.kp{w w':tW}(m:aa ah w w'):Kp w w':=m.mono (λ_ _ h=>h.elim)
theorem Kp.trans{w w' w'':tW}(h:Kp w w')(k:Kp w' w''):Kp w w'' :=
 aa.step h k (λi hi ⟨cs,t,fr,hb,ht⟩=>by refine Classical.byContradiction λhn=>hn ?_;rw[h.block i hi hn]at hb;exact⟨cs,t,fr,hb,ht⟩)
theorem Kp.not{w:tW}{g:Nat}{cs:tAV}{t:gh}(h:ak w g cs t)(ht:t≠158/\t≠138/\t≠297):¬EG w g:=by
 rintro⟨cs',t',fr,h',ht'⟩;rw[show w.heap[g]?=eC (eR cs t (0,0))from h]at h';cases h';rcases ht' with h|h|h
 ·exact ht.1 h
 ·exact ht.2.1 h
 ·exact ht.2.2 h
theorem ak.kp{w w':tW}{g:Nat}{cs:tAV}{t:gh}(h:ak w g cs t)(m:Kp w w')(ht:t≠158/\t≠138/\t≠297):ak w' g cs t:=h.ae m (Kp.not h ht)
theorem Sl.kp{w w':tW}{e:gh}{size:Nat}{v:eM}{n:Nat}{xs:tLV}(h:Sl w e size v n xs)(m:Kp w w')(he:e≠158/\e≠138/\e≠297):Sl w' e size v n xs:=by
 refine h.ae m λk hk hn=>?_;rcases h.2 with⟨rfl,rfl⟩ |⟨g,cap,cur,rfl,_,hg,_⟩
 ·cases hk
 ·cases hk;exact Kp.not (cs:=cur) hg he hn
theorem aa.F9{w w':tW}{v:eM}{n:Nat}{xs:tLV}(h:Sl w 138 1 v n xs)(m:aa (λk=>v.ownBlock=eC k) w w'):Kp w w' :=
 m.mono λk _ hk=>by
  rcases h.2 with⟨rfl,rfl⟩ |⟨g,cap,cur,rfl,_,hg,_⟩
  ·cases hk
  ·cases hk;exact⟨_,_,_,hg,.inr (.inl rfl)⟩
theorem aa.aet{w w':tW}{b:Nat}{cs:tAV}(h:ak w b cs 297)(m:aa (Only b) w w'):Kp w w' :=
 m.mono λk _ hk=>by have:k=b:=hk;subst this;exact⟨_,_,_,h,.inr (.inr rfl)⟩
structure PV where
 f1:Fn
 c1:tAV
 k2:kO
 c2:tAV
 k3:kO
 c3:tAV
def PV.cells(v:PV)(n:Nat):tLV:=[vI n,eL v.f1 #[] v.c1,eL (.func v.k2) #[] v.c2,eL (.func v.k3) #[] v.c3]
def ym(k:kO):Prop:=∀args w,(callFunc k args).run prog w=.ok (.enter k args) w
structure UK(w:tW)(rd:dA->Option dA)(f:Fn)(c:tAV):Prop where
 ex:∃k,f=.func k/\ym k/\∀w' b op r,Kp w w'->(∀w'',aa (Only b) w' w''->Env w'')->ak w' b (dA.cells op r) 297->ee r.rest<=1000000->fL prog k (#[vP b]++c) w' λe w''=>bO w' b op (rd r) e w''
theorem UK.kp{w w':tW}{rd:dA->Option dA}{f:Fn}{c:tAV}(h:UK w rd f c)(m:Kp w w'):UK w' rd f c:=by obtain⟨k,h1,h2,h3⟩:=h.ex;exact⟨k,h1,h2,λw2 b op r m2=>h3 w2 b op r (m.trans m2)⟩
structure PV.Ok(w:tW)(p:PK)(v:PV):Prop where
 wr:True
 ri:∀w' x,Kp w w'->x.Fit->fL prog v.k3 (#[fW x.cells]++v.c3) w' λe w''=>e=fR (fS (p.right x))/\aa ah w' w''
 e2:ym v.k2
 e3:ym v.k3
 rd:UK w p.read v.f1 v.c1
theorem PV.Ok.kp{w w':tW}{p:PK}{v:PV}(h:v.Ok w p)(m:Kp w w'):v.Ok w' p :=
 ⟨trivial,λw2 x m2=>h.ri w2 x (m.trans m2),h.e2,h.e3,h.rd.kp m⟩
def jC(w:tW)(p:PK)(e:Ending)(w':tW):Prop:=∃v:PV,e=fR (fW (v.cells p.fills).toArray)/\v.Ok w' p/\aa ah w w'
theorem oD(w:tW):fL prog 113 #[] w λe w'=>jC w .source e w':=by go_in;go_wp2_with fail;refine iz (mz results113 _ _ w.heap.size 225 _ (0,0) _ rfl (ak.new _ _ _) underlying225 rfl (by kernel_rfl)) rfl ⟨⟨_,_,_,_,_,_⟩,rfl,?_,aq⟩;exact⟨trivial,λw' x _ hx=>by simpa using Ue x hx w',enters_of func196 (by kernel_rfl) rfl,enters_of func198 (by kernel_rfl) rfl,⟨_,rfl,enters_of func194 (by kernel_rfl) rfl,λw' b op r _ hE h hl=>by simpa [PK.read]using Pr b op r w' h hl hE⟩⟩
theorem AX(w:tW):fL prog 123 #[] w λe w'=>e=fR (fW #[vI 1,eL (.func 229) #[] #[],eL (.func 230) #[] #[],eL (.func 231) #[] #[]])/\aa ah w w':=by go_in;go_wp2_with fail;exact iz (mz results123 _ _ w.heap.size 225 _ (0,0) _ rfl (ak.new _ _ _) underlying225 rfl (by kernel_rfl)) rfl ⟨rfl,aq⟩
theorem mD(w:tW):fL prog 123 #[] w λe w'=>jC w .operand e w' :=
 (AX w).mono λ_ _ h=>⟨⟨_,_,_,_,_,_⟩,h.1,⟨trivial,λw' x _ hx=>by simpa using Uf x hx w',enters_of func230 (by kernel_rfl) rfl,enters_of func231 (by kernel_rfl) rfl,⟨_,rfl,enters_of func229 (by kernel_rfl) rfl,λw' b op r _ hE h hl=>by simpa [PK.read]using ED b op r w' h hl hE⟩⟩,h.2⟩
theorem uh(w:tW):fL prog 114 #[] w λe w'=>jC w .number e w':=by go_in;go_wp2_with fail;refine iz (mz results114 _ _ w.heap.size 225 _ (0,0) _ rfl (ak.new _ _ _) underlying225 rfl (by kernel_rfl)) rfl ⟨⟨_,_,_,_,_,_⟩,rfl,?_,aq⟩;exact⟨trivial,λw' x _ hx=>by simpa [PK.right]using qI x w',enters_of func201 (by kernel_rfl) rfl,enters_of func203 (by kernel_rfl) rfl,⟨_,rfl,enters_of func199 (by kernel_rfl) rfl,λw' b op r _ hE h hl=>by simpa [PK.read]using Pw b op r w' h hl⟩⟩
theorem xB(w:tW):fL prog 124 #[] w λe w'=>jC w .label e w':=by go_in;go_wp2_with fail;refine iz (mz results124 _ _ w.heap.size 225 _ (0,0) _ rfl (ak.new _ _ _) underlying225 rfl (by kernel_rfl)) rfl ⟨⟨_,_,_,_,_,_⟩,rfl,?_,aq⟩;exact⟨trivial,λw' x _ hx=>by simpa [PK.right]using qI x w',enters_of func233 (by kernel_rfl) rfl,enters_of func203 (by kernel_rfl) rfl,⟨_,rfl,enters_of func232 (by kernel_rfl) rfl,λw' b op r _ hE h hl=>by simpa [PK.read]using Ps b op r w' h hl⟩⟩
theorem ui(w:tW):fL prog 129 #[] w λe w'=>jC w .offset e w':=by go_in;go_wp2_with fail;refine iz (mz results129 _ _ w.heap.size 225 _ (0,0) _ rfl (ak.new _ _ _) underlying225 rfl (by kernel_rfl)) rfl ⟨⟨_,_,_,_,_,_⟩,rfl,?_,aq⟩;exact⟨trivial,λw' x _ hx=>by simpa [PK.right]using qI x w',enters_of func251 (by kernel_rfl) rfl,enters_of func203 (by kernel_rfl) rfl,⟨_,rfl,enters_of func250 (by kernel_rfl) rfl,λw' b op r _ hE h hl=>by simpa [PK.read]using Py b op r w' h hl⟩⟩
theorem PO(w:tW):fL prog 133 #[] w λe w'=>jC w .wide e w':=by go_in;go_wp2_with fail;refine iz (mz results133 _ _ w.heap.size 225 _ (0,0) _ rfl (ak.new _ _ _) underlying225 rfl (by kernel_rfl)) rfl ⟨⟨_,_,_,_,_,_⟩,rfl,?_,aq⟩;exact⟨trivial,λw' x _ hx=>by simpa using Pf x hx w',enters_of func257 (by kernel_rfl) rfl,enters_of func258 (by kernel_rfl) rfl,⟨_,rfl,enters_of func256 (by kernel_rfl) rfl,λw' b op r _ hE h hl=>by simpa [PK.read]using K4 b op r w' h hl⟩⟩
theorem lJ(w:tW):fL prog 111 #[] w λe w'=>jC w .result e w':=by
 go_in;go_wp2_with fail;refine(AX _).mono ?_;rintro e w1 ⟨rfl,m1⟩;have hz:ak (w1.alloc (eR #[vI 1,eL (.func 229) #[] #[],eL (.func 230) #[] #[],eL (.func 192) #[] #[]] 225)) w.heap.size #[vI 0,oY,oY,oY] 225:=((ak.new w _ _).ae m1 id).alloc _;have z0:=hz.cell 0;have z1:=hz.cell 1;have z2:=hz.cell 2;have z3:=hz.cell 3;have f0:=hz.frozen 0;have f1':=hz.frozen 1;have f2:=hz.frozen 2;have f3:=hz.frozen 3;simp at z0 z1 z2 z3;go_wp2_with fail;refine iz (mz results111 _ _ w.heap.size 225 _ (0,0) _ rfl ((((hz.set 0 _).set 1 _).set 2 _).set 3 _) underlying225 rfl (by kernel_rfl)) rfl ⟨⟨_,_,_,_,_,_⟩,rfl,?_,?_⟩
 ·exact⟨trivial,λw' x _ hx=>by simpa using Ug x hx w',enters_of func230 (by kernel_rfl) rfl,enters_of func192 (by kernel_rfl) rfl,⟨_,rfl,enters_of func229 (by kernel_rfl) rfl,λw' b op r _ hE h hl=>by simpa [PK.read]using ED b op r w' h hl hE⟩⟩
 ·iterate 4 refine aa.set ?_ (.inr (by simp)) _
  exact(aq.trans m1).alloc _
abbrev NM(b g:Nat):tAV:=#[vI 0,eL (.func 296) #[] #[vP b],eL (.func 297) #[] #[vP g],eL (.func 203) #[] #[]]
theorem Cc(w:tW)(b:Nat)(t:tBA):fL prog 193 #[vB b,eI t] w λe w' => e=fR (fW (NM w.heap.size (w.heap.size+1)))/\ak w' (w.heap.size+1) #[eI t] 9/\ak w' w.heap.size #[vB b] 5/\aa ah w w':=by
 have hb3:ak (((w.alloc (eR #[vB b] 5)).alloc (eR #[eI t] 9)).alloc (eR (NM w.heap.size (w.heap.size+1)) 225)) (w.heap.size+1+1) (NM w.heap.size (w.heap.size+1)) 225:=by
  have:=ak.new ((w.alloc (eR #[vB b] 5)).alloc (eR #[eI t] 9)) (NM w.heap.size (w.heap.size+1)) 225
  simpa using this
 have hb:ak ((w.alloc (eR #[vB b] 5)).alloc (eR #[eI t] 9)) (w.heap.size+1) #[eI t] 9:=by
  have:=ak.new (w.alloc (eR #[vB b] 5)) #[eI t] 9
  simpa using this
 go_in;go_wp2_with fail;exact iz (mz results193 _ _ (w.heap.size+1+1) 225 _ (0,0) _ rfl hb3 underlying225 rfl (by kernel_rfl)) rfl ⟨rfl,hb.alloc _,((ak.new w _ _).alloc _).alloc _,(aq.alloc _).alloc _⟩
theorem Ga(w:tW)(b g:Nat)(t:tBA)(p:PK)(hw:∀x,T (p.write x)=t)(hr:∀x,p.right x=eJ)(hb:ak w g #[eI t] 9)(c:UInt8)(hc:∀r,p.read r=r.mark c)(hB:ak w b #[vB (c.toNat:Int)] 5):PV.Ok w p ⟨.func 296,#[vP b],297,#[vP g],203,#[]⟩:=by exact⟨trivial,λw' x _ hx=>by rw[hr];simpa using qI x w',enters_of func297 (by kernel_rfl) rfl,enters_of func203 (by kernel_rfl) rfl,⟨_,rfl,enters_of func296 (by kernel_rfl) rfl,λw' b' op r m _ h hl=>by rw[hc];exact K3 b' b c op r w' h (hB.kp m (by decide)) hl⟩⟩
theorem gj(w:tW):fL prog 112 #[] w λe w'=>jC w .comma e w':=by
 go_in;go_wp2_with fail;refine(Cc _ 44 (T [44,32])).mono ?_;rintro e w1 ⟨rfl,hb1,hB1,m1⟩;have hz:ak w1 w.heap.size #[vI 0,oY,oY,oY] 225:=(ak.new w _ _).ae m1 id;have z0:=hz.cell 0;have z1:=hz.cell 1;have z2:=hz.cell 2;have z3:=hz.cell 3;have f0:=hz.frozen 0;have f1:=hz.frozen 1;have f2:=hz.frozen 2;have f3:=hz.frozen 3;simp at z0 z1 z2 z3 hb1 hB1;go_wp2_with fail;refine iz (mz results112 _ _ w.heap.size 225 _ (0,0) _ rfl ((((hz.set 0 _).set 1 _).set 2 _).set 3 _) underlying225 rfl (by kernel_rfl)) rfl ⟨⟨_,_,_,_,_,_⟩,rfl,?_,?_⟩
 ·refine Ga _ _ _ (T [44,32]) .comma (λ_=>rfl) (λ_=>rfl) ?_ 44 (λ_=>rfl) ?_
  ·iterate 4 refine ak.setOther ?_ (by simp;omega) _
   exact hb1
  ·iterate 4 refine ak.setOther ?_ (by simp) _
   exact hB1
 ·iterate 4 refine aa.set ?_ (.inr (by simp)) _
  exact aq.trans m1
theorem xC(w:tW):fL prog 128 #[] w λe w'=>jC w .opens e w':=by
 go_in;go_wp2_with fail;refine(Cc _ 91 (T [91])).mono ?_;rintro e w1 ⟨rfl,hb1,hB1,m1⟩;have hz:ak w1 w.heap.size #[vI 0,oY,oY,oY] 225:=(ak.new w _ _).ae m1 id;have z0:=hz.cell 0;have z1:=hz.cell 1;have z2:=hz.cell 2;have z3:=hz.cell 3;have f0:=hz.frozen 0;have f1:=hz.frozen 1;have f2:=hz.frozen 2;have f3:=hz.frozen 3;simp at z0 z1 z2 z3 hb1 hB1;go_wp2_with fail;refine iz (mz results128 _ _ w.heap.size 225 _ (0,0) _ rfl ((((hz.set 0 _).set 1 _).set 2 _).set 3 _) underlying225 rfl (by kernel_rfl)) rfl ⟨⟨_,_,_,_,_,_⟩,rfl,?_,?_⟩
 ·refine Ga _ _ _ (T [91]) .opens (λ_=>rfl) (λ_=>rfl) ?_ 91 (λ_=>rfl) ?_
  ·iterate 4 refine ak.setOther ?_ (by simp;omega) _
   exact hb1
  ·iterate 4 refine ak.setOther ?_ (by simp) _
   exact hB1
 ·iterate 4 refine aa.set ?_ (.inr (by simp)) _
  exact aq.trans m1
theorem zH(w:tW):fL prog 130 #[] w λe w'=>jC w .shut e w':=by
 go_in;go_wp2_with fail;refine(Cc _ 93 (T [93])).mono ?_;rintro e w1 ⟨rfl,hb1,hB1,m1⟩;have hz:ak w1 w.heap.size #[vI 0,oY,oY,oY] 225:=(ak.new w _ _).ae m1 id;have z0:=hz.cell 0;have z1:=hz.cell 1;have z2:=hz.cell 2;have z3:=hz.cell 3;have f0:=hz.frozen 0;have f1:=hz.frozen 1;have f2:=hz.frozen 2;have f3:=hz.frozen 3;simp at z0 z1 z2 z3 hb1 hB1;go_wp2_with fail;refine iz (mz results130 _ _ w.heap.size 225 _ (0,0) _ rfl ((((hz.set 0 _).set 1 _).set 2 _).set 3 _) underlying225 rfl (by kernel_rfl)) rfl ⟨⟨_,_,_,_,_,_⟩,rfl,?_,?_⟩
 ·refine Ga _ _ _ (T [93]) .shut (λ_=>rfl) (λ_=>rfl) ?_ 93 (λ_=>rfl) ?_
  ·iterate 4 refine ak.setOther ?_ (by simp;omega) _
   exact hb1
  ·iterate 4 refine ak.setOther ?_ (by simp) _
   exact hB1
 ·iterate 4 refine aa.set ?_ (.inr (by simp)) _
  exact aq.trans m1
structure PartsAt(w:tW)(v:eM)(ps:List PK):Prop where
 ex:∃pv:List (PK×PV),pv.map (·.1)=ps/\(∀x∈pv,x.2.Ok w x.1)/\Sl w 225 4 v (ee pv) (pv.flatMap (λx=>x.2.cells x.1.fills))
theorem PartsAt.kp{w w':tW}{v:eM}{ps:List PK}(h:PartsAt w v ps)(m:Kp w w'):PartsAt w' v ps:=by obtain⟨pv,h1,h2,h3⟩:=h.ex;exact⟨pv,h1,λx hx=>(h2 x hx).kp m,h3.kp m (by decide)⟩
theorem PartsAt.ae{w w':tW}{v:eM}{ps:List PK}(h:PartsAt w v ps)(m:aa ah w w'):PartsAt w' v ps:=h.kp m.kp
theorem Cd{w:tW}{pv:List (PK×PV)}{v:eM}(h:Sl w 225 4 v (ee pv) (pv.flatMap (λx=>x.2.cells x.1.fills))){o:Option Addr}{c:Nat}(hv:v=eK o (ee pv) c)(k:Nat)(hk:k<ee pv):∃g,o=eC ⟨g,0,ez⟩/\g<w.heap.size/\w.cell? ⟨g,k*4,ez⟩=eC (vI pv[k].1.fills)/\w.cell? ⟨g,k*4+1,ez⟩=eC (eL pv[k].2.f1 #[] pv[k].2.c1) /\ w.cell? ⟨g,k*4+2,ez⟩=eC (eL (.func pv[k].2.k2) #[] pv[k].2.c2)/\w.cell? ⟨g,k*4+3,ez⟩=eC (eL (.func pv[k].2.k3) #[] pv[k].2.c3):=by
 obtain⟨o',c',hv',h2⟩:=h.view;rw[hv]at hv';cases hv';obtain⟨g,cs,rfl,hb,ht,_⟩:=h2 (by omega);refine⟨g,rfl,hb.lt,?_,?_,?_,?_⟩
 all_goals rw[aX hb ht _ (by omega)]
 ·exact(flat_get (λx:PK×PV=>x.2.cells x.1.fills) 4 (λ_=>rfl) pv k 0 hk (by omega)).trans rfl
 ·exact(flat_get (λx:PK×PV=>x.2.cells x.1.fills) 4 (λ_=>rfl) pv k 1 hk (by omega)).trans rfl
 ·exact(flat_get (λx:PK×PV=>x.2.cells x.1.fills) 4 (λ_=>rfl) pv k 2 hk (by omega)).trans rfl
 ·exact(flat_get (λx:PK×PV=>x.2.cells x.1.fills) 4 (λ_=>rfl) pv k 3 hk (by omega)).trans rfl
theorem yM(f b:Nat)(hf:f<16)(hb:b<16):pd .and .i64 (f:Int) (b:Int)=((f &&& b:Nat):Int) :=
 (bits_nat .i64 4 (by decide) (λn h0 h1=>by rw[IntKind.wrap_i64];omega) f b (by omega) (by omega)).1
theorem UL(f b:Nat)(hf:f<16)(hb:b<16):pd .or .i64 (f:Int) (b:Int)=((f ||| b:Nat):Int) :=
 (bits_nat .i64 4 (by decide) (λn h0 h1=>by rw[IntKind.wrap_i64];omega) f b (by omega) (by omega)).2
theorem Ce(x:dQ)(f:Nat)(hf:f<16)(w:tW):fL prog 262 #[fW x.cells,vI f] w λe w'=>e=fR (fS (cK x f))/\aa ah w w':=by
 obtain⟨op,d,s,jump,num,high,label,name⟩:=x;unfold dQ.cells at *;simp only at *;have a0:pd .and .i64 (f:Int) 1=((f%2:Nat):Int):=by rw[<-Nat.and_one_is_mod];exact yM f 1 hf (by omega)
 have a1:pd .and .i64 (f:Int) 2=((f &&& 2:Nat):Int):=yM f 2 hf (by omega);have a2:pd .and .i64 (f:Int) 4=((f &&& 4:Nat):Int):=yM f 4 hf (by omega);have a3:pd .and .i64 (f:Int) 8=((f &&& 8:Nat):Int):=yM f 8 hf (by omega);go_in;go_wp2_with fail
 all_goals (go_ret;refine⟨?_,aq⟩)
 all_goals first
  |(simp[cK, *];done)
  |(simp[cK, *];rfl)
  |(have hz:f%2=0:=(by omega);simp[cK, *];done)
  |(have hz:f%2=0:=(by omega);simp[cK, *];rfl)
  |(have hz:f%2≠0:=(by omega);simp[cK, *];done)
  |(have hz:f%2≠0:=(by omega);simp[cK, *];rfl)
theorem IG(p:PK):p.fills<16:=by unfold PK.fills;split<;>decide
theorem EH(ps:List PK):dM ps<16:=by
 have h:∀(l:List PK) (f:Nat),f<16->l.foldl (λf p=>f ||| p.fills) f<16:=by
  intro l;induction l with
  |nil=>intro f h;exact h
  |cons p l ih=>intro f h;exact ih _ (Nat.or_lt_two_pow (n:=4) h (IG p))
 exact h ps 0 (by decide)
structure aaL(w:tW)(X:tAV)(pv:List (PK×PV))(ri:Nat->Bool):Prop where
 call:∀k (hk:k<ee pv) w',aa ah w w'->fL prog pv[k].2.k3 (#[fW X]++pv[k].2.c3) w' λe w''=>e=fR (fS (ri k))/\aa ah w' w''
 en:∀k (hk:k<ee pv),ym pv[k].2.k3
theorem acK(x:dQ)(hx:x.Fit)(w:tW)(pv:List (PK×PV))(hok:∀y∈pv,y.2.Ok w y.1):aaL w x.cells pv (λk=>if h:k<ee pv then PK.right x pv[k].1 else eE) where
 call:=λk hk w' m=>by
  have:=(hok pv[k] (ab hk)).ri w' x m.kp hx
  simpa only[dif_pos hk]using this
 en:=λk hk=>(hok pv[k] (ab hk)).e3
theorem UM(op:eM)(d s:Nat)(jump num high:Int)(label name:tBA)(w:tW)(b1 b2 f:Nat)(hf:f<16)(o:Option Addr)(c:Nat)(pv:List (PK×PV))(hp:ak w b1 #[eK o (ee pv) c] 227)(hf2:ak w b2 #[vI f] 223)(hS:Sl w 225 4 (eK o (ee pv) c) (ee pv) (pv.flatMap (λx=>x.2.cells x.1.fills))) (hpl:ee pv<=10) (ri:Nat->Bool) (hL:aaL w #[op,vB d,vB s,.int .i16 jump,vJ num,vJ high,eI label,eI name] pv ri):fL prog 306 #[fW #[op,vB d,vB s,.int .i16 jump,vJ num,vJ high,eI label,eI name],vP b1,vP b2] w λe w' => e=fR (fS ((List.range (ee pv)).all ri&&cK ⟨op,d,s,jump,num,high,label,name⟩ f))/\aa ah w w':=by
 have HL:=ai hL;clear hL;have HO:=Ce ⟨op,d,s,jump,num,high,label,name⟩ f hf;generalize cK ⟨op,d,s,jump,num,high,label,name⟩ f=ob at *;unfold dQ.cells at HO;simp only at HO;have HO':af _:=HO;clear HO;have m1:aa ah w (w.alloc (eR #[op,vB d,vB s,.int .i16 jump,vJ num,vJ high,eI label,eI name] 141)):=aq;have c1:=(hp.ae m1 id).cell 0;have HI:=ai (ak.new w #[op,vB d,vB s,.int .i16 jump,vJ num,vJ high,eI label,eI name] 141);have dB:af _:=m1;have HF:=ai hf2;have HS:=ai hS;simp at c1;clear m1 hf2 hS hp;go_in;go_wp2_with fail;go_loopw [9] (λi wl=>∃k:Nat,k<=ee pv/\i=vI k/\aa ah (w.alloc (eR #[op,vB d,vB s,.int .i16 jump,vJ num,vJ high,eI label,eI name] 141)) wl/\(List.range k).all ri=eJ) (λi _=>ee pv-(intOf i).toNat)
 case atStart=>exact⟨0,bt _,rfl,aA,rfl⟩
 case round =>
  obtain⟨k,hk,rfl,m2,hr⟩:=hrel;have HR:=ai hr;have dV:=ai (dB.o.trans m2);have HI2:=ai (HI.o.ae m2 id);clear hr;by_cases hlt:k<ee pv
  ·have HC:=ai (HL.o.call k hlt);have hen:=HL.o.en k hlt;obtain⟨g,rfl,hg,q0,q1,q2,q3⟩:=Cd (HS.o.ae dV.o (λ_ _=>id)) rfl k hlt;generalize pv[k]=y at *;obtain⟨pk,f1,c1',k2,c2,k3,c3⟩:=y;simp only at HC q0 q1 q2 q3 hen;unfold ym at hen;have eH:=ai (dV.o.alloc (eR #[vI pk.fills,eL f1 #[] c1',eL (.func k2) #[] c2,eL (.func k3) #[] c3] 225));have II:ak (wr.alloc (eR #[vI pk.fills,eL f1 #[] c1',eL (.func k2) #[] c2,eL (.func k3) #[] c3] 225)) w.heap.size #[op,vB d,vB s,.int .i16 jump,vJ num,vJ high,eI label,eI name] 141:=HI2.o.alloc _;obtain⟨i0,i1,i2,i3,i4,i5,i6,i7⟩:=II.aO;clear II;have EJ:af _:=m2;clear m2;go_wp2_with fail;refine(HC.o _ eH.o).mono ?_;rintro e w4 ⟨rfl,m4⟩;clear i0 i1 i2 i3 i4 i5 i6 i7;cases hri:ri k with
   |false =>
    have HA:af ((List.range (ee pv)).all ri=eE):=by rw[af,List.all_eq_false];exact⟨k,List.mem_range.2 hlt,by simp[hri]⟩
    go_wp2_with fail;go_ret;rw[HA.o];exact⟨rfl,eH.o.trans m4⟩
   |true =>
    go_wp2_with fail;go_roundw
    case rel=>exact⟨k+1,by omega,by go_num,(EJ.o.alloc _).trans m4,by rw[List.range_succ,List.all_append,HR.o];simp[hri]⟩
    case measure=>simp[intOf];omega
  ·have hke:k=ee pv:=by omega
   subst hke;obtain⟨i0,i1,i2,i3,i4,i5,i6,i7⟩:=HI2.o.aO;have c2:=(HF.o.ae dV.o id).cell 0;simp at c2;go_wp2_with fail;refine(HO'.o _).mono ?_;rintro e w4 ⟨rfl,m4⟩;go_wp2_with fail;go_ret;rw[HR.o];exact⟨rfl,dV.o.trans m4⟩
theorem PQ(pv:List (PK×PV))(x:dQ):(List.range (ee pv)).all (λk=>if h:k<ee pv then PK.right x pv[k].1 else eE)=(pv.map (·.1)).all (PK.right x):=by
 rw[Bool.eq_iff_iff,an,an];constructor
 ·intro h p hp;obtain⟨y,hy,rfl⟩:=List.mem_map.1 hp;obtain⟨k,hk,rfl⟩:=List.getElem_of_mem hy;have:=h k (List.mem_range.2 hk)
  simpa only[dif_pos hk]using this
 ·intro h k hk;have hk':=List.mem_range.1 hk;simp only[dif_pos hk'];exact h _ (List.mem_map.2 ⟨pv[k],ab hk',rfl⟩)
theorem PS(x:dQ)(hx:x.Fit)(w:tW)(b1 b2 f:Nat)(v:eM)(ps:List PK)(hf:f<16)(hp:ak w b1 #[v] 227)(hf2:ak w b2 #[vI f] 223)(hP:PartsAt w v ps)(hpl:ee ps<=10):fL prog 306 #[fW x.cells,vP b1,vP b2] w λe w'=>e=fR (fS (ps.all (PK.right x)&&cK x f))/\aa ah w w':=by obtain⟨pv,rfl,hok,hS⟩:=hP.ex;obtain⟨o,c,rfl,_⟩:=hS.view;rw[bh]at hpl;have h:=UM x.op x.d x.s x.jump x.num x.high x.label x.name w b1 b2 f hf o c pv hp hf2 hS hpl _ (acK x hx w pv hok);rw[PQ]at h;exact h
def wI(ps:List PK)(k:Nat):Nat:=dM (ps.take k)
theorem K9(ps:List PK)(k:Nat)(h:k<ee ps):wI ps (k+1)=wI ps k ||| ps[k].fills:=by unfold wI dM;rw[List.take_succ_eq_append_getElem h,List.foldl_append];rfl
theorem UN(w:tW)(v:eM)(ps:List PK)(hP:PartsAt w v ps)(hpl:ee ps<=10):fL prog 222 #[v] w λe w'=>e=fR (eL (.func 306) #[] #[vP (w.heap.size),vP (w.heap.size+1)]) /\ ak w' w.heap.size #[v] 227/\ak w' (w.heap.size+1) #[vI (dM ps)] 223/\aa ah w w':=by
 obtain⟨pv,rfl,hok,hS⟩:=hP.ex;clear hok hP;obtain⟨o,c,rfl,_⟩:=hS.view;rw[bh]at hpl;have HE:af (wI (pv.map (·.1)) (ee pv)=dM (pv.map (·.1))):=by rw[af,wI,b5 (by simp)]
 have PT:af (∀k (h:k<ee pv),wI (pv.map (·.1)) (k+1)=wI (pv.map (·.1)) k ||| pv[k].1.fills):=λk h=>by
  have:=K9 (pv.map (·.1)) k (by simpa using h)
  simpa using this
 have HLt:af (∀k,wI (pv.map (·.1)) k<16):=λk=>EH _;have H0:af (wI (pv.map (·.1)) 0=0):=rfl;rw[<-HE.o];clear HE;generalize wI (pv.map (·.1))=F at *;have hb1:ak ((w.alloc (eR #[eK o (ee pv) c] 227)).alloc (eR #[vI 0] 223)) w.heap.size #[eK o (ee pv) c] 227:=(ak.new w _ _).alloc _
 have hb2:ak ((w.alloc (eR #[eK o (ee pv) c] 227)).alloc (eR #[vI 0] 223)) (w.heap.size+1) #[vI 0] 223:=by
  have:=ak.new (w.alloc (eR #[eK o (ee pv) c] 227)) #[vI 0] 223
  simpa using this
 have HM:af (aa ah w ((w.alloc (eR #[eK o (ee pv) c] 227)).alloc (eR #[vI 0] 223))):=aq.alloc _;have HB1:=ai hb1;have HB2:=ai hb2;have HS:=ai hS;clear hS hb1 hb2;go_in;go_wp2_with fail;go_loopw [8] (λi wl=>∃k:Nat,k<=ee pv/\i=vI k/\aa ah w wl/\ak wl w.heap.size #[eK o (ee pv) c] 227/\ak wl (w.heap.size+1) #[vI (F k)] 223) (λi _=>ee pv-(intOf i).toNat)
 case atStart=>exact⟨0,bt _,rfl,HM.o,HB1.o,by rw[H0.o];exact HB2.o⟩
 case round =>
  obtain⟨k,hk,rfl,m,h1,h2⟩:=hrel;by_cases hlt:k<ee pv
  ·obtain⟨g,rfl,hg,q0,q1,q2,q3⟩:=Cd (HS.o.ae m (λ_ _=>id)) rfl k hlt;have hst:=PT.o k hlt;have hl:=HLt.o k;have hfl:=IG pv[k].1;have ho:=UL (F k) pv[k].1.fills hl hfl;rw[<-hst]at ho;have HK:=ai hst;clear hst;generalize pv[k]=y at *;obtain⟨pk,f1,c1,k2,c2,k3,c3⟩:=y;simp only at q0 q1 q2 q3 ho hfl;have h1':=h1.alloc (eR #[vI pk.fills,eL f1 #[] c1,eL (.func k2) #[] c2,eL (.func k3) #[] c3] 225);have h2':=h2.alloc (eR #[vI pk.fills,eL f1 #[] c1,eL (.func k2) #[] c2,eL (.func k3) #[] c3] 225);have z2:=h2'.cell 0;have zf:=h2'.frozen 0;simp at z2;have HA:=ai h1';have HB:=ai h2';have xx:=ai m;clear h1 h2 h1' h2' m HK;go_wp2_with fail;go_roundw
   case rel=>exact⟨k+1,by omega,by go_num,(xx.o.alloc _).set (.inr (by simp)) _,HA.o.setOther (by simp) _,HB.o.set 0 _⟩
   case measure=>simp[intOf];omega
  ·have hke:k=ee pv:=by omega
   subst hke;go_wp2_with fail;go_ret;exact⟨rfl,h1,h2,m⟩
theorem Sl.fresh{w:tW}{g n:Nat}{cs:tAV}{e:gh}(h:ak w g cs e)(hn:cs.size=n)(hm:n<=maxLen):Sl w e 1 (eK (eC ⟨g,0,ez⟩) n n) n cs.toList:=by refine⟨by simp[hn],.inr ⟨g,n,cs,rfl,bt _,h,b9 _,hm,by simp[hn],?_⟩⟩;rw[Nat.mul_one,<-hn];exact b5 (by simp)
theorem NN{l:tLB}{x:bE×tLB}(h:gT l=eC x):ee x.2<=ee l:=by
 have h1:=qK 45 l;have h2:=jY (bC 45 l);unfold gT at h;split at h
 ·cases h
 ·obtain⟨v,_,rfl⟩:=Option.map_eq_some_iff.1 h;show(aQ (bC 45 l)).2.length<=_
  omega
theorem YL(p:PK)(r r':dA)(h:p.read r=eC r'):ee r'.rest<=ee r.rest:=by
 have hw:=jY r.rest
 have hm:∀c:UInt8,r.mark c=eC r'->ee r'.rest<=ee r.rest:=λc h=>by
  unfold dA.mark at h;split at h
  ·cases h;exact qK c r.rest
  ·cases h
 have hd:r.BV=eC r'->ee r'.rest<=ee r.rest:=λh=>by unfold dA.BV at h;obtain⟨v,_,rfl⟩:=Option.map_eq_some_iff.1 h;exact hw.2
 have hs:r.Ef=eC r'->ee r'.rest<=ee r.rest:=λh=>by unfold dA.Ef at h;obtain⟨v,_,rfl⟩:=Option.map_eq_some_iff.1 h;exact hw.2
 have hn:r.number=eC r'->ee r'.rest<=ee r.rest:=λh=>by unfold dA.number at h;obtain⟨v,hv,rfl⟩:=Option.map_eq_some_iff.1 h;exact NN hv
 have hl:r.lab=eC r'->ee r'.rest<=ee r.rest:=λh=>by
  unfold dA.lab at h;split at h
  ·cases h;exact hw.2
  ·cases h
 have ho:r.off=eC r'->ee r'.rest<=ee r.rest:=λh=>by
  unfold dA.off at h;split at h
  ·obtain⟨v,hv,rfl⟩:=Option.map_eq_some_iff.1 h;have h1:=qK 45 r.rest;have h2:=jY (bC 45 r.rest);show(aQ (bC 45 r.rest)).2.length<=_
   omega
  ·split at h
   ·obtain⟨v,hv,rfl⟩:=Option.map_eq_some_iff.1 h;have h1:=qK 43 r.rest;have h2:=jY (bC 43 r.rest);show(aQ (bC 43 r.rest)).2.length<=_
    omega
   ·cases h;exact iL r.rest
 have hwd:r.wide=eC r'->ee r'.rest<=ee r.rest:=λh=>by
  unfold dA.wide at h;split at h
  ·split at h
   ·cases h;have h2:=jY (aQ r.rest).2;show(aQ (aQ r.rest).2).2.length<=_
    omega
   ·cases h
  ·obtain⟨v,hv,rfl⟩:=Option.map_eq_some_iff.1 h;exact NN hv
 unfold PK.read at h;split at h
 ·exact hm _ h
 ·exact hm _ h
 ·exact hm _ h
 ·exact hd h
 ·exact hd h
 ·exact hs h
 ·exact hn h
 ·exact hl h
 ·exact ho h
 ·exact hwd h
 ·cases h
theorem IJ(ps:List PK)(k:Nat)(h:k<ee ps)(r:dA):readPs (ps.drop k) r=(ps[k].read r).bind (readPs (ps.drop (k+1))):=by rw[List.drop_eq_getElem_cons h,readPs]
theorem PU(b bp:Nat)(op:eM)(r:dA)(v:eM)(ps:List PK)(w:tW)(hb:ak w b (r.cells op) 297)(hp:ak w bp #[v] 227)(hP:PartsAt w v ps)(hpl:ee ps<=10)(hl:ee r.rest<=1000000)(hE:∀w',aa (Only b) w w'->Env w'):fL prog 302 #[vP b,vP bp] w λe w'=>bO w b op (readPs ps r) e w':=by
 obtain⟨pv,rfl,hok,hS⟩:=hP.ex;obtain⟨o,c,rfl,_⟩:=hS.view;rw[bh]at hpl;have AY:=ai hok;have HS:=ai hS;have HB:=ai hb;have HE:=ai hE;have c0:=hp.c0;have Ht:af (∀k,(Value.slice o (ee pv) c).ownBlock=eC k->k≠b):=λk hk e=>by subst e;exact hS.ay hb (by decide) hk
 have HB0:=ai hb;clear hok hS hP hb hE hp;have uf:=ai (λe w' (h:bO w b op (readPs (pv.map (·.1)) r) e w')=>h);generalize hRP:bO w b op (readPs (pv.map (·.1)) r)=RP at *;have XU:=ai hRP;clear hRP uf;go_in;go_wp2_with fail;go_loopg [8] (ee pv) (λq v wx=>∃(k:Nat) (rk:dA),k<=ee pv/\v=vI k/\ak wx b (rk.cells op) 297/\aa (Only b) w wx/\readPs ((pv.map (·.1)).drop k) rk=readPs (pv.map (·.1)) r/\rk.rest.length<=1000000/\q=ee pv-k)
 case atStart=>exact⟨0,r,bt _,rfl,HB.o,aA,rfl,hl,rfl⟩
 case round =>
  obtain⟨k,rk,hk,rfl,hbk,hmk,NQ,hlk,rfl⟩:=hrel;have pQ:=ai hbk;have xx:=ai hmk;have vH:=ai NQ;clear hbk hmk NQ HB c0;by_cases hlt:k<ee pv
  ·have HRs:af (readPs (pv.map (·.1)) r=(pv[k].1.read rk).bind (readPs ((pv.map (·.1)).drop (k+1)))):=by rw[af,<-vH.o,IJ _ k (by simpa using hlt)];simp
   have HOx:=AY.o pv[k] (ab hlt);obtain⟨k1,hf1,hen,Tt⟩:=HOx.rd.ex;have HSk:=HS.o.ae xx.o (λi hi e=>Ht.o i hi e);obtain⟨g,rfl,hg,q0,q1,q2,q3⟩:=Cd HSk rfl k hlt;rw[hf1]at q1;have UO:=ai Tt;have Tu:=ai (YL pv[k].1 rk);clear HOx hf1 Tt HSk vH;generalize pv[k]=y at *;obtain⟨pk,f1,c1,k2,c2,k3,c3⟩:=y;dsimp only at *;unfold ym at hen;have HB3:af (ak (wr.alloc (eR #[vI pk.fills,eL (.func k1) #[] c1,eL (.func k2) #[] c2,eL (.func k3) #[] c3] 225)) b (rk.cells op) 297):=pQ.o.alloc _;have eH:=ai (xx.o.alloc (eR #[vI pk.fills,eL (.func k1) #[] c1,eL (.func k2) #[] c2,eL (.func k3) #[] c3] 225));go_wp2_with fail;refine(UO.o _ b op rk ?_ ?_ HB3.o hlk).mono ?_
   ·exact aa.aet HB0.o eH.o
   ·exact λw'' m=>HE.o _ (eH.o.trans m)
   intro e w4 hpo;obtain⟨rfl,UQ,hat⟩:=hpo;have jh:=ai (eH.o.trans UQ);have HAT:=ai hat;clear UQ hat HB3 eH UO pQ xx q0 q1 q2 q3;cases hx:pk.read rk with
   |none =>
    have HX:af (readPs (pv.map (·.1)) r=ez):=by rw[af,HRs.o,hx];rfl
    go_wp2_with fail;rw[<-XU.o];exact⟨by rw[HX.o];rfl,jh.o,λr' hr'=>by rw[HX.o]at hr';cases hr'⟩
   |some r' =>
    have HX:af (readPs ((pv.map (·.1)).drop (k+1)) r'=readPs (pv.map (·.1)) r):=by rw[af,HRs.o,hx];rfl
    have hle:=Tu.o r' hx;have hB4:=HAT.o r' hx;go_wp2_with fail;go_roundg (ee pv-(k+1))
    case measure=>omega
    case rel=>exact⟨k+1,r',by omega,by go_num,hB4,jh.o,HX.o,by omega,rfl⟩
  ·have hke:k=ee pv:=by omega
   subst hke;have HX:af (readPs (pv.map (·.1)) r=eC rk):=by rw[af,<-vH.o,List.drop_eq_nil_of_le (by simp)];rfl
   go_wp2_with fail;rw[<-XU.o];exact⟨by rw[HX.o];rfl,xx.o,λr' hr'=>by rw[HX.o]at hr';cases hr';exact pQ.o⟩
def KM(k:Nat):kO:=match k with
 |0=>207
 |1=>208
 |2=>210
 |3=>211
 |4=>212
 |5=>213
 |6=>214
 |7=>215
 |8=>216
 |9=>218
 |10=>219
 |_=>121
def cmF(k:Nat):kO:=match k with
 |0=>239
 |1=>240
 |2=>241
 |3=>242
 |_=>248
def csF(k:Nat):kO:=match k with
 |0=>244
 |1=>245
 |2=>246
 |_=>247
def PW(bq:Bool):kO:=if bq then 118 else 119
abbrev xD(k:kO):eM:=eL (.func k) #[] #[]
abbrev pt(b:Nat):eM:=vP b
def iR(w:tW)(f:Fn)(c:tAV)(m k:Nat):Prop:=match m with
 |0=>f=.func 204/\c=#[]
 |1=>f=.func 205/\c=#[]
 |2=>f=.func 225/\∃b,c=#[pt b]/\ak w b #[xD (KM k)] 311
 |3=>f=.func 227/\∃b,c=#[pt b]/\ak w b #[xD (KM k)] 311
 |_=>f=.func 299/\∃b b1 b2,c=#[pt b,pt b1]/\ak w b #[xD (KM k)] 311/\ak w b1 #[eL (.func 225) #[] #[pt b2]] 228/\ak w b2 #[xD (KM k)] 311
def qM(w:tW)(f:Fn)(c:tAV)(m k:Nat):Prop:=match m with
 |0=>f=.func 236/\c=#[]
 |1=>f=.func 237/\c=#[]
 |2=>f=.func 308/\∃b,c=#[pt b]/\ak w b #[xD (cmF k)] 316
 |_=>f=.func 308/\∃b b1,c=#[pt b]/\ak w b #[eL (.func 309) #[] #[pt b1]] 316/\ak w b1 #[xD (csF k)] 318
structure UR where
 t:Nat
 m:Nat
 k:Nat
 bq:Bool
def DoAt(w:tW)(f:Fn)(c:tAV)(d:UR):Prop:=match d.t with
 |0=>f=.func 223/\∃b1 b2 fr cr,c=#[pt b1,pt b2]/\ak w b1 #[eL fr #[] cr] 228/\ak w b2 #[xD (PW d.bq)] 309/\iR w fr cr d.m d.k
 |1=>f=.func 249/\∃b1 b2 fr cr,c=#[pt b1,pt b2]/\ak w b1 #[eL fr #[] cr] 238/\ak w b2 #[xD (PW d.bq)] 309/\qM w fr cr d.m d.k
 |2=>f=.func 125/\c=#[]
 |3=>f=.func 252/\∃b,c=#[pt b]/\ak w b #[vI d.k] 3
 |4=>f=.func 254/\∃b1 b2,c=#[pt b1,pt b2]/\ak w b1 #[vI d.k] 3/\ak w b2 #[xD (PW d.bq)] 309
 |5=>f=.func 134/\c=#[]
 |6=>f=.func 138/\c=#[]
 |_=>f=.func 139/\c=#[]
abbrev PX:List gh:=[228,309,311,238,316,318,3]
theorem iR.blk{w w':tW}{f:Fn}{c:tAV}{m k:Nat}(h:iR w f c m k)(q:∀g cs t,t∈PX->ak w g cs t->ak w' g cs t):iR w' f c m k:=by
 unfold iR at h ⊢;split at h
 ·exact h
 ·exact h
 ·obtain⟨h0,b,h1,h2⟩:=h;exact⟨h0,b,h1,q _ _ _ (by decide) h2⟩
 ·obtain⟨h0,b,h1,h2⟩:=h;exact⟨h0,b,h1,q _ _ _ (by decide) h2⟩
 ·obtain⟨h0,b,b1,b2,h1,h2,h3,h4⟩:=h;exact⟨h0,b,b1,b2,h1,q _ _ _ (by decide) h2,q _ _ _ (by decide) h3,q _ _ _ (by decide) h4⟩
theorem qM.blk{w w':tW}{f:Fn}{c:tAV}{m k:Nat}(h:qM w f c m k)(q:∀g cs t,t∈PX->ak w g cs t->ak w' g cs t):qM w' f c m k:=by
 unfold qM at h ⊢;split at h
 ·exact h
 ·exact h
 ·obtain⟨h0,b,h1,h2⟩:=h;exact⟨h0,b,h1,q _ _ _ (by decide) h2⟩
 ·obtain⟨h0,b,b1,h1,h2,h3⟩:=h;exact⟨h0,b,b1,h1,q _ _ _ (by decide) h2,q _ _ _ (by decide) h3⟩
theorem DoAt.blk{w w':tW}{f:Fn}{c:tAV}{d:UR}(h:DoAt w f c d)(q:∀g cs t,t∈PX->ak w g cs t->ak w' g cs t):DoAt w' f c d:=by
 unfold DoAt at h ⊢;split at h
 ·obtain⟨h0,b1,b2,fr,cr,h1,h2,h3,h4⟩:=h;exact⟨h0,b1,b2,fr,cr,h1,q _ _ _ (by decide) h2,q _ _ _ (by decide) h3,h4.blk q⟩
 ·obtain⟨h0,b1,b2,fr,cr,h1,h2,h3,h4⟩:=h;exact⟨h0,b1,b2,fr,cr,h1,q _ _ _ (by decide) h2,q _ _ _ (by decide) h3,h4.blk q⟩
 ·exact h
 ·obtain⟨h0,b,h1,h2⟩:=h;exact⟨h0,b,h1,q _ _ _ (by decide) h2⟩
 ·obtain⟨h0,b1,b2,h1,h2,h3⟩:=h;exact⟨h0,b1,b2,h1,q _ _ _ (by decide) h2,q _ _ _ (by decide) h3⟩
 ·exact h
 ·exact h
 ·exact h
theorem Kp.PY{w w':tW}(q:Kp w w'):∀g cs t,t∈PX->ak w g cs t->ak w' g cs t:=λ_ _ t ht h =>
 h.kp q ((show ∀t∈PX,t≠158/\t≠138/\t≠297 by decide) t ht)
theorem DoAt.kp{w w':tW}{f:Fn}{c:tAV}{d:UR}(h:DoAt w f c d)(q:Kp w w'):DoAt w' f c d:=h.blk q.PY
theorem iR.ae{w w':tW}{f:Fn}{c:tAV}{m k:Nat}(h:iR w f c m k)(q:aa ah w w'):iR w' f c m k:=h.blk q.kp.PY
theorem qM.ae{w w':tW}{f:Fn}{c:tAV}{m k:Nat}(h:qM w f c m k)(q:aa ah w w'):qM w' f c m k:=h.blk q.kp.PY
theorem DoAt.ae{w w':tW}{f:Fn}{c:tAV}{d:UR}(h:DoAt w f c d)(q:aa ah w w'):DoAt w' f c d:=h.kp q.kp
def m64(k:Nat):Nat:=if k=0 then 0 else if k<3 then 4 else 2
def m32(k:Nat):Nat:=if k=0 then 1 else 3
def jmM(k:Nat):Nat:=if k=0 then 0 else if k=1 then 1 else if k<6 then 2 else if k<10 then 3 else 2
def jmK(k:Nat):Nat:=if k<6 then k-2 else if k<10 then k-6 else 4
def dw(c:Nat):UR :=
 if c<=12 then⟨0,m64 (c-1),c-1-1,eJ⟩
 else if c=13 then⟨0,2,11,eE⟩
 else if c<=28 then⟨0,m32 (c-17),c-17-1,eJ⟩
 else if c=29 then⟨0,3,11,eE⟩
 else if c<=44 then⟨0,m64 (c-33),c-33-1,eE⟩
 else if c<=60 then⟨0,m32 (c-49),c-49-1,eE⟩
 else if c=64 then⟨2,0,0,eE⟩
 else if c<=75 then⟨1,jmM (c-65),jmK (c-65),eJ⟩
 else if c<=107 then⟨1,jmM (c-97),jmK (c-97),eE⟩
 else if c<=131 then⟨3,0,2 ^ (c-128),eE⟩
 else if c<=135 then⟨4,0,2 ^ (c-132),eJ⟩
 else if c<=139 then⟨4,0,2 ^ (c-136),eE⟩
 else if c=192 then⟨5,0,0,eE⟩
 else if c=193 then⟨6,0,0,eE⟩
 else⟨7,0,0,eE⟩
theorem YM(k:Nat)(h:k<12):dw (1+k)=⟨0,m64 k,k-1,eJ⟩/\dw (17+k)=⟨0,m32 k,k-1,eJ⟩/\dw (33+k)=⟨0,m64 k,k-1,eE⟩/\dw (49+k)=⟨0,m32 k,k-1,eE⟩:=by
 have:k=0\/k=1\/k=2\/k=3\/k=4\/k=5\/k=6\/k=7\/k=8\/k=9\/k=10\/k=11:=by omega
 rcases this with rfl|rfl|rfl|rfl|rfl|rfl|rfl|rfl|rfl|rfl|rfl|rfl<;>exact⟨rfl,rfl,rfl,rfl⟩
theorem YN(k:Nat)(h:k<11):dw (65+k)=⟨1,jmM k,jmK k,eJ⟩/\dw (97+k)=⟨1,jmM k,jmK k,eE⟩:=by
 have:k=0\/k=1\/k=2\/k=3\/k=4\/k=5\/k=6\/k=7\/k=8\/k=9\/k=10:=by omega
 rcases this with rfl|rfl|rfl|rfl|rfl|rfl|rfl|rfl|rfl|rfl|rfl<;>exact⟨rfl,rfl⟩
theorem YO(k:Nat)(h:k<4):dw (128+k)=⟨3,0,2 ^ k,eE⟩/\dw (132+k)=⟨4,0,2 ^ k,eJ⟩/\dw (136+k)=⟨4,0,2 ^ k,eE⟩:=by
 have:k=0\/k=1\/k=2\/k=3:=by omega
 rcases this with rfl|rfl|rfl|rfl<;>exact⟨rfl,rfl,rfl⟩
theorem YP(w:tW)(v:eM)(hv:∃o n c,v=eK o n c):fL prog 220 #[v] w λe w'=>e=fR (eL (.func 302) #[] #[vP (w.heap.size)])/\ak w' w.heap.size #[v] 227/\aa ah w w':=by obtain⟨o,n,c,rfl⟩:=hv;go_in;go_wp2_with fail;go_ret;exact⟨rfl,ak.new _ _ _,aq⟩
theorem YQ(w:tW)(t:tBA)(v:eM)(hv:∃o n c,v=eK o n c):fL prog 221 #[eI t,v] w λe w'=>e=fR (eL (.func 303) #[] #[vP (w.heap.size),vP (w.heap.size+1)]) /\ ak w' w.heap.size #[eI t] 9/\ak w' (w.heap.size+1) #[v] 227/\aa ah w w':=by
 obtain⟨o,n,c,rfl⟩:=hv
 have hb:ak ((w.alloc (eR #[eI t] 9)).alloc (eR #[eK o n c] 227)) (w.heap.size+1) #[eK o n c] 227:=by
  have:=ak.new (w.alloc (eR #[eI t] 9)) #[eK o n c] 227
  simpa using this
 go_in;go_wp2_with fail;go_ret;exact⟨rfl,(ak.new w _ _).alloc _,hb,aq.alloc _⟩
structure EK(w:tW)(v1:eM)(f6:Fn)(c6:tAV)(k7:kO)(c7:tAV)(k8:kO)(c8:tAV)(f9:Fn)(c9:tAV)(o:dX):Prop where
 wr:True
 nd:∀w' x,Kp w w'->x.Fit->fL prog k8 (#[fW x.cells]++c8) w' λe w''=>e=fR (fS (o.needs x))/\aa ah w' w''
 e7:ym k7
 e8:ym k8
 ws:Sl w 9 1 v1 (ee o.words) (o.words.map (λt=>eI (T t)))
 rd:UK w o.read f6 c6
 dn:DoAt w f9 c9 (dw o.code)
theorem EK.kp{w w':tW}{v1:eM}{f6:Fn}{c6:tAV}{k7:kO}{c7:tAV}{k8:kO}{c8:tAV}{f9:Fn}{c9:tAV}{o:dX}(h:EK w v1 f6 c6 k7 c7 k8 c8 f9 c9 o)(m:Kp w w'):EK w' v1 f6 c6 k7 c7 k8 c8 f9 c9 o :=
 ⟨trivial,λw2 x m2=>h.nd w2 x (m.trans m2),h.e7,h.e8,h.ws.kp m (by decide),h.rd.kp m,h.dn.kp m⟩
structure eu(w:tW)(b:Nat)(o:dX):Prop where
 ex:∃(o1:Option Addr) (n1 c1:Nat) (f6:Fn) (c6:tAV) (k7:kO) (c7:tAV) (k8:kO) (c8:tAV) (f9:Fn) (c9:tAV),
  ak w b #[vB o.code,eK o1 n1 c1,vI o.slots,fS o.jumps,fS o.ends,vI o.aJ,eL f6 #[] c6,eL (.func k7) #[] c7,eL (.func k8) #[] c8,eL f9 #[] c9] 158/\EK w (eK o1 n1 c1) f6 c6 k7 c7 k8 c8 f9 c9 o
theorem eu.ae{w w':tW}{b:Nat}{o:dX}(h:eu w b o)(m:aa ah w w'):eu w' b o:=by obtain⟨o1,n1,c1,f6,c6,k7,c7,k8,c8,f9,c9,h1,h2⟩:=h.ex;exact⟨o1,n1,c1,f6,c6,k7,c7,k8,c8,f9,c9,h1.ae m id,h2.kp m.kp⟩
theorem eu.lt{w:tW}{b:Nat}{o:dX}(h:eu w b o):b<w.heap.size:=by obtain⟨o1,n1,c1,f6,c6,k7,c7,k8,c8,f9,c9,h1,h2⟩:=h.ex;exact h1.lt
theorem eu.yN{w:tW}{b:Nat}{o:dX}(h:eu w b o):EG w b:=by obtain⟨o1,n1,c1,f6,c6,k7,c7,k8,c8,f9,c9,h1,h2⟩:=h.ex;exact⟨_,_,_,h1,.inl rfl⟩
theorem Kp.set{w:tW}{b:Nat}(h:EG w b)(i:Nat)(v:eM):Kp w (w.setCell ⟨b,i,ez⟩ v):=(aa.refl (EG w) w).set (a:=⟨b,i,ez⟩) (.inl h) v
theorem eu.kpb{w w':tW}{b:Nat}{o:dX}(h:eu w b o)(m:Kp w w')(hb:w'.heap[b]?=w.heap[b]?):eu w' b o:=by obtain⟨o1,n1,c1,f6,c6,k7,c7,k8,c8,f9,c9,h1,h2⟩:=h.ex;exact⟨o1,n1,c1,f6,c6,k7,c7,k8,c8,f9,c9,hb.trans h1,h2.kp m⟩
theorem eu.other{w:tW}{b b':Nat}{o:dX}(h:eu w b o)(hb:EG w b')(hne:b'≠b)(i:Nat)(v:eM):eu (w.setCell ⟨b',i,ez⟩ v) b o:=by obtain⟨o1,n1,c1,f6,c6,k7,c7,k8,c8,f9,c9,h1,h2⟩:=h.ex;exact⟨o1,n1,c1,f6,c6,k7,c7,k8,c8,f9,c9,h1.setOther hne _,h2.kp (Kp.set hb i v)⟩
theorem eu.jumps{w:tW}{b:Nat}{o:dX}(h:eu w b o):eu (w.setCell ⟨b,3,ez⟩ (fS eJ)) b {o with jumps:=eJ}:=by have hk:=Kp.set h.yN 3 (fS eJ);obtain⟨o1,n1,c1,f6,c6,k7,c7,k8,c8,f9,c9,h1,h2⟩:=h.ex;have h3:=h2.kp hk;exact⟨o1,n1,c1,f6,c6,k7,c7,k8,c8,f9,c9,h1.set 3 _,⟨h3.wr,h3.nd,h3.e7,h3.e8,h3.ws,h3.rd,h3.dn⟩⟩
theorem eu.ends{w:tW}{b:Nat}{o:dX}(h:eu w b o):eu (w.setCell ⟨b,4,ez⟩ (fS eJ)) b {o with ends:=eJ}:=by have hk:=Kp.set h.yN 4 (fS eJ);obtain⟨o1,n1,c1,f6,c6,k7,c7,k8,c8,f9,c9,h1,h2⟩:=h.ex;have h3:=h2.kp hk;exact⟨o1,n1,c1,f6,c6,k7,c7,k8,c8,f9,c9,h1.set 4 _,⟨h3.wr,h3.nd,h3.e7,h3.e8,h3.ws,h3.rd,h3.dn⟩⟩
theorem eu.slots{w:tW}{b:Nat}{o:dX}(h:eu w b o)(n:Nat):eu (w.setCell ⟨b,2,ez⟩ (vI n)) b {o with slots:=n}:=by have hk:=Kp.set h.yN 2 (vI n);obtain⟨o1,n1,c1,f6,c6,k7,c7,k8,c8,f9,c9,h1,h2⟩:=h.ex;have h3:=h2.kp hk;exact⟨o1,n1,c1,f6,c6,k7,c7,k8,c8,f9,c9,h1.set 2 _,⟨h3.wr,h3.nd,h3.e7,h3.e8,h3.ws,h3.rd,h3.dn⟩⟩
theorem eu.aJ{w:tW}{b:Nat}{o:dX}(h:eu w b o)(n:Nat):eu (w.setCell ⟨b,5,ez⟩ (vI n)) b {o with aJ:=n}:=by have hk:=Kp.set h.yN 5 (vI n);obtain⟨o1,n1,c1,f6,c6,k7,c7,k8,c8,f9,c9,h1,h2⟩:=h.ex;have h3:=h2.kp hk;exact⟨o1,n1,c1,f6,c6,k7,c7,k8,c8,f9,c9,h1.set 5 _,⟨h3.wr,h3.nd,h3.e7,h3.e8,h3.ws,h3.rd,h3.dn⟩⟩
theorem YR(w:tW)(bW br bw bp b1 b2:Nat)(code:Nat)(word:tLB)(v:eM)(ps:List PK)(hw:ak w bw #[eI (T word)] 9)(hp:ak w bp #[v] 227)(hn:ak w b1 #[v] 227)(hf:ak w b2 #[vI (dM ps)] 223)(hP:PartsAt w v ps) (hwl:ee word<=100) (hpl:ee ps<=10) (hW:ak w bW #[eI (T word)] 9) (hR:ak w br #[v] 227) (f9:Fn) (c9:tAV) (hD:DoAt w f9 c9 (dw code)):EK w (eK (eC ⟨bW,0,ez⟩) 1 1) (.func 302) #[vP br] 303 #[vP bw,vP bp] 306 #[vP b1,vP b2] f9 c9 (gY code word ps) where
 wr:=trivial
 nd:=λw' x m hx=>PS x hx w' b1 b2 _ v ps (EH ps) (hn.kp m (by decide)) (hf.kp m (by decide)) (hP.kp m) hpl
 e7:=enters_of func303 (by kernel_rfl) rfl
 e8:=enters_of func306 (by kernel_rfl) rfl
 ws:=Sl.fresh hW rfl (by decide)
 rd:=⟨_,rfl,enters_of func302 (by kernel_rfl) rfl,λw' b op r m hE h hl=>PU b br op r v ps w' h (hR.kp m (by decide)) (hP.kp m) hpl hl hE⟩
 dn:=hD
theorem YS(w:tW)(code:Nat)(word:tLB)(v:eM)(ps:List PK)(f9:Fn)(c9:tAV)(hP:PartsAt w v ps)(hwl:ee word<=100)(hpl:ee ps<=10)(hD:DoAt w f9 c9 (dw code)):fL prog 116 #[vB code,eI (T word),v,eL f9 #[] c9] w λe w'=>∃b,e=fR (vP b)/\eu w' b (gY code word ps)/\w.heap.size<=b/\aa ah w w':=by
 have hv:∃o n c,v=eK o n c:=by obtain⟨pv,_,_,hS⟩:=hP.ex;obtain⟨o,c,rfl,_⟩:=hS.view;exact⟨_,_,_,rfl⟩
 have HP:=ai hP;have HD:=ai hD;clear hP hD;obtain⟨o,n,c,rfl⟩:=hv;have m0:aa ah w (w.alloc (eR #[eI (T word)] 9)):=aq;have dU:af _:=m0;clear m0;go_in;go_wp2_with fail;refine(YP _ _ ⟨_,_,_,rfl⟩).mono ?_;rintro e w1 ⟨rfl,hr1,m1⟩;have dB:=ai (dU.o.trans m1);have HWB:af (ak w1 w.heap.size #[eI (T word)] 9):=(ak.new w _ _).ae m1 id;have HRB:af (ak w1 (w.heap.size+1) #[eK o n c] 227):=by simp at hr1;exact hr1
 clear m1 hr1;go_wp2_with fail;refine(YQ _ _ _ ⟨_,_,_,rfl⟩).mono ?_;rintro e w2 ⟨rfl,hw2,hp2,m2⟩;have HW2:=ai hw2;have pO:=ai hp2;have aeu:=ai (HWB.o.ae m2 id);have aev:=ai (HRB.o.ae m2 id);have dV:=ai (dB.o.trans m2);clear m2 hw2 hp2;go_wp2_with fail;refine(UN _ _ _ (HP.o.ae dV.o) hpl).mono ?_;rintro e w3 ⟨rfl,h1,h2,m3⟩;have eH:=ai (dV.o.trans m3);have HO:=ai (YR w3 _ _ _ _ _ _ code word _ ps (HW2.o.ae m3 id) (pO.o.ae m3 id) h1 h2 (HP.o.ae eH.o) hwl hpl (aeu.o.ae m3 id) (aev.o.ae m3 id) _ _ (HD.o.ae eH.o));clear m3 h1 h2;go_wp2_with fail;go_ret;exact⟨w3.heap.size,rfl,⟨_,_,_,_,_,_,_,_,_,_,_,ak.new _ _ _,HO.o.kp aq.kp⟩,eH.o.size,eH.o.alloc _⟩
def qN(Q:tW->Fn->tAV->Prop)(w:tW)(e:Ending)(w':tW):Prop:=∃f c,e=fR (eL f #[] c)/\aa ah w w'/\Q w' f c
theorem ak.Iw(w:tW)(o:Obj)(cs:tAV)(t:gh):ak ((w.alloc o).alloc (eR cs t)) (w.heap.size+1) cs t:=by
 have:=ak.new (w.alloc o) cs t
 rwa [World.size_alloc]at this
theorem kQ(w:tW)(f1:Fn)(a1:tAV)(m k:Nat)(bq:Bool)(h:iR w f1 a1 m k):fL prog 117 #[eL f1 #[] a1,xD (PW bq)] w λe w'=>qN (λw' f c=>DoAt w' f c ⟨0,m,k,bq⟩) w e w':=by have H:=ai h;clear h;generalize hr:PW bq=fr;have HR:=ai hr;clear hr;go_in;go_wp2_with fail;go_ret;exact⟨_,_,rfl,aq.alloc _,rfl,_,_,_,_,rfl,(ak.new _ _ _).alloc _,(by rw[HR.o];exact ak.Iw _ _ _ _),H.o.ae (aq.alloc _)⟩
theorem Cf(w:tW)(f1:Fn)(a1:tAV)(m k:Nat)(bq:Bool)(h:qM w f1 a1 m k):fL prog 127 #[eL f1 #[] a1,xD (PW bq)] w λe w'=>qN (λw' f c=>DoAt w' f c ⟨1,m,k,bq⟩) w e w':=by have H:=ai h;clear h;generalize hr:PW bq=fr;have HR:=ai hr;clear hr;go_in;go_wp2_with fail;go_ret;exact⟨_,_,rfl,aq.alloc _,rfl,_,_,_,_,rfl,(ak.new _ _ _).alloc _,(by rw[HR.o];exact ak.Iw _ _ _ _),H.o.ae (aq.alloc _)⟩
theorem acL(k:Nat)(h:k<4):RowKit.wrap64 ((2:Int) ^ k)=((2 ^ k:Nat):Int):=by
 have:k=0\/k=1\/k=2\/k=3:=by omega
 rcases this with rfl|rfl|rfl|rfl<;>simp[RowKit.wrap64]
theorem PZ(w:tW)(z:Int)(n:Nat)(hz:z=n):fL prog 131 #[vI z] w λe w'=>qN (λw' f c=>DoAt w' f c ⟨3,0,n,eE⟩) w e w':=by subst hz;go_in;go_wp2_with fail;go_ret;exact⟨_,_,rfl,aq,rfl,_,rfl,ak.new _ _ _⟩
theorem Cg(w:tW)(z:Int)(n:Nat)(bq:Bool)(hz:z=n):fL prog 132 #[vI z,xD (PW bq)] w λe w'=>qN (λw' f c=>DoAt w' f c ⟨4,0,n,bq⟩) w e w':=by subst hz;generalize hr:PW bq=fr;have HR:=ai hr;clear hr;go_in;go_wp2_with fail;go_ret;exact⟨_,_,rfl,aq.alloc _,rfl,_,_,rfl,(ak.new _ _ _).alloc _,(by rw[HR.o];exact ak.Iw _ _ _ _)⟩
theorem Ch(w:tW)(k:Nat):fL prog 120 #[xD (KM k)] w λe w'=>qN (λw' f c=>iR w' f c 2 k/\f=.func 225) w e w':=by generalize hr:KM k=fr;have HR:=ai hr;clear hr;go_in;go_wp2_with fail;go_ret;exact⟨_,_,rfl,aq,⟨rfl,_,rfl,by rw[HR.o];exact ak.new _ _ _⟩,rfl⟩
theorem yO(w:tW)(k:Nat):fL prog 122 #[xD (KM k)] w λe w'=>qN (λw' f c=>iR w' f c 3 k) w e w':=by generalize hr:KM k=fr;have HR:=ai hr;clear hr;go_in;go_wp2_with fail;go_ret;exact⟨_,_,rfl,aq,rfl,_,rfl,by rw[HR.o];exact ak.new _ _ _⟩
theorem jZ(w:tW)(k:Nat):fL prog 238 #[xD (cmF k)] w λe w'=>qN (λw' f c=>qM w' f c 2 k) w e w':=by generalize hr:cmF k=fr;have HR:=ai hr;clear hr;go_in;go_wp2_with fail;go_ret;exact⟨_,_,rfl,aq,rfl,_,rfl,by rw[HR.o];exact ak.new _ _ _⟩
theorem IK(w:tW)(f1:Fn)(a1:tAV):fL prog 238 #[eL f1 #[] a1] w λe w'=>e=fR (eL (.func 308) #[] #[pt w.heap.size])/\aa ah w w'/\ak w' w.heap.size #[eL f1 #[] a1] 316:=by go_in;go_wp2_with fail;go_ret;exact⟨rfl,aq,ak.new _ _ _⟩
theorem oG(w:tW)(k:Nat):fL prog 243 #[xD (csF k)] w λe w'=>qN (λw' f c=>qM w' f c 3 k) w e w':=by
 generalize hr:csF k=fr;have HR:=ai hr;clear hr;go_in;go_wp2_with fail;refine(IK _ _ _).mono ?_;rintro e w1 ⟨rfl,m1,b1⟩;have HB:af (ak w1 (w.heap.size+1) #[eL (.func 309) #[] #[pt w.heap.size]] 316):=by rw[World.size_alloc]at b1;exact b1
 have HM:=ai m1;clear b1 m1;rw[World.size_alloc];go_wp2_with fail;go_ret;exact⟨_,_,rfl,aq.trans HM.o,rfl,_,_,rfl,HB.o,by rw[HR.o];exact(ak.new _ _ _).ae HM.o id⟩
theorem EL(w:tW)(k:Nat):fL prog 206 #[xD (KM k)] w λe w'=>qN (λw' f c=>iR w' f c 4 k) w e w':=by have H64:=ai (Ch (w.alloc (eR #[xD (KM k)] 311)) k);generalize hr:KM k=fr;have HR:=ai hr;clear hr;rw[HR.o]at H64;go_in;go_wp2_with fail;refine H64.o.mono ?_;rintro e w1 ⟨f,c,rfl,m1,h1,hf⟩;obtain⟨_,b,rfl,hb⟩:=h1;subst hf;rw[HR.o]at hb;have HB:=ai hb;have HM:=ai m1;clear m1 hb H64;go_wp2_with fail;go_ret;exact⟨_,_,rfl,(aq.trans HM.o).alloc _,rfl,_,_,_,rfl,by rw[HR.o];exact((ak.new _ _ _).ae HM.o id).alloc _,ak.new _ _ _,by rw[HR.o];exact HB.o.alloc _⟩
theorem iR.NR{w w':tW}{f:Fn}{c:tAV}{m k g:Nat}{cs:tAV}{t:gh}(h:iR w f c m k)(hb:ak w g cs t)(q:aa (Only g) w w')(h1:t≠311)(h2:t≠228):iR w' f c m k:=by
 have key:∀{b:Nat} {ds:tAV} {u:gh},ak w b ds u->u≠t->ak w' b ds u:=fun{b ds u} hk hu=>hk.ae q (λe=>by have e0:b=g:=e;rw[e0]at hk;have e1:w.heap[g]?=eC (eR ds u (0,0)):=hk;have e2:w.heap[g]?=eC (eR cs t (0,0)):=hb;rw[e1]at e2;injection e2 with e2;injection e2 with _ e3 _;exact hu e3);unfold iR at h ⊢;split at h
 ·exact h
 ·exact h
 ·obtain⟨h0,b,h1',h2'⟩:=h;exact⟨h0,b,h1',key h2' (Ne.symm h1)⟩
 ·obtain⟨h0,b,h1',h2'⟩:=h;exact⟨h0,b,h1',key h2' (Ne.symm h1)⟩
 ·obtain⟨h0,b,b1,b2,h1',h2',h3',h4'⟩:=h;exact⟨h0,b,b1,b2,h1',key h2' (Ne.symm h1),key h3' (Ne.symm h2),key h4' (Ne.symm h1)⟩
theorem iR.EM{w:tW}{f:Fn}{c:tAV}{m k g:Nat}{cs:tAV}(h:iR w f c m k)(hb:ak w g cs 230)(i:Nat)(v:eM):iR (w.setCell ⟨g,i,ez⟩ v) f c m k:=h.NR hb (aA.bz i v) (by decide) (by decide)
theorem fT(w:tW)(t:tBA)(k:Nat):fL prog 209 #[eI t,xD (KM k)] w λe w'=>∃f2 c2 f3 c3,e=fR (fW #[eI t,eL f2 #[] c2,eL f3 #[] c3])/\aa ah w w'/\iR w' f2 c2 2 k/\iR w' f3 c3 3 k:=by
 have H64:af (∀w,_):=λw=>Ch w k;have H32:af (∀w,_):=λw=>yO w k;generalize hr:xD (KM k)=fr at *;clear hr;go_in;go_wp2_with fail;refine(H64.o _).mono ?_;rintro e w1 ⟨f2,c2,rfl,m1,h2,hf⟩;have H2:=ai h2;clear h2 hf;go_wp2_with fail;refine(H32.o _).mono ?_;rintro e w2 ⟨f3,c3,rfl,m2,h3⟩;have H3:=ai h3;have H2':=ai (H2.o.ae m2);clear h3 H2 H64 H32;have hz:=((ak.new w #[eI ⟨#[]⟩,oY,oY] 230).ae m1 id).ae m2 id;have z0:=hz.cell 0;have z1:=hz.cell 1;have z2:=hz.cell 2;have g0:=hz.frozen 0;have g1:=hz.frozen 1;have g2:=hz.frozen 2;simp at z0 z1 z2;go_wp2_with fail;refine iz (mz results209 _ _ w.heap.size 230 _ (0,0) _ rfl (((hz.set 0 _).set 1 _).set 2 _) underlying230 rfl (by kernel_rfl)) rfl ⟨_,_,_,_,rfl,?_,?_,?_⟩
 ·iterate 3 refine aa.set ?_ (.inr (by simp)) _
  exact(aq.trans m1).trans m2
 ·exact iR.EM (iR.EM (iR.EM H2'.o hz 0 _) (hz.set 0 _) 1 _) ((hz.set 0 _).set 1 _) 2 _
 ·exact iR.EM (iR.EM (iR.EM H3.o hz 0 _) (hz.set 0 _) 1 _) ((hz.set 0 _).set 1 _) 2 _
structure AV where
 f1:Fn
 c1:tAV
 f2:Fn
 c2:tAV
def AV.cells(t:tLB)(v:AV):tLV:=[eI (T t),eL v.f1 #[] v.c1,eL v.f2 #[] v.c2]
def arC(uj:List AV):tLV:=(jX.zip uj).flatMap (λx=>x.2.cells x.1)
theorem aa.setRow{S:Nat->Prop}{w w':tW}(h:aa S w w'){g:Nat}(hg:S g\/w.heap.size<=g)(cs:tAV):aa S w (w'.setRow g cs) :=
 ⟨h.os,h.tape,h.output,by have:=h.size;simp[World.setRow];omega,λk hk hs=>by rw[ud _ _ _ _ (by rintro rfl;rcases hg with hg|hg;exact hs hg;omega)];exact h.block k hk hs⟩
theorem ak.setRow{w:tW}{g:Nat}{cs:tAV}{t:gh}(h:ak w g cs t)(cs':tAV):ak (w.setRow g cs') g cs' t:=setRow_heap w g cs cs' t (0,0) h
theorem ak.AZ{w:tW}{g g':Nat}{cs:tAV}{t:gh}(h:ak w g cs t)(hne:g≠g')(cs':tAV):ak (w.setRow g' cs') g cs t:=(ud w g' g cs' hne).trans h
theorem YT(uj:List AV):(arC uj).toArray.all (·.oneCell')=eJ:=by rw[cb,an];intro v hv;obtain⟨x,_,hx⟩:=List.mem_flatMap.1 hv;simp only[AV.cells,List.mem_cons,cj,or_false]at hx;rcases hx with rfl|rfl|rfl<;>rfl
theorem qM.NR{w w':tW}{f:Fn}{c:tAV}{m k g:Nat}{cs:tAV}{t:gh}(h:qM w f c m k)(hb:ak w g cs t)(q:aa (Only g) w w')(h1:t≠316)(h2:t≠318):qM w' f c m k:=by
 have key:∀{b:Nat} {ds:tAV} {u:gh},ak w b ds u->u≠t->ak w' b ds u:=fun{b ds u} hk hu=>hk.ae q (λe=>by have e0:b=g:=e;rw[e0]at hk;have e1:w.heap[g]?=eC (eR ds u (0,0)):=hk;have e2:w.heap[g]?=eC (eR cs t (0,0)):=hb;rw[e1]at e2;injection e2 with e2;injection e2 with _ e3 _;exact hu e3);unfold qM at h ⊢;split at h
 ·exact h
 ·exact h
 ·obtain⟨h0,b,h1',h2'⟩:=h;exact⟨h0,b,h1',key h2' (Ne.symm h1)⟩
 ·obtain⟨h0,b,b1,h1',h2',h3'⟩:=h;exact⟨h0,b,b1,h1',key h2' (Ne.symm h1),key h3' (Ne.symm h2)⟩
theorem La(w:tW):fL prog 115 #[] w λe w'=>∃uj:List AV,ee uj=12/\e=fR (fW (arC uj).toArray)/\aa ah w w'/\∀k (_:k<12) (h:k<ee uj),iR w' uj[k].f1 uj[k].c1 (m64 k) (k-1)/\iR w' uj[k].f2 uj[k].c2 (m32 k) (k-1):=by
 go_in;go_wp2_with fail;refine(EL _ 0).mono ?_;rintro e w1 ⟨x1a,x1b,rfl,m1,h1a⟩;have RA1:=ai h1a;clear h1a;have MM1:=ai m1;have M1:=m1;clear m1;go_wp2_with fail;refine(yO _ 0).mono ?_;rintro e w2 ⟨x2a,x2b,rfl,m2,h2a⟩;have RA2:=ai h2a;clear h2a;have MM2:=ai m2;have M2:=M1.trans m2;clear m2 M1;go_wp2_with fail;refine(EL _ 1).mono ?_;rintro e w3 ⟨x3a,x3b,rfl,m3,h3a⟩;have RA3:=ai h3a;clear h3a;have MM3:=ai m3;have M3:=M2.trans m3;clear m3 M2;go_wp2_with fail;refine(yO _ 1).mono ?_;rintro e w4 ⟨x4a,x4b,rfl,m4,h4a⟩;have RA4:=ai h4a;clear h4a;have MM4:=ai m4;have M4:=M3.trans m4;clear m4 M3;go_wp2_with fail;refine(fT _ _ 2).mono ?_;rintro e w5 ⟨x5a,x5b,x5c,x5d,rfl,m5,h5a,h5b⟩;have RA5:=ai h5a;have RB5:=ai h5b;clear h5a h5b;have YU:=ai m5;have M5:=M4.trans m5;clear m5 M4;go_wp2_with fail;refine(fT _ _ 3).mono ?_;rintro e w6 ⟨x6a,x6b,x6c,x6d,rfl,m6,h6a,h6b⟩;have RA6:=ai h6a;have RB6:=ai h6b;clear h6a h6b;have Tv:=ai m6;have M6:=M5.trans m6;clear m6 M5;go_wp2_with fail;refine(fT _ _ 4).mono ?_;rintro e w7 ⟨x7a,x7b,x7c,x7d,rfl,m7,h7a,h7b⟩;have RA7:=ai h7a;have RB7:=ai h7b;clear h7a h7b;have Lc:=ai m7;have M7:=M6.trans m7;clear m7 M6;go_wp2_with fail;refine(fT _ _ 5).mono ?_;rintro e w8 ⟨x8a,x8b,x8c,x8d,rfl,m8,h8a,h8b⟩;have RA8:=ai h8a;have RB8:=ai h8b;clear h8a h8b;have Hu:=ai m8;have M8:=M7.trans m8;clear m8 M7;go_wp2_with fail;refine(fT _ _ 6).mono ?_;rintro e w9 ⟨x9a,x9b,x9c,x9d,rfl,m9,h9a,h9b⟩;have RA9:=ai h9a;have RB9:=ai h9b;clear h9a h9b;have Eh:=ai m9;have M9:=M8.trans m9;clear m9 M8;go_wp2_with fail;refine(fT _ _ 7).mono ?_;rintro e w10 ⟨aew,aex,aey,aez,rfl,m10,acM,acN⟩;have aeA:=ai acM;have aeB:=ai acN;clear acM acN;have yP:=ai m10;have M10:=M9.trans m10;clear m10 M9;go_wp2_with fail;refine(fT _ _ 8).mono ?_;rintro e w11 ⟨aeC,aeD,aeE,aeF,rfl,m11,acO,acP⟩;have aeG:=ai acO;have aeH:=ai acP;clear acO acP;have wm:=ai m11;have M11:=M10.trans m11;clear m11 M10;go_wp2_with fail;refine(fT _ _ 9).mono ?_;rintro e w12 ⟨aeI,aeJ,aeK,aeL,rfl,m12,acQ,acR⟩;have aeM:=ai acQ;have aeN:=ai acR;clear acQ acR;have sS:=ai m12;have M12:=M11.trans m12;clear m12 M11;go_wp2_with fail;refine(fT _ _ 10).mono ?_;rintro e w13 ⟨aeO,aeP,aeQ,aeR,rfl,m13,acS,acT⟩;have aeS:=ai acS;have aeT:=ai acT;clear acS acT;have pY:=ai m13;have M13:=M12.trans m13;clear m13 M12;have hz:=(ak.new w _ _).ae M13 id;have HZ:=ai hz;have HM:=ai M13;clear hz M13;go_wp2_with (refine oX rfl 231 (.tmp 0) (.tmp 17) rfl w.heap.size (arC [⟨.func 204,#[],.func 205,#[]⟩,⟨x1a,x1b,x2a,x2b⟩,⟨x3a,x3b,x4a,x4b⟩,⟨x5a,x5b,x5c,x5d⟩,⟨x6a,x6b,x6c,x6d⟩,⟨x7a,x7b,x7c,x7d⟩,⟨x8a,x8b,x8c,x8d⟩,⟨x9a,x9b,x9c,x9d⟩,⟨aew,aex,aey,aez⟩,⟨aeC,aeD,aeE,aeF⟩,⟨aeI,aeJ,aeK,aeL⟩,⟨aeO,aeP,aeQ,aeR⟩]).toArray rfl rfl 231 _ HZ.o (by kernel_rfl) rfl (YT _) ?_);have key:∀{f:Fn} {c:tAV} {m k:Nat} (cs:tAV),iR w13 f c m k->iR (w13.setRow w.heap.size cs) f c m k:=λcs h=>h.NR HZ.o (aa.setRow (S:=Only w.heap.size) aA (.inl (show w.heap.size=w.heap.size from rfl)) cs) (by decide) (by decide);refine iz (mz results115 _ _ w.heap.size 231 _ (0,0) _ rfl (HZ.o.setRow _) underlying231 rfl (by kernel_rfl)) rfl ⟨_,rfl,rfl,?_,?_⟩
 ·exact(aq.trans HM.o).setRow (.inr (b9 _)) _
 ·intro k hk _;have hk':k=0\/k=1\/k=2\/k=3\/k=4\/k=5\/k=6\/k=7\/k=8\/k=9\/k=10\/k=11:=by omega
  rcases hk' with rfl|rfl|rfl|rfl|rfl|rfl|rfl|rfl|rfl|rfl|rfl|rfl
  ·exact⟨⟨rfl,rfl⟩,⟨rfl,rfl⟩⟩
  ·exact⟨key _ (RA1.o.ae (((((((((((MM2.o.trans MM3.o).trans MM4.o).trans YU.o).trans Tv.o).trans Lc.o).trans Hu.o).trans Eh.o).trans yP.o).trans wm.o).trans sS.o).trans pY.o)),key _ (RA2.o.ae ((((((((((MM3.o.trans MM4.o).trans YU.o).trans Tv.o).trans Lc.o).trans Hu.o).trans Eh.o).trans yP.o).trans wm.o).trans sS.o).trans pY.o))⟩
  ·exact⟨key _ (RA3.o.ae (((((((((MM4.o.trans YU.o).trans Tv.o).trans Lc.o).trans Hu.o).trans Eh.o).trans yP.o).trans wm.o).trans sS.o).trans pY.o)),key _ (RA4.o.ae ((((((((YU.o.trans Tv.o).trans Lc.o).trans Hu.o).trans Eh.o).trans yP.o).trans wm.o).trans sS.o).trans pY.o))⟩
  ·exact⟨key _ (RA5.o.ae (((((((Tv.o.trans Lc.o).trans Hu.o).trans Eh.o).trans yP.o).trans wm.o).trans sS.o).trans pY.o)),key _ (RB5.o.ae (((((((Tv.o.trans Lc.o).trans Hu.o).trans Eh.o).trans yP.o).trans wm.o).trans sS.o).trans pY.o))⟩
  ·exact⟨key _ (RA6.o.ae ((((((Lc.o.trans Hu.o).trans Eh.o).trans yP.o).trans wm.o).trans sS.o).trans pY.o)),key _ (RB6.o.ae ((((((Lc.o.trans Hu.o).trans Eh.o).trans yP.o).trans wm.o).trans sS.o).trans pY.o))⟩
  ·exact⟨key _ (RA7.o.ae (((((Hu.o.trans Eh.o).trans yP.o).trans wm.o).trans sS.o).trans pY.o)),key _ (RB7.o.ae (((((Hu.o.trans Eh.o).trans yP.o).trans wm.o).trans sS.o).trans pY.o))⟩
  ·exact⟨key _ (RA8.o.ae ((((Eh.o.trans yP.o).trans wm.o).trans sS.o).trans pY.o)),key _ (RB8.o.ae ((((Eh.o.trans yP.o).trans wm.o).trans sS.o).trans pY.o))⟩
  ·exact⟨key _ (RA9.o.ae (((yP.o.trans wm.o).trans sS.o).trans pY.o)),key _ (RB9.o.ae (((yP.o.trans wm.o).trans sS.o).trans pY.o))⟩
  ·exact⟨key _ (aeA.o.ae ((wm.o.trans sS.o).trans pY.o)),key _ (aeB.o.ae ((wm.o.trans sS.o).trans pY.o))⟩
  ·exact⟨key _ (aeG.o.ae (sS.o.trans pY.o)),key _ (aeH.o.ae (sS.o.trans pY.o))⟩
  ·exact⟨key _ (aeM.o.ae pY.o),key _ (aeN.o.ae pY.o)⟩
  ·exact⟨key _ aeS.o,key _ aeT.o⟩
structure JV where
 f1:Fn
 c1:tAV
def JV.cells(t:tLB)(v:JV):tLV:=[eI (T t),eL v.f1 #[] v.c1]
def juC(xE:List JV):tLV:=(sH.zip xE).flatMap (λx=>x.2.cells x.1)
theorem YV(xE:List JV):(juC xE).toArray.all (·.oneCell')=eJ:=by rw[cb,an];intro v hv;obtain⟨x,_,hx⟩:=List.mem_flatMap.1 hv;simp only[JV.cells,List.mem_cons,cj,or_false]at hx;rcases hx with rfl|rfl<;>rfl
theorem P4(w:tW):fL prog 126 #[] w λe w'=>∃xE:List JV,ee xE=11/\e=fR (fW (juC xE).toArray)/\aa ah w w'/\∀k (_:k<11) (h:k<ee xE),qM w' xE[k].f1 xE[k].c1 (jmM k) (jmK k):=by
 go_in;go_wp2_with fail;refine(jZ _ 0).mono ?_;rintro e w1 ⟨x1a,x1b,rfl,m1,h1a⟩;have RA1:=ai h1a;clear h1a;have MM1:=ai m1;have M1:=m1;clear m1;go_wp2_with fail;refine(jZ _ 1).mono ?_;rintro e w2 ⟨x2a,x2b,rfl,m2,h2a⟩;have RA2:=ai h2a;clear h2a;have MM2:=ai m2;have M2:=M1.trans m2;clear m2 M1;go_wp2_with fail;refine(jZ _ 2).mono ?_;rintro e w3 ⟨x3a,x3b,rfl,m3,h3a⟩;have RA3:=ai h3a;clear h3a;have MM3:=ai m3;have M3:=M2.trans m3;clear m3 M2;go_wp2_with fail;refine(jZ _ 3).mono ?_;rintro e w4 ⟨x4a,x4b,rfl,m4,h4a⟩;have RA4:=ai h4a;clear h4a;have MM4:=ai m4;have M4:=M3.trans m4;clear m4 M3;go_wp2_with fail;refine(oG _ 0).mono ?_;rintro e w5 ⟨x5a,x5b,rfl,m5,h5a⟩;have RA5:=ai h5a;clear h5a;have YU:=ai m5;have M5:=M4.trans m5;clear m5 M4;go_wp2_with fail;refine(oG _ 1).mono ?_;rintro e w6 ⟨x6a,x6b,rfl,m6,h6a⟩;have RA6:=ai h6a;clear h6a;have Tv:=ai m6;have M6:=M5.trans m6;clear m6 M5;go_wp2_with fail;refine(oG _ 2).mono ?_;rintro e w7 ⟨x7a,x7b,rfl,m7,h7a⟩;have RA7:=ai h7a;clear h7a;have Lc:=ai m7;have M7:=M6.trans m7;clear m7 M6;go_wp2_with fail;refine(oG _ 3).mono ?_;rintro e w8 ⟨x8a,x8b,rfl,m8,h8a⟩;have RA8:=ai h8a;clear h8a;have Hu:=ai m8;have M8:=M7.trans m8;clear m8 M7;go_wp2_with fail;refine(jZ _ 4).mono ?_;rintro e w9 ⟨x9a,x9b,rfl,m9,h9a⟩;have RA9:=ai h9a;clear h9a;have Eh:=ai m9;have M9:=M8.trans m9;clear m9 M8;have hz:=(ak.new w _ _).ae M9 id;have HZ:=ai hz;have HM:=ai M9;clear hz M9;go_wp2_with (refine oX rfl 241 (.tmp 0) (.tmp 21) rfl w.heap.size (juC [⟨.func 236,#[]⟩,⟨.func 237,#[]⟩,⟨x1a,x1b⟩,⟨x2a,x2b⟩,⟨x3a,x3b⟩,⟨x4a,x4b⟩,⟨x5a,x5b⟩,⟨x6a,x6b⟩,⟨x7a,x7b⟩,⟨x8a,x8b⟩,⟨x9a,x9b⟩]).toArray rfl rfl 241 _ HZ.o (by kernel_rfl) rfl (YV _) ?_);have key:∀{f:Fn} {c:tAV} {m k:Nat} (cs:tAV),qM w9 f c m k->qM (w9.setRow w.heap.size cs) f c m k:=λcs h=>h.NR HZ.o (aa.setRow (S:=Only w.heap.size) aA (.inl (show w.heap.size=w.heap.size from rfl)) cs) (by decide) (by decide);refine iz (mz results126 _ _ w.heap.size 241 _ (0,0) _ rfl (HZ.o.setRow _) underlying241 rfl (by kernel_rfl)) rfl ⟨_,rfl,rfl,?_,?_⟩
 ·exact(aq.trans HM.o).setRow (.inr (b9 _)) _
 ·intro k hk _;have hk':k=0\/k=1\/k=2\/k=3\/k=4\/k=5\/k=6\/k=7\/k=8\/k=9\/k=10:=by omega
  rcases hk' with rfl|rfl|rfl|rfl|rfl|rfl|rfl|rfl|rfl|rfl|rfl
  ·exact⟨rfl,rfl⟩
  ·exact⟨rfl,rfl⟩
  ·exact key _ (RA1.o.ae (((((((MM2.o.trans MM3.o).trans MM4.o).trans YU.o).trans Tv.o).trans Lc.o).trans Hu.o).trans Eh.o))
  ·exact key _ (RA2.o.ae ((((((MM3.o.trans MM4.o).trans YU.o).trans Tv.o).trans Lc.o).trans Hu.o).trans Eh.o))
  ·exact key _ (RA3.o.ae (((((MM4.o.trans YU.o).trans Tv.o).trans Lc.o).trans Hu.o).trans Eh.o))
  ·exact key _ (RA4.o.ae ((((YU.o.trans Tv.o).trans Lc.o).trans Hu.o).trans Eh.o))
  ·exact key _ (RA5.o.ae (((Tv.o.trans Lc.o).trans Hu.o).trans Eh.o))
  ·exact key _ (RA6.o.ae ((Lc.o.trans Hu.o).trans Eh.o))
  ·exact key _ (RA7.o.ae (Hu.o.trans Eh.o))
  ·exact key _ (RA8.o.ae Eh.o)
  ·exact key _ RA9.o
def gG(b:Nat):eM:=vP b
structure aT(base:Nat)(w:tW)(v:eM)(bs:tLN)(os:List dX):Prop where
 len:ee bs=ee os
 nd:bs.Nodup
 sl:Sl w 138 1 v (ee bs) (bs.map gG)
 at':∀i (h:i<ee bs) (h':i<ee os),eu w bs[i] os[i]
 lo:∀b∈bs,base<=b
 own:∀k,v.ownBlock=eC k->base<=k
theorem aT.nil(base:Nat)(w:tW):aT base w (vN) [] [] :=
 ⟨rfl,List.nodup_nil,Sl.nil _ _ _,λi h=>absurd h (Nat.not_lt_zero _),λb h=>(by cases h),λk h=>(by cases h)⟩
theorem aT.ae{base:Nat}{w w':tW}{v:eM}{bs:tLN}{os:List dX}(h:aT base w v bs os)(m:aa ah w w'):aT base w' v bs os :=
 ⟨h.len,h.nd,h.sl.ae m (λ_ _=>id),λi h1 h2=>(h.at' i h1 h2).ae m,h.lo,h.own⟩
theorem eu.Ld{w:tW}{b:Nat}{o:dX}(h:eu w b o){v:eM}{n:Nat}{xs:tLV}(hs:Sl w 138 1 v n xs):v.ownBlock≠eC b:=by
 obtain⟨o1,n1,c1,f6,c6,k7,c7,k8,c8,f9,c9,h1,h2⟩:=h.ex;intro hv;rcases hs.2 with⟨rfl,rfl⟩ |⟨g,cap,cur,rfl,_,hg,_⟩
 ·cases hv
 ·cases hv;unfold ak at h1;rw[hg]at h1;cases h1
theorem aT.app{base:Nat}{w w':tW}{v v':eM}{bs cs:tLN}{os ps:List dX}(h:aT base w v bs os)(hlen:ee cs=ee ps)(hnd:(bs++cs).Nodup)(hat:∀i (h:i<ee cs) (h':i<ee ps),eu w cs[i] ps[i])(hlo:∀b∈cs,base<=b)(hsl:Sl w' 138 1 v' (ee bs+ee cs) (bs.map gG++cs.map gG)) (m:aa (λk=>v.ownBlock=eC k) w w') (ho:∀k,v'.ownBlock=eC k->v.ownBlock=eC k\/w.heap.size<=k) (hb:base<=w.heap.size):aT base w' v' (bs++cs) (os++ps):=by
 have hk:=aa.F9 h.sl m;have key:=λb o (ha:eu w b o)=>ha.kpb hk (m.block b ha.lt (λe=>ha.Ld h.sl e));refine⟨by simp[h.len,hlen],hnd,by rw[List.length_append,List.map_append];exact hsl,λi h1 h2=>?_,λb hm=>?_,λk hk'=>?_⟩
 ·rcases Nat.lt_or_ge i (ee bs) with hi|hi
  ·rw[ar hi,ar (by rw[<-h.len];exact hi)];exact key _ _ (h.at' i hi _)
  ·rw[ao hi,ao (by rw[<-h.len];exact hi)];have:=hat (i-ee bs) (by simp at h1;omega) (by rw[<-hlen];simp at h1;omega);simp only[<-h.len];exact key _ _ this
 ·rcases List.mem_append.1 hm with hm|hm
  ·exact h.lo b hm
  ·exact hlo b hm
 ·rcases ho k hk' with e|e
  ·exact h.own k e
  ·omega
