import Derived.Test.YthnphhgpfedeeaaGreatDoorCK07
import Derived.Laws.EntriesVeiled
import Derived.Deep.OwnRows
namespace Go.Proofs.YthnphhgpfedeeaaGreatDoor
open Go.RowKit Tryz
open Int renaming cast_ofNat_Int->cw
open List renaming not_mem_nil->ab,take_of_length_le->al,mem_cons->ao,getElem_mem->ar,all_eq_true->ba,take_succ_eq_append_getElem->bh,getElem_append_right->b5,getElem_append_left->b9,length_map->cj,getElem_of_mem->cq,all_toArray->cx,length->eJ
open Nat renaming zero_le->bj,le_refl->bt
open Bool renaming true->fR,false->fj
open Ending renaming returned->fW
open Obj renaming cells->fL
open Option renaming some->eK,none->eL
open Or renaming inr->ij,inl->jn
open Value renaming func->fN,agg->fY,bool->fX,nilFunc->pL,string->eR,slice->eS
open _root_.Go renaming TypeId->ju,Value->fa,FuncId->lO,Calls->fS,bodyPost_ret->kx,results_cell_row->mL,Addr->kh,bits->pD,maxLen->jz,madeCells->rB,setRow_other->xl,wpList_store_row->pA
set_option linter.all false
set_option maxRecDepth 100000
set_option maxHeartbeats 2000000
def Fh(w:tW)(k:Nat):Prop:=∃cs t fr,w.heap[k]?=eK (fL cs t fr)/\(t=146\/t=135\/t=269)
def Kp(w w':tW):Prop:=aa (Fh w) w w'
theorem aa.kp{w w':tW}(m:aa af w w'):Kp w w':=m.mono (λ_ _ h=>h.elim)
theorem Kp.trans{w w' w'':tW}(h:Kp w w')(k:Kp w' w''):Kp w w'' :=
 aa.step h k (λi hi ⟨cs,t,fr,hb,ht⟩=>by refine Classical.byContradiction λhn=>hn ?_;rw[h.block i hi hn]at hb;exact⟨cs,t,fr,hb,ht⟩)
theorem Kp.not{w:tW}{g:Nat}{cs:tAV}{t:ju}(h:au w g cs t)(ht:t≠146/\t≠135/\t≠269):¬Fh w g:=by
 rintro⟨cs',t',fr,h',ht'⟩;rw[show w.heap[g]?=eK (fL cs t (0,0))from h]at h';cases h';rcases ht' with h|h|h
 ·exact ht.1 h
 ·exact ht.2.1 h
 ·exact ht.2.2 h
theorem au.kp{w w':tW}{g:Nat}{cs:tAV}{t:ju}(h:au w g cs t)(m:Kp w w')(ht:t≠146/\t≠135/\t≠269):au w' g cs t:=h.ai m (Kp.not h ht)
theorem Sl.kp{w w':tW}{e:ju}{size:Nat}{v:fa}{n:Nat}{xs:tLV}(h:Sl w e size v n xs)(m:Kp w w')(he:e≠146/\e≠135/\e≠269):Sl w' e size v n xs:=by
 refine h.ai m λk hk hn=>?_;rcases h.2 with⟨rfl,rfl⟩ |⟨g,cap,cur,rfl,_,hg,_⟩
 ·cases hk
 ·cases hk;exact Kp.not (cs:=cur) hg he hn
theorem aa.Gm{w w':tW}{v:fa}{n:Nat}{xs:tLV}(h:Sl w 135 1 v n xs)(m:aa (λk=>v.ownBlock=eK k) w w'):Kp w w' :=
 m.mono λk _ hk=>by
  rcases h.2 with⟨rfl,rfl⟩ |⟨g,cap,cur,rfl,_,hg,_⟩
  ·cases hk
  ·cases hk;exact⟨_,_,_,hg,ij (jn rfl)⟩
theorem aa.aeN{w w':tW}{b:Nat}{cs:tAV}(h:au w b cs 269)(m:aa (Only b) w w'):Kp w w' :=
 m.mono λk _ hk=>by have:k=b:=hk;subst this;exact⟨_,_,_,h,ij (ij rfl)⟩
structure PV where
 f1:Fn
 c1:tAV
 k2:lO
 c2:tAV
 k3:lO
 c3:tAV
def PV.cells(v:PV)(n:Nat):tLV:=[vI n,fN v.f1 #[] v.c1,fN (.func v.k2) #[] v.c2,fN (.func v.k3) #[] v.c3]
def ou(k:lO):Prop:=∀args w,(callFunc k args).run prog w=.ok (.enter k args) w
structure Um(w:tW)(rd:dH->Option dH)(f:Fn)(c:tAV):Prop where
 ex:∃k,f=.func k/\ou k/\∀w' b op r,Kp w w'->(∀w'',aa (Only b) w' w''->Env w'')->au w' b (dH.cells op r) 269->eJ r.rest<=1000000->fS prog k (#[vP b]++c) w' λe w''=>bV w' b op (rd r) e w''
theorem Um.kp{w w':tW}{rd:dH->Option dH}{f:Fn}{c:tAV}(h:Um w rd f c)(m:Kp w w'):Um w' rd f c:=by obtain⟨k,h1,h2,h3⟩:=h.ex;exact⟨k,h1,h2,λw2 b op r m2=>h3 w2 b op r (m.trans m2)⟩
structure PV.Ok(w:tW)(p:PK)(v:PV):Prop where
 wr:True
 ri:∀w' x,Kp w w'->x.Fit->fS prog v.k3 (#[fY x.cells]++v.c3) w' λe w''=>e=fW (fX (p.right x))/\aa af w' w''
 e2:ou v.k2
 e3:ou v.k3
 rd:Um w p.read v.f1 v.c1
theorem PV.Ok.kp{w w':tW}{p:PK}{v:PV}(h:v.Ok w p)(m:Kp w w'):v.Ok w' p :=
 ⟨trivial,λw2 x m2=>h.ri w2 x (m.trans m2),h.e2,h.e3,h.rd.kp m⟩
def jq(w:tW)(p:PK)(e:Ending)(w':tW):Prop:=∃v:PV,e=fW (fY (v.cells p.fills).toArray)/\v.Ok w' p/\aa af w w'
theorem ow(w:tW):fS prog 106 #[] w λe w'=>jq w .source e w':=by go_in;go_wp2_with fail;refine kx (mL results106 _ _ w.heap.size 205 _ (0,0) _ rfl (au.new _ _ _) underlying205 rfl (by kernel_rfl)) rfl ⟨⟨_,_,_,_,_,_⟩,rfl,?_,aw⟩;exact⟨trivial,λw' x _ hx=>by simpa using TU x hx w',enters_of func176 (by kernel_rfl) rfl,enters_of func178 (by kernel_rfl) rfl,⟨_,rfl,enters_of func174 (by kernel_rfl) rfl,λw' b op r _ hE h hl=>by simpa [PK.read]using Po b op r w' h hl hE⟩⟩
theorem Bi(w:tW):fS prog 116 #[] w λe w'=>e=fW (fY #[vI 1,fN (.func 210) #[] #[],fN (.func 211) #[] #[],fN (.func 212) #[] #[]])/\aa af w w':=by go_in;go_wp2_with fail;exact kx (mL results116 _ _ w.heap.size 205 _ (0,0) _ rfl (au.new _ _ _) underlying205 rfl (by kernel_rfl)) rfl ⟨rfl,aw⟩
theorem lX(w:tW):fS prog 116 #[] w λe w'=>jq w .operand e w' :=
 (Bi w).mono λ_ _ h=>⟨⟨_,_,_,_,_,_⟩,h.1,⟨trivial,λw' x _ hx=>by simpa using TV x hx w',enters_of func211 (by kernel_rfl) rfl,enters_of func212 (by kernel_rfl) rfl,⟨_,rfl,enters_of func210 (by kernel_rfl) rfl,λw' b op r _ hE h hl=>by simpa [PK.read]using Fg b op r w' h hl hE⟩⟩,h.2⟩
theorem uu(w:tW):fS prog 107 #[] w λe w'=>jq w .number e w':=by go_in;go_wp2_with fail;refine kx (mL results107 _ _ w.heap.size 205 _ (0,0) _ rfl (au.new _ _ _) underlying205 rfl (by kernel_rfl)) rfl ⟨⟨_,_,_,_,_,_⟩,rfl,?_,aw⟩;exact⟨trivial,λw' x _ hx=>by simpa [PK.right]using qG x w',enters_of func182 (by kernel_rfl) rfl,enters_of func184 (by kernel_rfl) rfl,⟨_,rfl,enters_of func179 (by kernel_rfl) rfl,λw' b op r _ hE h hl=>by simpa [PK.read]using Ps b op r w' h hl⟩⟩
theorem xS(w:tW):fS prog 117 #[] w λe w'=>jq w .label e w':=by go_in;go_wp2_with fail;refine kx (mL results117 _ _ w.heap.size 205 _ (0,0) _ rfl (au.new _ _ _) underlying205 rfl (by kernel_rfl)) rfl ⟨⟨_,_,_,_,_,_⟩,rfl,?_,aw⟩;exact⟨trivial,λw' x _ hx=>by simpa [PK.right]using qG x w',enters_of func214 (by kernel_rfl) rfl,enters_of func184 (by kernel_rfl) rfl,⟨_,rfl,enters_of func213 (by kernel_rfl) rfl,λw' b op r _ hE h hl=>by simpa [PK.read]using Pp b op r w' h hl⟩⟩
theorem uw(w:tW):fS prog 122 #[] w λe w'=>jq w .offset e w':=by go_in;go_wp2_with fail;refine kx (mL results122 _ _ w.heap.size 205 _ (0,0) _ rfl (au.new _ _ _) underlying205 rfl (by kernel_rfl)) rfl ⟨⟨_,_,_,_,_,_⟩,rfl,?_,aw⟩;exact⟨trivial,λw' x _ hx=>by simpa [PK.right]using qG x w',enters_of func232 (by kernel_rfl) rfl,enters_of func184 (by kernel_rfl) rfl,⟨_,rfl,enters_of func231 (by kernel_rfl) rfl,λw' b op r _ hE h hl=>by simpa [PK.read]using Pw b op r w' h hl⟩⟩
theorem Pz(w:tW):fS prog 126 #[] w λe w'=>jq w .wide e w':=by go_in;go_wp2_with fail;refine kx (mL results126 _ _ w.heap.size 205 _ (0,0) _ rfl (au.new _ _ _) underlying205 rfl (by kernel_rfl)) rfl ⟨⟨_,_,_,_,_,_⟩,rfl,?_,aw⟩;exact⟨trivial,λw' x _ hx=>by simpa using O9 x hx w',enters_of func238 (by kernel_rfl) rfl,enters_of func239 (by kernel_rfl) rfl,⟨_,rfl,enters_of func237 (by kernel_rfl) rfl,λw' b op r _ hE h hl=>by simpa [PK.read]using Le b op r w' h hl⟩⟩
theorem lg(w:tW):fS prog 104 #[] w λe w'=>jq w .result e w':=by
 go_in;go_wp2_with fail;refine(Bi _).mono ?_;rintro e w1 ⟨rfl,m1⟩;have hz:au (w1.alloc (fL #[vI 1,fN (.func 210) #[] #[],fN (.func 211) #[] #[],fN (.func 172) #[] #[]] 205)) w.heap.size #[vI 0,pL,pL,pL] 205:=((au.new w _ _).ai m1 id).alloc _;have z0:=hz.cell 0;have z1:=hz.cell 1;have z2:=hz.cell 2;have z3:=hz.cell 3;have f0:=hz.frozen 0;have f1':=hz.frozen 1;have f2:=hz.frozen 2;have f3:=hz.frozen 3;simp at z0 z1 z2 z3;go_wp2_with fail;refine kx (mL results104 _ _ w.heap.size 205 _ (0,0) _ rfl ((((hz.set 0 _).set 1 _).set 2 _).set 3 _) underlying205 rfl (by kernel_rfl)) rfl ⟨⟨_,_,_,_,_,_⟩,rfl,?_,?_⟩
 ·exact⟨trivial,λw' x _ hx=>by simpa using TW x hx w',enters_of func211 (by kernel_rfl) rfl,enters_of func172 (by kernel_rfl) rfl,⟨_,rfl,enters_of func210 (by kernel_rfl) rfl,λw' b op r _ hE h hl=>by simpa [PK.read]using Fg b op r w' h hl hE⟩⟩
 ·iterate 4 refine aa.set ?_ (ij (by simp)) _
  exact(aw.trans m1).alloc _
abbrev NI(b g:Nat):tAV:=#[vI 0,fN (.func 268) #[] #[vP b],fN (.func 269) #[] #[vP g],fN (.func 184) #[] #[]]
theorem Ct(w:tW)(b:Nat)(t:tBA):fS prog 173 #[vB b,eR t] w λe w' => e=fW (fY (NI w.heap.size (w.heap.size+1)))/\au w' (w.heap.size+1) #[eR t] 9/\au w' w.heap.size #[vB b] 5/\aa af w w':=by
 have hb3:au (((w.alloc (fL #[vB b] 5)).alloc (fL #[eR t] 9)).alloc (fL (NI w.heap.size (w.heap.size+1)) 205)) (w.heap.size+1+1) (NI w.heap.size (w.heap.size+1)) 205:=by
  have:=au.new ((w.alloc (fL #[vB b] 5)).alloc (fL #[eR t] 9)) (NI w.heap.size (w.heap.size+1)) 205
  simpa using this
 have hb:au ((w.alloc (fL #[vB b] 5)).alloc (fL #[eR t] 9)) (w.heap.size+1) #[eR t] 9:=by
  have:=au.new (w.alloc (fL #[vB b] 5)) #[eR t] 9
  simpa using this
 go_in;go_wp2_with fail;exact kx (mL results173 _ _ (w.heap.size+1+1) 205 _ (0,0) _ rfl hb3 underlying205 rfl (by kernel_rfl)) rfl ⟨rfl,hb.alloc _,((au.new w _ _).alloc _).alloc _,(aw.alloc _).alloc _⟩
theorem Gn(w:tW)(b g:Nat)(t:tBA)(p:PK)(hw:∀x,T (p.write x)=t)(hr:∀x,p.right x=fR)(hb:au w g #[eR t] 9)(c:UInt8)(hc:∀r,p.read r=r.mark c)(hB:au w b #[vB (c.toNat:Int)] 5):PV.Ok w p ⟨.func 268,#[vP b],269,#[vP g],184,#[]⟩:=by exact⟨trivial,λw' x _ hx=>by rw[hr];simpa using qG x w',enters_of func269 (by kernel_rfl) rfl,enters_of func184 (by kernel_rfl) rfl,⟨_,rfl,enters_of func268 (by kernel_rfl) rfl,λw' b' op r m _ h hl=>by rw[hc];exact Ld b' b c op r w' h (hB.kp m (by decide)) hl⟩⟩
theorem gi(w:tW):fS prog 105 #[] w λe w'=>jq w .comma e w':=by
 go_in;go_wp2_with fail;refine(Ct _ 44 (T [44,32])).mono ?_;rintro e w1 ⟨rfl,hb1,hB1,m1⟩;have hz:au w1 w.heap.size #[vI 0,pL,pL,pL] 205:=(au.new w _ _).ai m1 id;have z0:=hz.cell 0;have z1:=hz.cell 1;have z2:=hz.cell 2;have z3:=hz.cell 3;have f0:=hz.frozen 0;have f1:=hz.frozen 1;have f2:=hz.frozen 2;have f3:=hz.frozen 3;simp at z0 z1 z2 z3 hb1 hB1;go_wp2_with fail;refine kx (mL results105 _ _ w.heap.size 205 _ (0,0) _ rfl ((((hz.set 0 _).set 1 _).set 2 _).set 3 _) underlying205 rfl (by kernel_rfl)) rfl ⟨⟨_,_,_,_,_,_⟩,rfl,?_,?_⟩
 ·refine Gn _ _ _ (T [44,32]) .comma (λ_=>rfl) (λ_=>rfl) ?_ 44 (λ_=>rfl) ?_
  ·iterate 4 refine au.setOther ?_ (by simp;omega) _
   exact hb1
  ·iterate 4 refine au.setOther ?_ (by simp) _
   exact hB1
 ·iterate 4 refine aa.set ?_ (ij (by simp)) _
  exact aw.trans m1
theorem xU(w:tW):fS prog 121 #[] w λe w'=>jq w .opens e w':=by
 go_in;go_wp2_with fail;refine(Ct _ 91 (T [91])).mono ?_;rintro e w1 ⟨rfl,hb1,hB1,m1⟩;have hz:au w1 w.heap.size #[vI 0,pL,pL,pL] 205:=(au.new w _ _).ai m1 id;have z0:=hz.cell 0;have z1:=hz.cell 1;have z2:=hz.cell 2;have z3:=hz.cell 3;have f0:=hz.frozen 0;have f1:=hz.frozen 1;have f2:=hz.frozen 2;have f3:=hz.frozen 3;simp at z0 z1 z2 z3 hb1 hB1;go_wp2_with fail;refine kx (mL results121 _ _ w.heap.size 205 _ (0,0) _ rfl ((((hz.set 0 _).set 1 _).set 2 _).set 3 _) underlying205 rfl (by kernel_rfl)) rfl ⟨⟨_,_,_,_,_,_⟩,rfl,?_,?_⟩
 ·refine Gn _ _ _ (T [91]) .opens (λ_=>rfl) (λ_=>rfl) ?_ 91 (λ_=>rfl) ?_
  ·iterate 4 refine au.setOther ?_ (by simp;omega) _
   exact hb1
  ·iterate 4 refine au.setOther ?_ (by simp) _
   exact hB1
 ·iterate 4 refine aa.set ?_ (ij (by simp)) _
  exact aw.trans m1
theorem zY(w:tW):fS prog 123 #[] w λe w'=>jq w .shut e w':=by
 go_in;go_wp2_with fail;refine(Ct _ 93 (T [93])).mono ?_;rintro e w1 ⟨rfl,hb1,hB1,m1⟩;have hz:au w1 w.heap.size #[vI 0,pL,pL,pL] 205:=(au.new w _ _).ai m1 id;have z0:=hz.cell 0;have z1:=hz.cell 1;have z2:=hz.cell 2;have z3:=hz.cell 3;have f0:=hz.frozen 0;have f1:=hz.frozen 1;have f2:=hz.frozen 2;have f3:=hz.frozen 3;simp at z0 z1 z2 z3 hb1 hB1;go_wp2_with fail;refine kx (mL results123 _ _ w.heap.size 205 _ (0,0) _ rfl ((((hz.set 0 _).set 1 _).set 2 _).set 3 _) underlying205 rfl (by kernel_rfl)) rfl ⟨⟨_,_,_,_,_,_⟩,rfl,?_,?_⟩
 ·refine Gn _ _ _ (T [93]) .shut (λ_=>rfl) (λ_=>rfl) ?_ 93 (λ_=>rfl) ?_
  ·iterate 4 refine au.setOther ?_ (by simp;omega) _
   exact hb1
  ·iterate 4 refine au.setOther ?_ (by simp) _
   exact hB1
 ·iterate 4 refine aa.set ?_ (ij (by simp)) _
  exact aw.trans m1
structure PartsAt(w:tW)(v:fa)(ps:List PK):Prop where
 ex:∃pv:List (PK×PV),pv.map (·.1)=ps/\(∀x∈pv,x.2.Ok w x.1)/\Sl w 205 4 v (eJ pv) (pv.flatMap (λx=>x.2.cells x.1.fills))
theorem PartsAt.kp{w w':tW}{v:fa}{ps:List PK}(h:PartsAt w v ps)(m:Kp w w'):PartsAt w' v ps:=by obtain⟨pv,h1,h2,h3⟩:=h.ex;exact⟨pv,h1,λx hx=>(h2 x hx).kp m,h3.kp m (by decide)⟩
theorem PartsAt.ai{w w':tW}{v:fa}{ps:List PK}(h:PartsAt w v ps)(m:aa af w w'):PartsAt w' v ps:=h.kp m.kp
theorem Cu{w:tW}{pv:List (PK×PV)}{v:fa}(h:Sl w 205 4 v (eJ pv) (pv.flatMap (λx=>x.2.cells x.1.fills))){o:Option kh}{c:Nat}(hv:v=eS o (eJ pv) c)(k:Nat)(hk:k<eJ pv):∃g,o=eK ⟨g,0,eL⟩/\g<w.heap.size/\w.cell? ⟨g,k*4,eL⟩=eK (vI pv[k].1.fills)/\w.cell? ⟨g,k*4+1,eL⟩=eK (fN pv[k].2.f1 #[] pv[k].2.c1) /\ w.cell? ⟨g,k*4+2,eL⟩=eK (fN (.func pv[k].2.k2) #[] pv[k].2.c2)/\w.cell? ⟨g,k*4+3,eL⟩=eK (fN (.func pv[k].2.k3) #[] pv[k].2.c3):=by
 obtain⟨o',c',hv',h2⟩:=h.view;rw[hv]at hv';cases hv';obtain⟨g,cs,rfl,hb,ht,_⟩:=h2 (by omega);refine⟨g,rfl,hb.lt,?_,?_,?_,?_⟩
 all_goals rw[aV hb ht _ (by omega)]
 ·exact(flat_get (λx:PK×PV=>x.2.cells x.1.fills) 4 (λ_=>rfl) pv k 0 hk (by omega)).trans rfl
 ·exact(flat_get (λx:PK×PV=>x.2.cells x.1.fills) 4 (λ_=>rfl) pv k 1 hk (by omega)).trans rfl
 ·exact(flat_get (λx:PK×PV=>x.2.cells x.1.fills) 4 (λ_=>rfl) pv k 2 hk (by omega)).trans rfl
 ·exact(flat_get (λx:PK×PV=>x.2.cells x.1.fills) 4 (λ_=>rfl) pv k 3 hk (by omega)).trans rfl
theorem yU(f b:Nat)(hf:f<16)(hb:b<16):pD .and .i64 (f:Int) (b:Int)=((f &&& b:Nat):Int) :=
 (bits_nat .i64 4 (by decide) (λn h0 h1=>by rw[IntKind.wrap_i64];omega) f b (by omega) (by omega)).1
theorem Un(f b:Nat)(hf:f<16)(hb:b<16):pD .or .i64 (f:Int) (b:Int)=((f ||| b:Nat):Int) :=
 (bits_nat .i64 4 (by decide) (λn h0 h1=>by rw[IntKind.wrap_i64];omega) f b (by omega) (by omega)).2
theorem Cv(x:dM)(f:Nat)(hf:f<16)(w:tW):fS prog 243 #[fY x.cells,vI f] w λe w'=>e=fW (fX (gT x f))/\aa af w w':=by
 obtain⟨op,d,s,jump,num,high,label,name⟩:=x;unfold dM.cells at *;simp only at *;have a0:pD .and .i64 (f:Int) 1=((f%2:Nat):Int):=by rw[<-Nat.and_one_is_mod];exact yU f 1 hf (by omega)
 have a1:pD .and .i64 (f:Int) 2=((f &&& 2:Nat):Int):=yU f 2 hf (by omega);have a2:pD .and .i64 (f:Int) 4=((f &&& 4:Nat):Int):=yU f 4 hf (by omega);have a3:pD .and .i64 (f:Int) 8=((f &&& 8:Nat):Int):=yU f 8 hf (by omega);go_in;go_wp2_with fail
 all_goals (go_ret;refine⟨?_,aw⟩)
 all_goals first
  |(simp[gT, *];done)
  |(simp[gT, *];rfl)
  |(have hz:f%2=0:=(by omega);simp[gT, *];done)
  |(have hz:f%2=0:=(by omega);simp[gT, *];rfl)
  |(have hz:f%2≠0:=(by omega);simp[gT, *];done)
  |(have hz:f%2≠0:=(by omega);simp[gT, *];rfl)
theorem IV(p:PK):p.fills<16:=by unfold PK.fills;split<;>decide
theorem Fj(ps:List PK):mZ ps<16:=by
 have h:∀(l:List PK) (f:Nat),f<16->l.foldl (λf p=>f ||| p.fills) f<16:=by
  intro l;induction l with
  |nil=>intro f h;exact h
  |cons p l ih=>intro f h;exact ih _ (Nat.or_lt_two_pow (n:=4) h (IV p))
 exact h ps 0 (by decide)
structure abf(w:tW)(X:tAV)(pv:List (PK×PV))(ri:Nat->Bool):Prop where
 call:∀k (hk:k<eJ pv) w',aa af w w'->fS prog pv[k].2.k3 (#[fY X]++pv[k].2.c3) w' λe w''=>e=fW (fX (ri k))/\aa af w' w''
 en:∀k (hk:k<eJ pv),ou pv[k].2.k3
theorem ada(x:dM)(hx:x.Fit)(w:tW)(pv:List (PK×PV))(hok:∀y∈pv,y.2.Ok w y.1):abf w x.cells pv (λk=>if h:k<eJ pv then PK.right x pv[k].1 else fj) where
 call:=λk hk w' m=>by
  have:=(hok pv[k] (ar hk)).ri w' x m.kp hx
  simpa only[dif_pos hk]using this
 en:=λk hk=>(hok pv[k] (ar hk)).e3
theorem Uo(op:fa)(d s:Nat)(jump num high:Int)(label name:tBA)(w:tW)(b1 b2 f:Nat)(hf:f<16)(o:Option kh)(c:Nat)(pv:List (PK×PV))(hp:au w b1 #[eS o (eJ pv) c] 207)(hf2:au w b2 #[vI f] 203)(hS:Sl w 205 4 (eS o (eJ pv) c) (eJ pv) (pv.flatMap (λx=>x.2.cells x.1.fills))) (hpl:eJ pv<=10) (ri:Nat->Bool) (hL:abf w #[op,vB d,vB s,.int .i16 jump,vJ num,vJ high,eR label,eR name] pv ri):fS prog 281 #[fY #[op,vB d,vB s,.int .i16 jump,vJ num,vJ high,eR label,eR name],vP b1,vP b2] w λe w' => e=fW (fX ((List.range (eJ pv)).all ri&&gT ⟨op,d,s,jump,num,high,label,name⟩ f))/\aa af w w':=by
 have HL:=aq hL;clear hL;have HO:=Cv ⟨op,d,s,jump,num,high,label,name⟩ f hf;generalize gT ⟨op,d,s,jump,num,high,label,name⟩ f=ob at *;unfold dM.cells at HO;simp only at HO;have HO':ah _:=HO;clear HO;have m1:aa af w (w.alloc (fL #[op,vB d,vB s,.int .i16 jump,vJ num,vJ high,eR label,eR name] 138)):=aw;have c1:=(hp.ai m1 id).cell 0;have HI:=aq (au.new w #[op,vB d,vB s,.int .i16 jump,vJ num,vJ high,eR label,eR name] 138);have bU:ah _:=m1;have HF:=aq hf2;have HS:=aq hS;simp at c1;clear m1 hf2 hS hp;go_in;go_wp2_with fail;go_loopw [9] (λi wl=>∃k:Nat,k<=eJ pv/\i=vI k/\aa af (w.alloc (fL #[op,vB d,vB s,.int .i16 jump,vJ num,vJ high,eR label,eR name] 138)) wl/\(List.range k).all ri=fR) (λi _=>eJ pv-(intOf i).toNat)
 case atStart=>exact⟨0,bj _,rfl,ax,rfl⟩
 case round =>
  obtain⟨k,hk,rfl,m2,hr⟩:=hrel;have HR:=aq hr;have bP:=aq (bU.o.trans m2);have HI2:=aq (HI.o.ai m2 id);clear hr;by_cases hlt:k<eJ pv
  ·have HC:=aq (HL.o.call k hlt);have hen:=HL.o.en k hlt;obtain⟨g,rfl,hg,q0,q1,q2,q3⟩:=Cu (HS.o.ai bP.o (λ_ _=>id)) rfl k hlt;generalize pv[k]=y at *;obtain⟨pk,f1,c1',k2,c2,k3,c3⟩:=y;simp only at HC q0 q1 q2 q3 hen;unfold ou at hen;have dF:=aq (bP.o.alloc (fL #[vI pk.fills,fN f1 #[] c1',fN (.func k2) #[] c2,fN (.func k3) #[] c3] 205));have hI3:au (wr.alloc (fL #[vI pk.fills,fN f1 #[] c1',fN (.func k2) #[] c2,fN (.func k3) #[] c3] 205)) w.heap.size #[op,vB d,vB s,.int .i16 jump,vJ num,vJ high,eR label,eR name] 138:=HI2.o.alloc _;obtain⟨i0,i1,i2,i3,i4,i5,i6,i7⟩:=hI3.jB;clear hI3;have Et:ah _:=m2;clear m2;go_wp2_with fail;refine(HC.o _ dF.o).mono ?_;rintro e w4 ⟨rfl,m4⟩;clear i0 i1 i2 i3 i4 i5 i6 i7;cases hri:ri k with
   |false =>
    have HA:ah ((List.range (eJ pv)).all ri=fj):=by rw[ah,List.all_eq_false];exact⟨k,List.mem_range.2 hlt,by simp[hri]⟩
    go_wp2_with fail;go_ret;rw[HA.o];exact⟨rfl,dF.o.trans m4⟩
   |true =>
    go_wp2_with fail;go_roundw
    case rel=>exact⟨k+1,by omega,by go_num,(Et.o.alloc _).trans m4,by rw[List.range_succ,List.all_append,HR.o];simp[hri]⟩
    case measure=>simp[intOf];omega
  ·have hke:k=eJ pv:=by omega
   subst hke;obtain⟨i0,i1,i2,i3,i4,i5,i6,i7⟩:=HI2.o.jB;have c2:=(HF.o.ai bP.o id).cell 0;simp at c2;go_wp2_with fail;refine(HO'.o _).mono ?_;rintro e w4 ⟨rfl,m4⟩;go_wp2_with fail;go_ret;rw[HR.o];exact⟨rfl,bP.o.trans m4⟩
theorem PB(pv:List (PK×PV))(x:dM):(List.range (eJ pv)).all (λk=>if h:k<eJ pv then PK.right x pv[k].1 else fj)=(pv.map (·.1)).all (PK.right x):=by
 rw[Bool.eq_iff_iff,ba,ba];constructor
 ·intro h p hp;obtain⟨y,hy,rfl⟩:=List.mem_map.1 hp;obtain⟨k,hk,rfl⟩:=cq hy;have:=h k (List.mem_range.2 hk)
  simpa only[dif_pos hk]using this
 ·intro h k hk;have hk':=List.mem_range.1 hk;simp only[dif_pos hk'];exact h _ (List.mem_map.2 ⟨pv[k],ar hk',rfl⟩)
theorem PD(x:dM)(hx:x.Fit)(w:tW)(b1 b2 f:Nat)(v:fa)(ps:List PK)(hf:f<16)(hp:au w b1 #[v] 207)(hf2:au w b2 #[vI f] 203)(hP:PartsAt w v ps)(hpl:eJ ps<=10):fS prog 281 #[fY x.cells,vP b1,vP b2] w λe w'=>e=fW (fX (ps.all (PK.right x)&&gT x f))/\aa af w w':=by obtain⟨pv,rfl,hok,hS⟩:=hP.ex;obtain⟨o,c,rfl,_⟩:=hS.view;rw[cj]at hpl;have h:=Uo x.op x.d x.s x.jump x.num x.high x.label x.name w b1 b2 f hf o c pv hp hf2 hS hpl _ (ada x hx w pv hok);rw[PB]at h;exact h
def xw(ps:List PK)(k:Nat):Nat:=mZ (ps.take k)
theorem Lf(ps:List PK)(k:Nat)(h:k<eJ ps):xw ps (k+1)=xw ps k ||| ps[k].fills:=by unfold xw mZ;rw[bh h,List.foldl_append];rfl
theorem Uq(w:tW)(v:fa)(ps:List PK)(hP:PartsAt w v ps)(hpl:eJ ps<=10):fS prog 203 #[v] w λe w'=>e=fW (fN (.func 281) #[] #[vP (w.heap.size),vP (w.heap.size+1)]) /\ au w' w.heap.size #[v] 207/\au w' (w.heap.size+1) #[vI (mZ ps)] 203/\aa af w w':=by
 obtain⟨pv,rfl,hok,hS⟩:=hP.ex;clear hok hP;obtain⟨o,c,rfl,_⟩:=hS.view;rw[cj]at hpl;have HE:ah (xw (pv.map (·.1)) (eJ pv)=mZ (pv.map (·.1))):=by rw[ah,xw,al (by simp)]
 have PE:ah (∀k (h:k<eJ pv),xw (pv.map (·.1)) (k+1)=xw (pv.map (·.1)) k ||| pv[k].1.fills):=λk h=>by
  have:=Lf (pv.map (·.1)) k (by simpa using h)
  simpa using this
 have HLt:ah (∀k,xw (pv.map (·.1)) k<16):=λk=>Fj _;have H0:ah (xw (pv.map (·.1)) 0=0):=rfl;rw[<-HE.o];clear HE;generalize xw (pv.map (·.1))=F at *;have hb1:au ((w.alloc (fL #[eS o (eJ pv) c] 207)).alloc (fL #[vI 0] 203)) w.heap.size #[eS o (eJ pv) c] 207:=(au.new w _ _).alloc _
 have hb2:au ((w.alloc (fL #[eS o (eJ pv) c] 207)).alloc (fL #[vI 0] 203)) (w.heap.size+1) #[vI 0] 203:=by
  have:=au.new (w.alloc (fL #[eS o (eJ pv) c] 207)) #[vI 0] 203
  simpa using this
 have HM:ah (aa af w ((w.alloc (fL #[eS o (eJ pv) c] 207)).alloc (fL #[vI 0] 203))):=aw.alloc _;have HB1:=aq hb1;have HB2:=aq hb2;have HS:=aq hS;clear hS hb1 hb2;go_in;go_wp2_with fail;go_loopw [8] (λi wl=>∃k:Nat,k<=eJ pv/\i=vI k/\aa af w wl/\au wl w.heap.size #[eS o (eJ pv) c] 207/\au wl (w.heap.size+1) #[vI (F k)] 203) (λi _=>eJ pv-(intOf i).toNat)
 case atStart=>exact⟨0,bj _,rfl,HM.o,HB1.o,by rw[H0.o];exact HB2.o⟩
 case round =>
  obtain⟨k,hk,rfl,m,h1,h2⟩:=hrel;by_cases hlt:k<eJ pv
  ·obtain⟨g,rfl,hg,q0,q1,q2,q3⟩:=Cu (HS.o.ai m (λ_ _=>id)) rfl k hlt;have hst:=PE.o k hlt;have hl:=HLt.o k;have hfl:=IV pv[k].1;have ho:=Un (F k) pv[k].1.fills hl hfl;rw[<-hst]at ho;have HK:=aq hst;clear hst;generalize pv[k]=y at *;obtain⟨pk,f1,c1,k2,c2,k3,c3⟩:=y;simp only at q0 q1 q2 q3 ho hfl;have h1':=h1.alloc (fL #[vI pk.fills,fN f1 #[] c1,fN (.func k2) #[] c2,fN (.func k3) #[] c3] 205);have h2':=h2.alloc (fL #[vI pk.fills,fN f1 #[] c1,fN (.func k2) #[] c2,fN (.func k3) #[] c3] 205);have z2:=h2'.cell 0;have zf:=h2'.frozen 0;simp at z2;have HA:=aq h1';have HB:=aq h2';have xQ:=aq m;clear h1 h2 h1' h2' m HK;go_wp2_with fail;go_roundw
   case rel=>exact⟨k+1,by omega,by go_num,(xQ.o.alloc _).set (ij (by simp)) _,HA.o.setOther (by simp) _,HB.o.set 0 _⟩
   case measure=>simp[intOf];omega
  ·have hke:k=eJ pv:=by omega
   subst hke;go_wp2_with fail;go_ret;exact⟨rfl,h1,h2,m⟩
theorem Sl.fresh{w:tW}{g n:Nat}{cs:tAV}{e:ju}(h:au w g cs e)(hn:cs.size=n)(hm:n<=jz):Sl w e 1 (eS (eK ⟨g,0,eL⟩) n n) n cs.toList:=by refine⟨by simp[hn],ij ⟨g,n,cs,rfl,bj _,h,bt _,hm,by simp[hn],?_⟩⟩;rw[Nat.mul_one,<-hn];exact al (by simp)
theorem NJ{l:tLB}{x:bI×tLB}(h:fT l=eK x):eJ x.2<=eJ l:=by
 have h1:=qI 45 l;have h2:=jP (bu 45 l);unfold fT at h;split at h
 ·cases h
 ·obtain⟨v,_,rfl⟩:=Option.map_eq_some_iff.1 h;show(aK (bu 45 l)).2.length<=_
  omega
theorem YU(p:PK)(r r':dH)(h:p.read r=eK r'):eJ r'.rest<=eJ r.rest:=by
 have hw:=jP r.rest
 have hm:∀c:UInt8,r.mark c=eK r'->eJ r'.rest<=eJ r.rest:=λc h=>by
  unfold dH.mark at h;split at h
  ·cases h;exact qI c r.rest
  ·cases h
 have hd:r.Co=eK r'->eJ r'.rest<=eJ r.rest:=λh=>by unfold dH.Co at h;obtain⟨v,_,rfl⟩:=Option.map_eq_some_iff.1 h;exact hw.2
 have hs:r.EA=eK r'->eJ r'.rest<=eJ r.rest:=λh=>by unfold dH.EA at h;obtain⟨v,_,rfl⟩:=Option.map_eq_some_iff.1 h;exact hw.2
 have hn:r.number=eK r'->eJ r'.rest<=eJ r.rest:=λh=>by unfold dH.number at h;obtain⟨v,hv,rfl⟩:=Option.map_eq_some_iff.1 h;exact NJ hv
 have hl:r.lab=eK r'->eJ r'.rest<=eJ r.rest:=λh=>by
  unfold dH.lab at h;split at h
  ·cases h;exact hw.2
  ·cases h
 have ho:r.off=eK r'->eJ r'.rest<=eJ r.rest:=λh=>by
  unfold dH.off at h;split at h
  ·obtain⟨v,hv,rfl⟩:=Option.map_eq_some_iff.1 h;have h1:=qI 45 r.rest;have h2:=jP (bu 45 r.rest);show(aK (bu 45 r.rest)).2.length<=_
   omega
  ·split at h
   ·obtain⟨v,hv,rfl⟩:=Option.map_eq_some_iff.1 h;have h1:=qI 43 r.rest;have h2:=jP (bu 43 r.rest);show(aK (bu 43 r.rest)).2.length<=_
    omega
   ·cases h;exact iy r.rest
 have hwd:r.wide=eK r'->eJ r'.rest<=eJ r.rest:=λh=>by
  unfold dH.wide at h;split at h
  ·split at h
   ·cases h;have h2:=jP (aK r.rest).2;show(aK (aK r.rest).2).2.length<=_
    omega
   ·cases h
  ·obtain⟨v,hv,rfl⟩:=Option.map_eq_some_iff.1 h;exact NJ hv
 unfold PK.read at h;split at h
 ·exact hm _ h
 ·exact hm _ h
 ·exact hm _ h
 ·exact hd h
 ·exact hd h
 ·exact hs h
 ·exact hn h
 ·exact hl h
 ·exact ho h
 ·exact hwd h
 ·cases h
theorem IW(ps:List PK)(k:Nat)(h:k<eJ ps)(r:dH):readPs (ps.drop k) r=(ps[k].read r).bind (readPs (ps.drop (k+1))):=by rw[List.drop_eq_getElem_cons h,readPs]
theorem PG(b bp:Nat)(op:fa)(r:dH)(v:fa)(ps:List PK)(w:tW)(hb:au w b (r.cells op) 269)(hp:au w bp #[v] 207)(hP:PartsAt w v ps)(hpl:eJ ps<=10)(hl:eJ r.rest<=1000000)(hE:∀w',aa (Only b) w w'->Env w'):fS prog 277 #[vP b,vP bp] w λe w'=>bV w b op (readPs ps r) e w':=by
 obtain⟨pv,rfl,hok,hS⟩:=hP.ex;obtain⟨o,c,rfl,_⟩:=hS.view;rw[cj]at hpl;have xx:=aq hok;have HS:=aq hS;have HB:=aq hb;have HE:=aq hE;have c0:=hp.c0;have EB:ah (∀k,(Value.slice o (eJ pv) c).ownBlock=eK k->k≠b):=λk hk e=>by subst e;exact hS.aA hb (by decide) hk
 have HB0:=aq hb;clear hok hS hP hb hE hp;have uq:=aq (λe w' (h:bV w b op (readPs (pv.map (·.1)) r) e w')=>h);generalize hRP:bV w b op (readPs (pv.map (·.1)) r)=RP at *;have PH:=aq hRP;clear hRP uq;go_in;go_wp2_with fail;go_loopg [8] (eJ pv) (λq v wx=>∃(k:Nat) (rk:dH),k<=eJ pv/\v=vI k/\au wx b (rk.cells op) 269/\aa (Only b) w wx/\readPs ((pv.map (·.1)).drop k) rk=readPs (pv.map (·.1)) r/\rk.rest.length<=1000000/\q=eJ pv-k)
 case atStart=>exact⟨0,r,bj _,rfl,HB.o,ax,rfl,hl,rfl⟩
 case round =>
  obtain⟨k,rk,hk,rfl,hbk,hmk,NK,hlk,rfl⟩:=hrel;have pQ:=aq hbk;have xQ:=aq hmk;have wj:=aq NK;clear hbk hmk NK HB c0;by_cases hlt:k<eJ pv
  ·have HRs:ah (readPs (pv.map (·.1)) r=(pv[k].1.read rk).bind (readPs ((pv.map (·.1)).drop (k+1)))):=by rw[ah,<-wj.o,IW _ k (by simpa using hlt)];simp
   have HOx:=xx.o pv[k] (ar hlt);obtain⟨k1,hf1,hen,hrd⟩:=HOx.rd.ex;have HSk:=HS.o.ai xQ.o (λi hi e=>EB.o i hi e);obtain⟨g,rfl,hg,q0,q1,q2,q3⟩:=Cu HSk rfl k hlt;rw[hf1]at q1;have Cd:=aq hrd;have zZ:=aq (YU pv[k].1 rk);clear HOx hf1 hrd HSk wj;generalize pv[k]=y at *;obtain⟨pk,f1,c1,k2,c2,k3,c3⟩:=y;dsimp only at *;unfold ou at hen;have HB3:ah (au (wr.alloc (fL #[vI pk.fills,fN (.func k1) #[] c1,fN (.func k2) #[] c2,fN (.func k3) #[] c3] 205)) b (rk.cells op) 269):=pQ.o.alloc _;have dF:=aq (xQ.o.alloc (fL #[vI pk.fills,fN (.func k1) #[] c1,fN (.func k2) #[] c2,fN (.func k3) #[] c3] 205));go_wp2_with fail;refine(Cd.o _ b op rk ?_ ?_ HB3.o hlk).mono ?_
   ·exact aa.aeN HB0.o dF.o
   ·exact λw'' m=>HE.o _ (dF.o.trans m)
   intro e w4 hpo;obtain⟨rfl,Ur,hat⟩:=hpo;have gG:=aq (dF.o.trans Ur);have HAT:=aq hat;clear Ur hat HB3 dF Cd pQ xQ q0 q1 q2 q3;cases hx:pk.read rk with
   |none =>
    have HX:ah (readPs (pv.map (·.1)) r=eL):=by rw[ah,HRs.o,hx];rfl
    go_wp2_with fail;rw[<-PH.o];exact⟨by rw[HX.o];rfl,gG.o,λr' hr'=>by rw[HX.o]at hr';cases hr'⟩
   |some r' =>
    have HX:ah (readPs ((pv.map (·.1)).drop (k+1)) r'=readPs (pv.map (·.1)) r):=by rw[ah,HRs.o,hx];rfl
    have hle:=zZ.o r' hx;have hB4:=HAT.o r' hx;go_wp2_with fail;go_roundg (eJ pv-(k+1))
    case measure=>omega
    case rel=>exact⟨k+1,r',by omega,by go_num,hB4,gG.o,HX.o,by omega,rfl⟩
  ·have hke:k=eJ pv:=by omega
   subst hke;have HX:ah (readPs (pv.map (·.1)) r=eK rk):=by rw[ah,<-wj.o,List.drop_eq_nil_of_le (by simp)];rfl
   go_wp2_with fail;rw[<-PH.o];exact⟨by rw[HX.o];rfl,xQ.o,λr' hr'=>by rw[HX.o]at hr';cases hr';exact pQ.o⟩
def Ip(k:Nat):lO:=match k with
 |0=>188
 |1=>189
 |2=>191
 |3=>192
 |4=>193
 |5=>194
 |6=>195
 |7=>196
 |8=>197
 |9=>199
 |10=>200
 |_=>114
def cmF(k:Nat):lO:=match k with
 |0=>220
 |1=>221
 |2=>222
 |3=>223
 |_=>229
def csF(k:Nat):lO:=match k with
 |0=>225
 |1=>226
 |2=>227
 |_=>228
def KY(aD:Bool):lO:=if aD then 111 else 112
abbrev qK(k:lO):fa:=fN (.func k) #[] #[]
abbrev pt(b:Nat):fa:=vP b
def ic(w:tW)(f:Fn)(c:tAV)(m k:Nat):Prop:=match m with
 |0=>f=.func 185/\c=#[]
 |1=>f=.func 186/\c=#[]
 |2=>f=.func 206/\∃b,c=#[pt b]/\au w b #[qK (Ip k)] 282
 |3=>f=.func 208/\∃b,c=#[pt b]/\au w b #[qK (Ip k)] 282
 |_=>f=.func 274/\∃b b1 b2,c=#[pt b,pt b1]/\au w b #[qK (Ip k)] 282/\au w b1 #[fN (.func 206) #[] #[pt b2]] 208/\au w b2 #[qK (Ip k)] 282
def px(w:tW)(f:Fn)(c:tAV)(m k:Nat):Prop:=match m with
 |0=>f=.func 217/\c=#[]
 |1=>f=.func 218/\c=#[]
 |2=>f=.func 283/\∃b,c=#[pt b]/\au w b #[qK (cmF k)] 287
 |_=>f=.func 283/\∃b b1,c=#[pt b]/\au w b #[fN (.func 284) #[] #[pt b1]] 287/\au w b1 #[qK (csF k)] 289
structure Us where
 t:Nat
 m:Nat
 k:Nat
 aD:Bool
def DoAt(w:tW)(f:Fn)(c:tAV)(d:Us):Prop:=match d.t with
 |0=>f=.func 204/\∃b1 b2 fr cr,c=#[pt b1,pt b2]/\au w b1 #[fN fr #[] cr] 208/\au w b2 #[qK (KY d.aD)] 280/\ic w fr cr d.m d.k
 |1=>f=.func 230/\∃b1 b2 fr cr,c=#[pt b1,pt b2]/\au w b1 #[fN fr #[] cr] 218/\au w b2 #[qK (KY d.aD)] 280/\px w fr cr d.m d.k
 |2=>f=.func 118/\c=#[]
 |3=>f=.func 233/\∃b,c=#[pt b]/\au w b #[vI d.k] 3
 |4=>f=.func 235/\∃b1 b2,c=#[pt b1,pt b2]/\au w b1 #[vI d.k] 3/\au w b2 #[qK (KY d.aD)] 280
 |5=>f=.func 127/\c=#[]
 |6=>f=.func 131/\c=#[]
 |_=>f=.func 132/\c=#[]
abbrev PJ:List ju:=[208,280,282,218,287,289,3]
theorem ic.blk{w w':tW}{f:Fn}{c:tAV}{m k:Nat}(h:ic w f c m k)(q:∀g cs t,t∈PJ->au w g cs t->au w' g cs t):ic w' f c m k:=by
 unfold ic at h ⊢;split at h
 ·exact h
 ·exact h
 ·obtain⟨h0,b,h1,h2⟩:=h;exact⟨h0,b,h1,q _ _ _ (by decide) h2⟩
 ·obtain⟨h0,b,h1,h2⟩:=h;exact⟨h0,b,h1,q _ _ _ (by decide) h2⟩
 ·obtain⟨h0,b,b1,b2,h1,h2,h3,h4⟩:=h;exact⟨h0,b,b1,b2,h1,q _ _ _ (by decide) h2,q _ _ _ (by decide) h3,q _ _ _ (by decide) h4⟩
theorem px.blk{w w':tW}{f:Fn}{c:tAV}{m k:Nat}(h:px w f c m k)(q:∀g cs t,t∈PJ->au w g cs t->au w' g cs t):px w' f c m k:=by
 unfold px at h ⊢;split at h
 ·exact h
 ·exact h
 ·obtain⟨h0,b,h1,h2⟩:=h;exact⟨h0,b,h1,q _ _ _ (by decide) h2⟩
 ·obtain⟨h0,b,b1,h1,h2,h3⟩:=h;exact⟨h0,b,b1,h1,q _ _ _ (by decide) h2,q _ _ _ (by decide) h3⟩
theorem DoAt.blk{w w':tW}{f:Fn}{c:tAV}{d:Us}(h:DoAt w f c d)(q:∀g cs t,t∈PJ->au w g cs t->au w' g cs t):DoAt w' f c d:=by
 unfold DoAt at h ⊢;split at h
 ·obtain⟨h0,b1,b2,fr,cr,h1,h2,h3,h4⟩:=h;exact⟨h0,b1,b2,fr,cr,h1,q _ _ _ (by decide) h2,q _ _ _ (by decide) h3,h4.blk q⟩
 ·obtain⟨h0,b1,b2,fr,cr,h1,h2,h3,h4⟩:=h;exact⟨h0,b1,b2,fr,cr,h1,q _ _ _ (by decide) h2,q _ _ _ (by decide) h3,h4.blk q⟩
 ·exact h
 ·obtain⟨h0,b,h1,h2⟩:=h;exact⟨h0,b,h1,q _ _ _ (by decide) h2⟩
 ·obtain⟨h0,b1,b2,h1,h2,h3⟩:=h;exact⟨h0,b1,b2,h1,q _ _ _ (by decide) h2,q _ _ _ (by decide) h3⟩
 ·exact h
 ·exact h
 ·exact h
theorem Kp.PL{w w':tW}(q:Kp w w'):∀g cs t,t∈PJ->au w g cs t->au w' g cs t:=λ_ _ t ht h =>
 h.kp q ((show ∀t∈PJ,t≠146/\t≠135/\t≠269 by decide) t ht)
theorem DoAt.kp{w w':tW}{f:Fn}{c:tAV}{d:Us}(h:DoAt w f c d)(q:Kp w w'):DoAt w' f c d:=h.blk q.PL
theorem ic.ai{w w':tW}{f:Fn}{c:tAV}{m k:Nat}(h:ic w f c m k)(q:aa af w w'):ic w' f c m k:=h.blk q.kp.PL
theorem px.ai{w w':tW}{f:Fn}{c:tAV}{m k:Nat}(h:px w f c m k)(q:aa af w w'):px w' f c m k:=h.blk q.kp.PL
theorem DoAt.ai{w w':tW}{f:Fn}{c:tAV}{d:Us}(h:DoAt w f c d)(q:aa af w w'):DoAt w' f c d:=h.kp q.kp
def m64(k:Nat):Nat:=if k=0 then 0 else if k<3 then 4 else 2
def m32(k:Nat):Nat:=if k=0 then 1 else 3
def jmM(k:Nat):Nat:=if k=0 then 0 else if k=1 then 1 else if k<6 then 2 else if k<10 then 3 else 2
def jmK(k:Nat):Nat:=if k<6 then k-2 else if k<10 then k-6 else 4
def dU(c:Nat):Us :=
 if c<=12 then⟨0,m64 (c-1),c-1-1,fR⟩
 else if c=13 then⟨0,2,11,fj⟩
 else if c<=28 then⟨0,m32 (c-17),c-17-1,fR⟩
 else if c=29 then⟨0,3,11,fj⟩
 else if c<=44 then⟨0,m64 (c-33),c-33-1,fj⟩
 else if c<=60 then⟨0,m32 (c-49),c-49-1,fj⟩
 else if c=64 then⟨2,0,0,fj⟩
 else if c<=75 then⟨1,jmM (c-65),jmK (c-65),fR⟩
 else if c<=107 then⟨1,jmM (c-97),jmK (c-97),fj⟩
 else if c<=131 then⟨3,0,2 ^ (c-128),fj⟩
 else if c<=135 then⟨4,0,2 ^ (c-132),fR⟩
 else if c<=139 then⟨4,0,2 ^ (c-136),fj⟩
 else if c=192 then⟨5,0,0,fj⟩
 else if c=193 then⟨6,0,0,fj⟩
 else⟨7,0,0,fj⟩
theorem YV(k:Nat)(h:k<12):dU (1+k)=⟨0,m64 k,k-1,fR⟩/\dU (17+k)=⟨0,m32 k,k-1,fR⟩/\dU (33+k)=⟨0,m64 k,k-1,fj⟩/\dU (49+k)=⟨0,m32 k,k-1,fj⟩:=by
 have:k=0\/k=1\/k=2\/k=3\/k=4\/k=5\/k=6\/k=7\/k=8\/k=9\/k=10\/k=11:=by omega
 rcases this with rfl|rfl|rfl|rfl|rfl|rfl|rfl|rfl|rfl|rfl|rfl|rfl<;>exact⟨rfl,rfl,rfl,rfl⟩
theorem YW(k:Nat)(h:k<11):dU (65+k)=⟨1,jmM k,jmK k,fR⟩/\dU (97+k)=⟨1,jmM k,jmK k,fj⟩:=by
 have:k=0\/k=1\/k=2\/k=3\/k=4\/k=5\/k=6\/k=7\/k=8\/k=9\/k=10:=by omega
 rcases this with rfl|rfl|rfl|rfl|rfl|rfl|rfl|rfl|rfl|rfl|rfl<;>exact⟨rfl,rfl⟩
theorem YX(k:Nat)(h:k<4):dU (128+k)=⟨3,0,2 ^ k,fj⟩/\dU (132+k)=⟨4,0,2 ^ k,fR⟩/\dU (136+k)=⟨4,0,2 ^ k,fj⟩:=by
 have:k=0\/k=1\/k=2\/k=3:=by omega
 rcases this with rfl|rfl|rfl|rfl<;>exact⟨rfl,rfl,rfl⟩
theorem YY(w:tW)(v:fa)(hv:∃o n c,v=eS o n c):fS prog 201 #[v] w λe w'=>e=fW (fN (.func 277) #[] #[vP (w.heap.size)])/\au w' w.heap.size #[v] 207/\aa af w w':=by obtain⟨o,n,c,rfl⟩:=hv;go_in;go_wp2_with fail;go_ret;exact⟨rfl,au.new _ _ _,aw⟩
theorem YZ(w:tW)(t:tBA)(v:fa)(hv:∃o n c,v=eS o n c):fS prog 202 #[eR t,v] w λe w'=>e=fW (fN (.func 278) #[] #[vP (w.heap.size),vP (w.heap.size+1)]) /\ au w' w.heap.size #[eR t] 9/\au w' (w.heap.size+1) #[v] 207/\aa af w w':=by
 obtain⟨o,n,c,rfl⟩:=hv
 have hb:au ((w.alloc (fL #[eR t] 9)).alloc (fL #[eS o n c] 207)) (w.heap.size+1) #[eS o n c] 207:=by
  have:=au.new (w.alloc (fL #[eR t] 9)) #[eS o n c] 207
  simpa using this
 go_in;go_wp2_with fail;go_ret;exact⟨rfl,(au.new w _ _).alloc _,hb,aw.alloc _⟩
structure Cw(w:tW)(v1:fa)(f6:Fn)(c6:tAV)(k7:lO)(c7:tAV)(k8:lO)(c8:tAV)(f9:Fn)(c9:tAV)(o:fO):Prop where
 wr:True
 nd:∀w' x,Kp w w'->x.Fit->fS prog k8 (#[fY x.cells]++c8) w' λe w''=>e=fW (fX (o.needs x))/\aa af w' w''
 e7:ou k7
 e8:ou k8
 ws:Sl w 9 1 v1 (eJ o.words) (o.words.map (λt=>eR (T t)))
 rd:Um w o.read f6 c6
 dn:DoAt w f9 c9 (dU o.code)
theorem Cw.kp{w w':tW}{v1:fa}{f6:Fn}{c6:tAV}{k7:lO}{c7:tAV}{k8:lO}{c8:tAV}{f9:Fn}{c9:tAV}{o:fO}(h:Cw w v1 f6 c6 k7 c7 k8 c8 f9 c9 o)(m:Kp w w'):Cw w' v1 f6 c6 k7 c7 k8 c8 f9 c9 o :=
 ⟨trivial,λw2 x m2=>h.nd w2 x (m.trans m2),h.e7,h.e8,h.ws.kp m (by decide),h.rd.kp m,h.dn.kp m⟩
structure dO(w:tW)(b:Nat)(o:fO):Prop where
 ex:∃(o1:Option kh) (n1 c1:Nat) (f6:Fn) (c6:tAV) (k7:lO) (c7:tAV) (k8:lO) (c8:tAV) (f9:Fn) (c9:tAV),
  au w b #[vB o.code,eS o1 n1 c1,vI o.slots,fX o.jumps,fX o.ends,vI o.bD,fN f6 #[] c6,fN (.func k7) #[] c7,fN (.func k8) #[] c8,fN f9 #[] c9] 146/\Cw w (eS o1 n1 c1) f6 c6 k7 c7 k8 c8 f9 c9 o
theorem dO.ai{w w':tW}{b:Nat}{o:fO}(h:dO w b o)(m:aa af w w'):dO w' b o:=by obtain⟨o1,n1,c1,f6,c6,k7,c7,k8,c8,f9,c9,h1,h2⟩:=h.ex;exact⟨o1,n1,c1,f6,c6,k7,c7,k8,c8,f9,c9,h1.ai m id,h2.kp m.kp⟩
theorem dO.lt{w:tW}{b:Nat}{o:fO}(h:dO w b o):b<w.heap.size:=by obtain⟨o1,n1,c1,f6,c6,k7,c7,k8,c8,f9,c9,h1,h2⟩:=h.ex;exact h1.lt
theorem dO.yV{w:tW}{b:Nat}{o:fO}(h:dO w b o):Fh w b:=by obtain⟨o1,n1,c1,f6,c6,k7,c7,k8,c8,f9,c9,h1,h2⟩:=h.ex;exact⟨_,_,_,h1,jn rfl⟩
theorem Kp.set{w:tW}{b:Nat}(h:Fh w b)(i:Nat)(v:fa):Kp w (w.setCell ⟨b,i,eL⟩ v):=(aa.refl (Fh w) w).set (a:=⟨b,i,eL⟩) (jn h) v
theorem dO.kpb{w w':tW}{b:Nat}{o:fO}(h:dO w b o)(m:Kp w w')(hb:w'.heap[b]?=w.heap[b]?):dO w' b o:=by obtain⟨o1,n1,c1,f6,c6,k7,c7,k8,c8,f9,c9,h1,h2⟩:=h.ex;exact⟨o1,n1,c1,f6,c6,k7,c7,k8,c8,f9,c9,hb.trans h1,h2.kp m⟩
theorem dO.other{w:tW}{b b':Nat}{o:fO}(h:dO w b o)(hb:Fh w b')(hne:b'≠b)(i:Nat)(v:fa):dO (w.setCell ⟨b',i,eL⟩ v) b o:=by obtain⟨o1,n1,c1,f6,c6,k7,c7,k8,c8,f9,c9,h1,h2⟩:=h.ex;exact⟨o1,n1,c1,f6,c6,k7,c7,k8,c8,f9,c9,h1.setOther hne _,h2.kp (Kp.set hb i v)⟩
theorem dO.jumps{w:tW}{b:Nat}{o:fO}(h:dO w b o):dO (w.setCell ⟨b,3,eL⟩ (fX fR)) b {o with jumps:=fR}:=by have hk:=Kp.set h.yV 3 (fX fR);obtain⟨o1,n1,c1,f6,c6,k7,c7,k8,c8,f9,c9,h1,h2⟩:=h.ex;have h3:=h2.kp hk;exact⟨o1,n1,c1,f6,c6,k7,c7,k8,c8,f9,c9,h1.set 3 _,⟨h3.wr,h3.nd,h3.e7,h3.e8,h3.ws,h3.rd,h3.dn⟩⟩
theorem dO.ends{w:tW}{b:Nat}{o:fO}(h:dO w b o):dO (w.setCell ⟨b,4,eL⟩ (fX fR)) b {o with ends:=fR}:=by have hk:=Kp.set h.yV 4 (fX fR);obtain⟨o1,n1,c1,f6,c6,k7,c7,k8,c8,f9,c9,h1,h2⟩:=h.ex;have h3:=h2.kp hk;exact⟨o1,n1,c1,f6,c6,k7,c7,k8,c8,f9,c9,h1.set 4 _,⟨h3.wr,h3.nd,h3.e7,h3.e8,h3.ws,h3.rd,h3.dn⟩⟩
theorem dO.slots{w:tW}{b:Nat}{o:fO}(h:dO w b o)(n:Nat):dO (w.setCell ⟨b,2,eL⟩ (vI n)) b {o with slots:=n}:=by have hk:=Kp.set h.yV 2 (vI n);obtain⟨o1,n1,c1,f6,c6,k7,c7,k8,c8,f9,c9,h1,h2⟩:=h.ex;have h3:=h2.kp hk;exact⟨o1,n1,c1,f6,c6,k7,c7,k8,c8,f9,c9,h1.set 2 _,⟨h3.wr,h3.nd,h3.e7,h3.e8,h3.ws,h3.rd,h3.dn⟩⟩
theorem dO.bD{w:tW}{b:Nat}{o:fO}(h:dO w b o)(n:Nat):dO (w.setCell ⟨b,5,eL⟩ (vI n)) b {o with bD:=n}:=by have hk:=Kp.set h.yV 5 (vI n);obtain⟨o1,n1,c1,f6,c6,k7,c7,k8,c8,f9,c9,h1,h2⟩:=h.ex;have h3:=h2.kp hk;exact⟨o1,n1,c1,f6,c6,k7,c7,k8,c8,f9,c9,h1.set 5 _,⟨h3.wr,h3.nd,h3.e7,h3.e8,h3.ws,h3.rd,h3.dn⟩⟩
theorem Y9(w:tW)(bW br bw bp b1 b2:Nat)(code:Nat)(word:tLB)(v:fa)(ps:List PK)(hw:au w bw #[eR (T word)] 9)(hp:au w bp #[v] 207)(hn:au w b1 #[v] 207)(hf:au w b2 #[vI (mZ ps)] 203)(hP:PartsAt w v ps) (hwl:eJ word<=100) (hpl:eJ ps<=10) (hW:au w bW #[eR (T word)] 9) (hR:au w br #[v] 207) (f9:Fn) (c9:tAV) (hD:DoAt w f9 c9 (dU code)):Cw w (eS (eK ⟨bW,0,eL⟩) 1 1) (.func 277) #[vP br] 278 #[vP bw,vP bp] 281 #[vP b1,vP b2] f9 c9 (gU code word ps) where
 wr:=trivial
 nd:=λw' x m hx=>PD x hx w' b1 b2 _ v ps (Fj ps) (hn.kp m (by decide)) (hf.kp m (by decide)) (hP.kp m) hpl
 e7:=enters_of func278 (by kernel_rfl) rfl
 e8:=enters_of func281 (by kernel_rfl) rfl
 ws:=Sl.fresh hW rfl (by decide)
 rd:=⟨_,rfl,enters_of func277 (by kernel_rfl) rfl,λw' b op r m hE h hl=>PG b br op r v ps w' h (hR.kp m (by decide)) (hP.kp m) hpl hl hE⟩
 dn:=hD
theorem Za(w:tW)(code:Nat)(word:tLB)(v:fa)(ps:List PK)(f9:Fn)(c9:tAV)(hP:PartsAt w v ps)(hwl:eJ word<=100)(hpl:eJ ps<=10)(hD:DoAt w f9 c9 (dU code)):fS prog 109 #[vB code,eR (T word),v,fN f9 #[] c9] w λe w'=>∃b,e=fW (vP b)/\dO w' b (gU code word ps)/\w.heap.size<=b/\aa af w w':=by
 have hv:∃o n c,v=eS o n c:=by obtain⟨pv,_,_,hS⟩:=hP.ex;obtain⟨o,c,rfl,_⟩:=hS.view;exact⟨_,_,_,rfl⟩
 have HP:=aq hP;have HD:=aq hD;clear hP hD;obtain⟨o,n,c,rfl⟩:=hv;have m0:aa af w (w.alloc (fL #[eR (T word)] 9)):=aw;have eW:ah _:=m0;clear m0;go_in;go_wp2_with fail;refine(YY _ _ ⟨_,_,_,rfl⟩).mono ?_;rintro e w1 ⟨rfl,hr1,m1⟩;have bU:=aq (eW.o.trans m1);have HWB:ah (au w1 w.heap.size #[eR (T word)] 9):=(au.new w _ _).ai m1 id;have HRB:ah (au w1 (w.heap.size+1) #[eS o n c] 207):=by simp at hr1;exact hr1
 clear m1 hr1;go_wp2_with fail;refine(YZ _ _ _ ⟨_,_,_,rfl⟩).mono ?_;rintro e w2 ⟨rfl,hw2,hp2,m2⟩;have HW2:=aq hw2;have lU:=aq hp2;have aeO:=aq (HWB.o.ai m2 id);have aeP:=aq (HRB.o.ai m2 id);have bP:=aq (bU.o.trans m2);clear m2 hw2 hp2;go_wp2_with fail;refine(Uq _ _ _ (HP.o.ai bP.o) hpl).mono ?_;rintro e w3 ⟨rfl,h1,h2,m3⟩;have dF:=aq (bP.o.trans m3);have HO:=aq (Y9 w3 _ _ _ _ _ _ code word _ ps (HW2.o.ai m3 id) (lU.o.ai m3 id) h1 h2 (HP.o.ai dF.o) hwl hpl (aeO.o.ai m3 id) (aeP.o.ai m3 id) _ _ (HD.o.ai dF.o));clear m3 h1 h2;go_wp2_with fail;go_ret;exact⟨w3.heap.size,rfl,⟨_,_,_,_,_,_,_,_,_,_,_,au.new _ _ _,HO.o.kp aw.kp⟩,dF.o.size,dF.o.alloc _⟩
theorem Ut:(prog.info? 3).map (λi=>(i.zero,i.size,i.bytes))=eK (eK (vI 0),1,8):=by kernel_rfl
theorem bH(w:tW)(cs:tAV)(t:ju)(b:Nat)(hb:b=w.heap.size):∀j u,cs.toList[j]?=eK u->(w.alloc (fL cs t)).cell? ((⟨b,0,eL⟩:kh).add j)=eK u:=by
 intro j u h;subst hb;have hadd:(⟨w.heap.size,0,eL⟩:kh).add j=⟨w.heap.size,j,eL⟩:=by unfold Addr.add;split<;>simp_all
 rw[hadd,(au.new w cs t).cell j];simpa using h
theorem Zc(x:Int):∀u∈[Value.int .i64 x],u.oneCell'=fR:=by intro u hu;simp at hu;subst hu;rfl
theorem Uu:(prog.info? 9).map (λi=>(i.zero,i.size,i.bytes))=eK (eK (eR ByteArray.empty),1,16):=by kernel_rfl
def jA(a b:tBA):Bool:=Op.bytesLess a.toList b.toList
theorem Sl.setAt{w:tW}{e:ju}{size:Nat}{g n cap:Nat}{xs:tLV}(h:Sl w e size (eS (eK ⟨g,0,eL⟩) n cap) n xs)(j:Nat)(u:fa)(_hj:j<n*size):Sl (w.setCell ⟨g,j,eL⟩ u) e size (eS (eK ⟨g,0,eL⟩) n cap) n (xs.set j u):=by
 refine⟨by rw[List.length_set];exact h.1,?_⟩;rcases h.2 with⟨h',_⟩ |⟨g',cap',cur,h',h0,hg,hn,hm,hs,ht⟩
 ·cases h'
 ·cases h';refine ij ⟨g,cap,cur.setIfInBounds j u,rfl,h0,au.set (t:=e) hg j u,hn,hm,by simpa using hs,?_⟩;rw[Array.toList_setIfInBounds,<-ht,List.take_set]


structure Yn(size:Nat)(cs:tAV)(cap n:Nat)(xs:tLV):Prop where
 nc:n<=cap
 cm:cap<=jz
 sz:cs.size=cap*size
 tk:cs.toList.take (n*size)=xs
 ln:eJ xs=n*size
theorem Yn.sl{size:Nat}{cs:tAV}{cap n:Nat}{xs:tLV}(h:Yn size cs cap n xs){w:tW}{g:Nat}{e:ju}(hb:au w g cs e):Sl w e size (eS (eK ⟨g,0,eL⟩) n cap) n xs :=
 ⟨h.ln,ij ⟨g,cap,cs,rfl,bj _,hb,h.nc,h.cm,h.sz,h.tk⟩⟩
theorem Sl.blk{w:tW}{e:ju}{size g n cap:Nat}{xs:tLV}(h:Sl w e size (eS (eK ⟨g,0,eL⟩) n cap) n xs):∃cs,au w g cs e/\Yn size cs cap n xs:=by
 rcases h.2 with⟨h',_⟩ |⟨g',cap',cur,h',_,hg,hn,hm,hs,ht⟩
 ·cases h'
 ·cases h';exact⟨cur,hg,hn,hm,hs,ht,h.1⟩
theorem Yn.get{size:Nat}{cs:tAV}{cap n:Nat}{xs:tLV}(h:Yn size cs cap n xs)(j:Nat)(hj:j<n*size):cs[j]?=xs[j]?:=by rw[<-h.tk,List.getElem?_take,iP9 hj];simp
def nr(l:List Bool):tAV:=(l.map Value.bool).toArray
theorem Fl:(prog.info? 4).map (λi=>(i.zero,i.size,i.bytes))=eK (eK (fX fj),1,1):=by kernel_rfl
theorem PM(n:Nat):rB #[fX fj] n=nr (List.replicate n fj):=by
 apply Array.ext_getElem?;intro i;by_cases h:i<n
 ·simp[rB,nr,h,Nat.mod_one]
 ·simp[rB,nr,h]
theorem PN(l:List Bool)(k:Nat)(b:Bool):(nr l).setIfInBounds k (fX b)=nr (l.set k b):=by simp[nr,List.map_set]
def qL(Q:tW->Fn->tAV->Prop)(w:tW)(e:Ending)(w':tW):Prop:=∃f c,e=fW (fN f #[] c)/\aa af w w'/\Q w' f c
theorem au.abw(w:tW)(o:Obj)(cs:tAV)(t:ju):au ((w.alloc o).alloc (fL cs t)) (w.heap.size+1) cs t:=by
 have:=au.new (w.alloc o) cs t
 rwa [World.size_alloc]at this
theorem kz(w:tW)(f1:Fn)(a1:tAV)(m k:Nat)(aD:Bool)(h:ic w f1 a1 m k):fS prog 110 #[fN f1 #[] a1,qK (KY aD)] w λe w'=>qL (λw' f c=>DoAt w' f c ⟨0,m,k,aD⟩) w e w':=by have H:=aq h;clear h;generalize hr:KY aD=fr;have HR:=aq hr;clear hr;go_in;go_wp2_with fail;go_ret;exact⟨_,_,rfl,aw.alloc _,rfl,_,_,_,_,rfl,(au.new _ _ _).alloc _,(by rw[HR.o];exact au.abw _ _ _ _),H.o.ai (aw.alloc _)⟩
theorem Cx(w:tW)(f1:Fn)(a1:tAV)(m k:Nat)(aD:Bool)(h:px w f1 a1 m k):fS prog 120 #[fN f1 #[] a1,qK (KY aD)] w λe w'=>qL (λw' f c=>DoAt w' f c ⟨1,m,k,aD⟩) w e w':=by have H:=aq h;clear h;generalize hr:KY aD=fr;have HR:=aq hr;clear hr;go_in;go_wp2_with fail;go_ret;exact⟨_,_,rfl,aw.alloc _,rfl,_,_,_,_,rfl,(au.new _ _ _).alloc _,(by rw[HR.o];exact au.abw _ _ _ _),H.o.ai (aw.alloc _)⟩
theorem adb(k:Nat)(h:k<4):RowKit.wrap64 ((2:Int) ^ k)=((2 ^ k:Nat):Int):=by
 have:k=0\/k=1\/k=2\/k=3:=by omega
 rcases this with rfl|rfl|rfl|rfl<;>simp[RowKit.wrap64]
theorem PO(w:tW)(z:Int)(n:Nat)(hz:z=n):fS prog 124 #[vI z] w λe w'=>qL (λw' f c=>DoAt w' f c ⟨3,0,n,fj⟩) w e w':=by subst hz;go_in;go_wp2_with fail;go_ret;exact⟨_,_,rfl,aw,rfl,_,rfl,au.new _ _ _⟩
theorem Cy(w:tW)(z:Int)(n:Nat)(aD:Bool)(hz:z=n):fS prog 125 #[vI z,qK (KY aD)] w λe w'=>qL (λw' f c=>DoAt w' f c ⟨4,0,n,aD⟩) w e w':=by subst hz;generalize hr:KY aD=fr;have HR:=aq hr;clear hr;go_in;go_wp2_with fail;go_ret;exact⟨_,_,rfl,aw.alloc _,rfl,_,_,rfl,(au.new _ _ _).alloc _,(by rw[HR.o];exact au.abw _ _ _ _)⟩
theorem Cz(w:tW)(k:Nat):fS prog 113 #[qK (Ip k)] w λe w'=>qL (λw' f c=>ic w' f c 2 k/\f=.func 206) w e w':=by generalize hr:Ip k=fr;have HR:=aq hr;clear hr;go_in;go_wp2_with fail;go_ret;exact⟨_,_,rfl,aw,⟨rfl,_,rfl,by rw[HR.o];exact au.new _ _ _⟩,rfl⟩
theorem yX(w:tW)(k:Nat):fS prog 115 #[qK (Ip k)] w λe w'=>qL (λw' f c=>ic w' f c 3 k) w e w':=by generalize hr:Ip k=fr;have HR:=aq hr;clear hr;go_in;go_wp2_with fail;go_ret;exact⟨_,_,rfl,aw,rfl,_,rfl,by rw[HR.o];exact au.new _ _ _⟩
theorem jQ(w:tW)(k:Nat):fS prog 219 #[qK (cmF k)] w λe w'=>qL (λw' f c=>px w' f c 2 k) w e w':=by generalize hr:cmF k=fr;have HR:=aq hr;clear hr;go_in;go_wp2_with fail;go_ret;exact⟨_,_,rfl,aw,rfl,_,rfl,by rw[HR.o];exact au.new _ _ _⟩
theorem IX(w:tW)(f1:Fn)(a1:tAV):fS prog 219 #[fN f1 #[] a1] w λe w'=>e=fW (fN (.func 283) #[] #[pt w.heap.size])/\aa af w w'/\au w' w.heap.size #[fN f1 #[] a1] 287:=by go_in;go_wp2_with fail;go_ret;exact⟨rfl,aw,au.new _ _ _⟩
theorem oz(w:tW)(k:Nat):fS prog 224 #[qK (csF k)] w λe w'=>qL (λw' f c=>px w' f c 3 k) w e w':=by
 generalize hr:csF k=fr;have HR:=aq hr;clear hr;go_in;go_wp2_with fail;refine(IX _ _ _).mono ?_;rintro e w1 ⟨rfl,m1,b1⟩;have HB:ah (au w1 (w.heap.size+1) #[fN (.func 284) #[] #[pt w.heap.size]] 287):=by rw[World.size_alloc]at b1;exact b1
 have HM:=aq m1;clear b1 m1;rw[World.size_alloc];go_wp2_with fail;go_ret;exact⟨_,_,rfl,aw.trans HM.o,rfl,_,_,rfl,HB.o,by rw[HR.o];exact(au.new _ _ _).ai HM.o id⟩
theorem Fm(w:tW)(k:Nat):fS prog 187 #[qK (Ip k)] w λe w'=>qL (λw' f c=>ic w' f c 4 k) w e w':=by have H64:=aq (Cz (w.alloc (fL #[qK (Ip k)] 282)) k);generalize hr:Ip k=fr;have HR:=aq hr;clear hr;rw[HR.o]at H64;go_in;go_wp2_with fail;refine H64.o.mono ?_;rintro e w1 ⟨f,c,rfl,m1,h1,hf⟩;obtain⟨_,b,rfl,hb⟩:=h1;subst hf;rw[HR.o]at hb;have HB:=aq hb;have HM:=aq m1;clear m1 hb H64;go_wp2_with fail;go_ret;exact⟨_,_,rfl,(aw.trans HM.o).alloc _,rfl,_,_,_,rfl,by rw[HR.o];exact((au.new _ _ _).ai HM.o id).alloc _,au.new _ _ _,by rw[HR.o];exact HB.o.alloc _⟩
theorem ic.NL{w w':tW}{f:Fn}{c:tAV}{m k g:Nat}{cs:tAV}{t:ju}(h:ic w f c m k)(hb:au w g cs t)(q:aa (Only g) w w')(h1:t≠282)(h2:t≠208):ic w' f c m k:=by
 have key:∀{b:Nat} {ds:tAV} {u:ju},au w b ds u->u≠t->au w' b ds u:=fun{b ds u} hk hu=>hk.ai q (λe=>by have e0:b=g:=e;rw[e0]at hk;have e1:w.heap[g]?=eK (fL ds u (0,0)):=hk;have e2:w.heap[g]?=eK (fL cs t (0,0)):=hb;rw[e1]at e2;injection e2 with e2;injection e2 with _ e3 _;exact hu e3);unfold ic at h ⊢;split at h
 ·exact h
 ·exact h
 ·obtain⟨h0,b,h1',h2'⟩:=h;exact⟨h0,b,h1',key h2' (Ne.symm h1)⟩
 ·obtain⟨h0,b,h1',h2'⟩:=h;exact⟨h0,b,h1',key h2' (Ne.symm h1)⟩
 ·obtain⟨h0,b,b1,b2,h1',h2',h3',h4'⟩:=h;exact⟨h0,b,b1,b2,h1',key h2' (Ne.symm h1),key h3' (Ne.symm h2),key h4' (Ne.symm h1)⟩
theorem ic.Fp{w:tW}{f:Fn}{c:tAV}{m k g:Nat}{cs:tAV}(h:ic w f c m k)(hb:au w g cs 210)(i:Nat)(v:fa):ic (w.setCell ⟨g,i,eL⟩ v) f c m k:=h.NL hb (ax.bA i v) (by decide) (by decide)
theorem fU(w:tW)(t:tBA)(k:Nat):fS prog 190 #[eR t,qK (Ip k)] w λe w'=>∃f2 c2 f3 c3,e=fW (fY #[eR t,fN f2 #[] c2,fN f3 #[] c3])/\aa af w w'/\ic w' f2 c2 2 k/\ic w' f3 c3 3 k:=by
 have H64:ah (∀w,_):=λw=>Cz w k;have H32:ah (∀w,_):=λw=>yX w k;generalize hr:qK (Ip k)=fr at *;clear hr;go_in;go_wp2_with fail;refine(H64.o _).mono ?_;rintro e w1 ⟨f2,c2,rfl,m1,h2,hf⟩;have H2:=aq h2;clear h2 hf;go_wp2_with fail;refine(H32.o _).mono ?_;rintro e w2 ⟨f3,c3,rfl,m2,h3⟩;have H3:=aq h3;have H2':=aq (H2.o.ai m2);clear h3 H2 H64 H32;have hz:=((au.new w #[eR ⟨#[]⟩,pL,pL] 210).ai m1 id).ai m2 id;have z0:=hz.cell 0;have z1:=hz.cell 1;have z2:=hz.cell 2;have g0:=hz.frozen 0;have g1:=hz.frozen 1;have g2:=hz.frozen 2;simp at z0 z1 z2;go_wp2_with fail;refine kx (mL results190 _ _ w.heap.size 210 _ (0,0) _ rfl (((hz.set 0 _).set 1 _).set 2 _) underlying210 rfl (by kernel_rfl)) rfl ⟨_,_,_,_,rfl,?_,?_,?_⟩
 ·iterate 3 refine aa.set ?_ (ij (by simp)) _
  exact(aw.trans m1).trans m2
 ·exact ic.Fp (ic.Fp (ic.Fp H2'.o hz 0 _) (hz.set 0 _) 1 _) ((hz.set 0 _).set 1 _) 2 _
 ·exact ic.Fp (ic.Fp (ic.Fp H3.o hz 0 _) (hz.set 0 _) 1 _) ((hz.set 0 _).set 1 _) 2 _
structure AV where
 f1:Fn
 c1:tAV
 f2:Fn
 c2:tAV
def AV.cells(t:tLB)(v:AV):tLV:=[eR (T t),fN v.f1 #[] v.c1,fN v.f2 #[] v.c2]
def arC(tI:List AV):tLV:=(jD.zip tI).flatMap (λx=>x.2.cells x.1)
theorem aa.setRow{S:Nat->Prop}{w w':tW}(h:aa S w w'){g:Nat}(hg:S g\/w.heap.size<=g)(cs:tAV):aa S w (w'.setRow g cs) :=
 ⟨h.os,h.tape,h.output,by have:=h.size;simp[World.setRow];omega,λk hk hs=>by rw[xl _ _ _ _ (by rintro rfl;rcases hg with hg|hg;exact hs hg;omega)];exact h.block k hk hs⟩
theorem au.setRow{w:tW}{g:Nat}{cs:tAV}{t:ju}(h:au w g cs t)(cs':tAV):au (w.setRow g cs') g cs' t:=setRow_heap w g cs cs' t (0,0) h
theorem au.oD{w:tW}{g g':Nat}{cs:tAV}{t:ju}(h:au w g cs t)(hne:g≠g')(cs':tAV):au (w.setRow g' cs') g cs t:=(xl w g' g cs' hne).trans h
theorem Zd(tI:List AV):(arC tI).toArray.all (·.oneCell')=fR:=by rw[cx,ba];intro v hv;obtain⟨x,_,hx⟩:=List.mem_flatMap.1 hv;simp only[AV.cells,ao,ab,or_false]at hx;rcases hx with rfl|rfl|rfl<;>rfl
theorem px.NL{w w':tW}{f:Fn}{c:tAV}{m k g:Nat}{cs:tAV}{t:ju}(h:px w f c m k)(hb:au w g cs t)(q:aa (Only g) w w')(h1:t≠287)(h2:t≠289):px w' f c m k:=by
 have key:∀{b:Nat} {ds:tAV} {u:ju},au w b ds u->u≠t->au w' b ds u:=fun{b ds u} hk hu=>hk.ai q (λe=>by have e0:b=g:=e;rw[e0]at hk;have e1:w.heap[g]?=eK (fL ds u (0,0)):=hk;have e2:w.heap[g]?=eK (fL cs t (0,0)):=hb;rw[e1]at e2;injection e2 with e2;injection e2 with _ e3 _;exact hu e3);unfold px at h ⊢;split at h
 ·exact h
 ·exact h
 ·obtain⟨h0,b,h1',h2'⟩:=h;exact⟨h0,b,h1',key h2' (Ne.symm h1)⟩
 ·obtain⟨h0,b,b1,h1',h2',h3'⟩:=h;exact⟨h0,b,b1,h1',key h2' (Ne.symm h1),key h3' (Ne.symm h2)⟩
theorem Lg(w:tW):fS prog 108 #[] w λe w'=>∃tI:List AV,eJ tI=12/\e=fW (fY (arC tI).toArray)/\aa af w w'/\∀k (_:k<12) (h:k<eJ tI),ic w' tI[k].f1 tI[k].c1 (m64 k) (k-1)/\ic w' tI[k].f2 tI[k].c2 (m32 k) (k-1):=by
 go_in;go_wp2_with fail;refine(Fm _ 0).mono ?_;rintro e w1 ⟨x1a,x1b,rfl,m1,h1a⟩;have RA1:=aq h1a;clear h1a;have MM1:=aq m1;have M1:=m1;clear m1;go_wp2_with fail;refine(yX _ 0).mono ?_;rintro e w2 ⟨x2a,x2b,rfl,m2,h2a⟩;have RA2:=aq h2a;clear h2a;have MM2:=aq m2;have M2:=M1.trans m2;clear m2 M1;go_wp2_with fail;refine(Fm _ 1).mono ?_;rintro e w3 ⟨x3a,x3b,rfl,m3,h3a⟩;have RA3:=aq h3a;clear h3a;have MM3:=aq m3;have M3:=M2.trans m3;clear m3 M2;go_wp2_with fail;refine(yX _ 1).mono ?_;rintro e w4 ⟨x4a,x4b,rfl,m4,h4a⟩;have RA4:=aq h4a;clear h4a;have MM4:=aq m4;have M4:=M3.trans m4;clear m4 M3;go_wp2_with fail;refine(fU _ _ 2).mono ?_;rintro e w5 ⟨x5a,x5b,x5c,x5d,rfl,m5,h5a,h5b⟩;have RA5:=aq h5a;have RB5:=aq h5b;clear h5a h5b;have Ze:=aq m5;have M5:=M4.trans m5;clear m5 M4;go_wp2_with fail;refine(fU _ _ 3).mono ?_;rintro e w6 ⟨x6a,x6b,x6c,x6d,rfl,m6,h6a,h6b⟩;have RA6:=aq h6a;have RB6:=aq h6b;clear h6a h6b;have Tn:=aq m6;have M6:=M5.trans m6;clear m6 M5;go_wp2_with fail;refine(fU _ _ 4).mono ?_;rintro e w7 ⟨x7a,x7b,x7c,x7d,rfl,m7,h7a,h7b⟩;have RA7:=aq h7a;have RB7:=aq h7b;clear h7a h7b;have Lh:=aq m7;have M7:=M6.trans m7;clear m7 M6;go_wp2_with fail;refine(fU _ _ 5).mono ?_;rintro e w8 ⟨x8a,x8b,x8c,x8d,rfl,m8,h8a,h8b⟩;have RA8:=aq h8a;have RB8:=aq h8b;clear h8a h8b;have Iq:=aq m8;have M8:=M7.trans m8;clear m8 M7;go_wp2_with fail;refine(fU _ _ 6).mono ?_;rintro e w9 ⟨x9a,x9b,x9c,x9d,rfl,m9,h9a,h9b⟩;have RA9:=aq h9a;have RB9:=aq h9b;clear h9a h9b;have ED:=aq m9;have M9:=M8.trans m9;clear m9 M8;go_wp2_with fail;refine(fU _ _ 7).mono ?_;rintro e w10 ⟨aeQ,aeR,aeS,aeT,rfl,m10,ade,adf⟩;have aeU:=aq ade;have aeV:=aq adf;clear ade adf;have yY:=aq m10;have M10:=M9.trans m10;clear m10 M9;go_wp2_with fail;refine(fU _ _ 8).mono ?_;rintro e w11 ⟨aeW,aeX,aeY,aeZ,rfl,m11,adg,adh⟩;have ae0:=aq adg;have ae1:=aq adh;clear adg adh;have wW:=aq m11;have M11:=M10.trans m11;clear m11 M10;go_wp2_with fail;refine(fU _ _ 9).mono ?_;rintro e w12 ⟨ae2,ae3,ae4,ae5,rfl,m12,adi,adj⟩;have ae6:=aq adi;have ae7:=aq adj;clear adi adj;have sV:=aq m12;have M12:=M11.trans m12;clear m12 M11;go_wp2_with fail;refine(fU _ _ 10).mono ?_;rintro e w13 ⟨ae8,ae9,afa,afb,rfl,m13,adk,adl⟩;have afc:=aq adk;have afd:=aq adl;clear adk adl;have qa:=aq m13;have M13:=M12.trans m13;clear m13 M12;have hz:=(au.new w _ _).ai M13 id;have HZ:=aq hz;have HM:=aq M13;clear hz M13;go_wp2_with (refine pA rfl 211 (.tmp 0) (.tmp 17) rfl w.heap.size (arC [⟨.func 185,#[],.func 186,#[]⟩,⟨x1a,x1b,x2a,x2b⟩,⟨x3a,x3b,x4a,x4b⟩,⟨x5a,x5b,x5c,x5d⟩,⟨x6a,x6b,x6c,x6d⟩,⟨x7a,x7b,x7c,x7d⟩,⟨x8a,x8b,x8c,x8d⟩,⟨x9a,x9b,x9c,x9d⟩,⟨aeQ,aeR,aeS,aeT⟩,⟨aeW,aeX,aeY,aeZ⟩,⟨ae2,ae3,ae4,ae5⟩,⟨ae8,ae9,afa,afb⟩]).toArray rfl rfl 211 _ HZ.o (by kernel_rfl) rfl (Zd _) ?_);have key:∀{f:Fn} {c:tAV} {m k:Nat} (cs:tAV),ic w13 f c m k->ic (w13.setRow w.heap.size cs) f c m k:=λcs h=>h.NL HZ.o (aa.setRow (S:=Only w.heap.size) ax (jn (show w.heap.size=w.heap.size from rfl)) cs) (by decide) (by decide);refine kx (mL results108 _ _ w.heap.size 211 _ (0,0) _ rfl (HZ.o.setRow _) underlying211 rfl (by kernel_rfl)) rfl ⟨_,rfl,rfl,?_,?_⟩
 ·exact(aw.trans HM.o).setRow (ij (bt _)) _
 ·intro k hk _;have hk':k=0\/k=1\/k=2\/k=3\/k=4\/k=5\/k=6\/k=7\/k=8\/k=9\/k=10\/k=11:=by omega
  rcases hk' with rfl|rfl|rfl|rfl|rfl|rfl|rfl|rfl|rfl|rfl|rfl|rfl
  ·exact⟨⟨rfl,rfl⟩,⟨rfl,rfl⟩⟩
  ·exact⟨key _ (RA1.o.ai (((((((((((MM2.o.trans MM3.o).trans MM4.o).trans Ze.o).trans Tn.o).trans Lh.o).trans Iq.o).trans ED.o).trans yY.o).trans wW.o).trans sV.o).trans qa.o)),key _ (RA2.o.ai ((((((((((MM3.o.trans MM4.o).trans Ze.o).trans Tn.o).trans Lh.o).trans Iq.o).trans ED.o).trans yY.o).trans wW.o).trans sV.o).trans qa.o))⟩
  ·exact⟨key _ (RA3.o.ai (((((((((MM4.o.trans Ze.o).trans Tn.o).trans Lh.o).trans Iq.o).trans ED.o).trans yY.o).trans wW.o).trans sV.o).trans qa.o)),key _ (RA4.o.ai ((((((((Ze.o.trans Tn.o).trans Lh.o).trans Iq.o).trans ED.o).trans yY.o).trans wW.o).trans sV.o).trans qa.o))⟩
  ·exact⟨key _ (RA5.o.ai (((((((Tn.o.trans Lh.o).trans Iq.o).trans ED.o).trans yY.o).trans wW.o).trans sV.o).trans qa.o)),key _ (RB5.o.ai (((((((Tn.o.trans Lh.o).trans Iq.o).trans ED.o).trans yY.o).trans wW.o).trans sV.o).trans qa.o))⟩
  ·exact⟨key _ (RA6.o.ai ((((((Lh.o.trans Iq.o).trans ED.o).trans yY.o).trans wW.o).trans sV.o).trans qa.o)),key _ (RB6.o.ai ((((((Lh.o.trans Iq.o).trans ED.o).trans yY.o).trans wW.o).trans sV.o).trans qa.o))⟩
  ·exact⟨key _ (RA7.o.ai (((((Iq.o.trans ED.o).trans yY.o).trans wW.o).trans sV.o).trans qa.o)),key _ (RB7.o.ai (((((Iq.o.trans ED.o).trans yY.o).trans wW.o).trans sV.o).trans qa.o))⟩
  ·exact⟨key _ (RA8.o.ai ((((ED.o.trans yY.o).trans wW.o).trans sV.o).trans qa.o)),key _ (RB8.o.ai ((((ED.o.trans yY.o).trans wW.o).trans sV.o).trans qa.o))⟩
  ·exact⟨key _ (RA9.o.ai (((yY.o.trans wW.o).trans sV.o).trans qa.o)),key _ (RB9.o.ai (((yY.o.trans wW.o).trans sV.o).trans qa.o))⟩
  ·exact⟨key _ (aeU.o.ai ((wW.o.trans sV.o).trans qa.o)),key _ (aeV.o.ai ((wW.o.trans sV.o).trans qa.o))⟩
  ·exact⟨key _ (ae0.o.ai (sV.o.trans qa.o)),key _ (ae1.o.ai (sV.o.trans qa.o))⟩
  ·exact⟨key _ (ae6.o.ai qa.o),key _ (ae7.o.ai qa.o)⟩
  ·exact⟨key _ afc.o,key _ afd.o⟩
structure JV where
 f1:Fn
 c1:tAV
def JV.cells(t:tLB)(v:JV):tLV:=[eR (T t),fN v.f1 #[] v.c1]
def juC(xy:List JV):tLV:=(pU.zip xy).flatMap (λx=>x.2.cells x.1)
theorem Zf(xy:List JV):(juC xy).toArray.all (·.oneCell')=fR:=by rw[cx,ba];intro v hv;obtain⟨x,_,hx⟩:=List.mem_flatMap.1 hv;simp only[JV.cells,ao,ab,or_false]at hx;rcases hx with rfl|rfl<;>rfl
theorem PQ(w:tW):fS prog 119 #[] w λe w'=>∃xy:List JV,eJ xy=11/\e=fW (fY (juC xy).toArray)/\aa af w w'/\∀k (_:k<11) (h:k<eJ xy),px w' xy[k].f1 xy[k].c1 (jmM k) (jmK k):=by
 go_in;go_wp2_with fail;refine(jQ _ 0).mono ?_;rintro e w1 ⟨x1a,x1b,rfl,m1,h1a⟩;have RA1:=aq h1a;clear h1a;have MM1:=aq m1;have M1:=m1;clear m1;go_wp2_with fail;refine(jQ _ 1).mono ?_;rintro e w2 ⟨x2a,x2b,rfl,m2,h2a⟩;have RA2:=aq h2a;clear h2a;have MM2:=aq m2;have M2:=M1.trans m2;clear m2 M1;go_wp2_with fail;refine(jQ _ 2).mono ?_;rintro e w3 ⟨x3a,x3b,rfl,m3,h3a⟩;have RA3:=aq h3a;clear h3a;have MM3:=aq m3;have M3:=M2.trans m3;clear m3 M2;go_wp2_with fail;refine(jQ _ 3).mono ?_;rintro e w4 ⟨x4a,x4b,rfl,m4,h4a⟩;have RA4:=aq h4a;clear h4a;have MM4:=aq m4;have M4:=M3.trans m4;clear m4 M3;go_wp2_with fail;refine(oz _ 0).mono ?_;rintro e w5 ⟨x5a,x5b,rfl,m5,h5a⟩;have RA5:=aq h5a;clear h5a;have Ze:=aq m5;have M5:=M4.trans m5;clear m5 M4;go_wp2_with fail;refine(oz _ 1).mono ?_;rintro e w6 ⟨x6a,x6b,rfl,m6,h6a⟩;have RA6:=aq h6a;clear h6a;have Tn:=aq m6;have M6:=M5.trans m6;clear m6 M5;go_wp2_with fail;refine(oz _ 2).mono ?_;rintro e w7 ⟨x7a,x7b,rfl,m7,h7a⟩;have RA7:=aq h7a;clear h7a;have Lh:=aq m7;have M7:=M6.trans m7;clear m7 M6;go_wp2_with fail;refine(oz _ 3).mono ?_;rintro e w8 ⟨x8a,x8b,rfl,m8,h8a⟩;have RA8:=aq h8a;clear h8a;have Iq:=aq m8;have M8:=M7.trans m8;clear m8 M7;go_wp2_with fail;refine(jQ _ 4).mono ?_;rintro e w9 ⟨x9a,x9b,rfl,m9,h9a⟩;have RA9:=aq h9a;clear h9a;have ED:=aq m9;have M9:=M8.trans m9;clear m9 M8;have hz:=(au.new w _ _).ai M9 id;have HZ:=aq hz;have HM:=aq M9;clear hz M9;go_wp2_with (refine pA rfl 221 (.tmp 0) (.tmp 21) rfl w.heap.size (juC [⟨.func 217,#[]⟩,⟨.func 218,#[]⟩,⟨x1a,x1b⟩,⟨x2a,x2b⟩,⟨x3a,x3b⟩,⟨x4a,x4b⟩,⟨x5a,x5b⟩,⟨x6a,x6b⟩,⟨x7a,x7b⟩,⟨x8a,x8b⟩,⟨x9a,x9b⟩]).toArray rfl rfl 221 _ HZ.o (by kernel_rfl) rfl (Zf _) ?_);have key:∀{f:Fn} {c:tAV} {m k:Nat} (cs:tAV),px w9 f c m k->px (w9.setRow w.heap.size cs) f c m k:=λcs h=>h.NL HZ.o (aa.setRow (S:=Only w.heap.size) ax (jn (show w.heap.size=w.heap.size from rfl)) cs) (by decide) (by decide);refine kx (mL results119 _ _ w.heap.size 221 _ (0,0) _ rfl (HZ.o.setRow _) underlying221 rfl (by kernel_rfl)) rfl ⟨_,rfl,rfl,?_,?_⟩
 ·exact(aw.trans HM.o).setRow (ij (bt _)) _
 ·intro k hk _;have hk':k=0\/k=1\/k=2\/k=3\/k=4\/k=5\/k=6\/k=7\/k=8\/k=9\/k=10:=by omega
  rcases hk' with rfl|rfl|rfl|rfl|rfl|rfl|rfl|rfl|rfl|rfl|rfl
  ·exact⟨rfl,rfl⟩
  ·exact⟨rfl,rfl⟩
  ·exact key _ (RA1.o.ai (((((((MM2.o.trans MM3.o).trans MM4.o).trans Ze.o).trans Tn.o).trans Lh.o).trans Iq.o).trans ED.o))
  ·exact key _ (RA2.o.ai ((((((MM3.o.trans MM4.o).trans Ze.o).trans Tn.o).trans Lh.o).trans Iq.o).trans ED.o))
  ·exact key _ (RA3.o.ai (((((MM4.o.trans Ze.o).trans Tn.o).trans Lh.o).trans Iq.o).trans ED.o))
  ·exact key _ (RA4.o.ai ((((Ze.o.trans Tn.o).trans Lh.o).trans Iq.o).trans ED.o))
  ·exact key _ (RA5.o.ai (((Tn.o.trans Lh.o).trans Iq.o).trans ED.o))
  ·exact key _ (RA6.o.ai ((Lh.o.trans Iq.o).trans ED.o))
  ·exact key _ (RA7.o.ai (Iq.o.trans ED.o))
  ·exact key _ (RA8.o.ai ED.o)
  ·exact key _ RA9.o
def gH(b:Nat):fa:=vP b
structure aM(base:Nat)(w:tW)(v:fa)(bs:tLN)(os:List fO):Prop where
 len:eJ bs=eJ os
 nd:bs.Nodup
 sl:Sl w 135 1 v (eJ bs) (bs.map gH)
 at':∀i (h:i<eJ bs) (h':i<eJ os),dO w bs[i] os[i]
 lo:∀b∈bs,base<=b
 own:∀k,v.ownBlock=eK k->base<=k
theorem aM.nil(base:Nat)(w:tW):aM base w (vN) [] [] :=
 ⟨rfl,List.nodup_nil,Sl.nil _ _ _,λi h=>absurd h (Nat.not_lt_zero _),λb h=>(by cases h),λk h=>(by cases h)⟩
theorem aM.ai{base:Nat}{w w':tW}{v:fa}{bs:tLN}{os:List fO}(h:aM base w v bs os)(m:aa af w w'):aM base w' v bs os :=
 ⟨h.len,h.nd,h.sl.ai m (λ_ _=>id),λi h1 h2=>(h.at' i h1 h2).ai m,h.lo,h.own⟩
theorem dO.Li{w:tW}{b:Nat}{o:fO}(h:dO w b o){v:fa}{n:Nat}{xs:tLV}(hs:Sl w 135 1 v n xs):v.ownBlock≠eK b:=by
 obtain⟨o1,n1,c1,f6,c6,k7,c7,k8,c8,f9,c9,h1,h2⟩:=h.ex;intro hv;rcases hs.2 with⟨rfl,rfl⟩ |⟨g,cap,cur,rfl,_,hg,_⟩
 ·cases hv
 ·cases hv;unfold au at h1;rw[hg]at h1;cases h1
theorem aM.app{base:Nat}{w w':tW}{v v':fa}{bs cs:tLN}{os ps:List fO}(h:aM base w v bs os)(hlen:eJ cs=eJ ps)(hnd:(bs++cs).Nodup)(hat:∀i (h:i<eJ cs) (h':i<eJ ps),dO w cs[i] ps[i])(hlo:∀b∈cs,base<=b)(hsl:Sl w' 135 1 v' (eJ bs+eJ cs) (bs.map gH++cs.map gH)) (m:aa (λk=>v.ownBlock=eK k) w w') (ho:∀k,v'.ownBlock=eK k->v.ownBlock=eK k\/w.heap.size<=k) (hb:base<=w.heap.size):aM base w' v' (bs++cs) (os++ps):=by
 have hk:=aa.Gm h.sl m;have key:=λb o (ha:dO w b o)=>ha.kpb hk (m.block b ha.lt (λe=>ha.Li h.sl e));refine⟨by simp[h.len,hlen],hnd,by rw[List.length_append,List.map_append];exact hsl,λi h1 h2=>?_,λb hm=>?_,λk hk'=>?_⟩
 ·rcases Nat.lt_or_ge i (eJ bs) with hi|hi
  ·rw[b9 hi,b9 (by rw[<-h.len];exact hi)];exact key _ _ (h.at' i hi _)
  ·rw[b5 hi,b5 (by rw[<-h.len];exact hi)];have:=hat (i-eJ bs) (by simp at h1;omega) (by rw[<-hlen];simp at h1;omega);simp only[<-h.len];exact key _ _ this
 ·rcases List.mem_append.1 hm with hm|hm
  ·exact h.lo b hm
  ·exact hlo b hm
 ·rcases ho k hk' with e|e
  ·exact h.own k e
  ·omega
def PS(k:Nat):List fO:=(jD.zipIdx.take k).flatMap λx=>Cc x.2 x.1
theorem Uv(k:Nat)(h:k<12):PS (k+1)=PS k++Cc k (jD[k]'h):=by
 have:∀k:Fin 12,PS (k.1+1)=PS k.1++Cc k.1 (jD[k.1]'k.2):=by intro k;unfold PS;rw[bh (by simp;exact k.2),List.flatMap_append];simp;rfl
 exact this ⟨k,h⟩
theorem abx(tI:List AV)(hl:eJ tI=12)(k:Nat)(hk:k<12)(w:tW):(Instr.index 211 (fY (arC tI).toArray) (vI k)).run prog w=.ok (fY (AV.cells (jD[k]'hk) (tI[k]'(by omega))).toArray) w:=by
 match tI,hl with
 |[a0,a1,a2,a3,a4,a5,a6,a7,a8,a9,a10,a11],_ =>
  have:k=0\/k=1\/k=2\/k=3\/k=4\/k=5\/k=6\/k=7\/k=8\/k=9\/k=10\/k=11:=by omega
  rcases this with rfl|rfl|rfl|rfl|rfl|rfl|rfl|rfl|rfl|rfl|rfl|rfl<;>rfl
theorem aM.lt{base:Nat}{w:tW}{v:fa}{bs:tLN}{os:List fO}(h:aM base w v bs os):∀b∈bs,b<w.heap.size:=λb hb=>by
 obtain⟨i,hi,rfl⟩:=cq hb;exact(h.at' i hi (by rw[<-h.len];exact hi)).lt
theorem aM.grow{base:Nat}{w0 wX w':tW}{v v':fa}{bs:tLN}{os:List fO}(cs:tLN)(ps:List fO)(h:aM base w0 v bs os)(m0:aa af w0 wX)(hlen:eJ cs=eJ ps)(hc:cs.Pairwise (·<·))(hlo:∀c∈cs,w0.heap.size<=c)(hat:∀i (h:i<eJ cs) (h':i<eJ ps),dO wX cs[i] ps[i]) (hsl:Sl w' 135 1 v' (eJ bs+eJ cs) (bs.map gH++cs.map gH)) (m:aa (λk=>v.ownBlock=eK k) wX w') (ho:∀k,v'.ownBlock=eK k->v.ownBlock=eK k\/wX.heap.size<=k)(hb:base<=w0.heap.size):aM base w' v' (bs++cs) (os++ps):=by refine(h.ai m0).app hlen ?_ hat (λb hb'=>Nat.le_trans hb (hlo b hb')) hsl m ho (Nat.le_trans hb m0.size);rw[List.nodup_append];refine⟨h.nd,hc.imp (λh=>Nat.ne_of_lt h),λa ha b hb' e=>?_⟩;have h1:=h.lt a ha;have h2:=hlo b hb';omega
theorem PartsAt.new(w:tW)(pv:List (PK×PV))(h:∀x∈pv,x.2.Ok w x.1)(cs:tAV)(hc:cs.toList=pv.flatMap (λx=>x.2.cells x.1.fills))(n:Nat)(hn:eJ pv=n)(hm:n<=100):PartsAt (w.alloc (fL cs 205)) (eS (eK ⟨w.heap.size,0,eL⟩) n n) (pv.map (·.1)):=by
 subst hn;have hl:=TN (λx:PK×PV=>x.2.cells x.1.fills) 4 (λ_=>rfl) pv;refine⟨pv,rfl,λx hx=>(h x hx).kp aw.kp,?_⟩;refine Yn.sl ⟨bt _,by unfold jz;omega,?_,?_,hl⟩ (au.new w cs 205)
 ·rw[<-Array.length_toList,hc,hl]
 ·rw[hc,al (by rw[hl];exact bt _)]
theorem PV.Ok.ai{w w':tW}{p:PK}{v:PV}(h:v.Ok w p)(m:aa af w w'):v.Ok w' p:=h.kp m.kp
theorem uy:(prog.info? 135).map (λi=>(i.zero,i.size,i.bytes))=eK (eK (vO),1,8):=by kernel_rfl
theorem uz(bs:tLN):∀u∈bs.map gH,u.oneCell'=fR:=by intro u hu;obtain⟨b,_,rfl⟩:=List.mem_map.1 hu;rfl
theorem NM(k:Nat)(h:k<=12):eJ (PS k)=4*k:=by
 have:∀k:Fin 13,eJ (PS k.1)=4*k.1:=by decide +kernel
 exact this ⟨k,by omega⟩
theorem jR(w:tW)(c:Int)(code:Nat)(hc:c=code)(s:tBA)(word:tLB)(hs:s=T word)(v:fa)(ps:List PK)(f9:Fn)(c9:tAV)(hP:PartsAt w v ps)(hwl:eJ word<=100)(hpl:eJ ps<=10)(d:Us)(hd:dU code=d)(hD:DoAt w f9 c9 d):fS prog 109 #[vB c,eR s,v,fN f9 #[] c9] w λe w'=>∃b,e=fW (vP b)/\dO w' b (gU code word ps)/\w.heap.size<=b/\aa af w w':=by subst hc hs hd;exact Za w code word v ps f9 c9 hP hwl hpl hD
theorem IY(k:Nat)(h:k<12):(T (jD[k]'h)).size<=90:=by
 have:∀k:Fin 12,(T (jD[k.1]'k.2)).size<=90:=by decide +kernel
 exact this ⟨k,h⟩
def IZ(w:tW)(tI:List AV):Prop:=∀k (_:k<12) (h:k<eJ tI),ic w tI[k].f1 tI[k].c1 (m64 k) (k-1)/\ic w tI[k].f2 tI[k].c2 (m32 k) (k-1)
theorem IZ.kp{w w':tW}{tI:List AV}(h:IZ w tI)(m:Kp w w'):IZ w' tI:=λk a b=>⟨(h k a b).1.blk m.PL,(h k a b).2.blk m.PL⟩
theorem IZ.ai{w w':tW}{tI:List AV}(h:IZ w tI)(m:aa af w w'):IZ w' tI:=h.kp m.kp
theorem Gp(w:tW):fS prog 64 #[] w λe w'=>∃v bs,e=fW v/\aM w.heap.size w' v bs La/\aa af w w':=by
 obtain⟨iP,hiP,sP,hsP,xz⟩:=info_parts uy;go_in;go_wp2_with fail;refine(lg _).mono ?_;rintro e aw0 ⟨⟨qM,qN,qO,qP,qQ,qR⟩,rfl,Uw,Ux⟩;go_wp2_with fail;refine(gi _).mono ?_;rintro e aw1 ⟨⟨qU,qV,qW,qX,qY,qZ⟩,rfl,Uy,Lj⟩;go_wp2_with fail;refine(ow _).mono ?_;rintro e Ll ⟨⟨ra,rj,rq,ru,ry,rz⟩,rfl,Uz,Gq⟩
 have UA:ah (PartsAt (Ll.alloc (fL #[vI 1,fN qM #[] qN,fN (.func qO) #[] qP,fN (.func qQ) #[] qR,vI 0,fN qU #[] qV,fN (.func qW) #[] qX,fN (.func qY) #[] qZ,vI 2,fN ra #[] rj,fN (.func rq) #[] ru,fN (.func ry) #[] rz] 205)) (eS (eK ⟨Ll.heap.size,0,eL⟩) 3 3) sN):=PartsAt.new Ll [(.result,⟨qM,qN,qO,qP,qQ,qR⟩),(.comma,⟨qU,qV,qW,qX,qY,qZ⟩),(.source,⟨ra,rj,rq,ru,ry,rz⟩)] (by
  simp only[ao,ab,or_false];rintro x (rfl|rfl|rfl)
  ·exact((Uw.ai Lj).ai Gq)
  ·exact(Uy.ai Gq)
  ·exact Uz) _ rfl 3 rfl (by decide)
 have Tp:ah (aa af w (Ll.alloc (fL #[vI 1,fN qM #[] qN,fN (.func qO) #[] qP,fN (.func qQ) #[] qR,vI 0,fN qU #[] qV,fN (.func qW) #[] qX,fN (.func qY) #[] qZ,vI 2,fN ra #[] rj,fN (.func rq) #[] ru,fN (.func ry) #[] rz] 205))):=((((aa.refl af w).trans Ux).trans Lj).trans Gq).alloc _;clear Uw Ux Uy Lj Uz Gq;simp only[PV.cells,PK.fills,cw];go_wp2_with fail;generalize Ll.alloc (fL #[vI 1,fN qM #[] qN,fN (.func qO) #[] qP,fN (.func qQ) #[] qR,vI 0,fN qU #[] qV,fN (.func qW) #[] qX,fN (.func qY) #[] qZ,vI 2,fN ra #[] rj,fN (.func rq) #[] ru,fN (.func ry) #[] rz] 205)=W1 at *;generalize Ll.heap.size=g1 at *;refine(lg _).mono ?_;rintro e bw0 ⟨⟨uA,uB,uC,uD,uE,uF⟩,rfl,bk0,UB⟩;go_wp2_with fail;refine(gi _).mono ?_;rintro e bw1 ⟨⟨uG,uH,uI,uJ,uK,uL⟩,rfl,bk1,NN⟩;go_wp2_with fail;refine(uu _).mono ?_;rintro e Zg ⟨⟨uM,uN,uO,uP,uQ,uR⟩,rfl,bk2,I1⟩
 have bHP:ah (PartsAt (Zg.alloc (fL #[vI 1,fN uA #[] uB,fN (.func uC) #[] uD,fN (.func uE) #[] uF,vI 0,fN uG #[] uH,fN (.func uI) #[] uJ,fN (.func uK) #[] uL,vI 8,fN uM #[] uN,fN (.func uO) #[] uP,fN (.func uQ) #[] uR] 205)) (eS (eK ⟨Zg.heap.size,0,eL⟩) 3 3) ug):=PartsAt.new Zg [(.result,⟨uA,uB,uC,uD,uE,uF⟩),(.comma,⟨uG,uH,uI,uJ,uK,uL⟩),(.number,⟨uM,uN,uO,uP,uQ,uR⟩)] (by
  simp only[ao,ab,or_false];rintro x (rfl|rfl|rfl)
  ·exact((bk0.ai NN).ai I1)
  ·exact(bk1.ai I1)
  ·exact bk2) _ rfl 3 rfl (by decide)
 have bHM:=aq ((((Tp.o.trans UB).trans NN).trans I1).alloc (fL #[vI 1,fN uA #[] uB,fN (.func uC) #[] uD,fN (.func uE) #[] uF,vI 0,fN uG #[] uH,fN (.func uI) #[] uJ,fN (.func uK) #[] uL,vI 8,fN uM #[] uN,fN (.func uO) #[] uP,fN (.func uQ) #[] uR] 205));have I4:ah (PartsAt (Zg.alloc (fL #[vI 1,fN uA #[] uB,fN (.func uC) #[] uD,fN (.func uE) #[] uF,vI 0,fN uG #[] uH,fN (.func uI) #[] uJ,fN (.func uK) #[] uL,vI 8,fN uM #[] uN,fN (.func uO) #[] uP,fN (.func uQ) #[] uR] 205)) (eS (eK ⟨g1,0,eL⟩) 3 3) sN):=UA.o.ai (((((aa.refl af _).trans UB).trans NN).trans I1).alloc _);clear UA bk0 UB bk1 NN bk2 I1;simp only[PV.cells,PK.fills,cw];clear Tp;go_wp2_with fail;generalize Zg.alloc (fL #[vI 1,fN uA #[] uB,fN (.func uC) #[] uD,fN (.func uE) #[] uF,vI 0,fN uG #[] uH,fN (.func uI) #[] uJ,fN (.func uK) #[] uL,vI 8,fN uM #[] uN,fN (.func uO) #[] uP,fN (.func uQ) #[] uR] 205)=W2 at *;generalize Zg.heap.size=g2 at *;refine(Lg _).mono ?_;rintro e w7 ⟨tI,hlen,rfl,m7,NK⟩;have Tq:=aq NK;clear NK;have HI:ah (∀(k:Nat) (hk:k<12) (W:tW),(Instr.index 211 (fY (arC tI).toArray) (vI k)).run prog W=.ok (fY (AV.cells (jD[k]'hk) (tI[k]'(by omega))).toArray) W):=λk hk W=>abx tI hlen k hk W;have um:=aq (I4.o.ai m7);have lU:=aq (bHP.o.ai m7);have HM:=aq (bHM.o.trans m7);clear I4 bHP bHM m7;generalize(arC tI).toArray=AC at *;go_wp2_with fail;go_loopw [3,17] (λo i wl=>∃(k:Nat) (bs:tLN),k<=12/\i=vI k/\aM w.heap.size wl o bs (PS k)/\PartsAt wl (eS (eK ⟨g1,0,eL⟩) 3 3) sN/\PartsAt wl (eS (eK ⟨g2,0,eL⟩) 3 3) ug/\aa af w wl/\IZ wl tI) (λ_ i _=>12-(intOf i).toNat)
 case atStart=>exact⟨0,[],by omega,rfl,aM.nil _ _,um.o,lU.o,HM.o,Tq.o⟩
 case round =>
  obtain⟨k,bs,hk,rfl,hO,hP1,hP2,hM,hAr⟩:=hrel;clear um lU HM Tq;have Tq:=aq hAr;clear hAr;by_cases hlt:k<12
  ·have hidx:=HI.o k hlt;have HST:ah (PS (k+1)=PS k++[gU (1+k) (jD[k]) sN,gU (17+k) (w32 (jD[k])) sN,gU (33+k) (jD[k]) ug,gU (49+k) (w32 (jD[k])) ug]):=Uv k hlt;have HW:=aq (IY k hlt);have NK:=Tq.o k hlt (by omega);have Ir:=aq (YV k hlt);generalize jD[k]=wd at *;generalize tI[k]=av at *;obtain⟨f1,c1,f2,c2⟩:=av;have wj:=aq NK;clear NK;simp only[AV.cells]at hidx;have HO:ah _:=hO;have um:ah _:=hP1;have lU:ah _:=hP2;have HM:ah _:=hM;clear hO hP1 hP2 hM;have hwd:=HW.o;have HL:ah (eJ bs<=100):=by have:=HO.o.len;rw[NM k (by omega)]at this;exact(by omega:eJ bs<=100)
   go_upto_region 8 with fail;have hA:=au.new wr #[eR (T wd),fN f1 #[] c1,fN f2 #[] c2] 210;have HNo:ah (u3.ownBlock≠eK wr.heap.size):=λe=>by have:=HO.o.sl.lt _ e;simp at this
   have q0:∀g:Ext (λk=>u3.ownBlock=eK k) (wr.alloc (fL #[eR (T wd),fN f1 #[] c1,fN f2 #[] c2] 210)),g.w.cell? ⟨wr.heap.size,0,eL⟩=eK (eR (T wd)):=λg=>g.cell hA HNo.o 0;have q1:∀g:Ext (λk=>u3.ownBlock=eK k) (wr.alloc (fL #[eR (T wd),fN f1 #[] c1,fN f2 #[] c2] 210)),g.w.cell? ⟨wr.heap.size,1,eL⟩=eK (fN f1 #[] c1):=λg=>g.cell hA HNo.o 1;have q2:∀g:Ext (λk=>u3.ownBlock=eK k) (wr.alloc (fL #[eR (T wd),fN f1 #[] c1,fN f2 #[] c2] 210)),g.w.cell? ⟨wr.heap.size,2,eL⟩=eK (fN f2 #[] c2):=λg=>g.cell hA HNo.o 2;have ne1:=Ext.ne (λk=>u3.ownBlock=eK k) (wr.alloc (fL #[eR (T wd),fN f1 #[] c1,fN f2 #[] c2] 210));refine bQ [7,8,17,18,26,27,37,38,39,40] (λw'=>∃g:Ext (λk=>u3.ownBlock=eK k) (wr.alloc (fL #[eR (T wd),fN f1 #[] c1,fN f2 #[] c2] 210)),w'=g.w) (by kernel_rfl) (by kernel_rfl) (by kernel_rfl) ⟨⟨_,aN⟩,rfl⟩ ?_;have X0:ah (aa af wr (wr.alloc (fL #[eR (T wd),fN f1 #[] c1,fN f2 #[] c2] 210)).drew):=aw.drew;have Y0:ah (aa af (wr.alloc (fL #[eR (T wd),fN f1 #[] c1,fN f2 #[] c2] 210)) (wr.alloc (fL #[eR (T wd),fN f1 #[] c1,fN f2 #[] c2] 210)).drew):=aN
   iterate 7 (refine aG rfl rfl rfl ?_;intro K hK;go_big_quiet_op;go_big_quiet_on)
   refine aH rfl rfl ?_;intro K hK;go_big_op;refine(kz _ _ _ _ _ fR (wj.o.1.ai X0.o)).mono ?_;rintro e v0 ⟨fb0,cb0,rfl,I5,hd0⟩;have HD0:=aq hd0;clear hd0;have X1:=aq (X0.o.trans I5);have Y1:=aq (Y0.o.trans I5);have HV0:=aq X1.o;refine hK _ _ rfl ⟨⟨_,Y1.o.mono (λ_ _ h=>h.elim)⟩,rfl⟩ ?_;have MB0:ah _:=I5;clear hK K I5 X0 Y0;refine aH rfl rfl ?_;intro K hK;go_big_op;refine(jR _ _ (1+k) (by omega) _ wd (rfl) _ sN _ _ (um.o.ai X1.o) (by have:=HW.o;rw[di]at this;omega) (by decide) _ Ir.o.1 HD0.o).mono ?_;rintro e r0 ⟨b0,rfl,hr0,hb0,I6⟩;have X2:=aq (X1.o.trans I6);have Y2:=aq (Y1.o.trans I6);have gq:ah _:=hr0;have MR0:ah _:=I6;have HB0:=aq hb0;refine hK _ _ rfl ⟨⟨_,Y2.o.mono (λ_ _ h=>h.elim)⟩,rfl⟩ ?_;clear hK K X1 Y1 hr0 hb0 I6
   iterate 8 (refine aG rfl rfl rfl ?_;intro K hK;go_big_quiet_op;go_big_quiet_on)
   refine aH rfl rfl ?_;intro K hK;go_big_op;refine(kz _ _ _ _ _ fR (wj.o.2.ai X2.o)).mono ?_;rintro e v1 ⟨fb1,cb1,rfl,I7,hd1⟩;have HD1:=aq hd1;clear hd1;have X3:=aq (X2.o.trans I7);have Y3:=aq (Y2.o.trans I7);refine hK _ _ rfl ⟨⟨_,Y3.o.mono (λ_ _ h=>h.elim)⟩,rfl⟩ ?_;have UC:ah _:=I7;clear hK K I7 X2 Y2;refine aH rfl rfl ?_;intro K hK;go_big_op;refine(jR _ _ (17+k) (by omega) _ (w32 wd) ((Fb wd [51,50]).symm) _ sN _ _ (um.o.ai X3.o) (by have:=HW.o;rw[di]at this;simp[w32];omega) (by decide) _ Ir.o.2.1 HD1.o).mono ?_;rintro e r1 ⟨b1,rfl,hr1,hb1,I8⟩;have X4:=aq (X3.o.trans I8);have Y4:=aq (Y3.o.trans I8);have yT:ah _:=hr1;have MR1:ah _:=I8;have HB1:=aq hb1;refine hK _ _ rfl ⟨⟨_,Y4.o.mono (λ_ _ h=>h.elim)⟩,rfl⟩ ?_;clear hK K X3 Y3 hr1 hb1 I8
   iterate 7 (refine aG rfl rfl rfl ?_;intro K hK;go_big_quiet_op;go_big_quiet_on)
   refine aH rfl rfl ?_;intro K hK;go_big_op;refine(kz _ _ _ _ _ fj (wj.o.1.ai X4.o)).mono ?_;rintro e v2 ⟨fb2,cb2,rfl,mb2,hd2⟩;have HD2:=aq hd2;clear hd2;have X5:=aq (X4.o.trans mb2);have Y5:=aq (Y4.o.trans mb2);refine hK _ _ rfl ⟨⟨_,Y5.o.mono (λ_ _ h=>h.elim)⟩,rfl⟩ ?_;have MB2:ah _:=mb2;clear hK K mb2 X4 Y4;refine aH rfl rfl ?_;intro K hK;go_big_op;refine(jR _ _ (33+k) (by omega) _ wd (rfl) _ ug _ _ (lU.o.ai X5.o) (by have:=HW.o;rw[di]at this;omega) (by decide) _ Ir.o.2.2.1 HD2.o).mono ?_;rintro e r2 ⟨b2,rfl,hr2,hb2,mr2⟩;have X6:=aq (X5.o.trans mr2);have Y6:=aq (Y5.o.trans mr2);have jh:ah _:=hr2;have MR2:ah _:=mr2;have HB2:=aq hb2;refine hK _ _ rfl ⟨⟨_,Y6.o.mono (λ_ _ h=>h.elim)⟩,rfl⟩ ?_;clear hK K X5 Y5 hr2 hb2 mr2
   iterate 9 (refine aG rfl rfl rfl ?_;intro K hK;go_big_quiet_op;go_big_quiet_on)
   refine aH rfl rfl ?_;intro K hK;go_big_op;refine(kz _ _ _ _ _ fj (wj.o.2.ai X6.o)).mono ?_;rintro e v3 ⟨fb3,cb3,rfl,mb3,hd3⟩;have HD3:=aq hd3;clear hd3;have X7:=aq (X6.o.trans mb3);have Y7:=aq (Y6.o.trans mb3);refine hK _ _ rfl ⟨⟨_,Y7.o.mono (λ_ _ h=>h.elim)⟩,rfl⟩ ?_;have MB3:ah _:=mb3;clear hK K mb3 X6 Y6;refine aH rfl rfl ?_;intro K hK;go_big_op;refine(jR _ _ (49+k) (by omega) _ (w32 wd) ((Fb wd [51,50]).symm) _ ug _ _ (lU.o.ai X7.o) (by have:=HW.o;rw[di]at this;simp[w32];omega) (by decide) _ Ir.o.2.2.2 HD3.o).mono ?_;rintro e r3 ⟨b3,rfl,hr3,hb3,mr3⟩;have X8:=aq (X7.o.trans mr3);have Y8:=aq (Y7.o.trans mr3);have tH:ah _:=hr3;have MR3:ah _:=mr3;have HB3:=aq hb3;refine hK _ _ rfl ⟨⟨_,Y8.o.mono (λ_ _ h=>h.elim)⟩,rfl⟩ ?_;clear hK K X7 Y7 hr3 hb3 mr3;refine aH rfl rfl ?_;intro K hK;go_big_op;refine hK _ _ rfl ⟨⟨_,(Y8.o.alloc _).mono (λ_ _ h=>h.elim)⟩,rfl⟩ ?_;clear hK K;refine aH rfl rfl ?_;intro K hK;refine fq _ (.tmp 24) (.tmp 63) 93 rfl 135 iP (vO) 1 8 underlying93 hiP sP hsP xz rfl (by decide) u3 (eJ bs) (bs.map gH) rfl (HO.o.ai (X8.o.alloc _)).sl ⟨r3.heap.size,0,eL⟩ 4 4 [gH b0,gH b1,gH b2,gH b3] rfl rfl (bH _ _ _ _ rfl) (uz [b0,b1,b2,b3]) (by have:=HL.o;unfold jz;omega) (by have:=HL.o;omega) ?_;intro vA wA sA mA lA;obtain⟨oA,cA,rfl,_⟩:=Sl.view sA;refine hK _ _ rfl ⟨⟨_,((Y8.o.alloc _).mono (λ_ _ h=>h.elim)).step mA (λ_ _ h=>h)⟩,rfl⟩ ?_;clear hK K;simp only[Act.put,sA9,sB9,sC9]
   iterate 1 (refine aG rfl rfl rfl ?_;intro K hK;go_big_quiet_op;go_big_quiet_on)
   refine bZ ?_;have H01:b0<b1:=by have:=gq.o.lt;have:=UC.o.size;have:=HB1.o;omega
   have H12:b1<b2:=by have:=yT.o.lt;have:=MB2.o.size;have:=HB2.o;omega
   have H23:b2<b3:=by have:=jh.o.lt;have:=MB3.o.size;have:=HB3.o;omega
   have H0:wr.heap.size<=b0:=by have:=HB0.o;have:=HV0.o.size;omega
   have HG:ah (aM w.heap.size wA (eS oA (eJ bs+4) cA) (bs++[b0,b1,b2,b3]) (PS k++[gU (1+k) wd sN,gU (17+k) (w32 wd) sN,gU (33+k) wd ug,gU (49+k) (w32 wd) ug])) :=
    aM.grow [b0,b1,b2,b3] _ HO.o (X8.o.alloc _) rfl (by simp;omega) (by simp;omega) (λi h h'=>by
     have hi:i=0\/i=1\/i=2\/i=3:=by simp at h;omega
     rcases hi with rfl|rfl|rfl|rfl
     ·exact((((((gq.o.ai UC.o).ai MR1.o).ai MB2.o).ai MR2.o).ai MB3.o).ai MR3.o).ai aw
     ·exact((((yT.o.ai MB2.o).ai MR2.o).ai MB3.o).ai MR3.o).ai aw
     ·exact((jh.o.ai MB3.o).ai MR3.o).ai aw
     ·exact tH.o.ai aw) sA mA lA HM.o.size
   simp only[Exit.inBlock,Exit.then];have Gr:=aq ((HM.o.trans (X8.o.alloc _)).step mA (λi hi h=>by have:=HO.o.own i h;omega));have HQ1:=aq ((um.o.ai (X8.o.alloc _)).kp (aa.Gm (HO.o.ai (X8.o.alloc _)).sl mA));have Zh:=aq ((lU.o.ai (X8.o.alloc _)).kp (aa.Gm (HO.o.ai (X8.o.alloc _)).sl mA));have HQ3:=aq ((Tq.o.ai (X8.o.alloc _)).kp (aa.Gm (HO.o.ai (X8.o.alloc _)).sl mA));rw[<-HST.o]at HG;clear q0 q1 q2 ne1 hA hidx H01 H12 H23 H0;go_wp2_with fail;go_roundw
   case rel=>exact⟨k+1,_,by omega,by go_num,HG.o,HQ1.o,Zh.o,Gr.o,HQ3.o⟩
   case measure=>simp[intOf];omega
  ·obtain rfl:k=12:=by omega
   have HO:=aq hO;have HM:ah _:=hM;clear hO hM hP1 hP2;go_wp2_with fail;refine(lg _).mono ?_;rintro e w8 ⟨⟨ya,yb,yc,yd,ye,yf⟩,rfl,ok8,m8⟩;have HP8:ah (PartsAt (w8.alloc (fL #[vI 1,fN ya #[] yb,fN (.func yc) #[] yd,fN (.func ye) #[] yf] 205)) (eS (eK ⟨w8.heap.size,0,eL⟩) 1 1) [.result]):=PartsAt.new w8 [(.result,⟨ya,yb,yc,yd,ye,yf⟩)] (by simp only[ao,ab,or_false];rintro x rfl;exact ok8) _ rfl 1 rfl (by decide);have Iu:=aq ((HM.o.trans m8).alloc (fL #[vI 1,fN ya #[] yb,fN (.func yc) #[] yd,fN (.func ye) #[] yf] 205));have HO8:ah (aM w.heap.size (w8.alloc (fL #[vI 1,fN ya #[] yb,fN (.func yc) #[] yd,fN (.func ye) #[] yf] 205)) u3 bs (PS 12)):=HO.o.ai (m8.alloc _);clear ok8 m8 HO HM;simp only[PV.cells,PK.fills];go_wp2_with fail;generalize w8.alloc (fL #[vI 1,fN ya #[] yb,fN (.func yc) #[] yd,fN (.func ye) #[] yf] 205)=W8 at *;generalize w8.heap.size=g8 at *;have HL:ah (eJ bs<=100):=by have:=HO8.o.len;rw[NM 12 (by omega)]at this;exact(by omega:eJ bs<=100)
   have X0:ah (aa af W8 W8):=ax;refine(Cz _ 11).mono ?_;rintro e p0 ⟨fp0,cp0,rfl,mp0,hp0⟩;have afe:=aq (hp0.1);clear hp0;have X1:=aq (X0.o.trans mp0);have MP0:ah _:=mp0;clear mp0;go_wp2_with fail;refine(kz _ _ _ _ _ fj afe.o).mono ?_;rintro e v0 ⟨fb0,cb0,rfl,I5,hd0⟩;have HD0:=aq hd0;clear hd0;have X2:=aq (X1.o.trans I5);have MB0:ah _:=I5;clear I5;go_wp2_with fail;refine(jR _ _ 13 rfl _ [110,101,103] rfl _ [.result] _ _ (HP8.o.ai X2.o) (by decide) (by decide) _ rfl HD0.o).mono ?_;rintro e r0 ⟨b0,rfl,hr0,hb0,I6⟩;have X3:=aq (X2.o.trans I6);have gq:ah _:=hr0;have MR0:ah _:=I6;have HB0:=aq hb0;clear hr0 hb0 I6;go_wp2_with fail;refine(yX _ 11).mono ?_;rintro e p1 ⟨fp1,cp1,rfl,mp1,hp1⟩;have aff:=aq (hp1);clear hp1;have X4:=aq (X3.o.trans mp1);have MP1:ah _:=mp1;clear mp1;go_wp2_with fail;refine(kz _ _ _ _ _ fj aff.o).mono ?_;rintro e v1 ⟨fb1,cb1,rfl,I7,hd1⟩;have HD1:=aq hd1;clear hd1;have X5:=aq (X4.o.trans I7);have UC:ah _:=I7;clear I7;go_wp2_with fail;refine(jR _ _ 29 rfl _ [110,101,103,51,50] rfl _ [.result] _ _ (HP8.o.ai X5.o) (by decide) (by decide) _ rfl HD1.o).mono ?_;rintro e r1 ⟨b1,rfl,hr1,hb1,I8⟩;have X6:=aq (X5.o.trans I8);have yT:ah _:=hr1;have MR1:ah _:=I8;have HB1:=aq hb1;clear hr1 hb1 I8;go_wp2_with (at_builtin;refine aQ _ rfl (.tmp 68) (.tmp 77) 93 rfl 135 iP (vO) 1 8 underlying93 hiP sP hsP xz rfl (by decide) u3 (eJ bs) (bs.map gH) rfl (HO8.o.ai (X6.o.alloc _)).sl ⟨r1.heap.size,0,eL⟩ 2 2 [gH b0,gH b1] rfl rfl (bH _ _ _ _ rfl) (uz [b0,b1]) (by have:=HL.o;unfold jz;omega) (by have:=HL.o;omega) ?_;intro vA wA sA mA lA;obtain⟨oA,cA,rfl,_⟩:=Sl.view sA);have H01:b0<b1:=by have:=gq.o.lt;have:=MP1.o.size;have:=UC.o.size;have:=HB1.o;omega
   have H0:W8.heap.size<=b0:=by have:=HB0.o;have:=X2.o.size;omega
   have HG:ah (aM w.heap.size wA (eS oA (eJ bs+2) cA) (bs++[b0,b1]) (PS 12++[gU 13 [110,101,103] [.result],gU 29 [110,101,103,51,50] [.result]])) :=
    aM.grow [b0,b1] _ HO8.o (X6.o.alloc _) rfl (by simp;omega) (by simp;omega) (λi h h'=>by
     have hi:i=0\/i=1:=by simp at h;omega
     rcases hi with rfl|rfl
     ·exact(((gq.o.ai MP1.o).ai UC.o).ai MR1.o).ai aw
     ·exact yT.o.ai aw) sA mA lA Iu.o.size
   have Gr:=aq ((Iu.o.trans (X6.o.alloc _)).step mA (λi hi h=>by have:=HO8.o.own i h;omega));clear H01 H0;go_ret;exact⟨_,_,rfl,HG.o,Gr.o⟩
