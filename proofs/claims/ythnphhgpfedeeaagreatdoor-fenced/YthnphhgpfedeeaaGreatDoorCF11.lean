import Derived.Test.YthnphhgpfedeeaaGreatDoorCF10
import Derived.Laws.EntriesVeiled
namespace Go.Proofs.YthnphhgpfedeeaaGreatDoor
open Go.RowKit Tryz
open List renaming getElem_mem->ab,length_map->al,take_of_length_le->ao,all_eq_true->ar
open Nat renaming zero_le->an
set_option linter.all false
set_option maxRecDepth 100000
set_option maxHeartbeats 2000000
def Da(w:tW)(k:Nat):Prop:=∃cs t fr,w.heap[k]?=some (.cells cs t fr)/\(t=146\/t=135\/t=269)
def Kp(w w':tW):Prop:=aa (Da w) w w'
theorem aa.kp{w w':tW}(m:aa ae w w'):Kp w w':=m.mono (λ_ _ h=>h.elim)
theorem Kp.trans{w w' w'':tW}(h:Kp w w')(k:Kp w' w''):Kp w w'' :=
 aa.step h k (λi hi ⟨cs,t,fr,hb,ht⟩=>by refine Classical.byContradiction λhn=>hn ?_;rw[h.block i hi hn]at hb;exact⟨cs,t,fr,hb,ht⟩)
theorem Kp.not{w:tW}{g:Nat}{cs:tAV}{t:TypeId}(h:ak w g cs t)(ht:t≠146/\t≠135/\t≠269):¬Da w g:=by
 rintro⟨cs',t',fr,h',ht'⟩;rw[show w.heap[g]?=some (.cells cs t (0,0))from h]at h';cases h';rcases ht' with h|h|h
 ·exact ht.1 h
 ·exact ht.2.1 h
 ·exact ht.2.2 h
theorem ak.kp{w w':tW}{g:Nat}{cs:tAV}{t:TypeId}(h:ak w g cs t)(m:Kp w w')(ht:t≠146/\t≠135/\t≠269):ak w' g cs t:=h.ag m (Kp.not h ht)
theorem Sl.kp{w w':tW}{e:TypeId}{size:Nat}{v:Value}{n:Nat}{xs:List Value}(h:Sl w e size v n xs)(m:Kp w w')(he:e≠146/\e≠135/\e≠269):Sl w' e size v n xs:=by
 refine h.ag m λk hk hn=>?_;rcases h.2 with⟨rfl,rfl⟩ |⟨g,cap,cur,rfl,_,hg,_⟩
 ·cases hk
 ·cases hk;exact Kp.not (cs:=cur) hg he hn
theorem aa.Eu{w w':tW}{v:Value}{n:Nat}{xs:List Value}(h:Sl w 135 1 v n xs)(m:aa (λk=>v.ownBlock=some k) w w'):Kp w w' :=
 m.mono λk _ hk=>by
  rcases h.2 with⟨rfl,rfl⟩ |⟨g,cap,cur,rfl,_,hg,_⟩
  ·cases hk
  ·cases hk;exact⟨_,_,_,hg,.inr (.inl rfl)⟩
theorem aa.ads{w w':tW}{b:Nat}{cs:tAV}(h:ak w b cs 269)(m:aa (Only b) w w'):Kp w w' :=
 m.mono λk _ hk=>by have:k=b:=hk;subst this;exact⟨_,_,_,h,.inr (.inr rfl)⟩
structure PV where
 f1:Fn
 c1:tAV
 k2:FuncId
 c2:tAV
 k3:FuncId
 c3:tAV
def PV.cells(v:PV)(n:Nat):List Value:=[.int .i64 n,.func v.f1 #[] v.c1,.func (.func v.k2) #[] v.c2,.func (.func v.k3) #[] v.c3]
def pE(k:FuncId):Prop:=∀args w,(callFunc k args).run prog w=.ok (.enter k args) w
structure R6(w:tW)(rd:bD->Option bD)(f:Fn)(c:tAV):Prop where
 ex:∃k,f=.func k/\pE k/\∀w' b op r,Kp w w'->(∀w'',aa (Only b) w' w''->Env w'')->ak w' b (bD.cells op r) 269->r.rest.length<=1000000->Calls prog k (#[.pointer (some ⟨b,0,none⟩)]++c) w' λe w''=>bz w' b op (rd r) e w''
theorem R6.kp{w w':tW}{rd:bD->Option bD}{f:Fn}{c:tAV}(h:R6 w rd f c)(m:Kp w w'):R6 w' rd f c:=by obtain⟨k,h1,h2,h3⟩:=h.ex;exact⟨k,h1,h2,λw2 b op r m2=>h3 w2 b op r (m.trans m2)⟩
structure PV.Ok(w:tW)(p:PK)(v:PV):Prop where
 wr:True
 ri:∀w' x,Kp w w'->x.Fit->Calls prog v.k3 (#[.agg x.cells]++v.c3) w' λe w''=>e=.returned (.bool (p.right x))/\aa ae w' w''
 e2:pE v.k2
 e3:pE v.k3
 rd:R6 w p.read v.f1 v.c1
theorem PV.Ok.kp{w w':tW}{p:PK}{v:PV}(h:v.Ok w p)(m:Kp w w'):v.Ok w' p :=
 ⟨trivial,λw2 x m2=>h.ri w2 x (m.trans m2),h.e2,h.e3,h.rd.kp m⟩
def iH(w:tW)(p:PK)(e:Ending)(w':tW):Prop:=∃v:PV,e=.returned (.agg (v.cells p.fills).toArray)/\v.Ok w' p/\aa ae w w'
theorem mO(w:tW):Calls prog 106 #[] w λe w'=>iH w .source e w':=by go_enter func106,ntmps106;go_wp2_with fail;refine bodyPost_ret (results_cell_row results106 _ _ w.heap.size 205 _ (0,0) _ rfl (ak.new _ _ _) underlying205 rfl (by kernel_rfl)) rfl ⟨⟨_,_,_,_,_,_⟩,rfl,?_,aj⟩;exact⟨trivial,λw' x _ hx=>by simpa using RI x hx w',enters_of func176 (by kernel_rfl) rfl,enters_of func178 (by kernel_rfl) rfl,⟨_,rfl,enters_of func174 (by kernel_rfl) rfl,λw' b op r _ hE h hl=>by simpa [PK.read]using Nx b op r w' h hl hE⟩⟩
theorem zh(w:tW):Calls prog 116 #[] w λe w'=>e=.returned (.agg #[.int .i64 1,.func (.func 210) #[] #[],.func (.func 211) #[] #[],.func (.func 212) #[] #[]])/\aa ae w w':=by go_enter func116,ntmps116;go_wp2_with fail;exact bodyPost_ret (results_cell_row results116 _ _ w.heap.size 205 _ (0,0) _ rfl (ak.new _ _ _) underlying205 rfl (by kernel_rfl)) rfl ⟨rfl,aj⟩
theorem kV(w:tW):Calls prog 116 #[] w λe w'=>iH w .operand e w' :=
 (zh w).mono λ_ _ h=>⟨⟨_,_,_,_,_,_⟩,h.1,⟨trivial,λw' x _ hx=>by simpa using RJ x hx w',enters_of func211 (by kernel_rfl) rfl,enters_of func212 (by kernel_rfl) rfl,⟨_,rfl,enters_of func210 (by kernel_rfl) rfl,λw' b op r _ hE h hl=>by simpa [PK.read]using C9 b op r w' h hl hE⟩⟩,h.2⟩
theorem rT(w:tW):Calls prog 107 #[] w λe w'=>iH w .number e w':=by go_enter func107,ntmps107;go_wp2_with fail;refine bodyPost_ret (results_cell_row results107 _ _ w.heap.size 205 _ (0,0) _ rfl (ak.new _ _ _) underlying205 rfl (by kernel_rfl)) rfl ⟨⟨_,_,_,_,_,_⟩,rfl,?_,aj⟩;exact⟨trivial,λw' x _ hx=>by simpa [PK.right]using pV x w',enters_of func182 (by kernel_rfl) rfl,enters_of func184 (by kernel_rfl) rfl,⟨_,rfl,enters_of func179 (by kernel_rfl) rfl,λw' b op r _ hE h hl=>by simpa [PK.read]using NB b op r w' h hl⟩⟩
theorem uX(w:tW):Calls prog 117 #[] w λe w'=>iH w .label e w':=by go_enter func117,ntmps117;go_wp2_with fail;refine bodyPost_ret (results_cell_row results117 _ _ w.heap.size 205 _ (0,0) _ rfl (ak.new _ _ _) underlying205 rfl (by kernel_rfl)) rfl ⟨⟨_,_,_,_,_,_⟩,rfl,?_,aj⟩;exact⟨trivial,λw' x _ hx=>by simpa [PK.right]using pV x w',enters_of func214 (by kernel_rfl) rfl,enters_of func184 (by kernel_rfl) rfl,⟨_,rfl,enters_of func213 (by kernel_rfl) rfl,λw' b op r _ hE h hl=>by simpa [PK.read]using Ny b op r w' h hl⟩⟩
theorem rU(w:tW):Calls prog 122 #[] w λe w'=>iH w .offset e w':=by go_enter func122,ntmps122;go_wp2_with fail;refine bodyPost_ret (results_cell_row results122 _ _ w.heap.size 205 _ (0,0) _ rfl (ak.new _ _ _) underlying205 rfl (by kernel_rfl)) rfl ⟨⟨_,_,_,_,_,_⟩,rfl,?_,aj⟩;exact⟨trivial,λw' x _ hx=>by simpa [PK.right]using pV x w',enters_of func232 (by kernel_rfl) rfl,enters_of func184 (by kernel_rfl) rfl,⟨_,rfl,enters_of func231 (by kernel_rfl) rfl,λw' b op r _ hE h hl=>by simpa [PK.read]using ND b op r w' h hl⟩⟩
theorem NH(w:tW):Calls prog 126 #[] w λe w'=>iH w .wide e w':=by go_enter func126,ntmps126;go_wp2_with fail;refine bodyPost_ret (results_cell_row results126 _ _ w.heap.size 205 _ (0,0) _ rfl (ak.new _ _ _) underlying205 rfl (by kernel_rfl)) rfl ⟨⟨_,_,_,_,_,_⟩,rfl,?_,aj⟩;exact⟨trivial,λw' x _ hx=>by simpa using Np x hx w',enters_of func238 (by kernel_rfl) rfl,enters_of func239 (by kernel_rfl) rfl,⟨_,rfl,enters_of func237 (by kernel_rfl) rfl,λw' b op r _ hE h hl=>by simpa [PK.read]using JI b op r w' h hl⟩⟩
theorem kg(w:tW):Calls prog 104 #[] w λe w'=>iH w .result e w':=by
 go_enter func104,ntmps104;go_wp2_with fail;refine(zh _).mono ?_;rintro e w1 ⟨rfl,m1⟩;have hz:ak (w1.alloc (.cells #[.int .i64 1,.func (.func 210) #[] #[],.func (.func 211) #[] #[],.func (.func 172) #[] #[]] 205)) w.heap.size #[.int .i64 0,.nilFunc,.nilFunc,.nilFunc] 205:=((ak.new w _ _).ag m1 id).alloc _;have z0:=hz.cell 0;have z1:=hz.cell 1;have z2:=hz.cell 2;have z3:=hz.cell 3;have f0:=hz.frozen 0;have f1':=hz.frozen 1;have f2:=hz.frozen 2;have f3:=hz.frozen 3;simp at z0 z1 z2 z3;go_wp2_with fail;refine bodyPost_ret (results_cell_row results104 _ _ w.heap.size 205 _ (0,0) _ rfl ((((hz.set 0 _).set 1 _).set 2 _).set 3 _) underlying205 rfl (by kernel_rfl)) rfl ⟨⟨_,_,_,_,_,_⟩,rfl,?_,?_⟩
 ·exact⟨trivial,λw' x _ hx=>by simpa using RL x hx w',enters_of func211 (by kernel_rfl) rfl,enters_of func172 (by kernel_rfl) rfl,⟨_,rfl,enters_of func210 (by kernel_rfl) rfl,λw' b op r _ hE h hl=>by simpa [PK.read]using C9 b op r w' h hl hE⟩⟩
 ·iterate 4 refine aa.set ?_ (.inr (by simp)) _
  exact(aj.trans m1).alloc _
abbrev LC(b g:Nat):tAV:=#[.int .i64 0,.func (.func 268) #[] #[.pointer (some ⟨b,0,none⟩)],.func (.func 269) #[] #[.pointer (some ⟨g,0,none⟩)],.func (.func 184) #[] #[]]
theorem Ai(w:tW)(b:Nat)(t:tBA):Calls prog 173 #[.int .u8 b,.string t] w λe w' => e=.returned (.agg (LC w.heap.size (w.heap.size+1)))/\ak w' (w.heap.size+1) #[.string t] 9/\ak w' w.heap.size #[.int .u8 b] 5/\aa ae w w':=by
 have hb3:ak (((w.alloc (.cells #[.int .u8 b] 5)).alloc (.cells #[.string t] 9)).alloc (.cells (LC w.heap.size (w.heap.size+1)) 205)) (w.heap.size+1+1) (LC w.heap.size (w.heap.size+1)) 205:=by
  have:=ak.new ((w.alloc (.cells #[.int .u8 b] 5)).alloc (.cells #[.string t] 9)) (LC w.heap.size (w.heap.size+1)) 205
  simpa using this
 have hb:ak ((w.alloc (.cells #[.int .u8 b] 5)).alloc (.cells #[.string t] 9)) (w.heap.size+1) #[.string t] 9:=by
  have:=ak.new (w.alloc (.cells #[.int .u8 b] 5)) #[.string t] 9
  simpa using this
 go_enter func173,ntmps173;go_wp2_with fail;exact bodyPost_ret (results_cell_row results173 _ _ (w.heap.size+1+1) 205 _ (0,0) _ rfl hb3 underlying205 rfl (by kernel_rfl)) rfl ⟨rfl,hb.alloc _,((ak.new w _ _).alloc _).alloc _,(aj.alloc _).alloc _⟩
theorem Ev(w:tW)(b g:Nat)(t:tBA)(p:PK)(hw:∀x,T (p.write x)=t)(hr:∀x,p.right x=true)(hb:ak w g #[.string t] 9)(c:UInt8)(hc:∀r,p.read r=r.mark c)(hB:ak w b #[.int .u8 (c.toNat:Int)] 5):PV.Ok w p ⟨.func 268,#[.pointer (some ⟨b,0,none⟩)],269,#[.pointer (some ⟨g,0,none⟩)],184,#[]⟩:=by exact⟨trivial,λw' x _ hx=>by rw[hr];simpa using pV x w',enters_of func269 (by kernel_rfl) rfl,enters_of func184 (by kernel_rfl) rfl,⟨_,rfl,enters_of func268 (by kernel_rfl) rfl,λw' b' op r m _ h hl=>by rw[hc];exact JH b' b c op r w' h (hB.kp m (by decide)) hl⟩⟩
theorem eT(w:tW):Calls prog 105 #[] w λe w'=>iH w .comma e w':=by
 go_enter func105,ntmps105;go_wp2_with fail;refine(Ai _ 44 (T [44,32])).mono ?_;rintro e w1 ⟨rfl,hb1,hB1,m1⟩;have hz:ak w1 w.heap.size #[.int .i64 0,.nilFunc,.nilFunc,.nilFunc] 205:=(ak.new w _ _).ag m1 id;have z0:=hz.cell 0;have z1:=hz.cell 1;have z2:=hz.cell 2;have z3:=hz.cell 3;have f0:=hz.frozen 0;have f1:=hz.frozen 1;have f2:=hz.frozen 2;have f3:=hz.frozen 3;simp at z0 z1 z2 z3 hb1 hB1;go_wp2_with fail;refine bodyPost_ret (results_cell_row results105 _ _ w.heap.size 205 _ (0,0) _ rfl ((((hz.set 0 _).set 1 _).set 2 _).set 3 _) underlying205 rfl (by kernel_rfl)) rfl ⟨⟨_,_,_,_,_,_⟩,rfl,?_,?_⟩
 ·refine Ev _ _ _ (T [44,32]) .comma (λ_=>rfl) (λ_=>rfl) ?_ 44 (λ_=>rfl) ?_
  ·iterate 4 refine ak.setOther ?_ (by simp;omega) _
   exact hb1
  ·iterate 4 refine ak.setOther ?_ (by simp) _
   exact hB1
 ·iterate 4 refine aa.set ?_ (.inr (by simp)) _
  exact aj.trans m1
theorem uY(w:tW):Calls prog 121 #[] w λe w'=>iH w .opens e w':=by
 go_enter func121,ntmps121;go_wp2_with fail;refine(Ai _ 91 (T [91])).mono ?_;rintro e w1 ⟨rfl,hb1,hB1,m1⟩;have hz:ak w1 w.heap.size #[.int .i64 0,.nilFunc,.nilFunc,.nilFunc] 205:=(ak.new w _ _).ag m1 id;have z0:=hz.cell 0;have z1:=hz.cell 1;have z2:=hz.cell 2;have z3:=hz.cell 3;have f0:=hz.frozen 0;have f1:=hz.frozen 1;have f2:=hz.frozen 2;have f3:=hz.frozen 3;simp at z0 z1 z2 z3 hb1 hB1;go_wp2_with fail;refine bodyPost_ret (results_cell_row results121 _ _ w.heap.size 205 _ (0,0) _ rfl ((((hz.set 0 _).set 1 _).set 2 _).set 3 _) underlying205 rfl (by kernel_rfl)) rfl ⟨⟨_,_,_,_,_,_⟩,rfl,?_,?_⟩
 ·refine Ev _ _ _ (T [91]) .opens (λ_=>rfl) (λ_=>rfl) ?_ 91 (λ_=>rfl) ?_
  ·iterate 4 refine ak.setOther ?_ (by simp;omega) _
   exact hb1
  ·iterate 4 refine ak.setOther ?_ (by simp) _
   exact hB1
 ·iterate 4 refine aa.set ?_ (.inr (by simp)) _
  exact aj.trans m1
theorem yt(w:tW):Calls prog 123 #[] w λe w'=>iH w .shut e w':=by
 go_enter func123,ntmps123;go_wp2_with fail;refine(Ai _ 93 (T [93])).mono ?_;rintro e w1 ⟨rfl,hb1,hB1,m1⟩;have hz:ak w1 w.heap.size #[.int .i64 0,.nilFunc,.nilFunc,.nilFunc] 205:=(ak.new w _ _).ag m1 id;have z0:=hz.cell 0;have z1:=hz.cell 1;have z2:=hz.cell 2;have z3:=hz.cell 3;have f0:=hz.frozen 0;have f1:=hz.frozen 1;have f2:=hz.frozen 2;have f3:=hz.frozen 3;simp at z0 z1 z2 z3 hb1 hB1;go_wp2_with fail;refine bodyPost_ret (results_cell_row results123 _ _ w.heap.size 205 _ (0,0) _ rfl ((((hz.set 0 _).set 1 _).set 2 _).set 3 _) underlying205 rfl (by kernel_rfl)) rfl ⟨⟨_,_,_,_,_,_⟩,rfl,?_,?_⟩
 ·refine Ev _ _ _ (T [93]) .shut (λ_=>rfl) (λ_=>rfl) ?_ 93 (λ_=>rfl) ?_
  ·iterate 4 refine ak.setOther ?_ (by simp;omega) _
   exact hb1
  ·iterate 4 refine ak.setOther ?_ (by simp) _
   exact hB1
 ·iterate 4 refine aa.set ?_ (.inr (by simp)) _
  exact aj.trans m1
structure PartsAt(w:tW)(v:Value)(ps:List PK):Prop where
 ex:∃pv:List (PK×PV),pv.map (·.1)=ps/\(∀x∈pv,x.2.Ok w x.1)/\Sl w 205 4 v pv.length (pv.flatMap (λx=>x.2.cells x.1.fills))
theorem PartsAt.kp{w w':tW}{v:Value}{ps:List PK}(h:PartsAt w v ps)(m:Kp w w'):PartsAt w' v ps:=by obtain⟨pv,h1,h2,h3⟩:=h.ex;exact⟨pv,h1,λx hx=>(h2 x hx).kp m,h3.kp m (by decide)⟩
theorem PartsAt.ag{w w':tW}{v:Value}{ps:List PK}(h:PartsAt w v ps)(m:aa ae w w'):PartsAt w' v ps:=h.kp m.kp
theorem Aj{w:tW}{pv:List (PK×PV)}{v:Value}(h:Sl w 205 4 v pv.length (pv.flatMap (λx=>x.2.cells x.1.fills))){o:Option Addr}{c:Nat}(hv:v=.slice o pv.length c)(k:Nat)(hk:k<pv.length):∃g,o=some ⟨g,0,none⟩/\g<w.heap.size/\w.cell? ⟨g,k*4,none⟩=some (.int .i64 pv[k].1.fills)/\w.cell? ⟨g,k*4+1,none⟩=some (.func pv[k].2.f1 #[] pv[k].2.c1) /\ w.cell? ⟨g,k*4+2,none⟩=some (.func (.func pv[k].2.k2) #[] pv[k].2.c2)/\w.cell? ⟨g,k*4+3,none⟩=some (.func (.func pv[k].2.k3) #[] pv[k].2.c3):=by
 obtain⟨o',c',hv',h2⟩:=h.view;rw[hv]at hv';cases hv';obtain⟨g,cs,rfl,hb,ht,_⟩:=h2 (by omega);refine⟨g,rfl,hb.lt,?_,?_,?_,?_⟩
 all_goals rw[aW hb ht _ (by omega)]
 ·exact(flat_get (λx:PK×PV=>x.2.cells x.1.fills) 4 (λ_=>rfl) pv k 0 hk (by omega)).trans rfl
 ·exact(flat_get (λx:PK×PV=>x.2.cells x.1.fills) 4 (λ_=>rfl) pv k 1 hk (by omega)).trans rfl
 ·exact(flat_get (λx:PK×PV=>x.2.cells x.1.fills) 4 (λ_=>rfl) pv k 2 hk (by omega)).trans rfl
 ·exact(flat_get (λx:PK×PV=>x.2.cells x.1.fills) 4 (λ_=>rfl) pv k 3 hk (by omega)).trans rfl
theorem wU(f b:Nat)(hf:f<16)(hb:b<16):bits .and .i64 (f:Int) (b:Int)=((f &&& b:Nat):Int) :=
 (bits_nat .i64 4 (by decide) (λn h0 h1=>by rw[IntKind.wrap_i64];omega) f b (by omega) (by omega)).1
theorem R7(f b:Nat)(hf:f<16)(hb:b<16):bits .or .i64 (f:Int) (b:Int)=((f ||| b:Nat):Int) :=
 (bits_nat .i64 4 (by decide) (λn h0 h1=>by rw[IntKind.wrap_i64];omega) f b (by omega) (by omega)).2
theorem Ak(x:di)(f:Nat)(hf:f<16)(w:tW):Calls prog 243 #[.agg x.cells,.int .i64 f] w λe w'=>e=.returned (.bool (fJ x f))/\aa ae w w':=by
 obtain⟨op,d,s,jump,num,high,label,name⟩:=x;unfold di.cells at *;simp only at *;have a0:bits .and .i64 (f:Int) 1=((f%2:Nat):Int):=by rw[<-Nat.and_one_is_mod];exact wU f 1 hf (by omega)
 have a1:bits .and .i64 (f:Int) 2=((f &&& 2:Nat):Int):=wU f 2 hf (by omega);have a2:bits .and .i64 (f:Int) 4=((f &&& 4:Nat):Int):=wU f 4 hf (by omega);have a3:bits .and .i64 (f:Int) 8=((f &&& 8:Nat):Int):=wU f 8 hf (by omega);go_enter func243,ntmps243;go_wp2_with fail
 all_goals (go_ret;refine⟨?_,aj⟩)
 all_goals first
  |(simp[fJ, *];done)
  |(simp[fJ, *];rfl)
  |(have hz:f%2=0:=(by omega);simp[fJ, *];done)
  |(have hz:f%2=0:=(by omega);simp[fJ, *];rfl)
  |(have hz:f%2≠0:=(by omega);simp[fJ, *];done)
  |(have hz:f%2≠0:=(by omega);simp[fJ, *];rfl)
theorem Gi(p:PK):p.fills<16:=by unfold PK.fills;split<;>decide
theorem Db(ps:List PK):lM ps<16:=by
 have h:∀(l:List PK) (f:Nat),f<16->l.foldl (λf p=>f ||| p.fills) f<16:=by
  intro l;induction l with
  |nil=>intro f h;exact h
  |cons p l ih=>intro f h;exact ih _ (Nat.or_lt_two_pow (n:=4) h (Gi p))
 exact h ps 0 (by decide)
structure Zg(w:tW)(X:tAV)(pv:List (PK×PV))(ri:Nat->Bool):Prop where
 call:∀k (hk:k<pv.length) w',aa ae w w'->Calls prog pv[k].2.k3 (#[.agg X]++pv[k].2.c3) w' λe w''=>e=.returned (.bool (ri k))/\aa ae w' w''
 en:∀k (hk:k<pv.length),pE pv[k].2.k3
theorem abE(x:di)(hx:x.Fit)(w:tW)(pv:List (PK×PV))(hok:∀y∈pv,y.2.Ok w y.1):Zg w x.cells pv (λk=>if h:k<pv.length then PK.right x pv[k].1 else false) where
 call:=λk hk w' m=>by
  have:=(hok pv[k] (ab hk)).ri w' x m.kp hx
  simpa only[dif_pos hk]using this
 en:=λk hk=>(hok pv[k] (ab hk)).e3
theorem R8(op:Value)(d s:Nat)(jump num high:Int)(label name:tBA)(w:tW)(b1 b2 f:Nat)(hf:f<16)(o:Option Addr)(c:Nat)(pv:List (PK×PV))(hp:ak w b1 #[.slice o pv.length c] 207)(hf2:ak w b2 #[.int .i64 f] 203)(hS:Sl w 205 4 (.slice o pv.length c) pv.length (pv.flatMap (λx=>x.2.cells x.1.fills))) (hpl:pv.length<=10) (ri:Nat->Bool) (hL:Zg w #[op,.int .u8 d,.int .u8 s,.int .i16 jump,.int .i32 num,.int .i32 high,.string label,.string name] pv ri):Calls prog 281 #[.agg #[op,.int .u8 d,.int .u8 s,.int .i16 jump,.int .i32 num,.int .i32 high,.string label,.string name],.pointer (some ⟨b1,0,none⟩),.pointer (some ⟨b2,0,none⟩)] w λe w' => e=.returned (.bool ((List.range pv.length).all ri&&fJ ⟨op,d,s,jump,num,high,label,name⟩ f))/\aa ae w w':=by
 have HL:=ai hL;clear hL;have HO:=Ak ⟨op,d,s,jump,num,high,label,name⟩ f hf;generalize fJ ⟨op,d,s,jump,num,high,label,name⟩ f=ob at *;unfold di.cells at HO;simp only at HO;have HO':af _:=HO;clear HO;have m1:aa ae w (w.alloc (.cells #[op,.int .u8 d,.int .u8 s,.int .i16 jump,.int .i32 num,.int .i32 high,.string label,.string name] 138)):=aj;have c1:=(hp.ag m1 id).cell 0;have HI:af (ak (w.alloc (.cells #[op,.int .u8 d,.int .u8 s,.int .i16 jump,.int .i32 num,.int .i32 high,.string label,.string name] 138)) w.heap.size #[op,.int .u8 d,.int .u8 s,.int .i16 jump,.int .i32 num,.int .i32 high,.string label,.string name] 138):=ak.new ..;have dh:af _:=m1;have HF:=ai hf2;have HS:=ai hS;simp at c1;clear m1 hf2 hS hp;go_enter func281,ntmps281;go_wp2_with fail;go_loopw [9] (λi wl=>∃k:Nat,k<=pv.length/\i=.int .i64 k/\aa ae (w.alloc (.cells #[op,.int .u8 d,.int .u8 s,.int .i16 jump,.int .i32 num,.int .i32 high,.string label,.string name] 138)) wl/\(List.range k).all ri=true) (λi _=>pv.length-(intOf i).toNat)
 case atStart=>exact⟨0,an _,rfl,ax,rfl⟩
 case round =>
  obtain⟨k,hk,rfl,m2,hr⟩:=hrel;have HR:=ai hr;have dD:=ai (dh.o.trans m2);have HI2:=ai (HI.o.ag m2 id);clear hr;by_cases hlt:k<pv.length
  ·have HC:af (∀w',aa ae w w'->Calls prog pv[k].2.k3 (#[.agg #[op,.int .u8 d,.int .u8 s,.int .i16 jump,.int .i32 num,.int .i32 high,.string label,.string name]]++pv[k].2.c3) w' λe w''=>e=.returned (.bool (ri k))/\aa ae w' w''):=HL.o.call k hlt;have hen:=HL.o.en k hlt;obtain⟨g,rfl,hg,q0,q1,q2,q3⟩:=Aj (HS.o.ag dD.o (λ_ _=>id)) rfl k hlt;generalize pv[k]=y at *;obtain⟨pk,f1,c1',k2,c2,k3,c3⟩:=y;simp only at HC q0 q1 q2 q3 hen;unfold pE at hen;have dw:af (aa ae w (wr.alloc (.cells #[.int .i64 pk.fills,.func f1 #[] c1',.func (.func k2) #[] c2,.func (.func k3) #[] c3] 205))):=dD.o.alloc _;have Zh:ak (wr.alloc (.cells #[.int .i64 pk.fills,.func f1 #[] c1',.func (.func k2) #[] c2,.func (.func k3) #[] c3] 205)) w.heap.size #[op,.int .u8 d,.int .u8 s,.int .i16 jump,.int .i32 num,.int .i32 high,.string label,.string name] 138:=HI2.o.alloc _;obtain⟨i0,i1,i2,i3,i4,i5,i6,i7⟩:=Zh.iV;clear Zh;have NI:af _:=m2;clear m2;go_wp2_with fail;refine(HC.o _ dw.o).mono ?_;rintro e w4 ⟨rfl,m4⟩;clear i0 i1 i2 i3 i4 i5 i6 i7;cases hri:ri k with
   |false =>
    have HA:af ((List.range pv.length).all ri=false):=by rw[af,List.all_eq_false];exact⟨k,List.mem_range.2 hlt,by simp[hri]⟩
    go_wp2_with fail;go_ret;rw[HA.o];exact⟨rfl,dw.o.trans m4⟩
   |true =>
    go_wp2_with fail;go_roundw
    case rel=>exact⟨k+1,by omega,by go_num,(NI.o.alloc _).trans m4,by rw[List.range_succ,List.all_append,HR.o];simp[hri]⟩
    case measure=>simp[intOf];omega
  ·have hke:k=pv.length:=by omega
   subst hke;obtain⟨i0,i1,i2,i3,i4,i5,i6,i7⟩:=HI2.o.iV;have c2:=(HF.o.ag dD.o id).cell 0;simp at c2;go_wp2_with fail;refine(HO'.o _).mono ?_;rintro e w4 ⟨rfl,m4⟩;go_wp2_with fail;go_ret;rw[HR.o];exact⟨rfl,dD.o.trans m4⟩
theorem NJ(pv:List (PK×PV))(x:di):(List.range pv.length).all (λk=>if h:k<pv.length then PK.right x pv[k].1 else false)=(pv.map (·.1)).all (PK.right x):=by
 rw[Bool.eq_iff_iff,ar,ar];constructor
 ·intro h p hp;obtain⟨y,hy,rfl⟩:=List.mem_map.1 hp;obtain⟨k,hk,rfl⟩:=List.getElem_of_mem hy;have:=h k (List.mem_range.2 hk)
  simpa only[dif_pos hk]using this
 ·intro h k hk;have hk':=List.mem_range.1 hk;simp only[dif_pos hk'];exact h _ (List.mem_map.2 ⟨pv[k],ab hk',rfl⟩)
theorem NK(x:di)(hx:x.Fit)(w:tW)(b1 b2 f:Nat)(v:Value)(ps:List PK)(hf:f<16)(hp:ak w b1 #[v] 207)(hf2:ak w b2 #[.int .i64 f] 203)(hP:PartsAt w v ps)(hpl:ps.length<=10):Calls prog 281 #[.agg x.cells,.pointer (some ⟨b1,0,none⟩),.pointer (some ⟨b2,0,none⟩)] w λe w'=>e=.returned (.bool (ps.all (PK.right x)&&fJ x f))/\aa ae w w':=by obtain⟨pv,rfl,hok,hS⟩:=hP.ex;obtain⟨o,c,rfl,_⟩:=hS.view;rw[al]at hpl;have h:=R8 x.op x.d x.s x.jump x.num x.high x.label x.name w b1 b2 f hf o c pv hp hf2 hS hpl _ (abE x hx w pv hok);rw[NJ]at h;exact h
def uG(ps:List PK)(k:Nat):Nat:=lM (ps.take k)
theorem JJ(ps:List PK)(k:Nat)(h:k<ps.length):uG ps (k+1)=uG ps k ||| ps[k].fills:=by unfold uG lM;rw[List.take_succ_eq_append_getElem h,List.foldl_append];rfl
theorem R9(w:tW)(v:Value)(ps:List PK)(hP:PartsAt w v ps)(hpl:ps.length<=10):Calls prog 203 #[v] w λe w'=>e=.returned (.func (.func 281) #[] #[.pointer (some ⟨w.heap.size,0,none⟩),.pointer (some ⟨w.heap.size+1,0,none⟩)]) /\ ak w' w.heap.size #[v] 207/\ak w' (w.heap.size+1) #[.int .i64 (lM ps)] 203/\aa ae w w':=by
 obtain⟨pv,rfl,hok,hS⟩:=hP.ex;clear hok hP;obtain⟨o,c,rfl,_⟩:=hS.view;rw[al]at hpl;have HE:af (uG (pv.map (·.1)) pv.length=lM (pv.map (·.1))):=by rw[af,uG,ao (by simp)]
 have NL:af (∀k (h:k<pv.length),uG (pv.map (·.1)) (k+1)=uG (pv.map (·.1)) k ||| pv[k].1.fills):=λk h=>by
  have:=JJ (pv.map (·.1)) k (by simpa using h)
  simpa using this
 have HLt:af (∀k,uG (pv.map (·.1)) k<16):=λk=>Db _;have H0:af (uG (pv.map (·.1)) 0=0):=rfl;rw[<-HE.o];clear HE;generalize uG (pv.map (·.1))=F at *;have hb1:ak ((w.alloc (.cells #[.slice o pv.length c] 207)).alloc (.cells #[.int .i64 0] 203)) w.heap.size #[.slice o pv.length c] 207:=(ak.new w _ _).alloc _
 have hb2:ak ((w.alloc (.cells #[.slice o pv.length c] 207)).alloc (.cells #[.int .i64 0] 203)) (w.heap.size+1) #[.int .i64 0] 203:=by
  have:=ak.new (w.alloc (.cells #[.slice o pv.length c] 207)) #[.int .i64 0] 203
  simpa using this
 have HM:af (aa ae w ((w.alloc (.cells #[.slice o pv.length c] 207)).alloc (.cells #[.int .i64 0] 203))):=aj.alloc _;have HB1:=ai hb1;have HB2:=ai hb2;have HS:=ai hS;clear hS hb1 hb2;go_enter func203,ntmps203;go_wp2_with fail;go_loopw [8] (λi wl=>∃k:Nat,k<=pv.length/\i=.int .i64 k/\aa ae w wl/\ak wl w.heap.size #[.slice o pv.length c] 207/\ak wl (w.heap.size+1) #[.int .i64 (F k)] 203) (λi _=>pv.length-(intOf i).toNat)
 case atStart=>exact⟨0,an _,rfl,HM.o,HB1.o,by rw[H0.o];exact HB2.o⟩
 case round =>
  obtain⟨k,hk,rfl,m,h1,h2⟩:=hrel;by_cases hlt:k<pv.length
  ·obtain⟨g,rfl,hg,q0,q1,q2,q3⟩:=Aj (HS.o.ag m (λ_ _=>id)) rfl k hlt;have hst:=NL.o k hlt;have hl:=HLt.o k;have hfl:=Gi pv[k].1;have ho:=R7 (F k) pv[k].1.fills hl hfl;rw[<-hst]at ho;have HK:=ai hst;clear hst;generalize pv[k]=y at *;obtain⟨pk,f1,c1,k2,c2,k3,c3⟩:=y;simp only at q0 q1 q2 q3 ho hfl;have h1':=h1.alloc (.cells #[.int .i64 pk.fills,.func f1 #[] c1,.func (.func k2) #[] c2,.func (.func k3) #[] c3] 205);have h2':=h2.alloc (.cells #[.int .i64 pk.fills,.func f1 #[] c1,.func (.func k2) #[] c2,.func (.func k3) #[] c3] 205);have z2:=h2'.cell 0;have zf:=h2'.frozen 0;simp at z2;have HA:=ai h1';have HB:=ai h2';have uV:=ai m;clear h1 h2 h1' h2' m HK;go_wp2_with fail;go_roundw
   case rel=>exact⟨k+1,by omega,by go_num,(uV.o.alloc _).set (.inr (by simp)) _,HA.o.setOther (by simp) _,HB.o.set 0 _⟩
   case measure=>simp[intOf];omega
  ·have hke:k=pv.length:=by omega
   subst hke;go_wp2_with fail;go_ret;exact⟨rfl,h1,h2,m⟩
theorem Sl.fresh{w:tW}{g n:Nat}{cs:tAV}{e:TypeId}(h:ak w g cs e)(hn:cs.size=n)(hm:n<=maxLen):Sl w e 1 (.slice (some ⟨g,0,none⟩) n n) n cs.toList:=by refine⟨by simp[hn],.inr ⟨g,n,cs,rfl,an _,h,Nat.le_refl _,hm,by simp[hn],?_⟩⟩;rw[Nat.mul_one,<-hn];exact ao (by simp)
theorem alq{l:tLB}{x:bC×tLB}(h:gz l=some x):x.2.length<=l.length:=by
 have h1:=pX 45 l;have h2:=kK (aN 45 l);unfold gz at h;split at h
 ·cases h
 ·obtain⟨v,_,rfl⟩:=Option.map_eq_some_iff.1 h;show(aG (aN 45 l)).2.length<=_
  omega
theorem Wx(p:PK)(r r':bD)(h:p.read r=some r'):r'.rest.length<=r.rest.length:=by
 have hw:=kK r.rest
 have hm:∀c:UInt8,r.mark c=some r'->r'.rest.length<=r.rest.length:=λc h=>by
  unfold bD.mark at h;split at h
  ·cases h;exact pX c r.rest
  ·cases h
 have hd:r.rO=some r'->r'.rest.length<=r.rest.length:=λh=>by unfold bD.rO at h;obtain⟨v,_,rfl⟩:=Option.map_eq_some_iff.1 h;exact hw.2
 have hs:r.wR=some r'->r'.rest.length<=r.rest.length:=λh=>by unfold bD.wR at h;obtain⟨v,_,rfl⟩:=Option.map_eq_some_iff.1 h;exact hw.2
 have hn:r.number=some r'->r'.rest.length<=r.rest.length:=λh=>by unfold bD.number at h;obtain⟨v,hv,rfl⟩:=Option.map_eq_some_iff.1 h;exact alq hv
 have hl:r.lab=some r'->r'.rest.length<=r.rest.length:=λh=>by
  unfold bD.lab at h;split at h
  ·cases h;exact hw.2
  ·cases h
 have ho:r.off=some r'->r'.rest.length<=r.rest.length:=λh=>by
  unfold bD.off at h;split at h
  ·obtain⟨v,hv,rfl⟩:=Option.map_eq_some_iff.1 h;have h1:=pX 45 r.rest;have h2:=kK (aN 45 r.rest);show(aG (aN 45 r.rest)).2.length<=_
   omega
  ·split at h
   ·obtain⟨v,hv,rfl⟩:=Option.map_eq_some_iff.1 h;have h1:=pX 43 r.rest;have h2:=kK (aN 43 r.rest);show(aG (aN 43 r.rest)).2.length<=_
    omega
   ·cases h;exact iR r.rest
 have hwd:r.wide=some r'->r'.rest.length<=r.rest.length:=λh=>by
  unfold bD.wide at h;split at h
  ·split at h
   ·cases h;have h2:=kK (aG r.rest).2;show(aG (aG r.rest).2).2.length<=_
    omega
   ·cases h
  ·obtain⟨v,hv,rfl⟩:=Option.map_eq_some_iff.1 h;exact alq hv
 unfold PK.read at h;split at h
 ·exact hm _ h
 ·exact hm _ h
 ·exact hm _ h
 ·exact hd h
 ·exact hd h
 ·exact hs h
 ·exact hn h
 ·exact hl h
 ·exact ho h
 ·exact hwd h
 ·cases h
theorem Gj(ps:List PK)(k:Nat)(h:k<ps.length)(r:bD):readPs (ps.drop k) r=(ps[k].read r).bind (readPs (ps.drop (k+1))):=by rw[List.drop_eq_getElem_cons h,readPs]
theorem NM(b bp:Nat)(op:Value)(r:bD)(v:Value)(ps:List PK)(w:tW)(hb:ak w b (r.cells op) 269)(hp:ak w bp #[v] 207)(hP:PartsAt w v ps)(hpl:ps.length<=10)(hl:r.rest.length<=1000000)(hE:∀w',aa (Only b) w w'->Env w'):Calls prog 277 #[.pointer (some ⟨b,0,none⟩),.pointer (some ⟨bp,0,none⟩)] w λe w'=>bz w b op (readPs ps r) e w':=by
 obtain⟨pv,rfl,hok,hS⟩:=hP.ex;obtain⟨o,c,rfl,_⟩:=hS.view;rw[al]at hpl;have uH:=ai hok;have HS:=ai hS;have HB:=ai hb;have HE:=ai hE;have c0:w.cell? ⟨bp,0,none⟩=some (.slice o pv.length c):=hp.cell 0;have Jn:af (∀k,(Value.slice o pv.length c).ownBlock=some k->k≠b):=λk hk e=>by subst e;exact hS.au hb (by decide) hk
 have HB0:=ai hb;clear hok hS hP hb hE hp;have rQ:af (∀e w',bz w b op (readPs (pv.map (·.1)) r) e w'->bz w b op (readPs (pv.map (·.1)) r) e w'):=λ_ _ h=>h;generalize hRP:bz w b op (readPs (pv.map (·.1)) r)=RP at *;have NN:=ai hRP;clear hRP rQ;go_enter func277,ntmps277;go_wp2_with fail;go_loopg [8] pv.length (λq v wx=>∃(k:Nat) (rk:bD),k<=pv.length/\v=.int .i64 k/\ak wx b (rk.cells op) 269/\aa (Only b) w wx/\readPs ((pv.map (·.1)).drop k) rk=readPs (pv.map (·.1)) r/\rk.rest.length<=1000000/\q=pv.length-k)
 case atStart=>exact⟨0,r,an _,rfl,HB.o,ax,rfl,hl,rfl⟩
 case round =>
  obtain⟨k,rk,hk,rfl,hbk,hmk,LF,hlk,rfl⟩:=hrel;have zP:=ai hbk;have uV:=ai hmk;have tZ:=ai LF;clear hbk hmk LF HB c0;by_cases hlt:k<pv.length
  ·have HRs:af (readPs (pv.map (·.1)) r=(pv[k].1.read rk).bind (readPs ((pv.map (·.1)).drop (k+1)))):=by rw[af,<-tZ.o,Gj _ k (by simpa using hlt)];simp
   have HOx:=uH.o pv[k] (ab hlt);obtain⟨k1,hf1,hen,hrd⟩:=HOx.rd.ex;have HSk:=HS.o.ag uV.o (λi hi e=>Jn.o i hi e);obtain⟨g,rfl,hg,q0,q1,q2,q3⟩:=Aj HSk rfl k hlt;rw[hf1]at q1;have HRD:=ai hrd;have HLE:af (∀r',pv[k].1.read rk=some r'->r'.rest.length<=rk.rest.length):=Wx pv[k].1 rk;clear HOx hf1 hrd HSk tZ;generalize pv[k]=y at *;obtain⟨pk,f1,c1,k2,c2,k3,c3⟩:=y;dsimp only at *;unfold pE at hen;have HB3:af (ak (wr.alloc (.cells #[.int .i64 pk.fills,.func (.func k1) #[] c1,.func (.func k2) #[] c2,.func (.func k3) #[] c3] 205)) b (rk.cells op) 269):=zP.o.alloc _;have dw:af (aa (Only b) w (wr.alloc (.cells #[.int .i64 pk.fills,.func (.func k1) #[] c1,.func (.func k2) #[] c2,.func (.func k3) #[] c3] 205))):=uV.o.alloc _;go_wp2_with fail;refine(HRD.o _ b op rk ?_ ?_ HB3.o hlk).mono ?_
   ·exact aa.ads HB0.o dw.o
   ·exact λw'' m=>HE.o _ (dw.o.trans m)
   intro e w4 hpo;obtain⟨rfl,Sa,hat⟩:=hpo;have fU:=ai (dw.o.trans Sa);have HAT:=ai hat;clear Sa hat HB3 dw HRD zP uV q0 q1 q2 q3;cases hx:pk.read rk with
   |none =>
    have HX:af (readPs (pv.map (·.1)) r=none):=by rw[af,HRs.o,hx];rfl
    go_wp2_with fail;rw[<-NN.o];exact⟨by rw[HX.o];rfl,fU.o,λr' hr'=>by rw[HX.o]at hr';cases hr'⟩
   |some r' =>
    have HX:af (readPs ((pv.map (·.1)).drop (k+1)) r'=readPs (pv.map (·.1)) r):=by rw[af,HRs.o,hx];rfl
    have hle:=HLE.o r' hx;have hB4:=HAT.o r' hx;go_wp2_with fail;go_roundg (pv.length-(k+1))
    case measure=>omega
    case rel=>exact⟨k+1,r',by omega,by go_num,hB4,fU.o,HX.o,by omega,rfl⟩
  ·have hke:k=pv.length:=by omega
   subst hke;have HX:af (readPs (pv.map (·.1)) r=some rk):=by rw[af,<-tZ.o,List.drop_eq_nil_of_le (by simp)];rfl
   go_wp2_with fail;rw[<-NN.o];exact⟨by rw[HX.o];rfl,uV.o,λr' hr'=>by rw[HX.o]at hr';cases hr';exact zP.o⟩
