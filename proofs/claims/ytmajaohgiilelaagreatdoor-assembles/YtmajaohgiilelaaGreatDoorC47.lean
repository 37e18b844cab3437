import Derived.Test.YtmajaohgiilelaaGreatDoorC44
import Derived.Test.YtmajaohgiilelaaGreatDoorRows
import Derived.ProofKit
import Derived.OpenShut
import Derived.LaidHandle
import Derived.Lib.LaidU8
namespace Go.Proofs.YtmajaohgiilelaaGreatDoor
open Go.ChangeMaps Go Go.ChangeShapes Go.WideShapes Go.ChangeAt Go.RowKit
set_option linter.all false
set_option maxRecDepth 100000
theorem ag3:ownKnob Tryz.prog.godebug=none:=by kernel_rfl
theorem Yb:laidOutB Tryz.prog=true:=by kernel_rfl
theorem EM:Tryz.f3.params=#[9]:=by kernel_rfl
theorem Cq{W:tW}(hL:laidMetH Tryz.prog Rows.assemblesRow.laid W):laidMet Tryz.prog Rows.assemblesRow.laid W:=by
 have hf:(Rows.assemblesRow.laid.filter λx=>x.2.handleName?.isSome)=[]:=by rfl
 unfold laidMetH at hL;rw[hf]at hL;exact hL
theorem Ui{W:tW}(hL:laidMet Tryz.prog Rows.assemblesRow.laid W):Env W:=by
 obtain ⟨g, t, cs, fuel, p, hg', ht', hvar, hd⟩ := Lib.laidMet.reads hL (n := "internal/strconv.uint64pow10") (d := Rows.laid_internal_strconv_uint64pow10) (by simp [Rows.assemblesRow])
 obtain rfl := Option.some.inj ((show Tryz.prog.globalNamed "internal/strconv.uint64pow10" = some 4 by kernel_rfl).symm.trans hg')
 obtain rfl:=Option.some.inj ((show(Tryz.prog.globals[4]?).map (·.type)=some 354 by kernel_rfl).symm.trans ht');have hd2:DataW.trod (λ_=>()) Tryz.prog W 0 (λ_=>true) false fuel 354 cs.toList=some (Lib.tabData .u64 Lib.pow10Tab,p):=hd;unfold Env Lib.TabIs;rw[hvar,<-Lib.cells_of_tab Tryz.underlying354 Tryz.underlying41 (by kernel_rfl) (by kernel_rfl) hd2]
theorem P9{W:tW}(hL:laidMet Tryz.prog Rows.assemblesRow.laid W):E4 W:=by
 obtain ⟨g, t, cs, fuel, p, hg', ht', hvar, hd⟩ := Lib.laidMet.reads hL (n := "spool/ops.sizeWords") (d := Rows.laid_spool_ops_sizeWords) (by simp [Rows.assemblesRow])
 have hg : Tryz.prog.globalNamed "spool/ops.sizeWords" = some 0 := by kernel_rfl
 obtain rfl:=Option.some.inj (hg.symm.trans hg');obtain rfl:=Option.some.inj ((show(Tryz.prog.globals[0]?).map (·.type)=some 186 by kernel_rfl).symm.trans ht');have hc1:Tryz.prog.cellsOf 9=1:=by kernel_rfl
 have key:∀i,i<4->∀b:tLB,([DataW.lit (.string [49]),.lit (.string [50]),.lit (.string [52]),.lit (.string [56])]:List (DataW Unit))[i]?=some (.lit (.string b))->W.cell? ⟨0,i,none⟩=some (.string (T b)):=λi hi b hb=>by
  obtain⟨fuel',d,q,hds,hf⟩:=Lib.array_elem Tryz.underlying186 hd i hi;rw[hb]at hds;cases hds;rw[hc1,Nat.mul_one]at hf;obtain⟨s',h,hx,hs⟩:=DataW.trod_string Tryz.underlying9 hf
  have h1:cs[i]?=some (.string s'):=by
   have h2:=congrArg (λl=>l[0]?) h
   simpa using h2
  have h3:T b=s':=by
   have:b=s'.data.toList:=by
    have h4:=congrArg Prod.fst hx
    simpa using h4
   rw[this];apply ByteArray.ext;simp[T]
  rw[h3,<-h1]
  simpa using World.var?_cell hg hvar i
 exact⟨key 0 (by omega) _ rfl,key 1 (by omega) _ rfl,key 2 (by omega) _ rfl,key 3 (by omega) _ rfl⟩
def abA:DataW Unit->List Value
 |.lit (.int k z)=>[.int k z]
 |.lit (.string b)=>[.string ⟨b.toArray⟩]
 |_=>[]
def abB:DataW Unit->List Value
 |.agg l=>l.flatMap abA
 |d=>abA d
def ad8:DataW Unit->List Value
 |.agg l=>l.flatMap abB
 |d=>abB d
def ahG(d:DataW Unit):Obj->Obj
 |.cells _ t fr=>.cells (ad8 d).toArray t fr
 |o=>o
def Ao(P:Program)(os:Os):tW:={World.holding P os ⟨#[],#[],[]⟩with heap:=Rows.assemblesRow.laid.foldl (λh x=>h.modify ((P.globalNamed x.1).getD 0) (ahG x.2)) (World.holding P os ⟨#[],#[],[]⟩).heap}
theorem EN(os:Os)(args:tAV):laidMetH Tryz.prog Rows.assemblesRow.laid ((Ao Tryz.prog os).forCall (λ_ _=>0) ⟨#[],args,[]⟩).memory :=
 laidMetH_of_parts (laidMet_of_run' 8 (by kernel_rfl) (by kernel_rfl)) (by kernel_rfl)
theorem ad9{W:tW}(h:W.ShapedOpen Tryz.prog):lV W:=by
 obtain⟨cs,hh,hs,hr⟩:=h.1 1 #[.int .i64 0] 3 (of_decide_eq_true (by kernel_rfl)) (by kernel_rfl);obtain⟨ts,hts,_,hall⟩:=hr (by kernel_rfl);rw[show Tryz.prog.cellTypes Tryz.prog.depth 3=some [3] by kernel_rfl]at hts;cases hts;have h1:0<cs.size:=by rw[hs];decide
 obtain⟨u,hu',hok⟩:=hall 0 cs[0] (by simp[h1]);have:u=3:=by simpa using hu'.symm
 subst this;have hcell:W.cell? ⟨1,0,none⟩=some cs[0]:=by simp[World.cell?,hh,h1]
 unfold lV;rw[hcell];unfold Cell.ok at hok;rw[Tryz.underlying3]at hok;cases hv:cs[0]<;>rw[hv]at hok<;>first |(obtain⟨rfl,_⟩:=hok;exact⟨_,rfl⟩)|simp at hok
theorem Uj(H:Type)(enc:TypeId×Value->H)(W:tW)(base:Nat)(args:tAV)(ds gs:List (DataW H))(before:List MemPlace)(hsh:W.ShapedOpen Tryz.prog)(hval:∀(j:Nat) t v,Tryz.f3.params[j]?=some t->args[j]?=some v->Value.okWide Tryz.prog W .any base t v) (hW:DataW.Whole enc Tryz.prog Tryz.f3.params.toList Rows.assemblesSpec.vars false W args.toList ds gs before) (hL:laidMetH Tryz.prog Rows.assemblesRow.laid W):Calls Tryz.prog 3 args W λe W'=>∃v,e=.returned v/\Rows.assemblesSpec.post enc Tryz.prog Tryz.f3 false true false false W args v W':=by
 have hW':=hW;obtain⟨p,q,hA0,hV0,rfl,hfz,hnd⟩:=hW;have hA:DataW.TrodAll enc Tryz.prog W 0 (λ_=>true) true Tryz.f3.params.toList args.toList ds p:=hA0;have hV:DataW.TrodVars enc Tryz.prog W (λ_=>true) [] gs q:=hV0;rw[EM]at hA hval;obtain⟨v0,d0,rfl,rfl,h0⟩:=trodAll_one hA;obtain⟨s,rfl,rfl,rfl,ws⟩:=open_string Tryz.underlying9 (hval 0 9 v0 rfl rfl) h0
 obtain⟨rfl,rfl⟩:gs=[]/\q=[]:=by
  cases gs with
  |nil=>exact⟨rfl,hV⟩
  |cons g r=>exact absurd hV (by intro h;cases h)
 have e1:Rows.assemblesSpec.fn H ([.lit (.string s.data.toList)]++[])={results:=[.lit (.bool true)],args:=[.lit (.string s.data.toList)]}:=by simp[Rows.assemblesSpec]
 have hs:T s.data.toList=s:=by apply ByteArray.ext;simp[T]
 have hC:Calls Tryz.prog 3 #[.string s] W λe w'=>e=.returned (.bool true)/\aa af W w':=by have:=Gf W s.data.toList (P9 (Cq hL)) (Ui (Cq hL)) (ad9 hsh);rw[hs]at this;exact this
 refine hC.mono λe W' ⟨he,m⟩=>?_;subst he;refine⟨_,rfl,_,_,_,[],[],[],hW',?_,?_,?_,?_,λh=>by cases h⟩
 ·rw[e1];exact trodAll_mk1 (shut_bool Tryz.underlying4 true)
 ·rw[e1];exact trodAll_mk1 (shut_string Tryz.underlying9 ws)
 ·rw[e1];rfl
 ·exact m.below.frame _
theorem Mg(os:Os)(started:os.Started)(H:Type)(enc:TypeId×Value->H):ReturnsInHanded {} Tryz.checked os 3 .any (λw args=>(Rows.assemblesSpec.pre enc Tryz.prog Tryz.f3 [] false w args/\laidMetH Tryz.prog Rows.assemblesRow.laid w)/\sizedMet enc Tryz.prog Tryz.f3 (OpenSpec.ofChange Rows.assemblesSpec) false w args) (Rows.assemblesSpec.post enc Tryz.prog Tryz.f3 false true false false):=by
 refine returnsInHanded_of_calls (C:=Tryz.checked) ag3 started (by kernel_rfl) ?_ ?_
 ·exact ChangeSpec.witness_at (enc:=enc) (C:=Tryz.checked) (os:=os) (X:=λw _=>laidMetH Tryz.prog Rows.assemblesRow.laid w) false (Ao Tryz.prog os) #[.string ⟨#[]⟩] 8 rfl (by kernel_rfl) (by kernel_rfl) (by kernel_rfl) (by kernel_rfl) (by kernel_rfl) (EN os _)
 intro w tape i _ hsh _ hok hpre _;obtain⟨_,_,_,fn',hfn',_,_,_,_,hval⟩:=hok;obtain rfl:fn'=Tryz.f3:=Option.some.inj (hfn'.symm.trans Tryz.func3);obtain⟨⟨⟨ds,gs,before,hw,_⟩,hx⟩,_⟩:=hpre;have hw':=DataW.Whole.of_heap (w':=w.forCall tape i) (by rfl) hw;refine(Uj H enc (w.forCall tape i) w.heap.size i.args ds gs before hsh hval hw' (hx.of_heap (by rfl))).mono λe W' ⟨v,he,hp⟩=>?_;subst he;exact ChangeSpec.post_blind hp
