import Derived.Test.YthnphhgpfedeeaaGreatDoorCR56
import Derived.Test.YthnphhgpfedeeaaGreatDoorRows
import Derived.ProofKit
import Derived.OpenShut
import Derived.LaidHandle
import Derived.Lib.LaidU8
namespace Go.Proofs.YthnphhgpfedeeaaGreatDoor
open Go.ChangeMaps Go Go.ChangeShapes Go.WideShapes Go.ChangeAt Go.RowKit
set_option linter.all false
set_option maxRecDepth 100000
theorem air:ownKnob Tryz.prog.godebug=none:=by kernel_rfl
theorem agX:laidOutB Tryz.prog=true:=by kernel_rfl
theorem agi:Tryz.f3.params=#[22,22,3]:=by kernel_rfl
theorem agb{W:tW}(hL:laidMetH Tryz.prog Rows.reckonedRow.laid W):laidMet Tryz.prog Rows.reckonedRow.laid W:=by
 have hf:(Rows.reckonedRow.laid.filter λx=>x.2.handleName?.isSome)=[]:=by rfl
 unfold laidMetH at hL;rw[hf]at hL;exact hL
theorem agI{W:tW}(hL:laidMet Tryz.prog Rows.reckonedRow.laid W):Env W:=by
 obtain ⟨g, t, cs, fuel, p, hg', ht', hvar, hd⟩ := Lib.laidMet.reads hL (n := "internal/strconv.uint64pow10") (d := Rows.laid_internal_strconv_uint64pow10) (by simp [Rows.reckonedRow])
 obtain rfl := Option.some.inj ((show Tryz.prog.globalNamed "internal/strconv.uint64pow10" = some 4 by kernel_rfl).symm.trans hg')
 obtain rfl:=Option.some.inj ((show(Tryz.prog.globals[4]?).map (·.type)=some 398 by kernel_rfl).symm.trans ht');have hd2:DataW.trod (λ_=>()) Tryz.prog W 0 (λ_=>true) false fuel 398 cs.toList=some (Lib.tabData .u64 Lib.pow10Tab,p):=hd;unfold Env Lib.TabIs;rw[hvar,<-Lib.cells_of_tab Tryz.underlying398 Tryz.underlying22 (by kernel_rfl) (by kernel_rfl) hd2]
theorem agC{W:tW}(hL:laidMet Tryz.prog Rows.reckonedRow.laid W):sV W:=by
 obtain ⟨g, t, cs, fuel, p, hg', ht', hvar, hd⟩ := Lib.laidMet.reads hL (n := "spool/ops.sizeWords") (d := Rows.laid_spool_ops_sizeWords) (by simp [Rows.reckonedRow])
 have hg : Tryz.prog.globalNamed "spool/ops.sizeWords" = some 0 := by kernel_rfl
 obtain rfl:=Option.some.inj (hg.symm.trans hg');obtain rfl:=Option.some.inj ((show(Tryz.prog.globals[0]?).map (·.type)=some 224 by kernel_rfl).symm.trans ht');have hc1:Tryz.prog.cellsOf 9=1:=by kernel_rfl
 have key:∀i,i<4->∀b:tLB,([DataW.lit (.string [49]),.lit (.string [50]),.lit (.string [52]),.lit (.string [56])]:List (DataW Unit))[i]?=some (.lit (.string b))->W.cell? ⟨0,i,none⟩=some (.string (T b)):=λi hi b hb=>by
  obtain⟨fuel',d,q,hds,hf⟩:=Lib.array_elem Tryz.underlying224 hd i hi;rw[hb]at hds;cases hds;rw[hc1,Nat.mul_one]at hf;obtain⟨s',h,hx,hs⟩:=DataW.trod_string Tryz.underlying9 hf
  have h1:cs[i]?=some (.string s'):=by
   have h2:=congrArg (λl=>l[0]?) h
   simpa using h2
  have h3:T b=s':=by
   have:b=s'.data.toList:=by
    have h4:=congrArg Prod.fst hx
    simpa using h4
   rw[this];apply ByteArray.ext;simp[T]
  rw[h3,<-h1]
  simpa using World.var?_cell hg hvar i
 exact⟨key 0 (by omega) _ rfl,key 1 (by omega) _ rfl,key 2 (by omega) _ rfl,key 3 (by omega) _ rfl⟩
def ag8:DataW Unit->List Value
 |.lit (.int k z)=>[.int k z]
 |.lit (.string b)=>[.string ⟨b.toArray⟩]
 |_=>[]
def ag9:DataW Unit->List Value
 |.agg l=>l.flatMap ag8
 |d=>ag8 d
def ahT:DataW Unit->List Value
 |.agg l=>l.flatMap ag9
 |d=>ag9 d
def agY(d:DataW Unit):Obj->Obj
 |.cells _ t fr=>.cells (ahT d).toArray t fr
 |o=>o
def af2(P:Program)(os:Os):tW:={World.holding P os ⟨#[],#[],[]⟩with heap:=Rows.reckonedRow.laid.foldl (λh x=>h.modify ((P.globalNamed x.1).getD 0) (agY x.2)) (World.holding P os ⟨#[],#[],[]⟩).heap}
theorem agj(os:Os)(args:tAV):laidMetH Tryz.prog Rows.reckonedRow.laid ((af2 Tryz.prog os).forCall (λ_ _=>0) ⟨#[],args,[]⟩).memory :=
 laidMetH_of_parts (laidMet_of_run' 8 (by kernel_rfl) (by kernel_rfl)) (by kernel_rfl)
theorem ahU{W:tW}(h:W.ShapedOpen Tryz.prog):mE W:=by
 obtain⟨cs,hh,hs,hr⟩:=h.1 1 #[.int .i64 0] 3 (of_decide_eq_true (by kernel_rfl)) (by kernel_rfl);obtain⟨ts,hts,_,hall⟩:=hr (by kernel_rfl);rw[show Tryz.prog.cellTypes Tryz.prog.depth 3=some [3] by kernel_rfl]at hts;cases hts;have h1:0<cs.size:=by rw[hs];decide
 obtain⟨u,hu',hok⟩:=hall 0 cs[0] (by simp[h1]);have:u=3:=by simpa using hu'.symm
 subst this;have hcell:W.cell? ⟨1,0,none⟩=some cs[0]:=by simp[World.cell?,hh,h1]
 unfold mE;rw[hcell];unfold Cell.ok at hok;rw[Tryz.underlying3]at hok;cases hv:cs[0]<;>rw[hv]at hok<;>first |(obtain⟨rfl,_⟩:=hok;exact⟨_,rfl⟩)|simp at hok
theorem agJ(H:Type)(enc:TypeId×Value->H)(W:tW)(base:Nat)(args:tAV)(ds gs:List (DataW H))(before:List MemPlace)(afJ:W.ShapedOpen Tryz.prog)(hval:∀(j:Nat) t v,Tryz.f3.params[j]?=some t->args[j]?=some v->Value.okWide Tryz.prog W .any base t v) (hW:DataW.Whole enc Tryz.prog Tryz.f3.params.toList Rows.reckonedSpec.vars false W args.toList ds gs before) (hL:laidMetH Tryz.prog Rows.reckonedRow.laid W):Calls Tryz.prog 3 args W λe W'=>∃v,e=.returned v/\Rows.reckonedSpec.post enc Tryz.prog Tryz.f3 false true false false W args v W':=by
 have hW':=hW;obtain⟨p,q,hA0,hV0,rfl,hfz,hnd⟩:=hW;have hA:DataW.TrodAll enc Tryz.prog W 0 (λ_=>true) true Tryz.f3.params.toList args.toList ds p:=hA0;have hV:DataW.TrodVars enc Tryz.prog W (λ_=>true) [] gs q:=hV0;rw[agi]at hA hval;obtain⟨v0,v1,v2,d0,d1,d2,p0,p1,p2,rfl,rfl,rfl,t0,t1,t2⟩:=trodAll_three hA
 obtain⟨rfl,rfl⟩:gs=[]/\q=[]:=by
  cases gs with
  |nil=>exact⟨rfl,hV⟩
  |cons g r=>exact absurd hV (by intro h;cases h)
 obtain⟨a,rfl,rfl,rfl,wf0⟩:=open_int Tryz.underlying22 (hval 0 22 v0 rfl rfl) t0;obtain⟨b,rfl,rfl,rfl,wf1⟩:=open_int Tryz.underlying22 (hval 1 22 v1 rfl rfl) t1;obtain⟨which,rfl,rfl,rfl,wf2⟩:=open_int Tryz.underlying3 (hval 2 3 v2 rfl rfl) t2;have hmin:IntKind.i64.min=-9223372036854775808:=by decide
 have hmax:IntKind.i64.max=9223372036854775807:=by decide
 have ajj:IntKind.u64.min=0:=by decide
 have ajk:IntKind.u64.max=18446744073709551615:=by decide
 have hr0:0<=a/\a<=18446744073709551615:=by simp[Lit.wf]at wf0;omega
 have hr1:0<=b/\b<=18446744073709551615:=by simp[Lit.wf]at wf1;omega
 have hr2:-9223372036854775808<=which/\which<=9223372036854775807:=by simp[Lit.wf]at wf2;omega
 obtain⟨a,rfl⟩:=Int.eq_ofNat_of_zero_le hr0.1;obtain⟨b,rfl⟩:=Int.eq_ofNat_of_zero_le hr1.1;have e1:Rows.reckonedSpec.fn H ([.lit (.int .u64 a),.lit (.int .u64 b),.lit (.int .i64 which)]++[])={results:=[.lit (.bool true)],args:=[.lit (.int .u64 a),.lit (.int .u64 b),.lit (.int .i64 which)]}:=by simp[Rows.reckonedSpec]
 refine(aha W (agC (agb hL)) (agI (agb hL)) (ahU afJ) a b which (by omega) (by omega) hr2.1 hr2.2).mono λe W' ⟨he,m⟩=>?_;subst he;refine⟨_,rfl,_,_,_,[],[],[],hW',?_,?_,?_,?_,λh=>by cases h⟩
 ·rw[e1];exact trodAll_mk1 (shut_bool Tryz.underlying4 true)
 ·rw[e1];exact trodAll_mk3 (shut_int Tryz.underlying22 wf0) (shut_int Tryz.underlying22 wf1) (shut_int Tryz.underlying3 wf2)
 ·rw[e1];rfl
 ·exact m.below.frame _
theorem agv(os:Os)(started:os.Started)(H:Type)(enc:TypeId×Value->H):ReturnsInHanded {} Tryz.checked os 3 .any (λw args=>(Rows.reckonedSpec.pre enc Tryz.prog Tryz.f3 [] false w args/\laidMetH Tryz.prog Rows.reckonedRow.laid w)/\sizedMet enc Tryz.prog Tryz.f3 (OpenSpec.ofChange Rows.reckonedSpec) false w args) (Rows.reckonedSpec.post enc Tryz.prog Tryz.f3 false true false false):=by
 refine returnsInHanded_of_calls (C:=Tryz.checked) air started (by kernel_rfl) ?_ ?_
 ·exact ChangeSpec.witness_at (enc:=enc) (C:=Tryz.checked) (os:=os) (X:=λw _=>laidMetH Tryz.prog Rows.reckonedRow.laid w) false (af2 Tryz.prog os) #[.int .u64 0,.int .u64 0,.int .i64 0] 8 rfl (by kernel_rfl) (by kernel_rfl) (by kernel_rfl) (by kernel_rfl) (by kernel_rfl) (agj os _)
 intro w tape i _ hsh _ hok hpre _;obtain⟨_,_,_,fn',hfn',_,_,_,_,hval⟩:=hok;obtain rfl:fn'=Tryz.f3:=Option.some.inj (hfn'.symm.trans Tryz.func3);obtain⟨⟨⟨ds,gs,before,hw,_⟩,hx⟩,hz⟩:=hpre;have hw':=DataW.Whole.of_heap (w':=w.forCall tape i) (by rfl) hw;refine(agJ H enc (w.forCall tape i) w.heap.size i.args ds gs before hsh hval hw' (hx.of_heap (by rfl))).mono λe W' ⟨v,he,hp⟩=>?_;subst he;exact ChangeSpec.post_blind hp
