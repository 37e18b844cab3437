import Derived.LaidHandle
import Derived.Lib.LaidU8
import Derived.OpenShut
import Derived.ProofKit
import Derived.Test.YtekmhcbefnmflaaGreatDoorRows
import Derived.Test.YtekmhcbefnmflaaGreatDoorCL46
namespace Go.Proofs.YtekmhcbefnmflaaGreatDoor
open Go.ChangeMaps Go Go.ChangeShapes Go.WideShapes Go.ChangeAt Go.RowKit
open Bool renaming true->eJ,false->eE
open _root_.Go renaming laidMetH->rS,laidMet->zp,DataW->sq
set_option linter.all false
set_option maxRecDepth 100000
theorem ags:ownKnob Tryz.prog.godebug=none:=by kernel_rfl
theorem agv:laidOutB Tryz.prog=eJ:=by kernel_rfl
theorem agh:Tryz.f3.params=#[9]:=by kernel_rfl
theorem age{W:tW}(hL:rS Tryz.prog Rows.loadsRow.laid W):zp Tryz.prog Rows.loadsRow.laid W:=by
 have hf:(Rows.loadsRow.laid.filter λx=>x.2.handleName?.isSome)=[]:=by rfl
 unfold rS at hL;rw[hf]at hL;exact hL
theorem agj{W:tW}(hL:zp Tryz.prog Rows.loadsRow.laid W):Env W:=by
 obtain ⟨g, t, cs, fuel, p, hg', ht', hvar, hd⟩ := Lib.laidMet.reads hL (n := "internal/strconv.uint64pow10") (d := Rows.laid_internal_strconv_uint64pow10) (by simp [Rows.loadsRow])
 obtain rfl := Option.some.inj ((show Tryz.prog.globalNamed "internal/strconv.uint64pow10" = some 4 by kernel_rfl).symm.trans hg')
 obtain rfl:=Option.some.inj ((show(Tryz.prog.globals[4]?).map (·.type)=some 427 by kernel_rfl).symm.trans ht');have hd2:DataW.trod (λ_=>()) Tryz.prog W 0 (λ_=>eJ) eE fuel 427 cs.toList=some (Lib.tabData .u64 Lib.pow10Tab,p):=hd;unfold Env Lib.TabIs;rw[hvar,<-Lib.cells_of_tab Tryz.underlying427 Tryz.underlying53 (by kernel_rfl) (by kernel_rfl) hd2]
theorem agi{W:tW}(hL:zp Tryz.prog Rows.loadsRow.laid W):xG W:=by
 obtain ⟨g, t, cs, fuel, p, hg', ht', hvar, hd⟩ := Lib.laidMet.reads hL (n := "spool/ops.sizeWords") (d := Rows.laid_spool_ops_sizeWords) (by simp [Rows.loadsRow])
 have hg : Tryz.prog.globalNamed "spool/ops.sizeWords" = some 0 := by kernel_rfl
 obtain rfl:=Option.some.inj (hg.symm.trans hg');obtain rfl:=Option.some.inj ((show(Tryz.prog.globals[0]?).map (·.type)=some 244 by kernel_rfl).symm.trans ht');have hc1:Tryz.prog.cellsOf 9=1:=by kernel_rfl
 have key:∀i,i<4->∀b:tLB,([DataW.lit (.string [49]),.lit (.string [50]),.lit (.string [52]),.lit (.string [56])]:List (sq Unit))[i]?=some (.lit (.string b))->W.cell? ⟨0,i,none⟩=some (.string (T b)):=λi hi b hb=>by
  obtain⟨fuel',d,q,hds,hf⟩:=Lib.array_elem Tryz.underlying244 hd i hi;rw[hb]at hds;cases hds;rw[hc1,Nat.mul_one]at hf;obtain⟨s',h,hx,hs⟩:=DataW.trod_string Tryz.underlying9 hf
  have h1:cs[i]?=some (.string s'):=by
   have h2:=congrArg (λl=>l[0]?) h
   simpa using h2
  have h3:T b=s':=by
   have:b=s'.data.toList:=by
    have h4:=congrArg Prod.fst hx
    simpa using h4
   rw[this];apply ByteArray.ext;simp[T]
  rw[h3,<-h1]
  simpa using World.var?_cell hg hvar i
 exact⟨key 0 (by omega) _ rfl,key 1 (by omega) _ rfl,key 2 (by omega) _ rfl,key 3 (by omega) _ rfl⟩
def agm:sq Unit->tLV
 |.lit (.int k z)=>[.int k z]
 |.lit (.string b)=>[.string ⟨b.toArray⟩]
 |_=>[]
def agn:sq Unit->tLV
 |.agg l=>l.flatMap agm
 |d=>agm d
def agq:sq Unit->tLV
 |.agg l=>l.flatMap agn
 |d=>agn d
def agl(d:sq Unit):Obj->Obj
 |.cells _ t fr=>.cells (agq d).toArray t fr
 |o=>o
def agd(P:Program)(os:Os):tW:={World.holding P os ⟨#[],#[],[]⟩with heap:=Rows.loadsRow.laid.foldl (λh x=>h.modify ((P.globalNamed x.1).getD 0) (agl x.2)) (World.holding P os ⟨#[],#[],[]⟩).heap}
theorem agf(os:Os)(args:tAV):rS Tryz.prog Rows.loadsRow.laid ((agd Tryz.prog os).forCall (λ_ _=>0) ⟨#[],args,[]⟩).memory :=
 laidMetH_of_parts (laidMet_of_run' 8 (by kernel_rfl) (by kernel_rfl)) (by kernel_rfl)
theorem agr{W:tW}(h:W.ShapedOpen Tryz.prog):wo W:=by
 obtain⟨cs,hh,hs,hr⟩:=h.1 1 #[vI 0] 3 (of_decide_eq_true (by kernel_rfl)) (by kernel_rfl);obtain⟨ts,hts,_,hall⟩:=hr (by kernel_rfl);rw[show Tryz.prog.cellTypes Tryz.prog.depth 3=some [3] by kernel_rfl]at hts;cases hts;have h1:0<cs.size:=by rw[hs];decide
 obtain⟨u,hu',hok⟩:=hall 0 cs[0] (by simp[h1]);have:u=3:=by simpa using hu'.symm
 subst this;have hcell:W.cell? ⟨1,0,none⟩=some cs[0]:=by simp[World.cell?,hh,h1]
 unfold wo;rw[hcell];unfold Cell.ok at hok;rw[Tryz.underlying3]at hok;cases hv:cs[0]<;>rw[hv]at hok<;>first |(obtain⟨rfl,_⟩:=hok;exact⟨_,rfl⟩)|simp at hok
theorem agk(H:Type)(enc:TypeId×Value->H)(W:tW)(base:Nat)(args:tAV)(ds gs:List (sq H))(before:List MemPlace)(agt:W.ShapedOpen Tryz.prog)(hval:∀(j:Nat) t v,Tryz.f3.params[j]?=some t->args[j]?=some v->Value.okWide Tryz.prog W .any base t v) (hW:DataW.Whole enc Tryz.prog Tryz.f3.params.toList Rows.loadsSpec.vars eE W args.toList ds gs before) (hL:rS Tryz.prog Rows.loadsRow.laid W):Calls Tryz.prog 3 args W λe W'=>∃v,e=.returned v/\Rows.loadsSpec.post enc Tryz.prog Tryz.f3 eE eJ eE eE W args v W':=by
 have hW':=hW;obtain⟨p,q,hA0,hV0,rfl,hfz,hnd⟩:=hW;have hA:=hA0;have hV:DataW.TrodVars enc Tryz.prog W (λ_=>eJ) [] gs q:=hV0;rw[agh]at hA hval;obtain⟨v0,d0,rfl,rfl,t0⟩:=trodAll_one hA
 obtain⟨rfl,rfl⟩:gs=[]/\q=[]:=by
  cases gs with
  |nil=>exact⟨rfl,hV⟩
  |cons g r=>exact absurd hV (by intro h;cases h)
 obtain⟨s,rfl,rfl,rfl,ws⟩:=open_string Tryz.underlying9 (hval 0 9 v0 rfl rfl) t0;have e1:Rows.loadsSpec.fn H ([.lit (.string s.data.toList)]++[])={results:=[.lit (.bool eJ)],args:=[.lit (.string s.data.toList)]}:=by simp[Rows.loadsSpec]
 refine(acD W (agi (age hL)) (agj (age hL)) (agr agt) s ws).mono λe W' ⟨he,m⟩=>?_;subst he;refine⟨_,rfl,_,_,_,[],[],[],hW',?_,?_,?_,?_,λh=>by cases h⟩
 ·rw[e1];exact trodAll_mk1 (shut_bool Tryz.underlying4 eJ)
 ·rw[e1];exact trodAll_mk1 (shut_string Tryz.underlying9 ws)
 ·rw[e1];rfl
 ·exact m.below.frame _
theorem agp(os:Os)(started:os.Started)(H:Type)(enc:TypeId×Value->H):ReturnsInHanded {} Tryz.checked os 3 .any (λw args=>(Rows.loadsSpec.pre enc Tryz.prog Tryz.f3 [] eE w args/\rS Tryz.prog Rows.loadsRow.laid w)/\sizedMet enc Tryz.prog Tryz.f3 (OpenSpec.ofChange Rows.loadsSpec) eE w args) (Rows.loadsSpec.post enc Tryz.prog Tryz.f3 eE eJ eE eE):=by
 refine returnsInHanded_of_calls (C:=Tryz.checked) ags started (by kernel_rfl) ?_ ?_
 ·exact ChangeSpec.witness_at (enc:=enc) (C:=Tryz.checked) (os:=os) (X:=λw _=>rS Tryz.prog Rows.loadsRow.laid w) eE (agd Tryz.prog os) #[.string ⟨#[]⟩] 8 rfl (by kernel_rfl) (by kernel_rfl) (by kernel_rfl) (by kernel_rfl) (by kernel_rfl) (agf os _)
 intro w tape i _ hsh _ hok hpre _;obtain⟨_,_,_,fn',hfn',_,_,_,_,hval⟩:=hok;obtain rfl:fn'=Tryz.f3:=Option.some.inj (hfn'.symm.trans Tryz.func3);obtain⟨⟨⟨ds,gs,before,hw,_⟩,hx⟩,hz⟩:=hpre;have hw':=DataW.Whole.of_heap (w':=w.forCall tape i) (by rfl) hw;refine(agk H enc (w.forCall tape i) w.heap.size i.args ds gs before hsh hval hw' (hx.of_heap (by rfl))).mono λe W' ⟨v,he,hp⟩=>?_;subst he;exact ChangeSpec.post_blind hp
