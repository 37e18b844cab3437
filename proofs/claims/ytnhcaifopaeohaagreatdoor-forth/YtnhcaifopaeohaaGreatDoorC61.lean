import Derived.Test.YtnhcaifopaeohaaGreatDoorC44
import Derived.Test.YtnhcaifopaeohaaGreatDoorRows
import Derived.WalkKit
import Derived.ProofKit
import Derived.OpenShut
import Derived.ChangeMaps5
import Derived.LaidHandle
import Derived.Lib.LaidU8
import Derived.Lib.LaidTab
import Derived.Handed
namespace Go.Proofs.YtnhcaifopaeohaaGreatDoor
open Go.ChangeMaps Go Go.ChangeShapes Go.WideShapes Go.ChangeAt Go.RowKit
set_option linter.all false
theorem kfown:ownKnob Tryz.prog.godebug=none:=by kernel_rfl
theorem kflaidOut:laidOutB Tryz.prog=true:=by kernel_rfl
theorem kflawParams:Tryz.f4.params=#[9]:=by kernel_rfl
theorem kflaid_plain {W:World} (hL:laidMetH Tryz.prog Rows.forthRow.laid W):laidMet Tryz.prog Rows.forthRow.laid W:=by
 have hf:(Rows.forthRow.laid.filter fun x=>x.2.handleName?.isSome)=[]:=by rfl
 unfold laidMetH at hL;rw [hf] at hL;exact hL
theorem kfenv_laid {W:World} (hL:laidMet Tryz.prog Rows.forthRow.laid W):Env W:=by
 obtain ⟨g, t, cs, fuel, p, hg', ht', hvar, hd⟩ := Lib.laidMet.reads hL (n := "internal/strconv.uint64pow10") (d := Rows.laid_internal_strconv_uint64pow10) (by simp [Rows.forthRow])
 obtain rfl := Option.some.inj ((show Tryz.prog.globalNamed "internal/strconv.uint64pow10" = some 2 by kernel_rfl).symm.trans hg')
 obtain rfl:=Option.some.inj ((show (Tryz.prog.globals[2]?).map (·.type)=some 313 by kernel_rfl).symm.trans ht')
 have hd2:DataW.trod (fun _=>()) Tryz.prog W 0 (fun _=>true) false fuel 313 cs.toList=some (Lib.tabData .u64 Lib.pow10Tab,p):=hd
 unfold Env Lib.TabIs
 rw [hvar,<- Lib.cells_of_tab Tryz.underlying313 Tryz.underlying97 (by kernel_rfl) (by kernel_rfl) hd2]
theorem kfenvW_laid {W:World} (hL:laidMet Tryz.prog Rows.forthRow.laid W):EnvW W:=by
 obtain ⟨g, t, cs, fuel, p, hg', ht', hvar, hd⟩ := Lib.laidMet.reads hL (n := "spool/ops.sizeWords") (d := Rows.laid_spool_ops_sizeWords) (by simp [Rows.forthRow])
 have hg : Tryz.prog.globalNamed "spool/ops.sizeWords" = some 0 := by kernel_rfl
 obtain rfl:=Option.some.inj (hg.symm.trans hg')
 obtain rfl:=Option.some.inj ((show (Tryz.prog.globals[0]?).map (·.type)=some 154 by kernel_rfl).symm.trans ht')
 have hc1:Tryz.prog.cellsOf 9=1:=by kernel_rfl
 have key:∀ i,i<4->∀ b:List UInt8,([DataW.lit (.string [49]),.lit (.string [50]),.lit (.string [52]),.lit (.string [56])]:List (DataW Unit))[i]?=some (.lit (.string b))->W.cell? ⟨0,i,none⟩=some (.string (T b)):=fun i hi b hb=>by
  obtain ⟨fuel',d,q,hds,hf⟩:=Lib.array_elem Tryz.underlying154 hd i hi;rw [hb] at hds
  cases hds
  rw [hc1,Nat.mul_one] at hf;obtain ⟨s',h,hx,hs⟩:=DataW.trod_string Tryz.underlying9 hf
  have h1:cs[i]?=some (.string s'):=by
   have h2:=congrArg (fun l=>l[0]?) h
   simpa using h2
  have h3:T b=s':=by
   have:b=s'.data.toList:=by
    have h4:=congrArg Prod.fst hx
    simpa using h4
   rw [this]
   apply ByteArray.ext
   simp [T]
  rw [h3,<- h1]
  simpa using World.var?_cell hg hvar i
 exact ⟨key 0 (by omega) _ rfl,key 1 (by omega) _ rfl,key 2 (by omega) _ rfl,key 3 (by omega) _ rfl⟩
def kflit1:DataW Unit->List Value
 | .lit (.int k z)=>[.int k z]
 | .lit (.string b)=>[.string ⟨b.toArray⟩]
 | _=>[]
def kflit2:DataW Unit->List Value
 | .agg l=>l.flatMap kflit1
 | d=>kflit1 d
def kflit3:DataW Unit->List Value
 | .agg l=>l.flatMap kflit2
 | d=>kflit2 d
def kflaidObj (d:DataW Unit):Obj->Obj
 | .cells _ t fr=>.cells (kflit3 d).toArray t fr
 | o=>o
def kflaidWorldAt (P:Program) (os:Os):World:={ World.holding P os ⟨#[],#[],[]⟩ with heap:=Rows.forthRow.laid.foldl (fun h x=>h.modify ((P.globalNamed x.1).getD 0) (kflaidObj x.2)) (World.holding P os ⟨#[],#[],[]⟩).heap }
set_option maxRecDepth 100000 in
theorem kflaidWorld_met (os:Os) (args:Array Value):laidMetH Tryz.prog Rows.forthRow.laid ((kflaidWorldAt Tryz.prog os).forCall (fun _ _=>0) ⟨#[],args,[]⟩).memory :=
 laidMetH_of_parts (laidMet_of_run' 8 (by kernel_rfl) (by kernel_rfl)) (by kernel_rfl)
set_option maxRecDepth 100000 in
theorem kfenvM {W:World} (h:W.ShapedOpen Tryz.prog):EnvM W:=by
 obtain ⟨cs,hh,hs,hr⟩:=h.1 1 #[.int .i64 0] 3 (of_decide_eq_true (by kernel_rfl)) (by kernel_rfl)
 obtain ⟨ts,hts,_,hall⟩:=hr (by kernel_rfl)
 rw [show Tryz.prog.cellTypes Tryz.prog.depth 3=some [3] by kernel_rfl] at hts
 cases hts
 have h1:0<cs.size:=by rw [hs];decide
 obtain ⟨u,hu',hok⟩:=hall 0 cs[0] (by simp [h1])
 have:u=3:=by simpa using hu'.symm
 subst this
 have hcell:W.cell? ⟨1,0,none⟩=some cs[0]:=by simp [World.cell?,hh,h1]
 unfold EnvM;rw [hcell];unfold Cell.ok at hok;rw [Tryz.underlying3] at hok
 cases hv:cs[0]<;>rw [hv] at hok<;>first | (obtain ⟨rfl,_⟩:=hok;exact ⟨_,rfl⟩) | simp at hok
set_option maxRecDepth 100000 in
theorem kflaw_post (H:Type) (enc:TypeId × Value->H) (W:World) (base:Nat) (args:Array Value) (ds gs:List (DataW H)) (before:List MemPlace) (hsh:W.ShapedOpen Tryz.prog)
  (hval:∀ (j:Nat) t v,Tryz.f4.params[j]?=some t->args[j]?=some v->Value.okWide Tryz.prog W .any base t v) (hW:DataW.Whole enc Tryz.prog Tryz.f4.params.toList Rows.forthSpec.vars false W args.toList ds gs before) (hL:laidMetH Tryz.prog Rows.forthRow.laid W) :
  Calls Tryz.prog 4 args W fun e W'=>∃ v,e=.returned v/\Rows.forthSpec.post enc Tryz.prog Tryz.f4 false true false false W args v W':=by
 have hW':=hW
 obtain ⟨p,q,hA0,hV0,rfl,hfz,hnd⟩:=hW
 have hA:DataW.TrodAll enc Tryz.prog W 0 (fun _=>true) true Tryz.f4.params.toList args.toList ds p:=hA0
 have hV:DataW.TrodVars enc Tryz.prog W (fun _=>true) [] gs q:=hV0
 rw [kflawParams] at hA hval;obtain ⟨v0,d0,rfl,rfl,h0⟩:=trodAll_one hA
 obtain ⟨s,rfl,rfl,rfl,ws⟩:=open_string Tryz.underlying9 (hval 0 9 v0 rfl rfl) h0
 obtain ⟨rfl,rfl⟩:gs=[]/\q=[]:=by
  cases gs with
  | nil=>exact ⟨rfl,hV⟩
  | cons g r=>exact absurd hV (by intro h;cases h)
 have e1:Rows.forthSpec.fn H ([.lit (.string s.data.toList)]++[])={ results:=[.lit (.bool true)],args:=[.lit (.string s.data.toList)] }:=by simp [Rows.forthSpec]
 have hs:T s.data.toList=s:=by apply ByteArray.ext;simp [T]
 have hC:Calls Tryz.prog 4 #[.string s] W fun e w'=>e=.returned (.bool true)/\Mods Nil' W w':=by
  have:=forth_any W s.data.toList (kfenvW_laid (kflaid_plain hL)) (kfenv_laid (kflaid_plain hL)) (kfenvM hsh)
  rw [hs] at this;exact this
 refine hC.mono fun e W' ⟨he,m⟩=>?_
 subst he
 refine ⟨_,rfl,_,_,_,[],[],[],hW',?_,?_,?_,?_,fun h=>by cases h⟩
 ·rw [e1];exact trodAll_mk1 (shut_bool Tryz.underlying4 true)
 ·rw [e1];exact trodAll_mk1 (shut_string Tryz.underlying9 ws)
 ·rw [e1];rfl
 ·exact m.below.frame _
set_option maxRecDepth 100000 in
theorem kflaw_lifted (os:Os) (started:os.Started) (H:Type) (enc:TypeId × Value->H) :
  ReturnsInHanded {} Tryz.checked os 4 .any (fun w args=>(Rows.forthSpec.pre enc Tryz.prog Tryz.f4 [] false w args/\laidMetH Tryz.prog Rows.forthRow.laid w)/\sizedMet enc Tryz.prog Tryz.f4 (OpenSpec.ofChange Rows.forthSpec) false w args)
   (Rows.forthSpec.post enc Tryz.prog Tryz.f4 false true false false):=by
 refine returnsInHanded_of_calls (C:=Tryz.checked) kfown started (by kernel_rfl) ?_ ?_
 ·exact ChangeSpec.witness_at (enc:=enc) (C:=Tryz.checked) (os:=os) (X:=fun w _=>laidMetH Tryz.prog Rows.forthRow.laid w) false (kflaidWorldAt Tryz.prog os) #[.string ⟨#[]⟩] 8 rfl (by kernel_rfl) (by kernel_rfl) (by kernel_rfl) (by kernel_rfl) (by kernel_rfl) (kflaidWorld_met os _)
 intro w tape i _ hsh _ hok hpre _;obtain ⟨_,_,_,fn',hfn',_,_,_,_,hval⟩:=hok
 obtain rfl:fn'=Tryz.f4:=Option.some.inj (hfn'.symm.trans Tryz.func4)
 obtain ⟨⟨⟨ds,gs,before,hw,_⟩,hx⟩,_⟩:=hpre
 have hw':=DataW.Whole.of_heap (w':=w.forCall tape i) (by rfl) hw
 refine (kflaw_post H enc (w.forCall tape i) w.heap.size i.args ds gs before hsh hval hw' (hx.of_heap (by rfl))).mono fun e W' ⟨v,he,hp⟩=>?_
 subst he;exact ChangeSpec.post_blind hp
end Go.Proofs.YtnhcaifopaeohaaGreatDoor
