import Derived.Test.YtnhcaifopaeohaaGreatDoorM50
import Derived.Test.YtnhcaifopaeohaaGreatDoorRows
import Derived.WalkKit
import Derived.ProofKit
import Derived.OpenShut
import Derived.ChangeMaps5
import Derived.LaidHandle
import Derived.Lib.LaidU8
import Derived.Lib.LaidTab
import Derived.Handed
import Derived.SliceStrings
import Derived.SizedLaws
import Derived.Carry
namespace Go.Proofs.YtnhcaifopaeohaaGreatDoor
open Go.ChangeMaps Go Go.ChangeShapes Go.WideShapes Go.ChangeAt Go.RowKit
set_option linter.all false
theorem kmown:ownKnob Tryz.prog.godebug=none:=by kernel_rfl
theorem kmlaidOut:laidOutB Tryz.prog=true:=by kernel_rfl
theorem kmlawParams:Tryz.f5.params=#[29,3]:=by kernel_rfl
theorem kmlaid_plain {W:World} (hL:laidMetH Tryz.prog Rows.mixedRow.laid W):laidMet Tryz.prog Rows.mixedRow.laid W:=by
 have hf:(Rows.mixedRow.laid.filter fun x=>x.2.handleName?.isSome)=[]:=by rfl
 unfold laidMetH at hL;rw [hf] at hL;exact hL
theorem kmenv_laid {W:World} (hL:laidMet Tryz.prog Rows.mixedRow.laid W):Env W:=by
 obtain ⟨g, t, cs, fuel, p, hg', ht', hvar, hd⟩ := Lib.laidMet.reads hL (n := "internal/strconv.uint64pow10") (d := Rows.laid_internal_strconv_uint64pow10) (by simp [Rows.mixedRow])
 obtain rfl := Option.some.inj ((show Tryz.prog.globalNamed "internal/strconv.uint64pow10" = some 2 by kernel_rfl).symm.trans hg')
 obtain rfl:=Option.some.inj ((show (Tryz.prog.globals[2]?).map (·.type)=some 313 by kernel_rfl).symm.trans ht')
 have hd2:DataW.trod (fun _=>()) Tryz.prog W 0 (fun _=>true) false fuel 313 cs.toList=some (Lib.tabData .u64 Lib.pow10Tab,p):=hd
 unfold Env Lib.TabIs
 rw [hvar,<- Lib.cells_of_tab Tryz.underlying313 Tryz.underlying97 (by kernel_rfl) (by kernel_rfl) hd2]
theorem kmenvW_laid {W:World} (hL:laidMet Tryz.prog Rows.mixedRow.laid W):EnvW W:=by
 obtain ⟨g, t, cs, fuel, p, hg', ht', hvar, hd⟩ := Lib.laidMet.reads hL (n := "spool/ops.sizeWords") (d := Rows.laid_spool_ops_sizeWords) (by simp [Rows.mixedRow])
 have hg : Tryz.prog.globalNamed "spool/ops.sizeWords" = some 0 := by kernel_rfl
 obtain rfl:=Option.some.inj (hg.symm.trans hg')
 obtain rfl:=Option.some.inj ((show (Tryz.prog.globals[0]?).map (·.type)=some 154 by kernel_rfl).symm.trans ht')
 have hc1:Tryz.prog.cellsOf 9=1:=by kernel_rfl
 have key:∀ i,i<4->∀ b:List UInt8,([DataW.lit (.string [49]),.lit (.string [50]),.lit (.string [52]),.lit (.string [56])]:List (DataW Unit))[i]?=some (.lit (.string b))->W.cell? ⟨0,i,none⟩=some (.string (T b)):=fun i hi b hb=>by
  obtain ⟨fuel',d,q,hds,hf⟩:=Lib.array_elem Tryz.underlying154 hd i hi;rw [hb] at hds
  cases hds
  rw [hc1,Nat.mul_one] at hf;obtain ⟨s',h,hx,hs⟩:=DataW.trod_string Tryz.underlying9 hf
  have h1:cs[i]?=some (.string s'):=by
   have h2:=congrArg (fun l=>l[0]?) h
   simpa using h2
  have h3:T b=s':=by
   have:b=s'.data.toList:=by
    have h4:=congrArg Prod.fst hx
    simpa using h4
   rw [this]
   apply ByteArray.ext
   simp [T]
  rw [h3,<- h1]
  simpa using World.var?_cell hg hvar i
 exact ⟨key 0 (by omega) _ rfl,key 1 (by omega) _ rfl,key 2 (by omega) _ rfl,key 3 (by omega) _ rfl⟩
def kmlit1:DataW Unit->List Value
 | .lit (.int k z)=>[.int k z]
 | .lit (.string b)=>[.string ⟨b.toArray⟩]
 | _=>[]
def kmlit2:DataW Unit->List Value
 | .agg l=>l.flatMap kmlit1
 | d=>kmlit1 d
def kmlit3:DataW Unit->List Value
 | .agg l=>l.flatMap kmlit2
 | d=>kmlit2 d
def kmlaidObj (d:DataW Unit):Obj->Obj
 | .cells _ t fr=>.cells (kmlit3 d).toArray t fr
 | o=>o
def kmlaidWorldAt (P:Program) (os:Os):World:={ World.holding P os ⟨#[],#[],[]⟩ with heap:=Rows.mixedRow.laid.foldl (fun h x=>h.modify ((P.globalNamed x.1).getD 0) (kmlaidObj x.2)) (World.holding P os ⟨#[],#[],[]⟩).heap }
set_option maxRecDepth 100000 in
theorem kmlaidWorld_met (os:Os) (args:Array Value):laidMetH Tryz.prog Rows.mixedRow.laid ((kmlaidWorldAt Tryz.prog os).forCall (fun _ _=>0) ⟨#[],args,[]⟩).memory :=
 laidMetH_of_parts (laidMet_of_run' 8 (by kernel_rfl) (by kernel_rfl)) (by kernel_rfl)
set_option maxRecDepth 100000 in
theorem kmenvM {W:World} (h:W.ShapedOpen Tryz.prog):EnvM W:=by
 obtain ⟨cs,hh,hs,hr⟩:=h.1 1 #[.int .i64 0] 3 (of_decide_eq_true (by kernel_rfl)) (by kernel_rfl)
 obtain ⟨ts,hts,_,hall⟩:=hr (by kernel_rfl)
 rw [show Tryz.prog.cellTypes Tryz.prog.depth 3=some [3] by kernel_rfl] at hts
 cases hts
 have h1:0<cs.size:=by rw [hs];decide
 obtain ⟨u,hu',hok⟩:=hall 0 cs[0] (by simp [h1])
 have:u=3:=by simpa using hu'.symm
 subst this
 have hcell:W.cell? ⟨1,0,none⟩=some cs[0]:=by simp [World.cell?,hh,h1]
 unfold EnvM;rw [hcell];unfold Cell.ok at hok;rw [Tryz.underlying3] at hok
 cases hv:cs[0]<;>rw [hv] at hok<;>first | (obtain ⟨rfl,_⟩:=hok;exact ⟨_,rfl⟩) | simp at hok
theorem kmcells:Tryz.prog.cellsOf 9=1:=by kernel_rfl
theorem kmbytes:Tryz.prog.bytesOf 9=16:=by kernel_rfl
theorem kmopen_list {H:Type} {enc:TypeId × Value->H} {W:World} {v:Value} {d:DataW H} {p:List MemPlace} {fuel:Nat} (hf:DataW.trod enc Tryz.prog W 0 (fun _=>true) true fuel 29 [v]=some (d,p)) :
  ∃ (o:Option Addr) (cap:Nat) (objs:List (List UInt8)),v=.slice o objs.length cap/\(0<objs.length->∃ g off,o=some ⟨g,off,none⟩/\∀ k (h:k<objs.length),W.cell? ⟨g,off+k,none⟩=some (.string (T objs[k])))/\(∀ s∈objs,s.length<=maxLen)/\(objs.length=0\/∃ el spare,d=.slice el spare/\el.length=objs.length):=by
 rcases open_strings Tryz.underlying29 Tryz.underlying9 kmcells hf with ⟨hcs,hx⟩ | ⟨a,len,cap,ss,hcs,_,hl,hm,hz,hx,hcell,hsz⟩
 ·simp only [List.cons.injEq,and_true] at hcs
  subst hcs
  exact ⟨none,0,[],rfl,(fun h=>absurd h (by simp)),(fun s hs=>by cases hs),.inl rfl⟩
 ·simp only [List.cons.injEq,and_true] at hcs
  subst hcs
  simp only [if_true] at hz
  obtain ⟨b,off,spot⟩:=a
  have hle:len<=ss.length:=by omega
  have hlen:((ss.take len).map (fun s=>s.data.toList)).length=len:=by rw [List.length_map,List.length_take];omega
  have hd:=congrArg Prod.fst hx
  simp only at hd
  refine ⟨some ⟨b,off,spot⟩,cap,(ss.take len).map (fun s=>s.data.toList),by rw [hlen],fun h=>?_,fun s hs=>?_,.inr ⟨_,_,hd,?_⟩⟩
  ·rw [hlen] at h
   have hspot:spot=none:=by simpa [Addr.add] using World.cell?_spot (hcell 0 (by omega))
   subst hspot
   refine ⟨b,off,rfl,fun k hk=>?_⟩
   rw [hlen] at hk
   have hadd:(⟨b,off,none⟩:Addr).add k=⟨b,off+k,none⟩:=by unfold Addr.add;split<;>simp_all
   have hc:=hcell k (by omega)
   rw [hadd] at hc;rw [hc]
   have hk2:k<ss.length:=by omega
   simp only [List.getElem_map,List.getElem_take]
   congr 2
   apply ByteArray.ext
   simp [T,List.getD,hk2]
  ·obtain ⟨x,hx1,rfl⟩:=List.mem_map.1 hs
   have:=hsz x (List.mem_of_mem_take hx1)
   rw [Array.length_toList];exact this
  ·rw [hlen];simp [Go.ChangeShapes.strs];omega
set_option maxRecDepth 100000 in
theorem kmlaw_post (H:Type) (enc:TypeId × Value->H) (W:World) (base:Nat) (args:Array Value) (ds gs:List (DataW H)) (before:List MemPlace) (hsh':W.ShapedOpen Tryz.prog) (hsz0:(DataW.weightsEach Tryz.prog (Tryz.f5.params.toList++Rows.mixedSpec.plain.varTypes Tryz.prog) (ds++gs)).all (·<=reachBytes)=true)
  (hval:∀ (j:Nat) t v,Tryz.f5.params[j]?=some t->args[j]?=some v->Value.okWide Tryz.prog W .any base t v) (hW:DataW.Whole enc Tryz.prog Tryz.f5.params.toList Rows.mixedSpec.vars false W args.toList ds gs before) (hL:laidMetH Tryz.prog Rows.mixedRow.laid W) :
  Calls Tryz.prog 5 args W fun e W'=>∃ v,e=.returned v/\Rows.mixedSpec.post enc Tryz.prog Tryz.f5 false true false false W args v W':=by
 have hW':=hW
 obtain ⟨p,q,hA0,hV0,rfl,hfz,hnd⟩:=hW
 have hA:DataW.TrodAll enc Tryz.prog W 0 (fun _=>true) true Tryz.f5.params.toList args.toList ds p:=hA0
 have hV:DataW.TrodVars enc Tryz.prog W (fun _=>true) [] gs q:=hV0
 have hsz:=hsz0
 rw [kmlawParams] at hA hval hsz;obtain ⟨v0,v1,d0,d1,p0,p1,rfl,rfl,rfl,t0,t1⟩:=trodAll_two hA
 obtain ⟨rfl,rfl⟩:gs=[]/\q=[]:=by
  cases gs with
  | nil=>exact ⟨rfl,hV⟩
  | cons g r=>exact absurd hV (by intro h;cases h)
 obtain ⟨turn,rfl,rfl,rfl,wf1⟩:=open_int Tryz.underlying3 (hval 1 3 v1 rfl rfl) t1
 have h0k:=t0
 obtain ⟨a0,n0,c0,hv0⟩:=okWide_slice Tryz.underlying29 (hval 0 29 v0 rfl rfl)
 obtain ⟨fuel,hf⟩:=t0
 have hf2:DataW.trod enc Tryz.prog W 0 (fun _=>true) true fuel 29 [v0]=some (d0,p0):=by
  subst hv0;exact hf
 obtain ⟨o,cap,texts,rfl,hb,hs,hsh⟩:=kmopen_list hf2
 have hn:texts.length*16<=140737488355328:=by
  rcases hsh with h | ⟨el,spare,hd,hl⟩
  ·omega
  ·have:=sized_slice hsz (j:=0) (t:=29) (e:=9) rfl (by rw [hd];rfl) Tryz.underlying29
   rw [kmbytes] at this
   simp only [reachBytes] at this
   omega
 have hlt:∀ x∈p0,x.block<W.heap.size:=fun x hx=>by simpa using hW'.lt x (by simpa using hx)
 have hr:-9223372036854775808<=turn/\turn<=9223372036854775807:=by
  have hmin:IntKind.i64.min=-9223372036854775808:=by decide
  have hmax:IntKind.i64.max=9223372036854775807:=by decide
  simp [Lit.wf] at wf1
  omega
 have e1:Rows.mixedSpec.fn H ([d0,.lit (.int .i64 turn)]++[])={ results:=[.lit (.bool true)],args:=[d0,.lit (.int .i64 turn)] }:=by simp [Rows.mixedSpec]
 refine (mixed_any W o cap texts turn hr.1 hr.2 hb (by unfold maxLen;omega) (kmenvW_laid (kmlaid_plain hL)) (kmenv_laid (kmlaid_plain hL)) (kmenvM hsh')).mono fun e W' ⟨he,m⟩=>?_
 subst he
 refine ⟨_,rfl,_,_,_,[],p0,[],hW',?_,?_,?_,?_,fun h=>by cases h⟩
 ·rw [e1];exact trodAll_mk1 (shut_bool Tryz.underlying4 true)
 ·rw [e1]
  have:=trodAll_mk2 (Below.trod kmlaidOut (by kernel_rfl) (of_decide_eq_true (by kernel_rfl)) h0k m.below hlt) (shut_int Tryz.underlying3 wf1)
  rw [List.append_nil] at this;exact this
 ·rw [e1];rfl
 ·exact m.below.frame _
set_option maxRecDepth 100000 in
theorem kmlaw_lifted (os:Os) (started:os.Started) (H:Type) (enc:TypeId × Value->H) :
  ReturnsInHanded {} Tryz.checked os 5 .any (fun w args=>(Rows.mixedSpec.pre enc Tryz.prog Tryz.f5 [] false w args/\laidMetH Tryz.prog Rows.mixedRow.laid w)/\sizedMet enc Tryz.prog Tryz.f5 (OpenSpec.ofChange Rows.mixedSpec) false w args)
   (Rows.mixedSpec.post enc Tryz.prog Tryz.f5 false true false false):=by
 refine returnsInHanded_of_calls (C:=Tryz.checked) kmown started (by kernel_rfl) ?_ ?_
 ·exact ChangeSpec.witness_at (enc:=enc) (C:=Tryz.checked) (os:=os) (X:=fun w _=>laidMetH Tryz.prog Rows.mixedRow.laid w) false (kmlaidWorldAt Tryz.prog os) #[.slice none 0 0,.int .i64 0] 8 rfl (by kernel_rfl) (by kernel_rfl) (by kernel_rfl) (by kernel_rfl) (by kernel_rfl) (kmlaidWorld_met os _)
 intro w tape i _ hsh _ hok hpre _;obtain ⟨_,_,_,fn',hfn',_,_,_,_,hval⟩:=hok
 obtain rfl:fn'=Tryz.f5:=Option.some.inj (hfn'.symm.trans Tryz.func5)
 obtain ⟨⟨⟨ds,gs,before,hw,_⟩,hx⟩,hz⟩:=hpre
 have hw':=DataW.Whole.of_heap (w':=w.forCall tape i) (by rfl) hw
 refine (kmlaw_post H enc (w.forCall tape i) w.heap.size i.args ds gs before hsh (hz.weights hw) hval hw' (hx.of_heap (by rfl))).mono fun e W' ⟨v,he,hp⟩=>?_
 subst he;exact ChangeSpec.post_blind hp
end Go.Proofs.YtnhcaifopaeohaaGreatDoor
