import Derived.Test.YthnphhgpfedeeaaGreatDoorCK60
import Derived.Test.YthnphhgpfedeeaaGreatDoorRows
import Derived.ProofKit
import Derived.OpenShut
import Derived.LaidHandle
import Derived.Lib.LaidU8
namespace Go.Proofs.YthnphhgpfedeeaaGreatDoor
open Go.ChangeMaps Go Go.ChangeShapes Go.WideShapes Go.ChangeAt Go.RowKit
open Bool renaming true->fR,false->fj
open Option renaming none->eL,some->eK
open _root_.Go renaming laidMetH->tP,laidMet->Bm,DataW->s9,TypeId->ju,Value->fa,reachBytes->Hk
set_option linter.all false
set_option maxRecDepth 100000
theorem agV:ownKnob Tryz.prog.godebug=eL:=by kernel_rfl
theorem agG:laidOutB Tryz.prog=fR:=by kernel_rfl
theorem agE:Tryz.f4.params=#[40]:=by kernel_rfl
theorem agD{W:tW}(hL:tP Tryz.prog Rows.keptRow.laid W):Bm Tryz.prog Rows.keptRow.laid W:=by
 have hf:(Rows.keptRow.laid.filter λx=>x.2.handleName?.isSome)=[]:=by rfl
 unfold tP at hL;rw[hf]at hL;exact hL
theorem agK{W:tW}(hL:Bm Tryz.prog Rows.keptRow.laid W):Env W:=by
 obtain ⟨g, t, cs, fuel, p, hg', ht', hvar, hd⟩ := Lib.laidMet.reads hL (n := "internal/strconv.uint64pow10") (d := Rows.laid_internal_strconv_uint64pow10) (by simp [Rows.keptRow])
 obtain rfl := Option.some.inj ((show Tryz.prog.globalNamed "internal/strconv.uint64pow10" = eK 4 by kernel_rfl).symm.trans hg')
 obtain rfl:=Option.some.inj ((show(Tryz.prog.globals[4]?).map (·.type)=eK 398 by kernel_rfl).symm.trans ht');have hd2:DataW.trod (λ_=>()) Tryz.prog W 0 (λ_=>fR) fj fuel 398 cs.toList=eK (Lib.tabData .u64 Lib.pow10Tab,p):=hd;unfold Env Lib.TabIs;rw[hvar,<-Lib.cells_of_tab Tryz.underlying398 Tryz.underlying22 (by kernel_rfl) (by kernel_rfl) hd2]
theorem agI{W:tW}(hL:Bm Tryz.prog Rows.keptRow.laid W):uS W:=by
 obtain ⟨g, t, cs, fuel, p, hg', ht', hvar, hd⟩ := Lib.laidMet.reads hL (n := "spool/ops.sizeWords") (d := Rows.laid_spool_ops_sizeWords) (by simp [Rows.keptRow])
 have hg : Tryz.prog.globalNamed "spool/ops.sizeWords" = eK 0 := by kernel_rfl
 obtain rfl:=Option.some.inj (hg.symm.trans hg');obtain rfl:=Option.some.inj ((show(Tryz.prog.globals[0]?).map (·.type)=eK 224 by kernel_rfl).symm.trans ht');have hc1:Tryz.prog.cellsOf 9=1:=by kernel_rfl
 have key:∀i,i<4->∀b:tLB,([DataW.lit (.string [49]),.lit (.string [50]),.lit (.string [52]),.lit (.string [56])]:List (s9 Unit))[i]?=eK (.lit (.string b))->W.cell? ⟨0,i,eL⟩=eK (.string (T b)):=λi hi b hb=>by
  obtain⟨fuel',d,q,hds,hf⟩:=Lib.array_elem Tryz.underlying224 hd i hi;rw[hb]at hds;cases hds;rw[hc1,Nat.mul_one]at hf;obtain⟨s',h,hx,hs⟩:=DataW.trod_string Tryz.underlying9 hf
  have h1:cs[i]?=eK (.string s'):=by
   have h2:=congrArg (λl=>l[0]?) h
   simpa using h2
  have h3:T b=s':=by
   have:b=s'.data.toList:=by
    have h4:=congrArg Prod.fst hx
    simpa using h4
   rw[this];apply ByteArray.ext;simp[T]
  rw[h3,<-h1]
  simpa using World.var?_cell hg hvar i
 exact⟨key 0 (by omega) _ rfl,key 1 (by omega) _ rfl,key 2 (by omega) _ rfl,key 3 (by omega) _ rfl⟩
def agO:s9 Unit->tLV
 |.lit (.int k z)=>[.int k z]
 |.lit (.string b)=>[.string ⟨b.toArray⟩]
 |_=>[]
def agP:s9 Unit->tLV
 |.agg l=>l.flatMap agO
 |d=>agO d
def agT:s9 Unit->tLV
 |.agg l=>l.flatMap agP
 |d=>agP d
def agN(d:s9 Unit):Obj->Obj
 |.cells _ t fr=>.cells (agT d).toArray t fr
 |o=>o
def agC(P:Program)(os:Os):tW:={World.holding P os ⟨#[],#[],[]⟩with heap:=Rows.keptRow.laid.foldl (λh x=>h.modify ((P.globalNamed x.1).getD 0) (agN x.2)) (World.holding P os ⟨#[],#[],[]⟩).heap}
theorem agF(os:Os)(args:tAV):tP Tryz.prog Rows.keptRow.laid ((agC Tryz.prog os).forCall (λ_ _=>0) ⟨#[],args,[]⟩).memory :=
 laidMetH_of_parts (laidMet_of_run' 8 (by kernel_rfl) (by kernel_rfl)) (by kernel_rfl)
theorem agU{W:tW}(h:W.ShapedOpen Tryz.prog):lY W:=by
 obtain⟨cs,hh,hs,hr⟩:=h.1 1 #[vI 0] 3 (of_decide_eq_true (by kernel_rfl)) (by kernel_rfl);obtain⟨ts,hts,_,hall⟩:=hr (by kernel_rfl);rw[show Tryz.prog.cellTypes Tryz.prog.depth 3=eK [3] by kernel_rfl]at hts;cases hts;have h1:0<cs.size:=by rw[hs];decide
 obtain⟨u,hu',hok⟩:=hall 0 cs[0] (by simp[h1]);have:u=3:=by simpa using hu'.symm
 subst this;have hcell:W.cell? ⟨1,0,eL⟩=eK cs[0]:=by simp[World.cell?,hh,h1]
 unfold lY;rw[hcell];unfold Cell.ok at hok;rw[Tryz.underlying3]at hok;cases hv:cs[0]<;>rw[hv]at hok<;>first |(obtain⟨rfl,_⟩:=hok;exact⟨_,rfl⟩)|simp at hok
theorem agR:Tryz.prog.cellsOf 3=1:=by kernel_rfl
theorem agS:Tryz.prog.bytesOf 3=8:=by kernel_rfl
theorem agJ{H:Type}{enc:ju×fa->H}{W:tW}{v:fa}{d:s9 H}{p:List MemPlace}{fuel:Nat}(hf:DataW.trod enc Tryz.prog W 0 (λ_=>fR) fR fuel 40 [v]=eK (d,p)):∃(o:Option Addr) (cap:Nat) (raw:List Int),v=.slice o raw.length cap/\(0<raw.length->∃g off,o=eK ⟨g,off,eL⟩/\∀k (h:k<raw.length),W.cell? ⟨g,off+k,eL⟩=eK (vI raw[k]))/\(∀x∈raw,-9223372036854775808<=x/\x<=9223372036854775807)/\(raw.length=0\/∃el spare,d=.slice el spare/\el.length=raw.length):=by
 rcases open_ints Tryz.underlying40 Tryz.underlying3 agR hf with⟨hcs,hx⟩ |⟨a,len,cap,zs,hcs,_,hl,hm,hz,hx,hcell,hwf⟩
 ·simp only[List.cons.injEq,and_true]at hcs;subst hcs;exact⟨eL,0,[],rfl,(λh=>absurd h (by simp)),(λs hs=>by cases hs),.inl rfl⟩
 ·simp only[List.cons.injEq,and_true]at hcs;subst hcs;simp only[if_true]at hz;obtain⟨b,off,spot⟩:=a;have hlen:(zs.take len).length=len:=by rw[List.length_take];omega
  have hd:=congrArg Prod.fst hx;simp only at hd;refine⟨eK ⟨b,off,spot⟩,cap,zs.take len,by rw[hlen],λh=>?_,λx hx'=>?_,.inr ⟨_,_,hd,?_⟩⟩
  ·rw[hlen]at h;have hspot:spot=eL:=by simpa [Addr.add]using World.cell?_spot (hcell 0 (by omega))
   subst hspot;refine⟨b,off,rfl,λk hk=>?_⟩;rw[hlen]at hk;have hadd:(⟨b,off,eL⟩:Addr).add k=⟨b,off+k,eL⟩:=by unfold Addr.add;split<;>simp_all
   have hc:=hcell k (by omega);rw[hadd]at hc;rw[hc];have hk2:k<zs.length:=by omega
   simp only[List.getElem_take];simp[List.getD,hk2]
  ·have h:=hwf x (List.mem_of_mem_take hx');have hmin:IntKind.i64.min=-9223372036854775808:=by decide
   have hmax:IntKind.i64.max=9223372036854775807:=by decide
   simp[Lit.wf]at h;omega
  ·rw[hlen];simp[Go.ChangeShapes.lits];omega
theorem agL(H:Type)(enc:ju×fa->H)(W:tW)(base:Nat)(args:tAV)(ds gs:List (s9 H))(before:List MemPlace)(agZ:W.ShapedOpen Tryz.prog)(hsz0:(DataW.weightsEach Tryz.prog (Tryz.f4.params.toList++Rows.keptSpec.plain.varTypes Tryz.prog) (ds++gs)).all (·<=Hk)=fR)(hval:∀(j:Nat) t v,Tryz.f4.params[j]?=eK t->args[j]?=eK v->Value.okWide Tryz.prog W .any base t v) (hW:DataW.Whole enc Tryz.prog Tryz.f4.params.toList Rows.keptSpec.vars fj W args.toList ds gs before) (hL:tP Tryz.prog Rows.keptRow.laid W):Calls Tryz.prog 4 args W λe W'=>∃v,e=.returned v/\Rows.keptSpec.post enc Tryz.prog Tryz.f4 fj fR fj fj W args v W':=by
 have hW':=hW;obtain⟨p,q,hA0,hV0,rfl,hfz,hnd⟩:=hW;have hA:=hA0;have hV:DataW.TrodVars enc Tryz.prog W (λ_=>fR) [] gs q:=hV0;have hsz:=hsz0;rw[agE]at hA hval hsz;obtain⟨v0,d0,rfl,rfl,t0⟩:=trodAll_one hA
 obtain⟨rfl,rfl⟩:gs=[]/\q=[]:=by
  cases gs with
  |nil=>exact⟨rfl,hV⟩
  |cons g r=>exact absurd hV (by intro h;cases h)
 have h0k:=t0;obtain⟨a0,n0,c0,hv0⟩:=okWide_slice Tryz.underlying40 (hval 0 40 v0 rfl rfl);obtain⟨fuel,hf⟩:=t0;have hf2:DataW.trod enc Tryz.prog W 0 (λ_=>fR) fR fuel 40 [v0]=eK (d0,p):=by subst hv0;exact hf
 obtain⟨o,cap,raw,rfl,hb,hr,hsh⟩:=agJ hf2
 have hn:raw.length*8<=140737488355328:=by
  rcases hsh with h |⟨el,spare,hd,hl⟩
  ·omega
  ·have:=sized_slice hsz (j:=0) (t:=40) (e:=3) rfl (by rw[hd];rfl) Tryz.underlying40;rw[agS]at this;simp only[Hk]at this;omega
 have hlt:=λx hx=>by simpa using hW'.lt x (by simpa using hx)
 have e1:Rows.keptSpec.fn H ([d0]++[])={results:=[.lit (.bool fR)],args:=[d0]}:=by simp[Rows.keptSpec]
 refine(ac8 W (agI (agD hL)) (agK (agD hL)) (agU agZ) o cap raw hr (by omega) hb).mono λe W' ⟨he,m⟩=>?_;subst he;refine⟨_,rfl,_,_,_,[],p,[],hW',?_,?_,?_,?_,λh=>by cases h⟩
 ·rw[e1];exact trodAll_mk1 (shut_bool Tryz.underlying4 fR)
 ·rw[e1];exact trodAll_mk1 (Below.trod agG (by kernel_rfl) (of_decide_eq_true (by kernel_rfl)) h0k m.below hlt)
 ·rw[e1];rfl
 ·exact m.below.frame _
theorem agH(os:Os)(started:os.Started)(H:Type)(enc:ju×fa->H):ReturnsInHanded {} Tryz.checked os 4 .any (λw args=>(Rows.keptSpec.pre enc Tryz.prog Tryz.f4 [] fj w args/\tP Tryz.prog Rows.keptRow.laid w)/\sizedMet enc Tryz.prog Tryz.f4 (OpenSpec.ofChange Rows.keptSpec) fj w args) (Rows.keptSpec.post enc Tryz.prog Tryz.f4 fj fR fj fj):=by
 refine returnsInHanded_of_calls (C:=Tryz.checked) agV started (by kernel_rfl) ?_ ?_
 ·exact ChangeSpec.witness_at (enc:=enc) (C:=Tryz.checked) (os:=os) (X:=λw _=>tP Tryz.prog Rows.keptRow.laid w) fj (agC Tryz.prog os) #[vN] 8 rfl (by kernel_rfl) (by kernel_rfl) (by kernel_rfl) (by kernel_rfl) (by kernel_rfl) (agF os _)
 intro w tape i _ hsh _ hok hpre _;obtain⟨_,_,_,fn',hfn',_,_,_,_,hval⟩:=hok;obtain rfl:fn'=Tryz.f4:=Option.some.inj (hfn'.symm.trans Tryz.func4);obtain⟨⟨⟨ds,gs,before,hw,_⟩,hx⟩,hz⟩:=hpre;have hw':=DataW.Whole.of_heap (w':=w.forCall tape i) (by rfl) hw;refine(agL H enc (w.forCall tape i) w.heap.size i.args ds gs before hsh (hz.weights hw) hval hw' (hx.of_heap (by rfl))).mono λe W' ⟨v,he,hp⟩=>?_;subst he;exact ChangeSpec.post_blind hp
