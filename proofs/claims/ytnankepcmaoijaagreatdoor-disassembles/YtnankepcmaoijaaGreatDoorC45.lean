/- The row's step out of the walk. -/
import Derived.Test.YtnankepcmaoijaaGreatDoorC44
import Derived.Test.YtnankepcmaoijaaGreatDoorRows
import Derived.WalkKit
import Derived.ProofKit
import Derived.OpenShut
import Derived.ChangeMaps5
import Derived.LaidHandle
import Derived.Lib.LaidU8
import Derived.Lib.LaidTab
namespace Go.Proofs.YtnankepcmaoijaaGreatDoor
open Go.ChangeMaps Go Go.ChangeShapes Go.WideShapes Go.ChangeAt Go.RowKit

theorem own' : ownKnob Tryz.prog.godebug = none := by kernel_rfl
theorem lawParams : Tryz.f3.params = #[9] := by kernel_rfl

theorem laid_plain {W : World} (hL : laidMetH Tryz.prog Rows.disassemblesRow.laid W) : laidMet Tryz.prog Rows.disassemblesRow.laid W := by
  have hf : (Rows.disassemblesRow.laid.filter fun x => x.2.handleName?.isSome) = [] := by rfl
  unfold laidMetH at hL
  rw [hf] at hL
  exact hL
theorem env_laid {W : World} (hL : laidMet Tryz.prog Rows.disassemblesRow.laid W) : Env W := by
  obtain ⟨g, t, cs, fuel, p, hg', ht', hvar, hd⟩ := Lib.laidMet.reads hL (n := "internal/strconv.uint64pow10") (d := Rows.laid_internal_strconv_uint64pow10) (by simp [Rows.disassemblesRow])
  obtain rfl := Option.some.inj ((show Tryz.prog.globalNamed "internal/strconv.uint64pow10" = some 1 by kernel_rfl).symm.trans hg')
  obtain rfl := Option.some.inj ((show (Tryz.prog.globals[1]?).map (·.type) = some 254 by kernel_rfl).symm.trans ht')
  have hd2 : DataW.trod (fun _ => ()) Tryz.prog W 0 (fun _ => true) false fuel 254 cs.toList = some (Lib.tabData .u64 Lib.pow10Tab, p) := hd
  unfold Env Lib.TabIs
  rw [hvar, ← Lib.cells_of_tab Tryz.underlying254 Tryz.underlying52 (by kernel_rfl) (by kernel_rfl) hd2]
theorem envW_laid {W : World} (hL : laidMet Tryz.prog Rows.disassemblesRow.laid W) : EnvW W := by
  obtain ⟨g, t, cs, fuel, p, hg', ht', hvar, hd⟩ := Lib.laidMet.reads hL (n := "spool/ops.sizeWords") (d := Rows.laid_spool_ops_sizeWords) (by simp [Rows.disassemblesRow])
  have hg : Tryz.prog.globalNamed "spool/ops.sizeWords" = some 0 := by kernel_rfl
  obtain rfl := Option.some.inj (hg.symm.trans hg')
  obtain rfl := Option.some.inj ((show (Tryz.prog.globals[0]?).map (·.type) = some 149 by kernel_rfl).symm.trans ht')
  have hc1 : Tryz.prog.cellsOf 9 = 1 := by kernel_rfl
  have key : ∀ i, i < 4 → ∀ b : List UInt8, ([DataW.lit (.string [49]), .lit (.string [50]), .lit (.string [52]), .lit (.string [56])] : List (DataW Unit))[i]? = some (.lit (.string b)) → W.cell? ⟨0, i, none⟩ = some (.string (T b)) := fun i hi b hb => by
    obtain ⟨fuel', d, q, hds, hf⟩ := Lib.array_elem Tryz.underlying149 hd i hi
    rw [hb] at hds
    cases hds
    rw [hc1, Nat.mul_one] at hf
    obtain ⟨s', h, hx, hs⟩ := DataW.trod_string Tryz.underlying9 hf
    have h1 : cs[i]? = some (.string s') := by
      have h2 := congrArg (fun l => l[0]?) h
      simpa using h2
    have h3 : T b = s' := by
      have : b = s'.data.toList := by
        have h4 := congrArg Prod.fst hx
        simpa using h4
      rw [this]
      apply ByteArray.ext
      simp [T]
    rw [h3, ← h1]
    simpa using World.var?_cell hg hvar i
  exact ⟨key 0 (by omega) _ rfl, key 1 (by omega) _ rfl, key 2 (by omega) _ rfl, key 3 (by omega) _ rfl⟩

def lit1 : DataW Unit → List Value
  | .lit (.int k z) => [.int k z]
  | .lit (.string b) => [.string ⟨b.toArray⟩]
  | _ => []
def lit2 : DataW Unit → List Value
  | .agg l => l.flatMap lit1
  | d => lit1 d
def lit3 : DataW Unit → List Value
  | .agg l => l.flatMap lit2
  | d => lit2 d
/-- A world that meets the condition: the settled one, the listed variables' cells laid. -/
def laidWorldAt (P : Program) (os : Os) : World :=
  let w0 := World.holding P os ⟨#[], #[], []⟩
  { w0 with heap := Rows.disassemblesRow.laid.foldl (fun h x => h.modify ((P.globalNamed x.1).getD 0) fun
      | .cells _ t fr => .cells (lit3 x.2).toArray t fr
      | o => o) w0.heap }
set_option maxRecDepth 100000 in
theorem laidWorld_met (os : Os) (args : Array Value) : laidMetH Tryz.prog Rows.disassemblesRow.laid ((laidWorldAt Tryz.prog os).forCall (fun _ _ => 0) ⟨#[], args, []⟩).memory :=
  laidMetH_of_parts (laidMet_of_run' 8 (by kernel_rfl) (by kernel_rfl)) (by kernel_rfl)

set_option maxRecDepth 100000 in
theorem law_lifted (os : Os) (started : os.Started) (H : Type) (enc : TypeId × Value → H) :
    ReturnsInHanded {} Tryz.checked os 3 .any (fun w args => (Rows.disassemblesSpec.pre enc Tryz.prog Tryz.f3 [] false w args ∧ laidMetH Tryz.prog Rows.disassemblesRow.laid w) ∧ sizedMet enc Tryz.prog Tryz.f3 (OpenSpec.ofChange Rows.disassemblesSpec) false w args)
      (Rows.disassemblesSpec.post enc Tryz.prog Tryz.f3 false true false false) := by
  refine returnsInHanded_of_change_and (C := Tryz.checked) (X := fun w _ => laidMetH Tryz.prog Rows.disassemblesRow.laid w) (fun _ _ _ hh h => h.of_heap hh) own' started (by kernel_rfl) Tryz.func3 ?_ ?_
  · exact ChangeSpec.witness_at (enc := enc) (C := Tryz.checked) (os := os) (X := fun w _ => laidMetH Tryz.prog Rows.disassemblesRow.laid w) false (laidWorldAt Tryz.prog os) #[.string ⟨#[]⟩] 8 rfl (by kernel_rfl) (by kernel_rfl) (by kernel_rfl) (by kernel_rfl) (by kernel_rfl) (laidWorld_met os _)
  intro W base args ds gs before hval0 hW _ _ hL _
  have hval : ∀ (j : Nat) t v, Tryz.f3.params[j]? = some t → args[j]? = some v → Value.okWide Tryz.prog W .any base t v := hval0
  have hW' := hW
  obtain ⟨p, q, hA0, hV0, rfl, hfz, hnd⟩ := hW
  have hA : DataW.TrodAll enc Tryz.prog W 0 (fun _ => true) true Tryz.f3.params.toList args.toList ds p := hA0
  have hV : DataW.TrodVars enc Tryz.prog W (fun _ => true) [] gs q := hV0
  rw [lawParams] at hA hval
  obtain ⟨v0, d0, rfl, rfl, h0⟩ := trodAll_one hA
  obtain ⟨s, rfl, rfl, rfl, ws⟩ := open_string Tryz.underlying9 (hval 0 9 v0 rfl rfl) h0
  obtain ⟨rfl, rfl⟩ : gs = [] ∧ q = [] := by
    cases gs with
    | nil => exact ⟨rfl, hV⟩
    | cons g r => exact absurd hV (by intro h; cases h)
  have e1 : Rows.disassemblesSpec.fn H ([.lit (.string s.data.toList)] ++ []) = { results := [.lit (.bool true)], args := [.lit (.string s.data.toList)] } := by simp [Rows.disassemblesSpec]
  have hE : Env W := env_laid (laid_plain hL)
  have hEW : EnvW W := envW_laid (laid_plain hL)
  refine (zlaw_any W hE hEW s ws).mono fun e W' ⟨he, m⟩ => ?_
  subst he
  refine ⟨_, rfl, _, _, _, [], [], [], hW', ?_, ?_, ?_, ?_, fun h => by cases h⟩
  · rw [e1]; exact trodAll_mk1 (shut_bool Tryz.underlying4 true)
  · rw [e1]; exact trodAll_mk1 (shut_string Tryz.underlying9 ws)
  · rw [e1]; rfl
  · exact m.below.frame _
end Go.Proofs.YtnankepcmaoijaaGreatDoor
