/- The row's step out of the walk of the law Links. -/
import Derived.Test.YtoknbkfclhmapaaGreatDoorC57
import Derived.Test.YtoknbkfclhmapaaGreatDoorRows
import Derived.WalkKit
import Derived.ProofKit
import Derived.OpenShut
import Derived.ChangeMaps5
import Derived.LaidHandle
import Derived.Lib.LaidU8
import Derived.Lib.LaidTab
import Derived.SliceStrings
import Derived.SizedLaws
import Derived.Carry
namespace Go.Proofs.YtoknbkfclhmapaaGreatDoor
open Go.ChangeMaps Go Go.ChangeShapes Go.WideShapes Go.ChangeAt Go.RowKit

theorem lown : ownKnob Tryz.prog.godebug = none := by kernel_rfl
theorem llaidOut : laidOutB Tryz.prog = true := by kernel_rfl
theorem llawParams : Tryz.f3.params = #[22] := by kernel_rfl
theorem lcells : Tryz.prog.cellsOf 9 = 1 := by kernel_rfl
theorem lbytes : Tryz.prog.bytesOf 9 = 16 := by kernel_rfl

theorem llaid_plain {W : World} (hL : laidMetH Tryz.prog Rows.linksRow.laid W) : laidMet Tryz.prog Rows.linksRow.laid W := by
  have hf : (Rows.linksRow.laid.filter fun x => x.2.handleName?.isSome) = [] := by rfl
  unfold laidMetH at hL
  rw [hf] at hL
  exact hL
theorem lenvW_laid {W : World} (hL : laidMet Tryz.prog Rows.linksRow.laid W) : EnvW W := by
  obtain ⟨g, t, cs, fuel, p, hg', ht', hvar, hd⟩ := Lib.laidMet.reads hL (n := "spool/ops.sizeWords") (d := Rows.laid_spool_ops_sizeWords) (by simp [Rows.linksRow])
  have hg : Tryz.prog.globalNamed "spool/ops.sizeWords" = some 0 := by kernel_rfl
  obtain rfl := Option.some.inj (hg.symm.trans hg')
  obtain rfl := Option.some.inj ((show (Tryz.prog.globals[0]?).map (·.type) = some 165 by kernel_rfl).symm.trans ht')
  have hc1 : Tryz.prog.cellsOf 9 = 1 := by kernel_rfl
  have key : ∀ i, i < 4 → ∀ b : List UInt8, ([DataW.lit (.string [49]), .lit (.string [50]), .lit (.string [52]), .lit (.string [56])] : List (DataW Unit))[i]? = some (.lit (.string b)) → W.cell? ⟨0, i, none⟩ = some (.string (T b)) := fun i hi b hb => by
    obtain ⟨fuel', d, q, hds, hf⟩ := Lib.array_elem Tryz.underlying165 hd i hi
    rw [hb] at hds
    cases hds
    rw [hc1, Nat.mul_one] at hf
    obtain ⟨s', h, hx, hs⟩ := DataW.trod_string Tryz.underlying9 hf
    have h1 : cs[i]? = some (.string s') := by
      have h2 := congrArg (fun l => l[0]?) h
      simpa using h2
    have h3 : T b = s' := by
      have : b = s'.data.toList := by
        have h4 := congrArg Prod.fst hx
        simpa using h4
      rw [this]
      apply ByteArray.ext
      simp [T]
    rw [h3, ← h1]
    simpa using World.var?_cell hg hvar i
  exact ⟨key 0 (by omega) _ rfl, key 1 (by omega) _ rfl, key 2 (by omega) _ rfl, key 3 (by omega) _ rfl⟩

def llit1 : DataW Unit → List Value
  | .lit (.int k z) => [.int k z]
  | .lit (.string b) => [.string ⟨b.toArray⟩]
  | _ => []
def llit2 : DataW Unit → List Value
  | .agg l => l.flatMap llit1
  | d => llit1 d
def llit3 : DataW Unit → List Value
  | .agg l => l.flatMap llit2
  | d => llit2 d
/-- A world that meets the condition: the settled one, the listed variables' cells laid. -/
def llaidWorldAt (P : Program) (os : Os) : World :=
  let w0 := World.holding P os ⟨#[], #[], []⟩
  { w0 with heap := Rows.linksRow.laid.foldl (fun h x => h.modify ((P.globalNamed x.1).getD 0) fun
      | .cells _ t fr => .cells (llit3 x.2).toArray t fr
      | o => o) w0.heap }
set_option maxRecDepth 100000 in
theorem llaidWorld_met (os : Os) (args : Array Value) : laidMetH Tryz.prog Rows.linksRow.laid ((llaidWorldAt Tryz.prog os).forCall (fun _ _ => 0) ⟨#[], args, []⟩).memory :=
  laidMetH_of_parts (laidMet_of_run' 8 (by kernel_rfl) (by kernel_rfl)) (by kernel_rfl)

/-- The list of objects, as the walk wants it. -/
theorem open_list {H : Type} {enc : TypeId × Value → H} {W : World} {v : Value} {d : DataW H} {p : List MemPlace} {fuel : Nat} (hf : DataW.trod enc Tryz.prog W 0 (fun _ => true) true fuel 22 [v] = some (d, p)) :
    ∃ (o : Option Addr) (cap : Nat) (objs : List (List UInt8)), v = .slice o objs.length cap ∧ (0 < objs.length → ∃ g off, o = some ⟨g, off, none⟩ ∧ ∀ k (h : k < objs.length), W.cell? ⟨g, off + k, none⟩ = some (.string (T objs[k]))) ∧ (∀ s ∈ objs, s.length ≤ maxLen) ∧ (objs.length = 0 ∨ ∃ el spare, d = .slice el spare ∧ el.length = objs.length) := by
  rcases open_strings Tryz.underlying22 Tryz.underlying9 lcells hf with ⟨hcs, hx⟩ | ⟨a, len, cap, ss, hcs, _, hl, hm, hz, hx, hcell, hsz⟩
  · simp only [List.cons.injEq, and_true] at hcs
    subst hcs
    exact ⟨none, 0, [], rfl, (fun h => absurd h (by simp)), (fun s hs => by cases hs), .inl rfl⟩
  · simp only [List.cons.injEq, and_true] at hcs
    subst hcs
    simp only [if_true] at hz
    obtain ⟨b, off, spot⟩ := a
    have hle : len ≤ ss.length := by omega
    have hlen : ((ss.take len).map (fun s => s.data.toList)).length = len := by rw [List.length_map, List.length_take]; omega
    have hd := congrArg Prod.fst hx
    simp only at hd
    refine ⟨some ⟨b, off, spot⟩, cap, (ss.take len).map (fun s => s.data.toList), by rw [hlen], fun h => ?_, fun s hs => ?_, .inr ⟨_, _, hd, ?_⟩⟩
    · rw [hlen] at h
      have hspot : spot = none := by simpa [Addr.add] using World.cell?_spot (hcell 0 (by omega))
      subst hspot
      refine ⟨b, off, rfl, fun k hk => ?_⟩
      rw [hlen] at hk
      have hadd : (⟨b, off, none⟩ : Addr).add k = ⟨b, off + k, none⟩ := by unfold Addr.add; split <;> simp_all
      have hc := hcell k (by omega)
      rw [hadd] at hc
      rw [hc]
      have hk2 : k < ss.length := by omega
      simp only [List.getElem_map, List.getElem_take]
      congr 2
      apply ByteArray.ext
      simp [T, List.getD, hk2]
    · obtain ⟨x, hx1, rfl⟩ := List.mem_map.1 hs
      have := hsz x (List.mem_of_mem_take hx1)
      rw [Array.length_toList]
      exact this
    · rw [hlen]; simp [Go.ChangeShapes.strs]; omega

set_option maxRecDepth 100000 in
theorem llaw_lifted (os : Os) (started : os.Started) (H : Type) (enc : TypeId × Value → H) :
    ReturnsInHanded {} Tryz.checked os 3 .any (fun w args => (Rows.linksSpec.pre enc Tryz.prog Tryz.f3 [] false w args ∧ laidMetH Tryz.prog Rows.linksRow.laid w) ∧ sizedMet enc Tryz.prog Tryz.f3 (OpenSpec.ofChange Rows.linksSpec) false w args)
      (Rows.linksSpec.post enc Tryz.prog Tryz.f3 false true false false) := by
  refine returnsInHanded_of_change_and (C := Tryz.checked) (X := fun w _ => laidMetH Tryz.prog Rows.linksRow.laid w) (fun _ _ _ hh h => h.of_heap hh) lown started (by kernel_rfl) Tryz.func3 ?_ ?_
  · exact ChangeSpec.witness_at (enc := enc) (C := Tryz.checked) (os := os) (X := fun w _ => laidMetH Tryz.prog Rows.linksRow.laid w) false (llaidWorldAt Tryz.prog os) #[.slice none 0 0] 8 rfl (by kernel_rfl) (by kernel_rfl) (by kernel_rfl) (by kernel_rfl) (by kernel_rfl) (llaidWorld_met os _)
  intro W base args ds gs before hval0 hW _ hsz0 hL _
  have hval : ∀ (j : Nat) t v, Tryz.f3.params[j]? = some t → args[j]? = some v → Value.okWide Tryz.prog W .any base t v := hval0
  have hsz : (DataW.weightsEach Tryz.prog (Tryz.f3.params.toList ++ Rows.linksSpec.plain.varTypes Tryz.prog) (ds ++ gs)).all (· ≤ reachBytes) = true := hsz0
  have hW' := hW
  obtain ⟨p, q, hA0, hV0, rfl, hfz, hnd⟩ := hW
  have hA : DataW.TrodAll enc Tryz.prog W 0 (fun _ => true) true Tryz.f3.params.toList args.toList ds p := hA0
  have hV : DataW.TrodVars enc Tryz.prog W (fun _ => true) [] gs q := hV0
  rw [llawParams] at hA hval hsz
  obtain ⟨v0, d0, rfl, rfl, h0⟩ := trodAll_one hA
  obtain ⟨rfl, rfl⟩ : gs = [] ∧ q = [] := by
    cases gs with
    | nil => exact ⟨rfl, hV⟩
    | cons g r => exact absurd hV (by intro h; cases h)
  have h0k := h0
  obtain ⟨a0, n0, c0, hv0⟩ := okWide_slice Tryz.underlying22 (hval 0 22 v0 rfl rfl)
  obtain ⟨fuel, hf⟩ := h0
  have hf2 : DataW.trod enc Tryz.prog W 0 (fun _ => true) true fuel 22 [v0] = some (d0, p) := by
    subst hv0; exact hf
  obtain ⟨o, cap, objs, rfl, hb, hs, hsh⟩ := open_list hf2
  have hn : objs.length * 16 ≤ 140737488355328 := by
    rcases hsh with h | ⟨el, spare, hd, hl⟩
    · omega
    · have := sized_slice hsz (j := 0) (t := 22) (e := 9) rfl (by rw [hd]; rfl) Tryz.underlying22
      rw [lbytes] at this
      simp only [reachBytes] at this
      omega
  have hlt : ∀ x ∈ p, x.block < W.heap.size := fun x hx => by simpa using hW'.lt x (by simpa using hx)
  have e1 : Rows.linksSpec.fn H ([d0] ++ []) = { results := [.lit (.bool true)], args := [d0] } := by simp [Rows.linksSpec]
  have hEW : EnvW W := lenvW_laid (llaid_plain hL)
  refine (links_any W hEW o cap objs hb hn hs).mono fun e W' ⟨he, m⟩ => ?_
  subst he
  refine ⟨_, rfl, _, _, _, [], p, [], hW', ?_, ?_, ?_, ?_, fun h => by cases h⟩
  · rw [e1]; exact trodAll_mk1 (shut_bool Tryz.underlying4 true)
  · rw [e1]; exact trodAll_mk1 (Below.trod llaidOut (by kernel_rfl) (of_decide_eq_true (by kernel_rfl)) h0k m.below hlt)
  · rw [e1]; rfl
  · exact m.below.frame _
end Go.Proofs.YtoknbkfclhmapaaGreatDoor
