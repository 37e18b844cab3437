/- A program in memory, in the document's answer; its references. -/
import Derived.Test.YtnankepcmaoijaaGreatDoorC03
import Derived.Test.YtnankepcmaoijaaGreatDoorC16
import Derived.Test.YtnankepcmaoijaaGreatDoorC18
import Derived.BigQuiet
import Derived.Deep.LoopGhost
import Derived.Deep.DeepCutAuto
namespace Go.Proofs.YtnankepcmaoijaaGreatDoor
open Go.RowKit

/-- The four lists of a function, as values. -/
structure HFn where
  vL : Value
  vA : Value
  vB : Value
  vP : Value
def HFn.nil : HFn := ⟨.slice none 0 0, .slice none 0 0, .slice none 0 0, .slice none 0 0⟩
def rowC (x : RFn × HFn) : List Value := [.string x.1.name, x.2.vL, x.2.vA, .int .i64 x.1.slots, x.2.vB, x.2.vP, .int .i64 0, .slice none 0 0]
theorem rowC_len (x : RFn × HFn) : (rowC x).length = 8 := rfl

structure FH (w : World) (h : HFn) (o : FOut) (lo hi : Nat) : Prop where
  sl : Sl w 57 8 h.vL o.ls.length (insL o.ls)
  sa : Sl w 3 1 h.vA o.ats.length (intL o.ats)
  sb : Sl w 9 1 h.vB o.lab.length (strL (o.lab.map (·.1)))
  sp : Sl w 3 1 h.vP o.lab.length (intL (o.lab.map (·.2)))
  il : ∀ k, h.vL.ownBlock = some k → lo ≤ k ∧ k < hi
  ia : ∀ k, h.vA.ownBlock = some k → lo ≤ k ∧ k < hi
  ib : ∀ k, h.vB.ownBlock = some k → lo ≤ k ∧ k < hi
  ip : ∀ k, h.vP.ownBlock = some k → lo ≤ k ∧ k < hi
  dl : ∀ k, h.vL.ownBlock = some k → h.vA.ownBlock ≠ some k ∧ h.vB.ownBlock ≠ some k ∧ h.vP.ownBlock ≠ some k
  da : ∀ k, h.vA.ownBlock = some k → h.vB.ownBlock ≠ some k ∧ h.vP.ownBlock ≠ some k
  db : ∀ k, h.vB.ownBlock = some k → h.vP.ownBlock ≠ some k

theorem FH.mods {w w' : World} {h : HFn} {o : FOut} {lo hi : Nat} {S : Nat → Prop} (f : FH w h o lo hi) (m : Mods S w w') (hS : ∀ k, lo ≤ k → k < hi → ¬ S k) : FH w' h o lo hi :=
  ⟨f.sl.mods m (fun k hk => hS k (f.il k hk).1 (f.il k hk).2), f.sa.mods m (fun k hk => hS k (f.ia k hk).1 (f.ia k hk).2), f.sb.mods m (fun k hk => hS k (f.ib k hk).1 (f.ib k hk).2), f.sp.mods m (fun k hk => hS k (f.ip k hk).1 (f.ip k hk).2), f.il, f.ia, f.ib, f.ip, f.dl, f.da, f.db⟩

/-- A program in memory: of its functions the first ones are read. -/
structure PInv (w : World) (pb rb : Nat) (vM vF : Value) (ms : List RMap) (fs : List (RFn × HFn)) (os : List FOut) (bd : Nat → Nat) : Prop where
  prog : Blk w pb #[vM, vF] 39
  maps : Sl w 42 4 vM ms.length (ms.flatMap RMap.cells)
  rows : Sl w 47 8 vF fs.length (fs.flatMap rowC)
  hp : pb < bd 0
  hr : rb < bd 0
  hm : ∀ k, vM.ownBlock = some k → k < bd 0
  hf : ∀ k, vF.ownBlock = some k → k < bd 0
  pr : pb ≠ rb
  mp : vM.ownBlock ≠ some pb
  mr : vM.ownBlock ≠ some rb
  fp : vF.ownBlock ≠ some pb
  fr : vF.ownBlock ≠ some rb
  mf : ∀ k, vM.ownBlock = some k → vF.ownBlock ≠ some k
  mono : ∀ i, i < os.length → bd i ≤ bd (i + 1)
  top : bd os.length ≤ w.heap.size
  each : ∀ i (h : i < os.length) (h' : i < fs.length), FH w fs[i].2 os[i] (bd i) (bd (i + 1))

section
variable {w w' : World} {pb rb : Nat} {vM vF : Value} {ms : List RMap} {fs : List (RFn × HFn)} {os : List FOut} {bd : Nat → Nat}

theorem PInv.le (h : PInv w pb rb vM vF ms fs os bd) : ∀ i, i ≤ os.length → bd 0 ≤ bd i
  | 0, _ => Nat.le_refl _
  | i + 1, hi => Nat.le_trans (h.le i (by omega)) (h.mono i (by omega))
theorem PInv.le' (h : PInv w pb rb vM vF ms fs os bd) (i : Nat) : ∀ j, i ≤ j → j ≤ os.length → bd i ≤ bd j := by
  intro j hij
  induction j with
  | zero => intro _; obtain rfl : i = 0 := by omega
            exact Nat.le_refl _
  | succ j ih =>
    intro hj
    rcases Nat.lt_or_ge i (j + 1) with h1 | h1
    · exact Nat.le_trans (ih (by omega) (by omega)) (h.mono j (by omega))
    · obtain rfl : i = j + 1 := by omega
      exact Nat.le_refl _

/-- What turns but the reader, and what is new. -/
theorem PInv.read (h : PInv w pb rb vM vF ms fs os bd) (m : Mods (Only rb) w w') : PInv w' pb rb vM vF ms fs os bd := by
  refine ⟨h.prog.mods m h.pr, h.maps.mods m (fun k hk e => h.mr (by rw [← show k = rb from e]; exact hk)), h.rows.mods m (fun k hk e => h.fr (by rw [← show k = rb from e]; exact hk)), h.hp, h.hr, h.hm, h.hf, h.pr, h.mp, h.mr, h.fp, h.fr, h.mf, h.mono, Nat.le_trans h.top m.size, fun i hi hi' => (h.each i hi hi').mods m (fun k hk _ e => ?_)⟩
  have := h.le i (by omega)
  have := h.hr
  rw [show k = rb from e] at hk; omega
theorem PInv.quiet (h : PInv w pb rb vM vF ms fs os bd) (m : Mods Nil' w w') : PInv w' pb rb vM vF ms fs os bd := h.read m.of_nil

theorem insL_setN (ls : List RIns) (k : Nat) (hk : k < ls.length) (x : ByteArray) : (insL ls).set (k * 8 + 7) (.string x) = insL (ls.set k { ls[k] with name := x }) := by
  induction ls generalizing k with
  | nil => simp at hk
  | cons i ls ih =>
    cases k with
    | zero => simp [insL, RIns.cellsL, RIns.cells]
    | succ k =>
      have hk' : k < ls.length := by simpa using hk
      have := ih k hk'
      simp only [insL, List.flatMap_cons, List.set_cons_succ, List.getElem_cons_succ] at this ⊢
      rw [List.set_append_right _ _ (by rw [RIns.cellsL_len]; omega), RIns.cellsL_len, show (k + 1) * 8 + 7 - 8 = k * 8 + 7 by omega, this]

/-- An instruction of function i gets its name. -/
theorem PInv.name (h : PInv w pb rb vM vF ms fs os bd) (i : Nat) (hi : i < os.length) (hi' : i < fs.length) (k : Nat) (hk : k < os[i].ls.length) (gL cL : Nat) (hv : fs[i].2.vL = .slice (some ⟨gL, 0, none⟩) os[i].ls.length cL) (x : ByteArray) :
    PInv (w.setCell ⟨gL, k * 8 + 7, none⟩ (.string x)) pb rb vM vF ms fs (os.set i { os[i] with ls := os[i].ls.set k { os[i].ls[k] with name := x } }) bd ∧ Mods (Only gL) w (w.setCell ⟨gL, k * 8 + 7, none⟩ (.string x)) ∧ bd 0 ≤ gL := by
  have hms : Mods (Only gL) w (w.setCell ⟨gL, k * 8 + 7, none⟩ (.string x)) := (Mods.refl (Only gL) w).setb _ _
  have F := h.each i hi hi'
  have hin := F.il gL (by rw [hv]; rfl)
  have h0 := h.le i (by omega)
  have hgp : gL ≠ pb := by have := h.hp; omega
  refine ⟨⟨h.prog.mods hms (fun e => hgp e.symm), h.maps.mods hms (fun j hj e => by have := h.hm j hj; rw [show j = gL from e] at this; omega), h.rows.mods hms (fun j hj e => by have := h.hf j hj; rw [show j = gL from e] at this; omega), h.hp, h.hr, h.hm, h.hf, h.pr, h.mp, h.mr, h.fp, h.fr, h.mf, ?_, ?_, ?_⟩, hms, by omega⟩
  · intro j hj; exact h.mono j (by simpa using hj)
  · simpa [World.setCell] using h.top
  · intro j hj hj'
    have hjl : j < os.length := by simpa using hj
    by_cases e : j = i
    · subst e
      simp only [List.getElem_set_self]
      have hsl := F.sl
      rw [hv] at hsl
      have hset := hsl.setAt (k * 8 + 7) (.string x) (by omega)
      rw [insL_setN _ k hk] at hset
      have hnl : ∀ u, fs[j].2.vL.ownBlock = some u → u = gL := by
        intro u hu; rw [hv] at hu; simpa [Value.ownBlock] using hu.symm
      refine ⟨?_, F.sa.mods hms (fun u hu e => (F.dl gL (by rw [hv]; rfl)).1 (by rw [← show u = gL from e]; exact hu)), F.sb.mods hms (fun u hu e => (F.dl gL (by rw [hv]; rfl)).2.1 (by rw [← show u = gL from e]; exact hu)), F.sp.mods hms (fun u hu e => (F.dl gL (by rw [hv]; rfl)).2.2 (by rw [← show u = gL from e]; exact hu)), F.il, F.ia, F.ib, F.ip, F.dl, F.da, F.db⟩
      show Sl _ _ _ _ _ _
      rw [hv, List.length_set]
      exact hset
    · simp only [List.getElem_set_ne (Ne.symm e)]
      refine (h.each j hjl hj').mods hms (fun u h1 h2 e2 => ?_)
      rw [show u = gL from e2] at h1 h2
      rcases Nat.lt_or_ge j i with hji | hji
      · have := h.le' (j + 1) i (by omega) (by omega); omega
      · have := h.le' (i + 1) j (by omega) (by omega); omega
end

/-- The references of one function's instructions. -/
def refI (s : ByteArray) (ms : List RMap) (i : Nat) : List RIns → List (RIns × Int) → Nat → RS → Option (List RIns × Nat × RS)
  | done, [], c, r => some (done, c, r)
  | done, (x, a) :: rest, c, r =>
    if x.name = T [63] then
      (if (rnm s (rw2 s (rb s r).2).2).2.bad = true ∨ ((rb s r).1 : Int) ≠ i ∨ ((rw2 s (rb s r).2).1 : Int) ≠ a then none
      else if x.word = WIDE ∧ placeM (rnm s (rw2 s (rb s r).2).2).1 (ms.map (·.name)) < 0 then none
      else refI s ms i (done ++ [{ x with name := (rnm s (rw2 s (rb s r).2).2).1 }]) rest (c + 1) (rnm s (rw2 s (rb s r).2).2).2)
    else refI s ms i (done ++ [x]) rest c r

def refF (s : ByteArray) (ms : List RMap) : List FOut → List FOut → Nat → RS → Option (List FOut × Nat × RS)
  | done, [], c, r => some (done, c, r)
  | done, o :: rest, c, r => match refI s ms done.length [] (o.ls.zip o.ats) c r with
    | none => none
    | some (ls, c', r') => refF s ms (done ++ [{ o with ls := ls }]) rest c' r'

def refsM (s : ByteArray) (ms : List RMap) (os : List FOut) (r : RS) : Option (List FOut × RS) :=
  match refF s ms [] os 0 (rw2 s r).2 with
  | none => none
  | some (os', c, r') => if c = (rw2 s r).1 then some (os', r') else none
end Go.Proofs.YtnankepcmaoijaaGreatDoor

/- Contract: the references of an object, in the document's answer. -/
namespace Go.Proofs.YtnankepcmaoijaaGreatDoor
open Go.RowKit

theorem rw2_pos (s : ByteArray) (r : RS) (h : r.pos ≤ s.size) : (rw2 s r).2.pos ≤ s.size := rb_pos s _ (rb_pos s r h)
theorem rnm_pos (s : ByteArray) (r : RS) (h : r.pos ≤ s.size) : (rnm s r).2.pos ≤ s.size := by
  have h1 := rb_pos s r h
  unfold rnm
  dsimp only
  split
  · exact h1
  · rename_i hc
    simp at hc
    show (rb s r).2.pos + (rb s r).1 ≤ s.size
    omega

theorem Sl.atR {w : World} {v : Value} {n : Nat} {fs : List (RFn × HFn)} {o : Option Addr} {cap : Nat} (h : Sl w 47 8 v n (fs.flatMap rowC)) (hn : n = fs.length) (hv : v = .slice o n cap) :
    ∀ k (_ : k < fs.length), ∃ g, o = some ⟨g, 0, none⟩ ∧ ∀ j (hj : j < fs.length), ∀ c, c < 8 → w.cell? ⟨g, j * 8 + c, none⟩ = (rowC fs[j])[c]? := by
  intro k hk
  obtain ⟨o', cap', rfl, h2⟩ := h.view
  cases hv
  obtain ⟨g, cs, rfl, hb, ht, _⟩ := h2 (by omega)
  subst hn
  refine ⟨g, rfl, fun j hj c hc => ?_⟩
  rw [take_cell hb ht _ (by omega)]
  exact flat_get rowC 8 rowC_len fs j c hj hc

/-- The cells of one function's row, of one of its instructions, of where it begins. -/
structure RowAt (g i : Nat) (vL vA : Value) (w : World) : Prop where
  c1 : w.cell? ⟨g, i * 8 + 1, none⟩ = some vL
  c2 : w.cell? ⟨g, i * 8 + 2, none⟩ = some vA

theorem PInv.row {w : World} {pb rb gF cF nF : Nat} {vM : Value} {ms : List RMap} {fs : List (RFn × HFn)} {os : List FOut} {bd : Nat → Nat} (h : PInv w pb rb vM (.slice (some ⟨gF, 0, none⟩) nF cF) ms fs os bd) (hn : nF = fs.length) (i : Nat) (hi : i < fs.length) {f : RFn} {vL vA vB vP : Value} (hf : fs[i] = (f, ⟨vL, vA, vB, vP⟩)) :
    RowAt gF i vL vA w := by
  subst hn
  obtain ⟨g, hg, hc⟩ := h.rows.atR rfl rfl i hi
  cases hg
  have h1 := hc i hi 1 (by omega)
  have h2 := hc i hi 2 (by omega)
  rw [hf] at h1 h2
  exact ⟨h1, h2⟩

theorem PInv.fh {w : World} {pb rb : Nat} {vM vF : Value} {ms : List RMap} {fs : List (RFn × HFn)} {done rest : List FOut} {o : FOut} {bd : Nat → Nat} (h : PInv w pb rb vM vF ms fs (done ++ o :: rest) bd) (hi : done.length < fs.length) {f : RFn} {hh : HFn} (hf : fs[done.length] = (f, hh)) :
    FH w hh o (bd done.length) (bd (done.length + 1)) := by
  have := h.each done.length (by simp) hi
  rw [hf] at this
  simpa using this

structure InsAt (gF gL gA i k : Nat) (vL vA : Value) (x : RIns) (a : Int) (w : World) : Prop where
  c1 : w.cell? ⟨gF, i * 8 + 1, none⟩ = some vL
  c2 : w.cell? ⟨gF, i * 8 + 2, none⟩ = some vA
  ca : w.cell? ⟨gA, k, none⟩ = some (.int .i64 a)
  e0 : w.cell? ⟨gL, k * 8, none⟩ = some (.string x.word)
  e7 : w.cell? ⟨gL, k * 8 + 7, none⟩ = some (.string x.name)
  ef : ∀ j, w.frozen? ⟨gL, j, none⟩ = false

theorem PInv.insAt {w : World} {pb rb gF cF nF gL cL gA cA nL nA : Nat} {vM vB vP : Value} {ms : List RMap} {fs : List (RFn × HFn)} {done rest : List FOut} {o : FOut} {bd : Nat → Nat} {d tl : List RIns} {x : RIns} {a : Int} {f : RFn}
    (h : PInv w pb rb vM (.slice (some ⟨gF, 0, none⟩) nF cF) ms fs (done ++ { o with ls := d ++ x :: tl } :: rest) bd) (hn : nF = fs.length) (hi : done.length < fs.length)
    (hf : fs[done.length] = (f, ⟨.slice (some ⟨gL, 0, none⟩) nL cL, .slice (some ⟨gA, 0, none⟩) nA cA, vB, vP⟩)) (hL : nL = (d ++ x :: tl).length) (hA : nA = o.ats.length) (ha : o.ats[d.length]? = some a) :
    InsAt gF gL gA done.length d.length (.slice (some ⟨gL, 0, none⟩) nL cL) (.slice (some ⟨gA, 0, none⟩) nA cA) x a w := by
  obtain ⟨c1, c2⟩ := h.row hn done.length hi hf
  have F := h.fh hi hf
  subst hL hA
  obtain ⟨e0, e1, e2, e3, e4, e5, e6, e7, ef⟩ := F.sl.at8 rfl d.length (by simp)
  simp only [List.getElem_append_right (Nat.le_refl d.length), Nat.sub_self, List.getElem_cons_zero] at e0 e7
  obtain ⟨g, hg, cellA⟩ := F.sa.at rfl d.length (List.getElem?_eq_some_iff.1 ha).1
  cases hg
  refine ⟨c1, c2, ?_, e0, e7, ef⟩
  rw [cellA d.length (List.getElem?_eq_some_iff.1 ha).1, intL, List.getElem?_map, ha]; rfl

theorem PInv.nameAt {w : World} {pb rb gL cL nL : Nat} {vM vF vA vB vP : Value} {ms : List RMap} {fs : List (RFn × HFn)} {done rest : List FOut} {o : FOut} {bd : Nat → Nat} {d tl : List RIns} {x : RIns} {f : RFn}
    (h : PInv w pb rb vM vF ms fs (done ++ { o with ls := d ++ x :: tl } :: rest) bd) (hi : done.length < fs.length)
    (hf : fs[done.length] = (f, ⟨.slice (some ⟨gL, 0, none⟩) nL cL, vA, vB, vP⟩)) (hL : nL = (d ++ x :: tl).length) (nm : ByteArray) :
    PInv (w.setCell ⟨gL, d.length * 8 + 7, none⟩ (.string nm)) pb rb vM vF ms fs (done ++ { o with ls := d ++ { x with name := nm } :: tl } :: rest) bd ∧ bd 0 ≤ gL := by
  have hg : (done ++ { o with ls := d ++ x :: tl } :: rest)[done.length]'(by simp) = { o with ls := d ++ x :: tl } := by simp
  have := h.name done.length (by simp) hi d.length (by rw [hg]; simp) gL cL (by rw [hf, hg, ← hL]) nm
  refine ⟨?_, this.2.2⟩
  have h1 := this.1
  simp only [hg, List.set_append_right _ _ (Nat.le_refl done.length), Nat.sub_self, List.set_cons_zero] at h1
  have e : ∀ (hh : d.length < (d ++ x :: tl).length), (d ++ x :: tl)[d.length]'hh = x := by intro hh; simp
  simp only [List.set_append_right _ _ (Nat.le_refl d.length), Nat.sub_self, List.set_cons_zero, e] at h1
  exact h1

def OnlyFns (rb : Nat) (bd : Nat → Nat) : Nat → Prop := fun k => k = rb ∨ bd 0 ≤ k

/-- The state between two functions. -/
structure RefO (w0 : World) (pb rb' : Nat) (vM vF : Value) (ms : List RMap) (fs : List (RFn × HFn)) (bd : Nat → Nat) (s : ByteArray) (os0 : List FOut) (r0 : RS) (g : Nat) (cv iv : Value) (w : World) : Prop where
  ex : ∃ (done rest : List FOut) (c : Nat) (r : RS), cv = .int .i64 c ∧ iv = .int .i64 done.length ∧ PInv w pb rb' vM vF ms fs (done ++ rest) bd ∧ RdAt w rb' s r ∧ refF s ms done rest c r = refF s ms [] os0 0 r0 ∧ r.pos ≤ s.size ∧ g = rest.length ∧
    done.length + rest.length = fs.length ∧ c ≤ done.length * 1000 ∧ Mods (OnlyFns rb' bd) w0 w ∧ ∀ o ∈ rest, o.ls.length ≤ 1000 ∧ o.ats.length = o.ls.length

structure RefN (w0 : World) (pb rb' : Nat) (vM vF : Value) (ms : List RMap) (fs : List (RFn × HFn)) (bd : Nat → Nat) (s : ByteArray) (os0 : List FOut) (r0 : RS) (done rest : List FOut) (o : FOut) (g : Nat) (cv kv : Value) (w : World) : Prop where
  ex : ∃ (d : List RIns) (t : List (RIns × Int)) (c : Nat) (r : RS), cv = .int .i64 c ∧ kv = .int .i64 d.length ∧ PInv w pb rb' vM vF ms fs (done ++ { o with ls := d ++ t.map (·.1) } :: rest) bd ∧ RdAt w rb' s r ∧
    (match refI s ms done.length d t c r with
      | none => none
      | some (ls, c', r') => refF s ms (done ++ [{ o with ls := ls }]) rest c' r') = refF s ms [] os0 0 r0 ∧ r.pos ≤ s.size ∧ g = t.length ∧ d.length + t.length = o.ls.length ∧ t.map (·.2) = o.ats.drop d.length ∧ c ≤ done.length * 1000 + d.length ∧ Mods (OnlyFns rb' bd) w0 w

def RefPost (w : World) (pb rb' : Nat) (vM vF : Value) (ms : List RMap) (fs : List (RFn × HFn)) (bd : Nat → Nat) (s : ByteArray) (os : List FOut) (r : RS) (e : Ending) (w' : World) : Prop :=
  e = .returned (.bool (refsM s ms os r).isSome) ∧ Mods (OnlyFns rb' bd) w w' ∧ ∀ o, refsM s ms os r = some o → PInv w' pb rb' vM vF ms fs o.1 bd ∧ RdAt w' rb' s o.2

set_option maxRecDepth 100000 in
set_option maxHeartbeats 1000000 in
theorem refs_any (w : World) (pb rb' : Nat) (vM vF : Value) (ms : List RMap) (fs : List (RFn × HFn)) (bd : Nat → Nat) (s : ByteArray) (os : List FOut) (r : RS) (hs : s.size ≤ maxLen) (hI : PInv w pb rb' vM vF ms fs os bd) (hr : RdAt w rb' s r) (hp : r.pos ≤ s.size)
    (hl : os.length = fs.length) (hf : fs.length ≤ 1000) (hm : ms.length ≤ 1000) (ho : ∀ o ∈ os, o.ls.length ≤ 1000 ∧ o.ats.length = o.ls.length) :
    Calls Tryz.prog 15 #[.pointer (some ⟨pb, 0, none⟩), .pointer (some ⟨rb', 0, none⟩)] w fun e w' => RefPost w pb rb' vM vF ms fs bd s os r e w' := by
  obtain ⟨oF, cF, rfl, _⟩ := hI.rows.view
  have hpos1 := rw2_pos s r hp
  have hn2 := rw2_le s r
  have HM : Hid (refsM s ms os r = match refF s ms [] os 0 (rw2 s r).2 with
    | none => none
    | some (os', c, r') => if c = (rw2 s r).1 then some (os', r') else none) := rfl
  go_enter Tryz.func15, Tryz.ntmps15
  go_wp2_with fail
  refine (rtwo_any rb' s r _ hs hr).mono ?_
  rintro e w1 ⟨rfl, h1, m1⟩
  have hI1 := hI.read m1
  have M1 : Mods (OnlyFns rb' bd) w w1 := m1.mono (fun _ _ e => .inl e)
  clear m1
  generalize rw2 s r = q at *
  obtain ⟨n, r1⟩ := q
  simp only at *
  go_wp2_with fail
  go_loopg [6, 7] os.length (fun g cv iv wx => RefO w pb rb' vM (.slice oF fs.length cF) ms fs bd s os r1 g cv iv wx)
  case atStart => exact ⟨[], os, 0, r1, rfl, rfl, hI1, h1, rfl, hpos1, rfl, by simp [hl], by omega, M1, ho⟩
  case round =>
    obtain ⟨done, rest, c, r2, rfl, rfl, hI2, h2, HB0, hpos2, rfl, hlen, hcc, M2, ho2⟩ := hrel.ex
    have HB : Hid _ := HB0
    clear HB0 hrel hI1 h1 M1 hpos1
    have p1 : wr.cell? ⟨pb, 1, none⟩ = some (.slice oF fs.length cF) := hI2.prog.cell 1
    cases rest with
    | nil =>
      have hdl : done.length = fs.length := by simpa using hlen
      have HE : Hid (refsM s ms os r = if c = n then some (done, r2) else none) := by
        rw [Hid, HM.out, ← HB.out]; rfl
      go_wp2_with fail
      go_ret
      refine ⟨?_, M2, fun o ho => ?_⟩
      · rw [HE.out]
        by_cases hcn : c = n
        · simp [hcn]
        · have : ¬ (c : Int) = (n : Int) := by omega
          simp [hcn, this]
      · rw [HE.out] at ho
        split at ho
        · cases ho
          exact ⟨by simpa using hI2, h2⟩
        · cases ho
    | cons o rest =>
      have hil : done.length < fs.length := by simp at hlen; omega
      obtain ⟨gF, rfl, _⟩ := hI2.rows.atR rfl rfl done.length hil
      obtain ⟨ho3, ho4⟩ := ho2 o (by simp)
      obtain ⟨f, ⟨vL, vA, vB, vP⟩, hfs⟩ : ∃ f h, fs[done.length] = (f, h) := ⟨_, _, rfl⟩
      have HFS : Hid (fs[done.length] = (f, ⟨vL, vA, vB, vP⟩)) := hfs
      clear hfs
      obtain ⟨oL, cL, hvL, _⟩ := (hI2.fh hil HFS.out).sl.view
      obtain ⟨oA, cA, hvA, _⟩ := (hI2.fh hil HFS.out).sa.view
      simp only at hvL hvA
      subst hvL hvA
      have HO4 : Hid (o.ats.length = o.ls.length) := ho4
      have hal : o.ats.length ≤ 1000 := by omega
      clear ho4
      have HLN : Hid (done.length + (rest.length + 1) = fs.length) := by rw [Hid]; simpa using hlen
      clear hlen
      have hstart : RefN w pb rb' vM (.slice (some ⟨gF, 0, none⟩) fs.length cF) ms fs bd s os r1 done rest o o.ls.length (.int .i64 c) (.int .i64 (0 : Nat)) wr := by
        have hz1 : (o.ls.zip o.ats).map (·.1) = o.ls := by rw [List.map_fst_zip]; have := HO4.out; omega
        have hz2 : (o.ls.zip o.ats).map (·.2) = o.ats := by rw [List.map_snd_zip]; have := HO4.out; omega
        refine ⟨[], o.ls.zip o.ats, c, r2, rfl, rfl, ?_, h2, ?_, hpos2, ?_, ?_, ?_, by simp; omega, M2⟩
        · rw [hz1]; exact hI2
        · rw [← HB.out, refF] <;> (cases refI s ms done.length [] (o.ls.zip o.ats) c r2 <;> rfl)
        · have := HO4.out; simp; omega
        · have := HO4.out; simp; omega
        · rw [hz2]; rfl
      go_wp2_with fail
      go_loopg [6, 9] o.ls.length (fun g cv kv wx => RefN w pb rb' vM (.slice (some ⟨gF, 0, none⟩) fs.length cF) ms fs bd s os r1 done rest o g cv kv wx)
      case atStart => exact hstart
      case round =>
        obtain ⟨d, t, c', r3, rfl, rfl, hI3, h3, HB1, hpos3, rfl, hdt, HT0, hcc3, M3⟩ := hrel.ex
        have HBN : Hid _ := HB1
        have HT : Hid _ := HT0
        clear HB1 HT0 hrel hstart h2 M2 hI2 HB
        obtain ⟨x1, x2⟩ := hI3.row rfl done.length hil HFS.out
        cases t with
        | nil =>
          have hdl : d.length = o.ls.length := by simpa using hdt
          have HBX : Hid (refF s ms (done ++ [{ o with ls := d }]) rest c' r3 = refF s ms [] os 0 r1) := by rw [Hid, ← HBN.out]; rfl
          have hln := HLN.out
          have HD : Hid _ := hdl
          have hdl2 : d.length ≤ 1000 := by omega
          go_wp2_with fail
          go_roundg rest.length
          case measure => simp
          case rel => exact ⟨done ++ [{ o with ls := d }], rest, c', r3, rfl, by simp, by simpa using hI3, h3, HBX.out, hpos3, rfl, by simp; omega, by simp; omega, M3, fun o ho => ho2 o (by simp [ho])⟩
        | cons y t =>
          obtain ⟨⟨xw, x32, xd, xs, xj, xn, xl, xm⟩, a⟩ := y
          have hdlt : d.length < o.ls.length := by simp at hdt; omega
          have hdla : d.length < o.ats.length := by have := HO4.out; omega
          have hat : o.ats[d.length]? = some a := by
            have := congrArg (fun l : List Int => l[0]?) HT.out
            simpa using this.symm
          have HT2 : Hid (t.map (·.2) = o.ats.drop (d.length + 1)) := by
            have := congrArg List.tail HT.out
            rw [Hid]; simpa [List.tail_drop] using this
          have F := hI3.fh hil HFS.out
          obtain ⟨gL, csL, hgL, _⟩ : ∃ g cs, oL = some ⟨g, 0, none⟩ ∧ True := by
            obtain ⟨o', cap', hv, h2⟩ := F.sl.view
            simp only at hv
            obtain ⟨g, cs, hg, _⟩ := h2 (by rw [List.length_append, List.map_cons, List.length_cons]; omega)
            exact ⟨g, cs, (Value.slice.inj hv).1.trans hg, trivial⟩
          subst hgL
          obtain ⟨gA, rfl, _⟩ := F.sa.at rfl d.length hdla
          clear F
          simp only [List.map_cons] at hI3
          have HLZ : Hid (o.ls.length = (d ++ (⟨xw, x32, xd, xs, xj, xn, xl, xm⟩ : RIns) :: t.map (·.1)).length) := by rw [Hid]; simp at hdt ⊢; omega
          have HAT : Hid _ := hat
          obtain ⟨_, _, ca, e0, e7, ef⟩ := hI3.insAt rfl hil HFS.out HLZ.out rfl HAT.out
          simp only at e0 e7
          have HDT : Hid (d.length + (t.length + 1) = o.ls.length) := by rw [Hid]; simpa using hdt
          clear hdt hat HT
          by_cases hq : xm = T [63]
          · have q := lit_eq hq
            have HB2 := HBN.out
            rw [refI, if_pos hq] at HB2
            have HB3 : Hid _ := HB2
            have hpos4 := rb_pos s r3 hpos3
            have hpos5 := rw2_pos s _ hpos4
            have hpos6 := rnm_pos s _ hpos5
            have l4 := rb_le s r3
            have l5 := rw2_le s (rb s r3).2
            clear HB2 HBN hq
            go_wp2_with fail
            refine (rbyte_any rb' s r3 _ hs h3).mono ?_
            rintro e w4 ⟨rfl, h4, m4⟩
            have hI4 := hI3.read m4
            have M4 : Mods (OnlyFns rb' bd) w w4 := M3.step m4 (fun _ _ e => .inl e)
            clear m4 M3 hI3 h3
            generalize rb s r3 = qa at *
            obtain ⟨na, r4⟩ := qa
            simp only at *
            go_wp2_with fail
            refine (rtwo_any rb' s r4 _ hs h4).mono ?_
            rintro e w5 ⟨rfl, h5, m5⟩
            have hI5 := hI4.read m5
            have M5 : Mods (OnlyFns rb' bd) w w5 := M4.step m5 (fun _ _ e => .inl e)
            clear m5 M4 hI4 h4
            generalize rw2 s r4 = qb at *
            obtain ⟨nb, r5⟩ := qb
            simp only at *
            go_wp2_with fail
            refine (rname_any rb' s r5 _ hs hpos5 h5).mono ?_
            rintro e w6 ⟨rfl, h6, m6⟩
            have hI6 := hI5.read m6
            have M6 : Mods (OnlyFns rb' bd) w w6 := M5.step m6 (fun _ _ e => .inl e)
            clear m6 M5 hI5 h5
            generalize rnm s r5 = qc at *
            obtain ⟨nc, r6, bad⟩ := qc
            simp only at *
            clear ca e0 e7 ef x1 x2 p1
            obtain ⟨x1, x2, ca, e0, e7, ef⟩ := hI6.insAt rfl hil HFS.out HLZ.out rfl HAT.out
            simp only at e0 e7
            have hbd : w6.cell? ⟨rb', 2, none⟩ = some (.bool bad) := Blk.cell h6 2
            cases bad with
            | true =>
              have HN : Hid (refsM s ms os r = none) := by rw [Hid, HM.out, ← HB3.out]; simp
              go_wp2_with fail
              go_ret
              exact ⟨by rw [HN.out]; rfl, M6, fun o ho => by rw [HN.out] at ho; cases ho⟩
            | false =>
            by_cases hni : na = done.length
            case neg =>
              have hni' : ¬ (na : Int) = (done.length : Int) := by omega
              have HN : Hid (refsM s ms os r = none) := by rw [Hid, HM.out, ← HB3.out, if_pos (.inr (.inl hni'))]
              go_wp2_with fail
              go_ret
              exact ⟨by rw [HN.out]; rfl, M6, fun o ho => by rw [HN.out] at ho; cases ho⟩
            by_cases hnb : (nb : Int) = a
            case neg =>
              have HN : Hid (refsM s ms os r = none) := by rw [Hid, HM.out, ← HB3.out, if_pos (.inr (.inr hnb))]
              subst hni
              go_wp2_with fail
              go_ret
              exact ⟨by rw [HN.out]; rfl, M6, fun o ho => by rw [HN.out] at ho; cases ho⟩
            have HB4 := HB3.out
            rw [if_neg (by rw [hni, hnb]; simp)] at HB4
            have HB5 : Hid _ := HB4
            clear HB3 HB4
            obtain ⟨hI7, hgl⟩ := hI6.nameAt hil HFS.out HLZ.out nc
            have hgFL : gF < gL := by have := hI6.hf gF rfl; omega
            have hpL : pb < gL := by have := hI6.hp; omega
            have hrL : rb' < gL := by have := hI6.hr; omega
            have h7 : RdAt (w6.setCell ⟨gL, d.length * 8 + 7, none⟩ (.string nc)) rb' s ⟨r6, false⟩ := Blk.setOther h6 (a := ⟨gL, d.length * 8 + 7, none⟩) (show gL ≠ rb' by omega) _
            have M7 : Mods (OnlyFns rb' bd) w (w6.setCell ⟨gL, d.length * 8 + 7, none⟩ (.string nc)) := M6.set (a := ⟨gL, d.length * 8 + 7, none⟩) (.inl (.inr hgl)) _
            have hsc := store_any pb nc ms vM _ (hI7.prog.cell 0) hI7.maps hm
            have H7 : Hid _ := hI7
            have hdd := HDT.out
            clear hI7 hI6 h6 M6
            by_cases hww : xw = WIDE
            · have q2 := lit_eq hww
              by_cases hst : placeM nc (ms.map (·.name)) < 0
              · have HN : Hid (refsM s ms os r = none) := by rw [Hid, HM.out, ← HB5.out, if_pos ⟨hww, hst⟩]
                clear hww
                go_wp2_with (go_at_call 32; refine hsc.mono ?_; rintro e w8 ⟨rfl, rfl⟩)
                go_ret
                exact ⟨by rw [HN.out]; rfl, M7, fun o ho => by rw [HN.out] at ho; cases ho⟩
              · have HB6 := HB5.out
                rw [if_neg (fun e => hst e.2)] at HB6
                have HB7 : Hid _ := HB6
                clear HB5 HB6 hww
                go_wp2_with (go_at_call 32; refine hsc.mono ?_; rintro e w8 ⟨rfl, rfl⟩)
                go_roundg t.length
                case measure => simp
                case rel => exact ⟨d ++ [⟨xw, x32, xd, xs, xj, xn, xl, nc⟩], t, c' + 1, ⟨r6, false⟩, by go_num, by simp, by simpa using H7.out, h7, HB7.out, hpos6, rfl, by simp; omega, by rw [HT2.out]; simp, by simp; omega, M7⟩
            · have q2 := lit_ne hww
              have HB6 := HB5.out
              rw [if_neg (fun e => hww e.1)] at HB6
              have HB7 : Hid _ := HB6
              clear HB5 HB6 hww
              go_wp2_with fail
              go_roundg t.length
              case measure => simp
              case rel => exact ⟨d ++ [⟨xw, x32, xd, xs, xj, xn, xl, nc⟩], t, c' + 1, ⟨r6, false⟩, by go_num, by simp, by simpa using H7.out, h7, HB7.out, hpos6, rfl, by simp; omega, by rw [HT2.out]; simp, by simp; omega, M7⟩
          · have q := lit_ne hq
            have HBX : Hid ((match refI s ms done.length (d ++ [⟨xw, x32, xd, xs, xj, xn, xl, xm⟩]) t c' r3 with
                | none => none
                | some (ls, c'', r'') => refF s ms (done ++ [{ o with ls := ls }]) rest c'' r'') = refF s ms [] os 0 r1) := by
              have := HBN.out
              rw [refI, if_neg hq] at this
              exact this
            have HQ : Hid _ := hq
            clear hq HBN
            go_wp2_with fail
            go_roundg t.length
            case measure => simp
            case rel =>
              have hdd := HDT.out
              exact ⟨d ++ [⟨xw, x32, xd, xs, xj, xn, xl, xm⟩], t, c', r3, rfl, by simp, by simpa using hI3, h3, HBX.out, hpos3, rfl, by simp; omega, by rw [HT2.out]; simp, by simp; omega, M3⟩
end Go.Proofs.YtnankepcmaoijaaGreatDoor
