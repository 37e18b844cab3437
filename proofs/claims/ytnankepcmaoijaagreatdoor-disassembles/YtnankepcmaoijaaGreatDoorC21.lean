/- Opening an object, in the document's answer: what it comes to, and what is known of memory on the way. -/
import Derived.Test.YtnankepcmaoijaaGreatDoorC20
namespace Go.Proofs.YtnankepcmaoijaaGreatDoor
open Go.RowKit

def rdMaps (s : ByteArray) : Nat → RS → List RMap → List RMap × RS
  | 0, r, acc => (acc, r)
  | k + 1, r, acc => if r.bad = true then (acc, r) else
    rdMaps s k (rb s (rb s (rb s (rnm s r).2).2).2).2 (acc ++ [⟨(rnm s r).1, (rb s (rnm s r).2).1, (rb s (rb s (rnm s r).2).2).1, (rb s (rb s (rb s (rnm s r).2).2).2).1⟩])

def rdFns (s : ByteArray) : Nat → RS → List RFn → Nat → List RFn × Nat × RS
  | 0, r, acc, t => (acc, t, r)
  | k + 1, r, acc, t => if r.bad = true then (acc, t, r) else
    rdFns s k (rw2 s (rnm s r).2).2 (acc ++ [⟨(rnm s r).1, (rw2 s (rnm s r).2).1⟩]) (t + (rw2 s (rnm s r).2).1)

def rdBodies (s : ByteArray) : List RFn → RS → List FOut → Option (List FOut × RS)
  | [], r, acc => some (acc, r)
  | f :: l, r, acc => match bodyM s f.slots r with
    | none => none
    | some o => rdBodies s l o.r (acc ++ [o])

def HEAD : ByteArray := T [83, 80, 79, 76, 1]

def openMid (s : ByteArray) (ms : List RMap) (fs : List RFn) (t : Nat) (r : RS) : Option (List RMap × List RFn × List FOut) :=
  if r.bad = true ∨ risingM ms fs = false ∨ 200 < t then none
  else match rdBodies s fs r [] with
    | none => none
    | some (os, r3) => match refsM s ms os r3 with
      | none => none
      | some (os', r4) => if r4.bad = false ∧ r4.pos = s.size then some (ms, fs, os') else none

def openM (s : ByteArray) : Option (List RMap × List RFn × List FOut) :=
  if s.size < 5 ∨ s.extract 0 5 ≠ HEAD then none
  else
    let n := rb s ⟨5, false⟩
    let m := rdMaps s n.1 n.2 []
    let n2 := rb s m.2
    let f := rdFns s n2.1 n2.2 [] 0
    openMid s m.1 f.1 f.2.1 f.2.2

structure OInv (w0 : World) (pb rb' : Nat) (s : ByteArray) (r : RS) (ms : List RMap) (fs : List RFn) (vM vF : Value) (w : World) : Prop where
  rd : RdAt w rb' s r
  pg : Blk w pb #[vM, vF] 39
  sm : Sl w 42 4 vM ms.length (ms.flatMap RMap.cells)
  sf : Sl w 47 8 vF fs.length (fs.flatMap RFn.cells)
  fm : ∀ k, vM.ownBlock = some k → pb < k
  ff : ∀ k, vF.ownBlock = some k → pb < k
  mf : ∀ k, vM.ownBlock = some k → vF.ownBlock ≠ some k
  rp : rb' < pb
  w0r : w0.heap.size ≤ rb'
  md : Mods Nil' w0 w

section
variable {w0 w w' : World} {pb rb' : Nat} {s : ByteArray} {r r' : RS} {ms : List RMap} {fs : List RFn} {vM vF : Value}

theorem OInv.quiet (h : OInv w0 pb rb' s r ms fs vM vF w) (m : Mods Nil' w w') : OInv w0 pb rb' s r ms fs vM vF w' :=
  ⟨Blk.mods h.rd m (fun e => e), h.pg.mods m (fun e => e), h.sm.mods m (fun _ _ e => e), h.sf.mods m (fun _ _ e => e), h.fm, h.ff, h.mf, h.rp, h.w0r, h.md.trans m⟩

theorem OInv.read (h : OInv w0 pb rb' s r ms fs vM vF w) (m : Mods (Only rb') w w') (hr : RdAt w' rb' s r') : OInv w0 pb rb' s r' ms fs vM vF w' := by
  have hrp := h.rp
  have h0 := h.w0r
  exact ⟨hr, h.pg.mods m (fun e => by have : pb = rb' := e; omega), h.sm.mods m (fun k hk e => by have := h.fm k hk; rw [show k = rb' from e] at this; omega), h.sf.mods m (fun k hk e => by have := h.ff k hk; rw [show k = rb' from e] at this; omega), h.fm, h.ff, h.mf, h.rp, h.w0r,
    h.md.step m (fun k hk e => by have : k = rb' := e; omega)⟩

theorem OInv.appM (h : OInv w0 pb rb' s r ms fs vM vF w) {x : RMap} {v' : Value} (sl : Sl w' 42 4 v' (ms.length + 1) (ms.flatMap RMap.cells ++ x.cells))
    (m : Mods (fun k => vM.ownBlock = some k) w w') (loc : ∀ k, v'.ownBlock = some k → vM.ownBlock = some k ∨ w.heap.size ≤ k) :
    OInv w0 pb rb' s r (ms ++ [x]) fs v' vF (w'.setCell ⟨pb, 0, none⟩ v') := by
  have hrp := h.rp
  have h0 := h.w0r
  have hpl := h.pg.lt
  have nf : ∀ k, v'.ownBlock = some k → pb < k := fun k hk => (loc k hk).elim (h.fm k) (fun e => by omega)
  have hms : Mods (Only pb) w' (w'.setCell ⟨pb, 0, none⟩ v') := (Mods.refl (Only pb) w').setb _ _
  have hb : ¬ vM.ownBlock = some pb := fun e => by have := h.fm _ e; omega
  have hb2 : ¬ vM.ownBlock = some rb' := fun e => by have := h.fm _ e; omega
  refine ⟨(Blk.mods h.rd m hb2).setOther (a := ⟨pb, 0, none⟩) (show pb ≠ rb' by omega) _, (h.pg.mods m hb).set 0 v', ?_, ?_, nf, h.ff, ?_, h.rp, h.w0r, ?_⟩
  · have e : (ms ++ [x]).flatMap RMap.cells = ms.flatMap RMap.cells ++ x.cells := by simp
    rw [List.length_append, e]
    exact sl.mods hms (fun k hk e => by have := nf k hk; rw [show k = pb from e] at this; omega)
  · exact (h.sf.mods m (fun k hk e => h.mf k e hk)).mods hms (fun k hk e => by have := h.ff k hk; rw [show k = pb from e] at this; omega)
  · exact fun k hk e => (loc k hk).elim (fun e1 => h.mf k e1 e) (fun e1 => by have := h.sf.lt k e; omega)
  · exact (h.md.step m (fun k hk e => by have := h.fm k e; omega)).set (a := ⟨pb, 0, none⟩) (.inr (by show w0.heap.size ≤ pb; omega)) _

theorem OInv.appF (h : OInv w0 pb rb' s r ms fs vM vF w) {x : RFn} {v' : Value} (sl : Sl w' 47 8 v' (fs.length + 1) (fs.flatMap RFn.cells ++ x.cells))
    (m : Mods (fun k => vF.ownBlock = some k) w w') (loc : ∀ k, v'.ownBlock = some k → vF.ownBlock = some k ∨ w.heap.size ≤ k) :
    OInv w0 pb rb' s r ms (fs ++ [x]) vM v' (w'.setCell ⟨pb, 1, none⟩ v') := by
  have hrp := h.rp
  have h0 := h.w0r
  have hpl := h.pg.lt
  have nf : ∀ k, v'.ownBlock = some k → pb < k := fun k hk => (loc k hk).elim (h.ff k) (fun e => by omega)
  have hms : Mods (Only pb) w' (w'.setCell ⟨pb, 1, none⟩ v') := (Mods.refl (Only pb) w').setb _ _
  have hb : ¬ vF.ownBlock = some pb := fun e => by have := h.ff _ e; omega
  have hb2 : ¬ vF.ownBlock = some rb' := fun e => by have := h.ff _ e; omega
  refine ⟨(Blk.mods h.rd m hb2).setOther (a := ⟨pb, 1, none⟩) (show pb ≠ rb' by omega) _, (h.pg.mods m hb).set 1 v', ?_, ?_, h.fm, nf, ?_, h.rp, h.w0r, ?_⟩
  · exact (h.sm.mods m (fun k hk e => h.mf k hk e)).mods hms (fun k hk e => by have := h.fm k hk; rw [show k = pb from e] at this; omega)
  · have e : (fs ++ [x]).flatMap RFn.cells = fs.flatMap RFn.cells ++ x.cells := by simp
    rw [List.length_append, e]
    exact sl.mods hms (fun k hk e => by have := nf k hk; rw [show k = pb from e] at this; omega)
  · exact fun k hk e => (loc k e).elim (fun e1 => h.mf k hk e1) (fun e1 => by have := h.sm.lt k hk; omega)
  · exact (h.md.step m (fun k hk e => by have := h.ff k e; omega)).set (a := ⟨pb, 1, none⟩) (.inr (by show w0.heap.size ≤ pb; omega)) _

theorem OInv.setO (h : OInv w0 pb rb' s r ms fs vM vF w) {a : Addr} (h1 : a.block ≠ rb') (h2 : a.block ≠ pb) (h3 : vM.ownBlock ≠ some a.block) (h4 : vF.ownBlock ≠ some a.block) (h5 : w0.heap.size ≤ a.block) (v : Value) :
    OInv w0 pb rb' s r ms fs vM vF (w.setCell a v) := by
  have hms : Mods (Only a.block) w (w.setCell a v) := (Mods.refl (Only a.block) w).set (a := a) (.inl (show a.block = a.block from rfl)) v
  exact ⟨Blk.setOther h.rd h1 v, h.pg.setOther h2 v, h.sm.mods hms (fun k hk e => h3 (by rw [← show k = a.block from e]; exact hk)), h.sf.mods hms (fun k hk e => h4 (by rw [← show k = a.block from e]; exact hk)), h.fm, h.ff, h.mf, h.rp, h.w0r, h.md.set (a := a) (.inr h5) v⟩

theorem OInv.midM (h : OInv w0 pb rb' s r ms fs vM vF w) {v : Value} (hv : v = vM ∨ v = vF) {w1 : World} (m1 : Mods Nil' w w1) (m : Mods (fun k => v.ownBlock = some k) w1 w') :
    w'.cell? ⟨pb, 0, none⟩ = some vM ∧ w'.cell? ⟨pb, 1, none⟩ = some vF ∧ ∀ j, w'.frozen? ⟨pb, j, none⟩ = false := by
  have hb : ¬ v.ownBlock = some pb := by
    rcases hv with rfl | rfl
    · exact fun e => by have := h.fm _ e; omega
    · exact fun e => by have := h.ff _ e; omega
  have h1 := (h.pg.mods m1 (fun e => e)).mods m hb
  exact ⟨h1.cell 0, h1.cell 1, h1.frozen⟩
end

/-- Where the reader stands. -/
theorem rsl_pos (s : ByteArray) (r : RS) (h : r.pos ≤ s.size) : (rsl s r).2.pos ≤ s.size := by
  have h1 := rb_pos s r h
  have h2 := rb_pos s _ h1
  have h3 := rb_pos s _ h2
  have h4 := rb_pos s _ h3
  have h5 := rb_pos s _ h4
  have h6 := rb_pos s _ h5
  have h7 := rb_pos s _ h6
  exact rb_pos s _ h7
theorem ins_pos (s : ByteArray) (r : RS) (h : r.pos ≤ s.size) : (insM s r).r.pos ≤ s.size := by
  have h1 := rsl_pos s r h
  have h2 := rsl_pos s _ h1
  unfold insM
  dsimp only
  repeat' split
  all_goals first
    | exact h1
    | exact h2
theorem bodyL_pos (s : ByteArray) (slots : Nat) : ∀ (f : Nat) (r : RS) (p : Nat) (ls : List RIns) (ats js : List Int) (b : BOut), bodyL s slots f r p ls ats js = some b → r.pos ≤ s.size → ls.length ≤ p → b.r.pos ≤ s.size ∧ b.ls.length ≤ b.pos
  | 0, _, _, _, _, _, _, h, _, _ => by cases h
  | f + 1, r, p, ls, ats, js, b, h, hr, hl => by
    rw [bodyL] at h
    split at h
    · split at h
      · cases h
      · split at h
        · cases h
        · rename_i i hi
          refine bodyL_pos s slots f _ _ _ _ _ b h (ins_pos s r hr) ?_
          have : 1 ≤ slotsI i.word := (slotsI_le i.word).1
          simp; omega
    · cases h; exact ⟨hr, hl⟩
theorem labG_len (ats : List Int) : ∀ (rest : List (RIns × Int × Int)) (done : List RIns) (lab : Labs) (o : List RIns × Labs), labG ats done rest lab = some o → o.1.length = done.length + rest.length
  | [], done, lab, o, h => by rw [labG] at h; cases h; simp
  | (i, a, j) :: rest, done, lab, o, h => by
    rw [labG] at h
    split at h
    · split at h
      · have := labG_len ats rest _ _ o h; simp at this ⊢; omega
      · cases h
    · have := labG_len ats rest _ _ o h; simp at this ⊢; omega

theorem body_ok (s : ByteArray) (slots : Nat) (r : RS) (o : FOut) (h : bodyM s slots r = some o) (hr : r.pos ≤ s.size) (hs : slots ≤ 200) : o.r.pos ≤ s.size ∧ o.ls.length ≤ 1000 ∧ o.ats.length = o.ls.length := by
  unfold bodyM at h
  split at h
  · cases h
  · rename_i b hb
    split at h
    · cases h
    · rename_i hc
      split at h
      · cases h
      · rename_i q hq
        cases h
        have h1 := bodyL_pos s slots _ _ _ _ _ _ b hb hr (by simp)
        have g := bodyL_good s slots _ _ _ _ _ _ b hb (good_nil slots)
        have h2 := labG_len _ _ _ _ q hq
        have hz : (zip3 b.ls b.ats b.js).length = b.ls.length := by
          have := g.al; have := g.jl
          simp [zip3]; omega
        have hp : b.pos = slots := by
          by_cases e : b.pos = slots
          · exact e
          · exact absurd (.inl e) hc
        refine ⟨h1.1, ?_, ?_⟩
        · show q.1.length ≤ 1000
          rw [h2, hz]; simp; omega
        · show b.ats.length = q.1.length
          rw [h2, hz, g.al]; simp
end Go.Proofs.YtnankepcmaoijaaGreatDoor

/- A program in memory grows by a function that was read. -/
namespace Go.Proofs.YtnankepcmaoijaaGreatDoor
open Go.RowKit

structure SlB (size : Nat) (cs : Array Value) (cap n : Nat) (xs : List Value) : Prop where
  nc : n ≤ cap
  cm : cap ≤ maxLen
  sz : cs.size = cap * size
  tk : cs.toList.take (n * size) = xs
  ln : xs.length = n * size

theorem SlB.set {size : Nat} {cs : Array Value} {cap n : Nat} {xs : List Value} (h : SlB size cs cap n xs) (j : Nat) (u : Value) : SlB size (cs.setIfInBounds j u) cap n (xs.set j u) :=
  ⟨h.nc, h.cm, by simpa using h.sz, by rw [Array.toList_setIfInBounds, ← h.tk, List.take_set], by rw [List.length_set]; exact h.ln⟩
theorem SlB.sl {size : Nat} {cs : Array Value} {cap n : Nat} {xs : List Value} (h : SlB size cs cap n xs) {w : World} {g : Nat} {e : TypeId} (hb : Blk w g cs e) : Sl w e size (.slice (some ⟨g, 0, none⟩) n cap) n xs :=
  ⟨h.ln, .inr ⟨g, cap, cs, rfl, Nat.zero_le _, hb, h.nc, h.cm, h.sz, h.tk⟩⟩
theorem Sl.blk {w : World} {e : TypeId} {size g n cap : Nat} {xs : List Value} (h : Sl w e size (.slice (some ⟨g, 0, none⟩) n cap) n xs) : ∃ cs, Blk w g cs e ∧ SlB size cs cap n xs := by
  rcases h.2 with ⟨h', _⟩ | ⟨g', cap', cur, h', _, hg, hn, hm, hs, ht⟩
  · cases h'
  · cases h'
    exact ⟨cur, hg, hn, hm, hs, ht, h.1⟩
theorem SlB.get {size : Nat} {cs : Array Value} {cap n : Nat} {xs : List Value} (h : SlB size cs cap n xs) (j : Nat) (hj : j < n * size) : cs[j]? = xs[j]? := by
  rw [← h.tk, List.getElem?_take, if_pos hj]; simp

theorem row_set (l : List (RFn × HFn)) (k c : Nat) (hk : k < l.length) (hc : c < 8) (v : Value) (y : RFn × HFn) (hy : (rowC l[k]).set c v = rowC y) : (l.flatMap rowC).set (k * 8 + c) v = (l.set k y).flatMap rowC := by
  induction l generalizing k with
  | nil => simp at hk
  | cons x l ih =>
    cases k with
    | zero =>
      simp only [List.flatMap_cons, List.set_cons_zero, List.getElem_cons_zero] at hy ⊢
      rw [Nat.zero_mul, Nat.zero_add, List.set_append_left _ _ (by rw [rowC_len]; exact hc), hy]
    | succ k =>
      have hk' : k < l.length := by simpa using hk
      have := ih k hk' (by simpa using hy)
      simp only [List.flatMap_cons, List.set_cons_succ] at this ⊢
      rw [List.set_append_right _ _ (by rw [rowC_len]; omega), rowC_len, show (k + 1) * 8 + c - 8 = k * 8 + c by omega, this]

theorem row_sets (l : List (RFn × HFn)) (k : Nat) (hk : k < l.length) (f : RFn) (h : HFn) (he : l[k] = (f, h)) (vL vA vB vP : Value) :
    ((((l.flatMap rowC).set (k * 8 + 1) vL).set (k * 8 + 2) vA).set (k * 8 + 4) vB).set (k * 8 + 5) vP = (l.set k (f, ⟨vL, vA, vB, vP⟩)).flatMap rowC := by
  obtain ⟨a, b, c, d⟩ := h
  rw [row_set l k 1 hk (by omega) vL (f, ⟨vL, b, c, d⟩) (by rw [he]; rfl)]
  rw [row_set _ k 2 (by simpa using hk) (by omega) vA (f, ⟨vL, vA, c, d⟩) (by simp; rfl)]
  rw [row_set _ k 4 (by simpa using hk) (by omega) vB (f, ⟨vL, vA, vB, d⟩) (by simp; rfl)]
  rw [row_set _ k 5 (by simpa using hk) (by omega) vP (f, ⟨vL, vA, vB, vP⟩) (by simp; rfl)]
  simp

theorem OInv.start {w0 w : World} {pb rb' : Nat} {s : ByteArray} {r : RS} {ms : List RMap} {fs : List RFn} {vM vF : Value} (h : OInv w0 pb rb' s r ms fs vM vF w) :
    PInv w pb rb' vM vF ms (fs.map (fun f => (f, HFn.nil))) [] (fun _ => w.heap.size) := by
  have hrp := h.rp
  have e : (fs.map (fun f => (f, HFn.nil))).flatMap rowC = fs.flatMap RFn.cells := by
    rw [List.flatMap_map]; rfl
  refine ⟨h.pg, h.sm, by rw [List.length_map, e]; exact h.sf, h.pg.lt, Blk.lt h.rd, h.sm.lt, h.sf.lt, by omega, fun e => by have := h.fm _ e; omega, fun e => by have := h.fm _ e; omega, fun e => by have := h.ff _ e; omega, fun e => by have := h.ff _ e; omega, h.mf, fun i hi => by simp at hi, Nat.le_refl _, fun i hi => by simp at hi⟩

theorem PInv.body {w w' : World} {pb rb' fb nF cF : Nat} {vM : Value} {ms : List RMap} {fs : List (RFn × HFn)} {os : List FOut} {bd : Nat → Nat} {f : RFn} {hh : HFn} {cs : Array Value} {o : FOut}
    (h : PInv w pb rb' vM (.slice (some ⟨fb, 0, none⟩) nF cF) ms fs os bd) (hn : nF = fs.length) (hk : os.length < fs.length) (hf : fs[os.length] = (f, hh)) (hb : SlB 8 cs cF nF (fs.flatMap rowC)) (m : Mods (fun k => k = fb ∨ k = rb') w w') (hF : FnAt w fb (os.length * 8) cs o w') :
    ∃ h2, PInv w' pb rb' vM (.slice (some ⟨fb, 0, none⟩) nF cF) ms (fs.set os.length (f, h2)) (os ++ [o]) (fun j => if j ≤ os.length then bd j else w'.heap.size) := by
  obtain ⟨vL, vA, vB, vP, h1, h2, h3, h4, h5, f1, f2, f3, f4, d1, d2, d3⟩ := hF.ex
  have hfb := h.hf fb rfl
  have hrb := h.hr
  have htop := h.top
  have hpfb : pb ≠ fb := fun e => h.fp (by rw [e]; rfl)
  refine ⟨⟨vL, vA, vB, vP⟩, ?_⟩
  refine ⟨h.prog.mods m (fun e => e.elim hpfb h.pr), h.maps.mods m (fun k hk e => e.elim (fun e => h.mf k hk (by rw [e]; rfl)) (fun e => h.mr (by rw [← e]; exact hk))), ?_, by simpa using h.hp, by simpa using h.hr, by simpa using h.hm, by simpa using h.hf, h.pr, h.mp, h.mr, h.fp, h.fr, h.mf, ?_, ?_, ?_⟩
  · subst hn
    have hs := ((((hb.set (os.length * 8 + 1) vL).set (os.length * 8 + 2) vA).set (os.length * 8 + 4) vB).set (os.length * 8 + 5) vP)
    rw [row_sets fs os.length hk f hh hf] at hs
    rw [List.length_set]
    exact hs.sl h1
  · intro i hi
    have hi' : i ≤ os.length := by simp at hi; omega
    simp only [if_pos hi']
    split
    · exact h.mono i (by omega)
    · have : bd i ≤ bd os.length := h.le' i os.length hi' (Nat.le_refl _)
      have := m.size; omega
  · simp only [List.length_append, List.length_cons, List.length_nil]
    rw [if_neg (by omega)]
    exact Nat.le_refl _
  · intro i hi hi'
    have hil : i ≤ os.length := by simp at hi; omega
    simp only [if_pos hil]
    by_cases e : i = os.length
    · subst e
      simp only [List.getElem_set_self, List.getElem_append_right (Nat.le_refl os.length), Nat.sub_self, List.getElem_cons_zero]
      rw [if_neg (by omega)]
      exact ⟨h2, h3, h4, h5, fun k hk => ⟨Nat.le_trans htop (f1 k hk), h2.lt k hk⟩, fun k hk => ⟨Nat.le_trans htop (f2 k hk), h3.lt k hk⟩, fun k hk => ⟨Nat.le_trans htop (f3 k hk), h4.lt k hk⟩, fun k hk => ⟨Nat.le_trans htop (f4 k hk), h5.lt k hk⟩, d1, d2, d3⟩
    · have hil2 : i < os.length := by omega
      rw [if_pos (by omega)]
      have hge : ∀ (q : i < (os ++ [o]).length), (os ++ [o])[i] = os[i] := fun q => List.getElem_append_left hil2
      rw [hge, List.getElem_set_ne (Ne.symm e)]
      refine (h.each i hil2 (by simpa using hi')).mods m (fun k hk _ e => ?_)
      have h0 := h.le i (by omega)
      rcases e with e | e
      · subst e; omega
      · subst e; omega

theorem rdFns_le (s : ByteArray) : ∀ (n : Nat) (r : RS) (acc : List RFn) (t : Nat), (∀ f ∈ acc, f.slots ≤ t) → ∀ f ∈ (rdFns s n r acc t).1, f.slots ≤ (rdFns s n r acc t).2.1
  | 0, _, _, _, h => h
  | n + 1, r, acc, t, h => by
    rw [rdFns]
    split
    · exact h
    · refine rdFns_le s n _ _ _ (fun f hf => ?_)
      rcases List.mem_append.1 hf with hf | hf
      · have := h f hf; omega
      · rw [List.mem_singleton.1 hf]; simp
end Go.Proofs.YtnankepcmaoijaaGreatDoor
