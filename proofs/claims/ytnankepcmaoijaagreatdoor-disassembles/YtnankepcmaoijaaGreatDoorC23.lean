/- Contract: to which slots of a function jumps lead, in the document's answer. -/
import Derived.Test.YtnankepcmaoijaaGreatDoorC16
import Derived.Deep.OwnRows
import Derived.Deep.LoopGhost
import Derived.Deep.DeepCutAuto
import Derived.Test.YtnankepcmaoijaaGreatDoorC20
import Derived.Test.YtnankepcmaoijaaGreatDoorC15
import Derived.Test.YtnankepcmaoijaaGreatDoorC02
import Derived.Deep.CutBlock
namespace Go.Proofs.YtnankepcmaoijaaGreatDoor
open Go.RowKit

def boolA (l : List Bool) : Array Value := (l.map Value.bool).toArray
def strA (l : List ByteArray) : Array Value := (l.map Value.string).toArray
theorem info_bool : (Tryz.prog.info? 4).map (fun i => (i.zero, i.size, i.bytes)) = some (some (.bool false), 1, 1) := by kernel_rfl

theorem made_bool (n : Nat) : madeCells #[.bool false] n = boolA (List.replicate n false) := by
  apply Array.ext_getElem?
  intro i
  by_cases h : i < n
  · simp [madeCells, boolA, h, Nat.mod_one]
  · simp [madeCells, boolA, h]
theorem made_str (n : Nat) : madeCells #[.string ByteArray.empty] n = strA (List.replicate n ByteArray.empty) := by
  apply Array.ext_getElem?
  intro i
  by_cases h : i < n
  · simp [madeCells, strA, h, Nat.mod_one]
  · simp [madeCells, strA, h]

theorem boolA_set (l : List Bool) (k : Nat) (b : Bool) : (boolA l).setIfInBounds k (.bool b) = boolA (l.set k b) := by
  simp [boolA, List.map_set]
theorem strA_set (l : List ByteArray) (k : Nat) (b : ByteArray) : (strA l).setIfInBounds k (.string b) = strA (l.set k b) := by
  simp [strA, List.map_set]
theorem boolA_get (l : List Bool) (k : Nat) (h : k < l.length) : (boolA l)[k]? = some (.bool l[k]) := by simp [boolA, h]
theorem strA_get (l : List ByteArray) (k : Nat) (h : k < l.length) : (strA l)[k]? = some (.string l[k]) := by simp [strA, h]

def tgtM (lab : List (ByteArray × Int)) : List RIns → List Bool → List Bool
  | [], b => b
  | i :: l, b => tgtM lab l (if sortM i.word = 106 then b.set (labelM i.label lab).toNat true else b)

/-- What is read of a function. -/
structure FRd (w : World) (fb off slots : Nat) (vL vA vB vP : Value) (name : ByteArray) (ls : List RIns) (ats : List Int) (lab : List (ByteArray × Int)) : Prop where
  c0 : w.cell? ⟨fb, off, none⟩ = some (.string name)
  c1 : w.cell? ⟨fb, off + 1, none⟩ = some vL
  c2 : w.cell? ⟨fb, off + 2, none⟩ = some vA
  c3 : w.cell? ⟨fb, off + 3, none⟩ = some (.int .i64 slots)
  c4 : w.cell? ⟨fb, off + 4, none⟩ = some vB
  c5 : w.cell? ⟨fb, off + 5, none⟩ = some vP
  lt : fb < w.heap.size
  sl : Sl w 57 8 vL ls.length (insL ls)
  sa : Sl w 3 1 vA ats.length (intL ats)
  sb : Sl w 9 1 vB lab.length (strL (lab.map (·.1)))
  sp : Sl w 3 1 vP lab.length (intL (lab.map (·.2)))

theorem FRd.quiet {w w' : World} {fb off slots : Nat} {vL vA vB vP : Value} {name : ByteArray} {ls : List RIns} {ats : List Int} {lab : List (ByteArray × Int)} (h : FRd w fb off slots vL vA vB vP name ls ats lab) (m : Mods Nil' w w') : FRd w' fb off slots vL vA vB vP name ls ats lab := by
  have hb : w'.heap[fb]? = w.heap[fb]? := m.block fb h.lt (fun e => e)
  have hc : ∀ o, w'.cell? ⟨fb, o, none⟩ = w.cell? ⟨fb, o, none⟩ := fun o => World.cell?_of_block (a := ⟨fb, o, none⟩) hb
  exact ⟨(hc _).trans h.c0, (hc _).trans h.c1, (hc _).trans h.c2, (hc _).trans h.c3, (hc _).trans h.c4, (hc _).trans h.c5, Nat.lt_of_lt_of_le h.lt m.size, h.sl.mods m (fun _ _ e => e), h.sa.mods m (fun _ _ e => e), h.sb.mods m (fun _ _ e => e), h.sp.mods m (fun _ _ e => e)⟩

set_option maxRecDepth 100000 in
set_option maxHeartbeats 1000000 in
theorem targets_any (w : World) (fb off slots : Nat) (vL vA vB vP : Value) (name : ByteArray) (ls : List RIns) (ats : List Int) (lab : List (ByteArray × Int)) (h : FRd w fb off slots vL vA vB vP name ls ats lab)
    (hs : slots ≤ 1000) (hl : ls.length ≤ 1000) (hb : lab.length ≤ 1000) (hw : ∀ i ∈ ls, i.word.size ≤ 100) (hj : ∀ i ∈ ls, sortM i.word = 106 → 0 ≤ labelM i.label lab ∧ labelM i.label lab < slots) :
    Calls Tryz.prog 17 #[.pointer (some ⟨fb, off, none⟩)] w fun e w' => e = .returned (.slice (some ⟨w.heap.size, 0, none⟩) slots slots) ∧ Blk w' w.heap.size (boolA (tgtM lab ls (List.replicate slots false))) 4 ∧ Mods Nil' w w' := by
  obtain ⟨oL, cL, hvL, vw⟩ := h.sl.view
  subst hvL
  have hmk := run_make_row' (P := Tryz.prog) 54 4 (.bool false) 1 Tryz.underlying54 info_bool rfl .i64 .i64 slots (by omega) (by omega)
  simp only [made_bool] at hmk
  obtain ⟨c1, c3⟩ := (⟨h.c1, h.c3⟩ : _ ∧ _)
  have HH : Hid _ := h
  have HJ : Hid _ := hj
  have HW : Hid _ := hw
  clear h hj hw
  go_enter Tryz.func17, Tryz.ntmps17
  go_wp2_with fail
  clear hmk
  go_loopg [4] ls.length (fun g kv wx => ∃ (k : Nat) (b : List Bool), kv = .int .i64 k ∧ Mods Nil' w wx ∧ Blk wx w.heap.size (boolA b) 4 ∧ b.length = slots ∧ tgtM lab (ls.drop k) b = tgtM lab ls (List.replicate slots false) ∧ k ≤ ls.length ∧ g = ls.length - k)
  case atStart => exact ⟨0, List.replicate slots false, rfl, (Mods.refl _ _).alloc _, Blk.new _ _ _, by simp, rfl, Nat.zero_le _, rfl⟩
  case round =>
    obtain ⟨k, b, rfl, hmd, hbk, hbl, HR0, hk, rfl⟩ := hrel
    have HR : Hid _ := HR0
    clear HR0 c1 c3
    have hR := HH.out.quiet hmd
    have c1 := hR.c1
    by_cases hkl : k < ls.length
    · obtain ⟨gL, csL, rfl, _⟩ := vw (by omega)
      obtain ⟨e0, e1, e2, e3, e4, e5, e6, e7, ef⟩ := hR.sl.at8 rfl k hkl
      have hwz := HW.out ls[k] (List.getElem_mem hkl)
      have hjt := HJ.out ls[k] (List.getElem_mem hkl)
      have HD : Hid (tgtM lab (ls.drop k) b = tgtM lab (ls.drop (k + 1)) (if sortM ls[k].word = 106 then b.set (labelM ls[k].label lab).toNat true else b)) := by
        rw [Hid, List.drop_eq_getElem_cons hkl, tgtM]
      generalize hik : ls[k] = i at *
      have HIK : Hid _ := hik
      clear hik
      have HJT : Hid _ := hjt
      clear hjt
      go_wp2_with fail
      refine (sort_any _ _ (by unfold maxLen; omega)).mono ?_
      rintro e w1 ⟨rfl, m1⟩
      have hR1 := hR.quiet m1
      have hb1 := hbk.mods m1 (fun e => e)
      have hm1 := hmd.trans m1
      clear e0 e1 e2 e3 e4 e5 e6 e7 ef c1 hR hbk hmd m1
      have c1 := hR1.c1
      have e6 := ((hR1.sl.at8 rfl k hkl).2.2.2.2.2.2.1)
      rw [HIK.out] at e6
      by_cases hs6 : sortM i.word = 106
      · rw [hs6]
        obtain ⟨j0, j1⟩ := HJT.out hs6
        have hlc := label_any fb off i.label lab vB vP w1 hR1.c4 hR1.c5 hR1.sb hR1.sp hb
        obtain ⟨t, ht⟩ : ∃ t : Nat, labelM i.label lab = (t : Int) := ⟨(labelM i.label lab).toNat, by omega⟩
        have HN : Hid (tgtM lab (ls.drop (k + 1)) (b.set t true) = tgtM lab ls (List.replicate slots false)) := by
          rw [Hid, ← HR.out, HD.out, if_pos hs6, ht]; rfl
        rw [ht] at hlc j1
        have hts : t < slots := by omega
        obtain ⟨bt, ct⟩ : ∃ v, w1.cell? ⟨w.heap.size, t, none⟩ = some (.bool v) := ⟨b[t]'(by omega), by rw [hb1.cell t]; exact boolA_get b t (by omega)⟩
        have cf := hb1.frozen
        have HBL : Hid _ := hbl
        clear ht hbl
        go_wp2_with (go_at_call 19; refine hlc.mono ?_; rintro e w2 ⟨rfl, rfl⟩)
        go_roundg (ls.length - (k + 1))
        case measure => omega
        case rel => exact ⟨k + 1, b.set t true, by go_num, hm1.set (a := ⟨w.heap.size, t, none⟩) (.inr (Nat.le_refl _)) _, by have := hb1.set t (.bool true); rw [boolA_set] at this; exact this, by simp [HBL.out], HN.out, by omega, rfl⟩
      · have HN : Hid (tgtM lab (ls.drop (k + 1)) b = tgtM lab ls (List.replicate slots false)) := by
          rw [Hid, ← HR.out, HD.out, if_neg hs6]
        go_wp2_with fail
        go_roundg (ls.length - (k + 1))
        case measure => omega
        case rel => exact ⟨k + 1, b, by go_num, hm1, hb1, hbl, HN.out, by omega, rfl⟩
    · have HE : Hid (b = tgtM lab ls (List.replicate slots false)) := by rw [Hid, ← HR.out, List.drop_eq_nil_of_le (by omega)]; rfl
      have hkl2 : k = ls.length := by omega
      go_wp2_with fail
      go_ret
      exact ⟨rfl, by rw [← HE.out]; exact hbk, hmd⟩
end Go.Proofs.YtnankepcmaoijaaGreatDoor

/- Contract: a program's text, in the document's answer. -/
namespace Go.Proofs.YtnankepcmaoijaaGreatDoor
open Go.RowKit

def mapT (m : RMap) : List UInt8 := [109, 97, 112, 32] ++ BL m.name ++ [32] ++ decM m.key.toNat ++ [32] ++ decM m.value.toNat ++ [32] ++ decM m.entries.toNat ++ [10]
def mapsT (ms : List RMap) : List UInt8 := ms.flatMap mapT

/-- The names of the slots that are led to. -/
def nmG : List Bool → Nat → List ByteArray
  | [], _ => []
  | true :: l, n => labName n :: nmG l (n + 1)
  | false :: l, n => E0 :: nmG l n

def relabel (names : List ByteArray) (lab : Labs) (x : RIns) : RIns := if sortM x.word = 106 then { x with label := names[(labelM x.label lab).toNat]?.getD E0 } else x
def insT (led : List Bool) (names : List ByteArray) (lab : Labs) (x : RIns × Int) : List UInt8 :=
  (if led[x.2.toNat]?.getD false then BL (names[x.2.toNat]?.getD E0) ++ [58, 10] else []) ++ [32, 32] ++ textL (relabel names lab x.1) ++ [10]
def codeT (led : List Bool) (names : List ByteArray) (lab : Labs) (l : List (RIns × Int)) : List UInt8 := l.flatMap (insT led names lab)
def ledOf (f : RFn) (o : FOut) : List Bool := tgtM o.lab o.ls (List.replicate f.slots false)
def fnT (f : RFn) (o : FOut) : List UInt8 := [102, 117, 110, 99, 32] ++ BL f.name ++ [10] ++ codeT (ledOf f o) (nmG (ledOf f o) 0) o.lab (o.ls.zip o.ats)
def fnsT (l : List (RFn × FOut)) : List UInt8 := l.flatMap (fun x => fnT x.1 x.2)
def textM (ms : List RMap) (fs : List RFn) (os : List FOut) : List UInt8 := mapsT ms ++ fnsT (fs.zip os)

structure MOk (m : RMap) : Prop where
  n : m.name.size ≤ 300
  k0 : 0 ≤ m.key
  k1 : m.key ≤ 255
  v0 : 0 ≤ m.value
  v1 : m.value ≤ 255
  e0 : 0 ≤ m.entries
  e1 : m.entries ≤ 255

structure TOk (f : RFn) (o : FOut) : Prop where
  fit : ∀ i ∈ o.ls, i.Fit
  al : o.ats.length = o.ls.length
  ab : ∀ a ∈ o.ats, 0 ≤ a ∧ a < f.slots
  jl : ∀ i ∈ o.ls, sortM i.word = 106 → 0 ≤ labelM i.label o.lab ∧ labelM i.label o.lab < f.slots
  sl : f.slots ≤ 200
  ll : o.ls.length ≤ 200
  lb : o.lab.length ≤ 200
  nm : f.name.size ≤ 300

theorem mapT_len (m : RMap) (h : m.name.size ≤ 300) : (mapT m).length ≤ 400 := by
  unfold mapT
  have := decM_len m.key.toNat
  have := decM_len m.value.toNat
  have := decM_len m.entries.toNat
  have := BL_len m.name
  simp; omega

theorem mapsT_drop (ms : List RMap) (k : Nat) (h : k < ms.length) : mapsT (ms.drop k) = mapT ms[k] ++ mapsT (ms.drop (k + 1)) := by
  rw [List.drop_eq_getElem_cons h, mapsT, List.flatMap_cons]; rfl

theorem mapT_eq (l : List UInt8) (nm : ByteArray) (ky vl en : Int) : T (l ++ mapT ⟨nm, ky, vl, en⟩) = T l ++ T [109, 97, 112, 32] ++ nm ++ T [32] ++ T (decM ky.toNat) ++ T [32] ++ T (decM vl.toNat) ++ T [32] ++ T (decM en.toNat) ++ T [10] := by
  have e : nm = T (BL nm) := (T_BL nm).symm
  rw [e, T_app, T_app, T_app, T_app, T_app, T_app, T_app, T_app, T_app, mapT]
  simp only [List.append_assoc, T_BL]

theorem PInv.frd {w : World} {pb rb gF cF nF : Nat} {vM : Value} {ms : List RMap} {fs : List (RFn × HFn)} {os : List FOut} {bd : Nat → Nat} (h : PInv w pb rb vM (.slice (some ⟨gF, 0, none⟩) nF cF) ms fs os bd) (hn : nF = fs.length) (i : Nat) (hi : i < fs.length) (hi' : i < os.length) {f : RFn} {vL vA vB vP : Value} (hf : fs[i] = (f, ⟨vL, vA, vB, vP⟩)) :
    FRd w gF (i * 8) f.slots vL vA vB vP f.name os[i].ls os[i].ats os[i].lab := by
  subst hn
  obtain ⟨g, hg, hc⟩ := h.rows.atR rfl rfl i hi
  cases hg
  have F := h.each i hi' hi
  rw [hf] at F
  have key : ∀ c, c < 8 → w.cell? ⟨gF, i * 8 + c, none⟩ = (rowC (f, ⟨vL, vA, vB, vP⟩))[c]? := fun c hc' => by rw [hc i hi c hc', hf]
  exact ⟨key 0 (by omega), key 1 (by omega), key 2 (by omega), key 3 (by omega), key 4 (by omega), key 5 (by omega), h.rows.lt gF rfl, F.sl, F.sa, F.sb, F.sp⟩

theorem fnsT_drop (l : List (RFn × FOut)) (k : Nat) (h : k < l.length) : fnsT (l.drop k) = fnT l[k].1 l[k].2 ++ fnsT (l.drop (k + 1)) := by
  rw [List.drop_eq_getElem_cons h, fnsT, List.flatMap_cons]; rfl
theorem tgt_len (lab : Labs) : ∀ (ls : List RIns) (b : List Bool), (tgtM lab ls b).length = b.length
  | [], _ => rfl
  | i :: ls, b => by rw [tgtM, tgt_len]; split <;> simp
theorem led_len (f : RFn) (o : FOut) : (ledOf f o).length = f.slots := by rw [ledOf, tgt_len]; simp
theorem nm_len : ∀ (l : List Bool) (n : Nat), (nmG l n).length = l.length
  | [], _ => rfl
  | true :: l, n => by simp [nmG, nm_len l]
  | false :: l, n => by simp [nmG, nm_len l]
theorem nm_size : ∀ (l : List Bool) (n : Nat), ∀ x ∈ nmG l n, x.size ≤ 100
  | [], _, x, h => by cases h
  | true :: l, n, x, h => by
    rw [nmG, List.mem_cons] at h
    rcases h with rfl | h
    · have := decM_len (n : Int).toNat
      rw [labName, T_size, List.length_cons]; omega
    · exact nm_size l _ x h
  | false :: l, n, x, h => by
    rw [nmG, List.mem_cons] at h
    rcases h with rfl | h
    · decide
    · exact nm_size l _ x h

theorem rep_step (pre : List ByteArray) (n j : Nat) (h : j < n) : pre ++ List.replicate (n - j) ByteArray.empty = (pre ++ [E0]) ++ List.replicate (n - (j + 1)) ByteArray.empty := by
  rw [show n - j = (n - (j + 1)) + 1 by omega, List.replicate_succ, List.append_assoc]; rfl
theorem rep_set (pre : List ByteArray) (n j : Nat) (h : j < n) (hp : pre.length = j) (x : ByteArray) : (pre ++ List.replicate (n - j) ByteArray.empty).set j x = (pre ++ [x]) ++ List.replicate (n - (j + 1)) ByteArray.empty := by
  rw [show n - j = (n - (j + 1)) + 1 by omega, List.replicate_succ, List.set_append_right _ _ (by omega), hp, Nat.sub_self, List.set_cons_zero, List.append_assoc]; rfl
theorem nm_drop (l : List Bool) (j n : Nat) (h : j < l.length) : nmG (l.drop j) n = (if l[j] then labName n else E0) :: nmG (l.drop (j + 1)) (if l[j] then n + 1 else n) := by
  rw [List.drop_eq_getElem_cons h]
  cases l[j] <;> rfl

theorem text_len (i : RIns) (h : i.Fit) : (textL i).length ≤ 800 := by
  have h1 := h.word
  have h2 := h.label
  have h3 := h.name
  have h4 := reg_len i.d.toNat
  have h5 := oth_len i.s i.n
  have h6 := br_len i.s.toNat i.jump
  have h7 := br_len i.d.toNat i.jump
  have h8 := decM_len i.n.toNat
  have b1 := BL_len i.word
  have b2 := BL_len i.label
  have b3 := BL_len i.name
  have hw : (wordL i).length ≤ 102 := by
    unfold wordL; split <;> simp <;> omega
  unfold textL
  dsimp only
  repeat' split
  all_goals simp only [List.length_append, List.length_cons, List.length_nil]; omega
theorem label_fit (i : RIns) (h : i.Fit) (x : ByteArray) (hx : x.size ≤ 100) : RIns.Fit { i with label := x } :=
  ⟨h.d0, h.d1, h.s1, h.s0, h.j0, h.j1, h.n0, h.n1, h.word, hx, h.name, h.is32, h.sort⟩
theorem codeT_drop (led : List Bool) (names : List ByteArray) (lab : Labs) (l : List (RIns × Int)) (k : Nat) (h : k < l.length) : codeT led names lab (l.drop k) = insT led names lab l[k] ++ codeT led names lab (l.drop (k + 1)) := by
  rw [List.drop_eq_getElem_cons h, codeT, List.flatMap_cons]; rfl

theorem lin_eq (A x : List UInt8) : T (A ++ ([32, 32] ++ x ++ [10])) = T A ++ T [32, 32] ++ T x ++ T [10] := by
  rw [T_app, T_app, T_app]; simp only [List.append_assoc]

theorem PInv.atM {w : World} {pb rb nM cM : Nat} {oM : Option Addr} {vF : Value} {ms : List RMap} {fs : List (RFn × HFn)} {os : List FOut} {bd : Nat → Nat} (h : PInv w pb rb (.slice oM nM cM) vF ms fs os bd) (hn : nM = ms.length) :
    ∀ k (hk : k < ms.length), ∃ g, oM = some ⟨g, 0, none⟩ ∧ w.cell? ⟨g, k * 4, none⟩ = some (.string ms[k].name) ∧ w.cell? ⟨g, k * 4 + 1, none⟩ = some (.int .i64 ms[k].key) ∧ w.cell? ⟨g, k * 4 + 2, none⟩ = some (.int .i64 ms[k].value) ∧ w.cell? ⟨g, k * 4 + 3, none⟩ = some (.int .i64 ms[k].entries) := by
  intro k hk
  subst hn
  obtain ⟨g, hg, hc⟩ := h.maps.at4 rfl rfl k hk
  exact ⟨g, hg, hc k hk⟩

theorem Ext.cells4 {S : Nat → Prop} {w : World} {b : Nat} {v0 v1 v2 v3 : Value} {t : TypeId} (h : Blk w b #[v0, v1, v2, v3] t) (hb : ¬ S b) :
    (∀ g : Ext S w, g.w.cell? ⟨b, 0, none⟩ = some v0) ∧ (∀ g : Ext S w, g.w.cell? ⟨b, 1, none⟩ = some v1) ∧ (∀ g : Ext S w, g.w.cell? ⟨b, 2, none⟩ = some v2) ∧ (∀ g : Ext S w, g.w.cell? ⟨b, 3, none⟩ = some v3) :=
  ⟨fun g => g.cell h hb 0, fun g => g.cell h hb 1, fun g => g.cell h hb 2, fun g => g.cell h hb 3⟩

set_option maxRecDepth 100000 in
set_option maxHeartbeats 1000000 in
theorem progtext_any (w : World) (pb rb' : Nat) (vM vF : Value) (ms : List RMap) (fx : List (RFn × HFn)) (os : List FOut) (bd : Nat → Nat) (hI : PInv w pb rb' vM vF ms fx os bd)
    (hl : os.length = fx.length) (hf : fx.length ≤ 16) (hm : ms.length ≤ 8) (hms : ∀ m ∈ ms, MOk m) (hfo : ∀ i (h : i < fx.length) (h' : i < os.length), TOk fx[i].1 os[i]) :
    Calls Tryz.prog 7 #[.pointer (some ⟨pb, 0, none⟩)] w fun e w' => e = .returned (.string (T (textM ms (fx.map (·.1)) os))) ∧ Mods Nil' w w' := by
  obtain ⟨oM, cM, hvM, _⟩ := hI.maps.view
  obtain ⟨oF, cF, hvF, _⟩ := hI.rows.view
  subst hvM hvF
  have p0 : w.cell? ⟨pb, 0, none⟩ = some (.slice oM ms.length cM) := hI.prog.cell 0
  have HI : Hid _ := hI
  have HMS : Hid _ := hms
  have HFO : Hid _ := hfo
  clear hI hms hfo
  go_enter Tryz.func7, Tryz.ntmps7
  go_wp2_with fail
  go_loopg [3, 4] ms.length (fun g ov iv wx => ∃ (k : Nat) (l : List UInt8), ov = .string (T l) ∧ iv = .int .i64 k ∧ l ++ mapsT (ms.drop k) = mapsT ms ∧ l.length ≤ k * 400 ∧ Mods Nil' w wx ∧ k ≤ ms.length ∧ g = ms.length - k)
  case atStart => exact ⟨0, [], rfl, rfl, rfl, Nat.zero_le _, Mods.refl _ _, Nat.zero_le _, rfl⟩
  case round =>
    obtain ⟨k, l, rfl, rfl, HR0, hll, hmd, hk, rfl⟩ := hrel
    have HR : Hid _ := HR0
    clear HR0 p0
    have hI := HI.out.quiet hmd
    have p0 : wr.cell? ⟨pb, 0, none⟩ = some (.slice oM ms.length cM) := hI.prog.cell 0
    have p1 : wr.cell? ⟨pb, 1, none⟩ = some (.slice oF fx.length cF) := hI.prog.cell 1
    by_cases hkl : k < ms.length
    · obtain ⟨gM, rfl, c0, c1, c2, c3⟩ := hI.atM rfl k hkl
      have hok := HMS.out ms[k] (List.getElem_mem hkl)
      have hml := mapT_len ms[k] hok.n
      have HD : Hid (l ++ mapT ms[k] ++ mapsT (ms.drop (k + 1)) = mapsT ms) := by
        rw [Hid, ← HR.out, mapsT_drop ms k hkl, List.append_assoc]
      generalize ms[k] = m at *
      obtain ⟨nm, ky, vl, en⟩ := m
      obtain ⟨n0, k0, k1, v0, v1, n2, n3⟩ := hok
      simp only at *
      obtain ⟨sk, hsk, hskl⟩ := open_text (decM_len ky.toNat)
      obtain ⟨sv, hsv, hsvl⟩ := open_text (decM_len vl.toNat)
      obtain ⟨se, hse, hsel⟩ := open_text (decM_len en.toNat)
      have dk := decimal_int ky k0 (by omega)
      have dv := decimal_int vl v0 (by omega)
      have de := decimal_int en n2 (by omega)
      rw [← hsk.out] at dk
      rw [← hsv.out] at dv
      rw [← hse.out] at de
      obtain ⟨so, hso⟩ : ∃ o, o = T l := ⟨_, rfl⟩
      have hsol : so.size ≤ k * 400 := by rw [hso, T_size]; exact hll
      have HSO : Hid _ := hso
      rw [← hso]
      have HLL : Hid _ := hll
      clear hso hll
      go_upto_region 6 with fail
      have hbm := Blk.new wr #[.string nm, .int .i64 ky, .int .i64 vl, .int .i64 en] 42
      have hmd2 : Mods Nil' w (wr.alloc (.cells #[.string nm, .int .i64 ky, .int .i64 vl, .int .i64 en] 42)) := hmd.alloc _
      generalize wr.alloc (Obj.cells #[.string nm, .int .i64 ky, .int .i64 vl, .int .i64 en] 42) = W at *
      obtain ⟨g0, g1, g2, g3⟩ := Ext.cells4 (S := Nil') hbm (fun e => e)
      have ne1 := Ext.ne Nil' W
      refine wp_region_ext Nil' (by kernel_rfl) (by kernel_rfl) ?_
      repeat (go_big_quiet_step (first | (go_at_call_of 16 ky; exact Calls.ext_of (dk _)) | (go_at_call_of 16 vl; exact Calls.ext_of (dv _)) | (go_at_call_of 16 en; exact Calls.ext_of (de _))))
      refine wpQuiet_nil ?_
      rintro w2 ⟨⟨wx, m2⟩, hwx⟩
      simp only at hwx
      subst hwx
      go_wp2_with fail
      go_roundg (ms.length - (k + 1))
      case measure => omega
      case rel =>
        have hlz := HLL.out
        refine ⟨k + 1, l ++ mapT ⟨nm, ky, vl, en⟩, congrArg Value.string ?_, by go_num, HD.out, by rw [List.length_append]; omega, hmd2.trans m2, by omega, rfl⟩
        rw [mapT_eq, ← HSO.out, ← hsk.out, ← hsv.out, ← hse.out]
        rfl
    · obtain rfl : k = ms.length := by omega
      have HM1 : Hid (l = mapsT ms) := by
        have := HR.out
        rw [List.drop_length] at this
        rw [Hid]
        simpa [mapsT] using this
      clear HR
      go_wp2_with fail
      go_loopg [3, 6] fx.length (fun g ov iv wx => ∃ (k : Nat) (l : List UInt8), ov = .string (T l) ∧ iv = .int .i64 k ∧ l ++ fnsT (((fx.map (·.1)).zip os).drop k) = textM ms (fx.map (·.1)) os ∧ l.length ≤ 3200 + k * 300000 ∧ Mods Nil' w wx ∧ k ≤ fx.length ∧ g = fx.length - k)
      case atStart => exact ⟨0, l, rfl, rfl, by rw [HM1.out]; rfl, by omega, hmd, Nat.zero_le _, rfl⟩
      case round =>
        obtain ⟨k, l, rfl, rfl, HR0, hll, hmd, hk, rfl⟩ := hrel
        have HR : Hid _ := HR0
        clear HR0 p0 p1
        have hI := HI.out.quiet hmd
        have p1 : wr.cell? ⟨pb, 1, none⟩ = some (.slice oF fx.length cF) := hI.prog.cell 1
        by_cases hkl : k < fx.length
        · have hko : k < os.length := by omega
          obtain ⟨gF, rfl, _⟩ := hI.rows.atR rfl rfl k hkl
          obtain ⟨f, ⟨vL, vA, vB, vP⟩, hfk⟩ : ∃ f h, fx[k] = (f, h) := ⟨_, _, rfl⟩
          have hT := HFO.out k hkl hko
          rw [hfk] at hT
          simp only at hT
          have hF := hI.frd rfl k hkl hko hfk
          have HD : Hid (l ++ fnT f os[k] ++ fnsT (((fx.map (·.1)).zip os).drop (k + 1)) = textM ms (fx.map (·.1)) os) := by
            rw [Hid, ← HR.out, fnsT_drop _ k (by simp; omega), List.append_assoc]
            simp [hfk]
          generalize os[k] = o at *
          clear HR hfk hI
          obtain ⟨nm, slots⟩ := f
          simp only at hF hT
          have hled := led_len ⟨nm, slots⟩ o
          have hsl := hT.sl
          have hnms := hT.nm
          simp only at hsl hnms hled
          have htg := targets_any wr gF (k * 8) slots vL vA vB vP nm o.ls o.ats o.lab hF (by omega) (by have := hT.ll; omega) (by have := hT.lb; omega) (fun i hi => (hT.fit i hi).word) hT.jl
          have HFN : Hid (fnT ⟨nm, slots⟩ o = [102, 117, 110, 99, 32] ++ BL nm ++ [10] ++ codeT (ledOf ⟨nm, slots⟩ o) (nmG (ledOf ⟨nm, slots⟩ o) 0) o.lab (o.ls.zip o.ats)) := rfl
          rw [show tgtM o.lab o.ls (List.replicate slots false) = ledOf ⟨nm, slots⟩ o from rfl] at htg
          generalize ledOf ⟨nm, slots⟩ o = led at *
          obtain ⟨so, hso⟩ : ∃ o, o = T l := ⟨_, rfl⟩
          have hsol : so.size ≤ 3200 + k * 300000 := by rw [hso, T_size]; exact hll
          have HSO : Hid _ := hso
          rw [← hso]
          have HLL : Hid _ := hll
          clear hso hll
          have f0 := hF.c0
          have hmk := run_make_row' (P := Tryz.prog) 45 9 (.string ByteArray.empty) 16 Tryz.underlying45 info_str rfl .i64 .i64 slots (by omega) (by omega)
          simp only [made_str] at hmk
          go_wp2_with fail
          refine htg.mono ?_
          rintro e w2 ⟨rfl, hb2, m2⟩
          have hF2 := hF.quiet m2
          have hmd2 := hmd.trans m2
          clear htg hF m2 f0 hmd
          have f3 := hF2.c3
          go_wp2_with fail
          clear hmk f3
          have hlg : wr.heap.size < w2.heap.size := hb2.lt
          generalize wr.heap.size = g1 at *
          have HLD : Hid _ := hled
          clear hled
          go_loopg [10, 11] slots (fun g nv jv wx => ∃ (j n : Nat) (pre : List ByteArray), nv = .int .i64 n ∧ jv = .int .i64 j ∧ Mods Nil' w2 wx ∧ Blk wx w2.heap.size (strA (pre ++ List.replicate (slots - j) ByteArray.empty)) 9 ∧ pre.length = j ∧ pre ++ nmG (led.drop j) n = nmG led 0 ∧ n ≤ j ∧ j ≤ slots ∧ g = slots - j)
          case atStart => exact ⟨0, 0, [], rfl, rfl, (Mods.refl _ _).alloc _, Blk.new _ _ _, rfl, rfl, Nat.le_refl _, Nat.zero_le _, rfl⟩
          case round =>
            obtain ⟨j, n, pre, rfl, rfl, hmd3, hb3, hpl, HN0, hnj, hjs, rfl⟩ := hrel
            have HNM : Hid _ := HN0
            have HPL : Hid _ := hpl
            clear HN0 hpl
            have hF3 := hF2.quiet hmd3
            have f3 := hF3.c3
            have hbl := hb2.mods hmd3 (fun e => e)
            by_cases hjl : j < slots
            · have hjd : j < led.length := by rw [HLD.out]; exact hjl
              have cl : wr.cell? ⟨g1, j, none⟩ = some (.bool led[j]) := by rw [hbl.cell j]; exact boolA_get led j hjd
              have HND : Hid _ := nm_drop led j n hjd
              have cn : wr.cell? ⟨w2.heap.size, j, none⟩ = some (.string ByteArray.empty) := by
                rw [hb3.cell j, strA_get _ j (by simp [HPL.out]; omega)]
                simp [HPL.out]
              have cf := hb3.frozen
              have cz : w2.heap.size < wr.heap.size := hb3.lt
              generalize led[j] = lj at *
              cases lj with
              | true =>
                have HX : Hid ((pre ++ [labName n]) ++ nmG (led.drop (j + 1)) (n + 1) = nmG led 0) := by
                  rw [Hid, ← HNM.out, HND.out]; simp
                obtain ⟨sd, hsd, hsdl⟩ := open_text (decM_len (n : Int).toNat)
                have hdc := decimal_int (n : Int) (by omega) (by omega)
                rw [← hsd.out] at hdc
                have HLN : Hid (labName n = T [108] ++ sd) := by rw [Hid, hsd.out, T_app]; rfl
                go_wp2_with fail
                refine (hdc _).mono ?_
                rintro e w4 ⟨rfl, m4⟩
                have hb4 := hb3.mods m4 (fun e => e)
                have hmd4 := hmd3.trans m4
                have cn4 : w4.cell? ⟨w2.heap.size, j, none⟩ = some (.string ByteArray.empty) := by
                  rw [hb4.cell j, ← hb3.cell j]; exact cn
                have cf4 := hb4.frozen
                go_wp2_with fail
                go_roundg (slots - (j + 1))
                case measure => omega
                case rel =>
                  refine ⟨j + 1, n + 1, pre ++ [labName n], by go_num, by go_num, hmd4.set (a := ⟨w2.heap.size, j, none⟩) (.inr (Nat.le_refl _)) _, ?_, by simp [HPL.out], HX.out, by omega, by omega, rfl⟩
                  have := hb4.set j (.string (labName n))
                  rw [strA_set, rep_set pre slots j hjl HPL.out] at this
                  rw [HLN.out] at this ⊢
                  exact this
              | false =>
                have HX : Hid ((pre ++ [E0]) ++ nmG (led.drop (j + 1)) n = nmG led 0) := by
                  rw [Hid, ← HNM.out, HND.out]; simp
                go_wp2_with fail
                go_roundg (slots - (j + 1))
                case measure => omega
                case rel => exact ⟨j + 1, n, pre ++ [E0], rfl, by go_num, hmd3, by rw [← rep_step pre slots j hjl]; exact hb3, by simp [HPL.out], HX.out, by omega, by omega, rfl⟩
            · obtain rfl : slots = j := by omega
              have HNE : Hid (pre = nmG led 0) := by
                have := HNM.out
                rw [List.drop_eq_nil_of_le (by rw [HLD.out]; omega)] at this
                rw [Hid]; simpa [nmG] using this
              rw [Nat.sub_self, List.replicate_zero, List.append_nil, HNE.out] at hb3
              clear HNE HNM
              have HNL : Hid ((nmG led 0).length = slots) := by rw [Hid, nm_len, HLD.out]
              have HNS : Hid (∀ x ∈ nmG led 0, x.size ≤ 100) := nm_size led 0
              generalize nmG led 0 = NM at *
              have HK : Hid (∀ wx, Mods Nil' wr wx → FRd wx gF (k * 8) slots vL vA vB vP nm o.ls o.ats o.lab ∧ Blk wx g1 (boolA led) 4 ∧ Blk wx w2.heap.size (strA NM) 9 ∧ Mods Nil' w wx) :=
                fun wx m => ⟨hF3.quiet m, hbl.mods m (fun e => e), hb3.mods m (fun e => e), (hmd2.trans hmd3).trans m⟩
              have HT : Hid _ := hT
              have HST : Hid (so ++ T [102, 117, 110, 99, 32] ++ nm ++ T [10] = T (l ++ ([102, 117, 110, 99, 32] ++ BL nm ++ [10]))) := by
                have e : nm = T (BL nm) := (T_BL nm).symm
                rw [Hid, HSO.out]
                conv => lhs; rw [e]
                rw [T_app, T_app, T_app]; simp only [List.append_assoc]
              have HLN2 : Hid ((l ++ ([102, 117, 110, 99, 32] ++ BL nm ++ [10])).length ≤ 3506 + k * 300000) := by
                have := HLL.out
                have := BL_len nm
                rw [Hid]; simp only [List.length_append, List.length_cons, List.length_nil]; omega
              have HDD : Hid (l ++ ([102, 117, 110, 99, 32] ++ BL nm ++ [10]) ++ codeT led NM o.lab (o.ls.zip o.ats) ++ fnsT (((fx.map (·.1)).zip os).drop (k + 1)) = textM ms (fx.map (·.1)) os) := by
                rw [Hid, ← HD.out, HFN.out]; simp only [List.append_assoc]
              generalize l ++ ([102, 117, 110, 99, 32] ++ BL nm ++ [10]) = l0 at *
              generalize hrst : fnsT (((fx.map (·.1)).zip os).drop (k + 1)) = RST at HDD
              generalize htot : textM ms (fx.map (·.1)) os = TOT at HDD
              have HRT : Hid (fnsT (((fx.map (·.1)).zip os).drop (k + 1)) = RST ∧ textM ms (fx.map (·.1)) os = TOT) := ⟨hrst, htot⟩
              clear hrst htot
              have hST := HST.out
              obtain ⟨oL, cL, hvL, vwL⟩ := hF3.sl.view
              obtain ⟨oA, cA, hvA, vwA⟩ := hF3.sa.view
              subst hvL hvA
              have hll3 : o.ls.length ≤ 200 := hT.ll
              have c1 := hF3.c1
              clear hT hF3 hF2 hbl hb3 hb2 hmd3 hmd2 HD HFN HSO HLL
              go_upto_block 6 with fail
              rw [show so ++ { data := #[102, 117, 110, 99, 32] } ++ nm ++ { data := #[10] } = T l0 from hST]
              clear hST HST f3
              go_wp2_with fail
              go_loopg [3, 12] o.ls.length (fun g ov qv wx => ∃ (q : Nat) (l4 : List UInt8), ov = .string (T l4) ∧ qv = .int .i64 q ∧ Mods Nil' wr wx ∧ l4 ++ codeT led NM o.lab ((o.ls.zip o.ats).drop q) ++ RST = TOT ∧ l4.length ≤ 3506 + k * 300000 + q * 1000 ∧ q ≤ o.ls.length ∧ g = o.ls.length - q)
              case atStart => exact ⟨0, l0, rfl, rfl, Mods.refl _ _, HDD.out, by have := HLN2.out; omega, Nat.zero_le _, rfl⟩
              case round =>
                obtain ⟨q, l4, rfl, rfl, hmd5, HC0, hl4, hqs, rfl⟩ := hrel
                have HC : Hid _ := HC0
                clear HC0 c1
                obtain ⟨hF5, hb5, hn5, hmw⟩ := HK.out _ hmd5
                have c1 := hF5.c1
                have c2 := hF5.c2
                by_cases hql : q < o.ls.length
                · have hqa : q < o.ats.length := by rw [HT.out.al]; exact hql
                  obtain ⟨gL, csL, rfl, _⟩ := vwL (by omega)
                  obtain ⟨gA, csA, rfl, _⟩ := vwA (by omega)
                  have HF5 : Hid _ := hF5
                  obtain ⟨gA', hgA, cellA⟩ := hF5.sa.at rfl q hqa
                  cases hgA
                  have hcd := codeT_drop led NM o.lab (o.ls.zip o.ats) q (by simp; omega)
                  have ca := cellA q hqa
                  rw [intL, List.getElem?_map, List.getElem?_eq_getElem hqa] at ca
                  simp only [Option.map_some] at ca
                  rw [List.getElem_zip] at hcd
                  have hab := HT.out.ab o.ats[q] (List.getElem_mem hqa)
                  have hfit := HT.out.fit o.ls[q] (List.getElem_mem hql)
                  have hjl := HT.out.jl o.ls[q] (List.getElem_mem hql)
                  obtain ⟨e0, e1, e2, e3, e4, e5, e6, e7, _⟩ := hF5.sl.at8 rfl q hql
                  clear cellA
                  generalize o.ls[q] = x at *
                  generalize o.ats[q] = a at *
                  obtain ⟨t, rfl⟩ : ∃ t : Nat, a = (t : Int) := ⟨a.toNat, by omega⟩
                  have hts : t < slots := by simp only at hab; omega
                  have htl : t < led.length := by rw [HLD.out]; exact hts
                  have htn : t < NM.length := by rw [HNL.out]; exact hts
                  have cl : wr.cell? ⟨g1, t, none⟩ = some (.bool led[t]) := by rw [hb5.cell t]; exact boolA_get led t htl
                  have cn : wr.cell? ⟨w2.heap.size, t, none⟩ = some (.string NM[t]) := by rw [hn5.cell t]; exact strA_get NM t htn
                  have hnz := HNS.out NM[t] (List.getElem_mem htn)
                  have HCD : Hid (l4 ++ ((if led[t] then BL NM[t] ++ [58, 10] else []) ++ [32, 32] ++ textL (relabel NM o.lab x) ++ [10]) ++ codeT led NM o.lab ((o.ls.zip o.ats).drop (q + 1)) ++ RST = TOT) := by
                    have := HC.out
                    rw [hcd] at this
                    rw [Hid, ← this, insT]
                    simp [htl, htn]
                  generalize hlt : led[t] = lt at *
                  generalize NM[t] = nt at *
                  clear hcd HC hlt
                  have HJL : Hid _ := hjl
                  have hwz := hfit.word
                  have H5 : Hid (Blk wr g1 (boolA led) 4 ∧ Blk wr w2.heap.size (strA NM) 9) := ⟨hb5, hn5⟩
                  clear hjl hb5 hn5 hF5
                  obtain ⟨s4, hs4⟩ : ∃ s4, s4 = T l4 := ⟨_, rfl⟩
                  have hs4l : s4.size ≤ 3506 + k * 300000 + q * 1000 := by rw [hs4, T_size]; exact hl4
                  have HS4 : Hid _ := hs4
                  rw [← hs4]
                  have HL4 : Hid _ := hl4
                  clear hs4 hl4
                  obtain ⟨xw, x32, xd, xs, xj, xn, xl, xm⟩ := x
                  simp only at e0 e1 e2 e3 e4 e5 e6 e7 hwz
                  have HMZ : Hid _ := hmd5.size
                  cases lt with
                  | true =>
                    have HS5 : Hid ((s4 ++ nt ++ T [58, 10]) = T (l4 ++ (BL nt ++ [58, 10]))) := by
                      rw [Hid, ← T_app, ← T_app, T_BL, HS4.out, ByteArray.append_assoc]
                    have HL5 : Hid ((l4 ++ (BL nt ++ [58, 10])).length ≤ 3506 + k * 300000 + q * 1000 + 102) := by
                      have := HL4.out
                      have := BL_len nt
                      rw [Hid]; simp only [List.length_append, List.length_cons, List.length_nil]; omega
                    have HC5 : Hid ((l4 ++ (BL nt ++ [58, 10])) ++ ([32, 32] ++ textL (relabel NM o.lab ⟨xw, x32, xd, xs, xj, xn, xl, xm⟩) ++ [10]) ++ codeT led NM o.lab ((o.ls.zip o.ats).drop (q + 1)) ++ RST = TOT) := by
                      rw [Hid, ← HCD.out]; simp
                    go_wp2_with fail
                    refine (sort_any _ _ (by unfold maxLen; omega)).mono ?_
                    rintro e w6 ⟨rfl, m6⟩
                    have hF6 := (HF5.out.quiet ((Mods.refl _ _).alloc (.cells #[.string xw, .bool x32, .int .i64 xd, .int .i64 xs, .int .i64 xj, .int .u64 xn, .string xl, .string xm] 57))).quiet m6
                    have hb6 : Blk w6 wr.heap.size #[.string xw, .bool x32, .int .i64 xd, .int .i64 xs, .int .i64 xj, .int .u64 xn, .string xl, .string xm] 57 := (Blk.new wr _ _).mods m6 (fun e => e)
                    have hn6 := ((H5.out.2.alloc (.cells #[.string xw, .bool x32, .int .i64 xd, .int .i64 xs, .int .i64 xj, .int .u64 xn, .string xl, .string xm] 57)).mods m6 (fun e => e))
                    have hmd6 := (hmd5.alloc (.cells #[.string xw, .bool x32, .int .i64 xd, .int .i64 xs, .int .i64 xj, .int .u64 xn, .string xl, .string xm] 57)).trans m6
                    clear m6 e0 e1 e2 e3 e4 e5 e6 e7 c1 c2 ca cl cn
                    obtain ⟨e0, e1, e2, e3, e4, e5, e6, e7⟩ := hb6.cells8
                    have ef := hb6.frozen
                    by_cases hs6 : sortM xw = 106
                    · rw [hs6]
                      obtain ⟨j0, j1⟩ := HJL.out hs6
                      have hlc := label_any gF (k * 8) xl o.lab vB vP w6 hF6.c4 hF6.c5 hF6.sb hF6.sp (by have := HT.out.lb; omega)
                      obtain ⟨t2, ht2⟩ : ∃ t2 : Nat, labelM xl o.lab = (t2 : Int) := ⟨(labelM xl o.lab).toNat, by omega⟩
                      have ht2s : t2 < slots := by simp only [ht2] at j1; omega
                      have ht2n : t2 < NM.length := by rw [HNL.out]; exact ht2s
                      have cn2 : w6.cell? ⟨w2.heap.size, t2, none⟩ = some (.string NM[t2]) := by rw [hn6.cell t2]; exact strA_get NM t2 ht2n
                      have hz2 := HNS.out NM[t2] (List.getElem_mem ht2n)
                      have HRL : Hid (relabel NM o.lab ⟨xw, x32, xd, xs, xj, xn, xl, xm⟩ = ⟨xw, x32, xd, xs, xj, xn, NM[t2], xm⟩) := by
                        rw [Hid, relabel, if_pos hs6]; simp [ht2, ht2n]
                      rw [ht2] at hlc
                      generalize NM[t2] = nt2 at *
                      rw [HRL.out] at HC5
                      have hfit2 := label_fit ⟨xw, x32, xd, xs, xj, xn, xl, xm⟩ hfit nt2 hz2
                      obtain ⟨st, hst, hstl⟩ := open_text (text_len ⟨xw, x32, xd, xs, xj, xn, nt2, xm⟩ hfit2)
                      have htx := text_any ⟨xw, x32, xd, xs, xj, xn, nt2, xm⟩ hfit2
                      rw [← hst.out] at htx
                      have HC6 : Hid _ := HC5
                      clear ht2 HC5 HCD HRL
                      go_wp2_with (first | (go_at_call 19; refine hlc.mono ?_; rintro e w7 ⟨rfl, rfl⟩) | (go_at_call 20; refine (htx _).mono ?_; rintro e w8 ⟨rfl, m8⟩))
                      go_roundg (o.ls.length - (q + 1))
                      case measure => omega
                      case rel =>
                        have hl5 := HL5.out
                        have hl6 := text_len ⟨xw, x32, xd, xs, xj, xn, nt2, xm⟩ hfit2
                        refine ⟨q + 1, (l4 ++ (BL nt ++ [58, 10])) ++ ([32, 32] ++ textL ⟨xw, x32, xd, xs, xj, xn, nt2, xm⟩ ++ [10]), congrArg Value.string ?_, by go_num, (hmd6.set (a := ⟨wr.heap.size, 6, none⟩) (.inr HMZ.out) _).trans m8, HC6.out, by simp only [List.length_append, List.length_cons, List.length_nil] at hl5 hl6 ⊢; omega, by omega, rfl⟩
                        rw [lin_eq, ← HS5.out, ← hst.out]
                        rfl
                    · have HRL : Hid (relabel NM o.lab ⟨xw, x32, xd, xs, xj, xn, xl, xm⟩ = ⟨xw, x32, xd, xs, xj, xn, xl, xm⟩) := by rw [Hid, relabel, if_neg hs6]
                      rw [HRL.out] at HC5
                      obtain ⟨st, hst, hstl⟩ := open_text (text_len ⟨xw, x32, xd, xs, xj, xn, xl, xm⟩ hfit)
                      have htx := text_any ⟨xw, x32, xd, xs, xj, xn, xl, xm⟩ hfit
                      rw [← hst.out] at htx
                      have HC6 : Hid _ := HC5
                      clear HC5 HCD HRL
                      go_wp2_with (go_at_call 20; refine (htx _).mono ?_; rintro e w8 ⟨rfl, m8⟩)
                      go_roundg (o.ls.length - (q + 1))
                      case measure => omega
                      case rel =>
                        have hl5 := HL5.out
                        have hl6 := text_len ⟨xw, x32, xd, xs, xj, xn, xl, xm⟩ hfit
                        refine ⟨q + 1, (l4 ++ (BL nt ++ [58, 10])) ++ ([32, 32] ++ textL ⟨xw, x32, xd, xs, xj, xn, xl, xm⟩ ++ [10]), congrArg Value.string ?_, by go_num, hmd6.trans m8, HC6.out, by simp only [List.length_append, List.length_cons, List.length_nil] at hl5 hl6 ⊢; omega, by omega, rfl⟩
                        rw [lin_eq, ← HS5.out, ← hst.out]
                        rfl
                  | false =>
                    have HS5 : Hid (s4 = T l4) := HS4.out
                    have HL5 : Hid (l4.length ≤ 3506 + k * 300000 + q * 1000 + 102) := by have := HL4.out; rw [Hid]; omega
                    have HC5 : Hid (l4 ++ ([32, 32] ++ textL (relabel NM o.lab ⟨xw, x32, xd, xs, xj, xn, xl, xm⟩) ++ [10]) ++ codeT led NM o.lab ((o.ls.zip o.ats).drop (q + 1)) ++ RST = TOT) := by
                      rw [Hid, ← HCD.out]; simp
                    go_wp2_with fail
                    refine (sort_any _ _ (by unfold maxLen; omega)).mono ?_
                    rintro e w6 ⟨rfl, m6⟩
                    have hF6 := (HF5.out.quiet ((Mods.refl _ _).alloc (.cells #[.string xw, .bool x32, .int .i64 xd, .int .i64 xs, .int .i64 xj, .int .u64 xn, .string xl, .string xm] 57))).quiet m6
                    have hb6 : Blk w6 wr.heap.size #[.string xw, .bool x32, .int .i64 xd, .int .i64 xs, .int .i64 xj, .int .u64 xn, .string xl, .string xm] 57 := (Blk.new wr _ _).mods m6 (fun e => e)
                    have hn6 := ((H5.out.2.alloc (.cells #[.string xw, .bool x32, .int .i64 xd, .int .i64 xs, .int .i64 xj, .int .u64 xn, .string xl, .string xm] 57)).mods m6 (fun e => e))
                    have hmd6 := (hmd5.alloc (.cells #[.string xw, .bool x32, .int .i64 xd, .int .i64 xs, .int .i64 xj, .int .u64 xn, .string xl, .string xm] 57)).trans m6
                    clear m6 e0 e1 e2 e3 e4 e5 e6 e7 c1 c2 ca cl cn
                    obtain ⟨e0, e1, e2, e3, e4, e5, e6, e7⟩ := hb6.cells8
                    have ef := hb6.frozen
                    by_cases hs6 : sortM xw = 106
                    · rw [hs6]
                      obtain ⟨j0, j1⟩ := HJL.out hs6
                      have hlc := label_any gF (k * 8) xl o.lab vB vP w6 hF6.c4 hF6.c5 hF6.sb hF6.sp (by have := HT.out.lb; omega)
                      obtain ⟨t2, ht2⟩ : ∃ t2 : Nat, labelM xl o.lab = (t2 : Int) := ⟨(labelM xl o.lab).toNat, by omega⟩
                      have ht2s : t2 < slots := by simp only [ht2] at j1; omega
                      have ht2n : t2 < NM.length := by rw [HNL.out]; exact ht2s
                      have cn2 : w6.cell? ⟨w2.heap.size, t2, none⟩ = some (.string NM[t2]) := by rw [hn6.cell t2]; exact strA_get NM t2 ht2n
                      have hz2 := HNS.out NM[t2] (List.getElem_mem ht2n)
                      have HRL : Hid (relabel NM o.lab ⟨xw, x32, xd, xs, xj, xn, xl, xm⟩ = ⟨xw, x32, xd, xs, xj, xn, NM[t2], xm⟩) := by
                        rw [Hid, relabel, if_pos hs6]; simp [ht2, ht2n]
                      rw [ht2] at hlc
                      generalize NM[t2] = nt2 at *
                      rw [HRL.out] at HC5
                      have hfit2 := label_fit ⟨xw, x32, xd, xs, xj, xn, xl, xm⟩ hfit nt2 hz2
                      obtain ⟨st, hst, hstl⟩ := open_text (text_len ⟨xw, x32, xd, xs, xj, xn, nt2, xm⟩ hfit2)
                      have htx := text_any ⟨xw, x32, xd, xs, xj, xn, nt2, xm⟩ hfit2
                      rw [← hst.out] at htx
                      have HC6 : Hid _ := HC5
                      clear ht2 HC5 HCD HRL
                      go_wp2_with (first | (go_at_call 19; refine hlc.mono ?_; rintro e w7 ⟨rfl, rfl⟩) | (go_at_call 20; refine (htx _).mono ?_; rintro e w8 ⟨rfl, m8⟩))
                      go_roundg (o.ls.length - (q + 1))
                      case measure => omega
                      case rel =>
                        have hl5 := HL5.out
                        have hl6 := text_len ⟨xw, x32, xd, xs, xj, xn, nt2, xm⟩ hfit2
                        refine ⟨q + 1, l4 ++ ([32, 32] ++ textL ⟨xw, x32, xd, xs, xj, xn, nt2, xm⟩ ++ [10]), congrArg Value.string ?_, by go_num, (hmd6.set (a := ⟨wr.heap.size, 6, none⟩) (.inr HMZ.out) _).trans m8, HC6.out, by simp only [List.length_append, List.length_cons, List.length_nil] at hl5 hl6 ⊢; omega, by omega, rfl⟩
                        rw [lin_eq, ← HS5.out, ← hst.out]
                        rfl
                    · have HRL : Hid (relabel NM o.lab ⟨xw, x32, xd, xs, xj, xn, xl, xm⟩ = ⟨xw, x32, xd, xs, xj, xn, xl, xm⟩) := by rw [Hid, relabel, if_neg hs6]
                      rw [HRL.out] at HC5
                      obtain ⟨st, hst, hstl⟩ := open_text (text_len ⟨xw, x32, xd, xs, xj, xn, xl, xm⟩ hfit)
                      have htx := text_any ⟨xw, x32, xd, xs, xj, xn, xl, xm⟩ hfit
                      rw [← hst.out] at htx
                      have HC6 : Hid _ := HC5
                      clear HC5 HCD HRL
                      go_wp2_with (go_at_call 20; refine (htx _).mono ?_; rintro e w8 ⟨rfl, m8⟩)
                      go_roundg (o.ls.length - (q + 1))
                      case measure => omega
                      case rel =>
                        have hl5 := HL5.out
                        have hl6 := text_len ⟨xw, x32, xd, xs, xj, xn, xl, xm⟩ hfit
                        refine ⟨q + 1, l4 ++ ([32, 32] ++ textL ⟨xw, x32, xd, xs, xj, xn, xl, xm⟩ ++ [10]), congrArg Value.string ?_, by go_num, hmd6.trans m8, HC6.out, by simp only [List.length_append, List.length_cons, List.length_nil] at hl5 hl6 ⊢; omega, by omega, rfl⟩
                        rw [lin_eq, ← HS5.out, ← hst.out]
                        rfl
                · obtain rfl : o.ls.length = q := by omega
                  have HE : Hid (l4 ++ RST = TOT) := by
                    have := HC.out
                    rw [List.drop_eq_nil_of_le (by simp; omega)] at this
                    rw [Hid]; simpa [codeT] using this
                  go_wp2_with fail
                  go_roundg (fx.length - (k + 1))
                  case measure => omega
                  case rel => exact ⟨k + 1, l4, rfl, by go_num, by rw [HRT.out.1, HRT.out.2]; exact HE.out, by omega, hmw, by omega, rfl⟩
        · have HE : Hid (l = textM ms (fx.map (·.1)) os) := by
            have := HR.out
            rw [List.drop_eq_nil_of_le (by simp; omega)] at this
            rw [Hid]
            simpa [fnsT] using this
          obtain rfl : k = fx.length := by omega
          go_wp2_with fail
          go_ret
          exact ⟨by rw [← HE.out]; rfl, hmd⟩
end Go.Proofs.YtnankepcmaoijaaGreatDoor
