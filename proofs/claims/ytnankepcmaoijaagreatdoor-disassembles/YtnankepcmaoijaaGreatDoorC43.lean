/- What a right object holds, for the text. -/
import Derived.Test.YtnankepcmaoijaaGreatDoorC42
import Derived.Test.YtnankepcmaoijaaGreatDoorC33
namespace Go.Proofs.YtnankepcmaoijaaGreatDoor
open Go.RowKit

theorem name_le (q : PR) : (nameP q).1.length ≤ 255 := by
  have h1 := take_le (oneP q).1 (oneP q).2
  have h2 := one_lt q
  show (takeP (oneP q).1 (oneP q).2).1.length ≤ 255
  omega
theorem ref_le (n slot : Nat) (q : PR) : (refP n slot q).1.length ≤ 255 := name_le _

structure PMOk (m : PMap) : Prop where
  n : m.name.length ≤ 255
  k : m.key < 256
  v : m.value < 256
  e : m.entries < 256
theorem mapsP_ok : ∀ (k : Nat) (q : PR) (last : List UInt8) (acc : List PMap), (∀ m ∈ acc, PMOk m) → ∀ m ∈ (mapsP k q last acc).1, PMOk m
  | 0, _, _, _, h => h
  | k + 1, q, last, acc, h => by
    rw [mapsP]
    refine mapsP_ok k _ _ _ (fun m hm => ?_)
    rcases List.mem_append.1 hm with hm | hm
    · exact h m hm
    · rw [List.mem_singleton.1 hm]
      exact ⟨name_le _, one_lt _, one_lt _, one_lt _⟩
theorem codeL_nm (sl : List UInt8) (n : Nat) : ∀ (f p : Nat) (acc : List PI) (st : List Bool) (l : List PI) (st' : List Bool), codeL sl n f p acc st = some (l, st') → (∀ x ∈ acc, x.name = []) → ∀ x ∈ l, x.name = []
  | 0, _, _, _, _, _, h, _ => by cases h
  | f + 1, p, acc, st, l, st', h, ha => by
    rw [codeL] at h
    split at h
    · split at h
      · cases h
      · rename_i x hx
        exact codeL_nm sl n f _ _ _ l st' h (fun y hy => by
          rcases List.mem_append.1 hy with hy | hy
          · exact ha y hy
          · rw [List.mem_singleton.1 hy]; exact from_nm _ _ hx)
    · cases h; exact ha
theorem codeP_nm (sl : List UInt8) (q : PR) : ∀ x ∈ (codeP sl q).1, x.name = [] := by
  unfold codeP
  split
  · intro x hx; cases hx
  · rename_i l st h
    exact codeL_nm sl _ _ _ _ _ l st h (fun x hx => (by cases hx))
theorem codesP_nm : ∀ (hs : List PHead) (r : PR) (acc : List PFn), (∀ f ∈ acc, ∀ x ∈ f.code, x.name = []) → ∀ f ∈ (codesP hs r acc).1, ∀ x ∈ f.code, x.name = []
  | [], _, _, h => h
  | h :: hs, r, acc, ha => by
    rw [codesP]
    refine codesP_nm hs _ _ (fun f hf => ?_)
    rcases List.mem_append.1 hf with hf | hf
    · exact ha f hf
    · rw [List.mem_singleton.1 hf]; exact codeP_nm _ _
theorem funcsP_nm (q : PR) : ∀ f ∈ (funcsP q).1, ∀ x ∈ f.code, x.name = [] := by
  unfold funcsP
  simp only
  split
  · intro f hf; cases hf
  · exact codesP_nm _ _ _ (fun f hf => (by cases hf))
theorem refsI_nm (ms : List PMap) (n : Nat) : ∀ (sl : Nat) (l : List PI) (left : Int) (r : PR) (acc : List PI), (∀ x ∈ acc, x.name.length ≤ 255) → (∀ x ∈ l, x.name = []) → ∀ x ∈ (refsI ms n sl l left r acc).1, x.name.length ≤ 255
  | _, [], _, _, _, ha, _ => ha
  | sl, x :: l, left, r, acc, ha, hl => by
    rw [refsI]
    have hl2 : ∀ y ∈ l, y.name = [] := fun y hy => hl y (List.mem_cons_of_mem _ hy)
    split
    · refine refsI_nm ms n _ l _ _ _ (fun y hy => ?_) hl2
      rcases List.mem_append.1 hy with hy | hy
      · exact ha y hy
      · rw [List.mem_singleton.1 hy]; exact ref_le _ _ _
    · refine refsI_nm ms n _ l _ _ _ (fun y hy => ?_) hl2
      rcases List.mem_append.1 hy with hy | hy
      · exact ha y hy
      · rw [List.mem_singleton.1 hy, hl x (by simp)]; simp
theorem refsF_nm (ms : List PMap) : ∀ (done l : List PFn) (left : Int) (r : PR), (∀ f ∈ done, ∀ x ∈ f.code, x.name.length ≤ 255) → (∀ f ∈ l, ∀ x ∈ f.code, x.name = []) → ∀ f ∈ (refsF ms done l left r).1, ∀ x ∈ f.code, x.name.length ≤ 255
  | _, [], _, _, hd, _ => hd
  | done, f :: l, left, r, hd, hl => by
    rw [refsF]
    refine refsF_nm ms _ l _ _ (fun g hg => ?_) (fun g hg => hl g (List.mem_cons_of_mem _ hg))
    rcases List.mem_append.1 hg with hg | hg
    · exact hd g hg
    · rw [List.mem_singleton.1 hg]
      exact refsI_nm ms _ _ _ _ _ _ (fun x hx => (by cases hx)) (hl f (by simp))
theorem dec_nm (s : List UInt8) : (∀ m ∈ (decodeP s).1, PMOk m) ∧ ∀ f ∈ (decodeP s).2.1, ∀ x ∈ f.code, x.name.length ≤ 255 := by
  constructor
  · exact mapsP_ok _ _ _ _ (fun m hm => (by cases hm))
  · exact refsF_nm _ [] _ _ _ (fun f hf => (by cases hf)) (funcsP_nm _)

theorem lead_jok (st : List Bool) : ∀ (l : List PI) (slot : Nat), leadP st slot l = true → JOk st.length slot l
  | [], _, _ => trivial
  | x :: l, slot, h => by
    rw [leadP, Bool.and_eq_true] at h
    refine ⟨fun hj => ?_, lead_jok st l _ h.2⟩
    have h1 := h.1
    rw [hj, if_pos rfl, Bool.and_eq_true] at h1
    refine ⟨by simpa using h1.1, ?_⟩
    rcases Nat.lt_or_ge (x.target slot).toNat st.length with h2 | h2
    · exact h2
    · have := h1.2
      rw [List.getElem?_eq_none h2] at this
      cases this
theorem slots_ge (l : List PI) (h : ∀ x ∈ l, x.Ok) : l.length ≤ slotsP l := by
  induction l with
  | nil => simp
  | cons x l ih =>
    have h1 := (h x (by simp)).slots
    have h2 := ih (fun y hy => h y (List.mem_cons_of_mem _ hy))
    unfold slotsP at *
    simp only [List.length_cons, List.map_cons, List.sum_cons]
    omega

structure PFnOk (f : PFn) : Prop where
  n : f.name.length ≤ 255
  l : f.code.length ≤ 200
  ok : ∀ x ∈ f.code, x.o.needs (x.ins []) = true
  j : JOk (slotsP f.code) 0 f.code

theorem nameB_le (l : List UInt8) (h : nameB l = true) : l.length ≤ 255 := by
  cases l with
  | nil => simp
  | cons c r =>
    simp only [nameB, Bool.and_eq_true, decide_eq_true_eq] at h
    simp only [List.length_cons] at *
    omega

theorem fns_ok : ∀ (hs : List PHead) (gs fs : List PFn), HOk hs gs → SameF gs fs → (∀ h ∈ hs, h.slots ≤ 200 ∧ nameB h.name = true) → fs.length = hs.length ∧ ∀ f ∈ fs, PFnOk f
  | [], [], [], _, _, _ => ⟨rfl, fun f hf => (by cases hf)⟩
  | [], [], f :: fs, _, h, _ => h.elim
  | h :: hs, g :: gs, [], _, h', _ => h'.elim
  | h :: hs, g :: gs, f :: fs, h1, h2, h3 => by
    obtain ⟨i1, i2⟩ := fns_ok hs gs fs h1.2 h2.2 (fun x hx => h3 x (List.mem_cons_of_mem _ hx))
    refine ⟨by simp [i1], fun y hy => ?_⟩
    rcases List.mem_cons.1 hy with rfl | hy
    · obtain ⟨st, hst, hld⟩ := h1.1.2.ld
      have hs1 := (h2.1.2.slots 0).2
      have hs2 := h1.1.2.sl
      have h4 := h3 h (by simp)
      have hok := h2.1.2.ok h1.1.2.ok
      have hlen := slots_ge y.code hok
      refine ⟨by rw [h2.1.1, h1.1.1]; exact nameB_le _ h4.2, by omega, fun x hx => (hok x hx).needs, ?_⟩
      have := lead_jok st y.code 0 (by rw [← h2.1.2.lead]; exact hld)
      rw [hst.1] at this
      rw [← hs1, hs2]
      exact this
    · exact i2 y hy
  | [], g :: gs, _, h, _, _ => h.elim
  | h :: hs, [], _, h', _, _ => h'.elim

theorem dec_ok (s : ByteArray) (h : (decodeP (BL s)).2.2.bad = false) : (decodeP (BL s)).1.length ≤ 8 ∧ (decodeP (BL s)).2.1.length ≤ 16 ∧ ∀ f ∈ (decodeP (BL s)).2.1, PFnOk f := by
  obtain ⟨o, _, hO⟩ := (decode_sim s).1 h
  obtain ⟨hs, gs, _, h1, h2, h3, h4⟩ := hO.ex
  obtain ⟨i1, i2⟩ := fns_ok hs gs _ h1 h2 h3
  exact ⟨hO.ml, by omega, i2⟩
end Go.Proofs.YtnankepcmaoijaaGreatDoor

/- Contract: disassembling. -/
namespace Go.Proofs.YtnankepcmaoijaaGreatDoor
open Go.RowKit

def disV : Option (List UInt8) → Value
  | none => .tuple #[.string ⟨#[]⟩, .int .i64 7]
  | some t => .tuple #[.string (T t), .int .i64 0]

theorem sizeT_len (n : Nat) (h : n < 256) : (sizeT n).length ≤ 22 := by
  have := itoa_len (n : Int) (by omega) (by omega)
  simp only [sizeT, List.length_cons]
  omega

/-- Worlds that keep a map's copy. -/
structure KeepM (cb : Nat) (cs : Array Value) where
  w : World
  c : Blk w cb cs 73

theorem bnew (w : World) : BAbove w w.heap.size w.heap.size [] (w.alloc (.cells #[.pointer none, .slice none 0 0] 71)) :=
  ⟨builder_new w, ((Mods.refl Nil' w).alloc _).below, by simp⟩

set_option maxRecDepth 100000 in
set_option maxHeartbeats 2000000 in
theorem pdis_any (w : World) (hE : Env w) (hW : EnvW w) (s : List UInt8) (hs : s.length ≤ maxLen) :
    Calls Tryz.prog 9 #[.string (T s)] w fun e w' => e = .returned (disV (disP s)) ∧ Mods Nil' w w' := by
  have HE : Hid (Env w) := hE
  have HTab : Hid (Calls Tryz.prog 22 #[] w fun e w' => ∃ v bs, e = .returned v ∧ OpsIn 0 w' v bs tableS ∧ Mods Nil' w w') := table_any w hW
  have hdp : disP s = if (decodeP s).2.2.bad then none else some (textP (decodeP s).1 (decodeP s).2.1) := rfl
  have hnm := dec_nm s
  have hdo := dec_ok (T s)
  have hdo2 : (decodeP s).2.2.bad = false → (decodeP s).1.length ≤ 8 ∧ (decodeP s).2.1.length ≤ 16 ∧ ∀ f ∈ (decodeP s).2.1, PFnOk f := hdo
  have HDec : Hid (∀ (wT : World) (tv : Value) (bs : List Nat), OpsIn 0 wT tv bs tableS → Calls Tryz.prog 21 #[tv, .string (T s)] wT fun e w' => DecPost wT bs (decodeP s) e w') := fun wT tv bs hT => decObj_any wT wT tv bs hT (Mods.refl _ _) s hs
  rw [hdp]
  have HNm : Hid _ := hnm
  have HDo : Hid _ := hdo2
  clear hdp hnm hdo hdo2 hE hW
  generalize decodeP s = d at *
  obtain ⟨ms, fs, ⟨rst, bad⟩⟩ := d
  simp only at *
  go_enter Tryz.func9, Tryz.ntmps9
  go_wp2_with fail
  refine HTab.out.mono ?_
  rintro e w1 ⟨tv, bs, rfl, hO, m1⟩
  obtain ⟨oT, cT, hv, _⟩ := hO.sl.view
  subst hv
  have HO : Hid (OpsIn 0 w1 (.slice oT bs.length cT) bs tableS) := hO
  have HM1 : Hid (Mods Nil' w w1) := m1
  clear hO m1 HTab
  go_wp2_with fail
  refine (HDec.out _ _ _ HO.out).mono ?_
  rintro e w2 ⟨vM, vF, vs, rfl, m2, ⟨oM, nM, cM, oF, nF, cF, rfl, rfl⟩, hgood⟩
  have HM2 : Hid (Mods Nil' w1 w2) := m2
  have HG : Hid _ := hgood
  clear m2 hgood HDec
  cases bad with
  | true =>
    go_wp2_with fail
    go_ret2
    exact ⟨rfl, (HM1.out.trans HM2.out).alloc _⟩
  | false =>
    obtain ⟨hmL, hF⟩ := HG.out rfl
    obtain ⟨d1, d2, d3⟩ := HDo.out rfl
    obtain ⟨n1, n2⟩ := HNm.out
    obtain rfl : nM = ms.length := by obtain ⟨_, _, e, _⟩ := hmL.view; cases e; rfl
    obtain rfl : nF = fs.length := by obtain ⟨_, _, e, _⟩ := hF.sl.view; cases e; rfl
    obtain ⟨W, hWd⟩ : ∃ W, W = w2.alloc (.cells #[.slice oM ms.length cM, .slice oF fs.length cF] 63) := ⟨_, rfl⟩
    have HmL : Hid (Sl W 73 4 (.slice oM ms.length cM) ms.length (ms.flatMap PMap.cells)) := by rw [Hid, hWd]; exact hmL.mods ((Mods.refl Nil' _).alloc _) (fun _ _ => id)
    have HF : Hid (Fns W w1.heap.size bs (.slice oF fs.length cF) fs vs) := by rw [Hid, hWd]; exact hF.quiet ((Mods.refl _ _).alloc _)
    have HMW : Hid (Mods Nil' w W) := by rw [Hid, hWd]; exact (HM1.out.trans HM2.out).alloc _
    have HOW : Hid (OpsIn 0 W (.slice oT bs.length cT) bs tableS) := by rw [Hid, hWd]; exact HO.out.mods (HM2.out.alloc _)
    have HPb : Hid (Blk W w2.heap.size #[.slice oM ms.length cM, .slice oF fs.length cF] 63) := by rw [Hid, hWd]; exact Blk.new _ _ _
    have HEW : Hid (Env W) := HE.out.mods HMW.out
    have HN1 : Hid (∀ m ∈ ms, PMOk m) := n1
    have HN2 : Hid (∀ f ∈ fs, ∀ x ∈ f.code, x.name.length ≤ 255) := n2
    have HD3 : Hid (∀ f ∈ fs, PFnOk f) := d3
    have hpl : w2.heap.size < W.heap.size := HPb.out.lt
    clear hmL hF n1 n2 d3 HG HDo HNm HO HM1 HM2 HE
    have hws : W.heap.size = w2.heap.size + 1 := by rw [hWd]; simp
    have HB0 : Hid (BAbove W W.heap.size (w2.heap.size + 1) [] (W.alloc (.cells #[.pointer none, .slice none 0 0] 71))) := by rw [Hid, ← hws]; exact bnew W
    have HWs : Hid (W.heap.size = w2.heap.size + 1) := hws
    clear hws
    go_upto_block 0 with fail
    rw [← hWd]
    go_cut [22] (fun _ wx => BAbove W W.heap.size (w2.heap.size + 1) (ms.flatMap mapTP) wx ∧ (ms.flatMap mapTP).length ≤ 8000)
    case first =>
      go_wp2_with fail
      go_loopw [22] (fun i wl => ∃ (k : Nat), k ≤ ms.length ∧ i = .int .i64 k ∧ BAbove W W.heap.size (w2.heap.size + 1) ((ms.take k).flatMap mapTP) wl ∧ ((ms.take k).flatMap mapTP).length ≤ k * 1000) (fun i _ => ms.length - (intOf i).toNat)
      case atStart => exact ⟨0, Nat.zero_le _, rfl, HB0.out, by simp⟩
      case round =>
        obtain ⟨k, hk, rfl, hB, hlen⟩ := hrel
        have HB : Hid (BAbove W W.heap.size (w2.heap.size + 1) ((ms.take k).flatMap mapTP) wr) := hB
        clear hB HB0
        by_cases hlt : k < ms.length
        · obtain ⟨g, rfl, q0, q1, q2, q3⟩ := pmap_at (HmL.out.mods HB.out.md (fun _ _ => id)) rfl rfl k hlt
          have HTk : Hid ((ms.take (k + 1)).flatMap mapTP = (ms.take k).flatMap mapTP ++ mapTP ms[k]) := by
            rw [Hid, List.take_succ_eq_append_getElem hlt, List.flatMap_append]; simp
          have hmk := HN1.out ms[k] (List.getElem_mem hlt)
          generalize (ms.take k).flatMap mapTP = acc at *
          generalize ms[k] = mm at *
          obtain ⟨mn, mk, mv, me⟩ := mm
          obtain ⟨h1, h2, h3, h4⟩ := hmk
          simp only at h1 h2 h3 h4 q0 q1 q2 q3
          have l2 := sizeT_len mk h2
          have l3 := sizeT_len mv h3
          have l4 := sizeT_len me h4
          have S2 : Hid (∀ w', Env w' → Calls Tryz.prog 24 #[.int .u8 mk] w' fun e w'' => e = .returned (.string (T (sizeT mk))) ∧ Mods Nil' w' w'') := fun w' h => dsize_any mk h2 w' h
          have S3 : Hid (∀ w', Env w' → Calls Tryz.prog 24 #[.int .u8 mv] w' fun e w'' => e = .returned (.string (T (sizeT mv))) ∧ Mods Nil' w' w'') := fun w' h => dsize_any mv h3 w' h
          have S4 : Hid (∀ w', Env w' → Calls Tryz.prog 24 #[.int .u8 me] w' fun e w'' => e = .returned (.string (T (sizeT me))) ∧ Mods Nil' w' w'') := fun w' h => dsize_any me h4 w' h
          have HTxt : Hid (mapTP ⟨mn, mk, mv, me⟩ = [109, 97, 112, 32] ++ mn ++ sizeT mk ++ sizeT mv ++ sizeT me ++ [10]) := rfl
          rw [HTxt.out] at HTk
          generalize sizeT mk = t2 at *
          generalize sizeT mv = t3 at *
          generalize sizeT me = t4 at *
          have HBa : Hid (BAbove W W.heap.size (w2.heap.size + 1) acc (wr.alloc (.cells #[.string (T mn), .int .u8 (mk : Nat), .int .u8 (mv : Nat), .int .u8 (me : Nat)] 73))) := HB.out.mods ((Mods.refl _ _).alloc _)
          have HBd : Hid (BAbove W W.heap.size (w2.heap.size + 1) acc (wr.alloc (.cells #[.string (T mn), .int .u8 (mk : Nat), .int .u8 (mv : Nat), .int .u8 (me : Nat)] 73)).drew) := HBa.out.mods (Mods.refl _ _).drew
          have HCd : Hid (Blk (wr.alloc (.cells #[.string (T mn), .int .u8 (mk : Nat), .int .u8 (mv : Nat), .int .u8 (me : Nat)] 73)).drew wr.heap.size #[.string (T mn), .int .u8 (mk : Nat), .int .u8 (mv : Nat), .int .u8 (me : Nat)] 73) := (Blk.new wr #[.string (T mn), .int .u8 (mk : Nat), .int .u8 (mv : Nat), .int .u8 (me : Nat)] 73).mods (Mods.refl Nil' _).drew id
          have hcb : wr.heap.size ≠ w2.heap.size + 1 := by have := HB.out.lt; omega
          have e0 : ∀ e : KeepM wr.heap.size #[.string (T mn), .int .u8 (mk : Nat), .int .u8 (mv : Nat), .int .u8 (me : Nat)], e.w.cell? ⟨wr.heap.size, 0, none⟩ = some (.string (T mn)) := fun e => e.c.cell 0
          have e1 : ∀ e : KeepM wr.heap.size #[.string (T mn), .int .u8 (mk : Nat), .int .u8 (mv : Nat), .int .u8 (me : Nat)], e.w.cell? ⟨wr.heap.size, 1, none⟩ = some (.int .u8 mk) := fun e => e.c.cell 1
          have e2 : ∀ e : KeepM wr.heap.size #[.string (T mn), .int .u8 (mk : Nat), .int .u8 (mv : Nat), .int .u8 (me : Nat)], e.w.cell? ⟨wr.heap.size, 2, none⟩ = some (.int .u8 mv) := fun e => e.c.cell 2
          have e3 : ∀ e : KeepM wr.heap.size #[.string (T mn), .int .u8 (mk : Nat), .int .u8 (mv : Nat), .int .u8 (me : Nat)], e.w.cell? ⟨wr.heap.size, 3, none⟩ = some (.int .u8 me) := fun e => e.c.cell 3
          have ne1 : Nonempty (KeepM wr.heap.size #[.string (T mn), .int .u8 (mk : Nat), .int .u8 (mv : Nat), .int .u8 (me : Nat)]) := ⟨⟨_, HCd.out⟩⟩
          have s1 : ¬ 9223372036854775807 < 4 + (T mn).size := by rw [T_size]; omega
          have s2 : ¬ 9223372036854775807 < 4 + (T mn).size + (T t2).size := by rw [T_size, T_size]; omega
          have s3 : ¬ 9223372036854775807 < 4 + (T mn).size + (T t2).size + (T t3).size := by rw [T_size, T_size, T_size]; omega
          have s4 : ¬ 9223372036854775807 < 4 + (T mn).size + (T t2).size + (T t3).size + (T t4).size := by rw [T_size, T_size, T_size, T_size]; omega
          have s5 : ¬ 9223372036854775807 < 4 + (T mn).size + (T t2).size + (T t3).size + (T t4).size + 1 := by rw [T_size, T_size, T_size, T_size]; omega
          have HWr : Hid (∀ w', BAbove W W.heap.size (w2.heap.size + 1) acc w' → Calls Tryz.prog 23 #[.pointer (some ⟨w2.heap.size + 1, 0, none⟩), .string (⟨#[109, 97, 112, 32]⟩ ++ T mn ++ T t2 ++ T t3 ++ T t4 ++ ⟨#[10]⟩)] w' fun e w'' => e = .returned (.tuple #[.int .i64 (⟨#[109, 97, 112, 32]⟩ ++ T mn ++ T t2 ++ T t3 ++ T t4 ++ ⟨#[10]⟩ : ByteArray).size, .nilIface]) ∧ BAbove W W.heap.size (w2.heap.size + 1) (acc ++ ([109, 97, 112, 32] ++ mn ++ t2 ++ t3 ++ t4 ++ [10])) w'' ∧ Lib.OthersKept 5 (some (w2.heap.size + 1)) w' w'') := fun w' hB => by
            have hbl : BL (⟨#[109, 97, 112, 32]⟩ ++ T mn ++ T t2 ++ T t3 ++ T t4 ++ ⟨#[10]⟩) = [109, 97, 112, 32] ++ mn ++ t2 ++ t3 ++ t4 ++ [10] := by simp [BL, T]
            have hsz : (⟨#[109, 97, 112, 32]⟩ ++ T mn ++ T t2 ++ T t3 ++ T t4 ++ ⟨#[10]⟩ : ByteArray).size = 4 + mn.length + t2.length + t3.length + t4.length + 1 := by simp only [ByteArray.size_append, T_size]; rfl
            have := hB.write (⟨#[109, 97, 112, 32]⟩ ++ T mn ++ T t2 ++ T t3 ++ T t4 ++ ⟨#[10]⟩) (by rw [hsz]; omega)
            rw [hbl] at this
            exact this
          go_upto_region 8 with fail
          refine wp_region_mix [5, 9, 13, 16] (fun w' => ∃ e : KeepM wr.heap.size #[.string (T mn), .int .u8 (mk : Nat), .int .u8 (mv : Nat), .int .u8 (me : Nat)], w' = e.w) (by kernel_rfl) (by kernel_rfl) (by kernel_rfl) ⟨⟨_, HCd.out⟩, rfl⟩ ?_
          iterate 5 (refine mix_pure rfl rfl rfl ?_; intro K hK; go_big_quiet_op; go_big_quiet_on)
          refine mix_act rfl rfl ?_
          intro K hK
          go_big_op
          refine (S2.out _ (HEW.out.mods HBd.out.md)).mono ?_
          rintro e w5 ⟨rfl, m⟩
          have HB5 : Hid (BAbove W W.heap.size (w2.heap.size + 1) acc w5) := HBd.out.mods m
          have HC5 : Hid (Blk w5 wr.heap.size #[.string (T mn), .int .u8 (mk : Nat), .int .u8 (mv : Nat), .int .u8 (me : Nat)] 73) := HCd.out.mods m id
          refine hK _ _ rfl ⟨⟨_, HC5.out⟩, rfl⟩ ?_
          clear hK K m
          iterate 3 (refine mix_pure rfl rfl rfl ?_; intro K hK; go_big_quiet_op; go_big_quiet_on)
          refine mix_act rfl rfl ?_
          intro K hK
          go_big_op
          refine (S3.out _ (HEW.out.mods HB5.out.md)).mono ?_
          rintro e w6 ⟨rfl, m⟩
          have HB6 : Hid (BAbove W W.heap.size (w2.heap.size + 1) acc w6) := HB5.out.mods m
          have HC6 : Hid (Blk w6 wr.heap.size #[.string (T mn), .int .u8 (mk : Nat), .int .u8 (mv : Nat), .int .u8 (me : Nat)] 73) := HC5.out.mods m id
          refine hK _ _ rfl ⟨⟨_, HC6.out⟩, rfl⟩ ?_
          clear hK K m
          iterate 3 (refine mix_pure rfl rfl rfl ?_; intro K hK; go_big_quiet_op; go_big_quiet_on)
          refine mix_act rfl rfl ?_
          intro K hK
          go_big_op
          refine (S4.out _ (HEW.out.mods HB6.out.md)).mono ?_
          rintro e w7 ⟨rfl, m⟩
          have HB7 : Hid (BAbove W W.heap.size (w2.heap.size + 1) acc w7) := HB6.out.mods m
          have HC7 : Hid (Blk w7 wr.heap.size #[.string (T mn), .int .u8 (mk : Nat), .int .u8 (mv : Nat), .int .u8 (me : Nat)] 73) := HC6.out.mods m id
          refine hK _ _ rfl ⟨⟨_, HC7.out⟩, rfl⟩ ?_
          clear hK K m
          iterate 2 (refine mix_pure rfl rfl rfl ?_; intro K hK; go_big_quiet_op; go_big_quiet_on)
          refine mix_act rfl rfl ?_
          intro K hK
          go_big_op
          refine (HWr.out _ HB7.out).mono ?_
          rintro e w8 ⟨rfl, hB8, hk8⟩
          have HB8 : Hid (BAbove W W.heap.size (w2.heap.size + 1) (acc ++ ([109, 97, 112, 32] ++ mn ++ t2 ++ t3 ++ t4 ++ [10])) w8) := hB8
          have hC8 : Blk w8 wr.heap.size #[.string (T mn), .int .u8 (mk : Nat), .int .u8 (mv : Nat), .int .u8 (me : Nat)] 73 := kept_blk hk8 HC7.out hcb (by decide)
          refine hK _ _ rfl ⟨⟨_, hC8⟩, rfl⟩ ?_
          clear hK K hB8 hk8 hC8
          refine mix_nil ?_
          try simp only [Exit.then]
          clear e0 e1 e2 e3 HWr S2 S3 S4
          go_wp2_with fail
          go_roundw
          case rel => exact ⟨k + 1, by omega, by go_num, by rw [HTk.out]; exact HB8.out, by rw [HTk.out]; simp only [List.length_append, List.length_cons, List.length_nil]; omega⟩
          case measure => simp [intOf]; omega
        · obtain rfl : k = ms.length := by omega
          rw [List.take_length] at HB hlen
          go_wp2_with fail
          go_meet
          exact ⟨HB.out, by omega⟩
    case rest =>
    obtain ⟨hBm, hml⟩ := hcut
    have HBm : Hid (BAbove W W.heap.size (w2.heap.size + 1) (ms.flatMap mapTP) wc) := hBm
    clear hBm HB0
    generalize hmt : ms.flatMap mapTP = mt at *
    have HMt : Hid (ms.flatMap mapTP = mt) := hmt
    clear hmt
    have c1 : wc.cell? ⟨w2.heap.size, 1, none⟩ = some (.slice oF fs.length cF) := (HBm.out.blk HPb.out hpl).cell 1
    go_wp2_with fail
    go_loopw [47] (fun i wl => ∃ (k : Nat), k ≤ fs.length ∧ i = .int .i64 k ∧ BAbove W W.heap.size (w2.heap.size + 1) (mt ++ (fs.take k).flatMap fnTP) wl ∧ ((fs.take k).flatMap fnTP).length ≤ k * 1300000) (fun i _ => fs.length - (intOf i).toNat)
    case atStart => exact ⟨0, Nat.zero_le _, rfl, by simpa using HBm.out, by simp⟩
    case round =>
      obtain ⟨k, hk, rfl, hB, hlen⟩ := hrel
      have HB : Hid (BAbove W W.heap.size (w2.heap.size + 1) (mt ++ (fs.take k).flatMap fnTP) wr) := hB
      clear hB HBm c1
      by_cases hlt : k < fs.length
      · have HTk : Hid ((fs.take (k + 1)).flatMap fnTP = (fs.take k).flatMap fnTP ++ fnTP fs[k]) := by
          rw [Hid, List.take_succ_eq_append_getElem hlt, List.flatMap_append]; simp
        have hvl : k < vs.length := by rw [HF.out.len]; exact hlt
        have hcd := HF.out.cd k hlt hvl
        obtain ⟨oC, cC, hvk, _⟩ := hcd.view
        have hok := HF.out.ok fs[k] (List.getElem_mem hlt)
        have hfo := HD3.out fs[k] (List.getElem_mem hlt)
        have hn2 := HN2.out fs[k] (List.getElem_mem hlt)
        have hsF := HF.out.sl.mods HB.out.md (fun _ _ => id)
        obtain ⟨oF', cF', eF, f5⟩ := hsF.view
        cases eF
        obtain ⟨gF, csF, rfl, hbF, htF, _⟩ := f5 (by omega)
        have keyF : ∀ j, j < 2 → wr.cell? ⟨gF, k * 2 + j, none⟩ = (fnC (fs[k].name, .slice oC fs[k].code.length cC))[j]? := fun j hj => by
          rw [hbF.cell, ← Array.getElem?_toList, ← List.getElem?_take_of_lt (show k * 2 + j < fs.length * 2 by omega), htF, flat_get fnC 2 (fun _ => rfl) _ k j (by simp; omega) hj, zip_at _ _ _ (by simpa using hlt) hvl, hvk]
          simp
        have y0 : wr.cell? ⟨gF, k * 2, none⟩ = some (.string (T fs[k].name)) := keyF 0 (by omega)
        have y1 : wr.cell? ⟨gF, k * 2 + 1, none⟩ = some (.slice oC fs[k].code.length cC) := keyF 1 (by omega)
        rw [hvk] at hcd
        clear keyF hbF htF f5 hsF hvk hvl
        generalize fs[k] = ff at *
        obtain ⟨fn, fcode⟩ := ff
        obtain ⟨p1, p2, p3, p4⟩ := hfo
        simp only at p1 p2 p3 p4 hok hn2 hcd y0 y1
        have HWc : Hid (∀ w' l', BAbove W W.heap.size (w2.heap.size + 1) l' w' → l'.length ≤ 1000000000 → Calls Tryz.prog 25 #[.pointer (some ⟨w2.heap.size + 1, 0, none⟩), .agg #[.string (T fn), .slice oC fcode.length cC]] w' fun e w'' => e = .returned (.tuple #[]) ∧ BAbove W W.heap.size (w2.heap.size + 1) (l' ++ codeTP (labelsP ⟨fn, fcode⟩) 0 fcode) w'' ∧ (codeTP (labelsP ⟨fn, fcode⟩) 0 fcode).length ≤ 1200000) := fun w' l' hB hl' => wcode_any W HEW.out _ bs HOW.out fcode hok (fun x hx => ⟨p3 x hx, Nat.le_trans (hn2 x hx) (by omega)⟩) (by omega) _ hcd p4 (T fn) _ l' w' hB hl'
        have HTxt : Hid (fnTP ⟨fn, fcode⟩ = [102, 117, 110, 99, 32] ++ fn ++ [10] ++ codeTP (labelsP ⟨fn, fcode⟩) 0 fcode) := rfl
        rw [HTxt.out] at HTk
        generalize codeTP (labelsP ⟨fn, fcode⟩) 0 fcode = ct at *
        generalize (fs.take k).flatMap fnTP = acc at *
        have HBa : Hid (BAbove W W.heap.size (w2.heap.size + 1) (mt ++ acc) (wr.alloc (.cells #[.string (T fn), .slice oC fcode.length cC] 81))) := HB.out.mods ((Mods.refl _ _).alloc _)
        have HCa : Hid (Blk (wr.alloc (.cells #[.string (T fn), .slice oC fcode.length cC] 81)) wr.heap.size #[.string (T fn), .slice oC fcode.length cC] 81) := Blk.new _ _ _
        have hcb : wr.heap.size ≠ w2.heap.size + 1 := by have := HB.out.lt; omega
        have s1 : ¬ 9223372036854775807 < 5 + (T fn).size := by rw [T_size]; omega
        have s2 : ¬ 9223372036854775807 < 5 + (T fn).size + 1 := by rw [T_size]; omega
        have HWr : Hid (∀ w', BAbove W W.heap.size (w2.heap.size + 1) (mt ++ acc) w' → Calls Tryz.prog 23 #[.pointer (some ⟨w2.heap.size + 1, 0, none⟩), .string (⟨#[102, 117, 110, 99, 32]⟩ ++ T fn ++ ⟨#[10]⟩)] w' fun e w'' => e = .returned (.tuple #[.int .i64 (⟨#[102, 117, 110, 99, 32]⟩ ++ T fn ++ ⟨#[10]⟩ : ByteArray).size, .nilIface]) ∧ BAbove W W.heap.size (w2.heap.size + 1) (mt ++ acc ++ ([102, 117, 110, 99, 32] ++ fn ++ [10])) w'' ∧ Lib.OthersKept 5 (some (w2.heap.size + 1)) w' w'') := fun w' hB => by
          have hbl : BL (⟨#[102, 117, 110, 99, 32]⟩ ++ T fn ++ ⟨#[10]⟩) = [102, 117, 110, 99, 32] ++ fn ++ [10] := by simp [BL, T]
          have hsz : (⟨#[102, 117, 110, 99, 32]⟩ ++ T fn ++ ⟨#[10]⟩ : ByteArray).size = 5 + fn.length + 1 := by simp only [ByteArray.size_append, T_size]; rfl
          have := hB.write (⟨#[102, 117, 110, 99, 32]⟩ ++ T fn ++ ⟨#[10]⟩) (by rw [hsz, List.length_append]; omega)
          rw [hbl] at this
          exact this
        go_wp2_with fail
        refine (HWr.out _ HBa.out).mono ?_
        rintro e w5 ⟨rfl, hB5, hk5⟩
        have hC5 : Blk w5 wr.heap.size #[.string (T fn), .slice oC fcode.length cC] 81 := kept_blk hk5 HCa.out hcb (by decide)
        have z0 : w5.cell? ⟨wr.heap.size, 0, none⟩ = some (.string (T fn)) := hC5.cell 0
        have z1 : w5.cell? ⟨wr.heap.size, 1, none⟩ = some (.slice oC fcode.length cC) := hC5.cell 1
        have HB5 : Hid _ := hB5
        clear hB5 hk5 hC5
        go_wp2_with fail
        refine (HWc.out _ _ HB5.out (by simp only [List.length_append, List.length_cons, List.length_nil]; omega)).mono ?_
        rintro e w6 ⟨rfl, hB6, hl6⟩
        have HB6 : Hid (BAbove W W.heap.size (w2.heap.size + 1) (mt ++ (acc ++ ([102, 117, 110, 99, 32] ++ fn ++ [10] ++ ct))) w6) := by
          rw [Hid]
          simpa only [List.append_assoc] using hB6
        clear hB6
        go_wp2_with fail
        go_roundw
        case rel => exact ⟨k + 1, by omega, by go_num, by rw [HTk.out]; exact HB6.out, by rw [HTk.out]; simp only [List.length_append, List.length_cons, List.length_nil]; omega⟩
        case measure => simp [intOf]; omega
      · obtain rfl : k = fs.length := by omega
        rw [List.take_length] at HB
        have HTx : Hid (textP ms fs = mt ++ fs.flatMap fnTP) := by rw [Hid, ← HMt.out]; rfl
        rw [← HTx.out] at HB
        go_wp2_with fail
        refine HB.out.string.mono ?_
        rintro e w9 ⟨rfl, hbe⟩
        have HM9 : Hid (Mods Nil' W w9) := Mods.of_below hbe
        clear hbe
        go_wp2_with fail
        go_ret2
        exact ⟨rfl, HMW.out.trans HM9.out⟩
end Go.Proofs.YtnankepcmaoijaaGreatDoor
