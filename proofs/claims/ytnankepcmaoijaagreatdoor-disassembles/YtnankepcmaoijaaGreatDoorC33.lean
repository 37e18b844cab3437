/- The document's opening of an object and the program's, held against one another: whole. -/
import Derived.Test.YtnankepcmaoijaaGreatDoorC32
import Derived.Lib.ItoaMem
namespace Go.Proofs.YtnankepcmaoijaaGreatDoor
open Go.RowKit

theorem openM_eq (s : ByteArray) : openM s = if s.size < 5 ∨ s.extract 0 5 ≠ HEAD then none else behindMaps s (rdMaps s (rb s ⟨5, false⟩).1 (rb s ⟨5, false⟩).2 []).1 (rdMaps s (rb s ⟨5, false⟩).1 (rb s ⟨5, false⟩).2 []).2 := rfl

theorem head_list (s : ByteArray) (h : 5 ≤ s.size) : s.extract 0 5 = HEAD ↔ ((BL s).take 4 = [83, 80, 79, 76] ∧ at' (BL s) 4 = 1) := by
  have e : s.extract 0 5 = T ((BL s).take 5) := by
    have : (s.extract 0 5).data.toList = (BL s).take 5 := by
      rw [ByteArray.data_extract, Array.toList_extract, List.extract_eq_take_drop]
      simp [BL]
    rw [← this]; rfl
  have e5 : (BL s).take 5 = (BL s).take 4 ++ [(BL s)[4]'(by rw [BL_size]; omega)] := by
    rw [List.take_succ_eq_append_getElem (by rw [BL_size]; omega)]
  have ea : at' (BL s) 4 = ((BL s)[4]'(by rw [BL_size]; omega)).toNat := by
    unfold at'
    rw [List.getElem?_eq_getElem (by rw [BL_size]; omega)]
    rfl
  rw [e, e5, ea]
  generalize (BL s)[4]'(by rw [BL_size]; omega) = b
  generalize hl : (BL s).take 4 = l
  have hl4 : l.length = 4 := by rw [← hl, List.length_take, BL_size]; omega
  constructor
  · intro h
    have h2 : l ++ [b] = [83, 80, 79, 76] ++ [1] := T_inj h
    obtain ⟨h3, h4⟩ := List.append_inj h2 (by rw [hl4]; rfl)
    exact ⟨h3, by rw [List.cons.inj h4 |>.1]; rfl⟩
  · rintro ⟨h1, h2⟩
    have : b = 1 := UInt8.toNat_inj.1 (by rw [h2]; rfl)
    rw [h1, this]
    rfl

/-- What comes behind the head, in the program. -/
def behindHead (q : PR) : List PMap × List PFn × PR :=
  let c := oneP q
  let m := mapsP c.1 (wantP (decide (c.1 ≤ 8)) c.2) [] []
  let f := funcsP m.2
  let g := refsP m.1 f.1 f.2
  (m.1, g.1, wantP (g.2.rest == []) g.2)

theorem decodeP_eq (l : List UInt8) : decodeP l = behindHead (wantP (decide ((oneP (wantP ((takeP 4 ⟨l, false⟩).1 == [83, 80, 79, 76]) (takeP 4 ⟨l, false⟩).2)).1 = 1)) (oneP (wantP ((takeP 4 ⟨l, false⟩).1 == [83, 80, 79, 76]) (takeP 4 ⟨l, false⟩).2)).2) := rfl

theorem head_bad' (q : PR) (h : q.bad = true) : (behindHead q).2.2.bad = true := by
  unfold behindHead
  exact want_bad _ _ (refs_bad _ _ _ (funcs_bad _ (maps_bad _ _ _ _ (want_bad _ _ (one_bad _ h)))))

theorem tail_bad (ms : List PMap) (mq : PR) (c : Bool) (h : mq.bad = true) : ¬ (wantP c (refsP ms (funcsP mq).1 (funcsP mq).2).2).bad = false := by
  rw [want_bad _ _ (refs_bad _ _ _ (funcs_bad _ h))]; decide

theorem decode_sim (s : ByteArray) :
    ((decodeP (BL s)).2.2.bad = false → ∃ o, openM s = some o ∧ Opened s (decodeP (BL s)).1 (decodeP (BL s)).2.1 o) ∧ ((decodeP (BL s)).2.2.bad = true → openM s = none) := by
  rw [openM_eq, decodeP_eq]
  by_cases h5 : s.size < 5
  · rw [if_pos (.inl h5)]
    have hbad : (wantP (decide ((oneP (wantP ((takeP 4 ⟨BL s, false⟩).1 == [83, 80, 79, 76]) (takeP 4 ⟨BL s, false⟩).2)).1 = 1)) (oneP (wantP ((takeP 4 ⟨BL s, false⟩).1 == [83, 80, 79, 76]) (takeP 4 ⟨BL s, false⟩).2)).2).bad = true := by
      refine want_bad _ _ ?_
      by_cases h4 : s.size < 4
      · exact one_bad _ (want_bad _ _ (by simp [takeP, BL_size, h4]))
      · have h0 : (wantP ((takeP 4 ⟨BL s, false⟩).1 == [83, 80, 79, 76]) (takeP 4 ⟨BL s, false⟩).2).rest = [] := by
          have : (takeP 4 ⟨BL s, false⟩).2.rest = (BL s).drop 4 := by simp [takeP, BL_size, h4]
          show (takeP 4 ⟨BL s, false⟩).2.rest = []
          rw [this, List.drop_eq_nil_of_le (by rw [BL_size]; omega)]
        unfold oneP
        rw [h0]
    have hb := head_bad' _ hbad
    exact ⟨fun h => (by rw [hb] at h; cases h), fun _ => rfl⟩
  · have ht : takeP 4 ⟨BL s, false⟩ = ((BL s).take 4, ⟨(BL s).drop 4, false⟩) := by
      unfold takeP
      rw [if_neg (by simp only [BL_size]; omega)]
    rw [ht]
    simp only
    have hd : (BL s).drop 4 = (BL s)[4]'(by rw [BL_size]; omega) :: (BL s).drop 5 := by
      rw [List.drop_eq_getElem_cons (by rw [BL_size]; omega)]
    have ho : ∀ c, oneP (wantP c ⟨(BL s).drop 4, false⟩) = (at' (BL s) 4, ⟨(BL s).drop 5, !c⟩) := by
      intro c
      have ea : at' (BL s) 4 = ((BL s)[4]'(by rw [BL_size]; omega)).toNat := by
        unfold at'
        rw [List.getElem?_eq_getElem (by rw [BL_size]; omega)]
        rfl
      simp only [oneP, wantP, hd, ea, Bool.false_or]
    rw [ho]
    simp only
    have hh := head_list s (by omega)
    by_cases hc : (BL s).take 4 = [83, 80, 79, 76] ∧ at' (BL s) 4 = 1
    · rw [if_neg (by rintro (h | h); exact h5 h; exact h (hh.2 hc))]
      have hq : wantP (decide (at' (BL s) 4 = 1)) ⟨(BL s).drop 5, !((BL s).take 4 == [83, 80, 79, 76])⟩ = ⟨(BL s).drop 5, false⟩ := by
        simp [wantP, hc.1, hc.2]
      rw [hq]
      have hS : Sim s ⟨5, false⟩ ⟨(BL s).drop 5, false⟩ := ⟨rfl, fun _ => ⟨rfl, by show 5 ≤ s.size; omega⟩⟩
      obtain ⟨h1, e1⟩ := sim_one s _ _ hS
      unfold behindHead
      dsimp only
      rcases bool_cases (oneP ⟨(BL s).drop 5, false⟩).2.bad with hb | hb
      · have hbad : ∀ c k, (mapsP k (wantP c (oneP ⟨(BL s).drop 5, false⟩).2) [] []).2.bad = true := fun c k => maps_bad _ _ _ _ (want_bad _ _ hb)
        refine ⟨fun h => ?_, fun _ => ?_⟩
        · exact absurd h (tail_bad _ _ _ (hbad _ _))
        · have hb' := h1.1.trans hb
          rw [rdMaps_bad s _ _ _ hb']
          exact behind_bad s _ _ hb'
      · have hb' := h1.1.trans hb
        rw [e1 hb']
        generalize (rb s ⟨5, false⟩).2 = r1 at *
        generalize oneP ⟨(BL s).drop 5, false⟩ = c at *
        obtain ⟨cn, cq⟩ := c
        simp only at *
        by_cases h8 : cn ≤ 8
        · have hd8 : decide (cn ≤ 8) = true := by simp [h8]
          rw [hd8]
          obtain ⟨a1, a2⟩ := sim_maps s cn r1 (wantP true cq) [] [] [] (h1.want rfl) (by simp [wantP, hb]) rfl rfl (.inl ⟨rfl, rfl⟩)
          have hcnt := rdMaps_cnt s cn r1 []
          generalize mapsP cn (wantP true cq) [] [] = M at *
          obtain ⟨ms, mq⟩ := M
          generalize rdMaps s cn r1 [] = D at *
          obtain ⟨ds, dr⟩ := D
          simp only at *
          rcases bool_cases mq.bad with hb2 | hb2
          · refine ⟨fun h => ?_, fun _ => ?_⟩
            · exact absurd h (tail_bad _ _ _ hb2)
            · rcases a2 hb2 with h | h
              · exact behind_bad s _ _ h
              · exact behind_maps s _ _ (.inl h)
          · obtain ⟨k1, k2, k3⟩ := a1 hb2
            subst k2
            have hl := hcnt (k1.1.trans hb2)
            simp only [List.length_nil, List.length_map] at hl
            exact behind_sim s ms dr mq k1 hb2 k3 (by omega) _ rfl
        · have hd8 : decide (cn ≤ 8) = false := by simp; omega
          rw [hd8]
          have hbad : (mapsP cn (wantP false cq) [] []).2.bad = true := maps_bad _ _ _ _ (by simp [wantP])
          refine ⟨fun h => ?_, fun _ => ?_⟩
          · exact absurd h (tail_bad _ _ _ hbad)
          · rcases bool_cases (rdMaps s cn r1 []).2.bad with hb3 | hb3
            · exact behind_bad s _ _ hb3
            · refine behind_maps s _ _ (.inr ?_)
              rw [rdMaps_cnt s cn r1 [] hb3]
              simp; omega
    · rw [if_pos (.inr (fun h => hc (hh.1 h)))]
      have hq : (wantP (decide (at' (BL s) 4 = 1)) ⟨(BL s).drop 5, !((BL s).take 4 == [83, 80, 79, 76])⟩).bad = true := by
        simp only [wantP, Bool.or_eq_true, Bool.not_eq_true', decide_eq_false_iff_not, beq_eq_false_iff_ne]
        refine Classical.byContradiction fun hn => hc ?_
        simp only [not_or, Classical.not_not] at hn
        simpa using hn
      have hb := head_bad' _ hq
      exact ⟨fun h => (by rw [hb] at h; cases h), fun _ => rfl⟩
end Go.Proofs.YtnankepcmaoijaaGreatDoor

/- The document's text and the program's, held against one another: numbers, labels. -/
namespace Go.Proofs.YtnankepcmaoijaaGreatDoor
open Go.RowKit

theorem decF_eq : ∀ (f n : Nat), n < 10 ^ (f + 1) → decF (f + 1) n = Lib.decDigits n
  | 0, n, h => by
    have h' : n < 10 := by simpa using h
    rw [decF, if_pos h', Lib.decDigits_one h', Nat.mod_eq_of_lt h']
  | f + 1, n, h => by
    rw [decF]
    by_cases h' : n < 10
    · rw [if_pos h', Lib.decDigits_one h', Nat.mod_eq_of_lt h']
    · rw [if_neg h', decF_eq f (n / 10) (by rw [Nat.pow_succ] at h; omega)]
      conv => rhs; rw [Lib.decDigits, dif_neg h']
theorem decM_eq (n : Nat) (h : n < 100000000000000000000) : decM n = Lib.decDigits n := decF_eq 19 n (by simpa using h)
theorem decM_itoa (n : Nat) (h : n < 100000000000000000000) : decM n = Lib.itoa (n : Int) := by rw [decM_eq n h, Lib.itoa_nonneg]

theorem sgn_itoa (n : Int) (h : -2147483648 ≤ n ∧ n ≤ 2147483647) : sgnL (u64 n).toNat = Lib.itoa n := by
  unfold sgnL u64
  by_cases h0 : n < 0
  · rw [if_pos (by omega), Lib.itoa, if_pos h0, decM_eq _ (by omega)]
    congr 2
    omega
  · rw [if_neg (by omega), Lib.itoa, if_neg h0, decM_eq _ (by omega)]
    congr 1
    omega
theorem reg_eq (n : Nat) (h : n ≤ 15) : regL n = regP n := by
  unfold regL regP
  rw [decM_itoa n (by omega)]
theorem off_eq (j : Int) (h : -32768 ≤ j ∧ j ≤ 32767) : jmpL j = offP j := by
  unfold jmpL offP
  by_cases h1 : 0 < j
  · rw [if_pos h1, if_pos h1, Lib.itoa, if_neg (by omega), decM_eq _ (by omega)]
  · rw [if_neg h1, if_neg h1]
    by_cases h2 : j < 0
    · rw [if_pos h2, if_pos h2, Lib.itoa, if_pos h2, decM_eq _ (by omega)]
      congr 2
      omega
    · rw [if_neg h2, if_neg h2]

/-- The number that digits tell. -/
def valD (l : List UInt8) : Nat := l.foldl (fun a c => 10 * a + (c.toNat - 48)) 0
theorem valD_snoc (l : List UInt8) (c : UInt8) : valD (l ++ [c]) = 10 * valD l + (c.toNat - 48) := by simp [valD]
theorem valD_dec (n : Nat) : valD (Lib.decDigits n) = n := by
  induction n using Nat.strongRecOn with
  | _ n ih =>
    by_cases h : n < 10
    · rw [Lib.decDigits_one h]
      have : (UInt8.ofNat (48 + n)).toNat = 48 + n := by simp; omega
      simp only [valD, List.foldl_cons, List.foldl_nil, this]
      omega
    · rw [Lib.decDigits, dif_neg h, valD_snoc, ih (n / 10) (by omega)]
      have : (UInt8.ofNat (48 + n % 10)).toNat = 48 + n % 10 := by simp; omega
      rw [this]
      omega
theorem labName_inj (a b : Int) (ha : 0 ≤ a ∧ a ≤ 200) (hb : 0 ≤ b ∧ b ≤ 200) (h : labName a = labName b) : a = b := by
  unfold labName at h
  have h1 := List.cons.inj (T_inj h)
  rw [decM_eq _ (by omega), decM_eq _ (by omega)] at h1
  have := congrArg valD h1.2
  rw [valD_dec, valD_dec] at this
  omega

/-- Labels that are the names of their places. -/
def LInv' (lab : Labs) : Prop := ∀ x ∈ lab, x.1 = labName x.2 ∧ 0 ≤ x.2 ∧ x.2 ≤ 200

theorem lab_look : ∀ (lab : Labs) (t : Int), LInv' lab → 0 ≤ t ∧ t ≤ 200 → labelM (labName t) lab = t ∨ labelM (labName t) lab = -1
  | [], _, _, _ => .inr rfl
  | (nm, p) :: lab, t, hI, ht => by
    rw [labelM]
    by_cases h : nm = labName t
    · rw [if_pos h]
      obtain ⟨h1, h2⟩ := hI (nm, p) (by simp)
      exact .inl (labName_inj p t h2 ht (h1.symm.trans h))
    · rw [if_neg h]
      exact lab_look lab t (fun x hx => hI x (List.mem_cons_of_mem _ hx)) ht
theorem lab_keep : ∀ (lab more : Labs) (nm : ByteArray) (t : Int), labelM nm lab = t → 0 ≤ t → labelM nm (lab ++ more) = t
  | [], _, _, _, h, h0 => by rw [labelM] at h; omega
  | (m, p) :: lab, more, nm, t, h, h0 => by
    rw [List.cons_append]
    rw [labelM] at h ⊢
    by_cases he : m = nm
    · rw [if_pos he] at h ⊢; exact h
    · rw [if_neg he] at h ⊢; exact lab_keep lab more nm t h h0
theorem lab_new : ∀ (lab : Labs) (nm : ByteArray) (t : Int), LInv' lab → labelM nm lab < 0 → labelM nm (lab ++ [(nm, t)]) = t
  | [], nm, t, _, _ => by simp [labelM]
  | (m, p) :: lab, nm, t, hI, h => by
    rw [List.cons_append]
    rw [labelM] at h ⊢
    by_cases he : m = nm
    · rw [if_pos he] at h
      have := (hI (m, p) (by simp)).2.1
      simp only at this
      omega
    · rw [if_neg he] at h ⊢; exact lab_new lab nm t (fun x hx => hI x (List.mem_cons_of_mem _ hx)) h

theorem labs_keep : ∀ (l : List PI) (p : Nat) (lab : Labs) (nm : ByteArray) (t : Int), labelM nm lab = t → 0 ≤ t → labelM nm (labsL p l lab) = t
  | [], _, _, _, _, h, _ => h
  | x :: l, p, lab, nm, t, h, h0 => by
    rw [labsL]
    refine labs_keep l _ _ nm t ?_ h0
    split
    · split
      · exact lab_keep _ _ _ _ h h0
      · exact h
    · exact h

/-- All jumps of l, from slot p on, have their labels. -/
def Found (lab : Labs) : Nat → List PI → Prop
  | _, [] => True
  | p, x :: l => (x.o.jumps = true → labelM (labName (x.target p)) lab = x.target p ∧ 0 ≤ x.target p) ∧ Found lab (p + x.o.slots) l

theorem labs_found (st : List Bool) (hst : st.length ≤ 200) : ∀ (l : List PI) (p : Nat) (lab : Labs), LInv' lab → leadP st p l = true → LInv' (labsL p l lab) ∧ Found (labsL p l lab) p l
  | [], _, _, hI, _ => ⟨hI, trivial⟩
  | x :: l, p, lab, hI, h => by
    rw [leadP, Bool.and_eq_true] at h
    rw [labsL]
    cases hj : x.o.jumps with
    | false =>
      obtain ⟨h1, h2⟩ := labs_found st hst l (p + x.o.slots) lab hI h.2
      refine ⟨h1, fun hh => (by rw [hj] at hh; cases hh), h2⟩
    | true =>
      have ht := h.1
      rw [hj, if_pos rfl, Bool.and_eq_true, decide_eq_true_eq] at ht
      have hlt : (x.target p).toNat < st.length := by
        refine Classical.byContradiction fun hn => ?_
        have := ht.2
        rw [List.getElem?_eq_none (by omega)] at this
        cases this
      have hb : 0 ≤ x.target p ∧ x.target p ≤ 200 := by omega
      simp only [if_true]
      have hI' : LInv' (if labelM (labName (x.target p)) lab < 0 then lab ++ [(labName (x.target p), x.target p)] else lab) := by
        split
        · intro y hy
          rcases List.mem_append.1 hy with hy | hy
          · exact hI y hy
          · rw [List.mem_singleton.1 hy]; exact ⟨rfl, hb⟩
        · exact hI
      have hf : labelM (labName (x.target p)) (if labelM (labName (x.target p)) lab < 0 then lab ++ [(labName (x.target p), x.target p)] else lab) = x.target p := by
        split
        · rename_i hn; exact lab_new lab _ _ hI hn
        · rename_i hn
          rcases lab_look lab _ hI hb with h | h
          · exact h
          · rw [h] at hn; exact absurd (by decide) hn
      obtain ⟨h1, h2⟩ := labs_found st hst l (p + x.o.slots) _ hI' h.2
      exact ⟨h1, fun _ => ⟨labs_keep l _ _ _ _ hf hb.1, hb.1⟩, h2⟩

theorem lbl_sort {x : PI} (h : x.Ok) (p : Nat) : (sortM (lblI p x).word = 106 ↔ x.o.jumps = true) := by
  have : (lblI p x).word = x.toN.word := by unfold lblI; split <;> rfl
  rw [this]
  exact (h.word (nmOf x)).2.2

theorem led_sim (lab : Labs) : ∀ (l : List PI) (p : Nat) (b : List Bool), (∀ x ∈ l, x.Ok) → Found lab p l → tgtM lab (lblL p l) b = ledP p l b
  | [], _, _, _, _ => rfl
  | x :: l, p, b, hO, hF => by
    have hx := hO x (by simp)
    rw [lblL, tgtM, ledP, led_sim lab l _ _ (fun y hy => hO y (List.mem_cons_of_mem _ hy)) hF.2]
    congr 1
    cases hj : x.o.jumps with
    | true =>
      rw [if_pos ((lbl_sort hx p).2 hj), if_pos rfl]
      have : (lblI p x).label = labName (x.target p) := by simp [lblI, hj]
      rw [this, (hF.1 hj).1]
    | false =>
      rw [if_neg (fun h => by rw [(lbl_sort hx p).1 h] at hj; cases hj), if_neg (by decide)]

theorem names_labs : ∀ (l : List Bool) (n : Nat), n + l.length ≤ 100000 → nmG l n = (labsP l n).map T
  | [], _, _ => rfl
  | true :: l, n, h => by
    simp only [List.length_cons] at h
    rw [nmG, labsP, List.map_cons, names_labs l (n + 1) (by omega), labName]
    congr 3
    rw [show ((n : Int)).toNat = n from rfl, decM_itoa n (by omega)]
  | false :: l, n, h => by
    simp only [List.length_cons] at h
    rw [nmG, labsP, List.map_cons, names_labs l n (by omega)]
    rfl
theorem labs_at : ∀ (l : List Bool) (n i : Nat), ((labsP l n)[i]?.getD [] ≠ [] ↔ l[i]?.getD false = true)
  | [], _, _ => by simp [labsP]
  | true :: l, n, 0 => by simp [labsP]
  | false :: l, n, 0 => by simp [labsP]
  | true :: l, n, i + 1 => by simpa [labsP] using labs_at l (n + 1) i
  | false :: l, n, i + 1 => by simpa [labsP] using labs_at l n i
theorem map_get (l : List (List UInt8)) (i : Nat) : (l.map T)[i]?.getD E0 = T (l[i]?.getD []) := by
  rw [List.getElem?_map]
  cases l[i]? <;> rfl
end Go.Proofs.YtnankepcmaoijaaGreatDoor

/- The document's text and the program's, held against one another: whole. -/
namespace Go.Proofs.YtnankepcmaoijaaGreatDoor
open Go.RowKit

theorem write_parts (o : OpS) (x : PIns) (hc : o.call = false) (hp : o.parts ≠ []) : o.write x = o.word ++ [32] ++ o.parts.flatMap (PK.write x) := by
  unfold OpS.write
  rw [hc, if_neg (by decide), if_neg hp]

theorem wide_lt' (x : PIns) : x.wide < 18446744073709551616 := by
  unfold PIns.wide; omega

/-- The text of an instruction that reckons, and the like. -/
theorem text_sim (x : PI) (hx : x.Ok) (hn : x.refers ≠ 0 → nameB x.name = true) (lb : List UInt8) :
    textL { x.toN with label := if x.o.jumps then T lb else x.toN.label } = x.o.write { x.ins [] with label := if x.o.jumps then T lb else ByteArray.empty } := by
  have hF := hx.facts
  have hv : x.view = (wordM x.o.code).1 := rfl
  have hcall := hF.call
  have hjmp := hF.jumps
  obtain ⟨z1, z2, z3, z4, z5⟩ := hF.z
  have hd := hx.d
  have hs := hx.s
  have hsg := sgn_itoa x.num hx.n
  have hof := off_eq x.jump hx.j
  have hrd := reg_eq x.d hd
  have hrs := reg_eq x.s hs
  have td : ((x.d : Int)).toNat = x.d := rfl
  have ts : ((x.s : Int)).toNat = x.s := rfl
  have hkind := hF.kind
  have hrefs := hF.refers
  rw [← hv] at hkind hrefs hcall hjmp z1 z2 z3 z4 z5
  dsimp only
  have hneeds := hx.needs
  have hwl : ∀ (i : RIns), i.word = x.view.word → i.is32 = x.view.is32 → wordL i = wordL x.view := by
    intro i h1 h2
    unfold wordL
    rw [h1, h2]
  rcases hkind with ⟨k, hw, hp⟩ | ⟨k, hw, hp⟩ | ⟨k, hw, hp, h0⟩ | ⟨k, hw, hp⟩ | ⟨k, hw, hp, h0, hW⟩ | ⟨k, h0, hw⟩ | ⟨k, hw, hp, h0, he⟩
  all_goals rw [k] at hcall hjmp
  · -- what reckons
    have hc : x.o.call = false := hcall
    have hj : x.o.jumps = false := hjmp
    have hT : x.toN = { x.view with d := x.d, s := if x.view.s < 0 then x.view.s else x.s, n := u64 x.num } := by
      unfold PI.toN PI.toI toI'
      dsimp only
      rw [if_neg (by rw [k]; decide), if_neg (by rw [k]; decide), if_neg (by rw [k]; decide)]
    rw [hT, hj]
    simp only [Bool.false_eq_true, if_false]
    unfold textL
    dsimp only
    rw [if_pos k]
    rcases hp with ⟨hN, hp, h0⟩ | ⟨hN, ⟨hp, h0⟩ | ⟨hp, h0⟩⟩
    · rw [if_pos hN, write_parts _ _ hc (by rw [hp]; simp), hp, hw]
      simp [PK.write, PI.ins, td, hrd]
      rfl
    · rw [if_neg hN, write_parts _ _ hc (by rw [hp]; simp [regsA]), hp, hw]
      simp [PK.write, PI.ins, regsA, td, hrd, h0, othL, hrs]
      rfl
    · rw [if_neg hN, write_parts _ _ hc (by rw [hp]; simp [numsA]), hp, hw]
      simp [PK.write, PI.ins, numsA, td, hrd, h0, othL, hsg]
      rfl
  · -- jumps
    have hc : x.o.call = false := hcall
    have hj : x.o.jumps = true := hjmp
    have hT : x.toN = { x.view with d := x.d, s := if x.view.s < 0 then x.view.s else x.s, n := u64 x.num } := by
      unfold PI.toN PI.toI toI'
      dsimp only
      rw [if_neg (by rw [k]; decide), if_neg (by rw [k]; decide), if_neg (by rw [k]; decide)]
    rw [hT, hj]
    simp only [if_true]
    unfold textL
    dsimp only
    rw [if_neg (by rw [k]; decide), if_pos k]
    rcases hp with ⟨hN, hp, h0, hja⟩ | ⟨hN, ⟨hp, h0⟩ | ⟨hp, h0⟩, hja⟩
    · rw [if_pos (by rw [← hja]; rfl), write_parts _ _ hc (by rw [hp]; simp), hp, hw, hja]
      simp [PK.write, PI.ins]
    · rw [if_neg (fun h => hja (by rw [← h]; rfl)), write_parts _ _ hc (by rw [hp]; simp [regsJ]), hp, hw]
      simp [PK.write, PI.ins, regsJ, td, hrd, h0, othL, hrs]
      rfl
    · rw [if_neg (fun h => hja (by rw [← h]; rfl)), write_parts _ _ hc (by rw [hp]; simp [numsJ]), hp, hw]
      simp [PK.write, PI.ins, numsJ, td, hrd, h0, othL, hsg]
      rfl
  · -- loads
    have hc : x.o.call = false := hcall
    have hj : x.o.jumps = false := hjmp
    have hT : x.toN = { x.view with d := x.d, s := if x.view.s < 0 then x.view.s else x.s, n := u64 x.num, jump := x.jump } := by
      unfold PI.toN PI.toI toI'
      dsimp only
      rw [if_neg (by rw [k]; decide), if_neg (by rw [k]; decide), if_pos (.inl k)]
    rw [hT, hj]
    simp only [Bool.false_eq_true, if_false]
    unfold textL
    dsimp only
    rw [if_neg (by rw [k]; decide), if_neg (by rw [k]; decide), if_pos k, write_parts _ _ hc (by rw [hp]; simp [loadsP]), hp, hw]
    simp [PK.write, PI.ins, loadsP, td, hrd, h0, brL, hrs, hof]
    rfl
  · -- stores
    have hc : x.o.call = false := hcall
    have hj : x.o.jumps = false := hjmp
    have hT : x.toN = { x.view with d := x.d, s := if x.view.s < 0 then x.view.s else x.s, n := u64 x.num, jump := x.jump } := by
      unfold PI.toN PI.toI toI'
      dsimp only
      rw [if_neg (by rw [k]; decide), if_neg (by rw [k]; decide), if_pos (.inr k)]
    rw [hT, hj]
    simp only [Bool.false_eq_true, if_false]
    unfold textL
    dsimp only
    rw [if_neg (by rw [k]; decide), if_neg (by rw [k]; decide), if_neg (by rw [k]; decide), if_pos k]
    rcases hp with ⟨hp, h0⟩ | ⟨hp, h0⟩
    · rw [write_parts _ _ hc (by rw [hp]; simp [storesP]), hp, hw]
      simp [PK.write, PI.ins, storesP, td, hrd, h0, brL, othL, hrs, hof]
      rfl
    · rw [write_parts _ _ hc (by rw [hp]; simp [numbersP]), hp, hw]
      simp [PK.write, PI.ins, numbersP, td, hrd, h0, brL, othL, hsg, hof]
      rfl
  · -- wide
    have hc : x.o.call = false := hcall
    have hj : x.o.jumps = false := hjmp
    rw [hj]
    simp only [Bool.false_eq_true, if_false]
    rw [write_parts _ _ hc (by rw [hp]; simp), hp, hw]
    by_cases h1 : x.s = 1
    · have hr : x.refers ≠ 0 := by
        rw [k, if_pos rfl] at hrefs
        simp [PI.refers, h1, hrefs]
      have hnm : nmOf x = T x.name := by simp [nmOf, nameB_ne (hn hr)]
      have hne : T x.name ≠ E0 := fun h => nameB_ne (hn hr) (T_inj (h.trans (show E0 = T [] from rfl)))
      have hT : x.toN = { x.view with d := x.d, n := 0, s := 0, name := T x.name } := by
        unfold PI.toN PI.toI toI'
        dsimp only
        rw [if_pos k, if_pos h1, hnm]
      rw [hT]
      unfold textL
      dsimp only
      rw [if_neg (by rw [k]; decide), if_neg (by rw [k]; decide), if_neg (by rw [k]; decide), if_neg (by rw [k]; decide), if_pos k, if_pos hne]
      simp [PK.write, PI.ins, td, hrd, wideP, h1]
    · have hT : x.toN = { x.view with d := x.d, s := if x.view.s < 0 then x.view.s else x.s, n := (x.ins []).wide } := by
        unfold PI.toN PI.toI toI'
        dsimp only
        rw [if_pos k, if_neg h1]
      rw [hT]
      unfold textL
      dsimp only
      rw [if_neg (by rw [k]; decide), if_neg (by rw [k]; decide), if_neg (by rw [k]; decide), if_neg (by rw [k]; decide), if_pos k, if_neg (by rw [z5]; simp)]
      have hwl := wide_lt' (x.ins [])
      have ew : ((((x.ins []).wide : Nat) : Int)).toNat = (x.ins []).wide := rfl
      rw [ew, decM_eq _ (Nat.lt_of_lt_of_le hwl (by decide))]
      simp [PK.write, td, hrd, wideP, h1, PI.ins]
  · -- calls
    have hc : x.o.call = true := hcall
    have hj : x.o.jumps = false := hjmp
    rw [hj]
    simp only [Bool.false_eq_true, if_false]
    by_cases h1 : x.s = 1
    · have hr : x.refers ≠ 0 := by
        rw [k] at hrefs
        simp [PI.refers, h1, hrefs]
      have hnm : nmOf x = T x.name := by simp [nmOf, nameB_ne (hn hr)]
      have hT : x.toN = { x.view with d := x.d, n := 0, s := 0, name := T x.name } := by
        unfold PI.toN PI.toI toI'
        dsimp only
        rw [if_neg (by rw [k]; decide), if_pos k, if_pos h1, hnm]
      rw [hT]
      unfold textL
      dsimp only
      rw [if_neg (by rw [k]; decide), if_neg (by rw [k]; decide), if_neg (by rw [k]; decide), if_neg (by rw [k]; decide), if_neg (by rw [k]; decide), if_neg (by rw [k]; decide), if_pos k]
      unfold OpS.write
      rw [hc, if_pos rfl]
      simp [PI.ins, h1]
    · have hT : x.toN = { x.view with d := x.d, s := if x.view.s < 0 then x.view.s else x.s, n := 0, word := T [104, 101, 108, 112], label := helpersL[(u64 x.num).toNat - 1]?.getD E0 } := by
        unfold PI.toN PI.toI toI'
        dsimp only
        rw [if_neg (by rw [k]; decide), if_pos k, if_neg h1]
      rw [hT]
      unfold textL
      dsimp only
      rw [sort_help, if_neg (by decide), if_neg (by decide), if_neg (by decide), if_neg (by decide), if_neg (by decide), if_pos rfl]
      unfold OpS.write
      rw [hc, if_pos rfl, if_neg (by exact h1)]
      rw [need_call _ _ hc] at hneeds
      simp only [PI.ins, h1, decide_false, Bool.false_or, Bool.and_eq_true] at hneeds
      have hb1 : 1 ≤ x.num := of_decide_eq_true hneeds.2.1.2
      have hb2 : x.num < 5 := of_decide_eq_true hneeds.2.2
      have : x.num = 1 ∨ x.num = 2 ∨ x.num = 3 ∨ x.num = 4 := by omega
      have hnum : (PI.ins [] x).num = x.num := rfl
      show _ = [104, 101, 108, 112, 32] ++ helpW[(x.num - 1).toNat]?.getD []
      rcases this with h | h | h | h <;> rw [h] <;> rfl
  · -- exit
    have hc : x.o.call = false := hcall
    have hj : x.o.jumps = false := hjmp
    have hT : x.toN = { x.view with d := x.d, s := if x.view.s < 0 then x.view.s else x.s, n := u64 x.num } := by
      unfold PI.toN PI.toI toI'
      dsimp only
      rw [if_neg (by rw [k]; decide), if_neg (by rw [k]; decide), if_neg (by rw [k]; decide)]
    rw [hT, hj]
    simp only [Bool.false_eq_true, if_false]
    unfold textL
    dsimp only
    rw [if_neg (by rw [k]; decide), if_neg (by rw [k]; decide), if_neg (by rw [k]; decide), if_neg (by rw [k]; decide), if_neg (by rw [k]; decide), if_neg (by rw [k]; decide), if_neg (by rw [k]; decide)]
    unfold OpS.write
    rw [hc, hp, hw]
    rfl

/-- The text of a function's instructions. -/
theorem code_text (led : List Bool) (lab : Labs) : ∀ (l : List PI) (p : Nat), (∀ x ∈ l, x.Ok ∧ (x.refers ≠ 0 → nameB x.name = true)) → Found lab p l → led.length ≤ 10000 →
    codeT led (nmG led 0) lab ((lblL p l).zip (posL p l)) = codeTP (labsP led 0) p l
  | [], _, _, _, _ => rfl
  | x :: l, p, hO, hF, hl => by
    obtain ⟨hx, hn⟩ := hO x (by simp)
    have IH := code_text led lab l (p + x.o.slots) (fun y hy => hO y (List.mem_cons_of_mem _ hy)) hF.2 hl
    have e : (lblL p (x :: l)).zip (posL p (x :: l)) = (lblI p x, (p : Int)) :: (lblL (p + x.o.slots) l).zip (posL (p + x.o.slots) l) := rfl
    rw [e, codeTP]
    unfold codeT at IH ⊢
    rw [List.flatMap_cons, IH]
    congr 1
    unfold insT
    simp only
    have tp : ((p : Int)).toNat = p := rfl
    rw [tp, names_labs led 0 (by omega), map_get]
    have hla := labs_at led 0 p
    have h1 : (if led[p]?.getD false then BL (T ((labsP led 0)[p]?.getD [])) ++ [58, 10] else []) = (if (labsP led 0)[p]?.getD [] ≠ [] then (labsP led 0)[p]?.getD [] ++ [58, 10] else []) := by
      by_cases h : led[p]?.getD false = true
      · rw [if_pos h, if_pos (hla.2 h)]; rfl
      · rw [if_neg h, if_neg (fun h2 => h (hla.1 h2))]
    rw [h1]
    congr 2
    have h2 := text_sim x hx hn (x.lab (labsP led 0) p)
    have h3 : relabel ((labsP led 0).map T) lab (lblI p x) = { x.toN with label := if x.o.jumps then T (x.lab (labsP led 0) p) else x.toN.label } := by
      unfold relabel
      cases hj : x.o.jumps with
      | true =>
        rw [if_pos ((lbl_sort hx p).2 hj)]
        have hlb : lblI p x = { x.toN with label := labName (x.target p) } := by simp [lblI, hj]
        rw [hlb]
        simp only [if_true, (hF.1 hj).1, map_get]
        simp [PI.lab, hj]
      | false =>
        rw [if_neg (fun h => by rw [(lbl_sort hx p).1 h] at hj; cases hj)]
        have hlb : lblI p x = x.toN := by simp [lblI, hj]
        rw [hlb]
        simp
    rw [h3, h2]
    congr 2
    cases hj : x.o.jumps with
    | true => simp
    | false => simp [PI.lab, hj]; rfl

theorem found_same {lab : Labs} : ∀ {l k : List PI}, SameL l k → ∀ p, Found lab p l → Found lab p k
  | [], [], _, _, _ => trivial
  | x :: l, y :: k, h, p, hF => by
    refine ⟨?_, ?_⟩
    · rw [h.1.o, h.1.tgt]; exact hF.1
    · rw [h.1.o]; exact found_same h.2 _ hF.2
theorem same_names : ∀ {l k : List PI}, SameL l k → (∀ x ∈ l, x.Ok) → ∀ y ∈ k, y.Ok ∧ (y.refers ≠ 0 → nameB y.name = true)
  | [], [], _, _, _, h => by cases h
  | x :: l, y :: k, h, hO, z, hz => by
    rcases List.mem_cons.1 hz with rfl | hz
    · refine ⟨h.1.ok (hO x (by simp)), fun hr => h.1.yes ?_⟩
      have : z.refers = x.refers := by rw [h.1.e]; rfl
      rw [← this]; exact hr
    · exact same_names h.2 (fun w hw => hO w (List.mem_cons_of_mem _ hw)) z hz

/-- The text of a function. -/
theorem fn_text (h : PHead) (g f : PFn) (o : FOut) (hg : g.name = h.name ∧ g.Ok h.slots) (hs : f.name = g.name ∧ SameL g.code f.code) (ho : FRel f o) (hsl : h.slots ≤ 200) : fnT h.toR o = fnTP f := by
  obtain ⟨st, hst, hld⟩ := hg.2.ld
  have hOk := hs.2.ok hg.2.ok
  have hsl' : slotsP f.code = h.slots := (hs.2.slots 0).2.symm.trans hg.2.sl
  rw [hs.2.lead] at hld
  obtain ⟨_, hfd⟩ := labs_found st (by rw [hst.1]; exact hsl) f.code 0 [] (fun x hx => by cases hx) hld
  unfold fnT fnTP ledOf labelsP
  rw [ho.ls, ho.ats, ho.lab, led_sim _ _ _ _ hOk hfd]
  have hsl2 : h.toR.slots = slotsP f.code := by rw [hsl']; rfl
  rw [hsl2]
  have hlen : (ledP 0 f.code (List.replicate (slotsP f.code) false)).length ≤ 10000 := by
    have : ∀ (l : List PI) (p : Nat) (b : List Bool), (ledP p l b).length = b.length := by
      intro l
      induction l with
      | nil => intro p b; rfl
      | cons x l ih => intro p b; rw [ledP, ih]; split <;> simp
    rw [this, List.length_replicate, hsl']; omega
  rw [code_text _ _ _ _ (same_names hs.2 hg.2.ok) hfd hlen]
  have hnm : BL h.toR.name = f.name := by
    rw [hs.1, hg.1]; rfl
  rw [hnm]

theorem fns_text : ∀ (hs : List PHead) (gs fs : List PFn) (os : List FOut), HOk hs gs → SameF gs fs → FRels fs os → (∀ h ∈ hs, h.slots ≤ 200) → fnsT ((hs.map PHead.toR).zip os) = fs.flatMap fnTP
  | [], [], [], [], _, _, _, _ => rfl
  | h :: hs, g :: gs, f :: fs, o :: os, h1, h2, h3, h4 => by
    have IH := fns_text hs gs fs os h1.2 h2.2 h3.2 (fun x hx => h4 x (List.mem_cons_of_mem _ hx))
    unfold fnsT at IH ⊢
    rw [List.map_cons, List.zip_cons_cons, List.flatMap_cons, List.flatMap_cons, IH, fn_text h g f o h1.1 h2.1 h3.1 (h4 h (by simp))]

theorem maps_text : ∀ (ms : List PMap) (p : Option ByteArray), mapsR p (ms.map PMap.toR) = true → mapsT (ms.map PMap.toR) = ms.flatMap mapTP
  | [], _, _ => rfl
  | m :: ms, p, h => by
    rw [List.map_cons, mapsR, Bool.and_eq_true, Bool.and_eq_true] at h
    have IH := maps_text ms _ h.2
    unfold mapsT at IH ⊢
    rw [List.map_cons, List.flatMap_cons, List.flatMap_cons, IH]
    congr 1
    have hk := h.1.1
    rw [show m.toR = ⟨T m.name, m.key, m.value, m.entries⟩ from rfl, mapOK_nat] at hk
    simp only [Bool.and_eq_true, decide_eq_true_eq] at hk
    unfold mapT mapTP sizeT
    have e1 : m.toR.key.toNat = m.key := rfl
    have e2 : m.toR.value.toNat = m.value := rfl
    have e3 : m.toR.entries.toNat = m.entries := rfl
    rw [e1, e2, e3, decM_itoa m.key (by omega), decM_itoa m.value (by omega), decM_itoa m.entries (by omega)]
    simp [PMap.toR, BL, T]

/-- THE PROGRAM'S DISASSEMBLING IS THE DOCUMENT'S. -/
theorem dis_eq (s : ByteArray) : disP (BL s) = disM s := by
  obtain ⟨h1, h2⟩ := decode_sim s
  unfold disP disM
  rcases bool_cases (decodeP (BL s)).2.2.bad with hb | hb
  · rw [hb, h2 hb]; rfl
  · obtain ⟨o, ho, hO⟩ := h1 hb
    obtain ⟨hs, gs, k1, k2, k3, k4, _⟩ := hO.ex
    rw [hb, ho]
    simp only [Bool.false_eq_true, if_false, Option.map_some]
    congr 1
    unfold textP textM
    rw [hO.me, k1, fns_text hs gs _ _ k2 k3 hO.rel (fun h hh => (k4 h hh).1), maps_text _ _ hO.mr]
end Go.Proofs.YtnankepcmaoijaaGreatDoor
