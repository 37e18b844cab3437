import Derived.Test.YtoknbkfclhmapaaGreatDoorC05
namespace Go.Proofs.YtoknbkfclhmapaaGreatDoor
open Go.RowKit
set_option maxRecDepth 100000 in
set_option maxHeartbeats 2000000 in
theorem ins_no1 (b:Nat) (s:ByteArray) (r:RS) (w:World) (hs:s.size<=maxLen) (h:RdAt w b s r) (hno:(wordM (rsl s r).1.op).2=false) :
  Calls Tryz.prog 49 #[.pointer (some ⟨b,0,none⟩)] w fun e w'=>e=.returned (insM s r).val/\RdAt w' b s (insM s r).r/\Mods (Only b) w w':=by
 have hlt:=h.lt
 obtain ⟨l1,l2,l3,l4,l5,l6,l7⟩:=rsl_bd s r
 have lw:=word_size (rsl s r).1.op
 have HM:Hid (insM s r=⟨(wordM (rsl s r).1.op).1,0,0,false,(rsl s r).2⟩):=by rw [Hid,insM,if_pos (.inl hno)]
 go_enter Tryz.func49,Tryz.ntmps49
 go_wp2_with fail
 refine (slot_any b s r _ hs (h.alloc _)).mono ?_
 rintro e w1 ⟨rfl,h1,m1⟩;generalize rsl s r=q at *
 obtain ⟨⟨op,d,sr,jump,n⟩,r1⟩:=q
 simp only at *
 have hz:Blk w1 w.heap.size (RIns.cells {}) 51:=Blk.mods (Blk.new w _ _) m1 (by simp [Only];omega)
 have M1:Mods (Only b) w w1:=((Mods.refl _ _).alloc _).trans m1
 have hsz:w.heap.size+1<=w1.heap.size:=by have:=m1.size;simpa using this
 clear m1
 simp only [RSlot.val]
 go_wp2_with fail
 refine (word_any op _ l1).mono ?_
 rintro e w2 ⟨rfl,m2⟩
 have h2:RdAt w2 b s r1:=(Blk.alloc h1 _).mods m2 (fun e=>e)
 have hz2:Blk w2 w.heap.size (RIns.cells {}) 51:=(hz.alloc _).mods m2 (fun e=>e)
 have hx:Blk w2 w1.heap.size (C5 op d sr jump n) 138:=(Blk.new w1 _ _).mods m2 (fun e=>e)
 have M2:Mods (Only b) w w2:=(M1.alloc _).trans (m2.of_nil)
 have hsz2:w1.heap.size+1<=w2.heap.size:=by have:=m2.size;simpa using this
 clear m2 M1 hz h1;generalize wordM op=q at *;obtain ⟨i,ok⟩:=q;simp only at *
 simp only [RIns.cells]
 subst hno;obtain ⟨z0,z1,z2,z3,z4,z5,z6,z7⟩:=hz2.cells8
 have fz:=hz2.frozen
 obtain ⟨x0,x1,x2,x3,x4⟩:=hx.cells5
 have n1:w.heap.size<w2.heap.size:=by omega
 have n2:w1.heap.size<w2.heap.size:=by omega
 have n3:b<w2.heap.size:=by omega
 have n4:b<w1.heap.size:=by omega
 clear hsz hsz2
 go_wp2
 refine bodyPost_ret (results_cell_tmp3 Tryz.results49 _ _ w.heap.size 51 _ (0,0) _ _ _ _ rfl rfl rfl rfl (Blk.alloc (Blk.set8 hz2 _ _ _ _ _ _ _ _) _) Tryz.underlying51 rfl (by kernel_rfl)) rfl ⟨?_,?_,?_⟩
 ·rw [HM.out];rfl
 ·rw [HM.out]
  refine Blk.alloc ?_ _
  iterate 8 refine Blk.setOther ?_ (by simp;omega) _
  exact h2
 ·exact (M2.set8 (.inr (Nat.le_refl _)) _ _ _ _ _ _ _ _).alloc _
set_option maxRecDepth 100000 in
set_option maxHeartbeats 2000000 in
theorem ins_no2 (b:Nat) (s:ByteArray) (r:RS) (w:World) (hs:s.size<=maxLen) (h:RdAt w b s r) (hok:(wordM (rsl s r).1.op).2=true) (hno:(rsl s r).2.bad=true) :
  Calls Tryz.prog 49 #[.pointer (some ⟨b,0,none⟩)] w fun e w'=>e=.returned (insM s r).val/\RdAt w' b s (insM s r).r/\Mods (Only b) w w':=by
 have hlt:=h.lt
 obtain ⟨l1,l2,l3,l4,l5,l6,l7⟩:=rsl_bd s r
 have lw:=word_size (rsl s r).1.op
 have HM:Hid (insM s r=⟨(wordM (rsl s r).1.op).1,0,0,false,(rsl s r).2⟩):=by rw [Hid,insM,if_pos (.inr (.inl hno))]
 go_enter Tryz.func49,Tryz.ntmps49
 go_wp2_with fail
 refine (slot_any b s r _ hs (h.alloc _)).mono ?_
 rintro e w1 ⟨rfl,h1,m1⟩;generalize rsl s r=q at *
 obtain ⟨⟨op,d,sr,jump,n⟩,r1⟩:=q
 simp only at *
 have hz:Blk w1 w.heap.size (RIns.cells {}) 51:=Blk.mods (Blk.new w _ _) m1 (by simp [Only];omega)
 have M1:Mods (Only b) w w1:=((Mods.refl _ _).alloc _).trans m1
 have hsz:w.heap.size+1<=w1.heap.size:=by have:=m1.size;simpa using this
 clear m1
 simp only [RSlot.val]
 go_wp2_with fail
 refine (word_any op _ l1).mono ?_
 rintro e w2 ⟨rfl,m2⟩
 have h2:RdAt w2 b s r1:=(Blk.alloc h1 _).mods m2 (fun e=>e)
 have hz2:Blk w2 w.heap.size (RIns.cells {}) 51:=(hz.alloc _).mods m2 (fun e=>e)
 have hx:Blk w2 w1.heap.size (C5 op d sr jump n) 138:=(Blk.new w1 _ _).mods m2 (fun e=>e)
 have M2:Mods (Only b) w w2:=(M1.alloc _).trans (m2.of_nil)
 have hsz2:w1.heap.size+1<=w2.heap.size:=by have:=m2.size;simpa using this
 clear m2 M1 hz h1;generalize wordM op=q at *;obtain ⟨i,ok⟩:=q;simp only at *
 simp only [RIns.cells]
 subst hok;obtain ⟨p,bad⟩:=r1
 simp only at hno
 subst hno;obtain ⟨z0,z1,z2,z3,z4,z5,z6,z7⟩:=hz2.cells8
 have fz:=hz2.frozen
 obtain ⟨x0,x1,x2,x3,x4⟩:=hx.cells5
 have n1:w.heap.size<w2.heap.size:=by omega
 have n2:w1.heap.size<w2.heap.size:=by omega
 have n3:b<w2.heap.size:=by omega
 have n4:b<w1.heap.size:=by omega
 clear hsz hsz2
 have r2:=h2.cell 2
 simp at r2
 go_wp2
 refine bodyPost_ret (results_cell_tmp3 Tryz.results49 _ _ w.heap.size 51 _ (0,0) _ _ _ _ rfl rfl rfl rfl (Blk.alloc (Blk.set8 hz2 _ _ _ _ _ _ _ _) _) Tryz.underlying51 rfl (by kernel_rfl)) rfl ⟨?_,?_,?_⟩
 ·rw [HM.out];rfl
 ·rw [HM.out]
  refine Blk.alloc ?_ _
  iterate 8 refine Blk.setOther ?_ (by simp;omega) _
  exact h2
 ·exact (M2.set8 (.inr (Nat.le_refl _)) _ _ _ _ _ _ _ _).alloc _
set_option maxRecDepth 100000 in
set_option maxHeartbeats 2000000 in
theorem ins_no3 (b:Nat) (s:ByteArray) (r:RS) (w:World) (hs:s.size<=maxLen) (h:RdAt w b s r) (hok:(wordM (rsl s r).1.op).2=true) (hb:(rsl s r).2.bad=false) (hno:10<(rsl s r).1.d) :
  Calls Tryz.prog 49 #[.pointer (some ⟨b,0,none⟩)] w fun e w'=>e=.returned (insM s r).val/\RdAt w' b s (insM s r).r/\Mods (Only b) w w':=by
 have hlt:=h.lt
 obtain ⟨l1,l2,l3,l4,l5,l6,l7⟩:=rsl_bd s r
 have lw:=word_size (rsl s r).1.op
 have HM:Hid (insM s r=⟨(wordM (rsl s r).1.op).1,0,0,false,(rsl s r).2⟩):=by rw [Hid,insM,if_pos (.inr (.inr (.inl hno)))]
 go_enter Tryz.func49,Tryz.ntmps49
 go_wp2_with fail
 refine (slot_any b s r _ hs (h.alloc _)).mono ?_
 rintro e w1 ⟨rfl,h1,m1⟩;generalize rsl s r=q at *
 obtain ⟨⟨op,d,sr,jump,n⟩,r1⟩:=q
 simp only at *
 have hz:Blk w1 w.heap.size (RIns.cells {}) 51:=Blk.mods (Blk.new w _ _) m1 (by simp [Only];omega)
 have M1:Mods (Only b) w w1:=((Mods.refl _ _).alloc _).trans m1
 have hsz:w.heap.size+1<=w1.heap.size:=by have:=m1.size;simpa using this
 clear m1
 simp only [RSlot.val]
 go_wp2_with fail
 refine (word_any op _ l1).mono ?_
 rintro e w2 ⟨rfl,m2⟩
 have h2:RdAt w2 b s r1:=(Blk.alloc h1 _).mods m2 (fun e=>e)
 have hz2:Blk w2 w.heap.size (RIns.cells {}) 51:=(hz.alloc _).mods m2 (fun e=>e)
 have hx:Blk w2 w1.heap.size (C5 op d sr jump n) 138:=(Blk.new w1 _ _).mods m2 (fun e=>e)
 have M2:Mods (Only b) w w2:=(M1.alloc _).trans (m2.of_nil)
 have hsz2:w1.heap.size+1<=w2.heap.size:=by have:=m2.size;simpa using this
 clear m2 M1 hz h1;generalize wordM op=q at *;obtain ⟨i,ok⟩:=q;simp only at *
 simp only [RIns.cells]
 subst hok;obtain ⟨p,bad⟩:=r1
 simp only at hb
 subst hb;obtain ⟨z0,z1,z2,z3,z4,z5,z6,z7⟩:=hz2.cells8
 have fz:=hz2.frozen
 obtain ⟨x0,x1,x2,x3,x4⟩:=hx.cells5
 have n1:w.heap.size<w2.heap.size:=by omega
 have n2:w1.heap.size<w2.heap.size:=by omega
 have n3:b<w2.heap.size:=by omega
 have n4:b<w1.heap.size:=by omega
 clear hsz hsz2
 have r2:=h2.cell 2
 simp at r2
 have hd:(10:Int)<(d:Int):=by omega
 go_wp2
 refine bodyPost_ret (results_cell_tmp3 Tryz.results49 _ _ w.heap.size 51 _ (0,0) _ _ _ _ rfl rfl rfl rfl (Blk.alloc (Blk.set8 hz2 _ _ _ _ _ _ _ _) _) Tryz.underlying51 rfl (by kernel_rfl)) rfl ⟨?_,?_,?_⟩
 ·rw [HM.out];rfl
 ·rw [HM.out]
  refine Blk.alloc ?_ _
  iterate 8 refine Blk.setOther ?_ (by simp;omega) _
  exact h2
 ·exact (M2.set8 (.inr (Nat.le_refl _)) _ _ _ _ _ _ _ _).alloc _
set_option maxRecDepth 100000 in
set_option maxHeartbeats 2000000 in
theorem ins_no4 (b:Nat) (s:ByteArray) (r:RS) (w:World) (hs:s.size<=maxLen) (h:RdAt w b s r) (hok:(wordM (rsl s r).1.op).2=true) (hb:(rsl s r).2.bad=false) (hd:(rsl s r).1.d<=10) (hno:10<(rsl s r).1.s) :
  Calls Tryz.prog 49 #[.pointer (some ⟨b,0,none⟩)] w fun e w'=>e=.returned (insM s r).val/\RdAt w' b s (insM s r).r/\Mods (Only b) w w':=by
 have hlt:=h.lt
 obtain ⟨l1,l2,l3,l4,l5,l6,l7⟩:=rsl_bd s r
 have lw:=word_size (rsl s r).1.op
 have HM:Hid (insM s r=⟨(wordM (rsl s r).1.op).1,0,0,false,(rsl s r).2⟩):=by rw [Hid,insM,if_pos (.inr (.inr (.inr hno)))]
 go_enter Tryz.func49,Tryz.ntmps49
 go_wp2_with fail
 refine (slot_any b s r _ hs (h.alloc _)).mono ?_
 rintro e w1 ⟨rfl,h1,m1⟩;generalize rsl s r=q at *
 obtain ⟨⟨op,d,sr,jump,n⟩,r1⟩:=q
 simp only at *
 have hz:Blk w1 w.heap.size (RIns.cells {}) 51:=Blk.mods (Blk.new w _ _) m1 (by simp [Only];omega)
 have M1:Mods (Only b) w w1:=((Mods.refl _ _).alloc _).trans m1
 have hsz:w.heap.size+1<=w1.heap.size:=by have:=m1.size;simpa using this
 clear m1
 simp only [RSlot.val]
 go_wp2_with fail
 refine (word_any op _ l1).mono ?_
 rintro e w2 ⟨rfl,m2⟩
 have h2:RdAt w2 b s r1:=(Blk.alloc h1 _).mods m2 (fun e=>e)
 have hz2:Blk w2 w.heap.size (RIns.cells {}) 51:=(hz.alloc _).mods m2 (fun e=>e)
 have hx:Blk w2 w1.heap.size (C5 op d sr jump n) 138:=(Blk.new w1 _ _).mods m2 (fun e=>e)
 have M2:Mods (Only b) w w2:=(M1.alloc _).trans (m2.of_nil)
 have hsz2:w1.heap.size+1<=w2.heap.size:=by have:=m2.size;simpa using this
 clear m2 M1 hz h1;generalize wordM op=q at *;obtain ⟨i,ok⟩:=q;simp only at *
 simp only [RIns.cells]
 subst hok;obtain ⟨p,bad⟩:=r1
 simp only at hb
 subst hb;obtain ⟨z0,z1,z2,z3,z4,z5,z6,z7⟩:=hz2.cells8
 have fz:=hz2.frozen
 obtain ⟨x0,x1,x2,x3,x4⟩:=hx.cells5
 have n1:w.heap.size<w2.heap.size:=by omega
 have n2:w1.heap.size<w2.heap.size:=by omega
 have n3:b<w2.heap.size:=by omega
 have n4:b<w1.heap.size:=by omega
 clear hsz hsz2
 have r2:=h2.cell 2
 simp at r2
 have hd':decide ((10:Int)<(d:Int))=false:=decide_eq_false (by omega)
 have hsr:(10:Int)<(sr:Int):=by omega
 go_wp2
 refine bodyPost_ret (results_cell_tmp3 Tryz.results49 _ _ w.heap.size 51 _ (0,0) _ _ _ _ rfl rfl rfl rfl (Blk.alloc (Blk.set8 hz2 _ _ _ _ _ _ _ _) _) Tryz.underlying51 rfl (by kernel_rfl)) rfl ⟨?_,?_,?_⟩
 ·rw [HM.out];rfl
 ·rw [HM.out]
  refine Blk.alloc ?_ _
  iterate 8 refine Blk.setOther ?_ (by simp;omega) _
  exact h2
 ·exact (M2.set8 (.inr (Nat.le_refl _)) _ _ _ _ _ _ _ _).alloc _
def Sorts (x:RIns × Bool):Prop:=x.2=true->(sortM x.1.word=114)\/(sortM x.1.word=106)\/((sortM x.1.word=108\/sortM x.1.word=115))\/(¬ x.1.s<0/\(sortM x.1.word=119\/sortM x.1.word=99\/sortM x.1.word=101))
theorem reckons_sort (k:Nat) (h:k<13):sortM (reckonsL[k]?.getD E0)=114:=by
 have:k=0\/k=1\/k=2\/k=3\/k=4\/k=5\/k=6\/k=7\/k=8\/k=9\/k=10\/k=11\/k=12:=by omega
 rcases this with rfl | rfl | rfl | rfl | rfl | rfl | rfl | rfl | rfl | rfl | rfl | rfl | rfl<;>decide +kernel
theorem compares_sort (k:Nat) (h:k<12):sortM (comparesL[k]?.getD E0)=106:=by
 have:k=0\/k=1\/k=2\/k=3\/k=4\/k=5\/k=6\/k=7\/k=8\/k=9\/k=10\/k=11:=by omega
 rcases this with rfl | rfl | rfl | rfl | rfl | rfl | rfl | rfl | rfl | rfl | rfl | rfl<;>decide +kernel
theorem mem_sort (k:Nat) (h:k<12):sortM (memL[k]?.getD E0)=108\/sortM (memL[k]?.getD E0)=115:=by
 have:k=0\/k=1\/k=2\/k=3\/k=4\/k=5\/k=6\/k=7\/k=8\/k=9\/k=10\/k=11:=by omega
 rcases this with rfl | rfl | rfl | rfl | rfl | rfl | rfl | rfl | rfl | rfl | rfl | rfl<;>decide +kernel
theorem wide_sort:sortM (T [119,105,100,101])=119:=by decide +kernel
theorem call_sort:sortM (T [99,97,108,108])=99:=by decide +kernel
theorem exit_sort:sortM (T [101,120,105,116])=101:=by decide +kernel
set_option maxRecDepth 100000 in
theorem word_sorts (op:Nat):Sorts (wordM op):=by
 by_cases c1:op<64/\1<=op % 16/\op % 16<=13/\(op % 16<13\/op<32)
 ·rw [wordM,if_pos c1];exact fun _=>.inl (reckons_sort (op % 16 - 1) (by omega))
 rw [wordM,if_neg c1]
 by_cases c2:64<=op/\op<76
 ·rw [if_pos c2];exact fun _=>.inr (.inl (compares_sort (op - 64) (by omega)))
 rw [if_neg c2]
 by_cases c3:96<op/\op<108
 ·rw [if_pos c3];exact fun _=>.inr (.inl (compares_sort (op - 96) (by omega)))
 rw [if_neg c3]
 by_cases c4:128<=op/\op<140
 ·rw [if_pos c4];exact fun _=>.inr (.inr (.inl (mem_sort (op - 128) (by omega))))
 rw [if_neg c4]
 by_cases c5:op=192
 ·rw [if_pos c5];exact fun _=>.inr (.inr (.inr ⟨by simp,.inl wide_sort⟩))
 rw [if_neg c5]
 by_cases c6:op=193
 ·rw [if_pos c6];exact fun _=>.inr (.inr (.inr ⟨by simp,.inr (.inl call_sort)⟩))
 rw [if_neg c6]
 by_cases c7:op=194
 ·rw [if_pos c7];exact fun _=>.inr (.inr (.inr ⟨by simp,.inr (.inr exit_sort)⟩))
 rw [if_neg c7]
 exact fun h=>by simp at h
set_option maxRecDepth 100000 in
set_option maxHeartbeats 2000000 in
theorem ins_r1 (b:Nat) (s:ByteArray) (r:RS) (w:World) (hs:s.size<=maxLen) (h:RdAt w b s r) (hok:(wordM (rsl s r).1.op).2=true) (hb:(rsl s r).2.bad=false) (hd:(rsl s r).1.d<=10) (hsr:(rsl s r).1.s<=10) (hk:sortM (wordM (rsl s r).1.op).1.word=114) (hby:(wordM (rsl s r).1.op).1.s<0) :
  Calls Tryz.prog 49 #[.pointer (some ⟨b,0,none⟩)] w fun e w'=>e=.returned (insM s r).val/\RdAt w' b s (insM s r).r/\Mods (Only b) w w':=by
 have hlt:=h.lt
 obtain ⟨l1,l2,l3,l4,l5,l6,l7⟩:=rsl_bd s r
 have lw:=word_size (rsl s r).1.op
 have HM:Hid (insM s r=⟨insBase (wordM (rsl s r).1.op).1 (rsl s r).1,0,0,!((((rsl s r).1.d:Int)==10)||((rsl s r).1.jump != 0)||(((rsl s r).1.s:Int) != 0)),(rsl s r).2⟩):=by
  rw [Hid,insM,if_neg (by simp [hok,hb];omega)]
  simp only [hk]
  simp [hby]
 go_enter Tryz.func49,Tryz.ntmps49
 go_wp2_with fail
 refine (slot_any b s r _ hs (h.alloc _)).mono ?_
 rintro e w1 ⟨rfl,h1,m1⟩;generalize rsl s r=q at *
 obtain ⟨⟨op,d,sr,jump,n⟩,r1⟩:=q
 simp only at *
 have hz:Blk w1 w.heap.size (RIns.cells {}) 51:=Blk.mods (Blk.new w _ _) m1 (by simp [Only];omega)
 have M1:Mods (Only b) w w1:=((Mods.refl _ _).alloc _).trans m1
 have hsz:w.heap.size+1<=w1.heap.size:=by have:=m1.size;simpa using this
 clear m1
 simp only [RSlot.val]
 go_wp2_with fail
 refine (word_any op _ l1).mono ?_
 rintro e w2 ⟨rfl,m2⟩
 have h2:RdAt w2 b s r1:=(Blk.alloc h1 _).mods m2 (fun e=>e)
 have hz2:Blk w2 w.heap.size (RIns.cells {}) 51:=(hz.alloc _).mods m2 (fun e=>e)
 have hx:Blk w2 w1.heap.size (C5 op d sr jump n) 138:=(Blk.new w1 _ _).mods m2 (fun e=>e)
 have M2:Mods (Only b) w w2:=(M1.alloc _).trans (m2.of_nil)
 have hsz2:w1.heap.size+1<=w2.heap.size:=by have:=m2.size;simpa using this
 clear m2 M1 hz h1;generalize wordM op=q at *;obtain ⟨i,ok⟩:=q;simp only at *
 simp only [RIns.cells]
 subst hok;obtain ⟨p,bad⟩:=r1
 simp only at hb
 subst hb;obtain ⟨z0,z1,z2,z3,z4,z5,z6,z7⟩:=hz2.cells8
 have fz:=hz2.frozen
 obtain ⟨x0,x1,x2,x3,x4⟩:=hx.cells5
 have n0:w.heap.size<w1.heap.size:=by omega
 have n1:w.heap.size<w2.heap.size:=by omega
 have n2:w1.heap.size<w2.heap.size:=by omega
 have n3:b<w2.heap.size:=by omega
 have n4:b<w1.heap.size:=by omega
 clear hsz hsz2
 have r2:=h2.cell 2
 simp at r2
 have hd':decide ((10:Int)<(d:Int))=false:=decide_eq_false (by omega)
 have hs':decide ((10:Int)<(sr:Int))=false:=decide_eq_false (by omega)
 go_wp2_with fail
 refine (sort_any _ _ (by unfold maxLen;omega)).mono ?_
 rintro e w3 ⟨rfl,m3⟩
 have h3:RdAt w3 b s ⟨p,false⟩:=(Blk.alloc h2 _).mods m3 (fun e=>e)
 have hz3:Blk w3 w.heap.size (RIns.cells {}) 51:=(hz2.alloc _).mods m3 (fun e=>e)
 have hx3:Blk w3 w1.heap.size (C5 op d sr jump n) 138:=(hx.alloc _).mods m3 (fun e=>e)
 have hi3:Blk w3 w2.heap.size (RIns.cells { i with d:=d }) 51:=(Blk.new w2 _ _).mods m3 (fun e=>e)
 have M3:Mods (Only b) w w3:=(M2.alloc _).trans (m3.of_nil)
 have n5:w2.heap.size<w3.heap.size:=hi3.lt
 clear m3 M2 h2 hz2 hx x0 x1 x2 x3 x4 z0 z1 z2 z3 z4 z5 z6 z7 fz r2;obtain ⟨z0,z1,z2,z3,z4,z5,z6,z7⟩:=hz3.cells8
 have fz:=hz3.frozen
 obtain ⟨x0,x1,x2,x3,x4⟩:=hx3.cells5;obtain ⟨i0,i1,i2,i3,i4,i5,i6,i7⟩:=hi3.cells8
 have fi:=hi3.frozen
 have r2:=h3.cell 2
 simp at r2
 simp only at i0 i1 i2 i3 i4 i5 i6 i7
 rw [hk]
 go_wp2
 all_goals
  refine bodyPost_ret (results_cell_tmp3 Tryz.results49 _ _ w.heap.size 51 _ (0,0) _ _ _ _ rfl rfl rfl rfl (Blk.set8 (hz3.setOther (a:=⟨w2.heap.size,5,none⟩) (by simp;omega) _) _ _ _ _ _ _ _ _) Tryz.underlying51 rfl (by kernel_rfl)) rfl ⟨?_,?_,?_⟩
  ·rw [HM.out]
   simp [InsOut.val,insBase,RIns.cells, *]
  ·rw [HM.out]
   iterate 9 refine Blk.setOther ?_ (by simp;omega) _
   exact h3
  ·exact (M3.setNew (a:=⟨w2.heap.size,5,none⟩) (by simp;omega) _).set8 (.inr (Nat.le_refl _)) _ _ _ _ _ _ _ _
set_option maxRecDepth 100000 in
set_option maxHeartbeats 2000000 in
theorem ins_r2 (b:Nat) (s:ByteArray) (r:RS) (w:World) (hs:s.size<=maxLen) (h:RdAt w b s r) (hok:(wordM (rsl s r).1.op).2=true) (hb:(rsl s r).2.bad=false) (hd:(rsl s r).1.d<=10) (hsr:(rsl s r).1.s<=10) (hk:sortM (wordM (rsl s r).1.op).1.word=114) (hby0:¬ (wordM (rsl s r).1.op).1.s<0) (HW:Hid ((wordM (rsl s r).1.op).1.word=T [110,101,103])) :
  Calls Tryz.prog 49 #[.pointer (some ⟨b,0,none⟩)] w fun e w'=>e=.returned (insM s r).val/\RdAt w' b s (insM s r).r/\Mods (Only b) w w':=by
 have hlt:=h.lt
 obtain ⟨l1,l2,l3,l4,l5,l6,l7⟩:=rsl_bd s r
 have lw:=word_size (rsl s r).1.op
 have HM:Hid (insM s r=⟨insBase (wordM (rsl s r).1.op).1 (rsl s r).1,0,0,!((((rsl s r).1.d:Int)==10)||((rsl s r).1.jump != 0)||((rsl s r).1.n != 0)||(((rsl s r).1.s:Int) != 0)),(rsl s r).2⟩):=by
  rw [Hid,insM,if_neg (by simp [hok,hb];omega)]
  simp only [hk]
  simp [hby0,HW.out,NEG]
 go_enter Tryz.func49,Tryz.ntmps49
 go_wp2_with fail
 refine (slot_any b s r _ hs (h.alloc _)).mono ?_
 rintro e w1 ⟨rfl,h1,m1⟩;generalize rsl s r=q at *
 obtain ⟨⟨op,d,sr,jump,n⟩,r1⟩:=q
 simp only at *
 have hz:Blk w1 w.heap.size (RIns.cells {}) 51:=Blk.mods (Blk.new w _ _) m1 (by simp [Only];omega)
 have M1:Mods (Only b) w w1:=((Mods.refl _ _).alloc _).trans m1
 have hsz:w.heap.size+1<=w1.heap.size:=by have:=m1.size;simpa using this
 clear m1
 simp only [RSlot.val]
 go_wp2_with fail
 refine (word_any op _ l1).mono ?_
 rintro e w2 ⟨rfl,m2⟩
 have h2:RdAt w2 b s r1:=(Blk.alloc h1 _).mods m2 (fun e=>e)
 have hz2:Blk w2 w.heap.size (RIns.cells {}) 51:=(hz.alloc _).mods m2 (fun e=>e)
 have hx:Blk w2 w1.heap.size (C5 op d sr jump n) 138:=(Blk.new w1 _ _).mods m2 (fun e=>e)
 have M2:Mods (Only b) w w2:=(M1.alloc _).trans (m2.of_nil)
 have hsz2:w1.heap.size+1<=w2.heap.size:=by have:=m2.size;simpa using this
 clear m2 M1 hz h1;generalize wordM op=q at *;obtain ⟨i,ok⟩:=q;simp only at *
 simp only [RIns.cells]
 subst hok;obtain ⟨p,bad⟩:=r1
 simp only at hb
 subst hb;obtain ⟨z0,z1,z2,z3,z4,z5,z6,z7⟩:=hz2.cells8
 have fz:=hz2.frozen
 obtain ⟨x0,x1,x2,x3,x4⟩:=hx.cells5
 have n0:w.heap.size<w1.heap.size:=by omega
 have n1:w.heap.size<w2.heap.size:=by omega
 have n2:w1.heap.size<w2.heap.size:=by omega
 have n3:b<w2.heap.size:=by omega
 have n4:b<w1.heap.size:=by omega
 clear hsz hsz2
 have r2:=h2.cell 2
 simp at r2
 have hd':decide ((10:Int)<(d:Int))=false:=decide_eq_false (by omega)
 have hs':decide ((10:Int)<(sr:Int))=false:=decide_eq_false (by omega)
 go_wp2_with fail
 refine (sort_any _ _ (by unfold maxLen;omega)).mono ?_
 rintro e w3 ⟨rfl,m3⟩
 have h3:RdAt w3 b s ⟨p,false⟩:=(Blk.alloc h2 _).mods m3 (fun e=>e)
 have hz3:Blk w3 w.heap.size (RIns.cells {}) 51:=(hz2.alloc _).mods m3 (fun e=>e)
 have hx3:Blk w3 w1.heap.size (C5 op d sr jump n) 138:=(hx.alloc _).mods m3 (fun e=>e)
 have hi3:Blk w3 w2.heap.size (RIns.cells { i with d:=d }) 51:=(Blk.new w2 _ _).mods m3 (fun e=>e)
 have M3:Mods (Only b) w w3:=(M2.alloc _).trans (m3.of_nil)
 have n5:w2.heap.size<w3.heap.size:=hi3.lt
 clear m3 M2 h2 hz2 hx x0 x1 x2 x3 x4 z0 z1 z2 z3 z4 z5 z6 z7 fz r2;obtain ⟨z0,z1,z2,z3,z4,z5,z6,z7⟩:=hz3.cells8
 have fz:=hz3.frozen
 obtain ⟨x0,x1,x2,x3,x4⟩:=hx3.cells5;obtain ⟨i0,i1,i2,i3,i4,i5,i6,i7⟩:=hi3.cells8
 have fi:=hi3.frozen
 have r2:=h3.cell 2
 simp at r2
 simp only at i0 i1 i2 i3 i4 i5 i6 i7
 rw [hk]
 have hby:decide (i.s<0)=false:=decide_eq_false (by omega)
 have HB0:Hid (¬ i.s<0):=by unfold Hid;omega
 have hin:Hid (insBase i ⟨op,d,sr,jump,n⟩={ i with d:=d,s:=sr,n:=n }):=by simp [Hid,insBase,HB0.out]
 clear hby0
 have hwb:=lit_eq (l:=[110,101,103]) HW.out
 go_wp2
 all_goals
  rw [hin.out] at HM
  refine bodyPost_ret (results_cell_tmp3 Tryz.results49 _ _ w.heap.size 51 _ (0,0) _ _ _ _ rfl rfl rfl rfl (Blk.set8 ((hz3.setOther (a:=⟨w2.heap.size,3,none⟩) (by simp;omega) _).setOther (a:=⟨w2.heap.size,5,none⟩) (by simp;omega) _) _ _ _ _ _ _ _ _) Tryz.underlying51 rfl (by kernel_rfl)) rfl ⟨?_,?_,?_⟩
  ·rw [HM.out]
   simp [InsOut.val,RIns.cells, *]
  ·rw [HM.out]
   iterate 10 refine Blk.setOther ?_ (by simp;omega) _
   exact h3
  ·exact ((M3.setNew (a:=⟨w2.heap.size,3,none⟩) (by simp;omega) _).setNew (a:=⟨w2.heap.size,5,none⟩) (by simp;omega) _).set8 (.inr (Nat.le_refl _)) _ _ _ _ _ _ _ _
set_option maxRecDepth 100000 in
set_option maxHeartbeats 2000000 in
theorem ins_r3 (b:Nat) (s:ByteArray) (r:RS) (w:World) (hs:s.size<=maxLen) (h:RdAt w b s r) (hok:(wordM (rsl s r).1.op).2=true) (hb:(rsl s r).2.bad=false) (hd:(rsl s r).1.d<=10) (hsr:(rsl s r).1.s<=10) (hk:sortM (wordM (rsl s r).1.op).1.word=114) (hby0:¬ (wordM (rsl s r).1.op).1.s<0) (HW:Hid (¬ (wordM (rsl s r).1.op).1.word=T [110,101,103])) :
  Calls Tryz.prog 49 #[.pointer (some ⟨b,0,none⟩)] w fun e w'=>e=.returned (insM s r).val/\RdAt w' b s (insM s r).r/\Mods (Only b) w w':=by
 have hlt:=h.lt
 obtain ⟨l1,l2,l3,l4,l5,l6,l7⟩:=rsl_bd s r
 have lw:=word_size (rsl s r).1.op
 have HM:Hid (insM s r=⟨insBase (wordM (rsl s r).1.op).1 (rsl s r).1,0,0,!((((rsl s r).1.d:Int)==10)||((rsl s r).1.jump != 0)||((rsl s r).1.n != 0)),(rsl s r).2⟩):=by
  rw [Hid,insM,if_neg (by simp [hok,hb];omega)]
  simp only [hk]
  simp [hby0,HW.out,NEG]
 go_enter Tryz.func49,Tryz.ntmps49
 go_wp2_with fail
 refine (slot_any b s r _ hs (h.alloc _)).mono ?_
 rintro e w1 ⟨rfl,h1,m1⟩;generalize rsl s r=q at *
 obtain ⟨⟨op,d,sr,jump,n⟩,r1⟩:=q
 simp only at *
 have hz:Blk w1 w.heap.size (RIns.cells {}) 51:=Blk.mods (Blk.new w _ _) m1 (by simp [Only];omega)
 have M1:Mods (Only b) w w1:=((Mods.refl _ _).alloc _).trans m1
 have hsz:w.heap.size+1<=w1.heap.size:=by have:=m1.size;simpa using this
 clear m1
 simp only [RSlot.val]
 go_wp2_with fail
 refine (word_any op _ l1).mono ?_
 rintro e w2 ⟨rfl,m2⟩
 have h2:RdAt w2 b s r1:=(Blk.alloc h1 _).mods m2 (fun e=>e)
 have hz2:Blk w2 w.heap.size (RIns.cells {}) 51:=(hz.alloc _).mods m2 (fun e=>e)
 have hx:Blk w2 w1.heap.size (C5 op d sr jump n) 138:=(Blk.new w1 _ _).mods m2 (fun e=>e)
 have M2:Mods (Only b) w w2:=(M1.alloc _).trans (m2.of_nil)
 have hsz2:w1.heap.size+1<=w2.heap.size:=by have:=m2.size;simpa using this
 clear m2 M1 hz h1;generalize wordM op=q at *;obtain ⟨i,ok⟩:=q;simp only at *
 simp only [RIns.cells]
 subst hok;obtain ⟨p,bad⟩:=r1
 simp only at hb
 subst hb;obtain ⟨z0,z1,z2,z3,z4,z5,z6,z7⟩:=hz2.cells8
 have fz:=hz2.frozen
 obtain ⟨x0,x1,x2,x3,x4⟩:=hx.cells5
 have n0:w.heap.size<w1.heap.size:=by omega
 have n1:w.heap.size<w2.heap.size:=by omega
 have n2:w1.heap.size<w2.heap.size:=by omega
 have n3:b<w2.heap.size:=by omega
 have n4:b<w1.heap.size:=by omega
 clear hsz hsz2
 have r2:=h2.cell 2
 simp at r2
 have hd':decide ((10:Int)<(d:Int))=false:=decide_eq_false (by omega)
 have hs':decide ((10:Int)<(sr:Int))=false:=decide_eq_false (by omega)
 go_wp2_with fail
 refine (sort_any _ _ (by unfold maxLen;omega)).mono ?_
 rintro e w3 ⟨rfl,m3⟩
 have h3:RdAt w3 b s ⟨p,false⟩:=(Blk.alloc h2 _).mods m3 (fun e=>e)
 have hz3:Blk w3 w.heap.size (RIns.cells {}) 51:=(hz2.alloc _).mods m3 (fun e=>e)
 have hx3:Blk w3 w1.heap.size (C5 op d sr jump n) 138:=(hx.alloc _).mods m3 (fun e=>e)
 have hi3:Blk w3 w2.heap.size (RIns.cells { i with d:=d }) 51:=(Blk.new w2 _ _).mods m3 (fun e=>e)
 have M3:Mods (Only b) w w3:=(M2.alloc _).trans (m3.of_nil)
 have n5:w2.heap.size<w3.heap.size:=hi3.lt
 clear m3 M2 h2 hz2 hx x0 x1 x2 x3 x4 z0 z1 z2 z3 z4 z5 z6 z7 fz r2;obtain ⟨z0,z1,z2,z3,z4,z5,z6,z7⟩:=hz3.cells8
 have fz:=hz3.frozen
 obtain ⟨x0,x1,x2,x3,x4⟩:=hx3.cells5;obtain ⟨i0,i1,i2,i3,i4,i5,i6,i7⟩:=hi3.cells8
 have fi:=hi3.frozen
 have r2:=h3.cell 2
 simp at r2
 simp only at i0 i1 i2 i3 i4 i5 i6 i7
 rw [hk]
 have hby:decide (i.s<0)=false:=decide_eq_false (by omega)
 have HB0:Hid (¬ i.s<0):=by unfold Hid;omega
 have hin:Hid (insBase i ⟨op,d,sr,jump,n⟩={ i with d:=d,s:=sr,n:=n }):=by simp [Hid,insBase,HB0.out]
 clear hby0
 have hwb:=lit_ne (l:=[110,101,103]) HW.out
 go_wp2
 all_goals
  rw [hin.out] at HM
  refine bodyPost_ret (results_cell_tmp3 Tryz.results49 _ _ w.heap.size 51 _ (0,0) _ _ _ _ rfl rfl rfl rfl (Blk.set8 ((hz3.setOther (a:=⟨w2.heap.size,3,none⟩) (by simp;omega) _).setOther (a:=⟨w2.heap.size,5,none⟩) (by simp;omega) _) _ _ _ _ _ _ _ _) Tryz.underlying51 rfl (by kernel_rfl)) rfl ⟨?_,?_,?_⟩
  ·rw [HM.out]
   simp [InsOut.val,RIns.cells, *]
  ·rw [HM.out]
   iterate 10 refine Blk.setOther ?_ (by simp;omega) _
   exact h3
  ·exact ((M3.setNew (a:=⟨w2.heap.size,3,none⟩) (by simp;omega) _).setNew (a:=⟨w2.heap.size,5,none⟩) (by simp;omega) _).set8 (.inr (Nat.le_refl _)) _ _ _ _ _ _ _ _
end Go.Proofs.YtoknbkfclhmapaaGreatDoor
