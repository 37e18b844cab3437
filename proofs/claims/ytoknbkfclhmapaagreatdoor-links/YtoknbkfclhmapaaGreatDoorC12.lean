import Derived.Test.YtoknbkfclhmapaaGreatDoorC05
import Derived.Deep.RegionWith
namespace Go.Proofs.YtoknbkfclhmapaaGreatDoor
open Go.RowKit
set_option maxRecDepth 100000 in
set_option maxHeartbeats 2000000 in
theorem ins_j1 (b:Nat) (s:ByteArray) (r:RS) (w:World) (hs:s.size<=maxLen) (h:RdAt w b s r) (hok:(wordM (rsl s r).1.op).2=true) (hb:(rsl s r).2.bad=false) (hd:(rsl s r).1.d<=10) (hsr:(rsl s r).1.s<=10) (hk:sortM (wordM (rsl s r).1.op).1.word=106) (hby:(wordM (rsl s r).1.op).1.s<0) (HW:Hid (¬ (wordM (rsl s r).1.op).1.word=T [106,97])) :
  Calls Tryz.prog 49 #[.pointer (some ⟨b,0,none⟩)] w fun e w'=>e=.returned (insM s r).val/\RdAt w' b s (insM s r).r/\Mods (Only b) w w':=by
 have hlt:=h.lt
 obtain ⟨l1,l2,l3,l4,l5,l6,l7⟩:=rsl_bd s r
 have lw:=word_size (rsl s r).1.op
 have HM:Hid (insM s r=⟨insBase (wordM (rsl s r).1.op).1 (rsl s r).1,(rsl s r).1.jump,0,!(((rsl s r).1.s:Int) != 0),(rsl s r).2⟩):=by
  rw [Hid,insM,if_neg (by simp [hok,hb];omega)]
  simp only [hk]
  simp [hby,HW.out,JA]
 go_enter Tryz.func49,Tryz.ntmps49
 go_wp2_with fail
 refine (slot_any b s r _ hs (h.alloc _)).mono ?_
 rintro e w1 ⟨rfl,h1,m1⟩;generalize rsl s r=q at *
 obtain ⟨⟨op,d,sr,jump,n⟩,r1⟩:=q
 simp only at *
 have hz:Blk w1 w.heap.size (RIns.cells {}) 51:=Blk.mods (Blk.new w _ _) m1 (by simp [Only];omega)
 have M1:Mods (Only b) w w1:=((Mods.refl _ _).alloc _).trans m1
 have hsz:w.heap.size+1<=w1.heap.size:=by have:=m1.size;simpa using this
 clear m1
 simp only [RSlot.val]
 go_wp2_with fail
 refine (word_any op _ l1).mono ?_
 rintro e w2 ⟨rfl,m2⟩
 have h2:RdAt w2 b s r1:=(Blk.alloc h1 _).mods m2 (fun e=>e)
 have hz2:Blk w2 w.heap.size (RIns.cells {}) 51:=(hz.alloc _).mods m2 (fun e=>e)
 have hx:Blk w2 w1.heap.size (C5 op d sr jump n) 138:=(Blk.new w1 _ _).mods m2 (fun e=>e)
 have M2:Mods (Only b) w w2:=(M1.alloc _).trans (m2.of_nil)
 have hsz2:w1.heap.size+1<=w2.heap.size:=by have:=m2.size;simpa using this
 clear m2 M1 hz h1;generalize wordM op=q at *;obtain ⟨i,ok⟩:=q;simp only at *
 simp only [RIns.cells]
 subst hok;obtain ⟨p,bad⟩:=r1
 simp only at hb
 subst hb;obtain ⟨z0,z1,z2,z3,z4,z5,z6,z7⟩:=hz2.cells8
 have fz:=hz2.frozen
 obtain ⟨x0,x1,x2,x3,x4⟩:=hx.cells5
 have n0:w.heap.size<w1.heap.size:=by omega
 have n1:w.heap.size<w2.heap.size:=by omega
 have n2:w1.heap.size<w2.heap.size:=by omega
 have n3:b<w2.heap.size:=by omega
 have n4:b<w1.heap.size:=by omega
 clear hsz hsz2
 have r2:=h2.cell 2
 simp at r2
 have hd':decide ((10:Int)<(d:Int))=false:=decide_eq_false (by omega)
 have hs':decide ((10:Int)<(sr:Int))=false:=decide_eq_false (by omega)
 go_wp2_with fail
 refine (sort_any _ _ (by unfold maxLen;omega)).mono ?_
 rintro e w3 ⟨rfl,m3⟩
 have h3:RdAt w3 b s ⟨p,false⟩:=(Blk.alloc h2 _).mods m3 (fun e=>e)
 have hz3:Blk w3 w.heap.size (RIns.cells {}) 51:=(hz2.alloc _).mods m3 (fun e=>e)
 have hx3:Blk w3 w1.heap.size (C5 op d sr jump n) 138:=(hx.alloc _).mods m3 (fun e=>e)
 have hi3:Blk w3 w2.heap.size (RIns.cells { i with d:=d }) 51:=(Blk.new w2 _ _).mods m3 (fun e=>e)
 have M3:Mods (Only b) w w3:=(M2.alloc _).trans (m3.of_nil)
 have n5:w2.heap.size<w3.heap.size:=hi3.lt
 clear m3 M2 h2 hz2 hx x0 x1 x2 x3 x4 z0 z1 z2 z3 z4 z5 z6 z7 fz r2;obtain ⟨z0,z1,z2,z3,z4,z5,z6,z7⟩:=hz3.cells8
 have fz:=hz3.frozen
 obtain ⟨x0,x1,x2,x3,x4⟩:=hx3.cells5;obtain ⟨i0,i1,i2,i3,i4,i5,i6,i7⟩:=hi3.cells8
 have fi:=hi3.frozen
 have r2:=h3.cell 2
 simp at r2
 simp only at i0 i1 i2 i3 i4 i5 i6 i7
 rw [hk]
 have hwb:=lit_ne (l:=[106,97]) HW.out
 go_wp2
 all_goals
  go_region
  all_goals
   go_wp2
   refine bodyPost_ret (results_cell_tmp3 Tryz.results49 _ _ w.heap.size 51 _ (0,0) _ _ _ _ rfl rfl rfl rfl (Blk.drew (Blk.set8 (hz3.setOther (a:=⟨w2.heap.size,5,none⟩) (by simp;omega) _) _ _ _ _ _ _ _ _)) Tryz.underlying51 rfl (by kernel_rfl)) rfl ⟨?_,?_,?_⟩
   ·rw [HM.out]
    simp [InsOut.val,insBase,RIns.cells, *]
   ·rw [HM.out]
    refine Blk.drew ?_
    iterate 9 refine Blk.setOther ?_ (by simp;omega) _
    exact h3
   ·exact (M3.setNew (a:=⟨w2.heap.size,5,none⟩) (by simp;omega) _).set8 (.inr (Nat.le_refl _)) _ _ _ _ _ _ _ _ |>.drew
set_option maxRecDepth 100000 in
set_option maxHeartbeats 2000000 in
theorem ins_j2 (b:Nat) (s:ByteArray) (r:RS) (w:World) (hs:s.size<=maxLen) (h:RdAt w b s r) (hok:(wordM (rsl s r).1.op).2=true) (hb:(rsl s r).2.bad=false) (hd:(rsl s r).1.d<=10) (hsr:(rsl s r).1.s<=10) (hk:sortM (wordM (rsl s r).1.op).1.word=106) (hby:(wordM (rsl s r).1.op).1.s<0) (HW:Hid ((wordM (rsl s r).1.op).1.word=T [106,97])) :
  Calls Tryz.prog 49 #[.pointer (some ⟨b,0,none⟩)] w fun e w'=>e=.returned (insM s r).val/\RdAt w' b s (insM s r).r/\Mods (Only b) w w':=by
 have hlt:=h.lt
 obtain ⟨l1,l2,l3,l4,l5,l6,l7⟩:=rsl_bd s r
 have lw:=word_size (rsl s r).1.op
 have HM:Hid (insM s r=⟨insBase (wordM (rsl s r).1.op).1 (rsl s r).1,(rsl s r).1.jump,0,!((((rsl s r).1.s:Int) != 0)||(((rsl s r).1.d:Int) != 0)),(rsl s r).2⟩):=by
  rw [Hid,insM,if_neg (by simp [hok,hb];omega)]
  simp only [hk]
  simp [hby,HW.out,JA]
 go_enter Tryz.func49,Tryz.ntmps49
 go_wp2_with fail
 refine (slot_any b s r _ hs (h.alloc _)).mono ?_
 rintro e w1 ⟨rfl,h1,m1⟩;generalize rsl s r=q at *
 obtain ⟨⟨op,d,sr,jump,n⟩,r1⟩:=q
 simp only at *
 have hz:Blk w1 w.heap.size (RIns.cells {}) 51:=Blk.mods (Blk.new w _ _) m1 (by simp [Only];omega)
 have M1:Mods (Only b) w w1:=((Mods.refl _ _).alloc _).trans m1
 have hsz:w.heap.size+1<=w1.heap.size:=by have:=m1.size;simpa using this
 clear m1
 simp only [RSlot.val]
 go_wp2_with fail
 refine (word_any op _ l1).mono ?_
 rintro e w2 ⟨rfl,m2⟩
 have h2:RdAt w2 b s r1:=(Blk.alloc h1 _).mods m2 (fun e=>e)
 have hz2:Blk w2 w.heap.size (RIns.cells {}) 51:=(hz.alloc _).mods m2 (fun e=>e)
 have hx:Blk w2 w1.heap.size (C5 op d sr jump n) 138:=(Blk.new w1 _ _).mods m2 (fun e=>e)
 have M2:Mods (Only b) w w2:=(M1.alloc _).trans (m2.of_nil)
 have hsz2:w1.heap.size+1<=w2.heap.size:=by have:=m2.size;simpa using this
 clear m2 M1 hz h1;generalize wordM op=q at *;obtain ⟨i,ok⟩:=q;simp only at *
 simp only [RIns.cells]
 subst hok;obtain ⟨p,bad⟩:=r1
 simp only at hb
 subst hb;obtain ⟨z0,z1,z2,z3,z4,z5,z6,z7⟩:=hz2.cells8
 have fz:=hz2.frozen
 obtain ⟨x0,x1,x2,x3,x4⟩:=hx.cells5
 have n0:w.heap.size<w1.heap.size:=by omega
 have n1:w.heap.size<w2.heap.size:=by omega
 have n2:w1.heap.size<w2.heap.size:=by omega
 have n3:b<w2.heap.size:=by omega
 have n4:b<w1.heap.size:=by omega
 clear hsz hsz2
 have r2:=h2.cell 2
 simp at r2
 have hd':decide ((10:Int)<(d:Int))=false:=decide_eq_false (by omega)
 have hs':decide ((10:Int)<(sr:Int))=false:=decide_eq_false (by omega)
 go_wp2_with fail
 refine (sort_any _ _ (by unfold maxLen;omega)).mono ?_
 rintro e w3 ⟨rfl,m3⟩
 have h3:RdAt w3 b s ⟨p,false⟩:=(Blk.alloc h2 _).mods m3 (fun e=>e)
 have hz3:Blk w3 w.heap.size (RIns.cells {}) 51:=(hz2.alloc _).mods m3 (fun e=>e)
 have hx3:Blk w3 w1.heap.size (C5 op d sr jump n) 138:=(hx.alloc _).mods m3 (fun e=>e)
 have hi3:Blk w3 w2.heap.size (RIns.cells { i with d:=d }) 51:=(Blk.new w2 _ _).mods m3 (fun e=>e)
 have M3:Mods (Only b) w w3:=(M2.alloc _).trans (m3.of_nil)
 have n5:w2.heap.size<w3.heap.size:=hi3.lt
 clear m3 M2 h2 hz2 hx x0 x1 x2 x3 x4 z0 z1 z2 z3 z4 z5 z6 z7 fz r2;obtain ⟨z0,z1,z2,z3,z4,z5,z6,z7⟩:=hz3.cells8
 have fz:=hz3.frozen
 obtain ⟨x0,x1,x2,x3,x4⟩:=hx3.cells5;obtain ⟨i0,i1,i2,i3,i4,i5,i6,i7⟩:=hi3.cells8
 have fi:=hi3.frozen
 have r2:=h3.cell 2
 simp at r2
 simp only at i0 i1 i2 i3 i4 i5 i6 i7
 rw [hk]
 have hwb:=lit_eq (l:=[106,97]) HW.out
 go_wp2
 all_goals
  go_region
  all_goals
   go_wp2
   refine bodyPost_ret (results_cell_tmp3 Tryz.results49 _ _ w.heap.size 51 _ (0,0) _ _ _ _ rfl rfl rfl rfl (Blk.drew (Blk.set8 (hz3.setOther (a:=⟨w2.heap.size,5,none⟩) (by simp;omega) _) _ _ _ _ _ _ _ _)) Tryz.underlying51 rfl (by kernel_rfl)) rfl ⟨?_,?_,?_⟩
   ·rw [HM.out]
    simp [InsOut.val,insBase,RIns.cells, *]
   ·rw [HM.out]
    refine Blk.drew ?_
    iterate 9 refine Blk.setOther ?_ (by simp;omega) _
    exact h3
   ·exact (M3.setNew (a:=⟨w2.heap.size,5,none⟩) (by simp;omega) _).set8 (.inr (Nat.le_refl _)) _ _ _ _ _ _ _ _ |>.drew
set_option maxRecDepth 100000 in
set_option maxHeartbeats 2000000 in
theorem ins_j3 (b:Nat) (s:ByteArray) (r:RS) (w:World) (hs:s.size<=maxLen) (h:RdAt w b s r) (hok:(wordM (rsl s r).1.op).2=true) (hb:(rsl s r).2.bad=false) (hd:(rsl s r).1.d<=10) (hsr:(rsl s r).1.s<=10) (hk:sortM (wordM (rsl s r).1.op).1.word=106) (hby0:¬ (wordM (rsl s r).1.op).1.s<0) (HW:Hid (¬ (wordM (rsl s r).1.op).1.word=T [106,97])) :
  Calls Tryz.prog 49 #[.pointer (some ⟨b,0,none⟩)] w fun e w'=>e=.returned (insM s r).val/\RdAt w' b s (insM s r).r/\Mods (Only b) w w':=by
 have hlt:=h.lt
 obtain ⟨l1,l2,l3,l4,l5,l6,l7⟩:=rsl_bd s r
 have lw:=word_size (rsl s r).1.op
 have HM:Hid (insM s r=⟨insBase (wordM (rsl s r).1.op).1 (rsl s r).1,(rsl s r).1.jump,0,!((rsl s r).1.n != 0),(rsl s r).2⟩):=by
  rw [Hid,insM,if_neg (by simp [hok,hb];omega)]
  simp only [hk]
  simp [hby0,HW.out,JA]
 go_enter Tryz.func49,Tryz.ntmps49
 go_wp2_with fail
 refine (slot_any b s r _ hs (h.alloc _)).mono ?_
 rintro e w1 ⟨rfl,h1,m1⟩;generalize rsl s r=q at *
 obtain ⟨⟨op,d,sr,jump,n⟩,r1⟩:=q
 simp only at *
 have hz:Blk w1 w.heap.size (RIns.cells {}) 51:=Blk.mods (Blk.new w _ _) m1 (by simp [Only];omega)
 have M1:Mods (Only b) w w1:=((Mods.refl _ _).alloc _).trans m1
 have hsz:w.heap.size+1<=w1.heap.size:=by have:=m1.size;simpa using this
 clear m1
 simp only [RSlot.val]
 go_wp2_with fail
 refine (word_any op _ l1).mono ?_
 rintro e w2 ⟨rfl,m2⟩
 have h2:RdAt w2 b s r1:=(Blk.alloc h1 _).mods m2 (fun e=>e)
 have hz2:Blk w2 w.heap.size (RIns.cells {}) 51:=(hz.alloc _).mods m2 (fun e=>e)
 have hx:Blk w2 w1.heap.size (C5 op d sr jump n) 138:=(Blk.new w1 _ _).mods m2 (fun e=>e)
 have M2:Mods (Only b) w w2:=(M1.alloc _).trans (m2.of_nil)
 have hsz2:w1.heap.size+1<=w2.heap.size:=by have:=m2.size;simpa using this
 clear m2 M1 hz h1;generalize wordM op=q at *;obtain ⟨i,ok⟩:=q;simp only at *
 simp only [RIns.cells]
 subst hok;obtain ⟨p,bad⟩:=r1
 simp only at hb
 subst hb;obtain ⟨z0,z1,z2,z3,z4,z5,z6,z7⟩:=hz2.cells8
 have fz:=hz2.frozen
 obtain ⟨x0,x1,x2,x3,x4⟩:=hx.cells5
 have n0:w.heap.size<w1.heap.size:=by omega
 have n1:w.heap.size<w2.heap.size:=by omega
 have n2:w1.heap.size<w2.heap.size:=by omega
 have n3:b<w2.heap.size:=by omega
 have n4:b<w1.heap.size:=by omega
 clear hsz hsz2
 have r2:=h2.cell 2
 simp at r2
 have hd':decide ((10:Int)<(d:Int))=false:=decide_eq_false (by omega)
 have hs':decide ((10:Int)<(sr:Int))=false:=decide_eq_false (by omega)
 go_wp2_with fail
 refine (sort_any _ _ (by unfold maxLen;omega)).mono ?_
 rintro e w3 ⟨rfl,m3⟩
 have h3:RdAt w3 b s ⟨p,false⟩:=(Blk.alloc h2 _).mods m3 (fun e=>e)
 have hz3:Blk w3 w.heap.size (RIns.cells {}) 51:=(hz2.alloc _).mods m3 (fun e=>e)
 have hx3:Blk w3 w1.heap.size (C5 op d sr jump n) 138:=(hx.alloc _).mods m3 (fun e=>e)
 have hi3:Blk w3 w2.heap.size (RIns.cells { i with d:=d }) 51:=(Blk.new w2 _ _).mods m3 (fun e=>e)
 have M3:Mods (Only b) w w3:=(M2.alloc _).trans (m3.of_nil)
 have n5:w2.heap.size<w3.heap.size:=hi3.lt
 clear m3 M2 h2 hz2 hx x0 x1 x2 x3 x4 z0 z1 z2 z3 z4 z5 z6 z7 fz r2;obtain ⟨z0,z1,z2,z3,z4,z5,z6,z7⟩:=hz3.cells8
 have fz:=hz3.frozen
 obtain ⟨x0,x1,x2,x3,x4⟩:=hx3.cells5;obtain ⟨i0,i1,i2,i3,i4,i5,i6,i7⟩:=hi3.cells8
 have fi:=hi3.frozen
 have r2:=h3.cell 2
 simp at r2
 simp only at i0 i1 i2 i3 i4 i5 i6 i7
 rw [hk]
 have hby:decide (i.s<0)=false:=decide_eq_false (by omega)
 have HB0:Hid (¬ i.s<0):=by unfold Hid;omega
 have hin:Hid (insBase i ⟨op,d,sr,jump,n⟩={ i with d:=d,s:=sr,n:=n }):=by simp [Hid,insBase,HB0.out]
 clear hby0
 have hwb:=lit_ne (l:=[106,97]) HW.out
 go_wp2
 all_goals
  go_region
  all_goals
   go_wp2
   rw [hin.out] at HM
   refine bodyPost_ret (results_cell_tmp3 Tryz.results49 _ _ w.heap.size 51 _ (0,0) _ _ _ _ rfl rfl rfl rfl (Blk.drew (Blk.set8 ((hz3.setOther (a:=⟨w2.heap.size,3,none⟩) (by simp;omega) _).setOther (a:=⟨w2.heap.size,5,none⟩) (by simp;omega) _) _ _ _ _ _ _ _ _)) Tryz.underlying51 rfl (by kernel_rfl)) rfl ⟨?_,?_,?_⟩
   ·rw [HM.out]
    simp [InsOut.val,RIns.cells, *]
   ·rw [HM.out]
    refine Blk.drew ?_
    iterate 10 refine Blk.setOther ?_ (by simp;omega) _
    exact h3
   ·exact ((M3.setNew (a:=⟨w2.heap.size,3,none⟩) (by simp;omega) _).setNew (a:=⟨w2.heap.size,5,none⟩) (by simp;omega) _).set8 (.inr (Nat.le_refl _)) _ _ _ _ _ _ _ _ |>.drew
set_option maxRecDepth 100000 in
set_option maxHeartbeats 2000000 in
theorem ins_j4 (b:Nat) (s:ByteArray) (r:RS) (w:World) (hs:s.size<=maxLen) (h:RdAt w b s r) (hok:(wordM (rsl s r).1.op).2=true) (hb:(rsl s r).2.bad=false) (hd:(rsl s r).1.d<=10) (hsr:(rsl s r).1.s<=10) (hk:sortM (wordM (rsl s r).1.op).1.word=106) (hby0:¬ (wordM (rsl s r).1.op).1.s<0) (HW:Hid ((wordM (rsl s r).1.op).1.word=T [106,97])) :
  Calls Tryz.prog 49 #[.pointer (some ⟨b,0,none⟩)] w fun e w'=>e=.returned (insM s r).val/\RdAt w' b s (insM s r).r/\Mods (Only b) w w':=by
 have hlt:=h.lt
 obtain ⟨l1,l2,l3,l4,l5,l6,l7⟩:=rsl_bd s r
 have lw:=word_size (rsl s r).1.op
 have HM:Hid (insM s r=⟨insBase (wordM (rsl s r).1.op).1 (rsl s r).1,(rsl s r).1.jump,0,!(((rsl s r).1.n != 0)||(((rsl s r).1.s:Int) != 0)||(((rsl s r).1.d:Int) != 0)),(rsl s r).2⟩):=by
  rw [Hid,insM,if_neg (by simp [hok,hb];omega)]
  simp only [hk]
  simp [hby0,HW.out,JA]
 go_enter Tryz.func49,Tryz.ntmps49
 go_wp2_with fail
 refine (slot_any b s r _ hs (h.alloc _)).mono ?_
 rintro e w1 ⟨rfl,h1,m1⟩;generalize rsl s r=q at *
 obtain ⟨⟨op,d,sr,jump,n⟩,r1⟩:=q
 simp only at *
 have hz:Blk w1 w.heap.size (RIns.cells {}) 51:=Blk.mods (Blk.new w _ _) m1 (by simp [Only];omega)
 have M1:Mods (Only b) w w1:=((Mods.refl _ _).alloc _).trans m1
 have hsz:w.heap.size+1<=w1.heap.size:=by have:=m1.size;simpa using this
 clear m1
 simp only [RSlot.val]
 go_wp2_with fail
 refine (word_any op _ l1).mono ?_
 rintro e w2 ⟨rfl,m2⟩
 have h2:RdAt w2 b s r1:=(Blk.alloc h1 _).mods m2 (fun e=>e)
 have hz2:Blk w2 w.heap.size (RIns.cells {}) 51:=(hz.alloc _).mods m2 (fun e=>e)
 have hx:Blk w2 w1.heap.size (C5 op d sr jump n) 138:=(Blk.new w1 _ _).mods m2 (fun e=>e)
 have M2:Mods (Only b) w w2:=(M1.alloc _).trans (m2.of_nil)
 have hsz2:w1.heap.size+1<=w2.heap.size:=by have:=m2.size;simpa using this
 clear m2 M1 hz h1;generalize wordM op=q at *;obtain ⟨i,ok⟩:=q;simp only at *
 simp only [RIns.cells]
 subst hok;obtain ⟨p,bad⟩:=r1
 simp only at hb
 subst hb;obtain ⟨z0,z1,z2,z3,z4,z5,z6,z7⟩:=hz2.cells8
 have fz:=hz2.frozen
 obtain ⟨x0,x1,x2,x3,x4⟩:=hx.cells5
 have n0:w.heap.size<w1.heap.size:=by omega
 have n1:w.heap.size<w2.heap.size:=by omega
 have n2:w1.heap.size<w2.heap.size:=by omega
 have n3:b<w2.heap.size:=by omega
 have n4:b<w1.heap.size:=by omega
 clear hsz hsz2
 have r2:=h2.cell 2
 simp at r2
 have hd':decide ((10:Int)<(d:Int))=false:=decide_eq_false (by omega)
 have hs':decide ((10:Int)<(sr:Int))=false:=decide_eq_false (by omega)
 go_wp2_with fail
 refine (sort_any _ _ (by unfold maxLen;omega)).mono ?_
 rintro e w3 ⟨rfl,m3⟩
 have h3:RdAt w3 b s ⟨p,false⟩:=(Blk.alloc h2 _).mods m3 (fun e=>e)
 have hz3:Blk w3 w.heap.size (RIns.cells {}) 51:=(hz2.alloc _).mods m3 (fun e=>e)
 have hx3:Blk w3 w1.heap.size (C5 op d sr jump n) 138:=(hx.alloc _).mods m3 (fun e=>e)
 have hi3:Blk w3 w2.heap.size (RIns.cells { i with d:=d }) 51:=(Blk.new w2 _ _).mods m3 (fun e=>e)
 have M3:Mods (Only b) w w3:=(M2.alloc _).trans (m3.of_nil)
 have n5:w2.heap.size<w3.heap.size:=hi3.lt
 clear m3 M2 h2 hz2 hx x0 x1 x2 x3 x4 z0 z1 z2 z3 z4 z5 z6 z7 fz r2;obtain ⟨z0,z1,z2,z3,z4,z5,z6,z7⟩:=hz3.cells8
 have fz:=hz3.frozen
 obtain ⟨x0,x1,x2,x3,x4⟩:=hx3.cells5;obtain ⟨i0,i1,i2,i3,i4,i5,i6,i7⟩:=hi3.cells8
 have fi:=hi3.frozen
 have r2:=h3.cell 2
 simp at r2
 simp only at i0 i1 i2 i3 i4 i5 i6 i7
 rw [hk]
 have hby:decide (i.s<0)=false:=decide_eq_false (by omega)
 have HB0:Hid (¬ i.s<0):=by unfold Hid;omega
 have hin:Hid (insBase i ⟨op,d,sr,jump,n⟩={ i with d:=d,s:=sr,n:=n }):=by simp [Hid,insBase,HB0.out]
 clear hby0
 have hwb:=lit_eq (l:=[106,97]) HW.out
 go_wp2
 all_goals
  go_region
  all_goals
   go_wp2
   rw [hin.out] at HM
   refine bodyPost_ret (results_cell_tmp3 Tryz.results49 _ _ w.heap.size 51 _ (0,0) _ _ _ _ rfl rfl rfl rfl (Blk.drew (Blk.set8 ((hz3.setOther (a:=⟨w2.heap.size,3,none⟩) (by simp;omega) _).setOther (a:=⟨w2.heap.size,5,none⟩) (by simp;omega) _) _ _ _ _ _ _ _ _)) Tryz.underlying51 rfl (by kernel_rfl)) rfl ⟨?_,?_,?_⟩
   ·rw [HM.out]
    simp [InsOut.val,RIns.cells, *]
   ·rw [HM.out]
    refine Blk.drew ?_
    iterate 10 refine Blk.setOther ?_ (by simp;omega) _
    exact h3
   ·exact ((M3.setNew (a:=⟨w2.heap.size,3,none⟩) (by simp;omega) _).setNew (a:=⟨w2.heap.size,5,none⟩) (by simp;omega) _).set8 (.inr (Nat.le_refl _)) _ _ _ _ _ _ _ _ |>.drew
set_option maxRecDepth 100000 in
set_option maxHeartbeats 2000000 in
theorem ins_h (b:Nat) (s:ByteArray) (r:RS) (w:World) (hs:s.size<=maxLen) (h:RdAt w b s r) (hok:(wordM (rsl s r).1.op).2=true) (hb:(rsl s r).2.bad=false) (hd:(rsl s r).1.d<=10) (hsr:(rsl s r).1.s<=10) (hk:sortM (wordM (rsl s r).1.op).1.word=99) (hby0:¬ (wordM (rsl s r).1.op).1.s<0) (k:Nat) (HK:Hid (k=0\/k=1\/k=2\/k=3)) (HN:Hid ((rsl s r).1.s=0/\(rsl s r).1.n=k+1/\(rsl s r).1.d=0/\(rsl s r).1.jump=0)) :
  Calls Tryz.prog 49 #[.pointer (some ⟨b,0,none⟩)] w fun e w'=>e=.returned (insM s r).val/\RdAt w' b s (insM s r).r/\Mods (Only b) w w':=by
 have hlt:=h.lt
 obtain ⟨l1,l2,l3,l4,l5,l6,l7⟩:=rsl_bd s r
 have lw:=word_size (rsl s r).1.op
 have HM:Hid (insM s r=⟨{ insBase (wordM (rsl s r).1.op).1 (rsl s r).1 with n:=0,word:=T [104,101,108,112],label:=helpersL[k]?.getD E0 },0,0,true,(rsl s r).2⟩):=by
  rw [Hid,insM,if_neg (by simp [hok,hb];omega)]
  simp only [hk]
  have hq:=HN.out;simp only [if_pos (show (rsl s r).1.s=0/\1<=(rsl s r).1.n/\(rsl s r).1.n<=4/\(rsl s r).1.d=0/\(rsl s r).1.jump=0 by have:=HK.out;unfold Hid at *;omega)];simp [hq.2.1]
 go_enter Tryz.func49,Tryz.ntmps49
 go_wp2_with fail
 refine (slot_any b s r _ hs (h.alloc _)).mono ?_
 rintro e w1 ⟨rfl,h1,m1⟩;generalize rsl s r=q at *
 obtain ⟨⟨op,d,sr,jump,n⟩,r1⟩:=q
 simp only at *
 have hz:Blk w1 w.heap.size (RIns.cells {}) 51:=Blk.mods (Blk.new w _ _) m1 (by simp [Only];omega)
 have M1:Mods (Only b) w w1:=((Mods.refl _ _).alloc _).trans m1
 have hsz:w.heap.size+1<=w1.heap.size:=by have:=m1.size;simpa using this
 clear m1
 simp only [RSlot.val]
 go_wp2_with fail
 refine (word_any op _ l1).mono ?_
 rintro e w2 ⟨rfl,m2⟩
 have h2:RdAt w2 b s r1:=(Blk.alloc h1 _).mods m2 (fun e=>e)
 have hz2:Blk w2 w.heap.size (RIns.cells {}) 51:=(hz.alloc _).mods m2 (fun e=>e)
 have hx:Blk w2 w1.heap.size (C5 op d sr jump n) 138:=(Blk.new w1 _ _).mods m2 (fun e=>e)
 have M2:Mods (Only b) w w2:=(M1.alloc _).trans (m2.of_nil)
 have hsz2:w1.heap.size+1<=w2.heap.size:=by have:=m2.size;simpa using this
 clear m2 M1 hz h1;generalize wordM op=q at *;obtain ⟨i,ok⟩:=q;simp only at *
 simp only [RIns.cells]
 subst hok;obtain ⟨p,bad⟩:=r1
 simp only at hb
 subst hb;obtain ⟨z0,z1,z2,z3,z4,z5,z6,z7⟩:=hz2.cells8
 have fz:=hz2.frozen
 obtain ⟨x0,x1,x2,x3,x4⟩:=hx.cells5
 have n0:w.heap.size<w1.heap.size:=by omega
 have n1:w.heap.size<w2.heap.size:=by omega
 have n2:w1.heap.size<w2.heap.size:=by omega
 have n3:b<w2.heap.size:=by omega
 have n4:b<w1.heap.size:=by omega
 clear hsz hsz2
 have r2:=h2.cell 2
 simp at r2
 have hd':decide ((10:Int)<(d:Int))=false:=decide_eq_false (by omega)
 have hs':decide ((10:Int)<(sr:Int))=false:=decide_eq_false (by omega)
 go_wp2_with fail
 refine (sort_any _ _ (by unfold maxLen;omega)).mono ?_
 rintro e w3 ⟨rfl,m3⟩
 have h3:RdAt w3 b s ⟨p,false⟩:=(Blk.alloc h2 _).mods m3 (fun e=>e)
 have hz3:Blk w3 w.heap.size (RIns.cells {}) 51:=(hz2.alloc _).mods m3 (fun e=>e)
 have hx3:Blk w3 w1.heap.size (C5 op d sr jump n) 138:=(hx.alloc _).mods m3 (fun e=>e)
 have hi3:Blk w3 w2.heap.size (RIns.cells { i with d:=d }) 51:=(Blk.new w2 _ _).mods m3 (fun e=>e)
 have M3:Mods (Only b) w w3:=(M2.alloc _).trans (m3.of_nil)
 have n5:w2.heap.size<w3.heap.size:=hi3.lt
 clear m3 M2 h2 hz2 hx x0 x1 x2 x3 x4 z0 z1 z2 z3 z4 z5 z6 z7 fz r2;obtain ⟨z0,z1,z2,z3,z4,z5,z6,z7⟩:=hz3.cells8
 have fz:=hz3.frozen
 obtain ⟨x0,x1,x2,x3,x4⟩:=hx3.cells5;obtain ⟨i0,i1,i2,i3,i4,i5,i6,i7⟩:=hi3.cells8
 have fi:=hi3.frozen
 have r2:=h3.cell 2
 simp at r2
 simp only at i0 i1 i2 i3 i4 i5 i6 i7
 rw [hk]
 have hby:decide (i.s<0)=false:=decide_eq_false (by omega)
 have HB0:Hid (¬ i.s<0):=by unfold Hid;omega
 have hin:Hid (insBase i ⟨op,d,sr,jump,n⟩={ i with d:=d,s:=sr,n:=n }):=by simp [Hid,insBase,HB0.out]
 clear hby0;obtain ⟨rfl,rfl,rfl,rfl⟩:=HN.out
 have q5:True:=trivial
 rcases HK.out with rfl | rfl | rfl | rfl
 all_goals
  go_wp2
  go_region_with (go_at_call 30;refine (helpers_any _).mono ?_;rintro e w4 ⟨rfl,b4,m4⟩;have hb4:Blk w4 w3.heap.size (strs helpersL) 9:=(by simpa using b4);have k0:=strs_cell hb4 (k:=0) (by decide);have k1:=strs_cell hb4 (k:=1) (by decide);have k2:=strs_cell hb4 (k:=2) (by decide);have k3:=strs_cell hb4 (k:=3) (by decide);have hx4:=Blk.mods (Blk.drew ((((hx3.setOther (a:=⟨w2.heap.size,3,none⟩) (by simp;omega) _).setOther (a:=⟨w2.heap.size,5,none⟩) (by simp;omega) _).setOther (a:=⟨w2.heap.size,5,none⟩) (by simp;omega) _).setOther (a:=⟨w2.heap.size,0,none⟩) (by simp;omega) _)) m4 (fun e=>e);have hz4:Blk w4 w.heap.size (RIns.cells {}) 51:=Blk.mods (Blk.drew ((((hz3.setOther (a:=⟨w2.heap.size,3,none⟩) (by simp;omega) _).setOther (a:=⟨w2.heap.size,5,none⟩) (by simp;omega) _).setOther (a:=⟨w2.heap.size,5,none⟩) (by simp;omega) _).setOther (a:=⟨w2.heap.size,0,none⟩) (by simp;omega) _)) m4 (fun e=>e);have h4:RdAt w4 b s ⟨p,false⟩:=Blk.mods (Blk.drew ((((Blk.setOther h3 (a:=⟨w2.heap.size,3,none⟩) (by simp;omega) _).setOther (a:=⟨w2.heap.size,5,none⟩) (by simp;omega) _).setOther (a:=⟨w2.heap.size,5,none⟩) (by simp;omega) _).setOther (a:=⟨w2.heap.size,0,none⟩) (by simp;omega) _)) m4 (fun e=>e);have M4:Mods (Only b) w w4:=Mods.trans (Mods.drew ((((M3.setNew (a:=⟨w2.heap.size,3,none⟩) (by simp;omega) _).setNew (a:=⟨w2.heap.size,5,none⟩) (by simp;omega) _).setNew (a:=⟨w2.heap.size,5,none⟩) (by simp;omega) _).setNew (a:=⟨w2.heap.size,0,none⟩) (by simp;omega) _)) m4.of_nil;have hi4:Blk w4 w2.heap.size (RIns.cells { i with d:=0,s:=0,n:=0,word:=T [104,101,108,112] }) 51:=Blk.mods (Blk.drew ((((hi3.set 3 _).set 5 _).set 5 _).set 0 _)) m4 (fun e=>e);have x44:=hx4.cell 4;clear x0 x1 x2 x3 x4 z0 z1 z2 z3 z4 z5 z6 z7 fz r2 i0 i1 i2 i3 i4 i5 i6 i7 fi b4 m4 q5;obtain ⟨z0,z1,z2,z3,z4,z5,z6,z7⟩:=hz4.cells8;have fz:=hz4.frozen;obtain ⟨i0,i1,i2,i3,i4,i5,i6,i7⟩:=hi4.cells8;have fi:=hi4.frozen;simp only at i0 i1 i2 i3 i4 i5 i6 i7;simp at x44 k0 k1 k2 k3)
  all_goals go_wp2
  all_goals
   refine bodyPost_ret (results_cell_tmp3 Tryz.results49 _ _ w.heap.size 51 _ (0,0) _ _ _ _ rfl rfl rfl rfl (Blk.set8 (hz4.setOther (a:=⟨w2.heap.size,6,none⟩) (by simp;omega) _) _ _ _ _ _ _ _ _) Tryz.underlying51 rfl (by kernel_rfl)) rfl ⟨?_,?_,?_⟩
   ·rw [HM.out,hin.out]
    simp [InsOut.val,RIns.cells]
   ·rw [HM.out]
    iterate 9 refine Blk.setOther ?_ (by simp;omega) _
    exact h4
   ·exact (M4.setNew (a:=⟨w2.heap.size,6,none⟩) (by simp;omega) _).set8 (.inr (Nat.le_refl _)) _ _ _ _ _ _ _ _
end Go.Proofs.YtoknbkfclhmapaaGreatDoor
