import Derived.Test.YtnhcaifopaeohaaGreatDoorM13
import Derived.Test.YtnhcaifopaeohaaGreatDoorM10
import Derived.Test.YtnhcaifopaeohaaGreatDoorM05
import Derived.Lib.AppendZerosOnto
import Derived.Lib.SliceRun
namespace Go.Proofs.YtnhcaifopaeohaaGreatDoor
open Go.RowKit
set_option linter.all false
structure EnvW (w:World):Prop where
 c0:w.cell? ⟨0,0,none⟩=some (.string (T [49]))
 c1:w.cell? ⟨0,1,none⟩=some (.string (T [50]))
 c2:w.cell? ⟨0,2,none⟩=some (.string (T [52]))
 c3:w.cell? ⟨0,3,none⟩=some (.string (T [56]))
theorem cell_mods {w w':World} (m:Mods Nil' w w') {b i:Nat} {v:Value} (h:w.cell? ⟨b,i,none⟩=some v):w'.cell? ⟨b,i,none⟩=some v:=by
 have hb:b<w.heap.size:=by
  refine Classical.byContradiction fun hn=>?_
  simp [World.cell?,Array.getElem?_eq_none (Nat.le_of_not_lt hn)] at h
 have e:=m.block b hb id
 simp only [World.cell?] at h ⊢
 rw [e];exact h
theorem EnvW.mods {w w':World} (h:EnvW w) (m:Mods Nil' w w'):EnvW w':=⟨cell_mods m h.c0,cell_mods m h.c1,cell_mods m h.c2,cell_mods m h.c3⟩
def meS (k:Nat):List OpS:=(sizeW.zipIdx.take k).flatMap fun x=>memAt x.2 x.1
theorem meS_step (k:Nat) (h:k<4):meS (k+1)=meS k++memAt k (sizeW[k]'h):=by
 have:∀ k:Fin 4,meS (k.1+1)=meS k.1++memAt k.1 (sizeW[k.1]'k.2):=by
  intro k;unfold meS
  rw [List.take_succ_eq_append_getElem (by simp;exact k.2),List.flatMap_append]
  simp
  rfl
 exact this ⟨k,h⟩
theorem meS_len (k:Nat) (h:k<=4):(meS k).length=3*k:=by
 have:∀ k:Fin 5,(meS k.1).length=3*k.1:=by decide +kernel
 exact this ⟨k,by omega⟩
set_option maxRecDepth 100000 in
theorem sizeW_at (k:Nat) (hk:k<4) (w:World):(Instr.index 154 (.agg #[.string (T [49]),.string (T [50]),.string (T [52]),.string (T [56])]) (.int .i64 k)).run Tryz.prog w=.ok (.string (T (sizeW[k]'hk))) w:=by
 have:k=0\/k=1\/k=2\/k=3:=by omega
 rcases this with rfl | rfl | rfl | rfl<;>rfl
theorem sizeW_size (k:Nat) (h:k<4):(T (sizeW[k]'h)).size<=90:=by
 have:∀ k:Fin 4,(T (sizeW[k.1]'k.2)).size<=90:=by decide +kernel
 exact this ⟨k,h⟩
set_option maxRecDepth 100000 in
set_option maxHeartbeats 1000000 in
theorem memOps_any (w:World) (hE:EnvW w):Calls Tryz.prog 35 #[] w fun e w'=>∃ v bs,e=.returned v/\OpsIn w.heap.size w' v bs memS/\Mods Nil' w w':=by
 obtain ⟨iP,hiP,hzP,hsP,hbP⟩:=info_parts info_pop;have HE:=hid hE;clear hE
 go_enter Tryz.func35,Tryz.ntmps35
 go_wp2_with fail
 refine (part_result _).mono ?_
 rintro e aw0 ⟨⟨ax0a,ax0b,ax0c,ax0d,ax0e,ax0f⟩,rfl,ak0,am0⟩
 go_wp2_with fail
 refine (part_comma _).mono ?_
 rintro e aw1 ⟨⟨ax1a,ax1b,ax1c,ax1d,ax1e,ax1f⟩,rfl,ak1,am1⟩
 go_wp2_with fail
 refine (part_opens _).mono ?_
 rintro e aw2 ⟨⟨ax2a,ax2b,ax2c,ax2d,ax2e,ax2f⟩,rfl,ak2,am2⟩
 go_wp2_with fail
 refine (part_source _).mono ?_
 rintro e aw3 ⟨⟨ax3a,ax3b,ax3c,ax3d,ax3e,ax3f⟩,rfl,ak3,am3⟩
 go_wp2_with fail
 refine (part_offset _).mono ?_
 rintro e aw4 ⟨⟨ax4a,ax4b,ax4c,ax4d,ax4e,ax4f⟩,rfl,ak4,am4⟩
 go_wp2_with fail
 refine (part_shut _).mono ?_
 rintro e aw5 ⟨⟨ax5a,ax5b,ax5c,ax5d,ax5e,ax5f⟩,rfl,ak5,am5⟩
 have aHP:Hid (PartsAt (aw5.alloc (.cells #[.int .i64 1,.func ax0a #[] ax0b,.func (.func ax0c) #[] ax0d,.func (.func ax0e) #[] ax0f,.int .i64 0,.func ax1a #[] ax1b,.func (.func ax1c) #[] ax1d,.func (.func ax1e) #[] ax1f,.int .i64 0,.func ax2a #[] ax2b,.func (.func ax2c) #[] ax2d,.func (.func ax2e) #[] ax2f,.int .i64 2,.func ax3a #[] ax3b,.func (.func ax3c) #[] ax3d,.func (.func ax3e) #[] ax3f,.int .i64 4,.func ax4a #[] ax4b,.func (.func ax4c) #[] ax4d,.func (.func ax4e) #[] ax4f,.int .i64 0,.func ax5a #[] ax5b,.func (.func ax5c) #[] ax5d,.func (.func ax5e) #[] ax5f] 135)) (.slice (some ⟨aw5.heap.size,0,none⟩) 6 6) loadsP):=PartsAt.new aw5 [(.result,⟨ax0a,ax0b,ax0c,ax0d,ax0e,ax0f⟩),(.comma,⟨ax1a,ax1b,ax1c,ax1d,ax1e,ax1f⟩),(.opens,⟨ax2a,ax2b,ax2c,ax2d,ax2e,ax2f⟩),(.source,⟨ax3a,ax3b,ax3c,ax3d,ax3e,ax3f⟩),(.offset,⟨ax4a,ax4b,ax4c,ax4d,ax4e,ax4f⟩),(.shut,⟨ax5a,ax5b,ax5c,ax5d,ax5e,ax5f⟩)] (by
  simp only [List.mem_cons,List.not_mem_nil,or_false]
  rintro x (rfl | rfl | rfl | rfl | rfl | rfl)
  ·exact (((((ak0.mods am1).mods am2).mods am3).mods am4).mods am5)
  ·exact ((((ak1.mods am2).mods am3).mods am4).mods am5)
  ·exact (((ak2.mods am3).mods am4).mods am5)
  ·exact ((ak3.mods am4).mods am5)
  ·exact (ak4.mods am5)
  ·exact ak5) _ rfl 6 rfl (by decide)
 have aHM:Hid (Mods Nil' w (aw5.alloc (.cells #[.int .i64 1,.func ax0a #[] ax0b,.func (.func ax0c) #[] ax0d,.func (.func ax0e) #[] ax0f,.int .i64 0,.func ax1a #[] ax1b,.func (.func ax1c) #[] ax1d,.func (.func ax1e) #[] ax1f,.int .i64 0,.func ax2a #[] ax2b,.func (.func ax2c) #[] ax2d,.func (.func ax2e) #[] ax2f,.int .i64 2,.func ax3a #[] ax3b,.func (.func ax3c) #[] ax3d,.func (.func ax3e) #[] ax3f,.int .i64 4,.func ax4a #[] ax4b,.func (.func ax4c) #[] ax4d,.func (.func ax4e) #[] ax4f,.int .i64 0,.func ax5a #[] ax5b,.func (.func ax5c) #[] ax5d,.func (.func ax5e) #[] ax5f] 135))):=(((((((Mods.refl Nil' w).trans am0).trans am1).trans am2).trans am3).trans am4).trans am5).alloc _
 clear ak0 am0 ak1 am1 ak2 am2 ak3 am3 ak4 am4 ak5 am5
 simp only [PV.cells,PK.fills,Int.cast_ofNat_Int]
 go_wp2_with fail;generalize aw5.alloc (.cells #[.int .i64 1,.func ax0a #[] ax0b,.func (.func ax0c) #[] ax0d,.func (.func ax0e) #[] ax0f,.int .i64 0,.func ax1a #[] ax1b,.func (.func ax1c) #[] ax1d,.func (.func ax1e) #[] ax1f,.int .i64 0,.func ax2a #[] ax2b,.func (.func ax2c) #[] ax2d,.func (.func ax2e) #[] ax2f,.int .i64 2,.func ax3a #[] ax3b,.func (.func ax3c) #[] ax3d,.func (.func ax3e) #[] ax3f,.int .i64 4,.func ax4a #[] ax4b,.func (.func ax4c) #[] ax4d,.func (.func ax4e) #[] ax4f,.int .i64 0,.func ax5a #[] ax5b,.func (.func ax5c) #[] ax5d,.func (.func ax5e) #[] ax5f] 135)=W1 at *;generalize aw5.heap.size=g1 at *
 refine (part_opens _).mono ?_
 rintro e bw0 ⟨⟨bx0a,bx0b,bx0c,bx0d,bx0e,bx0f⟩,rfl,bk0,bm0⟩
 go_wp2_with fail
 refine (part_operand _).mono ?_
 rintro e bw1 ⟨⟨bx1a,bx1b,bx1c,bx1d,bx1e,bx1f⟩,rfl,bk1,bm1⟩
 go_wp2_with fail
 refine (part_offset _).mono ?_
 rintro e bw2 ⟨⟨bx2a,bx2b,bx2c,bx2d,bx2e,bx2f⟩,rfl,bk2,bm2⟩
 go_wp2_with fail
 refine (part_shut _).mono ?_
 rintro e bw3 ⟨⟨bx3a,bx3b,bx3c,bx3d,bx3e,bx3f⟩,rfl,bk3,bm3⟩
 go_wp2_with fail
 refine (part_comma _).mono ?_
 rintro e bw4 ⟨⟨bx4a,bx4b,bx4c,bx4d,bx4e,bx4f⟩,rfl,bk4,bm4⟩
 go_wp2_with fail
 refine (part_source _).mono ?_
 rintro e bw5 ⟨⟨bx5a,bx5b,bx5c,bx5d,bx5e,bx5f⟩,rfl,bk5,bm5⟩
 have bHP:Hid (PartsAt (bw5.alloc (.cells #[.int .i64 0,.func bx0a #[] bx0b,.func (.func bx0c) #[] bx0d,.func (.func bx0e) #[] bx0f,.int .i64 1,.func bx1a #[] bx1b,.func (.func bx1c) #[] bx1d,.func (.func bx1e) #[] bx1f,.int .i64 4,.func bx2a #[] bx2b,.func (.func bx2c) #[] bx2d,.func (.func bx2e) #[] bx2f,.int .i64 0,.func bx3a #[] bx3b,.func (.func bx3c) #[] bx3d,.func (.func bx3e) #[] bx3f,.int .i64 0,.func bx4a #[] bx4b,.func (.func bx4c) #[] bx4d,.func (.func bx4e) #[] bx4f,.int .i64 2,.func bx5a #[] bx5b,.func (.func bx5c) #[] bx5d,.func (.func bx5e) #[] bx5f] 135)) (.slice (some ⟨bw5.heap.size,0,none⟩) 6 6) storesP):=PartsAt.new bw5 [(.opens,⟨bx0a,bx0b,bx0c,bx0d,bx0e,bx0f⟩),(.operand,⟨bx1a,bx1b,bx1c,bx1d,bx1e,bx1f⟩),(.offset,⟨bx2a,bx2b,bx2c,bx2d,bx2e,bx2f⟩),(.shut,⟨bx3a,bx3b,bx3c,bx3d,bx3e,bx3f⟩),(.comma,⟨bx4a,bx4b,bx4c,bx4d,bx4e,bx4f⟩),(.source,⟨bx5a,bx5b,bx5c,bx5d,bx5e,bx5f⟩)] (by
  simp only [List.mem_cons,List.not_mem_nil,or_false]
  rintro x (rfl | rfl | rfl | rfl | rfl | rfl)
  ·exact (((((bk0.mods bm1).mods bm2).mods bm3).mods bm4).mods bm5)
  ·exact ((((bk1.mods bm2).mods bm3).mods bm4).mods bm5)
  ·exact (((bk2.mods bm3).mods bm4).mods bm5)
  ·exact ((bk3.mods bm4).mods bm5)
  ·exact (bk4.mods bm5)
  ·exact bk5) _ rfl 6 rfl (by decide)
 have bHM:Hid (Mods Nil' w (bw5.alloc (.cells #[.int .i64 0,.func bx0a #[] bx0b,.func (.func bx0c) #[] bx0d,.func (.func bx0e) #[] bx0f,.int .i64 1,.func bx1a #[] bx1b,.func (.func bx1c) #[] bx1d,.func (.func bx1e) #[] bx1f,.int .i64 4,.func bx2a #[] bx2b,.func (.func bx2c) #[] bx2d,.func (.func bx2e) #[] bx2f,.int .i64 0,.func bx3a #[] bx3b,.func (.func bx3c) #[] bx3d,.func (.func bx3e) #[] bx3f,.int .i64 0,.func bx4a #[] bx4b,.func (.func bx4c) #[] bx4d,.func (.func bx4e) #[] bx4f,.int .i64 2,.func bx5a #[] bx5b,.func (.func bx5c) #[] bx5d,.func (.func bx5e) #[] bx5f] 135))):=((((((aHM.out.trans bm0).trans bm1).trans bm2).trans bm3).trans bm4).trans bm5).alloc _
 have aHP2:Hid (PartsAt (bw5.alloc (.cells #[.int .i64 0,.func bx0a #[] bx0b,.func (.func bx0c) #[] bx0d,.func (.func bx0e) #[] bx0f,.int .i64 1,.func bx1a #[] bx1b,.func (.func bx1c) #[] bx1d,.func (.func bx1e) #[] bx1f,.int .i64 4,.func bx2a #[] bx2b,.func (.func bx2c) #[] bx2d,.func (.func bx2e) #[] bx2f,.int .i64 0,.func bx3a #[] bx3b,.func (.func bx3c) #[] bx3d,.func (.func bx3e) #[] bx3f,.int .i64 0,.func bx4a #[] bx4b,.func (.func bx4c) #[] bx4d,.func (.func bx4e) #[] bx4f,.int .i64 2,.func bx5a #[] bx5b,.func (.func bx5c) #[] bx5d,.func (.func bx5e) #[] bx5f] 135)) (.slice (some ⟨g1,0,none⟩) 6 6) loadsP):=aHP.out.mods ((((((((Mods.refl Nil' _).trans bm0).trans bm1).trans bm2).trans bm3).trans bm4).trans bm5).alloc _)
 clear aHP bk0 bm0 bk1 bm1 bk2 bm2 bk3 bm3 bk4 bm4 bk5 bm5
 simp only [PV.cells,PK.fills,Int.cast_ofNat_Int]
 clear aHM;go_wp2_with fail;generalize bw5.alloc (.cells #[.int .i64 0,.func bx0a #[] bx0b,.func (.func bx0c) #[] bx0d,.func (.func bx0e) #[] bx0f,.int .i64 1,.func bx1a #[] bx1b,.func (.func bx1c) #[] bx1d,.func (.func bx1e) #[] bx1f,.int .i64 4,.func bx2a #[] bx2b,.func (.func bx2c) #[] bx2d,.func (.func bx2e) #[] bx2f,.int .i64 0,.func bx3a #[] bx3b,.func (.func bx3c) #[] bx3d,.func (.func bx3e) #[] bx3f,.int .i64 0,.func bx4a #[] bx4b,.func (.func bx4c) #[] bx4d,.func (.func bx4e) #[] bx4f,.int .i64 2,.func bx5a #[] bx5b,.func (.func bx5c) #[] bx5d,.func (.func bx5e) #[] bx5f] 135)=W2 at *;generalize bw5.heap.size=g2 at *
 refine (part_opens _).mono ?_
 rintro e cw0 ⟨⟨cx0a,cx0b,cx0c,cx0d,cx0e,cx0f⟩,rfl,ck0,cm0⟩
 go_wp2_with fail
 refine (part_operand _).mono ?_
 rintro e cw1 ⟨⟨cx1a,cx1b,cx1c,cx1d,cx1e,cx1f⟩,rfl,ck1,cm1⟩
 go_wp2_with fail
 refine (part_offset _).mono ?_
 rintro e cw2 ⟨⟨cx2a,cx2b,cx2c,cx2d,cx2e,cx2f⟩,rfl,ck2,cm2⟩
 go_wp2_with fail
 refine (part_shut _).mono ?_
 rintro e cw3 ⟨⟨cx3a,cx3b,cx3c,cx3d,cx3e,cx3f⟩,rfl,ck3,cm3⟩
 go_wp2_with fail
 refine (part_comma _).mono ?_
 rintro e cw4 ⟨⟨cx4a,cx4b,cx4c,cx4d,cx4e,cx4f⟩,rfl,ck4,cm4⟩
 go_wp2_with fail
 refine (part_number _).mono ?_
 rintro e cw5 ⟨⟨cx5a,cx5b,cx5c,cx5d,cx5e,cx5f⟩,rfl,ck5,cm5⟩
 have cHP:Hid (PartsAt (cw5.alloc (.cells #[.int .i64 0,.func cx0a #[] cx0b,.func (.func cx0c) #[] cx0d,.func (.func cx0e) #[] cx0f,.int .i64 1,.func cx1a #[] cx1b,.func (.func cx1c) #[] cx1d,.func (.func cx1e) #[] cx1f,.int .i64 4,.func cx2a #[] cx2b,.func (.func cx2c) #[] cx2d,.func (.func cx2e) #[] cx2f,.int .i64 0,.func cx3a #[] cx3b,.func (.func cx3c) #[] cx3d,.func (.func cx3e) #[] cx3f,.int .i64 0,.func cx4a #[] cx4b,.func (.func cx4c) #[] cx4d,.func (.func cx4e) #[] cx4f,.int .i64 8,.func cx5a #[] cx5b,.func (.func cx5c) #[] cx5d,.func (.func cx5e) #[] cx5f] 135)) (.slice (some ⟨cw5.heap.size,0,none⟩) 6 6) numbersP):=PartsAt.new cw5 [(.opens,⟨cx0a,cx0b,cx0c,cx0d,cx0e,cx0f⟩),(.operand,⟨cx1a,cx1b,cx1c,cx1d,cx1e,cx1f⟩),(.offset,⟨cx2a,cx2b,cx2c,cx2d,cx2e,cx2f⟩),(.shut,⟨cx3a,cx3b,cx3c,cx3d,cx3e,cx3f⟩),(.comma,⟨cx4a,cx4b,cx4c,cx4d,cx4e,cx4f⟩),(.number,⟨cx5a,cx5b,cx5c,cx5d,cx5e,cx5f⟩)] (by
  simp only [List.mem_cons,List.not_mem_nil,or_false]
  rintro x (rfl | rfl | rfl | rfl | rfl | rfl)
  ·exact (((((ck0.mods cm1).mods cm2).mods cm3).mods cm4).mods cm5)
  ·exact ((((ck1.mods cm2).mods cm3).mods cm4).mods cm5)
  ·exact (((ck2.mods cm3).mods cm4).mods cm5)
  ·exact ((ck3.mods cm4).mods cm5)
  ·exact (ck4.mods cm5)
  ·exact ck5) _ rfl 6 rfl (by decide)
 have cHM:Hid (Mods Nil' w (cw5.alloc (.cells #[.int .i64 0,.func cx0a #[] cx0b,.func (.func cx0c) #[] cx0d,.func (.func cx0e) #[] cx0f,.int .i64 1,.func cx1a #[] cx1b,.func (.func cx1c) #[] cx1d,.func (.func cx1e) #[] cx1f,.int .i64 4,.func cx2a #[] cx2b,.func (.func cx2c) #[] cx2d,.func (.func cx2e) #[] cx2f,.int .i64 0,.func cx3a #[] cx3b,.func (.func cx3c) #[] cx3d,.func (.func cx3e) #[] cx3f,.int .i64 0,.func cx4a #[] cx4b,.func (.func cx4c) #[] cx4d,.func (.func cx4e) #[] cx4f,.int .i64 8,.func cx5a #[] cx5b,.func (.func cx5c) #[] cx5d,.func (.func cx5e) #[] cx5f] 135))):=((((((bHM.out.trans cm0).trans cm1).trans cm2).trans cm3).trans cm4).trans cm5).alloc _
 have aHP22:Hid (PartsAt (cw5.alloc (.cells #[.int .i64 0,.func cx0a #[] cx0b,.func (.func cx0c) #[] cx0d,.func (.func cx0e) #[] cx0f,.int .i64 1,.func cx1a #[] cx1b,.func (.func cx1c) #[] cx1d,.func (.func cx1e) #[] cx1f,.int .i64 4,.func cx2a #[] cx2b,.func (.func cx2c) #[] cx2d,.func (.func cx2e) #[] cx2f,.int .i64 0,.func cx3a #[] cx3b,.func (.func cx3c) #[] cx3d,.func (.func cx3e) #[] cx3f,.int .i64 0,.func cx4a #[] cx4b,.func (.func cx4c) #[] cx4d,.func (.func cx4e) #[] cx4f,.int .i64 8,.func cx5a #[] cx5b,.func (.func cx5c) #[] cx5d,.func (.func cx5e) #[] cx5f] 135)) (.slice (some ⟨g1,0,none⟩) 6 6) loadsP):=aHP2.out.mods ((((((((Mods.refl Nil' _).trans cm0).trans cm1).trans cm2).trans cm3).trans cm4).trans cm5).alloc _)
 have bHP2:Hid (PartsAt (cw5.alloc (.cells #[.int .i64 0,.func cx0a #[] cx0b,.func (.func cx0c) #[] cx0d,.func (.func cx0e) #[] cx0f,.int .i64 1,.func cx1a #[] cx1b,.func (.func cx1c) #[] cx1d,.func (.func cx1e) #[] cx1f,.int .i64 4,.func cx2a #[] cx2b,.func (.func cx2c) #[] cx2d,.func (.func cx2e) #[] cx2f,.int .i64 0,.func cx3a #[] cx3b,.func (.func cx3c) #[] cx3d,.func (.func cx3e) #[] cx3f,.int .i64 0,.func cx4a #[] cx4b,.func (.func cx4c) #[] cx4d,.func (.func cx4e) #[] cx4f,.int .i64 8,.func cx5a #[] cx5b,.func (.func cx5c) #[] cx5d,.func (.func cx5e) #[] cx5f] 135)) (.slice (some ⟨g2,0,none⟩) 6 6) storesP):=bHP.out.mods ((((((((Mods.refl Nil' _).trans cm0).trans cm1).trans cm2).trans cm3).trans cm4).trans cm5).alloc _)
 clear aHP2 bHP ck0 cm0 ck1 cm1 ck2 cm2 ck3 cm3 ck4 cm4 ck5 cm5
 simp only [PV.cells,PK.fills,Int.cast_ofNat_Int]
 clear bHM
 have cE:=HE.out.mods cHM.out
 have e0:=cE.c0
 have e1:=cE.c1
 have e2:=cE.c2
 have e3:=cE.c3
 clear cE
 have HI:Hid (∀ (k:Nat) (hk:k<4) (W:World),(Instr.index 154 (.agg #[.string (T [49]),.string (T [50]),.string (T [52]),.string (T [56])]) (.int .i64 k)).run Tryz.prog W=.ok (.string (T (sizeW[k]'hk))) W):=sizeW_at
 go_upto_block 0 with fail;generalize cw5.alloc (.cells #[.int .i64 0,.func cx0a #[] cx0b,.func (.func cx0c) #[] cx0d,.func (.func cx0e) #[] cx0f,.int .i64 1,.func cx1a #[] cx1b,.func (.func cx1c) #[] cx1d,.func (.func cx1e) #[] cx1f,.int .i64 4,.func cx2a #[] cx2b,.func (.func cx2c) #[] cx2d,.func (.func cx2e) #[] cx2f,.int .i64 0,.func cx3a #[] cx3b,.func (.func cx3c) #[] cx3d,.func (.func cx3e) #[] cx3f,.int .i64 0,.func cx4a #[] cx4b,.func (.func cx4c) #[] cx4d,.func (.func cx4e) #[] cx4f,.int .i64 8,.func cx5a #[] cx5b,.func (.func cx5c) #[] cx5d,.func (.func cx5e) #[] cx5f] 135)=W3 at *;generalize cw5.heap.size=g3 at *;clear e0 e1 e2 e3
 go_cut [4] (fun o wl=>∃ bs,OpsIn w.heap.size wl o bs (meS 4)/\Mods Nil' w wl)
 case first =>
  go_wp2_with fail
  go_loopw [4,31] (fun o i wl=>∃ (k:Nat) (bs:List Nat),k<=4/\i=.int .i64 k/\OpsIn w.heap.size wl o bs (meS k)/\PartsAt wl (.slice (some ⟨g1,0,none⟩) 6 6) loadsP/\PartsAt wl (.slice (some ⟨g2,0,none⟩) 6 6) storesP/\PartsAt wl (.slice (some ⟨g3,0,none⟩) 6 6) numbersP/\Mods Nil' w wl) (fun _ i _=>4 - (intOf i).toNat)
  case atStart=>exact ⟨0,[],by omega,rfl,OpsIn.nil _ _,aHP22.out,bHP2.out,cHP.out,cHM.out⟩
  case round =>
   obtain ⟨k,bs,hk,rfl,hO,hP1,hP2,hP3,hM⟩:=hrel;clear aHP22 bHP2 cHP cHM
   by_cases hlt:k<4
   ·have hidx:=HI.out k hlt
    have HST:Hid (meS (k+1)=meS k++[rowS (128+k) ([108,100]++sizeW[k]) loadsP,rowS (132+k) ([115,116]++sizeW[k]) storesP,rowS (136+k) ([115,116]++sizeW[k]) numbersP]):=meS_step k hlt
    have HW:Hid ((T (sizeW[k])).size<=90):=sizeW_size k hlt
    generalize sizeW[k]=wd at *
    have HO:Hid _:=hO
    have HP1:Hid _:=hP1
    have HP2:Hid _:=hP2
    have HP3:Hid _:=hP3
    have HM:Hid _:=hM
    clear hO hP1 hP2 hP3 hM
    have hwd:(T wd).size<=90:=HW.out
    have HL:Hid (bs.length<=100):=by
     have:=HO.out.len
     rw [meS_len k (by omega)] at this
     exact (by omega:bs.length<=100)
    go_wp2_with fail;go_quiet (fail);go_wp2_with fail
    have X0:Hid (Mods Nil' wr (wr.drewN nq)):=(Mods.refl _ _).drewN _
    refine (mload_any _ _).mono ?_
    rintro e v0 ⟨fb0,cb0,rfl,mb0⟩
    have X1:Hid (Mods Nil' wr v0):=X0.out.trans mb0
    have MB0:Hid _:=mb0
    clear mb0;go_wp2_with fail
    refine (row_go _ _ (128+k) (by omega) _ ([108,100]++wd) (T_app _ wd).symm _ loadsP _ _ (HP1.out.mods X1.out) (by have:=HW.out;rw [T_size] at this;simp;omega) (by decide)).mono ?_
    rintro e r0 ⟨b0,rfl,hr0,hb0,mr0⟩
    have X2:Hid (Mods Nil' wr r0):=X1.out.trans mr0
    have HR0:Hid _:=hr0
    have MR0:Hid _:=mr0
    have HB0:=hid hb0;clear hr0 hb0 mr0;go_wp2_with fail
    refine (mstore_any _ _ _ _).mono ?_
    rintro e v1 ⟨fb1,cb1,rfl,mb1⟩
    have X3:Hid (Mods Nil' wr v1):=X2.out.trans mb1
    have MB1:Hid _:=mb1
    clear mb1;go_wp2_with fail
    refine (row_go _ _ (132+k) (by omega) _ ([115,116]++wd) (T_app _ wd).symm _ storesP _ _ (HP2.out.mods X3.out) (by have:=HW.out;rw [T_size] at this;simp;omega) (by decide)).mono ?_
    rintro e r1 ⟨b1,rfl,hr1,hb1,mr1⟩
    have X4:Hid (Mods Nil' wr r1):=X3.out.trans mr1
    have HR1:Hid _:=hr1
    have MR1:Hid _:=mr1
    have HB1:=hid hb1;clear hr1 hb1 mr1;go_wp2_with fail
    refine (mstore_any _ _ _ _).mono ?_
    rintro e v2 ⟨fb2,cb2,rfl,mb2⟩
    have X5:Hid (Mods Nil' wr v2):=X4.out.trans mb2
    have MB2:Hid _:=mb2
    clear mb2;go_wp2_with fail
    refine (row_go _ _ (136+k) (by omega) _ ([115,116]++wd) (T_app _ wd).symm _ numbersP _ _ (HP3.out.mods X5.out) (by have:=HW.out;rw [T_size] at this;simp;omega) (by decide)).mono ?_
    rintro e r2 ⟨b2,rfl,hr2,hb2,mr2⟩
    have X6:Hid (Mods Nil' wr r2):=X5.out.trans mr2
    have HR2:Hid _:=hr2
    have MR2:Hid _:=mr2
    have HB2:=hid hb2;clear hr2 hb2 mr2
    go_wp2_with (at_builtin;refine wpList_append_sl _ rfl (.tmp 40) (.tmp 64) 40 rfl 79 iP (.pointer none) 1 8 Tryz.underlying40 hiP hzP hsP hbP rfl (by decide) u4 bs.length (bs.map ptrV) rfl (HO.out.mods (X6.out.alloc _)).sl ⟨r2.heap.size,0,none⟩ 3 3 [ptrV b0,ptrV b1,ptrV b2] rfl rfl (news_cells _ _ _ _ rfl) (ptrs_one [b0,b1,b2]) (by have:=HL.out;unfold maxLen;omega) (by have:=HL.out;omega) ?_;intro vA wA sA mA lA;obtain ⟨oA,cA,rfl,_⟩:=Sl.view sA)
    have H01:b0<b1:=by have:=HR0.out.lt;have:=MB1.out.size;have:=HB1.out;omega
    have H12:b1<b2:=by have:=HR1.out.lt;have:=MB2.out.size;have:=HB2.out;omega
    have H0:wr.heap.size<=b0:=by have:=HB0.out;have:=X1.out.size;omega
    have HG:Hid (OpsIn w.heap.size wA (.slice oA (bs.length+3) cA) (bs++[b0,b1,b2]) (meS k++[rowS (128+k) ([108,100]++wd) loadsP,rowS (132+k) ([115,116]++wd) storesP,rowS (136+k) ([115,116]++wd) numbersP])) :=
     OpsIn.grow [b0,b1,b2] _ HO.out (X6.out.alloc _) rfl (by simp;omega) (by simp;omega) (fun i h h'=>by
      have hi:i=0\/i=1\/i=2:=by simp at h;omega
      rcases hi with rfl | rfl | rfl
      ·exact ((((HR0.out.mods MB1.out).mods MR1.out).mods MB2.out).mods MR2.out).mods ((Mods.refl _ _).alloc _)
      ·exact ((HR1.out.mods MB2.out).mods MR2.out).mods ((Mods.refl _ _).alloc _)
      ·exact HR2.out.mods ((Mods.refl _ _).alloc _)) sA mA lA HM.out.size
    have HMA:Hid (Mods Nil' w wA):=(HM.out.trans (X6.out.alloc _)).step mA (fun i hi h=>by have:=HO.out.own i h;omega)
    have HK:Hid (Kp wr wA):=(X6.out.alloc _).kp.trans (Mods.kpSl (HO.out.mods (X6.out.alloc _)).sl mA)
    rw [<- HST.out] at HG;clear H01 H12 H0 hidx
    go_roundw
    case rel=>exact ⟨k+1,_,by omega,by go_num,HG.out,HP1.out.kp HK.out,HP2.out.kp HK.out,HP3.out.kp HK.out,HMA.out⟩
    case measure=>simp [intOf];omega
   ·obtain rfl:k=4:=by omega
    go_wp2_with fail;go_meet
    exact ⟨bs,hO,hM⟩
 case rest =>
 obtain ⟨bs,hO,hM⟩:=hcut;have HO:=hid hO;have HM:=hid hM;clear hO hM aHP22 bHP2 cHP cHM;go_wp2_with fail;go_ret
 exact ⟨_,_,rfl,HO.out,HM.out⟩
abbrev helpC:Array Value:=#[.string (T [103,101,116]),.func (.func 242) #[] #[],.string (T [112,117,116]),.func (.func 243) #[] #[],.string (T [100,101,108]),.func (.func 244) #[] #[],.string (T [108,111,103]),.func (.func 245) #[] #[]]
set_option maxRecDepth 100000 in
set_option maxHeartbeats 1000000 in
theorem phelpers_any (w:World):Calls Tryz.prog 198 #[] w fun e w'=>e=.returned (.agg helpC)/\Mods Nil' w w':=by
 go_enter Tryz.func198,Tryz.ntmps198
 go_wp2_with fail
 exact bodyPost_ret (results_cell_row Tryz.results198 _ _ w.heap.size 232 _ (0,0) _ rfl (Blk.new _ _ _) Tryz.underlying232 rfl (by kernel_rfl)) rfl ⟨rfl,(Mods.refl _ _).alloc _⟩
set_option maxRecDepth 100000 in
theorem help_at0 (W:World):(Instr.index 232 (.agg helpC) (.int .i32 0)).run Tryz.prog W=.ok (.agg #[.string (T [103,101,116]),.func (.func 242) #[] #[]]) W:=rfl
set_option maxRecDepth 100000 in
theorem help_at1 (W:World):(Instr.index 232 (.agg helpC) (.int .i32 1)).run Tryz.prog W=.ok (.agg #[.string (T [112,117,116]),.func (.func 243) #[] #[]]) W:=rfl
set_option maxRecDepth 100000 in
theorem help_at2 (W:World):(Instr.index 232 (.agg helpC) (.int .i32 2)).run Tryz.prog W=.ok (.agg #[.string (T [100,101,108]),.func (.func 244) #[] #[]]) W:=rfl
set_option maxRecDepth 100000 in
theorem help_at3 (W:World):(Instr.index 232 (.agg helpC) (.int .i32 3)).run Tryz.prog W=.ok (.agg #[.string (T [108,111,103]),.func (.func 245) #[] #[]]) W:=rfl
set_option maxRecDepth 100000 in
theorem help_fd0 (W:World):(Instr.field 231 (.agg #[.string (T [103,101,116]),.func (.func 242) #[] #[]]) 0).run Tryz.prog W=.ok (.string (T [103,101,116])) W:=rfl
set_option maxRecDepth 100000 in
theorem help_fd1 (W:World):(Instr.field 231 (.agg #[.string (T [112,117,116]),.func (.func 243) #[] #[]]) 0).run Tryz.prog W=.ok (.string (T [112,117,116])) W:=rfl
set_option maxRecDepth 100000 in
theorem help_fd2 (W:World):(Instr.field 231 (.agg #[.string (T [100,101,108]),.func (.func 244) #[] #[]]) 0).run Tryz.prog W=.ok (.string (T [100,101,108])) W:=rfl
set_option maxRecDepth 100000 in
theorem help_fd3 (W:World):(Instr.field 231 (.agg #[.string (T [108,111,103]),.func (.func 245) #[] #[]]) 0).run Tryz.prog W=.ok (.string (T [108,111,103])) W:=rfl
theorem help_sz:(T [103,101,116]).size=3/\(T [112,117,116]).size=3/\(T [100,101,108]).size=3/\(T [108,111,103]).size=3:=by decide
set_option maxRecDepth 100000 in
set_option maxHeartbeats 1000000 in
theorem writeCall_any (o:OpS) (ho:o.call=true) (x:PIns) (hx:x.Fit) (hn:o.needs x=true) (w:World) :
  Calls Tryz.prog 91 #[.agg x.cells] w fun e w'=>e=.returned (.string (T (o.write x)))/\Mods Nil' w w':=by
 have hw:o.write x=if x.s=1 then [99,97,108,108,32]++BL x.name else [104,101,108,112,32]++helpW[(x.num - 1).toNat]?.getD []:=by
  unfold OpS.write;rw [ho,if_pos rfl]
 have hnd:x.s=1\/(x.s=0/\1<=x.num/\x.num<5):=by
  unfold OpS.needs at hn;rw [ho,if_pos rfl] at hn
  simp at hn
  omega
 rw [hw];clear hw hn ho
 have hnm:=hx.m
 obtain ⟨op,d,s,jump,num,high,label,name⟩:=x;clear hx
 unfold PIns.cells at *
 simp only at *
 by_cases h1:s=1
 ·subst h1
  have HE:Hid (T ([99,97,108,108,32]++BL name)=T [99,97,108,108,32]++name):=by rw [Hid,<- T_app,T_BL]
  rw [if_pos rfl,HE.out];clear HE hnd
  go_enter Tryz.func91,Tryz.ntmps91
  go_wp2_with fail;go_ret
  exact ⟨rfl,(Mods.refl _ _).alloc _⟩
 ·have h2:s=0/\1<=num/\num<5:=by omega
  obtain ⟨rfl,hb⟩:=h2;rw [if_neg h1]
  have hnum:num=1\/num=2\/num=3\/num=4:=by omega
  have hq:=Blk.new w #[op,.int .u8 d,.int .u8 (0:Nat),.int .i16 jump,.int .i32 num,.int .i32 high,.string label,.string name] 84
  have q4:∀ g:Ext Nil' (w.alloc (.cells #[op,.int .u8 d,.int .u8 (0:Nat),.int .i16 jump,.int .i32 num,.int .i32 high,.string label,.string name] 84)),g.w.cell? ⟨w.heap.size,4,none⟩=some (.int .i32 num):=fun g=>g.cell hq id 4
  have ne1:=Ext.ne Nil' (w.alloc (.cells #[op,.int .u8 d,.int .u8 (0:Nat),.int .i16 jump,.int .i32 num,.int .i32 high,.string label,.string name] 84))
  clear hq
  have i0:=help_at0
  have i1:=help_at1
  have i2:=help_at2
  have i3:=help_at3
  have j0:=help_fd0
  have j1:=help_fd1
  have j2:=help_fd2
  have j3:=help_fd3
  obtain ⟨s0,s1,s2,s3⟩:=help_sz
  rcases hnum with rfl | rfl | rfl | rfl
  all_goals
   go_enter Tryz.func91,Tryz.ntmps91
   go_wp2_with fail
   refine wp_region_ext Nil' (by kernel_rfl) (by kernel_rfl) ?_
   repeat (go_big_quiet_step ((go_at_call 198;exact Calls.ext_of (phelpers_any _))))
   refine wpQuiet_nil ?_
   rintro w2 ⟨⟨wx,m2⟩,hwx⟩
   simp only at hwx
   subst hwx;go_wp2_with fail;go_ret
   exact ⟨rfl,((Mods.refl _ _).alloc _).trans m2⟩
set_option maxRecDepth 100000 in
set_option maxHeartbeats 1000000 in
theorem needCall_any (o:OpS) (ho:o.call=true) (x:PIns) (hx:x.Fit) (w:World) :
  Calls Tryz.prog 92 #[.agg x.cells] w fun e w'=>e=.returned (.bool (o.needs x))/\Mods Nil' w w':=by
 have hw:o.needs x=(othersB x 10&&(decide (x.s=1)||(decide (x.s=0)&&decide (1<=x.num)&&decide (x.num<5)))):=by
  unfold OpS.needs;rw [ho,if_pos rfl]
 rw [hw];clear hw ho
 have hO:=others_any x 10 (by decide)
 obtain ⟨op,d,s,jump,num,high,label,name⟩:=x
 generalize hob:othersB ⟨op,d,s,jump,num,high,label,name⟩ 10=ob at *
 clear hob
 have hs:=hx.s
 have n0:=hx.n0
 have n1:=hx.n1
 clear hx
 unfold PIns.cells at *
 simp only at *
 have HO:Hid _:=hO
 clear hO
 cases ob with
 | false =>
  go_enter Tryz.func92,Tryz.ntmps92
  go_wp2_with fail
  refine (HO.out _).mono ?_
  rintro e w1 ⟨rfl,m1⟩;go_wp2_with fail;go_ret
  exact ⟨by simp,((Mods.refl _ _).alloc _).trans m1⟩
 | true =>
  have hq:=Blk.new w #[op,.int .u8 d,.int .u8 s,.int .i16 jump,.int .i32 num,.int .i32 high,.string label,.string name] 84
  by_cases h1:s=1
  ·subst h1
   go_enter Tryz.func92,Tryz.ntmps92
   go_wp2_with fail
   refine (HO.out _).mono ?_
   rintro e w1 ⟨rfl,m1⟩
   have hq1:=hq.mods m1 id
   have z2:=hq1.cell 2
   simp at z2
   go_wp2_with fail;go_ret
   exact ⟨by simp,((Mods.refl _ _).alloc _).trans m1⟩
  ·have q1:decide ((s:Int)=1)=false:=by simp;omega
   go_enter Tryz.func92,Tryz.ntmps92
   go_wp2_with fail
   refine (HO.out _).mono ?_
   rintro e w1 ⟨rfl,m1⟩
   have hq1:=hq.mods m1 id
   have z2:=hq1.cell 2
   simp at z2
   have y2:∀ g:Ext Nil' w1,g.w.cell? ⟨w.heap.size,2,none⟩=some (.int .u8 s):=fun g=>g.cell hq1 id 2
   have y4:∀ g:Ext Nil' w1,g.w.cell? ⟨w.heap.size,4,none⟩=some (.int .i32 num):=fun g=>g.cell hq1 id 4
   have ne1:=Ext.ne Nil' w1
   clear hq hq1
   by_cases h0:s=0
   ·subst h0
    by_cases ha:1<=num
    ·by_cases hb:num<5
     ·go_wp2_with fail
      refine wp_region_ext Nil' (by kernel_rfl) (by kernel_rfl) ?_
      repeat (go_big_quiet_step ((go_at_call 198;exact Calls.ext_of (phelpers_any _))))
      refine wpQuiet_nil ?_
      rintro w2 ⟨⟨wx,m2⟩,hwx⟩
      simp only at hwx
      subst hwx;go_wp2_with fail;go_ret
      exact ⟨by simp,(((Mods.refl _ _).alloc _).trans m1).trans m2⟩
     ·have hb':decide (num<5)=false:=by simp;omega
      go_wp2_with fail
      refine wp_region_ext Nil' (by kernel_rfl) (by kernel_rfl) ?_
      repeat (go_big_quiet_step ((go_at_call 198;exact Calls.ext_of (phelpers_any _))))
      refine wpQuiet_nil ?_
      rintro w2 ⟨⟨wx,m2⟩,hwx⟩
      simp only at hwx
      subst hwx;go_wp2_with fail;go_ret
      exact ⟨by simp,(((Mods.refl _ _).alloc _).trans m1).trans m2⟩
    ·have ha':decide (1<=num)=false:=by simp;omega
     go_wp2_with fail
     refine wp_region_ext Nil' (by kernel_rfl) (by kernel_rfl) ?_
     repeat (go_big_quiet_step ((go_at_call 198;exact Calls.ext_of (phelpers_any _))))
     refine wpQuiet_nil ?_
     rintro w2 ⟨⟨wx,m2⟩,hwx⟩
     simp only at hwx
     subst hwx;go_wp2_with fail;go_ret
     exact ⟨by simp,(((Mods.refl _ _).alloc _).trans m1).trans m2⟩
   ·have h0':((s:Int)==0)=false:=by simp;omega
    go_wp2_with fail
    refine wp_region_ext Nil' (by kernel_rfl) (by kernel_rfl) ?_
    repeat (go_big_quiet_step ((go_at_call 198;exact Calls.ext_of (phelpers_any _))))
    refine wpQuiet_nil ?_
    rintro w2 ⟨⟨wx,m2⟩,hwx⟩
    simp only at hwx
    subst hwx;go_wp2_with fail;go_ret
    exact ⟨by simp [h0,h1],(((Mods.refl _ _).alloc _).trans m1).trans m2⟩
theorem call_call {r:RSt} (h:r.word=[99,97,108,108]):r.call=if nameB (wdL r.rest).1 then some { r with s:=1,name:=(wdL r.rest).1,rest:=(wdL r.rest).2 } else none:=by
 unfold RSt.call;rw [if_pos h]
theorem call_help {r:RSt} (h:r.word≠[99,97,108,108]):r.call=(helpW.findIdx? (fun h=>h==(wdL r.rest).1)).map (fun n=>{ r with num:=(1+n:Nat),rest:=(wdL r.rest).2 }):=by
 unfold RSt.call;rw [if_neg h]
set_option maxRecDepth 100000 in
set_option maxHeartbeats 2000000 in
theorem callC_any (b:Nat) (op:Value) (r:RSt) (w:World) (h:Blk w b (r.cells op) 196) (hl:r.rest.length<=1000000) (hm:r.word=[99,97,108,108]) :
  Calls Tryz.prog 90 #[.pointer (some ⟨b,0,none⟩)] w fun e w'=>RdPost w b op r.call e w':=by
 have hq:((T r.word).toList==[99,97,108,108])=true:=lit_eq (by rw [hm])
 have HN:Hid (∀ w',Blk w' b ({ r with s:=1 }.cells op) 196->Calls Tryz.prog 106 #[.pointer (some ⟨b,1,none⟩)] w' fun e w''=>e=.returned (.tuple #[.string (T (wdL r.rest).1),.bool (nameB (wdL r.rest).1)])/\LnPost w' b 1 ({ r with s:=1 }.cells op) 196 (wdL r.rest).2 w''):=fun w' h'=>sname_any _ 1 _ _ _ w' (rd_ln (r:={ r with s:=1 }) h') hl
 have HPO:Hid (∀ e w',e=.returned (.bool (nameB (wdL r.rest).1))->Mods (Only b) w w'->Blk w' b ({ r with s:=1,name:=(wdL r.rest).1,rest:=(wdL r.rest).2 }.cells op) 196->RdPost w b op r.call e w'):=fun e w' he hmd hbk=>by
  rw [call_call hm]
  cases hn:nameB (wdL r.rest).1 with
  | true=>rw [hn] at he;exact ⟨by rw [he];rfl,hmd,fun r' hr'=>by cases hr';exact hbk⟩
  | false=>rw [hn] at he;exact ⟨by rw [he];rfl,hmd,fun r' hr'=>by cases hr'⟩
 generalize RdPost w b op r.call=RP at *;generalize nameB (wdL r.rest).1=nb at *;generalize wdL r.rest=w1 at *;obtain ⟨n1,l1⟩:=w1
 dsimp only at *
 have c0:w.cell? ⟨b,0,none⟩=some (.string (T r.word)):=h.cell 0
 have c4:w.cell? ⟨b,4,none⟩=some (.int .u8 (r.s:Int)):=h.cell 4
 have zf:=h.frozen
 have HB0:Hid (Blk (w.setCell ⟨b,4,none⟩ (.int .u8 1)) b ({ r with s:=1 }.cells op) 196):=h.set 4 _
 have HM0:Hid (Mods (Only b) w (w.setCell ⟨b,4,none⟩ (.int .u8 1))):=(Mods.refl _ _).setb 4 _
 clear h hl hm
 go_enter Tryz.func90,Tryz.ntmps90
 go_wp2_with fail
 refine (HN.out _ HB0.out).mono ?_
 rintro e wa ⟨rfl,hp1⟩;have HB1:=hid hp1.rd
 have HM1:Hid (Mods (Only b) w wa):=HM0.out.trans hp1.2
 clear hp1 HB0 HM0 HN c0 c4 zf
 have z9:wa.cell? ⟨b,9,none⟩=some (.string (T r.name)):=HB1.out.cell 9
 have zf:=HB1.out.frozen
 go_wp2_with fail
 exact HPO.out _ _ rfl (HM1.out.setb 9 _) (HB1.out.set 9 _)
set_option maxRecDepth 100000 in
theorem helpI (k:Nat) (hk:k<4):∃ f c,∀ W,(Instr.index 232 (.agg helpC) (.int .i64 k)).run Tryz.prog W=.ok (.agg #[.string (T (helpW[k]?.getD [])),.func f #[] c]) W:=by
 obtain rfl | rfl | rfl | rfl:k=0\/k=1\/k=2\/k=3:=by omega
 ·exact ⟨_,_,fun W=>rfl⟩
 ·exact ⟨_,_,fun W=>rfl⟩
 ·exact ⟨_,_,fun W=>rfl⟩
 ·exact ⟨_,_,fun W=>rfl⟩
def HelpTo (x:List UInt8) (k:Nat):Prop:=∀ j,j<k->helpW[j]?.getD []≠x
theorem help_hit {x:List UInt8} {k:Nat} (hk:k<4) (h:HelpTo x k) (e:helpW[k]?.getD []=x):helpW.findIdx? (fun h=>h==x)=some k:=by
 have hl:helpW.length=4:=rfl
 rw [List.findIdx?_eq_some_iff_getElem]
 refine ⟨by omega,?_,fun j hj=>?_⟩
 ·rw [List.getElem?_eq_getElem (by omega)] at e
  simpa using e
 ·have:=h j hj
  rw [List.getElem?_eq_getElem (by omega)] at this
  simpa using this
theorem help_miss {x:List UInt8} (h:HelpTo x 4):helpW.findIdx? (fun h=>h==x)=none:=by
 rw [List.findIdx?_eq_none_iff];intro y hy;obtain ⟨j,hj,rfl⟩:=List.getElem_of_mem hy
 have:=h j (by simpa [helpW] using hj)
 rw [List.getElem?_eq_getElem hj] at this
 simpa using this
set_option maxRecDepth 100000 in
set_option maxHeartbeats 2000000 in
theorem callH_any (b:Nat) (op:Value) (r:RSt) (w:World) (h:Blk w b (r.cells op) 196) (hl:r.rest.length<=1000000) (hm:r.word≠[99,97,108,108]) :
  Calls Tryz.prog 90 #[.pointer (some ⟨b,0,none⟩)] w fun e w'=>RdPost w b op r.call e w':=by
 have hq:((T r.word).toList==[99,97,108,108])=false:=lit_ne (fun e=>hm (T_injL e))
 have hwl:=wd_le r.rest
 have HW:Hid (Calls Tryz.prog 101 #[.pointer (some ⟨b,1,none⟩)] w fun e w'=>e=.returned (.string (T (wdL r.rest).1))/\LnPost w b 1 (r.cells op) 196 (wdL r.rest).2 w'):=word_any' b 1 _ _ r.rest w (rd_ln h) hl
 have HPO:Hid (∀ e w' k,k<4->e=.returned (.bool true)->Mods (Only b) w w'->HelpTo (wdL r.rest).1 k->helpW[k]?.getD []=(wdL r.rest).1->Blk w' b ({ r with num:=(1+k:Nat),rest:=(wdL r.rest).2 }.cells op) 196->RdPost w b op r.call e w'):=fun e w' k hk he hmd h1 h2 hbk=>by
  rw [call_help hm,help_hit hk h1 h2]
  exact ⟨by rw [he];rfl,hmd,fun r' hr'=>by cases hr';exact hbk⟩
 have HPZ:Hid (∀ e w',e=.returned (.bool false)->Mods (Only b) w w'->HelpTo (wdL r.rest).1 4->RdPost w b op r.call e w'):=fun e w' he hmd h1=>by
  rw [call_help hm,help_miss h1]
  exact ⟨by rw [he];rfl,hmd,fun r' hr'=>by cases hr'⟩
 generalize RdPost w b op r.call=RP at *;generalize wdL r.rest=w1 at *;obtain ⟨x,l1⟩:=w1
 dsimp only at *
 have c0:w.cell? ⟨b,0,none⟩=some (.string (T r.word)):=h.cell 0
 clear h hl
 go_enter Tryz.func90,Tryz.ntmps90
 go_wp2_with fail;refine HW.out.mono ?_;rintro e wa ⟨rfl,hp1⟩;have HB1:=hid hp1.rd;have HM1:=hid hp1.2;clear hp1 HW c0 hq hm;go_wp2_with fail
 refine (phelpers_any _).mono ?_
 rintro e wb ⟨rfl,m2⟩
 have HB2:Hid (Blk wb b ({ r with rest:=l1 }.cells op) 196):=HB1.out.mods m2 id
 have HM2:Hid (Mods (Only b) w wb):=HM1.out.trans m2.of_nil
 clear m2 HB1 HM1;go_wp2_with fail
 go_loopg [33] 4 (fun q v wx=>∃ k:Nat,k<=4/\v=.int .i64 k/\Blk wx b ({ r with rest:=l1 }.cells op) 196/\Mods (Only b) w wx/\HelpTo x k/\q=4 - k)
 case atStart=>exact ⟨0,by omega,rfl,HB2.out,HM2.out,fun j hj=>absurd hj (Nat.not_lt_zero _),rfl⟩
 case round =>
  obtain ⟨k,hk,rfl,hbk,hmk,hto,rfl⟩:=hrel;have HBk:=hid hbk;have HMk:=hid hmk;have HTo:=hid hto;clear hbk hmk hto HB2 HM2
  by_cases hlt:k<4
  ·obtain ⟨f,c,hI⟩:=helpI k hlt
   have HPO1:Hid (∀ e w',e=.returned (.bool true)->Mods (Only b) w w'->HelpTo x k->helpW[k]?.getD []=x->Blk w' b ({ r with num:=(1+k:Nat),rest:=l1 }.cells op) 196->RP e w'):=fun e w'=>HPO.out e w' k hlt
   have HTs:Hid (helpW[k]?.getD []≠x->HelpTo x (k+1)):=fun hne j hj=>by
    rcases Nat.lt_or_ge j k with e | e
    ·exact HTo.out j e
    ·have:j=k:=by omega
     subst this;exact hne
   generalize helpW[k]?.getD []=hw at *
   have HB3:Hid (Blk (wr.alloc (.cells #[.string (T hw),.func f #[] c] 231)) b ({ r with rest:=l1 }.cells op) 196):=HBk.out.alloc _
   have HM3:Hid (Mods (Only b) w (wr.alloc (.cells #[.string (T hw),.func f #[] c] 231))):=HMk.out.alloc _
   have hbl:b<wr.heap.size:=HBk.out.lt
   have z6:wr.cell? ⟨b,6,none⟩=some (.int .i32 r.num):=HBk.out.cell 6
   have zf:=HBk.out.frozen
   by_cases hx:hw=x
   ·have hq:((T x).toList==(T hw).toList)=true:=str_eq (by rw [hx])
    have HM4:Hid (Mods (Only b) w ((wr.setCell ⟨b,6,none⟩ (.int .i32 (1+(k:Int)))).alloc (.cells #[.string (T hw),.func f #[] c] 231))):=(HMk.out.setb 6 _).alloc _
    have HB4:Hid (Blk ((wr.setCell ⟨b,6,none⟩ (.int .i32 (1+(k:Int)))).alloc (.cells #[.string (T hw),.func f #[] c] 231)) b ({ r with num:=(1+k:Nat),rest:=l1 }.cells op) 196):=by
     have e:((1+k:Nat):Int)=1+(k:Int):=by omega
     have:=(HBk.out.set 6 (.int .i32 (1+(k:Int)))).alloc (.cells #[.string (T hw),.func f #[] c] 231)
     unfold RSt.cells
     dsimp only
     rw [e];exact this
    have HX:=hid hx;clear hx;go_wp2_with fail;exact HPO1.out _ _ rfl HM4.out HTo.out HX.out HB4.out
   ·have hq:((T x).toList==(T hw).toList)=false:=str_ne (fun e=>hx (T_injL e).symm)
    have HT2:Hid (HelpTo x (k+1)):=HTs.out hx
    clear hx;go_wp2_with fail
    go_roundg (4 - (k+1))
    case measure=>omega
    case rel=>exact ⟨k+1,by omega,by go_num,HB3.out,HM3.out,HT2.out,rfl⟩
  ·have hke:k=4:=by omega
   subst hke;go_wp2_with fail;exact HPZ.out _ _ rfl HMk.out HTo.out
theorem callRd_any (b:Nat) (op:Value) (r:RSt) (w:World) (h:Blk w b (r.cells op) 196) (hl:r.rest.length<=1000000) :
  Calls Tryz.prog 90 #[.pointer (some ⟨b,0,none⟩)] w fun e w'=>RdPost w b op r.call e w':=by
 by_cases hm:r.word=[99,97,108,108]
 ·exact callC_any b op r w h hl hm
 ·exact callH_any b op r w h hl hm
def callO:OpS:=⟨193,[],[],1,false,false,1,true⟩
theorem call_sem (w:World) (b1:Nat) (hb:Blk w b1 #[.string ⟨#[104,101,108,112]⟩,.string ⟨#[99,97,108,108]⟩] 9):OpSem w (.slice (some ⟨b1,0,none⟩) 2 2) (.func 90) #[] 91 #[] 92 #[] callO where
 wr:=fun w' x _ _ hx hn=>by simpa using writeCall_any callO rfl x hx hn w'
 nd:=fun w' x _ hx=>by simpa using needCall_any callO rfl x hx w'
 e7:=enters_of Tryz.func91 (by kernel_rfl) rfl
 e8:=enters_of Tryz.func92 (by kernel_rfl) rfl
 ws:=Sl.fresh hb rfl (by decide)
 rd:=⟨_,rfl,enters_of Tryz.func90 (by kernel_rfl) rfl,fun w' b op r _ _ h hl=>by simpa [OpS.read,callO] using callRd_any b op r w' h hl⟩
theorem PartsAt.none (w:World):PartsAt w (.slice none 0 0) []:=⟨[],rfl,fun x h=>(by cases h),Sl.nil _ _ _⟩
set_option maxRecDepth 100000 in
set_option maxHeartbeats 1000000 in
theorem otherOps_any (w:World):Calls Tryz.prog 36 #[] w fun e w'=>∃ v bs,e=.returned v/\OpsIn w.heap.size w' v bs otherS/\Mods Nil' w w':=by
 go_enter Tryz.func36,Tryz.ntmps36
 go_wp2_with fail
 refine (part_result _).mono ?_
 rintro e aw0 ⟨⟨ax0a,ax0b,ax0c,ax0d,ax0e,ax0f⟩,rfl,ak0,am0⟩
 go_wp2_with fail
 refine (part_comma _).mono ?_
 rintro e aw1 ⟨⟨ax1a,ax1b,ax1c,ax1d,ax1e,ax1f⟩,rfl,ak1,am1⟩
 go_wp2_with fail
 refine (part_wide _).mono ?_
 rintro e aw2 ⟨⟨ax2a,ax2b,ax2c,ax2d,ax2e,ax2f⟩,rfl,ak2,am2⟩
 have aHP:Hid (PartsAt (aw2.alloc (.cells #[.int .i64 1,.func ax0a #[] ax0b,.func (.func ax0c) #[] ax0d,.func (.func ax0e) #[] ax0f,.int .i64 0,.func ax1a #[] ax1b,.func (.func ax1c) #[] ax1d,.func (.func ax1e) #[] ax1f,.int .i64 10,.func ax2a #[] ax2b,.func (.func ax2c) #[] ax2d,.func (.func ax2e) #[] ax2f] 135)) (.slice (some ⟨aw2.heap.size,0,none⟩) 3 3) [.result,.comma,.wide]):=PartsAt.new aw2 [(.result,⟨ax0a,ax0b,ax0c,ax0d,ax0e,ax0f⟩),(.comma,⟨ax1a,ax1b,ax1c,ax1d,ax1e,ax1f⟩),(.wide,⟨ax2a,ax2b,ax2c,ax2d,ax2e,ax2f⟩)] (by
  simp only [List.mem_cons,List.not_mem_nil,or_false]
  rintro x (rfl | rfl | rfl)
  ·exact ((ak0.mods am1).mods am2)
  ·exact (ak1.mods am2)
  ·exact ak2) _ rfl 3 rfl (by decide)
 have aHM:Hid (Mods Nil' w (aw2.alloc (.cells #[.int .i64 1,.func ax0a #[] ax0b,.func (.func ax0c) #[] ax0d,.func (.func ax0e) #[] ax0f,.int .i64 0,.func ax1a #[] ax1b,.func (.func ax1c) #[] ax1d,.func (.func ax1e) #[] ax1f,.int .i64 10,.func ax2a #[] ax2b,.func (.func ax2c) #[] ax2d,.func (.func ax2e) #[] ax2f] 135))):=((((Mods.refl Nil' w).trans am0).trans am1).trans am2).alloc _
 clear ak0 am0 ak1 am1 ak2 am2
 simp only [PV.cells,PK.fills,Int.cast_ofNat_Int]
 go_wp2_with fail;generalize aw2.alloc (.cells #[.int .i64 1,.func ax0a #[] ax0b,.func (.func ax0c) #[] ax0d,.func (.func ax0e) #[] ax0f,.int .i64 0,.func ax1a #[] ax1b,.func (.func ax1c) #[] ax1d,.func (.func ax1e) #[] ax1f,.int .i64 10,.func ax2a #[] ax2b,.func (.func ax2c) #[] ax2d,.func (.func ax2e) #[] ax2f] 135)=W1 at *;generalize aw2.heap.size=g1 at *
 refine (row_go _ _ 192 rfl _ [119,105,100,101] rfl _ [.result,.comma,.wide] _ _ aHP.out (by decide) (by decide)).mono ?_
 rintro e w4 ⟨b4,rfl,h4,l4,m4⟩
 have h5:=(h4.slots 2).refers 2
 have HL4:Hid (w.heap.size<=b4):=by have:=aHM.out.size;exact (by omega:w.heap.size<=b4)
 have HM5:Hid (Mods Nil' w ((w4.setCell ⟨b4,2,none⟩ (.int .i64 2)).setCell ⟨b4,5,none⟩ (.int .i64 2))):=((aHM.out.trans m4).set (.inr HL4.out) _).set (.inr HL4.out) _
 have H5:=hid h5;obtain ⟨o1,n1,c1,f6,c6,k7,c7,k8,c8,f9,c9,hblk,_⟩:=h4.ex
 have z2:=hblk.cell 2
 have fz2:=hblk.frozen 2
 have hblk2:=hblk.set 2 (.int .i64 2)
 have z5:=hblk2.cell 5
 have fz5:=hblk2.frozen 5
 simp at z2 z5
 have HZ:Hid (((w4.setCell ⟨b4,2,none⟩ (.int .i64 2)).setCell ⟨b4,5,none⟩ (.int .i64 2)).heap.size=w4.heap.size):=by simp [Hid,World.setCell]
 have HB4:=hid h4.lt;clear hblk hblk2 h4 h5 aHP aHM m4 l4;go_wp2_with fail;generalize (w4.setCell ⟨b4,2,none⟩ (.int .i64 2)).setCell ⟨b4,5,none⟩ (.int .i64 2)=W5 at *
 have HC:Hid (OpAt ((W5.alloc (.cells #[.string ⟨#[104,101,108,112]⟩,.string ⟨#[99,97,108,108]⟩] 9)).alloc (.cells #[.int .u8 193,.slice (some ⟨w4.heap.size,0,none⟩) 2 2,.int .i64 1,.bool false,.bool false,.int .i64 1,.func (.func 90) #[] #[],.func (.func 91) #[] #[],.func (.func 92) #[] #[],.func (.func 93) #[] #[]] 92)) (w4.heap.size+1) callO):=by
  have hb:Blk ((W5.alloc (.cells #[.string ⟨#[104,101,108,112]⟩,.string ⟨#[99,97,108,108]⟩] 9)).alloc (.cells #[.int .u8 193,.slice (some ⟨w4.heap.size,0,none⟩) 2 2,.int .i64 1,.bool false,.bool false,.int .i64 1,.func (.func 90) #[] #[],.func (.func 91) #[] #[],.func (.func 92) #[] #[],.func (.func 93) #[] #[]] 92)) (w4.heap.size+1) #[.int .u8 193,.slice (some ⟨w4.heap.size,0,none⟩) 2 2,.int .i64 1,.bool false,.bool false,.int .i64 1,.func (.func 90) #[] #[],.func (.func 91) #[] #[],.func (.func 92) #[] #[],.func (.func 93) #[] #[]] 92:=by
   have:=Blk.new (W5.alloc (.cells #[.string ⟨#[104,101,108,112]⟩,.string ⟨#[99,97,108,108]⟩] 9)) #[.int .u8 193,.slice (some ⟨w4.heap.size,0,none⟩) 2 2,.int .i64 1,.bool false,.bool false,.int .i64 1,.func (.func 90) #[] #[],.func (.func 91) #[] #[],.func (.func 92) #[] #[],.func (.func 93) #[] #[]] 92
   have e:(W5.alloc (.cells #[.string ⟨#[104,101,108,112]⟩,.string ⟨#[99,97,108,108]⟩] 9)).heap.size=w4.heap.size+1:=by
    have:=HZ.out
    simp
    omega
   rw [e] at this;exact this
  have hb5:Blk ((W5.alloc (.cells #[.string ⟨#[104,101,108,112]⟩,.string ⟨#[99,97,108,108]⟩] 9)).alloc (.cells #[.int .u8 193,.slice (some ⟨w4.heap.size,0,none⟩) 2 2,.int .i64 1,.bool false,.bool false,.int .i64 1,.func (.func 90) #[] #[],.func (.func 91) #[] #[],.func (.func 92) #[] #[],.func (.func 93) #[] #[]] 92)) w4.heap.size #[.string ⟨#[104,101,108,112]⟩,.string ⟨#[99,97,108,108]⟩] 9:=by
   have:=(Blk.new W5 #[.string ⟨#[104,101,108,112]⟩,.string ⟨#[99,97,108,108]⟩] 9).alloc (.cells #[.int .u8 193,.slice (some ⟨w4.heap.size,0,none⟩) 2 2,.int .i64 1,.bool false,.bool false,.int .i64 1,.func (.func 90) #[] #[],.func (.func 91) #[] #[],.func (.func 92) #[] #[],.func (.func 93) #[] #[]] 92)
   rw [HZ.out] at this;exact this
  exact ⟨_,_,_,_,_,_,_,_,_,_,_,hb,call_sem _ _ hb5⟩
 have H6:Hid (OpAt ((W5.alloc (.cells #[.string ⟨#[104,101,108,112]⟩,.string ⟨#[99,97,108,108]⟩] 9)).alloc (.cells #[.int .u8 193,.slice (some ⟨w4.heap.size,0,none⟩) 2 2,.int .i64 1,.bool false,.bool false,.int .i64 1,.func (.func 90) #[] #[],.func (.func 91) #[] #[],.func (.func 92) #[] #[],.func (.func 93) #[] #[]] 92)) b4 _):=H5.out.mods (((Mods.refl _ _).alloc _).alloc _)
 have HM6:Hid (Mods Nil' w ((W5.alloc (.cells #[.string ⟨#[104,101,108,112]⟩,.string ⟨#[99,97,108,108]⟩] 9)).alloc (.cells #[.int .u8 193,.slice (some ⟨w4.heap.size,0,none⟩) 2 2,.int .i64 1,.bool false,.bool false,.int .i64 1,.func (.func 90) #[] #[],.func (.func 91) #[] #[],.func (.func 92) #[] #[],.func (.func 93) #[] #[]] 92))):=(HM5.out.alloc _).alloc _
 have HS6:Hid (((W5.alloc (.cells #[.string ⟨#[104,101,108,112]⟩,.string ⟨#[99,97,108,108]⟩] 9)).alloc (.cells #[.int .u8 193,.slice (some ⟨w4.heap.size,0,none⟩) 2 2,.int .i64 1,.bool false,.bool false,.int .i64 1,.func (.func 90) #[] #[],.func (.func 91) #[] #[],.func (.func 92) #[] #[],.func (.func 93) #[] #[]] 92)).heap.size=w4.heap.size+2):=by
  have:=HZ.out
  simp [Hid]
  omega
 clear H5 HM5 HZ;generalize (W5.alloc (.cells #[.string ⟨#[104,101,108,112]⟩,.string ⟨#[99,97,108,108]⟩] 9)).alloc (.cells #[.int .u8 193,.slice (some ⟨w4.heap.size,0,none⟩) 2 2,.int .i64 1,.bool false,.bool false,.int .i64 1,.func (.func 90) #[] #[],.func (.func 91) #[] #[],.func (.func 92) #[] #[],.func (.func 93) #[] #[]] 92)=W6 at *
 refine (row_go _ _ 194 rfl _ [101,120,105,116] rfl _ [] _ _ (PartsAt.none W6) (by decide) (by decide)).mono ?_
 rintro e w7 ⟨b7,rfl,h7,l7,m7⟩
 have h8:=h7.ends
 have HL7:Hid (w4.heap.size+2<=b7):=by have:=HS6.out;exact (by omega:w4.heap.size+2<=b7)
 have HLW:Hid (w.heap.size<=b7):=by have:=HL4.out;have:=HB4.out;have:=HL7.out;exact (by omega:w.heap.size<=b7)
 have HM8:Hid (Mods Nil' w (w7.setCell ⟨b7,4,none⟩ (.bool true))):=(HM6.out.trans m7).set (.inr HLW.out) _
 have H8:=hid h8
 have H84:Hid (OpAt (w7.setCell ⟨b7,4,none⟩ (.bool true)) b4 _):=(H6.out.mods m7).other h7.opblk (by have:=HB4.out;have:=HL7.out;omega) 4 _
 have H8C:Hid (OpAt (w7.setCell ⟨b7,4,none⟩ (.bool true)) (w4.heap.size+1) callO):=(HC.out.mods m7).other h7.opblk (by have:=HL7.out;omega) 4 _
 obtain ⟨o2,n2,c2',f6',c6',k7',c7',k8',c8',f9',c9',hblk',_⟩:=h7.ex
 have y4:=hblk'.cell 4
 have fy4:=hblk'.frozen 4
 simp at y4
 have HZ8:Hid ((w7.setCell ⟨b7,4,none⟩ (.bool true)).heap.size=w7.heap.size):=by simp [Hid,World.setCell]
 clear hblk' h7 h8 m7 l7 HC H6 HM6;go_wp2_with fail;go_ret
 refine ⟨_,[b4,w4.heap.size+1,b7],rfl,?_,HM8.out.alloc _⟩
 show OpsIn w.heap.size _ (.slice (some ⟨w7.heap.size,0,none⟩) 3 3) _ _
 rw [<- HZ8.out]
 refine OpsIn.fresh [b4,w4.heap.size+1,b7] otherS rfl ?_ ?_ ?_ _ rfl 3 rfl (by decide) HM8.out.size
 ·have:=HB4.out
  have:=HL7.out
  simp
  omega
 ·have:=HL4.out
  have:=HB4.out
  have:=HL7.out
  simp
  omega
 ·intro i h h'
  have hi:i=0\/i=1\/i=2:=by simp at h;omega
  rcases hi with rfl | rfl | rfl
  ·exact H84.out
  ·exact H8C.out
  ·exact H8.out
set_option maxRecDepth 100000 in
set_option maxHeartbeats 1000000 in
theorem grow_any (w:World) (n:Nat) (h0:0<n) (hn:n<=1000):Calls Tryz.prog 65 #[.slice none 0 0,.int .i64 n] w fun e w'=>∃ cap,e=.returned (.slice (some ⟨w.heap.size,0,none⟩) 0 cap)/\Sl w' 79 1 (.slice (some ⟨w.heap.size,0,none⟩) 0 cap) 0 []/\Mods Nil' w w':=by
 obtain ⟨iP,hiP,hzP,hsP,hbP⟩:=info_parts info_pop
 have hold:(Builtin.firstCells iP.size 0 (.slice none 0 0)).run Tryz.prog w.drew=.ok ([]:List Value).toArray w.drew:=run_firstCells_none w.drew iP.size 0 0 0
 have hrz:∀ ty,(Builtin.append_ #[40,3] ty #[.slice none 0 0,.int .i64 n]).run Tryz.prog w =
   .ok (.slice (some ⟨w.heap.size,0,none⟩) n (grownCap w n 0 79)) (w.drew.alloc (.cells (([]:List Value).toArray++Builtin.zeroCells (Value.pointer none).cells n++Builtin.zeroCells (Value.pointer none).cells (grownCap w n 0 79 - n)) 79)):=fun ty=>by
  have h:=Lib.run_append_grow_zeros w 40 3 ty 79 iP (.pointer none) .i64 .i64 Tryz.underlying40 Tryz.underlying3 hiP hzP none 0 0 [] hold n h0 (by rw [hsP];decide) (by omega) (by omega) (by rw [hbP];omega)
   (by rw [hbP,Nat.zero_add];exact growslice_fits (by omega) (by omega))
  rw [Nat.zero_add] at h;exact h
 have hGn:n<=grownCap w n 0 79:=grownCap_ge w _ _ _
 have hGm:grownCap w n 0 79<=maxLen:=grownCap_le_maxLen w n 0 79 (by unfold maxLen;omega)
 have hsz:(([]:List Value).toArray++Builtin.zeroCells (Value.pointer none).cells n++Builtin.zeroCells (Value.pointer none).cells (grownCap w n 0 79 - n)).size=grownCap w n 0 79:=by
  simp [Builtin.zeroCells,Value.cells]
  omega
 generalize ([]:List Value).toArray++Builtin.zeroCells (Value.pointer none).cells n++Builtin.zeroCells (Value.pointer none).cells (grownCap w n 0 79 - n)=cs at *
 generalize grownCap w n 0 79=G at *
 have hS:Sl (w.drew.alloc (.cells cs 79)) 79 1 (.slice (some ⟨w.heap.size,0,none⟩) 0 G) 0 []:=SlB.sl ⟨Nat.zero_le _,hGm,by omega,by simp,rfl⟩ (Blk.new w.drew cs 79)
 have HS:Hid _:=hS
 unfold maxLen at hGm;clear hold hS
 go_enter Tryz.func65,Tryz.ntmps65
 go_wp2_with (at_builtin;refine Lib.wpList_append_run _ rfl _ _ _ _ rfl _ _ rfl rfl _ _ (hrz _) ?_)
 all_goals
  go_ret
  exact ⟨G,rfl,HS.out,(Mods.refl _ _).drew.alloc _⟩
structure Seg where
 g:Nat
 c:Nat
 bs:List Nat
 os:List OpS
def Seg.val (s:Seg):Value:=.slice (some ⟨s.g,0,none⟩) s.bs.length s.c
theorem OpsIn.keep {base:Nat} {w w':World} {v u:Value} {bs:List Nat} {os:List OpS} {n:Nat} {xs:List Value} (h:OpsIn base w v bs os) (hu:Sl w 79 1 u n xs) (m:Mods (fun k=>u.ownBlock=some k) w w') (hne:∀ k,v.ownBlock=some k->u.ownBlock≠some k):OpsIn base w' v bs os:=by
 have hk:=Mods.kpSl hu m
 refine ⟨h.len,h.nd,h.sl.mods m (fun k hk' e=>hne k hk' e),fun i h1 h2=>?_,h.lo,h.own⟩
 have ha:=h.at' i h1 h2
 exact ha.kpb hk (m.block _ ha.lt (fun e=>ha.notOwn hu e))
structure CRel (w0:World) (segs:List Seg) (k:Nat) (v:Value) (w:World):Prop where
 acc:OpsIn 0 w v ((segs.take k).flatMap Seg.bs) ((segs.take k).flatMap Seg.os)
 each:∀ s∈segs,OpsIn 0 w s.val s.bs s.os
 own:∀ s∈segs,v.ownBlock≠some s.g
 new:∀ j,v.ownBlock=some j->w0.heap.size<=j
 md:Mods Nil' w0 w
theorem seg_sum_le (segs:List Seg) (k:Nat) (hs:∀ s∈segs,s.bs.length<=100):((segs.take k).flatMap Seg.bs).length<=100*segs.length:=by
 have h:∀ l:List Seg,(∀ s∈l,s.bs.length<=100)->(l.flatMap Seg.bs).length<=100*l.length:=by
  intro l
  induction l with
  | nil=>intro _;simp
  | cons x l ih =>
   intro hl
   have h1:=hl x (by simp)
   have h2:=ih (fun s hs=>hl s (List.mem_cons_of_mem _ hs))
   rw [List.flatMap_cons,List.length_append,List.length_cons]
   omega
 have h1:=h (segs.take k) (fun s hs'=>hs s (List.mem_of_mem_take hs'))
 have h2:(segs.take k).length<=segs.length:=by simp;omega
 omega
theorem seg_sum_step (segs:List Seg) (k:Nat) (h:k<segs.length):((segs.take (k+1)).flatMap Seg.bs).length=((segs.take k).flatMap Seg.bs).length+segs[k].bs.length:=by
 rw [List.take_succ_eq_append_getElem h,List.flatMap_append,List.length_append]
 simp
theorem seg_pos (segs:List Seg) (h0:0<segs.length) (h:∀ s∈segs,0<s.bs.length):0<(segs.flatMap Seg.bs).length:=by
 match segs,h0,h with
 | s::l,_,h =>
  have:=h s List.mem_cons_self
  rw [List.flatMap_cons,List.length_append]
  omega
theorem CRel.step {w0 w w':World} {segs:List Seg} {k:Nat} {v v':Value} (h:CRel w0 segs k v w) (hk:k<segs.length) (hnd:(segs.flatMap Seg.bs).Nodup)
  (hsl:Sl w' 79 1 v' (((segs.take k).flatMap Seg.bs).length+segs[k].bs.length) (((segs.take k).flatMap Seg.bs).map ptrV++segs[k].bs.map ptrV)) (m:Mods (fun j=>v.ownBlock=some j) w w') (ho:∀ j,v'.ownBlock=some j->v.ownBlock=some j\/w.heap.size<=j):CRel w0 segs (k+1) v' w':=by
 have e1:(segs.take (k+1)).flatMap Seg.bs=(segs.take k).flatMap Seg.bs++segs[k].bs:=by
  rw [List.take_succ_eq_append_getElem hk,List.flatMap_append];simp
 have e2:(segs.take (k+1)).flatMap Seg.os=(segs.take k).flatMap Seg.os++segs[k].os:=by
  rw [List.take_succ_eq_append_getElem hk,List.flatMap_append];simp
 have hs:=h.each segs[k] (List.getElem_mem hk)
 refine ⟨?_,fun s hs'=>?_,fun s hs' e=>?_,fun j hj=>?_,h.md.step m (fun i hi e=>by have:=h.new i e;omega)⟩
 ·rw [e1,e2]
  refine h.acc.app hs.len ?_ hs.at' hs.lo hsl m ho (Nat.zero_le _)
  rw [<- e1]
  have e3:segs.flatMap Seg.bs=(segs.take (k+1)).flatMap Seg.bs++(segs.drop (k+1)).flatMap Seg.bs:=by
   rw [<- List.flatMap_append,List.take_append_drop]
  rw [e3] at hnd
  exact (List.nodup_append.1 hnd).1
 ·exact (h.each s hs').keep h.acc.sl m (fun j hj e=>h.own s hs' (by rw [e];cases hj;rfl))
 ·rcases ho _ e with e' | e'
  ·exact h.own s hs' e'
  ·have:=(h.each s hs').sl.lt s.g rfl
   omega
 ·rcases ho j hj with e | e
  ·exact h.new j e
  ·have:=h.md.size
   omega
set_option maxRecDepth 100000 in
set_option maxHeartbeats 1000000 in
theorem concat_any (w:World) (g c:Nat) (segs:List Seg) (hS:Sl w 40 1 (.slice (some ⟨g,0,none⟩) segs.length c) segs.length (segs.map Seg.val)) (he:∀ s∈segs,OpsIn 0 w s.val s.bs s.os) (hb:∀ s∈segs,0<s.bs.length/\s.bs.length<=100) (hl:segs.length<=10) (h0:0<segs.length) (hnd:(segs.flatMap Seg.bs).Nodup) :
  Calls Tryz.prog 32 #[.slice (some ⟨g,0,none⟩) segs.length c] w fun e w'=>∃ v,e=.returned v/\OpsIn 0 w' v (segs.flatMap Seg.bs) (segs.flatMap Seg.os)/\Mods Nil' w w':=by
 obtain ⟨iP,hiP,hzP,hsP,hbP⟩:=info_parts info_pop
 have hcell:∀ (k:Nat) (hk:k<segs.length),w.cell? ⟨g,k,none⟩=some (.slice (some ⟨segs[k].g,0,none⟩) segs[k].bs.length segs[k].c):=by
  intro k hk;obtain ⟨g',hg',cs⟩:=hS.at rfl k hk
  cases hg'
  rw [cs k hk]
  simp [hk,Seg.val]
 have hglt:g<w.heap.size:=hS.lt g rfl
 have hgne:∀ s∈segs,g≠s.g:=by
  intro s hs e
  have h1:=(he s hs).sl
  rcases h1.2 with ⟨h1,_⟩ | ⟨g1,_,_,hv,_,hb1,_⟩
  ·cases h1
  ·cases hv
   rcases hS.2 with ⟨h2,_⟩ | ⟨g2,_,_,hv2,_,hb2,_⟩
   ·cases h2
   ·cases hv2
    rw [e] at hb2;rw [hb1] at hb2
    cases hb2
 have HC:=hid hcell;have HE:=hid he;have HB:=hid hb
 have HND:Hid _:=hnd
 obtain ⟨F,HF⟩:∃ F:Nat->Nat,Hid (∀ k,F k=((segs.take k).flatMap Seg.bs).length):=⟨fun k=>((segs.take k).flatMap Seg.bs).length,fun _=>rfl⟩
 obtain ⟨X,HX⟩:∃ X:Nat->List Value,Hid (∀ k,X k=((segs.take k).flatMap Seg.bs).map ptrV):=⟨fun k=>((segs.take k).flatMap Seg.bs).map ptrV,fun _=>rfl⟩
 have HSUM:Hid (∀ k,F k<=1000):=fun k=>by
  have:=seg_sum_le segs k (fun s hs=>(HB.out s hs).2)
  rw [HF.out k]
  omega
 have HST:Hid (∀ k (hk:k<segs.length),F (k+1)=F k+segs[k].bs.length):=fun k hk=>by
  rw [HF.out,HF.out];exact seg_sum_step segs k hk
 have HF0:Hid (F 0=0):=by rw [Hid,HF.out];rfl
 have HP:Hid (0<F segs.length):=by
  rw [Hid,HF.out,List.take_length]
  exact seg_pos segs h0 (fun s hs=>(HB.out s hs).1)
 clear hcell he hb hnd hS hgne
 go_enter Tryz.func32,Tryz.ntmps32
 go_upto_block 0 with fail
 go_cut [3] (fun sv wl=>sv=.int .i64 (F segs.length)/\wl=w)
 case first =>
  go_wp2_with fail
  go_loop [3,11] (fun sv i=>∃ k:Nat,k<=segs.length/\i=.int .i64 k/\sv=.int .i64 (F k)) (fun _ i=>segs.length - (intOf i).toNat)
  case atStart=>exact ⟨0,Nat.zero_le _,rfl,by rw [HF0.out];rfl⟩
  case round =>
   obtain ⟨k,hk,rfl,rfl⟩:=hrel
   by_cases hlt:k<segs.length
   ·have ck:=HC.out k hlt
    have e1:=HST.out k hlt
    have e2:=HSUM.out k
    have e3:=HSUM.out (k+1)
    have HK:=hid e1;rw [e1] at e3;clear e1;generalize segs[k].bs.length=sn at *;generalize segs[k].g=sg at *;generalize segs[k].c=sc at *;go_wp2_with fail
    go_round
    case rel=>exact ⟨k+1,by omega,by go_num,by rw [HK.out];go_num⟩
    case measure=>simp [intOf];omega
   ·obtain rfl:k=segs.length:=by omega
    go_wp2_with fail;go_meet
    exact ⟨rfl,rfl⟩
 case rest =>
 obtain ⟨rfl,hw⟩:=hcut
 have hw':=hw.symm
 clear hw;subst hw'
 have hp:=HP.out
 have hm:=HSUM.out segs.length
 go_wp2_with fail
 refine (grow_any _ _ hp hm).mono ?_
 rintro e w1 ⟨cap,rfl,s1,m1⟩
 have HR:Hid (CRel w segs 0 (.slice (some ⟨w.heap.size,0,none⟩) 0 cap) w1):=⟨⟨rfl,List.nodup_nil,s1,fun i h=>absurd h (by simp),fun b h=>(by cases h),fun _ _=>Nat.zero_le _⟩,fun s hs=>(HE.out s hs).mods m1,fun s hs e=>by
  have h1:=(HE.out s hs).sl.lt s.g rfl
  have h2:w.heap.size=s.g:=Option.some.inj e
  omega,fun j hj=>by cases hj;exact Nat.le_refl _,m1⟩
 clear s1 m1;generalize F segs.length=FL at *;go_wp2_with fail
 go_loopw [6,27] (fun v i wl=>∃ k:Nat,k<=segs.length/\i=.int .i64 k/\CRel w segs k v wl) (fun _ i _=>segs.length - (intOf i).toNat)
 case atStart=>exact ⟨0,Nat.zero_le _,rfl,HR.out⟩
 case round =>
  obtain ⟨k,hk,rfl,hr⟩:=hrel;clear HR;have HR:=hid hr
  by_cases hlt:k<segs.length
  ·have hlt':k<segs.length:=hlt
   have ck:=cell_mods hr.md (HC.out k hlt)
   have HSg:Hid (OpsIn 0 wr segs[k].val segs[k].bs segs[k].os):=hr.each segs[k] (List.getElem_mem hlt')
   have hbk:=HB.out segs[k] (List.getElem_mem hlt')
   have HNw:Hid (∀ j u,(segs[k].bs.map ptrV)[j]?=some u->wr.cell? ((⟨segs[k].g,0,none⟩:Addr).add j)=some u):=fun j u hu=>by
    obtain ⟨g',hg',cs⟩:=HSg.out.sl.at rfl 0 hbk.1
    cases hg'
    have hadd:(⟨segs[k].g,0,none⟩:Addr).add j=⟨segs[k].g,j,none⟩:=by unfold Addr.add;split<;>simp_all
    have hj:j<segs[k].bs.length:=by
     have:=(List.getElem?_eq_some_iff.1 hu).1
     simpa using this
    rw [hadd,cs j hj];exact hu
   have e2:=HSUM.out k
   have e3:=HSUM.out (k+1)
   rw [HST.out k hlt'] at e3
   have HSl:Hid (Sl wr 79 1 u6 (F k) (X k)):=by
    have:=hr.acc.sl
    rw [Hid,HF.out,HX.out];exact this
   have HStep:Hid (∀ v' w',Sl w' 79 1 v' (F k+segs[k].bs.length) (X k++segs[k].bs.map ptrV)->Mods (fun j=>u6.ownBlock=some j) wr w'->(∀ j,v'.ownBlock=some j->u6.ownBlock=some j\/wr.heap.size<=j)->CRel w segs (k+1) v' w'):=fun v' w' s m l=>by
    rw [HF.out,HX.out] at s;exact HR.out.step hlt' HND.out s m l
   have HN1:Hid ((segs[k].bs.map ptrV).length=segs[k].bs.length*1):=by simp [Hid]
   have HN2:Hid (∀ u∈segs[k].bs.map ptrV,u.oneCell'=true):=ptrs_one _
   clear hr HSg;generalize segs[k].bs.map ptrV=nws at *;generalize segs[k].bs.length=sn at *;generalize segs[k].g=sg at *;generalize segs[k].c=sc at *;generalize X k=xk at *;generalize F k=fk at *
   go_wp2_with (at_builtin;refine wpList_append_sl _ rfl (.tmp 31) (.tmp 32) 40 rfl 79 iP (.pointer none) 1 8 Tryz.underlying40 hiP hzP hsP hbP rfl (by decide) u6 fk xk rfl HSl.out ⟨sg,0,none⟩ sn sc nws rfl HN1.out HNw.out HN2.out (by unfold maxLen;omega) (by omega) ?_;intro vA wA sA mA lA;obtain ⟨oA,cA,rfl,_⟩:=Sl.view sA)
   go_roundw
   case rel=>exact ⟨k+1,by omega,by go_num,HStep.out _ _ sA mA lA⟩
   case measure=>simp [intOf];omega
  ·obtain rfl:k=segs.length:=by omega
   have hA:=HR.out.acc
   rw [List.take_length] at hA
   have HA:Hid _:=hA
   clear hA hr;go_wp2_with fail;go_ret
   exact ⟨_,rfl,HA.out,HR.out.md⟩
theorem OpsIn.base {base b2:Nat} {w:World} {v:Value} {bs:List Nat} {os:List OpS} (h:OpsIn base w v bs os) (hb:b2<=base):OpsIn b2 w v bs os :=
 ⟨h.len,h.nd,h.sl,h.at',fun b hb'=>Nat.le_trans hb (h.lo b hb'),fun k hk=>Nat.le_trans hb (h.own k hk)⟩
theorem OpsIn.seg {base:Nat} {w:World} {v:Value} {bs:List Nat} {os:List OpS} (h:OpsIn base w v bs os) (h0:0<os.length):∃ g c,v=.slice (some ⟨g,0,none⟩) bs.length c:=by
 obtain ⟨o,c,rfl,hh⟩:=h.sl.view
 obtain ⟨g,cs,rfl,_⟩:=hh (by rw [h.len];exact h0)
 exact ⟨g,c,rfl⟩
set_option maxRecDepth 100000 in
set_option maxHeartbeats 1000000 in
theorem table_any (w:World) (hE:EnvW w):Calls Tryz.prog 15 #[] w fun e w'=>∃ v bs,e=.returned v/\OpsIn 0 w' v bs tableS/\Mods Nil' w w':=by
 have HE:=hid hE;clear hE
 go_enter Tryz.func15,Tryz.ntmps15
 go_wp2_with fail
 refine (arithOps_any _).mono ?_
 rintro e w1 ⟨v1,bs1,rfl,o1,m1⟩
 obtain ⟨g1,c1,rfl⟩:=o1.seg (by decide)
 have O1:Hid _:=o1
 have M1:Hid _:=m1
 clear o1 m1;go_wp2_with fail
 refine (jumpOps_any _).mono ?_
 rintro e w2 ⟨v2,bs2,rfl,o2,m2⟩
 obtain ⟨g2,c2,rfl⟩:=o2.seg (by decide)
 have O2:Hid _:=o2
 have M2:Hid _:=m2
 clear o2 m2;go_wp2_with fail
 refine (memOps_any _ (HE.out.mods (M1.out.trans M2.out))).mono ?_
 rintro e w3 ⟨v3,bs3,rfl,o3,m3⟩
 obtain ⟨g3,c3,rfl⟩:=o3.seg (by decide)
 have O3:Hid _:=o3
 have M3:Hid _:=m3
 clear o3 m3;go_wp2_with fail
 refine (otherOps_any _).mono ?_
 rintro e w4 ⟨v4,bs4,rfl,o4,m4⟩
 obtain ⟨g4,c4,rfl⟩:=o4.seg (by decide)
 have O4:Hid _:=o4
 have M4:Hid _:=m4
 clear o4 m4
 have l1:bs1.length=50:=O1.out.len.trans (by decide)
 have l2:bs2.length=23:=O2.out.len.trans (by decide)
 have l3:bs3.length=12:=O3.out.len.trans (by decide)
 have l4:bs4.length=3:=O4.out.len.trans (by decide)
 have HK:Hid (∃ segs:List Seg,segs=[⟨g1,c1,bs1,arithS⟩,⟨g2,c2,bs2,jumpS⟩,⟨g3,c3,bs3,memS⟩,⟨g4,c4,bs4,otherS⟩]/\(∀ s∈segs,OpsIn 0 w4 s.val s.bs s.os)/\(∀ s∈segs,0<s.bs.length/\s.bs.length<=100)/\(segs.flatMap Seg.bs).Nodup):=by
  refine ⟨_,rfl,?_,?_,?_⟩
  ·simp only [List.mem_cons,List.not_mem_nil,or_false]
   rintro s (rfl | rfl | rfl | rfl)
   ·exact (((O1.out.mods M2.out).mods M3.out).mods M4.out).base (Nat.zero_le _)
   ·exact ((O2.out.mods M3.out).mods M4.out).base (Nat.zero_le _)
   ·exact (O3.out.mods M4.out).base (Nat.zero_le _)
   ·exact O4.out.base (Nat.zero_le _)
  ·simp only [List.mem_cons,List.not_mem_nil,or_false]
   rintro s (rfl | rfl | rfl | rfl)<;>simp only<;>omega
  ·have a1:=O1.out.lt
   have a2:=O2.out.lt
   have a3:=O3.out.lt
   have b2:=O2.out.lo
   have b3:=O3.out.lo
   have b4:=O4.out.lo
   have s2:=M2.out.size
   have s3:=M3.out.size
   simp only [List.flatMap_cons,List.flatMap_nil,List.append_nil]
   rw [List.nodup_append,List.nodup_append,List.nodup_append]
   refine ⟨O1.out.nd,⟨O2.out.nd,⟨O3.out.nd,O4.out.nd,fun a ha b hb e=>?_⟩,fun a ha b hb e=>?_⟩,fun a ha b hb e=>?_⟩
   ·have:=a3 a ha;have:=b4 b hb;omega
   ·rcases List.mem_append.1 hb with hb | hb
    ·have:=a2 a ha;have:=b3 b hb;omega
    ·have:=a2 a ha;have:=b4 b hb;omega
   ·rcases List.mem_append.1 hb with hb | hb
    ·have:=a1 a ha;have:=b2 b hb;omega
    ·rcases List.mem_append.1 hb with hb | hb
     ·have:=a1 a ha;have:=b3 b hb;omega
     ·have:=a1 a ha;have:=b4 b hb;omega
 have HM:Hid (Mods Nil' w w4):=((M1.out.trans M2.out).trans M3.out).trans M4.out
 rw [l1,l2,l3,l4]
 have HS:Hid (Sl (w4.alloc (.cells #[.slice (some ⟨g1,0,none⟩) 50 c1,.slice (some ⟨g2,0,none⟩) 23 c2,.slice (some ⟨g3,0,none⟩) 12 c3,.slice (some ⟨g4,0,none⟩) 3 c4] 40)) 40 1 (.slice (some ⟨w4.heap.size,0,none⟩) 4 4) 4 [.slice (some ⟨g1,0,none⟩) 50 c1,.slice (some ⟨g2,0,none⟩) 23 c2,.slice (some ⟨g3,0,none⟩) 12 c3,.slice (some ⟨g4,0,none⟩) 3 c4]) :=
  SlB.sl ⟨Nat.le_refl _,by unfold maxLen;decide,rfl,rfl,rfl⟩ (Blk.new w4 _ 40)
 clear O1 O2 O3 O4 M1 M2 M3 M4 HE;go_wp2_with fail;obtain ⟨segs,he,h1,h2,h3⟩:=HK.out
 have hS:Sl (w4.alloc (.cells #[.slice (some ⟨g1,0,none⟩) 50 c1,.slice (some ⟨g2,0,none⟩) 23 c2,.slice (some ⟨g3,0,none⟩) 12 c3,.slice (some ⟨g4,0,none⟩) 3 c4] 40)) 40 1 (.slice (some ⟨w4.heap.size,0,none⟩) segs.length 4) segs.length (segs.map Seg.val):=by
  rw [he]
  simp only [List.map_cons,List.map_nil,Seg.val,l1,l2,l3,l4]
  exact HS.out
 have hC:=concat_any _ _ _ segs hS (fun s hs=>(h1 s hs).mods ((Mods.refl _ _).alloc _)) h2 (by rw [he];simp) (by rw [he];simp) h3
 have e4:segs.length=4:=by rw [he];rfl
 rw [e4] at hC;refine hC.mono ?_;rintro e w5 ⟨v5,rfl,o5,m5⟩
 have O5:Hid (OpsIn 0 w5 v5 (segs.flatMap Seg.bs) tableS):=by
  have e5:segs.flatMap Seg.os=tableS:=by
   rw [he]
   simp only [List.flatMap_cons,List.flatMap_nil,List.append_nil,tableS,List.append_assoc]
  rw [Hid,<- e5];exact o5
 have M5:Hid (Mods Nil' w w5):=(HM.out.alloc _).trans m5
 clear o5 m5 hC hS;go_wp2_with fail;go_ret
 exact ⟨_,_,rfl,O5.out,M5.out⟩
theorem contains_eq (ws:List (List UInt8)) (x:List UInt8):Lib.containsS (ws.map T) (T x)=ws.contains x:=by
 rw [Bool.eq_iff_iff,Lib.containsS_iff,List.contains_iff_mem,List.mem_map]
 constructor
 ·rintro ⟨a,ha,e⟩;rw [<- T_injL e];exact ha
 ·intro h;exact ⟨x,h,rfl⟩
theorem pcontains_any (ws:List (List UInt8)) (x:List UInt8) (v:Value) (w:World) (h:Sl w 9 1 v ws.length (ws.map (fun t=>.string (T t)))) (hn:0<ws.length) (hl:ws.length<=1000) :
  Calls Tryz.prog 212 #[v,.string (T x)] w fun e w'=>e=.returned (.bool (ws.contains x))/\w'=w:=by
 obtain ⟨o,c,rfl,h2⟩:=h.view;obtain ⟨g,cs,rfl,hb,ht,_,_⟩:=h2 hn
 have:=Any.slices_Contains_string Tryz.lk g 0 ws.length c (ws.map T) (T x) w (by simp) (by omega) (fun j hj=>by
  have hj':j<ws.length:=by simpa using hj
  rw [Nat.zero_add,take_cell hb ht j (by omega)]
  simp [hj'])
 rw [List.take_of_length_le (by simp),contains_eq] at this
 exact this
theorem words_len (o:OpS):0<o.words.length/\o.words.length<=2:=by
 unfold OpS.words;split<;>simp
theorem OpAt.wordsC {w:World} {b:Nat} {o:OpS} (h:OpAt w b o) (x:List UInt8) :
  ∃ v1:Value,(∃ a n c,v1=.slice a n c)/\(∀ w',Mods Nil' w w'->w'.cell? ⟨b,1,none⟩=some v1)/\∀ w',Mods Nil' w w'->Calls Tryz.prog 212 #[v1,.string (T x)] w' fun e w''=>e=.returned (.bool (o.words.contains x))/\w''=w':=by
 obtain ⟨o1,n1,c1,f6,c6,k7,c7,k8,c8,f9,c9,hblk,hsem⟩:=h.ex
 have hw:=words_len o
 exact ⟨_,⟨_,_,_,rfl⟩,fun w' m=>(hblk.mods m id).cell 1,fun w' m=>pcontains_any _ x _ w' (hsem.ws.mods m (fun _ _=>id)) hw.1 (by omega)⟩
theorem ops_cell {w:World} {v:Value} {bs:List Nat} {os:List OpS} (h:OpsIn 0 w v bs os):∃ o c,v=.slice o os.length c/\∀ k (hk:k<os.length),∃ g,o=some ⟨g,0,none⟩/\∀ w',Mods Nil' w w'->w'.cell? ⟨g,k,none⟩=some (.pointer (some ⟨bs[k]?.getD 0,0,none⟩)):=by
 obtain ⟨o,c,hv,h2⟩:=h.sl.view;rw [h.len] at hv
 refine ⟨o,c,hv,fun k hk=>?_⟩
 have hkb:k<bs.length:=by rw [h.len];exact hk
 obtain ⟨g,cs,ho,hb,ht,_,_⟩:=h2 (by omega)
 refine ⟨g,ho,fun w' m=>?_⟩
 rw [take_cell (hb.mods m id) ht k (by omega),List.getElem?_map,List.getElem?_eq_getElem hkb]
 rfl
theorem ops_at {w:World} {v:Value} {bs:List Nat} {os:List OpS} (h:OpsIn 0 w v bs os) (k:Nat) (hk:k<os.length):OpAt w (bs[k]?.getD 0) os[k]:=by
 have hkb:k<bs.length:=by rw [h.len];exact hk
 have:=h.at' k hkb hk
 rw [List.getElem?_eq_getElem hkb];exact this
set_option maxRecDepth 100000 in
set_option maxHeartbeats 2000000 in
theorem begins_any (wT w:World) (v:Value) (bs:List Nat) (x:List UInt8) (hO:OpsIn 0 wT v bs tableS) (m:Mods Nil' wT w) :
  Calls Tryz.prog 211 #[v,.string (T x)] w fun e w'=>e=.returned (.bool (beginsP x))/\w'=w:=by
 have hO1:=hO.mods m
 obtain ⟨o,c,rfl,hcell⟩:=ops_cell hO1
 have HAT:Hid (∀ k (hk:k<tableS.length),OpAt w (bs[k]?.getD 0) tableS[k]):=fun k hk=>ops_at hO1 k hk
 have HB:Hid (∀ k,(∀ j (hj:j<k) (h:j<tableS.length),tableS[j].words.contains x=false)->tableS.length<=k->beginsP x=false):=fun k h1 h2=>by
  unfold beginsP;rw [List.any_eq_false];intro y hy;obtain ⟨j,hj,rfl⟩:=List.getElem_of_mem hy
  rw [h1 j (by omega) hj];simp
 have HB1:Hid (∀ k (h:k<tableS.length),tableS[k].words.contains x=true->beginsP x=true):=fun k h h1=>by
  unfold beginsP;rw [List.any_eq_true]
  exact ⟨_,List.getElem_mem h,h1⟩
 have hlt88:tableS.length<=1000:=by rw [tableS_len];omega
 have HC:=hid hcell;clear hO hO1 m hcell;generalize beginsP x=bx at *;generalize tableS=os at *
 go_enter Tryz.func211,Tryz.ntmps211
 go_wp2_with fail
 go_loop [9] (fun v=>∃ k:Nat,k<=os.length/\v=.int .i64 k/\∀ j (hj:j<k) (h:j<os.length),os[j].words.contains x=false) (fun v=>os.length - (intOf v).toNat)
 case atStart=>exact ⟨0,Nat.zero_le _,rfl,fun j hj=>absurd hj (Nat.not_lt_zero _)⟩
 case round =>
  obtain ⟨k,hk,rfl,hj⟩:=hrel;have HJ:=hid hj;clear hj
  by_cases hlt:k<os.length
  ·obtain ⟨g,rfl,hg⟩:=HC.out k hlt
   have q0:=hg w (Mods.refl _ _)
   obtain ⟨v1,⟨va,vn,vc,rfl⟩,hv1,hct⟩:=(HAT.out k hlt).wordsC x
   have q1:=hv1 w (Mods.refl _ _)
   have HCT:Hid (Calls Tryz.prog 212 #[.slice va vn vc,.string (T x)] w fun e w''=>e=.returned (.bool (os[k].words.contains x))/\w''=w):=hct w (Mods.refl _ _)
   clear hg hv1 hct HC
   cases hc:os[k].words.contains x with
   | true =>
    have HX:Hid (bx=true):=HB1.out k hlt hc
    go_wp2_with fail;refine HCT.out.mono ?_;rintro e w1 ⟨rfl,rfl⟩;rw [hc];go_wp2_with fail;go_ret;rw [HX.out]
    exact ⟨rfl,rfl⟩
   | false =>
    have HJ2:Hid (∀ j (hj:j<k+1) (h:j<os.length),os[j].words.contains x=false):=fun j hj h=>by
     rcases Nat.lt_or_ge j k with e | e
     ·exact HJ.out j e h
     ·have:j=k:=by omega
      subst this;exact hc
    go_wp2_with fail;refine HCT.out.mono ?_;rintro e w1 ⟨rfl,rfl⟩;rw [hc];go_wp2_with fail
    go_round
    case rel=>exact ⟨k+1,by omega,by go_num,HJ2.out⟩
    case measure=>simp [intOf];omega
  ·have HX:Hid (bx=false):=HB.out k HJ.out (by omega)
   go_wp2_with fail;go_ret;rw [HX.out]
   exact ⟨rfl,rfl⟩
theorem results_cell_tmp2 {P:Program} {fn:Func} {p u1 u2:Tmp} {ty:TypeId} (h:fn.results=#[.cell p ty,.tmp u1,.tmp u2]) (tmps:Array Value) (w:World) (g:Nat) (t:TypeId) (cs:Array Value) (fr:Nat × Nat) (d:TypeDesc) (v1 v2:Value)
  (hp:tmps.getD p undef=.pointer (some ⟨g,0,none⟩)) (hv1:tmps.getD u1 undef=v1) (hv2:tmps.getD u2 undef=v2) (hg:w.heap[g]?=some (.cells cs t fr))
  (hu:P.underlying ty=some d) (hd:(match d with | .struct _ | .array _ _=>true | _=>false)=true) (hi:(P.info? ty).map (·.size)=some cs.size) :
  (results fn tmps).run P w=.ok (.tuple #[.agg cs,v1,v2]) w:=by
 have hp':tmps[p]?.getD undef=.pointer (some ⟨g,0,none⟩):=by simpa using hp
 have h1':tmps[u1]?.getD undef=v1:=by simpa using hv1
 have h2':tmps[u2]?.getD undef=v2:=by simpa using hv2
 simp only [results,h]
 simp [hp',h1',h2',asAddr,run_loadVar_row w g t ty cs fr d hg hu hd hi]
structure RSt.FitP (r:RSt):Prop where
 d:r.d<=15
 s:r.s<=15
 j0:-32768<=r.jump
 j1:r.jump<=32767
 n0:-2147483648<=r.num
 n1:r.num<=2147483647
 h0:-2147483648<=r.high
 h1:r.high<=2147483647
 l:r.label.length<=100
 m:r.name.length<=300
theorem name_short {l:List UInt8} (h:nameB l=true):l.length<=16:=by
 unfold nameB at h
 simp only [Bool.and_eq_true,decide_eq_true_eq] at h
 exact h.1.1
theorem regOf_lt {w:List UInt8} {n:Nat} (h:regOfP w=some n):n<=10:=by
 unfold regOfP at h
 have h2:=List.mem_of_find?_eq_some h
 simp at h2
 omega
theorem low_range (v:Nat):-2147483648<=lowP v/\lowP v<=2147483647:=by unfold lowP;omega
theorem read_fit (p:PK) (r r':RSt) (h:p.read r=some r') (hf:r.FitP):r'.FitP:=by
 obtain ⟨fd,fs,fj0,fj1,fn0,fn1,fh0,fh1,fl,fm⟩:=hf
 have hm:∀ c:UInt8,r.mark c=some r'->r'.FitP:=fun c h=>by
  unfold RSt.mark at h
  split at h
  ·cases h;exact ⟨fd,fs,fj0,fj1,fn0,fn1,fh0,fh1,fl,fm⟩
  ·cases h
 have hd:r.regD=some r'->r'.FitP:=fun h=>by
  unfold RSt.regD at h;obtain ⟨v,hv,rfl⟩:=Option.map_eq_some_iff.1 h
  exact ⟨by have:=regOf_lt hv;show v<=15;omega,fs,fj0,fj1,fn0,fn1,fh0,fh1,fl,fm⟩
 have hs:r.regS=some r'->r'.FitP:=fun h=>by
  unfold RSt.regS at h;obtain ⟨v,hv,rfl⟩:=Option.map_eq_some_iff.1 h
  exact ⟨fd,by have:=regOf_lt hv;show v<=15;omega,fj0,fj1,fn0,fn1,fh0,fh1,fl,fm⟩
 have hn:r.number=some r'->r'.FitP:=fun h=>by
  unfold RSt.number at h;obtain ⟨v,hv,rfl⟩:=Option.map_eq_some_iff.1 h
  have:=sgn_range v.1 2147483648 (by omega)
  exact ⟨fd,fs,fj0,fj1,this.1,by have:=this.2;show (v.1.sgnP 2147483648).getD 0<=2147483647;omega,fh0,fh1,fl,fm⟩
 have hl:r.lab=some r'->r'.FitP:=fun h=>by
  unfold RSt.lab at h
  split at h
  ·rename_i hb
   cases h;exact ⟨fd,fs,fj0,fj1,fn0,fn1,fh0,fh1,by have:=name_short hb;show (wdL r.rest).1.length<=100;omega,fm⟩
  ·cases h
 have ho:r.off=some r'->r'.FitP:=fun h=>by
  unfold RSt.off at h
  split at h
  ·obtain ⟨v,hv,rfl⟩:=Option.map_eq_some_iff.1 h
   have:=sgn_range ⟨v,true⟩ 32768 (by omega)
   exact ⟨fd,fs,this.1,by have:=this.2;show ((RNum.mk v true).sgnP 32768).getD 0<=32767;omega,fn0,fn1,fh0,fh1,fl,fm⟩
  ·split at h
   ·obtain ⟨v,hv,rfl⟩:=Option.map_eq_some_iff.1 h
    have:=sgn_range ⟨v,false⟩ 32768 (by omega)
    exact ⟨fd,fs,this.1,by have:=this.2;show ((RNum.mk v false).sgnP 32768).getD 0<=32767;omega,fn0,fn1,fh0,fh1,fl,fm⟩
   ·cases h;exact ⟨fd,fs,fj0,fj1,fn0,fn1,fh0,fh1,fl,fm⟩
 have hwd:r.wide=some r'->r'.FitP:=fun h=>by
  unfold RSt.wide at h
  split at h
  ·split at h
   ·rename_i hb
    cases h
    exact ⟨fd,by show 1<=15;omega,fj0,fj1,fn0,fn1,fh0,fh1,fl,by have:=name_short hb;show (wdL (wdL r.rest).2).1.length<=300;omega⟩
   ·cases h
  ·obtain ⟨v,hv,rfl⟩:=Option.map_eq_some_iff.1 h
   have h1:=low_range (v.1.wideP.getD 0)
   have h2:=low_range (v.1.wideP.getD 0 / 4294967296)
   exact ⟨fd,fs,fj0,fj1,h1.1,h1.2,h2.1,h2.2,fl,fm⟩
 unfold PK.read at h
 split at h
 ·exact hm _ h
 ·exact hm _ h
 ·exact hm _ h
 ·exact hd h
 ·exact hd h
 ·exact hs h
 ·exact hn h
 ·exact hl h
 ·exact ho h
 ·exact hwd h
 ·cases h
theorem readPs_fit:∀ (ps:List PK) (r r':RSt),readPs ps r=some r'->r.FitP->r'.FitP
 | [],r,r',h,hf=>by cases h;exact hf
 | p::ps,r,r',h,hf=>by
  obtain ⟨r1,h1,h2⟩:=Option.bind_eq_some_iff.1 (show (p.read r).bind (readPs ps)=some r' from h)
  exact readPs_fit ps r1 r' h2 (read_fit p r r1 h1 hf)
theorem call_fit (r r':RSt) (h:r.call=some r') (hf:r.FitP):r'.FitP:=by
 obtain ⟨fd,fs,fj0,fj1,fn0,fn1,fh0,fh1,fl,fm⟩:=hf;unfold RSt.call at h
 split at h
 ·split at h
  ·rename_i hb
   cases h
   exact ⟨fd,by show 1<=15;omega,fj0,fj1,fn0,fn1,fh0,fh1,fl,by have:=name_short hb;show (wdL r.rest).1.length<=300;omega⟩
  ·cases h
 ·obtain ⟨v,hv,rfl⟩:=Option.map_eq_some_iff.1 h;rw [List.findIdx?_eq_some_iff_getElem] at hv;obtain ⟨hv,_⟩:=hv
  have hv':v<4:=hv
  exact ⟨fd,fs,fj0,fj1,by show -2147483648<=((1+v:Nat):Int);omega,by show ((1+v:Nat):Int)<=2147483647;omega,fh0,fh1,fl,fm⟩
theorem oread_fit (o:OpS) (r r':RSt) (h:o.read r=some r') (hf:r.FitP):r'.FitP:=by
 unfold OpS.read at h
 split at h
 ·exact call_fit r r' h hf
 ·exact readPs_fit _ r r' h hf
def rst0 (x l:List UInt8):RSt:=⟨x,l,0,0,0,0,0,[],[],false⟩
theorem rst0_fit (x l:List UInt8):(rst0 x l).FitP:=by constructor<;>simp [rst0]
def PRead.cells (bs:List Nat) (x:PRead):Array Value:=#[.pointer (some ⟨bs[x.k]?.getD 0,0,none⟩),.int .u8 x.r.d,.int .u8 x.r.s,.int .i16 x.r.jump,.int .i32 x.r.num,.int .i32 x.r.high,.string (T x.r.label),.string (T x.r.name)]
def zeroI:Array Value:=#[.pointer none,.int .u8 0,.int .u8 0,.int .i16 0,.int .i32 0,.int .i32 0,.string ⟨#[]⟩,.string ⟨#[]⟩]
def ReadPost (w:World) (bs:List Nat) (o:Option PRead) (e:Ending) (w':World):Prop :=
 Mods Nil' w w'/\e=.returned (match o with | none=>.tuple #[.agg zeroI,.bool false,.bool false] | some x=>.tuple #[.agg (x.cells bs),.bool x.fits,.bool true])
theorem needs_opL (o:OpS) (x y:PIns) (h:x.d=y.d/\x.s=y.s/\x.jump=y.jump/\x.num=y.num/\x.high=y.high):o.needs x=o.needs y:=by
 obtain ⟨h1,h2,h3,h4,h5⟩:=h
 have hr:PK.right x=PK.right y:=by
  funext p
  unfold PK.right;rw [h1,h2,h5]
 unfold OpS.needs othersB;rw [hr,h1,h2,h3,h4]
def tryRow (o:OpS) (x l:List UInt8) (k:Nat):Option PRead :=
 if o.words.contains x then (match o.read (rst0 x l) with | none=>none | some r=>if skipL r.rest=[] then some ⟨k,{ r with rest:=[] }⟩ else none) else none
theorem readFrom_step (x l:List UInt8) (k:Nat) (hk:k<tableS.length):readFrom x l k (tableS.drop k)=match tryRow tableS[k] x l k with | some y=>some y | none=>readFrom x l (k+1) (tableS.drop (k+1)):=by
 rw [List.drop_eq_getElem_cons hk,readFrom];unfold tryRow rst0
 by_cases h1:tableS[k].words.contains x=true
 ·rw [if_pos h1,if_pos h1]
  cases tableS[k].read ⟨x,l,0,0,0,0,0,[],[],false⟩ with
  | none=>rfl
  | some r =>
   dsimp only
   by_cases h2:skipL r.rest=[]
   ·rw [if_pos h2,if_pos h2]
   ·rw [if_neg h2,if_neg h2]
 ·rw [if_neg h1,if_neg h1]
end Go.Proofs.YtnhcaifopaeohaaGreatDoor
