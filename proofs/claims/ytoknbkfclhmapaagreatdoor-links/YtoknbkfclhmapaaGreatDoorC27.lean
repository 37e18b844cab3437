import Derived.Test.YtoknbkfclhmapaaGreatDoorC26
namespace Go.Proofs.YtoknbkfclhmapaaGreatDoor
open Go.RowKit
structure EnvW (w:World):Prop where
 c0:w.cell? ⟨0,0,none⟩=some (.string (T [49]))
 c1:w.cell? ⟨0,1,none⟩=some (.string (T [50]))
 c2:w.cell? ⟨0,2,none⟩=some (.string (T [52]))
 c3:w.cell? ⟨0,3,none⟩=some (.string (T [56]))
theorem cell_mods {w w':World} (m:Mods Nil' w w') {b i:Nat} {v:Value} (h:w.cell? ⟨b,i,none⟩=some v):w'.cell? ⟨b,i,none⟩=some v:=by
 have hb:b<w.heap.size:=by
  refine Classical.byContradiction fun hn=>?_
  simp [World.cell?,Array.getElem?_eq_none (Nat.le_of_not_lt hn)] at h
 have e:=m.block b hb id
 simp only [World.cell?] at h ⊢
 rw [e];exact h
theorem EnvW.mods {w w':World} (h:EnvW w) (m:Mods Nil' w w'):EnvW w':=⟨cell_mods m h.c0,cell_mods m h.c1,cell_mods m h.c2,cell_mods m h.c3⟩
def meS (k:Nat):List OpS:=(sizeW.zipIdx.take k).flatMap fun x=>memAt x.2 x.1
theorem meS_step (k:Nat) (h:k<4):meS (k+1)=meS k++memAt k (sizeW[k]'h):=by
 have:∀ k:Fin 4,meS (k.1+1)=meS k.1++memAt k.1 (sizeW[k.1]'k.2):=by
  intro k;unfold meS
  rw [List.take_succ_eq_append_getElem (by simp;exact k.2),List.flatMap_append]
  simp
  rfl
 exact this ⟨k,h⟩
theorem meS_len (k:Nat) (h:k<=4):(meS k).length=3*k:=by
 have:∀ k:Fin 5,(meS k.1).length=3*k.1:=by decide +kernel
 exact this ⟨k,by omega⟩
set_option maxRecDepth 100000 in
theorem sizeW_at (k:Nat) (hk:k<4) (w:World):(Instr.index 165 (.agg #[.string (T [49]),.string (T [50]),.string (T [52]),.string (T [56])]) (.int .i64 k)).run Tryz.prog w=.ok (.string (T (sizeW[k]'hk))) w:=by
 have:k=0\/k=1\/k=2\/k=3:=by omega
 rcases this with rfl | rfl | rfl | rfl<;>rfl
theorem sizeW_size (k:Nat) (h:k<4):(T (sizeW[k]'h)).size<=90:=by
 have:∀ k:Fin 4,(T (sizeW[k.1]'k.2)).size<=90:=by decide +kernel
 exact this ⟨k,h⟩
set_option maxRecDepth 100000 in
set_option maxHeartbeats 1000000 in
theorem memOps_any (w:World) (hE:EnvW w):Calls Tryz.prog 58 #[] w fun e w'=>∃ v bs,e=.returned v/\OpsIn w.heap.size w' v bs memS/\Mods Nil' w w':=by
 obtain ⟨iP,hiP,hzP,hsP,hbP⟩:=info_parts info_pop;have HE:=hid hE;clear hE
 go_enter Tryz.func58,Tryz.ntmps58
 go_wp2_with fail
 refine (part_result _).mono ?_
 rintro e aw0 ⟨⟨ax0a,ax0b,ax0c,ax0d,ax0e,ax0f⟩,rfl,ak0,am0⟩
 go_wp2_with fail
 refine (part_comma _).mono ?_
 rintro e aw1 ⟨⟨ax1a,ax1b,ax1c,ax1d,ax1e,ax1f⟩,rfl,ak1,am1⟩
 go_wp2_with fail
 refine (part_opens _).mono ?_
 rintro e aw2 ⟨⟨ax2a,ax2b,ax2c,ax2d,ax2e,ax2f⟩,rfl,ak2,am2⟩
 go_wp2_with fail
 refine (part_source _).mono ?_
 rintro e aw3 ⟨⟨ax3a,ax3b,ax3c,ax3d,ax3e,ax3f⟩,rfl,ak3,am3⟩
 go_wp2_with fail
 refine (part_offset _).mono ?_
 rintro e aw4 ⟨⟨ax4a,ax4b,ax4c,ax4d,ax4e,ax4f⟩,rfl,ak4,am4⟩
 go_wp2_with fail
 refine (part_shut _).mono ?_
 rintro e aw5 ⟨⟨ax5a,ax5b,ax5c,ax5d,ax5e,ax5f⟩,rfl,ak5,am5⟩
 have aHP:Hid (PartsAt (aw5.alloc (.cells #[.int .i64 1,.func ax0a #[] ax0b,.func (.func ax0c) #[] ax0d,.func (.func ax0e) #[] ax0f,.int .i64 0,.func ax1a #[] ax1b,.func (.func ax1c) #[] ax1d,.func (.func ax1e) #[] ax1f,.int .i64 0,.func ax2a #[] ax2b,.func (.func ax2c) #[] ax2d,.func (.func ax2e) #[] ax2f,.int .i64 2,.func ax3a #[] ax3b,.func (.func ax3c) #[] ax3d,.func (.func ax3e) #[] ax3f,.int .i64 4,.func ax4a #[] ax4b,.func (.func ax4c) #[] ax4d,.func (.func ax4e) #[] ax4f,.int .i64 0,.func ax5a #[] ax5b,.func (.func ax5c) #[] ax5d,.func (.func ax5e) #[] ax5f] 146)) (.slice (some ⟨aw5.heap.size,0,none⟩) 6 6) loadsP):=PartsAt.new aw5 [(.result,⟨ax0a,ax0b,ax0c,ax0d,ax0e,ax0f⟩),(.comma,⟨ax1a,ax1b,ax1c,ax1d,ax1e,ax1f⟩),(.opens,⟨ax2a,ax2b,ax2c,ax2d,ax2e,ax2f⟩),(.source,⟨ax3a,ax3b,ax3c,ax3d,ax3e,ax3f⟩),(.offset,⟨ax4a,ax4b,ax4c,ax4d,ax4e,ax4f⟩),(.shut,⟨ax5a,ax5b,ax5c,ax5d,ax5e,ax5f⟩)] (by
  simp only [List.mem_cons,List.not_mem_nil,or_false]
  rintro x (rfl | rfl | rfl | rfl | rfl | rfl)
  ·exact (((((ak0.mods am1).mods am2).mods am3).mods am4).mods am5)
  ·exact ((((ak1.mods am2).mods am3).mods am4).mods am5)
  ·exact (((ak2.mods am3).mods am4).mods am5)
  ·exact ((ak3.mods am4).mods am5)
  ·exact (ak4.mods am5)
  ·exact ak5) _ rfl 6 rfl (by decide)
 have aHM:Hid (Mods Nil' w (aw5.alloc (.cells #[.int .i64 1,.func ax0a #[] ax0b,.func (.func ax0c) #[] ax0d,.func (.func ax0e) #[] ax0f,.int .i64 0,.func ax1a #[] ax1b,.func (.func ax1c) #[] ax1d,.func (.func ax1e) #[] ax1f,.int .i64 0,.func ax2a #[] ax2b,.func (.func ax2c) #[] ax2d,.func (.func ax2e) #[] ax2f,.int .i64 2,.func ax3a #[] ax3b,.func (.func ax3c) #[] ax3d,.func (.func ax3e) #[] ax3f,.int .i64 4,.func ax4a #[] ax4b,.func (.func ax4c) #[] ax4d,.func (.func ax4e) #[] ax4f,.int .i64 0,.func ax5a #[] ax5b,.func (.func ax5c) #[] ax5d,.func (.func ax5e) #[] ax5f] 146))):=(((((((Mods.refl Nil' w).trans am0).trans am1).trans am2).trans am3).trans am4).trans am5).alloc _
 clear ak0 am0 ak1 am1 ak2 am2 ak3 am3 ak4 am4 ak5 am5
 simp only [PV.cells,PK.fills,Int.cast_ofNat_Int]
 go_wp2_with fail;generalize aw5.alloc (.cells #[.int .i64 1,.func ax0a #[] ax0b,.func (.func ax0c) #[] ax0d,.func (.func ax0e) #[] ax0f,.int .i64 0,.func ax1a #[] ax1b,.func (.func ax1c) #[] ax1d,.func (.func ax1e) #[] ax1f,.int .i64 0,.func ax2a #[] ax2b,.func (.func ax2c) #[] ax2d,.func (.func ax2e) #[] ax2f,.int .i64 2,.func ax3a #[] ax3b,.func (.func ax3c) #[] ax3d,.func (.func ax3e) #[] ax3f,.int .i64 4,.func ax4a #[] ax4b,.func (.func ax4c) #[] ax4d,.func (.func ax4e) #[] ax4f,.int .i64 0,.func ax5a #[] ax5b,.func (.func ax5c) #[] ax5d,.func (.func ax5e) #[] ax5f] 146)=W1 at *;generalize aw5.heap.size=g1 at *
 refine (part_opens _).mono ?_
 rintro e bw0 ⟨⟨bx0a,bx0b,bx0c,bx0d,bx0e,bx0f⟩,rfl,bk0,bm0⟩
 go_wp2_with fail
 refine (part_operand _).mono ?_
 rintro e bw1 ⟨⟨bx1a,bx1b,bx1c,bx1d,bx1e,bx1f⟩,rfl,bk1,bm1⟩
 go_wp2_with fail
 refine (part_offset _).mono ?_
 rintro e bw2 ⟨⟨bx2a,bx2b,bx2c,bx2d,bx2e,bx2f⟩,rfl,bk2,bm2⟩
 go_wp2_with fail
 refine (part_shut _).mono ?_
 rintro e bw3 ⟨⟨bx3a,bx3b,bx3c,bx3d,bx3e,bx3f⟩,rfl,bk3,bm3⟩
 go_wp2_with fail
 refine (part_comma _).mono ?_
 rintro e bw4 ⟨⟨bx4a,bx4b,bx4c,bx4d,bx4e,bx4f⟩,rfl,bk4,bm4⟩
 go_wp2_with fail
 refine (part_source _).mono ?_
 rintro e bw5 ⟨⟨bx5a,bx5b,bx5c,bx5d,bx5e,bx5f⟩,rfl,bk5,bm5⟩
 have bHP:Hid (PartsAt (bw5.alloc (.cells #[.int .i64 0,.func bx0a #[] bx0b,.func (.func bx0c) #[] bx0d,.func (.func bx0e) #[] bx0f,.int .i64 1,.func bx1a #[] bx1b,.func (.func bx1c) #[] bx1d,.func (.func bx1e) #[] bx1f,.int .i64 4,.func bx2a #[] bx2b,.func (.func bx2c) #[] bx2d,.func (.func bx2e) #[] bx2f,.int .i64 0,.func bx3a #[] bx3b,.func (.func bx3c) #[] bx3d,.func (.func bx3e) #[] bx3f,.int .i64 0,.func bx4a #[] bx4b,.func (.func bx4c) #[] bx4d,.func (.func bx4e) #[] bx4f,.int .i64 2,.func bx5a #[] bx5b,.func (.func bx5c) #[] bx5d,.func (.func bx5e) #[] bx5f] 146)) (.slice (some ⟨bw5.heap.size,0,none⟩) 6 6) storesP):=PartsAt.new bw5 [(.opens,⟨bx0a,bx0b,bx0c,bx0d,bx0e,bx0f⟩),(.operand,⟨bx1a,bx1b,bx1c,bx1d,bx1e,bx1f⟩),(.offset,⟨bx2a,bx2b,bx2c,bx2d,bx2e,bx2f⟩),(.shut,⟨bx3a,bx3b,bx3c,bx3d,bx3e,bx3f⟩),(.comma,⟨bx4a,bx4b,bx4c,bx4d,bx4e,bx4f⟩),(.source,⟨bx5a,bx5b,bx5c,bx5d,bx5e,bx5f⟩)] (by
  simp only [List.mem_cons,List.not_mem_nil,or_false]
  rintro x (rfl | rfl | rfl | rfl | rfl | rfl)
  ·exact (((((bk0.mods bm1).mods bm2).mods bm3).mods bm4).mods bm5)
  ·exact ((((bk1.mods bm2).mods bm3).mods bm4).mods bm5)
  ·exact (((bk2.mods bm3).mods bm4).mods bm5)
  ·exact ((bk3.mods bm4).mods bm5)
  ·exact (bk4.mods bm5)
  ·exact bk5) _ rfl 6 rfl (by decide)
 have bHM:Hid (Mods Nil' w (bw5.alloc (.cells #[.int .i64 0,.func bx0a #[] bx0b,.func (.func bx0c) #[] bx0d,.func (.func bx0e) #[] bx0f,.int .i64 1,.func bx1a #[] bx1b,.func (.func bx1c) #[] bx1d,.func (.func bx1e) #[] bx1f,.int .i64 4,.func bx2a #[] bx2b,.func (.func bx2c) #[] bx2d,.func (.func bx2e) #[] bx2f,.int .i64 0,.func bx3a #[] bx3b,.func (.func bx3c) #[] bx3d,.func (.func bx3e) #[] bx3f,.int .i64 0,.func bx4a #[] bx4b,.func (.func bx4c) #[] bx4d,.func (.func bx4e) #[] bx4f,.int .i64 2,.func bx5a #[] bx5b,.func (.func bx5c) #[] bx5d,.func (.func bx5e) #[] bx5f] 146))):=((((((aHM.out.trans bm0).trans bm1).trans bm2).trans bm3).trans bm4).trans bm5).alloc _
 have aHP2:Hid (PartsAt (bw5.alloc (.cells #[.int .i64 0,.func bx0a #[] bx0b,.func (.func bx0c) #[] bx0d,.func (.func bx0e) #[] bx0f,.int .i64 1,.func bx1a #[] bx1b,.func (.func bx1c) #[] bx1d,.func (.func bx1e) #[] bx1f,.int .i64 4,.func bx2a #[] bx2b,.func (.func bx2c) #[] bx2d,.func (.func bx2e) #[] bx2f,.int .i64 0,.func bx3a #[] bx3b,.func (.func bx3c) #[] bx3d,.func (.func bx3e) #[] bx3f,.int .i64 0,.func bx4a #[] bx4b,.func (.func bx4c) #[] bx4d,.func (.func bx4e) #[] bx4f,.int .i64 2,.func bx5a #[] bx5b,.func (.func bx5c) #[] bx5d,.func (.func bx5e) #[] bx5f] 146)) (.slice (some ⟨g1,0,none⟩) 6 6) loadsP):=aHP.out.mods ((((((((Mods.refl Nil' _).trans bm0).trans bm1).trans bm2).trans bm3).trans bm4).trans bm5).alloc _)
 clear aHP bk0 bm0 bk1 bm1 bk2 bm2 bk3 bm3 bk4 bm4 bk5 bm5
 simp only [PV.cells,PK.fills,Int.cast_ofNat_Int]
 clear aHM;go_wp2_with fail;generalize bw5.alloc (.cells #[.int .i64 0,.func bx0a #[] bx0b,.func (.func bx0c) #[] bx0d,.func (.func bx0e) #[] bx0f,.int .i64 1,.func bx1a #[] bx1b,.func (.func bx1c) #[] bx1d,.func (.func bx1e) #[] bx1f,.int .i64 4,.func bx2a #[] bx2b,.func (.func bx2c) #[] bx2d,.func (.func bx2e) #[] bx2f,.int .i64 0,.func bx3a #[] bx3b,.func (.func bx3c) #[] bx3d,.func (.func bx3e) #[] bx3f,.int .i64 0,.func bx4a #[] bx4b,.func (.func bx4c) #[] bx4d,.func (.func bx4e) #[] bx4f,.int .i64 2,.func bx5a #[] bx5b,.func (.func bx5c) #[] bx5d,.func (.func bx5e) #[] bx5f] 146)=W2 at *;generalize bw5.heap.size=g2 at *
 refine (part_opens _).mono ?_
 rintro e cw0 ⟨⟨cx0a,cx0b,cx0c,cx0d,cx0e,cx0f⟩,rfl,ck0,cm0⟩
 go_wp2_with fail
 refine (part_operand _).mono ?_
 rintro e cw1 ⟨⟨cx1a,cx1b,cx1c,cx1d,cx1e,cx1f⟩,rfl,ck1,cm1⟩
 go_wp2_with fail
 refine (part_offset _).mono ?_
 rintro e cw2 ⟨⟨cx2a,cx2b,cx2c,cx2d,cx2e,cx2f⟩,rfl,ck2,cm2⟩
 go_wp2_with fail
 refine (part_shut _).mono ?_
 rintro e cw3 ⟨⟨cx3a,cx3b,cx3c,cx3d,cx3e,cx3f⟩,rfl,ck3,cm3⟩
 go_wp2_with fail
 refine (part_comma _).mono ?_
 rintro e cw4 ⟨⟨cx4a,cx4b,cx4c,cx4d,cx4e,cx4f⟩,rfl,ck4,cm4⟩
 go_wp2_with fail
 refine (part_number _).mono ?_
 rintro e cw5 ⟨⟨cx5a,cx5b,cx5c,cx5d,cx5e,cx5f⟩,rfl,ck5,cm5⟩
 have cHP:Hid (PartsAt (cw5.alloc (.cells #[.int .i64 0,.func cx0a #[] cx0b,.func (.func cx0c) #[] cx0d,.func (.func cx0e) #[] cx0f,.int .i64 1,.func cx1a #[] cx1b,.func (.func cx1c) #[] cx1d,.func (.func cx1e) #[] cx1f,.int .i64 4,.func cx2a #[] cx2b,.func (.func cx2c) #[] cx2d,.func (.func cx2e) #[] cx2f,.int .i64 0,.func cx3a #[] cx3b,.func (.func cx3c) #[] cx3d,.func (.func cx3e) #[] cx3f,.int .i64 0,.func cx4a #[] cx4b,.func (.func cx4c) #[] cx4d,.func (.func cx4e) #[] cx4f,.int .i64 8,.func cx5a #[] cx5b,.func (.func cx5c) #[] cx5d,.func (.func cx5e) #[] cx5f] 146)) (.slice (some ⟨cw5.heap.size,0,none⟩) 6 6) numbersP):=PartsAt.new cw5 [(.opens,⟨cx0a,cx0b,cx0c,cx0d,cx0e,cx0f⟩),(.operand,⟨cx1a,cx1b,cx1c,cx1d,cx1e,cx1f⟩),(.offset,⟨cx2a,cx2b,cx2c,cx2d,cx2e,cx2f⟩),(.shut,⟨cx3a,cx3b,cx3c,cx3d,cx3e,cx3f⟩),(.comma,⟨cx4a,cx4b,cx4c,cx4d,cx4e,cx4f⟩),(.number,⟨cx5a,cx5b,cx5c,cx5d,cx5e,cx5f⟩)] (by
  simp only [List.mem_cons,List.not_mem_nil,or_false]
  rintro x (rfl | rfl | rfl | rfl | rfl | rfl)
  ·exact (((((ck0.mods cm1).mods cm2).mods cm3).mods cm4).mods cm5)
  ·exact ((((ck1.mods cm2).mods cm3).mods cm4).mods cm5)
  ·exact (((ck2.mods cm3).mods cm4).mods cm5)
  ·exact ((ck3.mods cm4).mods cm5)
  ·exact (ck4.mods cm5)
  ·exact ck5) _ rfl 6 rfl (by decide)
 have cHM:Hid (Mods Nil' w (cw5.alloc (.cells #[.int .i64 0,.func cx0a #[] cx0b,.func (.func cx0c) #[] cx0d,.func (.func cx0e) #[] cx0f,.int .i64 1,.func cx1a #[] cx1b,.func (.func cx1c) #[] cx1d,.func (.func cx1e) #[] cx1f,.int .i64 4,.func cx2a #[] cx2b,.func (.func cx2c) #[] cx2d,.func (.func cx2e) #[] cx2f,.int .i64 0,.func cx3a #[] cx3b,.func (.func cx3c) #[] cx3d,.func (.func cx3e) #[] cx3f,.int .i64 0,.func cx4a #[] cx4b,.func (.func cx4c) #[] cx4d,.func (.func cx4e) #[] cx4f,.int .i64 8,.func cx5a #[] cx5b,.func (.func cx5c) #[] cx5d,.func (.func cx5e) #[] cx5f] 146))):=((((((bHM.out.trans cm0).trans cm1).trans cm2).trans cm3).trans cm4).trans cm5).alloc _
 have aHP22:Hid (PartsAt (cw5.alloc (.cells #[.int .i64 0,.func cx0a #[] cx0b,.func (.func cx0c) #[] cx0d,.func (.func cx0e) #[] cx0f,.int .i64 1,.func cx1a #[] cx1b,.func (.func cx1c) #[] cx1d,.func (.func cx1e) #[] cx1f,.int .i64 4,.func cx2a #[] cx2b,.func (.func cx2c) #[] cx2d,.func (.func cx2e) #[] cx2f,.int .i64 0,.func cx3a #[] cx3b,.func (.func cx3c) #[] cx3d,.func (.func cx3e) #[] cx3f,.int .i64 0,.func cx4a #[] cx4b,.func (.func cx4c) #[] cx4d,.func (.func cx4e) #[] cx4f,.int .i64 8,.func cx5a #[] cx5b,.func (.func cx5c) #[] cx5d,.func (.func cx5e) #[] cx5f] 146)) (.slice (some ⟨g1,0,none⟩) 6 6) loadsP):=aHP2.out.mods ((((((((Mods.refl Nil' _).trans cm0).trans cm1).trans cm2).trans cm3).trans cm4).trans cm5).alloc _)
 have bHP2:Hid (PartsAt (cw5.alloc (.cells #[.int .i64 0,.func cx0a #[] cx0b,.func (.func cx0c) #[] cx0d,.func (.func cx0e) #[] cx0f,.int .i64 1,.func cx1a #[] cx1b,.func (.func cx1c) #[] cx1d,.func (.func cx1e) #[] cx1f,.int .i64 4,.func cx2a #[] cx2b,.func (.func cx2c) #[] cx2d,.func (.func cx2e) #[] cx2f,.int .i64 0,.func cx3a #[] cx3b,.func (.func cx3c) #[] cx3d,.func (.func cx3e) #[] cx3f,.int .i64 0,.func cx4a #[] cx4b,.func (.func cx4c) #[] cx4d,.func (.func cx4e) #[] cx4f,.int .i64 8,.func cx5a #[] cx5b,.func (.func cx5c) #[] cx5d,.func (.func cx5e) #[] cx5f] 146)) (.slice (some ⟨g2,0,none⟩) 6 6) storesP):=bHP.out.mods ((((((((Mods.refl Nil' _).trans cm0).trans cm1).trans cm2).trans cm3).trans cm4).trans cm5).alloc _)
 clear aHP2 bHP ck0 cm0 ck1 cm1 ck2 cm2 ck3 cm3 ck4 cm4 ck5 cm5
 simp only [PV.cells,PK.fills,Int.cast_ofNat_Int]
 clear bHM
 have cE:=HE.out.mods cHM.out
 have e0:=cE.c0
 have e1:=cE.c1
 have e2:=cE.c2
 have e3:=cE.c3
 clear cE;have HI:=hid sizeW_at;go_upto_block 0 with fail;generalize cw5.alloc (.cells #[.int .i64 0,.func cx0a #[] cx0b,.func (.func cx0c) #[] cx0d,.func (.func cx0e) #[] cx0f,.int .i64 1,.func cx1a #[] cx1b,.func (.func cx1c) #[] cx1d,.func (.func cx1e) #[] cx1f,.int .i64 4,.func cx2a #[] cx2b,.func (.func cx2c) #[] cx2d,.func (.func cx2e) #[] cx2f,.int .i64 0,.func cx3a #[] cx3b,.func (.func cx3c) #[] cx3d,.func (.func cx3e) #[] cx3f,.int .i64 0,.func cx4a #[] cx4b,.func (.func cx4c) #[] cx4d,.func (.func cx4e) #[] cx4f,.int .i64 8,.func cx5a #[] cx5b,.func (.func cx5c) #[] cx5d,.func (.func cx5e) #[] cx5f] 146)=W3 at *;generalize cw5.heap.size=g3 at *;clear e0 e1 e2 e3
 go_cut [4] (fun o wl=>∃ bs,OpsIn w.heap.size wl o bs (meS 4)/\Mods Nil' w wl)
 case first =>
  go_wp2_with fail
  go_loopw [4,31] (fun o i wl=>∃ (k:Nat) (bs:List Nat),k<=4/\i=.int .i64 k/\OpsIn w.heap.size wl o bs (meS k)/\PartsAt wl (.slice (some ⟨g1,0,none⟩) 6 6) loadsP/\PartsAt wl (.slice (some ⟨g2,0,none⟩) 6 6) storesP/\PartsAt wl (.slice (some ⟨g3,0,none⟩) 6 6) numbersP/\Mods Nil' w wl) (fun _ i _=>4 - (intOf i).toNat)
  case atStart=>exact ⟨0,[],by omega,rfl,OpsIn.nil _ _,aHP22.out,bHP2.out,cHP.out,cHM.out⟩
  case round =>
   obtain ⟨k,bs,hk,rfl,hO,hP1,hP2,hP3,hM⟩:=hrel;clear aHP22 bHP2 cHP cHM
   by_cases hlt:k<4
   ·have hidx:=HI.out k hlt
    have HST:Hid (meS (k+1)=meS k++[rowS (128+k) ([108,100]++sizeW[k]) loadsP,rowS (132+k) ([115,116]++sizeW[k]) storesP,rowS (136+k) ([115,116]++sizeW[k]) numbersP]):=meS_step k hlt
    have HW:Hid ((T (sizeW[k])).size<=90):=sizeW_size k hlt
    generalize sizeW[k]=wd at *
    have HO:Hid _:=hO
    have HP1:Hid _:=hP1
    have HP2:Hid _:=hP2
    have HP3:Hid _:=hP3
    have HM:Hid _:=hM
    clear hO hP1 hP2 hP3 hM
    have hwd:(T wd).size<=90:=HW.out
    have HL:Hid (bs.length<=100):=by
     have:=HO.out.len
     rw [meS_len k (by omega)] at this
     exact (by omega:bs.length<=100)
    go_wp2_with fail;go_quiet (fail);go_wp2_with fail
    have X0:Hid (Mods Nil' wr (wr.drewN nq)):=(Mods.refl _ _).drewN _
    refine (mload_any _ _).mono ?_
    rintro e v0 ⟨fb0,cb0,rfl,mb0⟩
    have X1:Hid (Mods Nil' wr v0):=X0.out.trans mb0
    have MB0:Hid _:=mb0
    clear mb0;go_wp2_with fail
    refine (row_go _ _ (128+k) (by omega) _ ([108,100]++wd) (T_app _ wd).symm _ loadsP _ _ (HP1.out.mods X1.out) (by have:=HW.out;rw [T_size] at this;simp;omega) (by decide)).mono ?_
    rintro e r0 ⟨b0,rfl,hr0,hb0,mr0⟩
    have X2:Hid (Mods Nil' wr r0):=X1.out.trans mr0
    have HR0:Hid _:=hr0
    have MR0:Hid _:=mr0
    have HB0:=hid hb0;clear hr0 hb0 mr0;go_wp2_with fail
    refine (mstore_any _ _ _ _).mono ?_
    rintro e v1 ⟨fb1,cb1,rfl,mb1⟩
    have X3:Hid (Mods Nil' wr v1):=X2.out.trans mb1
    have MB1:Hid _:=mb1
    clear mb1;go_wp2_with fail
    refine (row_go _ _ (132+k) (by omega) _ ([115,116]++wd) (T_app _ wd).symm _ storesP _ _ (HP2.out.mods X3.out) (by have:=HW.out;rw [T_size] at this;simp;omega) (by decide)).mono ?_
    rintro e r1 ⟨b1,rfl,hr1,hb1,mr1⟩
    have X4:Hid (Mods Nil' wr r1):=X3.out.trans mr1
    have HR1:Hid _:=hr1
    have MR1:Hid _:=mr1
    have HB1:=hid hb1;clear hr1 hb1 mr1;go_wp2_with fail
    refine (mstore_any _ _ _ _).mono ?_
    rintro e v2 ⟨fb2,cb2,rfl,mb2⟩
    have X5:Hid (Mods Nil' wr v2):=X4.out.trans mb2
    have MB2:Hid _:=mb2
    clear mb2;go_wp2_with fail
    refine (row_go _ _ (136+k) (by omega) _ ([115,116]++wd) (T_app _ wd).symm _ numbersP _ _ (HP3.out.mods X5.out) (by have:=HW.out;rw [T_size] at this;simp;omega) (by decide)).mono ?_
    rintro e r2 ⟨b2,rfl,hr2,hb2,mr2⟩
    have X6:Hid (Mods Nil' wr r2):=X5.out.trans mr2
    have HR2:Hid _:=hr2
    have MR2:Hid _:=mr2
    have HB2:=hid hb2;clear hr2 hb2 mr2
    go_wp2_with (at_builtin;refine wpList_append_sl _ rfl (.tmp 40) (.tmp 64) 82 rfl 96 iP (.pointer none) 1 8 Tryz.underlying82 hiP hzP hsP hbP rfl (by decide) u4 bs.length (bs.map ptrV) rfl (HO.out.mods (X6.out.alloc _)).sl ⟨r2.heap.size,0,none⟩ 3 3 [ptrV b0,ptrV b1,ptrV b2] rfl rfl (news_cells _ _ _ _ rfl) (ptrs_one [b0,b1,b2]) (by have:=HL.out;unfold maxLen;omega) (by have:=HL.out;omega) ?_;intro vA wA sA mA lA;obtain ⟨oA,cA,rfl,_⟩:=Sl.view sA)
    have H01:b0<b1:=by have:=HR0.out.lt;have:=MB1.out.size;have:=HB1.out;omega
    have H12:b1<b2:=by have:=HR1.out.lt;have:=MB2.out.size;have:=HB2.out;omega
    have H0:wr.heap.size<=b0:=by have:=HB0.out;have:=X1.out.size;omega
    have HG:Hid (OpsIn w.heap.size wA (.slice oA (bs.length+3) cA) (bs++[b0,b1,b2]) (meS k++[rowS (128+k) ([108,100]++wd) loadsP,rowS (132+k) ([115,116]++wd) storesP,rowS (136+k) ([115,116]++wd) numbersP])) :=
     OpsIn.grow [b0,b1,b2] _ HO.out (X6.out.alloc _) rfl (by simp;omega) (by simp;omega) (fun i h h'=>by
      have hi:i=0\/i=1\/i=2:=by simp at h;omega
      rcases hi with rfl | rfl | rfl
      ·exact ((((HR0.out.mods MB1.out).mods MR1.out).mods MB2.out).mods MR2.out).mods ((Mods.refl _ _).alloc _)
      ·exact ((HR1.out.mods MB2.out).mods MR2.out).mods ((Mods.refl _ _).alloc _)
      ·exact HR2.out.mods ((Mods.refl _ _).alloc _)) sA mA lA HM.out.size
    have HMA:Hid (Mods Nil' w wA):=(HM.out.trans (X6.out.alloc _)).step mA (fun i hi h=>by have:=HO.out.own i h;omega)
    have HK:Hid (Kp wr wA):=(X6.out.alloc _).kp.trans (Mods.kpSl (HO.out.mods (X6.out.alloc _)).sl mA)
    rw [<- HST.out] at HG;clear H01 H12 H0 hidx
    go_roundw
    case rel=>exact ⟨k+1,_,by omega,by go_num,HG.out,HP1.out.kp HK.out,HP2.out.kp HK.out,HP3.out.kp HK.out,HMA.out⟩
    case measure=>simp [intOf];omega
   ·obtain rfl:k=4:=by omega
    go_wp2_with fail;go_meet
    exact ⟨bs,hO,hM⟩
 case rest =>
 obtain ⟨bs,hO,hM⟩:=hcut;have HO:=hid hO;have HM:=hid hM;clear hO hM aHP22 bHP2 cHP cHM;go_wp2_with fail;go_ret
 exact ⟨_,_,rfl,HO.out,HM.out⟩
abbrev helpC:Array Value:=#[.string (T [103,101,116]),.func (.func 253) #[] #[],.string (T [112,117,116]),.func (.func 254) #[] #[],.string (T [100,101,108]),.func (.func 255) #[] #[],.string (T [108,111,103]),.func (.func 256) #[] #[]]
set_option maxRecDepth 100000 in
set_option maxHeartbeats 1000000 in
theorem phelpers_any (w:World):Calls Tryz.prog 200 #[] w fun e w'=>e=.returned (.agg helpC)/\Mods Nil' w w':=by
 go_enter Tryz.func200,Tryz.ntmps200
 go_wp2_with fail
 exact bodyPost_ret (results_cell_row Tryz.results200 _ _ w.heap.size 225 _ (0,0) _ rfl (Blk.new _ _ _) Tryz.underlying225 rfl (by kernel_rfl)) rfl ⟨rfl,(Mods.refl _ _).alloc _⟩
set_option maxRecDepth 100000 in
theorem help_at0 (W:World):(Instr.index 225 (.agg helpC) (.int .i32 0)).run Tryz.prog W=.ok (.agg #[.string (T [103,101,116]),.func (.func 253) #[] #[]]) W:=rfl
set_option maxRecDepth 100000 in
theorem help_at1 (W:World):(Instr.index 225 (.agg helpC) (.int .i32 1)).run Tryz.prog W=.ok (.agg #[.string (T [112,117,116]),.func (.func 254) #[] #[]]) W:=rfl
set_option maxRecDepth 100000 in
theorem help_at2 (W:World):(Instr.index 225 (.agg helpC) (.int .i32 2)).run Tryz.prog W=.ok (.agg #[.string (T [100,101,108]),.func (.func 255) #[] #[]]) W:=rfl
set_option maxRecDepth 100000 in
theorem help_at3 (W:World):(Instr.index 225 (.agg helpC) (.int .i32 3)).run Tryz.prog W=.ok (.agg #[.string (T [108,111,103]),.func (.func 256) #[] #[]]) W:=rfl
set_option maxRecDepth 100000 in
theorem help_fd0 (W:World):(Instr.field 224 (.agg #[.string (T [103,101,116]),.func (.func 253) #[] #[]]) 0).run Tryz.prog W=.ok (.string (T [103,101,116])) W:=rfl
set_option maxRecDepth 100000 in
theorem help_fd1 (W:World):(Instr.field 224 (.agg #[.string (T [112,117,116]),.func (.func 254) #[] #[]]) 0).run Tryz.prog W=.ok (.string (T [112,117,116])) W:=rfl
set_option maxRecDepth 100000 in
theorem help_fd2 (W:World):(Instr.field 224 (.agg #[.string (T [100,101,108]),.func (.func 255) #[] #[]]) 0).run Tryz.prog W=.ok (.string (T [100,101,108])) W:=rfl
set_option maxRecDepth 100000 in
theorem help_fd3 (W:World):(Instr.field 224 (.agg #[.string (T [108,111,103]),.func (.func 256) #[] #[]]) 0).run Tryz.prog W=.ok (.string (T [108,111,103])) W:=rfl
theorem help_sz:(T [103,101,116]).size=3/\(T [112,117,116]).size=3/\(T [100,101,108]).size=3/\(T [108,111,103]).size=3:=by decide
set_option maxRecDepth 100000 in
set_option maxHeartbeats 1000000 in
theorem writeCall_any (o:OpS) (ho:o.call=true) (x:PIns) (hx:x.Fit) (hn:o.needs x=true) (w:World) :
  Calls Tryz.prog 106 #[.agg x.cells] w fun e w'=>e=.returned (.string (T (o.write x)))/\Mods Nil' w w':=by
 have hw:o.write x=if x.s=1 then [99,97,108,108,32]++BL x.name else [104,101,108,112,32]++helpW[(x.num - 1).toNat]?.getD []:=by
  unfold OpS.write;rw [ho,if_pos rfl]
 have hnd:x.s=1\/(x.s=0/\1<=x.num/\x.num<5):=by
  unfold OpS.needs at hn;rw [ho,if_pos rfl] at hn
  simp at hn
  omega
 rw [hw];clear hw hn ho
 have hnm:=hx.m
 obtain ⟨op,d,s,jump,num,high,label,name⟩:=x;clear hx
 unfold PIns.cells at *
 simp only at *
 by_cases h1:s=1
 ·subst h1
  have HE:Hid (T ([99,97,108,108,32]++BL name)=T [99,97,108,108,32]++name):=by rw [Hid,<- T_app,T_BL]
  rw [if_pos rfl,HE.out];clear HE hnd
  go_enter Tryz.func106,Tryz.ntmps106
  go_wp2_with fail;go_ret
  exact ⟨rfl,(Mods.refl _ _).alloc _⟩
 ·have h2:s=0/\1<=num/\num<5:=by omega
  obtain ⟨rfl,hb⟩:=h2;rw [if_neg h1]
  have hnum:num=1\/num=2\/num=3\/num=4:=by omega
  have hq:=Blk.new w #[op,.int .u8 d,.int .u8 (0:Nat),.int .i16 jump,.int .i32 num,.int .i32 high,.string label,.string name] 99
  have q4:∀ g:Ext Nil' (w.alloc (.cells #[op,.int .u8 d,.int .u8 (0:Nat),.int .i16 jump,.int .i32 num,.int .i32 high,.string label,.string name] 99)),g.w.cell? ⟨w.heap.size,4,none⟩=some (.int .i32 num):=fun g=>g.cell hq id 4
  have ne1:=Ext.ne Nil' (w.alloc (.cells #[op,.int .u8 d,.int .u8 (0:Nat),.int .i16 jump,.int .i32 num,.int .i32 high,.string label,.string name] 99))
  clear hq
  have i0:=help_at0
  have i1:=help_at1
  have i2:=help_at2
  have i3:=help_at3
  have j0:=help_fd0
  have j1:=help_fd1
  have j2:=help_fd2
  have j3:=help_fd3
  obtain ⟨s0,s1,s2,s3⟩:=help_sz
  rcases hnum with rfl | rfl | rfl | rfl
  all_goals
   go_enter Tryz.func106,Tryz.ntmps106
   go_wp2_with fail
   refine wp_region_ext Nil' (by kernel_rfl) (by kernel_rfl) ?_
   repeat (go_big_quiet_step ((go_at_call 200;exact Calls.ext_of (phelpers_any _))))
   refine wpQuiet_nil ?_
   rintro w2 ⟨⟨wx,m2⟩,hwx⟩
   simp only at hwx
   subst hwx;go_wp2_with fail;go_ret
   exact ⟨rfl,((Mods.refl _ _).alloc _).trans m2⟩
set_option maxRecDepth 100000 in
set_option maxHeartbeats 1000000 in
theorem needCall_any (o:OpS) (ho:o.call=true) (x:PIns) (hx:x.Fit) (w:World) :
  Calls Tryz.prog 107 #[.agg x.cells] w fun e w'=>e=.returned (.bool (o.needs x))/\Mods Nil' w w':=by
 have hw:o.needs x=(othersB x 10&&(decide (x.s=1)||(decide (x.s=0)&&decide (1<=x.num)&&decide (x.num<5)))):=by
  unfold OpS.needs;rw [ho,if_pos rfl]
 rw [hw];clear hw ho
 have hO:=others_any x 10 (by decide)
 obtain ⟨op,d,s,jump,num,high,label,name⟩:=x
 generalize hob:othersB ⟨op,d,s,jump,num,high,label,name⟩ 10=ob at *
 clear hob
 have hs:=hx.s
 have n0:=hx.n0
 have n1:=hx.n1
 clear hx
 unfold PIns.cells at *
 simp only at *
 have HO:Hid _:=hO
 clear hO
 cases ob with
 | false =>
  go_enter Tryz.func107,Tryz.ntmps107
  go_wp2_with fail
  refine (HO.out _).mono ?_
  rintro e w1 ⟨rfl,m1⟩;go_wp2_with fail;go_ret
  exact ⟨by simp,((Mods.refl _ _).alloc _).trans m1⟩
 | true =>
  have hq:=Blk.new w #[op,.int .u8 d,.int .u8 s,.int .i16 jump,.int .i32 num,.int .i32 high,.string label,.string name] 99
  by_cases h1:s=1
  ·subst h1
   go_enter Tryz.func107,Tryz.ntmps107
   go_wp2_with fail
   refine (HO.out _).mono ?_
   rintro e w1 ⟨rfl,m1⟩
   have hq1:=hq.mods m1 id
   have z2:=hq1.cell 2
   simp at z2
   go_wp2_with fail;go_ret
   exact ⟨by simp,((Mods.refl _ _).alloc _).trans m1⟩
  ·have q1:decide ((s:Int)=1)=false:=by simp;omega
   go_enter Tryz.func107,Tryz.ntmps107
   go_wp2_with fail
   refine (HO.out _).mono ?_
   rintro e w1 ⟨rfl,m1⟩
   have hq1:=hq.mods m1 id
   have z2:=hq1.cell 2
   simp at z2
   have y2:∀ g:Ext Nil' w1,g.w.cell? ⟨w.heap.size,2,none⟩=some (.int .u8 s):=fun g=>g.cell hq1 id 2
   have y4:∀ g:Ext Nil' w1,g.w.cell? ⟨w.heap.size,4,none⟩=some (.int .i32 num):=fun g=>g.cell hq1 id 4
   have ne1:=Ext.ne Nil' w1
   clear hq hq1
   by_cases h0:s=0
   ·subst h0
    by_cases ha:1<=num
    ·by_cases hb:num<5
     ·go_wp2_with fail
      refine wp_region_ext Nil' (by kernel_rfl) (by kernel_rfl) ?_
      repeat (go_big_quiet_step ((go_at_call 200;exact Calls.ext_of (phelpers_any _))))
      refine wpQuiet_nil ?_
      rintro w2 ⟨⟨wx,m2⟩,hwx⟩
      simp only at hwx
      subst hwx;go_wp2_with fail;go_ret
      exact ⟨by simp,(((Mods.refl _ _).alloc _).trans m1).trans m2⟩
     ·have hb':decide (num<5)=false:=by simp;omega
      go_wp2_with fail
      refine wp_region_ext Nil' (by kernel_rfl) (by kernel_rfl) ?_
      repeat (go_big_quiet_step ((go_at_call 200;exact Calls.ext_of (phelpers_any _))))
      refine wpQuiet_nil ?_
      rintro w2 ⟨⟨wx,m2⟩,hwx⟩
      simp only at hwx
      subst hwx;go_wp2_with fail;go_ret
      exact ⟨by simp,(((Mods.refl _ _).alloc _).trans m1).trans m2⟩
    ·have ha':decide (1<=num)=false:=by simp;omega
     go_wp2_with fail
     refine wp_region_ext Nil' (by kernel_rfl) (by kernel_rfl) ?_
     repeat (go_big_quiet_step ((go_at_call 200;exact Calls.ext_of (phelpers_any _))))
     refine wpQuiet_nil ?_
     rintro w2 ⟨⟨wx,m2⟩,hwx⟩
     simp only at hwx
     subst hwx;go_wp2_with fail;go_ret
     exact ⟨by simp,(((Mods.refl _ _).alloc _).trans m1).trans m2⟩
   ·have h0':((s:Int)==0)=false:=by simp;omega
    go_wp2_with fail
    refine wp_region_ext Nil' (by kernel_rfl) (by kernel_rfl) ?_
    repeat (go_big_quiet_step ((go_at_call 200;exact Calls.ext_of (phelpers_any _))))
    refine wpQuiet_nil ?_
    rintro w2 ⟨⟨wx,m2⟩,hwx⟩
    simp only at hwx
    subst hwx;go_wp2_with fail;go_ret
    exact ⟨by simp [h0,h1],(((Mods.refl _ _).alloc _).trans m1).trans m2⟩
end Go.Proofs.YtoknbkfclhmapaaGreatDoor
