import Derived.Test.YtnhcaifopaeohaaGreatDoorM11
import Derived.Test.YtnhcaifopaeohaaGreatDoorM12
import Derived.Deep.CutBlock
import Derived.Deep.DeepCutAuto
import Derived.Deep.LoopGhost
namespace Go.Proofs.YtnhcaifopaeohaaGreatDoor
open Go.RowKit
set_option linter.all false
theorem PartsAt.new (w:World) (pv:List (PK × PV)) (h:∀ x∈pv,x.2.Ok w x.1) (cs:Array Value) (hc:cs.toList=pv.flatMap (fun x=>x.2.cells x.1.fills)) (n:Nat) (hn:pv.length=n) (hm:n<=100) :
  PartsAt (w.alloc (.cells cs 135)) (.slice (some ⟨w.heap.size,0,none⟩) n n) (pv.map (·.1)):=by
 subst hn
 have hl:=flat_len (fun x:PK × PV=>x.2.cells x.1.fills) 4 (fun _=>rfl) pv
 refine ⟨pv,rfl,fun x hx=>(h x hx).kp ((Mods.refl _ _).alloc _).kp,?_⟩
 refine SlB.sl ⟨Nat.le_refl _,by unfold maxLen;omega,?_,?_,hl⟩ (Blk.new w cs 135)
 ·rw [<- Array.length_toList,hc,hl]
 ·rw [hc,List.take_of_length_le (by rw [hl];exact Nat.le_refl _)]
theorem PV.Ok.mods {w w':World} {p:PK} {v:PV} (h:v.Ok w p) (m:Mods Nil' w w'):v.Ok w' p:=h.kp m.kp
theorem info_pop:(Tryz.prog.info? 79).map (fun i=>(i.zero,i.size,i.bytes))=some (some (.pointer none),1,8):=by kernel_rfl
theorem ptrs_one (bs:List Nat):∀ u∈bs.map ptrV,u.oneCell'=true:=by
 intro u hu;obtain ⟨b,_,rfl⟩:=List.mem_map.1 hu
 rfl
theorem arS_len (k:Nat) (h:k<=12):(arS k).length=4*k:=by
 have:∀ k:Fin 13,(arS k.1).length=4*k.1:=by decide +kernel
 exact this ⟨k,by omega⟩
theorem row_go (w:World) (c:Int) (code:Nat) (hc:c=code) (s:ByteArray) (word:List UInt8) (hs:s=T word) (v:Value) (ps:List PK) (f9:Fn) (c9:Array Value) (hP:PartsAt w v ps) (hwl:word.length<=100) (hpl:ps.length<=10) :
  Calls Tryz.prog 71 #[.int .u8 c,.string s,v,.func f9 #[] c9] w fun e w'=>∃ b,e=.returned (.pointer (some ⟨b,0,none⟩))/\OpAt w' b (rowS code word ps)/\w.heap.size<=b/\Mods Nil' w w':=by
 subst hc hs;exact row_any w code word v ps f9 c9 hP hwl hpl
theorem arithW_size (k:Nat) (h:k<12):(T (arithW[k]'h)).size<=90:=by
 have:∀ k:Fin 12,(T (arithW[k.1]'k.2)).size<=90:=by decide +kernel
 exact this ⟨k,h⟩
set_option maxRecDepth 100000 in
set_option maxHeartbeats 1000000 in
theorem arithOps_any (w:World):Calls Tryz.prog 33 #[] w fun e w'=>∃ v bs,e=.returned v/\OpsIn w.heap.size w' v bs arithS/\Mods Nil' w w':=by
 obtain ⟨iP,hiP,hzP,hsP,hbP⟩:=info_parts info_pop
 go_enter Tryz.func33,Tryz.ntmps33
 go_wp2_with fail
 refine (part_result _).mono ?_
 rintro e aw0 ⟨⟨ax0a,ax0b,ax0c,ax0d,ax0e,ax0f⟩,rfl,ak0,am0⟩
 go_wp2_with fail
 refine (part_comma _).mono ?_
 rintro e aw1 ⟨⟨ax1a,ax1b,ax1c,ax1d,ax1e,ax1f⟩,rfl,ak1,am1⟩
 go_wp2_with fail
 refine (part_source _).mono ?_
 rintro e aw2 ⟨⟨ax2a,ax2b,ax2c,ax2d,ax2e,ax2f⟩,rfl,ak2,am2⟩
 have aHP:Hid (PartsAt (aw2.alloc (.cells #[.int .i64 1,.func ax0a #[] ax0b,.func (.func ax0c) #[] ax0d,.func (.func ax0e) #[] ax0f,.int .i64 0,.func ax1a #[] ax1b,.func (.func ax1c) #[] ax1d,.func (.func ax1e) #[] ax1f,.int .i64 2,.func ax2a #[] ax2b,.func (.func ax2c) #[] ax2d,.func (.func ax2e) #[] ax2f] 135)) (.slice (some ⟨aw2.heap.size,0,none⟩) 3 3) regsA):=PartsAt.new aw2 [(.result,⟨ax0a,ax0b,ax0c,ax0d,ax0e,ax0f⟩),(.comma,⟨ax1a,ax1b,ax1c,ax1d,ax1e,ax1f⟩),(.source,⟨ax2a,ax2b,ax2c,ax2d,ax2e,ax2f⟩)] (by
  simp only [List.mem_cons,List.not_mem_nil,or_false]
  rintro x (rfl | rfl | rfl)
  ·exact ((ak0.mods am1).mods am2)
  ·exact (ak1.mods am2)
  ·exact ak2) _ rfl 3 rfl (by decide)
 have aHM:Hid (Mods Nil' w (aw2.alloc (.cells #[.int .i64 1,.func ax0a #[] ax0b,.func (.func ax0c) #[] ax0d,.func (.func ax0e) #[] ax0f,.int .i64 0,.func ax1a #[] ax1b,.func (.func ax1c) #[] ax1d,.func (.func ax1e) #[] ax1f,.int .i64 2,.func ax2a #[] ax2b,.func (.func ax2c) #[] ax2d,.func (.func ax2e) #[] ax2f] 135))):=((((Mods.refl Nil' w).trans am0).trans am1).trans am2).alloc _
 clear ak0 am0 ak1 am1 ak2 am2
 simp only [PV.cells,PK.fills]
 go_wp2_with fail;generalize aw2.alloc (.cells #[.int .i64 1,.func ax0a #[] ax0b,.func (.func ax0c) #[] ax0d,.func (.func ax0e) #[] ax0f,.int .i64 0,.func ax1a #[] ax1b,.func (.func ax1c) #[] ax1d,.func (.func ax1e) #[] ax1f,.int .i64 2,.func ax2a #[] ax2b,.func (.func ax2c) #[] ax2d,.func (.func ax2e) #[] ax2f] 135)=W1 at *;generalize aw2.heap.size=g1 at *
 refine (part_result _).mono ?_
 rintro e bw0 ⟨⟨bx0a,bx0b,bx0c,bx0d,bx0e,bx0f⟩,rfl,bk0,bm0⟩
 go_wp2_with fail
 refine (part_comma _).mono ?_
 rintro e bw1 ⟨⟨bx1a,bx1b,bx1c,bx1d,bx1e,bx1f⟩,rfl,bk1,bm1⟩
 go_wp2_with fail
 refine (part_number _).mono ?_
 rintro e bw2 ⟨⟨bx2a,bx2b,bx2c,bx2d,bx2e,bx2f⟩,rfl,bk2,bm2⟩
 have bHP:Hid (PartsAt (bw2.alloc (.cells #[.int .i64 1,.func bx0a #[] bx0b,.func (.func bx0c) #[] bx0d,.func (.func bx0e) #[] bx0f,.int .i64 0,.func bx1a #[] bx1b,.func (.func bx1c) #[] bx1d,.func (.func bx1e) #[] bx1f,.int .i64 8,.func bx2a #[] bx2b,.func (.func bx2c) #[] bx2d,.func (.func bx2e) #[] bx2f] 135)) (.slice (some ⟨bw2.heap.size,0,none⟩) 3 3) numsA):=PartsAt.new bw2 [(.result,⟨bx0a,bx0b,bx0c,bx0d,bx0e,bx0f⟩),(.comma,⟨bx1a,bx1b,bx1c,bx1d,bx1e,bx1f⟩),(.number,⟨bx2a,bx2b,bx2c,bx2d,bx2e,bx2f⟩)] (by
  simp only [List.mem_cons,List.not_mem_nil,or_false]
  rintro x (rfl | rfl | rfl)
  ·exact ((bk0.mods bm1).mods bm2)
  ·exact (bk1.mods bm2)
  ·exact bk2) _ rfl 3 rfl (by decide)
 have bHM:Hid (Mods Nil' w (bw2.alloc (.cells #[.int .i64 1,.func bx0a #[] bx0b,.func (.func bx0c) #[] bx0d,.func (.func bx0e) #[] bx0f,.int .i64 0,.func bx1a #[] bx1b,.func (.func bx1c) #[] bx1d,.func (.func bx1e) #[] bx1f,.int .i64 8,.func bx2a #[] bx2b,.func (.func bx2c) #[] bx2d,.func (.func bx2e) #[] bx2f] 135))):=(((aHM.out.trans bm0).trans bm1).trans bm2).alloc _
 have aHP2:Hid (PartsAt (bw2.alloc (.cells #[.int .i64 1,.func bx0a #[] bx0b,.func (.func bx0c) #[] bx0d,.func (.func bx0e) #[] bx0f,.int .i64 0,.func bx1a #[] bx1b,.func (.func bx1c) #[] bx1d,.func (.func bx1e) #[] bx1f,.int .i64 8,.func bx2a #[] bx2b,.func (.func bx2c) #[] bx2d,.func (.func bx2e) #[] bx2f] 135)) (.slice (some ⟨g1,0,none⟩) 3 3) regsA):=aHP.out.mods (((((Mods.refl Nil' _).trans bm0).trans bm1).trans bm2).alloc _)
 clear aHP bk0 bm0 bk1 bm1 bk2 bm2
 simp only [PV.cells,PK.fills]
 clear aHM;go_wp2_with fail;generalize bw2.alloc (.cells #[.int .i64 1,.func bx0a #[] bx0b,.func (.func bx0c) #[] bx0d,.func (.func bx0e) #[] bx0f,.int .i64 0,.func bx1a #[] bx1b,.func (.func bx1c) #[] bx1d,.func (.func bx1e) #[] bx1f,.int .i64 8,.func bx2a #[] bx2b,.func (.func bx2c) #[] bx2d,.func (.func bx2e) #[] bx2f] 135)=W2 at *;generalize bw2.heap.size=g2 at *
 refine (ariths_any _).mono ?_
 rintro e w7 ⟨avs,hlen,rfl,m7⟩
 have HI:Hid (∀ (k:Nat) (hk:k<12) (W:World),(Instr.index 141 (.agg (arC avs).toArray) (.int .i64 k)).run Tryz.prog W=.ok (.agg (AV.cells (arithW[k]'hk) (avs[k]'(by omega))).toArray) W):=fun k hk W=>arC_at avs hlen k hk W
 have HP1:Hid (PartsAt w7 (.slice (some ⟨g1,0,none⟩) 3 3) regsA):=aHP2.out.mods m7
 have HP2:Hid (PartsAt w7 (.slice (some ⟨g2,0,none⟩) 3 3) numsA):=bHP.out.mods m7
 have HM:Hid (Mods Nil' w w7):=bHM.out.trans m7
 clear aHP2 bHP bHM m7;generalize (arC avs).toArray=AC at *;go_wp2_with fail
 go_loopw [3,17] (fun o i wl=>∃ (k:Nat) (bs:List Nat),k<=12/\i=.int .i64 k/\OpsIn w.heap.size wl o bs (arS k)/\PartsAt wl (.slice (some ⟨g1,0,none⟩) 3 3) regsA/\PartsAt wl (.slice (some ⟨g2,0,none⟩) 3 3) numsA/\Mods Nil' w wl) (fun _ i _=>12 - (intOf i).toNat)
 case atStart=>exact ⟨0,[],by omega,rfl,OpsIn.nil _ _,HP1.out,HP2.out,HM.out⟩
 case round =>
  obtain ⟨k,bs,hk,rfl,hO,hP1,hP2,hM⟩:=hrel;clear HP1 HP2 HM
  by_cases hlt:k<12
  ·have hidx:=HI.out k hlt
   have HST:Hid (arS (k+1)=arS k++[rowS (1+k) (arithW[k]) regsA,rowS (17+k) (w32 (arithW[k])) regsA,rowS (33+k) (arithW[k]) numsA,rowS (49+k) (w32 (arithW[k])) numsA]):=arS_step k hlt
   have HW:Hid ((T (arithW[k])).size<=90):=arithW_size k hlt
   generalize arithW[k]=wd at *;generalize avs[k]=av at *;obtain ⟨f1,c1,f2,c2⟩:=av
   simp only [AV.cells] at hidx
   have HO:Hid _:=hO
   have HP1:Hid _:=hP1
   have HP2:Hid _:=hP2
   have HM:Hid _:=hM
   clear hO hP1 hP2 hM
   have hwd:(T wd).size<=90:=HW.out
   have HL:Hid (bs.length<=100):=by
    have:=HO.out.len
    rw [arS_len k (by omega)] at this
    exact (by omega:bs.length<=100)
   go_upto_region 8 with fail
   have hA:=Blk.new wr #[.string (T wd),.func f1 #[] c1,.func f2 #[] c2] 140
   have HNo:Hid (u3.ownBlock≠some wr.heap.size):=fun e=>by have:=HO.out.sl.lt _ e;simp at this
   have q0:∀ g:Ext (fun k=>u3.ownBlock=some k) (wr.alloc (.cells #[.string (T wd),.func f1 #[] c1,.func f2 #[] c2] 140)),g.w.cell? ⟨wr.heap.size,0,none⟩=some (.string (T wd)):=fun g=>g.cell hA HNo.out 0
   have q1:∀ g:Ext (fun k=>u3.ownBlock=some k) (wr.alloc (.cells #[.string (T wd),.func f1 #[] c1,.func f2 #[] c2] 140)),g.w.cell? ⟨wr.heap.size,1,none⟩=some (.func f1 #[] c1):=fun g=>g.cell hA HNo.out 1
   have q2:∀ g:Ext (fun k=>u3.ownBlock=some k) (wr.alloc (.cells #[.string (T wd),.func f1 #[] c1,.func f2 #[] c2] 140)),g.w.cell? ⟨wr.heap.size,2,none⟩=some (.func f2 #[] c2):=fun g=>g.cell hA HNo.out 2
   have ne1:=Ext.ne (fun k=>u3.ownBlock=some k) (wr.alloc (.cells #[.string (T wd),.func f1 #[] c1,.func f2 #[] c2] 140))
   refine wp_region_mix [7,8,17,18,26,27,37,38,39,40] (fun w'=>∃ g:Ext (fun k=>u3.ownBlock=some k) (wr.alloc (.cells #[.string (T wd),.func f1 #[] c1,.func f2 #[] c2] 140)),w'=g.w) (by kernel_rfl) (by kernel_rfl) (by kernel_rfl) ⟨⟨_,(Mods.refl _ _).drew⟩,rfl⟩ ?_
   have X0:Hid (Mods Nil' wr (wr.alloc (.cells #[.string (T wd),.func f1 #[] c1,.func f2 #[] c2] 140)).drew):=((Mods.refl _ _).alloc _).drew
   have Y0:Hid (Mods Nil' (wr.alloc (.cells #[.string (T wd),.func f1 #[] c1,.func f2 #[] c2] 140)) (wr.alloc (.cells #[.string (T wd),.func f1 #[] c1,.func f2 #[] c2] 140)).drew):=(Mods.refl _ _).drew
   iterate 7 (refine mix_pure rfl rfl rfl ?_;intro K hK;go_big_quiet_op;go_big_quiet_on)
   refine mix_act rfl rfl ?_
   intro K hK
   go_big_op
   refine (become_any _ _ _ _ _).mono ?_
   rintro e v0 ⟨fb0,cb0,rfl,mb0⟩
   have X1:Hid (Mods Nil' wr v0):=X0.out.trans mb0
   have Y1:Hid (Mods Nil' (wr.alloc _) v0):=Y0.out.trans mb0
   have HV0:=hid X1.out
   refine hK _ _ rfl ⟨⟨_,Y1.out.mono (fun _ _ h=>h.elim)⟩,rfl⟩ ?_
   have MB0:Hid _:=mb0
   clear hK K mb0 X0 Y0
   refine mix_act rfl rfl ?_
   intro K hK
   go_big_op
   refine (row_go _ _ (1+k) (by omega) _ wd (rfl) _ regsA _ _ (HP1.out.mods X1.out) (by have:=HW.out;rw [T_size] at this;omega) (by decide)).mono ?_
   rintro e r0 ⟨b0,rfl,hr0,hb0,mr0⟩
   have X2:Hid (Mods Nil' wr r0):=X1.out.trans mr0
   have Y2:Hid (Mods Nil' (wr.alloc _) r0):=Y1.out.trans mr0
   have HR0:Hid _:=hr0
   have MR0:Hid _:=mr0
   have HB0:=hid hb0
   refine hK _ _ rfl ⟨⟨_,Y2.out.mono (fun _ _ h=>h.elim)⟩,rfl⟩ ?_
   clear hK K X1 Y1 hr0 hb0 mr0
   iterate 8 (refine mix_pure rfl rfl rfl ?_;intro K hK;go_big_quiet_op;go_big_quiet_on)
   refine mix_act rfl rfl ?_
   intro K hK
   go_big_op
   refine (become_any _ _ _ _ _).mono ?_
   rintro e v1 ⟨fb1,cb1,rfl,mb1⟩
   have X3:Hid (Mods Nil' wr v1):=X2.out.trans mb1
   have Y3:Hid (Mods Nil' (wr.alloc _) v1):=Y2.out.trans mb1
   refine hK _ _ rfl ⟨⟨_,Y3.out.mono (fun _ _ h=>h.elim)⟩,rfl⟩ ?_
   have MB1:Hid _:=mb1
   clear hK K mb1 X2 Y2
   refine mix_act rfl rfl ?_
   intro K hK
   go_big_op
   refine (row_go _ _ (17+k) (by omega) _ (w32 wd) ((T_app wd [51,50]).symm) _ regsA _ _ (HP1.out.mods X3.out) (by have:=HW.out;rw [T_size] at this;simp [w32];omega) (by decide)).mono ?_
   rintro e r1 ⟨b1,rfl,hr1,hb1,mr1⟩
   have X4:Hid (Mods Nil' wr r1):=X3.out.trans mr1
   have Y4:Hid (Mods Nil' (wr.alloc _) r1):=Y3.out.trans mr1
   have HR1:Hid _:=hr1
   have MR1:Hid _:=mr1
   have HB1:=hid hb1
   refine hK _ _ rfl ⟨⟨_,Y4.out.mono (fun _ _ h=>h.elim)⟩,rfl⟩ ?_
   clear hK K X3 Y3 hr1 hb1 mr1
   iterate 7 (refine mix_pure rfl rfl rfl ?_;intro K hK;go_big_quiet_op;go_big_quiet_on)
   refine mix_act rfl rfl ?_
   intro K hK
   go_big_op
   refine (become_any _ _ _ _ _).mono ?_
   rintro e v2 ⟨fb2,cb2,rfl,mb2⟩
   have X5:Hid (Mods Nil' wr v2):=X4.out.trans mb2
   have Y5:Hid (Mods Nil' (wr.alloc _) v2):=Y4.out.trans mb2
   refine hK _ _ rfl ⟨⟨_,Y5.out.mono (fun _ _ h=>h.elim)⟩,rfl⟩ ?_
   have MB2:Hid _:=mb2
   clear hK K mb2 X4 Y4
   refine mix_act rfl rfl ?_
   intro K hK
   go_big_op
   refine (row_go _ _ (33+k) (by omega) _ wd (rfl) _ numsA _ _ (HP2.out.mods X5.out) (by have:=HW.out;rw [T_size] at this;omega) (by decide)).mono ?_
   rintro e r2 ⟨b2,rfl,hr2,hb2,mr2⟩
   have X6:Hid (Mods Nil' wr r2):=X5.out.trans mr2
   have Y6:Hid (Mods Nil' (wr.alloc _) r2):=Y5.out.trans mr2
   have HR2:Hid _:=hr2
   have MR2:Hid _:=mr2
   have HB2:=hid hb2
   refine hK _ _ rfl ⟨⟨_,Y6.out.mono (fun _ _ h=>h.elim)⟩,rfl⟩ ?_
   clear hK K X5 Y5 hr2 hb2 mr2
   iterate 9 (refine mix_pure rfl rfl rfl ?_;intro K hK;go_big_quiet_op;go_big_quiet_on)
   refine mix_act rfl rfl ?_
   intro K hK
   go_big_op
   refine (become_any _ _ _ _ _).mono ?_
   rintro e v3 ⟨fb3,cb3,rfl,mb3⟩
   have X7:Hid (Mods Nil' wr v3):=X6.out.trans mb3
   have Y7:Hid (Mods Nil' (wr.alloc _) v3):=Y6.out.trans mb3
   refine hK _ _ rfl ⟨⟨_,Y7.out.mono (fun _ _ h=>h.elim)⟩,rfl⟩ ?_
   have MB3:Hid _:=mb3
   clear hK K mb3 X6 Y6
   refine mix_act rfl rfl ?_
   intro K hK
   go_big_op
   refine (row_go _ _ (49+k) (by omega) _ (w32 wd) ((T_app wd [51,50]).symm) _ numsA _ _ (HP2.out.mods X7.out) (by have:=HW.out;rw [T_size] at this;simp [w32];omega) (by decide)).mono ?_
   rintro e r3 ⟨b3,rfl,hr3,hb3,mr3⟩
   have X8:Hid (Mods Nil' wr r3):=X7.out.trans mr3
   have Y8:Hid (Mods Nil' (wr.alloc _) r3):=Y7.out.trans mr3
   have HR3:Hid _:=hr3
   have MR3:Hid _:=mr3
   have HB3:=hid hb3
   refine hK _ _ rfl ⟨⟨_,Y8.out.mono (fun _ _ h=>h.elim)⟩,rfl⟩ ?_
   clear hK K X7 Y7 hr3 hb3 mr3
   refine mix_act rfl rfl ?_
   intro K hK
   go_big_op
   refine hK _ _ rfl ⟨⟨_,(Y8.out.alloc _).mono (fun _ _ h=>h.elim)⟩,rfl⟩ ?_
   clear hK K
   refine mix_act rfl rfl ?_
   intro K hK
   refine wp_append_sl _ (.tmp 24) (.tmp 63) 40 rfl 79 iP (.pointer none) 1 8 Tryz.underlying40 hiP hzP hsP hbP rfl (by decide) u3 bs.length (bs.map ptrV) rfl (HO.out.mods (X8.out.alloc _)).sl ⟨r3.heap.size,0,none⟩ 4 4 [ptrV b0,ptrV b1,ptrV b2,ptrV b3] rfl rfl (news_cells _ _ _ _ rfl) (ptrs_one [b0,b1,b2,b3]) (by have:=HL.out;unfold maxLen;omega) (by have:=HL.out;omega) ?_
   intro vA wA sA mA lA;obtain ⟨oA,cA,rfl,_⟩:=Sl.view sA
   refine hK _ _ rfl ⟨⟨_,((Y8.out.alloc _).mono (fun _ _ h=>h.elim)).step mA (fun _ _ h=>h)⟩,rfl⟩ ?_
   clear hK K
   simp only [Act.put,List.setIfInBounds_toArray,List.set_cons_succ,List.set_cons_zero]
   iterate 1 (refine mix_pure rfl rfl rfl ?_;intro K hK;go_big_quiet_op;go_big_quiet_on)
   refine mix_nil ?_
   have H01:b0<b1:=by have:=HR0.out.lt;have:=MB1.out.size;have:=HB1.out;omega
   have H12:b1<b2:=by have:=HR1.out.lt;have:=MB2.out.size;have:=HB2.out;omega
   have H23:b2<b3:=by have:=HR2.out.lt;have:=MB3.out.size;have:=HB3.out;omega
   have H0:wr.heap.size<=b0:=by have:=HB0.out;have:=HV0.out.size;omega
   have HG:Hid (OpsIn w.heap.size wA (.slice oA (bs.length+4) cA) (bs++[b0,b1,b2,b3]) (arS k++[rowS (1+k) wd regsA,rowS (17+k) (w32 wd) regsA,rowS (33+k) wd numsA,rowS (49+k) (w32 wd) numsA])) :=
    OpsIn.grow [b0,b1,b2,b3] _ HO.out (X8.out.alloc _) rfl (by simp;omega) (by simp;omega) (fun i h h'=>by
     have hi:i=0\/i=1\/i=2\/i=3:=by simp at h;omega
     rcases hi with rfl | rfl | rfl | rfl
     ·exact ((((((HR0.out.mods MB1.out).mods MR1.out).mods MB2.out).mods MR2.out).mods MB3.out).mods MR3.out).mods ((Mods.refl _ _).alloc _)
     ·exact ((((HR1.out.mods MB2.out).mods MR2.out).mods MB3.out).mods MR3.out).mods ((Mods.refl _ _).alloc _)
     ·exact ((HR2.out.mods MB3.out).mods MR3.out).mods ((Mods.refl _ _).alloc _)
     ·exact HR3.out.mods ((Mods.refl _ _).alloc _)) sA mA lA HM.out.size
   simp only [Exit.inBlock,Exit.then]
   have HMA:Hid (Mods Nil' w wA):=(HM.out.trans (X8.out.alloc _)).step mA (fun i hi h=>by have:=HO.out.own i h;omega)
   have HQ1:Hid (PartsAt wA (.slice (some ⟨g1,0,none⟩) 3 3) regsA):=(HP1.out.mods (X8.out.alloc _)).kp (Mods.kpSl (HO.out.mods (X8.out.alloc _)).sl mA)
   have HQ2:Hid (PartsAt wA (.slice (some ⟨g2,0,none⟩) 3 3) numsA):=(HP2.out.mods (X8.out.alloc _)).kp (Mods.kpSl (HO.out.mods (X8.out.alloc _)).sl mA)
   rw [<- HST.out] at HG;clear q0 q1 q2 ne1 hA hidx H01 H12 H23 H0;go_wp2_with fail
   go_roundw
   case rel=>exact ⟨k+1,_,by omega,by go_num,HG.out,HQ1.out,HQ2.out,HMA.out⟩
   case measure=>simp [intOf];omega
  ·obtain rfl:k=12:=by omega
   have HO:=hid hO
   have HM:Hid _:=hM
   clear hO hM hP1 hP2;go_wp2_with fail
   refine (part_result _).mono ?_
   rintro e w8 ⟨⟨ya,yb,yc,yd,ye,yf⟩,rfl,ok8,m8⟩
   have HP8:Hid (PartsAt (w8.alloc (.cells #[.int .i64 1,.func ya #[] yb,.func (.func yc) #[] yd,.func (.func ye) #[] yf] 135)) (.slice (some ⟨w8.heap.size,0,none⟩) 1 1) [.result]):=PartsAt.new w8 [(.result,⟨ya,yb,yc,yd,ye,yf⟩)] (by
    simp only [List.mem_cons,List.not_mem_nil,or_false]
    rintro x rfl
    exact ok8) _ rfl 1 rfl (by decide)
   have HM8:Hid (Mods Nil' w (w8.alloc (.cells #[.int .i64 1,.func ya #[] yb,.func (.func yc) #[] yd,.func (.func ye) #[] yf] 135))):=(HM.out.trans m8).alloc _
   have HO8:Hid (OpsIn w.heap.size (w8.alloc (.cells #[.int .i64 1,.func ya #[] yb,.func (.func yc) #[] yd,.func (.func ye) #[] yf] 135)) u3 bs (arS 12)):=HO.out.mods (m8.alloc _)
   clear ok8 m8 HO HM
   simp only [PV.cells,PK.fills]
   go_wp2_with fail;generalize w8.alloc (.cells #[.int .i64 1,.func ya #[] yb,.func (.func yc) #[] yd,.func (.func ye) #[] yf] 135)=W8 at *;generalize w8.heap.size=g8 at *
   have HL:Hid (bs.length<=100):=by
    have:=HO8.out.len
    rw [arS_len 12 (by omega)] at this
    exact (by omega:bs.length<=100)
   have X0:Hid (Mods Nil' W8 W8):=Mods.refl _ _
   refine (in64_any _ _ _).mono ?_
   rintro e p0 ⟨fp0,cp0,rfl,mp0⟩
   have X1:Hid (Mods Nil' W8 p0):=X0.out.trans mp0
   have MP0:Hid _:=mp0
   clear mp0;go_wp2_with fail
   refine (become_any _ _ _ _ _).mono ?_
   rintro e v0 ⟨fb0,cb0,rfl,mb0⟩
   have X2:Hid (Mods Nil' W8 v0):=X1.out.trans mb0
   have MB0:Hid _:=mb0
   clear mb0;go_wp2_with fail
   refine (row_go _ _ 13 rfl _ [110,101,103] rfl _ [.result] _ _ (HP8.out.mods X2.out) (by decide) (by decide)).mono ?_
   rintro e r0 ⟨b0,rfl,hr0,hb0,mr0⟩
   have X3:Hid (Mods Nil' W8 r0):=X2.out.trans mr0
   have HR0:Hid _:=hr0
   have MR0:Hid _:=mr0
   have HB0:=hid hb0;clear hr0 hb0 mr0;go_wp2_with fail
   refine (in32_any _ _ _).mono ?_
   rintro e p1 ⟨fp1,cp1,rfl,mp1⟩
   have X4:Hid (Mods Nil' W8 p1):=X3.out.trans mp1
   have MP1:Hid _:=mp1
   clear mp1;go_wp2_with fail
   refine (become_any _ _ _ _ _).mono ?_
   rintro e v1 ⟨fb1,cb1,rfl,mb1⟩
   have X5:Hid (Mods Nil' W8 v1):=X4.out.trans mb1
   have MB1:Hid _:=mb1
   clear mb1;go_wp2_with fail
   refine (row_go _ _ 29 rfl _ [110,101,103,51,50] rfl _ [.result] _ _ (HP8.out.mods X5.out) (by decide) (by decide)).mono ?_
   rintro e r1 ⟨b1,rfl,hr1,hb1,mr1⟩
   have X6:Hid (Mods Nil' W8 r1):=X5.out.trans mr1
   have HR1:Hid _:=hr1
   have MR1:Hid _:=mr1
   have HB1:=hid hb1;clear hr1 hb1 mr1
   go_wp2_with (at_builtin;refine wpList_append_sl _ rfl (.tmp 68) (.tmp 77) 40 rfl 79 iP (.pointer none) 1 8 Tryz.underlying40 hiP hzP hsP hbP rfl (by decide) u3 bs.length (bs.map ptrV) rfl (HO8.out.mods (X6.out.alloc _)).sl ⟨r1.heap.size,0,none⟩ 2 2 [ptrV b0,ptrV b1] rfl rfl (news_cells _ _ _ _ rfl) (ptrs_one [b0,b1]) (by have:=HL.out;unfold maxLen;omega) (by have:=HL.out;omega) ?_;intro vA wA sA mA lA;obtain ⟨oA,cA,rfl,_⟩:=Sl.view sA)
   have H01:b0<b1:=by have:=HR0.out.lt;have:=MP1.out.size;have:=MB1.out.size;have:=HB1.out;omega
   have H0:W8.heap.size<=b0:=by have:=HB0.out;have:=X2.out.size;omega
   have HG:Hid (OpsIn w.heap.size wA (.slice oA (bs.length+2) cA) (bs++[b0,b1]) (arS 12++[rowS 13 [110,101,103] [.result],rowS 29 [110,101,103,51,50] [.result]])) :=
    OpsIn.grow [b0,b1] _ HO8.out (X6.out.alloc _) rfl (by simp;omega) (by simp;omega) (fun i h h'=>by
     have hi:i=0\/i=1:=by simp at h;omega
     rcases hi with rfl | rfl
     ·exact (((HR0.out.mods MP1.out).mods MB1.out).mods MR1.out).mods ((Mods.refl _ _).alloc _)
     ·exact HR1.out.mods ((Mods.refl _ _).alloc _)) sA mA lA HM8.out.size
   have HMA:Hid (Mods Nil' w wA):=(HM8.out.trans (X6.out.alloc _)).step mA (fun i hi h=>by have:=HO8.out.own i h;omega)
   clear H01 H0;go_ret
   exact ⟨_,_,rfl,HG.out,HMA.out⟩
def juS (k:Nat):List OpS:={ rowS 64 [106,97] [.label] with ends:=true }::(jumpW.zipIdx.take k).flatMap fun x=>jumpAt x.2 x.1
theorem juS_step (k:Nat) (h:k<11):juS (k+1)=juS k++jumpAt k (jumpW[k]'h):=by
 have:∀ k:Fin 11,juS (k.1+1)=juS k.1++jumpAt k.1 (jumpW[k.1]'k.2):=by
  intro k;unfold juS
  rw [List.take_succ_eq_append_getElem (by simp;exact k.2),List.flatMap_append]
  simp
  rfl
 exact this ⟨k,h⟩
theorem juS_len (k:Nat) (h:k<=11):(juS k).length=2*k+1:=by
 have:∀ k:Fin 12,(juS k.1).length=2*k.1+1:=by decide +kernel
 exact this ⟨k,by omega⟩
set_option maxRecDepth 100000 in
theorem juC_at (jvs:List JV) (hl:jvs.length=11) (k:Nat) (hk:k<11) (w:World) :
  (Instr.index 151 (.agg (juC jvs).toArray) (.int .i64 k)).run Tryz.prog w=.ok (.agg (JV.cells (jumpW[k]'hk) (jvs[k]'(by omega))).toArray) w:=by
 match jvs,hl with
 | [a0,a1,a2,a3,a4,a5,a6,a7,a8,a9,a10],_ =>
  have:k=0\/k=1\/k=2\/k=3\/k=4\/k=5\/k=6\/k=7\/k=8\/k=9\/k=10:=by omega
  rcases this with rfl | rfl | rfl | rfl | rfl | rfl | rfl | rfl | rfl | rfl | rfl<;>rfl
theorem jumpW_size (k:Nat) (h:k<11):(T (jumpW[k]'h)).size<=90:=by
 have:∀ k:Fin 11,(T (jumpW[k.1]'k.2)).size<=90:=by decide +kernel
 exact this ⟨k,h⟩
theorem OpsIn.fresh {base:Nat} {w:World} (cs:List Nat) (os:List OpS) (hlen:cs.length=os.length) (hc:cs.Pairwise (·<·)) (hlo:∀ c∈cs,base<=c) (hat:∀ i (h:i<cs.length) (h':i<os.length),OpAt w cs[i] os[i]) (arr:Array Value) (ha:arr.toList=cs.map ptrV)
  (n:Nat) (hn:cs.length=n) (h100:n<=100) (hb:base<=w.heap.size):OpsIn base (w.alloc (.cells arr 79)) (.slice (some ⟨w.heap.size,0,none⟩) n n) cs os:=by
 subst hn
 refine ⟨hlen,hc.imp (fun h=>Nat.ne_of_lt h),?_,fun i h h'=>(hat i h h').mods ((Mods.refl _ _).alloc _),hlo,fun k hk=>?_⟩
 ·refine SlB.sl ⟨Nat.le_refl _,by unfold maxLen;omega,?_,?_,by simp⟩ (Blk.new w arr 79)
  ·rw [<- Array.length_toList,ha];simp
  ·rw [ha,List.take_of_length_le (by simp)]
 ·cases hk;exact hb
def OpS.asJ (o:OpS):OpS:={ o with jumps:=true }
def markJ (os:List OpS) (k:Nat):List OpS:=(os.take k).map OpS.asJ++os.drop k
theorem markJ_zero (os:List OpS):markJ os 0=os:=by simp [markJ]
theorem markJ_all (os:List OpS):markJ os os.length=os.map OpS.asJ:=by simp [markJ]
theorem markJ_len (os:List OpS) (k:Nat):(markJ os k).length=os.length:=by simp [markJ];omega
theorem markJ_step (os:List OpS) (k:Nat) (h:k<os.length):markJ os (k+1)=(markJ os k).set k os[k].asJ:=by
 unfold markJ;rw [List.take_succ_eq_append_getElem h,List.drop_eq_getElem_cons h,List.map_append]
 have hl:((os.take k).map OpS.asJ).length=k:=by simp;omega
 rw [List.set_append,if_neg (by omega),hl,Nat.sub_self,List.append_assoc]
 rfl
theorem markJ_at (os:List OpS) (k:Nat) (h:k<os.length):(markJ os k)[k]'(by rw [markJ_len];exact h)=os[k]:=by
 have hl:((os.take k).map OpS.asJ).length=k:=by simp;omega
 have:(markJ os k)[k]?=some os[k]:=by
  unfold markJ
  rw [List.getElem?_append_right (by omega),hl,Nat.sub_self,List.getElem?_drop]
  simp [h]
 rw [List.getElem?_eq_getElem (by rw [markJ_len];exact h)] at this
 exact Option.some.inj this
theorem OpsIn.setJ {base:Nat} {w:World} {v:Value} {bs:List Nat} {os:List OpS} (h:OpsIn base w v bs os) (k:Nat) (hk:k<bs.length) (hk':k<os.length):OpsIn base (w.setCell ⟨bs[k],3,none⟩ (.bool true)) v bs (os.set k os[k].asJ):=by
 have hO:=h.at' k hk hk'
 have hsl:Sl (w.setCell ⟨bs[k],3,none⟩ (.bool true)) 79 1 v bs.length (bs.map ptrV):=by
  refine h.sl.mods ((Mods.refl (Only bs[k]) w).setb 3 _) (fun j hj e=>?_)
  rw [show j=bs[k] from e] at hj
  exact hO.notOwn h.sl hj
 refine ⟨by simp [h.len],h.nd,hsl,fun i h1 h2=>?_,h.lo,h.own⟩
 by_cases e:i=k
 ·subst e;rw [List.getElem_set_self];exact hO.jumps
 ·rw [List.getElem_set_ne (Ne.symm e)]
  exact (h.at' i h1 (by simpa using h2)).other hO.opblk (fun e2=>e (((List.getElem_inj h.nd).1 e2).symm)) 3 _
set_option maxRecDepth 100000 in
set_option maxHeartbeats 1000000 in
theorem jumpOps_any (w:World):Calls Tryz.prog 34 #[] w fun e w'=>∃ v bs,e=.returned v/\OpsIn w.heap.size w' v bs jumpS/\Mods Nil' w w':=by
 obtain ⟨iP,hiP,hzP,hsP,hbP⟩:=info_parts info_pop
 go_enter Tryz.func34,Tryz.ntmps34
 go_wp2_with fail
 refine (part_operand _).mono ?_
 rintro e aw0 ⟨⟨ax0a,ax0b,ax0c,ax0d,ax0e,ax0f⟩,rfl,ak0,am0⟩
 go_wp2_with fail
 refine (part_comma _).mono ?_
 rintro e aw1 ⟨⟨ax1a,ax1b,ax1c,ax1d,ax1e,ax1f⟩,rfl,ak1,am1⟩
 go_wp2_with fail
 refine (part_source _).mono ?_
 rintro e aw2 ⟨⟨ax2a,ax2b,ax2c,ax2d,ax2e,ax2f⟩,rfl,ak2,am2⟩
 go_wp2_with fail
 refine (part_comma _).mono ?_
 rintro e aw3 ⟨⟨ax3a,ax3b,ax3c,ax3d,ax3e,ax3f⟩,rfl,ak3,am3⟩
 go_wp2_with fail
 refine (part_label _).mono ?_
 rintro e aw4 ⟨⟨ax4a,ax4b,ax4c,ax4d,ax4e,ax4f⟩,rfl,ak4,am4⟩
 have aHP:Hid (PartsAt (aw4.alloc (.cells #[.int .i64 1,.func ax0a #[] ax0b,.func (.func ax0c) #[] ax0d,.func (.func ax0e) #[] ax0f,.int .i64 0,.func ax1a #[] ax1b,.func (.func ax1c) #[] ax1d,.func (.func ax1e) #[] ax1f,.int .i64 2,.func ax2a #[] ax2b,.func (.func ax2c) #[] ax2d,.func (.func ax2e) #[] ax2f,.int .i64 0,.func ax3a #[] ax3b,.func (.func ax3c) #[] ax3d,.func (.func ax3e) #[] ax3f,.int .i64 4,.func ax4a #[] ax4b,.func (.func ax4c) #[] ax4d,.func (.func ax4e) #[] ax4f] 135)) (.slice (some ⟨aw4.heap.size,0,none⟩) 5 5) regsJ):=PartsAt.new aw4 [(.operand,⟨ax0a,ax0b,ax0c,ax0d,ax0e,ax0f⟩),(.comma,⟨ax1a,ax1b,ax1c,ax1d,ax1e,ax1f⟩),(.source,⟨ax2a,ax2b,ax2c,ax2d,ax2e,ax2f⟩),(.comma,⟨ax3a,ax3b,ax3c,ax3d,ax3e,ax3f⟩),(.label,⟨ax4a,ax4b,ax4c,ax4d,ax4e,ax4f⟩)] (by
  simp only [List.mem_cons,List.not_mem_nil,or_false]
  rintro x (rfl | rfl | rfl | rfl | rfl)
  ·exact ((((ak0.mods am1).mods am2).mods am3).mods am4)
  ·exact (((ak1.mods am2).mods am3).mods am4)
  ·exact ((ak2.mods am3).mods am4)
  ·exact (ak3.mods am4)
  ·exact ak4) _ rfl 5 rfl (by decide)
 have aHM:Hid (Mods Nil' w (aw4.alloc (.cells #[.int .i64 1,.func ax0a #[] ax0b,.func (.func ax0c) #[] ax0d,.func (.func ax0e) #[] ax0f,.int .i64 0,.func ax1a #[] ax1b,.func (.func ax1c) #[] ax1d,.func (.func ax1e) #[] ax1f,.int .i64 2,.func ax2a #[] ax2b,.func (.func ax2c) #[] ax2d,.func (.func ax2e) #[] ax2f,.int .i64 0,.func ax3a #[] ax3b,.func (.func ax3c) #[] ax3d,.func (.func ax3e) #[] ax3f,.int .i64 4,.func ax4a #[] ax4b,.func (.func ax4c) #[] ax4d,.func (.func ax4e) #[] ax4f] 135))):=((((((Mods.refl Nil' w).trans am0).trans am1).trans am2).trans am3).trans am4).alloc _
 clear ak0 am0 ak1 am1 ak2 am2 ak3 am3 ak4 am4
 simp only [PV.cells,PK.fills]
 go_wp2_with fail;generalize aw4.alloc (.cells #[.int .i64 1,.func ax0a #[] ax0b,.func (.func ax0c) #[] ax0d,.func (.func ax0e) #[] ax0f,.int .i64 0,.func ax1a #[] ax1b,.func (.func ax1c) #[] ax1d,.func (.func ax1e) #[] ax1f,.int .i64 2,.func ax2a #[] ax2b,.func (.func ax2c) #[] ax2d,.func (.func ax2e) #[] ax2f,.int .i64 0,.func ax3a #[] ax3b,.func (.func ax3c) #[] ax3d,.func (.func ax3e) #[] ax3f,.int .i64 4,.func ax4a #[] ax4b,.func (.func ax4c) #[] ax4d,.func (.func ax4e) #[] ax4f] 135)=W1 at *;generalize aw4.heap.size=g1 at *
 refine (part_operand _).mono ?_
 rintro e bw0 ⟨⟨bx0a,bx0b,bx0c,bx0d,bx0e,bx0f⟩,rfl,bk0,bm0⟩
 go_wp2_with fail
 refine (part_comma _).mono ?_
 rintro e bw1 ⟨⟨bx1a,bx1b,bx1c,bx1d,bx1e,bx1f⟩,rfl,bk1,bm1⟩
 go_wp2_with fail
 refine (part_number _).mono ?_
 rintro e bw2 ⟨⟨bx2a,bx2b,bx2c,bx2d,bx2e,bx2f⟩,rfl,bk2,bm2⟩
 go_wp2_with fail
 refine (part_comma _).mono ?_
 rintro e bw3 ⟨⟨bx3a,bx3b,bx3c,bx3d,bx3e,bx3f⟩,rfl,bk3,bm3⟩
 go_wp2_with fail
 refine (part_label _).mono ?_
 rintro e bw4 ⟨⟨bx4a,bx4b,bx4c,bx4d,bx4e,bx4f⟩,rfl,bk4,bm4⟩
 have bHP:Hid (PartsAt (bw4.alloc (.cells #[.int .i64 1,.func bx0a #[] bx0b,.func (.func bx0c) #[] bx0d,.func (.func bx0e) #[] bx0f,.int .i64 0,.func bx1a #[] bx1b,.func (.func bx1c) #[] bx1d,.func (.func bx1e) #[] bx1f,.int .i64 8,.func bx2a #[] bx2b,.func (.func bx2c) #[] bx2d,.func (.func bx2e) #[] bx2f,.int .i64 0,.func bx3a #[] bx3b,.func (.func bx3c) #[] bx3d,.func (.func bx3e) #[] bx3f,.int .i64 4,.func bx4a #[] bx4b,.func (.func bx4c) #[] bx4d,.func (.func bx4e) #[] bx4f] 135)) (.slice (some ⟨bw4.heap.size,0,none⟩) 5 5) numsJ):=PartsAt.new bw4 [(.operand,⟨bx0a,bx0b,bx0c,bx0d,bx0e,bx0f⟩),(.comma,⟨bx1a,bx1b,bx1c,bx1d,bx1e,bx1f⟩),(.number,⟨bx2a,bx2b,bx2c,bx2d,bx2e,bx2f⟩),(.comma,⟨bx3a,bx3b,bx3c,bx3d,bx3e,bx3f⟩),(.label,⟨bx4a,bx4b,bx4c,bx4d,bx4e,bx4f⟩)] (by
  simp only [List.mem_cons,List.not_mem_nil,or_false]
  rintro x (rfl | rfl | rfl | rfl | rfl)
  ·exact ((((bk0.mods bm1).mods bm2).mods bm3).mods bm4)
  ·exact (((bk1.mods bm2).mods bm3).mods bm4)
  ·exact ((bk2.mods bm3).mods bm4)
  ·exact (bk3.mods bm4)
  ·exact bk4) _ rfl 5 rfl (by decide)
 have bHM:Hid (Mods Nil' w (bw4.alloc (.cells #[.int .i64 1,.func bx0a #[] bx0b,.func (.func bx0c) #[] bx0d,.func (.func bx0e) #[] bx0f,.int .i64 0,.func bx1a #[] bx1b,.func (.func bx1c) #[] bx1d,.func (.func bx1e) #[] bx1f,.int .i64 8,.func bx2a #[] bx2b,.func (.func bx2c) #[] bx2d,.func (.func bx2e) #[] bx2f,.int .i64 0,.func bx3a #[] bx3b,.func (.func bx3c) #[] bx3d,.func (.func bx3e) #[] bx3f,.int .i64 4,.func bx4a #[] bx4b,.func (.func bx4c) #[] bx4d,.func (.func bx4e) #[] bx4f] 135))):=(((((aHM.out.trans bm0).trans bm1).trans bm2).trans bm3).trans bm4).alloc _
 have aHP2:Hid (PartsAt (bw4.alloc (.cells #[.int .i64 1,.func bx0a #[] bx0b,.func (.func bx0c) #[] bx0d,.func (.func bx0e) #[] bx0f,.int .i64 0,.func bx1a #[] bx1b,.func (.func bx1c) #[] bx1d,.func (.func bx1e) #[] bx1f,.int .i64 8,.func bx2a #[] bx2b,.func (.func bx2c) #[] bx2d,.func (.func bx2e) #[] bx2f,.int .i64 0,.func bx3a #[] bx3b,.func (.func bx3c) #[] bx3d,.func (.func bx3e) #[] bx3f,.int .i64 4,.func bx4a #[] bx4b,.func (.func bx4c) #[] bx4d,.func (.func bx4e) #[] bx4f] 135)) (.slice (some ⟨g1,0,none⟩) 5 5) regsJ):=aHP.out.mods (((((((Mods.refl Nil' _).trans bm0).trans bm1).trans bm2).trans bm3).trans bm4).alloc _)
 clear aHP bk0 bm0 bk1 bm1 bk2 bm2 bk3 bm3 bk4 bm4
 simp only [PV.cells,PK.fills]
 clear aHM;go_wp2_with fail;generalize bw4.alloc (.cells #[.int .i64 1,.func bx0a #[] bx0b,.func (.func bx0c) #[] bx0d,.func (.func bx0e) #[] bx0f,.int .i64 0,.func bx1a #[] bx1b,.func (.func bx1c) #[] bx1d,.func (.func bx1e) #[] bx1f,.int .i64 8,.func bx2a #[] bx2b,.func (.func bx2c) #[] bx2d,.func (.func bx2e) #[] bx2f,.int .i64 0,.func bx3a #[] bx3b,.func (.func bx3c) #[] bx3d,.func (.func bx3e) #[] bx3f,.int .i64 4,.func bx4a #[] bx4b,.func (.func bx4c) #[] bx4d,.func (.func bx4e) #[] bx4f] 135)=W2 at *;generalize bw4.heap.size=g2 at *
 refine (part_label _).mono ?_
 rintro e cw0 ⟨⟨cx0a,cx0b,cx0c,cx0d,cx0e,cx0f⟩,rfl,ck0,cm0⟩
 have cHP:Hid (PartsAt (cw0.alloc (.cells #[.int .i64 4,.func cx0a #[] cx0b,.func (.func cx0c) #[] cx0d,.func (.func cx0e) #[] cx0f] 135)) (.slice (some ⟨cw0.heap.size,0,none⟩) 1 1) [.label]):=PartsAt.new cw0 [(.label,⟨cx0a,cx0b,cx0c,cx0d,cx0e,cx0f⟩)] (by
  simp only [List.mem_cons,List.not_mem_nil,or_false]
  rintro x rfl
  exact ck0) _ rfl 1 rfl (by decide)
 have cHM:Hid (Mods Nil' w (cw0.alloc (.cells #[.int .i64 4,.func cx0a #[] cx0b,.func (.func cx0c) #[] cx0d,.func (.func cx0e) #[] cx0f] 135))):=(bHM.out.trans cm0).alloc _
 have aHP22:Hid (PartsAt (cw0.alloc (.cells #[.int .i64 4,.func cx0a #[] cx0b,.func (.func cx0c) #[] cx0d,.func (.func cx0e) #[] cx0f] 135)) (.slice (some ⟨g1,0,none⟩) 5 5) regsJ):=aHP2.out.mods (((Mods.refl Nil' _).trans cm0).alloc _)
 have bHP2:Hid (PartsAt (cw0.alloc (.cells #[.int .i64 4,.func cx0a #[] cx0b,.func (.func cx0c) #[] cx0d,.func (.func cx0e) #[] cx0f] 135)) (.slice (some ⟨g2,0,none⟩) 5 5) numsJ):=bHP.out.mods (((Mods.refl Nil' _).trans cm0).alloc _)
 clear aHP2 bHP ck0 cm0
 simp only [PV.cells,PK.fills]
 clear bHM;go_wp2_with fail;generalize cw0.alloc (.cells #[.int .i64 4,.func cx0a #[] cx0b,.func (.func cx0c) #[] cx0d,.func (.func cx0e) #[] cx0f] 135)=W3 at *;generalize cw0.heap.size=g3 at *
 refine (row_go _ _ 64 rfl _ [106,97] rfl _ [.label] _ _ cHP.out (by decide) (by decide)).mono ?_
 rintro e w4 ⟨b4,rfl,h4,l4,m4⟩
 have h4e:=h4.ends
 have hs4:Mods Nil' w (w4.setCell ⟨b4,4,none⟩ (.bool true)):=(cHM.out.trans m4).set (.inr (by have:=cHM.out.size;simp only;omega)) _
 have HP1:Hid (PartsAt (w4.setCell ⟨b4,4,none⟩ (.bool true)) (.slice (some ⟨g1,0,none⟩) 5 5) regsJ):=(aHP22.out.mods m4).kp (Kp.set h4.opblk 4 _)
 have HP2:Hid (PartsAt (w4.setCell ⟨b4,4,none⟩ (.bool true)) (.slice (some ⟨g2,0,none⟩) 5 5) numsJ):=(bHP2.out.mods m4).kp (Kp.set h4.opblk 4 _)
 have H4:=hid h4e;have HM:=hid hs4;obtain ⟨o1,n1,c1,f6,c6,k7,c7,k8,c8,f9,c9,hblk,_⟩:=h4.ex
 have z4:=hblk.cell 4
 have fz4:=hblk.frozen 4
 simp at z4
 have HL4:Hid (w.heap.size<=b4):=by have:=cHM.out.size;exact (by omega:w.heap.size<=b4)
 clear hblk h4 h4e hs4 aHP22 bHP2 cHP cHM m4 l4
 have HZ:Hid ((w4.setCell ⟨b4,4,none⟩ (.bool true)).heap.size=w4.heap.size):=by simp [Hid,World.setCell]
 go_wp2_with fail;generalize w4.setCell ⟨b4,4,none⟩ (.bool true)=W4 at *
 have HO5:Hid (OpsIn w.heap.size (W4.alloc (.cells #[.pointer (some ⟨b4,0,none⟩)] 79)) (.slice (some ⟨w4.heap.size,0,none⟩) 1 1) [b4] (juS 0)):=by
  rw [Hid,<- HZ.out]
  exact OpsIn.fresh [b4] (juS 0) rfl (by simp) (by have:=HL4.out;simpa using this) (fun i h h'=>by
   have:i=0:=by simp at h;omega
   subst this
   exact H4.out) _ rfl 1 rfl (by decide) HM.out.size
 have HP15:Hid (PartsAt (W4.alloc (.cells #[.pointer (some ⟨b4,0,none⟩)] 79)) (.slice (some ⟨g1,0,none⟩) 5 5) regsJ):=HP1.out.mods ((Mods.refl _ _).alloc _)
 have HP25:Hid (PartsAt (W4.alloc (.cells #[.pointer (some ⟨b4,0,none⟩)] 79)) (.slice (some ⟨g2,0,none⟩) 5 5) numsJ):=HP2.out.mods ((Mods.refl _ _).alloc _)
 have HM5:Hid (Mods Nil' w (W4.alloc (.cells #[.pointer (some ⟨b4,0,none⟩)] 79))):=HM.out.alloc _
 clear HP1 HP2 H4 HM HL4 z4 fz4;generalize W4.alloc (.cells #[.pointer (some ⟨b4,0,none⟩)] 79)=W5 at *;clear HZ;generalize w4.heap.size=g5 at *
 refine (jumps_any _).mono ?_
 rintro e w7 ⟨jvs,hlen,rfl,m7⟩
 have HI:Hid (∀ (k:Nat) (hk:k<11) (W:World),(Instr.index 151 (.agg (juC jvs).toArray) (.int .i64 k)).run Tryz.prog W=.ok (.agg (JV.cells (jumpW[k]'hk) (jvs[k]'(by omega))).toArray) W):=fun k hk W=>juC_at jvs hlen k hk W
 have HP1:Hid (PartsAt w7 (.slice (some ⟨g1,0,none⟩) 5 5) regsJ):=HP15.out.mods m7
 have HP2:Hid (PartsAt w7 (.slice (some ⟨g2,0,none⟩) 5 5) numsJ):=HP25.out.mods m7
 have HO7:Hid (OpsIn w.heap.size w7 (.slice (some ⟨g5,0,none⟩) 1 1) [b4] (juS 0)):=HO5.out.mods m7
 have HM:Hid (Mods Nil' w w7):=HM5.out.trans m7
 clear HP15 HP25 HO5 HM5 m7;generalize (juC jvs).toArray=AC at *;go_upto_block 0 with fail
 go_cut [4] (fun o wl=>∃ bs,OpsIn w.heap.size wl o bs (juS 11)/\Mods Nil' w wl)
 case first =>
  go_wp2_with fail
  go_loopw [4,31] (fun o i wl=>∃ (k:Nat) (bs:List Nat),k<=11/\i=.int .i64 k/\OpsIn w.heap.size wl o bs (juS k)/\PartsAt wl (.slice (some ⟨g1,0,none⟩) 5 5) regsJ/\PartsAt wl (.slice (some ⟨g2,0,none⟩) 5 5) numsJ/\Mods Nil' w wl) (fun _ i _=>11 - (intOf i).toNat)
  case atStart=>exact ⟨0,[b4],by omega,rfl,HO7.out,HP1.out,HP2.out,HM.out⟩
  case round =>
   obtain ⟨k,bs,hk,rfl,hO,hP1,hP2,hM⟩:=hrel;clear HP1 HP2 HM HO7
   by_cases hlt:k<11
   ·have hidx:=HI.out k hlt
    have HST:Hid (juS (k+1)=juS k++[rowS (65+k) (jumpW[k]) regsJ,rowS (97+k) (jumpW[k]) numsJ]):=juS_step k hlt
    have HW:Hid ((T (jumpW[k])).size<=90):=jumpW_size k hlt
    generalize jumpW[k]=wd at *;generalize jvs[k]=jv at *;obtain ⟨f1,c1⟩:=jv
    simp only [JV.cells] at hidx
    have HO:Hid _:=hO
    have HP1:Hid _:=hP1
    have HP2:Hid _:=hP2
    have HM:Hid _:=hM
    clear hO hP1 hP2 hM
    have hwd:(T wd).size<=90:=HW.out
    have HL:Hid (bs.length<=100):=by
     have:=HO.out.len
     rw [juS_len k (by omega)] at this
     exact (by omega:bs.length<=100)
    go_upto_region 10 with fail
    have hA:=Blk.new wr #[.string (T wd),.func f1 #[] c1] 150
    have HNo:Hid (u4.ownBlock≠some wr.heap.size):=fun e=>by have:=HO.out.sl.lt _ e;simp at this
    have q0:∀ g:Ext (fun k=>u4.ownBlock=some k) (wr.alloc (.cells #[.string (T wd),.func f1 #[] c1] 150)),g.w.cell? ⟨wr.heap.size,0,none⟩=some (.string (T wd)):=fun g=>g.cell hA HNo.out 0
    have q1:∀ g:Ext (fun k=>u4.ownBlock=some k) (wr.alloc (.cells #[.string (T wd),.func f1 #[] c1] 150)),g.w.cell? ⟨wr.heap.size,1,none⟩=some (.func f1 #[] c1):=fun g=>g.cell hA HNo.out 1
    have ne1:=Ext.ne (fun k=>u4.ownBlock=some k) (wr.alloc (.cells #[.string (T wd),.func f1 #[] c1] 150))
    refine wp_region_mix [7,8,16,17,18,19] (fun w'=>∃ g:Ext (fun k=>u4.ownBlock=some k) (wr.alloc (.cells #[.string (T wd),.func f1 #[] c1] 150)),w'=g.w) (by kernel_rfl) (by kernel_rfl) (by kernel_rfl) ⟨⟨_,(Mods.refl _ _).drew⟩,rfl⟩ ?_
    have X0:Hid (Mods Nil' wr (wr.alloc (.cells #[.string (T wd),.func f1 #[] c1] 150)).drew):=((Mods.refl _ _).alloc _).drew
    have Y0:Hid (Mods Nil' (wr.alloc (.cells #[.string (T wd),.func f1 #[] c1] 150)) (wr.alloc (.cells #[.string (T wd),.func f1 #[] c1] 150)).drew):=(Mods.refl _ _).drew
    iterate 7 (refine mix_pure rfl rfl rfl ?_;intro K hK;go_big_quiet_op;go_big_quiet_on)
    refine mix_act rfl rfl ?_
    intro K hK
    go_big_op
    refine (goOnIf_any _ _ _ _ _).mono ?_
    rintro e v0 ⟨fb0,cb0,rfl,mb0⟩
    have X1:Hid (Mods Nil' wr v0):=X0.out.trans mb0
    have Y1:Hid (Mods Nil' (wr.alloc _) v0):=Y0.out.trans mb0
    refine hK _ _ rfl ⟨⟨_,Y1.out.mono (fun _ _ h=>h.elim)⟩,rfl⟩ ?_
    have MB0:Hid _:=mb0
    clear hK K mb0
    refine mix_act rfl rfl ?_
    intro K hK
    go_big_op
    refine (row_go _ _ (65+k) (by omega) _ wd rfl _ regsJ _ _ (HP1.out.mods X1.out) (by have:=HW.out;rw [T_size] at this;omega) (by decide)).mono ?_
    rintro e r0 ⟨b0,rfl,hr0,hb0,mr0⟩
    have X2:Hid (Mods Nil' wr r0):=X1.out.trans mr0
    have Y2:Hid (Mods Nil' (wr.alloc _) r0):=Y1.out.trans mr0
    have HR0:Hid _:=hr0
    have MR0:Hid _:=mr0
    have HB0:=hid hb0
    refine hK _ _ rfl ⟨⟨_,Y2.out.mono (fun _ _ h=>h.elim)⟩,rfl⟩ ?_
    clear hK K hr0 hb0 mr0
    iterate 7 (refine mix_pure rfl rfl rfl ?_;intro K hK;go_big_quiet_op;go_big_quiet_on)
    refine mix_act rfl rfl ?_
    intro K hK
    go_big_op
    refine (goOnIf_any _ _ _ _ _).mono ?_
    rintro e v1 ⟨fb1,cb1,rfl,mb1⟩
    have X3:Hid (Mods Nil' wr v1):=X2.out.trans mb1
    have Y3:Hid (Mods Nil' (wr.alloc _) v1):=Y2.out.trans mb1
    refine hK _ _ rfl ⟨⟨_,Y3.out.mono (fun _ _ h=>h.elim)⟩,rfl⟩ ?_
    have MB1:Hid _:=mb1
    clear hK K mb1
    refine mix_act rfl rfl ?_
    intro K hK
    go_big_op
    refine (row_go _ _ (97+k) (by omega) _ wd rfl _ numsJ _ _ (HP2.out.mods X3.out) (by have:=HW.out;rw [T_size] at this;omega) (by decide)).mono ?_
    rintro e r1 ⟨b1,rfl,hr1,hb1,mr1⟩
    have X4:Hid (Mods Nil' wr r1):=X3.out.trans mr1
    have Y4:Hid (Mods Nil' (wr.alloc _) r1):=Y3.out.trans mr1
    have HR1:Hid _:=hr1
    have MR1:Hid _:=mr1
    have HB1:=hid hb1
    refine hK _ _ rfl ⟨⟨_,Y4.out.mono (fun _ _ h=>h.elim)⟩,rfl⟩ ?_
    clear hK K hr1 hb1 mr1
    refine mix_act rfl rfl ?_
    intro K hK
    go_big_op
    refine hK _ _ rfl ⟨⟨_,(Y4.out.alloc _).mono (fun _ _ h=>h.elim)⟩,rfl⟩ ?_
    clear hK K
    refine mix_act rfl rfl ?_
    intro K hK
    refine wp_append_sl _ (.tmp 38) (.tmp 56) 40 rfl 79 iP (.pointer none) 1 8 Tryz.underlying40 hiP hzP hsP hbP rfl (by decide) u4 bs.length (bs.map ptrV) rfl (HO.out.mods (X4.out.alloc _)).sl ⟨r1.heap.size,0,none⟩ 2 2 [ptrV b0,ptrV b1] rfl rfl (news_cells _ _ _ _ rfl) (ptrs_one [b0,b1]) (by have:=HL.out;unfold maxLen;omega) (by have:=HL.out;omega) ?_
    intro vA wA sA mA lA;obtain ⟨oA,cA,rfl,_⟩:=Sl.view sA
    refine hK _ _ rfl ⟨⟨_,((Y4.out.alloc _).mono (fun _ _ h=>h.elim)).step mA (fun _ _ h=>h)⟩,rfl⟩ ?_
    clear hK K
    simp only [Act.put,List.setIfInBounds_toArray,List.set_cons_succ,List.set_cons_zero]
    iterate 1 (refine mix_pure rfl rfl rfl ?_;intro K hK;go_big_quiet_op;go_big_quiet_on)
    refine mix_nil ?_
    have H01:b0<b1:=by have:=HR0.out.lt;have:=MB1.out.size;have:=HB1.out;omega
    have H0:wr.heap.size<=b0:=by have:=HB0.out;have:=X1.out.size;omega
    have HG:Hid (OpsIn w.heap.size wA (.slice oA (bs.length+2) cA) (bs++[b0,b1]) (juS k++[rowS (65+k) wd regsJ,rowS (97+k) wd numsJ])) :=
     OpsIn.grow [b0,b1] _ HO.out (X4.out.alloc _) rfl (by simp;omega) (by simp;omega) (fun i h h'=>by
      have hi:i=0\/i=1:=by simp at h;omega
      rcases hi with rfl | rfl
      ·exact ((HR0.out.mods MB1.out).mods MR1.out).mods ((Mods.refl _ _).alloc _)
      ·exact HR1.out.mods ((Mods.refl _ _).alloc _)) sA mA lA HM.out.size
    simp only [Exit.inBlock,Exit.then]
    have HMA:Hid (Mods Nil' w wA):=(HM.out.trans (X4.out.alloc _)).step mA (fun i hi h=>by have:=HO.out.own i h;omega)
    have HQ1:Hid (PartsAt wA (.slice (some ⟨g1,0,none⟩) 5 5) regsJ):=(HP1.out.mods (X4.out.alloc _)).kp (Mods.kpSl (HO.out.mods (X4.out.alloc _)).sl mA)
    have HQ2:Hid (PartsAt wA (.slice (some ⟨g2,0,none⟩) 5 5) numsJ):=(HP2.out.mods (X4.out.alloc _)).kp (Mods.kpSl (HO.out.mods (X4.out.alloc _)).sl mA)
    rw [<- HST.out] at HG;clear q0 q1 ne1 hA hidx H01 H0;go_wp2_with fail
    go_roundw
    case rel=>exact ⟨k+1,_,by omega,by go_num,HG.out,HQ1.out,HQ2.out,HMA.out⟩
    case measure=>simp [intOf];omega
   ·obtain rfl:k=11:=by omega
    go_wp2_with fail;go_meet
    exact ⟨bs,hO,hM⟩
 case rest =>
 obtain ⟨bs,hO,hM⟩:=hcut
 have hlen':=hO.len
 rw [juS_len 11 (by omega)] at hlen'
 have HO:=hid hO;have HM:=hid hM;obtain ⟨oV,cV,hv,_⟩:=hO.sl.view;subst hv;clear hO hM HP1 HP2 HO7;go_wp2_with fail
 go_loopw [61] (fun i wl=>∃ (k:Nat),k<=bs.length/\i=.int .i64 k/\OpsIn w.heap.size wl (.slice oV bs.length cV) bs (markJ (juS 11) k)/\Mods Nil' w wl) (fun i _=>bs.length - (intOf i).toNat)
 case atStart=>exact ⟨0,by omega,rfl,by rw [markJ_zero];exact HO.out,HM.out⟩
 case round =>
  obtain ⟨k,hk,rfl,hO,hM⟩:=hrel;clear HO HM
  by_cases hlt:k<bs.length
  ·obtain ⟨g,rfl,cs⟩:=hO.sl.at rfl k hlt
   have ck:=cs k hlt
   have e1:(bs.map ptrV)[k]?=some (.pointer (some ⟨bs[k],0,none⟩)):=by simp [hlt,ptrV]
   rw [e1] at ck
   have hk':k<(juS 11).length:=by rw [juS_len 11 (by omega)];omega
   have hat:=hO.at' k hlt (by rw [markJ_len];exact hk')
   obtain ⟨o1,n1,c1,f6,c6,k7,c7,k8,c8,f9,c9,hblk,_⟩:=hat.ex
   have z3:=hblk.cell 3
   have fz3:=hblk.frozen 3
   simp at z3
   have hset:=hO.setJ k hlt (by rw [markJ_len];exact hk')
   rw [markJ_at _ _ hk',<- markJ_step _ _ hk'] at hset
   have HS:Hid _:=hset
   have HMs:Hid (Mods Nil' w (wr.setCell ⟨bs[k],3,none⟩ (.bool true))):=hM.set (.inr (hO.lo _ (List.getElem_mem hlt))) _
   clear hset hat hblk hO hM cs e1;generalize bs[k]=bk at *;go_wp2_with fail
   go_roundw
   case rel=>exact ⟨k+1,by omega,by go_num,HS.out,HMs.out⟩
   case measure=>simp [intOf];omega
  ·obtain rfl:k=bs.length:=by omega
   have HS:Hid (OpsIn w.heap.size wr (.slice oV bs.length cV) bs jumpS):=by
    have h:=hO
    have e:bs.length=(juS 11).length:=by rw [juS_len 11 (by omega)];omega
    rw [e,markJ_all] at h;rw [e];exact h
   have HMs:Hid _:=hM
   clear hO hM;go_wp2_with fail;go_ret
   exact ⟨_,_,rfl,HS.out,HMs.out⟩
end Go.Proofs.YtnhcaifopaeohaaGreatDoor
