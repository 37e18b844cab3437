import Derived.Test.YtoknbkfclhmapaaGreatDoorC09
import Derived.Test.YtoknbkfclhmapaaGreatDoorC20
namespace Go.Proofs.YtoknbkfclhmapaaGreatDoor
open Go.RowKit
def arS (k:Nat):List OpS:=(arithW.zipIdx.take k).flatMap fun x=>arithAt x.2 x.1
theorem arS_step (k:Nat) (h:k<12):arS (k+1)=arS k++arithAt k (arithW[k]'h):=by
 have:∀ k:Fin 12,arS (k.1+1)=arS k.1++arithAt k.1 (arithW[k.1]'k.2):=by
  intro k;unfold arS
  rw [List.take_succ_eq_append_getElem (by simp;exact k.2),List.flatMap_append]
  simp
  rfl
 exact this ⟨k,h⟩
set_option maxRecDepth 100000 in
theorem arC_at (avs:List AV) (hl:avs.length=12) (k:Nat) (hk:k<12) (w:World) :
  (Instr.index 152 (.agg (arC avs).toArray) (.int .i64 k)).run Tryz.prog w=.ok (.agg (AV.cells (arithW[k]'hk) (avs[k]'(by omega))).toArray) w:=by
 match avs,hl with
 | [a0,a1,a2,a3,a4,a5,a6,a7,a8,a9,a10,a11],_ =>
  have:k=0\/k=1\/k=2\/k=3\/k=4\/k=5\/k=6\/k=7\/k=8\/k=9\/k=10\/k=11:=by omega
  rcases this with rfl | rfl | rfl | rfl | rfl | rfl | rfl | rfl | rfl | rfl | rfl | rfl<;>rfl
theorem OpsIn.lt {base:Nat} {w:World} {v:Value} {bs:List Nat} {os:List OpS} (h:OpsIn base w v bs os):∀ b∈bs,b<w.heap.size:=fun b hb=>by
 obtain ⟨i,hi,rfl⟩:=List.getElem_of_mem hb
 exact (h.at' i hi (by rw [<- h.len];exact hi)).lt
theorem OpsIn.grow {base:Nat} {w0 wX w':World} {v v':Value} {bs:List Nat} {os:List OpS} (cs:List Nat) (ps:List OpS) (h:OpsIn base w0 v bs os) (m0:Mods Nil' w0 wX) (hlen:cs.length=ps.length) (hc:cs.Pairwise (·<·)) (hlo:∀ c∈cs,w0.heap.size<=c)
  (hat:∀ i (h:i<cs.length) (h':i<ps.length),OpAt wX cs[i] ps[i]) (hsl:Sl w' 96 1 v' (bs.length+cs.length) (bs.map ptrV++cs.map ptrV)) (m:Mods (fun k=>v.ownBlock=some k) wX w') (ho:∀ k,v'.ownBlock=some k->v.ownBlock=some k\/wX.heap.size<=k)
  (hb:base<=w0.heap.size):OpsIn base w' v' (bs++cs) (os++ps):=by
 refine (h.mods m0).app hlen ?_ hat (fun b hb'=>Nat.le_trans hb (hlo b hb')) hsl m ho (Nat.le_trans hb m0.size)
 rw [List.nodup_append]
 refine ⟨h.nd,hc.imp (fun h=>Nat.ne_of_lt h),fun a ha b hb' e=>?_⟩
 have h1:=h.lt a ha
 have h2:=hlo b hb'
 omega
theorem PartsAt.new (w:World) (pv:List (PK × PV)) (h:∀ x∈pv,x.2.Ok w x.1) (cs:Array Value) (hc:cs.toList=pv.flatMap (fun x=>x.2.cells x.1.fills)) (n:Nat) (hn:pv.length=n) (hm:n<=100) :
  PartsAt (w.alloc (.cells cs 146)) (.slice (some ⟨w.heap.size,0,none⟩) n n) (pv.map (·.1)):=by
 subst hn
 have hl:=flat_len (fun x:PK × PV=>x.2.cells x.1.fills) 4 (fun _=>rfl) pv
 refine ⟨pv,rfl,fun x hx=>(h x hx).kp ((Mods.refl _ _).alloc _).kp,?_⟩
 refine SlB.sl ⟨Nat.le_refl _,by unfold maxLen;omega,?_,?_,hl⟩ (Blk.new w cs 146)
 ·rw [<- Array.length_toList,hc,hl]
 ·rw [hc,List.take_of_length_le (by rw [hl];exact Nat.le_refl _)]
theorem PV.Ok.mods {w w':World} {p:PK} {v:PV} (h:v.Ok w p) (m:Mods Nil' w w'):v.Ok w' p:=h.kp m.kp
theorem info_pop:(Tryz.prog.info? 96).map (fun i=>(i.zero,i.size,i.bytes))=some (some (.pointer none),1,8):=by kernel_rfl
theorem ptrs_one (bs:List Nat):∀ u∈bs.map ptrV,u.oneCell'=true:=by
 intro u hu;obtain ⟨b,_,rfl⟩:=List.mem_map.1 hu
 rfl
theorem arS_len (k:Nat) (h:k<=12):(arS k).length=4*k:=by
 have:∀ k:Fin 13,(arS k.1).length=4*k.1:=by decide +kernel
 exact this ⟨k,by omega⟩
theorem row_go (w:World) (c:Int) (code:Nat) (hc:c=code) (s:ByteArray) (word:List UInt8) (hs:s=T word) (v:Value) (ps:List PK) (f9:Fn) (c9:Array Value) (hP:PartsAt w v ps) (hwl:word.length<=100) (hpl:ps.length<=10) :
  Calls Tryz.prog 86 #[.int .u8 c,.string s,v,.func f9 #[] c9] w fun e w'=>∃ b,e=.returned (.pointer (some ⟨b,0,none⟩))/\OpAt w' b (rowS code word ps)/\w.heap.size<=b/\Mods Nil' w w':=by
 subst hc hs;exact row_any w code word v ps f9 c9 hP hwl hpl
theorem arithW_size (k:Nat) (h:k<12):(T (arithW[k]'h)).size<=90:=by
 have:∀ k:Fin 12,(T (arithW[k.1]'k.2)).size<=90:=by decide +kernel
 exact this ⟨k,h⟩
set_option maxRecDepth 100000 in
set_option maxHeartbeats 1000000 in
theorem arithOps_any (w:World):Calls Tryz.prog 56 #[] w fun e w'=>∃ v bs,e=.returned v/\OpsIn w.heap.size w' v bs arithS/\Mods Nil' w w':=by
 obtain ⟨iP,hiP,hzP,hsP,hbP⟩:=info_parts info_pop
 go_enter Tryz.func56,Tryz.ntmps56
 go_wp2_with fail
 refine (part_result _).mono ?_
 rintro e aw0 ⟨⟨ax0a,ax0b,ax0c,ax0d,ax0e,ax0f⟩,rfl,ak0,am0⟩
 go_wp2_with fail
 refine (part_comma _).mono ?_
 rintro e aw1 ⟨⟨ax1a,ax1b,ax1c,ax1d,ax1e,ax1f⟩,rfl,ak1,am1⟩
 go_wp2_with fail
 refine (part_source _).mono ?_
 rintro e aw2 ⟨⟨ax2a,ax2b,ax2c,ax2d,ax2e,ax2f⟩,rfl,ak2,am2⟩
 have aHP:Hid (PartsAt (aw2.alloc (.cells #[.int .i64 1,.func ax0a #[] ax0b,.func (.func ax0c) #[] ax0d,.func (.func ax0e) #[] ax0f,.int .i64 0,.func ax1a #[] ax1b,.func (.func ax1c) #[] ax1d,.func (.func ax1e) #[] ax1f,.int .i64 2,.func ax2a #[] ax2b,.func (.func ax2c) #[] ax2d,.func (.func ax2e) #[] ax2f] 146)) (.slice (some ⟨aw2.heap.size,0,none⟩) 3 3) regsA):=PartsAt.new aw2 [(.result,⟨ax0a,ax0b,ax0c,ax0d,ax0e,ax0f⟩),(.comma,⟨ax1a,ax1b,ax1c,ax1d,ax1e,ax1f⟩),(.source,⟨ax2a,ax2b,ax2c,ax2d,ax2e,ax2f⟩)] (by
  simp only [List.mem_cons,List.not_mem_nil,or_false]
  rintro x (rfl | rfl | rfl)
  ·exact ((ak0.mods am1).mods am2)
  ·exact (ak1.mods am2)
  ·exact ak2) _ rfl 3 rfl (by decide)
 have aHM:Hid (Mods Nil' w (aw2.alloc (.cells #[.int .i64 1,.func ax0a #[] ax0b,.func (.func ax0c) #[] ax0d,.func (.func ax0e) #[] ax0f,.int .i64 0,.func ax1a #[] ax1b,.func (.func ax1c) #[] ax1d,.func (.func ax1e) #[] ax1f,.int .i64 2,.func ax2a #[] ax2b,.func (.func ax2c) #[] ax2d,.func (.func ax2e) #[] ax2f] 146))):=((((Mods.refl Nil' w).trans am0).trans am1).trans am2).alloc _
 clear ak0 am0 ak1 am1 ak2 am2
 simp only [PV.cells,PK.fills]
 go_wp2_with fail;generalize aw2.alloc (.cells #[.int .i64 1,.func ax0a #[] ax0b,.func (.func ax0c) #[] ax0d,.func (.func ax0e) #[] ax0f,.int .i64 0,.func ax1a #[] ax1b,.func (.func ax1c) #[] ax1d,.func (.func ax1e) #[] ax1f,.int .i64 2,.func ax2a #[] ax2b,.func (.func ax2c) #[] ax2d,.func (.func ax2e) #[] ax2f] 146)=W1 at *;generalize aw2.heap.size=g1 at *
 refine (part_result _).mono ?_
 rintro e bw0 ⟨⟨bx0a,bx0b,bx0c,bx0d,bx0e,bx0f⟩,rfl,bk0,bm0⟩
 go_wp2_with fail
 refine (part_comma _).mono ?_
 rintro e bw1 ⟨⟨bx1a,bx1b,bx1c,bx1d,bx1e,bx1f⟩,rfl,bk1,bm1⟩
 go_wp2_with fail
 refine (part_number _).mono ?_
 rintro e bw2 ⟨⟨bx2a,bx2b,bx2c,bx2d,bx2e,bx2f⟩,rfl,bk2,bm2⟩
 have bHP:Hid (PartsAt (bw2.alloc (.cells #[.int .i64 1,.func bx0a #[] bx0b,.func (.func bx0c) #[] bx0d,.func (.func bx0e) #[] bx0f,.int .i64 0,.func bx1a #[] bx1b,.func (.func bx1c) #[] bx1d,.func (.func bx1e) #[] bx1f,.int .i64 8,.func bx2a #[] bx2b,.func (.func bx2c) #[] bx2d,.func (.func bx2e) #[] bx2f] 146)) (.slice (some ⟨bw2.heap.size,0,none⟩) 3 3) numsA):=PartsAt.new bw2 [(.result,⟨bx0a,bx0b,bx0c,bx0d,bx0e,bx0f⟩),(.comma,⟨bx1a,bx1b,bx1c,bx1d,bx1e,bx1f⟩),(.number,⟨bx2a,bx2b,bx2c,bx2d,bx2e,bx2f⟩)] (by
  simp only [List.mem_cons,List.not_mem_nil,or_false]
  rintro x (rfl | rfl | rfl)
  ·exact ((bk0.mods bm1).mods bm2)
  ·exact (bk1.mods bm2)
  ·exact bk2) _ rfl 3 rfl (by decide)
 have bHM:Hid (Mods Nil' w (bw2.alloc (.cells #[.int .i64 1,.func bx0a #[] bx0b,.func (.func bx0c) #[] bx0d,.func (.func bx0e) #[] bx0f,.int .i64 0,.func bx1a #[] bx1b,.func (.func bx1c) #[] bx1d,.func (.func bx1e) #[] bx1f,.int .i64 8,.func bx2a #[] bx2b,.func (.func bx2c) #[] bx2d,.func (.func bx2e) #[] bx2f] 146))):=(((aHM.out.trans bm0).trans bm1).trans bm2).alloc _
 have aHP2:Hid (PartsAt (bw2.alloc (.cells #[.int .i64 1,.func bx0a #[] bx0b,.func (.func bx0c) #[] bx0d,.func (.func bx0e) #[] bx0f,.int .i64 0,.func bx1a #[] bx1b,.func (.func bx1c) #[] bx1d,.func (.func bx1e) #[] bx1f,.int .i64 8,.func bx2a #[] bx2b,.func (.func bx2c) #[] bx2d,.func (.func bx2e) #[] bx2f] 146)) (.slice (some ⟨g1,0,none⟩) 3 3) regsA):=aHP.out.mods (((((Mods.refl Nil' _).trans bm0).trans bm1).trans bm2).alloc _)
 clear aHP bk0 bm0 bk1 bm1 bk2 bm2
 simp only [PV.cells,PK.fills]
 clear aHM;go_wp2_with fail;generalize bw2.alloc (.cells #[.int .i64 1,.func bx0a #[] bx0b,.func (.func bx0c) #[] bx0d,.func (.func bx0e) #[] bx0f,.int .i64 0,.func bx1a #[] bx1b,.func (.func bx1c) #[] bx1d,.func (.func bx1e) #[] bx1f,.int .i64 8,.func bx2a #[] bx2b,.func (.func bx2c) #[] bx2d,.func (.func bx2e) #[] bx2f] 146)=W2 at *;generalize bw2.heap.size=g2 at *
 refine (ariths_any _).mono ?_
 rintro e w7 ⟨avs,hlen,rfl,m7⟩
 have HI:Hid (∀ (k:Nat) (hk:k<12) (W:World),(Instr.index 152 (.agg (arC avs).toArray) (.int .i64 k)).run Tryz.prog W=.ok (.agg (AV.cells (arithW[k]'hk) (avs[k]'(by omega))).toArray) W):=fun k hk W=>arC_at avs hlen k hk W
 have HP1:Hid (PartsAt w7 (.slice (some ⟨g1,0,none⟩) 3 3) regsA):=aHP2.out.mods m7
 have HP2:Hid (PartsAt w7 (.slice (some ⟨g2,0,none⟩) 3 3) numsA):=bHP.out.mods m7
 have HM:Hid (Mods Nil' w w7):=bHM.out.trans m7
 clear aHP2 bHP bHM m7;generalize (arC avs).toArray=AC at *;go_wp2_with fail
 go_loopw [3,17] (fun o i wl=>∃ (k:Nat) (bs:List Nat),k<=12/\i=.int .i64 k/\OpsIn w.heap.size wl o bs (arS k)/\PartsAt wl (.slice (some ⟨g1,0,none⟩) 3 3) regsA/\PartsAt wl (.slice (some ⟨g2,0,none⟩) 3 3) numsA/\Mods Nil' w wl) (fun _ i _=>12 - (intOf i).toNat)
 case atStart=>exact ⟨0,[],by omega,rfl,OpsIn.nil _ _,HP1.out,HP2.out,HM.out⟩
 case round =>
  obtain ⟨k,bs,hk,rfl,hO,hP1,hP2,hM⟩:=hrel;clear HP1 HP2 HM
  by_cases hlt:k<12
  ·have hidx:=HI.out k hlt
   have HST:Hid (arS (k+1)=arS k++[rowS (1+k) (arithW[k]) regsA,rowS (17+k) (w32 (arithW[k])) regsA,rowS (33+k) (arithW[k]) numsA,rowS (49+k) (w32 (arithW[k])) numsA]):=arS_step k hlt
   have HW:Hid ((T (arithW[k])).size<=90):=arithW_size k hlt
   generalize arithW[k]=wd at *;generalize avs[k]=av at *;obtain ⟨f1,c1,f2,c2⟩:=av
   simp only [AV.cells] at hidx
   have HO:Hid _:=hO
   have HP1:Hid _:=hP1
   have HP2:Hid _:=hP2
   have HM:Hid _:=hM
   clear hO hP1 hP2 hM
   have hwd:(T wd).size<=90:=HW.out
   have HL:Hid (bs.length<=100):=by
    have:=HO.out.len
    rw [arS_len k (by omega)] at this
    exact (by omega:bs.length<=100)
   go_upto_region 8 with fail
   have hA:=Blk.new wr #[.string (T wd),.func f1 #[] c1,.func f2 #[] c2] 151
   have HNo:Hid (u3.ownBlock≠some wr.heap.size):=fun e=>by have:=HO.out.sl.lt _ e;simp at this
   have q0:∀ g:Ext (fun k=>u3.ownBlock=some k) (wr.alloc (.cells #[.string (T wd),.func f1 #[] c1,.func f2 #[] c2] 151)),g.w.cell? ⟨wr.heap.size,0,none⟩=some (.string (T wd)):=fun g=>g.cell hA HNo.out 0
   have q1:∀ g:Ext (fun k=>u3.ownBlock=some k) (wr.alloc (.cells #[.string (T wd),.func f1 #[] c1,.func f2 #[] c2] 151)),g.w.cell? ⟨wr.heap.size,1,none⟩=some (.func f1 #[] c1):=fun g=>g.cell hA HNo.out 1
   have q2:∀ g:Ext (fun k=>u3.ownBlock=some k) (wr.alloc (.cells #[.string (T wd),.func f1 #[] c1,.func f2 #[] c2] 151)),g.w.cell? ⟨wr.heap.size,2,none⟩=some (.func f2 #[] c2):=fun g=>g.cell hA HNo.out 2
   have ne1:=Ext.ne (fun k=>u3.ownBlock=some k) (wr.alloc (.cells #[.string (T wd),.func f1 #[] c1,.func f2 #[] c2] 151))
   refine wp_region_mix [7,8,17,18,26,27,37,38,39,40] (fun w'=>∃ g:Ext (fun k=>u3.ownBlock=some k) (wr.alloc (.cells #[.string (T wd),.func f1 #[] c1,.func f2 #[] c2] 151)),w'=g.w) (by kernel_rfl) (by kernel_rfl) (by kernel_rfl) ⟨⟨_,(Mods.refl _ _).drew⟩,rfl⟩ ?_
   have X0:Hid (Mods Nil' wr (wr.alloc (.cells #[.string (T wd),.func f1 #[] c1,.func f2 #[] c2] 151)).drew):=((Mods.refl _ _).alloc _).drew
   have Y0:Hid (Mods Nil' (wr.alloc (.cells #[.string (T wd),.func f1 #[] c1,.func f2 #[] c2] 151)) (wr.alloc (.cells #[.string (T wd),.func f1 #[] c1,.func f2 #[] c2] 151)).drew):=(Mods.refl _ _).drew
   iterate 7 (refine mix_pure rfl rfl rfl ?_;intro K hK;go_big_quiet_op;go_big_quiet_on)
   refine mix_act rfl rfl ?_
   intro K hK
   go_big_op
   refine (become_any _ _ _ _ _).mono ?_
   rintro e v0 ⟨fb0,cb0,rfl,mb0⟩
   have X1:Hid (Mods Nil' wr v0):=X0.out.trans mb0
   have Y1:Hid (Mods Nil' (wr.alloc _) v0):=Y0.out.trans mb0
   have HV0:=hid X1.out
   refine hK _ _ rfl ⟨⟨_,Y1.out.mono (fun _ _ h=>h.elim)⟩,rfl⟩ ?_
   have MB0:Hid _:=mb0
   clear hK K mb0 X0 Y0
   refine mix_act rfl rfl ?_
   intro K hK
   go_big_op
   refine (row_go _ _ (1+k) (by omega) _ wd (rfl) _ regsA _ _ (HP1.out.mods X1.out) (by have:=HW.out;rw [T_size] at this;omega) (by decide)).mono ?_
   rintro e r0 ⟨b0,rfl,hr0,hb0,mr0⟩
   have X2:Hid (Mods Nil' wr r0):=X1.out.trans mr0
   have Y2:Hid (Mods Nil' (wr.alloc _) r0):=Y1.out.trans mr0
   have HR0:Hid _:=hr0
   have MR0:Hid _:=mr0
   have HB0:=hid hb0
   refine hK _ _ rfl ⟨⟨_,Y2.out.mono (fun _ _ h=>h.elim)⟩,rfl⟩ ?_
   clear hK K X1 Y1 hr0 hb0 mr0
   iterate 8 (refine mix_pure rfl rfl rfl ?_;intro K hK;go_big_quiet_op;go_big_quiet_on)
   refine mix_act rfl rfl ?_
   intro K hK
   go_big_op
   refine (become_any _ _ _ _ _).mono ?_
   rintro e v1 ⟨fb1,cb1,rfl,mb1⟩
   have X3:Hid (Mods Nil' wr v1):=X2.out.trans mb1
   have Y3:Hid (Mods Nil' (wr.alloc _) v1):=Y2.out.trans mb1
   refine hK _ _ rfl ⟨⟨_,Y3.out.mono (fun _ _ h=>h.elim)⟩,rfl⟩ ?_
   have MB1:Hid _:=mb1
   clear hK K mb1 X2 Y2
   refine mix_act rfl rfl ?_
   intro K hK
   go_big_op
   refine (row_go _ _ (17+k) (by omega) _ (w32 wd) ((T_app wd [51,50]).symm) _ regsA _ _ (HP1.out.mods X3.out) (by have:=HW.out;rw [T_size] at this;simp [w32];omega) (by decide)).mono ?_
   rintro e r1 ⟨b1,rfl,hr1,hb1,mr1⟩
   have X4:Hid (Mods Nil' wr r1):=X3.out.trans mr1
   have Y4:Hid (Mods Nil' (wr.alloc _) r1):=Y3.out.trans mr1
   have HR1:Hid _:=hr1
   have MR1:Hid _:=mr1
   have HB1:=hid hb1
   refine hK _ _ rfl ⟨⟨_,Y4.out.mono (fun _ _ h=>h.elim)⟩,rfl⟩ ?_
   clear hK K X3 Y3 hr1 hb1 mr1
   iterate 7 (refine mix_pure rfl rfl rfl ?_;intro K hK;go_big_quiet_op;go_big_quiet_on)
   refine mix_act rfl rfl ?_
   intro K hK
   go_big_op
   refine (become_any _ _ _ _ _).mono ?_
   rintro e v2 ⟨fb2,cb2,rfl,mb2⟩
   have X5:Hid (Mods Nil' wr v2):=X4.out.trans mb2
   have Y5:Hid (Mods Nil' (wr.alloc _) v2):=Y4.out.trans mb2
   refine hK _ _ rfl ⟨⟨_,Y5.out.mono (fun _ _ h=>h.elim)⟩,rfl⟩ ?_
   have MB2:Hid _:=mb2
   clear hK K mb2 X4 Y4
   refine mix_act rfl rfl ?_
   intro K hK
   go_big_op
   refine (row_go _ _ (33+k) (by omega) _ wd (rfl) _ numsA _ _ (HP2.out.mods X5.out) (by have:=HW.out;rw [T_size] at this;omega) (by decide)).mono ?_
   rintro e r2 ⟨b2,rfl,hr2,hb2,mr2⟩
   have X6:Hid (Mods Nil' wr r2):=X5.out.trans mr2
   have Y6:Hid (Mods Nil' (wr.alloc _) r2):=Y5.out.trans mr2
   have HR2:Hid _:=hr2
   have MR2:Hid _:=mr2
   have HB2:=hid hb2
   refine hK _ _ rfl ⟨⟨_,Y6.out.mono (fun _ _ h=>h.elim)⟩,rfl⟩ ?_
   clear hK K X5 Y5 hr2 hb2 mr2
   iterate 9 (refine mix_pure rfl rfl rfl ?_;intro K hK;go_big_quiet_op;go_big_quiet_on)
   refine mix_act rfl rfl ?_
   intro K hK
   go_big_op
   refine (become_any _ _ _ _ _).mono ?_
   rintro e v3 ⟨fb3,cb3,rfl,mb3⟩
   have X7:Hid (Mods Nil' wr v3):=X6.out.trans mb3
   have Y7:Hid (Mods Nil' (wr.alloc _) v3):=Y6.out.trans mb3
   refine hK _ _ rfl ⟨⟨_,Y7.out.mono (fun _ _ h=>h.elim)⟩,rfl⟩ ?_
   have MB3:Hid _:=mb3
   clear hK K mb3 X6 Y6
   refine mix_act rfl rfl ?_
   intro K hK
   go_big_op
   refine (row_go _ _ (49+k) (by omega) _ (w32 wd) ((T_app wd [51,50]).symm) _ numsA _ _ (HP2.out.mods X7.out) (by have:=HW.out;rw [T_size] at this;simp [w32];omega) (by decide)).mono ?_
   rintro e r3 ⟨b3,rfl,hr3,hb3,mr3⟩
   have X8:Hid (Mods Nil' wr r3):=X7.out.trans mr3
   have Y8:Hid (Mods Nil' (wr.alloc _) r3):=Y7.out.trans mr3
   have HR3:Hid _:=hr3
   have MR3:Hid _:=mr3
   have HB3:=hid hb3
   refine hK _ _ rfl ⟨⟨_,Y8.out.mono (fun _ _ h=>h.elim)⟩,rfl⟩ ?_
   clear hK K X7 Y7 hr3 hb3 mr3
   refine mix_act rfl rfl ?_
   intro K hK
   go_big_op
   refine hK _ _ rfl ⟨⟨_,(Y8.out.alloc _).mono (fun _ _ h=>h.elim)⟩,rfl⟩ ?_
   clear hK K
   refine mix_act rfl rfl ?_
   intro K hK
   refine wp_append_sl _ (.tmp 24) (.tmp 63) 82 rfl 96 iP (.pointer none) 1 8 Tryz.underlying82 hiP hzP hsP hbP rfl (by decide) u3 bs.length (bs.map ptrV) rfl (HO.out.mods (X8.out.alloc _)).sl ⟨r3.heap.size,0,none⟩ 4 4 [ptrV b0,ptrV b1,ptrV b2,ptrV b3] rfl rfl (news_cells _ _ _ _ rfl) (ptrs_one [b0,b1,b2,b3]) (by have:=HL.out;unfold maxLen;omega) (by have:=HL.out;omega) ?_
   intro vA wA sA mA lA;obtain ⟨oA,cA,rfl,_⟩:=Sl.view sA
   refine hK _ _ rfl ⟨⟨_,((Y8.out.alloc _).mono (fun _ _ h=>h.elim)).step mA (fun _ _ h=>h)⟩,rfl⟩ ?_
   clear hK K
   simp only [Act.put,List.setIfInBounds_toArray,List.set_cons_succ,List.set_cons_zero]
   iterate 1 (refine mix_pure rfl rfl rfl ?_;intro K hK;go_big_quiet_op;go_big_quiet_on)
   refine mix_nil ?_
   have H01:b0<b1:=by have:=HR0.out.lt;have:=MB1.out.size;have:=HB1.out;omega
   have H12:b1<b2:=by have:=HR1.out.lt;have:=MB2.out.size;have:=HB2.out;omega
   have H23:b2<b3:=by have:=HR2.out.lt;have:=MB3.out.size;have:=HB3.out;omega
   have H0:wr.heap.size<=b0:=by have:=HB0.out;have:=HV0.out.size;omega
   have HG:Hid (OpsIn w.heap.size wA (.slice oA (bs.length+4) cA) (bs++[b0,b1,b2,b3]) (arS k++[rowS (1+k) wd regsA,rowS (17+k) (w32 wd) regsA,rowS (33+k) wd numsA,rowS (49+k) (w32 wd) numsA])) :=
    OpsIn.grow [b0,b1,b2,b3] _ HO.out (X8.out.alloc _) rfl (by simp;omega) (by simp;omega) (fun i h h'=>by
     have hi:i=0\/i=1\/i=2\/i=3:=by simp at h;omega
     rcases hi with rfl | rfl | rfl | rfl
     ·exact ((((((HR0.out.mods MB1.out).mods MR1.out).mods MB2.out).mods MR2.out).mods MB3.out).mods MR3.out).mods ((Mods.refl _ _).alloc _)
     ·exact ((((HR1.out.mods MB2.out).mods MR2.out).mods MB3.out).mods MR3.out).mods ((Mods.refl _ _).alloc _)
     ·exact ((HR2.out.mods MB3.out).mods MR3.out).mods ((Mods.refl _ _).alloc _)
     ·exact HR3.out.mods ((Mods.refl _ _).alloc _)) sA mA lA HM.out.size
   simp only [Exit.inBlock,Exit.then]
   have HMA:Hid (Mods Nil' w wA):=(HM.out.trans (X8.out.alloc _)).step mA (fun i hi h=>by have:=HO.out.own i h;omega)
   have HQ1:Hid (PartsAt wA (.slice (some ⟨g1,0,none⟩) 3 3) regsA):=(HP1.out.mods (X8.out.alloc _)).kp (Mods.kpSl (HO.out.mods (X8.out.alloc _)).sl mA)
   have HQ2:Hid (PartsAt wA (.slice (some ⟨g2,0,none⟩) 3 3) numsA):=(HP2.out.mods (X8.out.alloc _)).kp (Mods.kpSl (HO.out.mods (X8.out.alloc _)).sl mA)
   rw [<- HST.out] at HG;clear q0 q1 q2 ne1 hA hidx H01 H12 H23 H0;go_wp2_with fail
   go_roundw
   case rel=>exact ⟨k+1,_,by omega,by go_num,HG.out,HQ1.out,HQ2.out,HMA.out⟩
   case measure=>simp [intOf];omega
  ·obtain rfl:k=12:=by omega
   have HO:=hid hO
   have HM:Hid _:=hM
   clear hO hM hP1 hP2;go_wp2_with fail
   refine (part_result _).mono ?_
   rintro e w8 ⟨⟨ya,yb,yc,yd,ye,yf⟩,rfl,ok8,m8⟩
   have HP8:Hid (PartsAt (w8.alloc (.cells #[.int .i64 1,.func ya #[] yb,.func (.func yc) #[] yd,.func (.func ye) #[] yf] 146)) (.slice (some ⟨w8.heap.size,0,none⟩) 1 1) [.result]):=PartsAt.new w8 [(.result,⟨ya,yb,yc,yd,ye,yf⟩)] (by
    simp only [List.mem_cons,List.not_mem_nil,or_false]
    rintro x rfl
    exact ok8) _ rfl 1 rfl (by decide)
   have HM8:Hid (Mods Nil' w (w8.alloc (.cells #[.int .i64 1,.func ya #[] yb,.func (.func yc) #[] yd,.func (.func ye) #[] yf] 146))):=(HM.out.trans m8).alloc _
   have HO8:Hid (OpsIn w.heap.size (w8.alloc (.cells #[.int .i64 1,.func ya #[] yb,.func (.func yc) #[] yd,.func (.func ye) #[] yf] 146)) u3 bs (arS 12)):=HO.out.mods (m8.alloc _)
   clear ok8 m8 HO HM
   simp only [PV.cells,PK.fills]
   go_wp2_with fail;generalize w8.alloc (.cells #[.int .i64 1,.func ya #[] yb,.func (.func yc) #[] yd,.func (.func ye) #[] yf] 146)=W8 at *;generalize w8.heap.size=g8 at *
   have HL:Hid (bs.length<=100):=by
    have:=HO8.out.len
    rw [arS_len 12 (by omega)] at this
    exact (by omega:bs.length<=100)
   have X0:Hid (Mods Nil' W8 W8):=Mods.refl _ _
   refine (in64_any _ _ _).mono ?_
   rintro e p0 ⟨fp0,cp0,rfl,mp0⟩
   have X1:Hid (Mods Nil' W8 p0):=X0.out.trans mp0
   have MP0:Hid _:=mp0
   clear mp0;go_wp2_with fail
   refine (become_any _ _ _ _ _).mono ?_
   rintro e v0 ⟨fb0,cb0,rfl,mb0⟩
   have X2:Hid (Mods Nil' W8 v0):=X1.out.trans mb0
   have MB0:Hid _:=mb0
   clear mb0;go_wp2_with fail
   refine (row_go _ _ 13 rfl _ [110,101,103] rfl _ [.result] _ _ (HP8.out.mods X2.out) (by decide) (by decide)).mono ?_
   rintro e r0 ⟨b0,rfl,hr0,hb0,mr0⟩
   have X3:Hid (Mods Nil' W8 r0):=X2.out.trans mr0
   have HR0:Hid _:=hr0
   have MR0:Hid _:=mr0
   have HB0:=hid hb0;clear hr0 hb0 mr0;go_wp2_with fail
   refine (in32_any _ _ _).mono ?_
   rintro e p1 ⟨fp1,cp1,rfl,mp1⟩
   have X4:Hid (Mods Nil' W8 p1):=X3.out.trans mp1
   have MP1:Hid _:=mp1
   clear mp1;go_wp2_with fail
   refine (become_any _ _ _ _ _).mono ?_
   rintro e v1 ⟨fb1,cb1,rfl,mb1⟩
   have X5:Hid (Mods Nil' W8 v1):=X4.out.trans mb1
   have MB1:Hid _:=mb1
   clear mb1;go_wp2_with fail
   refine (row_go _ _ 29 rfl _ [110,101,103,51,50] rfl _ [.result] _ _ (HP8.out.mods X5.out) (by decide) (by decide)).mono ?_
   rintro e r1 ⟨b1,rfl,hr1,hb1,mr1⟩
   have X6:Hid (Mods Nil' W8 r1):=X5.out.trans mr1
   have HR1:Hid _:=hr1
   have MR1:Hid _:=mr1
   have HB1:=hid hb1;clear hr1 hb1 mr1
   go_wp2_with (at_builtin;refine wpList_append_sl _ rfl (.tmp 68) (.tmp 77) 82 rfl 96 iP (.pointer none) 1 8 Tryz.underlying82 hiP hzP hsP hbP rfl (by decide) u3 bs.length (bs.map ptrV) rfl (HO8.out.mods (X6.out.alloc _)).sl ⟨r1.heap.size,0,none⟩ 2 2 [ptrV b0,ptrV b1] rfl rfl (news_cells _ _ _ _ rfl) (ptrs_one [b0,b1]) (by have:=HL.out;unfold maxLen;omega) (by have:=HL.out;omega) ?_;intro vA wA sA mA lA;obtain ⟨oA,cA,rfl,_⟩:=Sl.view sA)
   have H01:b0<b1:=by have:=HR0.out.lt;have:=MP1.out.size;have:=MB1.out.size;have:=HB1.out;omega
   have H0:W8.heap.size<=b0:=by have:=HB0.out;have:=X2.out.size;omega
   have HG:Hid (OpsIn w.heap.size wA (.slice oA (bs.length+2) cA) (bs++[b0,b1]) (arS 12++[rowS 13 [110,101,103] [.result],rowS 29 [110,101,103,51,50] [.result]])) :=
    OpsIn.grow [b0,b1] _ HO8.out (X6.out.alloc _) rfl (by simp;omega) (by simp;omega) (fun i h h'=>by
     have hi:i=0\/i=1:=by simp at h;omega
     rcases hi with rfl | rfl
     ·exact (((HR0.out.mods MP1.out).mods MB1.out).mods MR1.out).mods ((Mods.refl _ _).alloc _)
     ·exact HR1.out.mods ((Mods.refl _ _).alloc _)) sA mA lA HM8.out.size
   have HMA:Hid (Mods Nil' w wA):=(HM8.out.trans (X6.out.alloc _)).step mA (fun i hi h=>by have:=HO8.out.own i h;omega)
   clear H01 H0;go_ret
   exact ⟨_,_,rfl,HG.out,HMA.out⟩
end Go.Proofs.YtoknbkfclhmapaaGreatDoor
