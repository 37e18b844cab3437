import Derived.Test.YtoknbkfclhmapaaGreatDoorC27
import Derived.Lib.AppendZerosOnto
import Derived.Lib.SliceRun
namespace Go.Proofs.YtoknbkfclhmapaaGreatDoor
open Go.RowKit
def callO:OpS:=⟨193,[],[],1,false,false,1,true⟩
theorem call_sem (w:World):OpSem w 106 #[] 107 #[] callO where
 wr:=fun w' x _ _ hx hn=>by simpa using writeCall_any callO rfl x hx hn w'
 nd:=fun w' x _ hx=>by simpa using needCall_any callO rfl x hx w'
 e7:=enters_of Tryz.func106 (by kernel_rfl) rfl
 e8:=enters_of Tryz.func107 (by kernel_rfl) rfl
theorem PartsAt.none (w:World):PartsAt w (.slice none 0 0) []:=⟨[],rfl,fun x h=>(by cases h),Sl.nil _ _ _⟩
set_option maxRecDepth 100000 in
set_option maxHeartbeats 1000000 in
theorem otherOps_any (w:World):Calls Tryz.prog 59 #[] w fun e w'=>∃ v bs,e=.returned v/\OpsIn w.heap.size w' v bs otherS/\Mods Nil' w w':=by
 go_enter Tryz.func59,Tryz.ntmps59
 go_wp2_with fail
 refine (part_result _).mono ?_
 rintro e aw0 ⟨⟨ax0a,ax0b,ax0c,ax0d,ax0e,ax0f⟩,rfl,ak0,am0⟩
 go_wp2_with fail
 refine (part_comma _).mono ?_
 rintro e aw1 ⟨⟨ax1a,ax1b,ax1c,ax1d,ax1e,ax1f⟩,rfl,ak1,am1⟩
 go_wp2_with fail
 refine (part_wide _).mono ?_
 rintro e aw2 ⟨⟨ax2a,ax2b,ax2c,ax2d,ax2e,ax2f⟩,rfl,ak2,am2⟩
 have aHP:Hid (PartsAt (aw2.alloc (.cells #[.int .i64 1,.func ax0a #[] ax0b,.func (.func ax0c) #[] ax0d,.func (.func ax0e) #[] ax0f,.int .i64 0,.func ax1a #[] ax1b,.func (.func ax1c) #[] ax1d,.func (.func ax1e) #[] ax1f,.int .i64 10,.func ax2a #[] ax2b,.func (.func ax2c) #[] ax2d,.func (.func ax2e) #[] ax2f] 146)) (.slice (some ⟨aw2.heap.size,0,none⟩) 3 3) [.result,.comma,.wide]):=PartsAt.new aw2 [(.result,⟨ax0a,ax0b,ax0c,ax0d,ax0e,ax0f⟩),(.comma,⟨ax1a,ax1b,ax1c,ax1d,ax1e,ax1f⟩),(.wide,⟨ax2a,ax2b,ax2c,ax2d,ax2e,ax2f⟩)] (by
  simp only [List.mem_cons,List.not_mem_nil,or_false]
  rintro x (rfl | rfl | rfl)
  ·exact ((ak0.mods am1).mods am2)
  ·exact (ak1.mods am2)
  ·exact ak2) _ rfl 3 rfl (by decide)
 have aHM:Hid (Mods Nil' w (aw2.alloc (.cells #[.int .i64 1,.func ax0a #[] ax0b,.func (.func ax0c) #[] ax0d,.func (.func ax0e) #[] ax0f,.int .i64 0,.func ax1a #[] ax1b,.func (.func ax1c) #[] ax1d,.func (.func ax1e) #[] ax1f,.int .i64 10,.func ax2a #[] ax2b,.func (.func ax2c) #[] ax2d,.func (.func ax2e) #[] ax2f] 146))):=((((Mods.refl Nil' w).trans am0).trans am1).trans am2).alloc _
 clear ak0 am0 ak1 am1 ak2 am2
 simp only [PV.cells,PK.fills,Int.cast_ofNat_Int]
 go_wp2_with fail;generalize aw2.alloc (.cells #[.int .i64 1,.func ax0a #[] ax0b,.func (.func ax0c) #[] ax0d,.func (.func ax0e) #[] ax0f,.int .i64 0,.func ax1a #[] ax1b,.func (.func ax1c) #[] ax1d,.func (.func ax1e) #[] ax1f,.int .i64 10,.func ax2a #[] ax2b,.func (.func ax2c) #[] ax2d,.func (.func ax2e) #[] ax2f] 146)=W1 at *;generalize aw2.heap.size=g1 at *
 refine (row_go _ _ 192 rfl _ [119,105,100,101] rfl _ [.result,.comma,.wide] _ _ aHP.out (by decide) (by decide)).mono ?_
 rintro e w4 ⟨b4,rfl,h4,l4,m4⟩
 have h5:=(h4.slots 2).refers 2
 have HL4:Hid (w.heap.size<=b4):=by have:=aHM.out.size;exact (by omega:w.heap.size<=b4)
 have HM5:Hid (Mods Nil' w ((w4.setCell ⟨b4,2,none⟩ (.int .i64 2)).setCell ⟨b4,5,none⟩ (.int .i64 2))):=((aHM.out.trans m4).set (.inr HL4.out) _).set (.inr HL4.out) _
 have H5:=hid h5;obtain ⟨o1,n1,c1,f6,c6,k7,c7,k8,c8,f9,c9,hblk,_⟩:=h4.ex
 have z2:=hblk.cell 2
 have fz2:=hblk.frozen 2
 have hblk2:=hblk.set 2 (.int .i64 2)
 have z5:=hblk2.cell 5
 have fz5:=hblk2.frozen 5
 simp at z2 z5
 have HZ:Hid (((w4.setCell ⟨b4,2,none⟩ (.int .i64 2)).setCell ⟨b4,5,none⟩ (.int .i64 2)).heap.size=w4.heap.size):=by simp [Hid,World.setCell]
 have HB4:=hid h4.lt;clear hblk hblk2 h4 h5 aHP aHM m4 l4;go_wp2_with fail;generalize (w4.setCell ⟨b4,2,none⟩ (.int .i64 2)).setCell ⟨b4,5,none⟩ (.int .i64 2)=W5 at *
 have HC:Hid (OpAt ((W5.alloc (.cells #[.string ⟨#[104,101,108,112]⟩,.string ⟨#[99,97,108,108]⟩] 9)).alloc (.cells #[.int .u8 193,.slice (some ⟨w4.heap.size,0,none⟩) 2 2,.int .i64 1,.bool false,.bool false,.int .i64 1,.func (.func 105) #[] #[],.func (.func 106) #[] #[],.func (.func 107) #[] #[],.func (.func 108) #[] #[]] 128)) (w4.heap.size+1) callO):=by
  have hb:Blk ((W5.alloc (.cells #[.string ⟨#[104,101,108,112]⟩,.string ⟨#[99,97,108,108]⟩] 9)).alloc (.cells #[.int .u8 193,.slice (some ⟨w4.heap.size,0,none⟩) 2 2,.int .i64 1,.bool false,.bool false,.int .i64 1,.func (.func 105) #[] #[],.func (.func 106) #[] #[],.func (.func 107) #[] #[],.func (.func 108) #[] #[]] 128)) (w4.heap.size+1) #[.int .u8 193,.slice (some ⟨w4.heap.size,0,none⟩) 2 2,.int .i64 1,.bool false,.bool false,.int .i64 1,.func (.func 105) #[] #[],.func (.func 106) #[] #[],.func (.func 107) #[] #[],.func (.func 108) #[] #[]] 128:=by
   have:=Blk.new (W5.alloc (.cells #[.string ⟨#[104,101,108,112]⟩,.string ⟨#[99,97,108,108]⟩] 9)) #[.int .u8 193,.slice (some ⟨w4.heap.size,0,none⟩) 2 2,.int .i64 1,.bool false,.bool false,.int .i64 1,.func (.func 105) #[] #[],.func (.func 106) #[] #[],.func (.func 107) #[] #[],.func (.func 108) #[] #[]] 128
   have e:(W5.alloc (.cells #[.string ⟨#[104,101,108,112]⟩,.string ⟨#[99,97,108,108]⟩] 9)).heap.size=w4.heap.size+1:=by
    have:=HZ.out
    simp
    omega
   rw [e] at this;exact this
  exact ⟨_,_,_,_,_,_,_,_,_,_,_,hb,call_sem _⟩
 have H6:Hid (OpAt ((W5.alloc (.cells #[.string ⟨#[104,101,108,112]⟩,.string ⟨#[99,97,108,108]⟩] 9)).alloc (.cells #[.int .u8 193,.slice (some ⟨w4.heap.size,0,none⟩) 2 2,.int .i64 1,.bool false,.bool false,.int .i64 1,.func (.func 105) #[] #[],.func (.func 106) #[] #[],.func (.func 107) #[] #[],.func (.func 108) #[] #[]] 128)) b4 _):=H5.out.mods (((Mods.refl _ _).alloc _).alloc _)
 have HM6:Hid (Mods Nil' w ((W5.alloc (.cells #[.string ⟨#[104,101,108,112]⟩,.string ⟨#[99,97,108,108]⟩] 9)).alloc (.cells #[.int .u8 193,.slice (some ⟨w4.heap.size,0,none⟩) 2 2,.int .i64 1,.bool false,.bool false,.int .i64 1,.func (.func 105) #[] #[],.func (.func 106) #[] #[],.func (.func 107) #[] #[],.func (.func 108) #[] #[]] 128))):=(HM5.out.alloc _).alloc _
 have HS6:Hid (((W5.alloc (.cells #[.string ⟨#[104,101,108,112]⟩,.string ⟨#[99,97,108,108]⟩] 9)).alloc (.cells #[.int .u8 193,.slice (some ⟨w4.heap.size,0,none⟩) 2 2,.int .i64 1,.bool false,.bool false,.int .i64 1,.func (.func 105) #[] #[],.func (.func 106) #[] #[],.func (.func 107) #[] #[],.func (.func 108) #[] #[]] 128)).heap.size=w4.heap.size+2):=by
  have:=HZ.out
  simp [Hid]
  omega
 clear H5 HM5 HZ;generalize (W5.alloc (.cells #[.string ⟨#[104,101,108,112]⟩,.string ⟨#[99,97,108,108]⟩] 9)).alloc (.cells #[.int .u8 193,.slice (some ⟨w4.heap.size,0,none⟩) 2 2,.int .i64 1,.bool false,.bool false,.int .i64 1,.func (.func 105) #[] #[],.func (.func 106) #[] #[],.func (.func 107) #[] #[],.func (.func 108) #[] #[]] 128)=W6 at *
 refine (row_go _ _ 194 rfl _ [101,120,105,116] rfl _ [] _ _ (PartsAt.none W6) (by decide) (by decide)).mono ?_
 rintro e w7 ⟨b7,rfl,h7,l7,m7⟩
 have h8:=h7.ends
 have HL7:Hid (w4.heap.size+2<=b7):=by have:=HS6.out;exact (by omega:w4.heap.size+2<=b7)
 have HLW:Hid (w.heap.size<=b7):=by have:=HL4.out;have:=HB4.out;have:=HL7.out;exact (by omega:w.heap.size<=b7)
 have HM8:Hid (Mods Nil' w (w7.setCell ⟨b7,4,none⟩ (.bool true))):=(HM6.out.trans m7).set (.inr HLW.out) _
 have H8:=hid h8
 have H84:Hid (OpAt (w7.setCell ⟨b7,4,none⟩ (.bool true)) b4 _):=(H6.out.mods m7).other h7.opblk (by have:=HB4.out;have:=HL7.out;omega) 4 _
 have H8C:Hid (OpAt (w7.setCell ⟨b7,4,none⟩ (.bool true)) (w4.heap.size+1) callO):=(HC.out.mods m7).other h7.opblk (by have:=HL7.out;omega) 4 _
 obtain ⟨o2,n2,c2',f6',c6',k7',c7',k8',c8',f9',c9',hblk',_⟩:=h7.ex
 have y4:=hblk'.cell 4
 have fy4:=hblk'.frozen 4
 simp at y4
 have HZ8:Hid ((w7.setCell ⟨b7,4,none⟩ (.bool true)).heap.size=w7.heap.size):=by simp [Hid,World.setCell]
 clear hblk' h7 h8 m7 l7 HC H6 HM6;go_wp2_with fail;go_ret
 refine ⟨_,[b4,w4.heap.size+1,b7],rfl,?_,HM8.out.alloc _⟩
 show OpsIn w.heap.size _ (.slice (some ⟨w7.heap.size,0,none⟩) 3 3) _ _
 rw [<- HZ8.out]
 refine OpsIn.fresh [b4,w4.heap.size+1,b7] otherS rfl ?_ ?_ ?_ _ rfl 3 rfl (by decide) HM8.out.size
 ·have:=HB4.out
  have:=HL7.out
  simp
  omega
 ·have:=HL4.out
  have:=HB4.out
  have:=HL7.out
  simp
  omega
 ·intro i h h'
  have hi:i=0\/i=1\/i=2:=by simp at h;omega
  rcases hi with rfl | rfl | rfl
  ·exact H84.out
  ·exact H8C.out
  ·exact H8.out
set_option maxRecDepth 100000 in
set_option maxHeartbeats 1000000 in
theorem grow_any (w:World) (n:Nat) (h0:0<n) (hn:n<=1000):Calls Tryz.prog 80 #[.slice none 0 0,.int .i64 n] w fun e w'=>∃ cap,e=.returned (.slice (some ⟨w.heap.size,0,none⟩) 0 cap)/\Sl w' 96 1 (.slice (some ⟨w.heap.size,0,none⟩) 0 cap) 0 []/\Mods Nil' w w':=by
 obtain ⟨iP,hiP,hzP,hsP,hbP⟩:=info_parts info_pop
 have hold:(Builtin.firstCells iP.size 0 (.slice none 0 0)).run Tryz.prog w.drew=.ok ([]:List Value).toArray w.drew:=run_firstCells_none w.drew iP.size 0 0 0
 have hrz:∀ ty,(Builtin.append_ #[82,3] ty #[.slice none 0 0,.int .i64 n]).run Tryz.prog w =
   .ok (.slice (some ⟨w.heap.size,0,none⟩) n (grownCap w n 0 96)) (w.drew.alloc (.cells (([]:List Value).toArray++Builtin.zeroCells (Value.pointer none).cells n++Builtin.zeroCells (Value.pointer none).cells (grownCap w n 0 96 - n)) 96)):=fun ty=>by
  have h:=Lib.run_append_grow_zeros w 82 3 ty 96 iP (.pointer none) .i64 .i64 Tryz.underlying82 Tryz.underlying3 hiP hzP none 0 0 [] hold n h0 (by rw [hsP];decide) (by omega) (by omega) (by rw [hbP];omega)
   (by rw [hbP,Nat.zero_add];exact growslice_fits (by omega) (by omega))
  rw [Nat.zero_add] at h;exact h
 have hGn:n<=grownCap w n 0 96:=grownCap_ge w _ _ _
 have hGm:grownCap w n 0 96<=maxLen:=grownCap_le_maxLen w n 0 96 (by unfold maxLen;omega)
 have hsz:(([]:List Value).toArray++Builtin.zeroCells (Value.pointer none).cells n++Builtin.zeroCells (Value.pointer none).cells (grownCap w n 0 96 - n)).size=grownCap w n 0 96:=by
  simp [Builtin.zeroCells,Value.cells]
  omega
 generalize ([]:List Value).toArray++Builtin.zeroCells (Value.pointer none).cells n++Builtin.zeroCells (Value.pointer none).cells (grownCap w n 0 96 - n)=cs at *
 generalize grownCap w n 0 96=G at *
 have hS:Sl (w.drew.alloc (.cells cs 96)) 96 1 (.slice (some ⟨w.heap.size,0,none⟩) 0 G) 0 []:=SlB.sl ⟨Nat.zero_le _,hGm,by omega,by simp,rfl⟩ (Blk.new w.drew cs 96)
 have HS:Hid _:=hS
 unfold maxLen at hGm;clear hold hS
 go_enter Tryz.func80,Tryz.ntmps80
 go_wp2_with (at_builtin;refine Lib.wpList_append_run _ rfl _ _ _ _ rfl _ _ rfl rfl _ _ (hrz _) ?_)
 all_goals
  go_ret
  exact ⟨G,rfl,HS.out,(Mods.refl _ _).drew.alloc _⟩
structure Seg where
 g:Nat
 c:Nat
 bs:List Nat
 os:List OpS
def Seg.val (s:Seg):Value:=.slice (some ⟨s.g,0,none⟩) s.bs.length s.c
theorem OpsIn.keep {base:Nat} {w w':World} {v u:Value} {bs:List Nat} {os:List OpS} {n:Nat} {xs:List Value} (h:OpsIn base w v bs os) (hu:Sl w 96 1 u n xs) (m:Mods (fun k=>u.ownBlock=some k) w w') (hne:∀ k,v.ownBlock=some k->u.ownBlock≠some k):OpsIn base w' v bs os:=by
 have hk:=Mods.kpSl hu m
 refine ⟨h.len,h.nd,h.sl.mods m (fun k hk' e=>hne k hk' e),fun i h1 h2=>?_,h.lo,h.own⟩
 have ha:=h.at' i h1 h2
 exact ha.kpb hk (m.block _ ha.lt (fun e=>ha.notOwn hu e))
structure CRel (w0:World) (segs:List Seg) (k:Nat) (v:Value) (w:World):Prop where
 acc:OpsIn 0 w v ((segs.take k).flatMap Seg.bs) ((segs.take k).flatMap Seg.os)
 each:∀ s∈segs,OpsIn 0 w s.val s.bs s.os
 own:∀ s∈segs,v.ownBlock≠some s.g
 new:∀ j,v.ownBlock=some j->w0.heap.size<=j
 md:Mods Nil' w0 w
theorem seg_sum_le (segs:List Seg) (k:Nat) (hs:∀ s∈segs,s.bs.length<=100):((segs.take k).flatMap Seg.bs).length<=100*segs.length:=by
 have h:∀ l:List Seg,(∀ s∈l,s.bs.length<=100)->(l.flatMap Seg.bs).length<=100*l.length:=by
  intro l
  induction l with
  | nil=>intro _;simp
  | cons x l ih =>
   intro hl
   have h1:=hl x (by simp)
   have h2:=ih (fun s hs=>hl s (List.mem_cons_of_mem _ hs))
   rw [List.flatMap_cons,List.length_append,List.length_cons]
   omega
 have h1:=h (segs.take k) (fun s hs'=>hs s (List.mem_of_mem_take hs'))
 have h2:(segs.take k).length<=segs.length:=by simp;omega
 omega
theorem seg_sum_step (segs:List Seg) (k:Nat) (h:k<segs.length):((segs.take (k+1)).flatMap Seg.bs).length=((segs.take k).flatMap Seg.bs).length+segs[k].bs.length:=by
 rw [List.take_succ_eq_append_getElem h,List.flatMap_append,List.length_append]
 simp
theorem seg_pos (segs:List Seg) (h0:0<segs.length) (h:∀ s∈segs,0<s.bs.length):0<(segs.flatMap Seg.bs).length:=by
 match segs,h0,h with
 | s::l,_,h =>
  have:=h s List.mem_cons_self
  rw [List.flatMap_cons,List.length_append]
  omega
theorem CRel.step {w0 w w':World} {segs:List Seg} {k:Nat} {v v':Value} (h:CRel w0 segs k v w) (hk:k<segs.length) (hnd:(segs.flatMap Seg.bs).Nodup)
  (hsl:Sl w' 96 1 v' (((segs.take k).flatMap Seg.bs).length+segs[k].bs.length) (((segs.take k).flatMap Seg.bs).map ptrV++segs[k].bs.map ptrV)) (m:Mods (fun j=>v.ownBlock=some j) w w') (ho:∀ j,v'.ownBlock=some j->v.ownBlock=some j\/w.heap.size<=j):CRel w0 segs (k+1) v' w':=by
 have e1:(segs.take (k+1)).flatMap Seg.bs=(segs.take k).flatMap Seg.bs++segs[k].bs:=by
  rw [List.take_succ_eq_append_getElem hk,List.flatMap_append];simp
 have e2:(segs.take (k+1)).flatMap Seg.os=(segs.take k).flatMap Seg.os++segs[k].os:=by
  rw [List.take_succ_eq_append_getElem hk,List.flatMap_append];simp
 have hs:=h.each segs[k] (List.getElem_mem hk)
 refine ⟨?_,fun s hs'=>?_,fun s hs' e=>?_,fun j hj=>?_,h.md.step m (fun i hi e=>by have:=h.new i e;omega)⟩
 ·rw [e1,e2]
  refine h.acc.app hs.len ?_ hs.at' hs.lo hsl m ho (Nat.zero_le _)
  rw [<- e1]
  have e3:segs.flatMap Seg.bs=(segs.take (k+1)).flatMap Seg.bs++(segs.drop (k+1)).flatMap Seg.bs:=by
   rw [<- List.flatMap_append,List.take_append_drop]
  rw [e3] at hnd
  exact (List.nodup_append.1 hnd).1
 ·exact (h.each s hs').keep h.acc.sl m (fun j hj e=>h.own s hs' (by rw [e];cases hj;rfl))
 ·rcases ho _ e with e' | e'
  ·exact h.own s hs' e'
  ·have:=(h.each s hs').sl.lt s.g rfl
   omega
 ·rcases ho j hj with e | e
  ·exact h.new j e
  ·have:=h.md.size
   omega
set_option maxRecDepth 100000 in
set_option maxHeartbeats 1000000 in
theorem concat_any (w:World) (g c:Nat) (segs:List Seg) (hS:Sl w 82 1 (.slice (some ⟨g,0,none⟩) segs.length c) segs.length (segs.map Seg.val)) (he:∀ s∈segs,OpsIn 0 w s.val s.bs s.os) (hb:∀ s∈segs,0<s.bs.length/\s.bs.length<=100) (hl:segs.length<=10) (h0:0<segs.length) (hnd:(segs.flatMap Seg.bs).Nodup) :
  Calls Tryz.prog 55 #[.slice (some ⟨g,0,none⟩) segs.length c] w fun e w'=>∃ v,e=.returned v/\OpsIn 0 w' v (segs.flatMap Seg.bs) (segs.flatMap Seg.os)/\Mods Nil' w w':=by
 obtain ⟨iP,hiP,hzP,hsP,hbP⟩:=info_parts info_pop
 have hcell:∀ (k:Nat) (hk:k<segs.length),w.cell? ⟨g,k,none⟩=some (.slice (some ⟨segs[k].g,0,none⟩) segs[k].bs.length segs[k].c):=by
  intro k hk;obtain ⟨g',hg',cs⟩:=hS.at rfl k hk
  cases hg'
  rw [cs k hk]
  simp [hk,Seg.val]
 have hglt:g<w.heap.size:=hS.lt g rfl
 have hgne:∀ s∈segs,g≠s.g:=by
  intro s hs e
  have h1:=(he s hs).sl
  rcases h1.2 with ⟨h1,_⟩ | ⟨g1,_,_,hv,_,hb1,_⟩
  ·cases h1
  ·cases hv
   rcases hS.2 with ⟨h2,_⟩ | ⟨g2,_,_,hv2,_,hb2,_⟩
   ·cases h2
   ·cases hv2
    rw [e] at hb2;rw [hb1] at hb2
    cases hb2
 have HC:=hid hcell;have HE:=hid he;have HB:=hid hb
 have HND:Hid _:=hnd
 obtain ⟨F,HF⟩:∃ F:Nat->Nat,Hid (∀ k,F k=((segs.take k).flatMap Seg.bs).length):=⟨fun k=>((segs.take k).flatMap Seg.bs).length,fun _=>rfl⟩
 obtain ⟨X,HX⟩:∃ X:Nat->List Value,Hid (∀ k,X k=((segs.take k).flatMap Seg.bs).map ptrV):=⟨fun k=>((segs.take k).flatMap Seg.bs).map ptrV,fun _=>rfl⟩
 have HSUM:Hid (∀ k,F k<=1000):=fun k=>by
  have:=seg_sum_le segs k (fun s hs=>(HB.out s hs).2)
  rw [HF.out k]
  omega
 have HST:Hid (∀ k (hk:k<segs.length),F (k+1)=F k+segs[k].bs.length):=fun k hk=>by
  rw [HF.out,HF.out];exact seg_sum_step segs k hk
 have HF0:Hid (F 0=0):=by rw [Hid,HF.out];rfl
 have HP:Hid (0<F segs.length):=by
  rw [Hid,HF.out,List.take_length]
  exact seg_pos segs h0 (fun s hs=>(HB.out s hs).1)
 clear hcell he hb hnd hS hgne
 go_enter Tryz.func55,Tryz.ntmps55
 go_upto_block 0 with fail
 go_cut [3] (fun sv wl=>sv=.int .i64 (F segs.length)/\wl=w)
 case first =>
  go_wp2_with fail
  go_loop [3,11] (fun sv i=>∃ k:Nat,k<=segs.length/\i=.int .i64 k/\sv=.int .i64 (F k)) (fun _ i=>segs.length - (intOf i).toNat)
  case atStart=>exact ⟨0,Nat.zero_le _,rfl,by rw [HF0.out];rfl⟩
  case round =>
   obtain ⟨k,hk,rfl,rfl⟩:=hrel
   by_cases hlt:k<segs.length
   ·have ck:=HC.out k hlt
    have e1:=HST.out k hlt
    have e2:=HSUM.out k
    have e3:=HSUM.out (k+1)
    have HK:=hid e1;rw [e1] at e3;clear e1;generalize segs[k].bs.length=sn at *;generalize segs[k].g=sg at *;generalize segs[k].c=sc at *;go_wp2_with fail
    go_round
    case rel=>exact ⟨k+1,by omega,by go_num,by rw [HK.out];go_num⟩
    case measure=>simp [intOf];omega
   ·obtain rfl:k=segs.length:=by omega
    go_wp2_with fail;go_meet
    exact ⟨rfl,rfl⟩
 case rest =>
 obtain ⟨rfl,hw⟩:=hcut
 have hw':=hw.symm
 clear hw;subst hw'
 have hp:=HP.out
 have hm:=HSUM.out segs.length
 go_wp2_with fail
 refine (grow_any _ _ hp hm).mono ?_
 rintro e w1 ⟨cap,rfl,s1,m1⟩
 have HR:Hid (CRel w segs 0 (.slice (some ⟨w.heap.size,0,none⟩) 0 cap) w1):=⟨⟨rfl,List.nodup_nil,s1,fun i h=>absurd h (by simp),fun b h=>(by cases h),fun _ _=>Nat.zero_le _⟩,fun s hs=>(HE.out s hs).mods m1,fun s hs e=>by
  have h1:=(HE.out s hs).sl.lt s.g rfl
  have h2:w.heap.size=s.g:=Option.some.inj e
  omega,fun j hj=>by cases hj;exact Nat.le_refl _,m1⟩
 clear s1 m1;generalize F segs.length=FL at *;go_wp2_with fail
 go_loopw [6,27] (fun v i wl=>∃ k:Nat,k<=segs.length/\i=.int .i64 k/\CRel w segs k v wl) (fun _ i _=>segs.length - (intOf i).toNat)
 case atStart=>exact ⟨0,Nat.zero_le _,rfl,HR.out⟩
 case round =>
  obtain ⟨k,hk,rfl,hr⟩:=hrel;clear HR;have HR:=hid hr
  by_cases hlt:k<segs.length
  ·have hlt':k<segs.length:=hlt
   have ck:=cell_mods hr.md (HC.out k hlt)
   have HSg:Hid (OpsIn 0 wr segs[k].val segs[k].bs segs[k].os):=hr.each segs[k] (List.getElem_mem hlt')
   have hbk:=HB.out segs[k] (List.getElem_mem hlt')
   have HNw:Hid (∀ j u,(segs[k].bs.map ptrV)[j]?=some u->wr.cell? ((⟨segs[k].g,0,none⟩:Addr).add j)=some u):=fun j u hu=>by
    obtain ⟨g',hg',cs⟩:=HSg.out.sl.at rfl 0 hbk.1
    cases hg'
    have hadd:(⟨segs[k].g,0,none⟩:Addr).add j=⟨segs[k].g,j,none⟩:=by unfold Addr.add;split<;>simp_all
    have hj:j<segs[k].bs.length:=by
     have:=(List.getElem?_eq_some_iff.1 hu).1
     simpa using this
    rw [hadd,cs j hj];exact hu
   have e2:=HSUM.out k
   have e3:=HSUM.out (k+1)
   rw [HST.out k hlt'] at e3
   have HSl:Hid (Sl wr 96 1 u6 (F k) (X k)):=by
    have:=hr.acc.sl
    rw [Hid,HF.out,HX.out];exact this
   have HStep:Hid (∀ v' w',Sl w' 96 1 v' (F k+segs[k].bs.length) (X k++segs[k].bs.map ptrV)->Mods (fun j=>u6.ownBlock=some j) wr w'->(∀ j,v'.ownBlock=some j->u6.ownBlock=some j\/wr.heap.size<=j)->CRel w segs (k+1) v' w'):=fun v' w' s m l=>by
    rw [HF.out,HX.out] at s;exact HR.out.step hlt' HND.out s m l
   have HN1:Hid ((segs[k].bs.map ptrV).length=segs[k].bs.length*1):=by simp [Hid]
   have HN2:Hid (∀ u∈segs[k].bs.map ptrV,u.oneCell'=true):=ptrs_one _
   clear hr HSg;generalize segs[k].bs.map ptrV=nws at *;generalize segs[k].bs.length=sn at *;generalize segs[k].g=sg at *;generalize segs[k].c=sc at *;generalize X k=xk at *;generalize F k=fk at *
   go_wp2_with (at_builtin;refine wpList_append_sl _ rfl (.tmp 31) (.tmp 32) 82 rfl 96 iP (.pointer none) 1 8 Tryz.underlying82 hiP hzP hsP hbP rfl (by decide) u6 fk xk rfl HSl.out ⟨sg,0,none⟩ sn sc nws rfl HN1.out HNw.out HN2.out (by unfold maxLen;omega) (by omega) ?_;intro vA wA sA mA lA;obtain ⟨oA,cA,rfl,_⟩:=Sl.view sA)
   go_roundw
   case rel=>exact ⟨k+1,by omega,by go_num,HStep.out _ _ sA mA lA⟩
   case measure=>simp [intOf];omega
  ·obtain rfl:k=segs.length:=by omega
   have hA:=HR.out.acc
   rw [List.take_length] at hA
   have HA:Hid _:=hA
   clear hA hr;go_wp2_with fail;go_ret
   exact ⟨_,rfl,HA.out,HR.out.md⟩
theorem OpsIn.base {base b2:Nat} {w:World} {v:Value} {bs:List Nat} {os:List OpS} (h:OpsIn base w v bs os) (hb:b2<=base):OpsIn b2 w v bs os :=
 ⟨h.len,h.nd,h.sl,h.at',fun b hb'=>Nat.le_trans hb (h.lo b hb'),fun k hk=>Nat.le_trans hb (h.own k hk)⟩
theorem OpsIn.seg {base:Nat} {w:World} {v:Value} {bs:List Nat} {os:List OpS} (h:OpsIn base w v bs os) (h0:0<os.length):∃ g c,v=.slice (some ⟨g,0,none⟩) bs.length c:=by
 obtain ⟨o,c,rfl,hh⟩:=h.sl.view
 obtain ⟨g,cs,rfl,_⟩:=hh (by rw [h.len];exact h0)
 exact ⟨g,c,rfl⟩
set_option maxRecDepth 100000 in
set_option maxHeartbeats 1000000 in
theorem table_any (w:World) (hE:EnvW w):Calls Tryz.prog 36 #[] w fun e w'=>∃ v bs,e=.returned v/\OpsIn 0 w' v bs tableS/\Mods Nil' w w':=by
 have HE:=hid hE;clear hE
 go_enter Tryz.func36,Tryz.ntmps36
 go_wp2_with fail
 refine (arithOps_any _).mono ?_
 rintro e w1 ⟨v1,bs1,rfl,o1,m1⟩
 obtain ⟨g1,c1,rfl⟩:=o1.seg (by decide)
 have O1:Hid _:=o1
 have M1:Hid _:=m1
 clear o1 m1;go_wp2_with fail
 refine (jumpOps_any _).mono ?_
 rintro e w2 ⟨v2,bs2,rfl,o2,m2⟩
 obtain ⟨g2,c2,rfl⟩:=o2.seg (by decide)
 have O2:Hid _:=o2
 have M2:Hid _:=m2
 clear o2 m2;go_wp2_with fail
 refine (memOps_any _ (HE.out.mods (M1.out.trans M2.out))).mono ?_
 rintro e w3 ⟨v3,bs3,rfl,o3,m3⟩
 obtain ⟨g3,c3,rfl⟩:=o3.seg (by decide)
 have O3:Hid _:=o3
 have M3:Hid _:=m3
 clear o3 m3;go_wp2_with fail
 refine (otherOps_any _).mono ?_
 rintro e w4 ⟨v4,bs4,rfl,o4,m4⟩
 obtain ⟨g4,c4,rfl⟩:=o4.seg (by decide)
 have O4:Hid _:=o4
 have M4:Hid _:=m4
 clear o4 m4
 have l1:bs1.length=50:=O1.out.len.trans (by decide)
 have l2:bs2.length=23:=O2.out.len.trans (by decide)
 have l3:bs3.length=12:=O3.out.len.trans (by decide)
 have l4:bs4.length=3:=O4.out.len.trans (by decide)
 have HK:Hid (∃ segs:List Seg,segs=[⟨g1,c1,bs1,arithS⟩,⟨g2,c2,bs2,jumpS⟩,⟨g3,c3,bs3,memS⟩,⟨g4,c4,bs4,otherS⟩]/\(∀ s∈segs,OpsIn 0 w4 s.val s.bs s.os)/\(∀ s∈segs,0<s.bs.length/\s.bs.length<=100)/\(segs.flatMap Seg.bs).Nodup):=by
  refine ⟨_,rfl,?_,?_,?_⟩
  ·simp only [List.mem_cons,List.not_mem_nil,or_false]
   rintro s (rfl | rfl | rfl | rfl)
   ·exact (((O1.out.mods M2.out).mods M3.out).mods M4.out).base (Nat.zero_le _)
   ·exact ((O2.out.mods M3.out).mods M4.out).base (Nat.zero_le _)
   ·exact (O3.out.mods M4.out).base (Nat.zero_le _)
   ·exact O4.out.base (Nat.zero_le _)
  ·simp only [List.mem_cons,List.not_mem_nil,or_false]
   rintro s (rfl | rfl | rfl | rfl)<;>simp only<;>omega
  ·have a1:=O1.out.lt
   have a2:=O2.out.lt
   have a3:=O3.out.lt
   have b2:=O2.out.lo
   have b3:=O3.out.lo
   have b4:=O4.out.lo
   have s2:=M2.out.size
   have s3:=M3.out.size
   simp only [List.flatMap_cons,List.flatMap_nil,List.append_nil]
   rw [List.nodup_append,List.nodup_append,List.nodup_append]
   refine ⟨O1.out.nd,⟨O2.out.nd,⟨O3.out.nd,O4.out.nd,fun a ha b hb e=>?_⟩,fun a ha b hb e=>?_⟩,fun a ha b hb e=>?_⟩
   ·have:=a3 a ha;have:=b4 b hb;omega
   ·rcases List.mem_append.1 hb with hb | hb
    ·have:=a2 a ha;have:=b3 b hb;omega
    ·have:=a2 a ha;have:=b4 b hb;omega
   ·rcases List.mem_append.1 hb with hb | hb
    ·have:=a1 a ha;have:=b2 b hb;omega
    ·rcases List.mem_append.1 hb with hb | hb
     ·have:=a1 a ha;have:=b3 b hb;omega
     ·have:=a1 a ha;have:=b4 b hb;omega
 have HM:Hid (Mods Nil' w w4):=((M1.out.trans M2.out).trans M3.out).trans M4.out
 rw [l1,l2,l3,l4]
 have HS:Hid (Sl (w4.alloc (.cells #[.slice (some ⟨g1,0,none⟩) 50 c1,.slice (some ⟨g2,0,none⟩) 23 c2,.slice (some ⟨g3,0,none⟩) 12 c3,.slice (some ⟨g4,0,none⟩) 3 c4] 82)) 82 1 (.slice (some ⟨w4.heap.size,0,none⟩) 4 4) 4 [.slice (some ⟨g1,0,none⟩) 50 c1,.slice (some ⟨g2,0,none⟩) 23 c2,.slice (some ⟨g3,0,none⟩) 12 c3,.slice (some ⟨g4,0,none⟩) 3 c4]) :=
  SlB.sl ⟨Nat.le_refl _,by unfold maxLen;decide,rfl,rfl,rfl⟩ (Blk.new w4 _ 82)
 clear O1 O2 O3 O4 M1 M2 M3 M4 HE;go_wp2_with fail;obtain ⟨segs,he,h1,h2,h3⟩:=HK.out
 have hS:Sl (w4.alloc (.cells #[.slice (some ⟨g1,0,none⟩) 50 c1,.slice (some ⟨g2,0,none⟩) 23 c2,.slice (some ⟨g3,0,none⟩) 12 c3,.slice (some ⟨g4,0,none⟩) 3 c4] 82)) 82 1 (.slice (some ⟨w4.heap.size,0,none⟩) segs.length 4) segs.length (segs.map Seg.val):=by
  rw [he]
  simp only [List.map_cons,List.map_nil,Seg.val,l1,l2,l3,l4]
  exact HS.out
 have hC:=concat_any _ _ _ segs hS (fun s hs=>(h1 s hs).mods ((Mods.refl _ _).alloc _)) h2 (by rw [he];simp) (by rw [he];simp) h3
 have e4:segs.length=4:=by rw [he];rfl
 rw [e4] at hC;refine hC.mono ?_;rintro e w5 ⟨v5,rfl,o5,m5⟩
 have O5:Hid (OpsIn 0 w5 v5 (segs.flatMap Seg.bs) tableS):=by
  have e5:segs.flatMap Seg.os=tableS:=by
   rw [he]
   simp only [List.flatMap_cons,List.flatMap_nil,List.append_nil,tableS,List.append_assoc]
  rw [Hid,<- e5];exact o5
 have M5:Hid (Mods Nil' w w5):=(HM.out.alloc _).trans m5
 clear o5 m5 hC hS;go_wp2_with fail;go_ret
 exact ⟨_,_,rfl,O5.out,M5.out⟩
end Go.Proofs.YtoknbkfclhmapaaGreatDoor
