import Derived.Test.YtnhcaifopaeohaaGreatDoorM24
namespace Go.Proofs.YtnhcaifopaeohaaGreatDoor
open Go.RowKit
set_option linter.all false
theorem OutAt.fnAt {w0 w:World} {bm:Nat} {oF:Option Addr} {nF cF:Nat} {lb:List Nat} {o:OL} (h:OutAt w0 bm (.slice oF nF cF) lb o w) (i:Nat) (hi:i<o.fs.length):∃ g,oF=some ⟨g,0,none⟩/\nF=o.fs.length/\o.fs.length<=cF/\∀ w',Mods Nil' w w'->∀ j (hj:j<(fnRow (lb[i]?.getD 0) o.fs[i]).toArray.size),w'.cell? ⟨g,i*3+j,none⟩=some (fnRow (lb[i]?.getD 0) o.fs[i]).toArray[j]:=by
 obtain ⟨o',c',hv,hb⟩:=h.sl.view
 injection hv with e1 e2 e3
 subst e1 e3
 obtain ⟨g,cs,rfl,hb,ht,hc,_⟩:=hb (by omega)
 refine ⟨g,rfl,e2,hc,fun w' m j hj=>?_⟩
 have hz:i<(lb.zip o.fs).length:=by rw [List.length_zip,h.len];omega
 have hj':j<3:=hj
 have hlb:i<lb.length:=by rw [h.len];exact hi
 rw [take_cell (hb.mods m id) ht (i*3+j) (by omega),fnRows,flat_get (fun x:Nat × OFn=>fnRow x.1 x.2) 3 (fun _=>rfl) (lb.zip o.fs) i j hz hj']
 rw [List.getElem_zip,List.getElem?_eq_getElem hlb]
 simp only [Option.getD_some,List.getElem_toArray]
 rw [List.getElem?_eq_getElem]
set_option maxRecDepth 100000 in
set_option maxHeartbeats 4000000 in
theorem funcF_any (wO w0 w:World) (b bm bM bF:Nat) (vF vL:Value) (lb:List Nat) (o:OL) (k:WK) (bs:List Nat) (x:PLn) (hO:OutAt wO bm vF lb o w0) (h:WkAt w0 b bm vF bM bF vL k w) (hx:x.kind=2) (hl:k.funcs.length<o.fs.length) (hl2:o.fs.length<=1000001) (hnd:k.funcs.Nodup) :
  Calls Tryz.prog 109 #[.pointer (some ⟨b,0,none⟩),.agg (x.cells bs)] w fun e w'=>e=.returned (.int .i64 (funcFaultP o k x))/\∃ vL',WkAt w0 b bm vF bM bF vL' (funcStepP k x) w':=by
 have HF:Hid (funcFaultP o k x=if 0<k.funcs.count x.name then 4 else if 16<k.funcs.length+1 then 1 else if (o.fs.getD k.funcs.length {}).ends=false then 6 else 0):=rfl
 have HGD:Hid (o.fs.getD k.funcs.length {}=o.fs[k.funcs.length]):=by
  rw [Hid,List.getD_eq_getElem?_getD,List.getElem?_eq_getElem hl];rfl
 have HCS:Hid ((x.cells bs).size=20):=cells_size bs x
 have HC1:Hid ((x.cells bs).all (·.oneCell')=true):=cells_one bs x
 have HCN:Hid ((x.cells bs)[1]?=some (.string (T x.name))):=cells_name bs x (by omega)
 have HCT:Hid (∀ W,CntAt W bF (x.name::k.funcs)->0<k.funcs.count x.name\/(Builtin.len_ #[61] 3 #[.map (some bF)]).run Tryz.prog W=.ok (.int .i64 ((k.funcs.length+1:Nat):Int)) W):=fun W hW=>by
  by_cases e:0<k.funcs.count x.name
  ·exact .inl e
  ·exact .inr (hW.size (List.nodup_cons.2 ⟨fun hm=>e (List.count_pos_iff.2 hm),hnd⟩))
 have HLK:Hid (∀ W,CntAt W bF (x.name::k.funcs)->(Instr.lookup 61 (.map (some bF)) (.string (T x.name)) false).run Tryz.prog W=.ok (.int .i64 ((k.funcs.count x.name+1:Nat):Int)) W):=fun W hW=>by
  have:=hW.look x.name
  rwa [List.count_cons_self] at this
 have hcn:k.funcs.count x.name<=1000001:=Nat.le_trans List.count_le_length (by omega)
 have HWK:=hid h;obtain ⟨vo,vc,hvF,_⟩:=hO.sl.view;subst hvF;obtain ⟨g,rfl,_,hvc,hrow⟩:=hO.fnAt _ hl;obtain ⟨vq,rfl⟩:=h.vl
 have HE:Hid (∀ W,Mods Nil' w0 W->W.cell? ⟨g,k.funcs.length*3+1,none⟩=some (.bool (o.fs.getD k.funcs.length {}).ends)):=fun W m=>by
  rw [HGD.out]
  exact hrow W m 1 (by show 1<3;decide)
 have HLN:Hid (((funcStepP k x).funcs.length:Int) - 1=(k.funcs.length:Int)):=by rw [Hid];simp [funcStepP]
 clear h hx hnd hO hrow HGD;generalize funcFaultP o k x=r at *;generalize (o.fs.getD k.funcs.length {}).ends=en at *;generalize o.fs.length=nF at *;generalize x.cells bs=cs at *
 have HMB:Hid (Mods Nil' w (w.alloc (.cells cs 102))):=(Mods.refl _ _).alloc _
 have HBB:Hid (Blk (w.alloc (.cells cs 102)) w.heap.size cs 102):=Blk.new w _ _
 have HW1:Hid (WkAt w0 b bm (.slice (some ⟨g,0,none⟩) nF vc) bM bF (.map vq) k (w.alloc (.cells cs 102))):=HWK.out.quiet HMB.out
 go_enter Tryz.func109,Tryz.ntmps109
 go_upto_region 1 with fail;generalize w.alloc (.cells cs 102)=w1 at *;generalize w.heap.size=B at *
 have HMd:Hid (Mods Nil' w1 w1.drew):=(Mods.refl _ _).drew
 refine wp_region_qtail 8 (by kernel_rfl) (by kernel_rfl) ?_
 intro W hW;rw [<- hW] at HMd;clear hW
 have HW2:Hid (WkAt w0 b bm (.slice (some ⟨g,0,none⟩) nF vc) bM bF (.map vq) k W):=HW1.out.quiet HMd.out
 have HB2:Hid (Blk W B cs 102):=HBB.out.mods HMd.out id
 have c1:W.cell? ⟨B,1,none⟩=some (.string (T x.name)):=(HB2.out.cell 1).trans HCN.out
 have b3:W.cell? ⟨b,3,none⟩=some (.map (some bF)):=HW2.out.blk.cell 3
 have hlk:=HW2.out.fs.look x.name
 obtain ⟨w5,hup,hc5,m5⟩:=HW2.out.fs.put x.name
 have HW8:Hid (WkAt w0 b bm (.slice (some ⟨g,0,none⟩) nF vc) bM bF (.map (some w5.heap.size)) (funcStepP k x) (((w5.alloc (.map #[] 0)).setCell ⟨b,4,none⟩ (.map (some w5.heap.size))).setCell ⟨b,5,none⟩ (.int .i64 k.funcs.length))):=HW2.out.func hc5 m5 rfl
 have hb5:=HW2.out.blk.mods m5 (fun e=>HW2.out.fs.notBlk HW2.out.blk e)
 have HB5:Hid (Blk w5 B cs 102):=HB2.out.mods m5 (fun e=>HW2.out.fs.notBlk HB2.out e)
 have hbA:=hb5.alloc (.map #[] 0)
 have hbS:=hbA.set 4 (.map (some w5.heap.size))
 have e4:=hbA.cell 4
 have e5:=hbA.cell 5
 have ef:=hbA.frozen
 have e5':=hbS.cell 5
 have ef':=hbS.frozen
 have HBb:Hid (B≠b):=fun e=>HB5.out.apart hb5 (by decide) e
 have HB8:Hid (Blk (((w5.alloc (.map #[] 0)).setCell ⟨b,4,none⟩ (.map (some w5.heap.size))).setCell ⟨b,5,none⟩ (.int .i64 k.funcs.length)) B cs 102):=((HB5.out.alloc _).setOther (a:=⟨b,4,none⟩) HBb.out.symm _).setOther (a:=⟨b,5,none⟩) HBb.out.symm _
 have hmm:=@run_makeMap Tryz.prog
 have hi5:(k.funcs.length:Int) - 1+1=k.funcs.length:=by omega
 clear hc5 m5 HWK HW1 HBB HMB hb5 hbA hbS
 generalize hcn':k.funcs.count x.name=cn at *
 generalize hfl:k.funcs.length=fl at *
 simp only [List.take_succ_cons,List.take_zero,List.drop_succ_cons,List.drop_zero]
 repeat (go_big_quiet_step (fail))
 refine wpQuiet_nil ?_
 clear hlk c1 b3 HW2 HB2 HMd;go_upto_region 4 with fail
 generalize ((w5.alloc (.map #[] 0)).setCell ⟨b,4,none⟩ (.map (some w5.heap.size))).setCell ⟨b,5,none⟩ (.int .i64 (fl:Int))=w8 at *
 generalize w5.heap.size=bL at *
 have HMd:Hid (Mods Nil' w8 w8.drew):=(Mods.refl _ _).drew
 refine wp_region_qall (by kernel_rfl) (by kernel_rfl) ?_
 intro W7 hW7;rw [<- hW7] at HMd;clear hW7
 have HW7:Hid (WkAt w0 b bm (.slice (some ⟨g,0,none⟩) nF vc) bM bF (.map (some bL)) (funcStepP k x) W7):=HW8.out.quiet HMd.out
 have c1:W7.cell? ⟨B,1,none⟩=some (.string (T x.name)):=((HB8.out.mods HMd.out id).cell 1).trans HCN.out
 have b2:W7.cell? ⟨b,3,none⟩=some (.map (some bF)):=HW7.out.blk.cell 3
 have hlk:=HLK.out W7 HW7.out.fs
 have HLE:=HCT.out W7 HW7.out.fs
 clear HMd HW8 HB8 hup e4 e5 ef e5' ef'
 by_cases h0:0<cn
 ·have HR:Hid (r=4):=by rw [Hid,HF.out,if_pos h0]
  have hq:((1:Int)<((cn+1:Nat):Int)):=by omega
  repeat (go_big_quiet_step (fail))
  refine wpQuiet_nil ?_
  go_wp2_with fail;go_ret
  exact ⟨ret_i64 (by rw [HR.out];rfl),_,HW7.out⟩
 ·have hc0:cn=0:=by omega
  subst hc0
  have hle:=HLE.resolve_left h0
  have HR:Hid (r=if 16<fl+1 then 1 else if en=false then 6 else 0):=by rw [Hid,HF.out,if_neg h0]
  clear HLE
  by_cases h8:16<fl+1
  ·have HR2:Hid (r=1):=by rw [Hid,HR.out,if_pos h8]
   have hq:(16:Int)<((fl+1:Nat):Int):=by omega
   repeat (go_big_quiet_step (fail))
   refine wpQuiet_nil ?_
   go_wp2_with fail;go_ret
   exact ⟨ret_i64 (by rw [HR2.out];rfl),_,HW7.out⟩
  ·have HR2:Hid (r=if en=false then 6 else 0):=by rw [Hid,HR.out,if_neg h8]
   have hq:¬ (16:Int)<((fl+1:Nat):Int):=by omega
   repeat (go_big_quiet_step (fail))
   refine wpQuiet_nil ?_
   go_upto_region 8 with fail
   have HMd:Hid (Mods Nil' W7 W7.drew):=(Mods.refl _ _).drew
   refine wp_region_qall (by kernel_rfl) (by kernel_rfl) ?_
   intro W9 hW9;rw [<- hW9] at HMd;clear hW9
   have HW9:Hid (WkAt w0 b bm (.slice (some ⟨g,0,none⟩) nF vc) bM bF (.map (some bL)) (funcStepP k x) W9):=HW7.out.quiet HMd.out
   have f1:W9.cell? ⟨b,1,none⟩=some (.slice (some ⟨g,0,none⟩) nF vc):=HW9.out.blk.cell 1
   have f5:W9.cell? ⟨b,5,none⟩=some (.int .i64 fl):=by
    have:=HW9.out.blk.cell 5
    rw [HLN.out] at this;exact this
   have fe:=HE.out W9 HW9.out.md
   clear HMd HW7 c1 b2 hlk hle
   cases en with
   | false =>
    have HR3:Hid (r=6):=by rw [Hid,HR2.out,if_pos rfl]
    repeat (go_big_quiet_step (fail))
    refine wpQuiet_nil ?_
    go_wp2_with fail;go_ret
    exact ⟨ret_i64 (by rw [HR3.out];rfl),_,HW9.out⟩
   | true =>
    have HR3:Hid (r=0):=by rw [Hid,HR2.out,if_neg (by decide)]
    repeat (go_big_quiet_step (fail))
    refine wpQuiet_nil ?_
    go_wp2_with fail;go_ret
    exact ⟨ret_i64 (by rw [HR3.out];rfl),_,HW9.out⟩
set_option maxRecDepth 100000 in
set_option maxHeartbeats 4000000 in
theorem hasL_any (wO w0 w:World) (b bm bM bF:Nat) (vF vL:Value) (lb:List Nat) (o:OL) (k:WK) (y:List UInt8) (hO:OutAt wO bm vF lb o w0) (h:WkAt w0 b bm vF bM bF vL k w) (hne:k.funcs≠[]) (hl:k.funcs.length<=o.fs.length) (hl2:o.fs.length<=1000001) :
  Calls Tryz.prog 214 #[.pointer (some ⟨b,0,none⟩),.string (T y)] w fun e w'=>e=.returned (.bool (hasLabP (o.fs.getD (k.funcs.length - 1) {}) y))/\Mods Nil' w w':=by
 have hp:0<k.funcs.length:=List.length_pos_iff.2 hne
 obtain ⟨n,hn⟩:∃ n,n=k.funcs.length - 1:=⟨_,rfl⟩
 have hnl:n<o.fs.length:=by omega
 have hgd:o.fs.getD n {}=o.fs[n]:=by rw [List.getD_eq_getElem?_getD,List.getElem?_eq_getElem hnl];rfl
 obtain ⟨vo,vc,hvF,_⟩:=hO.sl.view;subst hvF;obtain ⟨g,rfl,_,hvc,hrow⟩:=hO.fnAt _ hnl
 have HLB:Hid (∀ W,Mods Nil' w0 W->LbsAt W (lb[n]?.getD 0) o.fs[n].labs):=fun W m=>MapOf.mods (hO.labs n hnl) m id
 have HR:Hid (∀ W,Mods Nil' w0 W->W.cell? ⟨g,n*3,none⟩=some (.int .i64 o.fs[n].slots)/\W.cell? ⟨g,n*3+1,none⟩=some (.bool o.fs[n].ends)/\W.cell? ⟨g,n*3+2,none⟩=some (.map (some (lb[n]?.getD 0)))):=fun W m=>⟨hrow W m 0 (by show 0<3;decide),hrow W m 1 (by show 1<3;decide),hrow W m 2 (by show 2<3;decide)⟩
 have HF:Hid (hasLabP (o.fs.getD (k.funcs.length - 1) {}) y=((labOf o.fs[n].labs y).isSome&&decide ((labOf o.fs[n].labs y).getD 0<o.fs[n].slots))):=by
  rw [Hid,<- hn,hgd];rfl
 have HB:Hid (∀ W,Mods Nil' w W->W.cell? ⟨b,1,none⟩=some (.slice (some ⟨g,0,none⟩) o.fs.length vc)/\W.cell? ⟨b,5,none⟩=some (.int .i64 (n:Int))):=fun W m=>by
  have hb:=(h.quiet m).blk
  refine ⟨hb.cell 1,?_⟩
  rw [hb.cell 5]
  have:((k.funcs.length:Int) - 1)=(n:Int):=by omega
  rw [this];rfl
 have HMW:=hid h.md;clear hrow hO h hn hgd;generalize hasLabP (o.fs.getD (k.funcs.length - 1) {}) y=r at *;generalize o.fs[n]=f at *;obtain ⟨sl,en,las⟩:=f
 dsimp only at *
 generalize lb[n]?.getD 0=bl at *;generalize o.fs.length=nF at *
 have f1:∀ e:Ext Nil' w,e.w.cell? ⟨b,1,none⟩=some (.slice (some ⟨g,0,none⟩) nF vc):=fun e=>(HB.out e.w e.m).1
 have f5:∀ e:Ext Nil' w,e.w.cell? ⟨b,5,none⟩=some (.int .i64 (n:Int)):=fun e=>(HB.out e.w e.m).2
 have g0:∀ e:Ext Nil' w,e.w.cell? ⟨g,n*3,none⟩=some (.int .i64 sl):=fun e=>(HR.out e.w (HMW.out.trans e.m)).1
 have g1:∀ e:Ext Nil' w,e.w.cell? ⟨g,n*3+1,none⟩=some (.bool en):=fun e=>(HR.out e.w (HMW.out.trans e.m)).2.1
 have g2:∀ e:Ext Nil' w,e.w.cell? ⟨g,n*3+2,none⟩=some (.map (some bl)):=fun e=>(HR.out e.w (HMW.out.trans e.m)).2.2
 haveI:Nonempty (Ext Nil' w):=Ext.ne _ _
 go_enter Tryz.func214,Tryz.ntmps214
 go_upto_region 1 with fail
 refine wp_region_mix [11,12] (fun w'=>∃ e:Ext Nil' w,w'=e.w) (by kernel_rfl) (by kernel_rfl) (by kernel_rfl) ⟨⟨_,(Mods.refl _ _).drew⟩,rfl⟩ ?_
 iterate 1 (refine mix_pure rfl rfl rfl ?_;intro K hK;go_big_quiet_op;go_big_quiet_on)
 refine mix_nilCheck rfl rfl _ ⟨b,0,none⟩ rfl rfl ?_
 simp only [Act.put,List.setIfInBounds_toArray,List.set_cons_succ,List.set_cons_zero]
 iterate 4 (refine mix_pure rfl rfl rfl ?_;intro K hK;go_big_quiet_op;go_big_quiet_on)
 refine mix_nilCheck rfl rfl _ ⟨b,0,none⟩ rfl rfl ?_
 simp only [Act.put,List.setIfInBounds_toArray,List.set_cons_succ,List.set_cons_zero]
 iterate 4 (refine mix_pure rfl rfl rfl ?_;intro K hK;go_big_quiet_op;go_big_quiet_on)
 refine mix_act rfl rfl ?_
 intro K hK
 go_big_op
 refine hK _ _ rfl ⟨⟨_,((Mods.refl _ _).drew).alloc _⟩,rfl⟩ ?_
 clear hK K
 refine mix_act rfl rfl ?_
 intro K hK
 have hz:Blk ((w.alloc (.cells #[.int .i64 0,.bool false,.map none] 106)).drew) w.heap.size #[.int .i64 0,.bool false,.map none] 106:=(Blk.new w _ _).drew
 have z0:=hz.cell 0
 have z1:=hz.cell 1
 have z2:=hz.cell 2
 have zf:=hz.frozen
 have HZ3:Hid (Blk ((w.alloc (.cells #[.int .i64 sl,.bool en,.map (some bl)] 106)).drew) w.heap.size #[.int .i64 sl,.bool en,.map (some bl)] 106):=(Blk.new w _ _).drew
 have HM3:Hid (Mods Nil' w ((w.alloc (.cells #[.int .i64 sl,.bool en,.map (some bl)] 106)).drew)):=((Mods.refl Nil' w).alloc _).drew
 go_big_op
 refine hK _ _ rfl ⟨⟨_,HM3.out⟩,rfl⟩ ?_
 clear hK K hz z0 z1 z2 zf
 refine mix_nil ?_
 simp only [Exit.then]
 generalize (w.alloc (.cells #[.int .i64 sl,.bool en,.map (some bl)] 106)).drew=w3 at *;generalize w.heap.size=C at *
 have c0:w3.cell? ⟨C,0,none⟩=some (.int .i64 sl):=HZ3.out.cell 0
 have c2:w3.cell? ⟨C,2,none⟩=some (.map (some bl)):=HZ3.out.cell 2
 have hlk:=(HLB.out w3 (HMW.out.trans HM3.out)).look y
 clear f1 f5 g0 g1 g2;generalize labOf las y=lo at *
 cases lo with
 | none =>
  have HR2:Hid (r=false):=by rw [Hid,HF.out];rfl
  simp only [Option.getD_none,Option.isSome_none] at hlk
  go_wp2_with fail;go_ret
  exact ⟨by rw [HR2.out];rfl,HM3.out⟩
 | some q =>
  simp only [Option.getD_some,Option.isSome_some] at hlk
  have HR2:Hid (r=decide (q<sl)):=by rw [Hid,HF.out];rfl
  go_wp2_with fail;go_ret
  exact ⟨by rw [HR2.out];rfl,HM3.out⟩
theorem cells4 (bs:List Nat) (x:PLn) (h:x.kind=4):x.cells bs=lnC 4 ⟨#[]⟩ num0 num0 num0 (.pointer (some ⟨bs[x.x.k]?.getD 0,0,none⟩)) x.x.r.d x.x.r.s x.x.r.jump x.x.r.num x.x.r.high (T x.x.r.label) (T x.x.r.name) x.x.fits:=by
 unfold PLn.cells;rw [if_pos h]
set_option maxRecDepth 100000 in
set_option maxHeartbeats 4000000 in
theorem codeF_any (wO w0 w:World) (b bm bM bF:Nat) (vF vL:Value) (lb:List Nat) (o:OL) (k:WK) (bs:List Nat) (x:PLn) (hO:OutAt wO bm vF lb o w0) (h:WkAt w0 b bm vF bM bF vL k w) (hx:x.kind=4) (hA:∀ W,Mods Nil' w0 W->OpAt W (bs[x.x.k]?.getD 0) x.x.o) (hne:k.funcs≠[]) (hl:k.funcs.length<=o.fs.length) (hl2:o.fs.length<=1000001) (hs:k.slots<=2000002) :
  Calls Tryz.prog 110 #[.pointer (some ⟨b,0,none⟩),.agg (x.cells bs)] w fun e w'=>e=.returned (.int .i64 (codeFaultP o k x))/\WkAt w0 b bm vF bM bF vL (codeStepP k x) w':=by
 have HF:Hid (codeFaultP o k x=if x.x.fits=false then 3
  else if (x.x.o.jumps&&!hasLabP (o.fs.getD (k.funcs.length - 1) {}) x.x.r.label)=true then 5
  else if (decide ((if x.x.r.s=1 then x.x.o.refers else 0)=2)&&decide (o.maps.count x.x.r.name=0))=true then 5
  else if 200<k.slots+x.x.o.slots then 1 else 0):=rfl
 have HHL:Hid (∀ w',WkAt w0 b bm vF bM bF vL (codeStepP k x) w'->Calls Tryz.prog 214 #[.pointer (some ⟨b,0,none⟩),.string (T x.x.r.label)] w' fun e w''=>e=.returned (.bool (hasLabP (o.fs.getD (k.funcs.length - 1) {}) x.x.r.label))/\Mods Nil' w' w''):=fun w' h'=>hasL_any wO w0 w' b bm bM bF vF vL lb o (codeStepP k x) x.x.r.label hO h' hne hl hl2
 have HRF:Hid (∀ w',Mods Nil' w0 w'->Calls Tryz.prog 54 #[.agg #[.pointer (some ⟨bs[x.x.k]?.getD 0,0,none⟩),.int .u8 x.x.r.d,.int .u8 x.x.r.s,.int .i16 x.x.r.jump,.int .i32 x.x.r.num,.int .i32 x.x.r.high,.string (T x.x.r.label),.string (T x.x.r.name)]] w' fun e w''=>e=.returned (.int .i64 ((if x.x.r.s=1 then x.x.o.refers else 0:Nat):Int))/\Mods Nil' w' w''):=fun w' m=>refers_any w' _ x.x.o (hA w' m) _ _ _ _ _ _ _
 have HLK:Hid (∀ w',Mods Nil' w0 w'->(Instr.lookup 61 (.map (some bm)) (.string (T x.x.r.name)) false).run Tryz.prog w'=.ok (.int .i64 (o.maps.count x.x.r.name:Nat)) w'):=fun w' m=>(hO.quiet m).maps.look x.x.r.name
 have hs2:=x.x.slots2
 have HOA:=hid hA;have HWK:=hid h
 have HST:Hid (∀ W,WkAt w0 b bm vF bM bF vL k W->WkAt w0 b bm vF bM bF vL (codeStepP k x) (W.setCell ⟨b,6,none⟩ (.int .i64 ((k.slots:Int)+x.x.o.slots)))):=fun W hW=>hW.code rfl
 have HS6:Hid (((codeStepP k x).slots:Int)=(k.slots:Int)+x.x.o.slots):=by rw [Hid];simp [codeStepP]
 obtain ⟨vo,vc,hvF,_⟩:=hO.sl.view;subst hvF;obtain ⟨vq,rfl⟩:=h.vl;rw [cells4 bs x hx];unfold lnC num0
 dsimp only
 clear h hx hO hA;generalize codeFaultP o k x=r at *;generalize hasLabP (o.fs.getD (k.funcs.length - 1) {}) x.x.r.label=hb at *;generalize bs[x.x.k]?.getD 0=bo at *;generalize o.maps.count x.x.r.name=mc at *;generalize T x.x.r.label=lab at *;generalize T x.x.r.name=nam at *
 generalize hcs:(#[.int .i64 ((4:Nat):Int),.string ⟨#[]⟩,.bool false,.int .u64 ((0 % 18446744073709551616:Nat):Int),.bool (decide (18446744073709551616<=0)),.bool false,.int .u64 ((0 % 18446744073709551616:Nat):Int),.bool (decide (18446744073709551616<=0)),.bool false,.int .u64 ((0 % 18446744073709551616:Nat):Int),.bool (decide (18446744073709551616<=0)),.pointer (some ⟨bo,0,none⟩),.int .u8 x.x.r.d,.int .u8 x.x.r.s,.int .i16 x.x.r.jump,.int .i32 x.x.r.num,.int .i32 x.x.r.high,.string lab,.string nam,.bool x.x.fits]:Array Value)=cs at *
 have HCS:=hid hcs.symm;clear hcs
 have HMB:Hid (Mods Nil' w (w.alloc (.cells cs 102))):=(Mods.refl _ _).alloc _
 have HBB:Hid (Blk (w.alloc (.cells cs 102)) w.heap.size cs 102):=Blk.new w _ _
 have HW1:Hid (WkAt w0 b bm (.slice vo o.fs.length vc) bM bF (.map vq) k (w.alloc (.cells cs 102))):=HWK.out.quiet HMB.out
 go_enter Tryz.func110,Tryz.ntmps110
 go_upto_region 1 with fail;generalize w.alloc (.cells cs 102)=w1 at *;generalize w.heap.size=B at *
 have HMd:Hid (Mods Nil' w1 w1.drew):=(Mods.refl _ _).drew
 refine wp_region_qtail 13 (by kernel_rfl) (by kernel_rfl) ?_
 intro W hW;rw [<- hW] at HMd;clear hW
 have HW2:Hid (WkAt w0 b bm (.slice vo o.fs.length vc) bM bF (.map vq) k W):=HW1.out.quiet HMd.out
 have HB2:Hid (Blk W B cs 102):=HBB.out.mods HMd.out id
 obtain ⟨p1,p2,p3,p4,p5,p6,p7,p8,p9,p10,p11,hbo,_⟩:=(HOA.out W HW2.out.md).ex
 have c11:W.cell? ⟨B,11,none⟩=some (.pointer (some ⟨bo,0,none⟩)):=(HB2.out.cell 11).trans (by rw [HCS.out];rfl)
 have b6:W.cell? ⟨b,6,none⟩=some (.int .i64 k.slots):=HW2.out.blk.cell 6
 have o2:=hbo.cell 2
 have bf:=HW2.out.blk.frozen
 have HBb:Hid (B≠b):=fun e=>HB2.out.apart HW2.out.blk (by decide) e
 have HOb:Hid (bo≠b):=fun e=>hbo.apart HW2.out.blk (by decide) e
 have HW5:=HST.out W HW2.out
 have HB5:Hid (Blk (W.setCell ⟨b,6,none⟩ (.int .i64 ((k.slots:Int)+x.x.o.slots))) B cs 102):=HB2.out.setOther (a:=⟨b,6,none⟩) HBb.out.symm _
 have HW5:=hid HW5;clear hbo HW1 HBB HMB HWK HST;generalize x.x.o.slots=os at *;generalize k.slots=ks at *
 simp only [List.take_succ_cons,List.take_zero,List.drop_succ_cons,List.drop_zero]
 repeat (go_big_quiet_step (fail))
 refine wpQuiet_nil ?_
 go_upto_region 2 with fail
 generalize W.setCell ⟨b,6,none⟩ (.int .i64 ((ks:Int)+os))=w5 at *
 clear c11 b6 o2 bf HW2 HB2 HMd
 have HBC:Hid (∀ W,Blk W B cs 102->W.cell? ⟨B,11,none⟩=some (.pointer (some ⟨bo,0,none⟩))/\W.cell? ⟨B,17,none⟩=some (.string lab)/\W.cell? ⟨B,19,none⟩=some (.bool x.x.fits)):=fun W hb=>⟨(hb.cell 11).trans (by rw [HCS.out];rfl),(hb.cell 17).trans (by rw [HCS.out];rfl),(hb.cell 19).trans (by rw [HCS.out];rfl)⟩
 have HBD:Hid (∀ W,Blk W B cs 102->W.cell? ⟨B,12,none⟩=some (.int .u8 x.x.r.d)/\W.cell? ⟨B,13,none⟩=some (.int .u8 x.x.r.s)/\W.cell? ⟨B,14,none⟩=some (.int .i16 x.x.r.jump)/\W.cell? ⟨B,15,none⟩=some (.int .i32 x.x.r.num)/\W.cell? ⟨B,16,none⟩=some (.int .i32 x.x.r.high)/\W.cell? ⟨B,18,none⟩=some (.string nam)):=fun W hb=>⟨(hb.cell 12).trans (by rw [HCS.out];rfl),(hb.cell 13).trans (by rw [HCS.out];rfl),(hb.cell 14).trans (by rw [HCS.out];rfl),(hb.cell 15).trans (by rw [HCS.out];rfl),(hb.cell 16).trans (by rw [HCS.out];rfl),(hb.cell 18).trans (by rw [HCS.out];rfl)⟩
 have HOJ:Hid (∀ W,Mods Nil' w0 W->W.cell? ⟨bo,3,none⟩=some (.bool x.x.o.jumps)):=fun W m=>by
  obtain ⟨p1,p2,p3,p4,p5,p6,p7,p8,p9,p10,p11,hbo,_⟩:=(HOA.out W m).ex
  exact hbo.cell 3
 clear HOA HCS
 generalize hrfE:(if x.x.r.s=1 then x.x.o.refers else 0)=rf at *
 generalize x.x.o.jumps=oj at *;generalize x.x.r.d=xd at *;generalize x.x.r.s=xs at *;generalize x.x.r.jump=xj at *;generalize x.x.r.num=xn at *;generalize x.x.r.high=xh at *;generalize x.x.fits=xf at *;clear hrfE;obtain ⟨c11,c17,c19⟩:=HBC.out w5 HB5.out
 have o3:=HOJ.out w5 HW5.out.md
 cases xf with
 | false =>
  have HR:Hid (r=3):=by rw [Hid,HF.out,if_pos rfl]
  go_wp2_with fail;go_ret
  exact ⟨ret_i64 (by rw [HR.out];rfl),HW5.out⟩
 | true =>
  have HF2:Hid (r=if (oj&&!hb)=true then 5 else if (decide (rf=2)&&decide (mc=0))=true then 5 else if 200<ks+os then 1 else 0):=by
   rw [Hid,HF.out,if_neg (by decide)]
  cases oj with
  | true =>
   go_wp2_with fail
   refine (HHL.out _ HW5.out).mono ?_
   rintro e w6 ⟨rfl,m6⟩
   have HW6:Hid (WkAt w0 b bm (.slice vo o.fs.length vc) bM bF (.map vq) (codeStepP k x) w6):=HW5.out.quiet m6
   have HB6:Hid (Blk w6 B cs 102):=HB5.out.mods m6 id
   clear m6 HW5 HB5
   cases hb with
   | false =>
    have HR:Hid (r=5):=by rw [Hid,HF2.out,if_pos (by decide)]
    go_wp2_with fail;go_ret
    exact ⟨ret_i64 (by rw [HR.out];rfl),HW6.out⟩
   | true =>
    have HF3:Hid (r=if (decide (rf=2)&&decide (mc=0))=true then 5 else if 200<ks+os then 1 else 0):=by rw [Hid,HF2.out,if_neg (by decide)]
    go_upto_region 6 with fail
    have hw6:=HW6.out
    have hb6:=HB6.out
    have d11:∀ e:Ext Nil' w6,e.w.cell? ⟨B,11,none⟩=some (.pointer (some ⟨bo,0,none⟩)):=fun e=>(HBC.out e.w (HB6.out.mods e.m id)).1
    have d17:∀ e:Ext Nil' w6,e.w.cell? ⟨B,17,none⟩=some (.string lab):=fun e=>(HBC.out e.w (HB6.out.mods e.m id)).2.1
    have d12:∀ e:Ext Nil' w6,e.w.cell? ⟨B,12,none⟩=some (.int .u8 xd):=fun e=>(HBD.out e.w (HB6.out.mods e.m id)).1
    have d13:∀ e:Ext Nil' w6,e.w.cell? ⟨B,13,none⟩=some (.int .u8 xs):=fun e=>(HBD.out e.w (HB6.out.mods e.m id)).2.1
    have d14:∀ e:Ext Nil' w6,e.w.cell? ⟨B,14,none⟩=some (.int .i16 xj):=fun e=>(HBD.out e.w (HB6.out.mods e.m id)).2.2.1
    have d15:∀ e:Ext Nil' w6,e.w.cell? ⟨B,15,none⟩=some (.int .i32 xn):=fun e=>(HBD.out e.w (HB6.out.mods e.m id)).2.2.2.1
    have d16:∀ e:Ext Nil' w6,e.w.cell? ⟨B,16,none⟩=some (.int .i32 xh):=fun e=>(HBD.out e.w (HB6.out.mods e.m id)).2.2.2.2.1
    have d18:∀ e:Ext Nil' w6,e.w.cell? ⟨B,18,none⟩=some (.string nam):=fun e=>(HBD.out e.w (HB6.out.mods e.m id)).2.2.2.2.2
    have dm:∀ e:Ext Nil' w6,e.w.cell? ⟨b,0,none⟩=some (.map (some bm)):=fun e=>(HW6.out.quiet e.m).blk.cell 0
    have dl:∀ e:Ext Nil' w6,(Instr.lookup 61 (.map (some bm)) (.string nam) false).run Tryz.prog e.w=.ok (.int .i64 (mc:Nat)) e.w:=fun e=>HLK.out e.w (HW6.out.md.trans e.m)
    have HRE:Hid (∀ e:Ext Nil' w6,Calls Tryz.prog 54 #[.agg #[.pointer (some ⟨bo,0,none⟩),.int .u8 xd,.int .u8 xs,.int .i16 xj,.int .i32 xn,.int .i32 xh,.string lab,.string nam]] e.w fun e' w''=>e'=.returned (.int .i64 (rf:Nat))/\Mods Nil' e.w w''):=fun e=>HRF.out e.w (HW6.out.md.trans e.m)
    clear hw6 hb6 c11 c17 c19 o3
    have ne1:=Ext.ne Nil' w6
    refine wp_region_ext Nil' (by kernel_rfl) (by kernel_rfl) ?_
    have HWX:Hid (∀ w2,Mods Nil' w6 w2->WkAt w0 b bm (.slice vo o.fs.length vc) bM bF (.map vq) (codeStepP k x) w2/\w2.cell? ⟨b,6,none⟩=some (.int .i64 ((ks:Int)+os))):=fun w2 m=>⟨HW6.out.quiet m,by
     have:=(HW6.out.quiet m).blk.cell 6
     rw [HS6.out] at this;exact this⟩
    by_cases h2:rf=2
    ·subst h2
     by_cases h0:mc=0
     ·subst h0
      have HR:Hid (r=5):=by rw [Hid,HF3.out,if_pos (by decide)]
      repeat (go_big_quiet_step (first | (go_at_call 54;exact Calls.ext_of (HRE.out _))))
      refine wpQuiet_nil ?_
      rintro w2 ⟨e2,h3e⟩
      have m2:Mods Nil' w6 w2:=by rw [h3e];exact e2.m
      clear h3e e2;obtain ⟨hW2,b6⟩:=HWX.out w2 m2;have HW2:=hid hW2;clear hW2 m2 HWX;go_wp2_with fail;go_ret
      exact ⟨ret_i64 (by rw [HR.out];rfl),HW2.out⟩
     ·have hq0:((mc:Int)==0)=false:=by simp;omega
      have HR:Hid (r=if 200<ks+os then 1 else 0):=by rw [Hid,HF3.out,if_neg (by simp;omega)]
      repeat (go_big_quiet_step (first | (go_at_call 54;exact Calls.ext_of (HRE.out _))))
      refine wpQuiet_nil ?_
      rintro w2 ⟨e2,h3e⟩
      have m2:Mods Nil' w6 w2:=by rw [h3e];exact e2.m
      clear h3e e2;obtain ⟨hW2,b6⟩:=HWX.out w2 m2;have HW2:=hid hW2;clear hW2 m2 HWX
      by_cases h3:200<ks+os
      ·have HR2:Hid (r=1):=by rw [Hid,HR.out,if_pos h3]
       have h3':(200:Int)<(ks:Int)+os:=by omega
       go_wp2_with fail;go_ret
       exact ⟨ret_i64 (by rw [HR2.out];rfl),HW2.out⟩
      ·have HR2:Hid (r=0):=by rw [Hid,HR.out,if_neg h3]
       have h3':¬ (200:Int)<(ks:Int)+os:=by omega
       go_wp2_with fail;go_ret
       exact ⟨ret_i64 (by rw [HR2.out];rfl),HW2.out⟩
    ·have hq2:((rf:Int)==2)=false:=by simp;omega
     have HR:Hid (r=if 200<ks+os then 1 else 0):=by rw [Hid,HF3.out,if_neg (by simp;omega)]
     repeat (go_big_quiet_step (first | (go_at_call 54;exact Calls.ext_of (HRE.out _))))
     refine wpQuiet_nil ?_
     rintro w2 ⟨e2,h3e⟩
     have m2:Mods Nil' w6 w2:=by rw [h3e];exact e2.m
     clear h3e e2;obtain ⟨hW2,b6⟩:=HWX.out w2 m2;have HW2:=hid hW2;clear hW2 m2 HWX
     by_cases h3:200<ks+os
     ·have HR2:Hid (r=1):=by rw [Hid,HR.out,if_pos h3]
      have h3':(200:Int)<(ks:Int)+os:=by omega
      go_wp2_with fail;go_ret
      exact ⟨ret_i64 (by rw [HR2.out];rfl),HW2.out⟩
     ·have HR2:Hid (r=0):=by rw [Hid,HR.out,if_neg h3]
      have h3':¬ (200:Int)<(ks:Int)+os:=by omega
      go_wp2_with fail;go_ret
      exact ⟨ret_i64 (by rw [HR2.out];rfl),HW2.out⟩
  | false =>
   have HF3:Hid (r=if (decide (rf=2)&&decide (mc=0))=true then 5 else if 200<ks+os then 1 else 0):=by rw [Hid,HF2.out,if_neg (by simp)]
   go_upto_region 6 with fail
   have hw6:=HW5.out
   have hb6:=HB5.out
   have d11:∀ e:Ext Nil' w5,e.w.cell? ⟨B,11,none⟩=some (.pointer (some ⟨bo,0,none⟩)):=fun e=>(HBC.out e.w (HB5.out.mods e.m id)).1
   have d17:∀ e:Ext Nil' w5,e.w.cell? ⟨B,17,none⟩=some (.string lab):=fun e=>(HBC.out e.w (HB5.out.mods e.m id)).2.1
   have d12:∀ e:Ext Nil' w5,e.w.cell? ⟨B,12,none⟩=some (.int .u8 xd):=fun e=>(HBD.out e.w (HB5.out.mods e.m id)).1
   have d13:∀ e:Ext Nil' w5,e.w.cell? ⟨B,13,none⟩=some (.int .u8 xs):=fun e=>(HBD.out e.w (HB5.out.mods e.m id)).2.1
   have d14:∀ e:Ext Nil' w5,e.w.cell? ⟨B,14,none⟩=some (.int .i16 xj):=fun e=>(HBD.out e.w (HB5.out.mods e.m id)).2.2.1
   have d15:∀ e:Ext Nil' w5,e.w.cell? ⟨B,15,none⟩=some (.int .i32 xn):=fun e=>(HBD.out e.w (HB5.out.mods e.m id)).2.2.2.1
   have d16:∀ e:Ext Nil' w5,e.w.cell? ⟨B,16,none⟩=some (.int .i32 xh):=fun e=>(HBD.out e.w (HB5.out.mods e.m id)).2.2.2.2.1
   have d18:∀ e:Ext Nil' w5,e.w.cell? ⟨B,18,none⟩=some (.string nam):=fun e=>(HBD.out e.w (HB5.out.mods e.m id)).2.2.2.2.2
   have dm:∀ e:Ext Nil' w5,e.w.cell? ⟨b,0,none⟩=some (.map (some bm)):=fun e=>(HW5.out.quiet e.m).blk.cell 0
   have dl:∀ e:Ext Nil' w5,(Instr.lookup 61 (.map (some bm)) (.string nam) false).run Tryz.prog e.w=.ok (.int .i64 (mc:Nat)) e.w:=fun e=>HLK.out e.w (HW5.out.md.trans e.m)
   have HRE:Hid (∀ e:Ext Nil' w5,Calls Tryz.prog 54 #[.agg #[.pointer (some ⟨bo,0,none⟩),.int .u8 xd,.int .u8 xs,.int .i16 xj,.int .i32 xn,.int .i32 xh,.string lab,.string nam]] e.w fun e' w''=>e'=.returned (.int .i64 (rf:Nat))/\Mods Nil' e.w w''):=fun e=>HRF.out e.w (HW5.out.md.trans e.m)
   clear hw6 hb6 c11 c17 c19 o3
   have ne1:=Ext.ne Nil' w5
   refine wp_region_ext Nil' (by kernel_rfl) (by kernel_rfl) ?_
   have HWX:Hid (∀ w2,Mods Nil' w5 w2->WkAt w0 b bm (.slice vo o.fs.length vc) bM bF (.map vq) (codeStepP k x) w2/\w2.cell? ⟨b,6,none⟩=some (.int .i64 ((ks:Int)+os))):=fun w2 m=>⟨HW5.out.quiet m,by
    have:=(HW5.out.quiet m).blk.cell 6
    rw [HS6.out] at this;exact this⟩
   by_cases h2:rf=2
   ·subst h2
    by_cases h0:mc=0
    ·subst h0
     have HR:Hid (r=5):=by rw [Hid,HF3.out,if_pos (by decide)]
     repeat (go_big_quiet_step (first | (go_at_call 54;exact Calls.ext_of (HRE.out _))))
     refine wpQuiet_nil ?_
     rintro w2 ⟨e2,h3e⟩
     have m2:Mods Nil' w5 w2:=by rw [h3e];exact e2.m
     clear h3e e2;obtain ⟨hW2,b6⟩:=HWX.out w2 m2;have HW2:=hid hW2;clear hW2 m2 HWX;go_wp2_with fail;go_ret
     exact ⟨ret_i64 (by rw [HR.out];rfl),HW2.out⟩
    ·have hq0:((mc:Int)==0)=false:=by simp;omega
     have HR:Hid (r=if 200<ks+os then 1 else 0):=by rw [Hid,HF3.out,if_neg (by simp;omega)]
     repeat (go_big_quiet_step (first | (go_at_call 54;exact Calls.ext_of (HRE.out _))))
     refine wpQuiet_nil ?_
     rintro w2 ⟨e2,h3e⟩
     have m2:Mods Nil' w5 w2:=by rw [h3e];exact e2.m
     clear h3e e2;obtain ⟨hW2,b6⟩:=HWX.out w2 m2;have HW2:=hid hW2;clear hW2 m2 HWX
     by_cases h3:200<ks+os
     ·have HR2:Hid (r=1):=by rw [Hid,HR.out,if_pos h3]
      have h3':(200:Int)<(ks:Int)+os:=by omega
      go_wp2_with fail;go_ret
      exact ⟨ret_i64 (by rw [HR2.out];rfl),HW2.out⟩
     ·have HR2:Hid (r=0):=by rw [Hid,HR.out,if_neg h3]
      have h3':¬ (200:Int)<(ks:Int)+os:=by omega
      go_wp2_with fail;go_ret
      exact ⟨ret_i64 (by rw [HR2.out];rfl),HW2.out⟩
   ·have hq2:((rf:Int)==2)=false:=by simp;omega
    have HR:Hid (r=if 200<ks+os then 1 else 0):=by rw [Hid,HF3.out,if_neg (by simp;omega)]
    repeat (go_big_quiet_step (first | (go_at_call 54;exact Calls.ext_of (HRE.out _))))
    refine wpQuiet_nil ?_
    rintro w2 ⟨e2,h3e⟩
    have m2:Mods Nil' w5 w2:=by rw [h3e];exact e2.m
    clear h3e e2;obtain ⟨hW2,b6⟩:=HWX.out w2 m2;have HW2:=hid hW2;clear hW2 m2 HWX
    by_cases h3:200<ks+os
    ·have HR2:Hid (r=1):=by rw [Hid,HR.out,if_pos h3]
     have h3':(200:Int)<(ks:Int)+os:=by omega
     go_wp2_with fail;go_ret
     exact ⟨ret_i64 (by rw [HR2.out];rfl),HW2.out⟩
    ·have HR2:Hid (r=0):=by rw [Hid,HR.out,if_neg h3]
     have h3':¬ (200:Int)<(ks:Int)+os:=by omega
     go_wp2_with fail;go_ret
     exact ⟨ret_i64 (by rw [HR2.out];rfl),HW2.out⟩
def FltPost (w0:World) (b bm bM bF:Nat) (vF:Value) (k:WK) (r:Nat) (e:Ending) (w':World):Prop:=e=.returned (.int .i64 r)/\∃ vL,WkAt w0 b bm vF bM bF vL k w'
set_option maxRecDepth 100000 in
set_option maxHeartbeats 4000000 in
theorem wkF_any (wO w0 w:World) (b bm bM bF:Nat) (vF vL:Value) (lb:List Nat) (o:OL) (k:WK) (bs:List Nat) (x:PLn) (hO:OutAt wO bm vF lb o w0) (h:WkAt w0 b bm vF bM bF vL k w) (hA:x.kind=4->∀ W,Mods Nil' w0 W->OpAt W (bs[x.x.k]?.getD 0) x.x.o)
  (hM:k.maps.Nodup) (hFn:k.funcs.Nodup) (h34:x.kind=3\/x.kind=4->k.funcs≠[]) (h2:x.kind=2->k.funcs.length<o.fs.length) (hl:k.funcs.length<=o.fs.length) (hl2:o.fs.length<=1000001) (hs:k.slots<=2000002) (hm:k.maps.length<=1000001) (hlb:k.labels.length<=1000001) :
  Calls Tryz.prog 43 #[.pointer (some ⟨b,0,none⟩),.agg (x.cells bs)] w fun e w'=>FltPost w0 b bm bM bF vF (stepP k x) (faultP o k x) e w':=by
 obtain ⟨vo,vc,hvF,_⟩:=hO.sl.view
 have HC1:Hid (x.kind=1->∀ w',WkAt w0 b bm vF bM bF vL k w'->Calls Tryz.prog 108 #[.pointer (some ⟨b,0,none⟩),.agg (x.cells bs)] w' fun e w''=>FltPost w0 b bm bM bF vF (stepP k x) (faultP o k x) e w''):=fun hx w' h'=>(mapF_any w0 w' b bm bM bF vF vL k bs x h' ⟨_,_,_,hvF⟩ hx hm hM).mono fun e w'' hp=>⟨by rw [faultP,if_pos hx];exact hp.1,vL,by rw [stepP,if_pos hx];exact hp.2⟩
 have HC2:Hid (x.kind=2->∀ w',WkAt w0 b bm vF bM bF vL k w'->Calls Tryz.prog 109 #[.pointer (some ⟨b,0,none⟩),.agg (x.cells bs)] w' fun e w''=>FltPost w0 b bm bM bF vF (stepP k x) (faultP o k x) e w''):=fun hx w' h'=>(funcF_any wO w0 w' b bm bM bF vF vL lb o k bs x hO h' hx (h2 hx) hl2 hFn).mono fun e w'' hp=>⟨by rw [faultP,if_neg (by omega),if_pos hx];exact hp.1,by rw [stepP,if_neg (by omega),if_pos hx];exact hp.2⟩
 have HC4:Hid (x.kind=4->∀ w',WkAt w0 b bm vF bM bF vL k w'->Calls Tryz.prog 110 #[.pointer (some ⟨b,0,none⟩),.agg (x.cells bs)] w' fun e w''=>FltPost w0 b bm bM bF vF (stepP k x) (faultP o k x) e w''):=fun hx w' h'=>(codeF_any wO w0 w' b bm bM bF vF vL lb o k bs x hO h' hx (hA hx) (h34 (.inr hx)) hl hl2 hs).mono fun e w'' hp=>⟨by rw [faultP,if_neg (by omega),if_neg (by omega),if_neg (by omega),if_pos hx];exact hp.1,vL,by rw [stepP,if_neg (by omega),if_neg (by omega),if_neg (by omega),if_pos hx];exact hp.2⟩
 have HC3:Hid (x.kind=3->∀ e w',e=.returned (.int .i64 (labFaultP k x))->WkAt w0 b bm vF bM bF vL (labStepP k x) w'->FltPost w0 b bm bM bF vF (stepP k x) (faultP o k x) e w'):=fun hx e w' h1 h2=>⟨by rw [faultP,if_neg (by omega),if_neg (by omega),if_pos hx];exact h1,vL,by rw [stepP,if_neg (by omega),if_neg (by omega),if_pos hx];exact h2⟩
 have HC0:Hid (x.kind≠1/\x.kind≠2/\x.kind≠3/\x.kind≠4->∀ e w',e=.returned (.int .i64 0)->WkAt w0 b bm vF bM bF vL k w'->FltPost w0 b bm bM bF vF (stepP k x) (faultP o k x) e w'):=fun hx e w' h1 h2=>⟨by rw [faultP,if_neg hx.1,if_neg hx.2.1,if_neg hx.2.2.1,if_neg hx.2.2.2];exact h1,vL,by rw [stepP,if_neg hx.1,if_neg hx.2.1,if_neg hx.2.2.1,if_neg hx.2.2.2];exact h2⟩
 have HLL:Hid (x.kind=3->∃ bL,vL=.map (some bL)/\∀ W,WkAt w0 b bm vF bM bF vL k W->CntAt W bL k.labels/\∀ W',CntAt W' bL (x.name::k.labels)->Mods (fun i=>i=bL) W W'->WkAt w0 b bm vF bM bF vL (labStepP k x) W'):=fun hx=>by
  obtain ⟨bL,h1,_⟩:=h.ls (h34 (.inl hx))
  subst h1
  refine ⟨bL,rfl,fun W hW=>⟨?_,fun W' hc m=>hW.lab (h34 (.inl hx)) hc m⟩⟩
  obtain ⟨bL',h1,h2,_⟩:=hW.ls (h34 (.inl hx))
  injection h1 with h1
  injection h1 with h1
  subst h1;exact h2
 have HCS:Hid ((x.cells bs).size=20):=cells_size bs x
 have HK0:Hid ((x.cells bs)[0]?=some (.int .i64 x.kind)):=cells_kind bs x
 have HCN:Hid (x.kind≠4->(x.cells bs)[1]?=some (.string (T x.name))):=cells_name bs x
 have HO1:Hid ((x.cells bs).all (·.oneCell')=true):=cells_one bs x
 have HLF:Hid (labFaultP k x=if 0<k.labels.count x.name then 4 else 0):=rfl
 have hcn:k.labels.count x.name<=1000001:=Nat.le_trans List.count_le_length hlb
 have HWK:=hid h;subst hvF;obtain ⟨vq,rfl⟩:=h.vl;clear h hO hA hM hFn h34 h2
 have HRE:Hid (∀ e w',FltPost w0 b bm bM bF (.slice vo o.fs.length vc) (stepP k x) (faultP o k x) e w'->∃ n:Nat,e=.returned (.int .i64 n)):=fun e w' hp=>⟨_,hp.1⟩
 generalize FltPost w0 b bm bM bF (.slice vo o.fs.length vc) (stepP k x) (faultP o k x)=RP at *;generalize labFaultP k x=lf at *;generalize x.cells bs=cs at *
 have HMB:Hid (Mods Nil' w (w.alloc (.cells cs 102))):=(Mods.refl _ _).alloc _
 have HB1:Hid (Blk (w.alloc (.cells cs 102)) w.heap.size cs 102):=Blk.new w _ _
 have HW1:Hid (WkAt w0 b bm (.slice vo o.fs.length vc) bM bF (.map vq) k (w.alloc (.cells cs 102))):=HWK.out.quiet HMB.out
 go_enter Tryz.func43,Tryz.ntmps43
 go_upto_region 1 with fail;generalize w.alloc (.cells cs 102)=w1 at *;generalize w.heap.size=B at *
 have c0:w1.cell? ⟨B,0,none⟩=some (.int .i64 x.kind):=(HB1.out.cell 0).trans HK0.out
 have hcase:x.kind=1\/x.kind=2\/x.kind=3\/x.kind=4\/(x.kind≠1/\x.kind≠2/\x.kind≠3/\x.kind≠4):=by omega
 rcases hcase with hx | hx | hx | hx | hx
 ·have q1:((x.kind:Int)==1)=true:=by rw [hx];rfl
  have HC:=HC1.out hx
  clear hx
  go_wp2_with (refine wpList_load_row rfl 102 (.tmp 3) rfl B rfl 102 cs (0,0) _ HB1.out Tryz.underlying102 rfl (by rw [HCS.out];kernel_rfl) ?_)
  refine (HC _ HW1.out).mono ?_
  intro e w2 hp;obtain ⟨n,rfl⟩:=HRE.out e w2 hp;have HP:=hid hp;clear hp;go_wp2_with fail;exact HP.out
 ·have q1:((x.kind:Int)==1)=false:=by rw [hx];rfl
  have q2:((x.kind:Int)==2)=true:=by rw [hx];rfl
  have HC:=HC2.out hx
  clear hx
  go_wp2_with (refine wpList_load_row rfl 102 (.tmp 3) rfl B rfl 102 cs (0,0) _ HB1.out Tryz.underlying102 rfl (by rw [HCS.out];kernel_rfl) ?_)
  refine (HC _ HW1.out).mono ?_
  intro e w2 hp;obtain ⟨n,rfl⟩:=HRE.out e w2 hp;have HP:=hid hp;clear hp;go_wp2_with fail;exact HP.out
 ·have q1:((x.kind:Int)==1)=false:=by rw [hx];rfl
  have q2:((x.kind:Int)==2)=false:=by rw [hx];rfl
  have q3:((x.kind:Int)==3)=true:=by rw [hx];rfl
  have HC:Hid (∀ e w',e=.returned (.int .i64 lf)->WkAt w0 b bm (.slice vo o.fs.length vc) bM bF (.map vq) (labStepP k x) w'->RP e w'):=HC3.out hx
  obtain ⟨bL,hbL,hLL⟩:=HLL.out hx
  injection hbL with hbL
  subst hbL;have HL:=hid hLL
  have HN:Hid (cs[1]?=some (.string (T x.name))):=HCN.out (by omega)
  clear hx hLL;go_upto_region 7 with fail
  have HMd:Hid (Mods Nil' w1 w1.drew):=(Mods.refl _ _).drew
  refine wp_region_qtail 8 (by kernel_rfl) (by kernel_rfl) ?_
  intro W hW;rw [<- hW] at HMd;clear hW c0
  have HW2:Hid (WkAt w0 b bm (.slice vo o.fs.length vc) bM bF (.map (some bL)) k W):=HW1.out.quiet HMd.out
  have HB2:Hid (Blk W B cs 102):=HB1.out.mods HMd.out id
  have c1:W.cell? ⟨B,1,none⟩=some (.string (T x.name)):=(HB2.out.cell 1).trans HN.out
  have b4:W.cell? ⟨b,4,none⟩=some (.map (some bL)):=HW2.out.blk.cell 4
  obtain ⟨hcL,hst⟩:=HL.out W HW2.out
  have hlk:=hcL.look x.name
  obtain ⟨w5,hup,hc5,m5⟩:=hcL.put x.name
  have HW5:Hid (WkAt w0 b bm (.slice vo o.fs.length vc) bM bF (.map (some bL)) (labStepP k x) w5):=hst w5 hc5 m5
  have HB5:Hid (Blk w5 B cs 102):=HB2.out.mods m5 (fun e=>hcL.notBlk HB2.out e)
  have HC5:=hid hc5
  have HLC:Hid ((x.name::k.labels).count x.name=k.labels.count x.name+1):=List.count_cons_self ..
  clear hc5 m5 hst hcL;generalize k.labels.count x.name=cn at *
  simp only [List.take_succ_cons,List.take_zero,List.drop_succ_cons,List.drop_zero]
  repeat (go_big_quiet_step (fail))
  refine wpQuiet_nil ?_
  clear hlk c1 b4 HW2 HB2 HMd;go_upto_region 8 with fail
  have HMd:Hid (Mods Nil' w5 w5.drew):=(Mods.refl _ _).drew
  refine wp_region_qall (by kernel_rfl) (by kernel_rfl) ?_
  intro W7 hW7;rw [<- hW7] at HMd;clear hW7 hup
  have HW7:Hid (WkAt w0 b bm (.slice vo o.fs.length vc) bM bF (.map (some bL)) (labStepP k x) W7):=HW5.out.quiet HMd.out
  have c1:W7.cell? ⟨B,1,none⟩=some (.string (T x.name)):=((HB5.out.mods HMd.out id).cell 1).trans HN.out
  have b4:W7.cell? ⟨b,4,none⟩=some (.map (some bL)):=HW7.out.blk.cell 4
  have hlk:=(HC5.out.mods HMd.out id).look x.name
  rw [HLC.out] at hlk;clear HMd HW5 HB5 HC5
  by_cases h0:0<cn
  ·have HR:Hid (lf=4):=by rw [Hid,HLF.out,if_pos h0]
   have hq:((1:Int)<((cn+1:Nat):Int)):=by omega
   repeat (go_big_quiet_step (fail))
   refine wpQuiet_nil ?_
   go_wp2_with fail
   exact HC.out _ _ (ret_i64 (by rw [HR.out];rfl)) HW7.out
  ·have hc0:cn=0:=by omega
   subst hc0
   have HR:Hid (lf=0):=by rw [Hid,HLF.out,if_neg h0]
   repeat (go_big_quiet_step (fail))
   refine wpQuiet_nil ?_
   go_wp2_with fail
   exact HC.out _ _ (ret_i64 (by rw [HR.out];rfl)) HW7.out
 ·have q1:((x.kind:Int)==1)=false:=by rw [hx];rfl
  have q2:((x.kind:Int)==2)=false:=by rw [hx];rfl
  have q3:((x.kind:Int)==3)=false:=by rw [hx];rfl
  have q4:((x.kind:Int)==4)=true:=by rw [hx];rfl
  have HC:=HC4.out hx
  clear hx
  go_wp2_with (refine wpList_load_row rfl 102 (.tmp 3) rfl B rfl 102 cs (0,0) _ HB1.out Tryz.underlying102 rfl (by rw [HCS.out];kernel_rfl) ?_)
  refine (HC _ HW1.out).mono ?_
  intro e w2 hp;obtain ⟨n,rfl⟩:=HRE.out e w2 hp;have HP:=hid hp;clear hp;go_wp2_with fail;exact HP.out
 ·have q1:((x.kind:Int)==1)=false:=by simp;omega
  have q2:((x.kind:Int)==2)=false:=by simp;omega
  have q3:((x.kind:Int)==3)=false:=by simp;omega
  have q4:((x.kind:Int)==4)=false:=by simp;omega
  have HC:Hid (∀ e w',e=.returned (.int .i64 0)->WkAt w0 b bm (.slice vo o.fs.length vc) bM bF (.map vq) k w'->RP e w'):=HC0.out hx
  clear hx;go_wp2_with fail;exact HC.out _ _ rfl HW1.out
def firstP (o:OL):List PLn->WK->Nat->Nat × Nat
 | [],_,_=>(0,0)
 | x::ls,k,n=>if faultP o k x=0 then firstP o ls (stepP k x) (n+1) else (faultP o k x,n+1)
theorem firstP_drop (o:OL) (ls:List PLn) (i:Nat) (h:i<ls.length) (k:WK) (n:Nat):firstP o (ls.drop i) k n=if faultP o k ls[i]=0 then firstP o (ls.drop (i+1)) (stepP k ls[i]) (n+1) else (faultP o k ls[i],n+1):=by
 rw [List.drop_eq_getElem_cons h];rfl
structure WkOk (ls:List PLn) (i:Nat) (k:WK):Prop where
 m:k.maps.Nodup
 f:k.funcs.Nodup
 n:k.funcs.length=(outlineP (ls.take i)).fs.length
 s:k.slots<=2*i
 ml:k.maps.length<=i
 ll:k.labels.length<=i
theorem onLast_len (o:OL) (f:OFn):(o.onLast f).fs.length=o.fs.length:=by simp [OL.onLast]
theorem WkOk.step {ls:List PLn} {i:Nat} {k:WK} (h:WkOk ls i k) (o:OL) (hi:i<ls.length) (hz:faultP o k ls[i]=0):WkOk ls (i+1) (stepP k ls[i]):=by
 obtain ⟨h1,h2,h3,h4,h5,h6⟩:=h
 have hs:=outline_step ls i hi
 generalize ls[i]=x at *;unfold faultP at hz;unfold stepP
 by_cases k1:x.kind=1
 ·rw [if_pos k1] at hz ⊢;unfold mapFaultP at hz
  split at hz
  ·cases hz
  split at hz
  ·cases hz
  rename_i _ hc
  refine ⟨List.nodup_cons.2 ⟨fun hm=>hc (List.count_pos_iff.2 hm),h1⟩,h2,?_,Nat.le_trans h4 (by omega),by simpa [mapStepP] using h5,Nat.le_succ_of_le h6⟩
  rw [hs,outStep,if_pos k1];exact h3
 rw [if_neg k1] at hz ⊢
 by_cases k2:x.kind=2
 ·rw [if_pos k2] at hz ⊢;unfold funcFaultP at hz
  split at hz
  ·cases hz
  rename_i hc
  refine ⟨h1,List.nodup_cons.2 ⟨fun hm=>hc (List.count_pos_iff.2 hm),h2⟩,?_,Nat.le_trans h4 (by omega),Nat.le_succ_of_le h5,Nat.zero_le _⟩
  rw [hs,outStep,if_neg k1,if_pos k2]
  simp [funcStepP,h3]
 rw [if_neg k2] at hz ⊢
 by_cases k3:x.kind=3
 ·rw [if_pos k3] at hz ⊢
  refine ⟨h1,h2,?_,Nat.le_trans h4 (by omega),Nat.le_succ_of_le h5,by simpa [labStepP] using h6⟩
  rw [hs,outStep,if_neg k1,if_neg k2,if_pos k3,onLast_len];exact h3
 rw [if_neg k3] at hz ⊢
 by_cases k4:x.kind=4
 ·rw [if_pos k4] at hz ⊢
  have:=x.x.slots2
  refine ⟨h1,h2,?_,by show k.slots+x.x.o.slots<=_;omega,Nat.le_succ_of_le h5,Nat.le_succ_of_le h6⟩
  rw [hs,outStep,if_neg k1,if_neg k2,if_neg k3,if_pos k4,onLast_len];exact h3
 ·rw [if_neg k4] at hz ⊢
  refine ⟨h1,h2,?_,Nat.le_trans h4 (by omega),Nat.le_succ_of_le h5,Nat.le_succ_of_le h6⟩
  rw [hs,outStep,if_neg k1,if_neg k2,if_neg k3,if_neg k4];exact h3
theorem outStep_len (o:OL) (x:PLn):o.fs.length<=(outStep o x).fs.length:=by
 unfold outStep
 split
 ·exact Nat.le_refl _
 split
 ·simp
 split
 ·rw [onLast_len];exact Nat.le_refl _
 split
 ·rw [onLast_len];exact Nat.le_refl _
 ·exact Nat.le_refl _
theorem fold_len:∀ (ls:List PLn) (o:OL),o.fs.length<=(ls.foldl outStep o).fs.length
 | [],_=>Nat.le_refl _
 | x::ls,o=>Nat.le_trans (outStep_len o x) (fold_len ls (outStep o x))
theorem outline_mono (ls:List PLn) (i:Nat):(outlineP (ls.take i)).fs.length<=(outlineP ls).fs.length:=by
 have h:=fold_len (ls.drop i) (outlineP (ls.take i))
 have e:(ls.drop i).foldl outStep (outlineP (ls.take i))=outlineP ls:=by
  unfold outlineP;rw [<- List.foldl_append,List.take_append_drop]
 rwa [e] at h
theorem outline_two (ls:List PLn) (i:Nat) (hi:i<ls.length) (h2:ls[i].kind=2):(outlineP (ls.take i)).fs.length<(outlineP ls).fs.length:=by
 have h:=outline_mono ls (i+1)
 rw [outline_step ls i hi,outStep,if_neg (by omega),if_pos h2] at h
 simp at h
 omega
def FirstPost (w:World) (p:Nat × Nat) (e:Ending) (w':World):Prop:=e=.returned (.tuple #[.int .i64 p.1,.int .i64 p.2])/\Mods Nil' w w'
theorem outline_le (ls:List PLn):(outlineP ls).fs.length<=ls.length:=by
 have:=(outline_small ls ls.length (Nat.le_refl _)).2
 rwa [List.take_length] at this
set_option maxRecDepth 100000 in
set_option maxHeartbeats 4000000 in
theorem first_any (wT wL wO w:World) (v vL vF:Value) (bm:Nat) (lb bs:List Nat) (ls:List PLn) (hT:OpsIn 0 wT v bs tableS) (m:Mods Nil' wT w) (hL:LnsAt wL vL bs ls w) (hO:OutAt wO bm vF lb (outlineP ls) w) (hin:InF ls) (hk4:∀ x∈ls,x.kind=4->x.x.k<tableS.length) (hnl:ls.length<=1000001) :
  Calls Tryz.prog 22 #[vL,.agg #[.map (some bm),vF]] w fun e w'=>FirstPost w (firstP (outlineP ls) ls {} 0) e w':=by
 have HOP:Hid (∀ w',Mods Nil' w w'->∀ x∈ls,x.kind=4->OpAt w' (bs[x.x.k]?.getD 0) x.x.o):=fun w' m' x hx h4=>by
  have h1:=hk4 x hx h4
  have h2:x.x.k<bs.length:=by rw [hT.len];exact h1
  have:=(hT.mods (m.trans m')).at' x.x.k h2 h1
  rw [List.getElem?_eq_getElem h2];unfold PRead.o;rw [List.getElem?_eq_getElem h1];exact this
 have HLN:=hid hL
 have hol:=Nat.le_trans (outline_le ls) hnl
 have HFL:Hid (∀ i (hi:i<ls.length) (b bM bF:Nat) (vl:Value) (k:WK) (w':World),WkOk ls i k->WkAt w b bm vF bM bF vl k w'->Calls Tryz.prog 43 #[.pointer (some ⟨b,0,none⟩),.agg (ls[i].cells bs)] w' fun e w''=>FltPost w b bm bM bF vF (stepP k ls[i]) (faultP (outlineP ls) k ls[i]) e w''):=fun i hi b bM bF vl k w' hk hw=>by
  have hm:=outline_mono ls i
  refine wkF_any wO w w' b bm bM bF vF vl lb (outlineP ls) k bs ls[i] hO hw (fun h4 W hW=>HOP.out W hW _ (List.getElem_mem hi) h4) hk.m hk.f (fun h34=>?_) (fun h2=>?_) (by rw [hk.n];exact hm) hol ?_ ?_ ?_
  ·have:=hin i hi h34
   intro e
   have hn:=hk.n
   rw [e] at hn
   exact this (List.length_eq_zero_iff.1 hn.symm)
  ·rw [hk.n];exact outline_two ls i hi h2
  ·have:=hk.s;omega
  ·have:=hk.ml;omega
  ·have:=hk.ll;omega
 have HDR:Hid (∀ i (h:i<ls.length) k n,firstP (outlineP ls) (ls.drop i) k n=if faultP (outlineP ls) k ls[i]=0 then firstP (outlineP ls) (ls.drop (i+1)) (stepP k ls[i]) (n+1) else (faultP (outlineP ls) k ls[i],n+1)):=fun i h k n=>firstP_drop _ ls i h k n
 have HPF:Hid (∀ e w',e=.returned (.tuple #[.int .i64 (firstP (outlineP ls) ls {} 0).1,.int .i64 (firstP (outlineP ls) ls {} 0).2])->Mods Nil' w w'->FirstPost w (firstP (outlineP ls) ls {} 0) e w'):=fun e w' h1 h2=>⟨h1,h2⟩
 obtain ⟨oL,cL,rfl,_⟩:=hL.sl.view;obtain ⟨oF,cF,hvF,_⟩:=hO.sl.view
 have HOK:Hid (WkOk ls 0 {}):=⟨List.nodup_nil,List.nodup_nil,by rw [List.take_zero];rfl,Nat.zero_le _,Nat.zero_le _,Nat.zero_le _⟩
 have HST:Hid (∀ i k (hi:i<ls.length),WkOk ls i k->faultP (outlineP ls) k ls[i]=0->WkOk ls (i+1) (stepP k ls[i])):=fun i k hi h hz=>h.step (outlineP ls) hi hz
 have hmm:=@run_makeMap Tryz.prog
 generalize FirstPost w (firstP (outlineP ls) ls {} 0)=RP at *
 have HPR:Hid (firstP (outlineP ls) (ls.drop 0) {} 0=firstP (outlineP ls) ls {} 0):=rfl
 generalize firstP (outlineP ls) ls {} 0=pr at *;clear hT m hL hO hin hk4;subst hvF;generalize outlineP ls=o at *
 have HW0:Hid (WkAt w (w.heap.size+1+1+1) bm (.slice oF o.fs.length cF) (w.heap.size+1) (w.heap.size+1+1) (.map none) {} ((((w.alloc (.cells #[.map (some bm),.slice oF o.fs.length cF] 64)).alloc (.map #[] 0)).alloc (.map #[] 0)).alloc (.cells #[.map (some bm),.slice oF o.fs.length cF,.map (some (w.heap.size+1)),.map (some (w.heap.size+1+1)),.map none,.int .i64 (-1),.int .i64 0] 110))):=by
  have e1:(w.alloc (.cells #[.map (some bm),.slice oF o.fs.length cF] 64)).heap.size=w.heap.size+1:=by simp
  have e2:((w.alloc (.cells #[.map (some bm),.slice oF o.fs.length cF] 64)).alloc (.map #[] 0)).heap.size=w.heap.size+1+1:=by simp
  have e3:(((w.alloc (.cells #[.map (some bm),.slice oF o.fs.length cF] 64)).alloc (.map #[] 0)).alloc (.map #[] 0)).heap.size=w.heap.size+1+1+1:=by simp
  have m1:=CntAt.new (w.alloc (.cells #[.map (some bm),.slice oF o.fs.length cF] 64))
  have m2:=CntAt.new ((w.alloc (.cells #[.map (some bm),.slice oF o.fs.length cF] 64)).alloc (.map #[] 0))
  rw [e1] at m1;rw [e2] at m2
  have hb:=Blk.new (((w.alloc (.cells #[.map (some bm),.slice oF o.fs.length cF] 64)).alloc (.map #[] 0)).alloc (.map #[] 0)) #[.map (some bm),.slice oF o.fs.length cF,.map (some (w.heap.size+1)),.map (some (w.heap.size+1+1)),.map none,.int .i64 (-1),.int .i64 0] 110
  rw [e3] at hb
  refine ⟨hb,(m1.mods ((Mods.refl Nil' _).alloc _) id).mods ((Mods.refl Nil' _).alloc _) id,m2.mods ((Mods.refl Nil' _).alloc _) id,⟨_,rfl⟩,fun h=>absurd rfl h,by omega,by omega,((((Mods.refl _ _).alloc _).alloc _).alloc _).alloc _⟩
 go_enter Tryz.func22,Tryz.ntmps22
 go_upto_region 1 with fail;go_wp2_with fail;generalize ((((w.alloc (.cells #[.map (some bm),.slice oF o.fs.length cF] 64)).alloc (.map #[] 0)).alloc (.map #[] 0)).alloc (.cells #[.map (some bm),.slice oF o.fs.length cF,.map (some (w.heap.size+1)),.map (some (w.heap.size+1+1)),.map none,.int .i64 (-1),.int .i64 0] 110))=w4 at *;generalize w.heap.size+1+1+1=b at *;generalize w.heap.size+1+1=bF at *;generalize w.heap.size+1=bM at *
 go_loopg [16] ls.length (fun q v16 wx=>∃ (i:Nat) (k:WK) (vl:Value),i<=ls.length/\v16=.int .i64 i/\WkAt w b bm (.slice oF o.fs.length cF) bM bF vl k wx/\WkOk ls i k/\firstP o (ls.drop i) k i=pr/\q=ls.length - i)
 case atStart=>exact ⟨0,_,_,Nat.zero_le _,rfl,HW0.out,HOK.out,HPR.out,rfl⟩
 case round =>
  obtain ⟨i,k,vl,hi,rfl,hA,hok,hpr,rfl⟩:=hrel;have HA:=hid hA;have HK:=hid hok;have HP:=hid hpr;clear hA hok hpr HW0 HOK HPR
  by_cases hlt:i<ls.length
  ·obtain ⟨g,cL',hv,hcl,hrow⟩:=HLN.out.row i hlt
   injection hv with hv1 hv2 hv3
   subst hv1
   have HRW:=hrow wr HA.out.md
   have HD:Hid (pr=if faultP o k ls[i]=0 then firstP o (ls.drop (i+1)) (stepP k ls[i]) (i+1) else (faultP o k ls[i],i+1)):=by rw [Hid,<- HP.out];exact HDR.out i hlt k i
   have HS:Hid (faultP o k ls[i]=0->WkOk ls (i+1) (stepP k ls[i])):=fun hz=>HST.out i k hlt HK.out hz
   have HF:Hid (∀ w',WkAt w b bm (.slice oF o.fs.length cF) bM bF vl k w'->Calls Tryz.prog 43 #[.pointer (some ⟨b,0,none⟩),.agg (ls[i].cells bs)] w' fun e w''=>FltPost w b bm bM bF (.slice oF o.fs.length cF) (stepP k ls[i]) (faultP o k ls[i]) e w''):=fun w' hw=>HFL.out i hlt b bM bF vl k w' HK.out hw
   clear hrow hv3 HFL HOP HDR HST HP HK;generalize faultP o k ls[i]=r at *;generalize stepP k ls[i]=k' at *;generalize ls[i]=x at *
   have HCS:Hid ((x.cells bs).size=20):=cells_size bs x
   have HC1:Hid ((x.cells bs).all (·.oneCell')=true):=cells_one bs x
   have HB2:Hid (Blk (wr.alloc (.cells (lnM 0 ⟨#[]⟩ num0 num0 num0) 102)) wr.heap.size (lnM 0 ⟨#[]⟩ num0 num0 num0) 102):=Blk.new wr _ _
   generalize x.cells bs=cs at *
   go_upto_region 5 with (first | (refine wpList_load_rowAt rfl 102 (.tmp 19) rfl g (i*20) rfl cs _ HRW Tryz.underlying102 rfl (by rw [HCS.out];kernel_rfl) ?_) | (refine wpList_store_blk rfl 102 (.tmp 8) (.tmp 20) rfl wr.heap.size cs rfl rfl 102 _ HB2.out (by rw [HCS.out];kernel_rfl) (by rw [HCS.out];rfl) HC1.out ?_;intro W3 hB3 hm3))
   have HA3:Hid (WkAt w b bm (.slice oF o.fs.length cF) bM bF vl k W3):=HA.out.quiet hm3.fresh
   have HB3:=hid hB3;clear HA HB2 HRW hm3 hB3;generalize wr.heap.size=B at *
   go_wp2_with (refine wpList_load_row rfl 102 (.tmp 8) rfl B rfl 102 cs (0,0) _ HB3.out Tryz.underlying102 rfl (by rw [HCS.out];kernel_rfl) ?_)
   refine (HF.out _ HA3.out).mono ?_
   rintro e w5 ⟨rfl,vl',hw5⟩
   have HW5:=hid hw5;clear hw5 HA3 HF HB3
   by_cases hr:r=0
   ·have HS2:Hid (WkOk ls (i+1) k'):=HS.out hr
    clear HS;subst hr
    have HP2:Hid (firstP o (ls.drop (i+1)) k' (i+1)=pr):=by rw [Hid,HD.out,if_pos rfl]
    go_wp2_with fail
    go_roundg (ls.length - (i+1))
    case measure=>omega
    case rel=>exact ⟨i+1,k',vl',by omega,by go_num,HW5.out,HS2.out,HP2.out,rfl⟩
   ·have HP2:Hid (pr=(r,i+1)):=by rw [Hid,HD.out,if_neg hr]
    have hq:((r:Int)==0)=false:=by simp;omega
    have HE:Hid (((i+1:Nat):Int)=(i:Int)+1):=by rw [Hid];omega
    go_wp2_with fail
    refine HPF.out _ _ ?_ HW5.out.md
    rw [HP2.out]
    dsimp only
    rw [HE.out]
    rfl
  ·have HP2:Hid (pr=(0,0)):=by
    rw [Hid,<- HP.out,List.drop_eq_nil_of_le (by omega)];rfl
   go_wp2_with fail
   refine HPF.out _ _ ?_ HA.out.md
   rw [HP2.out]
   rfl
theorem readFrom_lt (w l:List UInt8):∀ (os:List OpS) (k:Nat) (p:PRead),readFrom w l k os=some p->p.k<k+os.length
 | [],k,p,h=>by simp [readFrom] at h
 | o::os,k,p,h=>by
  rw [readFrom] at h
  have ih:=readFrom_lt w l os (k+1) p
  split at h
  ·split at h
   ·have:=ih h;simp;omega
   ·split at h
    ·injection h with h
     subst h
     simp
    ·have:=ih h;simp;omega
  ·have:=ih h;simp;omega
theorem mapLn_kind {l:List UInt8} {x:PLn} (h:mapLnP l=some x):x.kind=1:=by
 unfold mapLnP at h
 split at h
 ·simp only [Option.bind_eq_some_iff] at h
  obtain ⟨a,_,b,_,c,_,h⟩:=h
  split at h
  ·injection h with h;subst h;rfl
  ·cases h
 ·cases h
theorem line_row {t:List UInt8} {x:PLn} (h:lineP t=some x) (h4:x.kind=4):x.x.k<tableS.length:=by
 unfold lineP at h
 simp only [Option.bind_eq_some_iff] at h
 obtain ⟨l,_,h⟩:=h
 split at h
 ·injection h with h;subst h;cases h4
 split at h
 ·split at h
  ·injection h with h;subst h;cases h4
  ·cases h
 split at h
 ·have:=mapLn_kind h;omega
 split at h
 ·split at h
  ·injection h with h;subst h;cases h4
  ·cases h
 ·rw [Option.map_eq_some_iff] at h;obtain ⟨p,hp,rfl⟩:=h
  have:=readFrom_lt _ _ tableS 0 p hp
  simpa using this
structure LnsOk (inF:Bool) (ls:List PLn):Prop where
 row:∀ x∈ls,x.kind=4->x.x.k<tableS.length
 inf:InF ls
 fn:inF=true->(outlineP ls).fs≠[]
theorem outline_app (ls:List PLn) (x:PLn):outlineP (ls++[x])=outStep (outlineP ls) x:=by
 unfold outlineP;rw [List.foldl_append];rfl
theorem fs_ne (o:OL) (x:PLn) (h:o.fs≠[]\/x.kind=2):(outStep o x).fs≠[]:=by
 rcases h with h | h
 ·have:=outStep_len o x
  intro e;rw [e] at this
  have h0:o.fs.length=0:=Nat.le_zero.1 this
  exact h (List.length_eq_zero_iff.1 h0)
 ·rw [outStep,if_neg (by omega),if_pos h];simp
theorem LnsOk.app {inF:Bool} {ls:List PLn} {x:PLn} (h:LnsOk inF ls) (hx:x.kind=4->x.x.k<tableS.length) (hn:¬ ((inF||x.kind==2)=false/\(x.kind=3\/x.kind=4))):LnsOk (inF||x.kind==2) (ls++[x]):=by
 refine ⟨fun y hy h4=>?_,fun k hk h34=>?_,fun hf=>?_⟩
 ·rcases List.mem_append.1 hy with h1 | h1
  ·exact h.row y h1 h4
  ·have:y=x:=by simpa using h1
   subst this;exact hx h4
 ·rcases Nat.lt_or_ge k ls.length with e | e
  ·rw [List.getElem_append_left e] at h34
   rw [List.take_append_of_le_length (by omega)]
   exact h.inf k e h34
  ·have hk':k=ls.length:=by simp at hk;omega
   subst hk'
   have ex:(ls++[x])[ls.length]'hk=x:=by simp
   rw [ex] at h34;rw [List.take_left']
   ·apply h.fn
    cases inF with
    | true=>rfl
    | false =>
     exfalso
     refine hn ⟨?_,h34⟩
     simp
     omega
   ·rfl
 ·rw [outline_app]
  refine fs_ne _ _ ?_
  cases inF with
  | true=>exact .inl (h.fn rfl)
  | false=>exact .inr (by simpa using hf)
theorem parse_ok:∀ (ts:List (List UInt8)) (inF:Bool) (n:Nat) (acc ls:List PLn),parseP ts inF n acc=.inl ls->LnsOk inF acc->∃ f,LnsOk f ls
 | [],inF,n,acc,ls,h,hk=>by
  rw [parseP] at h
  injection h with h
  subst h
  exact ⟨inF,hk⟩
 | t::ts,inF,n,acc,ls,h,hk=>by
  rw [parseP] at h
  cases hl:lineP t with
  | none=>rw [hl] at h;cases h
  | some x =>
   rw [hl] at h
   simp only at h
   split at h
   ·cases h
   ·rename_i hn
    exact parse_ok ts _ _ _ ls h (hk.app (line_row hl) hn)
theorem parse_lines:∀ (ts:List (List UInt8)) (inF:Bool) (n:Nat) (acc ls:List PLn),parseP ts inF n acc=.inl ls->ls.length=acc.length+ts.length
 | [],inF,n,acc,ls,h=>by
  rw [parseP] at h
  injection h with h
  subst h
  simp
 | t::ts,inF,n,acc,ls,h=>by
  rw [parseP] at h
  cases hl:lineP t with
  | none=>rw [hl] at h;cases h
  | some x =>
   rw [hl] at h
   simp only at h
   split at h
   ·cases h
   ·have:=parse_lines ts _ _ _ ls h
    simp at this ⊢
    omega
theorem parsed_ok {l:List UInt8} {ls:List PLn} (h:parseP (linesP l) false 0 []=.inl ls):InF ls/\(∀ x∈ls,x.kind=4->x.x.k<tableS.length)/\ls.length<=l.length+1:=by
 obtain ⟨f,hf⟩:=parse_ok _ _ _ _ _ h ⟨fun x hx=>(by cases hx),fun k hk=>absurd hk (Nat.not_lt_zero _),fun e=>by cases e⟩
 refine ⟨hf.inf,hf.row,?_⟩
 have h1:=parse_lines _ _ _ _ _ h
 have h2:=lines_len l
 simp at h1
 omega
set_option maxRecDepth 100000 in
set_option maxHeartbeats 1000000 in
theorem sizeOf_any (n:RNum) (w:World) (hn:0<=(n.sgnP 9223372036854775808).getD 0/\(n.sgnP 9223372036854775808).getD 0<256) :
  Calls Tryz.prog 114 #[n.aggP] w fun e w'=>e=.returned (.int .u8 ((n.sgnP 9223372036854775808).getD 0))/\Mods Nil' w w':=by
 have HS:Hid (∀ w,Calls Tryz.prog 216 #[n.aggP,.int .i64 64] w fun e w'=>e=.returned (.tuple #[.int .i64 ((n.sgnP 9223372036854775808).getD 0),.bool (n.sgnP 9223372036854775808).isSome])/\Mods Nil' w w'):=signed64_any n
 generalize (n.sgnP 9223372036854775808).isSome=sm at *;generalize (n.sgnP 9223372036854775808).getD 0=sg at *
 unfold RNum.aggP at *
 generalize decide (18446744073709551616<=n.v)=ng at *
 generalize ((n.v % 18446744073709551616:Nat):Int)=nv at *
 generalize n.minus=nm at *;obtain ⟨h0,h1⟩:=hn
 have HM:Hid (Mods Nil' w (w.alloc (.cells #[.bool nm,.int .u64 nv,.bool ng] 99))):=(Mods.refl _ _).alloc _
 go_enter Tryz.func114,Tryz.ntmps114
 go_wp2_with fail
 refine (HS.out _).mono ?_
 rintro e w2 ⟨rfl,m2⟩
 have HM2:Hid (Mods Nil' w w2):=HM.out.trans m2
 clear m2 HM;go_wp2_with fail;go_ret
 exact ⟨rfl,HM2.out⟩
end Go.Proofs.YtnhcaifopaeohaaGreatDoor
