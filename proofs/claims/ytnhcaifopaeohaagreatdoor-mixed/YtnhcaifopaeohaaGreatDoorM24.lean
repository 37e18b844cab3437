import Derived.Test.YtnhcaifopaeohaaGreatDoorM23
import Derived.Test.YtnhcaifopaeohaaGreatDoorM15
import Derived.Test.YtnhcaifopaeohaaGreatDoorM12
import Derived.Test.YtnhcaifopaeohaaGreatDoorM21
namespace Go.Proofs.YtnhcaifopaeohaaGreatDoor
open Go.RowKit
set_option linter.all false
theorem right_op (x:PIns) (op:Value) (p:PK):PK.right { x with op:=op } p=PK.right x p:=rfl
theorem needs_op (o:OpS) (x:PIns) (op:Value):o.needs { x with op:=op }=o.needs x:=by
 unfold OpS.needs
 have:(PK.right { x with op:=op })=PK.right x:=funext (right_op x op)
 rw [this]
 rfl
theorem needs_bs (o:OpS) (x:PI) (bs:List Nat):o.needs (x.ins bs)=o.needs (x.ins []):=needs_op o (x.ins []) _
def Eight (cs:Array Value):Prop:=∃ (p:Option Addr) (d s j n h:Int) (l m:ByteArray),cs=#[.pointer p,.int .u8 d,.int .u8 s,.int .i16 j,.int .i32 n,.int .i32 h,.string l,.string m]
def FromPost (w:World) (bs:List Nat) (l:List UInt8) (e:Ending) (w':World):Prop:=∃ cs,e=.returned (.tuple #[.agg cs,.bool (fromP l).isSome])/\(∀ x,fromP l=some x->cs=(x.ins bs).cells)/\Eight cs/\Mods Nil' w w'
theorem fromP_short (l:List UInt8) (h:l.length<8):fromP l=none:=by unfold fromP;rw [if_pos h]
theorem fromP_none (l:List UInt8) (h:¬ l.length<8) (hc:byCodeM (at' l 0)=none):fromP l=none:=by
 unfold fromP;rw [if_neg h,hc]
theorem fromP_less (l:List UInt8) (h:¬ l.length<8) (k:Nat) (hc:byCodeM (at' l 0)=some k) (hs:l.length<(tableS[k]?.getD noOp).slots*8):fromP l=none:=by
 unfold fromP;rw [if_neg h,hc];simp only;rw [if_pos hs]
theorem table_code:∀ o∈tableS,o.code<256:=by decide +kernel
theorem table_slots:∀ o∈tableS,o.slots=1\/o.slots=2:=by decide +kernel
theorem byCode_lt (c k:Nat) (h:byCodeM c=some k):k<88:=by
 have:=List.findIdx?_eq_some_iff_getElem.1 h
 have h2:=this.1
 rw [tableS_len] at h2;exact h2
theorem and15 (a:Nat) (ha:a<256):bits .and .u8 (a:Int) 15=((a % 16:Nat):Int):=by
 have h:=(bits_nat .u8 8 (by decide) (fun n h0 h1=>by rw [IntKind.wrap_u8];omega) a 15 ha (by decide)).1
 have e:a &&& 15=a % 16:=Nat.and_two_pow_sub_one_eq_mod a 4
 rw [e] at h;exact h
theorem wrap16_sgn (a b:Nat) (ha:a<256) (hb:b<256):IntKind.i16.wrap ((a:Int)+(b:Int)*256)=sgn16 (a+256*b):=by
 unfold sgn16 IntKind.wrap
 simp [IntKind.bits,IntKind.signed]
 split<;>omega
theorem setCell_drewN (w:World) (m:Nat) (a:Addr) (v:Value):(w.drewN m).setCell a v=(w.setCell a v).drewN m:=rfl
theorem set8_alloc (w:World) (g:Nat) (hg:g=w.heap.size) {t:TypeId} {z0 z1 z2 z3 z4 z5 z6 z7 a0 a1 a2 a3 a4 a5 a6 a7:Value} :
  (((((((((w.alloc (.cells #[z0,z1,z2,z3,z4,z5,z6,z7] t)).setCell ⟨g,0,none⟩ a0).setCell ⟨g,1,none⟩ a1).setCell ⟨g,2,none⟩ a2).setCell ⟨g,3,none⟩ a3).setCell ⟨g,4,none⟩ a4).setCell ⟨g,5,none⟩ a5).setCell ⟨g,6,none⟩ a6).setCell ⟨g,7,none⟩ a7)=w.alloc (.cells #[a0,a1,a2,a3,a4,a5,a6,a7] t):=by
 subst hg
 simp [go_sem]
abbrev Z8:Array Value:=#[.pointer none,.int .u8 0,.int .u8 0,.int .i16 0,.int .i32 0,.int .i32 0,.string ⟨#[]⟩,.string ⟨#[]⟩]
theorem FromPost.no {w w':World} {bs:List Nat} {l:List UInt8} {cs:Array Value} (h:fromP l=none) (m:Mods Nil' w w') (h8:Eight cs):FromPost w bs l (.returned (.tuple #[.agg cs,.bool false])) w' :=
 ⟨cs,by rw [h];rfl,fun x hx=>(by rw [h] at hx;cases hx),h8,m⟩
theorem fromP_main (l:List UInt8) (h:¬ l.length<8) (k:Nat) (hc:byCodeM (at' l 0)=some k) (hs:¬ l.length<(tableS[k]?.getD noOp).slots*8):fromP l =
  if 1<(tableS[k]?.getD noOp).slots/\(l.drop 8).take 4≠[0,0,0,0] then none
  else if (tableS[k]?.getD noOp).needs (PI.ins [] ⟨k,at' l 1 % 16,at' l 1 / 16,sgn16 (at' l 2+256*at' l 3),num32 (l.drop 4),if 1<(tableS[k]?.getD noOp).slots then num32 (l.drop 12) else 0,[]⟩) then some ⟨k,at' l 1 % 16,at' l 1 / 16,sgn16 (at' l 2+256*at' l 3),num32 (l.drop 4),if 1<(tableS[k]?.getD noOp).slots then num32 (l.drop 12) else 0,[]⟩ else none:=by
 unfold fromP;rw [if_neg h,hc];simp only;rw [if_neg hs]
theorem from_fit (l:List UInt8) (bs:List Nat) (k:Nat) (h:Int) (hh:-2147483648<=h/\h<=2147483647):PIns.Fit (PI.ins bs ⟨k,at' l 1 % 16,at' l 1 / 16,sgn16 (at' l 2+256*at' l 3),num32 (l.drop 4),h,[]⟩):=by
 have h1:=at_lt l 1
 have h2:=at_lt l 2
 have h3:=at_lt l 3
 have hj:=sgn16_bd (at' l 2+256*at' l 3) (by omega)
 have hn:=num32_bd (l.drop 4)
 exact ⟨by simp only [PI.ins];omega,by simp only [PI.ins];omega,hj.1,hj.2,hn.1,hn.2,hh.1,hh.2,by simp [PI.ins],by show (T []).size<=300;decide⟩
set_option maxRecDepth 100000 in
set_option maxHeartbeats 2000000 in
theorem from_any (w:World) (v:Value) (bs:List Nat) (hO:OpsIn 0 w v bs tableS) (l:List UInt8) (hl:l.length<=maxLen) :
  Calls Tryz.prog 221 #[v,.string (T l)] w fun e w'=>FromPost w bs l e w':=by
 have hs:(T l).size=l.length:=T_size l
 have hl':=hl
 unfold maxLen at hl
 by_cases h8:l.length<8
 ·have HF:Hid (fromP l=none):=fromP_short l h8
  go_enter Tryz.func221,Tryz.ntmps221
  go_wp2_with fail
  exact bodyPost_ret (results_cell_tmp_row Tryz.results221 _ _ w.heap.size 84 _ (0,0) _ _ rfl rfl (Blk.new _ _ _) Tryz.underlying84 rfl (by kernel_rfl)) rfl (FromPost.no HF.out ((Mods.refl _ _).alloc _) ⟨_,_,_,_,_,_,_,_,rfl⟩)
 have p0:0<(T l).size:=by omega
 have p1:1<(T l).size:=by omega
 have p2:2<(T l).size:=by omega
 have p3:3<(T l).size:=by omega
 have e0:=at_BL (T l) 0 p0
 have e1:=at_BL (T l) 1 p1
 have e2:=at_BL (T l) 2 p2
 have e3:=at_BL (T l) 3 p3
 rw [show BL (T l)=l from rfl] at e0 e1 e2 e3
 have hBy:Hid (∀ W,OpsIn 0 W v bs tableS->Calls Tryz.prog 280 #[v,.int .u8 ((T l)[0].toNat:Nat)] W fun e w'=>e=.returned (codeV bs (byCodeM (at' l 0)))/\w'=W):=fun W h=>by
  rw [e0]
  exact byCode_any W v bs tableS _ h (by rw [tableS_len];decide) table_code
 have i1:(1:Int)<(l.length:Int):=by omega
 have i2:(2:Int)<(l.length:Int):=by omega
 have i3:(3:Int)<(l.length:Int):=by omega
 have HO1:Hid (OpsIn 0 (w.alloc (.cells Z8 84)) v bs tableS):=hO.mods ((Mods.refl _ _).alloc _)
 have hZ:=Blk.new w Z8 84
 obtain ⟨o0,cap,hv,_⟩:=hO.sl.view;subst hv
 cases hc:byCodeM (at' l 0) with
 | none =>
  have HF:Hid (fromP l=none):=fromP_none l h8 hc
  rw [hc] at hBy
  go_enter Tryz.func221,Tryz.ntmps221
  go_wp2_with fail
  refine (hBy.out _ HO1.out).mono ?_
  rintro e w1 ⟨rfl,rfl⟩
  simp only [codeV]
  go_wp2_with fail
  exact bodyPost_ret (results_cell_tmp_row Tryz.results221 _ _ w.heap.size 84 _ (0,0) _ _ rfl rfl (Blk.new _ _ _) Tryz.underlying84 rfl (by kernel_rfl)) rfl (FromPost.no HF.out ((Mods.refl _ _).alloc _) ⟨_,_,_,_,_,_,_,_,rfl⟩)
 | some k =>
  rw [hc] at hBy
  have hk88:=byCode_lt _ _ hc
  have hkt:k<tableS.length:=by rw [tableS_len];exact hk88
  have hkb:k<bs.length:=by rw [hO.len];exact hkt
  have HG:Hid (tableS[k]?.getD noOp=tableS[k]):=by simp [Hid,hkt]
  have HBk:Hid (bs[k]?.getD 0=bs[k]):=by simp [Hid,hkb]
  have hsl:=table_slots tableS[k] (List.getElem_mem hkt)
  have hAt:=hO.at' k hkb hkt
  have hAt1:=hAt.mods ((Mods.refl _ _).alloc (.cells Z8 84))
  obtain ⟨o1,n1,c1,f6,c6,k7,c7,k8,c8,f9,c9,hblk,hsem⟩:=hAt.ex
  have hb1:=hblk.mods ((Mods.refl Nil' w).alloc (.cells Z8 84)) id
  have z2:(w.alloc (.cells Z8 84)).cell? ⟨bs[k],2,none⟩=some (.int .i64 tableS[k].slots):=hb1.cell 2
  have HSem:=hid hsem;have HB:=hid hblk;clear hblk hsem hb1 hAt hAt1
  by_cases hless:l.length<tableS[k].slots*8
  ·have HF:Hid (fromP l=none):=fromP_less l h8 k hc (by rw [HG.out];exact hless)
   generalize tableS[k].slots=sn at *
   have hq:((l.length:Int)<(sn:Int)*8):=by omega
   go_enter Tryz.func221,Tryz.ntmps221
   go_wp2_with fail
   refine (hBy.out _ HO1.out).mono ?_
   rintro e w1 ⟨rfl,rfl⟩
   simp only [codeV,HBk.out,ptrV]
   go_wp2_with fail
   exact bodyPost_ret (results_cell_tmp_row Tryz.results221 _ _ w.heap.size 84 _ (0,0) _ _ rfl rfl (Blk.new _ _ _) Tryz.underlying84 rfl (by kernel_rfl)) rfl (FromPost.no HF.out ((Mods.refl _ _).alloc _) ⟨_,_,_,_,_,_,_,_,rfl⟩)
  have HM:=fromP_main l h8 k hc (by rw [HG.out];exact hless)
  rw [HG.out] at HM
  have HMain:Hid _:=HM
  clear HM
  have l1:=((T l)[1]).toNat_lt
  have l2:=((T l)[2]).toNat_lt
  have l3:=((T l)[3]).toNat_lt
  have hand:=and15 (T l)[1].toNat l1
  have w2':IntKind.u16.wrap ((T l)[2].toNat:Int)=(T l)[2].toNat:=by rw [IntKind.wrap_u16];omega
  have w3':IntKind.u16.wrap ((T l)[3].toNat:Int)=(T l)[3].toNat:=by rw [IntKind.wrap_u16];omega
  have v3':IntKind.u16.wrap ((((T l)[3]).toNat:Int)*256)=((T l)[3].toNat:Int)*256:=by rw [IntKind.wrap_u16];omega
  have o16:=or16a (T l)[2].toNat (T l)[3].toNat l2 l3
  have s16:=wrap16_sgn (T l)[2].toNat (T l)[3].toNat l2 l3
  have x4:(T l).extract 4 l.length=T (l.drop 4):=by
   have:=T_drop l 4
   rw [hs] at this;exact this
  have HNum:Hid (∀ W,Calls Tryz.prog 281 #[.string (T (l.drop 4))] W fun e w'=>e=.returned (.int .i32 (num32 (l.drop 4)))/\∃ n,w'=W.drewN n):=fun W=>numAt_any (T (l.drop 4)) W (by rw [T_size];simp;omega) (by rw [T_size];simp;unfold maxLen;omega)
  have hq:¬ ((l.length:Int)<(tableS[k].slots:Int)*8):=by omega
  have i4:(4:Int)<=(l.length:Int):=by omega
  go_enter Tryz.func221,Tryz.ntmps221
  go_wp2_with fail
  refine (hBy.out _ HO1.out).mono ?_
  rintro e w1 ⟨rfl,rfl⟩
  simp only [codeV,HBk.out,ptrV]
  go_upto_region 6 with fail
  go_cut [7] (fun p wx=>∃ g,p=.pointer (some ⟨g,0,none⟩)/\w.heap.size<g/\Blk wx g #[.pointer (some ⟨bs[k],0,none⟩),.int .u8 (((T l)[1].toNat:Int) % 16),.int .u8 (((T l)[1].toNat:Int) / 16),.int .i16 0,.int .i32 (num32 (l.drop 4)),.int .i32 0,.string ⟨#[]⟩,.string ⟨#[]⟩] 84/\Mods Nil' (w.alloc (.cells Z8 84)) wx)
  case first =>
   have HEnt:Hid (∀ args w,(callFunc 281 args).run Tryz.prog w=.ok (.enter 281 args) w):=enters_of Tryz.func281 (by kernel_rfl) rfl
   have ne1:=Ext.ne Nil' (w.alloc (.cells Z8 84))
   refine wp_region_mixD [11,12] (fun w'=>∃ g:Ext Nil' (w.alloc (.cells Z8 84)),w'=g.w) (fun w m ⟨g,hg⟩=>⟨⟨w.drewN m,hg ▸ g.m.drewN m⟩,rfl⟩) (by kernel_rfl) (by kernel_rfl) (by kernel_rfl) ⟨⟨_,Mods.refl _ _⟩,rfl⟩ ?_
   iterate 9 (refine mixD_pure rfl rfl rfl ?_;intro K hK;go_big_quiet_op;go_big_quiet_on)
   refine mixD_call rfl rfl 39 rfl (by simp) (.int .i32 (num32 (l.drop 4))) ⟨_,rfl⟩ (fun w' hw'=>?_) ?_ (fun w'=>⟨_,_,HEnt.out _ _⟩)
   ·go_big_op
    refine (HNum.out _).mono ?_
    rintro e w3 ⟨rfl,n3,rfl⟩
    exact ⟨rfl,n3,rfl⟩
   simp only [Act.put,List.setIfInBounds_toArray,List.set_cons_succ,List.set_cons_zero]
   iterate 1 (refine mixD_pure rfl rfl rfl ?_;intro K hK;go_big_quiet_op;go_big_quiet_on)
   refine mixD_act rfl rfl rfl (fun d hd=>by cases hd;simp) (.pointer (some ⟨w.heap.size+1,0,none⟩)) ((w.alloc (.cells Z8 84)).alloc (.cells Z8 84)) (fun m=>?_) ⟨⟨_,(Mods.refl _ _).alloc _⟩,rfl⟩ ?_
   ·go_big_op
    exact ⟨rfl,m,rfl⟩
   simp only [Act.put,List.setIfInBounds_toArray,List.set_cons_succ,List.set_cons_zero]
   have hZ3:Blk ((w.alloc (.cells Z8 84)).alloc (.cells #[.pointer (some ⟨bs[k],0,none⟩),.int .u8 (((T l)[1].toNat:Int) % 16),.int .u8 (((T l)[1].toNat:Int) / 16),.int .i16 0,.int .i32 (num32 (l.drop 4)),.int .i32 0,.string ⟨#[]⟩,.string ⟨#[]⟩] 84)) (w.heap.size+1) #[.pointer (some ⟨bs[k],0,none⟩),.int .u8 (((T l)[1].toNat:Int) % 16),.int .u8 (((T l)[1].toNat:Int) / 16),.int .i16 0,.int .i32 (num32 (l.drop 4)),.int .i32 0,.string ⟨#[]⟩,.string ⟨#[]⟩] 84:=by
    have:=Blk.new (w.alloc (.cells Z8 84)) #[.pointer (some ⟨bs[k],0,none⟩),.int .u8 (((T l)[1].toNat:Int) % 16),.int .u8 (((T l)[1].toNat:Int) / 16),.int .i16 0,.int .i32 (num32 (l.drop 4)),.int .i32 0,.string ⟨#[]⟩,.string ⟨#[]⟩] 84
    simpa using this
   have hM3:Mods Nil' (w.alloc (.cells Z8 84)) ((w.alloc (.cells Z8 84)).alloc (.cells #[.pointer (some ⟨bs[k],0,none⟩),.int .u8 (((T l)[1].toNat:Int) % 16),.int .u8 (((T l)[1].toNat:Int) / 16),.int .i16 0,.int .i32 (num32 (l.drop 4)),.int .i32 0,.string ⟨#[]⟩,.string ⟨#[]⟩] 84)):=(Mods.refl _ _).alloc _
   refine mixD_act rfl rfl rfl (fun d hd=>by cases hd) undef ((w.alloc (.cells Z8 84)).alloc (.cells #[.pointer (some ⟨bs[k],0,none⟩),.int .u8 (((T l)[1].toNat:Int) % 16),.int .u8 (((T l)[1].toNat:Int) / 16),.int .i16 0,.int .i32 (num32 (l.drop 4)),.int .i32 0,.string ⟨#[]⟩,.string ⟨#[]⟩] 84)) (fun m=>?_) ⟨⟨_,hM3⟩,rfl⟩ ?_
   ·go_big_op
    exact ⟨m,by simp only [setCell_drewN];rw [set8_alloc (w.alloc (.cells Z8 84)) _ (by simp)]⟩
   refine mixD_nil ?_
   intro m
   simp only [Act.put]
   go_wp2_with fail;go_meet
   exact ⟨w.heap.size+1,rfl,by omega,hZ3.drewN m,hM3.drewN m⟩
  case rest =>
  obtain ⟨g,rfl,hgl,hBg,hMg⟩:=hcut
  have hOg:Blk wc bs[k] _ 92:=(HB.out.alloc _).mods hMg id
  have hZg:Blk wc w.heap.size Z8 84:=hZ.mods hMg id
  have hne:bs[k]≠g:=by
   intro e;unfold Blk at hOg hBg;rw [e,hBg] at hOg
   cases hOg
  have hsl':=hsl
  have HMw:Hid (Mods Nil' w wc):=((Mods.refl _ _).alloc _).trans hMg
  have y2:wc.cell? ⟨bs[k],2,none⟩=some (.int .i64 tableS[k].slots):=hOg.cell 2
  have HOg:=hid hOg;have HZg:=hid hZg;have HBg:=hid hBg
  have HMg:Hid _:=hMg
  have g3:=hBg.cell 3
  have fg3:=hBg.frozen 3
  simp at g3
  clear hZg hBg hMg hOg z2;go_upto_region 7 with fail
  have ne1:=Ext.ne (Only g) wc
  refine wp_region_mix [10] (fun w'=>∃ e:Ext (Only g) wc,w'=e.w) (by kernel_rfl) (by kernel_rfl) (by kernel_rfl) ⟨⟨_,(Mods.refl _ _).drew⟩,rfl⟩ ?_
  iterate 10 (refine mix_pure rfl rfl rfl ?_;intro K hK;go_big_quiet_op;go_big_quiet_on)
  refine mix_act rfl rfl ?_
  intro K hK
  go_big_op
  refine hK _ _ rfl ⟨⟨_,((Mods.refl _ _).drew).setb 3 _⟩,rfl⟩ ?_
  clear hK K
  refine mix_nil ?_
  simp only [Exit.then]
  have HBW:Hid (Blk (wc.setCell ⟨g,3,none⟩ (.int .i16 (sgn16 ((T l)[2].toNat+256*(T l)[3].toNat)))).drew g #[.pointer (some ⟨bs[k],0,none⟩),.int .u8 (((T l)[1].toNat:Int) % 16),.int .u8 (((T l)[1].toNat:Int) / 16),.int .i16 (sgn16 ((T l)[2].toNat+256*(T l)[3].toNat)),.int .i32 (num32 (l.drop 4)),.int .i32 (0),.string ⟨#[]⟩,.string ⟨#[]⟩] 84):=(HBg.out.set 3 _).drew
  have HOW:Hid (Blk (wc.setCell ⟨g,3,none⟩ (.int .i16 (sgn16 ((T l)[2].toNat+256*(T l)[3].toNat)))).drew bs[k] #[.int .u8 tableS[k].code,.slice o1 n1 c1,.int .i64 tableS[k].slots,.bool tableS[k].jumps,.bool tableS[k].ends,.int .i64 tableS[k].refers,.func f6 #[] c6,.func (.func k7) #[] c7,.func (.func k8) #[] c8,.func f9 #[] c9] 92):=(HOg.out.setOther (a:=⟨g,3,none⟩) (fun e=>hne e.symm) _).drew
  have HZW:Hid (Blk (wc.setCell ⟨g,3,none⟩ (.int .i16 (sgn16 ((T l)[2].toNat+256*(T l)[3].toNat)))).drew w.heap.size Z8 84):=(HZg.out.setOther (a:=⟨g,3,none⟩) (show g≠w.heap.size by omega) _).drew
  have HMW:Hid (Mods Nil' w (wc.setCell ⟨g,3,none⟩ (.int .i16 (sgn16 ((T l)[2].toNat+256*(T l)[3].toNat)))).drew):=(HMw.out.set (a:=⟨g,3,none⟩) (.inr (show w.heap.size<=g by omega)) _).drew
  have HNE:Hid (g≠w.heap.size):=by show g≠w.heap.size;omega
  have HNO:Hid (bs[k]≠w.heap.size):=by
   intro e
   have:=HB.out.lt
   omega
  generalize (wc.setCell ⟨g,3,none⟩ (.int .i16 (sgn16 ((T l)[2].toNat+256*(T l)[3].toNat)))).drew=W at *;clear HBg HOg HZg HMg HMw ne1 g3 fg3 y2
  have y2:W.cell? ⟨bs[k],2,none⟩=some (.int .i64 tableS[k].slots):=HOW.out.cell 2
  rcases hsl with h1 | h1
  ·rw [h1] at y2
   have HFr:Hid _:=HMain.out
   rw [h1] at HFr
   simp only [show ¬ (1<1) by decide,false_and,if_false] at HFr
   go_upto_region 13 with fail
   have HX:Hid ((PI.ins bs ⟨k,at' l 1 % 16,at' l 1 / 16,sgn16 (at' l 2+256*at' l 3),num32 (l.drop 4),0,[]⟩).cells=#[.pointer (some ⟨bs[k],0,none⟩),.int .u8 (((T l)[1].toNat:Int) % 16),.int .u8 (((T l)[1].toNat:Int) / 16),.int .i16 (sgn16 ((T l)[2].toNat+256*(T l)[3].toNat)),.int .i32 (num32 (l.drop 4)),.int .i32 (0),.string ⟨#[]⟩,.string ⟨#[]⟩]):=by
    rw [Hid,e1,e2,e3]
    simp only [PIns.cells,PI.ins,HBk.out]
    rfl
   have HFit:Hid (PIns.Fit (PI.ins bs ⟨k,at' l 1 % 16,at' l 1 / 16,sgn16 (at' l 2+256*at' l 3),num32 (l.drop 4),0,[]⟩)):=from_fit l bs k _ (by decide)
   have HCall:Hid (∀ W,Mods Nil' w W->Calls Tryz.prog k8 (#[.agg #[.pointer (some ⟨bs[k],0,none⟩),.int .u8 (((T l)[1].toNat:Int) % 16),.int .u8 (((T l)[1].toNat:Int) / 16),.int .i16 (sgn16 ((T l)[2].toNat+256*(T l)[3].toNat)),.int .i32 (num32 (l.drop 4)),.int .i32 (0),.string ⟨#[]⟩,.string ⟨#[]⟩]]++c8) W fun e w''=>e=.returned (.bool (tableS[k].needs (PI.ins [] ⟨k,at' l 1 % 16,at' l 1 / 16,sgn16 (at' l 2+256*at' l 3),num32 (l.drop 4),0,[]⟩)))/\Mods Nil' W w''):=fun W m=>by
    have h:=HSem.out.nd W _ m.kp HFit.out
    rw [HX.out,needs_bs] at h;exact h
   have HFin:=hid HFr.out;generalize tableS[k].needs (PI.ins [] ⟨k,at' l 1 % 16,at' l 1 / 16,sgn16 (at' l 2+256*at' l 3),num32 (l.drop 4),0,[]⟩)=nb at *
   have hen:=HSem.out.e8
   unfold Ent at hen
   obtain ⟨d0,d1,d2,d3,d4,d5,d6,d7⟩:=Ext.cells8 HBW.out (S:=Only w.heap.size) (fun e=>HNE.out e)
   have d8:∀ e:Ext (Only w.heap.size) W,e.w.cell? ⟨bs[k],8,none⟩=some (.func (.func k8) #[] c8):=fun e=>e.cell HOW.out (fun e=>HNO.out e) 8
   have ne2:=Ext.ne (Only w.heap.size) W
   refine wp_region_mix [6,7] (fun w'=>∃ e:Ext (Only w.heap.size) W,w'=e.w) (by kernel_rfl) (by kernel_rfl) (by kernel_rfl) ⟨⟨_,(Mods.refl _ _).drew⟩,rfl⟩ ?_
   iterate 2 (refine mix_pure rfl rfl rfl ?_;intro K hK;go_big_quiet_op;go_big_quiet_on)
   refine mix_nilCheck rfl rfl _ ⟨bs[k],0,none⟩ rfl rfl ?_
   simp only [Act.put,List.setIfInBounds_toArray,List.set_cons_succ,List.set_cons_zero]
   iterate 3 (refine mix_pure rfl rfl rfl ?_;intro K hK;go_big_quiet_op;go_big_quiet_on)
   refine mix_act rfl rfl ?_
   intro K hK
   go_big_op
   refine (HCall.out _ (HMW.out.trans ((Mods.refl _ _).drew))).mono ?_
   rintro e w8 ⟨rfl,m8⟩
   have hz8:=(HZW.out.drew).mods m8 id
   have HZ8:=hid hz8
   have M8:Hid (Mods Nil' w w8):=(HMW.out.trans ((Mods.refl _ _).drew)).trans m8
   refine hK _ _ rfl ⟨⟨_,((Mods.refl _ _).drew).trans (m8.mono (fun _ _ h=>h.elim))⟩,rfl⟩ ?_
   have X8:Hid (Mods (Only w.heap.size) W w8):=((Mods.refl _ _).drew).trans (m8.mono (fun _ _ h=>h.elim))
   clear hK K m8;obtain ⟨t0,t1,t2,t3,t4,t5,t6,t7⟩:=hz8.cells8
   have ft:=hz8.frozen
   clear hz8
   refine mix_act rfl rfl ?_
   intro K hK
   go_big_op
   refine hK _ _ rfl ⟨⟨_,X8.out.set8 (.inl rfl) _ _ _ _ _ _ _ _⟩,rfl⟩ ?_
   clear hK K
   iterate 1 (refine mix_pure rfl rfl rfl ?_;intro K hK;go_big_quiet_op;go_big_quiet_on)
   refine mix_nil ?_
   simp only [Exit.then]
   go_wp2_with fail
   refine bodyPost_ret (results_cell_tmp_row Tryz.results221 _ _ w.heap.size 84 _ (0,0) _ _ rfl rfl (HZ8.out.set8 _ _ _ _ _ _ _ _) Tryz.underlying84 rfl (by kernel_rfl)) rfl ⟨#[.pointer (some ⟨bs[k],0,none⟩),.int .u8 (((T l)[1].toNat:Int) % 16),.int .u8 (((T l)[1].toNat:Int) / 16),.int .i16 (sgn16 ((T l)[2].toNat+256*(T l)[3].toNat)),.int .i32 (num32 (l.drop 4)),.int .i32 (0),.string ⟨#[]⟩,.string ⟨#[]⟩],?_,?_,⟨_,_,_,_,_,_,_,_,rfl⟩,M8.out.set8 (.inr (Nat.le_refl _)) _ _ _ _ _ _ _ _⟩
   ·rw [HFin.out]
    cases nb<;>rfl
   ·intro x hx;rw [HFin.out] at hx
    cases nb with
    | false=>cases hx
    | true=>cases hx;exact HX.out.symm
  ·rw [h1] at y2
   have HFr:Hid _:=HMain.out
   rw [h1] at HFr
   have hl16:16<=l.length:=by rw [h1] at hless;omega
   have i8:(8:Int)<=(l.length:Int):=by omega
   have x8:(T l).extract 8 l.length=T (l.drop 8):=by
    have:=T_drop l 8
    rw [hs] at this;exact this
   have s8:(T (l.drop 8)).size=l.length - 8:=by rw [T_size];simp
   have x9:(T (l.drop 8)).extract 0 4=T ((l.drop 8).take 4):=T_take _ _
   have x12:(T (l.drop 8)).extract 4 (T (l.drop 8)).size=T (l.drop 12):=by
    rw [T_drop,List.drop_drop]
   have i9:(4:Int)<=((l.length - 8:Nat):Int):=by omega
   have i10:4<=l.length - 8:=by omega
   by_cases hz:(l.drop 8).take 4=[0,0,0,0]
   ·simp only [show 1<2 by decide,hz,true_and,ne_eq,not_true_eq_false,if_false,if_true] at HFr
    have q9:=lit_eq (a:=T ((l.drop 8).take 4)) (l:=[0,0,0,0]) (by rw [hz])
    generalize T ((l.drop 8).take 4)=t4 at *
    have HN12:Hid (∀ W,Calls Tryz.prog 281 #[.string (T (l.drop 12))] W fun e w'=>e=.returned (.int .i32 (num32 (l.drop 12)))/\∃ n,w'=W.drewN n):=fun W=>numAt_any (T (l.drop 12)) W (by rw [T_size];simp;omega) (by rw [T_size];simp;unfold maxLen;omega)
    rw [s8] at x12
    have g5:=HBW.out.cell 5
    have fg5:=HBW.out.frozen 5
    simp at g5
    go_wp2_with fail
    refine (HN12.out _).mono ?_
    rintro e w3 ⟨rfl,n3,rfl⟩
    have HBW2:Hid (Blk ((W.drewN n3).setCell ⟨g,5,none⟩ (.int .i32 (num32 (l.drop 12)))) g #[.pointer (some ⟨bs[k],0,none⟩),.int .u8 (((T l)[1].toNat:Int) % 16),.int .u8 (((T l)[1].toNat:Int) / 16),.int .i16 (sgn16 ((T l)[2].toNat+256*(T l)[3].toNat)),.int .i32 (num32 (l.drop 4)),.int .i32 (num32 (l.drop 12)),.string ⟨#[]⟩,.string ⟨#[]⟩] 84):=(HBW.out.drewN n3).set 5 _
    have HOW2:Hid (Blk ((W.drewN n3).setCell ⟨g,5,none⟩ (.int .i32 (num32 (l.drop 12)))) bs[k] #[.int .u8 tableS[k].code,.slice o1 n1 c1,.int .i64 tableS[k].slots,.bool tableS[k].jumps,.bool tableS[k].ends,.int .i64 tableS[k].refers,.func f6 #[] c6,.func (.func k7) #[] c7,.func (.func k8) #[] c8,.func f9 #[] c9] 92):=(HOW.out.drewN n3).setOther (a:=⟨g,5,none⟩) (fun e=>hne e.symm) _
    have HZW2:Hid (Blk ((W.drewN n3).setCell ⟨g,5,none⟩ (.int .i32 (num32 (l.drop 12)))) w.heap.size Z8 84):=(HZW.out.drewN n3).setOther (a:=⟨g,5,none⟩) HNE.out _
    have HMW2:Hid (Mods Nil' w ((W.drewN n3).setCell ⟨g,5,none⟩ (.int .i32 (num32 (l.drop 12))))):=(HMW.out.drewN n3).set (a:=⟨g,5,none⟩) (.inr (show w.heap.size<=g by omega)) _
    go_upto_region 13 with fail;clear g5 fg5 y2;generalize ((W.drewN n3).setCell ⟨g,5,none⟩ (.int .i32 (num32 (l.drop 12))))=W2 at *
    have HX:Hid ((PI.ins bs ⟨k,at' l 1 % 16,at' l 1 / 16,sgn16 (at' l 2+256*at' l 3),num32 (l.drop 4),num32 (l.drop 12),[]⟩).cells=#[.pointer (some ⟨bs[k],0,none⟩),.int .u8 (((T l)[1].toNat:Int) % 16),.int .u8 (((T l)[1].toNat:Int) / 16),.int .i16 (sgn16 ((T l)[2].toNat+256*(T l)[3].toNat)),.int .i32 (num32 (l.drop 4)),.int .i32 (num32 (l.drop 12)),.string ⟨#[]⟩,.string ⟨#[]⟩]):=by
     rw [Hid,e1,e2,e3]
     simp only [PIns.cells,PI.ins,HBk.out]
     rfl
    have HFit:Hid (PIns.Fit (PI.ins bs ⟨k,at' l 1 % 16,at' l 1 / 16,sgn16 (at' l 2+256*at' l 3),num32 (l.drop 4),num32 (l.drop 12),[]⟩)):=from_fit l bs k _ (num32_bd _)
    have HCall:Hid (∀ W,Mods Nil' w W->Calls Tryz.prog k8 (#[.agg #[.pointer (some ⟨bs[k],0,none⟩),.int .u8 (((T l)[1].toNat:Int) % 16),.int .u8 (((T l)[1].toNat:Int) / 16),.int .i16 (sgn16 ((T l)[2].toNat+256*(T l)[3].toNat)),.int .i32 (num32 (l.drop 4)),.int .i32 (num32 (l.drop 12)),.string ⟨#[]⟩,.string ⟨#[]⟩]]++c8) W fun e w''=>e=.returned (.bool (tableS[k].needs (PI.ins [] ⟨k,at' l 1 % 16,at' l 1 / 16,sgn16 (at' l 2+256*at' l 3),num32 (l.drop 4),num32 (l.drop 12),[]⟩)))/\Mods Nil' W w''):=fun W m=>by
     have h:=HSem.out.nd W _ m.kp HFit.out
     rw [HX.out,needs_bs] at h;exact h
    have HFin:=hid HFr.out;generalize tableS[k].needs (PI.ins [] ⟨k,at' l 1 % 16,at' l 1 / 16,sgn16 (at' l 2+256*at' l 3),num32 (l.drop 4),num32 (l.drop 12),[]⟩)=nb at *
    have hen:=HSem.out.e8
    unfold Ent at hen
    obtain ⟨d0,d1,d2,d3,d4,d5,d6,d7⟩:=Ext.cells8 HBW2.out (S:=Only w.heap.size) (fun e=>HNE.out e)
    have d8:∀ e:Ext (Only w.heap.size) W2,e.w.cell? ⟨bs[k],8,none⟩=some (.func (.func k8) #[] c8):=fun e=>e.cell HOW2.out (fun e=>HNO.out e) 8
    have ne2:=Ext.ne (Only w.heap.size) W2
    refine wp_region_mix [6,7] (fun w'=>∃ e:Ext (Only w.heap.size) W2,w'=e.w) (by kernel_rfl) (by kernel_rfl) (by kernel_rfl) ⟨⟨_,(Mods.refl _ _).drew⟩,rfl⟩ ?_
    iterate 2 (refine mix_pure rfl rfl rfl ?_;intro K hK;go_big_quiet_op;go_big_quiet_on)
    refine mix_nilCheck rfl rfl _ ⟨bs[k],0,none⟩ rfl rfl ?_
    simp only [Act.put,List.setIfInBounds_toArray,List.set_cons_succ,List.set_cons_zero]
    iterate 3 (refine mix_pure rfl rfl rfl ?_;intro K hK;go_big_quiet_op;go_big_quiet_on)
    refine mix_act rfl rfl ?_
    intro K hK
    go_big_op
    refine (HCall.out _ (HMW2.out.trans ((Mods.refl _ _).drew))).mono ?_
    rintro e w8 ⟨rfl,m8⟩
    have hz8:=(HZW2.out.drew).mods m8 id
    have HZ8:=hid hz8
    have M8:Hid (Mods Nil' w w8):=(HMW2.out.trans ((Mods.refl _ _).drew)).trans m8
    refine hK _ _ rfl ⟨⟨_,((Mods.refl _ _).drew).trans (m8.mono (fun _ _ h=>h.elim))⟩,rfl⟩ ?_
    have X8:Hid (Mods (Only w.heap.size) W2 w8):=((Mods.refl _ _).drew).trans (m8.mono (fun _ _ h=>h.elim))
    clear hK K m8;obtain ⟨t0,t1,t2,t3,t4,t5,t6,t7⟩:=hz8.cells8
    have ft:=hz8.frozen
    clear hz8
    refine mix_act rfl rfl ?_
    intro K hK
    go_big_op
    refine hK _ _ rfl ⟨⟨_,X8.out.set8 (.inl rfl) _ _ _ _ _ _ _ _⟩,rfl⟩ ?_
    clear hK K
    iterate 1 (refine mix_pure rfl rfl rfl ?_;intro K hK;go_big_quiet_op;go_big_quiet_on)
    refine mix_nil ?_
    simp only [Exit.then]
    go_wp2_with fail
    refine bodyPost_ret (results_cell_tmp_row Tryz.results221 _ _ w.heap.size 84 _ (0,0) _ _ rfl rfl (HZ8.out.set8 _ _ _ _ _ _ _ _) Tryz.underlying84 rfl (by kernel_rfl)) rfl ⟨#[.pointer (some ⟨bs[k],0,none⟩),.int .u8 (((T l)[1].toNat:Int) % 16),.int .u8 (((T l)[1].toNat:Int) / 16),.int .i16 (sgn16 ((T l)[2].toNat+256*(T l)[3].toNat)),.int .i32 (num32 (l.drop 4)),.int .i32 (num32 (l.drop 12)),.string ⟨#[]⟩,.string ⟨#[]⟩],?_,?_,⟨_,_,_,_,_,_,_,_,rfl⟩,M8.out.set8 (.inr (Nat.le_refl _)) _ _ _ _ _ _ _ _⟩
    ·rw [HFin.out]
     cases nb<;>rfl
    ·intro x hx;rw [HFin.out] at hx
     cases nb with
     | false=>cases hx
     | true=>cases hx;exact HX.out.symm
   ·simp only [show 1<2 by decide,hz,true_and,ne_eq,not_false_eq_true,if_true] at HFr
    have q9:=lit_ne (a:=T ((l.drop 8).take 4)) (l:=[0,0,0,0]) (fun e=>hz (congrArg BL e))
    generalize T ((l.drop 8).take 4)=t4 at *;rw [s8] at x12;obtain ⟨t0,t1,t2,t3,t4',t5,t6,t7⟩:=HZW.out.cells8
    have ft:=HZW.out.frozen
    go_wp2_with fail
    exact bodyPost_ret (results_cell_tmp_row Tryz.results221 _ _ w.heap.size 84 _ (0,0) _ _ rfl rfl (HZW.out.set8 _ _ _ _ _ _ _ _) Tryz.underlying84 rfl (by kernel_rfl)) rfl (FromPost.no HFr.out (HMW.out.set8 (.inr (Nat.le_refl _)) _ _ _ _ _ _ _ _) ⟨_,_,_,_,_,_,_,_,rfl⟩)
theorem OpAt.cells {w:World} {b:Nat} {o:OpS} (h:OpAt w b o):w.cell? ⟨b,2,none⟩=some (.int .i64 o.slots)/\w.cell? ⟨b,3,none⟩=some (.bool o.jumps)/\w.cell? ⟨b,4,none⟩=some (.bool o.ends)/\w.cell? ⟨b,5,none⟩=some (.int .i64 o.refers):=by
 obtain ⟨o1,n1,c1,f6,c6,k7,c7,k8,c8,f9,c9,hb,_⟩:=h.ex
 exact ⟨hb.cell 2,hb.cell 3,hb.cell 4,hb.cell 5⟩
set_option maxHeartbeats 400000 in
theorem target_any (w:World) (b:Nat) (o:OpS) (hA:OpAt w b o) (d s num high jump:Int) (label name:ByteArray) (slot:Nat) (hs:slot<=1000000) (ho:o.slots<=10) (hj:-32768<=jump/\jump<=32767) :
  Calls Tryz.prog 40 #[.agg #[.pointer (some ⟨b,0,none⟩),.int .u8 d,.int .u8 s,.int .i16 jump,.int .i32 num,.int .i32 high,.string label,.string name],.int .i64 slot] w fun e w'=>e=.returned (.int .i64 ((slot:Int)+o.slots+jump))/\Mods Nil' w w':=by
 have hA1:=(hA.mods ((Mods.refl _ _).alloc (.cells #[.pointer (some ⟨b,0,none⟩),.int .u8 d,.int .u8 s,.int .i16 jump,.int .i32 num,.int .i32 high,.string label,.string name] 84))).cells
 obtain ⟨z2,_,_,_⟩:=hA1
 go_enter Tryz.func40,Tryz.ntmps40
 go_wp2_with fail;go_quiet (fail);go_wp2_with fail;go_ret
 exact ⟨rfl,((Mods.refl _ _).alloc _).drewN _⟩
def codeC (bs:List Nat) (l:List PI):List Value:=l.flatMap (fun x=>(x.ins bs).cellsL)
theorem tab_at {w:World} {v:Value} {bs:List Nat} (hO:OpsIn 0 w v bs tableS) (x:PI) (hk:x.k<88):OpAt w (bs[x.k]?.getD 0) x.o:=by
 have hkt:x.k<tableS.length:=by rw [tableS_len];exact hk
 have hkb:x.k<bs.length:=by rw [hO.len];exact hkt
 have h:=hO.at' x.k hkb hkt
 have e1:bs[x.k]?.getD 0=bs[x.k]:=by simp [hkb]
 have e2:x.o=tableS[x.k]:=by simp [PI.o,hkt]
 rw [e1,e2];exact h
theorem code_at {w:World} {bs:List Nat} {l:List PI} {v:Value} {n:Nat} (h:Sl w 84 8 v n (codeC bs l)) (hn:n=l.length) {o:Option Addr} {c:Nat} (hv:v=.slice o n c) (k:Nat) (hk:k<l.length) :
  ∃ g,o=some ⟨g,0,none⟩/\g<w.heap.size/\w.cell? ⟨g,k*8,none⟩=some (.pointer (some ⟨bs[l[k].k]?.getD 0,0,none⟩))/\w.cell? ⟨g,k*8+1,none⟩=some (.int .u8 l[k].d)/\w.cell? ⟨g,k*8+2,none⟩=some (.int .u8 l[k].s) /\
   w.cell? ⟨g,k*8+3,none⟩=some (.int .i16 l[k].jump)/\w.cell? ⟨g,k*8+4,none⟩=some (.int .i32 l[k].num)/\w.cell? ⟨g,k*8+5,none⟩=some (.int .i32 l[k].high)/\w.cell? ⟨g,k*8+6,none⟩=some (.string ByteArray.empty)/\w.cell? ⟨g,k*8+7,none⟩=some (.string (T l[k].name)):=by
 obtain ⟨o',c',hv',h2⟩:=h.view;rw [hv] at hv'
 cases hv'
 obtain ⟨g,cs,rfl,hb,ht,_⟩:=h2 (by omega)
 refine ⟨g,rfl,hb.lt,?_,?_,?_,?_,?_,?_,?_,?_⟩
 all_goals rw [take_cell hb ht _ (by omega)]
 ·exact (flat_get (fun x:PI=>(x.ins bs).cellsL) 8 (fun _=>rfl) l k 0 hk (by omega)).trans rfl
 ·exact (flat_get (fun x:PI=>(x.ins bs).cellsL) 8 (fun _=>rfl) l k 1 hk (by omega)).trans rfl
 ·exact (flat_get (fun x:PI=>(x.ins bs).cellsL) 8 (fun _=>rfl) l k 2 hk (by omega)).trans rfl
 ·exact (flat_get (fun x:PI=>(x.ins bs).cellsL) 8 (fun _=>rfl) l k 3 hk (by omega)).trans rfl
 ·exact (flat_get (fun x:PI=>(x.ins bs).cellsL) 8 (fun _=>rfl) l k 4 hk (by omega)).trans rfl
 ·exact (flat_get (fun x:PI=>(x.ins bs).cellsL) 8 (fun _=>rfl) l k 5 hk (by omega)).trans rfl
 ·exact (flat_get (fun x:PI=>(x.ins bs).cellsL) 8 (fun _=>rfl) l k 6 hk (by omega)).trans rfl
 ·exact (flat_get (fun x:PI=>(x.ins bs).cellsL) 8 (fun _=>rfl) l k 7 hk (by omega)).trans rfl
structure PIok (x:PI):Prop where
 k:x.k<88
 d:x.d<=15
 s:x.s<=15
 j:-32768<=x.jump/\x.jump<=32767
 n:-2147483648<=x.num/\x.num<=2147483647
 h:-2147483648<=x.high/\x.high<=2147483647
theorem PIok.slots {x:PI} (h:PIok x):x.o.slots=1\/x.o.slots=2:=by
 have hkt:x.k<tableS.length:=by rw [tableS_len];exact h.k
 have e2:x.o=tableS[x.k]:=by simp [PI.o,hkt]
 rw [e2]
 exact table_slots _ (List.getElem_mem hkt)
def sumS (l:List PI) (k:Nat):Nat:=((l.take k).map (·.o.slots)).sum
theorem sumS_step (l:List PI) (k:Nat) (h:k<l.length):sumS l (k+1)=sumS l k+l[k].o.slots:=by
 unfold sumS;rw [List.take_succ_eq_append_getElem h,List.map_append,List.sum_append]
 simp
theorem sumS_le (l:List PI) (hl:∀ x∈l,PIok x):∀ k,sumS l k<=2*l.length:=by
 have h:∀ l:List PI,(∀ x∈l,PIok x)->(l.map (·.o.slots)).sum<=2*l.length:=by
  intro l
  induction l with
  | nil=>intro _;simp
  | cons x l ih =>
   intro hl
   have h1:=(hl x (by simp)).slots
   have h2:=ih (fun y hy=>hl y (List.mem_cons_of_mem _ hy))
   simp only [List.map_cons,List.sum_cons,List.length_cons]
   omega
 intro k
 have h1:=h (l.take k) (fun x hx=>hl x (List.mem_of_mem_take hx))
 have h2:(l.take k).length<=l.length:=by simp;omega
 unfold sumS
 omega
def boolL (l:List Bool):List Value:=l.map Value.bool
set_option maxRecDepth 100000 in
set_option maxHeartbeats 1000000 in
theorem lead_any (w:World) (tv:Value) (bs:List Nat) (hO:OpsIn 0 w tv bs tableS) (code:List PI) (hok:∀ x∈code,PIok x) (hl:code.length<=10000) (vC:Value) (hC:Sl w 84 8 vC code.length (codeC bs code)) (st:List Bool) (hst:st.length<=10000) (vS:Value) (hS:Sl w 4 1 vS st.length (boolL st)) :
  Calls Tryz.prog 222 #[vC,vS] w fun e w'=>e=.returned (.bool (leadP st 0 code))/\Mods Nil' w w':=by
 obtain ⟨oC,cC,rfl,_⟩:=hC.view;obtain ⟨oS,cS,rfl,_⟩:=hS.view;have HO:=hid hO;have HC:=hid hC;have HS:=hid hS;have HOk:=hid hok
 have HSum:Hid (∀ k,sumS code k<=20000):=fun k=>by have:=sumS_le code HOk.out k;omega
 clear hO hC hS hok
 go_enter Tryz.func222,Tryz.ntmps222
 go_wp2_with fail
 go_loopw [5,11] (fun sv i wl=>∃ k:Nat,k<=code.length/\i=.int .i64 k/\sv=.int .i64 (sumS code k)/\leadP st (sumS code k) (code.drop k)=leadP st 0 code/\Mods Nil' w wl) (fun _ i _=>code.length - (intOf i).toNat)
 case atStart=>exact ⟨0,Nat.zero_le _,rfl,rfl,rfl,Mods.refl _ _⟩
 case round =>
  obtain ⟨k,hk,rfl,rfl,hn,hM⟩:=hrel
  have HN:Hid _:=hn
  have HM:=hid hM;clear hn hM
  by_cases hlt:k<code.length
  ·have HD:Hid (leadP st (sumS code k) (code.drop k)=((if code[k].o.jumps then decide (0<=code[k].target (sumS code k))&&(st[(code[k].target (sumS code k)).toNat]?.getD false) else true)&&leadP st (sumS code k+code[k].o.slots) (code.drop (k+1)))):=by
    rw [Hid,List.drop_eq_getElem_cons hlt];rfl
   have HSt:Hid (sumS code (k+1)=sumS code k+code[k].o.slots):=sumS_step code k hlt
   obtain ⟨g,rfl,hg,q0,q1,q2,q3,q4,q5,q6,q7⟩:=code_at (HC.out.mods HM.out (fun _ _=>id)) rfl rfl k hlt
   have hx:=HOk.out code[k] (List.getElem_mem hlt)
   have hA:=tab_at (HO.out.mods HM.out) code[k] hx.k
   have hsum:=HSum.out k
   have hsl:=hx.slots
   have hj:=hx.j
   have ht:code[k].target (sumS code k)=(sumS code k:Int)+code[k].o.slots+code[k].jump:=rfl
   rw [ht] at HD;clear hx ht;generalize code[k].o=o at *;generalize code[k].jump=jmp at *;generalize code[k].d=xd at *;generalize code[k].s=xs at *;generalize code[k].num=xn at *;generalize code[k].high=xh at *;generalize code[k].name=xm at *;generalize bs[code[k].k]?.getD 0=b at *
   have hA1:=hA.mods ((Mods.refl _ _).alloc (.cells #[.pointer (some ⟨b,0,none⟩),.int .u8 xd,.int .u8 xs,.int .i16 jmp,.int .i32 xn,.int .i32 xh,.string ByteArray.empty,.string (T xm)] 84))
   obtain ⟨y2,y3,_,_⟩:=hA1.cells;have HA1:=hid hA1
   have HM1:Hid (Mods Nil' w (wr.alloc (.cells #[.pointer (some ⟨b,0,none⟩),.int .u8 xd,.int .u8 xs,.int .i16 jmp,.int .i32 xn,.int .i32 xh,.string ByteArray.empty,.string (T xm)] 84))):=HM.out.alloc _
   clear hA hA1;generalize sumS code k=sk at *
   have HTg:Hid (Calls Tryz.prog 40 #[.agg #[.pointer (some ⟨b,0,none⟩),.int .u8 xd,.int .u8 xs,.int .i16 jmp,.int .i32 xn,.int .i32 xh,.string ByteArray.empty,.string (T xm)],.int .i64 sk] (wr.alloc (.cells #[.pointer (some ⟨b,0,none⟩),.int .u8 xd,.int .u8 xs,.int .i16 jmp,.int .i32 xn,.int .i32 xh,.string ByteArray.empty,.string (T xm)] 84)) fun e w'=>e=.returned (.int .i64 ((sk:Int)+o.slots+jmp))/\Mods Nil' (wr.alloc (.cells #[.pointer (some ⟨b,0,none⟩),.int .u8 xd,.int .u8 xs,.int .i16 jmp,.int .i32 xn,.int .i32 xh,.string ByteArray.empty,.string (T xm)] 84)) w'):=target_any _ b o HA1.out xd xs xn xh jmp _ _ sk (by omega) (by omega) hj
   have hBk:Blk (wr.alloc (.cells #[.pointer (some ⟨b,0,none⟩),.int .u8 xd,.int .u8 xs,.int .i16 jmp,.int .i32 xn,.int .i32 xh,.string ByteArray.empty,.string (T xm)] 84)) wr.heap.size #[.pointer (some ⟨b,0,none⟩),.int .u8 xd,.int .u8 xs,.int .i16 jmp,.int .i32 xn,.int .i32 xh,.string ByteArray.empty,.string (T xm)] 84:=Blk.new _ _ _
   have HBk:=hid hBk;clear hBk
   generalize hjs:o.jumps=oj at *
   cases oj with
   | false =>
    have HNx:Hid (leadP st (sk+o.slots) (code.drop (k+1))=leadP st 0 code):=by
     have:=HD.out
     rw [HN.out] at this;rw [Hid]
     simpa using this.symm
    generalize o.slots=os at *;go_wp2_with fail
    go_roundw
    case rel=>exact ⟨k+1,by omega,by go_num,by rw [HSt.out];go_num,by rw [HSt.out];exact HNx.out,HM1.out⟩
    case measure=>simp [intOf];omega
   | true =>
    have HD2:Hid (leadP st 0 code=((decide (0<=(sk:Int)+o.slots+jmp)&&(st[((sk:Int)+o.slots+jmp).toNat]?.getD false))&&leadP st (sk+o.slots) (code.drop (k+1)))):=by
     have:=HD.out
     rw [HN.out] at this;rw [Hid]
     simpa using this
    clear HD;go_wp2_with fail;refine HTg.out.mono ?_;rintro e w3 ⟨rfl,m3⟩
    have HM3:Hid (Mods Nil' w w3):=HM1.out.trans m3
    have hB3:=HBk.out.mods m3 id
    have hA3:=HA1.out.mods m3
    obtain ⟨v2,_,_,_⟩:=hA3.cells
    have v0:w3.cell? ⟨wr.heap.size,0,none⟩=some (.pointer (some ⟨b,0,none⟩)):=hB3.cell 0
    clear hB3 hA3 m3 HTg HA1;generalize o.slots=os at *
    by_cases hneg:(sk:Int)+os+jmp<0
    ·have HF:Hid (leadP st 0 code=false):=by
      rw [Hid,HD2.out,decide_eq_false (by omega),Bool.false_and,Bool.false_and]
     generalize (sk:Int)+os+jmp=tt at *
     go_wp2_with fail;go_ret
     exact ⟨by rw [HF.out];rfl,HM3.out⟩
    ·obtain ⟨t,ht⟩:∃ t:Nat,(sk:Int)+os+jmp=t:=⟨((sk:Int)+os+jmp).toNat,by omega⟩
     rw [ht] at HD2 hneg ⊢
     simp only [show decide ((0:Int)<=(t:Int))=true by simp,Bool.true_and,Int.toNat_natCast] at HD2
     by_cases hlt2:t<st.length
     ·obtain ⟨gS,rfl,csS⟩:=(HS.out.mods HM3.out (fun _ _=>id)).at rfl t hlt2
      have cS':=csS t hlt2
      have e1:(boolL st)[t]?=some (.bool st[t]):=by simp [boolL,hlt2]
      rw [e1] at cS'
      have e2:st[t]?.getD false=st[t]:=by simp [hlt2]
      rw [e2] at HD2;clear csS e1 e2;generalize st[t]=sb at *
      cases sb with
      | false =>
       have HF:Hid (leadP st 0 code=false):=by rw [Hid,HD2.out,Bool.false_and]
       go_wp2_with fail;go_ret
       exact ⟨by rw [HF.out];rfl,HM3.out⟩
      | true =>
       have HNx:Hid (leadP st (sk+os) (code.drop (k+1))=leadP st 0 code):=by
        rw [Hid,HD2.out,Bool.true_and]
       go_wp2_with fail
       go_roundw
       case rel=>exact ⟨k+1,by omega,by go_num,by rw [HSt.out];go_num,by rw [HSt.out];exact HNx.out,HM3.out⟩
       case measure=>simp [intOf];omega
     ·have HF:Hid (leadP st 0 code=false):=by
       rw [Hid,HD2.out,List.getElem?_eq_none (by omega)];rfl
      have hge:¬ ((t:Int)<(st.length:Int)):=by omega
      go_wp2_with fail;go_ret
      exact ⟨by rw [HF.out];rfl,HM3.out⟩
  ·obtain rfl:k=code.length:=by omega
   have HF:Hid (leadP st 0 code=true):=by
    rw [Hid,<- HN.out,List.drop_length];rfl
   go_wp2_with fail;go_ret
   exact ⟨by rw [HF.out];rfl,HM.out⟩
theorem info_instr:(Tryz.prog.info? 84).map (fun i=>(i.zero,i.size,i.bytes))=some (some (.agg Z8),8,56):=by kernel_rfl
theorem instr_one (x:PIns) (hop:x.op.oneCell'=true):∀ u∈x.cellsL,u.oneCell'=true:=by
 intro u hu
 simp only [PIns.cellsL,List.mem_cons,List.not_mem_nil,or_false] at hu
 rcases hu with rfl | rfl | rfl | rfl | rfl | rfl | rfl | rfl
 ·exact hop
 all_goals rfl
structure KInv (w0:World) (b:Nat) (q:PR) (tv:Value) (bs:List Nat) (v:Value) (acc:List PI) (gS n:Nat) (st:List Bool) (w:World):Prop where
 rd:PRd w b q
 sl:Sl w 84 8 v acc.length (codeC bs acc)
 sb:Blk w gS (boolA st) 4
 ln:st.length=n
 own:∀ k,v.ownBlock=some k->w0.heap.size<=k/\k≠gS
 gS:w0.heap.size<=gS
 md:Mods Nil' w0 w
theorem KInv.quiet {w0 w w':World} {b:Nat} {q:PR} {tv:Value} {bs:List Nat} {v:Value} {acc:List PI} {gS n:Nat} {st:List Bool} (h:KInv w0 b q tv bs v acc gS n st w) (m:Mods Nil' w w'):KInv w0 b q tv bs v acc gS n st w' :=
 ⟨Blk.mods h.rd m id,h.sl.mods m (fun _ _=>id),h.sb.mods m id,h.ln,h.own,h.gS,h.md.trans m⟩
theorem KInv.app {w0 w w':World} {b:Nat} {q:PR} {tv:Value} {bs:List Nat} {v v':Value} {acc:List PI} {gS n:Nat} {st:List Bool} {x:PI} (h:KInv w0 b q tv bs v acc gS n st w) (hb:b<w0.heap.size) (s:Sl w' 84 8 v' (acc.length+1) (codeC bs acc++(x.ins bs).cellsL)) (m:Mods (fun k=>v.ownBlock=some k) w w') (l:∀ k,v'.ownBlock=some k->v.ownBlock=some k\/w.heap.size<=k) :
  KInv w0 b q tv bs v' (acc++[x]) gS n st w':=by
 refine ⟨Blk.mods h.rd m (fun e=>by have:=(h.own b e).1;omega),by simpa [codeC] using s,h.sb.mods m (fun e=>(h.own gS e).2 rfl),h.ln,fun k hk=>?_,h.gS,h.md.step m (fun i hi e=>by have:=(h.own i e).1;omega)⟩
 rcases l k hk with e | e
 ·exact h.own k e
 ·have h1:=h.md.size
  have h2:=h.sb.lt
  exact ⟨by omega,by omega⟩
theorem KInv.mark {w0 w:World} {b:Nat} {q:PR} {tv:Value} {bs:List Nat} {v:Value} {acc:List PI} {gS n:Nat} {st:List Bool} (h:KInv w0 b q tv bs v acc gS n st w) (hb:b<w0.heap.size) (i:Nat):KInv w0 b q tv bs v acc gS n (st.set i true) (w.setCell ⟨gS,i,none⟩ (.bool true)) :=
 ⟨Blk.setOther h.rd (by have:=h.gS;simp only;omega) _,h.sl.mods ((Mods.refl (Only gS) w).setb i _) (fun k hk e=>(h.own k hk).2 e),by rw [<- boolA_set];exact h.sb.set i _,by simp [h.ln],h.own,h.gS,h.md.set (.inr h.gS) _⟩
theorem from_view (l:List UInt8) (x:PI) (h:fromP l=some x):∃ k hi,byCodeM (at' l 0)=some k/\x=⟨k,at' l 1 % 16,at' l 1 / 16,sgn16 (at' l 2+256*at' l 3),num32 (l.drop 4),hi,[]⟩/\(-2147483648<=hi/\hi<=2147483647)/\¬ l.length<(tableS[k]?.getD noOp).slots*8:=by
 by_cases h8:l.length<8
 ·rw [fromP_short l h8] at h;cases h
 ·cases hc:byCodeM (at' l 0) with
  | none=>rw [fromP_none l h8 hc] at h;cases h
  | some k =>
   by_cases hs:l.length<(tableS[k]?.getD noOp).slots*8
   ·rw [fromP_less l h8 k hc hs] at h;cases h
   ·rw [fromP_main l h8 k hc hs] at h
    split at h
    ·cases h
    ·rename_i hz
     generalize hhi:(if 1<(tableS[k]?.getD noOp).slots then num32 (l.drop 12) else 0)=hi at h
     have hb:-2147483648<=hi/\hi<=2147483647:=by
      rw [<- hhi]
      split
      ·exact num32_bd _
      ·omega
     split at h
     ·cases h
      exact ⟨k,hi,rfl,rfl,hb,hs⟩
     ·cases h
theorem from_ok (l:List UInt8) (x:PI) (h:fromP l=some x):PIok x:=by
 obtain ⟨k,hi,hk,rfl,hb,hs⟩:=from_view l x h
 have h1:=at_lt l 1
 have h2:=at_lt l 2
 have h3:=at_lt l 3
 exact ⟨byCode_lt _ _ hk,by simp only;omega,by simp only;omega,sgn16_bd _ (by omega),num32_bd _,hb⟩
theorem from_nm (l:List UInt8) (x:PI) (h:fromP l=some x):x.name=[]:=by
 obtain ⟨k,hi,hk,rfl,hb,hs⟩:=from_view l x h
 rfl
theorem from_len (l:List UInt8) (x:PI) (h:fromP l=some x):x.o.slots*8<=l.length:=by
 obtain ⟨k,hi,hk,rfl,hb,hs⟩:=from_view l x h;exact Nat.le_of_not_lt hs
def CodePost (w:World) (b:Nat) (bs:List Nat) (q:PR) (code:List PI) (e:Ending) (w':World):Prop :=
 ∃ v,e=.returned v/\PRd w' b q/\Sl w' 84 8 v code.length (codeC bs code)/\(∀ k,v.ownBlock=some k->w.heap.size<=k)/\Mods (Only b) w w'/\(∀ x∈code,PIok x)
theorem boolA_L (l:List Bool):boolA l=(boolL l).toArray:=rfl
theorem sl_bools {w:World} {g n:Nat} {st:List Bool} (h:Blk w g (boolA st) 4) (hn:st.length=n) (hm:n<=10000):Sl w 4 1 (.slice (some ⟨g,0,none⟩) n n) st.length (boolL st):=by
 subst hn
 exact SlB.sl ⟨Nat.le_refl _,by unfold maxLen;omega,by simp [boolA],by rw [Nat.mul_one,boolA_L];exact List.take_of_length_le (by simp [boolL]),by simp [boolL]⟩ h
set_option maxRecDepth 100000 in
set_option maxHeartbeats 2000000 in
theorem code_any (w:World) (b:Nat) (q:PR) (h:PRd w b q) (wT:World) (tv:Value) (bs:List Nat) (hT:OpsIn 0 wT tv bs tableS) (mT:Mods Nil' wT w) (hbT:wT.heap.size<=b) (sl:List UInt8) (hsl:sl.length<=2000) :
  Calls Tryz.prog 126 #[.pointer (some ⟨b,0,none⟩),tv,.string (T sl)] w fun e w'=>CodePost w b bs (codeP sl q).2 (codeP sl q).1 e w':=by
 obtain ⟨iI,hiI,hzI,hsI,hbI⟩:=info_parts info_instr;obtain ⟨iB,hiB,hzB,hsB,hbB⟩:=info_parts info_bool
 have hb:b<w.heap.size:=Blk.lt h
 have hs:(T sl).size=sl.length:=T_size sl
 obtain ⟨n,hn⟩:∃ n,n=sl.length / 8:=⟨_,rfl⟩
 have hcp:codeP sl q=match codeL sl n (n+1) 0 [] (List.replicate n false) with
   | none=>([],⟨q.rest,true⟩)
   | some (l,st)=>(l,wantP (leadP st 0 l) (wantP (lastP l) q)):=by rw [hn];rfl
 have HCP:Hid _:=hcp
 clear hcp
 have hq8:((sl.length:Int) / 8)=(n:Int):=by omega
 have hn8:n*8<=sl.length:=by omega
 have HT:=hid hT;have HMT:=hid mT
 have HO:Hid (OpsIn 0 w tv bs tableS):=hT.mods mT
 obtain ⟨oT,cT,hv,_⟩:=hT.sl.view;subst hv;clear hT mT hn
 have hK0:KInv w b q (.slice oT bs.length cT) bs (.slice none 0 0) [] w.heap.size n (List.replicate n false) (w.alloc (.cells (boolA (List.replicate n false)) 4)) :=
  ⟨Blk.alloc h _,Sl.nil _ _ _,Blk.new _ _ _,by simp,fun k hk=>(by cases hk),Nat.le_refl _,(Mods.refl _ _).alloc _⟩
 have hmk:=run_make_row' (P:=Tryz.prog) 159 4 (.bool false) 1 Tryz.underlying159 info_bool rfl .i64 .i64 n (by omega) (by omega)
 simp only [made_bool] at hmk
 go_enter Tryz.func126,Tryz.ntmps126
 go_upto_block 0 with fail;clear hmk
 have HK0:Hid _:=hK0
 clear hK0
 go_cut [7] (fun v wx=>∃ acc st,KInv w b q (.slice oT bs.length cT) bs v acc w.heap.size n st wx/\codeL sl n (n+1) 0 [] (List.replicate n false)=some (acc,st)/\acc.length<=n/\(∀ x∈acc,PIok x))
 case first =>
  go_wp2_with fail
  go_loopg [7,9] (n+1) (fun g v at_ wx=>∃ (f p:Nat) (acc:List PI) (st:List Bool),at_=.int .i64 p/\KInv w b q (.slice oT bs.length cT) bs v acc w.heap.size n st wx/\codeL sl n f p acc st=codeL sl n (n+1) 0 [] (List.replicate n false)/\n<p+f/\p<=n/\g=f/\acc.length<=p/\(∀ x∈acc,PIok x))
  case atStart=>exact ⟨n+1,0,[],_,rfl,HK0.out,rfl,by omega,Nat.zero_le _,rfl,Nat.le_refl _,fun x hx=>(by cases hx)⟩
  case round =>
   obtain ⟨f,p,acc,st,rfl,hK,hR,hf,hp,hgf,hal,hok⟩:=hrel;clear HK0;have HK:=hid hK
   have HR:Hid _:=hR
   have HOk:=hid hok;clear hK hR hok
   obtain ⟨f,rfl⟩:∃ f',f=f'+1:=⟨f - 1,by omega⟩
   have HGf:Hid _:=hgf
   clear hgf
   by_cases hlt:p<n
   ·have x8:(T sl).extract (p*8) sl.length=T (sl.drop (p*8)):=by
     have:=T_drop sl (p*8)
     rw [hs] at this;exact this
    have i8:((p:Int)*8)<=(sl.length:Int):=by omega
    have HFr:=from_any wr (.slice oT bs.length cT) bs (HO.out.mods HK.out.md) (sl.drop (p*8)) (by unfold maxLen;simp;omega)
    have hR2:=HR.out
    rw [codeL,if_pos hlt] at hR2
    have HR2:Hid _:=hR2
    clear hR2 HR
    have hlen:(sl.drop (p*8)).length=sl.length - p*8:=by simp
    have hfl:=from_len (sl.drop (p*8))
    have hfo:=from_ok (sl.drop (p*8))
    have hfn:=from_nm (sl.drop (p*8))
    rw [hlen] at hfl;have HFr2:=hid HFr;have HFl:=hid hfl;have HFo:=hid hfo;have HFn:=hid hfn;clear HFr hlen hfl hfo hfn;generalize sl.drop (p*8)=lp at *;go_wp2_with fail;refine HFr2.out.mono ?_;rintro e w3 ⟨cs,rfl,hcs,h8,m3⟩
    have HK3:Hid (KInv w b q (.slice oT bs.length cT) bs u7 acc w.heap.size n st w3):=HK.out.quiet m3
    have HO3:Hid (OpsIn 0 w3 (.slice oT bs.length cT) bs tableS):=(HO.out.mods HK.out.md).mods m3
    clear m3 HFr2
    cases hfr:fromP lp with
    | none =>
     rw [hfr] at HR2;have HNo:=hid HR2.out.symm;obtain ⟨e0,e1,e2,e3,e4,e5,e6,e7,rfl⟩:=h8;clear hcs HR2 hfr
     have hRd:PRd (w3.alloc (.cells #[.pointer e0,.int .u8 e1,.int .u8 e2,.int .i16 e3,.int .i32 e4,.int .i32 e5,.string e6,.string e7] 84)) b q:=Blk.alloc HK3.out.rd _
     have c1:=Blk.cell hRd 1
     have fr1:=Blk.frozen hRd 1
     simp at c1
     have HRd:Hid _:=hRd
     clear hRd;go_wp2_with fail;go_ret;rw [HCP.out,HNo.out]
     exact ⟨_,rfl,Blk.set HRd.out 1 _,Sl.nil _ _ _,fun k hk=>(by cases hk),((HK3.out.md.alloc _).of_nil).setb 1 _,fun x hx=>(by cases hx)⟩
    | some x =>
     rw [hfr] at HR2
     have hcx:=hcs x hfr
     have hxo:=HFo.out x hfr
     have hxl:=HFl.out x hfr
     have hxs:=hxo.slots
     clear hcs h8 HFo HFl HFn hfr
     have hA:=tab_at HO3.out x hxo.k
     have HXo:=hid hxo
     have HR3:Hid (codeL sl n f (p+x.o.slots) (acc++[x]) (st.set p true)=codeL sl n (n+1) 0 [] (List.replicate n false)):=HR2.out
     clear HR2 hxo HO3
     have HXc:Hid ((x.ins bs).cellsL=[.pointer (some ⟨bs[x.k]?.getD 0,0,none⟩),.int .u8 x.d,.int .u8 x.s,.int .i16 x.jump,.int .i32 x.num,.int .i32 x.high,.string ByteArray.empty,.string (T x.name)]):=rfl
     have hcx2:cs=#[.pointer (some ⟨bs[x.k]?.getD 0,0,none⟩),.int .u8 x.d,.int .u8 x.s,.int .i16 x.jump,.int .i32 x.num,.int .i32 x.high,.string ByteArray.empty,.string (T x.name)]:=hcx
     clear hcx;subst hcx2
     have HOne:Hid (∀ u∈(x.ins bs).cellsL,u.oneCell'=true):=instr_one _ rfl
     rw [HXc.out] at HOne
     generalize hos:x.o.slots=os at *
     have HA:=hid hA;have HOs:=hid hos;clear hA hos
     generalize hbx:bs[x.k]?.getD 0=bx at *
     have HBx:=hid hbx;clear hbx;generalize x.d=xd at *;generalize x.s=xs at *;generalize x.jump=xj at *;generalize x.num=xn at *;generalize x.high=xh at *;generalize x.name=xm at *
     have HIn:Hid (KInv w b q (.slice oT bs.length cT) bs u7 acc w.heap.size n st (w3.alloc (.cells #[.pointer (some ⟨bx,0,none⟩),.int .u8 xd,.int .u8 xs,.int .i16 xj,.int .i32 xn,.int .i32 xh,.string ByteArray.empty,.string (T xm)] 84))):=HK3.out.quiet ((Mods.refl _ _).alloc _)
     have HBn:Hid (Blk (w3.alloc (.cells #[.pointer (some ⟨bx,0,none⟩),.int .u8 xd,.int .u8 xs,.int .i16 xj,.int .i32 xn,.int .i32 xh,.string ByteArray.empty,.string (T xm)] 84)) w3.heap.size #[.pointer (some ⟨bx,0,none⟩),.int .u8 xd,.int .u8 xs,.int .i16 xj,.int .i32 xn,.int .i32 xh,.string ByteArray.empty,.string (T xm)] 84):=Blk.new _ _ _
     have HAn:Hid (OpAt (w3.alloc (.cells #[.pointer (some ⟨bx,0,none⟩),.int .u8 xd,.int .u8 xs,.int .i16 xj,.int .i32 xn,.int .i32 xh,.string ByteArray.empty,.string (T xm)] 84)) bx x.o):=HA.out.mods ((Mods.refl _ _).alloc _)
     have HOw:=hid HK3.out.sl.lt
     have hg3:w.heap.size<w3.heap.size:=HK3.out.sb.lt
     clear HK3 HA
     have lS:p<(boolA st).size:=by have:=HIn.out.ln;simp [boolA];omega
     have HLS:Hid _:=lS
     clear lS
     go_wp2_with (at_builtin;go_loud (refine wpList_append_sl _ rfl (.tmp 34) (.tmp 36) 53 rfl 84 iI (.agg Z8) 8 56 Tryz.underlying53 hiI hzI hsI hbI rfl (by decide) u7 acc.length (codeC bs acc) rfl (HIn.out.quiet ((Mods.refl _ _).alloc _)).sl ⟨w3.heap.size+1,0,none⟩ 1 1 [.pointer (some ⟨bx,0,none⟩),.int .u8 xd,.int .u8 xs,.int .i16 xj,.int .i32 xn,.int .i32 xh,.string ByteArray.empty,.string (T xm)] rfl rfl (news_cells _ _ _ _ (by simp)) HOne.out (by unfold maxLen;omega) (by omega) ?_;intro vA wA sA mA lA;have HKA:Hid (KInv w b q (.slice oT bs.length cT) bs vA (acc++[x]) w.heap.size n st wA):=(HIn.out.quiet ((Mods.refl _ _).alloc _)).app hb (by rw [HXc.out];exact sA) mA lA;have HBA:Hid (Blk wA w3.heap.size #[.pointer (some ⟨bx,0,none⟩),.int .u8 xd,.int .u8 xs,.int .i16 xj,.int .i32 xn,.int .i32 xh,.string ByteArray.empty,.string (T xm)] 84):=(HBn.out.alloc _).mods mA (fun e=>by have:=HOw.out _ e;omega);obtain ⟨oA,cA,rfl,_⟩:=Sl.view sA;clear sA mA lA;obtain ⟨y0,y1⟩:wA.cell? ⟨w.heap.size,p,none⟩=some (.bool (st[p]?.getD false))/\wA.frozen? ⟨w.heap.size,p,none⟩=false:=⟨by rw [HKA.out.sb.cell p];simp [boolA,HKA.out.ln,hlt],HKA.out.sb.frozen p⟩;have HKM:=HKA.out.mark hb p;have z0:(wA.setCell ⟨w.heap.size,p,none⟩ (.bool true)).cell? ⟨w3.heap.size,0,none⟩=some (.pointer (some ⟨bx,0,none⟩)):=(Blk.setOther HBA.out (show w.heap.size≠w3.heap.size by omega) _).cell 0;have HM2:Hid (KInv w b q (.slice oT bs.length cT) bs (.slice oA (acc.length+1) cA) (acc++[x]) w.heap.size n (st.set p true) (wA.setCell ⟨w.heap.size,p,none⟩ (.bool true))):=HKM;clear HKM;have hAM:=tab_at (HO.out.mods HM2.out.md) x HXo.out.k;rw [HBx.out] at hAM;obtain ⟨z2,_,_,_⟩:=hAM.cells;rw [HOs.out] at z2;clear hAM))
     go_roundg f
     case measure=>have:=HGf.out;omega
     case rel=>exact ⟨f,p+os,acc++[x],st.set p true,by go_num,HM2.out,HR3.out,by omega,by omega,rfl,by simp;omega,fun y hy=>(by rcases List.mem_append.1 hy with h' | h';exact HOk.out y h';rw [List.mem_singleton.1 h'];exact HXo.out)⟩
   ·have HR2:Hid (codeL sl n (n+1) 0 [] (List.replicate n false)=some (acc,st)):=by
     rw [Hid,<- HR.out,codeL,if_neg hlt]
    have hnlt:¬ ((p:Int)<(n:Int)):=by omega
    go_wp2_with fail;go_meet
    exact ⟨acc,st,HK.out,HR2.out,by omega,HOk.out⟩
 case rest =>
 obtain ⟨acc,st,hK,hR,hal,hok⟩:=hcut;rw [hR] at HCP
 simp only at HCP
 clear hR HK0;obtain ⟨oC,cC,rfl,_⟩:=hK.sl.view;have HK:=hid hK;have HOk:=hid hok;clear hK hok
 have HFin:Hid (∀ w4,PRd w4 b (wantP (lastP acc) q)->Mods (Only b) wc w4->Calls Tryz.prog 222 #[.slice oC acc.length cC,.slice (some ⟨w.heap.size,0,none⟩) n n] w4 (fun e w'=>e=.returned (.bool (leadP st 0 acc))/\Mods Nil' w4 w')/\∀ w5,Mods Nil' w4 w5->∀ w6,PRd w6 b (wantP (leadP st 0 acc) (wantP (lastP acc) q))->Mods (Only b) w5 w6->CodePost w b bs (wantP (leadP st 0 acc) (wantP (lastP acc) q)) acc (.returned (.slice oC acc.length cC)) w6):=by
  intro w4 h4 m4
  have hne:∀ k,(Value.slice oC acc.length cC).ownBlock=some k->¬ Only b k:=fun k hk e=>by have:=(HK.out.own k hk).1;have:k=b:=e;omega
  have hS4:=HK.out.sl.mods m4 hne
  have hm4:Mods (Only b) w w4:=HK.out.md.of_nil.trans m4
  have hB4:Blk w4 w.heap.size (boolA st) 4:=HK.out.sb.mods m4 (show ¬ w.heap.size=b by omega)
  have hbw:b<w4.heap.size:=Blk.lt h4
  have hob:OpsIn 0 w4 (.slice oT bs.length cT) bs tableS:=HT.out.mods (HMT.out.step hm4 (fun i hi e=>by have:i=b:=e;omega))
  refine ⟨?_,fun w5 m5 w6 h6 m6=>?_⟩
  ·have:=lead_any w4 _ bs hob acc HOk.out (by omega) _ hS4 st (by have:=HK.out.ln;omega) (.slice (some ⟨w.heap.size,0,none⟩) n n) (by have:=HK.out.ln;exact sl_bools hB4 this (by omega))
   exact this
  ·exact ⟨_,rfl,h6,(hS4.mods m5 (fun _ _=>id)).mods m6 hne,fun k hk=>(HK.out.own k hk).1,(hm4.trans m5.of_nil).trans m6,HOk.out⟩
 cases hal0:acc.length with
 | zero =>
  rw [hal0] at HFin
  obtain rfl:acc=[]:=List.length_eq_zero_iff.1 hal0
  have HL:Hid (lastP []=false):=rfl
  rw [HL.out] at HFin HCP;generalize leadP st 0 []=ld at *;go_wp2_with fail
  refine (want_any b _ _ _ HK.out.rd).mono ?_
  rintro e w4 ⟨rfl,h4,m4⟩;obtain ⟨f1,f2⟩:=HFin.out w4 h4 m4
  have F2:Hid _:=f2
  clear f2 HFin;go_wp2_with fail;refine f1.mono ?_;rintro e w5 ⟨rfl,m5⟩
  have h5:=Blk.mods h4 m5 id
  have F3:Hid _:=F2.out w5 m5
  clear F2 m5 m4 h4;go_wp2_with fail
  refine (want_any b _ _ _ h5).mono ?_
  rintro e w6 ⟨rfl,h6,m6⟩
  have F4:Hid _:=F3.out w6 h6 m6
  clear F3 h6 m6 h5;go_wp2_with fail;go_ret;rw [HCP.out];exact F4.out
 | succ j =>
  have hj:j<acc.length:=by omega
  have HL:Hid (lastP acc=acc[j].o.ends):=by
   have:acc.getLast?=some acc[j]:=by rw [List.getLast?_eq_getElem?,show acc.length - 1=j by omega];simp [hj]
   rw [Hid,lastP,this]
  obtain ⟨g,rfl,hg,q0,_,_,_,_,_,_,_⟩:=code_at HK.out.sl rfl rfl j hj
  obtain ⟨_,_,q4,_⟩:=(tab_at (HO.out.mods HK.out.md) acc[j] (HOk.out acc[j] (List.getElem_mem hj)).k).cells
  rw [hal0] at HFin;rw [HL.out] at HFin HCP;generalize acc[j].o.ends=le at *;generalize bs[acc[j].k]?.getD 0=bx at *;generalize leadP st 0 acc=ld at *;have HL0:=hid hal0
  have hj2:j<2000:=by omega
  clear hal0 hal;go_wp2_with fail
  refine (want_any b _ _ _ HK.out.rd).mono ?_
  rintro e w4 ⟨rfl,h4,m4⟩;obtain ⟨f1,f2⟩:=HFin.out w4 h4 m4
  have F2:Hid _:=f2
  clear f2 HFin;go_wp2_with fail;refine f1.mono ?_;rintro e w5 ⟨rfl,m5⟩
  have h5:=Blk.mods h4 m5 id
  have F3:Hid _:=F2.out w5 m5
  clear F2 m5 m4 h4;go_wp2_with fail
  refine (want_any b _ _ _ h5).mono ?_
  rintro e w6 ⟨rfl,h6,m6⟩
  have F4:Hid _:=F3.out w6 h6 m6
  clear F3 h6 m6 h5;go_wp2_with fail;go_ret;rw [HCP.out];exact F4.out
theorem info_pfunc:(Tryz.prog.info? 55).map (fun i=>(i.zero,i.size,i.bytes))=some (some (.agg #[.string E0,.slice none 0 0]),2,40):=by kernel_rfl
def fnC (x:List UInt8 × Value):List Value:=[.string (T x.1),x.2]
def blankF (h:PHead):List UInt8 × Value:=(h.name,.slice none 0 0)
def slotC (l:List PHead):List Value:=l.map (fun h=>.int .i64 (h.slots:Nat))
theorem pfn_one (n:List UInt8) (o:Option Addr) (k c:Nat):∀ u∈[Value.string (T n),.slice o k c],u.oneCell'=true:=by
 intro u hu
 simp only [List.mem_cons,List.not_mem_nil,or_false] at hu
 rcases hu with rfl | rfl<;>rfl
structure HInv (w0:World) (b:Nat) (q:PR) (v vS:Value) (hs:List PHead) (w:World):Prop where
 rd:PRd w b q
 sf:Sl w 55 2 v hs.length ((hs.map blankF).flatMap fnC)
 ss:Sl w 3 1 vS hs.length (slotC hs)
 own:∀ k,v.ownBlock=some k->w0.heap.size<=k
 ownS:∀ k,vS.ownBlock=some k->w0.heap.size<=k
 md:Mods (Only b) w0 w
structure HMid (w0:World) (b:Nat) (q:PR) (v vS:Value) (hs:List PHead) (nm:List UInt8) (w:World):Prop where
 rd:PRd w b q
 sf:Sl w 55 2 v (hs.length+1) ((hs.map blankF).flatMap fnC++[.string (T nm),.slice none 0 0])
 ss:Sl w 3 1 vS hs.length (slotC hs)
 own:∀ k,v.ownBlock=some k->w0.heap.size<=k
 ownS:∀ k,vS.ownBlock=some k->w0.heap.size<=k
 md:Mods (Only b) w0 w
theorem HInv.read {w0 w w':World} {b:Nat} {q q':PR} {v vS:Value} {hs:List PHead} (h:HInv w0 b q v vS hs w) (hr:PRd w' b q') (m:Mods (Only b) w w'):HInv w0 b q' v vS hs w' :=
 ⟨hr,h.sf.mods m (fun k hk e=>h.sf.notBlk h.rd (by decide) (hk.trans (congrArg some e))),h.ss.mods m (fun k hk e=>h.ss.notBlk h.rd (by decide) (hk.trans (congrArg some e))),h.own,h.ownS,h.md.trans m⟩
theorem HInv.alloc {w0 w:World} {b:Nat} {q:PR} {v vS:Value} {hs:List PHead} (h:HInv w0 b q v vS hs w) (o:Obj):HInv w0 b q v vS hs (w.alloc o) :=
 ⟨Blk.alloc h.rd o,h.sf.mods ((Mods.refl Nil' w).alloc o) (fun _ _=>id),h.ss.mods ((Mods.refl Nil' w).alloc o) (fun _ _=>id),h.own,h.ownS,h.md.alloc o⟩
theorem HInv.app {w0 w w':World} {b:Nat} {q:PR} {v vS v':Value} {hs:List PHead} {nm:List UInt8} (h:HInv w0 b q v vS hs w) (s:Sl w' 55 2 v' (hs.length+1) ((hs.map blankF).flatMap fnC++[.string (T nm),.slice none 0 0])) (m:Mods (fun k=>v.ownBlock=some k) w w') (l:∀ k,v'.ownBlock=some k->v.ownBlock=some k\/w.heap.size<=k):HMid w0 b q v' vS hs nm w' :=
 ⟨Blk.mods h.rd m (fun e=>h.sf.notBlk h.rd (by decide) e),s,h.ss.mods m (fun k hk e=>h.sf.apart h.ss (by decide) e hk),fun k hk=>by
  rcases l k hk with e | e
  ·exact h.own k e
  ·have:=h.md.size;omega,h.ownS,h.md.step m (fun i hi e=>by have:=h.own i e;omega)⟩
theorem HMid.read {w0 w w':World} {b:Nat} {q q':PR} {v vS:Value} {hs:List PHead} {nm:List UInt8} (h:HMid w0 b q v vS hs nm w) (hr:PRd w' b q') (m:Mods (Only b) w w'):HMid w0 b q' v vS hs nm w' :=
 ⟨hr,h.sf.mods m (fun k hk e=>h.sf.notBlk h.rd (by decide) (hk.trans (congrArg some e))),h.ss.mods m (fun k hk e=>h.ss.notBlk h.rd (by decide) (hk.trans (congrArg some e))),h.own,h.ownS,h.md.trans m⟩
theorem HMid.alloc {w0 w:World} {b:Nat} {q:PR} {v vS:Value} {hs:List PHead} {nm:List UInt8} (h:HMid w0 b q v vS hs nm w) (o:Obj):HMid w0 b q v vS hs nm (w.alloc o) :=
 ⟨Blk.alloc h.rd o,h.sf.mods ((Mods.refl Nil' w).alloc o) (fun _ _=>id),h.ss.mods ((Mods.refl Nil' w).alloc o) (fun _ _=>id),h.own,h.ownS,h.md.alloc o⟩
theorem HMid.app {w0 w w':World} {b:Nat} {q:PR} {v vS v':Value} {hs:List PHead} {nm:List UInt8} {n:Nat} (h:HMid w0 b q v vS hs nm w) (s:Sl w' 3 1 v' (hs.length+1) (slotC hs++[.int .i64 n])) (m:Mods (fun k=>vS.ownBlock=some k) w w') (l:∀ k,v'.ownBlock=some k->vS.ownBlock=some k\/w.heap.size<=k):HInv w0 b q v v' (hs++[⟨nm,n⟩]) w' :=
 ⟨Blk.mods h.rd m (fun e=>h.ss.notBlk h.rd (by decide) e),by simpa [blankF,fnC] using h.sf.mods m (fun k hk e=>h.sf.apart h.ss (by decide) hk e),by simpa [slotC] using s,h.own,fun k hk=>by
  rcases l k hk with e | e
  ·exact h.ownS k e
  ·have:=h.md.size;omega,h.md.step m (fun i hi e=>by have:=h.ownS i e;omega)⟩
theorem HInv.at {w0 w:World} {b:Nat} {q:PR} {v vS:Value} {hs:List PHead} (h:HInv w0 b q v vS hs w) (k:Nat) (hk:k<hs.length):∃ g c gS cS,v=.slice (some ⟨g,0,none⟩) hs.length c/\vS=.slice (some ⟨gS,0,none⟩) hs.length cS/\w.cell? ⟨g,k*2,none⟩=some (.string (T hs[k].name))/\w.cell? ⟨gS,k,none⟩=some (.int .i64 (hs[k].slots:Nat))/\∀ j,w.frozen? ⟨g,j,none⟩=false:=by
 obtain ⟨o,c,rfl,h2⟩:=h.sf.view;obtain ⟨oS,cS,rfl,h3⟩:=h.ss.view
 obtain ⟨g,cs,rfl,hb,ht,_⟩:=h2 (by omega)
 obtain ⟨gS,cs',rfl,hb',ht',_⟩:=h3 (by omega)
 refine ⟨g,c,gS,cS,rfl,rfl,?_,?_,fun j=>hb.frozen j⟩
 ·rw [hb.cell (k*2),<- Array.getElem?_toList,<- List.getElem?_take_of_lt (show k*2<hs.length*2 by omega),ht]
  have:=flat_get fnC 2 (fun _=>rfl) (hs.map blankF) k 0 (by simpa using hk) (by omega)
  rw [Nat.add_zero] at this;rw [this]
  simp [fnC,blankF]
 ·rw [hb'.cell k,<- Array.getElem?_toList,<- List.getElem?_take_of_lt (show k<hs.length*1 by omega),ht']
  simp [slotC,hk]
structure Fns (w:World) (lo:Nat) (bs:List Nat) (v:Value) (fs:List PFn) (vs:List Value):Prop where
 len:vs.length=fs.length
 sl:Sl w 55 2 v fs.length (((fs.map (·.name)).zip vs).flatMap fnC)
 cd:∀ i (_:i<fs.length) (_:i<vs.length),Sl w 84 8 vs[i] fs[i].code.length (codeC bs fs[i].code)
 ok:∀ f∈fs,∀ x∈f.code,PIok x
 own:∀ k,v.ownBlock=some k->lo<=k
 ownC:∀ u∈vs,∀ k,u.ownBlock=some k->lo<=k
 ne:∀ i j (_:i<vs.length) (_:j<vs.length),i≠j->∀ k,vs[i].ownBlock=some k->vs[j].ownBlock≠some k
theorem Fns.mods {w w':World} {lo:Nat} {bs:List Nat} {v:Value} {fs:List PFn} {vs:List Value} {S:Nat->Prop} (h:Fns w lo bs v fs vs) (m:Mods S w w') (h1:∀ k,v.ownBlock=some k->¬ S k) (h2:∀ u∈vs,∀ k,u.ownBlock=some k->¬ S k):Fns w' lo bs v fs vs :=
 ⟨h.len,h.sl.mods m h1,fun i a b=>(h.cd i a b).mods m (h2 _ (List.getElem_mem b)),h.ok,h.own,h.ownC,h.ne⟩
theorem Fns.quiet {w w':World} {lo:Nat} {bs:List Nat} {v:Value} {fs:List PFn} {vs:List Value} (h:Fns w lo bs v fs vs) (m:Mods Nil' w w'):Fns w' lo bs v fs vs :=
 h.mods m (fun _ _=>id) (fun _ _ _ _=>id)
theorem Fns.read {w w':World} {lo:Nat} {bs:List Nat} {v:Value} {fs:List PFn} {vs:List Value} {b:Nat} {q:PR} (h:Fns w lo bs v fs vs) (hr:PRd w b q) (m:Mods (Only b) w w'):Fns w' lo bs v fs vs :=
 h.mods m (fun k hk e=>h.sl.notBlk hr (by decide) (hk.trans (congrArg some e))) (fun u hu k hk e=>by
  obtain ⟨i,hi,rfl⟩:=List.getElem_of_mem hu
  exact (h.cd i (by rw [<- h.len];exact hi) hi).notBlk hr (by decide) (hk.trans (congrArg some e)))
theorem zip_at (ns:List (List UInt8)) (vs:List Value) (k:Nat) (h:k<ns.length) (h':k<vs.length):(ns.zip vs)[k]'(by simp;omega)=(ns[k],vs[k]):=by simp
theorem Fns.put {w:World} {lo g c:Nat} {bs:List Nat} {fs:List PFn} {vs:List Value} (k:Nat) (hk:k<fs.length) {nf:Nat} (hnf:nf=fs.length) (h:Fns w lo bs (.slice (some ⟨g,0,none⟩) nf c) fs vs) (o:Option Addr) (n cp:Nat) (code:List PI) (hn:n=code.length) (s:Sl w 84 8 (.slice o n cp) n (codeC bs code)) (hok:∀ x∈code,PIok x) (hlo:∀ k,(Value.slice o n cp).ownBlock=some k->lo<=k) (hne:∀ u∈vs,∀ k,u.ownBlock=some k->(Value.slice o n cp).ownBlock≠some k) :
  Fns (w.setCell ⟨g,k*2+1,none⟩ (.slice o n cp)) lo bs (.slice (some ⟨g,0,none⟩) nf c) (fs.set k ⟨fs[k].name,code⟩) (vs.set k (.slice o n cp)):=by
 subst hnf
 have hkv:k<vs.length:=by rw [h.len];exact hk
 have hkz:k<((fs.map (·.name)).zip vs).length:=by simp;omega
 have m:Mods (Only g) w (w.setCell ⟨g,k*2+1,none⟩ (.slice o n cp)):=(Mods.refl _ _).setb _ _
 have hf:∀ k',∀ v',Sl w 84 8 v' k' (codeC bs code)->True:=fun _ _ _=>trivial
 have hgn:∀ {v':Value} {n':Nat} {xs:List Value},Sl w 84 8 v' n' xs->∀ k,v'.ownBlock=some k->¬ Only g k:=fun s' k' hk' e=>s'.apart h.sl (by decide) hk' (congrArg some (show g=k' from e.symm))
 have hnm:(fs.set k ⟨fs[k].name,code⟩).map (·.name)=fs.map (·.name):=by
  rw [List.map_set]
  exact List.ext_getElem (by simp) (fun i h1 h2=>by
   rw [List.getElem_set]
   split
   ·rename_i e;subst e;simp
   ·rfl)
 refine ⟨by simp [h.len],?_,fun i h1 h2=>?_,fun f hf' x hx=>?_,h.own,fun u hu k' hk'=>?_,fun i j h1 h2 hij k' hk'=>?_⟩
 ·have:=h.sl.setAt (k*2+1) (.slice o n cp) (by omega)
  rw [flat_set fnC 2 (fun _=>rfl) _ k 1 hkz (by omega) (.slice o n cp) (fs[k].name,.slice o n cp) (by rw [zip_at _ _ k (by simpa using hk) hkv];simp [fnC])] at this
  rw [hnm,List.length_set]
  have e:((fs.map (·.name)).zip vs).set k (fs[k].name,.slice o n cp)=(fs.map (·.name)).zip (vs.set k (.slice o n cp)):=by
   refine List.ext_getElem (by simp) (fun i h1 h2=>?_)
   rw [List.getElem_set]
   split
   ·rename_i e;subst e;simp
   ·rename_i e
    simp [e]
  rw [e] at this;exact this
 ·rw [List.length_set] at h1 h2;rw [List.getElem_set]
  by_cases e:k=i
  ·subst e
   simp only [List.getElem_set,if_true]
   subst hn
   exact s.mods m (hgn s)
  ·simp only [e,if_false,List.getElem_set]
   exact (h.cd i h1 h2).mods m (hgn (h.cd i h1 h2))
 ·rcases List.mem_or_eq_of_mem_set hf' with h' | h'
  ·exact h.ok f h' x hx
  ·subst h';exact hok x hx
 ·rcases List.mem_or_eq_of_mem_set hu with h' | h'
  ·exact h.ownC u h' k' hk'
  ·subst h';exact hlo k' hk'
 ·rw [List.length_set] at h1 h2;rw [List.getElem_set] at hk' ⊢
  by_cases e:k=i
  ·subst e;rw [if_pos rfl] at hk';rw [if_neg hij];intro e2
   exact hne _ (List.getElem_mem h2) k' e2 hk'
  ·rw [if_neg e] at hk'
   by_cases e2:k=j
   ·subst e2;rw [if_pos rfl]
    exact hne _ (List.getElem_mem h1) k' hk'
   ·rw [if_neg e2];exact h.ne i j h1 h2 hij k' hk'
def blankP (h:PHead):PFn:=⟨h.name,[]⟩
theorem HInv.fns {w0 w:World} {b:Nat} {q:PR} {v vS:Value} {hs:List PHead} (h:HInv w0 b q v vS hs w) (bs:List Nat):Fns w w0.heap.size bs v (hs.map blankP) (List.replicate hs.length (.slice none 0 0)):=by
 refine ⟨by simp,?_,fun i h1 h2=>?_,fun f hf x hx=>?_,h.own,fun u hu k hk=>?_,fun i j h1 h2 _ k hk=>?_⟩
 ·have e:((hs.map blankP).map (·.name)).zip (List.replicate hs.length (.slice none 0 0))=hs.map blankF:=by
   refine List.ext_getElem (by simp) (fun i h1 h2=>?_)
   simp [blankP,blankF]
  rw [e]
  simpa using h.sf
 ·simp only [List.getElem_map,List.getElem_replicate,blankP]
  exact Sl.nil _ _ _
 ·obtain ⟨h',_,rfl⟩:=List.mem_map.1 hf
  cases hx
 ·rw [List.eq_of_mem_replicate hu] at hk;cases hk
 ·rw [List.getElem_replicate] at hk;cases hk
theorem two_lt (q:PR):(twoP q).1<65536:=by
 have h1:=one_lt q
 have h2:=one_lt (oneP q).2
 show (oneP q).1+256*(oneP (oneP q).2).1<65536
 omega
def sumH (l:List PHead):Nat:=(l.map (·.slots)).sum
theorem sumH_mem (l:List PHead) (h:PHead) (hm:h∈l):h.slots<=sumH l:=by
 induction l with
 | nil=>cases hm
 | cons x l ih =>
  simp only [sumH,List.map_cons,List.sum_cons] at *
  rcases List.mem_cons.1 hm with rfl | hm
  ·omega
  ·have:=ih hm;omega
theorem take_le (n:Nat) (q:PR):(takeP n q).1.length<=n:=by
 unfold takeP
 split
 ·simp;omega
 ·simp;omega
def FuncsPost (w:World) (b:Nat) (bs:List Nat) (q:PR) (fs:List PFn) (e:Ending) (w':World):Prop :=
 ∃ v vs,e=.returned v/\PRd w' b q/\Fns w' w.heap.size bs v fs vs/\Mods (Only b) w w'
theorem set_mid {α:Type} (acc l:List α) (x y:α):(acc++x::l).set acc.length y=(acc++[y])++l:=by
 rw [List.set_append,if_neg (by omega),Nat.sub_self,List.set_cons_zero,List.append_assoc];rfl
theorem get_mid {α:Type} (acc l:List α) (x:α) (h:acc.length<(acc++x::l).length):(acc++x::l)[acc.length]=x:=by
 rw [List.getElem_append_right (Nat.le_refl _)];simp
set_option maxRecDepth 100000 in
set_option maxHeartbeats 2000000 in
theorem funcs_any (w:World) (b:Nat) (q:PR) (h:PRd w b q) (hl:q.rest.length<=maxLen) (wT:World) (tv:Value) (bs:List Nat) (hT:OpsIn 0 wT tv bs tableS) (mT:Mods Nil' wT w) (hbT:wT.heap.size<=b) :
  Calls Tryz.prog 61 #[.pointer (some ⟨b,0,none⟩),tv] w fun e w'=>FuncsPost w b bs (funcsP q).2 (funcsP q).1 e w':=by
 obtain ⟨iF,hiF,hzF,hsF,hbF⟩:=info_parts info_pfunc;obtain ⟨iN,hiN,hzN,hsN,hbN⟩:=info_parts info_int
 have hb:b<w.heap.size:=Blk.lt h
 have H1:Hid (∀ w,PRd w b q->Calls Tryz.prog 59 #[.pointer (some ⟨b,0,none⟩)] w fun e w'=>e=.returned (.int .i64 ((oneP q).1:Nat))/\PRd w' b (oneP q).2/\Mods (Only b) w w'):=fun w h=>one_any b q w h hl
 have l1:=one_lt q
 have hl1:=Nat.le_trans (one_len q) hl
 have hfp:funcsP q=(let hd:=headsP (oneP q).1 (wantP (decide ((oneP q).1<=16)) (oneP q).2) [] 0 [];let q3:=wantP (decide (hd.2.1<=200)) hd.2.2;if q3.bad then ([],q3) else codesP hd.1 q3 []):=rfl
 simp only at hfp
 have HFP0:Hid _:=hfp
 clear hfp;generalize oneP q=r1 at *;obtain ⟨n,q1⟩:=r1;simp only at *
 have hd:decide ((n:Int)<=16)=decide (n<=16):=by simp;omega
 have hl2:(wantP (decide (n<=16)) q1).rest.length<=maxLen:=hl1
 have HQ:Hid (∃ q2,wantP (decide (n<=16)) q1=q2):=⟨_,rfl⟩
 obtain ⟨q2,hq2⟩:=HQ.out;rw [hq2] at hl2 HFP0;have HQ2:=hid hq2;clear hq2 HQ;have HFP:=hid HFP0.out;clear HFP0;have HT:=hid hT;have HMT:=hid mT;obtain ⟨oT,cT,hv,_⟩:=hT.sl.view;subst hv;clear hT mT
 go_enter Tryz.func61,Tryz.ntmps61
 go_wp2_with fail
 refine (H1.out _ h).mono ?_
 rintro e w1 ⟨rfl,h1,m1⟩;go_wp2_with fail
 refine (want_any b _ _ _ h1).mono ?_
 rintro e w2 ⟨rfl,h2,m2⟩
 have hI:HInv w b (wantP (decide (n<=16)) q1) (.slice none 0 0) (.slice none 0 0) [] w2:=⟨h2,Sl.nil _ _ _,Sl.nil _ _ _,fun k hk=>(by cases hk),fun k hk=>(by cases hk),m1.trans m2⟩
 rw [HQ2.out] at hI;clear h1 h2 m1 m2 hd
 have HI0:Hid _:=hI
 clear hI;go_upto_block 0 with fail
 go_cut [5,6,8] (fun v vS all wx=>∃ (hs:List PHead) (tot:Nat) (q3:PR),HInv w b q3 v vS hs wx/\headsP n q2 [] 0 []=(hs,tot,q3)/\all=.int .i64 tot/\hs.length=n/\tot=sumH hs/\tot<=n*65536/\q3.rest.length<=maxLen)
 case first =>
  go_wp2_with fail
  go_loopg [5,6,7,8,19] n (fun g v vS last all i wl=>∃ (k:Nat) (acc:List PHead) (tot:Nat) (r:PR) (lastL:List UInt8),i=.int .i64 k/\last=.string (T lastL)/\all=.int .i64 tot/\HInv w b r v vS acc wl/\headsP (n - k) r lastL tot acc=headsP n q2 [] 0 []/\k<=n/\g=n - k/\acc.length=k/\tot=sumH acc/\tot<=k*65536/\r.rest.length<=maxLen)
  case atStart=>exact ⟨0,[],0,q2,[],rfl,rfl,rfl,HI0.out,rfl,Nat.zero_le _,rfl,rfl,rfl,Nat.zero_le _,hl2⟩
  case round =>
   obtain ⟨k,acc,tot,r,lastL,rfl,rfl,rfl,hI2,HR0,hk,rfl,hal,htot,hbd,hrl⟩:=hrel
   have HR:Hid _:=HR0
   have HTot:=hid htot;clear HR0 HI0 htot
   by_cases hkn:k<n
   ·obtain ⟨j,hj⟩:∃ j,n - k=j+1:=⟨n - k - 1,by omega⟩
    have HJ:=hid hj
    have HR2:headsP j (wantP (ltL lastL (nameP r).1) (twoP (nameP r).2).2) (nameP r).1 (tot+(twoP (nameP r).2).1) (acc++[⟨(nameP r).1,(twoP (nameP r).2).1⟩])=headsP n q2 [] 0 []:=by
     rw [<- HR.out,hj];rfl
    clear HR hj
    have HN:Hid (∀ w,PRd w b r->Calls Tryz.prog 124 #[.pointer (some ⟨b,0,none⟩)] w fun e w'=>e=.returned (.string (T (nameP r).1))/\PRd w' b (nameP r).2/\Mods (Only b) w w'):=fun w h=>pname_any b r w h hrl
    have z1:=Nat.le_trans (name_len r) hrl
    generalize nameP r=p0 at *;obtain ⟨nm,r0⟩:=p0;simp only at *
    have H2:Hid (∀ w,PRd w b r0->Calls Tryz.prog 62 #[.pointer (some ⟨b,0,none⟩)] w fun e w'=>e=.returned (.int .i64 ((twoP r0).1:Nat))/\PRd w' b (twoP r0).2/\Mods (Only b) w w'):=fun w h=>two_any b r0 w h z1
    have z2:=Nat.le_trans (two_len r0) z1
    have y2:=two_lt r0
    generalize twoP r0=p1 at *;obtain ⟨sn,r1⟩:=p1;simp only at *
    have HR3:Hid _:=HR2
    clear HR2
    have HLT:Hid (ltL lastL nm=Op.bytesLess (T lastL).toList (T nm).toList):=rfl
    obtain ⟨o5,c5,rfl,_⟩:=hI2.sf.view;obtain ⟨o6,c6,rfl,_⟩:=hI2.ss.view;subst hal;go_wp2_with fail
    refine (HN.out _ hI2.rd).mono ?_
    rintro e w3 ⟨rfl,h3,m3⟩
    have hI3:=hI2.read h3 m3
    have HI3:=hid hI3;clear h3 m3 hI2 hI3
    go_wp2_with (at_builtin;go_loud (refine wpList_append_sl _ rfl (.tmp 22) (.tmp 26) 35 rfl 55 iF (.agg #[.string E0,.slice none 0 0]) 2 40 Tryz.underlying35 hiF hzF hsF hbF rfl (by decide) (.slice o5 acc.length c5) acc.length ((acc.map blankF).flatMap fnC) rfl (HI3.out.alloc _).sf ⟨w3.heap.size,0,none⟩ 1 1 [.string (T nm),.slice none 0 0] rfl rfl (news_cells _ _ _ _ rfl) (pfn_one _ _ _ _) (by unfold maxLen;omega) (by omega) ?_;intro vA wA sA mA lA;have HMA:Hid (HMid w b r0 vA (.slice o6 acc.length c6) acc nm wA):=(HI3.out.alloc _).app sA mA lA;obtain ⟨oA,cA,rfl,_⟩:=Sl.view sA;clear sA mA lA HI3))
    refine (H2.out _ HMA.out.rd).mono ?_
    rintro e w4 ⟨rfl,h4,m4⟩
    have hM4:=HMA.out.read h4 m4
    have HM4:=hid hM4;clear h4 m4 hM4 HMA
    go_wp2_with (at_builtin;go_loud (refine wpList_append_sl _ rfl (.tmp 28) (.tmp 31) 189 rfl 3 iN (.int .i64 0) 1 8 Tryz.underlying189 hiN hzN hsN hbN rfl (by decide) (.slice o6 acc.length c6) acc.length (slotC acc) rfl (HM4.out.alloc _).ss ⟨w4.heap.size,0,none⟩ 1 1 [.int .i64 sn] rfl rfl (news_cells _ _ _ _ rfl) (int_one _) (by unfold maxLen;omega) (by omega) ?_;intro vB wB sB mB lB;have HIB:Hid (HInv w b r1 (.slice oA (acc.length+1) cA) vB (acc++[⟨nm,sn⟩]) wB):=(HM4.out.alloc _).app sB mB lB;obtain ⟨oB,cB,rfl,_⟩:=Sl.view sB;clear sB mB lB HM4;obtain ⟨gA,kA,gB,kB,eA,eB,x0,x1,_⟩:=HIB.out.at acc.length (by simp);simp only [List.length_append,List.length_cons,List.length_nil,Value.slice.injEq] at eA eB;obtain ⟨rfl,_,rfl⟩:=eA;obtain ⟨rfl,_,rfl⟩:=eB;simp only [List.getElem_append_right (Nat.le_refl _),Nat.sub_self,List.getElem_cons_zero] at x0 x1))
    refine (want_any b _ _ _ HIB.out.rd).mono ?_
    rintro e wC ⟨rfl,hC,mC⟩
    have hIC:=HIB.out.read hC mC
    obtain ⟨gA',kA',gB',kB',eA,eB,v0,v1,_⟩:=hIC.at acc.length (by simp)
    simp only [List.length_append,List.length_cons,List.length_nil,Value.slice.injEq] at eA eB
    obtain ⟨⟨rfl⟩,_,rfl⟩:=eA
    obtain ⟨⟨rfl⟩,_,rfl⟩:=eB
    simp only [List.getElem_append_right (Nat.le_refl _),Nat.sub_self,List.getElem_cons_zero] at v0 v1
    have HIC:Hid (HInv w b (wantP (ltL lastL nm) r1) (.slice (some ⟨gA,0,none⟩) (acc.length+1) cA) (.slice (some ⟨gB,0,none⟩) (acc.length+1) cB) (acc++[⟨nm,sn⟩]) wC):=hIC
    clear hIC hC mC x0 x1 HIB;go_wp2_with fail
    go_roundg (n - (acc.length+1))
    case measure=>omega
    case rel=>exact ⟨acc.length+1,acc++[⟨nm,sn⟩],tot+sn,wantP (ltL lastL nm) r1,nm,by go_num,rfl,by go_num,HIC.out,by rw [show n - (acc.length+1)=j by have:=HJ.out;omega];exact HR3.out,by omega,rfl,by simp,by rw [HTot.out];simp [sumH],by omega,z2⟩
   ·obtain rfl:k=n:=by omega
    have HE:Hid (headsP k q2 [] 0 []=(acc,tot,r)):=by rw [Hid,<- HR.out,Nat.sub_self];rfl
    go_wp2_with fail;go_meet
    exact ⟨acc,tot,r,hI2,HE.out,rfl,hal,HTot.out,hbd,hrl⟩
 case rest =>
 obtain ⟨hs,tot,q3,hI,hE,rfl,hal,htot,hbd,hrl⟩:=hcut;subst hal;rw [hE] at HFP
 simp only at HFP
 have HI:=hid hI;have HTot:=hid htot;clear hE HI0 hI htot
 have hd2:decide ((tot:Int)<=200)=decide (tot<=200):=by simp;omega
 go_wp2_with fail
 refine (want_any b _ _ _ HI.out.rd).mono ?_
 rintro e w4 ⟨rfl,h4,m4⟩
 have hI4:=HI.out.read h4 m4
 have hq4:(wantP (decide (tot<=200)) q3).bad=false->tot<=200:=fun e=>by
  simp [wantP] at e
  omega
 have HQ4:Hid _:=hq4
 have hr4:(wantP (decide (tot<=200)) q3).rest.length<=maxLen:=hrl
 clear hq4 h4 m4 hd2;generalize wantP (decide (tot<=200)) q3=q4 at *;obtain ⟨rest4,bad4⟩:=q4
 have c1:w4.cell? ⟨b,1,none⟩=some (.bool bad4):=Blk.cell hI4.rd 1
 cases bad4 with
 | true =>
  simp only [if_true] at HFP
  have HI4:Hid _:=hI4
  clear hI4;go_wp2_with fail;go_ret;rw [HFP.out]
  exact ⟨_,[],rfl,HI4.out.rd,⟨rfl,Sl.nil _ _ _,fun i h=>absurd h (Nat.not_lt_zero _),fun f h=>(by cases h),fun k h=>(by cases h),fun u h=>(by cases h),fun i j h=>absurd h (Nat.not_lt_zero _)⟩,HI4.out.md⟩
 | false =>
  simp only [Bool.false_eq_true,if_false] at HFP
  have ht:=HQ4.out rfl
  have HS:Hid (∀ h∈hs,h.slots<=200):=fun h hm=>by have:=sumH_mem hs h hm;rw [<- HTot.out] at this;omega
  obtain ⟨o5,c5,rfl,_⟩:=hI4.sf.view;obtain ⟨o6,c6,rfl,_⟩:=hI4.ss.view
  have HFs:Hid (Fns w4 w.heap.size bs (.slice o5 hs.length c5) (hs.map blankP) (List.replicate hs.length (.slice none 0 0))):=hI4.fns bs
  have HI4:=hid hI4;clear hI4;go_wp2_with fail
  go_loopg [64] hs.length (fun g i wl=>∃ (k:Nat) (acc:List PFn) (vs:List Value) (r:PR),i=.int .i64 k/\Fns wl w.heap.size bs (.slice o5 hs.length c5) (acc++(hs.drop k).map blankP) (vs++List.replicate (hs.length - k) (.slice none 0 0))/\PRd wl b r/\Sl wl 3 1 (.slice o6 hs.length c6) hs.length (slotC hs)/\Mods (Only b) w wl/\codesP (hs.drop k) r acc=codesP hs ⟨rest4,false⟩ []/\k<=hs.length/\g=hs.length - k/\acc.length=k/\vs.length=k/\r.rest.length<=maxLen)
  case atStart=>exact ⟨0,[],[],⟨rest4,false⟩,rfl,HFs.out,HI4.out.rd,HI4.out.ss,HI4.out.md,rfl,Nat.zero_le _,rfl,rfl,rfl,hr4⟩
  case round =>
   obtain ⟨k,acc,vs,r,rfl,hF,hR,hSS,hM,hcp,hk,rfl,hal,hvl,hrl2⟩:=hrel;have HF:=hid hF;have HR:=hid hR;have HSS:=hid hSS;have HM:=hid hM;have HCp:=hid hcp;clear hF hR hSS hM hcp HFs HI4
   by_cases hkn:k<hs.length
   ·obtain ⟨gS,rfl,cS⟩:=HSS.out.at rfl k hkn
    have y1:=cS k hkn
    have e1:(slotC hs)[k]?=some (.int .i64 (hs[k].slots:Nat)):=by simp [slotC,hkn]
    rw [e1] at y1
    have hsl:=HS.out hs[k] (List.getElem_mem hkn)
    obtain ⟨hdk,hdt⟩:∃ x,hs.drop k=x::hs.drop (k+1)/\x=hs[k]:=⟨_,List.drop_eq_getElem_cons hkn,rfl⟩
    obtain ⟨hdr,hdx⟩:=hdt;rw [<- hdx] at y1 hsl;obtain ⟨nm,sn⟩:=hdk
    simp only at y1 hsl
    have hF3:=HF.out
    rw [hdr,show hs.length - k=(hs.length - (k+1))+1 by omega,List.replicate_succ,List.map_cons] at hF3
    have HC2:codesP (hs.drop (k+1)) (codeP (takeP (sn*8) r).1 (takeP (sn*8) r).2).2 (acc++[⟨nm,(codeP (takeP (sn*8) r).1 (takeP (sn*8) r).2).1⟩])=codesP hs ⟨rest4,false⟩ []:=by
     rw [<- HCp.out,hdr];rfl
    clear HF HCp e1 cS hdr hdx
    have HTk:Hid (∀ w,PRd w b r->Calls Tryz.prog 58 #[.pointer (some ⟨b,0,none⟩),.int .i64 ((sn:Int)*8)] w fun e w'=>e=.returned (.string (T (takeP (sn*8) r).1))/\PRd w' b (takeP (sn*8) r).2/\Mods (Only b) w w'):=fun w h=>by
     rw [show ((sn:Int)*8)=((sn*8:Nat):Int) by omega]
     exact take_any b r (sn*8) w h hrl2 (by unfold maxLen;omega)
    have htl:=take_le (sn*8) r
    have htr:=Nat.le_trans (take_len (sn*8) r) hrl2
    generalize takeP (sn*8) r=tk at *;obtain ⟨tl,rk⟩:=tk;simp only at *
    have HCd:Hid (∀ w5,PRd w5 b rk->Mods (Only b) w w5->Calls Tryz.prog 126 #[.pointer (some ⟨b,0,none⟩),.slice oT bs.length cT,.string (T tl)] w5 fun e w'=>CodePost w5 b bs (codeP tl rk).2 (codeP tl rk).1 e w'):=fun w5 h5 m5=>code_any w5 b rk h5 wT _ bs HT.out (HMT.out.step m5 (fun i hi e=>by have:i=b:=e;omega)) hbT tl (by omega)
    have hcr:(codeP tl rk).2.rest=rk.rest:=by
     unfold codeP
     split<;>rfl
    rw [<- hcr] at htr;generalize codeP tl rk=ck at *;obtain ⟨code,rc⟩:=ck;simp only at *;have HF3:=hid hF3
    have HC3:Hid _:=HC2
    clear hF3 HC2 hcr;obtain ⟨o5',c5',e5,f5⟩:=HF3.out.sl.view
    have hfl:(acc++blankP ⟨nm,sn⟩::(hs.drop (k+1)).map blankP).length=hs.length:=by simp;omega
    rw [hfl] at e5 f5
    cases e5
    obtain ⟨g,csg,rfl,_⟩:=f5 (by omega)
    have HFl:=hid hfl;clear f5 hfl;subst hal;go_wp2_with fail
    refine (HTk.out _ HR.out).mono ?_
    rintro e w5 ⟨rfl,h5,m5⟩
    have HF5:Hid _:=HF3.out.read HR.out m5
    have HS5:Hid (Sl w5 3 1 (.slice (some ⟨gS,0,none⟩) hs.length c6) hs.length (slotC hs)):=HSS.out.mods m5 (fun k hk e=>HSS.out.notBlk HR.out (by decide) (hk.trans (congrArg some e)))
    have HM5:Hid (Mods (Only b) w w5):=HM.out.trans m5
    have hsz5:=m5.size
    clear m5 HSS HM HR;go_wp2_with fail
    refine (HCd.out _ h5 HM5.out).mono ?_
    rintro e w6 ⟨vc,rfl,h6,s6,own6,m6,ok6⟩;obtain ⟨oc,cc,rfl,_⟩:=s6.view
    have hF6:=HF5.out.read h5 m6
    have HS6:Hid (Sl w6 3 1 (.slice (some ⟨gS,0,none⟩) hs.length c6) hs.length (slotC hs)):=HS5.out.mods m6 (fun k hk e=>HS5.out.notBlk h5 (by decide) (hk.trans (congrArg some e)))
    have HM6:Hid (Mods (Only b) w w6):=HM5.out.trans m6
    obtain ⟨csg,hbg,hsb⟩:=(show Sl w6 55 2 (.slice (some ⟨g,0,none⟩) hs.length c5) hs.length _ from HFl.out ▸ hF6.sl).blk
    obtain ⟨y3,hy3⟩:∃ y3,w6.cell? ⟨g,acc.length*2+1,none⟩=some y3:=by
     rw [hbg.cell,hsb.get _ (by omega)]
     have hz:acc.length<(((acc++blankP ⟨nm,sn⟩::(hs.drop (acc.length+1)).map blankP).map (·.name)).zip (vs++.slice none 0 0::List.replicate (hs.length - (acc.length+1)) (.slice none 0 0))).length:=by simp;omega
     rw [flat_get fnC 2 (fun _=>rfl) _ acc.length 1 hz (by omega)]
     exact ⟨_,rfl⟩
    have fy3:=hbg.frozen (acc.length*2+1)
    have hmd:∀ h':acc.length<(acc++blankP ⟨nm,sn⟩::(hs.drop (acc.length+1)).map blankP).length,(acc++blankP ⟨nm,sn⟩::(hs.drop (acc.length+1)).map blankP)[acc.length]=blankP ⟨nm,sn⟩:=fun h'=>get_mid _ _ _ h'
    have hput:=hF6.put acc.length (by simp) HFl.out.symm oc code.length cc code rfl s6 ok6 (fun k hk=>Nat.le_trans HM5.out.size (own6 k hk)) (fun u hu k hk e=>by
     obtain ⟨i,hi,rfl⟩:=List.getElem_of_mem hu
     have h1:=(HF5.out.cd i (by rw [<- HF5.out.len];exact hi) hi).lt k hk
     have h2:=own6 k e
     omega)
    rw [hmd,set_mid] at hput
    rw [show acc.length=vs.length by omega,set_mid] at hput
    rw [hvl] at hput;have HPut:=hid hput
    have HRd6:Hid (PRd (w6.setCell ⟨g,acc.length*2+1,none⟩ (.slice oc code.length cc)) b rc):=Blk.setOther h6 (fun e=>by simp only at e;subst e;unfold PRd Blk at h6;unfold Blk at hbg;rw [h6] at hbg;cases hbg) _
    have HSl6:Hid (Sl (w6.setCell ⟨g,acc.length*2+1,none⟩ (.slice oc code.length cc)) 3 1 (.slice (some ⟨gS,0,none⟩) hs.length c6) hs.length (slotC hs)):=HS6.out.mods ((Mods.refl (Only g) w6).setb _ _) (fun k hk e=>HS6.out.notBlk hbg (by decide) (hk.trans (congrArg some e)))
    have HMd6:Hid (Mods (Only b) w (w6.setCell ⟨g,acc.length*2+1,none⟩ (.slice oc code.length cc))):=HM6.out.set (.inr (hF6.own g rfl)) _
    clear hput hF6 HS6 HM6 h6 s6 own6 m6 ok6 hbg hsb hmd HF5 HS5 HM5 h5;go_wp2_with fail
    go_roundg (hs.length - (acc.length+1))
    case measure=>omega
    case rel=>exact ⟨acc.length+1,acc++[⟨nm,code⟩],vs++[.slice oc code.length cc],rc,by go_num,HPut.out,HRd6.out,HSl6.out,HMd6.out,HC3.out,by omega,rfl,by simp,by simp [hvl],htr⟩
   ·obtain rfl:k=hs.length:=by omega
    have HE:Hid (codesP hs ⟨rest4,false⟩ []=(acc,r)):=by rw [Hid,<- HCp.out,List.drop_length];rfl
    have hF2:=HF.out
    rw [List.drop_length,Nat.sub_self] at hF2
    simp only [List.map_nil,List.append_nil,List.replicate_zero] at hF2
    have HF2:Hid _:=hF2
    clear hF2;go_wp2_with fail;go_ret;rw [HFP.out,HE.out]
    exact ⟨_,vs,rfl,HR.out,HF2.out,HM.out⟩
set_option maxHeartbeats 400000 in
theorem refers_any (w:World) (b:Nat) (o:OpS) (hA:OpAt w b o) (d:Int) (s:Nat) (num high jump:Int) (label name:ByteArray) :
  Calls Tryz.prog 54 #[.agg #[.pointer (some ⟨b,0,none⟩),.int .u8 d,.int .u8 s,.int .i16 jump,.int .i32 num,.int .i32 high,.string label,.string name]] w fun e w'=>e=.returned (.int .i64 ((if s=1 then o.refers else 0:Nat):Int))/\Mods Nil' w w':=by
 have hA1:=(hA.mods ((Mods.refl _ _).alloc (.cells #[.pointer (some ⟨b,0,none⟩),.int .u8 d,.int .u8 s,.int .i16 jump,.int .i32 num,.int .i32 high,.string label,.string name] 84))).cells
 obtain ⟨_,_,_,z5⟩:=hA1;generalize o.refers=rf at *
 by_cases h1:s=1
 ·subst h1
  simp only [Int.cast_ofNat_Int] at *
  go_enter Tryz.func54,Tryz.ntmps54
  go_wp2_with fail;go_ret
  exact ⟨rfl,((Mods.refl _ _).alloc _)⟩
 ·have h2:¬ ((s:Int)=1):=by omega
  go_enter Tryz.func54,Tryz.ntmps54
  go_wp2_with fail;go_ret
  exact ⟨rfl,((Mods.refl _ _).alloc _)⟩
theorem ref_any (b:Nat) (q:PR) (n slot:Nat) (w:World) (h:PRd w b q) (hl:q.rest.length<=maxLen):Calls Tryz.prog 63 #[.pointer (some ⟨b,0,none⟩),.int .i64 n,.int .i64 slot] w fun e w'=>e=.returned (.string (T (refP n slot q).1))/\PRd w' b (refP n slot q).2/\Mods (Only b) w w':=by
 have H1:Hid (∀ w,PRd w b q->Calls Tryz.prog 59 #[.pointer (some ⟨b,0,none⟩)] w fun e w'=>e=.returned (.int .i64 ((oneP q).1:Nat))/\PRd w' b (oneP q).2/\Mods (Only b) w w'):=fun w h=>one_any b q w h hl
 have hl1:=Nat.le_trans (one_len q) hl
 have hrp:refP n slot q=nameP (wantP (decide ((twoP (wantP (decide ((oneP q).1=n)) (oneP q).2)).1=slot)) (twoP (wantP (decide ((oneP q).1=n)) (oneP q).2)).2):=rfl
 rw [hrp];clear hrp;generalize oneP q=r1 at *;obtain ⟨a,q1⟩:=r1;simp only at *
 have hl2:(wantP (decide (a=n)) q1).rest.length<=maxLen:=hl1
 have hd:((a:Int)==(n:Int))=decide (a=n):=by rw [Bool.eq_iff_iff];simp;omega
 obtain ⟨q2,hq2⟩:∃ q2,wantP (decide (a=n)) q1=q2:=⟨_,rfl⟩
 rw [hq2] at hl2 ⊢;have HQ2:=hid hq2;clear hq2
 have H2:Hid (∀ w,PRd w b q2->Calls Tryz.prog 62 #[.pointer (some ⟨b,0,none⟩)] w fun e w'=>e=.returned (.int .i64 ((twoP q2).1:Nat))/\PRd w' b (twoP q2).2/\Mods (Only b) w w'):=fun w h=>two_any b q2 w h hl2
 have hl3:=Nat.le_trans (two_len q2) hl2
 generalize twoP q2=r2 at *;obtain ⟨c,q3⟩:=r2;simp only at *
 have hl4:(wantP (decide (c=slot)) q3).rest.length<=maxLen:=hl3
 have hd2:((c:Int)==(slot:Int))=decide (c=slot):=by rw [Bool.eq_iff_iff];simp;omega
 obtain ⟨q4,hq4⟩:∃ q4,wantP (decide (c=slot)) q3=q4:=⟨_,rfl⟩
 rw [hq4] at hl4 ⊢;have HQ4:=hid hq4;clear hq4
 have H4:Hid (∀ w,PRd w b q4->Calls Tryz.prog 124 #[.pointer (some ⟨b,0,none⟩)] w fun e w'=>e=.returned (.string (T (nameP q4).1))/\PRd w' b (nameP q4).2/\Mods (Only b) w w'):=fun w h=>pname_any b q4 w h hl4
 generalize nameP q4=r4 at *;obtain ⟨nm,q5⟩:=r4;simp only at *
 go_enter Tryz.func63,Tryz.ntmps63
 go_wp2_with fail
 refine (H1.out _ h).mono ?_
 rintro e w1 ⟨rfl,h1,m1⟩;go_wp2_with fail
 refine (want_any b _ _ _ h1).mono ?_
 rintro e w2 ⟨rfl,h2,m2⟩;rw [HQ2.out] at h2;go_wp2_with fail
 refine (H2.out _ h2).mono ?_
 rintro e w3 ⟨rfl,h3,m3⟩;go_wp2_with fail
 refine (want_any b _ _ _ h3).mono ?_
 rintro e w4 ⟨rfl,h4,m4⟩;rw [HQ4.out] at h4;go_wp2_with fail
 refine (H4.out _ h4).mono ?_
 rintro e w5 ⟨rfl,h5,m5⟩;go_wp2_with fail;go_ret
 exact ⟨rfl,h5,(((m1.trans m2).trans m3).trans m4).trans m5⟩
theorem pmap_at {w:World} {ms:List PMap} {v:Value} {n:Nat} (h:Sl w 47 4 v n (ms.flatMap PMap.cells)) (hn:n=ms.length) {o:Option Addr} {c:Nat} (hv:v=.slice o n c) (k:Nat) (hk:k<ms.length) :
  ∃ g,o=some ⟨g,0,none⟩/\w.cell? ⟨g,k*4,none⟩=some (.string (T ms[k].name))/\w.cell? ⟨g,k*4+1,none⟩=some (.int .u8 ms[k].key)/\w.cell? ⟨g,k*4+2,none⟩=some (.int .u8 ms[k].value)/\w.cell? ⟨g,k*4+3,none⟩=some (.int .u8 ms[k].entries):=by
 obtain ⟨o',c',hv',h2⟩:=h.view;rw [hv] at hv'
 cases hv'
 obtain ⟨g,cs,rfl,hb,ht,_⟩:=h2 (by omega)
 have key:∀ j,j<4->w.cell? ⟨g,k*4+j,none⟩=(PMap.cells ms[k])[j]?:=fun j hj=>by
  rw [hb.cell (k*4+j),<- Array.getElem?_toList,<- List.getElem?_take_of_lt (show k*4+j<n*4 by omega),ht]
  exact flat_get PMap.cells 4 (fun _=>rfl) ms k j hk hj
 exact ⟨g,rfl,key 0 (by omega),key 1 (by omega),key 2 (by omega),key 3 (by omega)⟩
set_option maxHeartbeats 400000 in
theorem hasMap_any (w:World) (ms:List PMap) (hm:ms.length<=1000) (vM:Value) (hM:Sl w 47 4 vM ms.length (ms.flatMap PMap.cells)) (nm:List UInt8) :
  Calls Tryz.prog 64 #[vM,.string (T nm)] w fun e w'=>e=.returned (.bool (hasMapP ms nm))/\Mods Nil' w w':=by
 obtain ⟨oM,cM,rfl,_⟩:=hM.view;have HM:=hid hM;clear hM
 go_enter Tryz.func64,Tryz.ntmps64
 go_wp2_with fail
 go_loopw [9] (fun i wl=>∃ k:Nat,k<=ms.length/\i=.int .i64 k/\hasMapP (ms.drop k) nm=hasMapP ms nm/\Mods Nil' w wl) (fun i _=>ms.length - (intOf i).toNat)
 case atStart=>exact ⟨0,Nat.zero_le _,rfl,rfl,Mods.refl _ _⟩
 case round =>
  obtain ⟨k,hk,rfl,hn,hMd⟩:=hrel
  have HN:Hid _:=hn
  have HMd:=hid hMd;clear hn hMd
  by_cases hlt:k<ms.length
  ·obtain ⟨g,rfl,q0,q1,q2,q3⟩:=pmap_at (HM.out.mods HMd.out (fun _ _=>id)) rfl rfl k hlt
   have HD:Hid (hasMapP ms nm=((ms[k].name==nm)||hasMapP (ms.drop (k+1)) nm)):=by
    rw [Hid,<- HN.out,List.drop_eq_getElem_cons hlt];rfl
   generalize ms[k].name=mn at *;generalize ms[k].key=mk at *;generalize ms[k].value=mv at *;generalize ms[k].entries=me at *
   by_cases he:mn=nm
   ·subst he
    have HF:Hid (hasMapP ms mn=true):=by rw [Hid,HD.out];simp
    go_wp2_with fail;go_ret
    exact ⟨by rw [HF.out];rfl,HMd.out.alloc _⟩
   ·have HF:Hid (hasMapP (ms.drop (k+1)) nm=hasMapP ms nm):=by rw [Hid,HD.out,beq_false_of_ne he];simp
    have hne:((T mn).toList==(T nm).toList)=false:=str_ne fun e=>he (congrArg BL e)
    go_wp2_with fail
    go_roundw
    case rel=>exact ⟨k+1,by omega,by go_num,HF.out,HMd.out.alloc _⟩
    case measure=>simp [intOf];omega
  ·obtain rfl:k=ms.length:=by omega
   have HF:Hid (hasMapP ms nm=false):=by rw [Hid,<- HN.out,List.drop_length];rfl
   go_wp2_with fail;go_ret
   exact ⟨by rw [HF.out];rfl,HMd.out⟩
theorem wp_region_qall {P:Program} {id:Nat} {Q:Exit->Act->World->Prop} {a:Act} {w:World} {l:List Oper} (hm:P.follows .mixedOrders=true) (hB:Region.lexB .any l.toArray=true)
  (h:∀ W,W=w.drew->wpQuiet P l.toArray (fun w'=>w'=W) (fun a'=>Q .normal a' W) l a):(Code.region id l.toArray true).wp P Q a w :=
 wp_region_still_lit hm hB (still_of_quiet _ _ (h _ rfl))
structure WK where
 maps:List (List UInt8):=[]
 funcs:List (List UInt8):=[]
 labels:List (List UInt8):=[]
 slots:Nat:=0
def hasLabP (f:OFn) (x:List UInt8):Bool:=(labOf f.labs x).isSome&&decide ((labOf f.labs x).getD 0<f.slots)
def mapFaultP (k:WK) (x:PLn):Nat:=if sizesFitP (x.ns.getD 0 num0) (x.ns.getD 1 num0) (x.ns.getD 2 num0)=false then 3 else if 0<k.maps.count x.name then 4 else if 8<k.maps.length+1 then 1 else 0
def mapStepP (k:WK) (x:PLn):WK:={ k with maps:=x.name::k.maps }
def funcFaultP (o:OL) (k:WK) (x:PLn):Nat:=if 0<k.funcs.count x.name then 4 else if 16<k.funcs.length+1 then 1 else if (o.fs.getD k.funcs.length {}).ends=false then 6 else 0
def funcStepP (k:WK) (x:PLn):WK:={ k with funcs:=x.name::k.funcs,labels:=[] }
def labFaultP (k:WK) (x:PLn):Nat:=if 0<k.labels.count x.name then 4 else 0
def labStepP (k:WK) (x:PLn):WK:={ k with labels:=x.name::k.labels }
def codeFaultP (o:OL) (k:WK) (x:PLn):Nat :=
 if x.x.fits=false then 3
 else if (x.x.o.jumps&&!hasLabP (o.fs.getD (k.funcs.length - 1) {}) x.x.r.label)=true then 5
 else if (decide ((if x.x.r.s=1 then x.x.o.refers else 0)=2)&&decide (o.maps.count x.x.r.name=0))=true then 5
 else if 200<k.slots+x.x.o.slots then 1 else 0
def codeStepP (k:WK) (x:PLn):WK:={ k with slots:=k.slots+x.x.o.slots }
def faultP (o:OL) (k:WK) (x:PLn):Nat:=if x.kind=1 then mapFaultP k x else if x.kind=2 then funcFaultP o k x else if x.kind=3 then labFaultP k x else if x.kind=4 then codeFaultP o k x else 0
def stepP (k:WK) (x:PLn):WK:=if x.kind=1 then mapStepP k x else if x.kind=2 then funcStepP k x else if x.kind=3 then labStepP k x else if x.kind=4 then codeStepP k x else k
structure WkAt (w0:World) (b bm:Nat) (vF:Value) (bM bF:Nat) (vL:Value) (k:WK) (w:World):Prop where
 blk:Blk w b #[.map (some bm),vF,.map (some bM),.map (some bF),vL,.int .i64 ((k.funcs.length:Int) - 1),.int .i64 k.slots] 110
 ms:CntAt w bM k.maps
 fs:CntAt w bF k.funcs
 vl:∃ q,vL=.map q
 ls:k.funcs≠[]->∃ bL,vL=.map (some bL)/\CntAt w bL k.labels/\bL≠bM/\bL≠bF/\w0.heap.size<=bL
 ne:bM≠bF
 lo:w0.heap.size<=b/\w0.heap.size<=bM/\w0.heap.size<=bF
 md:Mods Nil' w0 w
section
variable {w0 w w' : World} {b bm bM bF : Nat} {vF vL : Value} {k : WK}
theorem WkAt.quiet (h:WkAt w0 b bm vF bM bF vL k w) (m:Mods Nil' w w'):WkAt w0 b bm vF bM bF vL k w' :=
 ⟨h.blk.mods m id,h.ms.mods m id,h.fs.mods m id,h.vl,fun hn=>by
  obtain ⟨bL,h1,h2,h3⟩:=h.ls hn
  exact ⟨bL,h1,h2.mods m id,h3⟩,h.ne,h.lo,h.md.trans m⟩
theorem WkAt.map {x:PLn} (h:WkAt w0 b bm vF bM bF vL k w) (hc:CntAt w' bM (x.name::k.maps)) (m:Mods (fun i=>i=bM) w w'):WkAt w0 b bm vF bM bF vL (mapStepP k x) w' :=
 ⟨h.blk.mods m (fun e=>h.ms.notBlk h.blk e),hc,h.fs.mods m (fun e=>h.ne e.symm),h.vl,fun hn=>by
  obtain ⟨bL,h1,h2,h3,h4⟩:=h.ls hn
  exact ⟨bL,h1,h2.mods m (fun e=>h3 e),h3,h4⟩,h.ne,h.lo,h.md.step m (fun i hi e=>by have:=h.lo.2.1;have e':i=bM:=e;omega)⟩
theorem WkAt.lab {x:PLn} {bL:Nat} (h:WkAt w0 b bm vF bM bF (.map (some bL)) k w) (hn:k.funcs≠[]) (hc:CntAt w' bL (x.name::k.labels)) (m:Mods (fun i=>i=bL) w w'):WkAt w0 b bm vF bM bF (.map (some bL)) (labStepP k x) w':=by
 obtain ⟨bL',h1,h2,h3,h4,h5⟩:=h.ls hn
 injection h1 with h1
 injection h1 with h1
 subst h1
 exact ⟨h.blk.mods m (fun e=>h2.notBlk h.blk e),h.ms.mods m (fun e=>h3 e.symm),h.fs.mods m (fun e=>h4 e.symm),h.vl,fun _=>⟨_,rfl,hc,h3,h4,h5⟩,h.ne,h.lo,h.md.step m (fun i hi e=>by have e':i=bL:=e;omega)⟩
theorem WkAt.code {x:PLn} {n:Int} (h:WkAt w0 b bm vF bM bF vL k w) (hn:n=(k.slots:Int)+x.x.o.slots):WkAt w0 b bm vF bM bF vL (codeStepP k x) (w.setCell ⟨b,6,none⟩ (.int .i64 n)):=by
 have m:Mods (Only b) w (w.setCell ⟨b,6,none⟩ (.int .i64 n)):=(Mods.refl _ _).setb _ _
 refine ⟨?_,h.ms.mods m (fun e=>h.ms.notBlk h.blk (show _=b from e).symm),h.fs.mods m (fun e=>h.fs.notBlk h.blk (show _=b from e).symm),h.vl,fun hn=>?_,h.ne,h.lo,h.md.step m (fun i hi e=>by have e':i=b:=e;have:=h.lo.1;omega)⟩
 ·subst hn;exact h.blk.set 6 _
 ·obtain ⟨bL,h1,h2,h3⟩:=h.ls hn
  exact ⟨bL,h1,h2.mods m (fun e=>h2.notBlk h.blk (show _=b from e).symm),h3⟩
theorem WkAt.func {x:PLn} {n:Int} (h:WkAt w0 b bm vF bM bF vL k w) (hc:CntAt w' bF (x.name::k.funcs)) (m:Mods (fun i=>i=bF) w w') (hn:n=k.funcs.length):WkAt w0 b bm vF bM bF (.map (some w'.heap.size)) (funcStepP k x) (((w'.alloc (.map #[] 0)).setCell ⟨b,4,none⟩ (.map (some w'.heap.size))).setCell ⟨b,5,none⟩ (.int .i64 n)):=by
 have hb':=h.blk.mods m (fun e=>h.fs.notBlk h.blk e)
 have hM':CntAt w' bM k.maps:=h.ms.mods m (fun e=>h.ne e)
 have m1:Mods Nil' w' (w'.alloc (.map #[] 0)):=(Mods.refl _ _).alloc _
 have m2:Mods (Only b) (w'.alloc (.map #[] 0)) (((w'.alloc (.map #[] 0)).setCell ⟨b,4,none⟩ (.map (some w'.heap.size))).setCell ⟨b,5,none⟩ (.int .i64 n)):=((Mods.refl _ _).setb _ _).setb _ _
 have hb1:=hb'.mods m1 id
 have hs:w.heap.size<=w'.heap.size:=m.size
 have h0:=h.md.size
 have hMl:=hM'.lt
 have hFl:=hc.lt
 refine ⟨?_,(hM'.mods m1 id).mods m2 (fun e=>(hM'.mods m1 id).notBlk hb1 (show _=b from e).symm),(hc.mods m1 id).mods m2 (fun e=>(hc.mods m1 id).notBlk hb1 (show _=b from e).symm),⟨_,rfl⟩,fun _=>⟨_,rfl,?_,by omega,by omega,by omega⟩,h.ne,h.lo,((h.md.step m (fun i hi e=>by have e':i=bF:=e;have:=h.lo.2.2;omega)).trans m1).step m2 (fun i hi e=>by have e':i=b:=e;have:=h.lo.1;omega)⟩
 ·have:=(hb1.set 4 (.map (some w'.heap.size))).set 5 (.int .i64 n)
  have e:((funcStepP k x).funcs.length:Int) - 1=n:=by rw [hn];simp [funcStepP]
  rw [e];exact this
 ·have hl:=CntAt.new w'
  exact hl.mods m2 (fun e=>hl.notBlk hb1 (show _=b from e).symm)
end
set_option maxRecDepth 100000 in
set_option maxHeartbeats 4000000 in
theorem mapF_any (w0 w:World) (b bm bM bF:Nat) (vF vL:Value) (k:WK) (bs:List Nat) (x:PLn) (h:WkAt w0 b bm vF bM bF vL k w) (hv:∃ o n c,vF=.slice o n c) (hx:x.kind=1) (hl:k.maps.length<=1000001) (hnd:k.maps.Nodup) :
  Calls Tryz.prog 108 #[.pointer (some ⟨b,0,none⟩),.agg (x.cells bs)] w fun e w'=>e=.returned (.int .i64 (mapFaultP k x))/\WkAt w0 b bm vF bM bF vL (mapStepP k x) w':=by
 have HFT:Hid (∀ w',Calls Tryz.prog 213 #[.agg (x.cells bs)] w' fun e w''=>e=.returned (.bool (sizesFitP (x.ns.getD 0 num0) (x.ns.getD 1 num0) (x.ns.getD 2 num0)))/\Mods Nil' w' w''):=fun w'=>by
  rw [PLn.cells,if_neg (by omega)];exact fit_any _ _ _ _ _ w'
 have HF:Hid (mapFaultP k x=if sizesFitP (x.ns.getD 0 num0) (x.ns.getD 1 num0) (x.ns.getD 2 num0)=false then 3 else if 0<k.maps.count x.name then 4 else if 8<k.maps.length+1 then 1 else 0):=rfl
 have HCS:Hid ((x.cells bs).size=20):=cells_size bs x
 have HC1:Hid ((x.cells bs).all (·.oneCell')=true):=cells_one bs x
 have HCN:Hid ((x.cells bs)[1]?=some (.string (T x.name))):=cells_name bs x (by omega)
 have HCT:Hid (∀ W,CntAt W bM (x.name::k.maps)->0<k.maps.count x.name\/(Builtin.len_ #[61] 3 #[.map (some bM)]).run Tryz.prog W=.ok (.int .i64 ((k.maps.length+1:Nat):Int)) W):=fun W hW=>by
  by_cases e:0<k.maps.count x.name
  ·exact .inl e
  ·exact .inr (hW.size (List.nodup_cons.2 ⟨fun hm=>e (List.count_pos_iff.2 hm),hnd⟩))
 have HLK:Hid (∀ W,CntAt W bM (x.name::k.maps)->(Instr.lookup 61 (.map (some bM)) (.string (T x.name)) false).run Tryz.prog W=.ok (.int .i64 ((k.maps.count x.name+1:Nat):Int)) W):=fun W hW=>by
  have:=hW.look x.name
  rwa [List.count_cons_self] at this
 have hcn:k.maps.count x.name<=1000001:=Nat.le_trans List.count_le_length hl
 have HWK:=hid h;obtain ⟨vo,vn,vc,rfl⟩:=hv;obtain ⟨vq,rfl⟩:=h.vl;clear h hx hnd;generalize mapFaultP k x=r at *;generalize sizesFitP (x.ns.getD 0 num0) (x.ns.getD 1 num0) (x.ns.getD 2 num0)=sf at *;generalize x.cells bs=cs at *
 have HMB:Hid (Mods Nil' w (w.alloc (.cells cs 102))):=(Mods.refl _ _).alloc _
 have HBB:Hid (Blk (w.alloc (.cells cs 102)) w.heap.size cs 102):=Blk.new w _ _
 have HW1:Hid (WkAt w0 b bm (.slice vo vn vc) bM bF (.map vq) k (w.alloc (.cells cs 102))):=HWK.out.quiet HMB.out
 go_enter Tryz.func108,Tryz.ntmps108
 go_upto_region 1 with fail;generalize w.alloc (.cells cs 102)=w1 at *;generalize w.heap.size=B at *
 have HMd:Hid (Mods Nil' w1 w1.drew):=(Mods.refl _ _).drew
 refine wp_region_qtail 8 (by kernel_rfl) (by kernel_rfl) ?_
 intro W hW;rw [<- hW] at HMd;clear hW
 have HW2:Hid (WkAt w0 b bm (.slice vo vn vc) bM bF (.map vq) k W):=HW1.out.quiet HMd.out
 have HB2:Hid (Blk W B cs 102):=HBB.out.mods HMd.out id
 have c1:W.cell? ⟨B,1,none⟩=some (.string (T x.name)):=(HB2.out.cell 1).trans HCN.out
 have b2:W.cell? ⟨b,2,none⟩=some (.map (some bM)):=HW2.out.blk.cell 2
 have hlk:=HW2.out.ms.look x.name
 obtain ⟨w5,hup,hc5,m5⟩:=HW2.out.ms.put x.name
 have HW5:Hid (WkAt w0 b bm (.slice vo vn vc) bM bF (.map vq) (mapStepP k x) w5):=HW2.out.map hc5 m5
 have HB5:Hid (Blk w5 B cs 102):=HB2.out.mods m5 (fun e=>HW2.out.ms.notBlk HB2.out e)
 have HC5:=hid hc5;clear hc5 m5 HWK HW1 HBB HMB;generalize k.maps.count x.name=cn at *
 simp only [List.take_succ_cons,List.take_zero,List.drop_succ_cons,List.drop_zero]
 repeat (go_big_quiet_step (fail))
 refine wpQuiet_nil ?_
 clear hlk c1 b2 HW2 HB2 HMd
 go_wp2_with (refine wpList_load_row rfl 102 (.tmp 3) rfl B rfl 102 cs (0,0) _ HB5.out Tryz.underlying102 rfl (by rw [HCS.out];kernel_rfl) ?_)
 refine (HFT.out _).mono ?_
 rintro e w6 ⟨rfl,m6⟩
 have HW6:Hid (WkAt w0 b bm (.slice vo vn vc) bM bF (.map vq) (mapStepP k x) w6):=HW5.out.quiet m6
 have HB6:Hid (Blk w6 B cs 102):=HB5.out.mods m6 id
 clear m6 HW5 HB5 HC5 hup
 cases sf with
 | false =>
  have HR:Hid (r=3):=by rw [Hid,HF.out,if_pos rfl]
  go_wp2_with fail;go_ret
  exact ⟨ret_i64 (by rw [HR.out];rfl),HW6.out⟩
 | true =>
  go_upto_region 4 with fail
  have HMd:Hid (Mods Nil' w6 w6.drew):=(Mods.refl _ _).drew
  refine wp_region_qall (by kernel_rfl) (by kernel_rfl) ?_
  intro W7 hW7;rw [<- hW7] at HMd;clear hW7
  have HW7:Hid (WkAt w0 b bm (.slice vo vn vc) bM bF (.map vq) (mapStepP k x) W7):=HW6.out.quiet HMd.out
  have c1:W7.cell? ⟨B,1,none⟩=some (.string (T x.name)):=((HB6.out.mods HMd.out id).cell 1).trans HCN.out
  have b2:W7.cell? ⟨b,2,none⟩=some (.map (some bM)):=HW7.out.blk.cell 2
  have hlk:=HLK.out W7 HW7.out.ms
  have HLE:=HCT.out W7 HW7.out.ms
  clear HMd HW6 HB6
  by_cases h0:0<cn
  ·have HR:Hid (r=4):=by rw [Hid,HF.out,if_neg (by decide),if_pos h0]
   have hq:((1:Int)<((cn+1:Nat):Int)):=by omega
   repeat (go_big_quiet_step (fail))
   refine wpQuiet_nil ?_
   go_wp2_with fail;go_ret
   exact ⟨ret_i64 (by rw [HR.out];rfl),HW7.out⟩
  ·have hc0:cn=0:=by omega
   subst hc0
   have hle:=HLE.resolve_left h0
   have HR:Hid (r=if 8<k.maps.length+1 then 1 else 0):=by rw [Hid,HF.out,if_neg (by decide),if_neg h0]
   clear HLE;generalize k.maps.length=ml at *
   by_cases h8:8<ml+1
   ·have HR2:Hid (r=1):=by rw [Hid,HR.out,if_pos h8]
    have hq:(8:Int)<((ml+1:Nat):Int):=by omega
    repeat (go_big_quiet_step (fail))
    refine wpQuiet_nil ?_
    go_wp2_with fail;go_ret
    exact ⟨ret_i64 (by rw [HR2.out];rfl),HW7.out⟩
   ·have HR2:Hid (r=0):=by rw [Hid,HR.out,if_neg h8]
    have hq:¬ (8:Int)<((ml+1:Nat):Int):=by omega
    repeat (go_big_quiet_step (fail))
    refine wpQuiet_nil ?_
    go_wp2_with fail;go_ret
    exact ⟨ret_i64 (by rw [HR2.out];rfl),HW7.out⟩
end Go.Proofs.YtnhcaifopaeohaaGreatDoor
