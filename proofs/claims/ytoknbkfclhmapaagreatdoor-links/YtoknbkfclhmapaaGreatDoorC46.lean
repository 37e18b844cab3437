import Derived.Test.YtoknbkfclhmapaaGreatDoorC44
namespace Go.Proofs.YtoknbkfclhmapaaGreatDoor
open Go.RowKit
set_option maxRecDepth 100000 in
set_option maxHeartbeats 2000000 in
theorem bytes_any (img:Bool) (w:World) (pb:Nat) (vM vF:Value) (ms:List RMap) (fx:List (RFn × HFn)) (os:List FOut) (hI:PRo w pb vM vF ms fx os)
  (hl:os.length=fx.length) (hf:fx.length<=16) (hm:ms.length<=8) (hms:∀ m∈ms,MOk m) (hfo:∀ i (h:i<fx.length) (h':i<os.length),TOk fx[i].1 os[i]) :
  Calls Tryz.prog 7 #[.pointer (some ⟨pb,0,none⟩),.bool img] w fun e w'=>e=.returned (.string (T (bytesU img ms (fx.map (·.1)) os)))/\Mods Nil' w w':=by
 obtain ⟨oM,cM,hvM,_⟩:=hI.maps.view;obtain ⟨oF,cF,hvF,_⟩:=hI.rows.view;subst hvM hvF
 have p0:w.cell? ⟨pb,0,none⟩=some (.slice oM ms.length cM):=hI.prog.cell 0
 have HI:=hid hI;have HMS:=hid hms;have HFO:=hid hfo;have HOL:=hid hl;clear hI hms hfo hl
 have hc1:=some_bytes w [(ms.length:Int)] (fun x hx=>by simp at hx;subst hx;omega)
 simp only [List.map_cons,List.map_nil,List.length_cons,List.length_nil] at hc1
 rw [chrs_b8] at hc1
 obtain ⟨n1,hn1,hn1l⟩:=open_text (l:=b8 [(ms.length:Int)]) (k:=1) (by simp [b8])
 rw [<- hn1.out] at hc1
 go_enter Tryz.func7,Tryz.ntmps7
 go_upto_if 17 with fail
 go_cut [5] (fun s5 wx=>s5=.string (T (if img then [2] else [1]))/\wx=w)
 case first =>
  cases img
  ·go_wp2_with fail;go_meet
   exact ⟨rfl,rfl⟩
  ·go_wp2_with fail;go_meet
   exact ⟨rfl,rfl⟩
 case rest =>
 obtain ⟨rfl,rfl⟩:=hcut
 obtain ⟨hd,hhd⟩:∃ hd:List UInt8,hd=[83,80,79,76]++(if img then [2] else [1])++b8 [(ms.length:Int)]:=⟨_,rfl⟩
 have hhdl:hd.length<=6:=by rw [hhd];cases img<;>simp [b8]
 have HHD:=hid hhd;clear hhd
 obtain ⟨s5,hs5,hs5l⟩:=open_text (l:=(if img then [2] else [1]:List UInt8)) (k:=1) (by cases img<;>simp)
 have HHT:Hid (T [83,80,79,76]++s5++n1=T hd):=by rw [Hid,HHD.out,<- T_app,<- T_app,hs5.out,hn1.out]
 rw [<- hs5.out];go_wp2_with fail;clear hc1
 go_loopg [6,7] ms.length (fun g ov iv wx=>∃ (k:Nat) (l:List UInt8),ov=.string (T l)/\iv=.int .i64 k/\l++mapsU (ms.drop k)=hd++mapsU ms/\l.length<=6+k*310/\Mods Nil' wc wx/\k<=ms.length/\g=ms.length - k)
 case atStart=>exact ⟨0,hd,congrArg Value.string HHT.out,rfl,rfl,by omega,(Mods.refl _ _).alloc _,Nat.zero_le _,rfl⟩
 case round =>
  obtain ⟨k,l,rfl,rfl,HR0,hll,hmd,hk,rfl⟩:=hrel;have HR:=hid HR0;clear HR0 p0
  have hI:=HI.out.quiet hmd
  have p0:wr.cell? ⟨pb,0,none⟩=some (.slice oM ms.length cM):=hI.prog.cell 0
  have p1:wr.cell? ⟨pb,1,none⟩=some (.slice oF fx.length cF):=hI.prog.cell 1
  by_cases hkl:k<ms.length
  ·obtain ⟨gM,rfl,c0,c1,c2,c3⟩:=hI.atM rfl k hkl
   have hok:=HMS.out ms[k] (List.getElem_mem hkl)
   have HD:Hid (l++mapU ms[k]++mapsU (ms.drop (k+1))=hd++mapsU ms):=by
    rw [Hid,<- HR.out,mapsU_drop ms k hkl,List.append_assoc]
   generalize ms[k]=m at *;obtain ⟨nm,ky,vl,en⟩:=m;obtain ⟨n0,k0,k1,v0,v1,n2,n3⟩:=hok;simp only at *
   obtain ⟨so,hso⟩:∃ o,o=T l:=⟨_,rfl⟩
   have hsol:so.size<=6+k*310:=by rw [hso,T_size];exact hll
   have HSO:=hid hso;rw [<- hso];have HLL:=hid hll;clear hso hll
   obtain ⟨sn,hsn,hsnl⟩:=open_text (l:=namedU nm) (k:=301) (by rw [namedU_len];omega)
   obtain ⟨s3,hs3,hs3l⟩:=open_text (l:=b8 [ky,vl,en]) (k:=3) (by simp [b8])
   have HNA:Hid (∀ w',Calls Tryz.prog 14 #[.string nm] w' fun e w2=>e=.returned (.string sn)/\Mods Nil' w' w2):=fun w'=>by rw [hsn.out];exact namedU_any nm (by omega) w'
   go_upto_region 9 with fail
   have hbm:=Blk.new wr #[.string nm,.int .i64 ky,.int .i64 vl,.int .i64 en] 48
   have hmd2:Mods Nil' wc (wr.alloc (.cells #[.string nm,.int .i64 ky,.int .i64 vl,.int .i64 en] 48)):=hmd.alloc _
   generalize wr.alloc (Obj.cells #[.string nm,.int .i64 ky,.int .i64 vl,.int .i64 en] 48)=W at *
   have HBM:Hid (∀ w',Mods Nil' W w'->Blk w' wr.heap.size #[.string nm,.int .i64 ky,.int .i64 vl,.int .i64 en] 48):=fun w' m=>hbm.mods m id
   refine wp_region_inv [.inl (.string so),.inl (.pointer (some ⟨wr.heap.size,0,none⟩)),.inl (.string nm),.inl (.string sn),.inl (.string (so++sn)),.inl (.pointer (some ⟨wr.heap.size,1,none⟩)),.inl (.int .i64 ky),.inl (.int .u8 ky),.inl (.pointer (some ⟨wr.heap.size,2,none⟩)),.inl (.int .i64 vl),.inl (.int .u8 vl),.inl (.pointer (some ⟨wr.heap.size,3,none⟩)),.inl (.int .i64 en),.inl (.int .u8 en),.inr (fun u w'=>∃ g,u=.slice (some ⟨g,0,none⟩) 3 3/\Blk w' g #[.int .u8 ky,.int .u8 vl,.int .u8 en] 5),.inl (.string s3),.inl (.string (so++sn++s3)),.inl (.string (so++sn++s3))] (fun w'=>Mods Nil' W w') (Mods Nil') (by kernel_rfl) (by kernel_rfl) (by kernel_rfl) ((Mods.refl _ _).drew) ?_ (fun _ _ h1 h2=>h1.trans h2) (fun _=>Mods.refl _ _) ?_
   ·exact stable_of (show StableL _ _ from ⟨fun u w1 w2 m ⟨g,h1,h2⟩=>⟨g,h1,h2.mods m id⟩,trivial⟩)
   refine inv_det rfl (fun w' hC _ K hK=>?_) ?_
   ·go_big_op
    exact hK _ _ _ rfl (Mods.refl _ _) rfl
   simp only [Act.put,List.setIfInBounds_toArray,List.set_cons_succ,List.set_cons_zero]
   refine inv_det rfl (fun w' hC _ K hK=>?_) ?_
   ·go_big_op
    exact hK _ _ _ rfl (Mods.refl _ _) rfl
   simp only [Act.put,List.setIfInBounds_toArray,List.set_cons_succ,List.set_cons_zero]
   refine inv_det rfl (fun w' hC _ K hK=>?_) ?_
   ·have e1:w'.cell? ⟨wr.heap.size,0,none⟩=some (.string nm):=(HBM.out w' hC).cell 0
    go_big_op
    exact hK _ _ _ rfl (Mods.refl _ _) rfl
   simp only [Act.put,List.setIfInBounds_toArray,List.set_cons_succ,List.set_cons_zero]
   refine inv_det rfl (fun w' hC _ K hK=>?_) ?_
   ·go_big_op
    refine (HNA.out _).mono ?_
    rintro e w2 ⟨rfl,m2⟩;exact hK _ _ _ rfl m2 rfl
   simp only [Act.put,List.setIfInBounds_toArray,List.set_cons_succ,List.set_cons_zero]
   refine inv_det rfl (fun w' hC _ K hK=>?_) ?_
   ·go_big_op
    exact hK _ _ _ rfl (Mods.refl _ _) rfl
   simp only [Act.put,List.setIfInBounds_toArray,List.set_cons_succ,List.set_cons_zero]
   refine inv_det rfl (fun w' hC _ K hK=>?_) ?_
   ·go_big_op
    exact hK _ _ _ rfl (Mods.refl _ _) rfl
   simp only [Act.put,List.setIfInBounds_toArray,List.set_cons_succ,List.set_cons_zero]
   refine inv_det rfl (fun w' hC _ K hK=>?_) ?_
   ·have e1:w'.cell? ⟨wr.heap.size,1,none⟩=some (.int .i64 ky):=(HBM.out w' hC).cell 1
    go_big_op
    exact hK _ _ _ rfl (Mods.refl _ _) rfl
   simp only [Act.put,List.setIfInBounds_toArray,List.set_cons_succ,List.set_cons_zero]
   refine inv_det rfl (fun w' hC _ K hK=>?_) ?_
   ·go_big_op
    exact hK _ _ _ rfl (Mods.refl _ _) rfl
   simp only [Act.put,List.setIfInBounds_toArray,List.set_cons_succ,List.set_cons_zero]
   refine inv_det rfl (fun w' hC _ K hK=>?_) ?_
   ·go_big_op
    exact hK _ _ _ rfl (Mods.refl _ _) rfl
   simp only [Act.put,List.setIfInBounds_toArray,List.set_cons_succ,List.set_cons_zero]
   refine inv_det rfl (fun w' hC _ K hK=>?_) ?_
   ·have e1:w'.cell? ⟨wr.heap.size,2,none⟩=some (.int .i64 vl):=(HBM.out w' hC).cell 2
    go_big_op
    exact hK _ _ _ rfl (Mods.refl _ _) rfl
   simp only [Act.put,List.setIfInBounds_toArray,List.set_cons_succ,List.set_cons_zero]
   refine inv_det rfl (fun w' hC _ K hK=>?_) ?_
   ·go_big_op
    exact hK _ _ _ rfl (Mods.refl _ _) rfl
   simp only [Act.put,List.setIfInBounds_toArray,List.set_cons_succ,List.set_cons_zero]
   refine inv_det rfl (fun w' hC _ K hK=>?_) ?_
   ·go_big_op
    exact hK _ _ _ rfl (Mods.refl _ _) rfl
   simp only [Act.put,List.setIfInBounds_toArray,List.set_cons_succ,List.set_cons_zero]
   refine inv_det rfl (fun w' hC _ K hK=>?_) ?_
   ·have e1:w'.cell? ⟨wr.heap.size,3,none⟩=some (.int .i64 en):=(HBM.out w' hC).cell 3
    go_big_op
    exact hK _ _ _ rfl (Mods.refl _ _) rfl
   simp only [Act.put,List.setIfInBounds_toArray,List.set_cons_succ,List.set_cons_zero]
   refine inv_det rfl (fun w' hC _ K hK=>?_) ?_
   ·go_big_op
    exact hK _ _ _ rfl (Mods.refl _ _) rfl
   simp only [Act.put,List.setIfInBounds_toArray,List.set_cons_succ,List.set_cons_zero]
   refine inv_any rfl (fun w' hC _ K hK=>?_) (fun x=>?_)
   ·go_big_op
    exact hK _ _ _ rfl ((Mods.refl _ _).alloc _) ⟨_,rfl,Blk.new _ _ _⟩
   simp only [Act.put,List.setIfInBounds_toArray,List.set_cons_succ,List.set_cons_zero]
   refine inv_det rfl (fun w' hC hk K hK=>?_) ?_
   ·obtain ⟨g,rfl,hg⟩:∃ g,x=.slice (some ⟨g,0,none⟩) 3 3/\Blk w' g #[.int .u8 ky,.int .u8 vl,.int .u8 en] 5:=known_mem hk 14 (by decide)
    have hcv:=some_bytes' w' g [ky,vl,en] (fun x hx=>by simp at hx;rcases hx with rfl | rfl | rfl<;>omega) hg
    simp only [List.length_cons,List.length_nil] at hcv
    rw [chrs_b8,<- hs3.out] at hcv
    go_big_op
    exact hK _ _ _ rfl (Mods.refl _ _) rfl
   simp only [Act.put,List.setIfInBounds_toArray,List.set_cons_succ,List.set_cons_zero]
   refine inv_det rfl (fun w' hC _ K hK=>?_) ?_
   ·go_big_op
    exact hK _ _ _ rfl (Mods.refl _ _) rfl
   simp only [Act.put,List.setIfInBounds_toArray,List.set_cons_succ,List.set_cons_zero]
   refine inv_det rfl (fun w' hC _ K hK=>?_) ?_
   ·go_big_op
    exact hK _ _ _ rfl (Mods.refl _ _) rfl
   simp only [Act.put,List.setIfInBounds_toArray,List.set_cons_succ,List.set_cons_zero]
   refine inv_nil (fun w' hC _=>?_)
   try simp only [Exit.then]
   go_wp2_with fail
   go_roundg (ms.length - (k+1))
   case measure=>omega
   case rel =>
    have hlz:=HLL.out
    refine ⟨k+1,l++mapU ⟨nm,ky,vl,en⟩,congrArg Value.string ?_,by go_num,HD.out,?_,hmd2.trans hC,by omega,rfl⟩
    ·rw [mapU,<- T_app,<- T_app,<- HSO.out,<- hsn.out,<- hs3.out,ByteArray.append_assoc]
    ·rw [List.length_append,mapU,List.length_append,namedU_len,b8_len];simp only [List.length_cons,List.length_nil];omega
  ·obtain rfl:k=ms.length:=by omega
   have HM1:Hid (l=hd++mapsU ms):=by
    have:=HR.out
    rw [List.drop_length] at this;rw [Hid]
    simpa [mapsU] using this
   clear HR
   have hc2:=some_bytes wr [(fx.length:Int)] (fun x hx=>by simp at hx;subst hx;omega)
   simp only [List.map_cons,List.map_nil,List.length_cons,List.length_nil] at hc2
   rw [chrs_b8] at hc2
   obtain ⟨n4,hn4,hn4l⟩:=open_text (l:=b8 [(fx.length:Int)]) (k:=1) (by simp [b8])
   rw [<- hn4.out] at hc2
   obtain ⟨so,hso⟩:∃ o,o=T l:=⟨_,rfl⟩
   have hsol:so.size<=2600:=by rw [hso,T_size];omega
   have HSO:=hid hso;rw [<- hso]
   have HLL:Hid (l.length<=2600):=by rw [Hid];omega
   clear hso hll;go_wp2_with fail;clear hc2
   have HST:Hid (so++n4=T (l++b8 [(fx.length:Int)])):=by rw [Hid,HSO.out,hn4.out,T_app]
   have HMD:=hid hmd
   go_loopg [6,9] fx.length (fun g ov iv wx=>∃ (k:Nat) (l':List UInt8),ov=.string (T l')/\iv=.int .i64 k/\l'++headsU ((fx.map (·.1)).drop k)=l++b8 [(fx.length:Int)]++headsU (fx.map (·.1))/\l'.length<=2601+k*310/\Mods Nil' wc wx/\k<=fx.length/\g=fx.length - k)
   case atStart=>exact ⟨0,l++b8 [(fx.length:Int)],congrArg Value.string HST.out,rfl,rfl,by have:=HLL.out;rw [List.length_append,b8_len];simp only [List.length_cons,List.length_nil];omega,HMD.out.alloc _,Nat.zero_le _,rfl⟩
   case round =>
    clear hmd p0 p1 hI hsol;obtain ⟨k,l',rfl,rfl,HR0,hll,hmd,hk,rfl⟩:=hrel;have HR:=hid HR0;clear HR0
    have hI:=HI.out.quiet hmd
    have p1:wr.cell? ⟨pb,1,none⟩=some (.slice oF fx.length cF):=hI.prog.cell 1
    by_cases hkl:k<fx.length
    ·have hko:k<os.length:=by rw [HOL.out];exact hkl
     obtain ⟨gF,rfl,_⟩:=hI.rows.atR rfl rfl k hkl
     obtain ⟨f,⟨vL,vA,vB,vP⟩,hfk⟩:∃ f h,fx[k]=(f,h):=⟨_,_,rfl⟩
     have hT:=HFO.out k hkl hko
     rw [hfk] at hT
     simp only at hT
     have HFR:Hid (∀ w',Mods Nil' wr w'->FRd w' gF (k*8) f.slots vL vA vB vP f.name os[k].ls os[k].ats os[k].lab):=fun w' m=>(hI.quiet m).frd rfl k hkl hko hfk
     have HP1:Hid (∀ w',Mods Nil' wr w'->w'.cell? ⟨pb,1,none⟩=some (.slice (some ⟨gF,0,none⟩) fx.length cF)):=fun w' m=>(hI.quiet m).prog.cell 1
     have HD:Hid (l'++headU f++headsU ((fx.map (·.1)).drop (k+1))=l++b8 [(fx.length:Int)]++headsU (fx.map (·.1))):=by
      rw [Hid,<- HR.out,headsU_drop _ k (by simpa using hkl),List.append_assoc]
      simp [hfk]
     generalize os[k]=o at *;clear HR hfk hI;obtain ⟨nm,slots⟩:=f
     have hsl:=hT.sl
     have hnms:=hT.nm
     simp only at hsl hnms HFR
     clear hT
     obtain ⟨so',hso⟩:∃ o,o=T l':=⟨_,rfl⟩
     have hsol:so'.size<=2601+k*310:=by rw [hso,T_size];exact hll
     have HSO':=hid hso;rw [<- hso];have HLL':=hid hll;clear hso hll
     obtain ⟨sn,hsn,hsnl⟩:=open_text (l:=namedU nm) (k:=301) (by rw [namedU_len];omega)
     obtain ⟨s2,hs2,hs2l⟩:=open_text (l:=b8 (twoL slots)) (k:=2) (by simp [b8,twoL])
     have HNA:Hid (∀ w',Calls Tryz.prog 14 #[.string nm] w' fun e w2=>e=.returned (.string sn)/\Mods Nil' w' w2):=fun w'=>by rw [hsn.out];exact namedU_any nm (by omega) w'
     have HTW:Hid (∀ w',Calls Tryz.prog 15 #[.int .i64 slots] w' fun e w2=>e=.returned (.string s2)/\Mods Nil' w' w2):=fun w'=>by rw [hs2.out];exact twoU_any slots w'
     go_wp2_with fail
     have g1:∀ g:Ext Nil' wr,g.w.cell? ⟨pb,1,none⟩=some (.slice (some ⟨gF,0,none⟩) fx.length cF):=fun g=>HP1.out _ g.m
     have g2:∀ g:Ext Nil' wr,g.w.cell? ⟨gF,k*8,none⟩=some (.string nm):=fun g=>(HFR.out _ g.m).c0
     have g3:∀ g:Ext Nil' wr,g.w.cell? ⟨gF,k*8+3,none⟩=some (.int .i64 slots):=fun g=>(HFR.out _ g.m).c3
     have ne1:=Ext.ne Nil' wr
     refine wp_region_ext Nil' (by kernel_rfl) (by kernel_rfl) ?_
     repeat (go_big_quiet_step (first | (go_at_call 14;exact Calls.ext_of (HNA.out _)) | (go_at_call 15;exact Calls.ext_of (HTW.out _))))
     refine wpQuiet_nil ?_
     rintro w2 ⟨⟨wx,m2⟩,hwx⟩
     simp only at hwx
     subst hwx;go_wp2_with fail
     go_roundg (fx.length - (k+1))
     case measure=>omega
     case rel =>
      have hlz:=HLL'.out
      refine ⟨k+1,l'++headU ⟨nm,slots⟩,congrArg Value.string ?_,by go_num,HD.out,?_,hmd.trans m2,by omega,rfl⟩
      ·rw [headU,<- T_app,<- T_app,<- HSO'.out,<- hsn.out,<- hs2.out,ByteArray.append_assoc]
      ·rw [List.length_append,headU,List.length_append,namedU_len,b8_len];simp only [twoL,List.length_cons,List.length_nil];omega
    ·obtain rfl:k=fx.length:=by omega
     have HM2:Hid (l'=hd++mapsU ms++b8 [(fx.length:Int)]++headsU (fx.map (·.1))):=by
      have:=HR.out
      rw [List.drop_eq_nil_of_le (by simp)] at this
      rw [Hid,<- HM1.out]
      simpa [headsU] using this
     clear HR
     have HLL2:Hid (l'.length<=7600):=by rw [Hid];omega
     have HMD2:=hid hmd;clear hll hI hmd
     obtain ⟨mn,hmn⟩:∃ mn,mn=ms.map (·.name):=⟨_,rfl⟩
     obtain ⟨fn,hfn⟩:∃ fn,fn=(fx.map (·.1)).map (·.name):=⟨_,rfl⟩
     have HMN:=hid hmn;have HFN:=hid hfn;clear hmn hfn;go_wp2_with fail;clear p1
     go_loopg [6,10,11,12] fx.length (fun g ov rv cv iv wx=>∃ (k c:Nat) (a r:List UInt8),ov=.string (T a)/\rv=.string (T r)/\cv=.int .i64 c/\iv=.int .i64 k/\a++fnsU img mn fn (os.drop k)=l'++fnsU img mn fn os/\r++refsU k (os.drop k)=refsU 0 os/\c+cntsU (os.drop k)=cntsU os/\a.length<=7600+k*3200/\r.length<=k*70000/\c<=k*200/\Mods Nil' wc wx/\k<=fx.length/\g=fx.length - k)
     case atStart=>exact ⟨0,0,l',[],rfl,rfl,rfl,rfl,rfl,rfl,by simp,by have:=HLL2.out;omega,by simp,by omega,HMD2.out,Nat.zero_le _,rfl⟩
     case round =>
      obtain ⟨k,c,a,r,rfl,rfl,rfl,rfl,HA0,HR0,HC0,hal,hrl,hcl,hmd,hk,rfl⟩:=hrel;have HA:=hid HA0;have HR:=hid HR0;have HC:=hid HC0;clear HA0 HR0 HC0
      have hI:=HI.out.quiet hmd
      have p1:wr.cell? ⟨pb,1,none⟩=some (.slice oF fx.length cF):=hI.prog.cell 1
      by_cases hkl:k<fx.length
      ·have hko:k<os.length:=by rw [HOL.out];exact hkl
       obtain ⟨gF,rfl,_⟩:=hI.rows.atR rfl rfl k hkl
       obtain ⟨f,⟨vL,vA,vB,vP⟩,hfk⟩:∃ f h,fx[k]=(f,h):=⟨_,_,rfl⟩
       have hT:=HFO.out k hkl hko
       rw [hfk] at hT
       simp only at hT
       have HFR:Hid (∀ w',Mods Nil' wr w'->FRd w' gF (k*8) f.slots vL vA vB vP f.name os[k].ls os[k].ats os[k].lab):=fun w' m=>(hI.quiet m).frd rfl k hkl hko hfk
       have HDA:Hid (a++fnU img mn fn os[k]++fnsU img mn fn (os.drop (k+1))=l'++fnsU img mn fn os):=by rw [Hid,<- HA.out,fnsU_drop _ _ _ _ k hko,List.append_assoc]
       have HDR:Hid (r++(os[k].ls.zip os[k].ats).flatMap (refU k)++refsU (k+1) (os.drop (k+1))=refsU 0 os):=by rw [Hid,<- HR.out,refsU_drop _ _ k hko,List.append_assoc]
       have HDC:Hid (c+((os[k].ls.zip os[k].ats).map cntU).sum+cntsU (os.drop (k+1))=cntsU os):=by rw [Hid,<- HC.out,cntsU_drop _ k hko];omega
       have HFU:Hid (fnU img mn fn os[k]=(os[k].ls.zip os[k].ats).flatMap (insU img mn fn os[k].lab)):=rfl
       generalize os[k]=o at *;clear HA HR HC hfk hI p1;obtain ⟨nm,slots⟩:=f
       simp only at HFR hT
       have HT:=hid hT
       have hsl:=hT.sl
       have hll:=hT.ll
       have hlb:=hT.lb
       have HAL:=hid hT.al
       simp only at hsl
       clear hT
       have HB:Hid (a.length<=7600+k*3200/\r.length<=k*70000/\c<=k*200):=⟨hal,hrl,hcl⟩
       clear hal hrl hcl
       have p1:wr.cell? ⟨pb,1,none⟩=some (.slice (some ⟨gF,0,none⟩) fx.length cF):=(HI.out.quiet hmd).prog.cell 1
       go_wp2_with fail;clear p1;have HMD3:=hid hmd
       have hmr:Mods Nil' wr wr:=Mods.refl _ _
       clear hmd
       obtain ⟨wO,hwO⟩:∃ wO,wO=wr:=⟨_,rfl⟩
       rw [<- hwO] at HFR HMD3;have HWO:=hid hwO;clear hmr;subst hwO
       go_loopg [6,10,11,14] o.ls.length (fun g ov rv cv jv wx=>∃ (j c':Nat) (a' r':List UInt8),ov=.string (T a')/\rv=.string (T r')/\cv=.int .i64 c'/\jv=.int .i64 j/\a'++((o.ls.zip o.ats).drop j).flatMap (insU img mn fn o.lab)=a++fnU img mn fn o/\r'++((o.ls.zip o.ats).drop j).flatMap (refU k)=r++(o.ls.zip o.ats).flatMap (refU k)/\c'+(((o.ls.zip o.ats).drop j).map cntU).sum=c+((o.ls.zip o.ats).map cntU).sum/\a'.length<=7600+k*3200+j*16/\r'.length<=k*70000+j*350/\c'<=k*200+j/\Mods Nil' wO wx/\j<=o.ls.length/\g=o.ls.length - j)
       case atStart=>exact ⟨0,c,a,r,rfl,rfl,rfl,rfl,by rw [HFU.out];rfl,rfl,rfl,by have:=HB.out;omega,by have:=HB.out;omega,by have:=HB.out;omega,Mods.refl _ _,Nat.zero_le _,rfl⟩
       case round =>
        obtain ⟨j,c',a',r',rfl,rfl,rfl,rfl,HA0,HR0,HC0,hal,hrl,hcl,hmd,hj,rfl⟩:=hrel;have HA:=hid HA0;have HR:=hid HR0;have HC:=hid HC0;clear HA0 HR0 HC0
        have hF:=HFR.out wr hmd
        obtain ⟨oL,cL,hvL,vwL⟩:=hF.sl.view;subst hvL
        have f1:=hF.c1
        by_cases hjl:j<o.ls.length
        ·have hja:j<o.ats.length:=by rw [HAL.out];exact hjl
         obtain ⟨gL,csL,rfl,_⟩:=vwL (by omega)
         obtain ⟨oA,cA,hvA,vwA⟩:=hF.sa.view;subst hvA
         obtain ⟨gA,csA,rfl,_⟩:=vwA (by omega)
         obtain ⟨e0,e1,e2,e3,e4,e5,e6,e7,_⟩:=hF.sl.at8 rfl j hjl
         have hjz:j<(o.ls.zip o.ats).length:=by simp only [List.length_zip];omega
         have hzj:(o.ls.zip o.ats).drop j=(o.ls[j],o.ats[j])::(o.ls.zip o.ats).drop (j+1):=by rw [List.drop_eq_getElem_cons hjz,List.getElem_zip]
         have HDA2:Hid (a'++insU img mn fn o.lab (o.ls[j],o.ats[j])++((o.ls.zip o.ats).drop (j+1)).flatMap (insU img mn fn o.lab)=a++fnU img mn fn o):=by rw [Hid,<- HA.out,hzj,List.flatMap_cons,List.append_assoc]
         have HDR2:Hid (r'++refU k (o.ls[j],o.ats[j])++((o.ls.zip o.ats).drop (j+1)).flatMap (refU k)=r++(o.ls.zip o.ats).flatMap (refU k)):=by rw [Hid,<- HR.out,hzj,List.flatMap_cons,List.append_assoc]
         have HDC2:Hid (c'+cntU (o.ls[j],o.ats[j])+(((o.ls.zip o.ats).drop (j+1)).map cntU).sum=c+((o.ls.zip o.ats).map cntU).sum):=by rw [Hid,<- HC.out,hzj,List.map_cons,List.sum_cons];omega
         clear hzj hjz HA HR HC
         have hfit:=HT.out.fit o.ls[j] (List.getElem_mem hjl)
         have hab:=HT.out.ab o.ats[j] (List.getElem_mem hja)
         simp only at hab
         have HCA:Hid (∀ w',Mods Nil' wr w'->w'.cell? ⟨gA,j,none⟩=some (.int .i64 o.ats[j])):=by
          intro w' m
          obtain ⟨g,hg,hc⟩:=(hF.quiet m).sa.at rfl j hja
          cases hg
          rw [hc j hja,intL,List.getElem?_map,List.getElem?_eq_getElem hja];rfl
         have HJU:Hid (∀ w',Mods Nil' wr w'->Calls Tryz.prog 17 #[.pointer (some ⟨gF,k*8,none⟩),.int .i64 j] w' fun e w2=>e=.returned (.int .i64 (jumpM o.lab o.ls[j] o.ats[j]))/\Mods Nil' w' w2):=fun w' m =>
          jump_any w' gF (k*8) slots _ _ vB vP nm o.ls o.ats o.lab (hF.quiet m) j hjl hja (by omega) (by omega) hfit.word (by omega) (fun h=>by have:=HT.out.jl o.ls[j] (List.getElem_mem hjl) h;simp only at this;omega)
         have HFQ:Hid (∀ w',Mods Nil' wr w'->FRd w' gF (k*8) slots (.slice (some ⟨gL,0,none⟩) o.ls.length cL) (.slice (some ⟨gA,0,none⟩) o.ats.length cA) vB vP nm o.ls o.ats o.lab):=fun w' m=>hF.quiet m
         have HCO:Hid (∀ w' (jm n:Int),Calls Tryz.prog 16 #[.agg o.ls[j].cells,.int .i64 jm,.int .u64 n] w' fun e w2=>e=.returned (.string (T (codeW o.ls[j] jm n)))/\Mods Nil' w' w2):=fun w' jm n=>codeU_any o.ls[j] hfit jm n w'
         generalize o.ls[j]=x at *;generalize o.ats[j]=at0 at *;obtain ⟨xw,x32,xd,xs,xj,xn,xl,xm⟩:=x;unfold RIns.cells at HCO;simp only at *
         have hxm:=hfit.name
         simp only at hxm
         clear hfit
         obtain ⟨so',hso⟩:∃ o,o=T a':=⟨_,rfl⟩
         have hsol:so'.size<=7600+k*3200+j*16:=by rw [hso,T_size];exact hal
         have HSO':=hid hso;rw [<- hso]
         obtain ⟨sr',hsr⟩:∃ o,o=T r':=⟨_,rfl⟩
         have hsrl:sr'.size<=k*70000+j*350:=by rw [hsr,T_size];exact hrl
         have HSR':=hid hsr;rw [<- hsr]
         have HB2:Hid (a'.length<=7600+k*3200+j*16/\r'.length<=k*70000+j*350):=⟨hal,hrl⟩
         clear hso hsr hal hrl hF;go_upto_region 26 with fail
         have hbx:=Blk.new wr #[.string xw,.bool x32,.int .i64 xd,.int .i64 xs,.int .i64 xj,.int .u64 xn,.string xl,.string xm] 51
         have hmd2:Mods Nil' wr (wr.alloc (.cells #[.string xw,.bool x32,.int .i64 xd,.int .i64 xs,.int .i64 xj,.int .u64 xn,.string xl,.string xm] 51)):=(Mods.refl _ _).alloc _
         generalize wr.alloc (Obj.cells #[.string xw,.bool x32,.int .i64 xd,.int .i64 xs,.int .i64 xj,.int .u64 xn,.string xl,.string xm] 51)=W at *;obtain ⟨i0,i1,i2,i3,i4,i5,i6,i7⟩:=hbx.cells8
         obtain ⟨q1,hq1⟩:∃ q1,q1=decide (img=true/\xw=WIDE/\xm≠E0):=⟨_,rfl⟩
         have HQ1:=hid hq1;clear hq1
         obtain ⟨q2,hq2⟩:∃ q2,q2=decide (img=true/\xw=CALL):=⟨_,rfl⟩
         have HQ2:=hid hq2;clear hq2
         have HPR:Hid (∀ w',Mods Nil' W w'->PRo w' pb (.slice oM ms.length cM) (.slice (some ⟨gF,0,none⟩) fx.length cF) ms fx os):=fun w' m=>HI.out.quiet (((HMD3.out.trans hmd).trans hmd2).trans m)
         go_cut [143] (fun s143 wx=>s143=.bool q1/\wx=W)
         case first =>
          cases img with
          | false =>
           have HD:Hid (q1=false):=by rw [Hid,HQ1.out];simp
           go_wp2_with fail;go_meet
           exact ⟨by rw [HD.out],rfl⟩
          | true =>
           by_cases h1:xw=WIDE
           ·have t1:=lit_eq h1
            have HD:Hid (q1=!xm.toList.isEmpty):=by rw [Hid,isE_eq,HQ1.out];simp [h1]
            clear h1;go_wp2_with fail;go_meet
            exact ⟨by rw [HD.out],rfl⟩
           ·have t1:=lit_ne h1
            have HD:Hid (q1=false):=by rw [Hid,HQ1.out];simp [h1]
            clear h1;go_wp2_with fail;go_meet
            exact ⟨by rw [HD.out],rfl⟩
         case rest =>
         obtain ⟨rfl,rfl⟩:=hcut;go_upto_if 143 with fail
         go_cut [16] (fun s16 wx=>s16=.int .i64 (if q1 then placeM xm mn else 0)/\wx=wc)
         case first =>
          cases q1 with
          | false =>
           go_wp2_with fail;go_meet
           exact ⟨rfl,rfl⟩
          | true =>
           have hst:=store_any pb xm ms _ wc ((HPR.out wc (Mods.refl _ _)).prog.cell 0) (HPR.out wc (Mods.refl _ _)).maps (by omega)
           rw [<- HMN.out] at hst;have HST3:=hid hst;clear hst;go_wp2_with fail;refine HST3.out.mono ?_;rintro e w2 ⟨rfl,rfl⟩;go_wp2_with fail;go_meet
           exact ⟨rfl,rfl⟩
         case rest =>
         obtain ⟨rfl,rfl⟩:=hcut
         generalize hz1:(if q1 then placeM xm mn else 0)=z1 at *
         have HZ1:=hid hz1;clear hz1;go_upto_region 28 with fail
         go_cut [153] (fun s153 wx=>s153=.bool q2/\wx=wc)
         case first =>
          cases img with
          | false =>
           have HD:Hid (q2=false):=by rw [Hid,HQ2.out];simp
           go_wp2_with fail;go_meet
           exact ⟨by rw [HD.out],rfl⟩
          | true =>
           have HD:Hid (q2=(xw.toList==[99,97,108,108])):=by
            rw [Hid,HQ2.out]
            by_cases h1:xw=CALL
            ·rw [lit_eq h1];simp [h1]
            ·rw [lit_ne h1];simp [h1]
           go_wp2_with fail;go_meet
           exact ⟨by rw [HD.out],rfl⟩
         case rest =>
         obtain ⟨rfl,rfl⟩:=hcut;go_upto_if 153 with fail
         go_cut [16] (fun s16 wx=>s16=.int .i64 (if q2 then placeM xm fn else z1)/\wx=wc)
         case first =>
          cases q2 with
          | false =>
           go_wp2_with fail;go_meet
           exact ⟨rfl,rfl⟩
          | true =>
           have hst:=function_any pb xm fx _ _ wc (HPR.out wc (Mods.refl _ _)).prog (HPR.out wc (Mods.refl _ _)).rows (by omega)
           have HST3:Hid (Calls Tryz.prog 11 #[.pointer (some ⟨pb,0,none⟩),.string xm] wc fun e w'=>e=.returned (.int .i64 (placeM xm fn))/\w'=wc):=by
            rw [Hid,HFN.out,List.map_map];exact hst
           clear hst;go_wp2_with fail;refine HST3.out.mono ?_;rintro e w2 ⟨rfl,rfl⟩;go_wp2_with fail;go_meet
           exact ⟨rfl,rfl⟩
         case rest =>
         obtain ⟨rfl,rfl⟩:=hcut
         generalize hz2:(if q2 then placeM xm fn else z1)=z2 at *
         have HZ2:Hid (z2=numU img mn fn ⟨xw,x32,xd,xs,xj,xn,xl,xm⟩):=by
          rw [Hid,<- hz2,<- HZ1.out,HQ1.out,HQ2.out,numU]
          simp only [decide_eq_true_eq]
         clear hz2
         obtain ⟨jm,hjm⟩:∃ jm,jm=jumpM o.lab ⟨xw,x32,xd,xs,xj,xn,xl,xm⟩ at0:=⟨_,rfl⟩
         have HJM:=hid hjm;rw [<- hjm] at HJU;clear hjm
         obtain ⟨sc,hsc,hscl⟩:=open_text (codeW_len ⟨xw,x32,xd,xs,xj,xn,xl,xm⟩ jm (z2 % 18446744073709551616))
         have HCO2:Hid (∀ w',Calls Tryz.prog 16 #[.agg #[.string xw,.bool x32,.int .i64 xd,.int .i64 xs,.int .i64 xj,.int .u64 xn,.string xl,.string xm],.int .i64 jm,.int .u64 (z2 % 18446744073709551616)] w' fun e w2=>e=.returned (.string sc)/\Mods Nil' w' w2):=by
          intro w';rw [hsc.out];exact HCO.out w' jm _
         go_upto_region 30 with fail
         obtain ⟨g0,g1,g2,g3,g4,g5,g6,g7⟩:=Ext.cells8 (S:=Nil') hbx (fun e=>e)
         have ne1:=Ext.ne Nil' wc
         have HJU2:Hid (∀ g:Ext Nil' wc,Calls Tryz.prog 17 #[.pointer (some ⟨gF,k*8,none⟩),.int .i64 j] g.w fun e w2=>e=.returned (.int .i64 jm)/\Mods Nil' g.w w2):=fun g=>HJU.out _ (hmd2.trans g.m)
         refine wp_region_ext Nil' (by kernel_rfl) (by kernel_rfl) ?_
         repeat (go_big_quiet_step (first | (go_at_call 17;exact Calls.ext_of (HJU2.out _)) | (go_at_call 16;exact Calls.ext_of (HCO2.out _))))
         refine wpQuiet_nil ?_
         rintro w2 ⟨⟨wx,m2⟩,hwx⟩
         simp only at hwx
         subst hwx
         have hbx2:=hbx.mods m2 id
         have M9:Hid (Mods Nil' wO w2):=(hmd.trans hmd2).trans m2
         have MW:Hid (Mods Nil' wr w2):=hmd2.trans m2
         have HQE:Hid ((!xm.toList.isEmpty)=decide (xm≠E0)):=isE_eq xm
         have HAU:Hid (a'++codeW ⟨xw,x32,xd,xs,xj,xn,xl,xm⟩ jm (z2 % 18446744073709551616)++((o.ls.zip o.ats).drop (j+1)).flatMap (insU img mn fn o.lab)=a++fnU img mn fn o):=by
          rw [Hid,<- HDA2.out,insU,HJM.out,HZ2.out]
         have HOU:Hid (so'++sc=T (a'++codeW ⟨xw,x32,xd,xs,xj,xn,xl,xm⟩ jm (z2 % 18446744073709551616))):=by
          rw [Hid,<- T_app,<- HSO'.out,hsc.out]
         have hcl16:=codeW_len ⟨xw,x32,xd,xs,xj,xn,xl,xm⟩ jm (z2 % 18446744073709551616)
         generalize codeW ⟨xw,x32,xd,xs,xj,xn,xl,xm⟩ jm (z2 % 18446744073709551616)=cl at *;clear hbx m2 i0 i1 i2 i3 i4 i5 i6 i7 e0 e1 e2 e3 e4 e5 e6 e7 f1 g0 g1 g2 g3 g4 g5 g6 g7;obtain ⟨i0,i1,i2,i3,i4,i5,i6,i7⟩:=hbx2.cells8;go_upto_if 169 with fail;generalize (!xm.toList.isEmpty)=q3 at *
         cases q3 with
         | false =>
          have hz:¬ xm≠E0:=by simpa using HQE.out.symm
          have HRU:Hid (r'++((o.ls.zip o.ats).drop (j+1)).flatMap (refU k)=r++(o.ls.zip o.ats).flatMap (refU k)):=by
           rw [Hid,<- HDR2.out,refU,if_neg hz,List.append_nil]
          have HCU:Hid (c'+(((o.ls.zip o.ats).drop (j+1)).map cntU).sum=c+((o.ls.zip o.ats).map cntU).sum):=by
           rw [Hid,<- HDC2.out,cntU,if_neg hz];rfl
          clear hz;go_wp2_with fail
          go_roundg (o.ls.length - (j+1))
          case measure=>omega
          case rel =>
           have hb:=HB2.out
           refine ⟨j+1,c',a'++cl,r',congrArg Value.string HOU.out,congrArg Value.string HSR'.out,rfl,by go_num,HAU.out,HRU.out,HCU.out,by rw [List.length_append];omega,by omega,by omega,M9.out,by omega,rfl⟩
         | true =>
          have hz:xm≠E0:=by simpa using HQE.out.symm
          have HRU:Hid (r'++(b8 [(k:Int)]++b8 (twoL at0)++namedU xm)++((o.ls.zip o.ats).drop (j+1)).flatMap (refU k)=r++(o.ls.zip o.ats).flatMap (refU k)):=by
           rw [Hid,<- HDR2.out,refU,if_pos hz]
          have HCU:Hid (c'+1+(((o.ls.zip o.ats).drop (j+1)).map cntU).sum=c+((o.ls.zip o.ats).map cntU).sum):=by
           rw [Hid,<- HDC2.out,cntU,if_pos hz]
          clear hz
          obtain ⟨s1,hs1,hs1l⟩:=open_text (l:=b8 [(k:Int)]) (k:=1) (by simp [b8])
          obtain ⟨s2,hs2,hs2l⟩:=open_text (l:=b8 (twoL at0)) (k:=2) (by simp [b8,twoL])
          obtain ⟨s3,hs3,hs3l⟩:=open_text (l:=namedU xm) (k:=301) (by rw [namedU_len];omega)
          have HTW:Hid (∀ w',Calls Tryz.prog 15 #[.int .i64 at0] w' fun e w2=>e=.returned (.string s2)/\Mods Nil' w' w2):=fun w'=>by rw [hs2.out];exact twoU_any at0 w'
          have HNA:Hid (∀ w',Calls Tryz.prog 14 #[.string xm] w' fun e w2=>e=.returned (.string s3)/\Mods Nil' w' w2):=fun w'=>by rw [hs3.out];exact namedU_any xm (by omega) w'
          have HX7:Hid (∀ w',Mods Nil' w2 w'->w'.cell? ⟨wr.heap.size,7,none⟩=some (.string xm)):=fun w' m=>(hbx2.mods m id).cell 7
          have HA2':Hid (∀ w',Mods Nil' w2 w'->w'.cell? ⟨gF,k*8+2,none⟩=some (.slice (some ⟨gA,0,none⟩) o.ats.length cA)/\w'.cell? ⟨gA,j,none⟩=some (.int .i64 at0)):=fun w' m=>⟨(HFQ.out w' (MW.out.trans m)).c2,HCA.out w' (MW.out.trans m)⟩
          go_wp2_with fail
          refine wp_region_inv [.inl (.string sr'),.inl (.int .i64 (k:Int)),.inl (.int .u8 (k:Int)),.inr (fun u w'=>∃ g,u=.slice (some ⟨g,0,none⟩) 1 1/\Blk w' g #[.int .u8 (k:Int)] 5),.inl (.string s1),.inl (.string (sr'++s1)),.inl (.pointer (some ⟨gF,k*8,none⟩)),.inl (.pointer (some ⟨gF,k*8,none⟩)),.inl (.pointer (some ⟨gF,k*8+2,none⟩)),.inl (.slice (some ⟨gA,0,none⟩) o.ats.length cA),.inl (.int .i64 (j:Int)),.inl (.pointer (some ⟨gA,j,none⟩)),.inl (.int .i64 at0),.inl (.string s2),.inl (.string (sr'++s1++s2)),.inl (.pointer (some ⟨wr.heap.size,7,none⟩)),.inl (.string xm),.inl (.string s3),.inl (.string (sr'++s1++s2++s3)),.inl (.string (sr'++s1++s2++s3))] (fun w'=>Mods Nil' w2 w') (Mods Nil') (by kernel_rfl) (by kernel_rfl) (by kernel_rfl) ((Mods.refl _ _).drew) ?_ (fun _ _ h1 h2=>h1.trans h2) (fun _=>Mods.refl _ _) ?_
          ·exact stable_of (show StableL _ _ from ⟨fun u w1 w2 m ⟨g,h1,h2⟩=>⟨g,h1,h2.mods m id⟩,trivial⟩)
          refine inv_det rfl (fun w' hC _ K hK=>?_) ?_
          ·go_big_op
           exact hK _ _ _ rfl (Mods.refl _ _) rfl
          simp only [Act.put,List.setIfInBounds_toArray,List.set_cons_succ,List.set_cons_zero]
          refine inv_det rfl (fun w' hC _ K hK=>?_) ?_
          ·go_big_op
           exact hK _ _ _ rfl (Mods.refl _ _) rfl
          simp only [Act.put,List.setIfInBounds_toArray,List.set_cons_succ,List.set_cons_zero]
          refine inv_det rfl (fun w' hC _ K hK=>?_) ?_
          ·go_big_op
           exact hK _ _ _ rfl (Mods.refl _ _) rfl
          simp only [Act.put,List.setIfInBounds_toArray,List.set_cons_succ,List.set_cons_zero]
          refine inv_any rfl (fun w' hC _ K hK=>?_) (fun x=>?_)
          ·go_big_op
           exact hK _ _ _ rfl ((Mods.refl _ _).alloc _) ⟨_,rfl,Blk.new _ _ _⟩
          simp only [Act.put,List.setIfInBounds_toArray,List.set_cons_succ,List.set_cons_zero]
          refine inv_det rfl (fun w' hC hk K hK=>?_) ?_
          ·obtain ⟨g,rfl,hg⟩:∃ g,x=.slice (some ⟨g,0,none⟩) 1 1/\Blk w' g #[.int .u8 (k:Int)] 5:=known_mem hk 3 (by decide)
           have hcv:=some_bytes' w' g [(k:Int)] (fun x hx=>by simp at hx;subst hx;omega) hg
           simp only [List.length_cons,List.length_nil] at hcv
           rw [chrs_b8,<- hs1.out] at hcv
           go_big_op
           exact hK _ _ _ rfl (Mods.refl _ _) rfl
          simp only [Act.put,List.setIfInBounds_toArray,List.set_cons_succ,List.set_cons_zero]
          refine inv_det rfl (fun w' hC _ K hK=>?_) ?_
          ·go_big_op
           exact hK _ _ _ rfl (Mods.refl _ _) rfl
          simp only [Act.put,List.setIfInBounds_toArray,List.set_cons_succ,List.set_cons_zero]
          refine inv_det rfl (fun w' hC _ K hK=>?_) ?_
          ·go_big_op
           exact hK _ _ _ rfl (Mods.refl _ _) rfl
          simp only [Act.put,List.setIfInBounds_toArray,List.set_cons_succ,List.set_cons_zero]
          refine inv_det rfl (fun w' hC _ K hK=>?_) ?_
          ·go_big_op
           exact hK _ _ _ rfl (Mods.refl _ _) rfl
          simp only [Act.put,List.setIfInBounds_toArray,List.set_cons_succ,List.set_cons_zero]
          refine inv_det rfl (fun w' hC _ K hK=>?_) ?_
          ·go_big_op
           exact hK _ _ _ rfl (Mods.refl _ _) rfl
          simp only [Act.put,List.setIfInBounds_toArray,List.set_cons_succ,List.set_cons_zero]
          refine inv_det rfl (fun w' hC _ K hK=>?_) ?_
          ·have e1:=(HA2'.out w' hC).1
           go_big_op
           exact hK _ _ _ rfl (Mods.refl _ _) rfl
          simp only [Act.put,List.setIfInBounds_toArray,List.set_cons_succ,List.set_cons_zero]
          refine inv_det rfl (fun w' hC _ K hK=>?_) ?_
          ·go_big_op
           exact hK _ _ _ rfl (Mods.refl _ _) rfl
          simp only [Act.put,List.setIfInBounds_toArray,List.set_cons_succ,List.set_cons_zero]
          refine inv_det rfl (fun w' hC _ K hK=>?_) ?_
          ·go_big_op
           exact hK _ _ _ rfl (Mods.refl _ _) rfl
          simp only [Act.put,List.setIfInBounds_toArray,List.set_cons_succ,List.set_cons_zero]
          refine inv_det rfl (fun w' hC _ K hK=>?_) ?_
          ·have e1:=(HA2'.out w' hC).2
           go_big_op
           exact hK _ _ _ rfl (Mods.refl _ _) rfl
          simp only [Act.put,List.setIfInBounds_toArray,List.set_cons_succ,List.set_cons_zero]
          refine inv_det rfl (fun w' hC _ K hK=>?_) ?_
          ·go_big_op
           refine (HTW.out _).mono ?_
           rintro e w3 ⟨rfl,m3⟩;exact hK _ _ _ rfl m3 rfl
          simp only [Act.put,List.setIfInBounds_toArray,List.set_cons_succ,List.set_cons_zero]
          refine inv_det rfl (fun w' hC _ K hK=>?_) ?_
          ·go_big_op
           exact hK _ _ _ rfl (Mods.refl _ _) rfl
          simp only [Act.put,List.setIfInBounds_toArray,List.set_cons_succ,List.set_cons_zero]
          refine inv_det rfl (fun w' hC _ K hK=>?_) ?_
          ·go_big_op
           exact hK _ _ _ rfl (Mods.refl _ _) rfl
          simp only [Act.put,List.setIfInBounds_toArray,List.set_cons_succ,List.set_cons_zero]
          refine inv_det rfl (fun w' hC _ K hK=>?_) ?_
          ·have e1:=HX7.out w' hC
           go_big_op
           exact hK _ _ _ rfl (Mods.refl _ _) rfl
          simp only [Act.put,List.setIfInBounds_toArray,List.set_cons_succ,List.set_cons_zero]
          refine inv_det rfl (fun w' hC _ K hK=>?_) ?_
          ·go_big_op
           refine (HNA.out _).mono ?_
           rintro e w3 ⟨rfl,m3⟩;exact hK _ _ _ rfl m3 rfl
          simp only [Act.put,List.setIfInBounds_toArray,List.set_cons_succ,List.set_cons_zero]
          refine inv_det rfl (fun w' hC _ K hK=>?_) ?_
          ·go_big_op
           exact hK _ _ _ rfl (Mods.refl _ _) rfl
          simp only [Act.put,List.setIfInBounds_toArray,List.set_cons_succ,List.set_cons_zero]
          refine inv_det rfl (fun w' hC _ K hK=>?_) ?_
          ·go_big_op
           exact hK _ _ _ rfl (Mods.refl _ _) rfl
          simp only [Act.put,List.setIfInBounds_toArray,List.set_cons_succ,List.set_cons_zero]
          refine inv_nil (fun w' hC _=>?_)
          try simp only [Exit.then]
          go_wp2_with fail
          go_roundg (o.ls.length - (j+1))
          case measure=>omega
          case rel =>
           have hb:=HB2.out
           refine ⟨j+1,c'+1,a'++cl,r'++(b8 [(k:Int)]++b8 (twoL at0)++namedU xm),congrArg Value.string HOU.out,congrArg Value.string ?_,by go_num,by go_num,HAU.out,HRU.out,HCU.out,by rw [List.length_append];omega,?_,by omega,M9.out.trans hC,by omega,rfl⟩
           ·rw [<- T_app,<- T_app,<- T_app,<- HSR'.out,<- hs1.out,<- hs2.out,<- hs3.out,ByteArray.append_assoc,ByteArray.append_assoc,ByteArray.append_assoc]
           ·simp only [List.length_append,namedU_len,b8_len,twoL,List.length_cons,List.length_nil];omega
        ·obtain rfl:j=o.ls.length:=by omega
         have hz:(o.ls.zip o.ats).drop o.ls.length=[]:=List.drop_eq_nil_of_le (by simp;omega)
         have HA2:Hid (a'=a++fnU img mn fn o):=by have:=HA.out;rw [hz] at this;simpa [Hid] using this
         have HR2:Hid (r'=r++(o.ls.zip o.ats).flatMap (refU k)):=by have:=HR.out;rw [hz] at this;simpa [Hid] using this
         have HC2:Hid (c'=c+((o.ls.zip o.ats).map cntU).sum):=by have:=HC.out;rw [hz] at this;simpa [Hid] using this
         clear hz HA HR HC;go_wp2_with fail
         go_roundg (fx.length - (k+1))
         case measure=>omega
         case rel =>
          refine ⟨k+1,c',a',r',rfl,rfl,rfl,by go_num,by rw [HA2.out];exact HDA.out,by rw [HR2.out];exact HDR.out,by rw [HC2.out];exact HDC.out,by omega,by omega,by omega,HMD3.out.trans hmd,by omega,rfl⟩
      ·obtain rfl:k=fx.length:=by omega
       have HA2:Hid (a=l'++fnsU img mn fn os):=by
        have:=HA.out
        rw [List.drop_eq_nil_of_le (by rw [HOL.out];omega)] at this
        simpa [Hid,fnsU] using this
       have HR2:Hid (r=refsU 0 os):=by
        have:=HR.out
        rw [List.drop_eq_nil_of_le (by rw [HOL.out];omega)] at this
        simpa [Hid,refsU] using this
       have HC2:Hid (c=cntsU os):=by
        have:=HC.out
        rw [List.drop_eq_nil_of_le (by rw [HOL.out];omega)] at this
        simpa [Hid,cntsU] using this
       have HBY:Hid (bytesU img ms (fx.map (·.1)) os=a++(if img then [] else b8 (twoL c)++r)):=by
        rw [Hid,bytesU,HA2.out,HM2.out,HC2.out,HR2.out,HHD.out,HMN.out,HFN.out]
        simp only [List.append_assoc,List.length_map]
       have hca:c<=3200:=by omega
       obtain ⟨so',hso⟩:∃ o,o=T a:=⟨_,rfl⟩
       have hsol:so'.size<=60000:=by rw [hso,T_size];omega
       have HSO':=hid hso;rw [<- hso]
       obtain ⟨sr',hsr⟩:∃ o,o=T r:=⟨_,rfl⟩
       have hsrl:sr'.size<=2000000:=by rw [hsr,T_size];omega
       have HSR':=hid hsr;rw [<- hsr];have HMD9:=hid hmd;clear hso hsr hI hal hrl hmd
       cases img with
       | true =>
        go_wp2_with fail;go_ret
        refine ⟨?_,HMD9.out⟩
        rw [HBY.out]
        simp only [if_true,List.append_nil]
        exact ret_str HSO'.out
       | false =>
        obtain ⟨s2,hs2,hs2l⟩:=open_text (l:=b8 (twoL c)) (k:=2) (by simp [b8,twoL])
        have HTW:Hid (∀ w',Calls Tryz.prog 15 #[.int .i64 c] w' fun e w2=>e=.returned (.string s2)/\Mods Nil' w' w2):=fun w'=>by rw [hs2.out];exact twoU_any c w'
        go_wp2_with fail
        refine (HTW.out _).mono ?_
        rintro e w2 ⟨rfl,m2⟩;go_wp2_with fail;go_ret
        refine ⟨?_,HMD9.out.trans m2⟩
        rw [HBY.out]
        simp only [Bool.false_eq_true,if_false]
        refine ret_str ?_
        rw [HSO'.out,hs2.out,HSR'.out,T_app,T_app,List.append_assoc]
end Go.Proofs.YtoknbkfclhmapaaGreatDoor
