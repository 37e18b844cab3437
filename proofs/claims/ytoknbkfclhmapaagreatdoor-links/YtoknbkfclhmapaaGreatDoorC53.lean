import Derived.Test.YtoknbkfclhmapaaGreatDoorC51
import Derived.Test.YtoknbkfclhmapaaGreatDoorC41
import Derived.MapKept
import Derived.Carry
namespace Go.Proofs.YtoknbkfclhmapaaGreatDoor
open Go.RowKit
open Go.RowKit Go.Sort
structure Bx (w:World) (B X:Nat) (cs cX:Array Value):Prop where
 b:Blk w B cs 63
 x:Blk w X cX 63
theorem Bx.cell {w:World} {B X:Nat} {cs cX:Array Value} (h:Bx w B X cs cX) (i:Nat):w.cell? ⟨B,i,none⟩=cs[i]?:=h.b.cell i
theorem Bx.alloc {w:World} {B X:Nat} {cs cX:Array Value} (h:Bx w B X cs cX) (o:Obj):Bx (w.alloc o) B X cs cX:=⟨h.b.alloc o,h.x.alloc o⟩
theorem Bx.mods {w w':World} {B X:Nat} {cs cX:Array Value} (h:Bx w B X cs cX) (m:Mods Nil' w w') (_:¬ Nil' B):Bx w' B X cs cX:=⟨h.b.mods m id,h.x.mods m id⟩
theorem Bx.setOther {w:World} {B X:Nat} {cs cX:Array Value} (h:Bx w B X cs cX) {a:Addr} (h1:a.block≠B) (h2:a.block≠X) (v:Value):Bx (w.setCell a v) B X cs cX:=⟨h.b.setOther h1 v,h.x.setOther h2 v⟩
set_option maxRecDepth 100000 in
set_option maxHeartbeats 2000000 in
theorem refer_any (wT w:World) (tv:Value) (bs:List Nat) (hT:OpsIn 0 wT tv bs tableS) (vM vF:Value) (ms:List PMap) (fs:List PFn) (vs:List Value) (hP:PPw wT w bs vM vF ms fs vs) (hm:ms.length<=1000) (hf:fs.length<=1000) (hok:∀ f∈fs,f.code.length<=1000/\∀ x∈f.code,PIok x)
  (mn fn:List ByteArray) (hmn:mn=ms.map (fun x=>T x.name)) (hfn:fn=(fs.map (·.name)).map T) (X:Nat) (cX:Array Value) (hX:Blk w X cX 63) :
  Calls Tryz.prog 21 #[.agg #[vM,vF]] w fun e w'=>e=.returned (.tuple #[])/\PPw wT w' bs vM vF ms (fs.map (PFn.linked mn fn)) vs/\Blk w' X cX 63:=by
 obtain ⟨oM,cM,hvM,_⟩:=hP.maps.view;obtain ⟨oF,cF,hvF,_⟩:=hP.rows.view;subst hvM hvF;have HT:=hid hT;have HOK:=hid hok
 have HP0:Hid (PPw wT (w.alloc (.cells #[.slice oM ms.length cM,.slice oF fs.length cF] 63)) bs (.slice oM ms.length cM) (.slice oF fs.length cF) ms (lnk mn fn fs 0) vs):=by
  have e:lnk mn fn fs 0=fs:=by simp [lnk]
  rw [e]
  exact hP.quiet ((Mods.refl _ _).alloc _)
 have HB0:Hid (Bx (w.alloc (.cells #[.slice oM ms.length cM,.slice oF fs.length cF] 63)) w.heap.size X #[.slice oM ms.length cM,.slice oF fs.length cF] cX):=⟨Blk.new _ _ _,hX.alloc _⟩
 have hvl:vs.length=fs.length:=hP.len
 have HVL:=hid hvl;have HFN:=hid hfn;have HMN:=hid hmn;clear hP hT hok hmn hfn hvl hX
 go_enter Tryz.func21,Tryz.ntmps21
 go_wp2_with fail;generalize w.alloc (.cells #[.slice oM ms.length cM,.slice oF fs.length cF] 63)=wB at *;generalize w.heap.size=B at *
 go_loopg [9] fs.length (fun g iv wx=>∃ i:Nat,iv=.int .i64 i/\PPw wT wx bs (.slice oM ms.length cM) (.slice oF fs.length cF) ms (lnk mn fn fs i) vs/\Bx wx B X #[.slice oM ms.length cM,.slice oF fs.length cF] cX/\i<=fs.length/\g=fs.length - i)
 case atStart=>exact ⟨0,rfl,HP0.out,HB0.out,Nat.zero_le _,rfl⟩
 case round =>
  obtain ⟨i,rfl,hpw,hbw,hil,rfl⟩:=hrel;have HPr:=hid hpw;have HBr:=hid hbw;clear hpw hbw HP0 HB0
  by_cases hi:i<fs.length
  ·have hiv:i<vs.length:=by rw [HVL.out];exact hi
   have HP1:Hid (PPw wT wr bs (.slice oM ms.length cM) (.slice oF fs.length cF) ms (lnkS mn fn fs i 0) vs):=by
    rw [Hid,lnkS_zero mn fn fs i hi];exact HPr.out
   have hcd:=HP1.out.codeL hi hiv (Nat.zero_le _)
   obtain ⟨oC,cC,hvi,_⟩:=hcd.view
   have hfl:(lnk mn fn fs i).length=fs.length:=lnk_len mn fn fs i hil
   obtain ⟨gF,hoF,c0,c1⟩:∃ gF,oF=some ⟨gF,0,none⟩/\wr.cell? ⟨gF,i*2,none⟩=some (.string (T fs[i].name))/\wr.cell? ⟨gF,i*2+1,none⟩=some vs[i]:=by
    have hr:=HPr.out.ppr HT.out
    have:=PPr.atF (oF:=oF) (cF:=cF) (by rw [hfl];exact hr) i (by rw [hfl];exact hi) hiv
    rwa [lnk_at mn fn fs i hi] at this
   subst hoF;rw [hvi] at c1;have HVI:=hid hvi
   have HOKi:Hid ((fAt fs i).code.length<=1000/\∀ x∈(fAt fs i).code,PIok x):=by
    rw [Hid,fAt_eq _ _ hi];exact HOK.out fs[i] (List.getElem_mem hi)
   have hcl:=HOKi.out.1
   have HEND:Hid (lnkS mn fn fs i (fAt fs i).code.length=lnk mn fn fs (i+1)):=lnkS_end mn fn fs i hi
   clear hcd hvi hfl HPr;generalize T fs[i].name=nm at *
   obtain ⟨cl,hcll⟩:∃ cl,cl=(fAt fs i).code.length:=⟨_,rfl⟩
   have HCL:=hid hcll;rw [<- hcll] at c1 hcl;clear hcll;go_wp2_with fail
   have HF2:Hid (Blk (wr.alloc (.cells #[.string nm,.slice oC cl cC] 94)) wr.heap.size #[.string nm,.slice oC cl cC] 94):=Blk.new _ _ _
   have HB2:Hid (Bx (wr.alloc (.cells #[.string nm,.slice oC cl cC] 94)) B X #[.slice oM ms.length cM,.slice (some ⟨gF,0,none⟩) fs.length cF] cX):=HBr.out.alloc _
   have HP2:Hid (PPw wT (wr.alloc (.cells #[.string nm,.slice oC cl cC] 94)) bs (.slice oM ms.length cM) (.slice (some ⟨gF,0,none⟩) fs.length cF) ms (lnkS mn fn fs i 0) vs):=HP1.out.quiet ((Mods.refl _ _).alloc _)
   generalize wr.alloc (.cells #[.string nm,.slice oC cl cC] 94)=w1 at *;generalize wr.heap.size=F at *;clear c0 c1 HP1 HBr
   go_loopg [16] cl (fun g iv wx=>∃ j:Nat,iv=.int .i64 j/\PPw wT wx bs (.slice oM ms.length cM) (.slice (some ⟨gF,0,none⟩) fs.length cF) ms (lnkS mn fn fs i j) vs/\Blk wx F #[.string nm,.slice oC cl cC] 94/\Bx wx B X #[.slice oM ms.length cM,.slice (some ⟨gF,0,none⟩) fs.length cF] cX/\j<=cl/\g=cl - j)
   case atStart=>exact ⟨0,rfl,HP2.out,HF2.out,HB2.out,Nat.zero_le _,rfl⟩
   case round =>
    obtain ⟨j,rfl,hpw,hfw,hbw,hjl,rfl⟩:=hrel;have HPW:=hid hpw;have HFW:=hid hfw;have HBW:=hid hbw;clear hpw hfw hbw HP2 HF2 HB2
    by_cases hj:j<cl
    ·have HJ:Hid (j<(fAt fs i).code.length):=by rw [Hid,<- HCL.out];exact hj
     have hjj:=HJ.out
     obtain ⟨g,hoC,y0,y1,y2,y3,y4,y5,y6,y7,y8⟩:=lnkC_cells (HPW.out.codeL hi hiv (Nat.le_of_lt HJ.out)) HVI.out HJ.out
     subst hoC
     have z1:wr.cell? ⟨F,1,none⟩=some (.slice (some ⟨g,0,none⟩) cl cC):=HFW.out.cell 1
     have hx:=HOKi.out.2 (fAt fs i).code[j] (List.getElem_mem HJ.out)
     have HAT:Hid (∀ w',Mods Nil' wr w'->OpAt w' (bs[(fAt fs i).code[j].k]?.getD 0) (fAt fs i).code[j].o):=fun w' m=>tab_at (HT.out.mods (HPW.out.md.trans m)) (fAt fs i).code[j] hx.k
     have hrf:(if (fAt fs i).code[j].s=1 then (fAt fs i).code[j].o.refers else 0)<=1000:=by
      have:=hx.refs
      split<;>omega
     have HNUM:Hid (numP mn fn (fAt fs i).code[j]=if (if (fAt fs i).code[j].s=1 then (fAt fs i).code[j].o.refers else 0)=1 then placeM (T (fAt fs i).code[j].name) fn else if (if (fAt fs i).code[j].s=1 then (fAt fs i).code[j].o.refers else 0)=2 then placeM (T (fAt fs i).code[j].name) mn else (fAt fs i).code[j].num):=rfl
     have HSAME:Hid (numP mn fn (fAt fs i).code[j]=(fAt fs i).code[j].num->lnkS mn fn fs i (j+1)=lnkS mn fn fs i j):=lnkS_same mn fn fs i j HJ.out
     have HG7:Hid (∀ w',Mods Nil' wr w'->w'.cell? ⟨g,j*8+7,none⟩=some (.string (T (fAt fs i).code[j].name))/\w'.cell? ⟨g,j*8+4,none⟩=some (.int .i32 (fAt fs i).code[j].num)/\w'.frozen? ⟨g,j*8+4,none⟩=false):=fun w' m=>by
      obtain ⟨g',e,_,_,_,_,x4,_,_,x7,x8⟩:=lnkC_cells ((HPW.out.quiet m).codeL hi hiv (Nat.le_of_lt HJ.out)) HVI.out HJ.out
      cases e
      exact ⟨x7,x4,x8⟩
     have HNF:Hid (some g≠some F):=(HPW.out.codeL hi hiv (Nat.le_of_lt HJ.out)).notBlk HFW.out (by decide) ∘ (fun e=>by rw [HVI.out];exact e)
     have HNB:Hid (some g≠some B):=(HPW.out.codeL hi hiv (Nat.le_of_lt HJ.out)).notBlk HBW.out.b (by decide) ∘ (fun e=>by rw [HVI.out];exact e)
     have HNX:Hid (some g≠some X):=(HPW.out.codeL hi hiv (Nat.le_of_lt HJ.out)).notBlk HBW.out.x (by decide) ∘ (fun e=>by rw [HVI.out];exact e)
     have HFX:Hid (∀ w',Mods Nil' wr w'->Calls Tryz.prog 45 #[.agg #[.slice oM ms.length cM,.slice (some ⟨gF,0,none⟩) fs.length cF],.string (T (fAt fs i).code[j].name)] w' fun e w2=>e=.returned (.int .i64 (placeM (T (fAt fs i).code[j].name) fn))/\Mods Nil' w' w2):=fun w' m=>by
      have:=(HPW.out.quiet m).fnum (by rw [lnkS_len _ _ _ _ _ hil];exact hf) (T (fAt fs i).code[j].name)
      rw [lnkS_names _ _ _ _ _ hi,<- HFN.out] at this;exact this
     have HMX:Hid (∀ w',Mods Nil' wr w'->Calls Tryz.prog 46 #[.agg #[.slice oM ms.length cM,.slice (some ⟨gF,0,none⟩) fs.length cF],.string (T (fAt fs i).code[j].name)] w' fun e w2=>e=.returned (.int .i64 (placeM (T (fAt fs i).code[j].name) mn))/\Mods Nil' w' w2):=fun w' m=>by
      have:=(HPW.out.quiet m).mnum hm (T (fAt fs i).code[j].name)
      rw [<- HMN.out] at this;exact this
     have hpf:-1<=placeM (T (fAt fs i).code[j].name) fn/\placeM (T (fAt fs i).code[j].name) fn<1001:=by
      have:=placeM_bd (T (fAt fs i).code[j].name) fn
      have e:fn.length=fs.length:=by rw [HFN.out,List.length_map,List.length_map]
      omega
     have hpm:-1<=placeM (T (fAt fs i).code[j].name) mn/\placeM (T (fAt fs i).code[j].name) mn<1001:=by
      have:=placeM_bd (T (fAt fs i).code[j].name) mn
      have e:mn.length=ms.length:=by rw [HMN.out,List.length_map]
      omega
     rw [<- HCL.out] at HVI HEND;clear hx;generalize (fAt fs i).code[j].o=o at *;generalize (fAt fs i).code[j].jump=jmp at *;generalize (fAt fs i).code[j].d=xd at *;generalize (fAt fs i).code[j].s=xs at *;generalize (fAt fs i).code[j].num=xn at *;generalize (fAt fs i).code[j].high=xh at *;generalize placeM (T (fAt fs i).code[j].name) fn=pf at *;generalize placeM (T (fAt fs i).code[j].name) mn=pm at *;generalize T (fAt fs i).code[j].name=xm at *;generalize bs[(fAt fs i).code[j].k]?.getD 0=b at *
     have HRF:Hid (∀ w',Mods Nil' wr w'->Calls Tryz.prog 44 #[.agg #[.pointer (some ⟨b,0,none⟩),.int .u8 xd,.int .u8 xs,.int .i16 jmp,.int .i32 xn,.int .i32 xh,.string ByteArray.empty,.string xm]] w' fun e w2=>e=.returned (.int .i64 ((if xs=1 then o.refers else 0:Nat):Int))/\Mods Nil' w' w2):=fun w' m=>refers_any w' b o (HAT.out w' m) xd xs xn xh jmp _ xm
     generalize (if xs=1 then o.refers else 0)=rf at *
     go_wp2_with fail
     refine (HRF.out _ (Mods.refl _ _)).mono ?_
     rintro e W ⟨rfl,m5⟩
     have HPW5:Hid (PPw wT W bs (.slice oM ms.length cM) (.slice (some ⟨gF,0,none⟩) fs.length cF) ms (lnkS mn fn fs i j) vs):=HPW.out.quiet m5
     have HFW5:Hid (Blk W F #[.string nm,.slice (some ⟨g,0,none⟩) cl cC] 94):=HFW.out.mods m5 id
     have HBW5:Hid (Bx W B X #[.slice oM ms.length cM,.slice (some ⟨gF,0,none⟩) fs.length cF] cX):=HBW.out.mods m5 id
     have HG75:Hid (∀ w',Mods Nil' W w'->w'.cell? ⟨g,j*8+7,none⟩=some (.string xm)/\w'.cell? ⟨g,j*8+4,none⟩=some (.int .i32 xn)/\w'.frozen? ⟨g,j*8+4,none⟩=false):=fun w' m=>HG7.out w' (m5.trans m)
     have HFX5:Hid (∀ w',Mods Nil' W w'->Calls Tryz.prog 45 #[.agg #[.slice oM ms.length cM,.slice (some ⟨gF,0,none⟩) fs.length cF],.string xm] w' fun e w2=>e=.returned (.int .i64 pf)/\Mods Nil' w' w2):=fun w' m=>HFX.out w' (m5.trans m)
     have HMX5:Hid (∀ w',Mods Nil' W w'->Calls Tryz.prog 46 #[.agg #[.slice oM ms.length cM,.slice (some ⟨gF,0,none⟩) fs.length cF],.string xm] w' fun e w2=>e=.returned (.int .i64 pm)/\Mods Nil' w' w2):=fun w' m=>HMX.out w' (m5.trans m)
     clear m5 y0 y1 y2 y3 y4 y5 y6 y7 y8 z1 HRF HAT HPW HFW HBW HG7 HFX HMX
     by_cases h1:rf=1
     ·subst h1;generalize pf=pl at *
      have HNM:Hid (numP mn fn (fAt fs i).code[j]=pl):=by rw [Hid,HNUM.out];rfl
      go_upto_region 10 with fail
      refine wp_region_invL [.inl (.pointer (some ⟨g,j*8,none⟩)),.inl (.agg #[.slice oM ms.length cM,.slice (some ⟨gF,0,none⟩) fs.length cF]),.inl (.pointer (some ⟨g,j*8,none⟩)),.inl (.pointer (some ⟨g,j*8,none⟩)),.inl (.pointer (some ⟨g,j*8+7,none⟩)),.inl (.string xm),.inl (.int .i64 pl),.inl (.int .i32 pl),.inl (.pointer (some ⟨g,j*8,none⟩)),.inl (.pointer (some ⟨g,j*8+4,none⟩)),.inr (fun _ _ w'=>∃ w1,Mods Nil' W w1/\Mods Nil' (w1.setCell ⟨g,j*8+4,none⟩ (.int .i32 pl)) w')]
       (fun L w'=>L 10=false->Mods Nil' W w') (fun i w1 w2=>i≠10->Mods Nil' w1 w2) (by kernel_rfl) (by kernel_rfl) (by kernel_rfl) (fun _=>(Mods.refl _ _).drew) ?_ ?_ (.inr (fun _ _ _=>Mods.refl _ _)) ?_
      ·intro jj s hs i L v w1 w2 hn hj n hr
       refine stableT_of (N:=fun i w1 w2=>i≠10->Mods Nil' w1 w2) (show StableT _ _ _ 0 _ from ?_) jj s hs i L v w1 w2 hn (by rw [Nat.zero_add];exact hj) n hr
       refine ⟨fun i L u w1 w2 hn hk n ⟨w3,m3,m4⟩=>⟨w3,m3,m4.trans (n (fun e=>?_))⟩,trivial⟩
       subst e;rw [hn.1] at hk
       cases hk
      ·intro i L w1 w2 hn hC n h10
       by_cases e:i=10
       ·subst e;simp [updL] at h10
       ·exact (hC (by simpa [updL,Ne.symm e] using h10)).trans (n e)
      refine invT_det rfl (fun L w' hN hC _ K hK=>?_) ?_
      ·go_big_op
       exact hK _ _ _ rfl (fun _=>Mods.refl _ _) rfl
      simp only [Act.put,List.setIfInBounds_toArray,List.set_cons_succ,List.set_cons_zero]
      refine invT_det rfl (fun L w' hN hC _ K hK=>?_) ?_
      ·have hm:=hC (hN.2 10 _ rfl (by decide))
       have e0:w'.cell? ⟨B,0,none⟩=some (.slice oM ms.length cM):=(HBW5.out.mods hm id).cell 0
       have e1:w'.cell? ⟨B,1,none⟩=some (.slice (some ⟨gF,0,none⟩) fs.length cF):=(HBW5.out.mods hm id).cell 1
       go_big_op
       exact hK _ _ _ rfl (fun _=>Mods.refl _ _) rfl
      simp only [Act.put,List.setIfInBounds_toArray,List.set_cons_succ,List.set_cons_zero]
      refine invT_det rfl (fun L w' hN hC _ K hK=>?_) ?_
      ·go_big_op
       exact hK _ _ _ rfl (fun _=>Mods.refl _ _) rfl
      simp only [Act.put,List.setIfInBounds_toArray,List.set_cons_succ,List.set_cons_zero]
      refine invT_det rfl (fun L w' hN hC _ K hK=>?_) ?_
      ·go_big_op
       exact hK _ _ _ rfl (fun _=>Mods.refl _ _) rfl
      simp only [Act.put,List.setIfInBounds_toArray,List.set_cons_succ,List.set_cons_zero]
      refine invT_det rfl (fun L w' hN hC _ K hK=>?_) ?_
      ·go_big_op
       exact hK _ _ _ rfl (fun _=>Mods.refl _ _) rfl
      simp only [Act.put,List.setIfInBounds_toArray,List.set_cons_succ,List.set_cons_zero]
      refine invT_det rfl (fun L w' hN hC _ K hK=>?_) ?_
      ·have hm:=hC (hN.2 10 _ rfl (by decide))
       have e1:w'.cell? ⟨g,j*8+7,none⟩=some (.string xm):=(HG75.out w' hm).1
       go_big_op
       exact hK _ _ _ rfl (fun _=>Mods.refl _ _) rfl
      simp only [Act.put,List.setIfInBounds_toArray,List.set_cons_succ,List.set_cons_zero]
      refine invT_det rfl (fun L w' hN hC _ K hK=>?_) ?_
      ·have hm:=hC (hN.2 10 _ rfl (by decide))
       go_big_op
       refine (HFX5.out w' hm).mono ?_
       rintro e w2 ⟨rfl,m2⟩
       exact hK _ _ _ rfl (fun _=>m2) rfl
      simp only [Act.put,List.setIfInBounds_toArray,List.set_cons_succ,List.set_cons_zero]
      refine invT_det rfl (fun L w' hN hC _ K hK=>?_) ?_
      ·go_big_op
       exact hK _ _ _ rfl (fun _=>Mods.refl _ _) rfl
      simp only [Act.put,List.setIfInBounds_toArray,List.set_cons_succ,List.set_cons_zero]
      refine invT_det rfl (fun L w' hN hC _ K hK=>?_) ?_
      ·go_big_op
       exact hK _ _ _ rfl (fun _=>Mods.refl _ _) rfl
      simp only [Act.put,List.setIfInBounds_toArray,List.set_cons_succ,List.set_cons_zero]
      refine invT_det rfl (fun L w' hN hC _ K hK=>?_) ?_
      ·go_big_op
       exact hK _ _ _ rfl (fun _=>Mods.refl _ _) rfl
      simp only [Act.put,List.setIfInBounds_toArray,List.set_cons_succ,List.set_cons_zero]
      refine invT_any rfl (fun L w' hN hC _ K hK=>?_) (fun x10=>?_)
      ·have hm:=hC hN.1
       have e1:=(HG75.out w' hm).2.1
       have e2:=(HG75.out w' hm).2.2
       go_big_op
       exact hK _ _ (.int .i64 0) rfl (fun h=>absurd rfl h) ⟨w',hm,Mods.refl _ _⟩
      simp only [Act.put]
      refine invT_nil (fun L w' hL hC hA=>?_)
      obtain ⟨w8,m8,m9⟩:∃ w1,Mods Nil' W w1/\Mods Nil' (w1.setCell ⟨g,j*8+4,none⟩ (.int .i32 pl)) w':=allT_mem hA 10
      have HPN:Hid (PPw wT w' bs (.slice oM ms.length cM) (.slice (some ⟨gF,0,none⟩) fs.length cF) ms (lnkS mn fn fs i (j+1)) vs):=((HPW5.out.quiet m8).lnkNum hi hiv HVI.out HJ.out pl HNM.out).quiet m9
      have HFN:Hid (Blk w' F #[.string nm,.slice (some ⟨g,0,none⟩) cl cC] 94):=((HFW5.out.mods m8 id).setOther (fun e=>HNF.out (congrArg some e)) _).mods m9 id
      have HBN:Hid (Bx w' B X #[.slice oM ms.length cM,.slice (some ⟨gF,0,none⟩) fs.length cF] cX):=((HBW5.out.mods m8 id).setOther (fun e=>HNB.out (congrArg some e)) (fun e=>HNX.out (congrArg some e)) _).mods m9 id
      clear m8 m9 hA hC hL HPW5 HFW5 HBW5 HG75
      try simp only [Exit.then]
      go_wp2_with fail
      go_roundg (cl - (j+1))
      case measure=>omega
      case rel=>exact ⟨j+1,by go_num,HPN.out,HFN.out,HBN.out,by omega,rfl⟩
     ·have t1:decide ((rf:Int)=1)=false:=by simp;omega
      have t2:((rf:Int)==1)=false:=by simp;omega
      by_cases h2:rf=2
      ·subst h2;generalize pm=pl at *
       have HNM:Hid (numP mn fn (fAt fs i).code[j]=pl):=by rw [Hid,HNUM.out];rfl
       go_upto_region 12 with fail
       refine wp_region_invL [.inl (.pointer (some ⟨g,j*8,none⟩)),.inl (.agg #[.slice oM ms.length cM,.slice (some ⟨gF,0,none⟩) fs.length cF]),.inl (.pointer (some ⟨g,j*8,none⟩)),.inl (.pointer (some ⟨g,j*8,none⟩)),.inl (.pointer (some ⟨g,j*8+7,none⟩)),.inl (.string xm),.inl (.int .i64 pl),.inl (.int .i32 pl),.inl (.pointer (some ⟨g,j*8,none⟩)),.inl (.pointer (some ⟨g,j*8+4,none⟩)),.inr (fun _ _ w'=>∃ w1,Mods Nil' W w1/\Mods Nil' (w1.setCell ⟨g,j*8+4,none⟩ (.int .i32 pl)) w')]
        (fun L w'=>L 10=false->Mods Nil' W w') (fun i w1 w2=>i≠10->Mods Nil' w1 w2) (by kernel_rfl) (by kernel_rfl) (by kernel_rfl) (fun _=>(Mods.refl _ _).drew) ?_ ?_ (.inr (fun _ _ _=>Mods.refl _ _)) ?_
       ·intro jj s hs i L v w1 w2 hn hj n hr
        refine stableT_of (N:=fun i w1 w2=>i≠10->Mods Nil' w1 w2) (show StableT _ _ _ 0 _ from ?_) jj s hs i L v w1 w2 hn (by rw [Nat.zero_add];exact hj) n hr
        refine ⟨fun i L u w1 w2 hn hk n ⟨w3,m3,m4⟩=>⟨w3,m3,m4.trans (n (fun e=>?_))⟩,trivial⟩
        subst e;rw [hn.1] at hk
        cases hk
       ·intro i L w1 w2 hn hC n h10
        by_cases e:i=10
        ·subst e;simp [updL] at h10
        ·exact (hC (by simpa [updL,Ne.symm e] using h10)).trans (n e)
       refine invT_det rfl (fun L w' hN hC _ K hK=>?_) ?_
       ·go_big_op
        exact hK _ _ _ rfl (fun _=>Mods.refl _ _) rfl
       simp only [Act.put,List.setIfInBounds_toArray,List.set_cons_succ,List.set_cons_zero]
       refine invT_det rfl (fun L w' hN hC _ K hK=>?_) ?_
       ·have hm:=hC (hN.2 10 _ rfl (by decide))
        have e0:w'.cell? ⟨B,0,none⟩=some (.slice oM ms.length cM):=(HBW5.out.mods hm id).cell 0
        have e1:w'.cell? ⟨B,1,none⟩=some (.slice (some ⟨gF,0,none⟩) fs.length cF):=(HBW5.out.mods hm id).cell 1
        go_big_op
        exact hK _ _ _ rfl (fun _=>Mods.refl _ _) rfl
       simp only [Act.put,List.setIfInBounds_toArray,List.set_cons_succ,List.set_cons_zero]
       refine invT_det rfl (fun L w' hN hC _ K hK=>?_) ?_
       ·go_big_op
        exact hK _ _ _ rfl (fun _=>Mods.refl _ _) rfl
       simp only [Act.put,List.setIfInBounds_toArray,List.set_cons_succ,List.set_cons_zero]
       refine invT_det rfl (fun L w' hN hC _ K hK=>?_) ?_
       ·go_big_op
        exact hK _ _ _ rfl (fun _=>Mods.refl _ _) rfl
       simp only [Act.put,List.setIfInBounds_toArray,List.set_cons_succ,List.set_cons_zero]
       refine invT_det rfl (fun L w' hN hC _ K hK=>?_) ?_
       ·go_big_op
        exact hK _ _ _ rfl (fun _=>Mods.refl _ _) rfl
       simp only [Act.put,List.setIfInBounds_toArray,List.set_cons_succ,List.set_cons_zero]
       refine invT_det rfl (fun L w' hN hC _ K hK=>?_) ?_
       ·have hm:=hC (hN.2 10 _ rfl (by decide))
        have e1:w'.cell? ⟨g,j*8+7,none⟩=some (.string xm):=(HG75.out w' hm).1
        go_big_op
        exact hK _ _ _ rfl (fun _=>Mods.refl _ _) rfl
       simp only [Act.put,List.setIfInBounds_toArray,List.set_cons_succ,List.set_cons_zero]
       refine invT_det rfl (fun L w' hN hC _ K hK=>?_) ?_
       ·have hm:=hC (hN.2 10 _ rfl (by decide))
        go_big_op
        refine (HMX5.out w' hm).mono ?_
        rintro e w2 ⟨rfl,m2⟩
        exact hK _ _ _ rfl (fun _=>m2) rfl
       simp only [Act.put,List.setIfInBounds_toArray,List.set_cons_succ,List.set_cons_zero]
       refine invT_det rfl (fun L w' hN hC _ K hK=>?_) ?_
       ·go_big_op
        exact hK _ _ _ rfl (fun _=>Mods.refl _ _) rfl
       simp only [Act.put,List.setIfInBounds_toArray,List.set_cons_succ,List.set_cons_zero]
       refine invT_det rfl (fun L w' hN hC _ K hK=>?_) ?_
       ·go_big_op
        exact hK _ _ _ rfl (fun _=>Mods.refl _ _) rfl
       simp only [Act.put,List.setIfInBounds_toArray,List.set_cons_succ,List.set_cons_zero]
       refine invT_det rfl (fun L w' hN hC _ K hK=>?_) ?_
       ·go_big_op
        exact hK _ _ _ rfl (fun _=>Mods.refl _ _) rfl
       simp only [Act.put,List.setIfInBounds_toArray,List.set_cons_succ,List.set_cons_zero]
       refine invT_any rfl (fun L w' hN hC _ K hK=>?_) (fun x10=>?_)
       ·have hm:=hC hN.1
        have e1:=(HG75.out w' hm).2.1
        have e2:=(HG75.out w' hm).2.2
        go_big_op
        exact hK _ _ (.int .i64 0) rfl (fun h=>absurd rfl h) ⟨w',hm,Mods.refl _ _⟩
       simp only [Act.put]
       refine invT_nil (fun L w' hL hC hA=>?_)
       obtain ⟨w8,m8,m9⟩:∃ w1,Mods Nil' W w1/\Mods Nil' (w1.setCell ⟨g,j*8+4,none⟩ (.int .i32 pl)) w':=allT_mem hA 10
       have HPN:Hid (PPw wT w' bs (.slice oM ms.length cM) (.slice (some ⟨gF,0,none⟩) fs.length cF) ms (lnkS mn fn fs i (j+1)) vs):=((HPW5.out.quiet m8).lnkNum hi hiv HVI.out HJ.out pl HNM.out).quiet m9
       have HFN:Hid (Blk w' F #[.string nm,.slice (some ⟨g,0,none⟩) cl cC] 94):=((HFW5.out.mods m8 id).setOther (fun e=>HNF.out (congrArg some e)) _).mods m9 id
       have HBN:Hid (Bx w' B X #[.slice oM ms.length cM,.slice (some ⟨gF,0,none⟩) fs.length cF] cX):=((HBW5.out.mods m8 id).setOther (fun e=>HNB.out (congrArg some e)) (fun e=>HNX.out (congrArg some e)) _).mods m9 id
       clear m8 m9 hA hC hL HPW5 HFW5 HBW5 HG75
       try simp only [Exit.then]
       go_wp2_with fail
       go_roundg (cl - (j+1))
       case measure=>omega
       case rel=>exact ⟨j+1,by go_num,HPN.out,HFN.out,HBN.out,by omega,rfl⟩
      ·have t3:decide ((rf:Int)=2)=false:=by simp;omega
       have t4:((rf:Int)==2)=false:=by simp;omega
       have HPN:Hid (PPw wT W bs (.slice oM ms.length cM) (.slice (some ⟨gF,0,none⟩) fs.length cF) ms (lnkS mn fn fs i (j+1)) vs):=by
        rw [Hid,HSAME.out (by rw [HNUM.out,if_neg h1,if_neg h2])]
        exact HPW5.out
       clear h1 h2;go_wp2_with fail
       go_roundg (cl - (j+1))
       case measure=>omega
       case rel=>exact ⟨j+1,by go_num,HPN.out,HFW5.out,HBW5.out,by omega,rfl⟩
    ·obtain rfl:j=cl:=by omega
     have HPN:Hid (PPw wT wr bs (.slice oM ms.length cM) (.slice (some ⟨gF,0,none⟩) fs.length cF) ms (lnk mn fn fs (i+1)) vs):=by
      rw [Hid,<- HEND.out,<- HCL.out];exact HPW.out
     go_wp2_with fail
     go_roundg (fs.length - (i+1))
     case measure=>omega
     case rel=>exact ⟨i+1,by go_num,HPN.out,HBW.out,by omega,rfl⟩
  ·obtain rfl:i=fs.length:=by omega
   have HEN:Hid (PPw wT wr bs (.slice oM ms.length cM) (.slice oF fs.length cF) ms (fs.map (PFn.linked mn fn)) vs):=by
    rw [Hid,<- lnk_all];exact HPr.out
   go_wp2_with fail
   go_end0
   exact ⟨rfl,HEN.out,HBr.out.x⟩
section
variable {α : Type} [Inhabited α]
theorem flatK_list (enc:α->List Value) (k:Nat) (hk:∀ x,(enc x).length=k) (l:List α):(flatK enc k l.toArray).toList=l.flatMap enc:=by
 have hl:(l.flatMap enc).length=l.length*k:=by
  induction l with
  | nil=>simp
  | cons x l ih=>rw [List.flatMap_cons,List.length_append,ih,hk,List.length_cons,Nat.succ_mul,Nat.add_comm]
 refine List.ext_getElem (by rw [Array.length_toList,size_flatK,hl];rfl) fun t h1 h2=>?_
 have ht:t<l.length*k:=by rw [<- hl];exact h2
 have k0:0<k:=by
  rcases Nat.eq_zero_or_pos k with h | h
  ·subst h;simp at ht
  ·exact h
 have hi:t / k<l.length:=Nat.div_lt_of_lt_mul (by rw [Nat.mul_comm];exact ht)
 have hc:=Nat.mod_lt t k0
 have e:=flat_get enc k hk l (t / k) (t % k) hi hc
 rw [Nat.div_add_mod' t k,List.getElem?_eq_getElem h2] at e
 have e1:(flatK enc k l.toArray).toList[t]=(flatK enc k l.toArray)[t]!:=by
  rw [getElem!_pos (flatK enc k l.toArray) t (by simpa using h1)];simp
 rw [e1,get_flatK enc k l.toArray t (by simpa using ht)]
 have e2:l.toArray[t / k]! = l[t / k]:=by rw [getElem!_pos l.toArray (t / k) (by simpa using hi)];simp
 rw [e2]
 have e3:(enc l[t / k])[t % k]?=some (enc l[t / k])[t % k]!:=by
  rw [getElem!_pos (enc l[t / k]) (t % k) (by rw [hk];exact hc),List.getElem?_eq_getElem (by rw [hk];exact hc)]
 rw [e3] at e
 exact (Option.some.inj e).symm
theorem perm_list {d d':Array α} {n:Nat} (hn:n=d.size) (h:PermIn 0 n d d'):d'.toList.Perm d.toList:=by
 obtain ⟨hs,_,hp⟩:=h;subst hn
 have e1:(d'.extract 0 d.size).toList=d'.toList:=by rw [<- hs];simp
 have e2:(d.extract 0 d.size).toList=d.toList:=by simp
 rwa [e1,e2] at hp
theorem sorted_list {lt:α->α->Bool} {d:Array α} {n:Nat} (hn:n=d.size) (h:SortedIn lt 0 n d):d.toList.Pairwise (fun x y=>lt y x=false):=by
 rw [List.pairwise_iff_getElem];intro i j hi hj hij
 have:=h i j (Nat.zero_le _) hij (by rw [hn];simpa using hj)
 rw [getElem!_pos d i (by simpa using hi),getElem!_pos d j (by simpa using hj)] at this
 simpa using this
theorem grow_blk {w:World} {g:Nat} {o:Obj} {os:Array Obj} (h:w.heap[g]?=some o):(grow w os).heap[g]?=some o:=by
 have hg:=(Array.getElem?_eq_some_iff.1 h).1
 show (w.heap++os)[g]?=_
 rw [Array.getElem?_append_left hg,h]
theorem sortWorld_sl {w:World} {e:TypeId} (enc:α->List Value) (k:Nat) (hk:∀ x,(enc x).length=k) {g cap n:Nat} {l l':List α} (hl:l'.length=l.length) (hs:Sl w e k (.slice (some ⟨g,0,none⟩) l.length cap) l.length (l.flatMap enc)) (os:Array Obj) :
  Sl (sortWorldK enc k w g 0 n l'.toArray os) e k (.slice (some ⟨g,0,none⟩) l.length cap) l.length (l'.flatMap enc)/\Mods (fun b=>b=g) w (sortWorldK enc k w g 0 n l'.toArray os):=by
 have hF:=flatK_list enc k hk l'
 have hFs:(flatK enc k l'.toArray).size=l.length*k:=by rw [size_flatK];simp [hl]
 have hlen:(l'.flatMap enc).length=l.length*k:=by rw [<- hF,Array.length_toList,hFs]
 generalize flatK enc k l'.toArray=F at hF hFs
 rcases hs.2 with ⟨h,_⟩ | ⟨g',cap',cur,h,h0,hg,hn,hm,hcs,ht⟩
 ·cases h
 cases h
 have hb:(sortWorldK enc k w g 0 n l'.toArray os).heap[g]?=some (.cells (putCells id 0 (flatK enc k l'.toArray) cur) e):=by
  refine grow_blk ?_
  show (w.heap.modify g _)[g]?=_
  rw [Array.getElem?_modify,if_pos rfl,hg]
  rfl
 refine ⟨⟨hlen,.inr ⟨g,cap,_,rfl,h0,hb,hn,hm,?_,?_⟩⟩,⟨rfl,rfl,rfl,?_,fun b hb1 hb2=>?_⟩⟩
 ·unfold putCells;rw [Array.size_mapIdx,hcs]
 ·rw [<- flatK_list enc k hk l']
  have hFs2:(flatK enc k l'.toArray).size=l.length*k:=by rw [size_flatK];simp [hl]
  have hcur:l.length*k<=cur.size:=by rw [hcs];exact Nat.mul_le_mul_right _ hn
  refine List.ext_getElem (by simp [putCells,hl];omega) fun t h1 h2=>?_
  have h3:t<(flatK enc k l'.toArray).size:=by simpa using h2
  rw [List.getElem_take]
  simp only [putCells,Array.getElem_toList,Array.getElem_mapIdx]
  rw [if_pos ⟨Nat.zero_le _,by omega⟩,Nat.sub_zero,getElem!_pos _ t h3]
  rfl
 ·show w.heap.size<=(w.heap.modify g _++os).size
  simp
 ·show (w.heap.modify g _++os)[b]?=_
  rw [Array.getElem?_append_left (by simpa using hb1),Array.getElem?_modify,if_neg (fun e=>hb2 e.symm)]
theorem holdsK_sl {w:World} {e:TypeId} (enc:α->List Value) (k:Nat) (hk:∀ x,(enc x).length=k) {g cap:Nat} {l:List α} (hs:Sl w e k (.slice (some ⟨g,0,none⟩) l.length cap) l.length (l.flatMap enc)):HoldsK enc k w g 0 l.toArray/\g<w.heap.size:=by
 rcases hs.2 with ⟨h',_⟩ | ⟨g',cap',cs,h',_,hg,_,_,_,ht⟩
 ·cases h'
 cases h'
 have hb:Blk w g cs e:=hg
 refine ⟨fun j hj=>?_,hb.lt⟩
 rw [Nat.zero_add]
 refine ⟨?_,hb.frozen _⟩
 have hj':j<l.length*k:=by rw [size_flatK] at hj;simpa using hj
 rw [take_cell hb ht j hj',<- flatK_list enc k hk l,getElem!_pos _ j hj,List.getElem?_eq_getElem (by simpa using hj)]
 simp
theorem sort_sl {ρ:Go.Shelf.Ren} (L:SlLaysF0.n6 Tryz.prog ρ) (k:Nat) (aE:∀ w,(isAgg (ρ.t 24)).run Tryz.prog w=.ok true w) (zE:∀ w,(Go.sizeOf (ρ.t 24)).run Tryz.prog w=.ok k w) (enc:α->List Value) (hk:∀ x,(enc x).length=k) (h1:∀ x,∀ v∈enc x,v.oneCell'=true) (cf:α->α->Int) (hO:SWO (ltOf cf)) (f:Nat)
  (eg:∀ args w,(callFunc f args).run Tryz.prog w=.ok (.enter f args) w) (hcmp:∀ (w:World) x y,Calls Tryz.prog f #[.agg (enc x).toArray,.agg (enc y).toArray] w fun e w'=>e=.returned (.int .i64 (cf x y))/\∃ q os',w'=grow (w.drewN q) os')
  (w:World) (e:TypeId) (v:Value) (l:List α) (g cap:Nat) (hv:v=.slice (some ⟨g,0,none⟩) l.length cap) (hl:l.length<=1000000) (hs:Sl w e k v l.length (l.flatMap enc)) :
  Calls Tryz.prog (ρ.f 6) #[v,.func (.func f) #[] #[]] w fun r w'=>r=.returned (.tuple #[])/\∃ l':List α,l'.Perm l/\l'.Pairwise (fun x y=>ltOf cf y x=false)/\Sl w' e k v l'.length (l'.flatMap enc)/\Mods (fun b=>v.ownBlock=some b) w w':=by
 subst hv;obtain ⟨hH,hg⟩:=holdsK_sl enc k hk hs
 have hcon:=AnyQ.slices_SortFunc L k aE zE enc hk h1 cf hO f #[] g 0 cap l.toArray w eg (fun m os dk _ x y=>hcmp _ x y) hH hg (by simp;omega)
 refine hcon.mono ?_
 rintro r w' ⟨rfl,d',n,os,hp,hso,rfl⟩
 have hp':=perm_list rfl hp
 have hs':=sorted_list (d:=d') (by rw [hp.1]) hso
 have e1:d'.toList.length=l.length:=by rw [hp'.length_eq]
 obtain ⟨hA,hB⟩:=sortWorld_sl (n:=n) enc k hk (l':=d'.toList) e1 hs os
 refine ⟨rfl,d'.toList,by simpa using hp',hs',?_,?_⟩
 ·rw [e1];exact hA
 ·exact ⟨hB.os,hB.tape,hB.output,hB.size,fun b hb hn=>hB.block b hb (fun e=>hn (by rw [e];rfl))⟩
end
theorem ba_ne {a b:ByteArray} (h:a≠b):(a==b)=false:=by
 cases c:(a==b) with
 | false=>rfl
 | true=>exact absurd ((MapKept.bytes_beq a b).1 c) h
theorem ba_self (a:ByteArray):(a==a)=true:=(MapKept.bytes_beq a a).2 rfl
def kvFind (s:ByteArray):List (ByteArray × Value)->Nat->Option (Nat × Value)
 | [],_=>none
 | (k,v)::l,i=>if s==k then some (i,v) else kvFind s l (i+1)
def entC (e:MapEntry):Value × Value:=(e.key,e.val)
def kvC (p:ByteArray × Value):Value × Value:=(.string p.1,p.2)
theorem findNow_str (s:ByteArray):∀ (l:List MapEntry) (kv:List (ByteArray × Value)) (i:Nat),l.map entC=kv.map kvC->Instr.findNow .string (.string s) l i=some (kvFind s kv i)
 | [],[],_,_=>rfl
 | [],_::_,_,h=>by simp at h
 | _::_,[],_,h=>by simp at h
 | e::l,(k,v)::kv,i,h=>by
  rw [List.map_cons,List.map_cons] at h
  injection h with h1 h2
  injection h1 with h3 h4
  unfold Instr.findNow kvFind;rw [h3]
  simp only [Instr.sameNow]
  by_cases c:(s==k)=true
  ·rw [c];simp only [if_true];rw [h4]
  ·have c':(s==k)=false:=by simpa using c
   rw [c']
   simp only [Bool.false_eq_true,if_false]
   exact findNow_str s l kv (i+1) h2
theorem kvFind_val (s:ByteArray):∀ (kv:List (ByteArray × Value)) (i:Nat),(kvFind s kv i).map (·.2)=(kv.find? (fun p=>s==p.1)).map (·.2)
 | [],_=>rfl
 | (k,v)::kv,i=>by
  unfold kvFind;rw [List.find?_cons]
  by_cases c:(s==k)=true
  ·simp [c]
  ·have c':(s==k)=false:=by simpa using c
   simp only [c',Bool.false_eq_true,if_false]
   exact kvFind_val s kv (i+1)
def MapOf (w:World) (b:Nat) (f:ByteArray->Option Value):Prop:=∃ (es:Array MapEntry) (clock:Nat) (kv:List (ByteArray × Value)),w.heap[b]?=some (.map es clock)/\es.toList.map entC=kv.map kvC/\∀ s,(kv.find? (fun p=>s==p.1)).map (·.2)=f s
theorem MapOf.new (w:World):MapOf (w.alloc (.map #[] 0)) w.heap.size (fun _=>none):=⟨#[],0,[],heap_alloc_new w _,rfl,fun _=>rfl⟩
theorem MapOf.lt {w:World} {b:Nat} {f:ByteArray->Option Value} (h:MapOf w b f):b<w.heap.size:=by
 obtain ⟨_,_,_,hb,_⟩:=h
 exact (Array.getElem?_eq_some_iff.1 hb).1
theorem MapOf.mods {w w':World} {b:Nat} {f:ByteArray->Option Value} {S:Nat->Prop} (h:MapOf w b f) (m:Mods S w w') (hS:¬ S b):MapOf w' b f:=by
 have hl:=h.lt
 obtain ⟨es,clock,kv,hb,h2⟩:=h
 exact ⟨es,clock,kv,(m.block b hl hS).trans hb,h2⟩
theorem MapOf.lookup {P:Program} {w:World} {b:Nat} {f:ByteArray->Option Value} (h:MapOf w b f) {t kt et:TypeId} (hm:P.underlying t=some (.map kt et)) (hk:P.underlying kt=some .string) {z:Value} (hz:(zeroValue et).run P w=.ok z w) (s:ByteArray) :
  (Instr.lookup t (.map (some b)) (.string s) true).run P w=.ok (.tuple #[(f s).getD z,.bool (f s).isSome]) w:=by
 obtain ⟨es,clock,kv,hb,he,hf⟩:=h
 have hc:(Instr.checkKey es.isEmpty 10000 kt (.string s)).run P w=.ok () w:=MapKept.run_checkKey (k:=.string s) hk (by simp [MapKept.IsKey]) _ 9999
 have hfn:=MapKept.run_findKey (P:=P) (w:=w) hk (findNow_str s es.toList kv 0 he)
 have hv:=kvFind_val s kv 0
 rw [hf s] at hv;unfold Instr.lookup
 simp only [Sem.run_bind,run_underlying hm,MapKept.run_getObj_map hb,hc,hfn,Result.andThen,Sem.run_pure]
 cases hq:kvFind s kv 0 with
 | none =>
  rw [hq] at hv;rw [<- hv]
  simp [hz,Result.andThen]
 | some q =>
  rw [hq] at hv;rw [<- hv]
  simp
theorem kvFind_at (s:ByteArray):∀ (kv:List (ByteArray × Value)) (i j:Nat) (v:Value),kvFind s kv i=some (j,v)->∃ n,j=i+n/\n<kv.length/\(∃ v',kv[n]?=some (s,v'))/\∀ u s',((kv.set n (s,u)).find? (fun p=>s'==p.1)).map (·.2)=if s'=s then some u else (kv.find? (fun p=>s'==p.1)).map (·.2)
 | [],_,_,_,h=>by simp [kvFind] at h
 | (k,w)::kv,i,j,v,h=>by
  unfold kvFind at h
  by_cases c:(s==k)=true
  ·rw [if_pos c] at h
   cases h
   have e:s=k:=(MapKept.bytes_beq s k).1 c
   subst e
   refine ⟨0,rfl,by simp,⟨w,rfl⟩,fun u s'=>?_⟩
   rw [List.set_cons_zero,List.find?_cons,List.find?_cons]
   by_cases d:s'=s
   ·subst d;simp [ba_self]
   ·have d':(s'==s)=false:=ba_ne d
    simp only [d',if_neg d]
  ·rw [if_neg c] at h
   obtain ⟨n,e,hn,⟨v',hv'⟩,hs⟩:=kvFind_at s kv (i+1) j v h
   refine ⟨n+1,by omega,by simpa using hn,⟨v',by simpa using hv'⟩,fun u s'=>?_⟩
   rw [List.set_cons_succ,List.find?_cons,List.find?_cons]
   by_cases d:(s'==k)=true
   ·have e:s'=k:=(MapKept.bytes_beq s' k).1 d
    subst e
    have:s'≠s:=fun e=>c (by rw [e];exact ba_self _)
    simp [this,ba_self]
   ·have d':(s'==k)=false:=by simpa using d
    simp only [d']
    exact hs u s'
theorem kvFind_none (s:ByteArray):∀ (kv:List (ByteArray × Value)) (i:Nat),kvFind s kv i=none->kv.find? (fun p=>s==p.1)=none
 | [],_,_=>rfl
 | (k,w)::kv,i,h=>by
  unfold kvFind at h
  by_cases c:(s==k)=true
  ·rw [if_pos c] at h;cases h
  ·rw [if_neg c] at h
   have c':(s==k)=false:=by simpa using c
   rw [List.find?_cons]
   simp only [c']
   exact kvFind_none s kv (i+1) h
theorem MapOf.update {P:Program} {w:World} {b:Nat} {f:ByteArray->Option Value} (h:MapOf w b f) {t kt et:TypeId} (hm:P.underlying t=some (.map kt et)) (hk:P.underlying kt=some .string) (s:ByteArray) (u:Value) :
  ∃ w',(Instr.mapUpdate t (.map (some b)) (.string s) u).run P w=.ok () w'/\MapOf w' b (fun s'=>if s'=s then some u else f s')/\Mods (fun k=>k=b) w w':=by
 obtain ⟨es,clock,kv,hb,he,hf⟩:=h
 have hlt:=(Array.getElem?_eq_some_iff.1 hb).1
 have hc:(Instr.checkKey false 10000 kt (.string s)).run P w=.ok () w:=MapKept.run_checkKey (k:=.string s) hk (by simp [MapKept.IsKey]) _ 9999
 have hfn:=MapKept.run_findKey (P:=P) (w:=w) hk (findNow_str s es.toList kv 0 he)
 have hmods:∀ o:Obj,Mods (fun k=>k=b) w { w with heap:=w.heap.setIfInBounds b o }:=fun o=>⟨rfl,rfl,rfl,by simp,fun k _ hn=>(MapKept.heap_set hb).2 k hn⟩
 cases hq:kvFind s kv 0 with
 | none =>
  rw [hq] at hfn
  refine ⟨{ w with heap:=w.heap.setIfInBounds b (.map (es.push { key:=.string s,val:=u,born:=clock }) (clock+1)) },?_,⟨_,_,kv++[(s,u)],(MapKept.heap_set hb).1,?_,fun s'=>?_⟩,hmods _⟩
  ·unfold Instr.mapUpdate
   simp [run_underlying hm,MapKept.run_getObj_map hb,hc,hfn,MapKept.run_setObj_map _ hb,Result.andThen]
  ·simp [he,entC,kvC]
  ·have hn:=kvFind_none s kv 0 hq
   rw [List.find?_append]
   by_cases d:s'=s
   ·subst d;rw [hn]
    simp [ba_self]
   ·have d':(s'==s)=false:=ba_ne d
    show _=if s'=s then some u else f s'
    rw [if_neg d,<- hf s']
    cases kv.find? (fun p=>s'==p.1) with
    | none=>simp [d']
    | some q=>simp
 | some q =>
  obtain ⟨j,v⟩:=q;rw [hq] at hfn
  obtain ⟨n,e,hn,⟨v',hv'⟩,hs⟩:=kvFind_at s kv 0 j v hq
  rw [Nat.zero_add] at e;subst e
  have hjl:j<es.size:=by
   have:=congrArg List.length he
   simp at this
   omega
  have hej:entC es[j]=kvC (s,v'):=by
   have:=congrArg (fun l:List (Value × Value)=>l[j]?) he
   simp only [List.getElem?_map,hv',Option.map_some] at this
   rw [Array.getElem?_toList,Array.getElem?_eq_getElem hjl] at this
   simpa using this
  have hkey:es[j].key=.string s:=congrArg Prod.fst hej
  have hst:(Instr.keyThatStays (((es[j]?).map (·.key)).getD (.string s)) (.string s)).run P w=.ok (.string s) w:=by
   rw [Array.getElem?_eq_getElem hjl,Option.map_some,Option.getD_some,hkey]
   exact MapKept.run_keyThatStays (d:=.string) (by simp [MapKept.IsKey])
  refine ⟨{ w with heap:=w.heap.setIfInBounds b (.map (es.modify j fun e=>{ e with key:=.string s,val:=u }) clock) },?_,⟨_,_,kv.set j (s,u),(MapKept.heap_set hb).1,?_,fun s'=>?_⟩,hmods _⟩
  ·unfold Instr.mapUpdate
   simp [run_underlying hm,MapKept.run_getObj_map hb,hc,hfn,hst,MapKept.run_setObj_map _ hb,Result.andThen]
  ·rw [List.map_set,<- he]
   refine List.ext_getElem (by simp) fun t h1 h2=>?_
   simp only [List.getElem_map,Array.getElem_toList,Array.getElem_modify,List.getElem_set]
   split
   ·rfl
   ·rfl
  ·rw [hs u s',hf s']
end Go.Proofs.YtoknbkfclhmapaaGreatDoor
