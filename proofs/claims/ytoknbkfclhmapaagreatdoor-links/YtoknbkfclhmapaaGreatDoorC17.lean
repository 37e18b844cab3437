import Derived.Test.YtoknbkfclhmapaaGreatDoorC16
import Derived.BigRegion
import Derived.Deep.RegionLaw
import Derived.Deep.LoopGhost
import Derived.Deep.DeepCutAuto
namespace Go.Proofs.YtoknbkfclhmapaaGreatDoor
open Go.RowKit
structure BAt (w0:World) (pb fb rb off:Nat) (cs:Array Value) (s:ByteArray) (r0:RS) (slots g:Nat) (vJ at_:Value) (w:World):Prop where
 ex:∃ (r:RS) (p f:Nat) (ls:List RIns) (ats js:List Int) (vL vA:Value),at_=.int .i64 p/\BInv w0 fb rb off cs s r ls ats js vL vA vJ w /\
  bodyL s slots f r p ls ats js=bodyL s slots (slots+1) r0 0 [] [] []/\slots<p+f/\ls.length<=p/\p<=slots+1/\ats.length=ls.length/\js.length=ls.length/\g=f
set_option maxRecDepth 100000 in
set_option maxHeartbeats 1000000 in
theorem body_any (hlab:LabSaid) (pb fb rb n nf cap nm cM:Nat) (oM:Option Addr) (cs:Array Value) (s:ByteArray) (r:RS) (slots:Nat) (w:World) (hs:s.size<=maxLen) (hn:n<nf) (hnf:nf<=255) (hnm:nm<=255) (hsl:slots<=200)
  (hp:Blk w pb #[.slice oM nm cM,.slice (some ⟨fb,0,none⟩) nf cap] 41) (hf:Blk w fb cs 46) (hr:RdAt w rb s r) (hpf:pb≠fb) (hpr:pb≠rb) (hfr:fb≠rb) (hsz:n*8+8<=cs.size)
  (c1:cs[n*8+1]?=some (.slice none 0 0)) (c2:cs[n*8+2]?=some (.slice none 0 0)) (c3:cs[n*8+3]?=some (.int .i64 slots)) (c4:cs[n*8+4]?=some (.slice none 0 0)) (c5:cs[n*8+5]?=some (.slice none 0 0)) :
  Calls Tryz.prog 27 #[.pointer (some ⟨pb,0,none⟩),.pointer (some ⟨rb,0,none⟩),.int .i64 n,.bool false] w fun e w'=>BodyPost w fb rb (n*8) cs s slots r e w':=by
 obtain ⟨iI,hiI,hzI,hsI,hbI⟩:=info_parts info_ins;obtain ⟨iN,hiN,hzN,hsN,hbN⟩:=info_parts info_int
 have lr:=hr.lt
 have lf:=hf.lt
 have hinit:BInv w fb rb (n*8) cs s r [] [] [] (.slice none 0 0) (.slice none 0 0) (.slice none 0 0) w :=
  ⟨hr,by
   have e:((cs.setIfInBounds (n*8+1) (.slice none 0 0)).setIfInBounds (n*8+2) (.slice none 0 0))=cs:=by
    apply Array.ext_getElem?
    intro i;rw [Array.getElem?_setIfInBounds,Array.getElem?_setIfInBounds]
    simp only [Array.size_setIfInBounds]
    split
    ·rename_i e;subst e;rw [c2];simp;omega
    ·split
     ·rename_i e;subst e;rw [c1];simp;omega
     ·rfl
   rw [e];exact hf,Sl.nil _ _ _,Sl.nil _ _ _,Sl.nil _ _ _,fun k h=>by simp [Value.ownBlock] at h,fun k h=>by simp [Value.ownBlock] at h,fun k h=>by simp [Value.ownBlock] at h,fun k h=>by simp [Value.ownBlock] at h,fun k h=>by simp [Value.ownBlock] at h,fun k h=>by simp [Value.ownBlock] at h,Mods.refl _ _⟩
 have p1:w.cell? ⟨pb,1,none⟩=some (.slice (some ⟨fb,0,none⟩) nf cap):=hp.cell 1
 go_enter Tryz.func27,Tryz.ntmps27
 go_wp2_with fail
 go_loopg [10,11] (slots+1) (fun g vJ p wr=>BAt w pb fb rb (n*8) cs s r slots g vJ p wr)
 case atStart=>exact ⟨r,0,slots+1,[],[],[],_,_,rfl,hinit,rfl,by omega,by simp,by omega,rfl,rfl,by omega⟩
 case round =>
  obtain ⟨r1,p,f,ls,ats,js,vL,vA,rfl,hI,HB0,hf1,hlp,hps,hal,hjl,rfl⟩:=hrel.ex
  have HB:Hid _:=HB0
  have HAL:Hid (ats.length=ls.length/\js.length=ls.length):=⟨hal,hjl⟩
  have hal2:ats.length<=p:=by omega
  have hjl2:js.length<=p:=by omega
  clear HB0 hrel hinit hal hjl;obtain ⟨q1,q2,q3,qf⟩:=hI.cells hsz
  have k3:=q3 3 (by omega) (by omega) (by omega)
  rw [c3] at k3
  by_cases hlt:p<slots
  ·obtain ⟨f,rfl⟩:∃ g,gk=g+1:=⟨gk - 1,by omega⟩
   go_wp2_with fail
   refine (ins_any rb s r1 _ hs hI.rd).mono ?_
   rintro e w1 ⟨rfl,h1,m1⟩
   have hI1:=hI.read lr hfr m1 h1
   rw [Hid,bodyL,if_pos hlt] at HB
   have HB2:Hid _:=HB
   clear HB hI h1 m1 q1 q2 q3 qf k3;generalize insM s r1=o at *
   obtain ⟨⟨word,b32,d,sr,jmp,nn,label,name⟩,jump,num,ok,r2,bad⟩:=o
   simp only [InsOut.val,RIns.cells] at *
   have hrd:w1.cell? ⟨rb,2,none⟩=some (.bool bad):=Blk.cell hI1.rd 2
   have n1:rb<w1.heap.size:=Blk.lt hI1.rd
   have n2:fb<w1.heap.size:=hI1.fn.lt
   have n0:w.heap.size<=w1.heap.size:=hI1.md.size
   have BInvLa:=hid hI1.sa.lt;have BInvLj:=hid hI1.sj.lt;have BInvLt:=hid hI1.sl.lt
   cases ok with
   | false =>
    rw [Hid,if_pos (.inl rfl)] at HB2
    have HN:Hid (bodyM s slots r=none):=bodyM_none HB2.symm
    clear HB2
    have HM:Hid (Mods _ w (w1.alloc (.cells (RIns.cells ⟨word,b32,d,sr,jmp,nn,label,name⟩) 51))):=hI1.md.alloc _
    go_wp2_with fail;go_ret;exact BodyPost.no HN.out HM.out
   | true =>
   cases bad with
   | true =>
    rw [Hid,if_pos (.inr rfl)] at HB2
    have HN:Hid (bodyM s slots r=none):=bodyM_none HB2.symm
    clear HB2
    have HM:Hid (Mods _ w (w1.alloc (.cells (RIns.cells ⟨word,b32,d,sr,jmp,nn,label,name⟩) 51))):=hI1.md.alloc _
    go_wp2_with fail;go_ret;exact BodyPost.no HN.out HM.out
   | false =>
   rw [Hid,if_neg (by simp)] at HB2
   have HB3:Hid _:=HB2
   clear HB2
   have hb1:=Blk.new w1 (RIns.cells ⟨word,b32,d,sr,jmp,nn,label,name⟩) 51
   have hI2:BInv w fb rb (n*8) cs s ⟨r2,false⟩ ls ats js vL vA u10 (w1.alloc (.cells (RIns.cells ⟨word,b32,d,sr,jmp,nn,label,name⟩) 51)):=hI1.quiet ((Mods.refl _ _).alloc _)
   go_upto_region 8 with fail
   generalize hW:w1.alloc (Obj.cells #[Value.string word,Value.bool b32,Value.int IntKind.i64 d,Value.int IntKind.i64 sr,Value.int IntKind.i64 jmp,Value.int IntKind.u64 nn,Value.string label,Value.string name] 51)=W
   have hI3:BInv w fb rb (n*8) cs s ⟨r2,false⟩ ls ats js vL vA u10 W:=hW ▸ hI2
   have hb3:Blk W w1.heap.size (RIns.cells ⟨word,b32,d,sr,jmp,nn,label,name⟩) 51:=hW ▸ hb1
   have m3:Mods Nil' w1 W:=hW ▸ ((Mods.refl _ _).alloc _)
   clear hI2 hb1 hrd hW;obtain ⟨i0,i1,i2,i3,i4,i5,i6,i7⟩:=hb3.cells8
   simp only at i0 i1 i2 i3 i4 i5 i6 i7
   have hlW:w1.heap.size<W.heap.size:=hb3.lt
   go_cut [16] (fun s16 wx=>s16=.bool (decide (jump=1/\(word=WIDE\/word=CALL)))/\wx=W)
   case first =>
    by_cases hj:jump=1
    ·by_cases hw1:word=WIDE
     ·have t1:=lit_eq hw1
      have HD:Hid (decide (jump=1/\(word=WIDE\/word=CALL))=true):=by rw [Hid,decide_eq_true_iff];exact ⟨hj,.inl hw1⟩
      clear hw1;go_wp2_with fail;go_meet
      exact ⟨by rw [HD.out],rfl⟩
     ·have t1:=lit_ne hw1
      by_cases hw2:word=CALL
      ·have t2:=lit_eq hw2
       have HD:Hid (decide (jump=1/\(word=WIDE\/word=CALL))=true):=by rw [Hid,decide_eq_true_iff];exact ⟨hj,.inr hw2⟩
       clear hw1 hw2;go_wp2_with fail;go_meet
       exact ⟨by rw [HD.out],rfl⟩
      ·have t2:=lit_ne hw2
       have HD:Hid (decide (jump=1/\(word=WIDE\/word=CALL))=false):=by rw [Hid,decide_eq_false_iff_not];exact fun e=>e.2.elim hw1 hw2
       clear hw1 hw2;go_wp2_with fail;go_meet
       exact ⟨by rw [HD.out],rfl⟩
    ·have HD:Hid (decide (jump=1/\(word=WIDE\/word=CALL))=false):=by rw [Hid,decide_eq_false_iff_not];exact fun e=>hj e.1
     go_wp2_with fail;go_meet
     exact ⟨by rw [HD.out],rfl⟩
   case rest =>
   obtain ⟨rfl,rfl⟩:=hcut
   have hpW:=hp.mods hI3.md (fun e=>e.elim hpf hpr)
   have p0:wc.cell? ⟨pb,0,none⟩=some (.slice oM nm cM):=hpW.cell 0
   have p1':wc.cell? ⟨pb,1,none⟩=some (.slice (some ⟨fb,0,none⟩) nf cap):=hpW.cell 1
   have n3:pb<w1.heap.size:=Nat.lt_of_lt_of_le hp.lt n0
   have fi:=hb3.frozen
   go_upto_if 58 with fail
   go_cut [16] (fun _ wx=>∃ i:RIns,nameIns ⟨⟨word,b32,d,sr,jmp,nn,label,name⟩,jump,num,true,⟨r2,false⟩⟩=some i/\BInv w fb rb (n*8) cs s ⟨r2,false⟩ ls ats js vL vA u10 wx/\Blk wx w1.heap.size (RIns.cells i) 51)
   case first =>
    by_cases hnm2:jump=1/\(word=WIDE\/word=CALL)
    ·have HN:=hid hnm2;rw [decide_eq_true hnm2];clear hnm2
     by_cases hz:num=0
     ·cases hww:(word.toList==[119,105,100,101])
      all_goals
       go_wp2_with fail;go_meet
       exact ⟨⟨word,b32,d,0,jmp,nn,label,T [63]⟩,by rw [nameIns,if_pos HN.out,if_neg (by simp [hz])],hI1.quiet ((m3.set (a:=⟨w1.heap.size,3,none⟩) (.inr (Nat.le_refl _)) _).set (a:=⟨w1.heap.size,7,none⟩) (.inr (Nat.le_refl _)) _),(hb3.set 3 _).set 7 _⟩
     ·have hz2:(num==0)=false:=by simp [hz]
      have HE:Hid (nameIns ⟨⟨word,b32,d,sr,jmp,nn,label,name⟩,jump,num,true,⟨r2,false⟩⟩=none):=by rw [Hid,nameIns,if_pos HN.out,if_pos hz]
      have HN2:Hid (bodyM s slots r=none):=by
       have:=HB3.out
       rw [HE.out] at this;exact bodyM_none this.symm
      cases hww:(word.toList==[119,105,100,101])
      all_goals
       go_wp2_with fail;go_ret
       exact BodyPost.no HN2.out ((hI1.md.trans m3.of_nil).set (a:=⟨w1.heap.size,3,none⟩) (.inr n0) _ |>.set (a:=⟨w1.heap.size,7,none⟩) (.inr n0) _)
    ·rw [decide_eq_false hnm2];have HN:=hid hnm2;clear hnm2;go_wp2_with fail;go_meet
     exact ⟨_,by rw [nameIns,if_neg HN.out],hI3,hb3⟩
   case rest =>
   obtain ⟨i,HI,hI4,hb4⟩:=hcut;rw [HI] at HB3;have HB:=hid HB3;clear HB3 HI hI3 hb3 i0 i1 i2 i3 i4 i5 i6 i7 hI1 m3 hpW p0 p1' hlW fi;obtain ⟨xw,x32,xd,xs,xj,xn,xl,xm⟩:=i;obtain ⟨i0,i1,i2,i3,i4,i5,i6,i7⟩:=hb4.cells8;obtain ⟨q1,q2,q3,qf⟩:=hI4.cells hsz
   have hlW:w1.heap.size<wc.heap.size:=hb4.lt
   have hlf:fb<wc.heap.size:=hI4.fn.lt
   have qa:∀ o,(wc.alloc o).cell? ⟨fb,n*8+1,none⟩=some vL:=fun o=>((hI4.quiet ((Mods.refl _ _).alloc o)).cells hsz).1
   have HP:=hid hI4;have HQ:=hid hb4
   simp only at i0 i1 i2 i3 i4 i5 i6 i7 HB
   have hL1:Hid (∀ k,vL.ownBlock=some k->k≠w1.heap.size):=fun k hk=>by have:=BInvLt.out k hk;omega
   clear hI4 hb4;go_upto_region 23 with fail
   go_cut [] (fun wx=>∃ v2,BInv w fb rb (n*8) cs s ⟨r2,false⟩ (ls++[⟨xw,x32,xd,xs,xj,xn,xl,xm⟩]) ats js v2 vA u10 wx/\Blk wx w1.heap.size (RIns.cells ⟨xw,x32,xd,xs,xj,xn,xl,xm⟩) 51)
   case first =>
    skip
    go_region_law (refine step_append_sl rfl (.tmp 121) (.tmp 123) 43 rfl 51 iI (.agg (RIns.cells {})) 8 88 Tryz.underlying43 hiI hzI hsI hbI rfl (by decide) vL ls.length (insL ls) (by simp [Act.eval]) (HP.out.quiet (((Mods.refl _ _).drew).alloc _)).sl ⟨wc.heap.size,0,none⟩ 1 1 (RIns.cellsL ⟨xw,x32,xd,xs,xj,xn,xl,xm⟩) (by simp [Act.eval]) rfl (news_cells _ _ _ _ (by simp)) (ins_one _) (by unfold maxLen;omega) (by omega) ?_;intro v2 w2 s2 m2 l2;obtain ⟨o2,cp2,rfl,_⟩:=Sl.view s2;obtain ⟨y1,y2,yf⟩:=HP.out.mid hsz lf (.inl rfl) (((Mods.refl _ _).alloc _).drew) m2)
    all_goals
     go_wp2_with fail;go_meet
     refine ⟨_,(HP.out.quiet (((Mods.refl _ _).alloc _).drew)).appL lf lr hfr s2 m2 l2,?_⟩
     have hq2:=Blk.mods (Blk.drew (Blk.alloc HQ.out _)) m2 (fun e=>hL1.out _ e rfl)
     exact Blk.setOther (a:=⟨fb,n*8+1,none⟩) hq2 (by show fb≠w1.heap.size;omega) _
   case rest =>
   obtain ⟨v2,hI4,hb4⟩:=hcut;clear i0 i1 i2 i3 i4 i5 i6 i7 q1 q2 q3 qf hlW hlf qa HP HQ
   have hsi:=slotsI_le xw
   obtain ⟨q1,q2,q3,qf⟩:=hI4.cells hsz
   have hlW:w1.heap.size<wc.heap.size:=hb4.lt
   have hlf:fb<wc.heap.size:=hI4.fn.lt
   have HP:=hid hI4;have HQ:=hid hb4;clear hI4 hb4
   go_upto_region 25 with (first
    | (at_builtin;refine wpList_append_sl _ rfl (.tmp 131) (.tmp 133) 44 rfl 3 iN (.int .i64 0) 1 8 Tryz.underlying44 hiN hzN hsN hbN rfl (by decide) vA ats.length (intL ats) rfl (HP.out.quiet ((Mods.refl _ _).alloc _)).sa ⟨wc.heap.size,0,none⟩ 1 1 [.int .i64 p] rfl rfl (news_cells _ _ _ _ (by simp)) (int_one _) (by unfold maxLen;omega) (by omega) ?_;intro v3 w3 s3 m3 l3;obtain ⟨o3,cp3,rfl,_⟩:=Sl.view s3;obtain ⟨y1,y2,yf⟩:=HP.out.mid hsz lf (.inr rfl) ((Mods.refl _ _).alloc _) m3;have HP5:Hid (BInv w fb rb (n*8) cs s ⟨r2,false⟩ (ls++[⟨xw,x32,xd,xs,xj,xn,xl,xm⟩]) (ats++[(p:Int)]) js v2 _ u10 _):=(HP.out.quiet ((Mods.refl _ _).alloc _)).appA lf lr hfr s3 m3 l3;have HQ5:Hid (Blk _ w1.heap.size (RIns.cells ⟨xw,x32,xd,xs,xj,xn,xl,xm⟩) 51):=Blk.setOther (a:=⟨fb,n*8+2,none⟩) (Blk.mods (Blk.alloc HQ.out _) m3 (fun e=>by have:=BInvLa.out _ e;omega)) (show fb≠w1.heap.size by omega) (Value.slice o3 (ats.length+1) cp3)))
   go_wp2_with (first
    | (at_builtin;go_loud (refine wpList_append_sl _ rfl (.tmp 137) (.tmp 139) 44 rfl 3 iN (.int .i64 0) 1 8 Tryz.underlying44 hiN hzN hsN hbN rfl (by decide) u10 js.length (intL js) rfl (HP5.out.quiet ((Mods.refl _ _).alloc _)).sj ⟨w3.heap.size,0,none⟩ 1 1 [.int .i64 jump] rfl rfl (news_cells _ _ _ _ (by simp)) (int_one _) (by unfold maxLen;omega) (by omega) ?_;intro v4 w4 s4 m4 l4;obtain ⟨o4,cp4,rfl,_⟩:=Sl.view s4;have HP6:Hid (BInv w fb rb (n*8) cs s ⟨r2,false⟩ (ls++[⟨xw,x32,xd,xs,xj,xn,xl,xm⟩]) (ats++[(p:Int)]) (js++[jump]) v2 _ _ w4):=(HP5.out.quiet ((Mods.refl _ _).alloc _)).appJ lf lr s4 m4 l4;have hq6:Blk w4 w1.heap.size (RIns.cells ⟨xw,x32,xd,xs,xj,xn,xl,xm⟩) 51:=Blk.mods (Blk.alloc HQ5.out _) m4 (fun e=>by have:=BInvLj.out _ e;omega);clear y1 y2 yf s3 m3 l3 s4 m4 l4 q1 q2 q3 qf;obtain ⟨i0,i1,i2,i3,i4,i5,i6,i7⟩:=hq6.cells8;simp only at i0 i1 i2 i3 i4 i5 i6 i7))
    | (go_at_call 35;refine (slots_any ⟨xw,x32,xd,xs,xj,xn,xl,xm⟩ _).mono ?_;rintro e w5 ⟨rfl,m5⟩))
   go_roundg f
   case measure=>omega
   case rel=>exact ⟨⟨r2,false⟩,p+slotsI xw,f,_,_,_,_,_,by go_num,HP6.out.quiet m5,HB.out,by omega,by simp;omega,by omega,by simp [HAL.out.1],by simp [HAL.out.2],rfl⟩
  ·obtain ⟨oL,cL,rfl,vw⟩:=hI.sl.view
   by_cases hpe:p=slots
   ·subst hpe
    obtain ⟨f,rfl⟩:∃ g,gk=g+1:=⟨gk - 1,by omega⟩
    rw [Hid,bodyL,if_neg hlt] at HB
    have HB2:Hid _:=HB
    have HG:Hid (Good p ls ats js):=bodyL_good s p _ _ _ _ _ _ _ HB2.out.symm (good_nil p)
    clear HB
    by_cases hk0:ls.length=0
    ·have HN:Hid (bodyM s p r=none):=by
      obtain rfl:=List.length_eq_zero_iff.1 hk0
      rw [Hid,bodyM,<- HB2.out]
      exact if_pos (.inr rfl)
     go_wp2_with fail;go_ret;exact BodyPost.no HN.out hI.md
    ·obtain ⟨gL,csL,rfl,hbL,htk,hnc,hcm⟩:=vw (by omega)
     have HL0:Hid (∃ li last,ls=li++[last]):=⟨ls.dropLast,ls.getLast (fun e=>hk0 (by rw [e];rfl)),(List.dropLast_concat_getLast _).symm⟩
     obtain ⟨li,⟨lw,l32,ld,lS,lj,ln,ll,lm⟩,hli⟩:=HL0.out
     have HLI:=hid hli
     have hlen:ls.length=li.length+1:=by rw [hli];simp
     have HLE:Hid (lastEnds ls=endsI lw):=by rw [Hid,lastEnds,hli,List.getLast?_append];rfl
     have hcell:∀ j,j<8->wr.cell? ⟨gL,li.length*8+j,none⟩=(RIns.cellsL ⟨lw,l32,ld,lS,lj,ln,ll,lm⟩)[j]?:=by
      intro j hj
      rw [take_cell hbL htk _ (by omega),insL,hli,flat_get RIns.cellsL 8 RIns.cellsL_len _ li.length j (by simp) hj]
      simp
     have e0:wr.cell? ⟨gL,li.length*8,none⟩=some (.string lw):=hcell 0 (by omega)
     have e1:wr.cell? ⟨gL,li.length*8+1,none⟩=some (.bool l32):=hcell 1 (by omega)
     have e2:wr.cell? ⟨gL,li.length*8+2,none⟩=some (.int .i64 ld):=hcell 2 (by omega)
     have e3:wr.cell? ⟨gL,li.length*8+3,none⟩=some (.int .i64 lS):=hcell 3 (by omega)
     have e4:wr.cell? ⟨gL,li.length*8+4,none⟩=some (.int .i64 lj):=hcell 4 (by omega)
     have e5:wr.cell? ⟨gL,li.length*8+5,none⟩=some (.int .u64 ln):=hcell 5 (by omega)
     have e6:wr.cell? ⟨gL,li.length*8+6,none⟩=some (.string ll):=hcell 6 (by omega)
     have e7:wr.cell? ⟨gL,li.length*8+7,none⟩=some (.string lm):=hcell 7 (by omega)
     clear hcell hbL htk hli vw;go_wp2_with fail
     refine (ends_any ⟨lw,l32,ld,lS,lj,ln,ll,lm⟩ _).mono ?_
     rintro e w2 ⟨rfl,m2⟩
     have hI2:=hI.quiet m2
     simp only
     cases hen:endsI lw with
     | false =>
      have HN:Hid (bodyM s p r=none):=by
       rw [Hid,bodyM,<- HB2.out]
       exact if_pos (.inr (by rw [HLE.out,hen]))
      go_wp2_with fail;go_ret;exact BodyPost.no HN.out hI2.md
     | true =>
      have HS:Hid (_=_):=bodyM_some HB2.out.symm rfl (by rw [HLE.out,hen])
      go_wp2_with fail
      refine (hlab _ fb (n*8) _ _ _ u10 ls ats js (hI2.lab lf HG.out hsl (by omega) hsz c4 c5)).mono ?_
      rintro e w3 ⟨rfl,m3,h3⟩;go_wp2_with fail;go_ret
      refine ⟨?_,hI2.modsEnd m3,fun o ho=>?_⟩
      ·rw [HS.out,Option.isSome_map];rfl
      ·rw [HS.out] at ho;obtain ⟨o',ho',rfl⟩:=Option.map_eq_some_iff.1 ho
       exact hI2.done lr hfr m3 (h3 o' ho')
   ·have HN:Hid (bodyM s slots r=none):=by
     rw [Hid,bodyM,<- HB.out]
     cases gk with
     | zero=>rfl
     | succ g=>rw [bodyL,if_neg hlt];exact if_pos (.inl hpe)
    have hpe2:(p:Int)≠(slots:Int):=by omega
    go_wp2_with fail;go_ret;exact BodyPost.no HN.out hI.md
end Go.Proofs.YtoknbkfclhmapaaGreatDoor
