import Derived.Test.YtoknbkfclhmapaaGreatDoorC18
import Derived.Test.YtoknbkfclhmapaaGreatDoorC02
import Derived.Test.YtoknbkfclhmapaaGreatDoorC14
import Derived.BigRegion
import Derived.Deep.RegionLaw
import Derived.Deep.RegionWith
import Derived.Deep.LoopGhost
import Derived.Deep.DeepCutAuto
namespace Go.Proofs.YtoknbkfclhmapaaGreatDoor
open Go.RowKit
structure LRel (w0:World) (fb off:Nat) (cs:Array Value) (vL vA vJ:Value) (ls0:List RIns) (ats js:List Int) (g:Nat) (kv:Value) (w:World):Prop where
 ex:∃ (done:List RIns) (rest:List (RIns × Int × Int)) (lab:Labs) (vB vP:Value),kv=.int .i64 done.length/\LInv w0 fb off cs vL vA vJ ats js (done++rest.map (·.1)) (lab.map (·.1)) (lab.map (·.2)) vB vP w /\
  labG ats done rest lab=labG ats [] (zip3 ls0 ats js) []/\rest.map (·.2)=(ats.zip js).drop done.length/\g=rest.length/\lab.length<=done.length/\done.length+rest.length=ls0.length/\∀ x∈rest,x.1.word.size<=100
theorem zip3_rest (ls:List RIns) (ats js:List Int) (h1:ats.length=ls.length) (h2:js.length=ls.length):(zip3 ls ats js).map (·.1)=ls/\(zip3 ls ats js).map (·.2)=ats.zip js/\(zip3 ls ats js).length=ls.length:=by
 refine ⟨?_,?_,?_⟩
 ·rw [zip3,List.map_fst_zip];simp;omega
 ·rw [zip3,List.map_snd_zip];simp;omega
 ·simp [zip3];omega
theorem drop_zip_head {ats js:List Int} {k:Nat} {a j:Int} {l:List (Int × Int)} (h:(a,j)::l=(ats.zip js).drop k):ats[k]?=some a/\js[k]?=some j/\l=(ats.zip js).drop (k+1):=by
 have h0:(ats.zip js)[k]?=some (a,j):=by
  have:=congrArg (fun x:List (Int × Int)=>x[0]?) h
  simpa using this.symm
 rw [List.getElem?_zip_eq_some] at h0
 refine ⟨h0.1,h0.2,?_⟩
 have:=congrArg List.tail h
 simpa [List.tail_drop] using this
structure Reads (fb off gL gA gJ k:Nat) (vL vA vB vP:Value) (i:RIns) (a j:Int) (w:World):Prop where
 q1:w.cell? ⟨fb,off+1,none⟩=some vL
 q2:w.cell? ⟨fb,off+2,none⟩=some vA
 q4:w.cell? ⟨fb,off+4,none⟩=some vB
 q5:w.cell? ⟨fb,off+5,none⟩=some vP
 qf:∀ j,w.frozen? ⟨fb,j,none⟩=false
 c2:w.cell? ⟨gA,k,none⟩=some (.int .i64 a)
 c3:w.cell? ⟨gJ,k,none⟩=some (.int .i64 j)
 e0:w.cell? ⟨gL,k*8,none⟩=some (.string i.word)
 e1:w.cell? ⟨gL,k*8+1,none⟩=some (.bool i.is32)
 e2:w.cell? ⟨gL,k*8+2,none⟩=some (.int .i64 i.d)
 e3:w.cell? ⟨gL,k*8+3,none⟩=some (.int .i64 i.s)
 e4:w.cell? ⟨gL,k*8+4,none⟩=some (.int .i64 i.jump)
 e5:w.cell? ⟨gL,k*8+5,none⟩=some (.int .u64 i.n)
 e6:w.cell? ⟨gL,k*8+6,none⟩=some (.string i.label)
 e7:w.cell? ⟨gL,k*8+7,none⟩=some (.string i.name)
 ef:∀ j,w.frozen? ⟨gL,j,none⟩=false
theorem LInv.reads {w0 w:World} {fb off gL gA gJ nL nA nJ cL cA cJ k:Nat} {cs:Array Value} {ats js:List Int} {ls ls0:List RIns} {bs:List ByteArray} {ps:List Int} {vB vP:Value} {i:RIns} {a j:Int}
  (h:LInv w0 fb off cs (.slice (some ⟨gL,0,none⟩) nL cL) (.slice (some ⟨gA,0,none⟩) nA cA) (.slice (some ⟨gJ,0,none⟩) nJ cJ) ats js ls bs ps vB vP w)
  (p:LabPre w0 fb off cs (.slice (some ⟨gL,0,none⟩) nL cL) (.slice (some ⟨gA,0,none⟩) nA cA) (.slice (some ⟨gJ,0,none⟩) nJ cJ) ls0 ats js) (hL:nL=ls.length) (hA:nA=ats.length) (hJ:nJ=js.length)
  (hi:ls[k]?=some i) (ha:ats[k]?=some a) (hj:js[k]?=some j) :
  Reads fb off gL gA gJ k (.slice (some ⟨gL,0,none⟩) nL cL) (.slice (some ⟨gA,0,none⟩) nA cA) vB vP i a j w:=by
 subst hL hA hJ;obtain ⟨q1,q2,q4,q5,qf⟩:=h.cells p
 obtain ⟨hk,rfl⟩:=List.getElem?_eq_some_iff.1 hi
 have hka:=(List.getElem?_eq_some_iff.1 ha).1
 have hkj:=(List.getElem?_eq_some_iff.1 hj).1
 obtain ⟨e0,e1,e2,e3,e4,e5,e6,e7,ef⟩:=h.sl.at8 rfl k hk;obtain ⟨g1,hg1,cellA⟩:=h.sa.at rfl k hka;obtain ⟨g2,hg2,cellJ⟩:=h.sj.at rfl k hkj
 cases hg1;cases hg2
 refine ⟨q1,q2,q4,q5,qf,?_,?_,e0,e1,e2,e3,e4,e5,e6,e7,ef⟩
 ·rw [cellA k hka,intL,List.getElem?_map,ha];rfl
 ·rw [cellJ k hkj,intL,List.getElem?_map,hj];rfl
set_option maxRecDepth 100000 in
set_option maxHeartbeats 1000000 in
theorem labelled_any (w:World) (fb off:Nat) (cs:Array Value) (vL vA vJ:Value) (ls:List RIns) (ats js:List Int) (pre:LabPre w fb off cs vL vA vJ ls ats js) :
 Calls Tryz.prog 51 #[.pointer (some ⟨fb,off,none⟩),vJ] w fun e w'=>e=.returned (.bool (labG ats [] (zip3 ls ats js) []).isSome)/\Mods (fun k=>k=fb\/vL.ownBlock=some k) w w' /\
  ∀ o,labG ats [] (zip3 ls ats js) []=some o->LabAt w fb off cs vL vA o.1 ats o.2 w':=by
 obtain ⟨iS,hiS,hzS,hsS,hbS⟩:=info_parts info_str;obtain ⟨iN0,hiN,hzN,hsN,hbN⟩:=info_parts info_int;obtain ⟨oL,cL,rfl,vwL⟩:=pre.sl.view;obtain ⟨oA,cA,rfl,vwA⟩:=pre.sa.view;obtain ⟨oJ,cJ,rfl,vwJ⟩:=pre.sj.view
 have hstart:=pre.start
 have HP:Hid _:=pre
 have hle:=pre.le
 have HZ:Hid _:=zip3_rest ls ats js pre.al pre.jl
 have hLlt:fb<w.heap.size:=pre.fn.lt
 clear pre
 go_enter Tryz.func51,Tryz.ntmps51
 go_wp2_with fail
 go_loopg [5] ls.length (fun g kv wr=>LRel w fb off cs (.slice oL ls.length cL) (.slice oA ats.length cA) (.slice oJ js.length cJ) ls ats js g kv wr)
 case atStart=>exact ⟨[],zip3 ls ats js,[],_,_,rfl,by rw [HZ.out.1];exact hstart,rfl,by rw [HZ.out.2.1];rfl,HZ.out.2.2.symm,by simp,by simp [HZ.out.2.2],fun x hx=>HP.out.bw _ (by rw [<- HZ.out.1];exact List.mem_map_of_mem hx)⟩
 case round =>
  obtain ⟨done,rest,lab,vB,vP,rfl,hI,HB0,HR0,rfl,hlab,hlen,hbw⟩:=hrel.ex
  have HB:Hid _:=HB0
  have HR:Hid _:=HR0
  clear HB0 HR0 hrel hstart;obtain ⟨q1,q2,q4,q5,qf⟩:=hI.cells HP.out
  cases rest with
  | nil =>
   have hkn:done.length=ls.length:=by simpa using hlen
   go_wp2_with fail;go_ret
   have hr:=HB.out
   rw [labG] at hr;rw [<- hr]
   refine ⟨rfl,hI.md,fun o ho=>?_⟩
   cases ho
   simp only [List.map_nil,List.append_nil] at hI
   exact ⟨vB,vP,hI.fn,hI.sl,hI.sa,by simpa using hI.sb,by simpa using hI.sp,hI.fb',hI.fp',hI.bp⟩
  | cons x rest =>
   obtain ⟨i,a,j⟩:=x
   have hkl:done.length<ls.length:=by simp at hlen;omega
   obtain ⟨hat,hjt,hrt⟩:=drop_zip_head (l:=rest.map (·.2)) (by simpa using HR.out)
   have HRT:Hid _:=hrt
   have hwz:i.word.size<=100:=hbw (i,a,j) (by simp)
   obtain ⟨gL,csL,rfl,_⟩:=vwL (by omega)
   have hal:done.length<ats.length:=by have:=HP.out.al;omega
   have halb:ats.length<=1000:=by have:=HP.out.al;omega
   have hjl:done.length<js.length:=by have:=HP.out.jl;omega
   obtain ⟨gA,rfl,cellA⟩:=hI.sa.at rfl done.length (by omega)
   obtain ⟨gJ,rfl,cellJ⟩:=hI.sj.at rfl done.length (by omega)
   have hba:=HP.out.ba a (List.mem_of_getElem? hat)
   have hbj:=HP.out.bj j (List.mem_of_getElem? hjt)
   simp only [List.map_cons] at hI
   have hlsz:(done++i::rest.map (·.1)).length=ls.length:=by simp at hlen ⊢;omega
   have hgk:(done++i::rest.map (·.1))[done.length]?=some i:=by simp
   have HLZ:Hid _:=hlsz
   have HGK:Hid _:=hgk
   have HT:Hid (ats[done.length]?=some a/\js[done.length]?=some j):=⟨hat,hjt⟩
   clear cellA cellJ hat hjt hrt hlsz hgk hlen vwL vwA vwJ HR q1 q2 q4 q5 qf
   have hrl:rest.length+done.length<ls.length:=by have:=HLZ.out;simp at this;omega
   obtain ⟨iw,i32,id,is,ij,iN,il,im⟩:=i
   simp only at hwz
   obtain ⟨q1,q2,q4,q5,qf,c2,c3,e0,e1,e2,e3,e4,e5,e6,e7,ef⟩:=hI.reads HP.out HLZ.out.symm rfl rfl HGK.out HT.out.1 HT.out.2
   simp only at e0 e1 e2 e3 e4 e5 e6 e7
   have hgL:gL<w.heap.size:=HP.out.sl.lt gL rfl
   have hsz:=hI.md.size
   go_wp2_with fail
   refine (sort_any _ _ (by unfold maxLen;omega)).mono ?_
   rintro e w1 ⟨rfl,m1⟩
   by_cases hs:sortM iw=106
   ·rw [hs]
    have HB2:=HB.out
    rw [labG,if_pos hs] at HB2
    have HB3:Hid _:=HB2
    have hI1:=hI.quiet m1
    clear HB HB2 q1 q2 q4 q5 qf c2 c3 e0 e1 e2 e3 e4 e5 e6 e7 ef hI m1
    have R:∀ g:Ext Nil' w1,Reads fb off gL gA gJ done.length _ _ vB vP ⟨iw,i32,id,is,ij,iN,il,im⟩ a j g.w:=fun g=>(hI1.quiet g.m).reads HP.out HLZ.out.symm rfl rfl HGK.out HT.out.1 HT.out.2
    have g1:=fun g=>(R g).q1
    have g2:=fun g=>(R g).q2
    have g3:=fun g=>(R g).c2
    have g4:=fun g=>(R g).c3
    have x0:=fun g=>(R g).e0
    have x1:=fun g=>(R g).e1
    have x2:=fun g=>(R g).e2
    have x3:=fun g=>(R g).e3
    have x4:=fun g=>(R g).e4
    have x5:=fun g=>(R g).e5
    have x6:=fun g=>(R g).e6
    have x7:=fun g=>(R g).e7
    simp only at x0 x1 x2 x3 x4 x5 x6 x7
    have hsi:=slotsI_le iw
    go_wp2_with fail
    have ne1:=Ext.ne Nil' w1
    refine wp_region_ext Nil' (by kernel_rfl) (by kernel_rfl) ?_
    repeat (go_big_quiet_step (first | (go_at_call 35;exact Calls.ext_of (slots_any ⟨iw,i32,id,is,ij,iN,il,im⟩ _))))
    refine wpQuiet_nil ?_
    rintro w2 ⟨⟨wx,m2⟩,hwx⟩
    simp only at hwx
    subst hwx
    have hI2:=hI1.quiet m2
    clear R g1 g2 g3 g4 x0 x1 x2 x3 x4 x5 x6 x7 ne1 hI1 m2
    obtain ⟨tt,htt⟩:∃ t:Int,t=a+(slotsI iw:Int)+j:=⟨_,rfl⟩
    have ht0:-40000<=tt:=by omega
    have ht1:tt<=40000:=by omega
    rw [<- htt] at HB3 ⊢;clear htt;obtain ⟨q1,q2,q4,q5,qf,c2,c3,e0,e1,e2,e3,e4,e5,e6,e7,ef⟩:=hI2.reads HP.out HLZ.out.symm rfl rfl HGK.out HT.out.1 HT.out.2
    simp only at e0 e1 e2 e3 e4 e5 e6 e7
    obtain ⟨gA',hgA,cellA⟩:=hI2.sa.at rfl done.length hal
    cases hgA
    have HCA:Hid _:=cellA
    clear cellA;go_wp2_with fail
    go_loopg [7,8] ats.length (fun g th jv wx=>wx=w2/\∃ m:Nat,m<=ats.length/\jv=.int .i64 m/\th=.bool (decide (tt∈ats.take m))/\g=ats.length - m)
    case atStart=>exact ⟨rfl,0,Nat.zero_le _,rfl,by simp,rfl⟩
    case round =>
     obtain ⟨rfl,m,hm,rfl,rfl,rfl⟩:=hrel
     by_cases hml:m<ats.length
     ·have ca:wr.cell? ⟨gA,m,none⟩=some (.int .i64 ats[m]):=by rw [HCA.out m hml];simp [intL,hml]
      have HT1:Hid (ats.take (m+1)=ats.take m++[ats[m]]):=by rw [Hid,List.take_succ_eq_append_getElem hml]
      cases hb:decide (tt∈ats.take m) with
      | true =>
       go_wp2_with fail
       go_roundg (ats.length - (m+1))
       case measure=>omega
       case rel=>exact ⟨rfl,m+1,by omega,by go_num,congrArg Value.bool (decide_eq_true (by rw [HT1.out];exact List.mem_append_left _ (of_decide_eq_true hb))).symm,rfl⟩
      | false =>
       by_cases he:ats[m]=tt
       ·have he2:(ats[m]==tt)=true:=by simp [he]
        have HE:Hid _:=he
        clear he;go_wp2_with fail
        go_roundg (ats.length - (m+1))
        case measure=>omega
        case rel=>exact ⟨rfl,m+1,by omega,by go_num,congrArg Value.bool (decide_eq_true (by rw [HT1.out,HE.out];exact List.mem_append_right _ (List.mem_singleton.2 rfl))).symm,rfl⟩
       ·have he2:(ats[m]==tt)=false:=by simp [he]
        have HE:Hid _:=he
        clear he;go_wp2_with fail
        go_roundg (ats.length - (m+1))
        case measure=>omega
        case rel=>exact ⟨rfl,m+1,by omega,by go_num,congrArg Value.bool (decide_eq_false (by rw [HT1.out];exact fun e=>(List.mem_append.1 e).elim (of_decide_eq_false hb) (fun e=>HE.out (List.mem_singleton.1 e).symm))).symm,rfl⟩
     ·obtain rfl:m=ats.length:=by omega
      rw [List.take_length];clear HCA
      cases hmem:decide (tt∈ats) with
      | false =>
       have HN:Hid (labG ats [] (zip3 ls ats js) []=none):=by rw [Hid,<- HB3.out,if_neg (of_decide_eq_false hmem)]
       go_wp2_with fail;go_ret
       refine ⟨by rw [HN.out];rfl,hI2.md,fun o ho=>?_⟩
       rw [HN.out] at ho
       cases ho
      | true =>
       have hmm:=of_decide_eq_true hmem
       obtain ⟨hb0,hb1⟩:=HP.out.ba tt hmm
       have HB4:=HB3.out
       rw [if_pos hmm] at HB4
       have HB5:Hid _:=HB4
       clear HB3 HB4 hmem hmm
       obtain ⟨sd,hsd,hsdl⟩:=open_text (decM_len tt.toNat)
       have hdc:=decimal_int tt (by omega) (by omega)
       rw [<- hsd.out] at hdc
       have HN:Hid (labName tt=T [108]++sd):=by rw [Hid,hsd.out,T_app];rfl
       have H2:Hid _:=hI2
       have hwr:IntKind.u64.wrap tt=tt:=by
        simp only [IntKind.wrap,IntKind.bits,IntKind.signed,Bool.false_and,Bool.false_eq_true,if_false];omega
       have FIN:Hid (∀ w3,LInv w fb off cs (.slice (some ⟨gL,0,none⟩) ls.length cL) (.slice (some ⟨gA,0,none⟩) ats.length cA) (.slice (some ⟨gJ,0,none⟩) js.length cJ) ats js (done++⟨iw,i32,id,is,ij,iN,il,im⟩::rest.map (·.1)) (lab.map (·.1)) (lab.map (·.2)) vB vP w3->LInv w fb off cs (.slice (some ⟨gL,0,none⟩) ls.length cL) (.slice (some ⟨gA,0,none⟩) ats.length cA) (.slice (some ⟨gJ,0,none⟩) js.length cJ) ats js (done++⟨iw,i32,id,is,ij,iN,labName tt,im⟩::rest.map (·.1)) (lab.map (·.1)) (lab.map (·.2)) vB vP (w3.setCell ⟨gL,done.length*8+6,none⟩ (.string (⟨#[108]⟩++sd)))):=by
        intro w3 h3
        have h4:=h3.name HP.out HLZ.out.symm done.length (by rw [HLZ.out];exact hkl) (labName tt)
        simp only [List.getElem_append_right (Nat.le_refl done.length),Nat.sub_self,List.getElem_cons_zero,List.set_append_right _ _ (Nat.le_refl done.length),List.set_cons_zero] at h4
        rw [HN.out] at h4 ⊢;exact h4
       go_upto_region 13 with fail
       go_cut [] (fun wx=>LInv w fb off cs (.slice (some ⟨gL,0,none⟩) ls.length cL) (.slice (some ⟨gA,0,none⟩) ats.length cA) (.slice (some ⟨gJ,0,none⟩) js.length cJ) ats js (done++⟨iw,i32,id,is,ij,iN,labName tt,im⟩::rest.map (·.1)) (lab.map (·.1)) (lab.map (·.2)) vB vP wx)
       case first =>
        go_region_with (go_at_call 79;refine (hdc _).mono ?_;rintro e w3 ⟨rfl,m3⟩;have hI3:=H2.out.quiet (((Mods.refl _ _).drew).trans m3);have R3:=hI3.reads HP.out HLZ.out.symm rfl rfl HGK.out HT.out.1 HT.out.2;have z1:=R3.q1;have z6:=R3.e6;have zf:=R3.ef;clear R3;simp only at z6)
        all_goals first
         | (exfalso;omega)
         | (go_wp2_with fail;go_meet;exact FIN.out _ hI3)
       case rest =>
       clear q1 q2 q4 q5 qf c2 c3 e0 e1 e2 e3 e4 e5 e6 e7 ef hI2 H2 FIN HN hsd hsdl hdc hwr
       have hI4:=hcut
       have HLZ2:Hid ((done++⟨iw,i32,id,is,ij,iN,labName tt,im⟩::rest.map (·.1)).length=ls.length):=by rw [Hid,<- HLZ.out];simp
       have HGK2:Hid ((done++⟨iw,i32,id,is,ij,iN,labName tt,im⟩::rest.map (·.1))[done.length]?=some ⟨iw,i32,id,is,ij,iN,labName tt,im⟩):=by simp [Hid]
       obtain ⟨q1,q2,q4,q5,qf,c2,c3,e0,e1,e2,e3,e4,e5,e6,e7,ef⟩:=hI4.reads HP.out HLZ2.out.symm rfl rfl HGK2.out HT.out.1 HT.out.2
       simp only at e0 e1 e2 e3 e4 e5 e6 e7
       have hlc:=label_any fb off (labName tt) lab vB vP wc q4 q5 (by have:=hI4.sb;simpa using this) (by have:=hI4.sp;simpa using this) (by omega)
       generalize hnm:labName tt=nm at *
       have hrl2:done.length+(rest.length+1)=ls.length:=by have:=HLZ.out;simpa using this
       have HRL:Hid _:=hrl2
       obtain ⟨bs,hbs⟩:∃ l,l=lab.map (·.1):=⟨_,rfl⟩
       obtain ⟨ps,hps⟩:∃ l,l=lab.map (·.2):=⟨_,rfl⟩
       have hbl:bs.length<=1000:=by rw [hbs];simp;omega
       have hpl:ps.length<=1000:=by rw [hps];simp;omega
       rw [<- hbs,<- hps] at hI4
       have HBS:Hid (bs=lab.map (·.1)/\ps=lab.map (·.2)):=⟨hbs,hps⟩
       have H4:Hid _:=hI4
       clear hrl2 hcut hI4 hbs hps
       by_cases hneg:labelM nm lab<0
       ·have HB6:Hid (labG ats (done++[⟨iw,i32,id,is,ij,iN,nm,im⟩]) rest (lab++[(nm,tt)])=labG ats [] (zip3 ls ats js) []):=by
         have:=HB5.out
         rw [if_pos hneg] at this;exact this
        have qa:∀ o,(wc.alloc o).cell? ⟨fb,off+4,none⟩=some vB:=fun o=>(((H4.out.quiet ((Mods.refl _ _).alloc o)).cells HP.out).2.2).1
        go_upto_region 16 with (go_at_call 34;refine hlc.mono ?_;rintro e w4 ⟨rfl,rfl⟩)
        go_cut [] (fun wx=>∃ v2,LInv w fb off cs (.slice (some ⟨gL,0,none⟩) ls.length cL) (.slice (some ⟨gA,0,none⟩) ats.length cA) (.slice (some ⟨gJ,0,none⟩) js.length cJ) ats js (done++⟨iw,i32,id,is,ij,iN,nm,im⟩::rest.map (·.1)) (bs++[nm]) ps v2 vP wx)
        case first =>
         go_region_law (refine step_append_sl rfl (.tmp 100) (.tmp 109) 22 rfl 9 iS (.string ByteArray.empty) 1 16 Tryz.underlying22 hiS hzS hsS hbS rfl (by decide) vB bs.length (strL bs) (by simp [Act.eval]) (H4.out.quiet (((Mods.refl _ _).drew).alloc _)).sb ⟨_,0,none⟩ 1 1 [.string nm] (by simp [Act.eval];rfl) rfl (news_cells _ _ _ _ (by simp)) (str_one _) (by unfold maxLen;omega) (by omega) ?_;intro v2 w5 s2 m5 l2;obtain ⟨o2,cp2,rfl,_⟩:=Sl.view s2;obtain ⟨y4,y5,yf⟩:=H4.out.mid HP.out (.inl rfl) (((Mods.refl _ _).alloc _).drew) m5)
         all_goals
          go_wp2_with fail;go_meet
          exact ⟨_,(H4.out.quiet (((Mods.refl _ _).alloc _).drew)).appB HP.out s2 m5 l2⟩
        case rest =>
        obtain ⟨v2,h5⟩:=hcut;clear q1 q2 q4 q5 qf c2 c3 e0 e1 e2 e3 e4 e5 e6 e7 ef qa hlc;obtain ⟨q1,q2,q4,q5,qf⟩:=h5.cells HP.out
        have H5:Hid _:=h5
        have hlt5:fb<wc.heap.size:=h5.fn.lt
        clear h5
        go_wp2_with (at_builtin;refine wpList_append_sl _ rfl (.tmp 117) (.tmp 119) 44 rfl 3 iN0 (.int .i64 0) 1 8 Tryz.underlying44 hiN hzN hsN hbN rfl (by decide) vP ps.length (intL ps) rfl (H5.out.quiet ((Mods.refl _ _).alloc _)).sp ⟨wc.heap.size,0,none⟩ 1 1 [.int .i64 tt] rfl rfl (news_cells _ _ _ _ (by simp)) (int_one _) (by unfold maxLen;omega) (by omega) ?_;intro v3 w6 s3 m6 l3;obtain ⟨o3,cp3,rfl,_⟩:=Sl.view s3;obtain ⟨y4,y5,yf⟩:=H5.out.mid HP.out (.inr rfl) ((Mods.refl _ _).alloc _) m6)
        go_roundg rest.length
        case measure=>simp
        case rel =>
         have hrl2:=HRL.out
         exact ⟨done++[⟨iw,i32,id,is,ij,iN,nm,im⟩],rest,lab++[(nm,tt)],_,_,by simp,by rw [show (lab++[(nm,tt)]).map (·.1)=bs++[nm] by rw [HBS.out.1];simp,show (lab++[(nm,tt)]).map (·.2)=ps++[tt] by rw [HBS.out.2];simp,List.append_assoc];exact (H5.out.quiet ((Mods.refl _ _).alloc _)).appP HP.out s3 m6 l3,HB6.out,by rw [HRT.out];simp,rfl,by simp;omega,by simp;omega,fun x hx=>hbw x (by simp [hx])⟩
       ·have HB6:Hid (labG ats (done++[⟨iw,i32,id,is,ij,iN,nm,im⟩]) rest lab=labG ats [] (zip3 ls ats js) []):=by
         have:=HB5.out
         rw [if_neg hneg] at this;exact this
        go_wp2_with (go_at_call 34;refine hlc.mono ?_;rintro e w4 ⟨rfl,rfl⟩)
        go_roundg rest.length
        case measure=>simp
        case rel =>
         have hrl2:=HRL.out
         exact ⟨done++[⟨iw,i32,id,is,ij,iN,nm,im⟩],rest,lab,_,_,by simp,by have h4:=H4.out;rw [HBS.out.1,HBS.out.2] at h4;simpa using h4,HB6.out,by rw [HRT.out];simp,rfl,by simp;omega,by simp;omega,fun x hx=>hbw x (by simp [hx])⟩
   ·have HB2:Hid (labG ats (done++[⟨iw,i32,id,is,ij,iN,il,im⟩]) rest lab=labG ats [] (zip3 ls ats js) []):=by
     have:=HB.out
     rw [labG,if_neg hs] at this;exact this
    clear HB;go_wp2_with fail
    go_roundg rest.length
    case measure=>simp
    case rel=>exact ⟨done++[⟨iw,i32,id,is,ij,iN,il,im⟩],rest,lab,vB,vP,by simp,by have:=hI.quiet m1;simpa using this,HB2.out,by rw [HRT.out];simp,rfl,by simp;omega,by simp;have:=HLZ.out;simp at this;omega,fun x hx=>hbw x (by simp [hx])⟩
theorem lab_said:LabSaid:=labelled_any
end Go.Proofs.YtoknbkfclhmapaaGreatDoor
