import Derived.Test.YtnhcaifopaeohaaGreatDoorM42
import Derived.Test.YtnhcaifopaeohaaGreatDoorM38
import Derived.Test.YtnhcaifopaeohaaGreatDoorM41
import Derived.Test.YtnhcaifopaeohaaGreatDoorM28
import Derived.Test.YtnhcaifopaeohaaGreatDoorM25
namespace Go.Proofs.YtnhcaifopaeohaaGreatDoor
open Go.RowKit
set_option linter.all false
def disV:Option (List UInt8)->Value
 | none=>.tuple #[.string ⟨#[]⟩,.int .i64 7]
 | some t=>.tuple #[.string (T t),.int .i64 0]
theorem sizeT_len (n:Nat) (h:n<256):(sizeT n).length<=22:=by
 have:=itoa_len (n:Int) (by omega) (by omega)
 simp only [sizeT,List.length_cons]
 omega
structure KeepM (cb:Nat) (cs:Array Value) where
 w:World
 c:Blk w cb cs 47
theorem bnew (w:World):BAbove w w.heap.size w.heap.size [] (w.alloc (.cells #[.pointer none,.slice none 0 0] 45)) :=
 ⟨builder_new w,((Mods.refl Nil' w).alloc _).below,by simp⟩
set_option maxRecDepth 100000 in
set_option maxHeartbeats 2000000 in
theorem pdis_any (w:World) (hE:Env w) (hW:EnvW w) (s:List UInt8) (hs:s.length<=maxLen) :
  Calls Tryz.prog 11 #[.string (T s)] w fun e w'=>e=.returned (disV (disP s))/\Mods Nil' w w':=by
 have HE:Hid (Env w):=hE
 have HTab:Hid (Calls Tryz.prog 15 #[] w fun e w'=>∃ v bs,e=.returned v/\OpsIn 0 w' v bs tableS/\Mods Nil' w w'):=table_any w hW
 have hdp:disP s=if (decodeP s).2.2.bad then none else some (textP (decodeP s).1 (decodeP s).2.1):=rfl
 have hnm:=dec_nm s
 have hdo:=dec_ok (T s)
 have hdo2:(decodeP s).2.2.bad=false->(decodeP s).1.length<=8/\(decodeP s).2.1.length<=16/\∀ f∈(decodeP s).2.1,PFnOk f:=hdo
 have HDec:Hid (∀ (wT:World) (tv:Value) (bs:List Nat),OpsIn 0 wT tv bs tableS->Calls Tryz.prog 14 #[tv,.string (T s)] wT fun e w'=>DecPost wT bs (decodeP s) e w'):=fun wT tv bs hT=>decObj_any wT wT tv bs hT (Mods.refl _ _) s hs
 rw [hdp]
 have HNm:Hid _:=hnm
 have HDo:Hid _:=hdo2
 clear hdp hnm hdo hdo2 hE hW;generalize decodeP s=d at *
 obtain ⟨ms,fs,⟨rst,bad⟩⟩:=d
 simp only at *
 go_enter Tryz.func11,Tryz.ntmps11
 go_wp2_with fail;refine HTab.out.mono ?_;rintro e w1 ⟨tv,bs,rfl,hO,m1⟩;obtain ⟨oT,cT,hv,_⟩:=hO.sl.view;subst hv
 have HO:Hid (OpsIn 0 w1 (.slice oT bs.length cT) bs tableS):=hO
 have HM1:Hid (Mods Nil' w w1):=m1
 clear hO m1 HTab;go_wp2_with fail
 refine (HDec.out _ _ _ HO.out).mono ?_
 rintro e w2 ⟨vM,vF,vs,rfl,m2,⟨oM,nM,cM,oF,nF,cF,rfl,rfl⟩,hgood⟩
 have HM2:Hid (Mods Nil' w1 w2):=m2
 have HG:Hid _:=hgood
 clear m2 hgood HDec
 cases bad with
 | true =>
  go_wp2_with fail;go_ret2
  exact ⟨rfl,(HM1.out.trans HM2.out).alloc _⟩
 | false =>
  obtain ⟨hmL,hF⟩:=HG.out rfl;obtain ⟨d1,d2,d3⟩:=HDo.out rfl;obtain ⟨n1,n2⟩:=HNm.out
  obtain rfl:nM=ms.length:=by obtain ⟨_,_,e,_⟩:=hmL.view;cases e;rfl
  obtain rfl:nF=fs.length:=by obtain ⟨_,_,e,_⟩:=hF.sl.view;cases e;rfl
  obtain ⟨W,hWd⟩:∃ W,W=w2.alloc (.cells #[.slice oM ms.length cM,.slice oF fs.length cF] 37):=⟨_,rfl⟩
  have HmL:Hid (Sl W 47 4 (.slice oM ms.length cM) ms.length (ms.flatMap PMap.cells)):=by rw [Hid,hWd];exact hmL.mods ((Mods.refl Nil' _).alloc _) (fun _ _=>id)
  have HF:Hid (Fns W w1.heap.size bs (.slice oF fs.length cF) fs vs):=by rw [Hid,hWd];exact hF.quiet ((Mods.refl _ _).alloc _)
  have HMW:Hid (Mods Nil' w W):=by rw [Hid,hWd];exact (HM1.out.trans HM2.out).alloc _
  have HOW:Hid (OpsIn 0 W (.slice oT bs.length cT) bs tableS):=by rw [Hid,hWd];exact HO.out.mods (HM2.out.alloc _)
  have HPb:Hid (Blk W w2.heap.size #[.slice oM ms.length cM,.slice oF fs.length cF] 37):=by rw [Hid,hWd];exact Blk.new _ _ _
  have HEW:Hid (Env W):=HE.out.mods HMW.out
  have HN1:Hid (∀ m∈ms,PMOk m):=n1
  have HN2:Hid (∀ f∈fs,∀ x∈f.code,x.name.length<=255):=n2
  have HD3:Hid (∀ f∈fs,PFnOk f):=d3
  have hpl:w2.heap.size<W.heap.size:=HPb.out.lt
  clear hmL hF n1 n2 d3 HG HDo HNm HO HM1 HM2 HE
  have hws:W.heap.size=w2.heap.size+1:=by rw [hWd];simp
  have HB0:Hid (BAbove W W.heap.size (w2.heap.size+1) [] (W.alloc (.cells #[.pointer none,.slice none 0 0] 45))):=by rw [Hid,<- hws];exact bnew W
  have HWs:Hid (W.heap.size=w2.heap.size+1):=hws
  clear hws;go_upto_block 0 with fail;rw [<- hWd]
  go_cut [22] (fun _ wx=>BAbove W W.heap.size (w2.heap.size+1) (ms.flatMap mapTP) wx/\(ms.flatMap mapTP).length<=8000)
  case first =>
   go_wp2_with fail
   go_loopw [22] (fun i wl=>∃ (k:Nat),k<=ms.length/\i=.int .i64 k/\BAbove W W.heap.size (w2.heap.size+1) ((ms.take k).flatMap mapTP) wl/\((ms.take k).flatMap mapTP).length<=k*1000) (fun i _=>ms.length - (intOf i).toNat)
   case atStart=>exact ⟨0,Nat.zero_le _,rfl,HB0.out,by simp⟩
   case round =>
    obtain ⟨k,hk,rfl,hB,hlen⟩:=hrel
    have HB:Hid (BAbove W W.heap.size (w2.heap.size+1) ((ms.take k).flatMap mapTP) wr):=hB
    clear hB HB0
    by_cases hlt:k<ms.length
    ·obtain ⟨g,rfl,q0,q1,q2,q3⟩:=pmap_at (HmL.out.mods HB.out.md (fun _ _=>id)) rfl rfl k hlt
     have HTk:Hid ((ms.take (k+1)).flatMap mapTP=(ms.take k).flatMap mapTP++mapTP ms[k]):=by
      rw [Hid,List.take_succ_eq_append_getElem hlt,List.flatMap_append];simp
     have hmk:=HN1.out ms[k] (List.getElem_mem hlt)
     generalize (ms.take k).flatMap mapTP=acc at *;generalize ms[k]=mm at *;obtain ⟨mn,mk,mv,me⟩:=mm;obtain ⟨h1,h2,h3,h4⟩:=hmk
     simp only at h1 h2 h3 h4 q0 q1 q2 q3
     have l2:=sizeT_len mk h2
     have l3:=sizeT_len mv h3
     have l4:=sizeT_len me h4
     have S2:Hid (∀ w',Env w'->Calls Tryz.prog 17 #[.int .u8 mk] w' fun e w''=>e=.returned (.string (T (sizeT mk)))/\Mods Nil' w' w''):=fun w' h=>dsize_any mk h2 w' h
     have S3:Hid (∀ w',Env w'->Calls Tryz.prog 17 #[.int .u8 mv] w' fun e w''=>e=.returned (.string (T (sizeT mv)))/\Mods Nil' w' w''):=fun w' h=>dsize_any mv h3 w' h
     have S4:Hid (∀ w',Env w'->Calls Tryz.prog 17 #[.int .u8 me] w' fun e w''=>e=.returned (.string (T (sizeT me)))/\Mods Nil' w' w''):=fun w' h=>dsize_any me h4 w' h
     have HTxt:Hid (mapTP ⟨mn,mk,mv,me⟩=[109,97,112,32]++mn++sizeT mk++sizeT mv++sizeT me++[10]):=rfl
     rw [HTxt.out] at HTk;generalize sizeT mk=t2 at *;generalize sizeT mv=t3 at *;generalize sizeT me=t4 at *
     have HBa:Hid (BAbove W W.heap.size (w2.heap.size+1) acc (wr.alloc (.cells #[.string (T mn),.int .u8 (mk:Nat),.int .u8 (mv:Nat),.int .u8 (me:Nat)] 47))):=HB.out.mods ((Mods.refl _ _).alloc _)
     have HBd:Hid (BAbove W W.heap.size (w2.heap.size+1) acc (wr.alloc (.cells #[.string (T mn),.int .u8 (mk:Nat),.int .u8 (mv:Nat),.int .u8 (me:Nat)] 47)).drew):=HBa.out.mods (Mods.refl _ _).drew
     have HCd:Hid (Blk (wr.alloc (.cells #[.string (T mn),.int .u8 (mk:Nat),.int .u8 (mv:Nat),.int .u8 (me:Nat)] 47)).drew wr.heap.size #[.string (T mn),.int .u8 (mk:Nat),.int .u8 (mv:Nat),.int .u8 (me:Nat)] 47):=(Blk.new wr #[.string (T mn),.int .u8 (mk:Nat),.int .u8 (mv:Nat),.int .u8 (me:Nat)] 47).mods (Mods.refl Nil' _).drew id
     have hcb:wr.heap.size≠w2.heap.size+1:=by have:=HB.out.lt;omega
     have e0:∀ e:KeepM wr.heap.size #[.string (T mn),.int .u8 (mk:Nat),.int .u8 (mv:Nat),.int .u8 (me:Nat)],e.w.cell? ⟨wr.heap.size,0,none⟩=some (.string (T mn)):=fun e=>e.c.cell 0
     have e1:∀ e:KeepM wr.heap.size #[.string (T mn),.int .u8 (mk:Nat),.int .u8 (mv:Nat),.int .u8 (me:Nat)],e.w.cell? ⟨wr.heap.size,1,none⟩=some (.int .u8 mk):=fun e=>e.c.cell 1
     have e2:∀ e:KeepM wr.heap.size #[.string (T mn),.int .u8 (mk:Nat),.int .u8 (mv:Nat),.int .u8 (me:Nat)],e.w.cell? ⟨wr.heap.size,2,none⟩=some (.int .u8 mv):=fun e=>e.c.cell 2
     have e3:∀ e:KeepM wr.heap.size #[.string (T mn),.int .u8 (mk:Nat),.int .u8 (mv:Nat),.int .u8 (me:Nat)],e.w.cell? ⟨wr.heap.size,3,none⟩=some (.int .u8 me):=fun e=>e.c.cell 3
     have ne1:Nonempty (KeepM wr.heap.size #[.string (T mn),.int .u8 (mk:Nat),.int .u8 (mv:Nat),.int .u8 (me:Nat)]):=⟨⟨_,HCd.out⟩⟩
     have s1:¬ 9223372036854775807<4+(T mn).size:=by rw [T_size];omega
     have s2:¬ 9223372036854775807<4+(T mn).size+(T t2).size:=by rw [T_size,T_size];omega
     have s3:¬ 9223372036854775807<4+(T mn).size+(T t2).size+(T t3).size:=by rw [T_size,T_size,T_size];omega
     have s4:¬ 9223372036854775807<4+(T mn).size+(T t2).size+(T t3).size+(T t4).size:=by rw [T_size,T_size,T_size,T_size];omega
     have s5:¬ 9223372036854775807<4+(T mn).size+(T t2).size+(T t3).size+(T t4).size+1:=by rw [T_size,T_size,T_size,T_size];omega
     have HWr:Hid (∀ w',BAbove W W.heap.size (w2.heap.size+1) acc w'->Calls Tryz.prog 16 #[.pointer (some ⟨w2.heap.size+1,0,none⟩),.string (⟨#[109,97,112,32]⟩++T mn++T t2++T t3++T t4++⟨#[10]⟩)] w' fun e w''=>e=.returned (.tuple #[.int .i64 (⟨#[109,97,112,32]⟩++T mn++T t2++T t3++T t4++⟨#[10]⟩:ByteArray).size,.nilIface])/\BAbove W W.heap.size (w2.heap.size+1) (acc++([109,97,112,32]++mn++t2++t3++t4++[10])) w''/\Lib.OthersKept 5 (some (w2.heap.size+1)) w' w''):=fun w' hB=>by
      have hbl:BL (⟨#[109,97,112,32]⟩++T mn++T t2++T t3++T t4++⟨#[10]⟩)=[109,97,112,32]++mn++t2++t3++t4++[10]:=by simp [BL,T]
      have hsz:(⟨#[109,97,112,32]⟩++T mn++T t2++T t3++T t4++⟨#[10]⟩:ByteArray).size=4+mn.length+t2.length+t3.length+t4.length+1:=by simp only [ByteArray.size_append,T_size];rfl
      have:=hB.write (⟨#[109,97,112,32]⟩++T mn++T t2++T t3++T t4++⟨#[10]⟩) (by rw [hsz];omega)
      rw [hbl] at this;exact this
     go_upto_region 8 with fail
     refine wp_region_mix [5,9,13,16] (fun w'=>∃ e:KeepM wr.heap.size #[.string (T mn),.int .u8 (mk:Nat),.int .u8 (mv:Nat),.int .u8 (me:Nat)],w'=e.w) (by kernel_rfl) (by kernel_rfl) (by kernel_rfl) ⟨⟨_,HCd.out⟩,rfl⟩ ?_
     iterate 5 (refine mix_pure rfl rfl rfl ?_;intro K hK;go_big_quiet_op;go_big_quiet_on)
     refine mix_act rfl rfl ?_
     intro K hK
     go_big_op
     refine (S2.out _ (HEW.out.mods HBd.out.md)).mono ?_
     rintro e w5 ⟨rfl,m⟩
     have HB5:Hid (BAbove W W.heap.size (w2.heap.size+1) acc w5):=HBd.out.mods m
     have HC5:Hid (Blk w5 wr.heap.size #[.string (T mn),.int .u8 (mk:Nat),.int .u8 (mv:Nat),.int .u8 (me:Nat)] 47):=HCd.out.mods m id
     refine hK _ _ rfl ⟨⟨_,HC5.out⟩,rfl⟩ ?_
     clear hK K m
     iterate 3 (refine mix_pure rfl rfl rfl ?_;intro K hK;go_big_quiet_op;go_big_quiet_on)
     refine mix_act rfl rfl ?_
     intro K hK
     go_big_op
     refine (S3.out _ (HEW.out.mods HB5.out.md)).mono ?_
     rintro e w6 ⟨rfl,m⟩
     have HB6:Hid (BAbove W W.heap.size (w2.heap.size+1) acc w6):=HB5.out.mods m
     have HC6:Hid (Blk w6 wr.heap.size #[.string (T mn),.int .u8 (mk:Nat),.int .u8 (mv:Nat),.int .u8 (me:Nat)] 47):=HC5.out.mods m id
     refine hK _ _ rfl ⟨⟨_,HC6.out⟩,rfl⟩ ?_
     clear hK K m
     iterate 3 (refine mix_pure rfl rfl rfl ?_;intro K hK;go_big_quiet_op;go_big_quiet_on)
     refine mix_act rfl rfl ?_
     intro K hK
     go_big_op
     refine (S4.out _ (HEW.out.mods HB6.out.md)).mono ?_
     rintro e w7 ⟨rfl,m⟩
     have HB7:Hid (BAbove W W.heap.size (w2.heap.size+1) acc w7):=HB6.out.mods m
     have HC7:Hid (Blk w7 wr.heap.size #[.string (T mn),.int .u8 (mk:Nat),.int .u8 (mv:Nat),.int .u8 (me:Nat)] 47):=HC6.out.mods m id
     refine hK _ _ rfl ⟨⟨_,HC7.out⟩,rfl⟩ ?_
     clear hK K m
     iterate 2 (refine mix_pure rfl rfl rfl ?_;intro K hK;go_big_quiet_op;go_big_quiet_on)
     refine mix_act rfl rfl ?_
     intro K hK
     go_big_op
     refine (HWr.out _ HB7.out).mono ?_
     rintro e w8 ⟨rfl,hB8,hk8⟩
     have HB8:Hid (BAbove W W.heap.size (w2.heap.size+1) (acc++([109,97,112,32]++mn++t2++t3++t4++[10])) w8):=hB8
     have hC8:Blk w8 wr.heap.size #[.string (T mn),.int .u8 (mk:Nat),.int .u8 (mv:Nat),.int .u8 (me:Nat)] 47:=kept_blk hk8 HC7.out hcb (by decide)
     refine hK _ _ rfl ⟨⟨_,hC8⟩,rfl⟩ ?_
     clear hK K hB8 hk8 hC8
     refine mix_nil ?_
     try simp only [Exit.then]
     clear e0 e1 e2 e3 HWr S2 S3 S4;go_wp2_with fail
     go_roundw
     case rel=>exact ⟨k+1,by omega,by go_num,by rw [HTk.out];exact HB8.out,by rw [HTk.out];simp only [List.length_append,List.length_cons,List.length_nil];omega⟩
     case measure=>simp [intOf];omega
    ·obtain rfl:k=ms.length:=by omega
     rw [List.take_length] at HB hlen;go_wp2_with fail;go_meet
     exact ⟨HB.out,by omega⟩
  case rest =>
  obtain ⟨hBm,hml⟩:=hcut
  have HBm:Hid (BAbove W W.heap.size (w2.heap.size+1) (ms.flatMap mapTP) wc):=hBm
  clear hBm HB0
  generalize hmt:ms.flatMap mapTP=mt at *
  have HMt:Hid (ms.flatMap mapTP=mt):=hmt
  clear hmt
  have c1:wc.cell? ⟨w2.heap.size,1,none⟩=some (.slice oF fs.length cF):=(HBm.out.blk HPb.out hpl).cell 1
  go_wp2_with fail
  go_loopw [47] (fun i wl=>∃ (k:Nat),k<=fs.length/\i=.int .i64 k/\BAbove W W.heap.size (w2.heap.size+1) (mt++(fs.take k).flatMap fnTP) wl/\((fs.take k).flatMap fnTP).length<=k*1300000) (fun i _=>fs.length - (intOf i).toNat)
  case atStart=>exact ⟨0,Nat.zero_le _,rfl,by simpa using HBm.out,by simp⟩
  case round =>
   obtain ⟨k,hk,rfl,hB,hlen⟩:=hrel
   have HB:Hid (BAbove W W.heap.size (w2.heap.size+1) (mt++(fs.take k).flatMap fnTP) wr):=hB
   clear hB HBm c1
   by_cases hlt:k<fs.length
   ·have HTk:Hid ((fs.take (k+1)).flatMap fnTP=(fs.take k).flatMap fnTP++fnTP fs[k]):=by
     rw [Hid,List.take_succ_eq_append_getElem hlt,List.flatMap_append];simp
    have hvl:k<vs.length:=by rw [HF.out.len];exact hlt
    have hcd:=HF.out.cd k hlt hvl
    obtain ⟨oC,cC,hvk,_⟩:=hcd.view
    have hok:=HF.out.ok fs[k] (List.getElem_mem hlt)
    have hfo:=HD3.out fs[k] (List.getElem_mem hlt)
    have hn2:=HN2.out fs[k] (List.getElem_mem hlt)
    have hsF:=HF.out.sl.mods HB.out.md (fun _ _=>id)
    obtain ⟨oF',cF',eF,f5⟩:=hsF.view
    cases eF
    obtain ⟨gF,csF,rfl,hbF,htF,_⟩:=f5 (by omega)
    have keyF:∀ j,j<2->wr.cell? ⟨gF,k*2+j,none⟩=(fnC (fs[k].name,.slice oC fs[k].code.length cC))[j]?:=fun j hj=>by
     rw [hbF.cell,<- Array.getElem?_toList,<- List.getElem?_take_of_lt (show k*2+j<fs.length*2 by omega),htF,flat_get fnC 2 (fun _=>rfl) _ k j (by simp;omega) hj,zip_at _ _ _ (by simpa using hlt) hvl,hvk]
     simp
    have y0:wr.cell? ⟨gF,k*2,none⟩=some (.string (T fs[k].name)):=keyF 0 (by omega)
    have y1:wr.cell? ⟨gF,k*2+1,none⟩=some (.slice oC fs[k].code.length cC):=keyF 1 (by omega)
    rw [hvk] at hcd;clear keyF hbF htF f5 hsF hvk hvl;generalize fs[k]=ff at *;obtain ⟨fn,fcode⟩:=ff;obtain ⟨p1,p2,p3,p4⟩:=hfo
    simp only at p1 p2 p3 p4 hok hn2 hcd y0 y1
    have HWc:Hid (∀ w' l',BAbove W W.heap.size (w2.heap.size+1) l' w'->l'.length<=1000000000->Calls Tryz.prog 18 #[.pointer (some ⟨w2.heap.size+1,0,none⟩),.agg #[.string (T fn),.slice oC fcode.length cC]] w' fun e w''=>e=.returned (.tuple #[])/\BAbove W W.heap.size (w2.heap.size+1) (l'++codeTP (labelsP ⟨fn,fcode⟩) 0 fcode) w''/\(codeTP (labelsP ⟨fn,fcode⟩) 0 fcode).length<=1200000):=fun w' l' hB hl'=>wcode_any W HEW.out _ bs HOW.out fcode hok (fun x hx=>⟨p3 x hx,Nat.le_trans (hn2 x hx) (by omega)⟩) (by omega) _ hcd p4 (T fn) _ l' w' hB hl'
    have HTxt:Hid (fnTP ⟨fn,fcode⟩=[102,117,110,99,32]++fn++[10]++codeTP (labelsP ⟨fn,fcode⟩) 0 fcode):=rfl
    rw [HTxt.out] at HTk;generalize codeTP (labelsP ⟨fn,fcode⟩) 0 fcode=ct at *;generalize (fs.take k).flatMap fnTP=acc at *
    have HBa:Hid (BAbove W W.heap.size (w2.heap.size+1) (mt++acc) (wr.alloc (.cells #[.string (T fn),.slice oC fcode.length cC] 55))):=HB.out.mods ((Mods.refl _ _).alloc _)
    have HCa:Hid (Blk (wr.alloc (.cells #[.string (T fn),.slice oC fcode.length cC] 55)) wr.heap.size #[.string (T fn),.slice oC fcode.length cC] 55):=Blk.new _ _ _
    have hcb:wr.heap.size≠w2.heap.size+1:=by have:=HB.out.lt;omega
    have s1:¬ 9223372036854775807<5+(T fn).size:=by rw [T_size];omega
    have s2:¬ 9223372036854775807<5+(T fn).size+1:=by rw [T_size];omega
    have HWr:Hid (∀ w',BAbove W W.heap.size (w2.heap.size+1) (mt++acc) w'->Calls Tryz.prog 16 #[.pointer (some ⟨w2.heap.size+1,0,none⟩),.string (⟨#[102,117,110,99,32]⟩++T fn++⟨#[10]⟩)] w' fun e w''=>e=.returned (.tuple #[.int .i64 (⟨#[102,117,110,99,32]⟩++T fn++⟨#[10]⟩:ByteArray).size,.nilIface])/\BAbove W W.heap.size (w2.heap.size+1) (mt++acc++([102,117,110,99,32]++fn++[10])) w''/\Lib.OthersKept 5 (some (w2.heap.size+1)) w' w''):=fun w' hB=>by
     have hbl:BL (⟨#[102,117,110,99,32]⟩++T fn++⟨#[10]⟩)=[102,117,110,99,32]++fn++[10]:=by simp [BL,T]
     have hsz:(⟨#[102,117,110,99,32]⟩++T fn++⟨#[10]⟩:ByteArray).size=5+fn.length+1:=by simp only [ByteArray.size_append,T_size];rfl
     have:=hB.write (⟨#[102,117,110,99,32]⟩++T fn++⟨#[10]⟩) (by rw [hsz,List.length_append];omega)
     rw [hbl] at this;exact this
    go_wp2_with fail
    refine (HWr.out _ HBa.out).mono ?_
    rintro e w5 ⟨rfl,hB5,hk5⟩
    have hC5:Blk w5 wr.heap.size #[.string (T fn),.slice oC fcode.length cC] 55:=kept_blk hk5 HCa.out hcb (by decide)
    have z0:w5.cell? ⟨wr.heap.size,0,none⟩=some (.string (T fn)):=hC5.cell 0
    have z1:w5.cell? ⟨wr.heap.size,1,none⟩=some (.slice oC fcode.length cC):=hC5.cell 1
    have HB5:Hid _:=hB5
    clear hB5 hk5 hC5;go_wp2_with fail
    refine (HWc.out _ _ HB5.out (by simp only [List.length_append,List.length_cons,List.length_nil];omega)).mono ?_
    rintro e w6 ⟨rfl,hB6,hl6⟩
    have HB6:Hid (BAbove W W.heap.size (w2.heap.size+1) (mt++(acc++([102,117,110,99,32]++fn++[10]++ct))) w6):=by
     rw [Hid]
     simpa only [List.append_assoc] using hB6
    clear hB6;go_wp2_with fail
    go_roundw
    case rel=>exact ⟨k+1,by omega,by go_num,by rw [HTk.out];exact HB6.out,by rw [HTk.out];simp only [List.length_append,List.length_cons,List.length_nil];omega⟩
    case measure=>simp [intOf];omega
   ·obtain rfl:k=fs.length:=by omega
    rw [List.take_length] at HB
    have HTx:Hid (textP ms fs=mt++fs.flatMap fnTP):=by rw [Hid,<- HMt.out];rfl
    rw [<- HTx.out] at HB;go_wp2_with fail;refine HB.out.string.mono ?_;rintro e w9 ⟨rfl,hbe⟩
    have HM9:Hid (Mods Nil' W w9):=Mods.of_below hbe
    clear hbe;go_wp2_with fail;go_ret2
    exact ⟨rfl,HMW.out.trans HM9.out⟩
theorem kasm_any (w:World) (l:List UInt8) (hW:EnvW w) (hE:Env w) (hM:EnvM w) :
  Calls Tryz.prog 8 #[.string (T l)] w fun e w'=>∃ s c n,e=.returned (.tuple #[.string s,.int .i64 (c:Nat),.int .i64 (n:Nat)])/\AsmR l s c n/\Mods Nil' w w':=by
 have H:Hid (Calls Tryz.prog 12 #[.string (T l)] w fun e w'=>∃ s c n,e=.returned (.tuple #[.string s,.int .i64 (c:Nat),.int .i64 (n:Nat)])/\AsmR l s c n/\Mods Nil' w w'):=asm_any w l hW hE hM
 clear hW hE hM;generalize T l=s0 at *
 go_enter Tryz.func8,Tryz.ntmps8
 go_wp2_with fail;refine H.out.mono ?_;rintro e w1 ⟨s,c,n,rfl,hq,m⟩
 have HQ:Hid (AsmR l s c n/\Mods Nil' w w1):=⟨hq,m⟩
 clear hq m H;go_wp2_with fail;go_ret3
 exact ⟨s,c,n,rfl,HQ.out.1,HQ.out.2⟩
theorem kdis_any (w:World) (hE:Env w) (hW:EnvW w) (s:List UInt8) (hs:s.length<=maxLen) :
  Calls Tryz.prog 7 #[.string (T s)] w fun e w'=>e=.returned (disV (disP s))/\Mods Nil' w w':=by
 have HD:Hid (Calls Tryz.prog 11 #[.string (T s)] w fun e w'=>e=.returned (disV (disP s))/\Mods Nil' w w'):=pdis_any w hE hW s hs
 clear hE hW hs;generalize T s=s0 at *
 cases hd:disP s with
 | none =>
  rw [hd] at HD
  have HD2:Hid (Calls Tryz.prog 11 #[.string s0] w fun e w'=>e=.returned (.tuple #[.string ⟨#[]⟩,.int .i64 7])/\Mods Nil' w w'):=HD.out
  clear HD hd
  show Calls Tryz.prog 7 #[.string s0] w fun e w'=>e=.returned (.tuple #[.string ⟨#[]⟩,.int .i64 7])/\Mods Nil' w w'
  go_enter Tryz.func7,Tryz.ntmps7
  go_wp2_with fail;refine HD2.out.mono ?_;rintro e w1 ⟨rfl,m1⟩;go_wp2_with fail;go_ret2
  exact ⟨rfl,m1⟩
 | some t =>
  rw [hd] at HD
  have HD2:Hid (Calls Tryz.prog 11 #[.string s0] w fun e w'=>e=.returned (.tuple #[.string (T t),.int .i64 0])/\Mods Nil' w w'):=HD.out
  clear HD hd
  show Calls Tryz.prog 7 #[.string s0] w fun e w'=>e=.returned (.tuple #[.string (T t),.int .i64 0])/\Mods Nil' w w'
  go_enter Tryz.func7,Tryz.ntmps7
  go_wp2_with fail;refine HD2.out.mono ?_;rintro e w1 ⟨rfl,m1⟩;go_wp2_with fail;go_ret2
  exact ⟨rfl,m1⟩
def kxT:List UInt8:=[102,117,110,99,32,102,10,101,120,105,116]
def kxO:List UInt8:=[83,80,79,76,1,0,1,1,102,1,0,194,0,0,0,0,0,0,0,0,0]
def kxD:List UInt8:=[102,117,110,99,32,102,10,32,32,101,120,105,116,10]
def kxB:BS:=match parseP (linesP kxT) false 0 [] with
 | .inl ls=>buildP (outlineP ls) ls
 | .inr _=>{}
def kxF:Nat:=match parseP (linesP kxT) false 0 [] with
 | .inl ls=>(firstP (outlineP ls) ls {} 0).1
 | .inr _=>1
theorem kx_first:kxF=0:=by decide +kernel
theorem kx_maps:kxB.ms.length=0:=by decide +kernel
theorem kx_fns:kxB.fs.length=1:=by decide +kernel
theorem kx_obj:objU [] kxB.fs=kxO:=by decide +kernel
theorem kx_dis:disP kxO=some kxD:=by decide +kernel
theorem kx_asm {s:ByteArray} {c n:Nat} (h:AsmR kxT s c n):s=T kxO/\c=0:=by
 have h1:=kx_first
 have h2:=kx_maps
 have h3:=kx_fns
 have h4:=kx_obj
 unfold kxB at h2 h3 h4;unfold kxF at h1;unfold AsmR at h
 rw [if_neg (by decide)] at h
 cases hp:parseP (linesP kxT) false 0 [] with
 | inr k=>rw [hp] at h1;cases h1
 | inl ls =>
  rw [hp] at h h1 h2 h3 h4
  dsimp only at h h1 h2 h3 h4
  rw [if_pos h1] at h;obtain ⟨hc,_,ms,fs,pm,_,pf,_,rfl⟩:=h
  have e1:ms=[]:=by
   have:=pm.length_eq
   rw [h2] at this;exact List.length_eq_zero_iff.1 this
  obtain ⟨f,hf⟩:=List.length_eq_one_iff.1 h3;rw [hf] at pf h4;rw [e1,List.perm_singleton.1 pf,h4]
  exact ⟨rfl,hc⟩
set_option maxRecDepth 100000 in
set_option maxHeartbeats 1000000 in
theorem sure_any (w:World) (hW:EnvW w) (hE:Env w) (hM:EnvM w) :
  Calls Tryz.prog 6 #[] w fun e w'=>e=.returned (.bool true)/\Mods Nil' w w':=by
 have H1:Hid (Calls Tryz.prog 8 #[.string ⟨#[102,117,110,99,32,102,10,101,120,105,116]⟩] w fun e w'=>∃ n:Nat,e=.returned (.tuple #[.string ⟨#[83,80,79,76,1,0,1,1,102,1,0,194,0,0,0,0,0,0,0,0,0]⟩,.int .i64 0,.int .i64 n])/\Mods Nil' w w') :=
  (kasm_any w kxT hW hE hM).mono fun e w' ⟨s,c,n,h1,h2,h3⟩=>by
   obtain ⟨rfl,rfl⟩:=kx_asm h2
   exact ⟨n,h1,h3⟩
 have H2:Hid (∀ w1,Mods Nil' w w1->Calls Tryz.prog 7 #[.string ⟨#[83,80,79,76,1,0,1,1,102,1,0,194,0,0,0,0,0,0,0,0,0]⟩] w1 fun e w'=>e=.returned (.tuple #[.string ⟨#[102,117,110,99,32,102,10,32,32,101,120,105,116,10]⟩,.int .i64 0])/\Mods Nil' w w'):=fun w1 m =>
  (kdis_any w1 (hE.mods m) (hW.mods m) kxO (by decide)).mono fun e w' ⟨h1,h2⟩=>by
   rw [kx_dis] at h1
   exact ⟨h1,m.trans h2⟩
 clear hW hE hM
 go_enter Tryz.func6,Tryz.ntmps6
 go_wp2_with fail;refine H1.out.mono ?_;rintro e w1 ⟨n,rfl,m1⟩
 have HM1:Hid (Mods Nil' w w1):=m1
 clear m1 H1;go_wp2_with fail
 refine (H2.out _ HM1.out).mono ?_
 rintro e w2 ⟨rfl,m2⟩
 have HM2:Hid (Mods Nil' w w2):=m2
 clear m2 H2 HM1;go_wp2_with fail;go_ret
 exact ⟨rfl,HM2.out⟩
theorem prefC_le (n:Nat):∀ (c:List PI) (s:Nat),(∀ x∈c,x.name.length<=255)->(prefC n s c).length<=259*c.length
 | [],_,_=>Nat.zero_le _
 | x::c,s,h=>by
  have h1:=prefU_len n s x (h x (by simp))
  have h2:=prefC_le n c (s+x.o.slots) (fun y hy=>h y (by simp [hy]))
  rw [prefC,List.length_append,List.length_cons];omega
theorem prefF_le:∀ (fs:List PFn) (n:Nat),(∀ f∈fs,∀ x∈f.code,x.name.length<=255)->(prefF n fs).length<=259*plenR fs
 | [],_,_=>Nat.zero_le _
 | f::fs,n,h=>by
  have h1:=prefC_le n f.code 0 (h f (by simp))
  have h2:=prefF_le fs (n+1) (fun g hg=>h g (by simp [hg]))
  rw [prefF,List.length_append,plenR];omega
theorem asm_small {l:List UInt8} {s:ByteArray} {c n:Nat} (h:AsmR l s c n):s.size<=400000:=by
 unfold AsmR at h
 split at h
 ·rw [h.1];decide
 ·rename_i h4
  split at h
  ·rw [h.1];decide
  ·rename_i ls hp
   split at h
   ·rename_i h0
    obtain ⟨_,_,ms,fs,pm,_,pf,_,rfl⟩:=h;obtain ⟨hin,_,hnl⟩:=parsed_ok hp
    have hlk:∀ x∈ls,LOk x:=parse_lok _ _ _ _ _ hp (fun x h=>(by cases h))
    have hbo:=built_ok hlk hin (by omega) h0 ls.length (Nat.le_refl _)
    rw [List.take_length] at hbo;obtain ⟨_,h2,h3,h5,_⟩:=hbo.enc pm pf
    have h6:=prefF_le fs 0 h2
    have h7:(b8 (twoL (pcntR fs:Nat))).length=2:=by rw [b8_len];rfl
    rw [T_size,objU,List.length_append,List.length_append,h7]
    omega
   ·rw [h.1];decide
end Go.Proofs.YtnhcaifopaeohaaGreatDoor
