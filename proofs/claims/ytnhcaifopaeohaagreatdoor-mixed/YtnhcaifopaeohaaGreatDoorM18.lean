import Derived.Test.YtnhcaifopaeohaaGreatDoorM14
import Derived.Test.YtnhcaifopaeohaaGreatDoorM15
import Derived.Test.YtnhcaifopaeohaaGreatDoorM04
import Derived.Test.YtnhcaifopaeohaaGreatDoorM17
namespace Go.Proofs.YtnhcaifopaeohaaGreatDoor
open Go.RowKit
set_option linter.all false
structure RowDoes (wT:World) (b:Nat) (o:OpS) (x l:List UInt8) (va:Option Addr) (vn vc:Nat) (k6:FuncId) (c6:Array Value) (k8:FuncId) (c8:Array Value):Prop where
 c1:∀ w,Mods Nil' wT w->w.cell? ⟨b,1,none⟩=some (.slice va vn vc)
 c6':∀ w,Mods Nil' wT w->w.cell? ⟨b,6,none⟩=some (.func (.func k6) #[] c6)
 c8':∀ w,Mods Nil' wT w->w.cell? ⟨b,8,none⟩=some (.func (.func k8) #[] c8)
 ct:∀ w,Mods Nil' wT w->Calls Tryz.prog 212 #[.slice va vn vc,.string (T x)] w fun e w'=>e=.returned (.bool (o.words.contains x))/\w'=w
 e6:Ent k6
 e8:Ent k8
 rd:∀ w b',Mods Nil' wT w->wT.heap.size<=b'->(∀ w'',Mods (Only b') w w''->Env w'')->Blk w b' ((rst0 x l).cells (.pointer (some ⟨b,0,none⟩))) 196->l.length<=1000000->Calls Tryz.prog k6 (#[.pointer (some ⟨b',0,none⟩)]++c6) w fun e w''=>RdPost w b' (.pointer (some ⟨b,0,none⟩)) (o.read (rst0 x l)) e w''
 nd:∀ w (y:PIns),Mods Nil' wT w->y.Fit->Calls Tryz.prog k8 (#[.agg y.cells]++c8) w fun e w''=>e=.returned (.bool (o.needs y))/\Mods Nil' w w''
theorem OpAt.does {wT:World} {b:Nat} {o:OpS} (h:OpAt wT b o) (x l:List UInt8):∃ va vn vc k6 c6 k8 c8,RowDoes wT b o x l va vn vc k6 c6 k8 c8:=by
 obtain ⟨o1,n1,c1,f6,c6,k7,c7,k8,c8,f9,c9,hblk,hsem⟩:=h.ex
 have hw:=words_len o
 obtain ⟨k6,hf6,hen,hrd⟩:=hsem.rd.ex;subst hf6
 exact ⟨o1,n1,c1,k6,c6,k8,c8,{
  c1:=fun w m=>(hblk.mods m id).cell 1
  c6':=fun w m=>(hblk.mods m id).cell 6
  c8':=fun w m=>(hblk.mods m id).cell 8
  ct:=fun w m=>pcontains_any _ x _ w (hsem.ws.mods m (fun _ _=>id)) hw.1 (by omega)
  e6:=hen
  e8:=hsem.e8
  rd:=fun w b' m _ hE hb hl=>hrd w b' _ (rst0 x l) m.kp hE hb hl
  nd:=fun w y m hy=>hsem.nd w y m.kp hy }⟩
def RSt.pins (op:Value) (r:RSt):PIns:=⟨op,r.d,r.s,r.jump,r.num,r.high,T r.label,T r.name⟩
theorem RSt.FitP.fit {r:RSt} (h:r.FitP) (op:Value):(r.pins op).Fit :=
 ⟨h.d,h.s,h.j0,h.j1,h.n0,h.n1,h.h0,h.h1,by show (T r.label).size<=100;rw [T_size];exact h.l,by show (T r.name).size<=300;rw [T_size];exact h.m⟩
set_option maxRecDepth 100000 in
set_option maxHeartbeats 2000000 in
theorem opsRead_any (wT w:World) (v:Value) (bs:List Nat) (x l:List UInt8) (hO:OpsIn 0 wT v bs tableS) (m:Mods Nil' wT w) (hE:Env w) (hl:l.length<=1000000) :
  Calls Tryz.prog 107 #[v,.string (T x),.agg #[.string (T l)]] w fun e w'=>ReadPost w bs (readP x l) e w':=by
 have hO1:=hO.mods m
 obtain ⟨o,c,rfl,hcell⟩:=ops_cell hO1
 have HDO:Hid (∀ k (hk:k<tableS.length),∃ va vn vc k6 c6 k8 c8,RowDoes w (bs[k]?.getD 0) tableS[k] x l va vn vc k6 c6 k8 c8):=fun k hk=>(ops_at hO1 k hk).does x l
 have HC:=hid hcell
 have hlt88:tableS.length=88:=tableS_len
 have HST:Hid (∀ k (hk:k<tableS.length),readFrom x l k (tableS.drop k)=match tryRow tableS[k] x l k with | some y=>some y | none=>readFrom x l (k+1) (tableS.drop (k+1))):=fun k hk=>readFrom_step x l k hk
 have HEND:Hid (readFrom x l tableS.length (tableS.drop tableS.length)=none):=by rw [Hid,List.drop_length];rfl
 have HRP0:Hid (readP x l=readFrom x l 0 (tableS.drop 0)):=rfl
 have HOO:Hid (∀ k (hk:k<tableS.length),(PRead.o ⟨k,rst0 x l⟩)=tableS[k]):=fun k hk=>by simp [PRead.o,hk]
 have HE:=hid hE;clear hO hO1 m hcell hE
 have HPZ:Hid (∀ e w',readP x l=none->Mods Nil' w w'->e=.returned (.tuple #[.agg zeroI,.bool false,.bool false])->ReadPost w bs (readP x l) e w'):=fun e w' h1 h2 h3=>⟨h2,by rw [h1];exact h3⟩
 have HPS:Hid (∀ e w' y,readP x l=some y->Mods Nil' w w'->e=.returned (.tuple #[.agg (y.cells bs),.bool y.fits,.bool true])->ReadPost w bs (readP x l) e w'):=fun e w' y h1 h2 h3=>⟨h2,by rw [h1];exact h3⟩
 generalize ReadPost w bs (readP x l)=RP at *;generalize readP x l=rp at *
 have HL0:Hid (Blk ((w.alloc (.cells #[.string (T l)] 162)).alloc (.cells zeroI 84)) w.heap.size #[.string (T l)] 162):=(Blk.new w _ _).alloc _
 have HR0:Hid (Blk ((w.alloc (.cells #[.string (T l)] 162)).alloc (.cells zeroI 84)) (w.heap.size+1) zeroI 84):=by
  have:=Blk.new (w.alloc (.cells #[.string (T l)] 162)) zeroI 84
  simpa [Hid] using this
 have HM0:Hid (Mods Nil' w ((w.alloc (.cells #[.string (T l)] 162)).alloc (.cells zeroI 84))):=((Mods.refl _ _).alloc _).alloc _
 go_enter Tryz.func107,Tryz.ntmps107
 go_upto_block 0 with fail;unfold zeroI at HL0 HR0 HM0;generalize (w.alloc (.cells #[.string (T l)] 162)).alloc (.cells #[.pointer none,.int .u8 0,.int .u8 0,.int .i16 0,.int .i32 0,.int .i32 0,.string ⟨#[]⟩,.string ⟨#[]⟩] 84)=w1 at *
 obtain ⟨F,hF⟩:∃ F:Nat->Option PRead,∀ k,readFrom x l k (tableS.drop k)=F k:=⟨_,fun _=>rfl⟩
 have HST2:Hid (∀ k (hk:k<tableS.length),F k=match tryRow tableS[k] x l k with | some y=>some y | none=>F (k+1)):=fun k hk=>by
  have:=HST.out k hk
  rw [hF,hF] at this;exact this
 have HEND2:Hid (F tableS.length=none):=by rw [Hid,<- hF];exact HEND.out
 have HRP1:Hid (rp=F 0):=by rw [Hid,<- hF];exact HRP0.out
 clear hF HST HEND HRP0;have HNEW:=hid HR0.out.lt
 generalize hLb:w.heap.size=Lb at *
 generalize hRb:Lb+1=Rb at *
 have HLR:Hid (Lb≠Rb):=by rw [Hid];omega
 go_wp2_with fail
 go_loopg [14] tableS.length (fun q v wx=>∃ k:Nat,k<=tableS.length/\v=.int .i64 k/\Blk wx Lb #[.string (T l)] 162/\Blk wx Rb #[.pointer none,.int .u8 0,.int .u8 0,.int .i16 0,.int .i32 0,.int .i32 0,.string ⟨#[]⟩,.string ⟨#[]⟩] 84/\Mods Nil' w wx/\rp=F k/\q=tableS.length - k)
 case atStart=>exact ⟨0,Nat.zero_le _,rfl,HL0.out,HR0.out,HM0.out,HRP1.out,rfl⟩
 case round =>
  obtain ⟨k,hk,rfl,hlb,hrb,hmk,hrk,rfl⟩:=hrel;have HLk:=hid hlb;have HRk:=hid hrb;have HMk:=hid hmk;have HFk:=hid hrk;clear hlb hrb hmk hrk HL0 HR0 HM0 HRP1
  by_cases hlt:k<tableS.length
  ·obtain ⟨va,vn,vc,k6,c6,k8,c8,HD⟩:=HDO.out k hlt
   have HT:Hid (F k=match tryRow tableS[k] x l k with | some y=>some y | none=>F (k+1)):=HST2.out k hlt
   have HOk:Hid (∀ r,PRead.o ⟨k,r⟩=tableS[k]):=fun r=>by simp [PRead.o,hlt]
   obtain ⟨g,rfl,hg⟩:=HC.out k hlt
   have q0:=hg wr HMk.out
   have q1:=HD.c1 wr HMk.out
   have HDD:=hid HD
   have HCT:Hid (Calls Tryz.prog 212 #[.slice va vn vc,.string (T x)] wr fun e w'=>e=.returned (.bool (tableS[k].words.contains x))/\w'=wr):=HD.ct wr HMk.out
   clear HD hg HC HDO HST2 HEND2 HOO;generalize tableS[k]=ok at *
   generalize hbk:bs[k]?.getD 0=bk at *
   cases hc:ok.words.contains x with
   | false =>
    have HN:Hid (rp=F (k+1)):=by
     rw [Hid,HFk.out,HT.out,tryRow,hc];rfl
    go_wp2_with fail;refine HCT.out.mono ?_;rintro e w2 ⟨rfl,rfl⟩;rw [hc];go_wp2_with fail
    go_roundg (tableS.length - (k+1))
    case measure=>omega
    case rel=>exact ⟨k+1,by omega,by go_num,HLk.out,HRk.out,HMk.out,HN.out,rfl⟩
   | true =>
    have HTR:Hid (tryRow ok x l k=match ok.read (rst0 x l) with | none=>none | some r=>if skipL r.rest=[] then some ⟨k,{ r with rest:=[] }⟩ else none):=by
     rw [Hid,tryRow,if_pos hc];rfl
    have y0:wr.cell? ⟨Lb,0,none⟩=some (.string (T l)):=HLk.out.cell 0
    have q6:∀ cs t,(wr.alloc (.cells cs t)).cell? ⟨bk,6,none⟩=some (.func (.func k6) #[] c6):=fun cs t=>HDD.out.c6' _ (HMk.out.alloc _)
    have hen:=HDD.out.e6
    unfold Ent at hen;go_wp2_with fail;refine HCT.out.mono ?_;rintro e w2 ⟨rfl,rfl⟩;rw [hc];go_wp2_with fail
    have HB3:Hid (Blk (w2.alloc (.cells ((rst0 x l).cells (.pointer (some ⟨bk,0,none⟩))) 196)) w2.heap.size ((rst0 x l).cells (.pointer (some ⟨bk,0,none⟩))) 196):=Blk.new _ _ _
    have HM3:Hid (∀ cs t,Mods Nil' w (w2.alloc (.cells cs t))):=fun cs t=>HMk.out.alloc _
    have HL3:Hid (∀ cs t,Blk (w2.alloc (.cells cs t)) Lb #[.string (T l)] 162):=fun cs t=>HLk.out.alloc _
    have HR3:Hid (∀ cs t,Blk (w2.alloc (.cells cs t)) Rb #[.pointer none,.int .u8 0,.int .u8 0,.int .i16 0,.int .i32 0,.int .i32 0,.string ⟨#[]⟩,.string ⟨#[]⟩] 84):=fun cs t=>HRk.out.alloc _
    have hLl:Lb<w2.heap.size:=HLk.out.lt
    have hRl:Rb<w2.heap.size:=HRk.out.lt
    have hws:w.heap.size<=w2.heap.size:=HMk.out.size
    refine (HDD.out.rd _ w2.heap.size (HM3.out _ _) hws (fun w'' m=>HE.out.mods ((HM3.out _ _).step m (fun i hi e=>by have:i=w2.heap.size:=e;omega))) HB3.out hl).mono ?_
    intro e w3 hpo;obtain ⟨rfl,hm3,hat⟩:=hpo
    generalize hBB:w2.heap.size=B at *
    have HM4:Hid (Mods Nil' w w3):=(HM3.out _ _).step hm3 (fun i hi e=>by have:i=B:=e;omega)
    have HL4:Hid (Blk w3 Lb #[.string (T l)] 162):=(HL3.out _ _).mods hm3 (fun e=>by have:Lb=B:=e;omega)
    have HR4:Hid (Blk w3 Rb #[.pointer none,.int .u8 0,.int .u8 0,.int .i16 0,.int .i32 0,.int .i32 0,.string ⟨#[]⟩,.string ⟨#[]⟩] 84):=(HR3.out _ _).mods hm3 (fun e=>by have:Rb=B:=e;omega)
    have HAT:=hid hat;clear hm3 hat HB3 HM3 HL3 HR3 HCT y0 q6 hen q0 q1 HLk HRk HMk
    cases hx:ok.read (rst0 x l) with
    | none =>
     have HN:Hid (rp=F (k+1)):=by rw [Hid,HFk.out,HT.out,HTR.out,hx]
     go_wp2_with fail
     go_roundg (tableS.length - (k+1))
     case measure=>omega
     case rel=>exact ⟨k+1,by omega,by go_num,HL4.out,HR4.out,HM4.out,HN.out,rfl⟩
    | some r1 =>
     have hb1:=HAT.out r1 hx
     have HF1:Hid r1.FitP:=oread_fit ok _ r1 hx (rst0_fit x l)
     have HDN:Hid (Calls Tryz.prog 100 #[.pointer (some ⟨B,1,none⟩)] w3 fun e w'=>e=.returned (.bool (decide (skipL r1.rest=[])))/\LnPost w3 B 1 (r1.cells (.pointer (some ⟨bk,0,none⟩))) 196 (skipL r1.rest) w'):=done_any B 1 _ _ r1.rest w3 (rd_ln hb1)
     clear hb1 HAT
     by_cases hd:skipL r1.rest=[]
     ·have HN:Hid (rp=some ⟨k,{ r1 with rest:=[] }⟩):=by
       rw [Hid,HFk.out,HT.out,HTR.out,hx];dsimp only;rw [if_pos hd]
      have HFI:Hid ((PRead.mk k { r1 with rest:=[] }).fits=(!r1.far&&ok.needs (r1.pins (.pointer (some ⟨bk,0,none⟩))))):=by
       unfold PRead.fits;rw [HOk.out]
       exact congrArg _ (needs_opL ok _ _ ⟨rfl,rfl,rfl,rfl,rfl⟩)
      have HYC:Hid ((PRead.mk k { r1 with rest:=[] }).cells bs=(r1.pins (.pointer (some ⟨bk,0,none⟩))).cells):=by
       unfold PRead.cells
       dsimp only
       rw [hbk];rfl
      rw [hd] at HDN;go_wp2_with fail;refine HDN.out.mono ?_;rintro e w4 ⟨rfl,hp4⟩;have HB4:=hid hp4.rd
      have HM5:Hid (Mods Nil' w w4):=HM4.out.step hp4.2 (fun i hi e=>by have:i=B:=e;omega)
      have HR5:Hid (Blk w4 Rb #[.pointer none,.int .u8 0,.int .u8 0,.int .i16 0,.int .i32 0,.int .i32 0,.string ⟨#[]⟩,.string ⟨#[]⟩] 84):=HR4.out.mods hp4.2 (fun e=>by have:Rb=B:=e;omega)
      clear hp4 HDN HM4 HL4 HR4
      have hBR:¬ Only Rb B:=fun e=>by have:B=Rb:=e;omega
      have HMg:Hid (∀ g:Ext (Only Rb) w4,Mods Nil' w g.w):=fun g=>HM5.out.step g.m (fun i hi e=>by have:i=Rb:=e;omega)
      have e2:∀ g:Ext (Only Rb) w4,g.w.cell? ⟨B,2,none⟩=some (.pointer (some ⟨bk,0,none⟩)):=fun g=>g.cell HB4.out hBR 2
      have e3:∀ g:Ext (Only Rb) w4,g.w.cell? ⟨B,3,none⟩=some (.int .u8 r1.d):=fun g=>g.cell HB4.out hBR 3
      have e4:∀ g:Ext (Only Rb) w4,g.w.cell? ⟨B,4,none⟩=some (.int .u8 r1.s):=fun g=>g.cell HB4.out hBR 4
      have e5:∀ g:Ext (Only Rb) w4,g.w.cell? ⟨B,5,none⟩=some (.int .i16 r1.jump):=fun g=>g.cell HB4.out hBR 5
      have e6:∀ g:Ext (Only Rb) w4,g.w.cell? ⟨B,6,none⟩=some (.int .i32 r1.num):=fun g=>g.cell HB4.out hBR 6
      have e7:∀ g:Ext (Only Rb) w4,g.w.cell? ⟨B,7,none⟩=some (.int .i32 r1.high):=fun g=>g.cell HB4.out hBR 7
      have e8:∀ g:Ext (Only Rb) w4,g.w.cell? ⟨B,8,none⟩=some (.string (T r1.label)):=fun g=>g.cell HB4.out hBR 8
      have e9:∀ g:Ext (Only Rb) w4,g.w.cell? ⟨B,9,none⟩=some (.string (T r1.name)):=fun g=>g.cell HB4.out hBR 9
      have e10:∀ g:Ext (Only Rb) w4,g.w.cell? ⟨B,10,none⟩=some (.bool r1.far):=fun g=>g.cell HB4.out hBR 10
      have c8e:∀ g:Ext (Only Rb) w4,g.w.cell? ⟨bk,8,none⟩=some (.func (.func k8) #[] c8):=fun g=>HDD.out.c8' g.w (HMg.out g)
      have ne1:=Ext.ne (Only Rb) w4
      have hen8:=HDD.out.e8
      unfold Ent at hen8
      have HND:Hid (∀ g:Ext (Only Rb) w4,Calls Tryz.prog k8 (#[.agg #[.pointer (some ⟨bk,0,none⟩),.int .u8 r1.d,.int .u8 r1.s,.int .i16 r1.jump,.int .i32 r1.num,.int .i32 r1.high,.string (T r1.label),.string (T r1.name)]]++c8) g.w fun e w''=>e=.returned (.bool (ok.needs (r1.pins (.pointer (some ⟨bk,0,none⟩)))))/\Mods Nil' g.w w''):=fun g=>HDD.out.nd g.w (r1.pins (.pointer (some ⟨bk,0,none⟩))) (HMg.out g) (HF1.out.fit _)
      have HPS2:Hid (∀ w' fi,Mods Nil' w w'->(!r1.far&&ok.needs (r1.pins (.pointer (some ⟨bk,0,none⟩))))=fi->RP (.returned (.tuple #[.agg #[.pointer (some ⟨bk,0,none⟩),.int .u8 r1.d,.int .u8 r1.s,.int .i16 r1.jump,.int .i32 r1.num,.int .i32 r1.high,.string (T r1.label),.string (T r1.name)],.bool fi,.bool true])) w'):=fun w' fi hm hfi=>by
       refine HPS.out _ w' _ HN.out hm ?_
       rw [HFI.out,hfi,HYC.out];rfl
      clear HB4 HMg HDD HPS HFI HYC HPZ HT HTR HOk HN HFk;generalize ok.needs (r1.pins (.pointer (some ⟨bk,0,none⟩)))=nq at *;go_upto_region 7 with fail;generalize r1.far=fr at *
      cases fr with
      | false =>
       refine wp_region_mix [12,14] (fun w'=>∃ e:Ext (Only Rb) w4,w'=e.w) (by kernel_rfl) (by kernel_rfl) (by kernel_rfl) ⟨⟨_,(Mods.refl _ _).drew⟩,rfl⟩ ?_
       iterate 6 (refine mix_pure rfl rfl rfl ?_;intro K hK;go_big_quiet_op;go_big_quiet_on)
       refine mix_pureG rfl rfl rfl ?_
       intro K hK
       go_big_quiet_op
       go_big_quiet_on
       refine mix_nilCheckG rfl rfl _ ⟨bk,0,none⟩ rfl rfl ?_
       simp only [Act.put,List.setIfInBounds_toArray,List.set_cons_succ,List.set_cons_zero]
       iterate 4 (refine mix_pureG rfl rfl rfl ?_;intro K hK;go_big_quiet_op;go_big_quiet_on)
       refine mix_actG rfl rfl ?_
       intro K hK
       go_big_op
       refine (HND.out ⟨w4.drew,(Mods.refl _ _).drew⟩).mono ?_
       rintro e w5 ⟨rfl,m5⟩
       have HM6:Hid (Mods Nil' w w5):=(HM5.out.drew).trans m5
       have HR6:Hid (Blk w5 Rb #[.pointer none,.int .u8 0,.int .u8 0,.int .i16 0,.int .i32 0,.int .i32 0,.string ⟨#[]⟩,.string ⟨#[]⟩] 84):=(HR5.out.drew).mods m5 id
       have X5:Hid (Mods (Only Rb) w4 w5):=((Mods.refl _ _).drew).trans m5.of_nil
       refine hK _ _ rfl ⟨⟨_,X5.out⟩,rfl⟩ ?_
       clear hK K m5 HM5 HR5 HND
       try simp only [Act.put,List.setIfInBounds_toArray,List.set_cons_succ,List.set_cons_zero]
       refine mix_pick rfl rfl _ _ _ _ rfl rfl ?_
       simp only [Act.put,Act.eval,List.setIfInBounds_toArray,List.set_cons_succ,List.set_cons_zero]
       obtain ⟨r0,r1',r2,r3,r4,r5,r6,r7⟩:=HR6.out.cells8
       have rf:=HR6.out.frozen
       refine mix_act rfl rfl ?_
       intro K hK
       go_big_op
       refine hK _ _ rfl ⟨⟨_,Mods.set8 X5.out (.inl rfl) _ _ _ _ _ _ _ _⟩,rfl⟩ ?_
       clear hK K r0 r1' r2 r3 r4 r5 r6 r7 rf
       try simp only [Act.put,List.setIfInBounds_toArray,List.set_cons_succ,List.set_cons_zero]
       iterate 2 (refine mix_pure rfl rfl rfl ?_;intro K hK;go_big_quiet_op;go_big_quiet_on)
       refine mix_nil ?_
       try simp only [Exit.then]
       go_wp2_with fail
       refine bodyPost_ret (results_cell_tmp2 Tryz.results107 _ _ Rb 84 _ (0,0) _ _ _ rfl rfl rfl (Blk.set8 HR6.out _ _ _ _ _ _ _ _) Tryz.underlying84 rfl (by kernel_rfl)) rfl ?_
       exact HPS2.out _ _ (Mods.set8 HM6.out (.inr (by omega)) _ _ _ _ _ _ _ _) (by simp)
      | true =>
       have HM6:=hid HM5.out.drew;have HR6:=hid HR5.out.drew
       have X5:Hid (Mods (Only Rb) w4 w4.drew):=(Mods.refl _ _).drew
       clear HM5 HR5 HND
       refine wp_region_mix [12,14] (fun w'=>∃ e:Ext (Only Rb) w4,w'=e.w) (by kernel_rfl) (by kernel_rfl) (by kernel_rfl) ⟨⟨_,(Mods.refl _ _).drew⟩,rfl⟩ ?_
       change wpMix _ _ _ _ _ _ _ _ w4.drew
       generalize w4.drew=W at *
       iterate 6 (refine mix_pure rfl rfl rfl ?_;intro K hK;go_big_quiet_op;go_big_quiet_on)
       iterate 7 (refine mix_skip rfl ?_;simp only [Act.put,List.setIfInBounds_toArray,List.set_cons_succ,List.set_cons_zero])
       refine mix_pick rfl rfl _ _ _ _ rfl rfl ?_
       simp only [Act.put,Act.eval,List.setIfInBounds_toArray,List.set_cons_succ,List.set_cons_zero]
       obtain ⟨r0,r1',r2,r3,r4,r5,r6,r7⟩:=HR6.out.cells8
       have rf:=HR6.out.frozen
       refine mix_act rfl rfl ?_
       intro K hK
       go_big_op
       refine hK _ _ rfl ⟨⟨_,Mods.set8 X5.out (.inl rfl) _ _ _ _ _ _ _ _⟩,rfl⟩ ?_
       clear hK K r0 r1' r2 r3 r4 r5 r6 r7 rf
       try simp only [Act.put,List.setIfInBounds_toArray,List.set_cons_succ,List.set_cons_zero]
       iterate 2 (refine mix_pure rfl rfl rfl ?_;intro K hK;go_big_quiet_op;go_big_quiet_on)
       refine mix_nil ?_
       try simp only [Exit.then]
       go_wp2_with fail
       refine bodyPost_ret (results_cell_tmp2 Tryz.results107 _ _ Rb 84 _ (0,0) _ _ _ rfl rfl rfl (Blk.set8 HR6.out _ _ _ _ _ _ _ _) Tryz.underlying84 rfl (by kernel_rfl)) rfl ?_
       exact HPS2.out _ _ (Mods.set8 HM6.out (.inr (by omega)) _ _ _ _ _ _ _ _) (by simp)
     ·have HN:Hid (rp=F (k+1)):=by
       rw [Hid,HFk.out,HT.out,HTR.out,hx];dsimp only;rw [if_neg hd]
      have hd':decide (skipL r1.rest=[])=false:=by simpa using hd
      rw [hd'] at HDN;go_wp2_with fail;refine HDN.out.mono ?_;rintro e w4 ⟨rfl,hp4⟩
      have HM5:Hid (Mods Nil' w w4):=HM4.out.step hp4.2 (fun i hi e=>by have:i=B:=e;omega)
      have HL5:Hid (Blk w4 Lb #[.string (T l)] 162):=HL4.out.mods hp4.2 (fun e=>by have:Lb=B:=e;omega)
      have HR5:Hid (Blk w4 Rb #[.pointer none,.int .u8 0,.int .u8 0,.int .i16 0,.int .i32 0,.int .i32 0,.string ⟨#[]⟩,.string ⟨#[]⟩] 84):=HR4.out.mods hp4.2 (fun e=>by have:Rb=B:=e;omega)
      clear hp4 HDN HM4 HL4 HR4;go_wp2_with fail
      go_roundg (tableS.length - (k+1))
      case measure=>omega
      case rel=>exact ⟨k+1,by omega,by go_num,HL5.out,HR5.out,HM5.out,HN.out,rfl⟩
  ·have hke:k=tableS.length:=by omega
   have HN:Hid (rp=none):=by rw [Hid,HFk.out,hke];exact HEND2.out
   have r0:=HRk.out.cells8
   obtain ⟨r0,r1,r2,r3,r4,r5,r6,r7⟩:=r0
   have rf:=HRk.out.frozen
   go_wp2_with fail
   refine bodyPost_ret (results_cell_tmp2 Tryz.results107 _ _ Rb 84 _ (0,0) _ _ _ rfl rfl rfl (Blk.set8 HRk.out _ _ _ _ _ _ _ _) Tryz.underlying84 rfl (by kernel_rfl)) rfl ?_
   exact HPZ.out _ _ HN.out (Mods.set8 HMk.out (.inr (by omega)) _ _ _ _ _ _ _ _) rfl
set_option maxRecDepth 100000 in
set_option maxHeartbeats 1000000 in
theorem res_any (wT w:World) (v:Value) (bs:List Nat) (x:List UInt8) (hO:OpsIn 0 wT v bs tableS) (m:Mods Nil' wT w) (hE:Env w) (hx:x.length<=1000000) :
  Calls Tryz.prog 104 #[v,.string (T x)] w fun e w'=>e=.returned (.bool (reservedP x))/\Mods Nil' w w':=by
 have HR:Hid (Calls Tryz.prog 210 #[.string (T x)] w fun e w'=>e=.returned (.bool (regOfP x).isSome)/\Mods Nil' w w'):=isReg_any x w hE hx
 have HB:Hid (∀ w',Mods Nil' w w'->Calls Tryz.prog 211 #[v,.string (T x)] w' fun e w''=>e=.returned (.bool (beginsP x))/\w''=w'):=fun w' m'=>begins_any wT w' v bs x hO (m.trans m')
 have HX:Hid (reservedP x=(x==[109,97,112]||x==[102,117,110,99]||(regOfP x).isSome||beginsP x)):=rfl
 obtain ⟨o,c,rfl,_⟩:=hO.sl.view;generalize reservedP x=rx at *;generalize (regOfP x).isSome=rr at *;generalize beginsP x=bb at *
 by_cases h1:x=[109,97,112]
 ·have hq:((T x).toList==[109,97,112])=true:=lit_eq (by rw [h1])
  have HX2:Hid (rx=true):=by rw [Hid,HX.out,h1];rfl
  clear h1
  go_enter Tryz.func104,Tryz.ntmps104
  go_wp2_with fail;go_ret;rw [HX2.out]
  exact ⟨rfl,Mods.refl _ _⟩
 ·have hq:((T x).toList==[109,97,112])=false:=lit_ne (fun e=>h1 (T_injL e))
  have hb1:(x==[109,97,112])=false:=by simpa using h1
  by_cases h2:x=[102,117,110,99]
  ·have hq2:((T x).toList==[102,117,110,99])=true:=lit_eq (by rw [h2])
   have HX2:Hid (rx=true):=by rw [Hid,HX.out,h2];rfl
   clear h1 h2 hb1
   go_enter Tryz.func104,Tryz.ntmps104
   go_wp2_with fail;go_ret;rw [HX2.out]
   exact ⟨rfl,Mods.refl _ _⟩
  ·have hq2:((T x).toList==[102,117,110,99])=false:=lit_ne (fun e=>h2 (T_injL e))
   have hb2:(x==[102,117,110,99])=false:=by simpa using h2
   have HX2:Hid (rx=(rr||bb)):=by rw [Hid,HX.out,hb1,hb2];rfl
   clear HX hb1 hb2 h1 h2
   cases rr with
   | true =>
    go_enter Tryz.func104,Tryz.ntmps104
    go_wp2_with fail;refine HR.out.mono ?_;rintro e w1 ⟨rfl,m1⟩;go_wp2_with fail;go_ret;rw [HX2.out]
    exact ⟨rfl,m1⟩
   | false =>
    go_enter Tryz.func104,Tryz.ntmps104
    go_wp2_with fail;refine HR.out.mono ?_;rintro e w1 ⟨rfl,m1⟩;go_wp2_with fail
    refine (HB.out _ m1).mono ?_
    rintro e w2 ⟨rfl,rfl⟩;go_wp2_with fail;go_ret;rw [HX2.out]
    exact ⟨rfl,m1⟩
def EnvM (w:World):Prop:=∃ m,w.cell? ⟨1,0,none⟩=some (.int .i64 m)
theorem cell_kept {w w':World} (m:Mods Nil' w w') {b i:Nat} {v:Value} (h:w.cell? ⟨b,i,none⟩=some v):w'.cell? ⟨b,i,none⟩=some v:=by
 unfold World.cell? at *
 by_cases hb:b<w.heap.size
 ·simp only at *
  rw [m.block b hb id];exact h
 ·simp only at h
  rw [Array.getElem?_eq_none (by omega)] at h
  cases h
theorem EnvM.mods {w w':World} (h:EnvM w) (m:Mods Nil' w w'):EnvM w':=by
 obtain ⟨x,hx⟩:=h
 exact ⟨x,cell_kept m hx⟩
theorem takeWhile_all (p:UInt8->Bool):∀ l:List UInt8,(∀ d∈l,p d=true)->l.takeWhile p=l
 | [],_=>rfl
 | c::l,h=>by rw [List.takeWhile_cons,if_pos (h c (by simp)),takeWhile_all p l (fun d hd=>h d (by simp [hd]))]
theorem index_one (l:List UInt8) (c:UInt8):(Lib.index l [c]=-1/\∀ d∈l,d≠c)\/(∃ k:Nat,Lib.index l [c]=k/\l.takeWhile (fun d=>d != c)=l.take k/\k<l.length):=by
 induction l with
 | nil=>left;exact ⟨rfl,by simp⟩
 | cons b l ih =>
  rw [Lib.index]
  by_cases h:b=c
  ·right
   subst h
   refine ⟨0,?_,by simp [List.takeWhile_cons],by simp⟩
   rw [if_pos (by simp [List.isPrefixOf])];rfl
  ·have hp:List.isPrefixOf [c] (b::l)=false:=by
    simp only [List.isPrefixOf,Bool.and_true,beq_eq_false_iff_ne]
    exact fun e=>h e.symm
   rw [if_neg (by simp [hp])]
   rcases ih with ⟨h1,h2⟩ | ⟨k,h1,h2,h3⟩
   ·left
    refine ⟨by rw [h1];rfl,?_⟩
    intro d hd
    rcases List.mem_cons.1 hd with rfl | hd
    ·exact h
    ·exact h2 d hd
   ·right
    refine ⟨k+1,?_,?_,by simpa using h3⟩
    ·rw [h1,if_neg (by simp)];rfl
    ·rw [List.takeWhile_cons,if_pos (by simpa using h),h2];rfl
theorem cut_head (l:List UInt8) (c:UInt8):(Lib.cut l [c]).1=l.takeWhile (fun d=>d != c):=by
 unfold Lib.cut
 rcases index_one l c with ⟨h1,h2⟩ | ⟨k,h1,h2,h3⟩
 ·rw [h1,if_neg (by decide)]
  show l=_
  symm
  exact takeWhile_all _ l (fun d hd=>by simpa using h2 d hd)
 ·rw [h1,if_pos (by omega),h2];simp
theorem pcut_any (l:List UInt8) (w:World) (hM:EnvM w) (hl:l.length<=1000000) :
  Calls Tryz.prog 206 #[.string (T l),.string ⟨#[59]⟩] w fun e w'=>(∃ a b,e=.returned (.tuple #[.string (T (l.takeWhile (fun d=>d != 59))),.string a,.bool b]))/\Mods Nil' w w':=by
 obtain ⟨m,hm⟩:=hM
 have h:=Any.strings_Cut Tryz.lcu (T l) ⟨#[59]⟩ m w (by rw [T_size];omega) hm
 have e:∀ l,(T l).data.toList=l:=fun l=>by simp [T]
 rw [e,cut_head] at h
 exact h.mono (fun _ _ ⟨he,n,hw⟩=>⟨⟨_,_,he⟩,by rw [hw];exact (Mods.refl _ _).drewN n⟩)
def byteOk (c:UInt8):Bool:=decide (32<=(c.toNat:Int))&&decide ((c.toNat:Int)<=126)
theorem newL_ok {l:List UInt8} (h:∀ d∈l,byteOk d=true):newL l=some (l.takeWhile (fun c=>c != 59)):=by
 unfold newL
 exact if_pos (List.all_eq_true.2 h)
theorem newL_no {l:List UInt8} {k:Nat} (hk:k<l.length) (h:byteOk l[k]=false):newL l=none:=by
 unfold newL;rw [if_neg];intro e
 have:=List.all_eq_true.1 e l[k] (List.getElem_mem hk)
 have h2:byteOk l[k]=true:=this
 rw [h] at h2;cases h2
set_option maxRecDepth 100000 in
set_option maxHeartbeats 1000000 in
theorem new_any (t:List UInt8) (w:World) (hM:EnvM w) (hl:t.length<=1000000) :
  Calls Tryz.prog 99 #[.string (T t)] w fun e w'=>e=.returned (.tuple #[.agg #[.string (T ((newL t).getD []))],.bool (newL t).isSome])/\Mods Nil' w w':=by
 have HNO:Hid (∀ k (hk:k<t.length),byteOk t[k]=false->newL t=none):=fun k hk h=>newL_no hk h
 have HOK:Hid ((∀ d∈t,byteOk d=true)->newL t=some (t.takeWhile (fun c=>c != 59))):=newL_ok
 have HCU:Hid (∀ w',EnvM w'->Calls Tryz.prog 206 #[.string (T t),.string ⟨#[59]⟩] w' fun e w''=>(∃ a b,e=.returned (.tuple #[.string (T (t.takeWhile (fun d=>d != 59))),.string a,.bool b]))/\Mods Nil' w' w''):=fun w' h=>pcut_any t w' h hl
 have HM:=hid hM;clear hM;generalize newL t=nl at *
 generalize t.takeWhile (fun c=>c != 59)=tw at *
 have hs:(T t).size=t.length:=T_size t
 have HR0:Hid (Blk (w.alloc (.cells #[.string ⟨#[]⟩] 162)) w.heap.size #[.string ⟨#[]⟩] 162):=Blk.new w _ _
 have HM0:Hid (Mods Nil' w (w.alloc (.cells #[.string ⟨#[]⟩] 162))):=(Mods.refl _ _).alloc _
 go_enter Tryz.func99,Tryz.ntmps99
 go_wp2_with fail
 go_loop [10] (fun v=>∃ k:Nat,k<=t.length/\v=.int .i64 k/\∀ j (hj:j<k) (h:j<t.length),byteOk t[j]=true) (fun v=>t.length - (intOf v).toNat)
 case atStart=>exact ⟨0,Nat.zero_le _,rfl,fun j hj=>absurd hj (Nat.not_lt_zero _)⟩
 case round =>
  obtain ⟨k,hk,rfl,hj⟩:=hrel;have HJ:=hid hj;clear hj
  by_cases hlt:k<t.length
  ·have hg:(T t)[k]'(by rw [hs];exact hlt)=t[k]:=rfl
   have hb:=(t[k]).toNat_lt
   have HBO:Hid (byteOk t[k]=(decide (32<=((t[k]).toNat:Int))&&decide (((t[k]).toNat:Int)<=126))):=rfl
   have HN:Hid (byteOk t[k]=false->nl=none):=HNO.out k hlt
   have HJ2:Hid (byteOk t[k]=true->∀ j (hj:j<k+1) (h:j<t.length),byteOk t[j]=true):=fun hc j hj h=>by
    rcases Nat.lt_or_ge j k with e | e
    ·exact HJ.out j e h
    ·have:j=k:=by omega
     subst this;exact hc
   generalize hbo:byteOk t[k]=bo at *
   by_cases h1:(t[k]).toNat<32
   ·have h1':((t[k]).toNat:Int)<32:=by omega
    have HX:Hid (nl=none):=HN.out (by rw [HBO.out,decide_eq_false (by omega)];rfl)
    clear HN HJ2 HBO;go_wp2_with fail
    refine bodyPost_ret (results_cell_tmp_row Tryz.results99 _ _ w.heap.size 162 _ (0,0) _ _ rfl rfl HR0.out Tryz.underlying162 rfl (by kernel_rfl)) rfl ⟨?_,HM0.out⟩
    rw [HX.out];rfl
   ·have h1':decide (((t[k]).toNat:Int)<32)=false:=by simp;omega
    by_cases h2:126<(t[k]).toNat
    ·have h2':(126:Int)<((t[k]).toNat:Int):=by omega
     have HX:Hid (nl=none):=HN.out (by rw [HBO.out,decide_eq_false (show ¬ ((t[k]).toNat:Int)<=126 by omega),Bool.and_false])
     clear HN HJ2 HBO;go_wp2_with fail
     refine bodyPost_ret (results_cell_tmp_row Tryz.results99 _ _ w.heap.size 162 _ (0,0) _ _ rfl rfl HR0.out Tryz.underlying162 rfl (by kernel_rfl)) rfl ⟨?_,HM0.out⟩
     rw [HX.out];rfl
    ·have h2':decide ((126:Int)<((t[k]).toNat:Int))=false:=by simp;omega
     have HJ3:Hid (∀ j (hj:j<k+1) (h:j<t.length),byteOk t[j]=true):=HJ2.out (by rw [HBO.out,decide_eq_true (by omega),decide_eq_true (by omega)];rfl)
     clear HN HJ2 HBO;go_wp2_with fail
     go_round
     case rel=>exact ⟨k+1,by omega,by go_num,HJ3.out⟩
     case measure=>simp [intOf];omega
  ·have HX:Hid (nl=some tw):=HOK.out (fun d hd=>by
    obtain ⟨j,hj,rfl⟩:=List.getElem_of_mem hd
    exact HJ.out j (by omega) hj)
   go_wp2_with fail
   refine (HCU.out _ (HM.out.mods HM0.out)).mono ?_
   rintro e w1 ⟨⟨sa,sb,rfl⟩,m1⟩
   have HR1:Hid (Blk w1 w.heap.size #[.string ⟨#[]⟩] 162):=HR0.out.mods m1 id
   have HM1:Hid (Mods Nil' w w1):=HM0.out.trans m1
   have z0:w1.cell? ⟨w.heap.size,0,none⟩=some (.string ⟨#[]⟩):=HR1.out.cell 0
   have zf:=HR1.out.frozen
   clear m1 HR0 HM0;go_wp2_with fail
   refine bodyPost_ret (results_cell_tmp_row Tryz.results99 _ _ w.heap.size 162 _ (0,0) _ _ rfl rfl (HR1.out.set 0 _) Tryz.underlying162 rfl (by kernel_rfl)) rfl ⟨?_,HM1.out.set (.inr (Nat.le_refl _)) _⟩
   rw [HX.out];rfl
def num0:RNum:=⟨0,false⟩
def lnC (k:Nat) (nm:ByteArray) (a b c:RNum) (op:Value) (d s:Nat) (j n h:Int) (lb nn:ByteArray) (f:Bool):Array Value :=
 #[.int .i64 k,.string nm,.bool a.minus,.int .u64 ((a.v % 18446744073709551616:Nat):Int),.bool (decide (18446744073709551616<=a.v)),.bool b.minus,.int .u64 ((b.v % 18446744073709551616:Nat):Int),.bool (decide (18446744073709551616<=b.v)),
  .bool c.minus,.int .u64 ((c.v % 18446744073709551616:Nat):Int),.bool (decide (18446744073709551616<=c.v)),op,.int .u8 d,.int .u8 s,.int .i16 j,.int .i32 n,.int .i32 h,.string lb,.string nn,.bool f]
theorem lnC_one (k:Nat) (nm:ByteArray) (a b c:RNum) (op:Option Addr) (d s:Nat) (j n h:Int) (lb nn:ByteArray) (f:Bool):(lnC k nm a b c (.pointer op) d s j n h lb nn f).all (·.oneCell')=true:=by
 simp [lnC,Value.oneCell']
def lnM (k:Nat) (nm:ByteArray) (a b c:RNum):Array Value:=lnC k nm a b c (.pointer none) 0 0 0 0 0 ⟨#[]⟩ ⟨#[]⟩ false
def PLn.cells (bs:List Nat) (x:PLn):Array Value :=
 if x.kind=4 then lnC 4 ⟨#[]⟩ num0 num0 num0 (.pointer (some ⟨bs[x.x.k]?.getD 0,0,none⟩)) x.x.r.d x.x.r.s x.x.r.jump x.x.r.num x.x.r.high (T x.x.r.label) (T x.x.r.name) x.x.fits
 else lnM x.kind (T x.name) (x.ns.getD 0 num0) (x.ns.getD 1 num0) (x.ns.getD 2 num0)
def LinePost (w:World) (bs:List Nat) (o:Option PLn) (e:Ending) (w':World):Prop :=
 Mods Nil' w w'/\match o with
  | some x=>e=.returned (.tuple #[.agg (x.cells bs),.bool true])
  | none=>∃ k nm a b c op d s j n h lb nn f,e=.returned (.tuple #[.agg (lnC k nm a b c (.pointer op) d s j n h lb nn f),.bool false])
def mapEnd (nm:List UInt8) (a b c:RNum) (l:List UInt8):Option PLn:=if skipL l=[] then some { kind:=1,name:=nm,ns:=[a,b,c] } else none
def mapGo (nm:List UInt8) (k:Nat) (a b c:RNum) (l:List UInt8):Option PLn :=
 if k=0 then (numL l).bind fun x=>(numL x.2).bind fun y=>(numL y.2).bind fun z=>mapEnd nm x.1 y.1 z.1 z.2
 else if k=1 then (numL l).bind fun y=>(numL y.2).bind fun z=>mapEnd nm a y.1 z.1 z.2
 else if k=2 then (numL l).bind fun z=>mapEnd nm a b z.1 z.2
 else mapEnd nm a b c l
theorem mapLn_eq (l:List UInt8):mapLnP l=if nameB (wdL l).1 then mapGo (wdL l).1 0 num0 num0 num0 (wdL l).2 else none:=by
 unfold mapLnP mapGo mapEnd;rfl
theorem Blk.set3 {w:World} {z i:Nat} {t:TypeId} {cs ds:Array Value} (h:Blk w z cs t) (v0 v1 v2:Value) (hd:((cs.setIfInBounds i v0).setIfInBounds (i+1) v1).setIfInBounds (i+2) v2=ds):Blk (((w.setCell ⟨z,i,none⟩ v0).setCell ⟨z,i+1,none⟩ v1).setCell ⟨z,i+2,none⟩ v2) z ds t:=by
 rw [<- hd];exact ((h.set i v0).set (i+1) v1).set (i+2) v2
theorem Mods.set3 {S:Nat->Prop} {w0 w:World} {z:Nat} (h:Mods S w0 w) (hz:S z\/w0.heap.size<=z) (i j k:Nat) (v0 v1 v2:Value):Mods S w0 (((w.setCell ⟨z,i,none⟩ v0).setCell ⟨z,j,none⟩ v1).setCell ⟨z,k,none⟩ v2) :=
 ((h.set (a:=⟨z,i,none⟩) hz v0).set (a:=⟨z,j,none⟩) hz v1).set (a:=⟨z,k,none⟩) hz v2
theorem quiet_load_row {P:Program} {o:Oper} {a:Act} {C:World->Prop} {K:Act->Prop} (ty:TypeId) (x:Operand) (ho:o.op=.load ty x)
  (g:Nat) (hx:a.eval x=.pointer (some ⟨g,0,none⟩)) (t:TypeId) (cs:Array Value) (d:TypeDesc) (hg:∀ w,C w->w.heap[g]?=some (.cells cs t (0,0)))
  (hu:P.underlying ty=some d) (hd:(match d with | .struct _ | .array _ _=>true | _=>false)=true) (hi:(P.info? ty).map (·.size)=some cs.size)
  (h:K (a.put o.dst (.agg cs))):o.quiet P a C K:=by
 refine ⟨.agg cs,fun w hw=>?_,h⟩
 unfold Oper.quietAt execOp
 simp only [ho,hx,Instr.loadAt,Instr.sureAddr,Sem.run_bind,Sem.run_pure,Result.andThen_ok,run_loadVar_row w g t ty cs (0,0) d (hg w hw) hu hd hi]
 exact ⟨rfl,rfl⟩
structure MapW (w0:World) (I K R:Nat) (l:List UInt8) (nm:ByteArray) (a b c:RNum) (w:World):Prop where
 inb:Blk w I #[.string (T l)] 162
 ln:Blk w K (lnM 1 nm a b c) 102
 res:Blk w R (lnM 0 ⟨#[]⟩ num0 num0 num0) 102
 md:Mods Nil' w0 w
 lt:w0.heap.size<=I/\I≠K/\I≠R/\K≠R/\w0.heap.size<=K/\w0.heap.size<=R
theorem MapW.quiet {w0 w w':World} {I K R:Nat} {l:List UInt8} {nm:ByteArray} {a b c:RNum} (h:MapW w0 I K R l nm a b c w) (m:Mods Nil' w w'):MapW w0 I K R l nm a b c w' :=
 ⟨h.inb.mods m id,h.ln.mods m id,h.res.mods m id,h.md.trans m,h.lt⟩
theorem MapW.read {w0 w w':World} {I K R:Nat} {l l':List UInt8} {nm:ByteArray} {a b c:RNum} (h:MapW w0 I K R l nm a b c w) (p:LnPost w I 0 #[.string (T l)] 162 l' w'):MapW w0 I K R l' nm a b c w':=by
 obtain ⟨h1,h2,h3,h4,h5,h6⟩:=h.lt
 exact ⟨p.1.blk,h.ln.mods p.2 (fun e=>h2 (show K=I from e).symm),h.res.mods p.2 (fun e=>h3 (show R=I from e).symm),h.md.step p.2 (fun i hi e=>by have:i=I:=e;omega),h.lt⟩
set_option maxRecDepth 100000 in
set_option maxHeartbeats 4000000 in
theorem mapL_any (w:World) (bs:List Nat) (l:List UInt8) (hl:l.length<=1000000) :
  Calls Tryz.prog 105 #[.agg #[.string (T l)]] w fun e w'=>LinePost w bs (mapLnP l) e w':=by
 have hwl:=wd_le l
 have HL:Hid (mapLnP l=if nameB (wdL l).1 then mapGo (wdL l).1 0 num0 num0 num0 (wdL l).2 else none):=mapLn_eq l
 have HNO:Hid (∀ e w',mapLnP l=none->Mods Nil' w w'->(∃ nm a b c,e=.returned (.tuple #[.agg (lnM 1 nm a b c),.bool false]))->LinePost w bs (mapLnP l) e w'):=fun e w' h1 h2 h3=>by
  obtain ⟨nm,a,b,c,he⟩:=h3
  refine ⟨h2,?_⟩
  rw [h1]
  exact ⟨1,nm,a,b,c,none,0,0,0,0,0,⟨#[]⟩,⟨#[]⟩,false,he⟩
 have HYES:Hid (∀ e w' nm a b c,mapLnP l=some { kind:=1,name:=nm,ns:=[a,b,c] }->Mods Nil' w w'->e=.returned (.tuple #[.agg (lnM 1 (T nm) a b c),.bool true])->LinePost w bs (mapLnP l) e w'):=fun e w' nm a b c h1 h2 h3=>by
  refine ⟨h2,?_⟩
  rw [h1];exact h3
 have HNM:Hid (∀ w',LnAt w' w.heap.size 0 #[.string (T l)] 162 l->Calls Tryz.prog 106 #[.pointer (some ⟨w.heap.size,0,none⟩)] w' fun e w''=>e=.returned (.tuple #[.string (T (wdL l).1),.bool (nameB (wdL l).1)])/\LnPost w' w.heap.size 0 #[.string (T l)] 162 (wdL l).2 w''):=fun w' h'=>sname_any _ 0 _ _ l w' h' hl
 generalize LinePost w bs (mapLnP l)=LP at *;generalize mapLnP l=mp at *;generalize nameB (wdL l).1=nb at *;generalize wdL l=wl at *;obtain ⟨nm,l0⟩:=wl
 dsimp only at *
 have HW0:Hid (MapW w w.heap.size (w.heap.size+2) (w.heap.size+1) l ⟨#[]⟩ num0 num0 num0 ((((w.alloc (.cells #[.string (T l)] 162)).alloc (.cells (lnM 0 ⟨#[]⟩ num0 num0 num0) 102)).alloc (.cells (lnM 0 ⟨#[]⟩ num0 num0 num0) 102)).setRow (w.heap.size+2) (lnM 1 ⟨#[]⟩ num0 num0 num0))):=by
  have h2:Blk ((w.alloc (.cells #[.string (T l)] 162)).alloc (.cells (lnM 0 ⟨#[]⟩ num0 num0 num0) 102)) (w.heap.size+1) (lnM 0 ⟨#[]⟩ num0 num0 num0) 102:=by
   have:=Blk.new (w.alloc (.cells #[.string (T l)] 162)) (lnM 0 ⟨#[]⟩ num0 num0 num0) 102
   simpa using this
  have h3:Blk (((w.alloc (.cells #[.string (T l)] 162)).alloc (.cells (lnM 0 ⟨#[]⟩ num0 num0 num0) 102)).alloc (.cells (lnM 0 ⟨#[]⟩ num0 num0 num0) 102)) (w.heap.size+2) (lnM 0 ⟨#[]⟩ num0 num0 num0) 102:=by
   have:=Blk.new ((w.alloc (.cells #[.string (T l)] 162)).alloc (.cells (lnM 0 ⟨#[]⟩ num0 num0 num0) 102)) (lnM 0 ⟨#[]⟩ num0 num0 num0) 102
   simpa using this
  refine ⟨Blk.setRowOther (((Blk.new w _ _).alloc _).alloc _) (by omega) _,h3.setRow _,Blk.setRowOther (h2.alloc _) (by omega) _,(((((Mods.refl _ _).alloc _).alloc _).alloc _)).setRow (.inr (by omega)) _,by omega⟩
 have HK0:Hid (Blk (((w.alloc (.cells #[.string (T l)] 162)).alloc (.cells (lnM 0 ⟨#[]⟩ num0 num0 num0) 102)).alloc (.cells (lnM 0 ⟨#[]⟩ num0 num0 num0) 102)) (w.heap.size+2) (lnM 0 ⟨#[]⟩ num0 num0 num0) 102):=by
  have:=Blk.new ((w.alloc (.cells #[.string (T l)] 162)).alloc (.cells (lnM 0 ⟨#[]⟩ num0 num0 num0) 102)) (lnM 0 ⟨#[]⟩ num0 num0 num0) 102
  simpa [Hid] using this
 go_enter Tryz.func105,Tryz.ntmps105
 go_wp2_with (refine wpList_store_row rfl 102 (.tmp 4) (.tmp 7) rfl (w.heap.size+2) (lnM 1 ⟨#[]⟩ num0 num0 num0) rfl rfl 102 _ HK0.out (by kernel_rfl) rfl (lnC_one ..) ?_)
 refine (HNM.out _ ⟨HW0.out.inb,rfl⟩).mono ?_
 rintro e w1 ⟨rfl,hp1⟩
 have HW1:Hid (MapW w w.heap.size (w.heap.size+2) (w.heap.size+1) l0 ⟨#[]⟩ num0 num0 num0 w1):=HW0.out.read hp1
 clear hp1 HW0 HK0 HNM
 generalize hK:w.heap.size+2=K at *
 generalize hR:w.heap.size+1=R at *
 generalize hI:w.heap.size=I at *
 have k1:w1.cell? ⟨K,1,none⟩=some (.string ⟨#[]⟩):=HW1.out.ln.cell 1
 have kf:=HW1.out.ln.frozen
 generalize hWn:w1.setCell ⟨K,1,none⟩ (.string (T nm))=Wn
 have HW2:Hid (MapW w I K R l0 (T nm) num0 num0 num0 Wn):=by
  obtain ⟨h1,h2,h3,h4,h5,h6⟩:=HW1.out.lt;rw [<- hWn]
  exact ⟨HW1.out.inb.setOther (a:=⟨K,1,none⟩) (fun e=>h2 (show K=I from e).symm) _,HW1.out.ln.set 1 _,HW1.out.res.setOther (a:=⟨K,1,none⟩) (fun e=>h4 (show K=R from e)) _,HW1.out.md.set (a:=⟨K,1,none⟩) (.inr h5) _,HW1.out.lt⟩
 cases nb with
 | false =>
  have HZ:Hid (mp=none):=HL.out
  go_upto_region 5 with fail
  try rw [hWn]
  clear hWn k1 kf HW1
  go_wp2_with (first | (refine wpList_load_row rfl 102 (.tmp 4) rfl K rfl 102 (lnM 1 (T nm) num0 num0 num0) (0,0) _ HW2.out.ln Tryz.underlying102 rfl (by kernel_rfl) ?_) | (refine wpList_store_row rfl 102 (.tmp 2) (.tmp 15) rfl R (lnM 1 (T nm) num0 num0 num0) rfl rfl 102 _ HW2.out.res (by kernel_rfl) rfl (lnC_one ..) ?_))
  refine bodyPost_ret (results_cell_tmp_row Tryz.results105 _ _ R 102 _ (0,0) _ _ rfl rfl HW2.out.res.rowPut Tryz.underlying102 rfl (by kernel_rfl)) rfl ?_
  exact HNO.out _ _ HZ.out (HW2.out.md.rowPut (.inr HW2.out.lt.2.2.2.2.2)) ⟨_,_,_,_,rfl⟩
 | true =>
  have HR0:Hid (mapGo nm 0 num0 num0 num0 l0=mp):=HL.out.symm
  go_upto_region 6 with fail
  try rw [hWn]
  clear hWn k1 kf HW1 HL;go_wp2_with fail
  go_loopg [16] 3 (fun q v wx=>∃ (k:Nat) (a b c:RNum) (l1:List UInt8),k<=3/\v=.int .i64 k/\MapW w I K R l1 (T nm) a b c wx/\mapGo nm k a b c l1=mp/\l1.length<=1000000/\q=3 - k)
  case atStart=>exact ⟨0,num0,num0,num0,l0,by omega,rfl,HW2.out,HR0.out,by omega,rfl⟩
  case round =>
   obtain ⟨k,a,b,c,l1,hk,rfl,hW,hG,hl1,rfl⟩:=hrel
   have HW:Hid (MapW w I K R l1 (T nm) a b c wr):=hW
   have HR:Hid (mapGo nm k a b c l1=mp):=hG
   clear hW hG HW2 HR0
   obtain rfl | rfl | rfl | rfl:k=0\/k=1\/k=2\/k=3:=by omega
   case inl =>
    have HMN:Hid (Calls Tryz.prog 135 #[.pointer (some ⟨I,0,none⟩)] wr fun e w'=>NumPost wr I 0 #[.string (T l1)] 162 l1 e w'):=snum_any I 0 _ _ l1 wr ⟨HW.out.inb,rfl⟩ hl1
    have HG:Hid (mapGo nm 0 a b c l1=(numL l1).bind fun z=>mapGo nm 1 z.1 b c z.2):=by rw [Hid];unfold mapGo;rfl
    go_wp2_with fail;refine HMN.out.mono ?_;intro e w2 hn;obtain ⟨n,l2,rfl,hp2,hle,hx⟩:=hn
    have HW2:Hid (MapW w I K R l2 (T nm) a b c w2):=HW.out.read hp2
    have HX:Hid (∀ z,numL l1=some z->z=(n,l2)):=hx
    clear hp2 hx HMN
    have k0:w2.cell? ⟨K,2,none⟩=some (.bool a.minus):=HW2.out.ln.cell 2
    have k1:w2.cell? ⟨K,3,none⟩=some (.int .u64 ((a.v % 18446744073709551616:Nat):Int)):=HW2.out.ln.cell 3
    have k2:w2.cell? ⟨K,4,none⟩=some (.bool (decide (18446744073709551616<=a.v))):=HW2.out.ln.cell 4
    have kf:=HW2.out.ln.frozen
    generalize hWn:((w2.setCell ⟨K,2,none⟩ (.bool n.minus)).setCell ⟨K,3,none⟩ (.int .u64 ((n.v % 18446744073709551616:Nat):Int))).setCell ⟨K,4,none⟩ (.bool (decide (18446744073709551616<=n.v)))=Wn
    have HW3:Hid (MapW w I K R l2 (T nm) n b c Wn):=by
     obtain ⟨h1,h2,h3,h4,h5,h6⟩:=HW2.out.lt;rw [<- hWn]
     refine ⟨?_,Blk.set3 HW2.out.ln _ _ _ rfl,?_,Mods.set3 HW2.out.md (.inr h5) _ _ _ _ _ _,HW2.out.lt⟩
     ·iterate 3 refine Blk.setOther ?_ (fun e=>h2 (show K=I from e).symm) _
      exact HW2.out.inb
     ·iterate 3 refine Blk.setOther ?_ (fun e=>h4 (show K=R from e)) _
      exact HW2.out.res
    have HRG:Hid (RNum.aggP n=.agg #[.bool n.minus,.int .u64 ((n.v % 18446744073709551616:Nat):Int),.bool (decide (18446744073709551616<=n.v))]):=rfl
    rw [HRG.out]
    generalize hu:((n.v % 18446744073709551616:Nat):Int)=u at *
    generalize hbg:decide (18446744073709551616<=n.v)=bg at *
    cases hnl:numL l1 with
    | none =>
     have HZ:Hid (mp=none):=by rw [Hid,<- HR.out,HG.out,hnl];rfl
     go_upto_region 11 with fail
     try rw [hWn]
     clear hWn k0 k1 k2 kf
     go_wp2_with (first | (refine wpList_load_row rfl 102 (.tmp 4) rfl K rfl 102 (lnM 1 (T nm) n b c) (0,0) _ HW3.out.ln Tryz.underlying102 rfl (by kernel_rfl) ?_) | (refine wpList_store_row rfl 102 (.tmp 2) (.tmp 28) rfl R (lnM 1 (T nm) n b c) rfl rfl 102 _ HW3.out.res (by kernel_rfl) rfl (lnC_one ..) ?_))
     refine bodyPost_ret (results_cell_tmp_row Tryz.results105 _ _ R 102 _ (0,0) _ _ rfl rfl HW3.out.res.rowPut Tryz.underlying102 rfl (by kernel_rfl)) rfl ?_
     exact HNO.out _ _ HZ.out (HW3.out.md.rowPut (.inr HW3.out.lt.2.2.2.2.2)) ⟨_,_,_,_,rfl⟩
    | some z =>
     have hz:=HX.out z hnl
     have HR2:Hid (mapGo nm 1 n b c l2=mp):=by
      rw [Hid,<- HR.out,HG.out,hnl,hz];rfl
     clear hnl hz;go_upto_region 12 with fail
     try rw [hWn]
     clear hWn k0 k1 k2 kf;go_wp2_with fail
     go_roundg 2
     case measure=>omega
     case rel=>exact ⟨1,n,b,c,l2,by omega,by go_num,HW3.out,HR2.out,by omega,rfl⟩
   case inr.inl =>
    have HMN:Hid (Calls Tryz.prog 135 #[.pointer (some ⟨I,0,none⟩)] wr fun e w'=>NumPost wr I 0 #[.string (T l1)] 162 l1 e w'):=snum_any I 0 _ _ l1 wr ⟨HW.out.inb,rfl⟩ hl1
    have HG:Hid (mapGo nm 1 a b c l1=(numL l1).bind fun z=>mapGo nm 2 a z.1 c z.2):=by rw [Hid];unfold mapGo;rfl
    go_wp2_with fail;refine HMN.out.mono ?_;intro e w2 hn;obtain ⟨n,l2,rfl,hp2,hle,hx⟩:=hn
    have HW2:Hid (MapW w I K R l2 (T nm) a b c w2):=HW.out.read hp2
    have HX:Hid (∀ z,numL l1=some z->z=(n,l2)):=hx
    clear hp2 hx HMN
    have k0:w2.cell? ⟨K,5,none⟩=some (.bool b.minus):=HW2.out.ln.cell 5
    have k1:w2.cell? ⟨K,6,none⟩=some (.int .u64 ((b.v % 18446744073709551616:Nat):Int)):=HW2.out.ln.cell 6
    have k2:w2.cell? ⟨K,7,none⟩=some (.bool (decide (18446744073709551616<=b.v))):=HW2.out.ln.cell 7
    have kf:=HW2.out.ln.frozen
    generalize hWn:((w2.setCell ⟨K,5,none⟩ (.bool n.minus)).setCell ⟨K,6,none⟩ (.int .u64 ((n.v % 18446744073709551616:Nat):Int))).setCell ⟨K,7,none⟩ (.bool (decide (18446744073709551616<=n.v)))=Wn
    have HW3:Hid (MapW w I K R l2 (T nm) a n c Wn):=by
     obtain ⟨h1,h2,h3,h4,h5,h6⟩:=HW2.out.lt;rw [<- hWn]
     refine ⟨?_,Blk.set3 HW2.out.ln _ _ _ rfl,?_,Mods.set3 HW2.out.md (.inr h5) _ _ _ _ _ _,HW2.out.lt⟩
     ·iterate 3 refine Blk.setOther ?_ (fun e=>h2 (show K=I from e).symm) _
      exact HW2.out.inb
     ·iterate 3 refine Blk.setOther ?_ (fun e=>h4 (show K=R from e)) _
      exact HW2.out.res
    have HRG:Hid (RNum.aggP n=.agg #[.bool n.minus,.int .u64 ((n.v % 18446744073709551616:Nat):Int),.bool (decide (18446744073709551616<=n.v))]):=rfl
    rw [HRG.out]
    generalize hu:((n.v % 18446744073709551616:Nat):Int)=u at *
    generalize hbg:decide (18446744073709551616<=n.v)=bg at *
    cases hnl:numL l1 with
    | none =>
     have HZ:Hid (mp=none):=by rw [Hid,<- HR.out,HG.out,hnl];rfl
     go_upto_region 11 with fail
     try rw [hWn]
     clear hWn k0 k1 k2 kf
     go_wp2_with (first | (refine wpList_load_row rfl 102 (.tmp 4) rfl K rfl 102 (lnM 1 (T nm) a n c) (0,0) _ HW3.out.ln Tryz.underlying102 rfl (by kernel_rfl) ?_) | (refine wpList_store_row rfl 102 (.tmp 2) (.tmp 28) rfl R (lnM 1 (T nm) a n c) rfl rfl 102 _ HW3.out.res (by kernel_rfl) rfl (lnC_one ..) ?_))
     refine bodyPost_ret (results_cell_tmp_row Tryz.results105 _ _ R 102 _ (0,0) _ _ rfl rfl HW3.out.res.rowPut Tryz.underlying102 rfl (by kernel_rfl)) rfl ?_
     exact HNO.out _ _ HZ.out (HW3.out.md.rowPut (.inr HW3.out.lt.2.2.2.2.2)) ⟨_,_,_,_,rfl⟩
    | some z =>
     have hz:=HX.out z hnl
     have HR2:Hid (mapGo nm 2 a n c l2=mp):=by
      rw [Hid,<- HR.out,HG.out,hnl,hz];rfl
     clear hnl hz;go_upto_region 12 with fail
     try rw [hWn]
     clear hWn k0 k1 k2 kf;go_wp2_with fail
     go_roundg 1
     case measure=>omega
     case rel=>exact ⟨2,a,n,c,l2,by omega,by go_num,HW3.out,HR2.out,by omega,rfl⟩
   case inr.inr.inl =>
    have HMN:Hid (Calls Tryz.prog 135 #[.pointer (some ⟨I,0,none⟩)] wr fun e w'=>NumPost wr I 0 #[.string (T l1)] 162 l1 e w'):=snum_any I 0 _ _ l1 wr ⟨HW.out.inb,rfl⟩ hl1
    have HG:Hid (mapGo nm 2 a b c l1=(numL l1).bind fun z=>mapGo nm 3 a b z.1 z.2):=by rw [Hid];unfold mapGo;rfl
    go_wp2_with fail;refine HMN.out.mono ?_;intro e w2 hn;obtain ⟨n,l2,rfl,hp2,hle,hx⟩:=hn
    have HW2:Hid (MapW w I K R l2 (T nm) a b c w2):=HW.out.read hp2
    have HX:Hid (∀ z,numL l1=some z->z=(n,l2)):=hx
    clear hp2 hx HMN
    have k0:w2.cell? ⟨K,8,none⟩=some (.bool c.minus):=HW2.out.ln.cell 8
    have k1:w2.cell? ⟨K,9,none⟩=some (.int .u64 ((c.v % 18446744073709551616:Nat):Int)):=HW2.out.ln.cell 9
    have k2:w2.cell? ⟨K,10,none⟩=some (.bool (decide (18446744073709551616<=c.v))):=HW2.out.ln.cell 10
    have kf:=HW2.out.ln.frozen
    generalize hWn:((w2.setCell ⟨K,8,none⟩ (.bool n.minus)).setCell ⟨K,9,none⟩ (.int .u64 ((n.v % 18446744073709551616:Nat):Int))).setCell ⟨K,10,none⟩ (.bool (decide (18446744073709551616<=n.v)))=Wn
    have HW3:Hid (MapW w I K R l2 (T nm) a b n Wn):=by
     obtain ⟨h1,h2,h3,h4,h5,h6⟩:=HW2.out.lt;rw [<- hWn]
     refine ⟨?_,Blk.set3 HW2.out.ln _ _ _ rfl,?_,Mods.set3 HW2.out.md (.inr h5) _ _ _ _ _ _,HW2.out.lt⟩
     ·iterate 3 refine Blk.setOther ?_ (fun e=>h2 (show K=I from e).symm) _
      exact HW2.out.inb
     ·iterate 3 refine Blk.setOther ?_ (fun e=>h4 (show K=R from e)) _
      exact HW2.out.res
    have HRG:Hid (RNum.aggP n=.agg #[.bool n.minus,.int .u64 ((n.v % 18446744073709551616:Nat):Int),.bool (decide (18446744073709551616<=n.v))]):=rfl
    rw [HRG.out]
    generalize hu:((n.v % 18446744073709551616:Nat):Int)=u at *
    generalize hbg:decide (18446744073709551616<=n.v)=bg at *
    cases hnl:numL l1 with
    | none =>
     have HZ:Hid (mp=none):=by rw [Hid,<- HR.out,HG.out,hnl];rfl
     go_upto_region 11 with fail
     try rw [hWn]
     clear hWn k0 k1 k2 kf
     go_wp2_with (first | (refine wpList_load_row rfl 102 (.tmp 4) rfl K rfl 102 (lnM 1 (T nm) a b n) (0,0) _ HW3.out.ln Tryz.underlying102 rfl (by kernel_rfl) ?_) | (refine wpList_store_row rfl 102 (.tmp 2) (.tmp 28) rfl R (lnM 1 (T nm) a b n) rfl rfl 102 _ HW3.out.res (by kernel_rfl) rfl (lnC_one ..) ?_))
     refine bodyPost_ret (results_cell_tmp_row Tryz.results105 _ _ R 102 _ (0,0) _ _ rfl rfl HW3.out.res.rowPut Tryz.underlying102 rfl (by kernel_rfl)) rfl ?_
     exact HNO.out _ _ HZ.out (HW3.out.md.rowPut (.inr HW3.out.lt.2.2.2.2.2)) ⟨_,_,_,_,rfl⟩
    | some z =>
     have hz:=HX.out z hnl
     have HR2:Hid (mapGo nm 3 a b n l2=mp):=by
      rw [Hid,<- HR.out,HG.out,hnl,hz];rfl
     clear hnl hz;go_upto_region 12 with fail
     try rw [hWn]
     clear hWn k0 k1 k2 kf;go_wp2_with fail
     go_roundg 0
     case measure=>omega
     case rel=>exact ⟨3,a,b,n,l2,by omega,by go_num,HW3.out,HR2.out,by omega,rfl⟩
   case inr.inr.inr =>
    have HME:Hid (mp=if skipL l1=[] then some { kind:=1,name:=nm,ns:=[a,b,c] } else none):=HR.out.symm
    have HDN:Hid (∀ w',Blk w' I #[.string (T l1)] 162->Calls Tryz.prog 100 #[.pointer (some ⟨I,0,none⟩)] w' fun e w''=>e=.returned (.bool (decide (skipL l1=[])))/\LnPost w' I 0 #[.string (T l1)] 162 (skipL l1) w''):=fun w' h'=>done_any I 0 _ _ l1 w' ⟨h',rfl⟩
    have HKg:Hid (∀ g:Ext (fun k=>k=I\/k=R) wr,Blk g.w K (lnM 1 (T nm) a b c) 102):=fun g=>HW.out.ln.mods g.m (fun e=>by
     obtain ⟨h1,h2,h3,h4,h5,h6⟩:=HW.out.lt
     rcases e with e | e
     ·exact h2 e.symm
     ·exact h4 e)
    have HWd:Hid (MapW w I K R l1 (T nm) a b c wr.drew):=HW.out.quiet (Mods.refl _ _).drew
    go_upto_region 13 with fail
    refine wp_region_mix [1,2] (fun w'=>∃ e:Ext (fun k=>k=I\/k=R) wr,w'=e.w) (by kernel_rfl) (by kernel_rfl) (by kernel_rfl) ⟨⟨_,(Mods.refl _ _).drew⟩,rfl⟩ ?_
    refine mix_pure rfl rfl rfl ?_
    intro K' hK'
    refine quiet_load_row 102 (.tmp 4) rfl K rfl 102 (lnM 1 (T nm) a b c) _ (fun w' ⟨g,hg⟩=>by rw [hg];exact HKg.out g) Tryz.underlying102 rfl (by kernel_rfl) ?_
    refine hK' _ ?_
    clear hK' K'
    simp only [Act.put,List.setIfInBounds_toArray,List.set_cons_succ,List.set_cons_zero]
    refine mix_act rfl rfl ?_
    intro K' hK'
    go_big_op
    refine (HDN.out _ HWd.out.inb).mono ?_
    rintro e w2 ⟨rfl,hp2⟩
    have HW2:Hid (MapW w I K R (skipL l1) (T nm) a b c w2):=HWd.out.read hp2
    have X2:Hid (Mods (fun k=>k=I\/k=R) wr w2):=((Mods.refl _ _).drew).trans (hp2.2.mono (fun i _ e=>.inl e))
    refine hK' _ _ rfl ⟨⟨_,X2.out⟩,rfl⟩ ?_
    clear hK' K' hp2 HWd HW HDN
    try simp only [Act.put,List.setIfInBounds_toArray,List.set_cons_succ,List.set_cons_zero]
    refine mix_act rfl rfl ?_
    intro K' hK'
    refine wp_store_row 102 (.tmp 2) (.tmp 30) rfl R (lnM 1 (T nm) a b c) rfl rfl 102 _ HW2.out.res (by kernel_rfl) rfl (lnC_one ..) ?_
    refine hK' _ _ rfl ⟨⟨_,X2.out.rowPut (.inl (.inr rfl))⟩,rfl⟩ ?_
    clear hK' K'
    simp only [Act.put,List.setIfInBounds_toArray,List.set_cons_succ,List.set_cons_zero]
    refine mix_pure rfl rfl rfl ?_
    intro K' hK'
    go_big_quiet_op
    go_big_quiet_on
    refine mix_nil ?_
    try simp only [Exit.then]
    go_wp2_with fail
    refine bodyPost_ret (results_cell_tmp_row Tryz.results105 _ _ R 102 _ (0,0) _ _ rfl rfl HW2.out.res.rowPut Tryz.underlying102 rfl (by kernel_rfl)) rfl ?_
    by_cases hd:skipL l1=[]
    ·rw [if_pos hd] at HME
     exact HYES.out _ _ nm a b c HME.out (HW2.out.md.rowPut (.inr HW2.out.lt.2.2.2.2.2)) (by rw [decide_eq_true hd];rfl)
    ·rw [if_neg hd] at HME
     exact HNO.out _ _ HME.out (HW2.out.md.rowPut (.inr HW2.out.lt.2.2.2.2.2)) ⟨_,_,_,_,by rw [decide_eq_false hd];rfl⟩
theorem wd_skip (l:List UInt8):wdL (skipL l)=wdL l:=by unfold wdL;rw [skipL_skip]
structure LnW (w0:World) (I R:Nat) (l:List UInt8) (w:World):Prop where
 inb:Blk w I #[.string (T l)] 162
 res:Blk w R (lnM 0 ⟨#[]⟩ num0 num0 num0) 102
 md:Mods Nil' w0 w
 lt:w0.heap.size<=I/\I≠R/\w0.heap.size<=R
theorem LnW.quiet {w0 w w':World} {I R:Nat} {l:List UInt8} (h:LnW w0 I R l w) (m:Mods Nil' w w'):LnW w0 I R l w':=⟨h.inb.mods m id,h.res.mods m id,h.md.trans m,h.lt⟩
theorem LnW.read {w0 w w':World} {I R:Nat} {l l':List UInt8} (h:LnW w0 I R l w) (p:LnPost w I 0 #[.string (T l)] 162 l' w'):LnW w0 I R l' w':=by
 obtain ⟨h1,h2,h3⟩:=h.lt
 exact ⟨p.1.blk,h.res.mods p.2 (fun e=>h2 (show R=I from e).symm),h.md.step p.2 (fun i hi e=>by have:i=I:=e;omega),h.lt⟩
theorem lineP_some {t l:List UInt8} (h:newL t=some l):lineP t=if skipL l=[] then some {}
  else if hasMark 58 (wdL l).2 then
   (if skipL (markL 58 (wdL l).2)=[]/\nameB (wdL l).1=true/\reservedP (wdL l).1=false then some { kind:=3,name:=(wdL l).1 } else none)
  else if (wdL l).1=[109,97,112] then mapLnP (skipL (wdL l).2)
  else if (wdL l).1=[102,117,110,99] then
   (if nameB (wdL (skipL (wdL l).2)).1=true/\skipL (wdL (skipL (wdL l).2)).2=[] then some { kind:=2,name:=(wdL (skipL (wdL l).2)).1 } else none)
  else (readP (wdL l).1 (skipL (wdL l).2)).map fun x=>{ kind:=4,x:=x }:=by
 unfold lineP;rw [h];rfl
theorem lineP_none {t:List UInt8} (h:newL t=none):lineP t=none:=by unfold lineP;rw [h];rfl
theorem new_le {t l:List UInt8} (h:newL t=some l):l.length<=t.length:=by
 unfold newL at h
 split at h
 ·cases h;exact (List.takeWhile_sublist _).length_le
 ·cases h
theorem LinePost.no {w w':World} {bs:List Nat} {t:List UInt8} {e:Ending} (h:lineP t=none) (m:Mods Nil' w w') (he:∃ k nm a b c op d s j n h lb nn f,e=.returned (.tuple #[.agg (lnC k nm a b c (.pointer op) d s j n h lb nn f),.bool false])):LinePost w bs (lineP t) e w':=⟨m,by rw [h];exact he⟩
theorem LinePost.yes {w w':World} {bs:List Nat} {t:List UInt8} {e:Ending} {x:PLn} (h:lineP t=some x) (m:Mods Nil' w w') (he:e=.returned (.tuple #[.agg (x.cells bs),.bool true])):LinePost w bs (lineP t) e w':=⟨m,by rw [h];exact he⟩
set_option maxRecDepth 100000 in
set_option maxHeartbeats 4000000 in
theorem lineX_any (wT w:World) (v:Value) (bs:List Nat) (t:List UInt8) (hO:OpsIn 0 wT v bs tableS) (m:Mods Nil' wT w) (hE:Env w) (hM:EnvM w) (ht:t.length<=1000000) (hn:newL t=none) :
  Calls Tryz.prog 42 #[v,.string (T t)] w fun e w'=>LinePost w bs (lineP t) e w':=by
 have HNW:Hid (∀ w',EnvM w'->Calls Tryz.prog 99 #[.string (T t)] w' fun e w''=>e=.returned (.tuple #[.agg #[.string (T ((newL t).getD []))],.bool (newL t).isSome])/\Mods Nil' w' w''):=fun w' h=>new_any t w' h ht
 have HM:=hid hM;have HE:=hid hE
 have HR0:Hid (Blk (w.alloc (.cells (lnM 0 ⟨#[]⟩ num0 num0 num0) 102)) w.heap.size (lnM 0 ⟨#[]⟩ num0 num0 num0) 102):=Blk.new w _ _
 have HM0:Hid (Mods Nil' w (w.alloc (.cells (lnM 0 ⟨#[]⟩ num0 num0 num0) 102))):=(Mods.refl _ _).alloc _
 have HPO:Hid (∀ e w',Mods Nil' w w'->(∃ k nm a b c op d s j n h lb nn f,e=.returned (.tuple #[.agg (lnC k nm a b c (.pointer op) d s j n h lb nn f),.bool false]))->LinePost w bs (lineP t) e w'):=fun e w'=>LinePost.no (lineP_none hn)
 rw [hn] at HNW;obtain ⟨vo,vc,rfl,_⟩:=hO.sl.view;generalize LinePost w bs (lineP t)=LP at *
 go_enter Tryz.func42,Tryz.ntmps42
 go_wp2_with fail
 refine (HNW.out _ (HM.out.mods HM0.out)).mono ?_
 rintro e w1 ⟨rfl,m1⟩
 have HW1:Hid (∀ cs,LnW w w1.heap.size w.heap.size [] (w1.alloc (.cells cs 162))\/True):=fun _=>.inr trivial
 have HW2:Hid (LnW w w1.heap.size w.heap.size ([]) (w1.alloc (.cells #[.string (T ([]))] 162))) :=
  ⟨Blk.new _ _ _,(HR0.out.mods m1 id).alloc _,(HM0.out.trans m1).alloc _,by
   have h1:=(HM0.out.trans m1).size
   have h2:=(HR0.out.mods m1 id).lt
   omega⟩
 have HMs:Hid (Mods Nil' w w1):=HM0.out.trans m1
 clear m1 HNW HR0 HM0 HW1
 generalize hI:w1.heap.size=I at *
 generalize hR:w.heap.size=R at *
 go_wp2_with (refine wpList_store_row rfl 102 (.tmp 4) (.tmp 24) rfl R (lnM 0 ⟨#[]⟩ num0 num0 num0) rfl rfl 102 _ HW2.out.res (by kernel_rfl) rfl (lnC_one ..) ?_)
 refine bodyPost_ret (results_cell_tmp_row Tryz.results42 _ _ R 102 _ (0,0) _ _ rfl rfl HW2.out.res.rowPut Tryz.underlying102 rfl (by kernel_rfl)) rfl ?_
 exact HPO.out _ _ (HW2.out.md.rowPut (.inr HW2.out.lt.2.2)) ⟨0,_,_,_,_,none,0,0,0,0,0,_,_,false,rfl⟩
set_option maxRecDepth 100000 in
set_option maxHeartbeats 4000000 in
theorem lineN_any (wT w:World) (v:Value) (bs:List Nat) (t:List UInt8) (hO:OpsIn 0 wT v bs tableS) (m:Mods Nil' wT w) (hE:Env w) (hM:EnvM w) (ht:t.length<=1000000) (l:List UInt8) (hn:newL t=some l) (hs:skipL l=[]) :
  Calls Tryz.prog 42 #[v,.string (T t)] w fun e w'=>LinePost w bs (lineP t) e w':=by
 have HNW:Hid (∀ w',EnvM w'->Calls Tryz.prog 99 #[.string (T t)] w' fun e w''=>e=.returned (.tuple #[.agg #[.string (T ((newL t).getD []))],.bool (newL t).isSome])/\Mods Nil' w' w''):=fun w' h=>new_any t w' h ht
 have HM:=hid hM;have HE:=hid hE
 have HR0:Hid (Blk (w.alloc (.cells (lnM 0 ⟨#[]⟩ num0 num0 num0) 102)) w.heap.size (lnM 0 ⟨#[]⟩ num0 num0 num0) 102):=Blk.new w _ _
 have HM0:Hid (Mods Nil' w (w.alloc (.cells (lnM 0 ⟨#[]⟩ num0 num0 num0) 102))):=(Mods.refl _ _).alloc _
 have HPO:Hid (∀ e w',Mods Nil' w w'->e=.returned (.tuple #[.agg (PLn.cells bs {}),.bool true])->LinePost w bs (lineP t) e w'):=fun e w'=>LinePost.yes (by rw [lineP_some hn,if_pos hs])
 have HDN:Hid (∀ I w',Blk w' I #[.string (T l)] 162->Calls Tryz.prog 100 #[.pointer (some ⟨I,0,none⟩)] w' fun e w''=>e=.returned (.bool true)/\LnPost w' I 0 #[.string (T l)] 162 (skipL l) w''):=fun I w' h'=>by
  have:=done_any I 0 _ _ l w' ⟨h',rfl⟩
  rw [decide_eq_true hs] at this;exact this
 have hnl:=new_le hn
 rw [hn] at HNW;obtain ⟨vo,vc,rfl,_⟩:=hO.sl.view;generalize LinePost w bs (lineP t)=LP at *
 go_enter Tryz.func42,Tryz.ntmps42
 go_wp2_with fail
 refine (HNW.out _ (HM.out.mods HM0.out)).mono ?_
 rintro e w1 ⟨rfl,m1⟩
 have HW1:Hid (∀ cs,LnW w w1.heap.size w.heap.size l (w1.alloc (.cells cs 162))\/True):=fun _=>.inr trivial
 have HW2:Hid (LnW w w1.heap.size w.heap.size (l) (w1.alloc (.cells #[.string (T (l))] 162))) :=
  ⟨Blk.new _ _ _,(HR0.out.mods m1 id).alloc _,(HM0.out.trans m1).alloc _,by
   have h1:=(HM0.out.trans m1).size
   have h2:=(HR0.out.mods m1 id).lt
   omega⟩
 have HMs:Hid (Mods Nil' w w1):=HM0.out.trans m1
 clear m1 HNW HR0 HM0 HW1
 generalize hI:w1.heap.size=I at *
 generalize hR:w.heap.size=R at *
 go_wp2_with fail
 refine (HDN.out I _ HW2.out.inb).mono ?_
 rintro e w2 ⟨rfl,hp2⟩
 have HW3:Hid (LnW w I R (skipL l) w2):=HW2.out.read hp2
 clear hp2 HDN HW2
 go_wp2_with (refine wpList_store_row rfl 102 (.tmp 4) (.tmp 24) rfl R (lnM 0 ⟨#[]⟩ num0 num0 num0) rfl rfl 102 _ HW3.out.res (by kernel_rfl) rfl (lnC_one ..) ?_)
 refine bodyPost_ret (results_cell_tmp_row Tryz.results42 _ _ R 102 _ (0,0) _ _ rfl rfl HW3.out.res.rowPut Tryz.underlying102 rfl (by kernel_rfl)) rfl ?_
 exact HPO.out _ _ (HW3.out.md.rowPut (.inr HW3.out.lt.2.2)) rfl
set_option maxRecDepth 100000 in
set_option maxHeartbeats 4000000 in
theorem lineL_any (wT w:World) (v:Value) (bs:List Nat) (t:List UInt8) (hO:OpsIn 0 wT v bs tableS) (m:Mods Nil' wT w) (hE:Env w) (hM:EnvM w) (ht:t.length<=1000000) (l:List UInt8) (hn:newL t=some l) (hs:skipL l≠[]) (hk:hasMark 58 (wdL l).2=true) :
  Calls Tryz.prog 42 #[v,.string (T t)] w fun e w'=>LinePost w bs (lineP t) e w':=by
 have HNW:Hid (∀ w',EnvM w'->Calls Tryz.prog 99 #[.string (T t)] w' fun e w''=>e=.returned (.tuple #[.agg #[.string (T ((newL t).getD []))],.bool (newL t).isSome])/\Mods Nil' w' w''):=fun w' h=>new_any t w' h ht
 have HM:=hid hM;have HE:=hid hE
 have HR0:Hid (Blk (w.alloc (.cells (lnM 0 ⟨#[]⟩ num0 num0 num0) 102)) w.heap.size (lnM 0 ⟨#[]⟩ num0 num0 num0) 102):=Blk.new w _ _
 have HM0:Hid (Mods Nil' w (w.alloc (.cells (lnM 0 ⟨#[]⟩ num0 num0 num0) 102))):=(Mods.refl _ _).alloc _
 have HLP:Hid (lineP t=if skipL (markL 58 (wdL l).2)=[]/\nameB (wdL l).1=true/\reservedP (wdL l).1=false then some { kind:=3,name:=(wdL l).1 } else none):=by rw [Hid,lineP_some hn,if_neg hs,if_pos hk]
 have HPY:Hid (∀ e w',(skipL (markL 58 (wdL l).2)=[]/\nameB (wdL l).1=true/\reservedP (wdL l).1=false)->Mods Nil' w w'->e=.returned (.tuple #[.agg (lnM 3 (T (wdL l).1) num0 num0 num0),.bool true])->LinePost w bs (lineP t) e w'):=fun e w' h1 h2 h3=>LinePost.yes (x:={ kind:=3,name:=(wdL l).1 }) (by rw [HLP.out,if_pos h1]) h2 h3
 have HPN:Hid (∀ e w',¬ (skipL (markL 58 (wdL l).2)=[]/\nameB (wdL l).1=true/\reservedP (wdL l).1=false)->Mods Nil' w w'->e=.returned (.tuple #[.agg (lnM 3 (T (wdL l).1) num0 num0 num0),.bool false])->LinePost w bs (lineP t) e w'):=fun e w' h1 h2 h3=>LinePost.no (by rw [HLP.out,if_neg h1]) h2 ⟨3,_,_,_,_,none,0,0,0,0,0,_,_,false,h3⟩
 have HDN:Hid (∀ I w',Blk w' I #[.string (T l)] 162->Calls Tryz.prog 100 #[.pointer (some ⟨I,0,none⟩)] w' fun e w''=>e=.returned (.bool false)/\LnPost w' I 0 #[.string (T l)] 162 (skipL l) w''):=fun I w' h'=>by
  have:=done_any I 0 _ _ l w' ⟨h',rfl⟩
  rw [decide_eq_false hs] at this;exact this
 have hwl:=wd_le l
 have HWD:Hid (∀ I w',Blk w' I #[.string (T (skipL l))] 162->Calls Tryz.prog 101 #[.pointer (some ⟨I,0,none⟩)] w' fun e w''=>e=.returned (.string (T (wdL l).1))/\LnPost w' I 0 #[.string (T (skipL l))] 162 (wdL l).2 w''):=fun I w' h'=>by
  have:=word_any' I 0 _ _ (skipL l) w' ⟨h',rfl⟩ (by have:=skip_le l;have:=new_le hn;omega)
  rw [wd_skip] at this;exact this
 have HMK:Hid (∀ I w',Blk w' I #[.string (T (wdL l).2)] 162->Calls Tryz.prog 102 #[.pointer (some ⟨I,0,none⟩),.int .u8 58] w' fun e w''=>e=.returned (.bool true)/\LnPost w' I 0 #[.string (T (wdL l).2)] 162 (markL 58 (wdL l).2) w''):=fun I w' h'=>by
  have:=mark_any I 0 _ _ (wdL l).2 58 w' ⟨h',rfl⟩ (by have:=new_le hn;omega)
  rw [hk] at this;exact this
 have HD2:Hid (∀ I w',Blk w' I #[.string (T (markL 58 (wdL l).2))] 162->Calls Tryz.prog 100 #[.pointer (some ⟨I,0,none⟩)] w' fun e w''=>e=.returned (.bool (decide (skipL (markL 58 (wdL l).2)=[])))/\LnPost w' I 0 #[.string (T (markL 58 (wdL l).2))] 162 (skipL (markL 58 (wdL l).2)) w''):=fun I w' h'=>done_any I 0 _ _ _ w' ⟨h',rfl⟩
 have HIN:Hid (∀ w',Calls Tryz.prog 103 #[.string (T (wdL l).1)] w' fun e w''=>e=.returned (.bool (nameB (wdL l).1))/\w''=w'):=fun w'=>by
  have:=pisName_any (T (wdL l).1) w' (by rw [T_size];unfold maxLen;have:=new_le hn;omega)
  rw [show (T (wdL l).1).data.toList=(wdL l).1 by simp [T]] at this
  exact this
 have HRS:Hid (∀ w',Mods Nil' w w'->Calls Tryz.prog 104 #[v,.string (T (wdL l).1)] w' fun e w''=>e=.returned (.bool (reservedP (wdL l).1))/\Mods Nil' w' w''):=fun w' m'=>res_any wT w' v bs _ hO (m.trans m') (hE.mods m') (by have:=new_le hn;omega)
 clear HLP
 have hnl:=new_le hn
 rw [hn] at HNW;obtain ⟨vo,vc,rfl,_⟩:=hO.sl.view;generalize reservedP (wdL l).1=rs at *;generalize nameB (wdL l).1=nb at *
 generalize hdd:decide (skipL (markL 58 (wdL l).2)=[])=dd at *
 have HDD:Hid (skipL (markL 58 (wdL l).2)=[] ↔ dd=true):=by rw [Hid,<- hdd];simp
 generalize skipL (markL 58 (wdL l).2)=r3 at *;generalize markL 58 (wdL l).2=r2 at *;generalize LinePost w bs (lineP t)=LP at *
 go_enter Tryz.func42,Tryz.ntmps42
 go_wp2_with fail
 refine (HNW.out _ (HM.out.mods HM0.out)).mono ?_
 rintro e w1 ⟨rfl,m1⟩;generalize wdL l=wl at *;obtain ⟨x,r1⟩:=wl
 dsimp only at *
 have HW1:Hid (∀ cs,LnW w w1.heap.size w.heap.size l (w1.alloc (.cells cs 162))\/True):=fun _=>.inr trivial
 have HW2:Hid (LnW w w1.heap.size w.heap.size (l) (w1.alloc (.cells #[.string (T (l))] 162))) :=
  ⟨Blk.new _ _ _,(HR0.out.mods m1 id).alloc _,(HM0.out.trans m1).alloc _,by
   have h1:=(HM0.out.trans m1).size
   have h2:=(HR0.out.mods m1 id).lt
   omega⟩
 have HMs:Hid (Mods Nil' w w1):=HM0.out.trans m1
 clear m1 HNW HR0 HM0 HW1
 generalize hI:w1.heap.size=I at *
 generalize hR:w.heap.size=R at *
 go_wp2_with fail
 refine (HDN.out I _ HW2.out.inb).mono ?_
 rintro e w2 ⟨rfl,hp2⟩
 have HW3:Hid (LnW w I R (skipL l) w2):=HW2.out.read hp2
 clear hp2 HDN HW2;go_wp2_with fail
 refine (HWD.out I _ HW3.out.inb).mono ?_
 rintro e w3 ⟨rfl,hp3⟩
 have HW4:Hid (LnW w I R r1 w3):=HW3.out.read hp3
 clear hp3 HWD HW3;go_wp2_with fail
 refine (HMK.out I _ HW4.out.inb).mono ?_
 rintro e w4 ⟨rfl,hp4⟩
 have HW5:Hid (LnW w I R r2 w4):=HW4.out.read hp4
 clear hp4 HMK HW4;go_wp2_with fail
 refine (HD2.out I _ HW5.out.inb).mono ?_
 rintro e w5 ⟨rfl,hp5⟩
 have HW6:Hid (LnW w I R r3 w5):=HW5.out.read hp5
 clear hp5 HD2 HW5
 cases dd with
 | false =>
  have HNN:Hid (¬ (r3=[]/\nb=true/\rs=false)):=fun h=>by have:=HDD.out.1 h.1;cases this
  go_wp2_with (refine wpList_store_row rfl 102 (.tmp 4) (.tmp 40) rfl R (lnM 3 (T x) num0 num0 num0) rfl rfl 102 _ HW6.out.res (by kernel_rfl) rfl (lnC_one ..) ?_)
  refine bodyPost_ret (results_cell_tmp_row Tryz.results42 _ _ R 102 _ (0,0) _ _ rfl rfl HW6.out.res.rowPut Tryz.underlying102 rfl (by kernel_rfl)) rfl ?_
  exact HPN.out _ _ HNN.out (HW6.out.md.rowPut (.inr HW6.out.lt.2.2)) rfl
 | true =>
  have HD3:Hid (r3=[]):=HDD.out.2 rfl
  go_wp2_with fail
  refine (HIN.out _).mono ?_
  rintro e w6 ⟨rfl,rfl⟩
  cases nb with
  | false =>
   have HNN:Hid (¬ (r3=[]/\false=true/\rs=false)):=fun h=>by cases h.2.1
   go_wp2_with (refine wpList_store_row rfl 102 (.tmp 4) (.tmp 40) rfl R (lnM 3 (T x) num0 num0 num0) rfl rfl 102 _ HW6.out.res (by kernel_rfl) rfl (lnC_one ..) ?_)
   refine bodyPost_ret (results_cell_tmp_row Tryz.results42 _ _ R 102 _ (0,0) _ _ rfl rfl HW6.out.res.rowPut Tryz.underlying102 rfl (by kernel_rfl)) rfl ?_
   exact HPN.out _ _ HNN.out (HW6.out.md.rowPut (.inr HW6.out.lt.2.2)) rfl
  | true =>
   go_wp2_with fail
   refine (HRS.out _ HW6.out.md).mono ?_
   rintro e w7 ⟨rfl,m7⟩
   have HW7:Hid (LnW w I R r3 w7):=HW6.out.quiet m7
   clear m7
   cases rs with
   | true =>
    have HNN:Hid (¬ (r3=[]/\true=true/\true=false)):=fun h=>by cases h.2.2
    go_wp2_with (refine wpList_store_row rfl 102 (.tmp 4) (.tmp 40) rfl R (lnM 3 (T x) num0 num0 num0) rfl rfl 102 _ HW7.out.res (by kernel_rfl) rfl (lnC_one ..) ?_)
    refine bodyPost_ret (results_cell_tmp_row Tryz.results42 _ _ R 102 _ (0,0) _ _ rfl rfl HW7.out.res.rowPut Tryz.underlying102 rfl (by kernel_rfl)) rfl ?_
    exact HPN.out _ _ HNN.out (HW7.out.md.rowPut (.inr HW7.out.lt.2.2)) rfl
   | false =>
    go_wp2_with (refine wpList_store_row rfl 102 (.tmp 4) (.tmp 40) rfl R (lnM 3 (T x) num0 num0 num0) rfl rfl 102 _ HW7.out.res (by kernel_rfl) rfl (lnC_one ..) ?_)
    refine bodyPost_ret (results_cell_tmp_row Tryz.results42 _ _ R 102 _ (0,0) _ _ rfl rfl HW7.out.res.rowPut Tryz.underlying102 rfl (by kernel_rfl)) rfl ?_
    exact HPY.out _ _ ⟨HD3.out,by simp⟩ (HW7.out.md.rowPut (.inr HW7.out.lt.2.2)) rfl
end Go.Proofs.YtnhcaifopaeohaaGreatDoor
