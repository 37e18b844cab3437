import Derived.Test.YtnhcaifopaeohaaGreatDoorM30
namespace Go.Proofs.YtnhcaifopaeohaaGreatDoor
open Go.RowKit
set_option linter.all false
set_option maxHeartbeats 400000 in
theorem dsize_any (n:Nat) (hn:n<256) (w:World) (hE:Env w):Calls Tryz.prog 17 #[.int .u8 n] w fun e w'=>e=.returned (.string (T (sizeT n)))/\Mods Nil' w w':=by
 have HI:Hid (∀ w,Env w->Calls Tryz.prog 38 #[.int .i64 n] w fun e w'=>e=.returned (.string (T (Lib.itoa n)))/\Mods Nil' w w'):=fun w h=>itoa_any n (by omega) (by omega) w h
 have hl:=itoa_len (n:Int) (by omega) (by omega)
 have HA:Hid (T (sizeT n)=⟨#[32]⟩++T (Lib.itoa n)):=by
  apply ByteArray.ext
  simp [T,sizeT]
 rw [HA.out]
 generalize Lib.itoa (n:Int)=il at *
 go_enter Tryz.func17,Tryz.ntmps17
 go_wp2_with fail
 refine (HI.out _ hE).mono ?_
 rintro e w1 ⟨rfl,m1⟩
 have hlen:¬ 9223372036854775807<1+(T il).size:=by rw [T_size];omega
 go_wp2_with fail;go_ret
 exact ⟨rfl,m1⟩
set_option maxHeartbeats 400000 in
theorem pslots_any (w:World) (tv:Value) (bs:List Nat) (hO:OpsIn 0 w tv bs tableS) (code:List PI) (hok:∀ x∈code,PIok x) (hl:code.length<=10000) (vC:Value) (hC:Sl w 84 8 vC code.length (codeC bs code)) (nm:ByteArray) :
  Calls Tryz.prog 97 #[.agg #[.string nm,vC]] w fun e w'=>e=.returned (.int .i64 (slotsP code))/\Mods Nil' w w':=by
 obtain ⟨oC,cC,rfl,_⟩:=hC.view
 have HO:Hid (OpsIn 0 w tv bs tableS):=hO
 have HC:Hid (Sl w 84 8 (.slice oC code.length cC) code.length (codeC bs code)):=hC
 have HOk:Hid (∀ x∈code,PIok x):=hok
 have HSum:Hid (∀ k,sumS code k<=20000):=fun k=>by have:=sumS_le code HOk.out k;omega
 clear hO hC hok
 have hM0:Mods Nil' w (w.alloc (.cells #[.string nm,.slice oC code.length cC] 55)):=(Mods.refl _ _).alloc _
 have HM0:Hid (Mods Nil' w (w.alloc (.cells #[.string nm,.slice oC code.length cC] 55))):=hM0
 clear hM0
 go_enter Tryz.func97,Tryz.ntmps97
 go_wp2_with fail
 go_loopw [3,9] (fun sv i wl=>∃ k:Nat,k<=code.length/\i=.int .i64 k/\sv=.int .i64 (sumS code k)/\Mods Nil' w wl) (fun _ i _=>code.length - (intOf i).toNat)
 case atStart=>exact ⟨0,Nat.zero_le _,rfl,rfl,HM0.out⟩
 case round =>
  obtain ⟨k,hk,rfl,rfl,hM⟩:=hrel
  have HM:Hid (Mods Nil' w wr):=hM
  clear hM HM0
  by_cases hlt:k<code.length
  ·have HSt:Hid (sumS code (k+1)=sumS code k+code[k].o.slots):=sumS_step code k hlt
   obtain ⟨g,rfl,hg,q0,q1,q2,q3,q4,q5,q6,q7⟩:=code_at (HC.out.mods HM.out (fun _ _=>id)) rfl rfl k hlt
   have hx:=HOk.out code[k] (List.getElem_mem hlt)
   have hA:=tab_at (HO.out.mods HM.out) code[k] hx.k
   have hsum:=HSum.out k
   have hsl:=hx.slots
   clear hx;generalize code[k].o=o at *;generalize code[k].jump=jmp at *;generalize code[k].d=xd at *;generalize code[k].s=xs at *;generalize code[k].num=xn at *;generalize code[k].high=xh at *;generalize code[k].name=xm at *;generalize bs[code[k].k]?.getD 0=b at *
   have hA1:=hA.mods ((Mods.refl _ _).alloc (.cells #[.pointer (some ⟨b,0,none⟩),.int .u8 xd,.int .u8 xs,.int .i16 jmp,.int .i32 xn,.int .i32 xh,.string ByteArray.empty,.string (T xm)] 84))
   obtain ⟨y2,_,_,_⟩:=hA1.cells;clear hA hA1;generalize sumS code k=sk at *;generalize o.slots=os at *;go_wp2_with fail
   go_roundw
   case rel=>exact ⟨k+1,by omega,by go_num,by rw [HSt.out];go_num,HM.out.alloc _⟩
   case measure=>simp [intOf];omega
  ·obtain rfl:k=code.length:=by omega
   have HF:Hid (sumS code code.length=slotsP code):=by rw [Hid,sumS,List.take_length];rfl
   rw [HF.out];go_wp2_with fail;go_ret
   exact ⟨rfl,HM.out⟩
theorem ledP_len:∀ (l:List PI) (slot:Nat) (st:List Bool),(ledP slot l st).length=st.length
 | [],_,_=>rfl
 | x::l,slot,st=>by
  rw [ledP,ledP_len l]
  split<;>simp
theorem labsP_len:∀ (l:List Bool) (n:Nat),(labsP l n).length=l.length
 | [],_=>rfl
 | true::l,n=>by rw [labsP];simp [labsP_len l]
 | false::l,n=>by rw [labsP];simp [labsP_len l]
def JOk (n:Nat):Nat->List PI->Prop
 | _,[]=>True
 | slot,x::l=>(x.o.jumps=true->0<=x.target slot/\(x.target slot).toNat<n)/\JOk n (slot+x.o.slots) l
theorem slotsP_sum (l:List PI):slotsP l=sumS l l.length:=by rw [sumS,List.take_length];rfl
set_option maxRecDepth 100000 in
set_option maxHeartbeats 2000000 in
theorem labels_any (w:World) (hE:Env w) (tv:Value) (bs:List Nat) (hO:OpsIn 0 w tv bs tableS) (code:List PI) (hok:∀ x∈code,PIok x) (hl:code.length<=10000) (vC:Value) (hC:Sl w 84 8 vC code.length (codeC bs code)) (nm:ByteArray) (hJ:JOk (slotsP code) 0 code) :
  Calls Tryz.prog 39 #[.agg #[.string nm,vC]] w fun e w'=>∃ g,e=.returned (.slice (some ⟨g,0,none⟩) (slotsP code) (slotsP code))/\w.heap.size<=g/\Blk w' g (strA ((labsP (ledP 0 code (List.replicate (slotsP code) false)) 0).map T)) 9/\Mods Nil' w w':=by
 obtain ⟨oC,cC,rfl,_⟩:=hC.view
 have HO:Hid (OpsIn 0 w tv bs tableS):=hO
 have HC:Hid (Sl w 84 8 (.slice oC code.length cC) code.length (codeC bs code)):=hC
 have HOk:Hid (∀ x∈code,PIok x):=hok
 have HSum:Hid (∀ k,sumS code k<=20000):=fun k=>by have:=sumS_le code HOk.out k;omega
 have HJ:Hid (JOk (slotsP code) 0 code):=hJ
 have HE:Hid (Env w):=hE
 have hN:slotsP code<=20000:=by rw [slotsP_sum];exact HSum.out _
 have HSl:Hid (∀ w',Mods Nil' w w'->Calls Tryz.prog 97 #[.agg #[.string nm,.slice oC code.length cC]] w' fun e w''=>e=.returned (.int .i64 (slotsP code))/\Mods Nil' w' w''):=fun w' m=>pslots_any w' tv bs (HO.out.mods m) code HOk.out hl _ (HC.out.mods m (fun _ _=>id)) nm
 clear hO hC hok hJ hE;generalize slotsP code=N at *
 generalize hled:ledP 0 code (List.replicate N false)=led
 have HLed:Hid (ledP 0 code (List.replicate N false)=led):=hled
 have hlen:led.length=N:=by rw [<- hled,ledP_len];simp
 clear hled
 have hmk:=run_make_row' (P:=Tryz.prog) 159 4 (.bool false) 1 Tryz.underlying159 info_bool rfl .i64 .i64 N (by omega) (by omega)
 simp only [made_bool] at hmk
 have hmk2:=run_make_row' (P:=Tryz.prog) 29 9 (.string ByteArray.empty) 16 Tryz.underlying29 info_str rfl .i64 .i64 N (by omega) (by omega)
 simp only [made_str] at hmk2
 go_enter Tryz.func39,Tryz.ntmps39
 go_wp2_with fail
 refine (HSl.out _ ((Mods.refl _ _).alloc _)).mono ?_
 rintro e w1 ⟨rfl,m1⟩
 have hbx:Blk w1 w.heap.size #[.string nm,.slice oC code.length cC] 55:=(Blk.new w _ _).mods m1 id
 have HM1:Hid (Mods Nil' w (w1.alloc (.cells (boolA (List.replicate N false)) 4))):=(((Mods.refl _ _).alloc _).trans m1).alloc _
 have HB1:Hid (Blk (w1.alloc (.cells (boolA (List.replicate N false)) 4)) w1.heap.size (boolA (List.replicate N false)) 4):=Blk.new _ _ _
 have x1:(w1.alloc (.cells (boolA (List.replicate N false)) 4)).cell? ⟨w.heap.size,1,none⟩=some (.slice oC code.length cC):=(hbx.alloc _).cell 1
 have hw1:w.heap.size<w1.heap.size:=hbx.lt
 clear m1 hbx;go_upto_block 0 with fail;clear hmk
 go_cut [4] (fun _ wx=>Blk wx w1.heap.size (boolA led) 4/\Mods Nil' w wx)
 case first =>
  go_wp2_with fail
  go_loopw [4,16] (fun sv i wl=>∃ (k:Nat) (st:List Bool),k<=code.length/\i=.int .i64 k/\sv=.int .i64 (sumS code k)/\Blk wl w1.heap.size (boolA st) 4/\st.length=N/\ledP (sumS code k) (code.drop k) st=led/\JOk N (sumS code k) (code.drop k)/\Mods Nil' w wl) (fun _ i _=>code.length - (intOf i).toNat)
  case atStart=>exact ⟨0,_,Nat.zero_le _,rfl,rfl,HB1.out,by simp,HLed.out,HJ.out,HM1.out⟩
  case round =>
   obtain ⟨k,st,hk,rfl,rfl,hBl,hst,hled,hJk,hM⟩:=hrel
   have HBl:Hid (Blk wr w1.heap.size (boolA st) 4):=hBl
   have HLd:Hid (ledP (sumS code k) (code.drop k) st=led):=hled
   have HJk:Hid (JOk N (sumS code k) (code.drop k)):=hJk
   have HM:Hid (Mods Nil' w wr):=hM
   have HSt0:Hid (st.length=N):=hst
   clear hBl hled hJk hM HB1 HM1 x1 hst
   by_cases hlt:k<code.length
   ·have hdr:code.drop k=code[k]::code.drop (k+1):=List.drop_eq_getElem_cons hlt
    rw [hdr] at HLd HJk
    have HLd2:Hid (ledP (sumS code k+code[k].o.slots) (code.drop (k+1)) (if code[k].o.jumps then st.set (code[k].target (sumS code k)).toNat true else st)=led):=HLd.out
    have HJ1:Hid (code[k].o.jumps=true->0<=code[k].target (sumS code k)/\(code[k].target (sumS code k)).toNat<N):=HJk.out.1
    have HJ2:Hid (JOk N (sumS code k+code[k].o.slots) (code.drop (k+1))):=HJk.out.2
    clear HLd HJk hdr
    have HSt:Hid (sumS code (k+1)=sumS code k+code[k].o.slots):=sumS_step code k hlt
    obtain ⟨g,rfl,hg,q0,q1,q2,q3,q4,q5,q6,q7⟩:=code_at (HC.out.mods HM.out (fun _ _=>id)) rfl rfl k hlt
    have hx:=HOk.out code[k] (List.getElem_mem hlt)
    have hA:=tab_at (HO.out.mods HM.out) code[k] hx.k
    have HAny:Hid (∀ w',Mods Nil' w w'->OpAt w' (bs[code[k].k]?.getD 0) code[k].o):=fun w' m=>tab_at (HO.out.mods m) code[k] (HOk.out code[k] (List.getElem_mem hlt)).k
    have hsum:=HSum.out k
    have hsl:=hx.slots
    have hj:=hx.j
    have ht:code[k].target (sumS code k)=(sumS code k:Int)+code[k].o.slots+code[k].jump:=rfl
    rw [ht] at HLd2 HJ1;clear hx ht;generalize code[k].o=o at *;generalize code[k].jump=jmp at *;generalize code[k].d=xd at *;generalize code[k].s=xs at *;generalize code[k].num=xn at *;generalize code[k].high=xh at *;generalize code[k].name=xm at *;generalize bs[code[k].k]?.getD 0=b at *
    have HA1:Hid (OpAt (wr.alloc (.cells #[.pointer (some ⟨b,0,none⟩),.int .u8 xd,.int .u8 xs,.int .i16 jmp,.int .i32 xn,.int .i32 xh,.string ByteArray.empty,.string (T xm)] 84)) b o):=hA.mods ((Mods.refl _ _).alloc _)
    obtain ⟨y2,y3,_,_⟩:=HA1.out.cells
    have HMa:Hid (Mods Nil' w (wr.alloc (.cells #[.pointer (some ⟨b,0,none⟩),.int .u8 xd,.int .u8 xs,.int .i16 jmp,.int .i32 xn,.int .i32 xh,.string ByteArray.empty,.string (T xm)] 84))):=HM.out.alloc _
    have HBla:Hid (Blk (wr.alloc (.cells #[.pointer (some ⟨b,0,none⟩),.int .u8 xd,.int .u8 xs,.int .i16 jmp,.int .i32 xn,.int .i32 xh,.string ByteArray.empty,.string (T xm)] 84)) w1.heap.size (boolA st) 4):=HBl.out.alloc _
    have HBk:Hid (Blk (wr.alloc (.cells #[.pointer (some ⟨b,0,none⟩),.int .u8 xd,.int .u8 xs,.int .i16 jmp,.int .i32 xn,.int .i32 xh,.string ByteArray.empty,.string (T xm)] 84)) wr.heap.size #[.pointer (some ⟨b,0,none⟩),.int .u8 xd,.int .u8 xs,.int .i16 jmp,.int .i32 xn,.int .i32 xh,.string ByteArray.empty,.string (T xm)] 84):=Blk.new _ _ _
    have hgl:w1.heap.size<wr.heap.size:=HBl.out.lt
    clear hA;generalize sumS code k=sk at *
    have HTg:Hid (Calls Tryz.prog 40 #[.agg #[.pointer (some ⟨b,0,none⟩),.int .u8 xd,.int .u8 xs,.int .i16 jmp,.int .i32 xn,.int .i32 xh,.string ByteArray.empty,.string (T xm)],.int .i64 sk] (wr.alloc (.cells #[.pointer (some ⟨b,0,none⟩),.int .u8 xd,.int .u8 xs,.int .i16 jmp,.int .i32 xn,.int .i32 xh,.string ByteArray.empty,.string (T xm)] 84)) fun e w'=>e=.returned (.int .i64 ((sk:Int)+o.slots+jmp))/\Mods Nil' (wr.alloc (.cells #[.pointer (some ⟨b,0,none⟩),.int .u8 xd,.int .u8 xs,.int .i16 jmp,.int .i32 xn,.int .i32 xh,.string ByteArray.empty,.string (T xm)] 84)) w'):=target_any _ b o HA1.out xd xs xn xh jmp _ _ sk (by omega) (by omega) hj
    generalize hjs:o.jumps=oj at *
    cases oj with
    | false =>
     have HLd3:Hid (ledP (sk+o.slots) (code.drop (k+1)) st=led):=by rw [Hid];simpa using HLd2.out
     generalize o.slots=os at *;go_wp2_with fail
     go_roundw
     case rel=>exact ⟨k+1,st,by omega,by go_num,by rw [HSt.out];go_num,HBla.out,HSt0.out,by rw [HSt.out];exact HLd3.out,by rw [HSt.out];exact HJ2.out,HMa.out⟩
     case measure=>simp [intOf];omega
    | true =>
     obtain ⟨j0,j1⟩:=HJ1.out rfl
     obtain ⟨t,ht⟩:∃ t:Nat,(sk:Int)+o.slots+jmp=t:=⟨((sk:Int)+o.slots+jmp).toNat,by omega⟩
     rw [ht] at HLd2 HTg j1
     have HLd3:Hid (ledP (sk+o.slots) (code.drop (k+1)) (st.set t true)=led):=by rw [Hid];simpa using HLd2.out
     have htN:t<N:=by simpa using j1
     clear HLd2 j0 j1 ht HJ1;go_wp2_with fail;refine HTg.out.mono ?_;rintro e w3 ⟨rfl,m3⟩
     have HM3:Hid (Mods Nil' w w3):=HMa.out.trans m3
     have HB3:Hid (Blk w3 w1.heap.size (boolA st) 4):=HBla.out.mods m3 id
     have hbk3:=HBk.out.mods m3 id
     have cB:w3.cell? ⟨w1.heap.size,t,none⟩=some (.bool (st[t]?.getD false)):=by rw [HB3.out.cell t];simp [boolA,HSt0.out,htN]
     have fB:=HB3.out.frozen t
     have v0:(w3.setCell ⟨w1.heap.size,t,none⟩ (.bool true)).cell? ⟨wr.heap.size,0,none⟩=some (.pointer (some ⟨b,0,none⟩)):=(Blk.setOther hbk3 (show w1.heap.size≠wr.heap.size by omega) _).cell 0
     have HB4:Hid (Blk (w3.setCell ⟨w1.heap.size,t,none⟩ (.bool true)) w1.heap.size (boolA (st.set t true)) 4):=by rw [<- boolA_set];exact HB3.out.set t _
     have HM4:Hid (Mods Nil' w (w3.setCell ⟨w1.heap.size,t,none⟩ (.bool true))):=HM3.out.set (.inr (show w.heap.size<=w1.heap.size by omega)) _
     obtain ⟨v2,_,_,_⟩:=(HAny.out _ HM4.out).cells
     clear m3 HTg HA1 HAny;generalize o.slots=os at *;go_wp2_with fail
     go_roundw
     case rel=>exact ⟨k+1,st.set t true,by omega,by go_num,by rw [HSt.out];go_num,HB4.out,by simp [HSt0.out],by rw [HSt.out];exact HLd3.out,by rw [HSt.out];exact HJ2.out,HM4.out⟩
     case measure=>simp [intOf];omega
   ·obtain rfl:k=code.length:=by omega
    have HF:Hid (st=led):=by rw [Hid,<- HLd.out,List.drop_length];rfl
    rw [HF.out] at HBl;go_wp2_with fail;go_meet
    exact ⟨HBl.out,HM.out⟩
 case rest =>
 obtain ⟨hBl,hM⟩:=hcut
 have HBl:Hid (Blk wc w1.heap.size (boolA led) 4):=hBl
 have HM:Hid (Mods Nil' w wc):=hM
 have hsz:w1.heap.size<wc.heap.size:=hBl.lt
 clear hBl hM HB1 HM1 x1 HJ HLed HSl HC HO
 have HB2:Hid (Blk (wc.alloc (.cells (strA (List.replicate N ByteArray.empty)) 9)) wc.heap.size (strA (List.replicate N ByteArray.empty)) 9):=Blk.new _ _ _
 have HBl2:Hid (Blk (wc.alloc (.cells (strA (List.replicate N ByteArray.empty)) 9)) w1.heap.size (boolA led) 4):=HBl.out.alloc _
 have HM2:Hid (Mods Nil' w (wc.alloc (.cells (strA (List.replicate N ByteArray.empty)) 9))):=HM.out.alloc _
 have HLen:Hid (led.length=N):=hlen
 clear hlen
 obtain ⟨wC,hwC⟩:∃ wC,wC=wc:=⟨_,rfl⟩
 subst hwC;go_wp2_with fail
 go_loopw [8,43] (fun nv i wl=>∃ (k n:Nat) (done:List (List UInt8)),k<=N/\i=.int .i64 k/\nv=.int .i64 n/\n<=k/\done.length=k/\done++labsP (led.drop k) n=labsP led 0/\Blk wl w1.heap.size (boolA led) 4/\Blk wl wC.heap.size (strA (done.map T++List.replicate (N - k) ByteArray.empty)) 9/\Mods Nil' w wl) (fun _ i _=>N - (intOf i).toNat)
 case atStart=>exact ⟨0,0,[],Nat.zero_le _,rfl,rfl,Nat.le_refl _,rfl,rfl,HBl2.out,HB2.out,HM2.out⟩
 case round =>
  obtain ⟨k,n,done,hk,rfl,rfl,hnk,hdl,hlb,hBl3,hB3,hM3⟩:=hrel
  have HLb:Hid (done++labsP (led.drop k) n=labsP led 0):=hlb
  have HBl3:Hid (Blk wr w1.heap.size (boolA led) 4):=hBl3
  have HB3:Hid (Blk wr wC.heap.size (strA (done.map T++List.replicate (N - k) ByteArray.empty)) 9):=hB3
  have HM3:Hid (Mods Nil' w wr):=hM3
  clear hlb hBl3 hB3 hM3 HB2 HBl2 HM2;subst hdl
  by_cases hlt:done.length<N
  ·have hkl:done.length<led.length:=by rw [HLen.out];exact hlt
   have hdr:led.drop done.length=led[done.length]::led.drop (done.length+1):=List.drop_eq_getElem_cons hkl
   rw [hdr] at HLb
   have cB:wr.cell? ⟨w1.heap.size,done.length,none⟩=some (.bool led[done.length]):=by rw [HBl3.out.cell];simp [boolA,hkl]
   have hrep:List.replicate (N - done.length) ByteArray.empty=ByteArray.empty::List.replicate (N - (done.length+1)) ByteArray.empty:=by rw [show N - done.length=(N - (done.length+1))+1 by omega,List.replicate_succ]
   rw [hrep] at HB3;generalize led[done.length]=lb at *;clear hdr hrep hkl
   cases lb with
   | false =>
    have HLb2:Hid ((done++[[]])++labsP (led.drop (done.length+1)) n=labsP led 0):=by rw [Hid,<- HLb.out,List.append_assoc];rfl
    have HB4:Hid (Blk wr wC.heap.size (strA ((done++[[]]).map T++List.replicate (N - (done.length+1)) ByteArray.empty)) 9):=by
     have:=HB3.out
     rw [Hid,List.map_append,List.append_assoc];exact this
    go_wp2_with fail
    go_roundw
    case rel=>exact ⟨done.length+1,n,done++[[]],by omega,by go_num,rfl,by omega,by simp,HLb2.out,HBl3.out,HB4.out,HM3.out⟩
    case measure=>simp [intOf];omega
   | true =>
    have HLb2:Hid ((done++[108::Lib.itoa (n:Int)])++labsP (led.drop (done.length+1)) (n+1)=labsP led 0):=by rw [Hid,<- HLb.out,List.append_assoc];rfl
    have HIt:Hid (∀ w,Env w->Calls Tryz.prog 38 #[.int .i64 n] w fun e w'=>e=.returned (.string (T (Lib.itoa n)))/\Mods Nil' w w'):=fun w h=>itoa_any n (by omega) (by omega) w h
    have hil:=itoa_len (n:Int) (by omega) (by omega)
    have HCat:Hid (∀ l,T (108::l)=⟨#[108]⟩++T l):=fun l=>by apply ByteArray.ext;simp [T]
    generalize Lib.itoa (n:Int)=il at *
    have hEw:Env wr:=HE.out.mods HM3.out
    go_wp2_with fail
    refine (HIt.out _ hEw).mono ?_
    rintro e w5 ⟨rfl,m5⟩
    have hlen:¬ 9223372036854775807<1+(T il).size:=by rw [T_size];omega
    have hB5:=HB3.out.mods m5 id
    have c5:w5.cell? ⟨wC.heap.size,done.length,none⟩=some (.string ByteArray.empty):=by rw [hB5.cell];simp [strA]
    have f5:=hB5.frozen done.length
    have HB6:Hid (Blk (w5.setCell ⟨wC.heap.size,done.length,none⟩ (.string (⟨#[108]⟩++T il))) wC.heap.size (strA ((done++[108::il]).map T++List.replicate (N - (done.length+1)) ByteArray.empty)) 9):=by
     have:=hB5.set done.length (.string (⟨#[108]⟩++T il))
     rw [strA_set,show done.length=(done.map T).length by simp,set_mid] at this
     rw [Hid,List.map_append,List.map_cons,List.map_nil,HCat.out]
     simpa using this
    have HBl6:Hid (Blk (w5.setCell ⟨wC.heap.size,done.length,none⟩ (.string (⟨#[108]⟩++T il))) w1.heap.size (boolA led) 4):=Blk.setOther (HBl3.out.mods m5 id) (show wC.heap.size≠w1.heap.size by omega) _
    have HM6:Hid (Mods Nil' w (w5.setCell ⟨wC.heap.size,done.length,none⟩ (.string (⟨#[108]⟩++T il)))):=(HM3.out.trans m5).set (.inr (show w.heap.size<=wC.heap.size by omega)) _
    clear m5 hB5 HB3 HBl3 HM3 hEw;go_wp2_with fail
    go_roundw
    case rel=>exact ⟨done.length+1,n+1,done++[108::il],by omega,by go_num,by go_num,by omega,by simp,HLb2.out,HBl6.out,HB6.out,HM6.out⟩
    case measure=>simp [intOf];omega
  ·have hk2:done.length=N:=by omega
   have HF:Hid (done=labsP led 0):=by rw [Hid,<- HLb.out,hk2,<- HLen.out,List.drop_length];simp [labsP]
   have HB4:Hid (Blk wr wC.heap.size (strA ((labsP led 0).map T)) 9):=by
    have:=HB3.out
    rw [hk2,Nat.sub_self,List.replicate_zero,List.append_nil,HF.out] at this;exact this
   go_wp2_with fail;go_ret
   exact ⟨_,rfl,by omega,HB4.out,HM3.out⟩
end Go.Proofs.YtnhcaifopaeohaaGreatDoor
