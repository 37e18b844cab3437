import Derived.Test.YtnhcaifopaeohaaGreatDoorM09
import Derived.Test.YtnhcaifopaeohaaGreatDoorM05
import Derived.Test.YtnhcaifopaeohaaGreatDoorM06
import Derived.Laws.EntriesVeiled
namespace Go.Proofs.YtnhcaifopaeohaaGreatDoor
open Go.RowKit
set_option linter.all false
structure RdPost (w:World) (b:Nat) (op:Value) (x:Option RSt) (e:Ending) (w':World):Prop where
 e:e=.returned (.bool x.isSome)
 md:Mods (Only b) w w'
 at':∀ r',x=some r'->Blk w' b (r'.cells op) 196
theorem rd_ln {w:World} {b:Nat} {op:Value} {r:RSt} (h:Blk w b (r.cells op) 196):LnAt w b 1 (r.cells op) 196 r.rest:=⟨h,rfl⟩
theorem LnPost.rd {w w':World} {b:Nat} {op:Value} {r:RSt} {l:List UInt8} (h:LnPost w b 1 (r.cells op) 196 l w'):Blk w' b ({ r with rest:=l }.cells op) 196:=h.1.blk
theorem mark_none {c:UInt8} {r:RSt} (h:hasMark c r.rest=false):r.mark c=none:=by unfold RSt.mark;rw [if_neg (by simp [h])]
theorem mark_some {c:UInt8} {r:RSt} (h:hasMark c r.rest=true):r.mark c=some { r with rest:=markL c r.rest }:=by unfold RSt.mark;rw [if_pos h]
set_option maxRecDepth 100000 in
set_option maxHeartbeats 800000 in
theorem markRd_any (b g:Nat) (c:UInt8) (op:Value) (r:RSt) (w:World) (h:Blk w b (r.cells op) 196) (hg:Blk w g #[.int .u8 (c.toNat:Int)] 5) (hl:r.rest.length<=1000000) :
  Calls Tryz.prog 223 #[.pointer (some ⟨b,0,none⟩),.pointer (some ⟨g,0,none⟩)] w fun e w'=>RdPost w b op (r.mark c) e w':=by
 have HMK:Hid (∀ w',Blk w' b (r.cells op) 196->Calls Tryz.prog 102 #[.pointer (some ⟨b,1,none⟩),.int .u8 (c.toNat:Int)] w' fun e w''=>e=.returned (.bool (hasMark c r.rest))/\LnPost w' b 1 (r.cells op) 196 (markL c r.rest) w''):=fun w' h'=>mark_any b 1 _ _ r.rest c w' (rd_ln h') hl
 have HPO:Hid (∀ e w',e=.returned (.bool (hasMark c r.rest))->LnPost w b 1 (r.cells op) 196 (markL c r.rest) w'->RdPost w b op (r.mark c) e w'):=fun e w' he hp=>by
  cases hm:hasMark c r.rest with
  | true =>
   rw [mark_some hm]
   exact ⟨by rw [he,hm];rfl,hp.2,fun r' hr'=>by cases hr';exact hp.rd⟩
  | false =>
   rw [mark_none hm]
   exact ⟨by rw [he,hm];rfl,hp.2,fun r' hr'=>by cases hr'⟩
 generalize RdPost w b op (r.mark c)=RP at *;have HB:=hid h.drew
 have g0:w.drew.cell? ⟨g,0,none⟩=some (.int .u8 (c.toNat:Int)):=hg.drew.cell 0
 have HMD:Hid (∀ w',LnPost w.drew b 1 (r.cells op) 196 (markL c r.rest) w'->LnPost w b 1 (r.cells op) 196 (markL c r.rest) w'):=fun w' hp=>⟨hp.1,((Mods.refl _ _).drew).trans hp.2⟩
 clear h hg
 go_enter Tryz.func223,Tryz.ntmps223
 go_wp2_with fail
 refine wp_region_qtail 4 (by kernel_rfl) (by kernel_rfl) ?_
 intro W hW;rw [<- hW] at HB g0 HMD;clear hW
 simp only [List.take_succ_cons,List.take_zero,List.drop_succ_cons,List.drop_zero]
 repeat (go_big_quiet_step (fail))
 refine wpQuiet_nil ?_
 go_wp2_with fail
 refine (HMK.out _ HB.out).mono ?_
 rintro e w1 ⟨rfl,hp⟩;go_wp2_with fail
 exact HPO.out _ _ rfl (HMD.out _ hp)
theorem regD_eq (r:RSt):r.regD=match regOfP (wdL r.rest).1 with | some n=>some { r with d:=n,rest:=(wdL r.rest).2 } | none=>none:=by
 unfold RSt.regD;cases regOfP (wdL r.rest).1<;>rfl
theorem regS_eq (r:RSt):r.regS=match regOfP (wdL r.rest).1 with | some n=>some { r with s:=n,rest:=(wdL r.rest).2 } | none=>none:=by
 unfold RSt.regS;cases regOfP (wdL r.rest).1<;>rfl
set_option maxRecDepth 100000 in
set_option maxHeartbeats 800000 in
theorem opdRd_any (b:Nat) (op:Value) (r:RSt) (w:World) (h:Blk w b (r.cells op) 196) (hl:r.rest.length<=1000000) (hE:∀ w',Mods (Only b) w w'->Env w') :
  Calls Tryz.prog 166 #[.pointer (some ⟨b,0,none⟩)] w fun e w'=>RdPost w b op r.regD e w':=by
 have HMK:Hid (Calls Tryz.prog 130 #[.pointer (some ⟨b,1,none⟩)] w fun e w'=>e=.returned (.tuple #[.int .u8 (((regOfP (wdL r.rest).1).getD 0:Nat):Int),.bool (regOfP (wdL r.rest).1).isSome])/\LnPost w b 1 (r.cells op) 196 (wdL r.rest).2 w'):=sreg_any b 1 _ _ r.rest w (rd_ln h) hl hE
 have HPO:Hid (∀ e w',e=.returned (.bool (regOfP (wdL r.rest).1).isSome)->Mods (Only b) w w'->Blk w' b ({ r with rest:=(wdL r.rest).2,d:=(regOfP (wdL r.rest).1).getD 0 }.cells op) 196->RdPost w b op r.regD e w'):=fun e w' he hm hp=>by
  rw [regD_eq]
  cases hx:regOfP (wdL r.rest).1 with
  | some n=>rw [hx] at he hp;exact ⟨by rw [he];rfl,hm,fun r' hr'=>by cases hr';exact hp⟩
  | none=>rw [hx] at he;exact ⟨by rw [he];rfl,hm,fun r' hr'=>by cases hr'⟩
 generalize RdPost w b op r.regD=RP at *;generalize regOfP (wdL r.rest).1=rx at *
 go_enter Tryz.func166,Tryz.ntmps166
 go_wp2_with fail;refine HMK.out.mono ?_;rintro e w1 ⟨rfl,hp⟩
 have hb1:=hp.rd
 have z3:w1.cell? ⟨b,3,none⟩=some (.int .u8 (r.d:Int)):=hb1.cell 3
 have zf:=hb1.frozen
 go_wp2_with fail
 exact HPO.out _ _ rfl (hp.2.setb 3 _) (hb1.set 3 _)
set_option maxRecDepth 100000 in
set_option maxHeartbeats 800000 in
theorem srcRd_any (b:Nat) (op:Value) (r:RSt) (w:World) (h:Blk w b (r.cells op) 196) (hl:r.rest.length<=1000000) (hE:∀ w',Mods (Only b) w w'->Env w') :
  Calls Tryz.prog 129 #[.pointer (some ⟨b,0,none⟩)] w fun e w'=>RdPost w b op r.regS e w':=by
 have HMK:Hid (Calls Tryz.prog 130 #[.pointer (some ⟨b,1,none⟩)] w fun e w'=>e=.returned (.tuple #[.int .u8 (((regOfP (wdL r.rest).1).getD 0:Nat):Int),.bool (regOfP (wdL r.rest).1).isSome])/\LnPost w b 1 (r.cells op) 196 (wdL r.rest).2 w'):=sreg_any b 1 _ _ r.rest w (rd_ln h) hl hE
 have HPO:Hid (∀ e w',e=.returned (.bool (regOfP (wdL r.rest).1).isSome)->Mods (Only b) w w'->Blk w' b ({ r with rest:=(wdL r.rest).2,s:=(regOfP (wdL r.rest).1).getD 0 }.cells op) 196->RdPost w b op r.regS e w'):=fun e w' he hm hp=>by
  rw [regS_eq]
  cases hx:regOfP (wdL r.rest).1 with
  | some n=>rw [hx] at he hp;exact ⟨by rw [he];rfl,hm,fun r' hr'=>by cases hr';exact hp⟩
  | none=>rw [hx] at he;exact ⟨by rw [he];rfl,hm,fun r' hr'=>by cases hr'⟩
 generalize RdPost w b op r.regS=RP at *;generalize regOfP (wdL r.rest).1=rx at *
 go_enter Tryz.func129,Tryz.ntmps129
 go_wp2_with fail;refine HMK.out.mono ?_;rintro e w1 ⟨rfl,hp⟩
 have hb1:=hp.rd
 have z4:w1.cell? ⟨b,4,none⟩=some (.int .u8 (r.s:Int)):=hb1.cell 4
 have zf:=hb1.frozen
 go_wp2_with fail
 exact HPO.out _ _ rfl (hp.2.setb 4 _) (hb1.set 4 _)
theorem lab_none {r:RSt} (h:nameB (wdL r.rest).1=false):r.lab=none:=by unfold RSt.lab;rw [if_neg (by simp [h])]
theorem lab_some {r:RSt} (h:nameB (wdL r.rest).1=true):r.lab=some { r with label:=(wdL r.rest).1,rest:=(wdL r.rest).2 }:=by unfold RSt.lab;rw [if_pos h]
set_option maxRecDepth 100000 in
set_option maxHeartbeats 800000 in
theorem labRd_any (b:Nat) (op:Value) (r:RSt) (w:World) (h:Blk w b (r.cells op) 196) (hl:r.rest.length<=1000000) :
  Calls Tryz.prog 169 #[.pointer (some ⟨b,0,none⟩)] w fun e w'=>RdPost w b op r.lab e w':=by
 have HMK:Hid (Calls Tryz.prog 106 #[.pointer (some ⟨b,1,none⟩)] w fun e w'=>e=.returned (.tuple #[.string (T (wdL r.rest).1),.bool (nameB (wdL r.rest).1)])/\LnPost w b 1 (r.cells op) 196 (wdL r.rest).2 w'):=sname_any b 1 _ _ r.rest w (rd_ln h) hl
 have HPO:Hid (∀ e w',e=.returned (.bool (nameB (wdL r.rest).1))->Mods (Only b) w w'->Blk w' b ({ r with rest:=(wdL r.rest).2,label:=(wdL r.rest).1 }.cells op) 196->RdPost w b op r.lab e w'):=fun e w' he hm hp=>by
  cases hx:nameB (wdL r.rest).1 with
  | true=>rw [lab_some hx];exact ⟨by rw [he,hx];rfl,hm,fun r' hr'=>by cases hr';exact hp⟩
  | false=>rw [lab_none hx];exact ⟨by rw [he,hx];rfl,hm,fun r' hr'=>by cases hr'⟩
 generalize RdPost w b op r.lab=RP at *;generalize nameB (wdL r.rest).1=rx at *
 go_enter Tryz.func169,Tryz.ntmps169
 go_wp2_with fail;refine HMK.out.mono ?_;rintro e w1 ⟨rfl,hp⟩
 have hb1:=hp.rd
 have z8:w1.cell? ⟨b,8,none⟩=some (.string (T r.label)):=hb1.cell 8
 have zf:=hb1.frozen
 go_wp2_with fail
 exact HPO.out _ _ rfl (hp.2.setb 8 _) (hb1.set 8 _)
def RSt.numS (r:RSt) (o:Option Int):RSt:={ r with far:=r.far||o.isNone }
set_option maxRecDepth 100000 in
set_option maxHeartbeats 800000 in
theorem rsigned_any (b:Nat) (op:Value) (r:RSt) (n:RNum) (bits:Int) (half:Nat) (w:World) (h:Blk w b (r.cells op) 196)
  (hS:∀ w,Calls Tryz.prog 216 #[n.aggP,.int .i64 bits] w fun e w'=>e=.returned (.tuple #[.int .i64 ((n.sgnP half).getD 0),.bool (n.sgnP half).isSome])/\Mods Nil' w w') :
  Calls Tryz.prog 136 #[.pointer (some ⟨b,0,none⟩),n.aggP,.int .i64 bits] w fun e w'=>e=.returned (.int .i64 ((n.sgnP half).getD 0))/\Blk w' b ((r.numS (n.sgnP half)).cells op) 196/\Mods (Only b) w w':=by
 have HS:=hid hS
 have HF:Hid (∀ w',Blk w' b ({ r with far:=r.far||!(n.sgnP half).isSome }.cells op) 196->Blk w' b ((r.numS (n.sgnP half)).cells op) 196):=fun w' h'=>by
  unfold RSt.numS;rw [<- Option.not_isSome];exact h'
 generalize (r.numS (n.sgnP half)).cells op=fc at *
 unfold RNum.aggP at *
 generalize ((n.v % 18446744073709551616:Nat):Int)=u at *
 generalize decide (18446744073709551616<=n.v)=bg at *;generalize n.sgnP half=sg at *;generalize n.minus=mi at *;clear hS
 have h1:Blk (w.alloc (.cells #[.bool mi,.int .u64 u,.bool bg] 99)) b (r.cells op) 196:=h.alloc _
 have HB:=hid h1
 have HM:Hid (Mods (Only b) w (w.alloc (.cells #[.bool mi,.int .u64 u,.bool bg] 99))):=(Mods.refl _ _).alloc _
 clear h h1
 go_enter Tryz.func136,Tryz.ntmps136
 go_wp2_with fail
 refine (HS.out _).mono ?_
 rintro e w1 ⟨rfl,m1⟩
 have HB1:Hid (Blk w1 b (r.cells op) 196):=HB.out.mods m1 id
 have HM1:Hid (Mods (Only b) w w1):=HM.out.trans m1.of_nil
 clear m1 HB HM HS
 have z10:w1.cell? ⟨b,10,none⟩=some (.bool r.far):=HB1.out.cell 10
 have zf:=HB1.out.frozen
 generalize hfr:r.far=fr at *
 cases fr with
 | true =>
  go_wp2_with fail;go_ret
  refine ⟨rfl,HF.out _ ?_,HM1.out.setb 10 _⟩
  have:=HB1.out.set 10 (.bool true)
  have e:(r.cells op).setIfInBounds 10 (.bool true)=({ r with far:=true||!sg.isSome }).cells op:=by unfold RSt.cells;rfl
  rw [e] at this;exact this
 | false =>
  go_wp2_with fail;go_ret
  refine ⟨rfl,HF.out _ ?_,HM1.out.setb 10 _⟩
  have:=HB1.out.set 10 (.bool sg.isNone)
  have e:(r.cells op).setIfInBounds 10 (.bool sg.isNone)=({ r with far:=false||!sg.isSome }).cells op:=by unfold RSt.cells;simp
  rw [e] at this;exact this
def RSt.numW (r:RSt) (o:Option Nat):RSt:={ r with far:=r.far||o.isNone }
set_option maxRecDepth 100000 in
set_option maxHeartbeats 800000 in
theorem rwide_any (b:Nat) (op:Value) (r:RSt) (n:RNum) (w:World) (h:Blk w b (r.cells op) 196) :
  Calls Tryz.prog 240 #[.pointer (some ⟨b,0,none⟩),n.aggP] w fun e w'=>e=.returned (.int .u64 ((n.wideP.getD 0:Nat):Int))/\Blk w' b ((r.numW n.wideP).cells op) 196/\Mods (Only b) w w':=by
 have HS:Hid (∀ w,Calls Tryz.prog 284 #[n.aggP] w fun e w'=>e=.returned (.tuple #[.int .u64 ((n.wideP.getD 0:Nat):Int),.bool n.wideP.isSome])/\Mods Nil' w w'):=fun w=>wide_any n w
 have HF:Hid (∀ w',Blk w' b ({ r with far:=r.far||!n.wideP.isSome }.cells op) 196->Blk w' b ((r.numW n.wideP).cells op) 196):=fun w' h'=>by
  unfold RSt.numW;rw [<- Option.not_isSome];exact h'
 generalize (r.numW n.wideP).cells op=fc at *
 unfold RNum.aggP at *
 generalize ((n.v % 18446744073709551616:Nat):Int)=u at *
 generalize decide (18446744073709551616<=n.v)=bg at *;generalize n.wideP=sg at *;generalize n.minus=mi at *
 have h1:Blk (w.alloc (.cells #[.bool mi,.int .u64 u,.bool bg] 99)) b (r.cells op) 196:=h.alloc _
 have HB:=hid h1
 have HM:Hid (Mods (Only b) w (w.alloc (.cells #[.bool mi,.int .u64 u,.bool bg] 99))):=(Mods.refl _ _).alloc _
 clear h h1
 go_enter Tryz.func240,Tryz.ntmps240
 go_wp2_with fail
 refine (HS.out _).mono ?_
 rintro e w1 ⟨rfl,m1⟩
 have HB1:Hid (Blk w1 b (r.cells op) 196):=HB.out.mods m1 id
 have HM1:Hid (Mods (Only b) w w1):=HM.out.trans m1.of_nil
 clear m1 HB HM HS
 have z10:w1.cell? ⟨b,10,none⟩=some (.bool r.far):=HB1.out.cell 10
 have zf:=HB1.out.frozen
 generalize hfr:r.far=fr at *
 cases fr with
 | true =>
  go_wp2_with fail;go_ret
  refine ⟨rfl,HF.out _ ?_,HM1.out.setb 10 _⟩
  have:=HB1.out.set 10 (.bool true)
  have e:(r.cells op).setIfInBounds 10 (.bool true)=({ r with far:=true||!sg.isSome }).cells op:=by unfold RSt.cells;rfl
  rw [e] at this;exact this
 | false =>
  go_wp2_with fail;go_ret
  refine ⟨rfl,HF.out _ ?_,HM1.out.setb 10 _⟩
  have:=HB1.out.set 10 (.bool sg.isNone)
  have e:(r.cells op).setIfInBounds 10 (.bool sg.isNone)=({ r with far:=false||!sg.isSome }).cells op:=by unfold RSt.cells;simp
  rw [e] at this;exact this
theorem sgn_range (n:RNum) (half:Nat) (hh:1<=half):-(half:Int)<=(n.sgnP half).getD 0/\(n.sgnP half).getD 0<half:=by
 unfold RNum.sgnP
 split
 ·simp;omega
 ·split
  ·split
   ·simp;omega
   ·simp;omega
  ·split
   ·simp;omega
   ·simp;omega
set_option maxRecDepth 100000 in
set_option maxHeartbeats 800000 in
theorem numRd_any (b:Nat) (op:Value) (r:RSt) (w:World) (h:Blk w b (r.cells op) 196) (hl:r.rest.length<=1000000) :
  Calls Tryz.prog 134 #[.pointer (some ⟨b,0,none⟩)] w fun e w'=>RdPost w b op r.number e w':=by
 have HMK:Hid (Calls Tryz.prog 135 #[.pointer (some ⟨b,1,none⟩)] w fun e w'=>NumPost w b 1 (r.cells op) 196 r.rest e w'):=snum_any b 1 _ _ r.rest w (rd_ln h) hl
 have HPO:Hid (∀ e w' n l',e=.returned (.bool (numL r.rest).isSome)->Mods (Only b) w w'->(∀ x,numL r.rest=some x->x=(n,l'))->Blk w' b ({ r with rest:=l',num:=(n.sgnP 2147483648).getD 0,far:=r.far||(n.sgnP 2147483648).isNone }.cells op) 196->RdPost w b op r.number e w'):=fun e w' n l' he hm hx hp=>by
  unfold RSt.number
  cases hn:numL r.rest with
  | some x =>
   have:=hx x hn
   subst this
   exact ⟨by rw [he,hn];rfl,hm,fun r' hr'=>by cases hr';exact hp⟩
  | none=>exact ⟨by rw [he,hn];rfl,hm,fun r' hr'=>by cases hr'⟩
 generalize RdPost w b op r.number=RP at *
 have HNP:Hid (∀ e w',NumPost w b 1 (r.cells op) 196 r.rest e w'->∃ n l',e=.returned (.tuple #[RNum.aggP n,.bool (numL r.rest).isSome])/\LnPost w b 1 (r.cells op) 196 l' w'/\l'.length<=r.rest.length/\∀ x,numL r.rest=some x->x=(n,l')):=fun _ _ h=>h
 generalize NumPost w b 1 (r.cells op) 196 r.rest=NP at *;generalize numL r.rest=nl at *
 go_enter Tryz.func134,Tryz.ntmps134
 go_wp2_with fail;refine HMK.out.mono ?_;intro e w1 hn;obtain ⟨n,l',rfl,hp,hle,hx⟩:=HNP.out _ _ hn;have HX:=hid hx;clear hn hx HMK HNP hle
 have hr:=sgn_range n 2147483648 (by omega)
 have HB1:Hid (∀ cs,Blk (w1.alloc (.cells cs 99)) b ({ r with rest:=l' }.cells op) 196):=fun cs=>hp.rd.alloc _
 have HM1:Hid (∀ cs,Mods (Only b) w (w1.alloc (.cells cs 99))):=fun cs=>hp.2.alloc _
 clear hp
 have HS:Hid (∀ w',Blk w' b ({ r with rest:=l' }.cells op) 196->Calls Tryz.prog 136 #[.pointer (some ⟨b,0,none⟩),n.aggP,.int .i64 32] w' fun e w''=>e=.returned (.int .i64 ((n.sgnP 2147483648).getD 0))/\Blk w'' b ((RSt.numS { r with rest:=l' } (n.sgnP 2147483648)).cells op) 196/\Mods (Only b) w' w''):=fun w' h'=>rsigned_any b op _ n 32 2147483648 w' h' (signed32_any n)
 have HPO2:Hid (∀ e w',e=.returned (.bool nl.isSome)->Mods (Only b) w w'->Blk w' b ({ r with rest:=l',num:=(n.sgnP 2147483648).getD 0,far:=r.far||(n.sgnP 2147483648).isNone }.cells op) 196->RP e w'):=fun e w' he hm=>HPO.out e w' n l' he hm HX.out
 clear HPO HX
 unfold RSt.numS at *
 generalize n.sgnP 2147483648=sg at *
 unfold RNum.aggP at *
 generalize ((n.v % 18446744073709551616:Nat):Int)=u at *
 generalize decide (18446744073709551616<=n.v)=bg at *;generalize n.minus=mi at *
 generalize hvv:sg.getD 0=vv at *
 obtain ⟨hr0,hr1⟩:=hr;go_wp2_with fail
 refine (HS.out _ (HB1.out _)).mono ?_
 rintro e w2 ⟨rfl,hb2,m2⟩
 have HM2:Hid (Mods (Only b) w w2):=(HM1.out _).trans m2
 have z6:w2.cell? ⟨b,6,none⟩=some (.int .i32 r.num):=hb2.cell 6
 have zf:=hb2.frozen
 have HB2:=hid hb2;clear hb2 m2 HB1 HM1 HS;go_wp2_with fail
 exact HPO2.out _ _ rfl (HM2.out.setb 6 _) (HB2.out.set 6 _)
def RSt.offN (r:RSt) (l:List UInt8) (n:RNum):RSt:={ r with jump:=(n.sgnP 32768).getD 0,far:=r.far||(n.sgnP 32768).isNone,rest:=l }
theorem off_minus {r:RSt} (h:hasMark 45 r.rest=true):r.off=(numOfP (wdL (markL 45 r.rest)).1).map (fun v=>r.offN (wdL (markL 45 r.rest)).2 ⟨v,true⟩):=by
 unfold RSt.off RSt.offN;rw [if_pos h]
theorem skip_mark {c:UInt8} {l:List UInt8} (h:hasMark c l=false):markL c l=skipL l:=by unfold markL;rw [if_neg (by simp [h])]
theorem skipL_skip (l:List UInt8):skipL (skipL l)=skipL l:=by
 unfold skipL
 induction l with
 | nil=>rfl
 | cons c r ih =>
  rw [List.dropWhile_cons]
  split
  ·exact ih
  ·rename_i h;rw [List.dropWhile_cons,if_neg h]
theorem hasMark_skip (c:UInt8) (l:List UInt8):hasMark c (skipL l)=hasMark c l/\markL c (skipL l)=markL c l:=by
 unfold markL hasMark;rw [skipL_skip];exact ⟨rfl,rfl⟩
theorem off_plus {r:RSt} (h:hasMark 45 r.rest=false) (hp:hasMark 43 r.rest=true):r.off=(numOfP (wdL (markL 43 r.rest)).1).map (fun v=>r.offN (wdL (markL 43 r.rest)).2 ⟨v,false⟩):=by
 unfold RSt.off RSt.offN;rw [if_neg (by simp [h]),if_pos hp]
theorem off_none {r:RSt} (h:hasMark 45 r.rest=false) (hp:hasMark 43 r.rest=false):r.off=some { r with rest:=skipL r.rest }:=by
 unfold RSt.off;rw [if_neg (by simp [h]),if_neg (by simp [hp])]
set_option maxRecDepth 100000 in
set_option maxHeartbeats 2000000 in
theorem offM_any (b:Nat) (op:Value) (r:RSt) (w:World) (h:Blk w b (r.cells op) 196) (hl:r.rest.length<=1000000) (hm:hasMark 45 r.rest=true) :
  Calls Tryz.prog 187 #[.pointer (some ⟨b,0,none⟩)] w fun e w'=>RdPost w b op r.off e w':=by
 have HMK:Hid (Calls Tryz.prog 102 #[.pointer (some ⟨b,1,none⟩),.int .u8 45] w fun e w'=>e=.returned (.bool true)/\LnPost w b 1 (r.cells op) 196 (markL 45 r.rest) w'):=by
  have:=mark_any b 1 _ _ r.rest 45 w (rd_ln h) hl
  rw [hm] at this;exact this
 have hml:=mark_le 45 r.rest
 have HPO:Hid (∀ e w',e=.returned (.bool (numOfP (wdL (markL 45 r.rest)).1).isSome)->Mods (Only b) w w'->Blk w' b ((r.offN (wdL (markL 45 r.rest)).2 ⟨(numOfP (wdL (markL 45 r.rest)).1).getD 0,true⟩).cells op) 196->RdPost w b op r.off e w'):=fun e w' he hmd hbk=>by
  rw [off_minus hm]
  cases hn:numOfP (wdL (markL 45 r.rest)).1 with
  | some v=>rw [hn] at he hbk;exact ⟨by rw [he];rfl,hmd,fun r' hr'=>by cases hr';exact hbk⟩
  | none=>rw [hn] at he;exact ⟨by rw [he];rfl,hmd,fun r' hr'=>by cases hr'⟩
 generalize RdPost w b op r.off=RP at *;generalize markL 45 r.rest=l0 at *
 have HDG:Hid (∀ w',Blk w' b ({ r with rest:=l0 }.cells op) 196->Calls Tryz.prog 227 #[.pointer (some ⟨b,1,none⟩)] w' fun e w''=>e=.returned (.tuple #[(RNum.mk ((numOfP (wdL l0).1).getD 0) false).aggP,.bool (numOfP (wdL l0).1).isSome])/\LnPost w' b 1 ({ r with rest:=l0 }.cells op) 196 (wdL l0).2 w''):=fun w' h'=>digits_any b 1 _ _ l0 w' (rd_ln (r:={ r with rest:=l0 }) h') (by omega)
 generalize wdL l0=wl at *;obtain ⟨l1,l2⟩:=wl
 dsimp only at *
 generalize numOfP l1=nn at *
 have hr:=sgn_range ⟨nn.getD 0,true⟩ 32768 (by omega)
 have HS:Hid (∀ w',Blk w' b ({ r with rest:=l2 }.cells op) 196->Calls Tryz.prog 136 #[.pointer (some ⟨b,0,none⟩),(RNum.mk (nn.getD 0) true).aggP,.int .i64 16] w' fun e w''=>e=.returned (.int .i64 (((RNum.mk (nn.getD 0) true).sgnP 32768).getD 0))/\Blk w'' b ((RSt.numS { r with rest:=l2 } ((RNum.mk (nn.getD 0) true).sgnP 32768)).cells op) 196/\Mods (Only b) w' w''):=fun w' h'=>rsigned_any b op _ _ 16 32768 w' h' (signed16_any _)
 have HNG:Hid (∀ w',Calls Tryz.prog 238 #[(RNum.mk (nn.getD 0) false).aggP] w' fun e w''=>e=.returned (RNum.mk (nn.getD 0) true).aggP/\Mods Nil' w' w''):=fun w'=>negated_any ⟨_,false⟩ w'
 unfold RSt.numS RSt.offN at *
 generalize (RNum.mk (nn.getD 0) true).sgnP 32768=sg at *
 unfold RNum.aggP at *
 dsimp only at *
 generalize (((nn.getD 0) % 18446744073709551616:Nat):Int)=u at *
 generalize decide (18446744073709551616<=nn.getD 0)=bg at *
 generalize hvv:sg.getD 0=vv at *
 obtain ⟨hr0,hr1⟩:=hr;clear h hl hml
 go_enter Tryz.func187,Tryz.ntmps187
 go_wp2_with fail;refine HMK.out.mono ?_;rintro e w1 ⟨rfl,hp1⟩;have HB1:=hid hp1.rd;have HM1:=hid hp1.2;clear hp1 HMK;go_wp2_with fail
 refine (HDG.out _ HB1.out).mono ?_
 rintro e w2 ⟨rfl,hp2⟩
 have HB2:Hid (∀ cs,Blk (w2.alloc (.cells cs 99)) b ({ r with rest:=l2 }.cells op) 196):=fun cs=>hp2.rd.alloc _
 have HM2:Hid (∀ cs,Mods (Only b) w (w2.alloc (.cells cs 99))):=fun cs=>(HM1.out.trans hp2.2).alloc _
 have HWs:Hid (w.heap.size<=w2.heap.size):=(HM1.out.trans hp2.2).size
 have hbl:b<w2.heap.size:=hp2.1.blk.lt
 clear hp2 HB1 HM1 HDG;go_wp2_with fail
 refine (HNG.out _).mono ?_
 rintro e w3 ⟨rfl,m3⟩
 have HN3:Hid (Blk w3 w2.heap.size #[.bool false,.int .u64 u,.bool bg] 99):=(Blk.new w2 _ _).mods m3 id
 have n0:w3.cell? ⟨w2.heap.size,0,none⟩=some (.bool false):=HN3.out.cell 0
 have n1:w3.cell? ⟨w2.heap.size,1,none⟩=some (.int .u64 u):=HN3.out.cell 1
 have n2:w3.cell? ⟨w2.heap.size,2,none⟩=some (.bool bg):=HN3.out.cell 2
 have nf:=HN3.out.frozen
 have HB3:Hid (Blk w3 b ({ r with rest:=l2 }.cells op) 196):=(HB2.out _).mods m3 id
 have HM3:Hid (Mods (Only b) w w3):=(HM2.out _).trans m3.of_nil
 clear m3 HB2 HM2 HNG;go_upto_region 7 with fail
 generalize hW4:((w3.setCell ⟨w2.heap.size,0,none⟩ (.bool true)).setCell ⟨w2.heap.size,1,none⟩ (.int .u64 u)).setCell ⟨w2.heap.size,2,none⟩ (.bool bg)=W4 at *
 have HN4:Hid (Blk W4 w2.heap.size #[.bool true,.int .u64 u,.bool bg] 99):=by
  rw [<- hW4];exact ((HN3.out.set 0 _).set 1 _).set 2 _
 have HB4:Hid (Blk W4 b ({ r with rest:=l2 }.cells op) 196):=by
  rw [<- hW4]
  iterate 3 refine Blk.setOther ?_ (by simp;omega) _
  exact HB3.out
 have HM4:Hid (Mods (Only b) w W4):=by
  rw [<- hW4]
  iterate 3 refine Mods.set ?_ (.inr (by simpa using HWs.out)) _
  exact HM3.out
 clear n0 n1 n2 nf HN3 HB3 HM3 hW4
 have n0:W4.cell? ⟨w2.heap.size,0,none⟩=some (.bool true):=HN4.out.cell 0
 have n1:W4.cell? ⟨w2.heap.size,1,none⟩=some (.int .u64 u):=HN4.out.cell 1
 have n2:W4.cell? ⟨w2.heap.size,2,none⟩=some (.bool bg):=HN4.out.cell 2
 go_wp2_with fail
 refine (HS.out _ HB4.out).mono ?_
 rintro e w5 ⟨rfl,hb5,m5⟩;have HB5:=hid hb5
 have HM5:Hid (Mods (Only b) w w5):=HM4.out.trans m5
 have z5:w5.cell? ⟨b,5,none⟩=some (.int .i16 r.jump):=hb5.cell 5
 have zf:=hb5.frozen
 clear hb5 m5 HB4 HM4 HN4 n0 n1 n2 HS;go_wp2_with fail
 exact HPO.out _ _ rfl (HM5.out.setb 5 _) (HB5.out.set 5 _)
set_option maxRecDepth 100000 in
set_option maxHeartbeats 2000000 in
theorem offP_any (b:Nat) (op:Value) (r:RSt) (w:World) (h:Blk w b (r.cells op) 196) (hl:r.rest.length<=1000000) (hm:hasMark 45 r.rest=false) (hp:hasMark 43 r.rest=true) :
  Calls Tryz.prog 187 #[.pointer (some ⟨b,0,none⟩)] w fun e w'=>RdPost w b op r.off e w':=by
 have HMK:Hid (Calls Tryz.prog 102 #[.pointer (some ⟨b,1,none⟩),.int .u8 45] w fun e w'=>e=.returned (.bool false)/\LnPost w b 1 (r.cells op) 196 (skipL r.rest) w'):=by
  have:=mark_any b 1 _ _ r.rest 45 w (rd_ln h) hl
  rw [hm,skip_mark hm] at this;exact this
 have HMK2:Hid (∀ w',Blk w' b ({ r with rest:=skipL r.rest }.cells op) 196->Calls Tryz.prog 102 #[.pointer (some ⟨b,1,none⟩),.int .u8 43] w' fun e w''=>e=.returned (.bool true)/\LnPost w' b 1 ({ r with rest:=skipL r.rest }.cells op) 196 (markL 43 r.rest) w''):=fun w' h'=>by
  have:=mark_any b 1 _ _ (skipL r.rest) 43 w' (rd_ln (r:={ r with rest:=skipL r.rest }) h') (by have:=skip_le r.rest;omega)
  rw [(hasMark_skip 43 r.rest).1,(hasMark_skip 43 r.rest).2,hp] at this;exact this
 have hml:=mark_le 43 r.rest
 have HPO:Hid (∀ e w',e=.returned (.bool (numOfP (wdL (markL 43 r.rest)).1).isSome)->Mods (Only b) w w'->Blk w' b ((r.offN (wdL (markL 43 r.rest)).2 ⟨(numOfP (wdL (markL 43 r.rest)).1).getD 0,false⟩).cells op) 196->RdPost w b op r.off e w'):=fun e w' he hmd hbk=>by
  rw [off_plus hm hp]
  cases hn:numOfP (wdL (markL 43 r.rest)).1 with
  | some v=>rw [hn] at he hbk;exact ⟨by rw [he];rfl,hmd,fun r' hr'=>by cases hr';exact hbk⟩
  | none=>rw [hn] at he;exact ⟨by rw [he];rfl,hmd,fun r' hr'=>by cases hr'⟩
 generalize RdPost w b op r.off=RP at *;generalize markL 43 r.rest=l0 at *
 have HDG:Hid (∀ w',Blk w' b ({ r with rest:=l0 }.cells op) 196->Calls Tryz.prog 227 #[.pointer (some ⟨b,1,none⟩)] w' fun e w''=>e=.returned (.tuple #[(RNum.mk ((numOfP (wdL l0).1).getD 0) false).aggP,.bool (numOfP (wdL l0).1).isSome])/\LnPost w' b 1 ({ r with rest:=l0 }.cells op) 196 (wdL l0).2 w''):=fun w' h'=>digits_any b 1 _ _ l0 w' (rd_ln (r:={ r with rest:=l0 }) h') (by omega)
 generalize wdL l0=wl at *;obtain ⟨l1,l2⟩:=wl
 dsimp only at *
 generalize numOfP l1=nn at *
 have hr:=sgn_range ⟨nn.getD 0,false⟩ 32768 (by omega)
 have HS:Hid (∀ w',Blk w' b ({ r with rest:=l2 }.cells op) 196->Calls Tryz.prog 136 #[.pointer (some ⟨b,0,none⟩),(RNum.mk (nn.getD 0) false).aggP,.int .i64 16] w' fun e w''=>e=.returned (.int .i64 (((RNum.mk (nn.getD 0) false).sgnP 32768).getD 0))/\Blk w'' b ((RSt.numS { r with rest:=l2 } ((RNum.mk (nn.getD 0) false).sgnP 32768)).cells op) 196/\Mods (Only b) w' w''):=fun w' h'=>rsigned_any b op _ _ 16 32768 w' h' (signed16_any _)
 have HNG:Hid (∀ w',Calls Tryz.prog 238 #[(RNum.mk (nn.getD 0) false).aggP] w' fun e w''=>e=.returned (RNum.mk (nn.getD 0) true).aggP/\Mods Nil' w' w''):=fun w'=>negated_any ⟨_,false⟩ w'
 unfold RSt.numS RSt.offN at *
 generalize (RNum.mk (nn.getD 0) false).sgnP 32768=sg at *
 unfold RNum.aggP at *
 dsimp only at *
 generalize (((nn.getD 0) % 18446744073709551616:Nat):Int)=u at *
 generalize decide (18446744073709551616<=nn.getD 0)=bg at *
 generalize hvv:sg.getD 0=vv at *
 obtain ⟨hr0,hr1⟩:=hr;clear h hl hml
 go_enter Tryz.func187,Tryz.ntmps187
 go_wp2_with fail;refine HMK.out.mono ?_;rintro e w0 ⟨rfl,hp0⟩;have HB0:=hid hp0.rd;have HM0:=hid hp0.2;clear hp0 HMK;go_wp2_with fail
 refine (HMK2.out _ HB0.out).mono ?_
 rintro e w1 ⟨rfl,hp1⟩;have HB1:=hid hp1.rd
 have HM1:Hid (Mods (Only b) w w1):=HM0.out.trans hp1.2
 clear hp1 HMK2 HB0 HM0;go_wp2_with fail
 refine (HDG.out _ HB1.out).mono ?_
 rintro e w2 ⟨rfl,hp2⟩
 have HB2:Hid (∀ cs,Blk (w2.alloc (.cells cs 99)) b ({ r with rest:=l2 }.cells op) 196):=fun cs=>hp2.rd.alloc _
 have HM2:Hid (∀ cs,Mods (Only b) w (w2.alloc (.cells cs 99))):=fun cs=>(HM1.out.trans hp2.2).alloc _
 have HWs:Hid (w.heap.size<=w2.heap.size):=(HM1.out.trans hp2.2).size
 have hbl:b<w2.heap.size:=hp2.1.blk.lt
 clear hp2 HB1 HM1 HDG;go_upto_region 7 with fail
 have HN4:Hid (Blk (w2.alloc (.cells #[.bool false,.int .u64 u,.bool bg] 99)) w2.heap.size #[.bool false,.int .u64 u,.bool bg] 99):=Blk.new w2 _ _
 have HB4:Hid (Blk (w2.alloc (.cells #[.bool false,.int .u64 u,.bool bg] 99)) b ({ r with rest:=l2 }.cells op) 196):=HB2.out _
 have HM4:Hid (Mods (Only b) w (w2.alloc (.cells #[.bool false,.int .u64 u,.bool bg] 99))):=HM2.out _
 clear HB2 HM2;generalize w2.alloc (.cells #[.bool false,.int .u64 u,.bool bg] 99)=W4 at *
 have n0:W4.cell? ⟨w2.heap.size,0,none⟩=some (.bool false):=HN4.out.cell 0
 have n1:W4.cell? ⟨w2.heap.size,1,none⟩=some (.int .u64 u):=HN4.out.cell 1
 have n2:W4.cell? ⟨w2.heap.size,2,none⟩=some (.bool bg):=HN4.out.cell 2
 go_wp2_with fail
 refine (HS.out _ HB4.out).mono ?_
 rintro e w5 ⟨rfl,hb5,m5⟩;have HB5:=hid hb5
 have HM5:Hid (Mods (Only b) w w5):=HM4.out.trans m5
 have z5:w5.cell? ⟨b,5,none⟩=some (.int .i16 r.jump):=hb5.cell 5
 have zf:=hb5.frozen
 clear hb5 m5 HB4 HM4 HN4 n0 n1 n2 HS;go_wp2_with fail
 exact HPO.out _ _ rfl (HM5.out.setb 5 _) (HB5.out.set 5 _)
set_option maxRecDepth 100000 in
set_option maxHeartbeats 2000000 in
theorem offZ_any (b:Nat) (op:Value) (r:RSt) (w:World) (h:Blk w b (r.cells op) 196) (hl:r.rest.length<=1000000) (hm:hasMark 45 r.rest=false) (hp:hasMark 43 r.rest=false) :
  Calls Tryz.prog 187 #[.pointer (some ⟨b,0,none⟩)] w fun e w'=>RdPost w b op r.off e w':=by
 have HMK:Hid (Calls Tryz.prog 102 #[.pointer (some ⟨b,1,none⟩),.int .u8 45] w fun e w'=>e=.returned (.bool false)/\LnPost w b 1 (r.cells op) 196 (skipL r.rest) w'):=by
  have:=mark_any b 1 _ _ r.rest 45 w (rd_ln h) hl
  rw [hm,skip_mark hm] at this;exact this
 have HMK2:Hid (∀ w',Blk w' b ({ r with rest:=skipL r.rest }.cells op) 196->Calls Tryz.prog 102 #[.pointer (some ⟨b,1,none⟩),.int .u8 43] w' fun e w''=>e=.returned (.bool false)/\LnPost w' b 1 ({ r with rest:=skipL r.rest }.cells op) 196 (skipL r.rest) w''):=fun w' h'=>by
  have:=mark_any b 1 _ _ (skipL r.rest) 43 w' (rd_ln (r:={ r with rest:=skipL r.rest }) h') (by have:=skip_le r.rest;omega)
  rw [(hasMark_skip 43 r.rest).1,(hasMark_skip 43 r.rest).2,hp,skip_mark hp] at this;exact this
 have HPO:Hid (∀ e w',e=.returned (.bool true)->Mods (Only b) w w'->Blk w' b ({ r with rest:=skipL r.rest }.cells op) 196->RdPost w b op r.off e w'):=fun e w' he hmd hb=>by
  rw [off_none hm hp]
  exact ⟨by rw [he];rfl,hmd,fun r' hr'=>by cases hr';exact hb⟩
 generalize RdPost w b op r.off=RP at *;clear h hl
 go_enter Tryz.func187,Tryz.ntmps187
 go_wp2_with fail;refine HMK.out.mono ?_;rintro e w0 ⟨rfl,hp0⟩;have HB0:=hid hp0.rd;have HM0:=hid hp0.2;clear hp0 HMK;go_wp2_with fail
 refine (HMK2.out _ HB0.out).mono ?_
 rintro e w1 ⟨rfl,hp1⟩;have HB1:=hid hp1.rd
 have HM1:Hid (Mods (Only b) w w1):=HM0.out.trans hp1.2
 clear hp1 HMK2 HB0 HM0;go_wp2_with fail;exact HPO.out _ _ rfl HM1.out HB1.out
theorem offRd_any (b:Nat) (op:Value) (r:RSt) (w:World) (h:Blk w b (r.cells op) 196) (hl:r.rest.length<=1000000) :
  Calls Tryz.prog 187 #[.pointer (some ⟨b,0,none⟩)] w fun e w'=>RdPost w b op r.off e w':=by
 cases hm:hasMark 45 r.rest with
 | true=>exact offM_any b op r w h hl hm
 | false =>
  cases hp:hasMark 43 r.rest with
  | true=>exact offP_any b op r w h hl hm hp
  | false=>exact offZ_any b op r w h hl hm hp
theorem wide_map {r:RSt} (h:(wdL r.rest).1=[109,97,112]):r.wide=if nameB (wdL (wdL r.rest).2).1 then some { r with s:=1,name:=(wdL (wdL r.rest).2).1,rest:=(wdL (wdL r.rest).2).2 } else none:=by
 unfold RSt.wide;rw [if_pos h]
theorem wide_num {r:RSt} (h:(wdL r.rest).1≠[109,97,112]):r.wide=(numL r.rest).map (fun x=>{ r with num:=lowP (x.1.wideP.getD 0),high:=lowP ((x.1.wideP.getD 0) / 4294967296),far:=r.far||x.1.wideP.isNone,rest:=x.2 }):=by
 unfold RSt.wide;rw [if_neg h]
set_option maxRecDepth 100000 in
set_option maxHeartbeats 2000000 in
theorem wideM_any (b:Nat) (op:Value) (r:RSt) (w:World) (h:Blk w b (r.cells op) 196) (hl:r.rest.length<=1000000) (hm:(wdL r.rest).1=[109,97,112]) :
  Calls Tryz.prog 193 #[.pointer (some ⟨b,0,none⟩)] w fun e w'=>RdPost w b op r.wide e w':=by
 have hwl:=wd_le r.rest
 have hq:((T [109,97,112]).toList==[109,97,112])=true:=lit_eq rfl
 have HB0:Hid (Blk (w.alloc (.cells #[.string (T r.rest)] 162)) b (r.cells op) 196):=h.alloc _
 have HL0:Hid (LnAt (w.alloc (.cells #[.string (T r.rest)] 162)) w.heap.size 0 #[.string (T r.rest)] 162 r.rest):=⟨Blk.new w _ _,rfl⟩
 have HW:Hid (Calls Tryz.prog 101 #[.pointer (some ⟨w.heap.size,0,none⟩)] (w.alloc (.cells #[.string (T r.rest)] 162)) fun e w'=>e=.returned (.string (T [109,97,112]))/\LnPost (w.alloc (.cells #[.string (T r.rest)] 162)) w.heap.size 0 #[.string (T r.rest)] 162 (wdL r.rest).2 w'):=by
  have:=word_any' w.heap.size 0 _ _ r.rest _ HL0.out hl
  rw [hm] at this;exact this
 have HN:Hid (∀ w',LnAt w' w.heap.size 0 #[.string (T (wdL r.rest).2)] 162 (wdL r.rest).2->Calls Tryz.prog 106 #[.pointer (some ⟨w.heap.size,0,none⟩)] w' fun e w''=>e=.returned (.tuple #[.string (T (wdL (wdL r.rest).2).1),.bool (nameB (wdL (wdL r.rest).2).1)])/\LnPost w' w.heap.size 0 #[.string (T (wdL r.rest).2)] 162 (wdL (wdL r.rest).2).2 w''):=fun w' h'=>sname_any _ 0 _ _ _ w' h' (by omega)
 have HPO:Hid (∀ e w',e=.returned (.bool (nameB (wdL (wdL r.rest).2).1))->Mods (Only b) w w'->Blk w' b ({ r with s:=1,name:=(wdL (wdL r.rest).2).1,rest:=(wdL (wdL r.rest).2).2 }.cells op) 196->RdPost w b op r.wide e w'):=fun e w' he hmd hbk=>by
  rw [wide_map hm]
  cases hn:nameB (wdL (wdL r.rest).2).1 with
  | true=>rw [hn] at he;exact ⟨by rw [he];rfl,hmd,fun r' hr'=>by cases hr';exact hbk⟩
  | false=>rw [hn] at he;exact ⟨by rw [he];rfl,hmd,fun r' hr'=>by cases hr'⟩
 generalize RdPost w b op r.wide=RP at *;generalize nameB (wdL (wdL r.rest).2).1=nb at *;generalize wdL (wdL r.rest).2=w2 at *;generalize wdL r.rest=w1 at *;obtain ⟨n2,l2⟩:=w2;obtain ⟨n1,l1⟩:=w1
 dsimp only at *
 have c1:w.cell? ⟨b,1,none⟩=some (.string (T r.rest)):=h.cell 1
 have hbl:=h.lt
 have HWs:Hid (Mods (Only b) w (w.alloc (.cells #[.string (T r.rest)] 162))):=(Mods.refl _ _).alloc _
 clear h hwl hl
 go_enter Tryz.func193,Tryz.ntmps193
 go_wp2_with fail;refine HW.out.mono ?_;rintro e wa ⟨rfl,hp1⟩;have HL1:=hid hp1.1
 have HB1:Hid (Blk wa b (r.cells op) 196):=HB0.out.mods hp1.2 (fun e=>by have:b=w.heap.size:=e;omega)
 have HM1:Hid (Mods (Only b) w wa):=HWs.out.step hp1.2 (fun i hi e=>by have:i=w.heap.size:=e;omega)
 clear hp1 HL0 HB0 HWs HW;go_wp2_with fail
 refine (HN.out _ HL1.out).mono ?_
 rintro e wb ⟨rfl,hp2⟩;have HL2:=hid hp2.1
 have HB2:Hid (Blk wb b (r.cells op) 196):=HB1.out.mods hp2.2 (fun e=>by have:b=w.heap.size:=e;omega)
 have HM2:Hid (Mods (Only b) w wb):=HM1.out.step hp2.2 (fun i hi e=>by have:i=w.heap.size:=e;omega)
 clear hp2 HL1 HB1 HM1 HN
 have x0:wb.cell? ⟨w.heap.size,0,none⟩=some (.string (T l2)):=HL2.out.cell
 have z1:wb.cell? ⟨b,1,none⟩=some (.string (T r.rest)):=HB2.out.cell 1
 have z4:wb.cell? ⟨b,4,none⟩=some (.int .u8 (r.s:Int)):=HB2.out.cell 4
 have z9:wb.cell? ⟨b,9,none⟩=some (.string (T r.name)):=HB2.out.cell 9
 have zf:=HB2.out.frozen
 go_wp2_with fail
 exact HPO.out _ _ rfl (((HM2.out.setb 1 _).setb 4 _).setb 9 _) (((HB2.out.set 1 _).set 4 _).set 9 _)
theorem low_i32 (v:Nat):Go.RowKit.wrap32 ((v:Int) % 4294967296)=lowP v:=by
 unfold lowP Go.RowKit.wrap32
 omega
theorem high_i32 (v:Nat):Go.RowKit.wrap32 ((v:Int) / 4294967296)=lowP (v / 4294967296):=by
 unfold lowP Go.RowKit.wrap32
 omega
set_option maxRecDepth 100000 in
set_option maxHeartbeats 2000000 in
theorem wideN_any (b:Nat) (op:Value) (r:RSt) (w:World) (h:Blk w b (r.cells op) 196) (hl:r.rest.length<=1000000) (hm:(wdL r.rest).1≠[109,97,112]) :
  Calls Tryz.prog 193 #[.pointer (some ⟨b,0,none⟩)] w fun e w'=>RdPost w b op r.wide e w':=by
 have hq:((T (wdL r.rest).1).toList==[109,97,112])=false:=lit_ne (fun e=>hm (T_injL e))
 have HB0:Hid (Blk (w.alloc (.cells #[.string (T r.rest)] 162)) b (r.cells op) 196):=h.alloc _
 have HL0:Hid (LnAt (w.alloc (.cells #[.string (T r.rest)] 162)) w.heap.size 0 #[.string (T r.rest)] 162 r.rest):=⟨Blk.new w _ _,rfl⟩
 have HW:Hid (Calls Tryz.prog 101 #[.pointer (some ⟨w.heap.size,0,none⟩)] (w.alloc (.cells #[.string (T r.rest)] 162)) fun e w'=>e=.returned (.string (T (wdL r.rest).1))/\LnPost (w.alloc (.cells #[.string (T r.rest)] 162)) w.heap.size 0 #[.string (T r.rest)] 162 (wdL r.rest).2 w'):=word_any' w.heap.size 0 _ _ r.rest _ HL0.out hl
 have HMK:Hid (∀ w',Blk w' b (r.cells op) 196->Calls Tryz.prog 135 #[.pointer (some ⟨b,1,none⟩)] w' fun e w''=>NumPost w' b 1 (r.cells op) 196 r.rest e w''):=fun w' h'=>snum_any b 1 _ _ r.rest w' (rd_ln h') hl
 have HPO:Hid (∀ e w' n l',e=.returned (.bool (numL r.rest).isSome)->Mods (Only b) w w'->(∀ x,numL r.rest=some x->x=(n,l'))->Blk w' b ({ r with num:=lowP (n.wideP.getD 0),high:=lowP ((n.wideP.getD 0) / 4294967296),far:=r.far||n.wideP.isNone,rest:=l' }.cells op) 196->RdPost w b op r.wide e w'):=fun e w' n l' he hmd hx hp=>by
  rw [wide_num hm]
  cases hn:numL r.rest with
  | some x =>
   have:=hx x hn
   subst this
   exact ⟨by rw [he,hn];rfl,hmd,fun r' hr'=>by cases hr';exact hp⟩
  | none=>exact ⟨by rw [he,hn];rfl,hmd,fun r' hr'=>by cases hr'⟩
 generalize RdPost w b op r.wide=RP at *;generalize wdL r.rest=w1 at *;obtain ⟨n1,l1⟩:=w1
 dsimp only at *
 have c1:w.cell? ⟨b,1,none⟩=some (.string (T r.rest)):=h.cell 1
 have hbl:=h.lt
 have HWs:Hid (Mods (Only b) w (w.alloc (.cells #[.string (T r.rest)] 162))):=(Mods.refl _ _).alloc _
 clear h hl
 go_enter Tryz.func193,Tryz.ntmps193
 go_wp2_with fail;refine HW.out.mono ?_;rintro e wa ⟨rfl,hp1⟩
 have HB1:Hid (Blk wa b (r.cells op) 196):=HB0.out.mods hp1.2 (fun e=>by have:b=w.heap.size:=e;omega)
 have HM1:Hid (Mods (Only b) w wa):=HWs.out.step hp1.2 (fun i hi e=>by have:i=w.heap.size:=e;omega)
 clear hp1 HL0 HB0 HWs HW;go_wp2_with fail
 refine (HMK.out _ HB1.out).mono ?_
 intro e wb hn;obtain ⟨n,l',rfl,hp2,hle,hx⟩:=hn
 have HPO2:Hid (∀ e w',e=.returned (.bool (numL r.rest).isSome)->Mods (Only b) w w'->Blk w' b ({ r with num:=lowP (n.wideP.getD 0),high:=lowP ((n.wideP.getD 0) / 4294967296),far:=r.far||n.wideP.isNone,rest:=l' }.cells op) 196->RP e w'):=fun e w' he hm=>HPO.out e w' n l' he hm hx
 have HB2:Hid (∀ cs,Blk (wb.alloc (.cells cs 99)) b ({ r with rest:=l' }.cells op) 196):=fun cs=>hp2.rd.alloc _
 have HM2:Hid (∀ cs,Mods (Only b) w (wb.alloc (.cells cs 99))):=fun cs=>(HM1.out.trans hp2.2).alloc _
 have HS:Hid (∀ w',Blk w' b ({ r with rest:=l' }.cells op) 196->Calls Tryz.prog 240 #[.pointer (some ⟨b,0,none⟩),n.aggP] w' fun e w''=>e=.returned (.int .u64 ((n.wideP.getD 0:Nat):Int))/\Blk w'' b ((RSt.numW { r with rest:=l' } n.wideP).cells op) 196/\Mods (Only b) w' w''):=fun w' h'=>rwide_any b op _ n w' h'
 have hwd:n.wideP.getD 0<18446744073709551616:=by
  unfold RNum.wideP
  split
  ·simp
  ·split
   ·split
    ·simp;omega
    ·simp
   ·simp;omega
 clear hp2 hx hle HPO HMK HB1 HM1
 unfold RSt.numW at *
 generalize n.wideP=sg at *;generalize numL r.rest=nl at *
 unfold RNum.aggP at *
 generalize ((n.v % 18446744073709551616:Nat):Int)=u at *
 generalize decide (18446744073709551616<=n.v)=bg at *;generalize n.minus=mi at *
 have HL:Hid (Go.RowKit.wrap32 (((sg.getD 0:Nat):Int) % 4294967296)=lowP (sg.getD 0)):=low_i32 _
 have HH:Hid (Go.RowKit.wrap32 (((sg.getD 0:Nat):Int) / 4294967296)=lowP ((sg.getD 0) / 4294967296)):=high_i32 _
 generalize hvv:sg.getD 0=vv at *
 have hv1:(vv:Int)<18446744073709551616:=by omega
 go_wp2_with fail
 refine (HS.out _ (HB2.out _)).mono ?_
 rintro e wd ⟨rfl,hb5,m5⟩;have HB5:=hid hb5
 have HM5:Hid (Mods (Only b) w wd):=(HM2.out _).trans m5
 have z6:wd.cell? ⟨b,6,none⟩=some (.int .i32 r.num):=hb5.cell 6
 have z7:wd.cell? ⟨b,7,none⟩=some (.int .i32 r.high):=hb5.cell 7
 have zf:=hb5.frozen
 clear hb5 m5 HB2 HM2 HS;go_wp2_with fail
 refine HPO2.out _ _ rfl ((HM5.out.setb 6 _).setb 7 _) ?_
 rw [HL.out,HH.out]
 exact (HB5.out.set 6 _).set 7 _
theorem wideRd_any (b:Nat) (op:Value) (r:RSt) (w:World) (h:Blk w b (r.cells op) 196) (hl:r.rest.length<=1000000) :
  Calls Tryz.prog 193 #[.pointer (some ⟨b,0,none⟩)] w fun e w'=>RdPost w b op r.wide e w':=by
 by_cases hm:(wdL r.rest).1=[109,97,112]
 ·exact wideM_any b op r w h hl hm
 ·exact wideN_any b op r w h hl hm
def OpBlk (w:World) (k:Nat):Prop:=∃ cs t fr,w.heap[k]?=some (.cells cs t fr)/\(t=92\/t=79\/t=196)
def Kp (w w':World):Prop:=Mods (OpBlk w) w w'
theorem Mods.kp {w w':World} (m:Mods Nil' w w'):Kp w w':=m.mono (fun _ _ h=>h.elim)
theorem Kp.trans {w w' w'':World} (h:Kp w w') (k:Kp w' w''):Kp w w'' :=
 Mods.step h k (fun i hi ⟨cs,t,fr,hb,ht⟩=>by
  refine Classical.byContradiction fun hn=>hn ?_
  rw [h.block i hi hn] at hb
  exact ⟨cs,t,fr,hb,ht⟩)
theorem Kp.not {w:World} {g:Nat} {cs:Array Value} {t:TypeId} (h:Blk w g cs t) (ht:t≠92/\t≠79/\t≠196):¬ OpBlk w g:=by
 rintro ⟨cs',t',fr,h',ht'⟩
 rw [show w.heap[g]?=some (.cells cs t (0,0)) from h] at h'
 cases h'
 rcases ht' with h | h | h
 ·exact ht.1 h
 ·exact ht.2.1 h
 ·exact ht.2.2 h
theorem Blk.kp {w w':World} {g:Nat} {cs:Array Value} {t:TypeId} (h:Blk w g cs t) (m:Kp w w') (ht:t≠92/\t≠79/\t≠196):Blk w' g cs t:=h.mods m (Kp.not h ht)
theorem Sl.kp {w w':World} {e:TypeId} {size:Nat} {v:Value} {n:Nat} {xs:List Value} (h:Sl w e size v n xs) (m:Kp w w') (he:e≠92/\e≠79/\e≠196):Sl w' e size v n xs:=by
 refine h.mods m fun k hk hn=>?_
 rcases h.2 with ⟨rfl,rfl⟩ | ⟨g,cap,cur,rfl,_,hg,_⟩
 ·cases hk
 ·cases hk
  exact Kp.not (cs:=cur) hg he hn
theorem Mods.kpSl {w w':World} {v:Value} {n:Nat} {xs:List Value} (h:Sl w 79 1 v n xs) (m:Mods (fun k=>v.ownBlock=some k) w w'):Kp w w' :=
 m.mono fun k _ hk=>by
  rcases h.2 with ⟨rfl,rfl⟩ | ⟨g,cap,cur,rfl,_,hg,_⟩
  ·cases hk
  ·cases hk
   exact ⟨_,_,_,hg,.inr (.inl rfl)⟩
theorem Mods.kpRd {w w':World} {b:Nat} {cs:Array Value} (h:Blk w b cs 196) (m:Mods (Only b) w w'):Kp w w' :=
 m.mono fun k _ hk=>by
  have:k=b:=hk
  subst this
  exact ⟨_,_,_,h,.inr (.inr rfl)⟩
structure PV where
 f1:Fn
 c1:Array Value
 k2:FuncId
 c2:Array Value
 k3:FuncId
 c3:Array Value
def PV.cells (v:PV) (n:Nat):List Value:=[.int .i64 n,.func v.f1 #[] v.c1,.func (.func v.k2) #[] v.c2,.func (.func v.k3) #[] v.c3]
def Ent (k:FuncId):Prop:=∀ args w,(callFunc k args).run Tryz.prog w=.ok (.enter k args) w
structure RdOk (w:World) (rd:RSt->Option RSt) (f:Fn) (c:Array Value):Prop where
 ex:∃ k,f=.func k/\Ent k/\∀ w' b op r,Kp w w'->(∀ w'',Mods (Only b) w' w''->Env w'')->Blk w' b (RSt.cells op r) 196->r.rest.length<=1000000->Calls Tryz.prog k (#[.pointer (some ⟨b,0,none⟩)]++c) w' fun e w''=>RdPost w' b op (rd r) e w''
theorem RdOk.kp {w w':World} {rd:RSt->Option RSt} {f:Fn} {c:Array Value} (h:RdOk w rd f c) (m:Kp w w'):RdOk w' rd f c:=by
 obtain ⟨k,h1,h2,h3⟩:=h.ex
 exact ⟨k,h1,h2,fun w2 b op r m2=>h3 w2 b op r (m.trans m2)⟩
structure PV.Ok (w:World) (p:PK) (v:PV):Prop where
 wr:∀ w' x,Kp w w'->Env w'->x.Fit->Calls Tryz.prog v.k2 (#[.agg x.cells]++v.c2) w' fun e w''=>e=.returned (.string (T (p.write x)))/\Mods Nil' w' w''
 ri:∀ w' x,Kp w w'->x.Fit->Calls Tryz.prog v.k3 (#[.agg x.cells]++v.c3) w' fun e w''=>e=.returned (.bool (p.right x))/\Mods Nil' w' w''
 e2:Ent v.k2
 e3:Ent v.k3
 rd:RdOk w p.read v.f1 v.c1
theorem PV.Ok.kp {w w':World} {p:PK} {v:PV} (h:v.Ok w p) (m:Kp w w'):v.Ok w' p :=
 ⟨fun w2 x m2=>h.wr w2 x (m.trans m2),fun w2 x m2=>h.ri w2 x (m.trans m2),h.e2,h.e3,h.rd.kp m⟩
def PartPost (w:World) (p:PK) (e:Ending) (w':World):Prop:=∃ v:PV,e=.returned (.agg (v.cells p.fills).toArray)/\v.Ok w' p/\Mods Nil' w w'
set_option maxHeartbeats 400000 in
theorem part_source (w:World):Calls Tryz.prog 68 #[] w fun e w'=>PartPost w .source e w':=by
 go_enter Tryz.func68,Tryz.ntmps68
 go_wp2_with fail
 refine bodyPost_ret (results_cell_row Tryz.results68 _ _ w.heap.size 135 _ (0,0) _ rfl (Blk.new _ _ _) Tryz.underlying135 rfl (by kernel_rfl)) rfl ⟨⟨_,_,_,_,_,_⟩,rfl,?_,(Mods.refl _ _).alloc _⟩
 exact ⟨fun w' x _ hE hx=>by simpa using srcW_any x hx w' hE,fun w' x _ hx=>by simpa using srcR_any x hx w',enters_of Tryz.func131 (by kernel_rfl) rfl,enters_of Tryz.func133 (by kernel_rfl) rfl,⟨_,rfl,enters_of Tryz.func129 (by kernel_rfl) rfl,fun w' b op r _ hE h hl=>by simpa [PK.read] using srcRd_any b op r w' h hl hE⟩⟩
set_option maxHeartbeats 400000 in
theorem operand_val (w:World):Calls Tryz.prog 78 #[] w fun e w'=>e=.returned (.agg #[.int .i64 1,.func (.func 166) #[] #[],.func (.func 167) #[] #[],.func (.func 168) #[] #[]])/\Mods Nil' w w':=by
 go_enter Tryz.func78,Tryz.ntmps78
 go_wp2_with fail
 exact bodyPost_ret (results_cell_row Tryz.results78 _ _ w.heap.size 135 _ (0,0) _ rfl (Blk.new _ _ _) Tryz.underlying135 rfl (by kernel_rfl)) rfl ⟨rfl,(Mods.refl _ _).alloc _⟩
theorem part_operand (w:World):Calls Tryz.prog 78 #[] w fun e w'=>PartPost w .operand e w' :=
 (operand_val w).mono fun _ _ h=>⟨⟨_,_,_,_,_,_⟩,h.1,⟨fun w' x _ hE hx=>by simpa using opdW_any x hx w' hE,fun w' x _ hx=>by simpa using opdR_any x hx w',enters_of Tryz.func167 (by kernel_rfl) rfl,enters_of Tryz.func168 (by kernel_rfl) rfl,⟨_,rfl,enters_of Tryz.func166 (by kernel_rfl) rfl,fun w' b op r _ hE h hl=>by simpa [PK.read] using opdRd_any b op r w' h hl hE⟩⟩,h.2⟩
set_option maxHeartbeats 400000 in
theorem part_number (w:World):Calls Tryz.prog 69 #[] w fun e w'=>PartPost w .number e w':=by
 go_enter Tryz.func69,Tryz.ntmps69
 go_wp2_with fail
 refine bodyPost_ret (results_cell_row Tryz.results69 _ _ w.heap.size 135 _ (0,0) _ rfl (Blk.new _ _ _) Tryz.underlying135 rfl (by kernel_rfl)) rfl ⟨⟨_,_,_,_,_,_⟩,rfl,?_,(Mods.refl _ _).alloc _⟩
 exact ⟨fun w' x _ hE hx=>by simpa using numW_any x hx w' hE,fun w' x _ hx=>by simpa [PK.right] using always_any x w',enters_of Tryz.func137 (by kernel_rfl) rfl,enters_of Tryz.func138 (by kernel_rfl) rfl,⟨_,rfl,enters_of Tryz.func134 (by kernel_rfl) rfl,fun w' b op r _ hE h hl=>by simpa [PK.read] using numRd_any b op r w' h hl⟩⟩
set_option maxHeartbeats 400000 in
theorem part_label (w:World):Calls Tryz.prog 79 #[] w fun e w'=>PartPost w .label e w':=by
 go_enter Tryz.func79,Tryz.ntmps79
 go_wp2_with fail
 refine bodyPost_ret (results_cell_row Tryz.results79 _ _ w.heap.size 135 _ (0,0) _ rfl (Blk.new _ _ _) Tryz.underlying135 rfl (by kernel_rfl)) rfl ⟨⟨_,_,_,_,_,_⟩,rfl,?_,(Mods.refl _ _).alloc _⟩
 exact ⟨fun w' x _ hE hx=>by simpa using labW_any x w',fun w' x _ hx=>by simpa [PK.right] using always_any x w',enters_of Tryz.func170 (by kernel_rfl) rfl,enters_of Tryz.func138 (by kernel_rfl) rfl,⟨_,rfl,enters_of Tryz.func169 (by kernel_rfl) rfl,fun w' b op r _ hE h hl=>by simpa [PK.read] using labRd_any b op r w' h hl⟩⟩
set_option maxHeartbeats 400000 in
theorem part_offset (w:World):Calls Tryz.prog 84 #[] w fun e w'=>PartPost w .offset e w':=by
 go_enter Tryz.func84,Tryz.ntmps84
 go_wp2_with fail
 refine bodyPost_ret (results_cell_row Tryz.results84 _ _ w.heap.size 135 _ (0,0) _ rfl (Blk.new _ _ _) Tryz.underlying135 rfl (by kernel_rfl)) rfl ⟨⟨_,_,_,_,_,_⟩,rfl,?_,(Mods.refl _ _).alloc _⟩
 exact ⟨fun w' x _ hE hx=>by simpa using offW_any x hx w' hE,fun w' x _ hx=>by simpa [PK.right] using always_any x w',enters_of Tryz.func188 (by kernel_rfl) rfl,enters_of Tryz.func138 (by kernel_rfl) rfl,⟨_,rfl,enters_of Tryz.func187 (by kernel_rfl) rfl,fun w' b op r _ hE h hl=>by simpa [PK.read] using offRd_any b op r w' h hl⟩⟩
set_option maxHeartbeats 400000 in
theorem part_wide (w:World):Calls Tryz.prog 88 #[] w fun e w'=>PartPost w .wide e w':=by
 go_enter Tryz.func88,Tryz.ntmps88
 go_wp2_with fail
 refine bodyPost_ret (results_cell_row Tryz.results88 _ _ w.heap.size 135 _ (0,0) _ rfl (Blk.new _ _ _) Tryz.underlying135 rfl (by kernel_rfl)) rfl ⟨⟨_,_,_,_,_,_⟩,rfl,?_,(Mods.refl _ _).alloc _⟩
 exact ⟨fun w' x _ hE hx=>by simpa using wideW_any x hx w' hE,fun w' x _ hx=>by simpa using wideR_any x hx w',enters_of Tryz.func194 (by kernel_rfl) rfl,enters_of Tryz.func195 (by kernel_rfl) rfl,⟨_,rfl,enters_of Tryz.func193 (by kernel_rfl) rfl,fun w' b op r _ hE h hl=>by simpa [PK.read] using wideRd_any b op r w' h hl⟩⟩
set_option maxHeartbeats 400000 in
theorem part_result (w:World):Calls Tryz.prog 66 #[] w fun e w'=>PartPost w .result e w':=by
 go_enter Tryz.func66,Tryz.ntmps66
 go_wp2_with fail
 refine (operand_val _).mono ?_
 rintro e w1 ⟨rfl,m1⟩
 have hz:Blk (w1.alloc (.cells #[.int .i64 1,.func (.func 166) #[] #[],.func (.func 167) #[] #[],.func (.func 127) #[] #[]] 135)) w.heap.size #[.int .i64 0,.nilFunc,.nilFunc,.nilFunc] 135:=((Blk.new w _ _).mods m1 id).alloc _
 have z0:=hz.cell 0
 have z1:=hz.cell 1
 have z2:=hz.cell 2
 have z3:=hz.cell 3
 have f0:=hz.frozen 0
 have f1':=hz.frozen 1
 have f2:=hz.frozen 2
 have f3:=hz.frozen 3
 simp at z0 z1 z2 z3
 go_wp2_with fail
 refine bodyPost_ret (results_cell_row Tryz.results66 _ _ w.heap.size 135 _ (0,0) _ rfl ((((hz.set 0 _).set 1 _).set 2 _).set 3 _) Tryz.underlying135 rfl (by kernel_rfl)) rfl ⟨⟨_,_,_,_,_,_⟩,rfl,?_,?_⟩
 ·exact ⟨fun w' x _ hE hx=>by simpa [PK.write] using opdW_any x hx w' hE,fun w' x _ hx=>by simpa using resR_any x hx w',enters_of Tryz.func167 (by kernel_rfl) rfl,enters_of Tryz.func127 (by kernel_rfl) rfl,⟨_,rfl,enters_of Tryz.func166 (by kernel_rfl) rfl,fun w' b op r _ hE h hl=>by simpa [PK.read] using opdRd_any b op r w' h hl hE⟩⟩
 ·iterate 4 refine Mods.set ?_ (.inr (by simp)) _
  exact (((Mods.refl _ _).alloc _).trans m1).alloc _
abbrev markC (b g:Nat):Array Value:=#[.int .i64 0,.func (.func 223) #[] #[.pointer (some ⟨b,0,none⟩)],.func (.func 224) #[] #[.pointer (some ⟨g,0,none⟩)],.func (.func 138) #[] #[]]
set_option maxHeartbeats 400000 in
theorem mark_val (w:World) (b:Nat) (t:ByteArray):Calls Tryz.prog 128 #[.int .u8 b,.string t] w fun e w' =>
  e=.returned (.agg (markC w.heap.size (w.heap.size+1)))/\Blk w' (w.heap.size+1) #[.string t] 9/\Blk w' w.heap.size #[.int .u8 b] 5/\Mods Nil' w w':=by
 have hb3:Blk (((w.alloc (.cells #[.int .u8 b] 5)).alloc (.cells #[.string t] 9)).alloc (.cells (markC w.heap.size (w.heap.size+1)) 135)) (w.heap.size+1+1) (markC w.heap.size (w.heap.size+1)) 135:=by
  have:=Blk.new ((w.alloc (.cells #[.int .u8 b] 5)).alloc (.cells #[.string t] 9)) (markC w.heap.size (w.heap.size+1)) 135
  simpa using this
 have hb:Blk ((w.alloc (.cells #[.int .u8 b] 5)).alloc (.cells #[.string t] 9)) (w.heap.size+1) #[.string t] 9:=by
  have:=Blk.new (w.alloc (.cells #[.int .u8 b] 5)) #[.string t] 9
  simpa using this
 go_enter Tryz.func128,Tryz.ntmps128
 go_wp2_with fail
 exact bodyPost_ret (results_cell_row Tryz.results128 _ _ (w.heap.size+1+1) 135 _ (0,0) _ rfl hb3 Tryz.underlying135 rfl (by kernel_rfl)) rfl ⟨rfl,hb.alloc _,((Blk.new w _ _).alloc _).alloc _,(((Mods.refl _ _).alloc _).alloc _).alloc _⟩
theorem mark_ok (w:World) (b g:Nat) (t:ByteArray) (p:PK) (hw:∀ x,T (p.write x)=t) (hr:∀ x,p.right x=true) (hb:Blk w g #[.string t] 9) (c:UInt8) (hc:∀ r,p.read r=r.mark c) (hB:Blk w b #[.int .u8 (c.toNat:Int)] 5):PV.Ok w p ⟨.func 223,#[.pointer (some ⟨b,0,none⟩)],224,#[.pointer (some ⟨g,0,none⟩)],138,#[]⟩:=by
 refine ⟨fun w' x m hE hx=>?_,fun w' x _ hx=>by rw [hr];simpa using always_any x w',enters_of Tryz.func224 (by kernel_rfl) rfl,enters_of Tryz.func138 (by kernel_rfl) rfl,⟨_,rfl,enters_of Tryz.func223 (by kernel_rfl) rfl,fun w' b' op r m _ h hl=>by rw [hc];exact markRd_any b' b c op r w' h (hB.kp m (by decide)) hl⟩⟩
 have h2:=hb.kp m (by decide)
 rw [hw]
 exact markW_any x w' g t (h2.cell 0) h2.lt
set_option maxHeartbeats 400000 in
theorem part_comma (w:World):Calls Tryz.prog 67 #[] w fun e w'=>PartPost w .comma e w':=by
 go_enter Tryz.func67,Tryz.ntmps67
 go_wp2_with fail
 refine (mark_val _ 44 (T [44,32])).mono ?_
 rintro e w1 ⟨rfl,hb1,hB1,m1⟩
 have hz:Blk w1 w.heap.size #[.int .i64 0,.nilFunc,.nilFunc,.nilFunc] 135:=(Blk.new w _ _).mods m1 id
 have z0:=hz.cell 0
 have z1:=hz.cell 1
 have z2:=hz.cell 2
 have z3:=hz.cell 3
 have f0:=hz.frozen 0
 have f1:=hz.frozen 1
 have f2:=hz.frozen 2
 have f3:=hz.frozen 3
 simp at z0 z1 z2 z3 hb1 hB1
 go_wp2_with fail
 refine bodyPost_ret (results_cell_row Tryz.results67 _ _ w.heap.size 135 _ (0,0) _ rfl ((((hz.set 0 _).set 1 _).set 2 _).set 3 _) Tryz.underlying135 rfl (by kernel_rfl)) rfl ⟨⟨_,_,_,_,_,_⟩,rfl,?_,?_⟩
 ·refine mark_ok _ _ _ (T [44,32]) .comma (fun _=>rfl) (fun _=>rfl) ?_ 44 (fun _=>rfl) ?_
  ·iterate 4 refine Blk.setOther ?_ (by simp;omega) _
   exact hb1
  ·iterate 4 refine Blk.setOther ?_ (by simp) _
   exact hB1
 ·iterate 4 refine Mods.set ?_ (.inr (by simp)) _
  exact ((Mods.refl _ _).alloc _).trans m1
set_option maxHeartbeats 400000 in
theorem part_opens (w:World):Calls Tryz.prog 83 #[] w fun e w'=>PartPost w .opens e w':=by
 go_enter Tryz.func83,Tryz.ntmps83
 go_wp2_with fail
 refine (mark_val _ 91 (T [91])).mono ?_
 rintro e w1 ⟨rfl,hb1,hB1,m1⟩
 have hz:Blk w1 w.heap.size #[.int .i64 0,.nilFunc,.nilFunc,.nilFunc] 135:=(Blk.new w _ _).mods m1 id
 have z0:=hz.cell 0
 have z1:=hz.cell 1
 have z2:=hz.cell 2
 have z3:=hz.cell 3
 have f0:=hz.frozen 0
 have f1:=hz.frozen 1
 have f2:=hz.frozen 2
 have f3:=hz.frozen 3
 simp at z0 z1 z2 z3 hb1 hB1
 go_wp2_with fail
 refine bodyPost_ret (results_cell_row Tryz.results83 _ _ w.heap.size 135 _ (0,0) _ rfl ((((hz.set 0 _).set 1 _).set 2 _).set 3 _) Tryz.underlying135 rfl (by kernel_rfl)) rfl ⟨⟨_,_,_,_,_,_⟩,rfl,?_,?_⟩
 ·refine mark_ok _ _ _ (T [91]) .opens (fun _=>rfl) (fun _=>rfl) ?_ 91 (fun _=>rfl) ?_
  ·iterate 4 refine Blk.setOther ?_ (by simp;omega) _
   exact hb1
  ·iterate 4 refine Blk.setOther ?_ (by simp) _
   exact hB1
 ·iterate 4 refine Mods.set ?_ (.inr (by simp)) _
  exact ((Mods.refl _ _).alloc _).trans m1
set_option maxHeartbeats 400000 in
theorem part_shut (w:World):Calls Tryz.prog 85 #[] w fun e w'=>PartPost w .shut e w':=by
 go_enter Tryz.func85,Tryz.ntmps85
 go_wp2_with fail
 refine (mark_val _ 93 (T [93])).mono ?_
 rintro e w1 ⟨rfl,hb1,hB1,m1⟩
 have hz:Blk w1 w.heap.size #[.int .i64 0,.nilFunc,.nilFunc,.nilFunc] 135:=(Blk.new w _ _).mods m1 id
 have z0:=hz.cell 0
 have z1:=hz.cell 1
 have z2:=hz.cell 2
 have z3:=hz.cell 3
 have f0:=hz.frozen 0
 have f1:=hz.frozen 1
 have f2:=hz.frozen 2
 have f3:=hz.frozen 3
 simp at z0 z1 z2 z3 hb1 hB1
 go_wp2_with fail
 refine bodyPost_ret (results_cell_row Tryz.results85 _ _ w.heap.size 135 _ (0,0) _ rfl ((((hz.set 0 _).set 1 _).set 2 _).set 3 _) Tryz.underlying135 rfl (by kernel_rfl)) rfl ⟨⟨_,_,_,_,_,_⟩,rfl,?_,?_⟩
 ·refine mark_ok _ _ _ (T [93]) .shut (fun _=>rfl) (fun _=>rfl) ?_ 93 (fun _=>rfl) ?_
  ·iterate 4 refine Blk.setOther ?_ (by simp;omega) _
   exact hb1
  ·iterate 4 refine Blk.setOther ?_ (by simp) _
   exact hB1
 ·iterate 4 refine Mods.set ?_ (.inr (by simp)) _
  exact ((Mods.refl _ _).alloc _).trans m1
structure PartsAt (w:World) (v:Value) (ps:List PK):Prop where
 ex:∃ pv:List (PK × PV),pv.map (·.1)=ps/\(∀ x∈pv,x.2.Ok w x.1)/\Sl w 135 4 v pv.length (pv.flatMap (fun x=>x.2.cells x.1.fills))
theorem PartsAt.kp {w w':World} {v:Value} {ps:List PK} (h:PartsAt w v ps) (m:Kp w w'):PartsAt w' v ps:=by
 obtain ⟨pv,h1,h2,h3⟩:=h.ex
 exact ⟨pv,h1,fun x hx=>(h2 x hx).kp m,h3.kp m (by decide)⟩
theorem PartsAt.mods {w w':World} {v:Value} {ps:List PK} (h:PartsAt w v ps) (m:Mods Nil' w w'):PartsAt w' v ps:=h.kp m.kp
theorem pwrite_len (x:PIns) (hx:x.Fit) (p:PK):(p.write x).length<=310:=by
 have hd:=itoa_len (x.d:Int) (by omega) (by have:=hx.d;omega)
 have hs:=itoa_len (x.s:Int) (by omega) (by have:=hx.s;omega)
 have hn:=itoa_len x.num (by have:=hx.n0;omega) (by have:=hx.n1;omega)
 have hj:=itoa_len x.jump (by have:=hx.j0;omega) (by have:=hx.j1;omega)
 have hw:(Lib.decDigits x.wide).length<=20:=by rw [Lib.decDigits_length];exact Lib.nDigits_le20 _ (wide_lt x)
 have hl:=hx.l
 have hm:=hx.m
 rw [<- BL_len] at hl hm;unfold PK.write
 split<;>simp [regP,offP,wideP]<;>(try split)<;>(try split)<;>(try simp)<;>omega
theorem builder_mods {T e:TypeId} {B b:Nat} {bs:List Value} {w w':World} (h:Lib.IsBuilderF T e B b bs w) (m:Mods Nil' w w'):Lib.IsBuilderF T e B b bs w':=by
 have key:∀ p,Lib.BuilderAtF T e B b p bs w->Lib.BuilderAtF T e B b p bs w':=by
  rintro p ⟨h1,v,h2,h3,h4⟩
  refine ⟨h1,v,(m.block b (Array.getElem?_eq_some_iff.1 h2).1 id).trans h2,⟨h3.1,?_⟩,h4⟩
  rcases h3.2 with hn | ⟨g,cap,cur,fz,hv,hb,hg,rest⟩
  ·exact .inl hn
  ·exact .inr ⟨g,cap,cur,fz,hv,hb,(m.block g (Array.getElem?_eq_some_iff.1 hg).1 id).trans hg,rest⟩
 rcases h with h | h
 ·exact .inl (key _ h)
 ·exact .inr (key _ h)
theorem builder_new (w:World):Lib.IsBuilderF 45 5 w.heap.size w.heap.size [] (w.alloc (.cells #[.pointer none,.slice none 0 0] 45)) :=
 .inl ⟨Nat.le_refl _,.slice none 0 0,heap_alloc_new w _,⟨rfl,.inl ⟨rfl,rfl⟩⟩,by simp [Value.ownBlock]⟩
theorem bwrite_any (B b:Nat) (l:List UInt8) (s:ByteArray) (w:World) (h:Lib.IsBuilderF 45 5 B b (Lib.byteCells l) w) (hlen:l.length+s.size<=140737488355328) (hBw:B<=w.heap.size) :
  Calls Tryz.prog 16 #[.pointer (some ⟨b,0,none⟩),.string s] w fun e w'=>e=.returned (.tuple #[.int .i64 s.size,.nilIface])/\Lib.IsBuilderF 45 5 B b (Lib.byteCells (l++BL s)) w'/\Below B w w'/\Lib.OthersKept 5 (some b) w w' :=
 (Any.Builder_WriteString_k Tryz.lw Tryz.extra_lw B b (Lib.byteCells l) s w h (by rw [Lib.byteCells_length];exact hlen) hBw).mono fun _ _ ⟨he,h1,h2,h3⟩=>⟨he,.inr (by
  have e:Lib.byteCells (l++BL s)=Lib.byteCells l++Lib.strCells s:=by simp [Lib.byteCells,Lib.strCells,BL]
  rw [e];exact h1),h2,h3⟩
theorem kept_blk {e:TypeId} {b g:Nat} {w w':World} {cs:Array Value} {t:TypeId} (h:Lib.OthersKept e (some b) w w') (hg:Blk w g cs t) (hb:g≠b) (ht:t≠e):Blk w' g cs t :=
 h g _ hg (fun h=>hb (Option.some.inj h)) (fun c fz h=>ht (by cases h;rfl))
theorem bstring_any (B b:Nat) (l:List UInt8) (w:World) (h:Lib.IsBuilderF 45 5 B b (Lib.byteCells l) w) (hBw:B<=w.heap.size) :
  Calls Tryz.prog 19 #[.pointer (some ⟨b,0,none⟩)] w fun e w'=>e=.returned (.string (T l))/\Below B w w' :=
 (Any.Builder_String_any_k Tryz.ls Tryz.extra_ls B b l w h hBw).mono fun _ _ ⟨he,_,h2,_⟩=>⟨he,h2⟩
theorem parts_at {w:World} {pv:List (PK × PV)} {v:Value} (h:Sl w 135 4 v pv.length (pv.flatMap (fun x=>x.2.cells x.1.fills))) {o:Option Addr} {c:Nat} (hv:v=.slice o pv.length c) (k:Nat) (hk:k<pv.length) :
  ∃ g,o=some ⟨g,0,none⟩/\g<w.heap.size/\w.cell? ⟨g,k*4,none⟩=some (.int .i64 pv[k].1.fills)/\w.cell? ⟨g,k*4+1,none⟩=some (.func pv[k].2.f1 #[] pv[k].2.c1) /\
   w.cell? ⟨g,k*4+2,none⟩=some (.func (.func pv[k].2.k2) #[] pv[k].2.c2)/\w.cell? ⟨g,k*4+3,none⟩=some (.func (.func pv[k].2.k3) #[] pv[k].2.c3):=by
 obtain ⟨o',c',hv',h2⟩:=h.view;rw [hv] at hv'
 cases hv'
 obtain ⟨g,cs,rfl,hb,ht,_⟩:=h2 (by omega)
 refine ⟨g,rfl,hb.lt,?_,?_,?_,?_⟩
 all_goals rw [take_cell hb ht _ (by omega)]
 ·exact (flat_get (fun x:PK × PV=>x.2.cells x.1.fills) 4 (fun _=>rfl) pv k 0 hk (by omega)).trans rfl
 ·exact (flat_get (fun x:PK × PV=>x.2.cells x.1.fills) 4 (fun _=>rfl) pv k 1 hk (by omega)).trans rfl
 ·exact (flat_get (fun x:PK × PV=>x.2.cells x.1.fills) 4 (fun _=>rfl) pv k 2 hk (by omega)).trans rfl
 ·exact (flat_get (fun x:PK × PV=>x.2.cells x.1.fills) 4 (fun _=>rfl) pv k 3 hk (by omega)).trans rfl
def accP (x:PIns) (word:List UInt8) (ps:List PK) (k:Nat):List UInt8:=word++(if k=0 then [] else [32])++(ps.take k).flatMap (PK.write x)
theorem accP_zero (x:PIns) (word:List UInt8) (ps:List PK):accP x word ps 0=word:=by simp [accP]
theorem accP_first (x:PIns) (word:List UInt8) (ps:List PK) (h:0<ps.length):accP x word ps 1=(word++([32]:List UInt8))++PK.write x ps[0]:=by
 match ps,h with
 | p::ps,_=>simp [accP]
theorem accP_step (x:PIns) (word:List UInt8) (ps:List PK) (k:Nat) (h:k<ps.length) (h0:k≠0):accP x word ps (k+1)=accP x word ps k++PK.write x ps[k]:=by
 unfold accP
 rw [if_neg h0,if_neg (by omega),List.take_succ_eq_append_getElem h,List.flatMap_append]
 simp [List.append_assoc]
theorem accP_end (x:PIns) (word:List UInt8) (ps:List PK):accP x word ps ps.length=word++(if ps=[] then [] else [32])++ps.flatMap (PK.write x):=by
 simp [accP]
theorem accP_len (x:PIns) (hx:x.Fit) (word:List UInt8):∀ (ps:List PK) (k:Nat),(accP x word ps k).length<=word.length+1+310*ps.length:=by
 intro ps k
 have h:∀ l:List PK,(l.flatMap (PK.write x)).length<=310*l.length:=by
  intro l
  induction l with
  | nil=>simp
  | cons p l ih=>have:=pwrite_len x hx p;simp only [List.flatMap_cons,List.length_append,List.length_cons];omega
 have h1:=h (ps.take k)
 have h2:(ps.take k).length<=ps.length:=by simp;omega
 have h3:(if k=0 then ([]:List UInt8) else [32]).length<=1:=by split<;>simp
 simp only [accP,List.length_append]
 omega
end Go.Proofs.YtnhcaifopaeohaaGreatDoor
