import Derived.Test.YtnhcaifopaeohaaGreatDoorM10
import Derived.Test.YtnhcaifopaeohaaGreatDoorM06
import Derived.Laws.Tables
import Derived.Test.YtnhcaifopaeohaaGreatDoorM05
namespace Go.Proofs.YtnhcaifopaeohaaGreatDoor
open Go.RowKit
set_option linter.all false
structure WLoop (w:World) (X:Array Value) (pv:List (PK × PV)) (word:List UInt8) (wt acc:Nat->List UInt8):Prop where
 e0:acc 0=word
 eF:0<pv.length->acc 1=(word++([32]:List UInt8))++wt 0
 eS:∀ k,k<pv.length->k≠0->acc (k+1)=acc k++wt k
 eL:∀ k,(acc k).length<=3500
 eW:∀ k,k<pv.length->(wt k).length<=310
 call:∀ k (hk:k<pv.length) w',Mods Nil' w w'->Calls Tryz.prog pv[k].2.k2 (#[.agg X]++pv[k].2.c2) w' fun e w''=>e=.returned (.string (T (wt k)))/\Mods Nil' w' w''
 en:∀ k (hk:k<pv.length),Ent pv[k].2.k2
theorem wloop (x:PIns) (hx:x.Fit) (w:World) (hE:Env w) (pv:List (PK × PV)) (hok:∀ y∈pv,y.2.Ok w y.1) (word:List UInt8) (hwl:word.length<=100) (hpl:pv.length<=10) :
  WLoop w x.cells pv word (fun k=>if h:k<pv.length then PK.write x pv[k].1 else []) (accP x word (pv.map (·.1))) where
 e0:=accP_zero ..
 eF:=fun h=>by
  rw [accP_first x word _ (by simpa using h),dif_pos h];simp
 eS:=fun k h h0=>by
  rw [accP_step x word _ k (by simpa using h) h0,dif_pos h];simp
 eL:=fun k=>by
  have:=accP_len x hx word (pv.map (·.1)) k
  rw [List.length_map] at this
  omega
 eW:=fun k h=>by
  simp only [dif_pos h];exact pwrite_len x hx _
 call:=fun k hk w' m=>by
  have:=(hok pv[k] (List.getElem_mem hk)).wr w' x m.kp (hE.mods m) hx
  simpa only [dif_pos hk] using this
 en:=fun k hk=>(hok pv[k] (List.getElem_mem hk)).e2
theorem Mods.trans_below {w0 w wr:World} {B:Nat} (m:Mods Nil' w0 w) (h:Below B w wr) (hB:w0.heap.size<=B):Mods Nil' w0 wr :=
 ⟨h.os.trans m.os,h.tape.trans m.tape,h.output.trans m.output,Nat.le_trans m.size h.size,fun k hk _=>(h.block k (Nat.lt_of_lt_of_le hk hB)).trans (m.block k hk id)⟩
structure BAbove (w:World) (B b:Nat) (l:List UInt8) (wr:World):Prop where
 bu:Lib.IsBuilderF 45 5 B b (Lib.byteCells l) wr
 be:Below B w wr
 si:B<=wr.heap.size
theorem BAbove.mods {w wr wr':World} {B b:Nat} {l:List UInt8} (h:BAbove w B b l wr) (m:Mods Nil' wr wr'):BAbove w B b l wr' :=
 ⟨builder_mods h.bu m,⟨m.os.trans h.be.os,m.tape.trans h.be.tape,m.output.trans h.be.output,Nat.le_trans h.be.size m.size,fun k hk=>(m.block k (Nat.lt_of_lt_of_le hk h.si) id).trans (h.be.block k hk)⟩,Nat.le_trans h.si m.size⟩
theorem BAbove.write {w wr:World} {B b:Nat} {l:List UInt8} (h:BAbove w B b l wr) (s:ByteArray) (hl:l.length+s.size<=140737488355328) :
  Calls Tryz.prog 16 #[.pointer (some ⟨b,0,none⟩),.string s] wr fun e w'=>e=.returned (.tuple #[.int .i64 s.size,.nilIface])/\BAbove w B b (l++BL s) w'/\Lib.OthersKept 5 (some b) wr w' :=
 (bwrite_any B b l s wr h.bu hl h.si).mono fun _ _ ⟨he,h1,h2,h3⟩=>⟨he,⟨h1,h.be.trans h2,Nat.le_trans h.si h2.size⟩,h3⟩
theorem BAbove.string {w wr:World} {B b:Nat} {l:List UInt8} (h:BAbove w B b l wr) :
  Calls Tryz.prog 19 #[.pointer (some ⟨b,0,none⟩)] wr fun e w'=>e=.returned (.string (T l))/\Below B w w' :=
 (bstring_any B b l wr h.bu h.si).mono fun _ _ ⟨he,h2⟩=>⟨he,h.be.trans h2⟩
theorem BAbove.lt {w wr:World} {B b:Nat} {l:List UInt8} (h:BAbove w B b l wr):b<wr.heap.size:=by
 rcases h.bu with ⟨_,_,h,_⟩ | ⟨_,_,h,_⟩
 ·exact (Array.getElem?_eq_some_iff.1 h).1
 ·exact (Array.getElem?_eq_some_iff.1 h).1
theorem BAbove.blk {w wr:World} {B b:Nat} {l:List UInt8} (h:BAbove w B b l wr) {g:Nat} {cs:Array Value} {t:TypeId} (hg:Blk w g cs t) (hb:g<B):Blk wr g cs t:=(h.be.block g hb).trans hg
theorem BAbove.cell {w wr:World} {B b:Nat} {l:List UInt8} (h:BAbove w B b l wr) {a:Addr} (hb:a.block<B):wr.cell? a=w.cell? a:=by
 simp only [World.cell?,h.be.block _ hb]
theorem BAbove.mods0 {w0 w wr:World} {B b:Nat} {l:List UInt8} (h:BAbove w B b l wr) (m:Mods Nil' w0 w) (hB:w0.heap.size<=B):Mods Nil' w0 wr :=
 m.trans_below h.be hB
theorem BL_one:(BL (T [32])).length=1:=rfl
theorem BAbove.new (w:World):BAbove w w.heap.size w.heap.size [] (w.alloc (.cells #[.pointer none,.slice none 0 0] 45)) :=
 ⟨builder_new w,((Mods.refl Nil' w).alloc _).below,by simp⟩
set_option maxRecDepth 100000 in
set_option maxHeartbeats 1000000 in
theorem write1_go (op:Value) (d s jump num high:Int) (label name:ByteArray) (w:World) (bw bp:Nat) (word:List UInt8) (o:Option Addr) (c:Nat) (pv:List (PK × PV)) (hw:Blk w bw #[.string (T word)] 9) (hp:Blk w bp #[.slice o pv.length c] 137)
  (hS:Sl w 135 4 (.slice o pv.length c) pv.length (pv.flatMap (fun x=>x.2.cells x.1.fills))) (hwl:word.length<=100) (hpl:pv.length<=10) (wt acc:Nat->List UInt8) (hL:WLoop w #[op,.int .u8 d,.int .u8 s,.int .i16 jump,.int .i32 num,.int .i32 high,.string label,.string name] pv word wt acc) :
  Calls Tryz.prog 232 #[.agg #[op,.int .u8 d,.int .u8 s,.int .i16 jump,.int .i32 num,.int .i32 high,.string label,.string name],.pointer (some ⟨bw,0,none⟩),.pointer (some ⟨bp,0,none⟩)] w fun e w'=>e=.returned (.string (T (acc pv.length)))/\Mods Nil' w w':=by
 have HL:Hid _:=hL
 clear hL
 have hs1:(w.alloc (.cells #[op,.int .u8 d,.int .u8 s,.int .i16 jump,.int .i32 num,.int .i32 high,.string label,.string name] 84)).heap.size=w.heap.size+1:=by simp
 have M1:Mods Nil' w (w.alloc (.cells #[op,.int .u8 d,.int .u8 s,.int .i16 jump,.int .i32 num,.int .i32 high,.string label,.string name] 84)):=(Mods.refl _ _).alloc _
 have HI:Hid (Blk (w.alloc (.cells #[op,.int .u8 d,.int .u8 s,.int .i16 jump,.int .i32 num,.int .i32 high,.string label,.string name] 84)) w.heap.size #[op,.int .u8 d,.int .u8 s,.int .i16 jump,.int .i32 num,.int .i32 high,.string label,.string name] 84):=Blk.new w #[op,.int .u8 d,.int .u8 s,.int .i16 jump,.int .i32 num,.int .i32 high,.string label,.string name] 84
 have hw':=hw.mods M1 id
 have HP:Hid (Blk (w.alloc (.cells #[op,.int .u8 d,.int .u8 s,.int .i16 jump,.int .i32 num,.int .i32 high,.string label,.string name] 84)) bp #[.slice o pv.length c] 137):=hp.mods M1 id
 have HS:Hid (Sl (w.alloc (.cells #[op,.int .u8 d,.int .u8 s,.int .i16 jump,.int .i32 num,.int .i32 high,.string label,.string name] 84)) 135 4 (.slice o pv.length c) pv.length (pv.flatMap (fun x=>x.2.cells x.1.fills))):=hS.mods M1 (fun _ _=>id)
 have hb:=BAbove.new (w.alloc (.cells #[op,.int .u8 d,.int .u8 s,.int .i16 jump,.int .i32 num,.int .i32 high,.string label,.string name] 84))
 rw [hs1] at hb;have HB:=hid hb
 have cw:((w.alloc (.cells #[op,.int .u8 d,.int .u8 s,.int .i16 jump,.int .i32 num,.int .i32 high,.string label,.string name] 84)).alloc (.cells #[.pointer none,.slice none 0 0] 45)).cell? ⟨bw,0,none⟩=some (.string (T word)):=(hw'.alloc _).cell 0
 have HM:=hid M1;clear hS hw hp hw' M1 hb
 go_enter Tryz.func232,Tryz.ntmps232
 go_wp2_with fail
 refine (HB.out.write (T word) (by rw [T_size];simp;omega)).mono ?_
 rintro e w2 ⟨rfl,hb2,_⟩;generalize w.alloc (.cells #[op,.int .u8 d,.int .u8 s,.int .i16 jump,.int .i32 num,.int .i32 high,.string label,.string name] 84)=w1 at *
 have e0:=HL.out.e0
 have HB2:Hid (BAbove w1 (w.heap.size+1) (w.heap.size+1) (acc 0) w2):=by rw [Hid,e0];exact hb2
 clear hb2 cw HB e0
 have hps:=HP.out.lt
 have cp:w2.cell? ⟨bp,0,none⟩=some (.slice o pv.length c):=(HB2.out.cell (by rw [<- hs1];exact hps)).trans (HP.out.cell 0)
 go_wp2_with fail
 go_loopw [12] (fun i wl=>∃ k:Nat,k<=pv.length/\i=.int .i64 k/\BAbove w1 (w.heap.size+1) (w.heap.size+1) (acc k) wl) (fun i _=>pv.length - (intOf i).toNat)
 case atStart=>exact ⟨0,Nat.zero_le _,rfl,HB2.out⟩
 case round =>
  obtain ⟨k,hk,rfl,hb⟩:=hrel;have HBk:=hid hb;clear hb
  by_cases hlt:k<pv.length
  ·have HC:Hid (∀ w',Mods Nil' w w'->Calls Tryz.prog pv[k].2.k2 (#[.agg #[op,.int .u8 d,.int .u8 s,.int .i16 jump,.int .i32 num,.int .i32 high,.string label,.string name]]++pv[k].2.c2) w' fun e w''=>e=.returned (.string (T (wt k)))/\Mods Nil' w' w''):=HL.out.call k hlt
   have hen:=HL.out.en k hlt
   obtain ⟨g,rfl,hg,p0,p1,p2,p3⟩:=parts_at HS.out rfl k hlt
   have eW:=HL.out.eW k hlt
   have eL:=HL.out.eL k
   have q0:=(HBk.out.cell (a:=⟨g,k*4,none⟩) (by rw [<- hs1];exact hg)).trans p0
   have q1:=(HBk.out.cell (a:=⟨g,k*4+1,none⟩) (by rw [<- hs1];exact hg)).trans p1
   have q2:=(HBk.out.cell (a:=⟨g,k*4+2,none⟩) (by rw [<- hs1];exact hg)).trans p2
   have q3:=(HBk.out.cell (a:=⟨g,k*4+3,none⟩) (by rw [<- hs1];exact hg)).trans p3
   clear p0 p1 p2 p3;generalize pv[k]=y at *;obtain ⟨pk,f1,c1,k2,c2,k3,c3⟩:=y
   simp only at HC q0 q1 q2 q3 hen
   unfold Ent at hen
   have hIr:=HBk.out.blk HI.out (Nat.lt_succ_self _)
   have hsr:=HBk.out.lt
   have hpn:=Blk.new wr #[.int .i64 pk.fills,.func f1 #[] c1,.func (.func k2) #[] c2,.func (.func k3) #[] c3] 135
   have mN:Mods Nil' wr (wr.alloc (.cells #[.int .i64 pk.fills,.func f1 #[] c1,.func (.func k2) #[] c2,.func (.func k3) #[] c3] 135)):=(Mods.refl _ _).alloc _
   have HBn:Hid (BAbove w1 (w.heap.size+1) (w.heap.size+1) (acc k) (wr.alloc (.cells #[.int .i64 pk.fills,.func f1 #[] c1,.func (.func k2) #[] c2,.func (.func k3) #[] c3] 135))):=HBk.out.mods mN
   have hIn:=hIr.mods mN id
   have HI2:=hid hIn;have HN:=hid hpn;clear hIr mN hpn
   by_cases hk0:k=0
   ·subst hk0;go_wp2_with fail
    refine (HBn.out.write (T [32]) (by rw [T_size];simp;omega)).mono ?_
    rintro e w3 ⟨rfl,hb3,hk3⟩
    have hI3:=hb3.blk HI.out (Nat.lt_succ_self _)
    have hN3:=kept_blk hk3 HN.out (by omega) (by decide)
    have HB3:Hid _:=hb3
    clear hb3 hk3
    have hM3:Hid (Mods Nil' w w3):=HB3.out.mods0 HM.out (Nat.le_succ _)
    obtain ⟨i0,i1,i2,i3,i4,i5,i6,i7⟩:=hI3.cells8
    have n2:=hN3.cell 2
    simp at n2
    go_wp2_with fail
    refine (HC.out _ hM3.out).mono ?_
    rintro e w4 ⟨rfl,m4⟩
    have HB4:Hid _:=HB3.out.mods m4
    clear i0 i1 i2 i3 i4 i5 i6 i7 n2;go_wp2_with fail
    refine (BAbove.write HB4.out (T (wt 0)) (by rw [T_size,List.length_append,BL_one];omega)).mono ?_
    rintro e w5 ⟨rfl,hb5,_⟩
    have HB5:Hid (BAbove w1 (w.heap.size+1) (w.heap.size+1) (acc (0+1)) w5):=by
     rw [Hid,HL.out.eF (by omega),<- HL.out.e0]
     simpa [BL,T] using hb5
    clear hb5;go_wp2_with fail
    go_roundw
    case rel=>exact ⟨0+1,by omega,by go_num,HB5.out⟩
    case measure=>simp [intOf];omega
   ·have hq0:decide ((k:Int)=0)=false:=by simp;omega
    have hM3:Hid (Mods Nil' w (wr.alloc (.cells #[.int .i64 pk.fills,.func f1 #[] c1,.func (.func k2) #[] c2,.func (.func k3) #[] c3] 135))):=HBn.out.mods0 HM.out (Nat.le_succ _)
    obtain ⟨i0,i1,i2,i3,i4,i5,i6,i7⟩:=HI2.out.cells8
    have n2:=HN.out.cell 2
    simp at n2
    go_wp2_with fail
    refine (HC.out _ hM3.out).mono ?_
    rintro e w4 ⟨rfl,m4⟩
    have HB4:Hid _:=HBn.out.mods m4
    clear i0 i1 i2 i3 i4 i5 i6 i7 n2;go_wp2_with fail
    refine (BAbove.write HB4.out (T (wt k)) (by rw [T_size];omega)).mono ?_
    rintro e w5 ⟨rfl,hb5,_⟩
    have HB5:Hid (BAbove w1 (w.heap.size+1) (w.heap.size+1) (acc (k+1)) w5):=by
     rw [Hid,HL.out.eS k hlt hk0];exact hb5
    clear hb5;go_wp2_with fail
    go_roundw
    case rel=>exact ⟨k+1,by omega,by go_num,HB5.out⟩
    case measure=>simp [intOf];omega
  ·have hke:k=pv.length:=by omega
   subst hke;go_wp2_with fail;refine HBk.out.string.mono ?_;rintro e w3 ⟨rfl,h3⟩;go_wp2_with fail;go_ret
   exact ⟨rfl,HM.out.trans_below h3 (Nat.le_succ _)⟩
theorem write1_any (x:PIns) (hx:x.Fit) (w:World) (hE:Env w) (bw bp:Nat) (word:List UInt8) (v:Value) (ps:List PK) (hw:Blk w bw #[.string (T word)] 9) (hp:Blk w bp #[v] 137) (hP:PartsAt w v ps) (hwl:word.length<=100) (hpl:ps.length<=10) :
  Calls Tryz.prog 232 #[.agg x.cells,.pointer (some ⟨bw,0,none⟩),.pointer (some ⟨bp,0,none⟩)] w fun e w'=>e=.returned (.string (T (word++(if ps=[] then [] else [32])++ps.flatMap (PK.write x))))/\Mods Nil' w w':=by
 obtain ⟨pv,rfl,hok,hS⟩:=hP.ex;obtain ⟨o,c,rfl,_⟩:=hS.view;rw [List.length_map] at hpl
 have h:=write1_go x.op x.d x.s x.jump x.num x.high x.label x.name w bw bp word o c pv hw hp hS hwl hpl _ _ (wloop x hx w hE pv hok word hwl hpl)
 have e:=accP_end x word (pv.map (·.1))
 rw [List.length_map] at e;rw [<- e];exact h
theorem and_test (f b:Nat) (hf:f<16) (hb:b<16):bits .and .i64 (f:Int) (b:Int)=((f &&& b:Nat):Int) :=
 (bits_nat .i64 4 (by decide) (fun n h0 h1=>by rw [IntKind.wrap_i64];omega) f b (by omega) (by omega)).1
theorem or_fills (f b:Nat) (hf:f<16) (hb:b<16):bits .or .i64 (f:Int) (b:Int)=((f ||| b:Nat):Int) :=
 (bits_nat .i64 4 (by decide) (fun n h0 h1=>by rw [IntKind.wrap_i64];omega) f b (by omega) (by omega)).2
set_option maxRecDepth 100000 in
set_option maxHeartbeats 1000000 in
theorem others_any (x:PIns) (f:Nat) (hf:f<16) (w:World) :
  Calls Tryz.prog 199 #[.agg x.cells,.int .i64 f] w fun e w'=>e=.returned (.bool (othersB x f))/\Mods Nil' w w':=by
 obtain ⟨op,d,s,jump,num,high,label,name⟩:=x
 unfold PIns.cells at *
 simp only at *
 have a0:bits .and .i64 (f:Int) 1=((f % 2:Nat):Int):=by rw [<- Nat.and_one_is_mod];exact and_test f 1 hf (by omega)
 have a1:bits .and .i64 (f:Int) 2=((f &&& 2:Nat):Int):=and_test f 2 hf (by omega)
 have a2:bits .and .i64 (f:Int) 4=((f &&& 4:Nat):Int):=and_test f 4 hf (by omega)
 have a3:bits .and .i64 (f:Int) 8=((f &&& 8:Nat):Int):=and_test f 8 hf (by omega)
 go_enter Tryz.func199,Tryz.ntmps199
 go_wp2_with fail
 all_goals (go_ret;refine ⟨?_,(Mods.refl _ _).alloc _⟩)
 all_goals first
  | (simp [othersB, *];done)
  | (simp [othersB, *];rfl)
  | (have hz:f % 2=0:=(by omega);simp [othersB, *];done)
  | (have hz:f % 2=0:=(by omega);simp [othersB, *];rfl)
  | (have hz:f % 2≠0:=(by omega);simp [othersB, *];done)
  | (have hz:f % 2≠0:=(by omega);simp [othersB, *];rfl)
theorem fills_lt (p:PK):p.fills<16:=by unfold PK.fills;split<;>decide
theorem filled_lt (ps:List PK):filledOf ps<16:=by
 have h:∀ (l:List PK) (f:Nat),f<16->l.foldl (fun f p=>f ||| p.fills) f<16:=by
  intro l
  induction l with
  | nil=>intro f h;exact h
  | cons p l ih=>intro f h;exact ih _ (Nat.or_lt_two_pow (n:=4) h (fills_lt p))
 exact h ps 0 (by decide)
structure NLoop (w:World) (X:Array Value) (pv:List (PK × PV)) (ri:Nat->Bool):Prop where
 call:∀ k (hk:k<pv.length) w',Mods Nil' w w'->Calls Tryz.prog pv[k].2.k3 (#[.agg X]++pv[k].2.c3) w' fun e w''=>e=.returned (.bool (ri k))/\Mods Nil' w' w''
 en:∀ k (hk:k<pv.length),Ent pv[k].2.k3
theorem nloop (x:PIns) (hx:x.Fit) (w:World) (pv:List (PK × PV)) (hok:∀ y∈pv,y.2.Ok w y.1) :
  NLoop w x.cells pv (fun k=>if h:k<pv.length then PK.right x pv[k].1 else false) where
 call:=fun k hk w' m=>by
  have:=(hok pv[k] (List.getElem_mem hk)).ri w' x m.kp hx
  simpa only [dif_pos hk] using this
 en:=fun k hk=>(hok pv[k] (List.getElem_mem hk)).e3
set_option maxRecDepth 100000 in
set_option maxHeartbeats 1000000 in
theorem need1_go (op:Value) (d s:Nat) (jump num high:Int) (label name:ByteArray) (w:World) (b1 b2 f:Nat) (hf:f<16) (o:Option Addr) (c:Nat) (pv:List (PK × PV)) (hp:Blk w b1 #[.slice o pv.length c] 137) (hf2:Blk w b2 #[.int .i64 f] 133)
  (hS:Sl w 135 4 (.slice o pv.length c) pv.length (pv.flatMap (fun x=>x.2.cells x.1.fills))) (hpl:pv.length<=10) (ri:Nat->Bool) (hL:NLoop w #[op,.int .u8 d,.int .u8 s,.int .i16 jump,.int .i32 num,.int .i32 high,.string label,.string name] pv ri) :
  Calls Tryz.prog 233 #[.agg #[op,.int .u8 d,.int .u8 s,.int .i16 jump,.int .i32 num,.int .i32 high,.string label,.string name],.pointer (some ⟨b1,0,none⟩),.pointer (some ⟨b2,0,none⟩)] w fun e w' =>
   e=.returned (.bool ((List.range pv.length).all ri&&othersB ⟨op,d,s,jump,num,high,label,name⟩ f))/\Mods Nil' w w':=by
 have HL:=hid hL;clear hL
 have HO:=others_any ⟨op,d,s,jump,num,high,label,name⟩ f hf
 generalize othersB ⟨op,d,s,jump,num,high,label,name⟩ f=ob at *;unfold PIns.cells at HO
 simp only at HO
 have HO':Hid _:=HO
 clear HO
 have m1:Mods Nil' w (w.alloc (.cells #[op,.int .u8 d,.int .u8 s,.int .i16 jump,.int .i32 num,.int .i32 high,.string label,.string name] 84)):=(Mods.refl _ _).alloc _
 have c1:=(hp.mods m1 id).cell 0
 have HI:Hid (Blk (w.alloc (.cells #[op,.int .u8 d,.int .u8 s,.int .i16 jump,.int .i32 num,.int .i32 high,.string label,.string name] 84)) w.heap.size #[op,.int .u8 d,.int .u8 s,.int .i16 jump,.int .i32 num,.int .i32 high,.string label,.string name] 84):=Blk.new ..
 have HM1:Hid _:=m1
 have HF:=hid hf2;have HS:=hid hS
 simp at c1
 clear m1 hf2 hS hp
 go_enter Tryz.func233,Tryz.ntmps233
 go_wp2_with fail
 go_loopw [9] (fun i wl=>∃ k:Nat,k<=pv.length/\i=.int .i64 k/\Mods Nil' (w.alloc (.cells #[op,.int .u8 d,.int .u8 s,.int .i16 jump,.int .i32 num,.int .i32 high,.string label,.string name] 84)) wl/\(List.range k).all ri=true) (fun i _=>pv.length - (intOf i).toNat)
 case atStart=>exact ⟨0,Nat.zero_le _,rfl,Mods.refl _ _,rfl⟩
 case round =>
  obtain ⟨k,hk,rfl,m2,hr⟩:=hrel;have HR:=hid hr
  have HM2:Hid (Mods Nil' w wr):=HM1.out.trans m2
  have HI2:Hid (Blk wr w.heap.size #[op,.int .u8 d,.int .u8 s,.int .i16 jump,.int .i32 num,.int .i32 high,.string label,.string name] 84):=HI.out.mods m2 id
  clear hr
  by_cases hlt:k<pv.length
  ·have HC:Hid (∀ w',Mods Nil' w w'->Calls Tryz.prog pv[k].2.k3 (#[.agg #[op,.int .u8 d,.int .u8 s,.int .i16 jump,.int .i32 num,.int .i32 high,.string label,.string name]]++pv[k].2.c3) w' fun e w''=>e=.returned (.bool (ri k))/\Mods Nil' w' w''):=HL.out.call k hlt
   have hen:=HL.out.en k hlt
   obtain ⟨g,rfl,hg,q0,q1,q2,q3⟩:=parts_at (HS.out.mods HM2.out (fun _ _=>id)) rfl k hlt
   generalize pv[k]=y at *;obtain ⟨pk,f1,c1',k2,c2,k3,c3⟩:=y
   simp only at HC q0 q1 q2 q3 hen
   unfold Ent at hen
   have HM3:Hid (Mods Nil' w (wr.alloc (.cells #[.int .i64 pk.fills,.func f1 #[] c1',.func (.func k2) #[] c2,.func (.func k3) #[] c3] 135))):=HM2.out.alloc _
   have hI3:Blk (wr.alloc (.cells #[.int .i64 pk.fills,.func f1 #[] c1',.func (.func k2) #[] c2,.func (.func k3) #[] c3] 135)) w.heap.size #[op,.int .u8 d,.int .u8 s,.int .i16 jump,.int .i32 num,.int .i32 high,.string label,.string name] 84:=HI2.out.alloc _
   obtain ⟨i0,i1,i2,i3,i4,i5,i6,i7⟩:=hI3.cells8;clear hI3
   have HMr:Hid _:=m2
   clear m2;go_wp2_with fail
   refine (HC.out _ HM3.out).mono ?_
   rintro e w4 ⟨rfl,m4⟩;clear i0 i1 i2 i3 i4 i5 i6 i7
   cases hri:ri k with
   | false =>
    have HA:Hid ((List.range pv.length).all ri=false):=by
     rw [Hid,List.all_eq_false]
     exact ⟨k,List.mem_range.2 hlt,by simp [hri]⟩
    go_wp2_with fail;go_ret;rw [HA.out]
    exact ⟨rfl,HM3.out.trans m4⟩
   | true =>
    go_wp2_with fail
    go_roundw
    case rel=>exact ⟨k+1,by omega,by go_num,(HMr.out.alloc _).trans m4,by rw [List.range_succ,List.all_append,HR.out];simp [hri]⟩
    case measure=>simp [intOf];omega
  ·have hke:k=pv.length:=by omega
   subst hke;obtain ⟨i0,i1,i2,i3,i4,i5,i6,i7⟩:=HI2.out.cells8
   have c2:=(HF.out.mods HM2.out id).cell 0
   simp at c2
   go_wp2_with fail
   refine (HO'.out _).mono ?_
   rintro e w4 ⟨rfl,m4⟩;go_wp2_with fail;go_ret;rw [HR.out]
   exact ⟨rfl,HM2.out.trans m4⟩
theorem all_range (pv:List (PK × PV)) (x:PIns):(List.range pv.length).all (fun k=>if h:k<pv.length then PK.right x pv[k].1 else false)=(pv.map (·.1)).all (PK.right x):=by
 rw [Bool.eq_iff_iff,List.all_eq_true,List.all_eq_true]
 constructor
 ·intro h p hp;obtain ⟨y,hy,rfl⟩:=List.mem_map.1 hp;obtain ⟨k,hk,rfl⟩:=List.getElem_of_mem hy
  have:=h k (List.mem_range.2 hk)
  simpa only [dif_pos hk] using this
 ·intro h k hk
  have hk':=List.mem_range.1 hk
  simp only [dif_pos hk']
  exact h _ (List.mem_map.2 ⟨pv[k],List.getElem_mem hk',rfl⟩)
theorem need1_any (x:PIns) (hx:x.Fit) (w:World) (b1 b2 f:Nat) (v:Value) (ps:List PK) (hf:f<16) (hp:Blk w b1 #[v] 137) (hf2:Blk w b2 #[.int .i64 f] 133) (hP:PartsAt w v ps) (hpl:ps.length<=10) :
  Calls Tryz.prog 233 #[.agg x.cells,.pointer (some ⟨b1,0,none⟩),.pointer (some ⟨b2,0,none⟩)] w fun e w'=>e=.returned (.bool (ps.all (PK.right x)&&othersB x f))/\Mods Nil' w w':=by
 obtain ⟨pv,rfl,hok,hS⟩:=hP.ex;obtain ⟨o,c,rfl,_⟩:=hS.view;rw [List.length_map] at hpl
 have h:=need1_go x.op x.d x.s x.jump x.num x.high x.label x.name w b1 b2 f hf o c pv hp hf2 hS hpl _ (nloop x hx w pv hok)
 rw [all_range] at h;exact h
def foldF (ps:List PK) (k:Nat):Nat:=filledOf (ps.take k)
theorem foldF_step (ps:List PK) (k:Nat) (h:k<ps.length):foldF ps (k+1)=foldF ps k ||| ps[k].fills:=by
 unfold foldF filledOf;rw [List.take_succ_eq_append_getElem h,List.foldl_append]
 rfl
set_option maxRecDepth 100000 in
set_option maxHeartbeats 1000000 in
theorem need_any (w:World) (v:Value) (ps:List PK) (hP:PartsAt w v ps) (hpl:ps.length<=10) :
  Calls Tryz.prog 157 #[v] w fun e w'=>e=.returned (.func (.func 233) #[] #[.pointer (some ⟨w.heap.size,0,none⟩),.pointer (some ⟨w.heap.size+1,0,none⟩)]) /\
   Blk w' w.heap.size #[v] 137/\Blk w' (w.heap.size+1) #[.int .i64 (filledOf ps)] 133/\Mods Nil' w w':=by
 obtain ⟨pv,rfl,hok,hS⟩:=hP.ex;clear hok hP;obtain ⟨o,c,rfl,_⟩:=hS.view;rw [List.length_map] at hpl
 have HE:Hid (foldF (pv.map (·.1)) pv.length=filledOf (pv.map (·.1))):=by
  rw [Hid,foldF,List.take_of_length_le (by simp)]
 have HSt:Hid (∀ k (h:k<pv.length),foldF (pv.map (·.1)) (k+1)=foldF (pv.map (·.1)) k ||| pv[k].1.fills):=fun k h=>by
  have:=foldF_step (pv.map (·.1)) k (by simpa using h)
  simpa using this
 have HLt:Hid (∀ k,foldF (pv.map (·.1)) k<16):=fun k=>filled_lt _
 have H0:Hid (foldF (pv.map (·.1)) 0=0):=rfl
 rw [<- HE.out];clear HE;generalize foldF (pv.map (·.1))=F at *
 have hb1:Blk ((w.alloc (.cells #[.slice o pv.length c] 137)).alloc (.cells #[.int .i64 0] 133)) w.heap.size #[.slice o pv.length c] 137:=(Blk.new w _ _).alloc _
 have hb2:Blk ((w.alloc (.cells #[.slice o pv.length c] 137)).alloc (.cells #[.int .i64 0] 133)) (w.heap.size+1) #[.int .i64 0] 133:=by
  have:=Blk.new (w.alloc (.cells #[.slice o pv.length c] 137)) #[.int .i64 0] 133
  simpa using this
 have HM:Hid (Mods Nil' w ((w.alloc (.cells #[.slice o pv.length c] 137)).alloc (.cells #[.int .i64 0] 133))):=((Mods.refl _ _).alloc _).alloc _
 have HB1:=hid hb1;have HB2:=hid hb2;have HS:=hid hS;clear hS hb1 hb2
 go_enter Tryz.func157,Tryz.ntmps157
 go_wp2_with fail
 go_loopw [8] (fun i wl=>∃ k:Nat,k<=pv.length/\i=.int .i64 k/\Mods Nil' w wl/\Blk wl w.heap.size #[.slice o pv.length c] 137/\Blk wl (w.heap.size+1) #[.int .i64 (F k)] 133) (fun i _=>pv.length - (intOf i).toNat)
 case atStart=>exact ⟨0,Nat.zero_le _,rfl,HM.out,HB1.out,by rw [H0.out];exact HB2.out⟩
 case round =>
  obtain ⟨k,hk,rfl,m,h1,h2⟩:=hrel
  by_cases hlt:k<pv.length
  ·obtain ⟨g,rfl,hg,q0,q1,q2,q3⟩:=parts_at (HS.out.mods m (fun _ _=>id)) rfl k hlt
   have hst:=HSt.out k hlt
   have hl:=HLt.out k
   have hfl:=fills_lt pv[k].1
   have ho:=or_fills (F k) pv[k].1.fills hl hfl
   rw [<- hst] at ho;have HK:=hid hst;clear hst;generalize pv[k]=y at *;obtain ⟨pk,f1,c1,k2,c2,k3,c3⟩:=y
   simp only at q0 q1 q2 q3 ho hfl
   have h1':=h1.alloc (.cells #[.int .i64 pk.fills,.func f1 #[] c1,.func (.func k2) #[] c2,.func (.func k3) #[] c3] 135)
   have h2':=h2.alloc (.cells #[.int .i64 pk.fills,.func f1 #[] c1,.func (.func k2) #[] c2,.func (.func k3) #[] c3] 135)
   have z2:=h2'.cell 0
   have zf:=h2'.frozen 0
   simp at z2
   have HA:=hid h1';have HB:=hid h2';have HMk:=hid m;clear h1 h2 h1' h2' m HK;go_wp2_with fail
   go_roundw
   case rel=>exact ⟨k+1,by omega,by go_num,(HMk.out.alloc _).set (.inr (by simp)) _,HA.out.setOther (by simp) _,HB.out.set 0 _⟩
   case measure=>simp [intOf];omega
  ·have hke:k=pv.length:=by omega
   subst hke;go_wp2_with fail;go_ret
   exact ⟨rfl,h1,h2,m⟩
theorem Sl.fresh {w:World} {g n:Nat} {cs:Array Value} {e:TypeId} (h:Blk w g cs e) (hn:cs.size=n) (hm:n<=maxLen):Sl w e 1 (.slice (some ⟨g,0,none⟩) n n) n cs.toList:=by
 refine ⟨by simp [hn],.inr ⟨g,n,cs,rfl,Nat.zero_le _,h,Nat.le_refl _,hm,by simp [hn],?_⟩⟩
 rw [Nat.mul_one,<- hn]
 exact List.take_of_length_le (by simp)
theorem numL_le {l:List UInt8} {x:RNum × List UInt8} (h:numL l=some x):x.2.length<=l.length:=by
 have h1:=mark_le 45 l
 have h2:=wd_le (markL 45 l)
 unfold numL at h
 split at h
 ·cases h
 ·obtain ⟨v,_,rfl⟩:=Option.map_eq_some_iff.1 h
  show (wdL (markL 45 l)).2.length<=_
  omega
theorem read_le (p:PK) (r r':RSt) (h:p.read r=some r'):r'.rest.length<=r.rest.length:=by
 have hw:=wd_le r.rest
 have hm:∀ c:UInt8,r.mark c=some r'->r'.rest.length<=r.rest.length:=fun c h=>by
  unfold RSt.mark at h
  split at h
  ·cases h;exact mark_le c r.rest
  ·cases h
 have hd:r.regD=some r'->r'.rest.length<=r.rest.length:=fun h=>by
  unfold RSt.regD at h;obtain ⟨v,_,rfl⟩:=Option.map_eq_some_iff.1 h;exact hw.2
 have hs:r.regS=some r'->r'.rest.length<=r.rest.length:=fun h=>by
  unfold RSt.regS at h;obtain ⟨v,_,rfl⟩:=Option.map_eq_some_iff.1 h;exact hw.2
 have hn:r.number=some r'->r'.rest.length<=r.rest.length:=fun h=>by
  unfold RSt.number at h;obtain ⟨v,hv,rfl⟩:=Option.map_eq_some_iff.1 h;exact numL_le hv
 have hl:r.lab=some r'->r'.rest.length<=r.rest.length:=fun h=>by
  unfold RSt.lab at h
  split at h
  ·cases h;exact hw.2
  ·cases h
 have ho:r.off=some r'->r'.rest.length<=r.rest.length:=fun h=>by
  unfold RSt.off at h
  split at h
  ·obtain ⟨v,hv,rfl⟩:=Option.map_eq_some_iff.1 h
   have h1:=mark_le 45 r.rest
   have h2:=wd_le (markL 45 r.rest)
   show (wdL (markL 45 r.rest)).2.length<=_
   omega
  ·split at h
   ·obtain ⟨v,hv,rfl⟩:=Option.map_eq_some_iff.1 h
    have h1:=mark_le 43 r.rest
    have h2:=wd_le (markL 43 r.rest)
    show (wdL (markL 43 r.rest)).2.length<=_
    omega
   ·cases h;exact skip_le r.rest
 have hwd:r.wide=some r'->r'.rest.length<=r.rest.length:=fun h=>by
  unfold RSt.wide at h
  split at h
  ·split at h
   ·cases h
    have h2:=wd_le (wdL r.rest).2
    show (wdL (wdL r.rest).2).2.length<=_
    omega
   ·cases h
  ·obtain ⟨v,hv,rfl⟩:=Option.map_eq_some_iff.1 h;exact numL_le hv
 unfold PK.read at h
 split at h
 ·exact hm _ h
 ·exact hm _ h
 ·exact hm _ h
 ·exact hd h
 ·exact hd h
 ·exact hs h
 ·exact hn h
 ·exact hl h
 ·exact ho h
 ·exact hwd h
 ·cases h
theorem readPs_drop (ps:List PK) (k:Nat) (h:k<ps.length) (r:RSt):readPs (ps.drop k) r=(ps[k].read r).bind (readPs (ps.drop (k+1))):=by
 rw [List.drop_eq_getElem_cons h,readPs]
set_option maxRecDepth 100000 in
set_option maxHeartbeats 2000000 in
theorem read1_any (b bp:Nat) (op:Value) (r:RSt) (v:Value) (ps:List PK) (w:World) (hb:Blk w b (r.cells op) 196) (hp:Blk w bp #[v] 137) (hP:PartsAt w v ps) (hpl:ps.length<=10) (hl:r.rest.length<=1000000) (hE:∀ w',Mods (Only b) w w'->Env w') :
  Calls Tryz.prog 231 #[.pointer (some ⟨b,0,none⟩),.pointer (some ⟨bp,0,none⟩)] w fun e w'=>RdPost w b op (readPs ps r) e w':=by
 obtain ⟨pv,rfl,hok,hS⟩:=hP.ex;obtain ⟨o,c,rfl,_⟩:=hS.view;rw [List.length_map] at hpl;have HOK:=hid hok;have HS:=hid hS;have HB:=hid hb;have HE:=hid hE
 have c0:w.cell? ⟨bp,0,none⟩=some (.slice o pv.length c):=hp.cell 0
 have HNE:Hid (∀ k,(Value.slice o pv.length c).ownBlock=some k->k≠b):=fun k hk e=>by
  subst e
  exact hS.notBlk hb (by decide) hk
 have HB0:=hid hb;clear hok hS hP hb hE hp
 have HPO:Hid (∀ e w',RdPost w b op (readPs (pv.map (·.1)) r) e w'->RdPost w b op (readPs (pv.map (·.1)) r) e w'):=fun _ _ h=>h
 generalize hRP:RdPost w b op (readPs (pv.map (·.1)) r)=RP at *
 have HRP:=hid hRP;clear hRP HPO
 go_enter Tryz.func231,Tryz.ntmps231
 go_wp2_with fail
 go_loopg [8] pv.length (fun q v wx=>∃ (k:Nat) (rk:RSt),k<=pv.length/\v=.int .i64 k/\Blk wx b (rk.cells op) 196/\Mods (Only b) w wx/\readPs ((pv.map (·.1)).drop k) rk=readPs (pv.map (·.1)) r/\rk.rest.length<=1000000/\q=pv.length - k)
 case atStart=>exact ⟨0,r,Nat.zero_le _,rfl,HB.out,Mods.refl _ _,rfl,hl,rfl⟩
 case round =>
  obtain ⟨k,rk,hk,rfl,hbk,hmk,hrk,hlk,rfl⟩:=hrel;have HBk:=hid hbk;have HMk:=hid hmk;have HRk:=hid hrk;clear hbk hmk hrk HB c0
  by_cases hlt:k<pv.length
  ·have HRs:Hid (readPs (pv.map (·.1)) r=(pv[k].1.read rk).bind (readPs ((pv.map (·.1)).drop (k+1)))):=by
    rw [Hid,<- HRk.out,readPs_drop _ k (by simpa using hlt)]
    simp
   have HOx:=HOK.out pv[k] (List.getElem_mem hlt)
   obtain ⟨k1,hf1,hen,hrd⟩:=HOx.rd.ex
   have HSk:=HS.out.mods HMk.out (fun i hi e=>HNE.out i hi e)
   obtain ⟨g,rfl,hg,q0,q1,q2,q3⟩:=parts_at HSk rfl k hlt;rw [hf1] at q1;have HRD:=hid hrd
   have HLE:Hid (∀ r',pv[k].1.read rk=some r'->r'.rest.length<=rk.rest.length):=read_le pv[k].1 rk
   clear HOx hf1 hrd HSk HRk;generalize pv[k]=y at *;obtain ⟨pk,f1,c1,k2,c2,k3,c3⟩:=y
   dsimp only at *
   unfold Ent at hen
   have HB3:Hid (Blk (wr.alloc (.cells #[.int .i64 pk.fills,.func (.func k1) #[] c1,.func (.func k2) #[] c2,.func (.func k3) #[] c3] 135)) b (rk.cells op) 196):=HBk.out.alloc _
   have HM3:Hid (Mods (Only b) w (wr.alloc (.cells #[.int .i64 pk.fills,.func (.func k1) #[] c1,.func (.func k2) #[] c2,.func (.func k3) #[] c3] 135))):=HMk.out.alloc _
   go_wp2_with fail
   refine (HRD.out _ b op rk ?_ ?_ HB3.out hlk).mono ?_
   ·exact Mods.kpRd HB0.out HM3.out
   ·exact fun w'' m=>HE.out _ (HM3.out.trans m)
   intro e w4 hpo;obtain ⟨rfl,hm4,hat⟩:=hpo
   have HM4:Hid (Mods (Only b) w w4):=HM3.out.trans hm4
   have HAT:=hid hat;clear hm4 hat HB3 HM3 HRD HBk HMk q0 q1 q2 q3
   cases hx:pk.read rk with
   | none =>
    have HX:Hid (readPs (pv.map (·.1)) r=none):=by rw [Hid,HRs.out,hx];rfl
    go_wp2_with fail;rw [<- HRP.out]
    exact ⟨by rw [HX.out];rfl,HM4.out,fun r' hr'=>by rw [HX.out] at hr';cases hr'⟩
   | some r' =>
    have HX:Hid (readPs ((pv.map (·.1)).drop (k+1)) r'=readPs (pv.map (·.1)) r):=by rw [Hid,HRs.out,hx];rfl
    have hle:=HLE.out r' hx
    have hB4:=HAT.out r' hx
    go_wp2_with fail
    go_roundg (pv.length - (k+1))
    case measure=>omega
    case rel=>exact ⟨k+1,r',by omega,by go_num,hB4,HM4.out,HX.out,by omega,rfl⟩
  ·have hke:k=pv.length:=by omega
   subst hke
   have HX:Hid (readPs (pv.map (·.1)) r=some rk):=by
    rw [Hid,<- HRk.out,List.drop_eq_nil_of_le (by simp)];rfl
   go_wp2_with fail;rw [<- HRP.out]
   exact ⟨by rw [HX.out];rfl,HMk.out,fun r' hr'=>by rw [HX.out] at hr';cases hr';exact HBk.out⟩
theorem rdp_any (w:World) (v:Value) (hv:∃ o n c,v=.slice o n c):Calls Tryz.prog 155 #[v] w fun e w'=>e=.returned (.func (.func 231) #[] #[.pointer (some ⟨w.heap.size,0,none⟩)])/\Blk w' w.heap.size #[v] 137/\Mods Nil' w w':=by
 obtain ⟨o,n,c,rfl⟩:=hv
 go_enter Tryz.func155,Tryz.ntmps155
 go_wp2_with fail;go_ret
 exact ⟨rfl,Blk.new _ _ _,(Mods.refl _ _).alloc _⟩
theorem wrp_any (w:World) (t:ByteArray) (v:Value) (hv:∃ o n c,v=.slice o n c):Calls Tryz.prog 156 #[.string t,v] w fun e w'=>e=.returned (.func (.func 232) #[] #[.pointer (some ⟨w.heap.size,0,none⟩),.pointer (some ⟨w.heap.size+1,0,none⟩)]) /\
  Blk w' w.heap.size #[.string t] 9/\Blk w' (w.heap.size+1) #[v] 137/\Mods Nil' w w':=by
 obtain ⟨o,n,c,rfl⟩:=hv
 have hb:Blk ((w.alloc (.cells #[.string t] 9)).alloc (.cells #[.slice o n c] 137)) (w.heap.size+1) #[.slice o n c] 137:=by
  have:=Blk.new (w.alloc (.cells #[.string t] 9)) #[.slice o n c] 137
  simpa using this
 go_enter Tryz.func156,Tryz.ntmps156
 go_wp2_with fail;go_ret
 exact ⟨rfl,(Blk.new w _ _).alloc _,hb,((Mods.refl _ _).alloc _).alloc _⟩
structure OpSem (w:World) (v1:Value) (f6:Fn) (c6:Array Value) (k7:FuncId) (c7:Array Value) (k8:FuncId) (c8:Array Value) (o:OpS):Prop where
 wr:∀ w' x,Kp w w'->Env w'->x.Fit->o.needs x=true->Calls Tryz.prog k7 (#[.agg x.cells]++c7) w' fun e w''=>e=.returned (.string (T (o.write x)))/\Mods Nil' w' w''
 nd:∀ w' x,Kp w w'->x.Fit->Calls Tryz.prog k8 (#[.agg x.cells]++c8) w' fun e w''=>e=.returned (.bool (o.needs x))/\Mods Nil' w' w''
 e7:Ent k7
 e8:Ent k8
 ws:Sl w 9 1 v1 o.words.length (o.words.map (fun t=>.string (T t)))
 rd:RdOk w o.read f6 c6
theorem OpSem.kp {w w':World} {v1:Value} {f6:Fn} {c6:Array Value} {k7:FuncId} {c7:Array Value} {k8:FuncId} {c8:Array Value} {o:OpS} (h:OpSem w v1 f6 c6 k7 c7 k8 c8 o) (m:Kp w w'):OpSem w' v1 f6 c6 k7 c7 k8 c8 o :=
 ⟨fun w2 x m2=>h.wr w2 x (m.trans m2),fun w2 x m2=>h.nd w2 x (m.trans m2),h.e7,h.e8,h.ws.kp m (by decide),h.rd.kp m⟩
structure OpAt (w:World) (b:Nat) (o:OpS):Prop where
 ex:∃ (o1:Option Addr) (n1 c1:Nat) (f6:Fn) (c6:Array Value) (k7:FuncId) (c7:Array Value) (k8:FuncId) (c8:Array Value) (f9:Fn) (c9:Array Value),
  Blk w b #[.int .u8 o.code,.slice o1 n1 c1,.int .i64 o.slots,.bool o.jumps,.bool o.ends,.int .i64 o.refers,.func f6 #[] c6,.func (.func k7) #[] c7,.func (.func k8) #[] c8,.func f9 #[] c9] 92/\OpSem w (.slice o1 n1 c1) f6 c6 k7 c7 k8 c8 o
theorem OpAt.mods {w w':World} {b:Nat} {o:OpS} (h:OpAt w b o) (m:Mods Nil' w w'):OpAt w' b o:=by
 obtain ⟨o1,n1,c1,f6,c6,k7,c7,k8,c8,f9,c9,h1,h2⟩:=h.ex
 exact ⟨o1,n1,c1,f6,c6,k7,c7,k8,c8,f9,c9,h1.mods m id,h2.kp m.kp⟩
theorem OpAt.lt {w:World} {b:Nat} {o:OpS} (h:OpAt w b o):b<w.heap.size:=by
 obtain ⟨o1,n1,c1,f6,c6,k7,c7,k8,c8,f9,c9,h1,h2⟩:=h.ex;exact h1.lt
theorem OpAt.opblk {w:World} {b:Nat} {o:OpS} (h:OpAt w b o):OpBlk w b:=by
 obtain ⟨o1,n1,c1,f6,c6,k7,c7,k8,c8,f9,c9,h1,h2⟩:=h.ex
 exact ⟨_,_,_,h1,.inl rfl⟩
theorem Kp.set {w:World} {b:Nat} (h:OpBlk w b) (i:Nat) (v:Value):Kp w (w.setCell ⟨b,i,none⟩ v):=(Mods.refl (OpBlk w) w).set (a:=⟨b,i,none⟩) (.inl h) v
theorem OpAt.kpb {w w':World} {b:Nat} {o:OpS} (h:OpAt w b o) (m:Kp w w') (hb:w'.heap[b]?=w.heap[b]?):OpAt w' b o:=by
 obtain ⟨o1,n1,c1,f6,c6,k7,c7,k8,c8,f9,c9,h1,h2⟩:=h.ex
 exact ⟨o1,n1,c1,f6,c6,k7,c7,k8,c8,f9,c9,hb.trans h1,h2.kp m⟩
theorem OpAt.other {w:World} {b b':Nat} {o:OpS} (h:OpAt w b o) (hb:OpBlk w b') (hne:b'≠b) (i:Nat) (v:Value):OpAt (w.setCell ⟨b',i,none⟩ v) b o:=by
 obtain ⟨o1,n1,c1,f6,c6,k7,c7,k8,c8,f9,c9,h1,h2⟩:=h.ex
 exact ⟨o1,n1,c1,f6,c6,k7,c7,k8,c8,f9,c9,h1.setOther hne _,h2.kp (Kp.set hb i v)⟩
theorem OpAt.jumps {w:World} {b:Nat} {o:OpS} (h:OpAt w b o):OpAt (w.setCell ⟨b,3,none⟩ (.bool true)) b { o with jumps:=true }:=by
 have hk:=Kp.set h.opblk 3 (.bool true)
 obtain ⟨o1,n1,c1,f6,c6,k7,c7,k8,c8,f9,c9,h1,h2⟩:=h.ex
 have h3:=h2.kp hk
 exact ⟨o1,n1,c1,f6,c6,k7,c7,k8,c8,f9,c9,h1.set 3 _,⟨h3.wr,h3.nd,h3.e7,h3.e8,h3.ws,h3.rd⟩⟩
theorem OpAt.ends {w:World} {b:Nat} {o:OpS} (h:OpAt w b o):OpAt (w.setCell ⟨b,4,none⟩ (.bool true)) b { o with ends:=true }:=by
 have hk:=Kp.set h.opblk 4 (.bool true)
 obtain ⟨o1,n1,c1,f6,c6,k7,c7,k8,c8,f9,c9,h1,h2⟩:=h.ex
 have h3:=h2.kp hk
 exact ⟨o1,n1,c1,f6,c6,k7,c7,k8,c8,f9,c9,h1.set 4 _,⟨h3.wr,h3.nd,h3.e7,h3.e8,h3.ws,h3.rd⟩⟩
theorem OpAt.slots {w:World} {b:Nat} {o:OpS} (h:OpAt w b o) (n:Nat):OpAt (w.setCell ⟨b,2,none⟩ (.int .i64 n)) b { o with slots:=n }:=by
 have hk:=Kp.set h.opblk 2 (.int .i64 n)
 obtain ⟨o1,n1,c1,f6,c6,k7,c7,k8,c8,f9,c9,h1,h2⟩:=h.ex
 have h3:=h2.kp hk
 exact ⟨o1,n1,c1,f6,c6,k7,c7,k8,c8,f9,c9,h1.set 2 _,⟨h3.wr,h3.nd,h3.e7,h3.e8,h3.ws,h3.rd⟩⟩
theorem OpAt.refers {w:World} {b:Nat} {o:OpS} (h:OpAt w b o) (n:Nat):OpAt (w.setCell ⟨b,5,none⟩ (.int .i64 n)) b { o with refers:=n }:=by
 have hk:=Kp.set h.opblk 5 (.int .i64 n)
 obtain ⟨o1,n1,c1,f6,c6,k7,c7,k8,c8,f9,c9,h1,h2⟩:=h.ex
 have h3:=h2.kp hk
 exact ⟨o1,n1,c1,f6,c6,k7,c7,k8,c8,f9,c9,h1.set 5 _,⟨h3.wr,h3.nd,h3.e7,h3.e8,h3.ws,h3.rd⟩⟩
theorem row_sem (w:World) (bW br bw bp b1 b2:Nat) (code:Nat) (word:List UInt8) (v:Value) (ps:List PK) (hw:Blk w bw #[.string (T word)] 9) (hp:Blk w bp #[v] 137) (hn:Blk w b1 #[v] 137) (hf:Blk w b2 #[.int .i64 (filledOf ps)] 133)
  (hP:PartsAt w v ps) (hwl:word.length<=100) (hpl:ps.length<=10) (hW:Blk w bW #[.string (T word)] 9) (hR:Blk w br #[v] 137):OpSem w (.slice (some ⟨bW,0,none⟩) 1 1) (.func 231) #[.pointer (some ⟨br,0,none⟩)] 232 #[.pointer (some ⟨bw,0,none⟩),.pointer (some ⟨bp,0,none⟩)] 233 #[.pointer (some ⟨b1,0,none⟩),.pointer (some ⟨b2,0,none⟩)] (rowS code word ps) where
 wr:=fun w' x m hE hx _=>write1_any x hx w' hE bw bp word v ps (hw.kp m (by decide)) (hp.kp m (by decide)) (hP.kp m) hwl hpl
 nd:=fun w' x m hx=>need1_any x hx w' b1 b2 _ v ps (filled_lt ps) (hn.kp m (by decide)) (hf.kp m (by decide)) (hP.kp m) hpl
 e7:=enters_of Tryz.func232 (by kernel_rfl) rfl
 e8:=enters_of Tryz.func233 (by kernel_rfl) rfl
 ws:=Sl.fresh hW rfl (by decide)
 rd:=⟨_,rfl,enters_of Tryz.func231 (by kernel_rfl) rfl,fun w' b op r m hE h hl=>read1_any b br op r v ps w' h (hR.kp m (by decide)) (hP.kp m) hpl hl hE⟩
set_option maxRecDepth 100000 in
set_option maxHeartbeats 1000000 in
theorem row_any (w:World) (code:Nat) (word:List UInt8) (v:Value) (ps:List PK) (f9:Fn) (c9:Array Value) (hP:PartsAt w v ps) (hwl:word.length<=100) (hpl:ps.length<=10) :
  Calls Tryz.prog 71 #[.int .u8 code,.string (T word),v,.func f9 #[] c9] w fun e w'=>∃ b,e=.returned (.pointer (some ⟨b,0,none⟩))/\OpAt w' b (rowS code word ps)/\w.heap.size<=b/\Mods Nil' w w':=by
 have hv:∃ o n c,v=.slice o n c:=by
  obtain ⟨pv,_,_,hS⟩:=hP.ex;obtain ⟨o,c,rfl,_⟩:=hS.view
  exact ⟨_,_,_,rfl⟩
 have HP:=hid hP;clear hP;obtain ⟨o,n,c,rfl⟩:=hv
 have m0:Mods Nil' w (w.alloc (.cells #[.string (T word)] 9)):=(Mods.refl _ _).alloc _
 have HM0:Hid _:=m0
 clear m0
 go_enter Tryz.func71,Tryz.ntmps71
 go_wp2_with fail
 refine (rdp_any _ _ ⟨_,_,_,rfl⟩).mono ?_
 rintro e w1 ⟨rfl,hr1,m1⟩
 have HM1:Hid (Mods Nil' w w1):=HM0.out.trans m1
 have HWB:Hid (Blk w1 w.heap.size #[.string (T word)] 9):=(Blk.new w _ _).mods m1 id
 have HRB:Hid (Blk w1 (w.heap.size+1) #[.slice o n c] 137):=by
  simp at hr1;exact hr1
 clear m1 hr1;go_wp2_with fail
 refine (wrp_any _ _ _ ⟨_,_,_,rfl⟩).mono ?_
 rintro e w2 ⟨rfl,hw2,hp2,m2⟩;have HW2:=hid hw2;have HP2:=hid hp2
 have HWB2:Hid (Blk w2 w.heap.size #[.string (T word)] 9):=HWB.out.mods m2 id
 have HRB2:Hid (Blk w2 (w.heap.size+1) #[.slice o n c] 137):=HRB.out.mods m2 id
 have HM2:Hid (Mods Nil' w w2):=HM1.out.trans m2
 clear m2 hw2 hp2;go_wp2_with fail
 refine (need_any _ _ _ (HP.out.mods HM2.out) hpl).mono ?_
 rintro e w3 ⟨rfl,h1,h2,m3⟩
 have HM3:Hid (Mods Nil' w w3):=HM2.out.trans m3
 have HO:Hid (OpSem w3 (.slice (some ⟨w.heap.size,0,none⟩) 1 1) (.func 231) #[.pointer (some ⟨w.heap.size+1,0,none⟩)] 232 #[.pointer (some ⟨w1.heap.size,0,none⟩),.pointer (some ⟨w1.heap.size+1,0,none⟩)] 233 #[.pointer (some ⟨w2.heap.size,0,none⟩),.pointer (some ⟨w2.heap.size+1,0,none⟩)] (rowS code word ps)) :=
  row_sem w3 _ _ _ _ _ _ code word _ ps (HW2.out.mods m3 id) (HP2.out.mods m3 id) h1 h2 (HP.out.mods HM3.out) hwl hpl (HWB2.out.mods m3 id) (HRB2.out.mods m3 id)
 clear m3 h1 h2;go_wp2_with fail;go_ret
 exact ⟨w3.heap.size,rfl,⟨_,_,_,_,_,_,_,_,_,_,_,Blk.new _ _ _,HO.out.kp ((Mods.refl _ _).alloc _).kp⟩,HM3.out.size,HM3.out.alloc _⟩
def FnPost (w:World) (e:Ending) (w':World):Prop:=∃ f c,e=.returned (.func f #[] c)/\Mods Nil' w w'
set_option maxHeartbeats 400000 in
theorem become_any (w:World) (f1 f2:Fn) (a1 a2:Array Value):Calls Tryz.prog 72 #[.func f1 #[] a1,.func f2 #[] a2] w fun e w'=>FnPost w e w':=by
 go_enter Tryz.func72,Tryz.ntmps72
 go_wp2_with fail;go_ret
 exact ⟨_,_,rfl,by repeat (first | exact Mods.refl _ _ | refine Mods.alloc ?_ _)⟩
set_option maxHeartbeats 400000 in
theorem goOnIf_any (w:World) (f1 f2:Fn) (a1 a2:Array Value):Calls Tryz.prog 82 #[.func f1 #[] a1,.func f2 #[] a2] w fun e w'=>FnPost w e w':=by
 go_enter Tryz.func82,Tryz.ntmps82
 go_wp2_with fail;go_ret
 exact ⟨_,_,rfl,by repeat (first | exact Mods.refl _ _ | refine Mods.alloc ?_ _)⟩
set_option maxHeartbeats 400000 in
theorem mload_any (w:World) (n:Int):Calls Tryz.prog 86 #[.int .i64 n] w fun e w'=>FnPost w e w':=by
 go_enter Tryz.func86,Tryz.ntmps86
 go_wp2_with fail;go_ret
 exact ⟨_,_,rfl,by repeat (first | exact Mods.refl _ _ | refine Mods.alloc ?_ _)⟩
set_option maxHeartbeats 400000 in
theorem mstore_any (w:World) (n:Int) (f1:Fn) (a1:Array Value):Calls Tryz.prog 87 #[.int .i64 n,.func f1 #[] a1] w fun e w'=>FnPost w e w':=by
 go_enter Tryz.func87,Tryz.ntmps87
 go_wp2_with fail;go_ret
 exact ⟨_,_,rfl,by repeat (first | exact Mods.refl _ _ | refine Mods.alloc ?_ _)⟩
set_option maxHeartbeats 400000 in
theorem in64_any (w:World) (f1:Fn) (a1:Array Value):Calls Tryz.prog 75 #[.func f1 #[] a1] w fun e w'=>FnPost w e w':=by
 go_enter Tryz.func75,Tryz.ntmps75
 go_wp2_with fail;go_ret
 exact ⟨_,_,rfl,by repeat (first | exact Mods.refl _ _ | refine Mods.alloc ?_ _)⟩
set_option maxHeartbeats 400000 in
theorem in32_any (w:World) (f1:Fn) (a1:Array Value):Calls Tryz.prog 77 #[.func f1 #[] a1] w fun e w'=>FnPost w e w':=by
 go_enter Tryz.func77,Tryz.ntmps77
 go_wp2_with fail;go_ret
 exact ⟨_,_,rfl,by repeat (first | exact Mods.refl _ _ | refine Mods.alloc ?_ _)⟩
set_option maxHeartbeats 400000 in
theorem unsigned_any (w:World) (f1:Fn) (a1:Array Value):Calls Tryz.prog 175 #[.func f1 #[] a1] w fun e w'=>FnPost w e w':=by
 go_enter Tryz.func175,Tryz.ntmps175
 go_wp2_with fail;go_ret
 exact ⟨_,_,rfl,by repeat (first | exact Mods.refl _ _ | refine Mods.alloc ?_ _)⟩
set_option maxHeartbeats 400000 in
theorem signed_any' (w:World) (f1:Fn) (a1:Array Value):Calls Tryz.prog 180 #[.func f1 #[] a1] w fun e w'=>FnPost w e w':=by
 go_enter Tryz.func180,Tryz.ntmps180
 go_wp2_with fail
 refine (unsigned_any _ _ _).mono ?_
 rintro e w1 ⟨f,c,rfl,m1⟩;go_wp2_with fail;go_ret
 exact ⟨_,_,rfl,((Mods.refl _ _).alloc _).trans m1⟩
set_option maxHeartbeats 400000 in
theorem orOff_any (w:World) (f1:Fn) (a1:Array Value):Calls Tryz.prog 141 #[.func f1 #[] a1] w fun e w'=>FnPost w e w':=by
 go_enter Tryz.func141,Tryz.ntmps141
 go_wp2_with fail
 refine (in64_any _ _ _).mono ?_
 rintro e w1 ⟨f,c,rfl,m1⟩;go_wp2_with fail;go_ret
 exact ⟨_,_,rfl,(((Mods.refl _ _).alloc _).trans m1).alloc _⟩
set_option maxHeartbeats 400000 in
theorem numeric_any (w:World) (t:ByteArray) (f1:Fn) (a1:Array Value):Calls Tryz.prog 144 #[.string t,.func f1 #[] a1] w fun e w'=>∃ f2 c2 f3 c3,e=.returned (.agg #[.string t,.func f2 #[] c2,.func f3 #[] c3])/\Mods Nil' w w':=by
 go_enter Tryz.func144,Tryz.ntmps144
 go_wp2_with fail
 refine (in64_any _ _ _).mono ?_
 rintro e w1 ⟨f2,c2,rfl,m1⟩;go_wp2_with fail
 refine (in32_any _ _ _).mono ?_
 rintro e w2 ⟨f3,c3,rfl,m2⟩
 have hz:=((Blk.new w #[.string ⟨#[]⟩,.nilFunc,.nilFunc] 140).mods m1 id).mods m2 id
 have z0:=hz.cell 0
 have z1:=hz.cell 1
 have z2:=hz.cell 2
 have g0:=hz.frozen 0
 have g1:=hz.frozen 1
 have g2:=hz.frozen 2
 simp at z0 z1 z2
 go_wp2_with fail
 refine bodyPost_ret (results_cell_row Tryz.results144 _ _ w.heap.size 140 _ (0,0) _ rfl (((hz.set 0 _).set 1 _).set 2 _) Tryz.underlying140 rfl (by kernel_rfl)) rfl ⟨_,_,_,_,rfl,?_⟩
 iterate 3 refine Mods.set ?_ (.inr (by simp)) _
 exact (((Mods.refl _ _).alloc _).trans m1).trans m2
structure AV where
 f1:Fn
 c1:Array Value
 f2:Fn
 c2:Array Value
def AV.cells (t:List UInt8) (v:AV):List Value:=[.string (T t),.func v.f1 #[] v.c1,.func v.f2 #[] v.c2]
def arC (avs:List AV):List Value:=(arithW.zip avs).flatMap (fun x=>x.2.cells x.1)
theorem Mods.setRow {S:Nat->Prop} {w w':World} (h:Mods S w w') {g:Nat} (hg:S g\/w.heap.size<=g) (cs:Array Value):Mods S w (w'.setRow g cs) :=
 ⟨h.os,h.tape,h.output,by have:=h.size;simp [World.setRow];omega,fun k hk hs=>by
  rw [setRow_other _ _ _ _ (by rintro rfl;rcases hg with hg | hg;exact hs hg;omega)];exact h.block k hk hs⟩
theorem Blk.setRow {w:World} {g:Nat} {cs:Array Value} {t:TypeId} (h:Blk w g cs t) (cs':Array Value):Blk (w.setRow g cs') g cs' t:=setRow_heap w g cs cs' t (0,0) h
theorem Blk.setRowOther {w:World} {g g':Nat} {cs:Array Value} {t:TypeId} (h:Blk w g cs t) (hne:g≠g') (cs':Array Value):Blk (w.setRow g' cs') g cs t:=(setRow_other w g' g cs' hne).trans h
theorem arC_one (avs:List AV):(arC avs).toArray.all (·.oneCell')=true:=by
 rw [List.all_toArray,List.all_eq_true];intro v hv;obtain ⟨x,_,hx⟩:=List.mem_flatMap.1 hv
 simp only [AV.cells,List.mem_cons,List.not_mem_nil,or_false] at hx
 rcases hx with rfl | rfl | rfl<;>rfl
set_option maxRecDepth 100000 in
set_option maxHeartbeats 2000000 in
theorem ariths_any (w:World):Calls Tryz.prog 70 #[] w fun e w'=>∃ avs:List AV,avs.length=12/\e=.returned (.agg (arC avs).toArray)/\Mods Nil' w w':=by
 go_enter Tryz.func70,Tryz.ntmps70
 go_wp2_with fail
 refine (orOff_any _ _ _).mono ?_
 rintro e w1 ⟨x1a,x1b,rfl,m1⟩
 have M1:=m1
 clear m1;go_wp2_with fail
 refine (in32_any _ _ _).mono ?_
 rintro e w2 ⟨x2a,x2b,rfl,m2⟩
 have M2:=M1.trans m2
 clear m2 M1;go_wp2_with fail
 refine (orOff_any _ _ _).mono ?_
 rintro e w3 ⟨x3a,x3b,rfl,m3⟩
 have M3:=M2.trans m3
 clear m3 M2;go_wp2_with fail
 refine (in32_any _ _ _).mono ?_
 rintro e w4 ⟨x4a,x4b,rfl,m4⟩
 have M4:=M3.trans m4
 clear m4 M3;go_wp2_with fail
 refine (numeric_any _ _ _ _).mono ?_
 rintro e w5 ⟨x5a,x5b,x5c,x5d,rfl,m5⟩
 have M5:=M4.trans m5
 clear m5 M4;go_wp2_with fail
 refine (numeric_any _ _ _ _).mono ?_
 rintro e w6 ⟨x6a,x6b,x6c,x6d,rfl,m6⟩
 have M6:=M5.trans m6
 clear m6 M5;go_wp2_with fail
 refine (numeric_any _ _ _ _).mono ?_
 rintro e w7 ⟨x7a,x7b,x7c,x7d,rfl,m7⟩
 have M7:=M6.trans m7
 clear m7 M6;go_wp2_with fail
 refine (numeric_any _ _ _ _).mono ?_
 rintro e w8 ⟨x8a,x8b,x8c,x8d,rfl,m8⟩
 have M8:=M7.trans m8
 clear m8 M7;go_wp2_with fail
 refine (numeric_any _ _ _ _).mono ?_
 rintro e w9 ⟨x9a,x9b,x9c,x9d,rfl,m9⟩
 have M9:=M8.trans m9
 clear m9 M8;go_wp2_with fail
 refine (numeric_any _ _ _ _).mono ?_
 rintro e w10 ⟨x10a,x10b,x10c,x10d,rfl,m10⟩
 have M10:=M9.trans m10
 clear m10 M9;go_wp2_with fail
 refine (numeric_any _ _ _ _).mono ?_
 rintro e w11 ⟨x11a,x11b,x11c,x11d,rfl,m11⟩
 have M11:=M10.trans m11
 clear m11 M10;go_wp2_with fail
 refine (numeric_any _ _ _ _).mono ?_
 rintro e w12 ⟨x12a,x12b,x12c,x12d,rfl,m12⟩
 have M12:=M11.trans m12
 clear m12 M11;go_wp2_with fail
 refine (numeric_any _ _ _ _).mono ?_
 rintro e w13 ⟨x13a,x13b,x13c,x13d,rfl,m13⟩
 have M13:=M12.trans m13
 clear m13 M12
 have hz:=(Blk.new w _ _).mods M13 id
 have HZ:=hid hz;have HM:=hid M13;clear hz M13
 go_wp2_with (refine wpList_store_row rfl 141 (.tmp 0) (.tmp 17) rfl w.heap.size (arC [⟨.func 139,#[],.func 140,#[]⟩,⟨x1a,x1b,x2a,x2b⟩,⟨x3a,x3b,x4a,x4b⟩,⟨x5a,x5b,x5c,x5d⟩,⟨x6a,x6b,x6c,x6d⟩,⟨x7a,x7b,x7c,x7d⟩,⟨x8a,x8b,x8c,x8d⟩,⟨x9a,x9b,x9c,x9d⟩,⟨x10a,x10b,x10c,x10d⟩,⟨x11a,x11b,x11c,x11d⟩,⟨x12a,x12b,x12c,x12d⟩,⟨x13a,x13b,x13c,x13d⟩]).toArray rfl rfl 141 _ HZ.out (by kernel_rfl) rfl (arC_one _) ?_)
 refine bodyPost_ret (results_cell_row Tryz.results70 _ _ w.heap.size 141 _ (0,0) _ rfl (HZ.out.setRow _) Tryz.underlying141 rfl (by kernel_rfl)) rfl ⟨_,rfl,rfl,?_⟩
 exact (((Mods.refl _ _).alloc _).trans HM.out).setRow (.inr (Nat.le_refl _)) _
structure JV where
 f1:Fn
 c1:Array Value
def JV.cells (t:List UInt8) (v:JV):List Value:=[.string (T t),.func v.f1 #[] v.c1]
def juC (jvs:List JV):List Value:=(jumpW.zip jvs).flatMap (fun x=>x.2.cells x.1)
theorem juC_one (jvs:List JV):(juC jvs).toArray.all (·.oneCell')=true:=by
 rw [List.all_toArray,List.all_eq_true];intro v hv;obtain ⟨x,_,hx⟩:=List.mem_flatMap.1 hv
 simp only [JV.cells,List.mem_cons,List.not_mem_nil,or_false] at hx
 rcases hx with rfl | rfl<;>rfl
set_option maxRecDepth 100000 in
set_option maxHeartbeats 2000000 in
theorem jumps_any (w:World):Calls Tryz.prog 81 #[] w fun e w'=>∃ jvs:List JV,jvs.length=11/\e=.returned (.agg (juC jvs).toArray)/\Mods Nil' w w':=by
 go_enter Tryz.func81,Tryz.ntmps81
 go_wp2_with fail
 refine (unsigned_any _ _ _).mono ?_
 rintro e w1 ⟨x1a,x1b,rfl,m1⟩
 have M1:=m1
 clear m1;go_wp2_with fail
 refine (unsigned_any _ _ _).mono ?_
 rintro e w2 ⟨x2a,x2b,rfl,m2⟩
 have M2:=M1.trans m2
 clear m2 M1;go_wp2_with fail
 refine (unsigned_any _ _ _).mono ?_
 rintro e w3 ⟨x3a,x3b,rfl,m3⟩
 have M3:=M2.trans m3
 clear m3 M2;go_wp2_with fail
 refine (unsigned_any _ _ _).mono ?_
 rintro e w4 ⟨x4a,x4b,rfl,m4⟩
 have M4:=M3.trans m4
 clear m4 M3;go_wp2_with fail
 refine (signed_any' _ _ _).mono ?_
 rintro e w5 ⟨x5a,x5b,rfl,m5⟩
 have M5:=M4.trans m5
 clear m5 M4;go_wp2_with fail
 refine (signed_any' _ _ _).mono ?_
 rintro e w6 ⟨x6a,x6b,rfl,m6⟩
 have M6:=M5.trans m6
 clear m6 M5;go_wp2_with fail
 refine (signed_any' _ _ _).mono ?_
 rintro e w7 ⟨x7a,x7b,rfl,m7⟩
 have M7:=M6.trans m7
 clear m7 M6;go_wp2_with fail
 refine (signed_any' _ _ _).mono ?_
 rintro e w8 ⟨x8a,x8b,rfl,m8⟩
 have M8:=M7.trans m8
 clear m8 M7;go_wp2_with fail
 refine (unsigned_any _ _ _).mono ?_
 rintro e w9 ⟨x9a,x9b,rfl,m9⟩
 have M9:=M8.trans m9
 clear m9 M8
 have hz:=(Blk.new w _ _).mods M9 id
 have HZ:=hid hz;have HM:=hid M9;clear hz M9
 go_wp2_with (refine wpList_store_row rfl 151 (.tmp 0) (.tmp 21) rfl w.heap.size (juC [⟨.func 173,#[]⟩,⟨.func 174,#[]⟩,⟨x1a,x1b⟩,⟨x2a,x2b⟩,⟨x3a,x3b⟩,⟨x4a,x4b⟩,⟨x5a,x5b⟩,⟨x6a,x6b⟩,⟨x7a,x7b⟩,⟨x8a,x8b⟩,⟨x9a,x9b⟩]).toArray rfl rfl 151 _ HZ.out (by kernel_rfl) rfl (juC_one _) ?_)
 refine bodyPost_ret (results_cell_row Tryz.results81 _ _ w.heap.size 151 _ (0,0) _ rfl (HZ.out.setRow _) Tryz.underlying151 rfl (by kernel_rfl)) rfl ⟨_,rfl,rfl,?_⟩
 exact (((Mods.refl _ _).alloc _).trans HM.out).setRow (.inr (Nat.le_refl _)) _
def ptrV (b:Nat):Value:=.pointer (some ⟨b,0,none⟩)
structure OpsIn (base:Nat) (w:World) (v:Value) (bs:List Nat) (os:List OpS):Prop where
 len:bs.length=os.length
 nd:bs.Nodup
 sl:Sl w 79 1 v bs.length (bs.map ptrV)
 at':∀ i (h:i<bs.length) (h':i<os.length),OpAt w bs[i] os[i]
 lo:∀ b∈bs,base<=b
 own:∀ k,v.ownBlock=some k->base<=k
theorem OpsIn.nil (base:Nat) (w:World):OpsIn base w (.slice none 0 0) [] [] :=
 ⟨rfl,List.nodup_nil,Sl.nil _ _ _,fun i h=>absurd h (Nat.not_lt_zero _),fun b h=>(by cases h),fun k h=>(by cases h)⟩
theorem OpsIn.mods {base:Nat} {w w':World} {v:Value} {bs:List Nat} {os:List OpS} (h:OpsIn base w v bs os) (m:Mods Nil' w w'):OpsIn base w' v bs os :=
 ⟨h.len,h.nd,h.sl.mods m (fun _ _=>id),fun i h1 h2=>(h.at' i h1 h2).mods m,h.lo,h.own⟩
theorem OpAt.notOwn {w:World} {b:Nat} {o:OpS} (h:OpAt w b o) {v:Value} {n:Nat} {xs:List Value} (hs:Sl w 79 1 v n xs):v.ownBlock≠some b:=by
 obtain ⟨o1,n1,c1,f6,c6,k7,c7,k8,c8,f9,c9,h1,h2⟩:=h.ex;intro hv
 rcases hs.2 with ⟨rfl,rfl⟩ | ⟨g,cap,cur,rfl,_,hg,_⟩
 ·cases hv
 ·cases hv
  unfold Blk at h1;rw [hg] at h1
  cases h1
theorem OpsIn.app {base:Nat} {w w':World} {v v':Value} {bs cs:List Nat} {os ps:List OpS} (h:OpsIn base w v bs os) (hlen:cs.length=ps.length) (hnd:(bs++cs).Nodup) (hat:∀ i (h:i<cs.length) (h':i<ps.length),OpAt w cs[i] ps[i]) (hlo:∀ b∈cs,base<=b)
  (hsl:Sl w' 79 1 v' (bs.length+cs.length) (bs.map ptrV++cs.map ptrV)) (m:Mods (fun k=>v.ownBlock=some k) w w') (ho:∀ k,v'.ownBlock=some k->v.ownBlock=some k\/w.heap.size<=k) (hb:base<=w.heap.size):OpsIn base w' v' (bs++cs) (os++ps):=by
 have hk:=Mods.kpSl h.sl m
 have key:∀ b o,OpAt w b o->OpAt w' b o:=fun b o ha=>ha.kpb hk (m.block b ha.lt (fun e=>ha.notOwn h.sl e))
 refine ⟨by simp [h.len,hlen],hnd,by rw [List.length_append,List.map_append];exact hsl,fun i h1 h2=>?_,fun b hm=>?_,fun k hk'=>?_⟩
 ·rcases Nat.lt_or_ge i bs.length with hi | hi
  ·rw [List.getElem_append_left hi,List.getElem_append_left (by rw [<- h.len];exact hi)]
   exact key _ _ (h.at' i hi _)
  ·rw [List.getElem_append_right hi,List.getElem_append_right (by rw [<- h.len];exact hi)]
   have:=hat (i - bs.length) (by simp at h1;omega) (by rw [<- hlen];simp at h1;omega)
   simp only [<- h.len]
   exact key _ _ this
 ·rcases List.mem_append.1 hm with hm | hm
  ·exact h.lo b hm
  ·exact hlo b hm
 ·rcases ho k hk' with e | e
  ·exact h.own k e
  ·omega
def arS (k:Nat):List OpS:=(arithW.zipIdx.take k).flatMap fun x=>arithAt x.2 x.1
theorem arS_step (k:Nat) (h:k<12):arS (k+1)=arS k++arithAt k (arithW[k]'h):=by
 have:∀ k:Fin 12,arS (k.1+1)=arS k.1++arithAt k.1 (arithW[k.1]'k.2):=by
  intro k;unfold arS
  rw [List.take_succ_eq_append_getElem (by simp;exact k.2),List.flatMap_append]
  simp
  rfl
 exact this ⟨k,h⟩
set_option maxRecDepth 100000 in
theorem arC_at (avs:List AV) (hl:avs.length=12) (k:Nat) (hk:k<12) (w:World) :
  (Instr.index 141 (.agg (arC avs).toArray) (.int .i64 k)).run Tryz.prog w=.ok (.agg (AV.cells (arithW[k]'hk) (avs[k]'(by omega))).toArray) w:=by
 match avs,hl with
 | [a0,a1,a2,a3,a4,a5,a6,a7,a8,a9,a10,a11],_ =>
  have:k=0\/k=1\/k=2\/k=3\/k=4\/k=5\/k=6\/k=7\/k=8\/k=9\/k=10\/k=11:=by omega
  rcases this with rfl | rfl | rfl | rfl | rfl | rfl | rfl | rfl | rfl | rfl | rfl | rfl<;>rfl
theorem OpsIn.lt {base:Nat} {w:World} {v:Value} {bs:List Nat} {os:List OpS} (h:OpsIn base w v bs os):∀ b∈bs,b<w.heap.size:=fun b hb=>by
 obtain ⟨i,hi,rfl⟩:=List.getElem_of_mem hb
 exact (h.at' i hi (by rw [<- h.len];exact hi)).lt
theorem OpsIn.grow {base:Nat} {w0 wX w':World} {v v':Value} {bs:List Nat} {os:List OpS} (cs:List Nat) (ps:List OpS) (h:OpsIn base w0 v bs os) (m0:Mods Nil' w0 wX) (hlen:cs.length=ps.length) (hc:cs.Pairwise (·<·)) (hlo:∀ c∈cs,w0.heap.size<=c)
  (hat:∀ i (h:i<cs.length) (h':i<ps.length),OpAt wX cs[i] ps[i]) (hsl:Sl w' 79 1 v' (bs.length+cs.length) (bs.map ptrV++cs.map ptrV)) (m:Mods (fun k=>v.ownBlock=some k) wX w') (ho:∀ k,v'.ownBlock=some k->v.ownBlock=some k\/wX.heap.size<=k)
  (hb:base<=w0.heap.size):OpsIn base w' v' (bs++cs) (os++ps):=by
 refine (h.mods m0).app hlen ?_ hat (fun b hb'=>Nat.le_trans hb (hlo b hb')) hsl m ho (Nat.le_trans hb m0.size)
 rw [List.nodup_append]
 refine ⟨h.nd,hc.imp (fun h=>Nat.ne_of_lt h),fun a ha b hb' e=>?_⟩
 have h1:=h.lt a ha
 have h2:=hlo b hb'
 omega
end Go.Proofs.YtnhcaifopaeohaaGreatDoor
