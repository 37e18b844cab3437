import Derived.Test.YtoknbkfclhmapaaGreatDoorC06
import Derived.Test.YtoknbkfclhmapaaGreatDoorC05
namespace Go.Proofs.YtoknbkfclhmapaaGreatDoor
open Go.RowKit
structure WLoop (w:World) (X:Array Value) (pv:List (PK × PV)) (word:List UInt8) (wt acc:Nat->List UInt8):Prop where
 e0:acc 0=word
 eF:0<pv.length->acc 1=(word++([32]:List UInt8))++wt 0
 eS:∀ k,k<pv.length->k≠0->acc (k+1)=acc k++wt k
 eL:∀ k,(acc k).length<=3500
 eW:∀ k,k<pv.length->(wt k).length<=310
 call:∀ k (hk:k<pv.length) w',Mods Nil' w w'->Calls Tryz.prog pv[k].2.k2 (#[.agg X]++pv[k].2.c2) w' fun e w''=>e=.returned (.string (T (wt k)))/\Mods Nil' w' w''
 en:∀ k (hk:k<pv.length),Ent pv[k].2.k2
theorem wloop (x:PIns) (hx:x.Fit) (w:World) (hE:Env w) (pv:List (PK × PV)) (hok:∀ y∈pv,y.2.Ok w y.1) (word:List UInt8) (hwl:word.length<=100) (hpl:pv.length<=10) :
  WLoop w x.cells pv word (fun k=>if h:k<pv.length then PK.write x pv[k].1 else []) (accP x word (pv.map (·.1))) where
 e0:=accP_zero ..
 eF:=fun h=>by
  rw [accP_first x word _ (by simpa using h),dif_pos h];simp
 eS:=fun k h h0=>by
  rw [accP_step x word _ k (by simpa using h) h0,dif_pos h];simp
 eL:=fun k=>by
  have:=accP_len x hx word (pv.map (·.1)) k
  rw [List.length_map] at this
  omega
 eW:=fun k h=>by
  simp only [dif_pos h];exact pwrite_len x hx _
 call:=fun k hk w' m=>by
  have:=(hok pv[k] (List.getElem_mem hk)).wr w' x m.kp (hE.mods m) hx
  simpa only [dif_pos hk] using this
 en:=fun k hk=>(hok pv[k] (List.getElem_mem hk)).e2
theorem Mods.trans_below {w0 w wr:World} {B:Nat} (m:Mods Nil' w0 w) (h:Below B w wr) (hB:w0.heap.size<=B):Mods Nil' w0 wr :=
 ⟨h.os.trans m.os,h.tape.trans m.tape,h.output.trans m.output,Nat.le_trans m.size h.size,fun k hk _=>(h.block k (Nat.lt_of_lt_of_le hk hB)).trans (m.block k hk id)⟩
structure BAbove (w:World) (B b:Nat) (l:List UInt8) (wr:World):Prop where
 bu:Lib.IsBuilderF 254 5 B b (Lib.byteCells l) wr
 be:Below B w wr
 si:B<=wr.heap.size
theorem BAbove.mods {w wr wr':World} {B b:Nat} {l:List UInt8} (h:BAbove w B b l wr) (m:Mods Nil' wr wr'):BAbove w B b l wr' :=
 ⟨builder_mods h.bu m,⟨m.os.trans h.be.os,m.tape.trans h.be.tape,m.output.trans h.be.output,Nat.le_trans h.be.size m.size,fun k hk=>(m.block k (Nat.lt_of_lt_of_le hk h.si) id).trans (h.be.block k hk)⟩,Nat.le_trans h.si m.size⟩
theorem BAbove.write {w wr:World} {B b:Nat} {l:List UInt8} (h:BAbove w B b l wr) (s:ByteArray) (hl:l.length+s.size<=140737488355328) :
  Calls Tryz.prog 239 #[.pointer (some ⟨b,0,none⟩),.string s] wr fun e w'=>e=.returned (.tuple #[.int .i64 s.size,.nilIface])/\BAbove w B b (l++BL s) w'/\Lib.OthersKept 5 (some b) wr w' :=
 (bwrite_any B b l s wr h.bu hl h.si).mono fun _ _ ⟨he,h1,h2,h3⟩=>⟨he,⟨h1,h.be.trans h2,Nat.le_trans h.si h2.size⟩,h3⟩
theorem BAbove.string {w wr:World} {B b:Nat} {l:List UInt8} (h:BAbove w B b l wr) :
  Calls Tryz.prog 240 #[.pointer (some ⟨b,0,none⟩)] wr fun e w'=>e=.returned (.string (T l))/\Below B w w' :=
 (bstring_any B b l wr h.bu h.si).mono fun _ _ ⟨he,h2⟩=>⟨he,h.be.trans h2⟩
theorem BAbove.lt {w wr:World} {B b:Nat} {l:List UInt8} (h:BAbove w B b l wr):b<wr.heap.size:=by
 rcases h.bu with ⟨_,_,h,_⟩ | ⟨_,_,h,_⟩
 ·exact (Array.getElem?_eq_some_iff.1 h).1
 ·exact (Array.getElem?_eq_some_iff.1 h).1
theorem BAbove.blk {w wr:World} {B b:Nat} {l:List UInt8} (h:BAbove w B b l wr) {g:Nat} {cs:Array Value} {t:TypeId} (hg:Blk w g cs t) (hb:g<B):Blk wr g cs t:=(h.be.block g hb).trans hg
theorem BAbove.cell {w wr:World} {B b:Nat} {l:List UInt8} (h:BAbove w B b l wr) {a:Addr} (hb:a.block<B):wr.cell? a=w.cell? a:=by
 simp only [World.cell?,h.be.block _ hb]
theorem BAbove.mods0 {w0 w wr:World} {B b:Nat} {l:List UInt8} (h:BAbove w B b l wr) (m:Mods Nil' w0 w) (hB:w0.heap.size<=B):Mods Nil' w0 wr :=
 m.trans_below h.be hB
theorem BL_one:(BL (T [32])).length=1:=rfl
theorem BAbove.new (w:World):BAbove w w.heap.size w.heap.size [] (w.alloc (.cells #[.pointer none,.slice none 0 0] 254)) :=
 ⟨builder_new w,((Mods.refl Nil' w).alloc _).below,by simp⟩
set_option maxRecDepth 100000 in
set_option maxHeartbeats 1000000 in
theorem write1_go (op:Value) (d s jump num high:Int) (label name:ByteArray) (w:World) (bw bp:Nat) (word:List UInt8) (o:Option Addr) (c:Nat) (pv:List (PK × PV)) (hw:Blk w bw #[.string (T word)] 9) (hp:Blk w bp #[.slice o pv.length c] 148)
  (hS:Sl w 146 4 (.slice o pv.length c) pv.length (pv.flatMap (fun x=>x.2.cells x.1.fills))) (hwl:word.length<=100) (hpl:pv.length<=10) (wt acc:Nat->List UInt8) (hL:WLoop w #[op,.int .u8 d,.int .u8 s,.int .i16 jump,.int .i32 num,.int .i32 high,.string label,.string name] pv word wt acc) :
  Calls Tryz.prog 238 #[.agg #[op,.int .u8 d,.int .u8 s,.int .i16 jump,.int .i32 num,.int .i32 high,.string label,.string name],.pointer (some ⟨bw,0,none⟩),.pointer (some ⟨bp,0,none⟩)] w fun e w'=>e=.returned (.string (T (acc pv.length)))/\Mods Nil' w w':=by
 have HL:Hid _:=hL
 clear hL
 have hs1:(w.alloc (.cells #[op,.int .u8 d,.int .u8 s,.int .i16 jump,.int .i32 num,.int .i32 high,.string label,.string name] 99)).heap.size=w.heap.size+1:=by simp
 have M1:Mods Nil' w (w.alloc (.cells #[op,.int .u8 d,.int .u8 s,.int .i16 jump,.int .i32 num,.int .i32 high,.string label,.string name] 99)):=(Mods.refl _ _).alloc _
 have HI:Hid (Blk (w.alloc (.cells #[op,.int .u8 d,.int .u8 s,.int .i16 jump,.int .i32 num,.int .i32 high,.string label,.string name] 99)) w.heap.size #[op,.int .u8 d,.int .u8 s,.int .i16 jump,.int .i32 num,.int .i32 high,.string label,.string name] 99):=Blk.new w #[op,.int .u8 d,.int .u8 s,.int .i16 jump,.int .i32 num,.int .i32 high,.string label,.string name] 99
 have hw':=hw.mods M1 id
 have HP:Hid (Blk (w.alloc (.cells #[op,.int .u8 d,.int .u8 s,.int .i16 jump,.int .i32 num,.int .i32 high,.string label,.string name] 99)) bp #[.slice o pv.length c] 148):=hp.mods M1 id
 have HS:Hid (Sl (w.alloc (.cells #[op,.int .u8 d,.int .u8 s,.int .i16 jump,.int .i32 num,.int .i32 high,.string label,.string name] 99)) 146 4 (.slice o pv.length c) pv.length (pv.flatMap (fun x=>x.2.cells x.1.fills))):=hS.mods M1 (fun _ _=>id)
 have hb:=BAbove.new (w.alloc (.cells #[op,.int .u8 d,.int .u8 s,.int .i16 jump,.int .i32 num,.int .i32 high,.string label,.string name] 99))
 rw [hs1] at hb;have HB:=hid hb
 have cw:((w.alloc (.cells #[op,.int .u8 d,.int .u8 s,.int .i16 jump,.int .i32 num,.int .i32 high,.string label,.string name] 99)).alloc (.cells #[.pointer none,.slice none 0 0] 254)).cell? ⟨bw,0,none⟩=some (.string (T word)):=(hw'.alloc _).cell 0
 have HM:=hid M1;clear hS hw hp hw' M1 hb
 go_enter Tryz.func238,Tryz.ntmps238
 go_wp2_with fail
 refine (HB.out.write (T word) (by rw [T_size];simp;omega)).mono ?_
 rintro e w2 ⟨rfl,hb2,_⟩;generalize w.alloc (.cells #[op,.int .u8 d,.int .u8 s,.int .i16 jump,.int .i32 num,.int .i32 high,.string label,.string name] 99)=w1 at *
 have e0:=HL.out.e0
 have HB2:Hid (BAbove w1 (w.heap.size+1) (w.heap.size+1) (acc 0) w2):=by rw [Hid,e0];exact hb2
 clear hb2 cw HB e0
 have hps:=HP.out.lt
 have cp:w2.cell? ⟨bp,0,none⟩=some (.slice o pv.length c):=(HB2.out.cell (by rw [<- hs1];exact hps)).trans (HP.out.cell 0)
 go_wp2_with fail
 go_loopw [12] (fun i wl=>∃ k:Nat,k<=pv.length/\i=.int .i64 k/\BAbove w1 (w.heap.size+1) (w.heap.size+1) (acc k) wl) (fun i _=>pv.length - (intOf i).toNat)
 case atStart=>exact ⟨0,Nat.zero_le _,rfl,HB2.out⟩
 case round =>
  obtain ⟨k,hk,rfl,hb⟩:=hrel;have HBk:=hid hb;clear hb
  by_cases hlt:k<pv.length
  ·have HC:Hid (∀ w',Mods Nil' w w'->Calls Tryz.prog pv[k].2.k2 (#[.agg #[op,.int .u8 d,.int .u8 s,.int .i16 jump,.int .i32 num,.int .i32 high,.string label,.string name]]++pv[k].2.c2) w' fun e w''=>e=.returned (.string (T (wt k)))/\Mods Nil' w' w''):=HL.out.call k hlt
   have hen:=HL.out.en k hlt
   obtain ⟨g,rfl,hg,p0,p1,p2,p3⟩:=parts_at HS.out rfl k hlt
   have eW:=HL.out.eW k hlt
   have eL:=HL.out.eL k
   have q0:=(HBk.out.cell (a:=⟨g,k*4,none⟩) (by rw [<- hs1];exact hg)).trans p0
   have q1:=(HBk.out.cell (a:=⟨g,k*4+1,none⟩) (by rw [<- hs1];exact hg)).trans p1
   have q2:=(HBk.out.cell (a:=⟨g,k*4+2,none⟩) (by rw [<- hs1];exact hg)).trans p2
   have q3:=(HBk.out.cell (a:=⟨g,k*4+3,none⟩) (by rw [<- hs1];exact hg)).trans p3
   clear p0 p1 p2 p3;generalize pv[k]=y at *;obtain ⟨pk,f1,c1,k2,c2,k3,c3⟩:=y
   simp only at HC q0 q1 q2 q3 hen
   unfold Ent at hen
   have hIr:=HBk.out.blk HI.out (Nat.lt_succ_self _)
   have hsr:=HBk.out.lt
   have hpn:=Blk.new wr #[.int .i64 pk.fills,.func f1 #[] c1,.func (.func k2) #[] c2,.func (.func k3) #[] c3] 146
   have mN:Mods Nil' wr (wr.alloc (.cells #[.int .i64 pk.fills,.func f1 #[] c1,.func (.func k2) #[] c2,.func (.func k3) #[] c3] 146)):=(Mods.refl _ _).alloc _
   have HBn:Hid (BAbove w1 (w.heap.size+1) (w.heap.size+1) (acc k) (wr.alloc (.cells #[.int .i64 pk.fills,.func f1 #[] c1,.func (.func k2) #[] c2,.func (.func k3) #[] c3] 146))):=HBk.out.mods mN
   have hIn:=hIr.mods mN id
   have HI2:=hid hIn;have HN:=hid hpn;clear hIr mN hpn
   by_cases hk0:k=0
   ·subst hk0;go_wp2_with fail
    refine (HBn.out.write (T [32]) (by rw [T_size];simp;omega)).mono ?_
    rintro e w3 ⟨rfl,hb3,hk3⟩
    have hI3:=hb3.blk HI.out (Nat.lt_succ_self _)
    have hN3:=kept_blk hk3 HN.out (by omega) (by decide)
    have HB3:Hid _:=hb3
    clear hb3 hk3
    have hM3:Hid (Mods Nil' w w3):=HB3.out.mods0 HM.out (Nat.le_succ _)
    obtain ⟨i0,i1,i2,i3,i4,i5,i6,i7⟩:=hI3.cells8
    have n2:=hN3.cell 2
    simp at n2
    go_wp2_with fail
    refine (HC.out _ hM3.out).mono ?_
    rintro e w4 ⟨rfl,m4⟩
    have HB4:Hid _:=HB3.out.mods m4
    clear i0 i1 i2 i3 i4 i5 i6 i7 n2;go_wp2_with fail
    refine (BAbove.write HB4.out (T (wt 0)) (by rw [T_size,List.length_append,BL_one];omega)).mono ?_
    rintro e w5 ⟨rfl,hb5,_⟩
    have HB5:Hid (BAbove w1 (w.heap.size+1) (w.heap.size+1) (acc (0+1)) w5):=by
     rw [Hid,HL.out.eF (by omega),<- HL.out.e0]
     simpa [BL,T] using hb5
    clear hb5;go_wp2_with fail
    go_roundw
    case rel=>exact ⟨0+1,by omega,by go_num,HB5.out⟩
    case measure=>simp [intOf];omega
   ·have hq0:decide ((k:Int)=0)=false:=by simp;omega
    have hM3:Hid (Mods Nil' w (wr.alloc (.cells #[.int .i64 pk.fills,.func f1 #[] c1,.func (.func k2) #[] c2,.func (.func k3) #[] c3] 146))):=HBn.out.mods0 HM.out (Nat.le_succ _)
    obtain ⟨i0,i1,i2,i3,i4,i5,i6,i7⟩:=HI2.out.cells8
    have n2:=HN.out.cell 2
    simp at n2
    go_wp2_with fail
    refine (HC.out _ hM3.out).mono ?_
    rintro e w4 ⟨rfl,m4⟩
    have HB4:Hid _:=HBn.out.mods m4
    clear i0 i1 i2 i3 i4 i5 i6 i7 n2;go_wp2_with fail
    refine (BAbove.write HB4.out (T (wt k)) (by rw [T_size];omega)).mono ?_
    rintro e w5 ⟨rfl,hb5,_⟩
    have HB5:Hid (BAbove w1 (w.heap.size+1) (w.heap.size+1) (acc (k+1)) w5):=by
     rw [Hid,HL.out.eS k hlt hk0];exact hb5
    clear hb5;go_wp2_with fail
    go_roundw
    case rel=>exact ⟨k+1,by omega,by go_num,HB5.out⟩
    case measure=>simp [intOf];omega
  ·have hke:k=pv.length:=by omega
   subst hke;go_wp2_with fail;refine HBk.out.string.mono ?_;rintro e w3 ⟨rfl,h3⟩;go_wp2_with fail;go_ret
   exact ⟨rfl,HM.out.trans_below h3 (Nat.le_succ _)⟩
theorem write1_any (x:PIns) (hx:x.Fit) (w:World) (hE:Env w) (bw bp:Nat) (word:List UInt8) (v:Value) (ps:List PK) (hw:Blk w bw #[.string (T word)] 9) (hp:Blk w bp #[v] 148) (hP:PartsAt w v ps) (hwl:word.length<=100) (hpl:ps.length<=10) :
  Calls Tryz.prog 238 #[.agg x.cells,.pointer (some ⟨bw,0,none⟩),.pointer (some ⟨bp,0,none⟩)] w fun e w'=>e=.returned (.string (T (word++(if ps=[] then [] else [32])++ps.flatMap (PK.write x))))/\Mods Nil' w w':=by
 obtain ⟨pv,rfl,hok,hS⟩:=hP.ex;obtain ⟨o,c,rfl,_⟩:=hS.view;rw [List.length_map] at hpl
 have h:=write1_go x.op x.d x.s x.jump x.num x.high x.label x.name w bw bp word o c pv hw hp hS hwl hpl _ _ (wloop x hx w hE pv hok word hwl hpl)
 have e:=accP_end x word (pv.map (·.1))
 rw [List.length_map] at e;rw [<- e];exact h
theorem and_test (f b:Nat) (hf:f<16) (hb:b<16):bits .and .i64 (f:Int) (b:Int)=((f &&& b:Nat):Int) :=
 (bits_nat .i64 4 (by decide) (fun n h0 h1=>by rw [IntKind.wrap_i64];omega) f b (by omega) (by omega)).1
theorem or_fills (f b:Nat) (hf:f<16) (hb:b<16):bits .or .i64 (f:Int) (b:Int)=((f ||| b:Nat):Int) :=
 (bits_nat .i64 4 (by decide) (fun n h0 h1=>by rw [IntKind.wrap_i64];omega) f b (by omega) (by omega)).2
set_option maxRecDepth 100000 in
set_option maxHeartbeats 1000000 in
theorem others_any (x:PIns) (f:Nat) (hf:f<16) (w:World) :
  Calls Tryz.prog 201 #[.agg x.cells,.int .i64 f] w fun e w'=>e=.returned (.bool (othersB x f))/\Mods Nil' w w':=by
 obtain ⟨op,d,s,jump,num,high,label,name⟩:=x
 unfold PIns.cells at *
 simp only at *
 have a0:bits .and .i64 (f:Int) 1=((f % 2:Nat):Int):=by rw [<- Nat.and_one_is_mod];exact and_test f 1 hf (by omega)
 have a1:bits .and .i64 (f:Int) 2=((f &&& 2:Nat):Int):=and_test f 2 hf (by omega)
 have a2:bits .and .i64 (f:Int) 4=((f &&& 4:Nat):Int):=and_test f 4 hf (by omega)
 have a3:bits .and .i64 (f:Int) 8=((f &&& 8:Nat):Int):=and_test f 8 hf (by omega)
 go_enter Tryz.func201,Tryz.ntmps201
 go_wp2_with fail
 all_goals (go_ret;refine ⟨?_,(Mods.refl _ _).alloc _⟩)
 all_goals first
  | (simp [othersB, *];done)
  | (simp [othersB, *];rfl)
  | (have hz:f % 2=0:=(by omega);simp [othersB, *];done)
  | (have hz:f % 2=0:=(by omega);simp [othersB, *];rfl)
  | (have hz:f % 2≠0:=(by omega);simp [othersB, *];done)
  | (have hz:f % 2≠0:=(by omega);simp [othersB, *];rfl)
theorem fills_lt (p:PK):p.fills<16:=by unfold PK.fills;split<;>decide
theorem filled_lt (ps:List PK):filledOf ps<16:=by
 have h:∀ (l:List PK) (f:Nat),f<16->l.foldl (fun f p=>f ||| p.fills) f<16:=by
  intro l
  induction l with
  | nil=>intro f h;exact h
  | cons p l ih=>intro f h;exact ih _ (Nat.or_lt_two_pow (n:=4) h (fills_lt p))
 exact h ps 0 (by decide)
structure NLoop (w:World) (X:Array Value) (pv:List (PK × PV)) (ri:Nat->Bool):Prop where
 call:∀ k (hk:k<pv.length) w',Mods Nil' w w'->Calls Tryz.prog pv[k].2.k3 (#[.agg X]++pv[k].2.c3) w' fun e w''=>e=.returned (.bool (ri k))/\Mods Nil' w' w''
 en:∀ k (hk:k<pv.length),Ent pv[k].2.k3
theorem nloop (x:PIns) (hx:x.Fit) (w:World) (pv:List (PK × PV)) (hok:∀ y∈pv,y.2.Ok w y.1) :
  NLoop w x.cells pv (fun k=>if h:k<pv.length then PK.right x pv[k].1 else false) where
 call:=fun k hk w' m=>by
  have:=(hok pv[k] (List.getElem_mem hk)).ri w' x m.kp hx
  simpa only [dif_pos hk] using this
 en:=fun k hk=>(hok pv[k] (List.getElem_mem hk)).e3
set_option maxRecDepth 100000 in
set_option maxHeartbeats 1000000 in
theorem need1_go (op:Value) (d s:Nat) (jump num high:Int) (label name:ByteArray) (w:World) (b1 b2 f:Nat) (hf:f<16) (o:Option Addr) (c:Nat) (pv:List (PK × PV)) (hp:Blk w b1 #[.slice o pv.length c] 148) (hf2:Blk w b2 #[.int .i64 f] 144)
  (hS:Sl w 146 4 (.slice o pv.length c) pv.length (pv.flatMap (fun x=>x.2.cells x.1.fills))) (hpl:pv.length<=10) (ri:Nat->Bool) (hL:NLoop w #[op,.int .u8 d,.int .u8 s,.int .i16 jump,.int .i32 num,.int .i32 high,.string label,.string name] pv ri) :
  Calls Tryz.prog 241 #[.agg #[op,.int .u8 d,.int .u8 s,.int .i16 jump,.int .i32 num,.int .i32 high,.string label,.string name],.pointer (some ⟨b1,0,none⟩),.pointer (some ⟨b2,0,none⟩)] w fun e w' =>
   e=.returned (.bool ((List.range pv.length).all ri&&othersB ⟨op,d,s,jump,num,high,label,name⟩ f))/\Mods Nil' w w':=by
 have HL:=hid hL;clear hL
 have HO:=others_any ⟨op,d,s,jump,num,high,label,name⟩ f hf
 generalize othersB ⟨op,d,s,jump,num,high,label,name⟩ f=ob at *;unfold PIns.cells at HO
 simp only at HO
 have HO':Hid _:=HO
 clear HO
 have m1:Mods Nil' w (w.alloc (.cells #[op,.int .u8 d,.int .u8 s,.int .i16 jump,.int .i32 num,.int .i32 high,.string label,.string name] 99)):=(Mods.refl _ _).alloc _
 have c1:=(hp.mods m1 id).cell 0
 have HI:Hid (Blk (w.alloc (.cells #[op,.int .u8 d,.int .u8 s,.int .i16 jump,.int .i32 num,.int .i32 high,.string label,.string name] 99)) w.heap.size #[op,.int .u8 d,.int .u8 s,.int .i16 jump,.int .i32 num,.int .i32 high,.string label,.string name] 99):=Blk.new ..
 have HM1:Hid _:=m1
 have HF:=hid hf2;have HS:=hid hS
 simp at c1
 clear m1 hf2 hS hp
 go_enter Tryz.func241,Tryz.ntmps241
 go_wp2_with fail
 go_loopw [9] (fun i wl=>∃ k:Nat,k<=pv.length/\i=.int .i64 k/\Mods Nil' (w.alloc (.cells #[op,.int .u8 d,.int .u8 s,.int .i16 jump,.int .i32 num,.int .i32 high,.string label,.string name] 99)) wl/\(List.range k).all ri=true) (fun i _=>pv.length - (intOf i).toNat)
 case atStart=>exact ⟨0,Nat.zero_le _,rfl,Mods.refl _ _,rfl⟩
 case round =>
  obtain ⟨k,hk,rfl,m2,hr⟩:=hrel;have HR:=hid hr
  have HM2:Hid (Mods Nil' w wr):=HM1.out.trans m2
  have HI2:Hid (Blk wr w.heap.size #[op,.int .u8 d,.int .u8 s,.int .i16 jump,.int .i32 num,.int .i32 high,.string label,.string name] 99):=HI.out.mods m2 id
  clear hr
  by_cases hlt:k<pv.length
  ·have HC:Hid (∀ w',Mods Nil' w w'->Calls Tryz.prog pv[k].2.k3 (#[.agg #[op,.int .u8 d,.int .u8 s,.int .i16 jump,.int .i32 num,.int .i32 high,.string label,.string name]]++pv[k].2.c3) w' fun e w''=>e=.returned (.bool (ri k))/\Mods Nil' w' w''):=HL.out.call k hlt
   have hen:=HL.out.en k hlt
   obtain ⟨g,rfl,hg,q0,q1,q2,q3⟩:=parts_at (HS.out.mods HM2.out (fun _ _=>id)) rfl k hlt
   generalize pv[k]=y at *;obtain ⟨pk,f1,c1',k2,c2,k3,c3⟩:=y
   simp only at HC q0 q1 q2 q3 hen
   unfold Ent at hen
   have HM3:Hid (Mods Nil' w (wr.alloc (.cells #[.int .i64 pk.fills,.func f1 #[] c1',.func (.func k2) #[] c2,.func (.func k3) #[] c3] 146))):=HM2.out.alloc _
   have hI3:Blk (wr.alloc (.cells #[.int .i64 pk.fills,.func f1 #[] c1',.func (.func k2) #[] c2,.func (.func k3) #[] c3] 146)) w.heap.size #[op,.int .u8 d,.int .u8 s,.int .i16 jump,.int .i32 num,.int .i32 high,.string label,.string name] 99:=HI2.out.alloc _
   obtain ⟨i0,i1,i2,i3,i4,i5,i6,i7⟩:=hI3.cells8;clear hI3
   have HMr:Hid _:=m2
   clear m2;go_wp2_with fail
   refine (HC.out _ HM3.out).mono ?_
   rintro e w4 ⟨rfl,m4⟩;clear i0 i1 i2 i3 i4 i5 i6 i7
   cases hri:ri k with
   | false =>
    have HA:Hid ((List.range pv.length).all ri=false):=by
     rw [Hid,List.all_eq_false]
     exact ⟨k,List.mem_range.2 hlt,by simp [hri]⟩
    go_wp2_with fail;go_ret;rw [HA.out]
    exact ⟨rfl,HM3.out.trans m4⟩
   | true =>
    go_wp2_with fail
    go_roundw
    case rel=>exact ⟨k+1,by omega,by go_num,(HMr.out.alloc _).trans m4,by rw [List.range_succ,List.all_append,HR.out];simp [hri]⟩
    case measure=>simp [intOf];omega
  ·have hke:k=pv.length:=by omega
   subst hke;obtain ⟨i0,i1,i2,i3,i4,i5,i6,i7⟩:=HI2.out.cells8
   have c2:=(HF.out.mods HM2.out id).cell 0
   simp at c2
   go_wp2_with fail
   refine (HO'.out _).mono ?_
   rintro e w4 ⟨rfl,m4⟩;go_wp2_with fail;go_ret;rw [HR.out]
   exact ⟨rfl,HM2.out.trans m4⟩
theorem all_range (pv:List (PK × PV)) (x:PIns):(List.range pv.length).all (fun k=>if h:k<pv.length then PK.right x pv[k].1 else false)=(pv.map (·.1)).all (PK.right x):=by
 rw [Bool.eq_iff_iff,List.all_eq_true,List.all_eq_true]
 constructor
 ·intro h p hp;obtain ⟨y,hy,rfl⟩:=List.mem_map.1 hp;obtain ⟨k,hk,rfl⟩:=List.getElem_of_mem hy
  have:=h k (List.mem_range.2 hk)
  simpa only [dif_pos hk] using this
 ·intro h k hk
  have hk':=List.mem_range.1 hk
  simp only [dif_pos hk']
  exact h _ (List.mem_map.2 ⟨pv[k],List.getElem_mem hk',rfl⟩)
theorem need1_any (x:PIns) (hx:x.Fit) (w:World) (b1 b2 f:Nat) (v:Value) (ps:List PK) (hf:f<16) (hp:Blk w b1 #[v] 148) (hf2:Blk w b2 #[.int .i64 f] 144) (hP:PartsAt w v ps) (hpl:ps.length<=10) :
  Calls Tryz.prog 241 #[.agg x.cells,.pointer (some ⟨b1,0,none⟩),.pointer (some ⟨b2,0,none⟩)] w fun e w'=>e=.returned (.bool (ps.all (PK.right x)&&othersB x f))/\Mods Nil' w w':=by
 obtain ⟨pv,rfl,hok,hS⟩:=hP.ex;obtain ⟨o,c,rfl,_⟩:=hS.view;rw [List.length_map] at hpl
 have h:=need1_go x.op x.d x.s x.jump x.num x.high x.label x.name w b1 b2 f hf o c pv hp hf2 hS hpl _ (nloop x hx w pv hok)
 rw [all_range] at h;exact h
def foldF (ps:List PK) (k:Nat):Nat:=filledOf (ps.take k)
theorem foldF_step (ps:List PK) (k:Nat) (h:k<ps.length):foldF ps (k+1)=foldF ps k ||| ps[k].fills:=by
 unfold foldF filledOf;rw [List.take_succ_eq_append_getElem h,List.foldl_append]
 rfl
set_option maxRecDepth 100000 in
set_option maxHeartbeats 1000000 in
theorem need_any (w:World) (v:Value) (ps:List PK) (hP:PartsAt w v ps) (hpl:ps.length<=10) :
  Calls Tryz.prog 156 #[v] w fun e w'=>e=.returned (.func (.func 241) #[] #[.pointer (some ⟨w.heap.size,0,none⟩),.pointer (some ⟨w.heap.size+1,0,none⟩)]) /\
   Blk w' w.heap.size #[v] 148/\Blk w' (w.heap.size+1) #[.int .i64 (filledOf ps)] 144/\Mods Nil' w w':=by
 obtain ⟨pv,rfl,hok,hS⟩:=hP.ex;clear hok hP;obtain ⟨o,c,rfl,_⟩:=hS.view;rw [List.length_map] at hpl
 have HE:Hid (foldF (pv.map (·.1)) pv.length=filledOf (pv.map (·.1))):=by
  rw [Hid,foldF,List.take_of_length_le (by simp)]
 have HSt:Hid (∀ k (h:k<pv.length),foldF (pv.map (·.1)) (k+1)=foldF (pv.map (·.1)) k ||| pv[k].1.fills):=fun k h=>by
  have:=foldF_step (pv.map (·.1)) k (by simpa using h)
  simpa using this
 have HLt:Hid (∀ k,foldF (pv.map (·.1)) k<16):=fun k=>filled_lt _
 have H0:Hid (foldF (pv.map (·.1)) 0=0):=rfl
 rw [<- HE.out];clear HE;generalize foldF (pv.map (·.1))=F at *
 have hb1:Blk ((w.alloc (.cells #[.slice o pv.length c] 148)).alloc (.cells #[.int .i64 0] 144)) w.heap.size #[.slice o pv.length c] 148:=(Blk.new w _ _).alloc _
 have hb2:Blk ((w.alloc (.cells #[.slice o pv.length c] 148)).alloc (.cells #[.int .i64 0] 144)) (w.heap.size+1) #[.int .i64 0] 144:=by
  have:=Blk.new (w.alloc (.cells #[.slice o pv.length c] 148)) #[.int .i64 0] 144
  simpa using this
 have HM:Hid (Mods Nil' w ((w.alloc (.cells #[.slice o pv.length c] 148)).alloc (.cells #[.int .i64 0] 144))):=((Mods.refl _ _).alloc _).alloc _
 have HB1:=hid hb1;have HB2:=hid hb2;have HS:=hid hS;clear hS hb1 hb2
 go_enter Tryz.func156,Tryz.ntmps156
 go_wp2_with fail
 go_loopw [8] (fun i wl=>∃ k:Nat,k<=pv.length/\i=.int .i64 k/\Mods Nil' w wl/\Blk wl w.heap.size #[.slice o pv.length c] 148/\Blk wl (w.heap.size+1) #[.int .i64 (F k)] 144) (fun i _=>pv.length - (intOf i).toNat)
 case atStart=>exact ⟨0,Nat.zero_le _,rfl,HM.out,HB1.out,by rw [H0.out];exact HB2.out⟩
 case round =>
  obtain ⟨k,hk,rfl,m,h1,h2⟩:=hrel
  by_cases hlt:k<pv.length
  ·obtain ⟨g,rfl,hg,q0,q1,q2,q3⟩:=parts_at (HS.out.mods m (fun _ _=>id)) rfl k hlt
   have hst:=HSt.out k hlt
   have hl:=HLt.out k
   have hfl:=fills_lt pv[k].1
   have ho:=or_fills (F k) pv[k].1.fills hl hfl
   rw [<- hst] at ho;have HK:=hid hst;clear hst;generalize pv[k]=y at *;obtain ⟨pk,f1,c1,k2,c2,k3,c3⟩:=y
   simp only at q0 q1 q2 q3 ho hfl
   have h1':=h1.alloc (.cells #[.int .i64 pk.fills,.func f1 #[] c1,.func (.func k2) #[] c2,.func (.func k3) #[] c3] 146)
   have h2':=h2.alloc (.cells #[.int .i64 pk.fills,.func f1 #[] c1,.func (.func k2) #[] c2,.func (.func k3) #[] c3] 146)
   have z2:=h2'.cell 0
   have zf:=h2'.frozen 0
   simp at z2
   have HA:=hid h1';have HB:=hid h2';have HMk:=hid m;clear h1 h2 h1' h2' m HK;go_wp2_with fail
   go_roundw
   case rel=>exact ⟨k+1,by omega,by go_num,(HMk.out.alloc _).set (.inr (by simp)) _,HA.out.setOther (by simp) _,HB.out.set 0 _⟩
   case measure=>simp [intOf];omega
  ·have hke:k=pv.length:=by omega
   subst hke;go_wp2_with fail;go_ret
   exact ⟨rfl,h1,h2,m⟩
end Go.Proofs.YtoknbkfclhmapaaGreatDoor
