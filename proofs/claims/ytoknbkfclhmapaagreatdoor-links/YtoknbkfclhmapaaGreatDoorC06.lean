import Derived.Test.YtoknbkfclhmapaaGreatDoorC04
import Derived.Test.YtoknbkfclhmapaaGreatDoorC01
import Derived.Lib.AppendIntMem
import Derived.Lib.ItoaLen
import Derived.Laws.EntriesVeiled
namespace Go.Proofs.YtoknbkfclhmapaaGreatDoor
open Go.RowKit
def Env (w : World) : Prop := Lib.TabIs Tryz.prog w "internal/strconv.uint64pow10" .u64 Lib.pow10Tab
theorem Mods.below {w w':World} (m:Mods Nil' w w'):Below w.heap.size w w':=⟨m.os,m.tape,m.output,m.size,fun k hk=>m.block k hk id⟩
theorem Env.mods {w w':World} (h:Env w) (m:Mods Nil' w w'):Env w':=Lib.tabBelow_of_tabIs h w' m.below
theorem Mods.grow (w:World) (k:Nat) (os:Array Obj):Mods Nil' w (Sort.grow (w.drewN k) os) :=
 ⟨rfl,rfl,rfl,by simp [World.drewN],fun i hi _=>Sort.heap_grow_old (w.drewN k) os (by simpa [World.drewN] using hi)⟩
theorem itoa_any (n:Int) (h0:-9223372036854775808<=n) (h1:n<=9223372036854775807) (w:World) (hE:Env w) :
  Calls Tryz.prog 136 #[.int .i64 n] w fun e w'=>e=.returned (.string (T (Lib.itoa n)))/\Mods Nil' w w' :=
 (Any.strconv_Itoa Tryz.li n h0 h1 w hE).mono fun _ _ ⟨he,k,os,hw⟩=>⟨he,hw ▸ Mods.grow w k os⟩
theorem itoa_len (n:Int) (h0:-9223372036854775808<=n) (h1:n<=9223372036854775807):(Lib.itoa n).length<=21:=Lib.itoa_length_le n h0 h1
set_option maxHeartbeats 400000 in
theorem regtext_any (n:Nat) (hn:n<=255) (w:World) (hE:Env w) :
  Calls Tryz.prog 130 #[.int .u8 n] w fun e w'=>e=.returned (.string (T (regP n)))/\Mods Nil' w w':=by
 have hl:=itoa_len (n:Int) (by omega) (by omega)
 rw [<- T_size] at hl
 have HE:Hid (T (regP n)=T [114]++T (Lib.itoa (n:Int))):=by rw [Hid,regP];exact T_app [114] _
 go_enter Tryz.func130,Tryz.ntmps130
 go_wp2_with fail
 refine (itoa_any (n:Int) (by omega) (by omega) _ hE).mono ?_
 rintro e w1 ⟨rfl,m1⟩
 generalize T (Lib.itoa (n:Int))=sd at *
 go_wp2_with fail;go_ret
 exact ⟨by rw [HE.out];rfl,m1⟩
set_option maxHeartbeats 400000 in
theorem srcW_any (x:PIns) (hx:x.Fit) (w:World) (hE:Env w) :
  Calls Tryz.prog 129 #[.agg x.cells] w fun e w'=>e=.returned (.string (T (PK.source.write x)))/\Mods Nil' w w':=by
 obtain ⟨op,d,s,jump,num,high,label,name⟩:=x
 have hs:=hx.s
 clear hx
 unfold PIns.cells at *
 simp only at *
 go_enter Tryz.func129,Tryz.ntmps129
 go_wp2_with fail
 refine (regtext_any s (by omega) _ (hE.mods ((Mods.refl _ _).alloc _))).mono ?_
 rintro e w1 ⟨rfl,m1⟩;go_wp2_with fail;go_ret
 exact ⟨rfl,((Mods.refl _ _).alloc _).trans m1⟩
set_option maxHeartbeats 400000 in
theorem srcR_any (x:PIns) (hx:x.Fit) (w:World) :
  Calls Tryz.prog 131 #[.agg x.cells] w fun e w'=>e=.returned (.bool (PK.source.right x))/\Mods Nil' w w':=by
 obtain ⟨op,d,s,jump,num,high,label,name⟩:=x
 have hs:=hx.s
 clear hx
 unfold PIns.cells at *
 simp only [PK.right] at *
 go_enter Tryz.func131,Tryz.ntmps131
 go_wp2_with fail;go_ret
 exact ⟨by simp;omega,(Mods.refl _ _).alloc _⟩
set_option maxHeartbeats 400000 in
theorem opdW_any (x:PIns) (hx:x.Fit) (w:World) (hE:Env w) :
  Calls Tryz.prog 166 #[.agg x.cells] w fun e w'=>e=.returned (.string (T (PK.operand.write x)))/\Mods Nil' w w':=by
 obtain ⟨op,d,s,jump,num,high,label,name⟩:=x
 have hs:=hx.d
 clear hx
 unfold PIns.cells at *
 simp only at *
 go_enter Tryz.func166,Tryz.ntmps166
 go_wp2_with fail
 refine (regtext_any d (by omega) _ (hE.mods ((Mods.refl _ _).alloc _))).mono ?_
 rintro e w1 ⟨rfl,m1⟩;go_wp2_with fail;go_ret
 exact ⟨rfl,((Mods.refl _ _).alloc _).trans m1⟩
set_option maxHeartbeats 400000 in
theorem opdR_any (x:PIns) (hx:x.Fit) (w:World) :
  Calls Tryz.prog 167 #[.agg x.cells] w fun e w'=>e=.returned (.bool (PK.operand.right x))/\Mods Nil' w w':=by
 obtain ⟨op,d,s,jump,num,high,label,name⟩:=x
 have hs:=hx.d
 clear hx
 unfold PIns.cells at *
 simp only [PK.right] at *
 go_enter Tryz.func167,Tryz.ntmps167
 go_wp2_with fail;go_ret
 exact ⟨by simp;omega,(Mods.refl _ _).alloc _⟩
set_option maxHeartbeats 400000 in
theorem resR_any (x:PIns) (hx:x.Fit) (w:World) :
  Calls Tryz.prog 125 #[.agg x.cells] w fun e w'=>e=.returned (.bool (PK.result.right x))/\Mods Nil' w w':=by
 obtain ⟨op,d,s,jump,num,high,label,name⟩:=x
 have hs:=hx.d
 clear hx
 unfold PIns.cells at *
 simp only [PK.right] at *
 go_enter Tryz.func125,Tryz.ntmps125
 go_wp2_with fail;go_ret
 exact ⟨by simp;omega,(Mods.refl _ _).alloc _⟩
set_option maxHeartbeats 400000 in
theorem numW_any (x:PIns) (hx:x.Fit) (w:World) (hE:Env w) :
  Calls Tryz.prog 135 #[.agg x.cells] w fun e w'=>e=.returned (.string (T (PK.number.write x)))/\Mods Nil' w w':=by
 obtain ⟨op,d,s,jump,num,high,label,name⟩:=x
 have h0:=hx.n0
 have h1:=hx.n1
 clear hx
 unfold PIns.cells at *
 simp only at *
 go_enter Tryz.func135,Tryz.ntmps135
 go_wp2_with fail
 refine (itoa_any num (by omega) (by omega) _ (hE.mods ((Mods.refl _ _).alloc _))).mono ?_
 rintro e w1 ⟨rfl,m1⟩;go_wp2_with fail;go_ret
 exact ⟨rfl,((Mods.refl _ _).alloc _).trans m1⟩
set_option maxHeartbeats 400000 in
theorem labW_any (x:PIns) (w:World) :
  Calls Tryz.prog 170 #[.agg x.cells] w fun e w'=>e=.returned (.string (T (PK.label.write x)))/\Mods Nil' w w':=by
 obtain ⟨op,d,s,jump,num,high,label,name⟩:=x
 unfold PIns.cells at *
 simp only at *
 go_enter Tryz.func170,Tryz.ntmps170
 go_wp2_with fail;go_ret
 exact ⟨rfl,(Mods.refl _ _).alloc _⟩
set_option maxHeartbeats 400000 in
theorem always_any (x:PIns) (w:World) :
  Calls Tryz.prog 137 #[.agg x.cells] w fun e w'=>e=.returned (.bool true)/\Mods Nil' w w':=by
 obtain ⟨op,d,s,jump,num,high,label,name⟩:=x
 unfold PIns.cells at *
 simp only at *
 go_enter Tryz.func137,Tryz.ntmps137
 go_wp2_with fail;go_ret
 exact ⟨rfl,(Mods.refl _ _).alloc _⟩
set_option maxHeartbeats 400000 in
theorem markW_any (x:PIns) (w:World) (g:Nat) (t:ByteArray) (h:w.cell? ⟨g,0,none⟩=some (.string t)) (hg:g<w.heap.size) :
  Calls Tryz.prog 228 #[.agg x.cells,.pointer (some ⟨g,0,none⟩)] w fun e w'=>e=.returned (.string t)/\Mods Nil' w w':=by
 obtain ⟨op,d,s,jump,num,high,label,name⟩:=x
 unfold PIns.cells at *
 simp only at *
 have h':(w.alloc (.cells #[op,.int .u8 d,.int .u8 s,.int .i16 jump,.int .i32 num,.int .i32 high,.string label,.string name] 99)).cell? ⟨g,0,none⟩=some (.string t):=by
  rw [World.cell?_alloc_past _ _ _ hg];exact h
 go_enter Tryz.func228,Tryz.ntmps228
 go_wp2_with fail;go_ret
 exact ⟨rfl,(Mods.refl _ _).alloc _⟩
set_option maxHeartbeats 400000 in
theorem wideR_any (x:PIns) (hx:x.Fit) (w:World) :
  Calls Tryz.prog 196 #[.agg x.cells] w fun e w'=>e=.returned (.bool (PK.wide.right x))/\Mods Nil' w w':=by
 obtain ⟨op,d,s,jump,num,high,label,name⟩:=x
 have hs:=hx.s
 clear hx
 unfold PIns.cells at *
 simp only [PK.right] at *
 by_cases h0:s=0
 ·subst h0
  go_enter Tryz.func196,Tryz.ntmps196
  go_wp2_with fail;go_ret
  exact ⟨by simp,(Mods.refl _ _).alloc _⟩
 ·by_cases h1:s=1
  ·subst h1
   go_enter Tryz.func196,Tryz.ntmps196
   go_wp2_with fail;go_ret
   exact ⟨by simp;rfl,(Mods.refl _ _).alloc _⟩
  ·have q0:decide ((s:Int)=0)=false:=by simp;omega
   have q1:decide ((s:Int)=1)=false:=by simp;omega
   go_enter Tryz.func196,Tryz.ntmps196
   go_wp2_with fail;go_ret
   exact ⟨by simp [h0,h1],(Mods.refl _ _).alloc _⟩
set_option maxHeartbeats 400000 in
theorem offW_any (x:PIns) (hx:x.Fit) (w:World) (hE:Env w) :
  Calls Tryz.prog 189 #[.agg x.cells] w fun e w'=>e=.returned (.string (T (PK.offset.write x)))/\Mods Nil' w w':=by
 obtain ⟨op,d,s,jump,num,high,label,name⟩:=x
 have j0:=hx.j0
 have j1:=hx.j1
 clear hx
 unfold PIns.cells at *
 simp only [PK.write] at *
 have hl:=itoa_len jump (by omega) (by omega)
 rw [<- T_size] at hl
 have hE1:=hE.mods ((Mods.refl _ _).alloc (.cells #[op,.int .u8 d,.int .u8 s,.int .i16 jump,.int .i32 num,.int .i32 high,.string label,.string name] 99))
 by_cases hp:0<jump
 ·have HE:Hid (T (offP jump)=T [43]++T (Lib.itoa jump)):=by rw [Hid,offP,if_pos hp];exact T_app [43] _
  go_enter Tryz.func189,Tryz.ntmps189
  go_wp2_with fail
  refine (itoa_any jump (by omega) (by omega) _ hE1).mono ?_
  rintro e w1 ⟨rfl,m1⟩;generalize T (Lib.itoa jump)=sd at *;go_wp2_with fail;go_ret
  exact ⟨by rw [HE.out];rfl,((Mods.refl _ _).alloc _).trans m1⟩
 ·by_cases hn:jump<0
  ·have HE:Hid (T (offP jump)=T (Lib.itoa jump)):=by rw [Hid,offP,if_neg hp,if_pos hn]
   go_enter Tryz.func189,Tryz.ntmps189
   go_wp2_with fail
   refine (itoa_any jump (by omega) (by omega) _ hE1).mono ?_
   rintro e w1 ⟨rfl,m1⟩;generalize T (Lib.itoa jump)=sd at *;go_wp2_with fail;go_ret
   exact ⟨by rw [HE.out];rfl,((Mods.refl _ _).alloc _).trans m1⟩
  ·have h0:jump=0:=by omega
   subst h0
   go_enter Tryz.func189,Tryz.ntmps189
   go_wp2_with fail;go_ret
   exact ⟨rfl,(Mods.refl _ _).alloc _⟩
theorem or_hi (a b:Nat) (ha:a<4294967296) (hb:b<4294967296):bits .or .u64 ((a:Int)*4294967296) (b:Int)=((a*4294967296+b:Nat):Int):=by
 have h:=(bits_nat .u64 64 (by decide) (fun n h0 h1=>by rw [IntKind.wrap_u64];omega) (a*4294967296) b (by omega) (by omega)).2
 have e:=Nat.two_pow_add_eq_or_of_lt (i:=32) (show b<2 ^ 32 by omega) a
 rw [Nat.mul_comm] at e
 have e2:(2:Nat) ^ 32=4294967296:=by decide
 rw [e2] at e;rw [<- e] at h
 simpa using h
set_option maxHeartbeats 400000 in
theorem insWide_any (x:PIns) (w:World) :
  Calls Tryz.prog 198 #[.agg x.cells] w fun e w'=>e=.returned (.int .u64 x.wide)/\Mods Nil' w w':=by
 obtain ⟨op,d,s,jump,num,high,label,name⟩:=x
 unfold PIns.cells at *
 simp only [PIns.wide] at *
 have HO:Hid (_=_):=or_hi (high % 4294967296).toNat (num % 4294967296).toNat (by omega) (by omega)
 have e1:(((high % 4294967296).toNat:Nat):Int)=high % 4294967296:=by omega
 have e2:(((num % 4294967296).toNat:Nat):Int)=num % 4294967296:=by omega
 have HO2:Hid (bits .or .u64 (high % 4294967296*4294967296) (num % 4294967296)=(((high % 4294967296).toNat*4294967296+(num % 4294967296).toNat:Nat):Int)):=by
  have h:=HO.out
  rw [e1,e2] at h;exact h
 clear HO e1 e2
 go_enter Tryz.func198,Tryz.ntmps198
 go_wp2_with fail;go_ret
 refine ⟨?_,(Mods.refl _ _).alloc _⟩
 rw [<- HO2.out]
 rfl
theorem wide_lt (x:PIns):x.wide<18446744073709551616:=by
 unfold PIns.wide;omega
theorem holds_zero0 (w:World) (T:TypeId) (nd:Nat) (hs:nd<=24):Sort.Holds (fun (b:UInt8)=>Value.int .u8 (b.toNat:Int)) (w.alloc (.cells Lib.zeros24 T)) w.heap.size 0 (Array.replicate nd (0:UInt8)):=fun j hj=>by
 have hj':j<nd:=by simpa using hj
 refine ⟨?_,World.frozen?_alloc_new _ _ _ _⟩
 rw [World.cell?_alloc_new,Lib.zeros24_at _ (by omega),getElem!_pos _ j hj]
 simp
theorem fin0 (w:World) (o:Obj) (dk:Array UInt8) (k:Nat):Mods Nil' w ((Sort.putRow (fun (b:UInt8)=>Value.int .u8 (b.toNat:Int)) (w.alloc o) w.heap.size 0 dk).drewN k):=by
 rw [Sort.alloc_eq_grow]
 obtain ⟨os',_,e⟩:=Sort.putRow_grow_new (fun (b:UInt8)=>Value.int .u8 (b.toNat:Int)) w #[o] w.heap.size 0 dk (Nat.le_refl _)
 rw [e];exact Mods.grow w k os'
set_option maxHeartbeats 6400000 in
set_option maxRecDepth 100000 in
theorem ifmtu_any (u:Nat) (hu64:u<18446744073709551616) (w:World) (hE:Env w) :
  Calls Tryz.prog 276 #[.int .u64 u,.int .i64 10] w fun e w'=>e=.returned (.string (T (Lib.decDigits u)))/\Mods Nil' w w':=by
 by_cases hs:u<100
 ·go_enter Tryz.func276,Tryz.ntmps276
  go_wp2_with fail
  refine (Any.internal_strconv_small { Tryz.lf with } u hs _).mono ?_
  rintro e w1 ⟨rfl,rfl⟩;go_wp2_with fail;go_ret
  exact ⟨rfl,Mods.refl _ _⟩
 ·have hu1:1<=u:=by omega
  have hnd20:Lib.nDigits u<=20:=Lib.nDigits_le20 u hu64
  have hal:Tryz.prog.arrayLen 308=24:=by kernel_rfl
  have hsl1:∀ W,(Instr.sliceAt 308 (.pointer (some ⟨w.heap.size,0,none⟩)) none (some (.int .i64 (Lib.nDigits u:Int))) none).run Tryz.prog W=.ok (.slice (some ⟨w.heap.size,0,none⟩) (Lib.nDigits u) 24) W:=fun W=>by
   rw [run_sliceAt_array_h W 308 ⟨w.heap.size,0,none⟩ (by kernel_rfl) .i64 (Lib.nDigits u:Int) (by omega) (by rw [hal];omega)]
   go_simp
  have hH0:=holds_zero0 w 308 (Lib.nDigits u) (by omega)
  have hfmt:=Any.internal_strconv_formatBase10 { Tryz.lf with } w.heap.size 0 24 u (Array.replicate (Lib.nDigits u) 0) (w.alloc (.cells Lib.zeros24 308)) hH0 (by rw [Array.size_replicate];exact Lib.lt_pow_nDigits u) hu64 (by rw [Array.size_replicate];omega)
  rw [Array.size_replicate] at hfmt
  have HH0:Hid _:=hH0
  clear hH0 hal
  go_enter Tryz.func276,Tryz.ntmps276
  go_wp2_with fail
  refine (Any.internal_strconv_numDigits { Tryz.lf with } u hu1 hu64 _ (Lib.tabIs_alloc hE _)).mono ?_
  rintro e w1 ⟨rfl,rfl⟩;go_wp2_with fail;refine hfmt.mono ?_
  rintro e w' ⟨rfl,k,v',dk,rfl,hF⟩
  have hcv:(convert 52 9 (.slice (some ⟨w.heap.size,0,none⟩) (Lib.nDigits u) 24)).run Tryz.prog ((Sort.putRow (fun (b:UInt8)=>Value.int .u8 (b.toNat:Int)) (w.alloc (.cells Lib.zeros24 308)) w.heap.size 0 dk).drewN k)=.ok (.string (T (Lib.decDigits u))) ((Sort.putRow (fun (b:UInt8)=>Value.int .u8 (b.toNat:Int)) (w.alloc (.cells Lib.zeros24 308)) w.heap.size 0 dk).drewN k):=by
   have h:=run_convert_bytes_back (P:=Tryz.prog) ((Sort.putRow (fun (b:UInt8)=>Value.int .u8 (b.toNat:Int)) (w.alloc (.cells Lib.zeros24 308)) w.heap.size 0 dk).drewN k) 52 9 5 ⟨w.heap.size,0,none⟩ 24 (Lib.decDigits u) Tryz.underlying52 Tryz.underlying5 Tryz.underlying9 (fun j hj=>by
    rw [Lib.row_is_numeral hF j hj,Lib.add_plain,World.cell?_drewN]
    exact Sort.cell?_putRow (fun (b:UInt8)=>Value.int .u8 (b.toNat:Int)) _ w.heap.size 0 _ dk HH0.out (by rw [hF.size,Array.size_replicate]) j (by rw [hF.size];rw [Lib.decDigits_length] at hj;exact hj))
   rw [Lib.decDigits_length] at h;exact h
  go_wp2_with fail;go_ret
  exact ⟨rfl,fin0 w _ dk k⟩
theorem fmtu_any (u:Nat) (hu64:u<18446744073709551616) (w:World) (hE:Env w) :
  Calls Tryz.prog 250 #[.int .u64 u,.int .i64 10] w fun e w'=>e=.returned (.string (T (Lib.decDigits u)))/\Mods Nil' w w':=by
 go_enter Tryz.func250,Tryz.ntmps250
 go_wp2_with fail
 refine (ifmtu_any u hu64 _ hE).mono ?_
 rintro e w1 ⟨rfl,m1⟩;go_wp2_with fail;go_ret
 exact ⟨rfl,m1⟩
set_option maxHeartbeats 400000 in
theorem wideW_any (x:PIns) (hx:x.Fit) (w:World) (hE:Env w) :
  Calls Tryz.prog 195 #[.agg x.cells] w fun e w'=>e=.returned (.string (T (PK.wide.write x)))/\Mods Nil' w w':=by
 have hw:=insWide_any x
 have hwl:=wide_lt x
 by_cases h:x.s=1
 ·have HE:Hid (T (PK.wide.write x)=T [109,97,112,32]++x.name):=by
   rw [Hid,PK.write,wideP,if_pos h,<- T_app,T_BL]
  obtain ⟨op,d,s,jump,num,high,label,name⟩:=x
  have hn:=hx.m
  clear hx hw
  unfold PIns.cells at *
  simp only at *;subst h
  go_enter Tryz.func195,Tryz.ntmps195
  go_wp2_with fail;go_ret
  exact ⟨by rw [HE.out];rfl,(Mods.refl _ _).alloc _⟩
 ·have HE:Hid (PK.wide.write x=Lib.decDigits x.wide):=by rw [Hid,PK.write,wideP,if_neg h]
  generalize x.wide=u at *;obtain ⟨op,d,s,jump,num,high,label,name⟩:=x;clear hx
  unfold PIns.cells at *
  simp only at *
  have q1:decide ((s:Int)=1)=false:=by simp;omega
  go_enter Tryz.func195,Tryz.ntmps195
  go_wp2_with fail
  refine (hw _).mono ?_
  rintro e w1 ⟨rfl,m1⟩;go_wp2_with fail
  refine (fmtu_any u hwl _ (hE.mods (((Mods.refl _ _).alloc _).trans m1))).mono ?_
  rintro e w2 ⟨rfl,m2⟩;go_wp2_with fail;go_ret
  exact ⟨by rw [HE.out];rfl,(((Mods.refl _ _).alloc _).trans m1).trans m2⟩
def OpBlk (w:World) (k:Nat):Prop:=∃ cs t fr,w.heap[k]?=some (.cells cs t fr)/\(t=128\/t=96)
def Kp (w w':World):Prop:=Mods (OpBlk w) w w'
theorem Mods.kp {w w':World} (m:Mods Nil' w w'):Kp w w':=m.mono (fun _ _ h=>h.elim)
theorem Kp.trans {w w' w'':World} (h:Kp w w') (k:Kp w' w''):Kp w w'' :=
 Mods.step h k (fun i hi ⟨cs,t,fr,hb,ht⟩=>by
  refine Classical.byContradiction fun hn=>hn ?_
  rw [h.block i hi hn] at hb
  exact ⟨cs,t,fr,hb,ht⟩)
theorem Kp.not {w:World} {g:Nat} {cs:Array Value} {t:TypeId} (h:Blk w g cs t) (ht:t≠128/\t≠96):¬ OpBlk w g:=by
 rintro ⟨cs',t',fr,h',ht'⟩
 rw [show w.heap[g]?=some (.cells cs t (0,0)) from h] at h'
 cases h'
 rcases ht' with h | h
 ·exact ht.1 h
 ·exact ht.2 h
theorem Blk.kp {w w':World} {g:Nat} {cs:Array Value} {t:TypeId} (h:Blk w g cs t) (m:Kp w w') (ht:t≠128/\t≠96):Blk w' g cs t:=h.mods m (Kp.not h ht)
theorem Sl.kp {w w':World} {e:TypeId} {size:Nat} {v:Value} {n:Nat} {xs:List Value} (h:Sl w e size v n xs) (m:Kp w w') (he:e≠128/\e≠96):Sl w' e size v n xs:=by
 refine h.mods m fun k hk hn=>?_
 rcases h.2 with ⟨rfl,rfl⟩ | ⟨g,cap,cur,rfl,_,hg,_⟩
 ·cases hk
 ·cases hk
  exact Kp.not (cs:=cur) hg he hn
theorem Mods.kpSl {w w':World} {v:Value} {n:Nat} {xs:List Value} (h:Sl w 96 1 v n xs) (m:Mods (fun k=>v.ownBlock=some k) w w'):Kp w w' :=
 m.mono fun k _ hk=>by
  rcases h.2 with ⟨rfl,rfl⟩ | ⟨g,cap,cur,rfl,_,hg,_⟩
  ·cases hk
  ·cases hk
   exact ⟨_,_,_,hg,.inr rfl⟩
structure PV where
 f1:Fn
 c1:Array Value
 k2:FuncId
 c2:Array Value
 k3:FuncId
 c3:Array Value
def PV.cells (v:PV) (n:Nat):List Value:=[.int .i64 n,.func v.f1 #[] v.c1,.func (.func v.k2) #[] v.c2,.func (.func v.k3) #[] v.c3]
def Ent (k:FuncId):Prop:=∀ args w,(callFunc k args).run Tryz.prog w=.ok (.enter k args) w
structure PV.Ok (w:World) (p:PK) (v:PV):Prop where
 wr:∀ w' x,Kp w w'->Env w'->x.Fit->Calls Tryz.prog v.k2 (#[.agg x.cells]++v.c2) w' fun e w''=>e=.returned (.string (T (p.write x)))/\Mods Nil' w' w''
 ri:∀ w' x,Kp w w'->x.Fit->Calls Tryz.prog v.k3 (#[.agg x.cells]++v.c3) w' fun e w''=>e=.returned (.bool (p.right x))/\Mods Nil' w' w''
 e2:Ent v.k2
 e3:Ent v.k3
theorem PV.Ok.kp {w w':World} {p:PK} {v:PV} (h:v.Ok w p) (m:Kp w w'):v.Ok w' p :=
 ⟨fun w2 x m2=>h.wr w2 x (m.trans m2),fun w2 x m2=>h.ri w2 x (m.trans m2),h.e2,h.e3⟩
def PartPost (w:World) (p:PK) (e:Ending) (w':World):Prop:=∃ v:PV,e=.returned (.agg (v.cells p.fills).toArray)/\v.Ok w' p/\Mods Nil' w w'
set_option maxHeartbeats 400000 in
theorem part_source (w:World):Calls Tryz.prog 83 #[] w fun e w'=>PartPost w .source e w':=by
 go_enter Tryz.func83,Tryz.ntmps83
 go_wp2_with fail
 refine bodyPost_ret (results_cell_row Tryz.results83 _ _ w.heap.size 146 _ (0,0) _ rfl (Blk.new _ _ _) Tryz.underlying146 rfl (by kernel_rfl)) rfl ⟨⟨_,_,_,_,_,_⟩,rfl,?_,(Mods.refl _ _).alloc _⟩
 exact ⟨fun w' x _ hE hx=>by simpa using srcW_any x hx w' hE,fun w' x _ hx=>by simpa using srcR_any x hx w',enters_of Tryz.func129 (by kernel_rfl) rfl,enters_of Tryz.func131 (by kernel_rfl) rfl⟩
set_option maxHeartbeats 400000 in
theorem operand_val (w:World):Calls Tryz.prog 93 #[] w fun e w'=>e=.returned (.agg #[.int .i64 1,.func (.func 165) #[] #[],.func (.func 166) #[] #[],.func (.func 167) #[] #[]])/\Mods Nil' w w':=by
 go_enter Tryz.func93,Tryz.ntmps93
 go_wp2_with fail
 exact bodyPost_ret (results_cell_row Tryz.results93 _ _ w.heap.size 146 _ (0,0) _ rfl (Blk.new _ _ _) Tryz.underlying146 rfl (by kernel_rfl)) rfl ⟨rfl,(Mods.refl _ _).alloc _⟩
theorem part_operand (w:World):Calls Tryz.prog 93 #[] w fun e w'=>PartPost w .operand e w' :=
 (operand_val w).mono fun _ _ h=>⟨⟨_,_,_,_,_,_⟩,h.1,⟨fun w' x _ hE hx=>by simpa using opdW_any x hx w' hE,fun w' x _ hx=>by simpa using opdR_any x hx w',enters_of Tryz.func166 (by kernel_rfl) rfl,enters_of Tryz.func167 (by kernel_rfl) rfl⟩,h.2⟩
set_option maxHeartbeats 400000 in
theorem part_number (w:World):Calls Tryz.prog 84 #[] w fun e w'=>PartPost w .number e w':=by
 go_enter Tryz.func84,Tryz.ntmps84
 go_wp2_with fail
 refine bodyPost_ret (results_cell_row Tryz.results84 _ _ w.heap.size 146 _ (0,0) _ rfl (Blk.new _ _ _) Tryz.underlying146 rfl (by kernel_rfl)) rfl ⟨⟨_,_,_,_,_,_⟩,rfl,?_,(Mods.refl _ _).alloc _⟩
 exact ⟨fun w' x _ hE hx=>by simpa using numW_any x hx w' hE,fun w' x _ hx=>by simpa [PK.right] using always_any x w',enters_of Tryz.func135 (by kernel_rfl) rfl,enters_of Tryz.func137 (by kernel_rfl) rfl⟩
set_option maxHeartbeats 400000 in
theorem part_label (w:World):Calls Tryz.prog 94 #[] w fun e w'=>PartPost w .label e w':=by
 go_enter Tryz.func94,Tryz.ntmps94
 go_wp2_with fail
 refine bodyPost_ret (results_cell_row Tryz.results94 _ _ w.heap.size 146 _ (0,0) _ rfl (Blk.new _ _ _) Tryz.underlying146 rfl (by kernel_rfl)) rfl ⟨⟨_,_,_,_,_,_⟩,rfl,?_,(Mods.refl _ _).alloc _⟩
 exact ⟨fun w' x _ hE hx=>by simpa using labW_any x w',fun w' x _ hx=>by simpa [PK.right] using always_any x w',enters_of Tryz.func170 (by kernel_rfl) rfl,enters_of Tryz.func137 (by kernel_rfl) rfl⟩
set_option maxHeartbeats 400000 in
theorem part_offset (w:World):Calls Tryz.prog 99 #[] w fun e w'=>PartPost w .offset e w':=by
 go_enter Tryz.func99,Tryz.ntmps99
 go_wp2_with fail
 refine bodyPost_ret (results_cell_row Tryz.results99 _ _ w.heap.size 146 _ (0,0) _ rfl (Blk.new _ _ _) Tryz.underlying146 rfl (by kernel_rfl)) rfl ⟨⟨_,_,_,_,_,_⟩,rfl,?_,(Mods.refl _ _).alloc _⟩
 exact ⟨fun w' x _ hE hx=>by simpa using offW_any x hx w' hE,fun w' x _ hx=>by simpa [PK.right] using always_any x w',enters_of Tryz.func189 (by kernel_rfl) rfl,enters_of Tryz.func137 (by kernel_rfl) rfl⟩
set_option maxHeartbeats 400000 in
theorem part_wide (w:World):Calls Tryz.prog 103 #[] w fun e w'=>PartPost w .wide e w':=by
 go_enter Tryz.func103,Tryz.ntmps103
 go_wp2_with fail
 refine bodyPost_ret (results_cell_row Tryz.results103 _ _ w.heap.size 146 _ (0,0) _ rfl (Blk.new _ _ _) Tryz.underlying146 rfl (by kernel_rfl)) rfl ⟨⟨_,_,_,_,_,_⟩,rfl,?_,(Mods.refl _ _).alloc _⟩
 exact ⟨fun w' x _ hE hx=>by simpa using wideW_any x hx w' hE,fun w' x _ hx=>by simpa using wideR_any x hx w',enters_of Tryz.func195 (by kernel_rfl) rfl,enters_of Tryz.func196 (by kernel_rfl) rfl⟩
set_option maxHeartbeats 400000 in
theorem part_result (w:World):Calls Tryz.prog 81 #[] w fun e w'=>PartPost w .result e w':=by
 go_enter Tryz.func81,Tryz.ntmps81
 go_wp2_with fail
 refine (operand_val _).mono ?_
 rintro e w1 ⟨rfl,m1⟩
 have hz:Blk (w1.alloc (.cells #[.int .i64 1,.func (.func 165) #[] #[],.func (.func 166) #[] #[],.func (.func 125) #[] #[]] 146)) w.heap.size #[.int .i64 0,.nilFunc,.nilFunc,.nilFunc] 146:=((Blk.new w _ _).mods m1 id).alloc _
 have z0:=hz.cell 0
 have z1:=hz.cell 1
 have z2:=hz.cell 2
 have z3:=hz.cell 3
 have f0:=hz.frozen 0
 have f1':=hz.frozen 1
 have f2:=hz.frozen 2
 have f3:=hz.frozen 3
 simp at z0 z1 z2 z3
 go_wp2_with fail
 refine bodyPost_ret (results_cell_row Tryz.results81 _ _ w.heap.size 146 _ (0,0) _ rfl ((((hz.set 0 _).set 1 _).set 2 _).set 3 _) Tryz.underlying146 rfl (by kernel_rfl)) rfl ⟨⟨_,_,_,_,_,_⟩,rfl,?_,?_⟩
 ·exact ⟨fun w' x _ hE hx=>by simpa [PK.write] using opdW_any x hx w' hE,fun w' x _ hx=>by simpa using resR_any x hx w',enters_of Tryz.func166 (by kernel_rfl) rfl,enters_of Tryz.func125 (by kernel_rfl) rfl⟩
 ·iterate 4 refine Mods.set ?_ (.inr (by simp)) _
  exact (((Mods.refl _ _).alloc _).trans m1).alloc _
abbrev markC (b g:Nat):Array Value:=#[.int .i64 0,.func (.func 226) #[] #[.pointer (some ⟨b,0,none⟩)],.func (.func 228) #[] #[.pointer (some ⟨g,0,none⟩)],.func (.func 137) #[] #[]]
set_option maxHeartbeats 400000 in
theorem mark_val (w:World) (b:Nat) (t:ByteArray):Calls Tryz.prog 126 #[.int .u8 b,.string t] w fun e w' =>
  e=.returned (.agg (markC w.heap.size (w.heap.size+1)))/\Blk w' (w.heap.size+1) #[.string t] 9/\Mods Nil' w w':=by
 have hb3:Blk (((w.alloc (.cells #[.int .u8 b] 5)).alloc (.cells #[.string t] 9)).alloc (.cells (markC w.heap.size (w.heap.size+1)) 146)) (w.heap.size+1+1) (markC w.heap.size (w.heap.size+1)) 146:=by
  have:=Blk.new ((w.alloc (.cells #[.int .u8 b] 5)).alloc (.cells #[.string t] 9)) (markC w.heap.size (w.heap.size+1)) 146
  simpa using this
 have hb:Blk ((w.alloc (.cells #[.int .u8 b] 5)).alloc (.cells #[.string t] 9)) (w.heap.size+1) #[.string t] 9:=by
  have:=Blk.new (w.alloc (.cells #[.int .u8 b] 5)) #[.string t] 9
  simpa using this
 go_enter Tryz.func126,Tryz.ntmps126
 go_wp2_with fail
 exact bodyPost_ret (results_cell_row Tryz.results126 _ _ (w.heap.size+1+1) 146 _ (0,0) _ rfl hb3 Tryz.underlying146 rfl (by kernel_rfl)) rfl ⟨rfl,hb.alloc _,(((Mods.refl _ _).alloc _).alloc _).alloc _⟩
theorem mark_ok (w:World) (b g:Nat) (t:ByteArray) (p:PK) (hw:∀ x,T (p.write x)=t) (hr:∀ x,p.right x=true) (hb:Blk w g #[.string t] 9):PV.Ok w p ⟨.func 226,#[.pointer (some ⟨b,0,none⟩)],228,#[.pointer (some ⟨g,0,none⟩)],137,#[]⟩:=by
 refine ⟨fun w' x m hE hx=>?_,fun w' x _ hx=>by rw [hr];simpa using always_any x w',enters_of Tryz.func228 (by kernel_rfl) rfl,enters_of Tryz.func137 (by kernel_rfl) rfl⟩
 have h2:=hb.kp m (by decide)
 rw [hw]
 exact markW_any x w' g t (h2.cell 0) h2.lt
set_option maxHeartbeats 400000 in
theorem part_comma (w:World):Calls Tryz.prog 82 #[] w fun e w'=>PartPost w .comma e w':=by
 go_enter Tryz.func82,Tryz.ntmps82
 go_wp2_with fail
 refine (mark_val _ 44 (T [44,32])).mono ?_
 rintro e w1 ⟨rfl,hb1,m1⟩
 have hz:Blk w1 w.heap.size #[.int .i64 0,.nilFunc,.nilFunc,.nilFunc] 146:=(Blk.new w _ _).mods m1 id
 have z0:=hz.cell 0
 have z1:=hz.cell 1
 have z2:=hz.cell 2
 have z3:=hz.cell 3
 have f0:=hz.frozen 0
 have f1:=hz.frozen 1
 have f2:=hz.frozen 2
 have f3:=hz.frozen 3
 simp at z0 z1 z2 z3 hb1
 go_wp2_with fail
 refine bodyPost_ret (results_cell_row Tryz.results82 _ _ w.heap.size 146 _ (0,0) _ rfl ((((hz.set 0 _).set 1 _).set 2 _).set 3 _) Tryz.underlying146 rfl (by kernel_rfl)) rfl ⟨⟨_,_,_,_,_,_⟩,rfl,?_,?_⟩
 ·refine mark_ok _ _ _ (T [44,32]) .comma (fun _=>rfl) (fun _=>rfl) ?_
  iterate 4 refine Blk.setOther ?_ (by simp;omega) _
  exact hb1
 ·iterate 4 refine Mods.set ?_ (.inr (by simp)) _
  exact ((Mods.refl _ _).alloc _).trans m1
set_option maxHeartbeats 400000 in
theorem part_opens (w:World):Calls Tryz.prog 98 #[] w fun e w'=>PartPost w .opens e w':=by
 go_enter Tryz.func98,Tryz.ntmps98
 go_wp2_with fail
 refine (mark_val _ 91 (T [91])).mono ?_
 rintro e w1 ⟨rfl,hb1,m1⟩
 have hz:Blk w1 w.heap.size #[.int .i64 0,.nilFunc,.nilFunc,.nilFunc] 146:=(Blk.new w _ _).mods m1 id
 have z0:=hz.cell 0
 have z1:=hz.cell 1
 have z2:=hz.cell 2
 have z3:=hz.cell 3
 have f0:=hz.frozen 0
 have f1:=hz.frozen 1
 have f2:=hz.frozen 2
 have f3:=hz.frozen 3
 simp at z0 z1 z2 z3 hb1
 go_wp2_with fail
 refine bodyPost_ret (results_cell_row Tryz.results98 _ _ w.heap.size 146 _ (0,0) _ rfl ((((hz.set 0 _).set 1 _).set 2 _).set 3 _) Tryz.underlying146 rfl (by kernel_rfl)) rfl ⟨⟨_,_,_,_,_,_⟩,rfl,?_,?_⟩
 ·refine mark_ok _ _ _ (T [91]) .opens (fun _=>rfl) (fun _=>rfl) ?_
  iterate 4 refine Blk.setOther ?_ (by simp;omega) _
  exact hb1
 ·iterate 4 refine Mods.set ?_ (.inr (by simp)) _
  exact ((Mods.refl _ _).alloc _).trans m1
set_option maxHeartbeats 400000 in
theorem part_shut (w:World):Calls Tryz.prog 100 #[] w fun e w'=>PartPost w .shut e w':=by
 go_enter Tryz.func100,Tryz.ntmps100
 go_wp2_with fail
 refine (mark_val _ 93 (T [93])).mono ?_
 rintro e w1 ⟨rfl,hb1,m1⟩
 have hz:Blk w1 w.heap.size #[.int .i64 0,.nilFunc,.nilFunc,.nilFunc] 146:=(Blk.new w _ _).mods m1 id
 have z0:=hz.cell 0
 have z1:=hz.cell 1
 have z2:=hz.cell 2
 have z3:=hz.cell 3
 have f0:=hz.frozen 0
 have f1:=hz.frozen 1
 have f2:=hz.frozen 2
 have f3:=hz.frozen 3
 simp at z0 z1 z2 z3 hb1
 go_wp2_with fail
 refine bodyPost_ret (results_cell_row Tryz.results100 _ _ w.heap.size 146 _ (0,0) _ rfl ((((hz.set 0 _).set 1 _).set 2 _).set 3 _) Tryz.underlying146 rfl (by kernel_rfl)) rfl ⟨⟨_,_,_,_,_,_⟩,rfl,?_,?_⟩
 ·refine mark_ok _ _ _ (T [93]) .shut (fun _=>rfl) (fun _=>rfl) ?_
  iterate 4 refine Blk.setOther ?_ (by simp;omega) _
  exact hb1
 ·iterate 4 refine Mods.set ?_ (.inr (by simp)) _
  exact ((Mods.refl _ _).alloc _).trans m1
structure PartsAt (w:World) (v:Value) (ps:List PK):Prop where
 ex:∃ pv:List (PK × PV),pv.map (·.1)=ps/\(∀ x∈pv,x.2.Ok w x.1)/\Sl w 146 4 v pv.length (pv.flatMap (fun x=>x.2.cells x.1.fills))
theorem PartsAt.kp {w w':World} {v:Value} {ps:List PK} (h:PartsAt w v ps) (m:Kp w w'):PartsAt w' v ps:=by
 obtain ⟨pv,h1,h2,h3⟩:=h.ex
 exact ⟨pv,h1,fun x hx=>(h2 x hx).kp m,h3.kp m (by decide)⟩
theorem PartsAt.mods {w w':World} {v:Value} {ps:List PK} (h:PartsAt w v ps) (m:Mods Nil' w w'):PartsAt w' v ps:=h.kp m.kp
theorem pwrite_len (x:PIns) (hx:x.Fit) (p:PK):(p.write x).length<=310:=by
 have hd:=itoa_len (x.d:Int) (by omega) (by have:=hx.d;omega)
 have hs:=itoa_len (x.s:Int) (by omega) (by have:=hx.s;omega)
 have hn:=itoa_len x.num (by have:=hx.n0;omega) (by have:=hx.n1;omega)
 have hj:=itoa_len x.jump (by have:=hx.j0;omega) (by have:=hx.j1;omega)
 have hw:(Lib.decDigits x.wide).length<=20:=by rw [Lib.decDigits_length];exact Lib.nDigits_le20 _ (wide_lt x)
 have hl:=hx.l
 have hm:=hx.m
 rw [<- BL_len] at hl hm;unfold PK.write
 split<;>simp [regP,offP,wideP]<;>(try split)<;>(try split)<;>(try simp)<;>omega
theorem builder_mods {T e:TypeId} {B b:Nat} {bs:List Value} {w w':World} (h:Lib.IsBuilderF T e B b bs w) (m:Mods Nil' w w'):Lib.IsBuilderF T e B b bs w':=by
 have key:∀ p,Lib.BuilderAtF T e B b p bs w->Lib.BuilderAtF T e B b p bs w':=by
  rintro p ⟨h1,v,h2,h3,h4⟩
  refine ⟨h1,v,(m.block b (Array.getElem?_eq_some_iff.1 h2).1 id).trans h2,⟨h3.1,?_⟩,h4⟩
  rcases h3.2 with hn | ⟨g,cap,cur,fz,hv,hb,hg,rest⟩
  ·exact .inl hn
  ·exact .inr ⟨g,cap,cur,fz,hv,hb,(m.block g (Array.getElem?_eq_some_iff.1 hg).1 id).trans hg,rest⟩
 rcases h with h | h
 ·exact .inl (key _ h)
 ·exact .inr (key _ h)
theorem builder_new (w:World):Lib.IsBuilderF 254 5 w.heap.size w.heap.size [] (w.alloc (.cells #[.pointer none,.slice none 0 0] 254)) :=
 .inl ⟨Nat.le_refl _,.slice none 0 0,heap_alloc_new w _,⟨rfl,.inl ⟨rfl,rfl⟩⟩,by simp [Value.ownBlock]⟩
theorem bwrite_any (B b:Nat) (l:List UInt8) (s:ByteArray) (w:World) (h:Lib.IsBuilderF 254 5 B b (Lib.byteCells l) w) (hlen:l.length+s.size<=140737488355328) (hBw:B<=w.heap.size) :
  Calls Tryz.prog 239 #[.pointer (some ⟨b,0,none⟩),.string s] w fun e w'=>e=.returned (.tuple #[.int .i64 s.size,.nilIface])/\Lib.IsBuilderF 254 5 B b (Lib.byteCells (l++BL s)) w'/\Below B w w'/\Lib.OthersKept 5 (some b) w w' :=
 (Any.Builder_WriteString_k Tryz.lw Tryz.extra_lw B b (Lib.byteCells l) s w h (by rw [Lib.byteCells_length];exact hlen) hBw).mono fun _ _ ⟨he,h1,h2,h3⟩=>⟨he,.inr (by
  have e:Lib.byteCells (l++BL s)=Lib.byteCells l++Lib.strCells s:=by simp [Lib.byteCells,Lib.strCells,BL]
  rw [e];exact h1),h2,h3⟩
theorem kept_blk {e:TypeId} {b g:Nat} {w w':World} {cs:Array Value} {t:TypeId} (h:Lib.OthersKept e (some b) w w') (hg:Blk w g cs t) (hb:g≠b) (ht:t≠e):Blk w' g cs t :=
 h g _ hg (fun h=>hb (Option.some.inj h)) (fun c fz h=>ht (by cases h;rfl))
theorem bstring_any (B b:Nat) (l:List UInt8) (w:World) (h:Lib.IsBuilderF 254 5 B b (Lib.byteCells l) w) (hBw:B<=w.heap.size) :
  Calls Tryz.prog 240 #[.pointer (some ⟨b,0,none⟩)] w fun e w'=>e=.returned (.string (T l))/\Below B w w' :=
 (Any.Builder_String_any_k Tryz.ls Tryz.extra_ls B b l w h hBw).mono fun _ _ ⟨he,_,h2,_⟩=>⟨he,h2⟩
theorem parts_at {w:World} {pv:List (PK × PV)} {v:Value} (h:Sl w 146 4 v pv.length (pv.flatMap (fun x=>x.2.cells x.1.fills))) {o:Option Addr} {c:Nat} (hv:v=.slice o pv.length c) (k:Nat) (hk:k<pv.length) :
  ∃ g,o=some ⟨g,0,none⟩/\g<w.heap.size/\w.cell? ⟨g,k*4,none⟩=some (.int .i64 pv[k].1.fills)/\w.cell? ⟨g,k*4+1,none⟩=some (.func pv[k].2.f1 #[] pv[k].2.c1) /\
   w.cell? ⟨g,k*4+2,none⟩=some (.func (.func pv[k].2.k2) #[] pv[k].2.c2)/\w.cell? ⟨g,k*4+3,none⟩=some (.func (.func pv[k].2.k3) #[] pv[k].2.c3):=by
 obtain ⟨o',c',hv',h2⟩:=h.view;rw [hv] at hv'
 cases hv'
 obtain ⟨g,cs,rfl,hb,ht,_⟩:=h2 (by omega)
 refine ⟨g,rfl,hb.lt,?_,?_,?_,?_⟩
 all_goals rw [take_cell hb ht _ (by omega)]
 ·exact (flat_get (fun x:PK × PV=>x.2.cells x.1.fills) 4 (fun _=>rfl) pv k 0 hk (by omega)).trans rfl
 ·exact (flat_get (fun x:PK × PV=>x.2.cells x.1.fills) 4 (fun _=>rfl) pv k 1 hk (by omega)).trans rfl
 ·exact (flat_get (fun x:PK × PV=>x.2.cells x.1.fills) 4 (fun _=>rfl) pv k 2 hk (by omega)).trans rfl
 ·exact (flat_get (fun x:PK × PV=>x.2.cells x.1.fills) 4 (fun _=>rfl) pv k 3 hk (by omega)).trans rfl
def accP (x:PIns) (word:List UInt8) (ps:List PK) (k:Nat):List UInt8:=word++(if k=0 then [] else [32])++(ps.take k).flatMap (PK.write x)
theorem accP_zero (x:PIns) (word:List UInt8) (ps:List PK):accP x word ps 0=word:=by simp [accP]
theorem accP_first (x:PIns) (word:List UInt8) (ps:List PK) (h:0<ps.length):accP x word ps 1=(word++([32]:List UInt8))++PK.write x ps[0]:=by
 match ps,h with
 | p::ps,_=>simp [accP]
theorem accP_step (x:PIns) (word:List UInt8) (ps:List PK) (k:Nat) (h:k<ps.length) (h0:k≠0):accP x word ps (k+1)=accP x word ps k++PK.write x ps[k]:=by
 unfold accP
 rw [if_neg h0,if_neg (by omega),List.take_succ_eq_append_getElem h,List.flatMap_append]
 simp [List.append_assoc]
theorem accP_end (x:PIns) (word:List UInt8) (ps:List PK):accP x word ps ps.length=word++(if ps=[] then [] else [32])++ps.flatMap (PK.write x):=by
 simp [accP]
theorem accP_len (x:PIns) (hx:x.Fit) (word:List UInt8):∀ (ps:List PK) (k:Nat),(accP x word ps k).length<=word.length+1+310*ps.length:=by
 intro ps k
 have h:∀ l:List PK,(l.flatMap (PK.write x)).length<=310*l.length:=by
  intro l
  induction l with
  | nil=>simp
  | cons p l ih=>have:=pwrite_len x hx p;simp only [List.flatMap_cons,List.length_append,List.length_cons];omega
 have h1:=h (ps.take k)
 have h2:(ps.take k).length<=ps.length:=by simp;omega
 have h3:(if k=0 then ([]:List UInt8) else [32]).length<=1:=by split<;>simp
 simp only [accP,List.length_append]
 omega
end Go.Proofs.YtoknbkfclhmapaaGreatDoor
