import Derived.Test.YtoknbkfclhmapaaGreatDoorC08
import Derived.Laws.Tables
import Derived.Test.YtoknbkfclhmapaaGreatDoorC02
namespace Go.Proofs.YtoknbkfclhmapaaGreatDoor
open Go.RowKit
theorem rdp_any (w:World) (v:Value) (hv:∃ o n c,v=.slice o n c):Calls Tryz.prog 154 #[v] w fun e w'=>e=.returned (.func (.func 237) #[] #[.pointer (some ⟨w.heap.size,0,none⟩)])/\Mods Nil' w w':=by
 obtain ⟨o,n,c,rfl⟩:=hv
 go_enter Tryz.func154,Tryz.ntmps154
 go_wp2_with fail;go_ret
 exact ⟨rfl,(Mods.refl _ _).alloc _⟩
theorem wrp_any (w:World) (t:ByteArray) (v:Value) (hv:∃ o n c,v=.slice o n c):Calls Tryz.prog 155 #[.string t,v] w fun e w'=>e=.returned (.func (.func 238) #[] #[.pointer (some ⟨w.heap.size,0,none⟩),.pointer (some ⟨w.heap.size+1,0,none⟩)]) /\
  Blk w' w.heap.size #[.string t] 9/\Blk w' (w.heap.size+1) #[v] 148/\Mods Nil' w w':=by
 obtain ⟨o,n,c,rfl⟩:=hv
 have hb:Blk ((w.alloc (.cells #[.string t] 9)).alloc (.cells #[.slice o n c] 148)) (w.heap.size+1) #[.slice o n c] 148:=by
  have:=Blk.new (w.alloc (.cells #[.string t] 9)) #[.slice o n c] 148
  simpa using this
 go_enter Tryz.func155,Tryz.ntmps155
 go_wp2_with fail;go_ret
 exact ⟨rfl,(Blk.new w _ _).alloc _,hb,((Mods.refl _ _).alloc _).alloc _⟩
structure OpSem (w:World) (k7:FuncId) (c7:Array Value) (k8:FuncId) (c8:Array Value) (o:OpS):Prop where
 wr:∀ w' x,Kp w w'->Env w'->x.Fit->o.needs x=true->Calls Tryz.prog k7 (#[.agg x.cells]++c7) w' fun e w''=>e=.returned (.string (T (o.write x)))/\Mods Nil' w' w''
 nd:∀ w' x,Kp w w'->x.Fit->Calls Tryz.prog k8 (#[.agg x.cells]++c8) w' fun e w''=>e=.returned (.bool (o.needs x))/\Mods Nil' w' w''
 e7:Ent k7
 e8:Ent k8
theorem OpSem.kp {w w':World} {k7:FuncId} {c7:Array Value} {k8:FuncId} {c8:Array Value} {o:OpS} (h:OpSem w k7 c7 k8 c8 o) (m:Kp w w'):OpSem w' k7 c7 k8 c8 o :=
 ⟨fun w2 x m2=>h.wr w2 x (m.trans m2),fun w2 x m2=>h.nd w2 x (m.trans m2),h.e7,h.e8⟩
structure OpAt (w:World) (b:Nat) (o:OpS):Prop where
 ex:∃ (o1:Option Addr) (n1 c1:Nat) (f6:Fn) (c6:Array Value) (k7:FuncId) (c7:Array Value) (k8:FuncId) (c8:Array Value) (f9:Fn) (c9:Array Value),
  Blk w b #[.int .u8 o.code,.slice o1 n1 c1,.int .i64 o.slots,.bool o.jumps,.bool o.ends,.int .i64 o.refers,.func f6 #[] c6,.func (.func k7) #[] c7,.func (.func k8) #[] c8,.func f9 #[] c9] 128/\OpSem w k7 c7 k8 c8 o
theorem OpAt.mods {w w':World} {b:Nat} {o:OpS} (h:OpAt w b o) (m:Mods Nil' w w'):OpAt w' b o:=by
 obtain ⟨o1,n1,c1,f6,c6,k7,c7,k8,c8,f9,c9,h1,h2⟩:=h.ex
 exact ⟨o1,n1,c1,f6,c6,k7,c7,k8,c8,f9,c9,h1.mods m id,h2.kp m.kp⟩
theorem OpAt.lt {w:World} {b:Nat} {o:OpS} (h:OpAt w b o):b<w.heap.size:=by
 obtain ⟨o1,n1,c1,f6,c6,k7,c7,k8,c8,f9,c9,h1,h2⟩:=h.ex;exact h1.lt
theorem OpAt.opblk {w:World} {b:Nat} {o:OpS} (h:OpAt w b o):OpBlk w b:=by
 obtain ⟨o1,n1,c1,f6,c6,k7,c7,k8,c8,f9,c9,h1,h2⟩:=h.ex
 exact ⟨_,_,_,h1,.inl rfl⟩
theorem Kp.set {w:World} {b:Nat} (h:OpBlk w b) (i:Nat) (v:Value):Kp w (w.setCell ⟨b,i,none⟩ v):=(Mods.refl (OpBlk w) w).set (a:=⟨b,i,none⟩) (.inl h) v
theorem OpAt.kpb {w w':World} {b:Nat} {o:OpS} (h:OpAt w b o) (m:Kp w w') (hb:w'.heap[b]?=w.heap[b]?):OpAt w' b o:=by
 obtain ⟨o1,n1,c1,f6,c6,k7,c7,k8,c8,f9,c9,h1,h2⟩:=h.ex
 exact ⟨o1,n1,c1,f6,c6,k7,c7,k8,c8,f9,c9,hb.trans h1,h2.kp m⟩
theorem OpAt.other {w:World} {b b':Nat} {o:OpS} (h:OpAt w b o) (hb:OpBlk w b') (hne:b'≠b) (i:Nat) (v:Value):OpAt (w.setCell ⟨b',i,none⟩ v) b o:=by
 obtain ⟨o1,n1,c1,f6,c6,k7,c7,k8,c8,f9,c9,h1,h2⟩:=h.ex
 exact ⟨o1,n1,c1,f6,c6,k7,c7,k8,c8,f9,c9,h1.setOther hne _,h2.kp (Kp.set hb i v)⟩
theorem OpAt.jumps {w:World} {b:Nat} {o:OpS} (h:OpAt w b o):OpAt (w.setCell ⟨b,3,none⟩ (.bool true)) b { o with jumps:=true }:=by
 have hk:=Kp.set h.opblk 3 (.bool true)
 obtain ⟨o1,n1,c1,f6,c6,k7,c7,k8,c8,f9,c9,h1,h2⟩:=h.ex
 have h3:=h2.kp hk
 exact ⟨o1,n1,c1,f6,c6,k7,c7,k8,c8,f9,c9,h1.set 3 _,⟨h3.wr,h3.nd,h3.e7,h3.e8⟩⟩
theorem OpAt.ends {w:World} {b:Nat} {o:OpS} (h:OpAt w b o):OpAt (w.setCell ⟨b,4,none⟩ (.bool true)) b { o with ends:=true }:=by
 have hk:=Kp.set h.opblk 4 (.bool true)
 obtain ⟨o1,n1,c1,f6,c6,k7,c7,k8,c8,f9,c9,h1,h2⟩:=h.ex
 have h3:=h2.kp hk
 exact ⟨o1,n1,c1,f6,c6,k7,c7,k8,c8,f9,c9,h1.set 4 _,⟨h3.wr,h3.nd,h3.e7,h3.e8⟩⟩
theorem OpAt.slots {w:World} {b:Nat} {o:OpS} (h:OpAt w b o) (n:Nat):OpAt (w.setCell ⟨b,2,none⟩ (.int .i64 n)) b { o with slots:=n }:=by
 have hk:=Kp.set h.opblk 2 (.int .i64 n)
 obtain ⟨o1,n1,c1,f6,c6,k7,c7,k8,c8,f9,c9,h1,h2⟩:=h.ex
 have h3:=h2.kp hk
 exact ⟨o1,n1,c1,f6,c6,k7,c7,k8,c8,f9,c9,h1.set 2 _,⟨h3.wr,h3.nd,h3.e7,h3.e8⟩⟩
theorem OpAt.refers {w:World} {b:Nat} {o:OpS} (h:OpAt w b o) (n:Nat):OpAt (w.setCell ⟨b,5,none⟩ (.int .i64 n)) b { o with refers:=n }:=by
 have hk:=Kp.set h.opblk 5 (.int .i64 n)
 obtain ⟨o1,n1,c1,f6,c6,k7,c7,k8,c8,f9,c9,h1,h2⟩:=h.ex
 have h3:=h2.kp hk
 exact ⟨o1,n1,c1,f6,c6,k7,c7,k8,c8,f9,c9,h1.set 5 _,⟨h3.wr,h3.nd,h3.e7,h3.e8⟩⟩
theorem row_sem (w:World) (bw bp b1 b2:Nat) (code:Nat) (word:List UInt8) (v:Value) (ps:List PK) (hw:Blk w bw #[.string (T word)] 9) (hp:Blk w bp #[v] 148) (hn:Blk w b1 #[v] 148) (hf:Blk w b2 #[.int .i64 (filledOf ps)] 144)
  (hP:PartsAt w v ps) (hwl:word.length<=100) (hpl:ps.length<=10):OpSem w 238 #[.pointer (some ⟨bw,0,none⟩),.pointer (some ⟨bp,0,none⟩)] 241 #[.pointer (some ⟨b1,0,none⟩),.pointer (some ⟨b2,0,none⟩)] (rowS code word ps) where
 wr:=fun w' x m hE hx _=>write1_any x hx w' hE bw bp word v ps (hw.kp m (by decide)) (hp.kp m (by decide)) (hP.kp m) hwl hpl
 nd:=fun w' x m hx=>need1_any x hx w' b1 b2 _ v ps (filled_lt ps) (hn.kp m (by decide)) (hf.kp m (by decide)) (hP.kp m) hpl
 e7:=enters_of Tryz.func238 (by kernel_rfl) rfl
 e8:=enters_of Tryz.func241 (by kernel_rfl) rfl
set_option maxRecDepth 100000 in
set_option maxHeartbeats 1000000 in
theorem row_any (w:World) (code:Nat) (word:List UInt8) (v:Value) (ps:List PK) (f9:Fn) (c9:Array Value) (hP:PartsAt w v ps) (hwl:word.length<=100) (hpl:ps.length<=10) :
  Calls Tryz.prog 86 #[.int .u8 code,.string (T word),v,.func f9 #[] c9] w fun e w'=>∃ b,e=.returned (.pointer (some ⟨b,0,none⟩))/\OpAt w' b (rowS code word ps)/\w.heap.size<=b/\Mods Nil' w w':=by
 have hv:∃ o n c,v=.slice o n c:=by
  obtain ⟨pv,_,_,hS⟩:=hP.ex;obtain ⟨o,c,rfl,_⟩:=hS.view
  exact ⟨_,_,_,rfl⟩
 have HP:=hid hP;clear hP;obtain ⟨o,n,c,rfl⟩:=hv
 have m0:Mods Nil' w (w.alloc (.cells #[.string (T word)] 9)):=(Mods.refl _ _).alloc _
 have HM0:Hid _:=m0
 clear m0
 go_enter Tryz.func86,Tryz.ntmps86
 go_wp2_with fail
 refine (rdp_any _ _ ⟨_,_,_,rfl⟩).mono ?_
 rintro e w1 ⟨rfl,m1⟩
 have HM1:Hid (Mods Nil' w w1):=HM0.out.trans m1
 clear m1;go_wp2_with fail
 refine (wrp_any _ _ _ ⟨_,_,_,rfl⟩).mono ?_
 rintro e w2 ⟨rfl,hw2,hp2,m2⟩;have HW2:=hid hw2;have HP2:=hid hp2
 have HM2:Hid (Mods Nil' w w2):=HM1.out.trans m2
 clear m2 hw2 hp2;go_wp2_with fail
 refine (need_any _ _ _ (HP.out.mods HM2.out) hpl).mono ?_
 rintro e w3 ⟨rfl,h1,h2,m3⟩
 have HM3:Hid (Mods Nil' w w3):=HM2.out.trans m3
 have HO:Hid (OpSem w3 238 #[.pointer (some ⟨w1.heap.size,0,none⟩),.pointer (some ⟨w1.heap.size+1,0,none⟩)] 241 #[.pointer (some ⟨w2.heap.size,0,none⟩),.pointer (some ⟨w2.heap.size+1,0,none⟩)] (rowS code word ps)) :=
  row_sem w3 _ _ _ _ code word _ ps (HW2.out.mods m3 id) (HP2.out.mods m3 id) h1 h2 (HP.out.mods HM3.out) hwl hpl
 clear m3 h1 h2;go_wp2_with fail;go_ret
 exact ⟨w3.heap.size,rfl,⟨_,_,_,_,_,_,_,_,_,_,_,Blk.new _ _ _,HO.out.kp ((Mods.refl _ _).alloc _).kp⟩,HM3.out.size,HM3.out.alloc _⟩
def FnPost (w:World) (e:Ending) (w':World):Prop:=∃ f c,e=.returned (.func f #[] c)/\Mods Nil' w w'
set_option maxHeartbeats 400000 in
theorem become_any (w:World) (f1 f2:Fn) (a1 a2:Array Value):Calls Tryz.prog 87 #[.func f1 #[] a1,.func f2 #[] a2] w fun e w'=>FnPost w e w':=by
 go_enter Tryz.func87,Tryz.ntmps87
 go_wp2_with fail;go_ret
 exact ⟨_,_,rfl,by repeat (first | exact Mods.refl _ _ | refine Mods.alloc ?_ _)⟩
set_option maxHeartbeats 400000 in
theorem goOnIf_any (w:World) (f1 f2:Fn) (a1 a2:Array Value):Calls Tryz.prog 97 #[.func f1 #[] a1,.func f2 #[] a2] w fun e w'=>FnPost w e w':=by
 go_enter Tryz.func97,Tryz.ntmps97
 go_wp2_with fail;go_ret
 exact ⟨_,_,rfl,by repeat (first | exact Mods.refl _ _ | refine Mods.alloc ?_ _)⟩
set_option maxHeartbeats 400000 in
theorem mload_any (w:World) (n:Int):Calls Tryz.prog 101 #[.int .i64 n] w fun e w'=>FnPost w e w':=by
 go_enter Tryz.func101,Tryz.ntmps101
 go_wp2_with fail;go_ret
 exact ⟨_,_,rfl,by repeat (first | exact Mods.refl _ _ | refine Mods.alloc ?_ _)⟩
set_option maxHeartbeats 400000 in
theorem mstore_any (w:World) (n:Int) (f1:Fn) (a1:Array Value):Calls Tryz.prog 102 #[.int .i64 n,.func f1 #[] a1] w fun e w'=>FnPost w e w':=by
 go_enter Tryz.func102,Tryz.ntmps102
 go_wp2_with fail;go_ret
 exact ⟨_,_,rfl,by repeat (first | exact Mods.refl _ _ | refine Mods.alloc ?_ _)⟩
set_option maxHeartbeats 400000 in
theorem in64_any (w:World) (f1:Fn) (a1:Array Value):Calls Tryz.prog 90 #[.func f1 #[] a1] w fun e w'=>FnPost w e w':=by
 go_enter Tryz.func90,Tryz.ntmps90
 go_wp2_with fail;go_ret
 exact ⟨_,_,rfl,by repeat (first | exact Mods.refl _ _ | refine Mods.alloc ?_ _)⟩
set_option maxHeartbeats 400000 in
theorem in32_any (w:World) (f1:Fn) (a1:Array Value):Calls Tryz.prog 92 #[.func f1 #[] a1] w fun e w'=>FnPost w e w':=by
 go_enter Tryz.func92,Tryz.ntmps92
 go_wp2_with fail;go_ret
 exact ⟨_,_,rfl,by repeat (first | exact Mods.refl _ _ | refine Mods.alloc ?_ _)⟩
set_option maxHeartbeats 400000 in
theorem unsigned_any (w:World) (f1:Fn) (a1:Array Value):Calls Tryz.prog 176 #[.func f1 #[] a1] w fun e w'=>FnPost w e w':=by
 go_enter Tryz.func176,Tryz.ntmps176
 go_wp2_with fail;go_ret
 exact ⟨_,_,rfl,by repeat (first | exact Mods.refl _ _ | refine Mods.alloc ?_ _)⟩
set_option maxHeartbeats 400000 in
theorem signed_any' (w:World) (f1:Fn) (a1:Array Value):Calls Tryz.prog 181 #[.func f1 #[] a1] w fun e w'=>FnPost w e w':=by
 go_enter Tryz.func181,Tryz.ntmps181
 go_wp2_with fail
 refine (unsigned_any _ _ _).mono ?_
 rintro e w1 ⟨f,c,rfl,m1⟩;go_wp2_with fail;go_ret
 exact ⟨_,_,rfl,((Mods.refl _ _).alloc _).trans m1⟩
set_option maxHeartbeats 400000 in
theorem orOff_any (w:World) (f1:Fn) (a1:Array Value):Calls Tryz.prog 140 #[.func f1 #[] a1] w fun e w'=>FnPost w e w':=by
 go_enter Tryz.func140,Tryz.ntmps140
 go_wp2_with fail
 refine (in64_any _ _ _).mono ?_
 rintro e w1 ⟨f,c,rfl,m1⟩;go_wp2_with fail;go_ret
 exact ⟨_,_,rfl,(((Mods.refl _ _).alloc _).trans m1).alloc _⟩
set_option maxHeartbeats 400000 in
theorem numeric_any (w:World) (t:ByteArray) (f1:Fn) (a1:Array Value):Calls Tryz.prog 143 #[.string t,.func f1 #[] a1] w fun e w'=>∃ f2 c2 f3 c3,e=.returned (.agg #[.string t,.func f2 #[] c2,.func f3 #[] c3])/\Mods Nil' w w':=by
 go_enter Tryz.func143,Tryz.ntmps143
 go_wp2_with fail
 refine (in64_any _ _ _).mono ?_
 rintro e w1 ⟨f2,c2,rfl,m1⟩;go_wp2_with fail
 refine (in32_any _ _ _).mono ?_
 rintro e w2 ⟨f3,c3,rfl,m2⟩
 have hz:=((Blk.new w #[.string ⟨#[]⟩,.nilFunc,.nilFunc] 151).mods m1 id).mods m2 id
 have z0:=hz.cell 0
 have z1:=hz.cell 1
 have z2:=hz.cell 2
 have g0:=hz.frozen 0
 have g1:=hz.frozen 1
 have g2:=hz.frozen 2
 simp at z0 z1 z2
 go_wp2_with fail
 refine bodyPost_ret (results_cell_row Tryz.results143 _ _ w.heap.size 151 _ (0,0) _ rfl (((hz.set 0 _).set 1 _).set 2 _) Tryz.underlying151 rfl (by kernel_rfl)) rfl ⟨_,_,_,_,rfl,?_⟩
 iterate 3 refine Mods.set ?_ (.inr (by simp)) _
 exact (((Mods.refl _ _).alloc _).trans m1).trans m2
structure AV where
 f1:Fn
 c1:Array Value
 f2:Fn
 c2:Array Value
def AV.cells (t:List UInt8) (v:AV):List Value:=[.string (T t),.func v.f1 #[] v.c1,.func v.f2 #[] v.c2]
def arC (avs:List AV):List Value:=(arithW.zip avs).flatMap (fun x=>x.2.cells x.1)
theorem Mods.setRow {S:Nat->Prop} {w w':World} (h:Mods S w w') {g:Nat} (hg:S g\/w.heap.size<=g) (cs:Array Value):Mods S w (w'.setRow g cs) :=
 ⟨h.os,h.tape,h.output,by have:=h.size;simp [World.setRow];omega,fun k hk hs=>by
  rw [setRow_other _ _ _ _ (by rintro rfl;rcases hg with hg | hg;exact hs hg;omega)];exact h.block k hk hs⟩
theorem Blk.setRow {w:World} {g:Nat} {cs:Array Value} {t:TypeId} (h:Blk w g cs t) (cs':Array Value):Blk (w.setRow g cs') g cs' t:=setRow_heap w g cs cs' t (0,0) h
theorem arC_one (avs:List AV):(arC avs).toArray.all (·.oneCell')=true:=by
 rw [List.all_toArray,List.all_eq_true];intro v hv;obtain ⟨x,_,hx⟩:=List.mem_flatMap.1 hv
 simp only [AV.cells,List.mem_cons,List.not_mem_nil,or_false] at hx
 rcases hx with rfl | rfl | rfl<;>rfl
set_option maxRecDepth 100000 in
set_option maxHeartbeats 2000000 in
theorem ariths_any (w:World):Calls Tryz.prog 85 #[] w fun e w'=>∃ avs:List AV,avs.length=12/\e=.returned (.agg (arC avs).toArray)/\Mods Nil' w w':=by
 go_enter Tryz.func85,Tryz.ntmps85
 go_wp2_with fail
 refine (orOff_any _ _ _).mono ?_
 rintro e w1 ⟨x1a,x1b,rfl,m1⟩
 have M1:=m1
 clear m1;go_wp2_with fail
 refine (in32_any _ _ _).mono ?_
 rintro e w2 ⟨x2a,x2b,rfl,m2⟩
 have M2:=M1.trans m2
 clear m2 M1;go_wp2_with fail
 refine (orOff_any _ _ _).mono ?_
 rintro e w3 ⟨x3a,x3b,rfl,m3⟩
 have M3:=M2.trans m3
 clear m3 M2;go_wp2_with fail
 refine (in32_any _ _ _).mono ?_
 rintro e w4 ⟨x4a,x4b,rfl,m4⟩
 have M4:=M3.trans m4
 clear m4 M3;go_wp2_with fail
 refine (numeric_any _ _ _ _).mono ?_
 rintro e w5 ⟨x5a,x5b,x5c,x5d,rfl,m5⟩
 have M5:=M4.trans m5
 clear m5 M4;go_wp2_with fail
 refine (numeric_any _ _ _ _).mono ?_
 rintro e w6 ⟨x6a,x6b,x6c,x6d,rfl,m6⟩
 have M6:=M5.trans m6
 clear m6 M5;go_wp2_with fail
 refine (numeric_any _ _ _ _).mono ?_
 rintro e w7 ⟨x7a,x7b,x7c,x7d,rfl,m7⟩
 have M7:=M6.trans m7
 clear m7 M6;go_wp2_with fail
 refine (numeric_any _ _ _ _).mono ?_
 rintro e w8 ⟨x8a,x8b,x8c,x8d,rfl,m8⟩
 have M8:=M7.trans m8
 clear m8 M7;go_wp2_with fail
 refine (numeric_any _ _ _ _).mono ?_
 rintro e w9 ⟨x9a,x9b,x9c,x9d,rfl,m9⟩
 have M9:=M8.trans m9
 clear m9 M8;go_wp2_with fail
 refine (numeric_any _ _ _ _).mono ?_
 rintro e w10 ⟨x10a,x10b,x10c,x10d,rfl,m10⟩
 have M10:=M9.trans m10
 clear m10 M9;go_wp2_with fail
 refine (numeric_any _ _ _ _).mono ?_
 rintro e w11 ⟨x11a,x11b,x11c,x11d,rfl,m11⟩
 have M11:=M10.trans m11
 clear m11 M10;go_wp2_with fail
 refine (numeric_any _ _ _ _).mono ?_
 rintro e w12 ⟨x12a,x12b,x12c,x12d,rfl,m12⟩
 have M12:=M11.trans m12
 clear m12 M11;go_wp2_with fail
 refine (numeric_any _ _ _ _).mono ?_
 rintro e w13 ⟨x13a,x13b,x13c,x13d,rfl,m13⟩
 have M13:=M12.trans m13
 clear m13 M12
 have hz:=(Blk.new w _ _).mods M13 id
 have HZ:=hid hz;have HM:=hid M13;clear hz M13
 go_wp2_with (refine wpList_store_row rfl 152 (.tmp 0) (.tmp 17) rfl w.heap.size (arC [⟨.func 138,#[],.func 139,#[]⟩,⟨x1a,x1b,x2a,x2b⟩,⟨x3a,x3b,x4a,x4b⟩,⟨x5a,x5b,x5c,x5d⟩,⟨x6a,x6b,x6c,x6d⟩,⟨x7a,x7b,x7c,x7d⟩,⟨x8a,x8b,x8c,x8d⟩,⟨x9a,x9b,x9c,x9d⟩,⟨x10a,x10b,x10c,x10d⟩,⟨x11a,x11b,x11c,x11d⟩,⟨x12a,x12b,x12c,x12d⟩,⟨x13a,x13b,x13c,x13d⟩]).toArray rfl rfl 152 _ HZ.out (by kernel_rfl) rfl (arC_one _) ?_)
 refine bodyPost_ret (results_cell_row Tryz.results85 _ _ w.heap.size 152 _ (0,0) _ rfl (HZ.out.setRow _) Tryz.underlying152 rfl (by kernel_rfl)) rfl ⟨_,rfl,rfl,?_⟩
 exact (((Mods.refl _ _).alloc _).trans HM.out).setRow (.inr (Nat.le_refl _)) _
structure JV where
 f1:Fn
 c1:Array Value
def JV.cells (t:List UInt8) (v:JV):List Value:=[.string (T t),.func v.f1 #[] v.c1]
def juC (jvs:List JV):List Value:=(jumpW.zip jvs).flatMap (fun x=>x.2.cells x.1)
theorem juC_one (jvs:List JV):(juC jvs).toArray.all (·.oneCell')=true:=by
 rw [List.all_toArray,List.all_eq_true];intro v hv;obtain ⟨x,_,hx⟩:=List.mem_flatMap.1 hv
 simp only [JV.cells,List.mem_cons,List.not_mem_nil,or_false] at hx
 rcases hx with rfl | rfl<;>rfl
set_option maxRecDepth 100000 in
set_option maxHeartbeats 2000000 in
theorem jumps_any (w:World):Calls Tryz.prog 96 #[] w fun e w'=>∃ jvs:List JV,jvs.length=11/\e=.returned (.agg (juC jvs).toArray)/\Mods Nil' w w':=by
 go_enter Tryz.func96,Tryz.ntmps96
 go_wp2_with fail
 refine (unsigned_any _ _ _).mono ?_
 rintro e w1 ⟨x1a,x1b,rfl,m1⟩
 have M1:=m1
 clear m1;go_wp2_with fail
 refine (unsigned_any _ _ _).mono ?_
 rintro e w2 ⟨x2a,x2b,rfl,m2⟩
 have M2:=M1.trans m2
 clear m2 M1;go_wp2_with fail
 refine (unsigned_any _ _ _).mono ?_
 rintro e w3 ⟨x3a,x3b,rfl,m3⟩
 have M3:=M2.trans m3
 clear m3 M2;go_wp2_with fail
 refine (unsigned_any _ _ _).mono ?_
 rintro e w4 ⟨x4a,x4b,rfl,m4⟩
 have M4:=M3.trans m4
 clear m4 M3;go_wp2_with fail
 refine (signed_any' _ _ _).mono ?_
 rintro e w5 ⟨x5a,x5b,rfl,m5⟩
 have M5:=M4.trans m5
 clear m5 M4;go_wp2_with fail
 refine (signed_any' _ _ _).mono ?_
 rintro e w6 ⟨x6a,x6b,rfl,m6⟩
 have M6:=M5.trans m6
 clear m6 M5;go_wp2_with fail
 refine (signed_any' _ _ _).mono ?_
 rintro e w7 ⟨x7a,x7b,rfl,m7⟩
 have M7:=M6.trans m7
 clear m7 M6;go_wp2_with fail
 refine (signed_any' _ _ _).mono ?_
 rintro e w8 ⟨x8a,x8b,rfl,m8⟩
 have M8:=M7.trans m8
 clear m8 M7;go_wp2_with fail
 refine (unsigned_any _ _ _).mono ?_
 rintro e w9 ⟨x9a,x9b,rfl,m9⟩
 have M9:=M8.trans m9
 clear m9 M8
 have hz:=(Blk.new w _ _).mods M9 id
 have HZ:=hid hz;have HM:=hid M9;clear hz M9
 go_wp2_with (refine wpList_store_row rfl 162 (.tmp 0) (.tmp 21) rfl w.heap.size (juC [⟨.func 174,#[]⟩,⟨.func 175,#[]⟩,⟨x1a,x1b⟩,⟨x2a,x2b⟩,⟨x3a,x3b⟩,⟨x4a,x4b⟩,⟨x5a,x5b⟩,⟨x6a,x6b⟩,⟨x7a,x7b⟩,⟨x8a,x8b⟩,⟨x9a,x9b⟩]).toArray rfl rfl 162 _ HZ.out (by kernel_rfl) rfl (juC_one _) ?_)
 refine bodyPost_ret (results_cell_row Tryz.results96 _ _ w.heap.size 162 _ (0,0) _ rfl (HZ.out.setRow _) Tryz.underlying162 rfl (by kernel_rfl)) rfl ⟨_,rfl,rfl,?_⟩
 exact (((Mods.refl _ _).alloc _).trans HM.out).setRow (.inr (Nat.le_refl _)) _
def ptrV (b:Nat):Value:=.pointer (some ⟨b,0,none⟩)
structure OpsIn (base:Nat) (w:World) (v:Value) (bs:List Nat) (os:List OpS):Prop where
 len:bs.length=os.length
 nd:bs.Nodup
 sl:Sl w 96 1 v bs.length (bs.map ptrV)
 at':∀ i (h:i<bs.length) (h':i<os.length),OpAt w bs[i] os[i]
 lo:∀ b∈bs,base<=b
 own:∀ k,v.ownBlock=some k->base<=k
theorem OpsIn.nil (base:Nat) (w:World):OpsIn base w (.slice none 0 0) [] [] :=
 ⟨rfl,List.nodup_nil,Sl.nil _ _ _,fun i h=>absurd h (Nat.not_lt_zero _),fun b h=>(by cases h),fun k h=>(by cases h)⟩
theorem OpsIn.mods {base:Nat} {w w':World} {v:Value} {bs:List Nat} {os:List OpS} (h:OpsIn base w v bs os) (m:Mods Nil' w w'):OpsIn base w' v bs os :=
 ⟨h.len,h.nd,h.sl.mods m (fun _ _=>id),fun i h1 h2=>(h.at' i h1 h2).mods m,h.lo,h.own⟩
theorem OpAt.notOwn {w:World} {b:Nat} {o:OpS} (h:OpAt w b o) {v:Value} {n:Nat} {xs:List Value} (hs:Sl w 96 1 v n xs):v.ownBlock≠some b:=by
 obtain ⟨o1,n1,c1,f6,c6,k7,c7,k8,c8,f9,c9,h1,h2⟩:=h.ex;intro hv
 rcases hs.2 with ⟨rfl,rfl⟩ | ⟨g,cap,cur,rfl,_,hg,_⟩
 ·cases hv
 ·cases hv
  unfold Blk at h1;rw [hg] at h1
  cases h1
theorem OpsIn.app {base:Nat} {w w':World} {v v':Value} {bs cs:List Nat} {os ps:List OpS} (h:OpsIn base w v bs os) (hlen:cs.length=ps.length) (hnd:(bs++cs).Nodup) (hat:∀ i (h:i<cs.length) (h':i<ps.length),OpAt w cs[i] ps[i]) (hlo:∀ b∈cs,base<=b)
  (hsl:Sl w' 96 1 v' (bs.length+cs.length) (bs.map ptrV++cs.map ptrV)) (m:Mods (fun k=>v.ownBlock=some k) w w') (ho:∀ k,v'.ownBlock=some k->v.ownBlock=some k\/w.heap.size<=k) (hb:base<=w.heap.size):OpsIn base w' v' (bs++cs) (os++ps):=by
 have hk:=Mods.kpSl h.sl m
 have key:∀ b o,OpAt w b o->OpAt w' b o:=fun b o ha=>ha.kpb hk (m.block b ha.lt (fun e=>ha.notOwn h.sl e))
 refine ⟨by simp [h.len,hlen],hnd,by rw [List.length_append,List.map_append];exact hsl,fun i h1 h2=>?_,fun b hm=>?_,fun k hk'=>?_⟩
 ·rcases Nat.lt_or_ge i bs.length with hi | hi
  ·rw [List.getElem_append_left hi,List.getElem_append_left (by rw [<- h.len];exact hi)]
   exact key _ _ (h.at' i hi _)
  ·rw [List.getElem_append_right hi,List.getElem_append_right (by rw [<- h.len];exact hi)]
   have:=hat (i - bs.length) (by simp at h1;omega) (by rw [<- hlen];simp at h1;omega)
   simp only [<- h.len]
   exact key _ _ this
 ·rcases List.mem_append.1 hm with hm | hm
  ·exact h.lo b hm
  ·exact hlo b hm
 ·rcases ho k hk' with e | e
  ·exact h.own k e
  ·omega
end Go.Proofs.YtoknbkfclhmapaaGreatDoor
