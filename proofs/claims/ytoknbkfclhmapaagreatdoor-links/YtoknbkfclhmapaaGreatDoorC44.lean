import Derived.Test.YtoknbkfclhmapaaGreatDoorC43
import Derived.Test.YtoknbkfclhmapaaGreatDoorC42
import Derived.BigQuiet
import Derived.Deep.RegionWith
import Derived.Deep.LoopGhost
import Derived.Deep.DeepCutAuto
import Derived.Deep.CutBlock
import Derived.Test.YtoknbkfclhmapaaGreatDoorC23
namespace Go.Proofs.YtoknbkfclhmapaaGreatDoor
open Go.RowKit
def HELP:ByteArray:=T [104,101,108,112]
def codeS (i:RIns):Int:=if i.name≠E0 then 1 else if i.s<0 then 0 else if i.word=WIDE then 0 else i.s
def codeN (i:RIns) (n:Int):Int:=if i.word=HELP then 1+placeM i.label helpersL else if i.name≠E0 then n else i.n
def codeM (i:RIns) (jump n:Int):ByteArray :=
 chrs [opM i % 256,i.d+16*codeS i]++chrs (twoL jump)++chrs (fourL (codeN i n))++(if i.word=WIDE then T [0,0,0,0]++chrs (fourL (codeN i n / 4294967296)) else E0)
theorem some_bytes' (w:World) (g:Nat) (l:List Int) (h:∀ x∈l,0<=x/\x<=255) (hb:Blk w g (l.map (Value.int .u8)).toArray 5) :
  Sem.run Tryz.prog (convert 52 9 (.slice (some ⟨g,0,none⟩) l.length l.length)) w=.ok (.string (chrs l)) w:=by
 have key:=run_convert_bytes_back (P:=Tryz.prog) w 52 9 5 ⟨g,0,none⟩ l.length (l.map (fun x=>UInt8.ofNat x.toNat)) Tryz.underlying52 Tryz.underlying5 Tryz.underlying9 ?_
 ·rw [List.length_map] at key;exact key
 ·intro j hj
  have hj':j<l.length:=by simpa using hj
  have hadd:(⟨g,0,none⟩:Addr).add j=⟨g,j,none⟩:=by unfold Addr.add;split<;>simp_all
  rw [hadd,hb.cell j]
  have hb:=h l[j] (List.getElem_mem hj')
  have e:((UInt8.ofNat (l[j]).toNat).toNat:Int)=l[j]:=by rw [UInt8.toNat_ofNat'];omega
  simp [hj']
  omega
theorem placeM_bd' (s:ByteArray):-1<=placeM s helpersL/\placeM s helpersL<4:=placeM_bd s helpersL
set_option maxRecDepth 100000 in
set_option maxHeartbeats 1000000 in
theorem bcode_any (i:RIns) (h:i.Fit) (jump n:Int) (w:World) :
  Calls Tryz.prog 16 #[.agg i.cells,.int .i64 jump,.int .u64 n] w fun e w'=>e=.returned (.string (codeM i jump n))/\Mods Nil' w w':=by
 have HF:Hid i.Fit:=h
 have HI:Hid (∃ j:RIns,j=i):=⟨i,rfl⟩
 have HOP:∀ w',Calls Tryz.prog 31 #[.agg i.cells] w' fun e w2=>e=.returned (.int .i64 (opM i))/\Mods Nil' w' w2:=fun w'=>op_any i h w'
 obtain ⟨word,is32,d,s,jmp,nn,label,name⟩:=i
 have hb0:=Blk.new w (RIns.cells ⟨word,is32,d,s,jmp,nn,label,name⟩) 51
 have HE:Hid (codeM ⟨word,is32,d,s,jmp,nn,label,name⟩ jump n=codeM ⟨word,is32,d,s,jmp,nn,label,name⟩ jump n):=rfl
 obtain ⟨d0,d1,s1,s0,j0,j1,n0,n1,hw,hl,hn,hi32,hso⟩:=h;clear hi32 hso
 unfold RIns.cells at *
 simp only at *
 have HOP':Hid _:=HOP
 clear HOP
 go_enter Tryz.func16,Tryz.ntmps16
 go_upto_block 0 with fail
 have HB0:Hid _:=hb0
 generalize hW:w.alloc (Obj.cells #[Value.string word,Value.bool is32,Value.int IntKind.i64 d,Value.int IntKind.i64 s,Value.int IntKind.i64 jmp,Value.int IntKind.u64 nn,Value.string label,Value.string name] 51)=W
 have hb3:Blk W w.heap.size #[Value.string word,Value.bool is32,Value.int IntKind.i64 d,Value.int IntKind.i64 s,Value.int IntKind.i64 jmp,Value.int IntKind.u64 nn,Value.string label,Value.string name] 51:=hW ▸ hb0
 have m3:Mods Nil' w W:=hW ▸ ((Mods.refl _ _).alloc _)
 clear HB0 hb0 hW;obtain ⟨i0,i1,i2,i3,i4,i5,i6,i7⟩:=hb3.cells8
 go_cut [7] (fun s7 wx=>s7=.int .i64 (if s<0 then 0 else if word=WIDE then 0 else s)/\wx=W)
 case first =>
  by_cases hs:s<0
  ·have HD:Hid ((if s<0 then (0:Int) else if word=WIDE then 0 else s)=0):=by rw [Hid,if_pos hs]
   go_wp2_with fail;go_meet
   exact ⟨by rw [HD.out],rfl⟩
  ·by_cases hw1:word=WIDE
   ·have t1:=lit_eq hw1
    have HD:Hid ((if s<0 then (0:Int) else if word=WIDE then 0 else s)=0):=by rw [Hid,if_neg hs,if_pos hw1]
    clear hw1;go_wp2_with fail;go_meet
    exact ⟨by rw [HD.out],rfl⟩
   ·have t1:=lit_ne hw1
    have HD:Hid ((if s<0 then (0:Int) else if word=WIDE then 0 else s)=s):=by rw [Hid,if_neg hs,if_neg hw1]
    clear hw1;go_wp2_with fail;go_meet
    exact ⟨by rw [HD.out],rfl⟩
 case rest =>
 obtain ⟨rfl,rfl⟩:=hcut
 have hs1:(0:Int)<=(if s<0 then 0 else if word=WIDE then 0 else s)/\(if s<0 then (0:Int) else if word=WIDE then 0 else s)<=15:=by
  split
  ·omega
  ·split<;>omega
 have HS1:Hid ((if s<0 then (0:Int) else if word=WIDE then 0 else s)=(if s<0 then (0:Int) else if word=WIDE then 0 else s)):=rfl
 generalize hz1:(if s<0 then (0:Int) else if word=WIDE then 0 else s)=z1 at *
 have HZ1:=hid hz1;clear hz1;go_upto_if 23 with fail
 have HQ:Hid ((!name.toList.isEmpty)=decide (name≠E0)):=by
  rw [Hid]
  by_cases hz:name=E0
  ·rw [isEmpty_of_zero (s:=name) (by rw [hz];rfl)];simp [hz]
  ·rw [isEmpty_of_pos (s:=name) (by
    rcases Nat.eq_zero_or_pos name.size with h0 | h0
    ·exact absurd (by apply ByteArray.ext;apply Array.eq_empty_of_size_eq_zero;simpa using h0) hz
    ·exact h0)];simp [hz]
 generalize (!name.toList.isEmpty)=q at *
 go_cut [7,8] (fun s7 s8 wx=>s7=.int .i64 (if name≠E0 then 1 else z1)/\s8=.int .u64 (if name≠E0 then n else nn)/\wx=wc)
 case first =>
  cases q with
  | false =>
   have hz:¬ name≠E0:=by simpa using HQ.out.symm
   have HD:Hid ((if name≠E0 then (1:Int) else z1)=z1/\(if name≠E0 then n else nn)=nn):=by rw [Hid,if_neg hz,if_neg hz];exact ⟨rfl,rfl⟩
   clear hz;go_wp2_with fail;go_meet
   exact ⟨by rw [HD.out.1],by rw [HD.out.2],rfl⟩
  | true =>
   have hz:name≠E0:=by simpa using HQ.out.symm
   have HD:Hid ((if name≠E0 then (1:Int) else z1)=1/\(if name≠E0 then n else nn)=n):=by rw [Hid,if_pos hz,if_pos hz];exact ⟨rfl,rfl⟩
   clear hz;go_wp2_with fail;go_meet
   exact ⟨by rw [HD.out.1],by rw [HD.out.2],rfl⟩
 case rest =>
 obtain ⟨rfl,rfl,rfl⟩:=hcut
 have hs2:(0:Int)<=(if name≠E0 then 1 else z1)/\(if name≠E0 then (1:Int) else z1)<=15:=by
  split<;>omega
 generalize hz2:(if name≠E0 then (1:Int) else z1)=z2 at *
 generalize hz3:(if name≠E0 then n else nn)=z3 at *
 have HZ2:=hid hz2;have HZ3:=hid hz3;clear hz2 hz3;go_upto_if 27 with fail
 have HQ2:Hid ((word.toList==[104,101,108,112])=decide (word=HELP)):=by
  rw [Hid]
  by_cases hz:word=HELP
  ·rw [lit_eq hz];simp [hz]
  ·rw [lit_ne hz];simp [hz]
 generalize (word.toList==[104,101,108,112])=q2 at *
 go_cut [8] (fun s8 wx=>s8=.int .u64 (if word=HELP then 1+placeM label helpersL else z3)/\Mods Nil' wc wx)
 case first =>
  cases q2 with
  | true =>
   have hz:word=HELP:=by simpa using HQ2.out.symm
   have HD:Hid ((if word=HELP then 1+placeM label helpersL else z3)=1+placeM label helpersL):=by rw [Hid,if_pos hz]
   clear hz
   have hpb:=placeM_bd' label
   go_wp2_with fail
   refine wp_region_inv [.inl (.pointer (some ⟨w.heap.size,6,none⟩)),.inl (.string label),.inr (fun u w'=>∃ g,u=.slice (some ⟨g,0,none⟩) 4 4/\Blk w' g (strs helpersL) 9),.inl (.int .i64 (placeM label helpersL)),.inl (.int .i64 (1+placeM label helpersL)),.inl (.int .u64 (1+placeM label helpersL)),.inl (.int .u64 (1+placeM label helpersL))] (fun w'=>Mods Nil' wc w') (Mods Nil') (by kernel_rfl) (by kernel_rfl) (by kernel_rfl) ((Mods.refl _ _).drew) ?_ (fun _ _ h1 h2=>h1.trans h2) (fun _=>Mods.refl _ _) ?_
   ·exact stable_of (show StableL _ _ from ⟨fun u w1 w2 m ⟨g,h1,h2⟩=>⟨g,h1,h2.mods m id⟩,trivial⟩)
   refine inv_det rfl (fun w' hC _ K hK=>?_) ?_
   ·go_big_op
    exact hK _ _ _ rfl (Mods.refl _ _) rfl
   simp only [Act.put,List.setIfInBounds_toArray,List.set_cons_succ,List.set_cons_zero]
   refine inv_det rfl (fun w' hC _ K hK=>?_) ?_
   ·have c6:w'.cell? ⟨w.heap.size,6,none⟩=some (.string label):=(hb3.mods hC id).cell 6
    go_big_op
    exact hK _ _ _ rfl (Mods.refl _ _) rfl
   simp only [Act.put,List.setIfInBounds_toArray,List.set_cons_succ,List.set_cons_zero]
   refine inv_any rfl (fun w' hC _ K hK=>?_) (fun x=>?_)
   ·go_big_op
    refine (helpers_any _).mono ?_
    rintro e w2 ⟨rfl,h2,m2⟩
    exact hK _ _ _ rfl m2 ⟨_,rfl,h2⟩
   simp only [Act.put,List.setIfInBounds_toArray,List.set_cons_succ,List.set_cons_zero]
   refine inv_det rfl (fun w' hC hk K hK=>?_) ?_
   ·obtain ⟨g,rfl,hg⟩:∃ g,x=.slice (some ⟨g,0,none⟩) 4 4/\Blk w' g (strs helpersL) 9:=known_mem hk 2 (by decide)
    go_big_op
    refine (place_any label g helpersL _ (by decide) hg).mono ?_
    rintro e w2 ⟨rfl,rfl⟩
    exact hK _ _ _ rfl (Mods.refl _ _) rfl
   simp only [Act.put,List.setIfInBounds_toArray,List.set_cons_succ,List.set_cons_zero]
   refine inv_det rfl (fun w' hC _ K hK=>?_) ?_
   ·go_big_op
    exact hK _ _ _ rfl (Mods.refl _ _) rfl
   simp only [Act.put,List.setIfInBounds_toArray,List.set_cons_succ,List.set_cons_zero]
   refine inv_det rfl (fun w' hC _ K hK=>?_) ?_
   ·go_big_op
    exact hK _ _ _ rfl (Mods.refl _ _) rfl
   simp only [Act.put,List.setIfInBounds_toArray,List.set_cons_succ,List.set_cons_zero]
   refine inv_det rfl (fun w' hC _ K hK=>?_) ?_
   ·go_big_op
    exact hK _ _ _ rfl (Mods.refl _ _) rfl
   simp only [Act.put,List.setIfInBounds_toArray,List.set_cons_succ,List.set_cons_zero]
   refine inv_nil (fun w' hC _=>?_)
   simp only [Exit.then]
   go_wp2_with fail;go_meet
   exact ⟨by rw [HD.out],hC⟩
  | false =>
   have hz:¬ word=HELP:=by simpa using HQ2.out.symm
   have HD:Hid ((if word=HELP then 1+placeM label helpersL else z3)=z3):=by rw [Hid,if_neg hz]
   clear hz;go_wp2_with fail;go_meet
   exact ⟨by rw [HD.out],Mods.refl _ _⟩
 case rest =>
 obtain ⟨rfl,m4⟩:=hcut
 generalize hz4:(if word=HELP then 1+placeM label helpersL else z3)=z4 at *
 have HZ4:=hid hz4;clear hz4;go_upto_region 12 with fail
 obtain ⟨o,ho⟩:∃ o,o=opM ⟨word,is32,d,s,jmp,nn,label,name⟩:=⟨_,rfl⟩
 have HO:=hid ho
 have HOPo:Hid (∀ w',Calls Tryz.prog 31 #[.agg #[.string word,.bool is32,.int .i64 d,.int .i64 s,.int .i64 jmp,.int .u64 nn,.string label,.string name]] w' fun e w2=>e=.returned (.int .i64 o)/\Mods Nil' w' w2):=by rw [Hid,ho];exact HOP'.out
 clear ho HOP'
 obtain ⟨s0',hs0⟩:∃ s0',s0'=chrs [o % 256,d+16*z2]:=⟨_,rfl⟩
 have HS0:=hid hs0
 have hz0:s0'.size=2:=by rw [hs0,chrs_size];rfl
 clear hs0
 have hz1':(chrs (twoL jump)).size=2:=chrs_size _
 have hz2':(chrs (fourL z4)).size=4:=chrs_size _
 have HB4:Hid (∀ w',Mods Nil' wc w'->Blk w' w.heap.size #[Value.string word,Value.bool is32,Value.int IntKind.i64 d,Value.int IntKind.i64 s,Value.int IntKind.i64 jmp,Value.int IntKind.u64 nn,Value.string label,Value.string name] 51):=fun w' m=>hb3.mods (m4.trans m) id
 refine wp_region_inv [.inl (.agg #[.string word,.bool is32,.int .i64 d,.int .i64 s,.int .i64 jmp,.int .u64 nn,.string label,.string name]),.inl (.int .i64 o),.inl (.int .u8 (o % 256)),.inl (.pointer (some ⟨w.heap.size,2,none⟩)),.inl (.int .i64 d),.inl (.int .i64 z2),.inl (.int .i64 (16*z2)),.inl (.int .i64 (d+16*z2)),.inl (.int .u8 (d+16*z2)),
  .inr (fun u w'=>∃ g,u=.slice (some ⟨g,0,none⟩) 2 2/\Blk w' g #[.int .u8 (o % 256),.int .u8 (d+16*z2)] 5),.inl (.string s0'),.inl (.int .i64 jump),.inl (.string (chrs (twoL jump))),.inl (.string (s0'++chrs (twoL jump))),.inl (.int .u64 z4),.inl (.string (chrs (fourL z4))),.inl (.string (s0'++chrs (twoL jump)++chrs (fourL z4))),.inl (.string (s0'++chrs (twoL jump)++chrs (fourL z4)))] (fun w'=>Mods Nil' wc w') (Mods Nil') (by kernel_rfl) (by kernel_rfl) (by kernel_rfl) ((Mods.refl _ _).drew) ?_ (fun _ _ h1 h2=>h1.trans h2) (fun _=>Mods.refl _ _) ?_
 ·exact stable_of (show StableL _ _ from ⟨fun u w1 w2 m ⟨g,h1,h2⟩=>⟨g,h1,h2.mods m id⟩,trivial⟩)
 refine inv_det rfl (fun w' hC _ K hK=>?_) ?_
 ·obtain ⟨e0,e1,e2,e3,e4,e5,e6,e7⟩:=(HB4.out w' hC).cells8
  go_big_op
  exact hK _ _ _ rfl (Mods.refl _ _) rfl
 simp only [Act.put,List.setIfInBounds_toArray,List.set_cons_succ,List.set_cons_zero]
 refine inv_det rfl (fun w' hC _ K hK=>?_) ?_
 ·go_big_op
  refine (HOPo.out _).mono ?_
  rintro e w2 ⟨rfl,m2⟩;exact hK _ _ _ rfl m2 rfl
 simp only [Act.put,List.setIfInBounds_toArray,List.set_cons_succ,List.set_cons_zero]
 refine inv_det rfl (fun w' hC _ K hK=>?_) ?_
 ·go_big_op
  exact hK _ _ _ rfl (Mods.refl _ _) rfl
 simp only [Act.put,List.setIfInBounds_toArray,List.set_cons_succ,List.set_cons_zero]
 refine inv_det rfl (fun w' hC _ K hK=>?_) ?_
 ·go_big_op
  exact hK _ _ _ rfl (Mods.refl _ _) rfl
 simp only [Act.put,List.setIfInBounds_toArray,List.set_cons_succ,List.set_cons_zero]
 refine inv_det rfl (fun w' hC _ K hK=>?_) ?_
 ·obtain ⟨e0,e1,e2,e3,e4,e5,e6,e7⟩:=(HB4.out w' hC).cells8
  go_big_op
  exact hK _ _ _ rfl (Mods.refl _ _) rfl
 simp only [Act.put,List.setIfInBounds_toArray,List.set_cons_succ,List.set_cons_zero]
 refine inv_det rfl (fun w' hC _ K hK=>?_) ?_
 ·go_big_op
  exact hK _ _ _ rfl (Mods.refl _ _) rfl
 simp only [Act.put,List.setIfInBounds_toArray,List.set_cons_succ,List.set_cons_zero]
 refine inv_det rfl (fun w' hC _ K hK=>?_) ?_
 ·go_big_op
  exact hK _ _ _ rfl (Mods.refl _ _) rfl
 simp only [Act.put,List.setIfInBounds_toArray,List.set_cons_succ,List.set_cons_zero]
 refine inv_det rfl (fun w' hC _ K hK=>?_) ?_
 ·go_big_op
  exact hK _ _ _ rfl (Mods.refl _ _) rfl
 simp only [Act.put,List.setIfInBounds_toArray,List.set_cons_succ,List.set_cons_zero]
 refine inv_det rfl (fun w' hC _ K hK=>?_) ?_
 ·go_big_op
  exact hK _ _ _ rfl (Mods.refl _ _) rfl
 simp only [Act.put,List.setIfInBounds_toArray,List.set_cons_succ,List.set_cons_zero]
 refine inv_any rfl (fun w' hC _ K hK=>?_) (fun x=>?_)
 ·go_big_op
  exact hK _ _ _ rfl ((Mods.refl _ _).alloc _) ⟨_,rfl,Blk.new _ _ _⟩
 simp only [Act.put,List.setIfInBounds_toArray,List.set_cons_succ,List.set_cons_zero]
 refine inv_det rfl (fun w' hC hk K hK=>?_) ?_
 ·obtain ⟨g,rfl,hg⟩:∃ g,x=.slice (some ⟨g,0,none⟩) 2 2/\Blk w' g #[.int .u8 (o % 256),.int .u8 (d+16*z2)] 5:=known_mem hk 9 (by decide)
  have hcv:=some_bytes' w' g [o % 256,d+16*z2] (fun x hx=>by simp at hx;rcases hx with rfl | rfl<;>omega) hg
  simp only [List.length_cons,List.length_nil] at hcv
  rw [<- HS0.out] at hcv
  go_big_op
  exact hK _ _ _ rfl (Mods.refl _ _) rfl
 simp only [Act.put,List.setIfInBounds_toArray,List.set_cons_succ,List.set_cons_zero]
 refine inv_det rfl (fun w' hC _ K hK=>?_) ?_
 ·go_big_op
  exact hK _ _ _ rfl (Mods.refl _ _) rfl
 simp only [Act.put,List.setIfInBounds_toArray,List.set_cons_succ,List.set_cons_zero]
 refine inv_det rfl (fun w' hC _ K hK=>?_) ?_
 ·go_big_op
  refine (btwo_any _ _).mono ?_
  rintro e w2 ⟨rfl,m2⟩;exact hK _ _ _ rfl m2 rfl
 simp only [Act.put,List.setIfInBounds_toArray,List.set_cons_succ,List.set_cons_zero]
 refine inv_det rfl (fun w' hC _ K hK=>?_) ?_
 ·go_big_op
  exact hK _ _ _ rfl (Mods.refl _ _) rfl
 simp only [Act.put,List.setIfInBounds_toArray,List.set_cons_succ,List.set_cons_zero]
 refine inv_det rfl (fun w' hC _ K hK=>?_) ?_
 ·go_big_op
  exact hK _ _ _ rfl (Mods.refl _ _) rfl
 simp only [Act.put,List.setIfInBounds_toArray,List.set_cons_succ,List.set_cons_zero]
 refine inv_det rfl (fun w' hC _ K hK=>?_) ?_
 ·go_big_op
  refine (four_any _ _).mono ?_
  rintro e w2 ⟨rfl,m2⟩;exact hK _ _ _ rfl m2 rfl
 simp only [Act.put,List.setIfInBounds_toArray,List.set_cons_succ,List.set_cons_zero]
 refine inv_det rfl (fun w' hC _ K hK=>?_) ?_
 ·go_big_op
  exact hK _ _ _ rfl (Mods.refl _ _) rfl
 simp only [Act.put,List.setIfInBounds_toArray,List.set_cons_succ,List.set_cons_zero]
 refine inv_det rfl (fun w' hC _ K hK=>?_) ?_
 ·go_big_op
  exact hK _ _ _ rfl (Mods.refl _ _) rfl
 simp only [Act.put,List.setIfInBounds_toArray,List.set_cons_succ,List.set_cons_zero]
 refine inv_nil (fun w' hC _=>?_)
 simp only [Exit.then]
 have HCO:Hid (codeM ⟨word,is32,d,s,jmp,nn,label,name⟩ jump n=s0'++chrs (twoL jump)++chrs (fourL z4)++(if word=WIDE then T [0,0,0,0]++chrs (fourL (z4 / 4294967296)) else E0)):=by
  rw [Hid,codeM,codeN,codeS,HS0.out,HO.out,<- HZ4.out,<- HZ2.out,<- HZ3.out,<- HZ1.out]
 have HQ3:Hid ((word.toList==[119,105,100,101])=decide (word=WIDE)):=by
  rw [Hid]
  by_cases hz:word=WIDE
  ·rw [lit_eq hz];simp [hz]
  ·rw [lit_ne hz];simp [hz]
 obtain ⟨e0,e1,e2,e3,e4,e5,e6,e7⟩:=(HB4.out w' hC).cells8
 have M5:Hid (Mods Nil' w w'):=(m3.trans m4).trans hC
 obtain ⟨t0,ht0⟩:∃ t0,t0=s0'++chrs (twoL jump)++chrs (fourL z4):=⟨_,rfl⟩
 have HT0:=hid ht0
 have ht0':t0.size=8:=by rw [ht0];simp [ByteArray.size_append,hz0,hz1',hz2']
 rw [<- ht0];clear ht0 hC hb3;go_upto_if 53 with fail
 generalize (word.toList==[119,105,100,101])=q3 at *
 cases q3 with
 | true =>
  have hz:word=WIDE:=by simpa using HQ3.out.symm
  have HCO2:Hid (codeM ⟨word,is32,d,s,jmp,nn,label,name⟩ jump n=t0++T [0,0,0,0]++chrs (fourL (z4 / 4294967296))):=by
   rw [Hid,HCO.out,if_pos hz,HT0.out,ByteArray.append_assoc (b:=T _)]
  clear hz
  have hz5:(chrs (fourL (z4 / 4294967296))).size=4:=chrs_size _
  go_wp2_with fail
  refine (four_any _ _).mono ?_
  rintro e w2 ⟨rfl,m2⟩;go_wp2_with fail;go_ret
  refine ⟨?_,M5.out.trans m2⟩
  rw [HCO2.out]
  rfl
 | false =>
  have hz:¬ word=WIDE:=by simpa using HQ3.out.symm
  have HCO2:Hid (codeM ⟨word,is32,d,s,jmp,nn,label,name⟩ jump n=t0):=by
   rw [Hid,HCO.out,if_neg hz,HT0.out]
   apply ByteArray.ext
   simp
  clear hz;go_wp2_with fail;go_ret
  exact ⟨by rw [HCO2.out];rfl,M5.out⟩
def b8 (l:List Int):List UInt8:=l.map (fun x=>UInt8.ofNat x.toNat)
theorem chrs_b8 (l:List Int):chrs l=T (b8 l):=rfl
theorem b8_len (l:List Int):(b8 l).length=l.length:=by simp [b8]
def codeW (i:RIns) (jump n:Int):List UInt8 :=
 b8 [opM i % 256,i.d+16*codeS i]++b8 (twoL jump)++b8 (fourL (codeN i n))++(if i.word=WIDE then [0,0,0,0]++b8 (fourL (codeN i n / 4294967296)) else [])
theorem codeM_eq (i:RIns) (jump n:Int):codeM i jump n=T (codeW i jump n):=by
 unfold codeM codeW;rw [chrs_b8,chrs_b8,chrs_b8,chrs_b8]
 split<;>simp only [<- T_app]<;>rfl
theorem codeW_len (i:RIns) (jump n:Int):(codeW i jump n).length<=16:=by
 unfold codeW
 split<;>simp [b8,twoL,fourL]
def namedU (s:ByteArray):List UInt8:=b8 [(s.size:Int) % 256]++BL s
theorem namedL_eq (s:ByteArray):namedL s=T (namedU s):=by
 unfold namedL namedU;rw [chrs_b8,<- T_app,T_BL]
theorem namedU_len (s:ByteArray):(namedU s).length=s.size+1:=by
 simp [namedU,b8,BL_len]
def mapU (m:RMap):List UInt8:=namedU m.name++b8 [m.key,m.value,m.entries]
def mapsU (ms:List RMap):List UInt8:=ms.flatMap mapU
def headU (f:RFn):List UInt8:=namedU f.name++b8 (twoL f.slots)
def headsU (fs:List RFn):List UInt8:=fs.flatMap headU
def numU (img:Bool) (mn fn:List ByteArray) (x:RIns):Int :=
 if img=true/\x.word=CALL then placeM x.name fn else if img=true/\x.word=WIDE/\x.name≠E0 then placeM x.name mn else 0
def insU (img:Bool) (mn fn:List ByteArray) (lab:Labs) (x:RIns × Int):List UInt8:=codeW x.1 (jumpM lab x.1 x.2) (numU img mn fn x.1 % 18446744073709551616)
def refU (i:Nat) (x:RIns × Int):List UInt8:=if x.1.name≠E0 then b8 [(i:Int)]++b8 (twoL x.2)++namedU x.1.name else []
def cntU (x:RIns × Int):Nat:=if x.1.name≠E0 then 1 else 0
def fnU (img:Bool) (mn fn:List ByteArray) (o:FOut):List UInt8:=(o.ls.zip o.ats).flatMap (insU img mn fn o.lab)
def fnsU (img:Bool) (mn fn:List ByteArray) (os:List FOut):List UInt8:=os.flatMap (fnU img mn fn)
def refsU:Nat->List FOut->List UInt8
 | _,[]=>[]
 | i,o::l=>(o.ls.zip o.ats).flatMap (refU i)++refsU (i+1) l
def cntsU:List FOut->Nat
 | []=>0
 | o::l=>((o.ls.zip o.ats).map cntU).sum+cntsU l
def bytesU (img:Bool) (ms:List RMap) (fs:List RFn) (os:List FOut):List UInt8 :=
 [83,80,79,76]++(if img then [2] else [1])++b8 [(ms.length:Int)]++mapsU ms++b8 [(fs.length:Int)]++headsU fs++fnsU img (ms.map (·.name)) (fs.map (·.name)) os ++
  (if img then [] else b8 (twoL (cntsU os))++refsU 0 os)
theorem mapsU_drop (ms:List RMap) (k:Nat) (h:k<ms.length):mapsU (ms.drop k)=mapU ms[k]++mapsU (ms.drop (k+1)):=by
 rw [List.drop_eq_getElem_cons h,mapsU,List.flatMap_cons];rfl
theorem headsU_drop (fs:List RFn) (k:Nat) (h:k<fs.length):headsU (fs.drop k)=headU fs[k]++headsU (fs.drop (k+1)):=by
 rw [List.drop_eq_getElem_cons h,headsU,List.flatMap_cons];rfl
theorem fnsU_drop (img:Bool) (mn fn:List ByteArray) (os:List FOut) (k:Nat) (h:k<os.length):fnsU img mn fn (os.drop k)=fnU img mn fn os[k]++fnsU img mn fn (os.drop (k+1)):=by
 rw [List.drop_eq_getElem_cons h,fnsU,List.flatMap_cons];rfl
theorem refsU_drop (os:List FOut) (i k:Nat) (h:k<os.length):refsU i (os.drop k)=(os[k].ls.zip os[k].ats).flatMap (refU i)++refsU (i+1) (os.drop (k+1)):=by
 rw [List.drop_eq_getElem_cons h,refsU]
theorem cntsU_drop (os:List FOut) (k:Nat) (h:k<os.length):cntsU (os.drop k)=((os[k].ls.zip os[k].ats).map cntU).sum+cntsU (os.drop (k+1)):=by
 rw [List.drop_eq_getElem_cons h,cntsU]
structure FRo (w:World) (h:HFn) (o:FOut):Prop where
 sl:Sl w 51 8 h.vL o.ls.length (insL o.ls)
 sa:Sl w 3 1 h.vA o.ats.length (intL o.ats)
 sb:Sl w 9 1 h.vB o.lab.length (strL (o.lab.map (·.1)))
 sp:Sl w 3 1 h.vP o.lab.length (intL (o.lab.map (·.2)))
structure PRo (w:World) (pb:Nat) (vM vF:Value) (ms:List RMap) (fx:List (RFn × HFn)) (os:List FOut):Prop where
 prog:Blk w pb #[vM,vF] 41
 maps:Sl w 48 4 vM ms.length (ms.flatMap RMap.cells)
 rows:Sl w 46 8 vF fx.length (fx.flatMap rowC)
 each:∀ i (_:i<os.length) (_:i<fx.length),FRo w fx[i].2 os[i]
theorem FRo.quiet {w w':World} {h:HFn} {o:FOut} (f:FRo w h o) (m:Mods Nil' w w'):FRo w' h o :=
 ⟨f.sl.mods m (fun _ _=>id),f.sa.mods m (fun _ _=>id),f.sb.mods m (fun _ _=>id),f.sp.mods m (fun _ _=>id)⟩
theorem PRo.quiet {w w':World} {pb:Nat} {vM vF:Value} {ms:List RMap} {fx:List (RFn × HFn)} {os:List FOut} (h:PRo w pb vM vF ms fx os) (m:Mods Nil' w w'):PRo w' pb vM vF ms fx os :=
 ⟨h.prog.mods m id,h.maps.mods m (fun _ _=>id),h.rows.mods m (fun _ _=>id),fun i h1 h2=>(h.each i h1 h2).quiet m⟩
theorem PRo.frd {w:World} {pb gF cF nF:Nat} {vM:Value} {ms:List RMap} {fs:List (RFn × HFn)} {os:List FOut} (h:PRo w pb vM (.slice (some ⟨gF,0,none⟩) nF cF) ms fs os) (hn:nF=fs.length) (i:Nat) (hi:i<fs.length) (hi':i<os.length) {f:RFn} {vL vA vB vP:Value} (hf:fs[i]=(f,⟨vL,vA,vB,vP⟩)) :
  FRd w gF (i*8) f.slots vL vA vB vP f.name os[i].ls os[i].ats os[i].lab:=by
 subst hn;obtain ⟨g,hg,hc⟩:=h.rows.atR rfl rfl i hi
 cases hg
 have F:=h.each i hi' hi
 rw [hf] at F
 have key:∀ c,c<8->w.cell? ⟨gF,i*8+c,none⟩=(rowC (f,⟨vL,vA,vB,vP⟩))[c]?:=fun c hc'=>by rw [hc i hi c hc',hf]
 exact ⟨key 0 (by omega),key 1 (by omega),key 2 (by omega),key 3 (by omega),key 4 (by omega),key 5 (by omega),h.rows.lt gF rfl,F.sl,F.sa,F.sb,F.sp⟩
theorem PRo.atM {w:World} {pb nM cM:Nat} {oM:Option Addr} {vF:Value} {ms:List RMap} {fs:List (RFn × HFn)} {os:List FOut} (h:PRo w pb (.slice oM nM cM) vF ms fs os) (hn:nM=ms.length) :
  ∀ k (hk:k<ms.length),∃ g,oM=some ⟨g,0,none⟩/\w.cell? ⟨g,k*4,none⟩=some (.string ms[k].name)/\w.cell? ⟨g,k*4+1,none⟩=some (.int .i64 ms[k].key)/\w.cell? ⟨g,k*4+2,none⟩=some (.int .i64 ms[k].value)/\w.cell? ⟨g,k*4+3,none⟩=some (.int .i64 ms[k].entries):=by
 intro k hk;subst hn;obtain ⟨g,hg,hc⟩:=h.maps.at4 rfl rfl k hk
 exact ⟨g,hg,hc k hk⟩
theorem namedU_any (s:ByteArray) (hs:s.size<=1000) (w:World):Calls Tryz.prog 14 #[.string s] w fun e w'=>e=.returned (.string (T (namedU s)))/\Mods Nil' w w':=by
 rw [<- namedL_eq];exact named_any s hs w
theorem twoU_any (n:Int) (w:World):Calls Tryz.prog 15 #[.int .i64 n] w fun e w'=>e=.returned (.string (T (b8 (twoL n))))/\Mods Nil' w w':=btwo_any n w
theorem codeU_any (i:RIns) (h:i.Fit) (jump n:Int) (w:World):Calls Tryz.prog 16 #[.agg i.cells,.int .i64 jump,.int .u64 n] w fun e w'=>e=.returned (.string (T (codeW i jump n)))/\Mods Nil' w w':=by
 rw [<- codeM_eq];exact bcode_any i h jump n w
theorem isE_eq (s:ByteArray):(!s.toList.isEmpty)=decide (s≠E0):=by
 by_cases hz:s=E0
 ·rw [isEmpty_of_zero (s:=s) (by rw [hz];rfl)];simp [hz]
 ·rw [isEmpty_of_pos (s:=s) (by
   rcases Nat.eq_zero_or_pos s.size with h0 | h0
   ·exact absurd (by apply ByteArray.ext;apply Array.eq_empty_of_size_eq_zero;simpa using h0) hz
   ·exact h0)];simp [hz]
end Go.Proofs.YtoknbkfclhmapaaGreatDoor
