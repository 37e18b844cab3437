import Derived.Test.YtoknbkfclhmapaaGreatDoorC04
import Derived.Test.YtoknbkfclhmapaaGreatDoorC14
import Derived.Test.YtoknbkfclhmapaaGreatDoorC02
import Derived.Deep.RegionWith
import Derived.Deep.LoopGhost
import Derived.Deep.DeepCutAuto
import Derived.BigQuiet
import Derived.Test.YtoknbkfclhmapaaGreatDoorC23
import Derived.Test.YtoknbkfclhmapaaGreatDoorC20
namespace Go.Proofs.YtoknbkfclhmapaaGreatDoor
open Go.RowKit
def chrs (l:List Int):ByteArray:=T (l.map (fun x=>UInt8.ofNat x.toNat))
theorem chrs_size (l:List Int):(chrs l).size=l.length:=by rw [chrs,T_size];simp
theorem some_bytes (w:World) (l:List Int) (h:∀ x∈l,0<=x/\x<=255) :
  Sem.run Tryz.prog (convert 52 9 (.slice (some ⟨w.heap.size,0,none⟩) l.length l.length)) (w.alloc (.cells (l.map (Value.int .u8)).toArray 5))=.ok (.string (chrs l)) (w.alloc (.cells (l.map (Value.int .u8)).toArray 5)):=by
 have key:=run_convert_bytes_back (P:=Tryz.prog) (w.alloc (.cells (l.map (Value.int .u8)).toArray 5)) 52 9 5 ⟨w.heap.size,0,none⟩ l.length (l.map (fun x=>UInt8.ofNat x.toNat)) Tryz.underlying52 Tryz.underlying5 Tryz.underlying9 ?_
 ·rw [List.length_map] at key;exact key
 ·intro j hj
  have hj':j<l.length:=by simpa using hj
  have hadd:(⟨w.heap.size,0,none⟩:Addr).add j=⟨w.heap.size,j,none⟩:=by unfold Addr.add;split<;>simp_all
  rw [hadd,(Blk.new w _ _).cell j]
  have hb:=h l[j] (List.getElem_mem hj')
  have e:((UInt8.ofNat (l[j]).toNat).toNat:Int)=l[j]:=by rw [UInt8.toNat_ofNat'];omega
  simp [hj']
  omega
def twoL (n:Int):List Int:=[n % 256,n / 256 % 256]
def fourL (n:Int):List Int:=[n % 256,n / 256 % 256,n / 65536 % 256,n / 16777216 % 256]
set_option maxHeartbeats 400000 in
theorem btwo_any (n:Int) (w:World) :
  Calls Tryz.prog 15 #[.int .i64 n] w fun e w'=>e=.returned (.string (chrs (twoL n)))/\Mods Nil' w w':=by
 have hc:=some_bytes w (twoL n) (fun x hx=>by simp [twoL] at hx;rcases hx with rfl | rfl<;>omega)
 simp only [twoL,List.map_cons,List.map_nil,List.length_cons,List.length_nil] at hc
 have HE:Hid (twoL n=[n % 256,n / 256 % 256]):=rfl
 go_enter Tryz.func15,Tryz.ntmps15
 go_wp2_with fail;go_ret
 exact ⟨rfl,(Mods.refl _ _).alloc _⟩
set_option maxHeartbeats 400000 in
theorem four_any (n:Int) (w:World) :
  Calls Tryz.prog 32 #[.int .u64 n] w fun e w'=>e=.returned (.string (chrs (fourL n)))/\Mods Nil' w w':=by
 have hc:=some_bytes w (fourL n) (fun x hx=>by simp [fourL] at hx;rcases hx with rfl | rfl | rfl | rfl<;>omega)
 simp only [fourL,List.map_cons,List.map_nil,List.length_cons,List.length_nil] at hc
 go_enter Tryz.func32,Tryz.ntmps32
 go_wp2_with fail;go_ret
 exact ⟨rfl,(Mods.refl _ _).alloc _⟩
def namedL (s:ByteArray):ByteArray:=chrs [(s.size:Int) % 256]++s
set_option maxHeartbeats 400000 in
theorem named_any (s:ByteArray) (hs:s.size<=1000) (w:World) :
  Calls Tryz.prog 14 #[.string s] w fun e w'=>e=.returned (.string (namedL s))/\Mods Nil' w w':=by
 have hc:=some_bytes w [(s.size:Int) % 256] (fun x hx=>by simp at hx;subst hx;omega)
 simp only [List.map_cons,List.map_nil,List.length_cons,List.length_nil] at hc
 have hz:=chrs_size [(s.size:Int) % 256]
 have HE:Hid (namedL s=chrs [(s.size:Int) % 256]++s):=rfl
 simp only [List.length_cons,List.length_nil] at hz
 go_enter Tryz.func14,Tryz.ntmps14
 go_wp2_with fail
 trace_state
 go_ret
 exact ⟨by rw [HE.out];rfl,(Mods.refl _ _).alloc _⟩
def sizesL:List Int:=[1,2,4,8]
def opS (d:Int):Nat->Int
 | 0=>0
 | k+1=>if sizesL[k]?.getD 0=d then 128+k else opS d k
theorem placeM_bd (s:ByteArray):∀ (l:List ByteArray),-1<=placeM s l/\placeM s l<l.length
 | []=>by simp [placeM]
 | x::l=>by
  have:=placeM_bd s l
  rw [placeM,List.length_cons]
  split
  ·omega
  ·split
   ·omega
   ·omega
theorem wrap_small (x:Int) (h0:-1000<=x) (h1:x<=1000):IntKind.i64.wrap x=x:=by
 simp [IntKind.wrap,IntKind.bits,IntKind.signed]
 split<;>omega
def opM (i:RIns):Int :=
 let k:=sortM i.word
 if k=114 then 1+placeM i.word reckonsL+(if i.is32 then 16 else 0)+(if i.s<0 then 32 else 0)
 else if k=106 then 64+placeM i.word comparesL+(if i.s<0 then 32 else 0)
 else if k=108\/k=115 then opS ((i.word[2]!).toNat - 48) 4+(if i.word[0]! = 115 then 4 else 0)+(if i.s<0 then 4 else 0)
 else if k=119 then 192
 else if k=104\/k=99 then 193
 else 194
set_option maxHeartbeats 1000000 in
theorem op_c (i:RIns) (w:World) (hw:i.word.size<=100) (hk:sortM i.word=119\/sortM i.word=104\/sortM i.word=99\/sortM i.word=101) :
  Calls Tryz.prog 31 #[.agg i.cells] w fun e w'=>e=.returned (.int .i64 (opM i))/\Mods Nil' w w':=by
 have HE:Hid (opM i=if sortM i.word=119 then 192 else if sortM i.word=104\/sortM i.word=99 then 193 else 194):=by
  rw [Hid,opM]
  rcases hk with h | h | h | h<;>simp [h]
 obtain ⟨word,is32,d,s,jump,n,label,name⟩:=i;unfold RIns.cells;simp only at *
 go_enter Tryz.func31,Tryz.ntmps31
 go_wp2_with fail
 refine (sort_any _ _ (by unfold maxLen;omega)).mono ?_
 rintro e w1 ⟨rfl,m1⟩
 have M1:Mods Nil' w w1:=((Mods.refl _ _).alloc _).trans m1
 rcases hk with hk | hk | hk | hk
 all_goals
  rw [hk] at HE ⊢;go_wp2_with fail;go_ret
  exact ⟨by rw [HE.out];rfl,M1⟩
set_option maxHeartbeats 1000000 in
theorem op_r (i:RIns) (w:World) (hw:i.word.size<=100) (hs0:-1<=i.s) (hk:sortM i.word=114) :
  Calls Tryz.prog 31 #[.agg i.cells] w fun e w'=>e=.returned (.int .i64 (opM i))/\Mods Nil' w w':=by
 have HE:Hid (opM i=1+placeM i.word reckonsL+(if i.is32 then 16 else 0)+(if i.s<0 then 32 else 0)):=by
  rw [Hid,opM,hk];rfl
 have hpl:=placeM_bd i.word reckonsL
 rw [show reckonsL.length=13 from rfl] at hpl
 obtain ⟨word,is32,d,s,jump,n,label,name⟩:=i;unfold RIns.cells;simp only at *
 go_enter Tryz.func31,Tryz.ntmps31
 go_wp2_with fail
 refine (sort_any _ _ (by unfold maxLen;omega)).mono ?_
 rintro e w1 ⟨rfl,m1⟩
 have hb1:Blk w1 w.heap.size #[.string word,.bool is32,.int .i64 d,.int .i64 s,.int .i64 jump,.int .u64 n,.string label,.string name] 51:=(Blk.new w _ _).mods m1 (fun e=>e)
 have M1:Mods Nil' w w1:=((Mods.refl _ _).alloc _).trans m1
 obtain ⟨c0,c1,c2,c3,c4,c5,c6,c7⟩:=hb1.cells8;rw [hk]
 have hwr:=wrap_small (1+placeM word reckonsL) (by omega) (by omega)
 go_upto_region 5 with fail
 go_cut [3] (fun s3 wx=>s3=.int .i64 (1+placeM word reckonsL)/\Mods Nil' w wx/\Blk wx w.heap.size #[.string word,.bool is32,.int .i64 d,.int .i64 s,.int .i64 jump,.int .u64 n,.string label,.string name] 51)
 case first =>
  go_region_with (first | (go_at_call 52;refine (reckons_any _).mono ?_;rintro e w2 ⟨rfl,b2,m2⟩;have hb2:=Blk.mods (Blk.drew hb1) m2 (fun e=>e);have M2:=(M1.drew).trans m2;have c02:w2.cell? ⟨w.heap.size,0,none⟩=some (.string word):=hb2.cell 0) | (go_at_call 29;refine (place_reckons _ _ _ b2).mono ?_;rintro e w3 ⟨rfl,rfl⟩))
  all_goals
   go_wp2_with fail;go_meet
   exact ⟨rfl,M2,hb2⟩
 case rest =>
 obtain ⟨rfl,M2,hb2⟩:=hcut;clear c0 c1 c2 c3 c4 c5 c6 c7;obtain ⟨c0,c1,c2,c3,c4,c5,c6,c7⟩:=hb2.cells8
 cases is32
 all_goals
  by_cases hs:s<0
  ·have HE2:=hid HE.out;rw [if_pos hs] at HE2;go_wp2_with fail;go_ret
   exact ⟨by rw [HE2.out];simp,M2⟩
  ·have HE2:=hid HE.out;rw [if_neg hs] at HE2;go_wp2_with fail;go_ret
   exact ⟨by rw [HE2.out];simp,M2⟩
set_option maxHeartbeats 1000000 in
theorem op_j (i:RIns) (w:World) (hw:i.word.size<=100) (hs0:-1<=i.s) (hk:sortM i.word=106) :
  Calls Tryz.prog 31 #[.agg i.cells] w fun e w'=>e=.returned (.int .i64 (opM i))/\Mods Nil' w w':=by
 have HE:Hid (opM i=64+placeM i.word comparesL+(if i.s<0 then 32 else 0)):=by
  rw [Hid,opM,hk];rfl
 have hpl:=placeM_bd i.word comparesL
 rw [show comparesL.length=12 from rfl] at hpl
 obtain ⟨word,is32,d,s,jump,n,label,name⟩:=i;unfold RIns.cells;simp only at *
 go_enter Tryz.func31,Tryz.ntmps31
 go_wp2_with fail
 refine (sort_any _ _ (by unfold maxLen;omega)).mono ?_
 rintro e w1 ⟨rfl,m1⟩
 have hb1:Blk w1 w.heap.size #[.string word,.bool is32,.int .i64 d,.int .i64 s,.int .i64 jump,.int .u64 n,.string label,.string name] 51:=(Blk.new w _ _).mods m1 (fun e=>e)
 have M1:Mods Nil' w w1:=((Mods.refl _ _).alloc _).trans m1
 obtain ⟨c0,c1,c2,c3,c4,c5,c6,c7⟩:=hb1.cells8;rw [hk]
 have hwr:=wrap_small (64+placeM word comparesL) (by omega) (by omega)
 by_cases hs:s<0
 case' pos =>
  have HE2:=hid HE.out;rw [if_pos hs] at HE2
 case' neg =>
  have HE2:=hid HE.out;rw [if_neg hs] at HE2
 all_goals
  go_upto_region 9 with fail
  go_region_with (first | (go_at_call 53;refine (compares_any _).mono ?_;rintro e w2 ⟨rfl,b2,m2⟩;have hb2:=Blk.mods (Blk.drew hb1) m2 (fun e=>e);have M2:=(M1.drew).trans m2;have c02:w2.cell? ⟨w.heap.size,0,none⟩=some (.string word):=hb2.cell 0;have c32:w2.cell? ⟨w.heap.size,3,none⟩=some (.int .i64 s):=hb2.cell 3) | (go_at_call 29;refine (place_compares _ _ _ b2).mono ?_;rintro e w3 ⟨rfl,rfl⟩))
  all_goals
   go_wp2_with fail;go_ret
   exact ⟨by rw [HE2.out];simp,M2⟩
theorem opS_bd (d:Int):∀ k,k<=4->0<=opS d k/\opS d k<=200
 | 0,_=>by simp [opS]
 | k+1,h=>by
  have:=opS_bd d k (by omega)
  rw [opS]
  split
  ·omega
  ·exact this
set_option maxRecDepth 100000 in
set_option maxHeartbeats 2000000 in
theorem op_m (i:RIns) (w:World) (hw:i.word.size=3) (hs0:-1<=i.s) (hk:sortM i.word=108\/sortM i.word=115) :
  Calls Tryz.prog 31 #[.agg i.cells] w fun e w'=>e=.returned (.int .i64 (opM i))/\Mods Nil' w w':=by
 have HE:Hid (opM i=opS (((i.word[2]'(by omega)).toNat:Int) - 48) 4+(if i.word[0]'(by omega)=115 then 4 else 0)+(if i.s<0 then 4 else 0)):=by
  rw [Hid,opM]
  have e2:i.word[2]! = i.word[2]'(by omega):=getElem!_pos _ _ _
  have e0:i.word[0]! = i.word[0]'(by omega):=getElem!_pos _ _ _
  rw [e2,e0]
  rcases hk with h | h<;>simp [h]
 obtain ⟨word,is32,d,s,jump,n,label,name⟩:=i;unfold RIns.cells
 have hw3:word.size=3:=hw
 simp only at *
 go_enter Tryz.func31,Tryz.ntmps31
 go_wp2_with fail
 refine (sort_any _ _ (by unfold maxLen;omega)).mono ?_
 rintro e w1 ⟨rfl,m1⟩
 have hb1:Blk w1 w.heap.size #[.string word,.bool is32,.int .i64 d,.int .i64 s,.int .i64 jump,.int .u64 n,.string label,.string name] 51:=(Blk.new w _ _).mods m1 (fun e=>e)
 have M1:Mods Nil' w w1:=((Mods.refl _ _).alloc _).trans m1
 obtain ⟨c0,c1,c2,c3,c4,c5,c6,c7⟩:=hb1.cells8
 have h2:2<word.size:=by omega
 have h0:0<word.size:=by omega
 have hl2:=(word[2]).toNat_lt
 have hW2:Mods Nil' w (w1.alloc (.cells #[.int .i64 1,.int .i64 2,.int .i64 4,.int .i64 8] 3)):=M1.alloc _
 have hB2:=hb1.alloc (.cells #[.int .i64 1,.int .i64 2,.int .i64 4,.int .i64 8] 3)
 have hZ2:=Blk.new w1 #[.int .i64 1,.int .i64 2,.int .i64 4,.int .i64 8] 3
 have HEE:Hid _:=HE.out
 clear HE m1
 rcases hk with hk | hk
 all_goals
  rw [hk];go_wp2_with fail;generalize w1.alloc (Obj.cells #[.int .i64 1,.int .i64 2,.int .i64 4,.int .i64 8] 3)=W at *;generalize w1.heap.size=gz at *
  go_loopg [3,5] 4 (fun g nv kv wx=>∃ k:Nat,kv=.int .i64 k/\nv=.int .i64 (opS (((word[2]'h2).toNat:Int) - 48) k)/\Mods Nil' W wx/\k<=4/\g=4 - k)
  case atStart=>exact ⟨0,rfl,rfl,Mods.refl _ _,by omega,rfl⟩
  case round =>
   obtain ⟨k,rfl,rfl,hmd,hk4,rfl⟩:=hrel
   have hB:=hB2.mods hmd (fun e=>e)
   have hZ:=hZ2.mods hmd (fun e=>e)
   clear c0 c1 c2 c3 c4 c5 c6 c7;obtain ⟨c0,c1,c2,c3,c4,c5,c6,c7⟩:=hB.cells8
   by_cases hkl:k<4
   ·have cz:wr.cell? ⟨gz,k,none⟩=some (.int .i64 (sizesL[k]?.getD 0)):=by
     rw [hZ.cell k]
     have:k=0\/k=1\/k=2\/k=3:=by omega
     rcases this with rfl | rfl | rfl | rfl<;>rfl
    have HS:Hid (opS (((word[2]'h2).toNat:Int) - 48) (k+1)=if sizesL[k]?.getD 0=((word[2]'h2).toNat:Int) - 48 then 128+(k:Int) else opS (((word[2]'h2).toNat:Int) - 48) k):=rfl
    generalize sizesL[k]?.getD 0=z at *
    by_cases hz:z=((word[2]'h2).toNat:Int) - 48
    ·have hz2:(z==((word[2]'h2).toNat:Int) - 48)=true:=by simp [hz]
     rw [if_pos hz] at HS
     have HZ:Hid _:=hz
     clear hz;go_wp2_with fail;go_quiet (fail);go_wp2_with fail
     go_roundg (4 - (k+1))
     case measure=>omega
     case rel=>exact ⟨k+1,by go_num,by rw [HS.out],hmd.drewN _,by omega,rfl⟩
    ·have hz2:(z==((word[2]'h2).toNat:Int) - 48)=false:=by simp [hz]
     rw [if_neg hz] at HS
     have HZ:Hid _:=hz
     clear hz;go_wp2_with fail;go_quiet (fail);go_wp2_with fail
     go_roundg (4 - (k+1))
     case measure=>omega
     case rel=>exact ⟨k+1,by go_num,by rw [HS.out],hmd.drewN _,by omega,rfl⟩
   ·obtain rfl:k=4:=by omega
    have hbd:=opS_bd (((word[2]'h2).toNat:Int) - 48) 4 (by omega)
    have hl0:=(word[0]'h0).toNat_lt
    generalize opS (((word[2]'h2).toNat:Int) - 48) 4=nv at *
    obtain ⟨b0,b1⟩:=hbd
    have Mz:=hW2.trans hmd
    by_cases h115:word[0]'h0=115
    ·have HE3:=HEE.out
     rw [if_pos h115] at HE3
     have t0:(((word[0]'h0).toNat:Int)==115)=true:=by rw [h115];rfl
     by_cases hs:s<0
     ·rw [if_pos hs] at HE3
      have HE4:Hid _:=HE3
      clear HE3 h115;go_wp2_with fail;go_ret
      exact ⟨by rw [HE4.out];rfl,Mz⟩
     ·rw [if_neg hs] at HE3
      have HE4:Hid _:=HE3
      clear HE3 h115;go_wp2_with fail;go_ret
      exact ⟨by rw [HE4.out,Int.add_zero];rfl,Mz⟩
    ·have HE3:=HEE.out
     rw [if_neg h115] at HE3
     have t0:(((word[0]'h0).toNat:Int)==115)=false:=by
      rw [beq_eq_false_iff_ne]
      exact fun e=>h115 (UInt8.toNat_inj.1 (by have:((word[0]'h0).toNat:Int)=115:=e;show (word[0]'h0).toNat=115;omega))
     by_cases hs:s<0
     ·rw [if_pos hs] at HE3
      have HE4:Hid _:=HE3
      clear HE3 h115;go_wp2_with fail;go_ret
      exact ⟨by rw [HE4.out,Int.add_zero];rfl,Mz⟩
     ·rw [if_neg hs] at HE3
      have HE4:Hid _:=HE3
      clear HE3 h115;go_wp2_with fail;go_ret
      exact ⟨by rw [HE4.out,Int.add_zero,Int.add_zero];rfl,Mz⟩
theorem three_of_size (s:ByteArray) (l:Int) (h:0<sizeM s l):s.size=3:=by
 unfold sizeM at h
 by_cases e:s.size=3
 ·exact e
 ·simp [e] at h
theorem sort_three (s:ByteArray) (h:sortM s=108\/sortM s=115):s.size=3:=by
 unfold sortM at h
 split at h
 ·omega
 split at h
 ·omega
 split at h
 ·rename_i e;exact three_of_size s 108 e
 split at h
 ·rename_i e;exact three_of_size s 115 e
 split at h
 ·omega
 split at h
 ·omega
 split at h
 ·omega
 split at h
 ·omega
 ·omega
theorem op_any (i:RIns) (h:i.Fit) (w:World) :
  Calls Tryz.prog 31 #[.agg i.cells] w fun e w'=>e=.returned (.int .i64 (opM i))/\Mods Nil' w w':=by
 rcases h.sort with hk | hk | ⟨hk,_⟩ | hk | hk | hk | hk | hk
 ·exact op_r i w h.word h.s0 hk
 ·exact op_j i w h.word h.s0 hk
 ·exact op_m i w (sort_three _ (.inl hk)) h.s0 (.inl hk)
 ·exact op_m i w (sort_three _ (.inr hk)) h.s0 (.inr hk)
 ·exact op_c i w h.word (.inl hk)
 ·exact op_c i w h.word (.inr (.inl hk))
 ·exact op_c i w h.word (.inr (.inr (.inl hk)))
 ·exact op_c i w h.word (.inr (.inr (.inr hk)))
def jumpM (lab:List (ByteArray × Int)) (x:RIns) (a:Int):Int:=if sortM x.word=106 then labelM x.label lab - a - slotsI x.word else x.jump
set_option maxHeartbeats 1000000 in
theorem jump_any (w:World) (fb off slots:Nat) (vL vA vB vP:Value) (name:ByteArray) (ls:List RIns) (ats:List Int) (lab:List (ByteArray × Int)) (h:FRd w fb off slots vL vA vB vP name ls ats lab) (k:Nat) (hk:k<ls.length) (hka:k<ats.length)
  (hb:lab.length<=1000) (hl:ls.length<=1000) (hw:ls[k].word.size<=100) (ha:0<=ats[k]/\ats[k]<=1000) (hj:sortM ls[k].word=106->-1<=labelM ls[k].label lab/\labelM ls[k].label lab<=1000) :
  Calls Tryz.prog 17 #[.pointer (some ⟨fb,off,none⟩),.int .i64 k] w fun e w'=>e=.returned (.int .i64 (jumpM lab ls[k] ats[k]))/\Mods Nil' w w':=by
 obtain ⟨oL,cL,hvL,vwL⟩:=h.sl.view;obtain ⟨oA,cA,hvA,vwA⟩:=h.sa.view;subst hvL hvA
 obtain ⟨gL,csL,rfl,_⟩:=vwL (by omega)
 obtain ⟨gA,csA,rfl,_⟩:=vwA (by omega)
 obtain ⟨e0,e1,e2,e3,e4,e5,e6,e7,_⟩:=h.sl.at8 rfl k hk
 have c1:=h.c1
 have HJ:=hid hj;clear hj
 have HH:Hid _:=h
 have HIK:Hid (ls[k]=ls[k]):=rfl
 have hca:∀ (g:Ext Nil' w),True:=fun _=>trivial
 have HCA:Hid (∀ wx,Mods Nil' w wx->wx.cell? ⟨gA,k,none⟩=some (.int .i64 ats[k])):=by
  intro wx m
  have hq:=h.quiet m
  obtain ⟨g,hg,hc⟩:=hq.sa.at rfl k hka
  cases hg
  rw [hc k hka,intL,List.getElem?_map,List.getElem?_eq_getElem hka];rfl
 clear h hca HIK;generalize ls[k]=x at *;generalize ats[k]=a at *;obtain ⟨xw,x32,xd,xs,xj,xn,xl,xm⟩:=x;simp only at *
 have HE:Hid (jumpM lab ⟨xw,x32,xd,xs,xj,xn,xl,xm⟩ a=if sortM xw=106 then labelM xl lab - a - slotsI xw else xj):=rfl
 go_enter Tryz.func17,Tryz.ntmps17
 go_wp2_with fail
 refine (sort_any _ _ (by unfold maxLen;omega)).mono ?_
 rintro e w1 ⟨rfl,m1⟩
 have hb1:Blk w1 w.heap.size #[.string xw,.bool x32,.int .i64 xd,.int .i64 xs,.int .i64 xj,.int .u64 xn,.string xl,.string xm] 51:=(Blk.new w _ _).mods m1 (fun e=>e)
 have M1:Mods Nil' w w1:=((Mods.refl _ _).alloc _).trans m1
 clear e0 e1 e2 e3 e4 e5 e6 e7 c1 m1;obtain ⟨e0,e1,e2,e3,e4,e5,e6,e7⟩:=hb1.cells8
 by_cases hs:sortM xw=106
 ·have hj:=HJ.out hs
  rw [hs]
  obtain ⟨g0,g1,g2,g3,g4,g5,g6,g7⟩:=Ext.cells8 (S:=Nil') hb1 (fun e=>e)
  have R:∀ g:Ext Nil' w1,FRd g.w fb off slots _ _ vB vP name ls ats lab:=fun g=>HH.out.quiet (M1.trans g.m)
  have f1:=fun g=>(R g).c1
  have f2:=fun g=>(R g).c2
  have ga:∀ g:Ext Nil' w1,g.w.cell? ⟨gA,k,none⟩=some (.int .i64 a):=fun g=>HCA.out _ (M1.trans g.m)
  have hlb:∀ g:Ext Nil' w1,Calls Tryz.prog 34 #[.pointer (some ⟨fb,off,none⟩),.string xl] g.w fun e w'=>e=.returned (.int .i64 (labelM xl lab))/\Mods Nil' g.w w':=fun g=>(label_any fb off xl lab vB vP g.w (R g).c4 (R g).c5 (R g).sb (R g).sp hb).mono (fun e w' ⟨h1,h2⟩=>⟨h1,h2 ▸ Mods.refl _ _⟩)
  have hsi:=slotsI_le xw
  have HE2:=hid HE.out;rw [if_pos hs] at HE2
  have HLB:Hid _:=hlb
  clear hlb R;go_wp2_with fail
  have ne1:=Ext.ne Nil' w1
  refine wp_region_ext Nil' (by kernel_rfl) (by kernel_rfl) ?_
  repeat (go_big_quiet_step (first | (go_at_call 34;exact Calls.ext_of (HLB.out _)) | (go_at_call 35;exact Calls.ext_of (slots_any ⟨xw,x32,xd,xs,xj,xn,xl,xm⟩ _))))
  refine wpQuiet_nil ?_
  rintro w2 ⟨⟨wx,m2⟩,hwx⟩
  simp only at hwx
  subst hwx;go_wp2_with fail;go_ret
  exact ⟨by rw [HE2.out];rfl,M1.trans m2⟩
 ·have HE2:=hid HE.out;rw [if_neg hs] at HE2;go_wp2_with fail;go_ret
  exact ⟨by rw [HE2.out];rfl,M1⟩
set_option maxHeartbeats 400000 in
theorem function_any (pb:Nat) (nm:ByteArray) (fs:List (RFn × HFn)) (vM vF:Value) (w:World) (h0:Blk w pb #[vM,vF] 41)
  (sF:Sl w 46 8 vF fs.length (fs.flatMap rowC)) (hb:fs.length<=1000) :
  Calls Tryz.prog 11 #[.pointer (some ⟨pb,0,none⟩),.string nm] w fun e w'=>e=.returned (.int .i64 (placeM nm (fs.map (fun x=>x.1.name))))/\w'=w:=by
 obtain ⟨oM,cM,hvM,_⟩:=sF.view;subst hvM
 have p1:w.cell? ⟨pb,1,none⟩=some (.slice oM fs.length cM):=h0.cell 1
 go_enter Tryz.func11,Tryz.ntmps11
 go_wp2
 go_loop [5] (fun i=>∃ k:Nat,k<=fs.length/\i=.int .i64 k/\∀ j,(hj:j<fs.length)->j<k->fs[j].1.name≠nm) (fun i=>fs.length - (intOf i).toNat)
 case atStart=>exact ⟨0,Nat.zero_le _,rfl,fun j _ h=>absurd h (Nat.not_lt_zero _)⟩
 case round =>
  obtain ⟨k,hk,rfl,hn⟩:=hrel
  have HN:Hid _:=hn
  clear hn
  by_cases hlt:k<fs.length
  ·obtain ⟨g,rfl,cells⟩:=sF.atR rfl rfl k hlt
   have c0:w.cell? ⟨g,k*8,none⟩=some (.string fs[k].1.name):=cells k hlt 0 (by omega)
   clear cells
   by_cases he:fs[k].1.name=nm
   ·have HP:Hid (_=_):=placeM_at nm (fs.map (fun x=>x.1.name)) k (by simpa using hlt) (fun j hj hjk=>by simpa using HN.out j (by simpa using hj) hjk) (by simpa using he)
    have q:=str_eq he
    clear he
    go_wp2
    go_ret
    exact ⟨ret_i64 HP.out.symm,rfl⟩
   ·have q:=str_ne he
    have HE:Hid _:=he
    clear he
    go_wp2
    go_round
    case rel=>exact ⟨k+1,by omega,by go_num,fun j hj hjk=>by
     by_cases e:j=k
     ·subst e;exact HE.out
     ·exact HN.out j hj (by omega)⟩
    case measure=>simp [intOf];omega
  ·have HP:Hid (placeM nm (fs.map (fun x=>x.1.name))=-1):=by
    refine placeM_none nm _ (fun j hj=>?_)
    have hj':j<fs.length:=by simpa using hj
    simpa using HN.out j hj' (by omega)
   go_wp2
   go_ret
   exact ⟨ret_i64 HP.out.symm,rfl⟩
end Go.Proofs.YtoknbkfclhmapaaGreatDoor
