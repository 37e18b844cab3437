import Derived.Test.YtoknbkfclhmapaaGreatDoorC02
import Derived.Test.YtoknbkfclhmapaaGreatDoorC44
import Derived.Lib.AppendStr
import Derived.Test.YtoknbkfclhmapaaGreatDoorC04
import Derived.Test.YtoknbkfclhmapaaGreatDoorC38
import Derived.Deep.RegionLaw
import Derived.BigQuiet
import Derived.Deep.RegionWith
import Derived.Deep.LoopGhost
import Derived.Deep.DeepCutAuto
namespace Go.Proofs.YtoknbkfclhmapaaGreatDoor
open Go.RowKit
def u8c (l:List UInt8):List Value:=l.map (fun b=>.int .u8 (b.toNat:Int))
theorem u8c_app (a b:List UInt8):u8c (a++b)=u8c a++u8c b:=by simp [u8c]
theorem u8c_b8:∀ (l:List Int),(∀ x∈l,0<=x/\x<=255)->u8c (b8 l)=l.map (Value.int .u8)
 | [],_=>rfl
 | x::l,h=>by
  have hx:=h x (by simp)
  have e:((UInt8.ofNat x.toNat).toNat:Int)=x:=by rw [UInt8.toNat_ofNat'];omega
  have:=u8c_b8 l (fun y hy=>h y (List.mem_cons_of_mem _ hy))
  simp only [u8c,b8,List.map_cons,List.map_map] at this ⊢
  rw [e]
  congr 1
def Out (w:World) (v:Value) (l:List UInt8):Prop:=Sl w 5 1 v l.length (u8c l)
def OutPost (w:World) (v:Value) (l:List UInt8) (e:Ending) (w':World):Prop :=
 ∃ v',e=.returned v'/\Out w' v' l/\Mods (fun k=>v.ownBlock=some k) w w'/\∀ k,v'.ownBlock=some k->v.ownBlock=some k\/w.heap.size<=k
theorem Out.mods {w w':World} {v:Value} {l:List UInt8} {S:Nat->Prop} (h:Out w v l) (m:Mods S w w') (hS:∀ k,v.ownBlock=some k->¬ S k):Out w' v l:=Sl.mods h m hS
theorem Out.quiet {w w':World} {v:Value} {l:List UInt8} (h:Out w v l) (m:Mods Nil' w w'):Out w' v l:=h.mods m (fun _ _=>id)
theorem info_u8:(Tryz.prog.info? 5).map (fun i=>(i.zero,i.size,i.bytes))=some (some (.int .u8 0),1,1):=by kernel_rfl
theorem u8_one (l:List Int):∀ u∈l.map (Value.int .u8),u.oneCell'=true:=by
 intro u hu;obtain ⟨x,_,rfl⟩:=List.mem_map.1 hu
 rfl
theorem Out.app {w:World} {v:Value} {l:List UInt8} {n:Nat} {ns:List Int} (h:∀ x∈ns,0<=x/\x<=255) (hn:n=l.length+ns.length) (s:Sl w 5 1 v n (u8c l++ns.map (Value.int .u8))):Out w v (l++b8 ns):=by
 unfold Out;rw [u8c_app,u8c_b8 ns h,List.length_append,b8_len,<- hn];exact s
theorem str_cells (s:ByteArray):Lib.strCells s=u8c (BL s):=by
 simp [Lib.strCells,u8c,BL]
theorem run_append_str {P:Program} (w:World) (t u ty e:TypeId) (i:TypeInfo) (ht:P.underlying t=some (.slice e)) (hu:P.underlying u=some .string) (hi:P.info? e=some i) (hz:i.zero=some (.int .u8 0))
  (hsize:i.size=1) (hby:i.bytes=1) (v:Value) (n:Nat) (xs:List Value) (hown:Sl w e 1 v n xs) (s:ByteArray) (h63:n+s.size<=maxLen) (hbytes:n+s.size<=140737488355328) :
  ∃ v' w',(Builtin.append_ #[t,u] ty #[v,.string s]).run P w=.ok v' w'/\Sl w' e 1 v' (n+s.size) (xs++u8c (BL s))/\Mods (fun k=>v.ownBlock=some k) w w' /\
   (∀ k,v'.ownBlock=some k->v.ownBlock=some k\/w.heap.size<=k):=by
 obtain ⟨v',w',hr,h2,h3,_⟩:=Lib.run_append_own_string (P:=P) w 0 t u ty e i ht hu hi hz hsize hby v n xs hown s h63 hbytes (Nat.zero_le _)
 rw [str_cells] at h2
 refine ⟨v',w',hr,h2,Mods.of_grown h3,?_⟩
 intro k hk
 rcases hown.2 with ⟨rfl,rfl⟩ | ⟨g,cap,cur,rfl,_,hg,hn,hm,hcs,htk⟩
 ·obtain ⟨v2,w2,hr2,h22,_⟩:=Lib.run_append_own_string (P:=P) w w.heap.size t u ty e i ht hu hi hz hsize hby _ 0 xs ⟨hown.1,.inl ⟨rfl,rfl⟩⟩ s h63 hbytes (Nat.le_refl _)
  rw [hr] at hr2
  cases hr2
  exact .inr (World.ownsRow.lt h22 k hk).1
 ·by_cases hroom:n+s.size<=cap
  ·have hr2:=Lib.run_append_room_string (P:=P) w t u ty e i ht hu hi hsize g n cap cur hg s hroom (by simp at hcs;omega)
   rw [hr] at hr2
   cases hr2
   exact .inl hk
  ·have hr2:=Lib.run_append_grow_string (P:=P) w t u ty e i (.int .u8 0) ht hu hi hz ⟨g,0,none⟩ n cap xs (by rw [hsize];exact hown.1) (World.ownsRow.cells hown (g:=g) rfl) s (by omega) (by unfold maxLen at h63;omega) (by rw [hby];exact growslice_fits (by omega) (by omega))
   rw [hr] at hr2
   cases hr2
   cases hk
   exact .inr (Nat.le_refl _)
theorem wp_append_str {P:Program} (w:World) {o:Oper} {a:Act} {K:Act->World->Prop} {Q:Exit->Act->World->Prop} (sl x:Operand) (t u:TypeId)
  (ho:o.op=.call { callee:=.builtin .append,args:=#[sl,x],argTypes:=#[t,u] })
  (e:TypeId) (i:TypeInfo) (ht:P.underlying t=some (.slice e)) (hu:P.underlying u=some .string) (hi:P.info? e=some i) (hz:i.zero=some (.int .u8 0)) (hsize:i.size=1) (hby:i.bytes=1)
  (v:Value) (n:Nat) (xs:List Value) (hs:a.eval sl=v) (hown:Sl w e 1 v n xs) (s:ByteArray) (hx:a.eval x=.string s) (h63:n+s.size<=maxLen) (hbytes:n+s.size<=140737488355328)
  (h:∀ v' w',Sl w' e 1 v' (n+s.size) (xs++u8c (BL s))->Mods (fun k=>v.ownBlock=some k) w w'->(∀ k,v'.ownBlock=some k->v.ownBlock=some k\/w.heap.size<=k)->K (a.put o.dst v') w'):o.wp P a w K Q:=by
 obtain ⟨v',w',hr,h2,h3,h4⟩:=run_append_str (P:=P) w t u o.type e i ht hu hi hz hsize hby v n xs hown s h63 hbytes
 unfold Oper.wp execOp
 simp only [ho,resolve,invoke,builtin,Sem.run_bind,Sem.run_pure,Result.andThen_ok,List.map_toArray,List.map_cons,List.map_nil,hs,hx,hr]
 exact h v' w' h2 h3 h4
theorem wpList_append_str {P:Program} (w:World) {ops:Array Oper} {rest:List Oper} {o:Oper} {a:Act} {Q:Exit->Act->World->Prop} (hgd:o.guard=none) (sl x:Operand) (t u:TypeId)
  (ho:o.op=.call { callee:=.builtin .append,args:=#[sl,x],argTypes:=#[t,u] })
  (e:TypeId) (i:TypeInfo) (ht:P.underlying t=some (.slice e)) (hu:P.underlying u=some .string) (hi:P.info? e=some i) (hz:i.zero=some (.int .u8 0)) (hsize:i.size=1) (hby:i.bytes=1)
  (v:Value) (n:Nat) (xs:List Value) (hs:a.eval sl=v) (hown:Sl w e 1 v n xs) (s:ByteArray) (hx:a.eval x=.string s) (h63:n+s.size<=maxLen) (hbytes:n+s.size<=140737488355328)
  (h:∀ v' w',Sl w' e 1 v' (n+s.size) (xs++u8c (BL s))->Mods (fun k=>v.ownBlock=some k) w w'->(∀ k,v'.ownBlock=some k->v.ownBlock=some k\/w.heap.size<=k)->wpList P ops Q rest (a.put o.dst v') w'):wpList P ops Q (o::rest) a w :=
 wpList_plain hgd fun _ hK=>wp_append_str w sl x t u ho e i ht hu hi hz hsize hby v n xs hs hown s hx h63 hbytes fun v' w' h2 h3 h4=>hK _ _ (h v' w' h2 h3 h4)
theorem info_u8_parts:∃ i:TypeInfo,Tryz.prog.info? 5=some i/\i.zero=some (.int .u8 0)/\i.size=1/\i.bytes=1:=by
 obtain ⟨i,h,hq⟩:=Option.map_eq_some_iff.1 info_u8
 exact ⟨i,h,congrArg (·.1) hq,congrArg (·.2.1) hq,congrArg (·.2.2) hq⟩
theorem own_new {w w':World} {v:Value} {k:Nat} (h:v.ownBlock=some k\/w'.heap.size<=k) (m:w.heap.size<=w'.heap.size):v.ownBlock=some k\/w.heap.size<=k:=by
 rcases h with h | h
 ·exact .inl h
 ·exact .inr (Nat.le_trans m h)
theorem own_trans {w w1:World} {v v1 v2:Value} (h1:∀ k,v1.ownBlock=some k->v.ownBlock=some k\/w.heap.size<=k) (h2:∀ k,v2.ownBlock=some k->v1.ownBlock=some k\/w1.heap.size<=k) (m:w.heap.size<=w1.heap.size):∀ k,v2.ownBlock=some k->v.ownBlock=some k\/w.heap.size<=k:=by
 intro k hk
 rcases h2 k hk with h | h
 ·exact h1 k h
 ·exact .inr (Nat.le_trans m h)
theorem mods_trans {w w1 w2:World} {v v1:Value} (h1:Mods (fun k=>v.ownBlock=some k) w w1) (hv:∀ k,v1.ownBlock=some k->v.ownBlock=some k\/w.heap.size<=k) (h2:Mods (fun k=>v1.ownBlock=some k) w1 w2):Mods (fun k=>v.ownBlock=some k) w w2 :=
 ⟨h2.os.trans h1.os,h2.tape.trans h1.tape,h2.output.trans h1.output,Nat.le_trans h1.size h2.size,fun k hk hS=>(h2.block k (Nat.lt_of_lt_of_le hk h1.size) (fun e=>by
  rcases hv k e with h | h
  ·exact hS h
  ·omega)).trans (h1.block k hk hS)⟩
set_option maxRecDepth 100000 in
set_option maxHeartbeats 400000 in
theorem aTwo_any (w:World) (v:Value) (l:List UInt8) (h:Out w v l) (hl:l.length<=1000000) (n:Int) :
  Calls Tryz.prog 73 #[v,.int .i64 n] w fun e w'=>OutPost w v (l++b8 (twoL n)) e w':=by
 obtain ⟨iU,hiU,hzU,hsU,hbU⟩:=info_u8_parts;have HO:=hid h
 have HB:Hid (∀ x∈twoL n,0<=x/\x<=255):=fun x hx=>by simp [twoL] at hx;rcases hx with rfl | rfl<;>omega
 clear h
 go_enter Tryz.func73,Tryz.ntmps73
 go_wp2_with (at_builtin;refine wpList_append_sl _ rfl (.tmp 5) (.tmp 11) 52 rfl 5 iU (.int .u8 0) 1 1 Tryz.underlying52 hiU hzU hsU hbU rfl (by decide) v l.length (u8c l) rfl (HO.out.quiet ((Mods.refl _ _).alloc _)) ⟨w.heap.size,0,none⟩ 2 2 ((twoL n).map (Value.int .u8)) rfl rfl (news_cells _ _ _ _ rfl) (u8_one _) (by unfold maxLen;omega) (by omega) ?_;intro v2 w2 s2 m2 l2)
 go_ret
 exact ⟨_,rfl,Out.app HB.out rfl s2,((Mods.refl _ _).alloc _).trans m2,fun k hk=>own_new (l2 k hk) ((Mods.refl Nil' w).alloc _).size⟩
set_option maxRecDepth 100000 in
set_option maxHeartbeats 400000 in
theorem aNum_any (w:World) (v:Value) (l:List UInt8) (h:Out w v l) (hl:l.length<=1000000) (n:Int) (_hn:-2147483648<=n/\n<=2147483647) :
  Calls Tryz.prog 122 #[v,.int .i32 n] w fun e w'=>OutPost w v (l++b8 (fourL n)) e w':=by
 obtain ⟨iU,hiU,hzU,hsU,hbU⟩:=info_u8_parts;have HO:=hid h
 have HB:Hid (∀ x∈fourL n,0<=x/\x<=255):=fun x hx=>by simp [fourL] at hx;rcases hx with rfl | rfl | rfl | rfl<;>omega
 clear h
 go_enter Tryz.func122,Tryz.ntmps122
 go_wp2_with (at_builtin;refine wpList_append_sl _ rfl (.tmp 5) (.tmp 17) 52 rfl 5 iU (.int .u8 0) 1 1 Tryz.underlying52 hiU hzU hsU hbU rfl (by decide) v l.length (u8c l) rfl (HO.out.quiet ((Mods.refl _ _).alloc _)) ⟨w.heap.size,0,none⟩ 4 4 ((fourL n).map (Value.int .u8)) rfl rfl (news_cells _ _ _ _ rfl) (u8_one _) (by unfold maxLen;omega) (by omega) ?_;intro v2 w2 s2 m2 l2)
 go_ret
 exact ⟨_,rfl,Out.app HB.out rfl s2,((Mods.refl _ _).alloc _).trans m2,fun k hk=>own_new (l2 k hk) ((Mods.refl Nil' w).alloc _).size⟩
set_option maxRecDepth 100000 in
set_option maxHeartbeats 400000 in
theorem aName_any (w:World) (v:Value) (l:List UInt8) (h:Out w v l) (hl:l.length<=1000000) (s:ByteArray) (hs:s.size<=255) :
  Calls Tryz.prog 72 #[v,.string s] w fun e w'=>OutPost w v (l++namedU s) e w':=by
 obtain ⟨iU,hiU,hzU,hsU,hbU⟩:=info_u8_parts;have HO:=hid h
 have HB:Hid (∀ x∈[(s.size:Int)],0<=x/\x<=255):=fun x hx=>by simp at hx;subst hx;omega
 have HN:Hid (l++namedU s=l++b8 [(s.size:Int)]++BL s):=by
  rw [Hid,namedU,Int.emod_eq_of_lt (by omega) (by omega),List.append_assoc]
 clear h
 go_enter Tryz.func72,Tryz.ntmps72
 go_wp2_with (first
  | (at_builtin;refine wpList_append_sl _ rfl (.tmp 5) (.tmp 9) 52 rfl 5 iU (.int .u8 0) 1 1 Tryz.underlying52 hiU hzU hsU hbU rfl (by decide) v l.length (u8c l) rfl (HO.out.quiet ((Mods.refl _ _).alloc _)) ⟨w.heap.size,0,none⟩ 1 1 ([(s.size:Int)].map (Value.int .u8)) rfl rfl (news_cells _ _ _ _ rfl) (u8_one _) (by unfold maxLen;omega) (by omega) ?_;intro v2 w2 s2 m2 l2;have S2:Hid (Sl w2 5 1 v2 (l.length+1) (u8c l++[(s.size:Int)].map (Value.int .u8))):=s2;have L2:Hid (∀ k,v2.ownBlock=some k->v.ownBlock=some k\/w.heap.size<=k):=fun k hk=>own_new (l2 k hk) ((Mods.refl Nil' w).alloc _).size;have M2:Hid (Mods (fun k=>v.ownBlock=some k) w w2):=((Mods.refl _ _).alloc _).trans m2;clear s2 l2 m2)
  | (at_builtin;refine wpList_append_str _ rfl (.tmp 10) (.tmp 11) 52 9 rfl 5 iU Tryz.underlying52 Tryz.underlying9 hiU hzU hsU hbU v2 (l.length+1) (u8c l++[(s.size:Int)].map (Value.int .u8)) rfl S2.out s rfl (by unfold maxLen;omega) (by omega) ?_;intro v3 w3 s3 m3 l3))
 go_ret
 refine ⟨_,rfl,?_,mods_trans M2.out L2.out m3,own_trans L2.out l3 M2.out.size⟩
 have h1:u8c (l++b8 [(s.size:Int)]++BL s)=u8c l++[(s.size:Int)].map (Value.int .u8)++u8c (BL s):=by rw [u8c_app,u8c_app,u8c_b8 _ HB.out]
 have h2:(l++b8 [(s.size:Int)]++BL s).length=l.length+1+s.size:=by simp only [List.length_append,b8_len,BL_len,List.length_cons,List.length_nil]
 rw [HN.out,Out,h1,h2];exact s3
def slotU (code:Nat) (d s:Nat) (j n h:Int) (slots:Nat):List UInt8 :=
 b8 [(code:Int),(d:Int)+16*s,j % 256,j / 256 % 256]++b8 (fourL n)++(if slots=1 then [] else [0,0,0,0]++b8 (fourL h))
theorem wrap8 (x:Int):IntKind.u8.wrap x=x % 256:=by
 simp [IntKind.wrap,IntKind.bits,IntKind.signed]
set_option maxRecDepth 100000 in
theorem or_nib:∀ d,d<16->∀ s,s<16->bits BinOp.or IntKind.u8 ((d:Nat):Int) ((s:Nat)*16:Int)=d+16*s:=by decide +kernel
set_option maxRecDepth 100000 in
set_option maxHeartbeats 1000000 in
theorem aSlots_any (w:World) (v:Value) (l:List UInt8) (h:Out w v l) (hl:l.length<=900000) (b:Nat) (cs:Array Value) (code slots:Nat) (hb:Blk w b cs 128) (h0:cs[0]?=some (.int .u8 code)) (h2:cs[2]?=some (.int .i64 slots))
  (d s:Nat) (j n hh:Int) (lab nm:ByteArray) (hc:code<=255) (hd:d<=15) (hs:s<=15) (_hj:-32768<=j/\j<=32767) (hn:-2147483648<=n/\n<=2147483647) (hhh:-2147483648<=hh/\hh<=2147483647) (hsl:slots<=2) :
  Calls Tryz.prog 74 #[.agg #[.pointer (some ⟨b,0,none⟩),.int .u8 d,.int .u8 s,.int .i16 j,.int .i32 n,.int .i32 hh,.string lab,.string nm],v] w fun e w'=>OutPost w v (l++slotU code d s j n hh slots) e w':=by
 obtain ⟨iU,hiU,hzU,hsU,hbU⟩:=info_u8_parts
 have c0:w.cell? ⟨b,0,none⟩=some (.int .u8 code):=by rw [hb.cell 0];exact h0
 have c2:w.cell? ⟨b,2,none⟩=some (.int .i64 slots):=by rw [hb.cell 2];exact h2
 have hbl:=hb.lt
 have HO:=hid h;have HBO:=hid hb;clear h hb
 go_enter Tryz.func74,Tryz.ntmps74
 go_upto_region 1 with fail
 have hor:=or_nib d (by omega) s (by omega)
 have hw1:IntKind.u8.wrap ((s:Int)*16)=(s:Int)*16:=by rw [wrap8];omega
 have hw2:=wrap8 j
 have hw3:=wrap8 (j / 256)
 have hbx:=Blk.new w #[.pointer (some ⟨b,0,none⟩),.int .u8 d,.int .u8 s,.int .i16 j,.int .i32 n,.int .i32 hh,.string lab,.string nm] 99
 have HO1:Hid (Out (w.alloc (.cells #[.pointer (some ⟨b,0,none⟩),.int .u8 d,.int .u8 s,.int .i16 j,.int .i32 n,.int .i32 hh,.string lab,.string nm] 99)) v l):=HO.out.quiet ((Mods.refl _ _).alloc _)
 have HB1:Hid (Blk (w.alloc (.cells #[.pointer (some ⟨b,0,none⟩),.int .u8 d,.int .u8 s,.int .i16 j,.int .i32 n,.int .i32 hh,.string lab,.string nm] 99)) b cs 128):=HBO.out.alloc _
 have HM1:Hid (Mods Nil' w (w.alloc (.cells #[.pointer (some ⟨b,0,none⟩),.int .u8 d,.int .u8 s,.int .i16 j,.int .i32 n,.int .i32 hh,.string lab,.string nm] 99))):=(Mods.refl _ _).alloc _
 have HBX:=hid hbx;generalize w.alloc (.cells #[.pointer (some ⟨b,0,none⟩),.int .u8 d,.int .u8 s,.int .i16 j,.int .i32 n,.int .i32 hh,.string lab,.string nm] 99)=W at *;clear c0 c2
 have hnx:¬ (v.ownBlock=some w.heap.size):=HO1.out.notBlk HBX.out (by decide)
 have hnb:¬ (v.ownBlock=some b):=HO1.out.notBlk HB1.out (by decide)
 obtain ⟨x0,x1,x2,x3,x4,x5,x6,x7⟩:=Ext.cells8 (S:=fun k=>v.ownBlock=some k) HBX.out hnx
 have c0:∀ g:Ext (fun k=>v.ownBlock=some k) W,g.w.cell? ⟨b,0,none⟩=some (.int .u8 code):=fun g=>by rw [(HB1.out.mods g.m hnb).cell 0];exact h0
 have ne1:=Ext.ne (fun k=>v.ownBlock=some k) W
 clear hbx
 refine wp_region_mix [19,20] (fun w'=>∃ e:Ext (fun k=>v.ownBlock=some k) W,w'=e.w) (by kernel_rfl) (by kernel_rfl) (by kernel_rfl) ⟨⟨_,(Mods.refl _ _).drew⟩,rfl⟩ ?_
 iterate 3 (refine mix_pure rfl rfl rfl ?_;intro K hK;go_big_quiet_op;go_big_quiet_on)
 refine mix_nilCheck rfl rfl _ ⟨b,0,none⟩ rfl rfl ?_
 simp only [Act.put,List.setIfInBounds_toArray,List.set_cons_succ,List.set_cons_zero]
 iterate 15 (refine mix_pure rfl rfl rfl ?_;intro K hK;go_big_quiet_op;go_big_quiet_on)
 refine mix_act rfl rfl ?_
 intro K hK
 go_big_op
 refine hK _ _ rfl ⟨⟨_,((Mods.refl _ _).drew).alloc _⟩,rfl⟩ ?_
 clear hK K
 refine mix_act rfl rfl ?_
 intro K hK
 refine wp_append_sl _ (.tmp 5) (.tmp 24) 52 rfl 5 iU (.int .u8 0) 1 1 Tryz.underlying52 hiU hzU hsU hbU rfl (by decide) v l.length (u8c l) rfl (HO1.out.quiet (((Mods.refl _ _).alloc _).drew)) ⟨W.heap.size,0,none⟩ 4 4 ([(code:Int),(d:Int)+16*s,j % 256,j / 256 % 256].map (Value.int .u8)) rfl rfl (fun k u hu=>news_cells W _ _ _ rfl k u hu) (u8_one _) (by unfold maxLen;omega) (by omega) ?_
 intro v2 w2 s2 m2 l2
 have M2:Hid (Mods (fun k=>v.ownBlock=some k) W w2):=(((Mods.refl _ _).alloc _).drew).trans m2
 have L2:Hid (∀ k,v2.ownBlock=some k->v.ownBlock=some k\/W.heap.size<=k):=fun k hk=>own_new (l2 k hk) (((Mods.refl Nil' W).alloc _).drew).size
 have S2:Hid (Out w2 v2 (l++b8 [(code:Int),(d:Int)+16*s,j % 256,j / 256 % 256])):=Out.app (fun x hx=>by simp at hx;rcases hx with rfl | rfl | rfl | rfl<;>omega) rfl s2
 refine hK _ _ rfl ⟨⟨_,M2.out⟩,rfl⟩ ?_
 clear hK K s2 m2 l2
 simp only [Act.put,List.setIfInBounds_toArray,List.set_cons_succ,List.set_cons_zero]
 iterate 1 (refine mix_pure rfl rfl rfl ?_;intro K hK;go_big_quiet_op;go_big_quiet_on)
 refine mix_nil ?_
 simp only [Exit.then]
 have HB2:Hid (Blk w2 b cs 128):=HB1.out.mods M2.out hnb
 have HX2:Hid (Blk w2 w.heap.size #[.pointer (some ⟨b,0,none⟩),.int .u8 d,.int .u8 s,.int .i16 j,.int .i32 n,.int .i32 hh,.string lab,.string nm] 99):=HBX.out.mods M2.out hnx
 clear x0 x1 x2 x3 x4 x5 x6 x7 c0 ne1;obtain ⟨x0,x1,x2,x3,x4,x5,x6,x7⟩:=HX2.out.cells8
 have hl2:(l++b8 [(code:Int),(d:Int)+16*s,j % 256,j / 256 % 256]).length=l.length+4:=by rw [List.length_append,b8_len];rfl
 have HL2:=hid hl2;clear hl2
 have HN2:Hid (Calls Tryz.prog 122 #[v2,.int .i32 n] w2 fun e w'=>OutPost w2 v2 (l++b8 [(code:Int),(d:Int)+16*s,j % 256,j / 256 % 256]++b8 (fourL n)) e w'):=aNum_any w2 v2 _ S2.out (by rw [HL2.out];omega) n hn
 go_wp2_with fail;refine HN2.out.mono ?_;rintro e w3 ⟨v3,rfl,s3,m3,l3⟩
 have M3:Hid (Mods (fun k=>v.ownBlock=some k) W w3):=⟨m3.os.trans M2.out.os,m3.tape.trans M2.out.tape,m3.output.trans M2.out.output,Nat.le_trans M2.out.size m3.size,fun k hk hS=>(m3.block k (Nat.lt_of_lt_of_le hk M2.out.size) (fun e=>by
  rcases L2.out k e with h | h
  ·exact hS h
  ·omega)).trans (M2.out.block k hk hS)⟩
 have L3:Hid (∀ k,v3.ownBlock=some k->v.ownBlock=some k\/W.heap.size<=k):=own_trans L2.out l3 M2.out.size
 have S3:=hid s3
 have HB3:Hid (Blk w3 b cs 128):=HB1.out.mods M3.out hnb
 have HX3:Hid (Blk w3 w.heap.size #[.pointer (some ⟨b,0,none⟩),.int .u8 d,.int .u8 s,.int .i16 j,.int .i32 n,.int .i32 hh,.string lab,.string nm] 99):=HBX.out.mods M3.out hnx
 have HL3:Hid ((l++b8 [(code:Int),(d:Int)+16*s,j % 256,j / 256 % 256]++b8 (fourL n)).length=l.length+8):=by rw [Hid,List.length_append,HL2.out,b8_len];rfl
 clear m3 l3 s3 x0 x1 x2 x3 x4 x5 x6 x7;obtain ⟨x0,x1,x2,x3,x4,x5,x6,x7⟩:=HX3.out.cells8
 have c2:w3.cell? ⟨b,2,none⟩=some (.int .i64 slots):=by rw [HB3.out.cell 2];exact h2
 have hWs:w.heap.size<=W.heap.size:=HM1.out.size
 have HML:Hid (∀ (w':World) (v':Value),Mods (fun k=>v.ownBlock=some k) W w'->(∀ k,v'.ownBlock=some k->v.ownBlock=some k\/W.heap.size<=k)->Mods (fun k=>v.ownBlock=some k) w w'/\∀ k,v'.ownBlock=some k->v.ownBlock=some k\/w.heap.size<=k) :=
  fun w' v' m l=>⟨(HM1.out.mono (fun _ _ e=>e.elim)).trans m,fun k hk=>own_new (l k hk) hWs⟩
 by_cases h1:slots=1
 ·subst h1;go_wp2_with fail;go_ret
  refine ⟨v3,rfl,?_,HML.out _ _ M3.out L3.out⟩
  have:l++slotU code d s j n hh 1=l++b8 [(code:Int),(d:Int)+16*s,j % 256,j / 256 % 256]++b8 (fourL n):=by simp [slotU]
  rw [this];exact S3.out
 ·have hd1:decide ((slots:Int)=1)=false:=by simp;omega
  have hd2:((slots:Int)==1)=false:=by simp;omega
  go_wp2_with fail;clear x0 x1 x2 x3 x4 x5 x6 x7 c2
  obtain ⟨x0,x1,x2,x3,x4,x5,x6,x7⟩:=Ext.cells8 (S:=fun k=>v.ownBlock=some k) HBX.out hnx
  have ne1:=Ext.ne (fun k=>v.ownBlock=some k) W
  refine wp_region_mix [1,4] (fun w'=>∃ e:Ext (fun k=>v.ownBlock=some k) W,w'=e.w) (by kernel_rfl) (by kernel_rfl) (by kernel_rfl) ⟨⟨_,M3.out.drew⟩,rfl⟩ ?_
  iterate 1 (refine mix_pure rfl rfl rfl ?_;intro K hK;go_big_quiet_op;go_big_quiet_on)
  refine mix_act rfl rfl ?_
  intro K hK
  refine wp_append_str _ (.tmp 37) _ 52 9 rfl 5 iU Tryz.underlying52 Tryz.underlying9 hiU hzU hsU hbU v3 _ _ rfl (S3.out.quiet ((Mods.refl _ _).drew)) (T [0,0,0,0]) rfl (by rw [HL3.out];simp only [T_size,List.length_cons,List.length_nil];unfold maxLen;omega) (by rw [HL3.out];simp only [T_size,List.length_cons,List.length_nil];omega) ?_
  intro v4 w4 s4 m4 l4
  have M4:Hid (Mods (fun k=>v.ownBlock=some k) W w4):=⟨m4.os.trans M3.out.os,m4.tape.trans M3.out.tape,m4.output.trans M3.out.output,Nat.le_trans M3.out.size m4.size,fun k hk hS=>(m4.block k (Nat.lt_of_lt_of_le hk M3.out.size) (fun e=>by
   rcases L3.out k e with h | h
   ·exact hS h
   ·omega)).trans (M3.out.block k hk hS)⟩
  have L4:Hid (∀ k,v4.ownBlock=some k->v.ownBlock=some k\/W.heap.size<=k):=own_trans (w1:=w3.drew) L3.out l4 M3.out.size
  have S4:Hid (Out w4 v4 (l++b8 [(code:Int),(d:Int)+16*s,j % 256,j / 256 % 256]++b8 (fourL n)++[0,0,0,0])):=by
   rw [Hid,Out,u8c_app,List.length_append];exact s4
  have HL4:Hid ((l++b8 [(code:Int),(d:Int)+16*s,j % 256,j / 256 % 256]++b8 (fourL n)++[0,0,0,0]).length=l.length+12):=by rw [Hid,List.length_append,HL3.out];rfl
  refine hK _ _ rfl ⟨⟨_,M4.out⟩,rfl⟩ ?_
  clear hK K s4 m4 l4
  simp only [Act.put,List.setIfInBounds_toArray,List.set_cons_succ,List.set_cons_zero]
  iterate 2 (refine mix_pure rfl rfl rfl ?_;intro K hK;go_big_quiet_op;go_big_quiet_on)
  refine mix_act rfl rfl ?_
  intro K hK
  go_big_op
  refine (aNum_any w4 v4 _ S4.out (by rw [HL4.out];omega) hh hhh).mono ?_
  rintro e w5 ⟨v5,rfl,s5,m5,l5⟩
  have M5:Hid (Mods (fun k=>v.ownBlock=some k) W w5):=⟨m5.os.trans M4.out.os,m5.tape.trans M4.out.tape,m5.output.trans M4.out.output,Nat.le_trans M4.out.size m5.size,fun k hk hS=>(m5.block k (Nat.lt_of_lt_of_le hk M4.out.size) (fun e=>by
   rcases L4.out k e with h | h
   ·exact hS h
   ·omega)).trans (M4.out.block k hk hS)⟩
  have L5:Hid (∀ k,v5.ownBlock=some k->v.ownBlock=some k\/W.heap.size<=k):=own_trans L4.out l5 M4.out.size
  have S5:=hid s5
  refine hK _ _ rfl ⟨⟨_,M5.out⟩,rfl⟩ ?_
  clear hK K s5 m5 l5
  iterate 1 (refine mix_pure rfl rfl rfl ?_;intro K hK;go_big_quiet_op;go_big_quiet_on)
  refine mix_nil ?_
  try simp only [Exit.then]
  go_wp2_with fail;go_ret
  refine ⟨v5,rfl,?_,HML.out _ _ M5.out L5.out⟩
  have:l++slotU code d s j n hh slots=l++b8 [(code:Int),(d:Int)+16*s,j % 256,j / 256 % 256]++b8 (fourL n)++[0,0,0,0]++b8 (fourL hh):=by simp [slotU,h1]
  rw [this];exact S5.out
end Go.Proofs.YtoknbkfclhmapaaGreatDoor
