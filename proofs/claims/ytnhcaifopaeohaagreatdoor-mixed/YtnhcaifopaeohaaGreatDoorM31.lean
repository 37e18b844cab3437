import Derived.Test.YtnhcaifopaeohaaGreatDoorM26
import Derived.Test.YtnhcaifopaeohaaGreatDoorM32
import Derived.Test.YtnhcaifopaeohaaGreatDoorM05
import Derived.Test.YtnhcaifopaeohaaGreatDoorM29
import Derived.Lib.AppendStr
import Derived.Test.YtnhcaifopaeohaaGreatDoorM06
import Derived.Test.YtnhcaifopaeohaaGreatDoorM15
import Derived.Deep.RegionLaw
import Derived.BigQuiet
import Derived.Deep.RegionWith
import Derived.Deep.LoopGhost
import Derived.Deep.DeepCutAuto
import Derived.Lib.SlBytesConst
namespace Go.Proofs.YtnhcaifopaeohaaGreatDoor
open Go.RowKit
set_option linter.all false
def PI.insL (bs:List Nat) (x:PI) (lab:ByteArray):PIns:={ x.ins bs with label:=lab }
def codeLb (bs:List Nat) (l:List (PI × ByteArray)):List Value:=l.flatMap (fun x=>(x.1.insL bs x.2).cellsL)
def CodeL (w:World) (v:Value) (bs:List Nat) (code:List PI):Prop:=∃ labs:List ByteArray,labs.length=code.length/\Sl w 84 8 v code.length (codeLb bs (code.zip labs))
theorem CodeL.mods {w w':World} {v:Value} {bs:List Nat} {code:List PI} {S:Nat->Prop} (h:CodeL w v bs code) (m:Mods S w w') (hS:∀ k,v.ownBlock=some k->¬ S k):CodeL w' v bs code:=by
 obtain ⟨labs,h1,h2⟩:=h
 exact ⟨labs,h1,h2.mods m hS⟩
theorem CodeL.view {w:World} {v:Value} {bs:List Nat} {code:List PI} (h:CodeL w v bs code):∃ o cap,v=.slice o code.length cap/\True:=by
 obtain ⟨labs,_,h2⟩:=h;obtain ⟨o,cap,hv,_⟩:=h2.view
 exact ⟨o,cap,hv,trivial⟩
theorem codeL_at {w:World} {bs:List Nat} {l:List PI} {v:Value} {n:Nat} (h:CodeL w v bs l) (hn:n=l.length) {o:Option Addr} {c:Nat} (hv:v=.slice o n c) (k:Nat) (hk:k<l.length) :
  ∃ g lab,o=some ⟨g,0,none⟩/\g<w.heap.size/\w.cell? ⟨g,k*8,none⟩=some (.pointer (some ⟨bs[l[k].k]?.getD 0,0,none⟩))/\w.cell? ⟨g,k*8+1,none⟩=some (.int .u8 l[k].d)/\w.cell? ⟨g,k*8+2,none⟩=some (.int .u8 l[k].s) /\
   w.cell? ⟨g,k*8+3,none⟩=some (.int .i16 l[k].jump)/\w.cell? ⟨g,k*8+4,none⟩=some (.int .i32 l[k].num)/\w.cell? ⟨g,k*8+5,none⟩=some (.int .i32 l[k].high)/\w.cell? ⟨g,k*8+6,none⟩=some (.string lab)/\w.cell? ⟨g,k*8+7,none⟩=some (.string (T l[k].name)):=by
 obtain ⟨labs,h1,h0⟩:=h;subst hn;obtain ⟨o',c',hv',h2⟩:=h0.view;rw [hv] at hv'
 cases hv'
 obtain ⟨g,cs,rfl,hb,ht,_⟩:=h2 (by omega)
 have hz:k<(l.zip labs).length:=by rw [List.length_zip,h1];omega
 have hkl:k<labs.length:=by omega
 have e:(l.zip labs)[k]=(l[k],labs[k]):=List.getElem_zip
 have hc:∀ j,j<8->w.cell? ⟨g,k*8+j,none⟩=((l[k].insL bs labs[k]).cellsL)[j]?:=fun j hj=>by
  rw [take_cell hb ht _ (by omega),codeLb,flat_get (fun x:PI × ByteArray=>(x.1.insL bs x.2).cellsL) 8 (fun _=>rfl) (l.zip labs) k j hz hj,e]
 exact ⟨g,labs[k],rfl,hb.lt,hc 0 (by omega),hc 1 (by omega),hc 2 (by omega),hc 3 (by omega),hc 4 (by omega),hc 5 (by omega),hc 6 (by omega),hc 7 (by omega)⟩
set_option maxHeartbeats 400000 in
theorem pslotsL_any (w:World) (tv:Value) (bs:List Nat) (hO:OpsIn 0 w tv bs tableS) (code:List PI) (hok:∀ x∈code,PIok x) (hl:code.length<=10000) (vC:Value) (hC:CodeL w vC bs code) (nm:ByteArray) :
  Calls Tryz.prog 97 #[.agg #[.string nm,vC]] w fun e w'=>e=.returned (.int .i64 (slotsP code))/\Mods Nil' w w':=by
 obtain ⟨oC,cC,rfl,_⟩:=hC.view;have HO:=hid hO;have HC:=hid hC;have HOk:=hid hok
 have HSum:Hid (∀ k,sumS code k<=20000):=fun k=>by have:=sumS_le code HOk.out k;omega
 clear hO hC hok
 have hM0:Mods Nil' w (w.alloc (.cells #[.string nm,.slice oC code.length cC] 55)):=(Mods.refl _ _).alloc _
 have HM0:=hid hM0;clear hM0
 go_enter Tryz.func97,Tryz.ntmps97
 go_wp2_with fail
 go_loopw [3,9] (fun sv i wl=>∃ k:Nat,k<=code.length/\i=.int .i64 k/\sv=.int .i64 (sumS code k)/\Mods Nil' w wl) (fun _ i _=>code.length - (intOf i).toNat)
 case atStart=>exact ⟨0,Nat.zero_le _,rfl,rfl,HM0.out⟩
 case round =>
  obtain ⟨k,hk,rfl,rfl,hM⟩:=hrel;have HM:=hid hM;clear hM HM0
  by_cases hlt:k<code.length
  ·have HSt:Hid (sumS code (k+1)=sumS code k+code[k].o.slots):=sumS_step code k hlt
   obtain ⟨g,lab,rfl,hg,q0,q1,q2,q3,q4,q5,q6,q7⟩:=codeL_at (HC.out.mods HM.out (fun _ _=>id)) rfl rfl k hlt
   have hx:=HOk.out code[k] (List.getElem_mem hlt)
   have hA:=tab_at (HO.out.mods HM.out) code[k] hx.k
   have hsum:=HSum.out k
   have hsl:=hx.slots
   clear hx;generalize code[k].o=o at *;generalize code[k].jump=jmp at *;generalize code[k].d=xd at *;generalize code[k].s=xs at *;generalize code[k].num=xn at *;generalize code[k].high=xh at *;generalize code[k].name=xm at *;generalize bs[code[k].k]?.getD 0=b at *
   have hA1:=hA.mods ((Mods.refl _ _).alloc (.cells #[.pointer (some ⟨b,0,none⟩),.int .u8 xd,.int .u8 xs,.int .i16 jmp,.int .i32 xn,.int .i32 xh,.string lab,.string (T xm)] 84))
   obtain ⟨y2,_,_,_⟩:=hA1.cells;clear hA hA1;generalize sumS code k=sk at *;generalize o.slots=os at *;go_wp2_with fail
   go_roundw
   case rel=>exact ⟨k+1,by omega,by go_num,by rw [HSt.out];go_num,HM.out.alloc _⟩
   case measure=>simp [intOf];omega
  ·obtain rfl:k=code.length:=by omega
   have HF:Hid (sumS code code.length=slotsP code):=by rw [Hid,sumS,List.take_length];rfl
   rw [HF.out];go_wp2_with fail;go_ret
   exact ⟨rfl,HM.out⟩
def u8c (l:List UInt8):List Value:=l.map (fun b=>.int .u8 (b.toNat:Int))
theorem u8c_app (a b:List UInt8):u8c (a++b)=u8c a++u8c b:=by simp [u8c]
theorem u8c_b8:∀ (l:List Int),(∀ x∈l,0<=x/\x<=255)->u8c (b8 l)=l.map (Value.int .u8)
 | [],_=>rfl
 | x::l,h=>by
  have hx:=h x (by simp)
  have e:((UInt8.ofNat x.toNat).toNat:Int)=x:=by rw [UInt8.toNat_ofNat'];omega
  have:=u8c_b8 l (fun y hy=>h y (List.mem_cons_of_mem _ hy))
  simp only [u8c,b8,List.map_cons,List.map_map] at this ⊢
  rw [e]
  congr 1
def Out (w:World) (v:Value) (l:List UInt8):Prop:=Sl w 5 1 v l.length (u8c l)
def OutPost (w:World) (v:Value) (l:List UInt8) (e:Ending) (w':World):Prop :=
 ∃ v',e=.returned v'/\Out w' v' l/\Mods (fun k=>v.ownBlock=some k) w w'/\∀ k,v'.ownBlock=some k->v.ownBlock=some k\/w.heap.size<=k
theorem Out.mods {w w':World} {v:Value} {l:List UInt8} {S:Nat->Prop} (h:Out w v l) (m:Mods S w w') (hS:∀ k,v.ownBlock=some k->¬ S k):Out w' v l:=Sl.mods h m hS
theorem Out.quiet {w w':World} {v:Value} {l:List UInt8} (h:Out w v l) (m:Mods Nil' w w'):Out w' v l:=h.mods m (fun _ _=>id)
theorem info_u8:(Tryz.prog.info? 5).map (fun i=>(i.zero,i.size,i.bytes))=some (some (.int .u8 0),1,1):=by kernel_rfl
theorem u8_one (l:List Int):∀ u∈l.map (Value.int .u8),u.oneCell'=true:=by
 intro u hu;obtain ⟨x,_,rfl⟩:=List.mem_map.1 hu
 rfl
theorem Out.app {w:World} {v:Value} {l:List UInt8} {n:Nat} {ns:List Int} (h:∀ x∈ns,0<=x/\x<=255) (hn:n=l.length+ns.length) (s:Sl w 5 1 v n (u8c l++ns.map (Value.int .u8))):Out w v (l++b8 ns):=by
 unfold Out;rw [u8c_app,u8c_b8 ns h,List.length_append,b8_len,<- hn];exact s
theorem str_cells (s:ByteArray):Lib.strCells s=u8c (BL s):=by
 simp [Lib.strCells,u8c,BL]
theorem run_append_str {P:Program} (w:World) (t u ty e:TypeId) (i:TypeInfo) (ht:P.underlying t=some (.slice e)) (hu:P.underlying u=some .string) (hi:P.info? e=some i) (hz:i.zero=some (.int .u8 0))
  (hsize:i.size=1) (hby:i.bytes=1) (v:Value) (n:Nat) (xs:List Value) (hown:Sl w e 1 v n xs) (s:ByteArray) (h63:n+s.size<=maxLen) (hbytes:n+s.size<=140737488355328) :
  ∃ v' w',(Builtin.append_ #[t,u] ty #[v,.string s]).run P w=.ok v' w'/\Sl w' e 1 v' (n+s.size) (xs++u8c (BL s))/\Mods (fun k=>v.ownBlock=some k) w w' /\
   (∀ k,v'.ownBlock=some k->v.ownBlock=some k\/w.heap.size<=k):=by
 obtain ⟨v',w',hr,h2,h3,_⟩:=Lib.run_append_own_string (P:=P) w 0 t u ty e i ht hu hi hz hsize hby v n xs hown s h63 hbytes (Nat.zero_le _)
 rw [str_cells] at h2
 refine ⟨v',w',hr,h2,Mods.of_grown h3,?_⟩
 intro k hk
 rcases hown.2 with ⟨rfl,rfl⟩ | ⟨g,cap,cur,rfl,_,hg,hn,hm,hcs,htk⟩
 ·obtain ⟨v2,w2,hr2,h22,_⟩:=Lib.run_append_own_string (P:=P) w w.heap.size t u ty e i ht hu hi hz hsize hby _ 0 xs ⟨hown.1,.inl ⟨rfl,rfl⟩⟩ s h63 hbytes (Nat.le_refl _)
  rw [hr] at hr2
  cases hr2
  exact .inr (World.ownsRow.lt h22 k hk).1
 ·by_cases hroom:n+s.size<=cap
  ·have hr2:=Lib.run_append_room_string (P:=P) w t u ty e i ht hu hi hsize g n cap cur hg s hroom (by simp at hcs;omega)
   rw [hr] at hr2
   cases hr2
   exact .inl hk
  ·have hr2:=Lib.run_append_grow_string (P:=P) w t u ty e i (.int .u8 0) ht hu hi hz ⟨g,0,none⟩ n cap xs (by rw [hsize];exact hown.1) (World.ownsRow.cells hown (g:=g) rfl) s (by omega) (by unfold maxLen at h63;omega) (by rw [hby];exact growslice_fits (by omega) (by omega))
   rw [hr] at hr2
   cases hr2
   cases hk
   exact .inr (Nat.le_refl _)
theorem wp_append_str {P:Program} (w:World) {o:Oper} {a:Act} {K:Act->World->Prop} {Q:Exit->Act->World->Prop} (sl x:Operand) (t u:TypeId)
  (ho:o.op=.call { callee:=.builtin .append,args:=#[sl,x],argTypes:=#[t,u] })
  (e:TypeId) (i:TypeInfo) (ht:P.underlying t=some (.slice e)) (hu:P.underlying u=some .string) (hi:P.info? e=some i) (hz:i.zero=some (.int .u8 0)) (hsize:i.size=1) (hby:i.bytes=1)
  (v:Value) (n:Nat) (xs:List Value) (hs:a.eval sl=v) (hown:Sl w e 1 v n xs) (s:ByteArray) (hx:a.eval x=.string s) (h63:n+s.size<=maxLen) (hbytes:n+s.size<=140737488355328)
  (h:∀ v' w',Sl w' e 1 v' (n+s.size) (xs++u8c (BL s))->Mods (fun k=>v.ownBlock=some k) w w'->(∀ k,v'.ownBlock=some k->v.ownBlock=some k\/w.heap.size<=k)->K (a.put o.dst v') w'):o.wp P a w K Q:=by
 obtain ⟨v',w',hr,h2,h3,h4⟩:=run_append_str (P:=P) w t u o.type e i ht hu hi hz hsize hby v n xs hown s h63 hbytes
 unfold Oper.wp execOp
 simp only [ho,resolve,invoke,builtin,Sem.run_bind,Sem.run_pure,Result.andThen_ok,List.map_toArray,List.map_cons,List.map_nil,hs,hx,hr]
 exact h v' w' h2 h3 h4
theorem wpList_append_str {P:Program} (w:World) {ops:Array Oper} {rest:List Oper} {o:Oper} {a:Act} {Q:Exit->Act->World->Prop} (hgd:o.guard=none) (sl x:Operand) (t u:TypeId)
  (ho:o.op=.call { callee:=.builtin .append,args:=#[sl,x],argTypes:=#[t,u] })
  (e:TypeId) (i:TypeInfo) (ht:P.underlying t=some (.slice e)) (hu:P.underlying u=some .string) (hi:P.info? e=some i) (hz:i.zero=some (.int .u8 0)) (hsize:i.size=1) (hby:i.bytes=1)
  (v:Value) (n:Nat) (xs:List Value) (hs:a.eval sl=v) (hown:Sl w e 1 v n xs) (s:ByteArray) (hx:a.eval x=.string s) (h63:n+s.size<=maxLen) (hbytes:n+s.size<=140737488355328)
  (h:∀ v' w',Sl w' e 1 v' (n+s.size) (xs++u8c (BL s))->Mods (fun k=>v.ownBlock=some k) w w'->(∀ k,v'.ownBlock=some k->v.ownBlock=some k\/w.heap.size<=k)->wpList P ops Q rest (a.put o.dst v') w'):wpList P ops Q (o::rest) a w :=
 wpList_plain hgd fun _ hK=>wp_append_str w sl x t u ho e i ht hu hi hz hsize hby v n xs hs hown s hx h63 hbytes fun v' w' h2 h3 h4=>hK _ _ (h v' w' h2 h3 h4)
theorem info_u8_parts:∃ i:TypeInfo,Tryz.prog.info? 5=some i/\i.zero=some (.int .u8 0)/\i.size=1/\i.bytes=1:=by
 obtain ⟨i,h,hq⟩:=Option.map_eq_some_iff.1 info_u8
 exact ⟨i,h,congrArg (·.1) hq,congrArg (·.2.1) hq,congrArg (·.2.2) hq⟩
theorem own_new {w w':World} {v:Value} {k:Nat} (h:v.ownBlock=some k\/w'.heap.size<=k) (m:w.heap.size<=w'.heap.size):v.ownBlock=some k\/w.heap.size<=k:=by
 rcases h with h | h
 ·exact .inl h
 ·exact .inr (Nat.le_trans m h)
theorem own_trans {w w1:World} {v v1 v2:Value} (h1:∀ k,v1.ownBlock=some k->v.ownBlock=some k\/w.heap.size<=k) (h2:∀ k,v2.ownBlock=some k->v1.ownBlock=some k\/w1.heap.size<=k) (m:w.heap.size<=w1.heap.size):∀ k,v2.ownBlock=some k->v.ownBlock=some k\/w.heap.size<=k:=by
 intro k hk
 rcases h2 k hk with h | h
 ·exact h1 k h
 ·exact .inr (Nat.le_trans m h)
theorem mods_trans {w w1 w2:World} {v v1:Value} (h1:Mods (fun k=>v.ownBlock=some k) w w1) (hv:∀ k,v1.ownBlock=some k->v.ownBlock=some k\/w.heap.size<=k) (h2:Mods (fun k=>v1.ownBlock=some k) w1 w2):Mods (fun k=>v.ownBlock=some k) w w2 :=
 ⟨h2.os.trans h1.os,h2.tape.trans h1.tape,h2.output.trans h1.output,Nat.le_trans h1.size h2.size,fun k hk hS=>(h2.block k (Nat.lt_of_lt_of_le hk h1.size) (fun e=>by
  rcases hv k e with h | h
  ·exact hS h
  ·omega)).trans (h1.block k hk hS)⟩
set_option maxRecDepth 100000 in
set_option maxHeartbeats 400000 in
theorem aTwo_any (w:World) (v:Value) (l:List UInt8) (h:Out w v l) (hl:l.length<=1000000) (n:Int) :
  Calls Tryz.prog 111 #[v,.int .i64 n] w fun e w'=>OutPost w v (l++b8 (twoL n)) e w':=by
 obtain ⟨iU,hiU,hzU,hsU,hbU⟩:=info_u8_parts;have HO:=hid h
 have HB:Hid (∀ x∈twoL n,0<=x/\x<=255):=fun x hx=>by simp [twoL] at hx;rcases hx with rfl | rfl<;>omega
 clear h
 go_enter Tryz.func111,Tryz.ntmps111
 go_wp2_with (at_builtin;refine wpList_append_sl _ rfl (.tmp 5) (.tmp 11) 43 rfl 5 iU (.int .u8 0) 1 1 Tryz.underlying43 hiU hzU hsU hbU rfl (by decide) v l.length (u8c l) rfl (HO.out.quiet ((Mods.refl _ _).alloc _)) ⟨w.heap.size,0,none⟩ 2 2 ((twoL n).map (Value.int .u8)) rfl rfl (news_cells _ _ _ _ rfl) (u8_one _) (by unfold maxLen;omega) (by omega) ?_;intro v2 w2 s2 m2 l2)
 go_ret
 exact ⟨_,rfl,Out.app HB.out rfl s2,((Mods.refl _ _).alloc _).trans m2,fun k hk=>own_new (l2 k hk) ((Mods.refl Nil' w).alloc _).size⟩
set_option maxRecDepth 100000 in
set_option maxHeartbeats 400000 in
theorem aNum_any (w:World) (v:Value) (l:List UInt8) (h:Out w v l) (hl:l.length<=1000000) (n:Int) (_hn:-2147483648<=n/\n<=2147483647) :
  Calls Tryz.prog 215 #[v,.int .i32 n] w fun e w'=>OutPost w v (l++b8 (fourL n)) e w':=by
 obtain ⟨iU,hiU,hzU,hsU,hbU⟩:=info_u8_parts;have HO:=hid h
 have HB:Hid (∀ x∈fourL n,0<=x/\x<=255):=fun x hx=>by simp [fourL] at hx;rcases hx with rfl | rfl | rfl | rfl<;>omega
 clear h
 go_enter Tryz.func215,Tryz.ntmps215
 go_wp2_with (at_builtin;refine wpList_append_sl _ rfl (.tmp 5) (.tmp 17) 43 rfl 5 iU (.int .u8 0) 1 1 Tryz.underlying43 hiU hzU hsU hbU rfl (by decide) v l.length (u8c l) rfl (HO.out.quiet ((Mods.refl _ _).alloc _)) ⟨w.heap.size,0,none⟩ 4 4 ((fourL n).map (Value.int .u8)) rfl rfl (news_cells _ _ _ _ rfl) (u8_one _) (by unfold maxLen;omega) (by omega) ?_;intro v2 w2 s2 m2 l2)
 go_ret
 exact ⟨_,rfl,Out.app HB.out rfl s2,((Mods.refl _ _).alloc _).trans m2,fun k hk=>own_new (l2 k hk) ((Mods.refl Nil' w).alloc _).size⟩
set_option maxRecDepth 100000 in
set_option maxHeartbeats 400000 in
theorem aName_any (w:World) (v:Value) (l:List UInt8) (h:Out w v l) (hl:l.length<=1000000) (s:ByteArray) (hs:s.size<=255) :
  Calls Tryz.prog 112 #[v,.string s] w fun e w'=>OutPost w v (l++namedU s) e w':=by
 obtain ⟨iU,hiU,hzU,hsU,hbU⟩:=info_u8_parts;have HO:=hid h
 have HB:Hid (∀ x∈[(s.size:Int)],0<=x/\x<=255):=fun x hx=>by simp at hx;subst hx;omega
 have HN:Hid (l++namedU s=l++b8 [(s.size:Int)]++BL s):=by
  rw [Hid,namedU,Int.emod_eq_of_lt (by omega) (by omega),List.append_assoc]
 clear h
 go_enter Tryz.func112,Tryz.ntmps112
 go_wp2_with (first
  | (at_builtin;refine wpList_append_sl _ rfl (.tmp 5) (.tmp 9) 43 rfl 5 iU (.int .u8 0) 1 1 Tryz.underlying43 hiU hzU hsU hbU rfl (by decide) v l.length (u8c l) rfl (HO.out.quiet ((Mods.refl _ _).alloc _)) ⟨w.heap.size,0,none⟩ 1 1 ([(s.size:Int)].map (Value.int .u8)) rfl rfl (news_cells _ _ _ _ rfl) (u8_one _) (by unfold maxLen;omega) (by omega) ?_;intro v2 w2 s2 m2 l2;have S2:Hid (Sl w2 5 1 v2 (l.length+1) (u8c l++[(s.size:Int)].map (Value.int .u8))):=s2;have L2:Hid (∀ k,v2.ownBlock=some k->v.ownBlock=some k\/w.heap.size<=k):=fun k hk=>own_new (l2 k hk) ((Mods.refl Nil' w).alloc _).size;have M2:Hid (Mods (fun k=>v.ownBlock=some k) w w2):=((Mods.refl _ _).alloc _).trans m2;clear s2 l2 m2)
  | (at_builtin;refine wpList_append_str _ rfl (.tmp 10) (.tmp 11) 43 9 rfl 5 iU Tryz.underlying43 Tryz.underlying9 hiU hzU hsU hbU v2 (l.length+1) (u8c l++[(s.size:Int)].map (Value.int .u8)) rfl S2.out s rfl (by unfold maxLen;omega) (by omega) ?_;intro v3 w3 s3 m3 l3))
 go_ret
 refine ⟨_,rfl,?_,mods_trans M2.out L2.out m3,own_trans L2.out l3 M2.out.size⟩
 have h1:u8c (l++b8 [(s.size:Int)]++BL s)=u8c l++[(s.size:Int)].map (Value.int .u8)++u8c (BL s):=by rw [u8c_app,u8c_app,u8c_b8 _ HB.out]
 have h2:(l++b8 [(s.size:Int)]++BL s).length=l.length+1+s.size:=by simp only [List.length_append,b8_len,BL_len,List.length_cons,List.length_nil]
 rw [HN.out,Out,h1,h2];exact s3
def slotU (code:Nat) (d s:Nat) (j n h:Int) (slots:Nat):List UInt8 :=
 b8 [(code:Int),(d:Int)+16*s,j % 256,j / 256 % 256]++b8 (fourL n)++(if slots=1 then [] else [0,0,0,0]++b8 (fourL h))
theorem wrap8 (x:Int):IntKind.u8.wrap x=x % 256:=by
 simp [IntKind.wrap,IntKind.bits,IntKind.signed]
set_option maxRecDepth 100000 in
theorem or_nib:∀ d,d<16->∀ s,s<16->bits BinOp.or IntKind.u8 ((d:Nat):Int) ((s:Nat)*16:Int)=d+16*s:=by decide +kernel
set_option maxRecDepth 100000 in
set_option maxHeartbeats 1000000 in
theorem aSlots_any (w:World) (v:Value) (l:List UInt8) (h:Out w v l) (hl:l.length<=900000) (b:Nat) (cs:Array Value) (code slots:Nat) (hb:Blk w b cs 92) (h0:cs[0]?=some (.int .u8 code)) (h2:cs[2]?=some (.int .i64 slots))
  (d s:Nat) (j n hh:Int) (lab nm:ByteArray) (hc:code<=255) (hd:d<=15) (hs:s<=15) (_hj:-32768<=j/\j<=32767) (hn:-2147483648<=n/\n<=2147483647) (hhh:-2147483648<=hh/\hh<=2147483647) (hsl:slots<=2) :
  Calls Tryz.prog 113 #[.agg #[.pointer (some ⟨b,0,none⟩),.int .u8 d,.int .u8 s,.int .i16 j,.int .i32 n,.int .i32 hh,.string lab,.string nm],v] w fun e w'=>OutPost w v (l++slotU code d s j n hh slots) e w':=by
 obtain ⟨iU,hiU,hzU,hsU,hbU⟩:=info_u8_parts
 have c0:w.cell? ⟨b,0,none⟩=some (.int .u8 code):=by rw [hb.cell 0];exact h0
 have c2:w.cell? ⟨b,2,none⟩=some (.int .i64 slots):=by rw [hb.cell 2];exact h2
 have hbl:=hb.lt
 have HO:=hid h;have HBO:=hid hb;clear h hb
 go_enter Tryz.func113,Tryz.ntmps113
 go_upto_region 1 with fail
 have hor:=or_nib d (by omega) s (by omega)
 have hw1:IntKind.u8.wrap ((s:Int)*16)=(s:Int)*16:=by rw [wrap8];omega
 have hw2:=wrap8 j
 have hw3:=wrap8 (j / 256)
 have hbx:=Blk.new w #[.pointer (some ⟨b,0,none⟩),.int .u8 d,.int .u8 s,.int .i16 j,.int .i32 n,.int .i32 hh,.string lab,.string nm] 84
 have HO1:Hid (Out (w.alloc (.cells #[.pointer (some ⟨b,0,none⟩),.int .u8 d,.int .u8 s,.int .i16 j,.int .i32 n,.int .i32 hh,.string lab,.string nm] 84)) v l):=HO.out.quiet ((Mods.refl _ _).alloc _)
 have HB1:Hid (Blk (w.alloc (.cells #[.pointer (some ⟨b,0,none⟩),.int .u8 d,.int .u8 s,.int .i16 j,.int .i32 n,.int .i32 hh,.string lab,.string nm] 84)) b cs 92):=HBO.out.alloc _
 have HM1:Hid (Mods Nil' w (w.alloc (.cells #[.pointer (some ⟨b,0,none⟩),.int .u8 d,.int .u8 s,.int .i16 j,.int .i32 n,.int .i32 hh,.string lab,.string nm] 84))):=(Mods.refl _ _).alloc _
 have HBX:=hid hbx;generalize w.alloc (.cells #[.pointer (some ⟨b,0,none⟩),.int .u8 d,.int .u8 s,.int .i16 j,.int .i32 n,.int .i32 hh,.string lab,.string nm] 84)=W at *;clear c0 c2
 have hnx:¬ (v.ownBlock=some w.heap.size):=HO1.out.notBlk HBX.out (by decide)
 have hnb:¬ (v.ownBlock=some b):=HO1.out.notBlk HB1.out (by decide)
 obtain ⟨x0,x1,x2,x3,x4,x5,x6,x7⟩:=Ext.cells8 (S:=fun k=>v.ownBlock=some k) HBX.out hnx
 have c0:∀ g:Ext (fun k=>v.ownBlock=some k) W,g.w.cell? ⟨b,0,none⟩=some (.int .u8 code):=fun g=>by rw [(HB1.out.mods g.m hnb).cell 0];exact h0
 have ne1:=Ext.ne (fun k=>v.ownBlock=some k) W
 clear hbx
 refine wp_region_mix [19,20] (fun w'=>∃ e:Ext (fun k=>v.ownBlock=some k) W,w'=e.w) (by kernel_rfl) (by kernel_rfl) (by kernel_rfl) ⟨⟨_,(Mods.refl _ _).drew⟩,rfl⟩ ?_
 iterate 3 (refine mix_pure rfl rfl rfl ?_;intro K hK;go_big_quiet_op;go_big_quiet_on)
 refine mix_nilCheck rfl rfl _ ⟨b,0,none⟩ rfl rfl ?_
 simp only [Act.put,List.setIfInBounds_toArray,List.set_cons_succ,List.set_cons_zero]
 iterate 15 (refine mix_pure rfl rfl rfl ?_;intro K hK;go_big_quiet_op;go_big_quiet_on)
 refine mix_act rfl rfl ?_
 intro K hK
 go_big_op
 refine hK _ _ rfl ⟨⟨_,((Mods.refl _ _).drew).alloc _⟩,rfl⟩ ?_
 clear hK K
 refine mix_act rfl rfl ?_
 intro K hK
 refine wp_append_sl _ (.tmp 5) (.tmp 24) 43 rfl 5 iU (.int .u8 0) 1 1 Tryz.underlying43 hiU hzU hsU hbU rfl (by decide) v l.length (u8c l) rfl (HO1.out.quiet (((Mods.refl _ _).alloc _).drew)) ⟨W.heap.size,0,none⟩ 4 4 ([(code:Int),(d:Int)+16*s,j % 256,j / 256 % 256].map (Value.int .u8)) rfl rfl (fun k u hu=>news_cells W _ _ _ rfl k u hu) (u8_one _) (by unfold maxLen;omega) (by omega) ?_
 intro v2 w2 s2 m2 l2
 have M2:Hid (Mods (fun k=>v.ownBlock=some k) W w2):=(((Mods.refl _ _).alloc _).drew).trans m2
 have L2:Hid (∀ k,v2.ownBlock=some k->v.ownBlock=some k\/W.heap.size<=k):=fun k hk=>own_new (l2 k hk) (((Mods.refl Nil' W).alloc _).drew).size
 have S2:Hid (Out w2 v2 (l++b8 [(code:Int),(d:Int)+16*s,j % 256,j / 256 % 256])):=Out.app (fun x hx=>by simp at hx;rcases hx with rfl | rfl | rfl | rfl<;>omega) rfl s2
 refine hK _ _ rfl ⟨⟨_,M2.out⟩,rfl⟩ ?_
 clear hK K s2 m2 l2
 simp only [Act.put,List.setIfInBounds_toArray,List.set_cons_succ,List.set_cons_zero]
 iterate 1 (refine mix_pure rfl rfl rfl ?_;intro K hK;go_big_quiet_op;go_big_quiet_on)
 refine mix_nil ?_
 simp only [Exit.then]
 have HB2:Hid (Blk w2 b cs 92):=HB1.out.mods M2.out hnb
 have HX2:Hid (Blk w2 w.heap.size #[.pointer (some ⟨b,0,none⟩),.int .u8 d,.int .u8 s,.int .i16 j,.int .i32 n,.int .i32 hh,.string lab,.string nm] 84):=HBX.out.mods M2.out hnx
 clear x0 x1 x2 x3 x4 x5 x6 x7 c0 ne1;obtain ⟨x0,x1,x2,x3,x4,x5,x6,x7⟩:=HX2.out.cells8
 have hl2:(l++b8 [(code:Int),(d:Int)+16*s,j % 256,j / 256 % 256]).length=l.length+4:=by rw [List.length_append,b8_len];rfl
 have HL2:=hid hl2;clear hl2
 have HN2:Hid (Calls Tryz.prog 215 #[v2,.int .i32 n] w2 fun e w'=>OutPost w2 v2 (l++b8 [(code:Int),(d:Int)+16*s,j % 256,j / 256 % 256]++b8 (fourL n)) e w'):=aNum_any w2 v2 _ S2.out (by rw [HL2.out];omega) n hn
 go_wp2_with fail;refine HN2.out.mono ?_;rintro e w3 ⟨v3,rfl,s3,m3,l3⟩
 have M3:Hid (Mods (fun k=>v.ownBlock=some k) W w3):=⟨m3.os.trans M2.out.os,m3.tape.trans M2.out.tape,m3.output.trans M2.out.output,Nat.le_trans M2.out.size m3.size,fun k hk hS=>(m3.block k (Nat.lt_of_lt_of_le hk M2.out.size) (fun e=>by
  rcases L2.out k e with h | h
  ·exact hS h
  ·omega)).trans (M2.out.block k hk hS)⟩
 have L3:Hid (∀ k,v3.ownBlock=some k->v.ownBlock=some k\/W.heap.size<=k):=own_trans L2.out l3 M2.out.size
 have S3:=hid s3
 have HB3:Hid (Blk w3 b cs 92):=HB1.out.mods M3.out hnb
 have HX3:Hid (Blk w3 w.heap.size #[.pointer (some ⟨b,0,none⟩),.int .u8 d,.int .u8 s,.int .i16 j,.int .i32 n,.int .i32 hh,.string lab,.string nm] 84):=HBX.out.mods M3.out hnx
 have HL3:Hid ((l++b8 [(code:Int),(d:Int)+16*s,j % 256,j / 256 % 256]++b8 (fourL n)).length=l.length+8):=by rw [Hid,List.length_append,HL2.out,b8_len];rfl
 clear m3 l3 s3 x0 x1 x2 x3 x4 x5 x6 x7;obtain ⟨x0,x1,x2,x3,x4,x5,x6,x7⟩:=HX3.out.cells8
 have c2:w3.cell? ⟨b,2,none⟩=some (.int .i64 slots):=by rw [HB3.out.cell 2];exact h2
 have hWs:w.heap.size<=W.heap.size:=HM1.out.size
 have HML:Hid (∀ (w':World) (v':Value),Mods (fun k=>v.ownBlock=some k) W w'->(∀ k,v'.ownBlock=some k->v.ownBlock=some k\/W.heap.size<=k)->Mods (fun k=>v.ownBlock=some k) w w'/\∀ k,v'.ownBlock=some k->v.ownBlock=some k\/w.heap.size<=k) :=
  fun w' v' m l=>⟨(HM1.out.mono (fun _ _ e=>e.elim)).trans m,fun k hk=>own_new (l k hk) hWs⟩
 by_cases h1:slots=1
 ·subst h1;go_wp2_with fail;go_ret
  refine ⟨v3,rfl,?_,HML.out _ _ M3.out L3.out⟩
  have:l++slotU code d s j n hh 1=l++b8 [(code:Int),(d:Int)+16*s,j % 256,j / 256 % 256]++b8 (fourL n):=by simp [slotU]
  rw [this];exact S3.out
 ·have hd1:decide ((slots:Int)=1)=false:=by simp;omega
  have hd2:((slots:Int)==1)=false:=by simp;omega
  go_wp2_with fail;clear x0 x1 x2 x3 x4 x5 x6 x7 c2
  obtain ⟨x0,x1,x2,x3,x4,x5,x6,x7⟩:=Ext.cells8 (S:=fun k=>v.ownBlock=some k) HBX.out hnx
  have ne1:=Ext.ne (fun k=>v.ownBlock=some k) W
  refine wp_region_mix [1,4] (fun w'=>∃ e:Ext (fun k=>v.ownBlock=some k) W,w'=e.w) (by kernel_rfl) (by kernel_rfl) (by kernel_rfl) ⟨⟨_,M3.out.drew⟩,rfl⟩ ?_
  iterate 1 (refine mix_pure rfl rfl rfl ?_;intro K hK;go_big_quiet_op;go_big_quiet_on)
  refine mix_act rfl rfl ?_
  intro K hK
  refine wp_append_str _ (.tmp 37) _ 43 9 rfl 5 iU Tryz.underlying43 Tryz.underlying9 hiU hzU hsU hbU v3 _ _ rfl (S3.out.quiet ((Mods.refl _ _).drew)) (T [0,0,0,0]) rfl (by rw [HL3.out];simp only [T_size,List.length_cons,List.length_nil];unfold maxLen;omega) (by rw [HL3.out];simp only [T_size,List.length_cons,List.length_nil];omega) ?_
  intro v4 w4 s4 m4 l4
  have M4:Hid (Mods (fun k=>v.ownBlock=some k) W w4):=⟨m4.os.trans M3.out.os,m4.tape.trans M3.out.tape,m4.output.trans M3.out.output,Nat.le_trans M3.out.size m4.size,fun k hk hS=>(m4.block k (Nat.lt_of_lt_of_le hk M3.out.size) (fun e=>by
   rcases L3.out k e with h | h
   ·exact hS h
   ·omega)).trans (M3.out.block k hk hS)⟩
  have L4:Hid (∀ k,v4.ownBlock=some k->v.ownBlock=some k\/W.heap.size<=k):=own_trans (w1:=w3.drew) L3.out l4 M3.out.size
  have S4:Hid (Out w4 v4 (l++b8 [(code:Int),(d:Int)+16*s,j % 256,j / 256 % 256]++b8 (fourL n)++[0,0,0,0])):=by
   rw [Hid,Out,u8c_app,List.length_append];exact s4
  have HL4:Hid ((l++b8 [(code:Int),(d:Int)+16*s,j % 256,j / 256 % 256]++b8 (fourL n)++[0,0,0,0]).length=l.length+12):=by rw [Hid,List.length_append,HL3.out];rfl
  refine hK _ _ rfl ⟨⟨_,M4.out⟩,rfl⟩ ?_
  clear hK K s4 m4 l4
  simp only [Act.put,List.setIfInBounds_toArray,List.set_cons_succ,List.set_cons_zero]
  iterate 2 (refine mix_pure rfl rfl rfl ?_;intro K hK;go_big_quiet_op;go_big_quiet_on)
  refine mix_act rfl rfl ?_
  intro K hK
  go_big_op
  refine (aNum_any w4 v4 _ S4.out (by rw [HL4.out];omega) hh hhh).mono ?_
  rintro e w5 ⟨v5,rfl,s5,m5,l5⟩
  have M5:Hid (Mods (fun k=>v.ownBlock=some k) W w5):=⟨m5.os.trans M4.out.os,m5.tape.trans M4.out.tape,m5.output.trans M4.out.output,Nat.le_trans M4.out.size m5.size,fun k hk hS=>(m5.block k (Nat.lt_of_lt_of_le hk M4.out.size) (fun e=>by
   rcases L4.out k e with h | h
   ·exact hS h
   ·omega)).trans (M4.out.block k hk hS)⟩
  have L5:Hid (∀ k,v5.ownBlock=some k->v.ownBlock=some k\/W.heap.size<=k):=own_trans L4.out l5 M4.out.size
  have S5:=hid s5
  refine hK _ _ rfl ⟨⟨_,M5.out⟩,rfl⟩ ?_
  clear hK K s5 m5 l5
  iterate 1 (refine mix_pure rfl rfl rfl ?_;intro K hK;go_big_quiet_op;go_big_quiet_on)
  refine mix_nil ?_
  try simp only [Exit.then]
  go_wp2_with fail;go_ret
  refine ⟨v5,rfl,?_,HML.out _ _ M5.out L5.out⟩
  have:l++slotU code d s j n hh slots=l++b8 [(code:Int),(d:Int)+16*s,j % 256,j / 256 % 256]++b8 (fourL n)++[0,0,0,0]++b8 (fourL hh):=by simp [slotU,h1]
  rw [this];exact S5.out
def pmapU (m:PMap):List UInt8:=namedU (T m.name)++b8 [(m.key:Int),(m.value:Int),(m.entries:Int)]
def pheadU (f:PFn):List UInt8:=namedU (T f.name)++b8 (twoL (slotsP f.code))
def pslotU (x:PI):List UInt8:=slotU x.o.code x.d x.s x.jump x.num x.high x.o.slots
def pcodeU (f:PFn):List UInt8:=f.code.flatMap pslotU
def encU (kind:Nat) (ms:List PMap) (fs:List PFn):List UInt8 :=
 [83,80,79,76]++b8 [(kind:Int),(ms.length:Int)]++ms.flatMap pmapU++b8 [(fs.length:Int)]++fs.flatMap pheadU++fs.flatMap pcodeU
structure EI (w:World) (v:Value) (l:List UInt8) (w':World):Prop where
 out:Out w' v l
 md:Mods Nil' w w'
 own:∀ k,v.ownBlock=some k->w.heap.size<=k
theorem EI.step {w w1 w2:World} {v v':Value} {l l':List UInt8} (h:EI w v l w1) (o:Out w2 v' l') (m:Mods (fun k=>v.ownBlock=some k) w1 w2) (hv:∀ k,v'.ownBlock=some k->v.ownBlock=some k\/w1.heap.size<=k):EI w v' l' w2 :=
 ⟨o,h.md.step m (fun i hi e=>by have:=h.own i e;omega),fun k hk=>by
  rcases hv k hk with e | e
  ·exact h.own k e
  ·have:=h.md.size;omega⟩
theorem EI.quiet {w w1 w2:World} {v:Value} {l:List UInt8} (h:EI w v l w1) (m:Mods Nil' w1 w2):EI w v l w2 :=
 ⟨h.out.quiet m,h.md.trans m,h.own⟩
structure PPr (w:World) (tv:Value) (bs:List Nat) (vM vF:Value) (ms:List PMap) (fs:List PFn) (vs:List Value):Prop where
 maps:Sl w 47 4 vM ms.length (ms.flatMap PMap.cells)
 len:vs.length=fs.length
 rows:Sl w 55 2 vF fs.length (((fs.map (·.name)).zip vs).flatMap fnC)
 code:∀ i (_:i<fs.length) (_:i<vs.length),Sl w 84 8 vs[i] fs[i].code.length (codeC bs fs[i].code)
 ops:OpsIn 0 w tv bs tableS
theorem PPr.quiet {w w':World} {tv:Value} {bs:List Nat} {vM vF:Value} {ms:List PMap} {fs:List PFn} {vs:List Value} (h:PPr w tv bs vM vF ms fs vs) (m:Mods Nil' w w'):PPr w' tv bs vM vF ms fs vs :=
 ⟨h.maps.mods m (fun _ _=>id),h.len,h.rows.mods m (fun _ _=>id),fun i a b=>(h.code i a b).mods m (fun _ _=>id),h.ops.mods m⟩
theorem PPr.atM {w:World} {tv:Value} {bs:List Nat} {oM:Option Addr} {cM:Nat} {vF:Value} {ms:List PMap} {fs:List PFn} {vs:List Value} (h:PPr w tv bs (.slice oM ms.length cM) vF ms fs vs) (k:Nat) (hk:k<ms.length) :
  ∃ g,oM=some ⟨g,0,none⟩/\w.cell? ⟨g,k*4,none⟩=some (.string (T ms[k].name))/\w.cell? ⟨g,k*4+1,none⟩=some (.int .u8 ms[k].key)/\w.cell? ⟨g,k*4+2,none⟩=some (.int .u8 ms[k].value)/\w.cell? ⟨g,k*4+3,none⟩=some (.int .u8 ms[k].entries):=by
 obtain ⟨o',cap',hv,h2⟩:=h.maps.view
 cases hv
 obtain ⟨g,cs,rfl,hb,ht,_⟩:=h2 (by omega)
 have key:∀ c,c<4->w.cell? ⟨g,k*4+c,none⟩=(PMap.cells ms[k])[c]?:=fun c hc=>by
  rw [take_cell hb ht (k*4+c) (by omega)]
  exact flat_get PMap.cells 4 (fun _=>rfl) ms k c hk hc
 exact ⟨g,rfl,key 0 (by omega),key 1 (by omega),key 2 (by omega),key 3 (by omega)⟩
theorem PPr.atF {w:World} {tv:Value} {bs:List Nat} {oF:Option Addr} {cF:Nat} {vM:Value} {ms:List PMap} {fs:List PFn} {vs:List Value} (h:PPr w tv bs vM (.slice oF fs.length cF) ms fs vs) (k:Nat) (hk:k<fs.length) (hv':k<vs.length) :
  ∃ g,oF=some ⟨g,0,none⟩/\w.cell? ⟨g,k*2,none⟩=some (.string (T fs[k].name))/\w.cell? ⟨g,k*2+1,none⟩=some vs[k]:=by
 obtain ⟨o',cap',hv,h2⟩:=h.rows.view
 cases hv
 obtain ⟨g,cs,rfl,hb,ht,_⟩:=h2 (by omega)
 have hz:k<((fs.map (·.name)).zip vs).length:=by simp only [List.length_zip,List.length_map];omega
 have key:∀ c,c<2->w.cell? ⟨g,k*2+c,none⟩=(fnC (fs[k].name,vs[k]))[c]?:=fun c hc=>by
  rw [take_cell hb ht (k*2+c) (by omega)]
  have:=flat_get fnC 2 (fun _=>rfl) ((fs.map (·.name)).zip vs) k c hz hc
  rw [this,List.getElem_zip,List.getElem_map]
 exact ⟨g,rfl,key 0 (by omega),key 1 (by omega)⟩
theorem slotU_len (code d s:Nat) (j n h:Int) (slots:Nat):(slotU code d s j n h slots).length<=16:=by
 unfold slotU
 split<;>simp [b8,fourL]
theorem wpList_append_grow {P:Program} (w:World) {ops:Array Oper} {rest:List Oper} {o:Oper} {a:Act} {Q:Exit->Act->World->Prop} (hgd:o.guard=none) (s x:Operand) (t:TypeId)
  (ho:o.op=.call { callee:=.builtin .append,args:=#[s,x],argTypes:=#[t,t] })
  (e:TypeId) (i:TypeInfo) (z:Value) (size bytes:Nat) (ht:P.underlying t=some (.slice e)) (hi:P.info? e=some i) (hz:i.zero=some z)
  (hsize:i.size=size) (hby:i.bytes=bytes) (hzs:z.cells.size=size) (hsz:0<size)
  (b:Addr) (n cap:Nat) (olds:List Value) (hs:a.eval s=.slice (some b) n cap) (hlo:olds.length=n*size) (holds:∀ j u,olds[j]?=some u->w.cell? (b.add j)=some u)
  (ad:Addr) (m c:Nat) (news:List Value) (hx:a.eval x=.slice (some ad) m c) (hl:news.length=m*size) (hnews:∀ j u,news[j]?=some u->w.cell? (ad.add j)=some u)
  (hg:cap<n+m) (h63:n+m<=maxLen) (hbytes:(n+m)*bytes<=140737488355328)
  (h:∀ v' w',Sl w' e size v' (n+m) (olds++news)->Mods Nil' w w'->(∀ k,v'.ownBlock=some k->w.heap.size<=k)->wpList P ops Q rest (a.put o.dst v') w'):wpList P ops Q (o::rest) a w:=by
 refine wpList_plain hgd fun _ hK=>?_
 obtain ⟨v',w',hr,h2,h3⟩:=run_append_arg_grows (P:=P) w t o.type e i z size bytes ht hi hz hsize hby hzs hsz b n cap olds hlo holds ad m c news hl hnews hg h63 hbytes
 unfold Oper.wp execOp
 simp only [ho,resolve,invoke,builtin,Sem.run_bind,Sem.run_pure,Result.andThen_ok,List.map_toArray,List.map_cons,List.map_nil,hs,hx,hr]
 refine hK _ _ (h v' w' ⟨h2.1,?_⟩ ⟨h3.os,h3.tape,h3.output,h3.size,fun k hk _=>h3.block k hk (by simp)⟩ (fun k hk=>(World.ownsRow.lt h2 k hk).1))
 rcases h2.2 with h | ⟨g,cp,cur,h4,_,h5⟩
 ·exact .inl h
 ·exact .inr ⟨g,cp,cur,h4,Nat.zero_le _,h5⟩
theorem lit_cell (w:World) (o o2:Obj) (C:Array Value) (e:TypeId) (m:Nat × Nat) (j:Nat):(((w.alloc o).alloc (.cells C e m)).alloc o2).cell? ⟨w.heap.size+1,j,none⟩=C[j]?:=by
 have h:(((w.alloc o).alloc (.cells C e m)).alloc o2).heap[w.heap.size+1]?=some (.cells C e m):=by
  show (((w.heap.push o).push (.cells C e m)).push o2)[w.heap.size+1]?=_
  rw [Array.getElem?_push,if_neg (by simp),Array.getElem?_push,if_pos (by simp)]
 unfold World.cell?
 simp only [h]
 rfl
structure CapC (w W:World) (B:Nat) (cs:Array Value) (t:TypeId) (a b:Nat) (u:Value) (l:List UInt8) (L:Nat->Bool) (w':World):Prop where
 md:Mods Nil' w w'
 bx:Blk w' B cs t
 sz:W.heap.size<=w'.heap.size
 ei:L a=false->L b=false->EI w u l w'
structure CapN (w:World) (B:Nat) (cs:Array Value) (t:TypeId) (a b:Nat) (u:Value) (i:Nat) (w1 w2:World):Prop where
 q:i≠a->i≠b->Mods Nil' w1 w2
 na:i=a->Mods (fun k=>u.ownBlock=some k) w1 w2
 nb:i=b->Mods Nil' w w2/\Blk w2 B cs t/\w1.heap.size<=w2.heap.size
theorem CapN.quiet {w w1 w2:World} {B:Nat} {cs:Array Value} {t:TypeId} {a b i:Nat} {u:Value} (m:Mods Nil' w1 w2) (ha:i≠a) (hb:i≠b):CapN w B cs t a b u i w1 w2 :=
 ⟨fun _ _=>m,fun e=>absurd e ha,fun e=>absurd e hb⟩
theorem CapN.keep {w W:World} {B:Nat} {cs:Array Value} {t:TypeId} {a b:Nat} {u:Value} {l:List UInt8} {md:Region.Mode} {ops:Array Oper} (hu:∀ k,u.ownBlock=some k->w.heap.size<=k) (hB:u.ownBlock≠some B) (hab:a≠b) :
  ∀ (i:Nat) (L:Nat->Bool) w1 w2,NowT md ops i L->CapC w W B cs t a b u l L w1->CapN w B cs t a b u i w1 w2->CapC w W B cs t a b u l (updL L i) w2:=by
 intro i L w1 w2 _ c n
 by_cases ea:i=a
 ·have m:=n.na ea
  subst ea
  exact ⟨c.md.step m (fun k hk e=>by have:=hu k e;omega),c.bx.mods m hB,Nat.le_trans c.sz m.size,fun h=>by simp [updL] at h⟩
 ·by_cases eb:i=b
  ·obtain ⟨m,bx,sz⟩:=n.nb eb;subst eb
   exact ⟨m,bx,Nat.le_trans c.sz sz,fun _ h=>by simp [updL] at h⟩
  ·have m:=n.q ea eb
   refine ⟨c.md.trans m,c.bx.mods m id,Nat.le_trans c.sz m.size,fun h1 h2=>(c.ei ?_ ?_).quiet m⟩
   ·simpa [updL,Ne.symm ea] using h1
   ·simpa [updL,Ne.symm eb] using h2
def capA (w:World) (b:Nat) (l:List UInt8) (L:Nat->Bool) (v:Value) (w':World):Prop:=L b=false->EI w v l w'
def capB (W:World) (b n:Nat) (cs:Array Value) (L:Nat->Bool) (v:Value) (w':World):Prop:=L b=false->∃ g,v=.slice (some ⟨g,0,none⟩) n n/\W.heap.size<=g/\Blk w' g cs 5
def capE (w:World) (l:List UInt8) (_:Nat->Bool) (v:Value) (w':World):Prop:=EI w v l w'
section
variable {w W : World} {B : Nat} {cs : Array Value} {t : TypeId} {a b : Nat} {u : Value} {l : List UInt8} {md : Region.Mode} {ops : Array Oper}
theorem capA_st (hab:a≠b):∀ (i:Nat) (L:Nat->Bool) v w1 w2,NowT md ops i L->L a=true->CapN w B cs t a b u i w1 w2->capA w b l L v w1->capA w b l (updL L i) v w2:=by
 intro i L v w1 w2 hn ha n h hb
 have eb:i≠b:=fun e=>by subst e;simp [updL] at hb
 have ea:i≠a:=fun e=>by subst e;rw [hn.1] at ha;cases ha
 have hb':L b=false:=by simpa [updL,Ne.symm eb] using hb
 exact (h hb').quiet (n.q ea eb)
theorem capB_st {c n:Nat} {ds:Array Value} (hu:∀ k,u.ownBlock=some k->k<W.heap.size):∀ (i:Nat) (L:Nat->Bool) v w1 w2,NowT md ops i L->L c=true->CapN w B cs t a b u i w1 w2->capB W b n ds L v w1->capB W b n ds (updL L i) v w2:=by
 intro i L v w1 w2 _ _ hn h hb
 have eb:i≠b:=fun e=>by subst e;simp [updL] at hb
 have hb':L b=false:=by simpa [updL,Ne.symm eb] using hb
 obtain ⟨g,h1,h2,h3⟩:=h hb'
 by_cases ea:i=a
 ·exact ⟨g,h1,h2,h3.mods (hn.na ea) (fun e=>by have:=hu g e;omega)⟩
 ·exact ⟨g,h1,h2,h3.mods (hn.q ea eb) id⟩
theorem capE_st {c:Nat} (h1:∃ o,ops[c]?=some o/\(depsOf md o).contains a=true/\(c=b\/(depsOf md o).contains b=true)):∀ (i:Nat) (L:Nat->Bool) v w1 w2,NowT md ops i L->L c=true->CapN w B cs t a b u i w1 w2->capE w l L v w1->capE w l (updL L i) v w2:=by
 intro i L v w1 w2 hn hc n h;obtain ⟨o,ho,da,db⟩:=h1
 have ea:i≠a:=fun e=>by subst e;have:=hn.2 c o ho da;rw [hc] at this;cases this
 have eb:i≠b:=fun e=>by
  subst e
  rcases db with e | e
  ·subst e;have:=hn.1;rw [hc] at this;cases this
  ·have:=hn.2 c o ho e;rw [hc] at this;cases this
 exact EI.quiet h (n.q ea eb)
end
theorem code_le:∀ k,k<88->(tableS[k]?.getD noOp).code<=255:=by decide +kernel
structure EOk (ms:List PMap) (fs:List PFn):Prop where
 m:ms.length<=255
 f:fs.length<=100
 mn:∀ m∈ms,m.name.length<=255/\m.key<=255/\m.value<=255/\m.entries<=255
 fn:∀ f∈fs,f.name.length<=255/\f.code.length<=200/\∀ x∈f.code,PIok x
set_option maxRecDepth 100000 in
set_option maxHeartbeats 2000000 in
theorem enc_any (kind:Nat) (hk:kind<=255) (w:World) (tv:Value) (bs:List Nat) (vM vF:Value) (ms:List PMap) (fs:List PFn) (vs:List Value) (hP:PPr w tv bs vM vF ms fs vs) (hE:EOk ms fs) :
  Calls Tryz.prog 45 #[.int .u8 kind,.agg #[vM,vF]] w fun e w'=>∃ v,e=.returned v/\EI w v (encU kind ms fs) w':=by
 obtain ⟨iU,hiU,hzU,hsU,hbU⟩:=info_u8_parts;obtain ⟨oM,cM,hvM,_⟩:=hP.maps.view;obtain ⟨oF,cF,hvF,_⟩:=hP.rows.view;subst hvM hvF
 have hml:=hE.m
 have hfl:=hE.f
 have HP:=hid hP;have HE:=hid hE;clear hP hE
 have kc:=Lib.run_convert_bytes_const (P:=Tryz.prog) (w.alloc (.cells #[.slice oM ms.length cM,.slice oF fs.length cF] 37)) 43 5 #[.int .u8 83,.int .u8 80,.int .u8 79,.int .u8 76] 4 4 Tryz.underlying43 Tryz.underlying5
 rw [show (w.alloc (.cells #[.slice oM ms.length cM,.slice oF fs.length cF] 37)).heap.size=w.heap.size+1 by simp] at kc
 go_enter Tryz.func45,Tryz.ntmps45
 have HOL:Hid (∀ (o2:Obj) (j:Nat) (u:Value),([.int .u8 83,.int .u8 80,.int .u8 79,.int .u8 76]:List Value)[j]?=some u->(((w.alloc (.cells #[.slice oM ms.length cM,.slice oF fs.length cF] 37)).alloc (.cells #[.int .u8 83,.int .u8 80,.int .u8 79,.int .u8 76] 5 (4,5))).alloc o2).cell? ((⟨w.heap.size+1,0,none⟩:Addr).add j)=some u):=by
  intro o2 j u hu
  have hadd:(⟨w.heap.size+1,0,none⟩:Addr).add j=⟨w.heap.size+1,j,none⟩:=by unfold Addr.add;split<;>simp_all
  rw [hadd,lit_cell]
  simpa using hu
 go_wp2_with (at_builtin;refine wpList_append_grow _ rfl (.tmp 15) (.tmp 21) 43 rfl 5 iU (.int .u8 0) 1 1 Tryz.underlying43 hiU hzU hsU hbU rfl (by decide) ⟨w.heap.size+1,0,none⟩ 4 4 [.int .u8 83,.int .u8 80,.int .u8 79,.int .u8 76] rfl rfl (HOL.out _) ⟨w.heap.size+1+1,0,none⟩ 2 2 ([(kind:Int),(ms.length:Int)].map (Value.int .u8)) rfl rfl (news_cells _ _ _ _ (by simp)) (by decide) (by decide) (by decide) ?_;intro v2 w2 s2 m2 l2;have B2:Hid (Blk w2 w.heap.size #[.slice oM ms.length cM,.slice oF fs.length cF] 37):=Blk.mods (((Blk.new w _ _).alloc _).alloc _) m2 id;have q0:w2.cell? ⟨w.heap.size,0,none⟩=some (.slice oM ms.length cM):=B2.out.cell 0)
 obtain ⟨wB,hwB⟩:∃ wB,wB=w.alloc (.cells #[.slice oM ms.length cM,.slice oF fs.length cF] 37):=⟨_,rfl⟩
 have HMB:Hid (Mods Nil' w wB):=by rw [hwB];exact (Mods.refl _ _).alloc _
 have HBB:Hid (Blk wB w.heap.size #[.slice oM ms.length cM,.slice oF fs.length cF] 37):=by rw [hwB];exact Blk.new _ _ _
 have HPB:Hid (PPr wB tv bs (.slice oM ms.length cM) (.slice oF fs.length cF) ms fs vs):=HP.out.quiet HMB.out
 have HI0:Hid (EI wB v2 ([83,80,79,76]++b8 [(kind:Int),(ms.length:Int)]) w2):=by
  rw [<- hwB] at m2 l2
  have M0:Mods Nil' wB ((wB.alloc (.cells #[.int .u8 83,.int .u8 80,.int .u8 79,.int .u8 76] 5 (4,5))).alloc (.cells #[.int .u8 kind,.int .u8 ms.length] 5)):=((Mods.refl _ _).alloc _).alloc _
  refine ⟨?_,M0.trans m2,fun k hk=>Nat.le_trans M0.size (l2 k hk)⟩
  exact Out.app (l:=[83,80,79,76]) (fun x hx=>by simp at hx;rcases hx with rfl | rfl<;>omega) rfl s2
 clear s2 m2 l2 kc HOL hwB HP
 have HO0:Hid (∀ x:Value,x=v2->True):=fun _ _=>trivial
 go_loopg [5,26] ms.length (fun g ov iv wx=>∃ (k:Nat) (l:List UInt8),iv=.int .i64 k/\EI wB ov l wx/\l++(ms.drop k).flatMap pmapU=[83,80,79,76]++b8 [(kind:Int),(ms.length:Int)]++ms.flatMap pmapU/\l.length<=6+k*260/\k<=ms.length/\g=ms.length - k)
 case atStart=>exact ⟨0,_,rfl,HI0.out,rfl,by simp [b8],Nat.zero_le _,rfl⟩
 case round =>
  obtain ⟨k,l,rfl,hI,HR0,hll,hkm,rfl⟩:=hrel;have HR:=hid HR0;have HI:=hid hI;clear HR0 q0
  have hPr:=HPB.out.quiet hI.md
  by_cases hkl:k<ms.length
  ·obtain ⟨gM,rfl,c0,c1,c2,c3⟩:=hPr.atM k hkl
   have hok:=HE.out.mn ms[k] (List.getElem_mem hkl)
   have HD:Hid (l++pmapU ms[k]++(ms.drop (k+1)).flatMap pmapU=[83,80,79,76]++b8 [(kind:Int),(ms.length:Int)]++ms.flatMap pmapU):=by
    rw [Hid,<- HR.out,List.drop_eq_getElem_cons hkl,List.flatMap_cons,List.append_assoc]
   clear hPr hI HR;generalize ms[k]=m at *;obtain ⟨nm,ky,vl,en⟩:=m;simp only at *;obtain ⟨o1,o2,o3,o4⟩:=hok;go_upto_region 5 with fail
   have hIW:EI wB u5 l (wr.alloc (.cells #[.string (T nm),.int .u8 ky,.int .u8 vl,.int .u8 en] 47)):=HI.out.quiet ((Mods.refl _ _).alloc _)
   have hbx:=Blk.new wr #[.string (T nm),.int .u8 ky,.int .u8 vl,.int .u8 en] 47
   have hsz:wr.heap.size<(wr.alloc (.cells #[.string (T nm),.int .u8 ky,.int .u8 vl,.int .u8 en] 47)).heap.size:=hbx.lt
   generalize wr.alloc (.cells #[.string (T nm),.int .u8 ky,.int .u8 vl,.int .u8 en] 47)=W at *;generalize wr.heap.size=B at *;have HIW:=hid hIW
   have HNB:Hid (u5.ownBlock≠some B):=hIW.out.notBlk hbx (by decide)
   have HLT:Hid (∀ k,u5.ownBlock=some k->k<W.heap.size):=fun k hk=>hIW.out.lt k hk
   have HBX:=hid hbx
   have hts:(T nm).size<=255:=by rw [T_size];exact o1
   have HLL:=hid hll;clear hIW hbx c0 c1 c2 c3 hsz hll HI
   refine wp_region_invL [.inl u5,.inl (.pointer (some ⟨B,0,none⟩)),.inl (.string (T nm)),.inr (capA wB 11 (l++namedU (T nm))),.inl (.pointer (some ⟨B,1,none⟩)),.inl (.int .u8 ky),.inl (.pointer (some ⟨B,2,none⟩)),.inl (.int .u8 vl),.inl (.pointer (some ⟨B,3,none⟩)),.inl (.int .u8 en),
     .inr (capB W 11 3 #[.int .u8 ky,.int .u8 vl,.int .u8 en]),.inr (capE wB (l++namedU (T nm)++b8 [(ky:Int),(vl:Int),(en:Int)])),.inr (capE wB (l++namedU (T nm)++b8 [(ky:Int),(vl:Int),(en:Int)]))]
    (CapC wB W B #[.string (T nm),.int .u8 ky,.int .u8 vl,.int .u8 en] 47 3 11 u5 l) (CapN wB B #[.string (T nm),.int .u8 ky,.int .u8 vl,.int .u8 en] 47 3 11 u5) (by kernel_rfl) (by kernel_rfl) (by kernel_rfl)
    ⟨HIW.out.md.drew,HBX.out.drew,Nat.le_refl _,fun _ _=>HIW.out.quiet ((Mods.refl _ _).drew)⟩ ?_ (CapN.keep HIW.out.own HNB.out (by decide)) (.inl (by kernel_rfl)) ?_
   ·intro j s hs i L v w1 w2 hn hj n hr
    refine stableT_of (show StableT _ _ _ 0 _ from ?_) j s hs i L v w1 w2 hn (by rw [Nat.zero_add];exact hj) n hr
    exact ⟨capA_st (by decide),capB_st HLT.out,capE_st ⟨_,rfl,by decide,.inl rfl⟩,capE_st ⟨_,rfl,by decide,.inr (by decide)⟩,trivial⟩
   refine invT_det rfl (fun L w' hN hC _ K hK=>?_) ?_
   ·go_big_op
    exact hK _ _ _ rfl (.quiet (Mods.refl _ _) (by decide) (by decide)) rfl
   simp only [Act.put,List.setIfInBounds_toArray,List.set_cons_succ,List.set_cons_zero]
   refine invT_det rfl (fun L w' hN hC _ K hK=>?_) ?_
   ·go_big_op
    exact hK _ _ _ rfl (.quiet (Mods.refl _ _) (by decide) (by decide)) rfl
   simp only [Act.put,List.setIfInBounds_toArray,List.set_cons_succ,List.set_cons_zero]
   refine invT_det rfl (fun L w' hN hC _ K hK=>?_) ?_
   ·have e1:w'.cell? ⟨B,0,none⟩=some (.string (T nm)):=hC.bx.cell 0
    go_big_op
    exact hK _ _ _ rfl (.quiet (Mods.refl _ _) (by decide) (by decide)) rfl
   simp only [Act.put,List.setIfInBounds_toArray,List.set_cons_succ,List.set_cons_zero]
   refine invT_any rfl (fun L w' hN hC _ K hK=>?_) (fun x3=>?_)
   ·have h11:L 11=false:=hN.2 11 _ rfl (by decide)
    have hei:=hC.ei hN.1 h11
    go_big_op
    refine (aName_any w' u5 l hei.out (by have:=HLL.out;omega) (T nm) hts).mono ?_
    rintro e w2' ⟨v3,rfl,s3,m3,l3⟩
    exact hK _ _ _ rfl ⟨fun h=>absurd rfl h,fun _=>m3,fun h=>absurd h (by decide)⟩ (fun _=>hei.step s3 m3 l3)
   simp only [Act.put,List.setIfInBounds_toArray,List.set_cons_succ,List.set_cons_zero]
   refine invT_det rfl (fun L w' hN hC _ K hK=>?_) ?_
   ·go_big_op
    exact hK _ _ _ rfl (.quiet (Mods.refl _ _) (by decide) (by decide)) rfl
   simp only [Act.put,List.setIfInBounds_toArray,List.set_cons_succ,List.set_cons_zero]
   refine invT_det rfl (fun L w' hN hC _ K hK=>?_) ?_
   ·have e1:w'.cell? ⟨B,1,none⟩=some (.int .u8 ky):=hC.bx.cell 1
    go_big_op
    exact hK _ _ _ rfl (.quiet (Mods.refl _ _) (by decide) (by decide)) rfl
   simp only [Act.put,List.setIfInBounds_toArray,List.set_cons_succ,List.set_cons_zero]
   refine invT_det rfl (fun L w' hN hC _ K hK=>?_) ?_
   ·go_big_op
    exact hK _ _ _ rfl (.quiet (Mods.refl _ _) (by decide) (by decide)) rfl
   simp only [Act.put,List.setIfInBounds_toArray,List.set_cons_succ,List.set_cons_zero]
   refine invT_det rfl (fun L w' hN hC _ K hK=>?_) ?_
   ·have e1:w'.cell? ⟨B,2,none⟩=some (.int .u8 vl):=hC.bx.cell 2
    go_big_op
    exact hK _ _ _ rfl (.quiet (Mods.refl _ _) (by decide) (by decide)) rfl
   simp only [Act.put,List.setIfInBounds_toArray,List.set_cons_succ,List.set_cons_zero]
   refine invT_det rfl (fun L w' hN hC _ K hK=>?_) ?_
   ·go_big_op
    exact hK _ _ _ rfl (.quiet (Mods.refl _ _) (by decide) (by decide)) rfl
   simp only [Act.put,List.setIfInBounds_toArray,List.set_cons_succ,List.set_cons_zero]
   refine invT_det rfl (fun L w' hN hC _ K hK=>?_) ?_
   ·have e1:w'.cell? ⟨B,3,none⟩=some (.int .u8 en):=hC.bx.cell 3
    go_big_op
    exact hK _ _ _ rfl (.quiet (Mods.refl _ _) (by decide) (by decide)) rfl
   simp only [Act.put,List.setIfInBounds_toArray,List.set_cons_succ,List.set_cons_zero]
   refine invT_any rfl (fun L w' hN hC _ K hK=>?_) (fun x10=>?_)
   ·go_big_op
    exact hK _ _ _ rfl (.quiet ((Mods.refl _ _).alloc _) (by decide) (by decide)) (fun _=>⟨_,rfl,hC.sz,Blk.new _ _ _⟩)
   simp only [Act.put,List.setIfInBounds_toArray,List.set_cons_succ,List.set_cons_zero]
   refine invT_any rfl (fun L w' hN hC hk K hK=>?_) (fun x11=>?_)
   ·have f3:capA wB 11 (l++namedU (T nm)) L x3 w':=knownT_mem hk 3 (by decide)
    have f10:capB W 11 3 #[.int .u8 ky,.int .u8 vl,.int .u8 en] L x10 w':=knownT_mem hk 10 (by decide)
    have hei:=f3 hN.1
    obtain ⟨g,rfl,hgW,hg⟩:=f10 hN.1
    refine wp_append_sl _ (.tmp 33) (.tmp 40) 43 rfl 5 iU (.int .u8 0) 1 1 Tryz.underlying43 hiU hzU hsU hbU rfl (by decide) x3 _ _ rfl hei.out ⟨g,0,none⟩ 3 3 ([(ky:Int),(vl:Int),(en:Int)].map (Value.int .u8)) rfl rfl ?_ (u8_one _) ?_ ?_ ?_
    ·intro j u hu
     have hadd:(⟨g,0,none⟩:Addr).add j=⟨g,j,none⟩:=by unfold Addr.add;split<;>simp_all
     rw [hadd,hg.cell j]
     simpa using hu
    ·have:=HLL.out
     rw [List.length_append,namedU_len]
     unfold maxLen;omega
    ·have:=HLL.out
     rw [List.length_append,namedU_len]
     omega
    ·intro v4 w4 s4 m4 l4
     have hE4:EI wB v4 (l++namedU (T nm)++b8 [(ky:Int),(vl:Int),(en:Int)]) w4:=hei.step (Out.app (fun x hx=>by simp at hx;rcases hx with rfl | rfl | rfl<;>omega) rfl s4) m4 l4
     exact hK _ _ _ rfl ⟨fun _ h=>absurd rfl h,fun h=>absurd h (by decide),fun _=>⟨hE4.md,hC.bx.mods m4 (hei.out.notBlk hC.bx (by decide)),m4.size⟩⟩ hE4
   simp only [Act.put,List.setIfInBounds_toArray,List.set_cons_succ,List.set_cons_zero]
   refine invT_any rfl (fun L w' hN hC hk K hK=>?_) (fun x12=>?_)
   ·have f11:capE wB (l++namedU (T nm)++b8 [(ky:Int),(vl:Int),(en:Int)]) L x11 w':=knownT_mem hk 11 (by decide)
    go_big_op
    exact hK _ _ _ rfl (.quiet (Mods.refl _ _) (by decide) (by decide)) f11
   simp only [Act.put,List.setIfInBounds_toArray,List.set_cons_succ,List.set_cons_zero]
   refine invT_nil (fun L w' hL hC hA=>?_)
   have hE5:EI wB x12 (l++namedU (T nm)++b8 [(ky:Int),(vl:Int),(en:Int)]) w':=allT_mem hA 12
   have HE5:=hid hE5;clear hE5 hA hC hL
   try simp only [Exit.then]
   go_wp2_with fail
   go_roundg (ms.length - (k+1))
   case measure=>omega
   case rel =>
    have hlz:=HLL.out
    refine ⟨k+1,l++pmapU ⟨nm,ky,vl,en⟩,by go_num,?_,HD.out,?_,by omega,rfl⟩
    ·rw [pmapU,<- List.append_assoc];exact HE5.out
    ·rw [List.length_append,pmapU,List.length_append,namedU_len,b8_len];simp only [List.length_cons,List.length_nil];omega
  ·obtain rfl:k=ms.length:=by omega
   have HM1:Hid (l=[83,80,79,76]++b8 [(kind:Int),(ms.length:Int)]++ms.flatMap pmapU):=by
    have:=HR.out
    rw [List.drop_length] at this;rw [Hid]
    simpa using this
   have q1:wr.cell? ⟨w.heap.size,1,none⟩=some (.slice oF fs.length cF):=(HBB.out.mods hI.md id).cell 1
   have HLL:Hid (l.length<=70000):=by rw [Hid];omega
   clear hPr hI HR hll
   go_wp2_with (at_builtin;refine wpList_append_sl _ rfl (.tmp 43) (.tmp 48) 43 rfl 5 iU (.int .u8 0) 1 1 Tryz.underlying43 hiU hzU hsU hbU rfl (by decide) u5 l.length (u8c l) rfl (HI.out.out.quiet ((Mods.refl _ _).alloc _)) ⟨wr.heap.size,0,none⟩ 1 1 ([(fs.length:Int)].map (Value.int .u8)) rfl rfl (news_cells _ _ _ _ rfl) (u8_one _) (by have:=HLL.out;unfold maxLen;omega) (by have:=HLL.out;omega) ?_;intro v7 w7 s7 m7 l7;have H7:Hid (EI wB v7 (l++b8 [(fs.length:Int)]) w7):=(HI.out.quiet ((Mods.refl _ _).alloc _)).step (Out.app (fun x hx=>by simp at hx;subst hx;omega) rfl s7) m7 l7;have q2:w7.cell? ⟨w.heap.size,1,none⟩=some (.slice oF fs.length cF):=(HBB.out.mods H7.out.md id).cell 1)
   clear s7 m7 l7 HI
   go_loopg [5,53] fs.length (fun g ov iv wx=>∃ (k:Nat) (l':List UInt8),iv=.int .i64 k/\EI wB ov l' wx/\l'++(fs.drop k).flatMap pheadU=l++b8 [(fs.length:Int)]++fs.flatMap pheadU/\l'.length<=70001+k*260/\k<=fs.length/\g=fs.length - k)
   case atStart=>exact ⟨0,_,rfl,H7.out,rfl,by have:=HLL.out;rw [List.length_append,b8_len];simp only [List.length_cons,List.length_nil];omega,Nat.zero_le _,rfl⟩
   case round =>
    clear q1 q2;obtain ⟨k,l',rfl,hI,HR0,hll,hkm,rfl⟩:=hrel;have HR:=hid HR0;clear HR0
    have hPr:=HPB.out.quiet hI.md
    have HLL2:=hid hll;clear hll
    by_cases hkl:k<fs.length
    ·have hkv:k<vs.length:=by rw [hPr.len];exact hkl
     obtain ⟨gF,rfl,c0,c1⟩:=hPr.atF k hkl hkv
     have hok:=HE.out.fn fs[k] (List.getElem_mem hkl)
     have hcd:=hPr.code k hkl hkv
     have HD:Hid (l'++pheadU fs[k]++(fs.drop (k+1)).flatMap pheadU=l++b8 [(fs.length:Int)]++fs.flatMap pheadU):=by
      rw [Hid,<- HR.out,List.drop_eq_getElem_cons hkl,List.flatMap_cons,List.append_assoc]
     have HOP:Hid (∀ w',Mods Nil' wB w'->OpsIn 0 w' tv bs tableS/\Sl w' 84 8 vs[k] fs[k].code.length (codeC bs fs[k].code)):=fun w' m=>⟨(HPB.out.quiet m).ops,(HPB.out.quiet m).code k hkl hkv⟩
     generalize fs[k]=f at *;generalize vs[k]=vC at *;obtain ⟨nm,code⟩:=f;simp only at *;obtain ⟨o1,o2,o3⟩:=hok;obtain ⟨oC,cC,rfl,_⟩:=hcd.view;clear hPr HR;have HI:=hid hI;clear hI;have HOPc:=hid HOP.out;clear HOP hcd;go_upto_region 11 with fail
     have hIW:EI wB u5 l' (wr.alloc (.cells #[.string (T nm),.slice oC code.length cC] 55)):=HI.out.quiet ((Mods.refl _ _).alloc _)
     have hbx:=Blk.new wr #[.string (T nm),.slice oC code.length cC] 55
     generalize wr.alloc (.cells #[.string (T nm),.slice oC code.length cC] 55)=W at *;generalize wr.heap.size=B at *;have HIW:=hid hIW
     have hnx:¬ (u5.ownBlock=some B):=hIW.out.notBlk hbx (by decide)
     have HBX:=hid hbx
     have hts:(T nm).size<=255:=by rw [T_size];exact o1
     have x0:∀ g:Ext (fun k=>u5.ownBlock=some k) W,g.w.cell? ⟨B,0,none⟩=some (.string (T nm)):=fun g=>(HBX.out.mods g.m hnx).cell 0
     have x1:∀ g:Ext (fun k=>u5.ownBlock=some k) W,g.w.cell? ⟨B,1,none⟩=some (.slice oC code.length cC):=fun g=>(HBX.out.mods g.m hnx).cell 1
     have ne1:=Ext.ne (fun k=>u5.ownBlock=some k) W
     clear hIW hbx c0 c1 HI
     refine wp_region_mix [3,5,6] (fun w'=>∃ e:Ext (fun k=>u5.ownBlock=some k) W,w'=e.w) (by kernel_rfl) (by kernel_rfl) (by kernel_rfl) ⟨⟨_,(Mods.refl _ _).drew⟩,rfl⟩ ?_
     iterate 3 (refine mix_pure rfl rfl rfl ?_;intro K hK;go_big_quiet_op;go_big_quiet_on)
     refine mix_act rfl rfl ?_
     intro K hK
     go_big_op
     refine (aName_any _ u5 l' (HIW.out.quiet ((Mods.refl _ _).drew)).out (by have:=HLL2.out;omega) (T nm) hts).mono ?_
     rintro e w3 ⟨v3,rfl,s3,m3,l3⟩
     have H3:Hid (EI wB v3 (l'++namedU (T nm)) w3):=(HIW.out.quiet ((Mods.refl _ _).drew)).step s3 m3 l3
     have M3:Hid (Mods (fun k=>u5.ownBlock=some k) W w3):=((Mods.refl _ _).drew).trans m3
     have L3:Hid (∀ k,v3.ownBlock=some k->u5.ownBlock=some k\/W.heap.size<=k):=l3
     refine hK _ _ rfl ⟨⟨_,M3.out⟩,rfl⟩ ?_
     clear hK K s3 m3 l3
     iterate 1 (refine mix_pure rfl rfl rfl ?_;intro K hK;go_big_quiet_op;go_big_quiet_on)
     refine mix_act rfl rfl ?_
     intro K hK
     go_big_op
     refine (pslots_any w3 tv bs (HOPc.out w3 H3.out.md).1 code o3 (by omega) _ (HOPc.out w3 H3.out.md).2 (T nm)).mono ?_
     rintro e w4 ⟨rfl,m4⟩
     have H4:Hid (EI wB v3 (l'++namedU (T nm)) w4):=H3.out.quiet m4
     have M4:Hid (Mods (fun k=>u5.ownBlock=some k) W w4):=M3.out.trans (m4.mono (fun _ _ e=>e.elim))
     refine hK _ _ rfl ⟨⟨_,M4.out⟩,rfl⟩ ?_
     clear hK K
     refine mix_act rfl rfl ?_
     intro K hK
     go_big_op
     refine (aTwo_any w4 v3 (l'++namedU (T nm)) H4.out.out (by have:=HLL2.out;rw [List.length_append,namedU_len];omega) (slotsP code)).mono ?_
     rintro e w5 ⟨v5,rfl,s5,m5,l5⟩
     have H5:Hid (EI wB v5 (l'++namedU (T nm)++b8 (twoL (slotsP code))) w5):=H4.out.step s5 m5 l5
     have M5:Hid (Mods (fun k=>u5.ownBlock=some k) W w5):=⟨m5.os.trans M4.out.os,m5.tape.trans M4.out.tape,m5.output.trans M4.out.output,Nat.le_trans M4.out.size m5.size,fun k hk hS=>(m5.block k (Nat.lt_of_lt_of_le hk M4.out.size) (fun e=>by
      rcases L3.out k e with h | h
      ·exact hS h
      ·omega)).trans (M4.out.block k hk hS)⟩
     refine hK _ _ rfl ⟨⟨_,M5.out⟩,rfl⟩ ?_
     clear hK K s5 m5 l5
     iterate 1 (refine mix_pure rfl rfl rfl ?_;intro K hK;go_big_quiet_op;go_big_quiet_on)
     refine mix_nil ?_
     try simp only [Exit.then]
     go_wp2_with fail
     go_roundg (fs.length - (k+1))
     case measure=>omega
     case rel =>
      have hlz:=HLL2.out
      refine ⟨k+1,l'++pheadU ⟨nm,code⟩,by go_num,?_,HD.out,?_,by omega,rfl⟩
      ·rw [pheadU,<- List.append_assoc];exact H5.out
      ·rw [List.length_append,pheadU,List.length_append,namedU_len,b8_len];simp only [twoL,List.length_cons,List.length_nil];omega
    ·obtain rfl:k=fs.length:=by omega
     have HM2:Hid (l'=l++b8 [(fs.length:Int)]++fs.flatMap pheadU):=by
      have:=HR.out
      rw [List.drop_length] at this;rw [Hid]
      simpa using this
     have HLL3:Hid (l'.length<=140000):=by have:=HLL2.out;rw [Hid];omega
     have q1:wr.cell? ⟨w.heap.size,1,none⟩=some (.slice oF fs.length cF):=(HBB.out.mods hI.md id).cell 1
     have HI:=hid hI;clear hPr hI HR HLL2;go_wp2_with fail
     go_loopg [5,68] fs.length (fun g ov iv wx=>∃ (k:Nat) (a:List UInt8),iv=.int .i64 k/\EI wB ov a wx/\a++(fs.drop k).flatMap pcodeU=l'++fs.flatMap pcodeU/\a.length<=140000+k*3200/\k<=fs.length/\g=fs.length - k)
     case atStart=>exact ⟨0,_,rfl,HI.out,rfl,by have:=HLL3.out;omega,Nat.zero_le _,rfl⟩
     case round =>
      clear q1 HI;obtain ⟨k,a,rfl,hI,HR0,hll,hkm,rfl⟩:=hrel;have HR:=hid HR0;clear HR0
      have hPr:=HPB.out.quiet hI.md
      have HLL4:=hid hll;clear hll
      by_cases hkl:k<fs.length
      ·have hkv:k<vs.length:=by rw [hPr.len];exact hkl
       obtain ⟨gF,rfl,c0,c1⟩:=hPr.atF k hkl hkv
       have hok:=HE.out.fn fs[k] (List.getElem_mem hkl)
       have hcd:=hPr.code k hkl hkv
       have HD:Hid (a++pcodeU fs[k]++(fs.drop (k+1)).flatMap pcodeU=l'++fs.flatMap pcodeU):=by
        rw [Hid,<- HR.out,List.drop_eq_getElem_cons hkl,List.flatMap_cons,List.append_assoc]
       have HOP:Hid (∀ w',Mods Nil' wB w'->OpsIn 0 w' tv bs tableS/\Sl w' 84 8 vs[k] fs[k].code.length (codeC bs fs[k].code)):=fun w' m=>⟨(HPB.out.quiet m).ops,(HPB.out.quiet m).code k hkl hkv⟩
       generalize fs[k]=f at *;generalize vs[k]=vC at *;obtain ⟨nm,code⟩:=f;simp only at *;obtain ⟨o1,o2,o3⟩:=hok;obtain ⟨oC,cC,rfl,_⟩:=hcd.view;have HOPc:=hid HOP.out;have HOK:=hid o3
       have HIa:Hid (EI wB u5 a (wr.alloc (.cells #[.string (T nm),.slice oC code.length cC] 55))):=hI.quiet ((Mods.refl _ _).alloc _)
       clear HOP hcd hPr HR hI o3;go_wp2_with fail;generalize wr.alloc (.cells #[.string (T nm),.slice oC code.length cC] 55)=W at *
       go_loopg [5,75] code.length (fun g ov iv wx=>∃ (j:Nat) (a':List UInt8),iv=.int .i64 j/\EI wB ov a' wx/\a'++(code.drop j).flatMap pslotU=a++pcodeU ⟨nm,code⟩/\a'.length<=140000+k*3200+j*16/\j<=code.length/\g=code.length - j)
       case atStart=>exact ⟨0,_,rfl,HIa.out,rfl,by have:=HLL4.out;omega,Nat.zero_le _,rfl⟩
       case round =>
        clear c0 c1 HIa;obtain ⟨j,a',rfl,hI,HR0,hll,hjm,rfl⟩:=hrel;have HR:=hid HR0;clear HR0;have HLL5:=hid hll;clear hll
        by_cases hjl:j<code.length
        ·obtain ⟨g,rfl,hg,y0,y1,y2,y3,y4,y5,y6,y7⟩:=code_at (HOPc.out wr hI.md).2 rfl rfl j hjl
         have hx:=HOK.out code[j] (List.getElem_mem hjl)
         have HD2:Hid (a'++pslotU code[j]++(code.drop (j+1)).flatMap pslotU=a++pcodeU ⟨nm,code⟩):=by
          rw [Hid,<- HR.out,List.drop_eq_getElem_cons hjl,List.flatMap_cons,List.append_assoc]
         have HAT:Hid (∀ w',Mods Nil' wB w'->OpAt w' (bs[code[j].k]?.getD 0) code[j].o):=fun w' m=>tab_at (HOPc.out w' m).1 code[j] hx.k
         have hcl:code[j].o.code<=255:=code_le code[j].k hx.k
         have hslc:=hx.slots
         have HPS:Hid (pslotU code[j]=slotU code[j].o.code code[j].d code[j].s code[j].jump code[j].num code[j].high code[j].o.slots):=rfl
         obtain ⟨_,hxd,hxs,hxj,hxn,hxh⟩:=hx;generalize code[j].o=o at *;generalize code[j].jump=jmp at *;generalize code[j].d=xd at *;generalize code[j].s=xs at *;generalize code[j].num=xn at *;generalize code[j].high=xh at *;generalize code[j].name=xm at *;generalize bs[code[j].k]?.getD 0=b at *;generalize pslotU code[j]=su at *;have HI:=hid hI;clear hI HR;go_wp2_with fail
         have HIx:Hid (EI wB u5 a' (wr.alloc (.cells #[.pointer (some ⟨b,0,none⟩),.int .u8 xd,.int .u8 xs,.int .i16 jmp,.int .i32 xn,.int .i32 xh,.string ByteArray.empty,.string (T xm)] 84))):=HI.out.quiet ((Mods.refl _ _).alloc _)
         obtain ⟨p1,pn,pc,f6,c6,k7,c7,k8,c8,f9,c9,hop,_⟩:=(HAT.out _ HIx.out.md).ex
         refine (aSlots_any _ u5 a' HIx.out.out (by have:=HLL5.out;omega) b _ o.code o.slots hop rfl rfl xd xs jmp xn xh _ _ hcl hxd hxs hxj hxn hxh (by omega)).mono ?_
         rintro e w3 ⟨v3,rfl,s3,m3,l3⟩
         have H3:Hid (EI wB v3 (a'++su) w3):=by rw [HPS.out];exact HIx.out.step s3 m3 l3
         clear s3 m3 l3 hop;go_wp2_with fail
         go_roundg (code.length - (j+1))
         case measure=>omega
         case rel =>
          have hlz:=HLL5.out
          have hsu:su.length<=16:=by rw [HPS.out];exact slotU_len _ _ _ _ _ _ _
          exact ⟨j+1,a'++su,by go_num,H3.out,HD2.out,by rw [List.length_append];omega,by omega,rfl⟩
        ·obtain rfl:j=code.length:=by omega
         have HM4:Hid (a'=a++pcodeU ⟨nm,code⟩):=by
          have:=HR.out
          rw [List.drop_length] at this;rw [Hid]
          simpa using this
         have HI:=hid hI;clear hI HR;go_wp2_with fail
         go_roundg (fs.length - (k+1))
         case measure=>omega
         case rel =>
          have:=HLL5.out
          exact ⟨k+1,a',by go_num,HI.out,by rw [HM4.out];exact HD.out,by omega,by omega,rfl⟩
      ·obtain rfl:k=fs.length:=by omega
       have HM3:Hid (a=encU kind ms fs):=by
        have:=HR.out
        rw [List.drop_length] at this;rw [Hid,encU,<- HM1.out,<- HM2.out]
        simpa using this
       have HI:=hid hI;clear hI HR hPr;go_wp2_with fail;go_ret
       refine ⟨u5,rfl,?_⟩
       rw [<- HM3.out]
       exact ⟨HI.out.out,HMB.out.trans HI.out.md,fun k hk=>Nat.le_trans HMB.out.size (HI.out.own k hk)⟩
structure PPrL (w:World) (tv:Value) (bs:List Nat) (vM vF:Value) (ms:List PMap) (fs:List PFn) (vs:List Value):Prop where
 maps:Sl w 47 4 vM ms.length (ms.flatMap PMap.cells)
 len:vs.length=fs.length
 rows:Sl w 55 2 vF fs.length (((fs.map (·.name)).zip vs).flatMap fnC)
 code:∀ i (_:i<fs.length) (_:i<vs.length),CodeL w vs[i] bs fs[i].code
 ops:OpsIn 0 w tv bs tableS
theorem PPrL.quiet {w w':World} {tv:Value} {bs:List Nat} {vM vF:Value} {ms:List PMap} {fs:List PFn} {vs:List Value} (h:PPrL w tv bs vM vF ms fs vs) (m:Mods Nil' w w'):PPrL w' tv bs vM vF ms fs vs :=
 ⟨h.maps.mods m (fun _ _=>id),h.len,h.rows.mods m (fun _ _=>id),fun i a b=>(h.code i a b).mods m (fun _ _=>id),h.ops.mods m⟩
theorem PPrL.atM {w:World} {tv:Value} {bs:List Nat} {oM:Option Addr} {cM:Nat} {vF:Value} {ms:List PMap} {fs:List PFn} {vs:List Value} (h:PPrL w tv bs (.slice oM ms.length cM) vF ms fs vs) (k:Nat) (hk:k<ms.length) :
  ∃ g,oM=some ⟨g,0,none⟩/\w.cell? ⟨g,k*4,none⟩=some (.string (T ms[k].name))/\w.cell? ⟨g,k*4+1,none⟩=some (.int .u8 ms[k].key)/\w.cell? ⟨g,k*4+2,none⟩=some (.int .u8 ms[k].value)/\w.cell? ⟨g,k*4+3,none⟩=some (.int .u8 ms[k].entries):=by
 obtain ⟨o',cap',hv,h2⟩:=h.maps.view
 cases hv
 obtain ⟨g,cs,rfl,hb,ht,_⟩:=h2 (by omega)
 have key:∀ c,c<4->w.cell? ⟨g,k*4+c,none⟩=(PMap.cells ms[k])[c]?:=fun c hc=>by
  rw [take_cell hb ht (k*4+c) (by omega)]
  exact flat_get PMap.cells 4 (fun _=>rfl) ms k c hk hc
 exact ⟨g,rfl,key 0 (by omega),key 1 (by omega),key 2 (by omega),key 3 (by omega)⟩
theorem PPrL.atF {w:World} {tv:Value} {bs:List Nat} {oF:Option Addr} {cF:Nat} {vM:Value} {ms:List PMap} {fs:List PFn} {vs:List Value} (h:PPrL w tv bs vM (.slice oF fs.length cF) ms fs vs) (k:Nat) (hk:k<fs.length) (hv':k<vs.length) :
  ∃ g,oF=some ⟨g,0,none⟩/\w.cell? ⟨g,k*2,none⟩=some (.string (T fs[k].name))/\w.cell? ⟨g,k*2+1,none⟩=some vs[k]:=by
 obtain ⟨o',cap',hv,h2⟩:=h.rows.view
 cases hv
 obtain ⟨g,cs,rfl,hb,ht,_⟩:=h2 (by omega)
 have hz:k<((fs.map (·.name)).zip vs).length:=by simp only [List.length_zip,List.length_map];omega
 have key:∀ c,c<2->w.cell? ⟨g,k*2+c,none⟩=(fnC (fs[k].name,vs[k]))[c]?:=fun c hc=>by
  rw [take_cell hb ht (k*2+c) (by omega)]
  have:=flat_get fnC 2 (fun _=>rfl) ((fs.map (·.name)).zip vs) k c hz hc
  rw [this,List.getElem_zip,List.getElem_map]
 exact ⟨g,rfl,key 0 (by omega),key 1 (by omega)⟩
set_option maxRecDepth 100000 in
set_option maxHeartbeats 2000000 in
theorem encL_any (kind:Nat) (hk:kind<=255) (w:World) (tv:Value) (bs:List Nat) (vM vF:Value) (ms:List PMap) (fs:List PFn) (vs:List Value) (hP:PPrL w tv bs vM vF ms fs vs) (hE:EOk ms fs) :
  Calls Tryz.prog 45 #[.int .u8 kind,.agg #[vM,vF]] w fun e w'=>∃ v,e=.returned v/\EI w v (encU kind ms fs) w':=by
 obtain ⟨iU,hiU,hzU,hsU,hbU⟩:=info_u8_parts;obtain ⟨oM,cM,hvM,_⟩:=hP.maps.view;obtain ⟨oF,cF,hvF,_⟩:=hP.rows.view;subst hvM hvF
 have hml:=hE.m
 have hfl:=hE.f
 have HP:=hid hP;have HE:=hid hE;clear hP hE
 have kc:=Lib.run_convert_bytes_const (P:=Tryz.prog) (w.alloc (.cells #[.slice oM ms.length cM,.slice oF fs.length cF] 37)) 43 5 #[.int .u8 83,.int .u8 80,.int .u8 79,.int .u8 76] 4 4 Tryz.underlying43 Tryz.underlying5
 rw [show (w.alloc (.cells #[.slice oM ms.length cM,.slice oF fs.length cF] 37)).heap.size=w.heap.size+1 by simp] at kc
 go_enter Tryz.func45,Tryz.ntmps45
 have HOL:Hid (∀ (o2:Obj) (j:Nat) (u:Value),([.int .u8 83,.int .u8 80,.int .u8 79,.int .u8 76]:List Value)[j]?=some u->(((w.alloc (.cells #[.slice oM ms.length cM,.slice oF fs.length cF] 37)).alloc (.cells #[.int .u8 83,.int .u8 80,.int .u8 79,.int .u8 76] 5 (4,5))).alloc o2).cell? ((⟨w.heap.size+1,0,none⟩:Addr).add j)=some u):=by
  intro o2 j u hu
  have hadd:(⟨w.heap.size+1,0,none⟩:Addr).add j=⟨w.heap.size+1,j,none⟩:=by unfold Addr.add;split<;>simp_all
  rw [hadd,lit_cell]
  simpa using hu
 go_wp2_with (at_builtin;refine wpList_append_grow _ rfl (.tmp 15) (.tmp 21) 43 rfl 5 iU (.int .u8 0) 1 1 Tryz.underlying43 hiU hzU hsU hbU rfl (by decide) ⟨w.heap.size+1,0,none⟩ 4 4 [.int .u8 83,.int .u8 80,.int .u8 79,.int .u8 76] rfl rfl (HOL.out _) ⟨w.heap.size+1+1,0,none⟩ 2 2 ([(kind:Int),(ms.length:Int)].map (Value.int .u8)) rfl rfl (news_cells _ _ _ _ (by simp)) (by decide) (by decide) (by decide) ?_;intro v2 w2 s2 m2 l2;have B2:Hid (Blk w2 w.heap.size #[.slice oM ms.length cM,.slice oF fs.length cF] 37):=Blk.mods (((Blk.new w _ _).alloc _).alloc _) m2 id;have q0:w2.cell? ⟨w.heap.size,0,none⟩=some (.slice oM ms.length cM):=B2.out.cell 0)
 obtain ⟨wB,hwB⟩:∃ wB,wB=w.alloc (.cells #[.slice oM ms.length cM,.slice oF fs.length cF] 37):=⟨_,rfl⟩
 have HMB:Hid (Mods Nil' w wB):=by rw [hwB];exact (Mods.refl _ _).alloc _
 have HBB:Hid (Blk wB w.heap.size #[.slice oM ms.length cM,.slice oF fs.length cF] 37):=by rw [hwB];exact Blk.new _ _ _
 have HPB:Hid (PPrL wB tv bs (.slice oM ms.length cM) (.slice oF fs.length cF) ms fs vs):=HP.out.quiet HMB.out
 have HI0:Hid (EI wB v2 ([83,80,79,76]++b8 [(kind:Int),(ms.length:Int)]) w2):=by
  rw [<- hwB] at m2 l2
  have M0:Mods Nil' wB ((wB.alloc (.cells #[.int .u8 83,.int .u8 80,.int .u8 79,.int .u8 76] 5 (4,5))).alloc (.cells #[.int .u8 kind,.int .u8 ms.length] 5)):=((Mods.refl _ _).alloc _).alloc _
  refine ⟨?_,M0.trans m2,fun k hk=>Nat.le_trans M0.size (l2 k hk)⟩
  exact Out.app (l:=[83,80,79,76]) (fun x hx=>by simp at hx;rcases hx with rfl | rfl<;>omega) rfl s2
 clear s2 m2 l2 kc HOL hwB HP
 have HO0:Hid (∀ x:Value,x=v2->True):=fun _ _=>trivial
 go_loopg [5,26] ms.length (fun g ov iv wx=>∃ (k:Nat) (l:List UInt8),iv=.int .i64 k/\EI wB ov l wx/\l++(ms.drop k).flatMap pmapU=[83,80,79,76]++b8 [(kind:Int),(ms.length:Int)]++ms.flatMap pmapU/\l.length<=6+k*260/\k<=ms.length/\g=ms.length - k)
 case atStart=>exact ⟨0,_,rfl,HI0.out,rfl,by simp [b8],Nat.zero_le _,rfl⟩
 case round =>
  obtain ⟨k,l,rfl,hI,HR0,hll,hkm,rfl⟩:=hrel;have HR:=hid HR0;have HI:=hid hI;clear HR0 q0
  have hPr:=HPB.out.quiet hI.md
  by_cases hkl:k<ms.length
  ·obtain ⟨gM,rfl,c0,c1,c2,c3⟩:=hPr.atM k hkl
   have hok:=HE.out.mn ms[k] (List.getElem_mem hkl)
   have HD:Hid (l++pmapU ms[k]++(ms.drop (k+1)).flatMap pmapU=[83,80,79,76]++b8 [(kind:Int),(ms.length:Int)]++ms.flatMap pmapU):=by
    rw [Hid,<- HR.out,List.drop_eq_getElem_cons hkl,List.flatMap_cons,List.append_assoc]
   clear hPr hI HR;generalize ms[k]=m at *;obtain ⟨nm,ky,vl,en⟩:=m;simp only at *;obtain ⟨o1,o2,o3,o4⟩:=hok;go_upto_region 5 with fail
   have hIW:EI wB u5 l (wr.alloc (.cells #[.string (T nm),.int .u8 ky,.int .u8 vl,.int .u8 en] 47)):=HI.out.quiet ((Mods.refl _ _).alloc _)
   have hbx:=Blk.new wr #[.string (T nm),.int .u8 ky,.int .u8 vl,.int .u8 en] 47
   have hsz:wr.heap.size<(wr.alloc (.cells #[.string (T nm),.int .u8 ky,.int .u8 vl,.int .u8 en] 47)).heap.size:=hbx.lt
   generalize wr.alloc (.cells #[.string (T nm),.int .u8 ky,.int .u8 vl,.int .u8 en] 47)=W at *;generalize wr.heap.size=B at *;have HIW:=hid hIW
   have HNB:Hid (u5.ownBlock≠some B):=hIW.out.notBlk hbx (by decide)
   have HLT:Hid (∀ k,u5.ownBlock=some k->k<W.heap.size):=fun k hk=>hIW.out.lt k hk
   have HBX:=hid hbx
   have hts:(T nm).size<=255:=by rw [T_size];exact o1
   have HLL:=hid hll;clear hIW hbx c0 c1 c2 c3 hsz hll HI
   refine wp_region_invL [.inl u5,.inl (.pointer (some ⟨B,0,none⟩)),.inl (.string (T nm)),.inr (capA wB 11 (l++namedU (T nm))),.inl (.pointer (some ⟨B,1,none⟩)),.inl (.int .u8 ky),.inl (.pointer (some ⟨B,2,none⟩)),.inl (.int .u8 vl),.inl (.pointer (some ⟨B,3,none⟩)),.inl (.int .u8 en),
     .inr (capB W 11 3 #[.int .u8 ky,.int .u8 vl,.int .u8 en]),.inr (capE wB (l++namedU (T nm)++b8 [(ky:Int),(vl:Int),(en:Int)])),.inr (capE wB (l++namedU (T nm)++b8 [(ky:Int),(vl:Int),(en:Int)]))]
    (CapC wB W B #[.string (T nm),.int .u8 ky,.int .u8 vl,.int .u8 en] 47 3 11 u5 l) (CapN wB B #[.string (T nm),.int .u8 ky,.int .u8 vl,.int .u8 en] 47 3 11 u5) (by kernel_rfl) (by kernel_rfl) (by kernel_rfl)
    ⟨HIW.out.md.drew,HBX.out.drew,Nat.le_refl _,fun _ _=>HIW.out.quiet ((Mods.refl _ _).drew)⟩ ?_ (CapN.keep HIW.out.own HNB.out (by decide)) (.inl (by kernel_rfl)) ?_
   ·intro j s hs i L v w1 w2 hn hj n hr
    refine stableT_of (show StableT _ _ _ 0 _ from ?_) j s hs i L v w1 w2 hn (by rw [Nat.zero_add];exact hj) n hr
    exact ⟨capA_st (by decide),capB_st HLT.out,capE_st ⟨_,rfl,by decide,.inl rfl⟩,capE_st ⟨_,rfl,by decide,.inr (by decide)⟩,trivial⟩
   refine invT_det rfl (fun L w' hN hC _ K hK=>?_) ?_
   ·go_big_op
    exact hK _ _ _ rfl (.quiet (Mods.refl _ _) (by decide) (by decide)) rfl
   simp only [Act.put,List.setIfInBounds_toArray,List.set_cons_succ,List.set_cons_zero]
   refine invT_det rfl (fun L w' hN hC _ K hK=>?_) ?_
   ·go_big_op
    exact hK _ _ _ rfl (.quiet (Mods.refl _ _) (by decide) (by decide)) rfl
   simp only [Act.put,List.setIfInBounds_toArray,List.set_cons_succ,List.set_cons_zero]
   refine invT_det rfl (fun L w' hN hC _ K hK=>?_) ?_
   ·have e1:w'.cell? ⟨B,0,none⟩=some (.string (T nm)):=hC.bx.cell 0
    go_big_op
    exact hK _ _ _ rfl (.quiet (Mods.refl _ _) (by decide) (by decide)) rfl
   simp only [Act.put,List.setIfInBounds_toArray,List.set_cons_succ,List.set_cons_zero]
   refine invT_any rfl (fun L w' hN hC _ K hK=>?_) (fun x3=>?_)
   ·have h11:L 11=false:=hN.2 11 _ rfl (by decide)
    have hei:=hC.ei hN.1 h11
    go_big_op
    refine (aName_any w' u5 l hei.out (by have:=HLL.out;omega) (T nm) hts).mono ?_
    rintro e w2' ⟨v3,rfl,s3,m3,l3⟩
    exact hK _ _ _ rfl ⟨fun h=>absurd rfl h,fun _=>m3,fun h=>absurd h (by decide)⟩ (fun _=>hei.step s3 m3 l3)
   simp only [Act.put,List.setIfInBounds_toArray,List.set_cons_succ,List.set_cons_zero]
   refine invT_det rfl (fun L w' hN hC _ K hK=>?_) ?_
   ·go_big_op
    exact hK _ _ _ rfl (.quiet (Mods.refl _ _) (by decide) (by decide)) rfl
   simp only [Act.put,List.setIfInBounds_toArray,List.set_cons_succ,List.set_cons_zero]
   refine invT_det rfl (fun L w' hN hC _ K hK=>?_) ?_
   ·have e1:w'.cell? ⟨B,1,none⟩=some (.int .u8 ky):=hC.bx.cell 1
    go_big_op
    exact hK _ _ _ rfl (.quiet (Mods.refl _ _) (by decide) (by decide)) rfl
   simp only [Act.put,List.setIfInBounds_toArray,List.set_cons_succ,List.set_cons_zero]
   refine invT_det rfl (fun L w' hN hC _ K hK=>?_) ?_
   ·go_big_op
    exact hK _ _ _ rfl (.quiet (Mods.refl _ _) (by decide) (by decide)) rfl
   simp only [Act.put,List.setIfInBounds_toArray,List.set_cons_succ,List.set_cons_zero]
   refine invT_det rfl (fun L w' hN hC _ K hK=>?_) ?_
   ·have e1:w'.cell? ⟨B,2,none⟩=some (.int .u8 vl):=hC.bx.cell 2
    go_big_op
    exact hK _ _ _ rfl (.quiet (Mods.refl _ _) (by decide) (by decide)) rfl
   simp only [Act.put,List.setIfInBounds_toArray,List.set_cons_succ,List.set_cons_zero]
   refine invT_det rfl (fun L w' hN hC _ K hK=>?_) ?_
   ·go_big_op
    exact hK _ _ _ rfl (.quiet (Mods.refl _ _) (by decide) (by decide)) rfl
   simp only [Act.put,List.setIfInBounds_toArray,List.set_cons_succ,List.set_cons_zero]
   refine invT_det rfl (fun L w' hN hC _ K hK=>?_) ?_
   ·have e1:w'.cell? ⟨B,3,none⟩=some (.int .u8 en):=hC.bx.cell 3
    go_big_op
    exact hK _ _ _ rfl (.quiet (Mods.refl _ _) (by decide) (by decide)) rfl
   simp only [Act.put,List.setIfInBounds_toArray,List.set_cons_succ,List.set_cons_zero]
   refine invT_any rfl (fun L w' hN hC _ K hK=>?_) (fun x10=>?_)
   ·go_big_op
    exact hK _ _ _ rfl (.quiet ((Mods.refl _ _).alloc _) (by decide) (by decide)) (fun _=>⟨_,rfl,hC.sz,Blk.new _ _ _⟩)
   simp only [Act.put,List.setIfInBounds_toArray,List.set_cons_succ,List.set_cons_zero]
   refine invT_any rfl (fun L w' hN hC hk K hK=>?_) (fun x11=>?_)
   ·have f3:capA wB 11 (l++namedU (T nm)) L x3 w':=knownT_mem hk 3 (by decide)
    have f10:capB W 11 3 #[.int .u8 ky,.int .u8 vl,.int .u8 en] L x10 w':=knownT_mem hk 10 (by decide)
    have hei:=f3 hN.1
    obtain ⟨g,rfl,hgW,hg⟩:=f10 hN.1
    refine wp_append_sl _ (.tmp 33) (.tmp 40) 43 rfl 5 iU (.int .u8 0) 1 1 Tryz.underlying43 hiU hzU hsU hbU rfl (by decide) x3 _ _ rfl hei.out ⟨g,0,none⟩ 3 3 ([(ky:Int),(vl:Int),(en:Int)].map (Value.int .u8)) rfl rfl ?_ (u8_one _) ?_ ?_ ?_
    ·intro j u hu
     have hadd:(⟨g,0,none⟩:Addr).add j=⟨g,j,none⟩:=by unfold Addr.add;split<;>simp_all
     rw [hadd,hg.cell j]
     simpa using hu
    ·have:=HLL.out
     rw [List.length_append,namedU_len]
     unfold maxLen;omega
    ·have:=HLL.out
     rw [List.length_append,namedU_len]
     omega
    ·intro v4 w4 s4 m4 l4
     have hE4:EI wB v4 (l++namedU (T nm)++b8 [(ky:Int),(vl:Int),(en:Int)]) w4:=hei.step (Out.app (fun x hx=>by simp at hx;rcases hx with rfl | rfl | rfl<;>omega) rfl s4) m4 l4
     exact hK _ _ _ rfl ⟨fun _ h=>absurd rfl h,fun h=>absurd h (by decide),fun _=>⟨hE4.md,hC.bx.mods m4 (hei.out.notBlk hC.bx (by decide)),m4.size⟩⟩ hE4
   simp only [Act.put,List.setIfInBounds_toArray,List.set_cons_succ,List.set_cons_zero]
   refine invT_any rfl (fun L w' hN hC hk K hK=>?_) (fun x12=>?_)
   ·have f11:capE wB (l++namedU (T nm)++b8 [(ky:Int),(vl:Int),(en:Int)]) L x11 w':=knownT_mem hk 11 (by decide)
    go_big_op
    exact hK _ _ _ rfl (.quiet (Mods.refl _ _) (by decide) (by decide)) f11
   simp only [Act.put,List.setIfInBounds_toArray,List.set_cons_succ,List.set_cons_zero]
   refine invT_nil (fun L w' hL hC hA=>?_)
   have hE5:EI wB x12 (l++namedU (T nm)++b8 [(ky:Int),(vl:Int),(en:Int)]) w':=allT_mem hA 12
   have HE5:=hid hE5;clear hE5 hA hC hL
   try simp only [Exit.then]
   go_wp2_with fail
   go_roundg (ms.length - (k+1))
   case measure=>omega
   case rel =>
    have hlz:=HLL.out
    refine ⟨k+1,l++pmapU ⟨nm,ky,vl,en⟩,by go_num,?_,HD.out,?_,by omega,rfl⟩
    ·rw [pmapU,<- List.append_assoc];exact HE5.out
    ·rw [List.length_append,pmapU,List.length_append,namedU_len,b8_len];simp only [List.length_cons,List.length_nil];omega
  ·obtain rfl:k=ms.length:=by omega
   have HM1:Hid (l=[83,80,79,76]++b8 [(kind:Int),(ms.length:Int)]++ms.flatMap pmapU):=by
    have:=HR.out
    rw [List.drop_length] at this;rw [Hid]
    simpa using this
   have q1:wr.cell? ⟨w.heap.size,1,none⟩=some (.slice oF fs.length cF):=(HBB.out.mods hI.md id).cell 1
   have HLL:Hid (l.length<=70000):=by rw [Hid];omega
   clear hPr hI HR hll
   go_wp2_with (at_builtin;refine wpList_append_sl _ rfl (.tmp 43) (.tmp 48) 43 rfl 5 iU (.int .u8 0) 1 1 Tryz.underlying43 hiU hzU hsU hbU rfl (by decide) u5 l.length (u8c l) rfl (HI.out.out.quiet ((Mods.refl _ _).alloc _)) ⟨wr.heap.size,0,none⟩ 1 1 ([(fs.length:Int)].map (Value.int .u8)) rfl rfl (news_cells _ _ _ _ rfl) (u8_one _) (by have:=HLL.out;unfold maxLen;omega) (by have:=HLL.out;omega) ?_;intro v7 w7 s7 m7 l7;have H7:Hid (EI wB v7 (l++b8 [(fs.length:Int)]) w7):=(HI.out.quiet ((Mods.refl _ _).alloc _)).step (Out.app (fun x hx=>by simp at hx;subst hx;omega) rfl s7) m7 l7;have q2:w7.cell? ⟨w.heap.size,1,none⟩=some (.slice oF fs.length cF):=(HBB.out.mods H7.out.md id).cell 1)
   clear s7 m7 l7 HI
   go_loopg [5,53] fs.length (fun g ov iv wx=>∃ (k:Nat) (l':List UInt8),iv=.int .i64 k/\EI wB ov l' wx/\l'++(fs.drop k).flatMap pheadU=l++b8 [(fs.length:Int)]++fs.flatMap pheadU/\l'.length<=70001+k*260/\k<=fs.length/\g=fs.length - k)
   case atStart=>exact ⟨0,_,rfl,H7.out,rfl,by have:=HLL.out;rw [List.length_append,b8_len];simp only [List.length_cons,List.length_nil];omega,Nat.zero_le _,rfl⟩
   case round =>
    clear q1 q2;obtain ⟨k,l',rfl,hI,HR0,hll,hkm,rfl⟩:=hrel;have HR:=hid HR0;clear HR0
    have hPr:=HPB.out.quiet hI.md
    have HLL2:=hid hll;clear hll
    by_cases hkl:k<fs.length
    ·have hkv:k<vs.length:=by rw [hPr.len];exact hkl
     obtain ⟨gF,rfl,c0,c1⟩:=hPr.atF k hkl hkv
     have hok:=HE.out.fn fs[k] (List.getElem_mem hkl)
     have hcd:=hPr.code k hkl hkv
     have HD:Hid (l'++pheadU fs[k]++(fs.drop (k+1)).flatMap pheadU=l++b8 [(fs.length:Int)]++fs.flatMap pheadU):=by
      rw [Hid,<- HR.out,List.drop_eq_getElem_cons hkl,List.flatMap_cons,List.append_assoc]
     have HOP:Hid (∀ w',Mods Nil' wB w'->OpsIn 0 w' tv bs tableS/\CodeL w' vs[k] bs fs[k].code):=fun w' m=>⟨(HPB.out.quiet m).ops,(HPB.out.quiet m).code k hkl hkv⟩
     generalize fs[k]=f at *;generalize vs[k]=vC at *;obtain ⟨nm,code⟩:=f;simp only at *;obtain ⟨o1,o2,o3⟩:=hok;obtain ⟨oC,cC,rfl,_⟩:=hcd.view;clear hPr HR;have HI:=hid hI;clear hI;have HOPc:=hid HOP.out;clear HOP hcd;go_upto_region 11 with fail
     have hIW:EI wB u5 l' (wr.alloc (.cells #[.string (T nm),.slice oC code.length cC] 55)):=HI.out.quiet ((Mods.refl _ _).alloc _)
     have hbx:=Blk.new wr #[.string (T nm),.slice oC code.length cC] 55
     generalize wr.alloc (.cells #[.string (T nm),.slice oC code.length cC] 55)=W at *;generalize wr.heap.size=B at *;have HIW:=hid hIW
     have hnx:¬ (u5.ownBlock=some B):=hIW.out.notBlk hbx (by decide)
     have HBX:=hid hbx
     have hts:(T nm).size<=255:=by rw [T_size];exact o1
     have x0:∀ g:Ext (fun k=>u5.ownBlock=some k) W,g.w.cell? ⟨B,0,none⟩=some (.string (T nm)):=fun g=>(HBX.out.mods g.m hnx).cell 0
     have x1:∀ g:Ext (fun k=>u5.ownBlock=some k) W,g.w.cell? ⟨B,1,none⟩=some (.slice oC code.length cC):=fun g=>(HBX.out.mods g.m hnx).cell 1
     have ne1:=Ext.ne (fun k=>u5.ownBlock=some k) W
     clear hIW hbx c0 c1 HI
     refine wp_region_mix [3,5,6] (fun w'=>∃ e:Ext (fun k=>u5.ownBlock=some k) W,w'=e.w) (by kernel_rfl) (by kernel_rfl) (by kernel_rfl) ⟨⟨_,(Mods.refl _ _).drew⟩,rfl⟩ ?_
     iterate 3 (refine mix_pure rfl rfl rfl ?_;intro K hK;go_big_quiet_op;go_big_quiet_on)
     refine mix_act rfl rfl ?_
     intro K hK
     go_big_op
     refine (aName_any _ u5 l' (HIW.out.quiet ((Mods.refl _ _).drew)).out (by have:=HLL2.out;omega) (T nm) hts).mono ?_
     rintro e w3 ⟨v3,rfl,s3,m3,l3⟩
     have H3:Hid (EI wB v3 (l'++namedU (T nm)) w3):=(HIW.out.quiet ((Mods.refl _ _).drew)).step s3 m3 l3
     have M3:Hid (Mods (fun k=>u5.ownBlock=some k) W w3):=((Mods.refl _ _).drew).trans m3
     have L3:Hid (∀ k,v3.ownBlock=some k->u5.ownBlock=some k\/W.heap.size<=k):=l3
     refine hK _ _ rfl ⟨⟨_,M3.out⟩,rfl⟩ ?_
     clear hK K s3 m3 l3
     iterate 1 (refine mix_pure rfl rfl rfl ?_;intro K hK;go_big_quiet_op;go_big_quiet_on)
     refine mix_act rfl rfl ?_
     intro K hK
     go_big_op
     refine (pslotsL_any w3 tv bs (HOPc.out w3 H3.out.md).1 code o3 (by omega) _ (HOPc.out w3 H3.out.md).2 (T nm)).mono ?_
     rintro e w4 ⟨rfl,m4⟩
     have H4:Hid (EI wB v3 (l'++namedU (T nm)) w4):=H3.out.quiet m4
     have M4:Hid (Mods (fun k=>u5.ownBlock=some k) W w4):=M3.out.trans (m4.mono (fun _ _ e=>e.elim))
     refine hK _ _ rfl ⟨⟨_,M4.out⟩,rfl⟩ ?_
     clear hK K
     refine mix_act rfl rfl ?_
     intro K hK
     go_big_op
     refine (aTwo_any w4 v3 (l'++namedU (T nm)) H4.out.out (by have:=HLL2.out;rw [List.length_append,namedU_len];omega) (slotsP code)).mono ?_
     rintro e w5 ⟨v5,rfl,s5,m5,l5⟩
     have H5:Hid (EI wB v5 (l'++namedU (T nm)++b8 (twoL (slotsP code))) w5):=H4.out.step s5 m5 l5
     have M5:Hid (Mods (fun k=>u5.ownBlock=some k) W w5):=⟨m5.os.trans M4.out.os,m5.tape.trans M4.out.tape,m5.output.trans M4.out.output,Nat.le_trans M4.out.size m5.size,fun k hk hS=>(m5.block k (Nat.lt_of_lt_of_le hk M4.out.size) (fun e=>by
      rcases L3.out k e with h | h
      ·exact hS h
      ·omega)).trans (M4.out.block k hk hS)⟩
     refine hK _ _ rfl ⟨⟨_,M5.out⟩,rfl⟩ ?_
     clear hK K s5 m5 l5
     iterate 1 (refine mix_pure rfl rfl rfl ?_;intro K hK;go_big_quiet_op;go_big_quiet_on)
     refine mix_nil ?_
     try simp only [Exit.then]
     go_wp2_with fail
     go_roundg (fs.length - (k+1))
     case measure=>omega
     case rel =>
      have hlz:=HLL2.out
      refine ⟨k+1,l'++pheadU ⟨nm,code⟩,by go_num,?_,HD.out,?_,by omega,rfl⟩
      ·rw [pheadU,<- List.append_assoc];exact H5.out
      ·rw [List.length_append,pheadU,List.length_append,namedU_len,b8_len];simp only [twoL,List.length_cons,List.length_nil];omega
    ·obtain rfl:k=fs.length:=by omega
     have HM2:Hid (l'=l++b8 [(fs.length:Int)]++fs.flatMap pheadU):=by
      have:=HR.out
      rw [List.drop_length] at this;rw [Hid]
      simpa using this
     have HLL3:Hid (l'.length<=140000):=by have:=HLL2.out;rw [Hid];omega
     have q1:wr.cell? ⟨w.heap.size,1,none⟩=some (.slice oF fs.length cF):=(HBB.out.mods hI.md id).cell 1
     have HI:=hid hI;clear hPr hI HR HLL2;go_wp2_with fail
     go_loopg [5,68] fs.length (fun g ov iv wx=>∃ (k:Nat) (a:List UInt8),iv=.int .i64 k/\EI wB ov a wx/\a++(fs.drop k).flatMap pcodeU=l'++fs.flatMap pcodeU/\a.length<=140000+k*3200/\k<=fs.length/\g=fs.length - k)
     case atStart=>exact ⟨0,_,rfl,HI.out,rfl,by have:=HLL3.out;omega,Nat.zero_le _,rfl⟩
     case round =>
      clear q1 HI;obtain ⟨k,a,rfl,hI,HR0,hll,hkm,rfl⟩:=hrel;have HR:=hid HR0;clear HR0
      have hPr:=HPB.out.quiet hI.md
      have HLL4:=hid hll;clear hll
      by_cases hkl:k<fs.length
      ·have hkv:k<vs.length:=by rw [hPr.len];exact hkl
       obtain ⟨gF,rfl,c0,c1⟩:=hPr.atF k hkl hkv
       have hok:=HE.out.fn fs[k] (List.getElem_mem hkl)
       have hcd:=hPr.code k hkl hkv
       have HD:Hid (a++pcodeU fs[k]++(fs.drop (k+1)).flatMap pcodeU=l'++fs.flatMap pcodeU):=by
        rw [Hid,<- HR.out,List.drop_eq_getElem_cons hkl,List.flatMap_cons,List.append_assoc]
       have HOP:Hid (∀ w',Mods Nil' wB w'->OpsIn 0 w' tv bs tableS/\CodeL w' vs[k] bs fs[k].code):=fun w' m=>⟨(HPB.out.quiet m).ops,(HPB.out.quiet m).code k hkl hkv⟩
       generalize fs[k]=f at *;generalize vs[k]=vC at *;obtain ⟨nm,code⟩:=f;simp only at *;obtain ⟨o1,o2,o3⟩:=hok;obtain ⟨oC,cC,rfl,_⟩:=hcd.view;have HOPc:=hid HOP.out;have HOK:=hid o3
       have HIa:Hid (EI wB u5 a (wr.alloc (.cells #[.string (T nm),.slice oC code.length cC] 55))):=hI.quiet ((Mods.refl _ _).alloc _)
       clear HOP hcd hPr HR hI o3;go_wp2_with fail;generalize wr.alloc (.cells #[.string (T nm),.slice oC code.length cC] 55)=W at *
       go_loopg [5,75] code.length (fun g ov iv wx=>∃ (j:Nat) (a':List UInt8),iv=.int .i64 j/\EI wB ov a' wx/\a'++(code.drop j).flatMap pslotU=a++pcodeU ⟨nm,code⟩/\a'.length<=140000+k*3200+j*16/\j<=code.length/\g=code.length - j)
       case atStart=>exact ⟨0,_,rfl,HIa.out,rfl,by have:=HLL4.out;omega,Nat.zero_le _,rfl⟩
       case round =>
        clear c0 c1 HIa;obtain ⟨j,a',rfl,hI,HR0,hll,hjm,rfl⟩:=hrel;have HR:=hid HR0;clear HR0;have HLL5:=hid hll;clear hll
        by_cases hjl:j<code.length
        ·obtain ⟨g,lab,rfl,hg,y0,y1,y2,y3,y4,y5,y6,y7⟩:=codeL_at (HOPc.out wr hI.md).2 rfl rfl j hjl
         have hx:=HOK.out code[j] (List.getElem_mem hjl)
         have HD2:Hid (a'++pslotU code[j]++(code.drop (j+1)).flatMap pslotU=a++pcodeU ⟨nm,code⟩):=by
          rw [Hid,<- HR.out,List.drop_eq_getElem_cons hjl,List.flatMap_cons,List.append_assoc]
         have HAT:Hid (∀ w',Mods Nil' wB w'->OpAt w' (bs[code[j].k]?.getD 0) code[j].o):=fun w' m=>tab_at (HOPc.out w' m).1 code[j] hx.k
         have hcl:code[j].o.code<=255:=code_le code[j].k hx.k
         have hslc:=hx.slots
         have HPS:Hid (pslotU code[j]=slotU code[j].o.code code[j].d code[j].s code[j].jump code[j].num code[j].high code[j].o.slots):=rfl
         obtain ⟨_,hxd,hxs,hxj,hxn,hxh⟩:=hx;generalize code[j].o=o at *;generalize code[j].jump=jmp at *;generalize code[j].d=xd at *;generalize code[j].s=xs at *;generalize code[j].num=xn at *;generalize code[j].high=xh at *;generalize code[j].name=xm at *;generalize bs[code[j].k]?.getD 0=b at *;generalize pslotU code[j]=su at *;have HI:=hid hI;clear hI HR;go_wp2_with fail
         have HIx:Hid (EI wB u5 a' (wr.alloc (.cells #[.pointer (some ⟨b,0,none⟩),.int .u8 xd,.int .u8 xs,.int .i16 jmp,.int .i32 xn,.int .i32 xh,.string lab,.string (T xm)] 84))):=HI.out.quiet ((Mods.refl _ _).alloc _)
         obtain ⟨p1,pn,pc,f6,c6,k7,c7,k8,c8,f9,c9,hop,_⟩:=(HAT.out _ HIx.out.md).ex
         refine (aSlots_any _ u5 a' HIx.out.out (by have:=HLL5.out;omega) b _ o.code o.slots hop rfl rfl xd xs jmp xn xh _ _ hcl hxd hxs hxj hxn hxh (by omega)).mono ?_
         rintro e w3 ⟨v3,rfl,s3,m3,l3⟩
         have H3:Hid (EI wB v3 (a'++su) w3):=by rw [HPS.out];exact HIx.out.step s3 m3 l3
         clear s3 m3 l3 hop;go_wp2_with fail
         go_roundg (code.length - (j+1))
         case measure=>omega
         case rel =>
          have hlz:=HLL5.out
          have hsu:su.length<=16:=by rw [HPS.out];exact slotU_len _ _ _ _ _ _ _
          exact ⟨j+1,a'++su,by go_num,H3.out,HD2.out,by rw [List.length_append];omega,by omega,rfl⟩
        ·obtain rfl:j=code.length:=by omega
         have HM4:Hid (a'=a++pcodeU ⟨nm,code⟩):=by
          have:=HR.out
          rw [List.drop_length] at this;rw [Hid]
          simpa using this
         have HI:=hid hI;clear hI HR;go_wp2_with fail
         go_roundg (fs.length - (k+1))
         case measure=>omega
         case rel =>
          have:=HLL5.out
          exact ⟨k+1,a',by go_num,HI.out,by rw [HM4.out];exact HD.out,by omega,by omega,rfl⟩
      ·obtain rfl:k=fs.length:=by omega
       have HM3:Hid (a=encU kind ms fs):=by
        have:=HR.out
        rw [List.drop_length] at this;rw [Hid,encU,<- HM1.out,<- HM2.out]
        simpa using this
       have HI:=hid hI;clear hI HR hPr;go_wp2_with fail;go_ret
       refine ⟨u5,rfl,?_⟩
       rw [<- HM3.out]
       exact ⟨HI.out.out,HMB.out.trans HI.out.md,fun k hk=>Nat.le_trans HMB.out.size (HI.out.own k hk)⟩
end Go.Proofs.YtnhcaifopaeohaaGreatDoor
