import Derived.Test.YtoknbkfclhmapaaGreatDoorC35
import Derived.Test.YtoknbkfclhmapaaGreatDoorC23
namespace Go.Proofs.YtoknbkfclhmapaaGreatDoor
open Go.RowKit
theorem OpAt.cells {w:World} {b:Nat} {o:OpS} (h:OpAt w b o):w.cell? ⟨b,2,none⟩=some (.int .i64 o.slots)/\w.cell? ⟨b,3,none⟩=some (.bool o.jumps)/\w.cell? ⟨b,4,none⟩=some (.bool o.ends)/\w.cell? ⟨b,5,none⟩=some (.int .i64 o.refers):=by
 obtain ⟨o1,n1,c1,f6,c6,k7,c7,k8,c8,f9,c9,hb,_⟩:=h.ex
 exact ⟨hb.cell 2,hb.cell 3,hb.cell 4,hb.cell 5⟩
set_option maxHeartbeats 400000 in
theorem target_any (w:World) (b:Nat) (o:OpS) (hA:OpAt w b o) (d s num high jump:Int) (label name:ByteArray) (slot:Nat) (hs:slot<=1000000) (ho:o.slots<=10) (hj:-32768<=jump/\jump<=32767) :
  Calls Tryz.prog 173 #[.agg #[.pointer (some ⟨b,0,none⟩),.int .u8 d,.int .u8 s,.int .i16 jump,.int .i32 num,.int .i32 high,.string label,.string name],.int .i64 slot] w fun e w'=>e=.returned (.int .i64 ((slot:Int)+o.slots+jump))/\Mods Nil' w w':=by
 have hA1:=(hA.mods ((Mods.refl _ _).alloc (.cells #[.pointer (some ⟨b,0,none⟩),.int .u8 d,.int .u8 s,.int .i16 jump,.int .i32 num,.int .i32 high,.string label,.string name] 99))).cells
 obtain ⟨z2,_,_,_⟩:=hA1
 go_enter Tryz.func173,Tryz.ntmps173
 go_wp2_with fail;go_quiet (fail);go_wp2_with fail;go_ret
 exact ⟨rfl,((Mods.refl _ _).alloc _).drewN _⟩
def codeC (bs:List Nat) (l:List PI):List Value:=l.flatMap (fun x=>(x.ins bs).cellsL)
theorem tab_at {w:World} {v:Value} {bs:List Nat} (hO:OpsIn 0 w v bs tableS) (x:PI) (hk:x.k<88):OpAt w (bs[x.k]?.getD 0) x.o:=by
 have hkt:x.k<tableS.length:=by rw [tableS_len];exact hk
 have hkb:x.k<bs.length:=by rw [hO.len];exact hkt
 have h:=hO.at' x.k hkb hkt
 have e1:bs[x.k]?.getD 0=bs[x.k]:=by simp [hkb]
 have e2:x.o=tableS[x.k]:=by simp [PI.o,hkt]
 rw [e1,e2];exact h
theorem code_at {w:World} {bs:List Nat} {l:List PI} {v:Value} {n:Nat} (h:Sl w 99 8 v n (codeC bs l)) (hn:n=l.length) {o:Option Addr} {c:Nat} (hv:v=.slice o n c) (k:Nat) (hk:k<l.length) :
  ∃ g,o=some ⟨g,0,none⟩/\g<w.heap.size/\w.cell? ⟨g,k*8,none⟩=some (.pointer (some ⟨bs[l[k].k]?.getD 0,0,none⟩))/\w.cell? ⟨g,k*8+1,none⟩=some (.int .u8 l[k].d)/\w.cell? ⟨g,k*8+2,none⟩=some (.int .u8 l[k].s) /\
   w.cell? ⟨g,k*8+3,none⟩=some (.int .i16 l[k].jump)/\w.cell? ⟨g,k*8+4,none⟩=some (.int .i32 l[k].num)/\w.cell? ⟨g,k*8+5,none⟩=some (.int .i32 l[k].high)/\w.cell? ⟨g,k*8+6,none⟩=some (.string ByteArray.empty)/\w.cell? ⟨g,k*8+7,none⟩=some (.string (T l[k].name)):=by
 obtain ⟨o',c',hv',h2⟩:=h.view;rw [hv] at hv'
 cases hv'
 obtain ⟨g,cs,rfl,hb,ht,_⟩:=h2 (by omega)
 refine ⟨g,rfl,hb.lt,?_,?_,?_,?_,?_,?_,?_,?_⟩
 all_goals rw [take_cell hb ht _ (by omega)]
 ·exact (flat_get (fun x:PI=>(x.ins bs).cellsL) 8 (fun _=>rfl) l k 0 hk (by omega)).trans rfl
 ·exact (flat_get (fun x:PI=>(x.ins bs).cellsL) 8 (fun _=>rfl) l k 1 hk (by omega)).trans rfl
 ·exact (flat_get (fun x:PI=>(x.ins bs).cellsL) 8 (fun _=>rfl) l k 2 hk (by omega)).trans rfl
 ·exact (flat_get (fun x:PI=>(x.ins bs).cellsL) 8 (fun _=>rfl) l k 3 hk (by omega)).trans rfl
 ·exact (flat_get (fun x:PI=>(x.ins bs).cellsL) 8 (fun _=>rfl) l k 4 hk (by omega)).trans rfl
 ·exact (flat_get (fun x:PI=>(x.ins bs).cellsL) 8 (fun _=>rfl) l k 5 hk (by omega)).trans rfl
 ·exact (flat_get (fun x:PI=>(x.ins bs).cellsL) 8 (fun _=>rfl) l k 6 hk (by omega)).trans rfl
 ·exact (flat_get (fun x:PI=>(x.ins bs).cellsL) 8 (fun _=>rfl) l k 7 hk (by omega)).trans rfl
structure PIok (x:PI):Prop where
 k:x.k<88
 d:x.d<=15
 s:x.s<=15
 j:-32768<=x.jump/\x.jump<=32767
 n:-2147483648<=x.num/\x.num<=2147483647
 h:-2147483648<=x.high/\x.high<=2147483647
theorem PIok.slots {x:PI} (h:PIok x):x.o.slots=1\/x.o.slots=2:=by
 have hkt:x.k<tableS.length:=by rw [tableS_len];exact h.k
 have e2:x.o=tableS[x.k]:=by simp [PI.o,hkt]
 rw [e2]
 exact table_slots _ (List.getElem_mem hkt)
def sumS (l:List PI) (k:Nat):Nat:=((l.take k).map (·.o.slots)).sum
theorem sumS_step (l:List PI) (k:Nat) (h:k<l.length):sumS l (k+1)=sumS l k+l[k].o.slots:=by
 unfold sumS;rw [List.take_succ_eq_append_getElem h,List.map_append,List.sum_append]
 simp
theorem sumS_le (l:List PI) (hl:∀ x∈l,PIok x):∀ k,sumS l k<=2*l.length:=by
 have h:∀ l:List PI,(∀ x∈l,PIok x)->(l.map (·.o.slots)).sum<=2*l.length:=by
  intro l
  induction l with
  | nil=>intro _;simp
  | cons x l ih =>
   intro hl
   have h1:=(hl x (by simp)).slots
   have h2:=ih (fun y hy=>hl y (List.mem_cons_of_mem _ hy))
   simp only [List.map_cons,List.sum_cons,List.length_cons]
   omega
 intro k
 have h1:=h (l.take k) (fun x hx=>hl x (List.mem_of_mem_take hx))
 have h2:(l.take k).length<=l.length:=by simp;omega
 unfold sumS
 omega
def boolL (l:List Bool):List Value:=l.map Value.bool
set_option maxRecDepth 100000 in
set_option maxHeartbeats 1000000 in
theorem lead_any (w:World) (tv:Value) (bs:List Nat) (hO:OpsIn 0 w tv bs tableS) (code:List PI) (hok:∀ x∈code,PIok x) (hl:code.length<=10000) (vC:Value) (hC:Sl w 99 8 vC code.length (codeC bs code)) (st:List Bool) (hst:st.length<=10000) (vS:Value) (hS:Sl w 4 1 vS st.length (boolL st)) :
  Calls Tryz.prog 261 #[vC,vS] w fun e w'=>e=.returned (.bool (leadP st 0 code))/\Mods Nil' w w':=by
 obtain ⟨oC,cC,rfl,_⟩:=hC.view;obtain ⟨oS,cS,rfl,_⟩:=hS.view;have HO:=hid hO;have HC:=hid hC;have HS:=hid hS;have HOk:=hid hok
 have HSum:Hid (∀ k,sumS code k<=20000):=fun k=>by have:=sumS_le code HOk.out k;omega
 clear hO hC hS hok
 go_enter Tryz.func261,Tryz.ntmps261
 go_wp2_with fail
 go_loopw [5,11] (fun sv i wl=>∃ k:Nat,k<=code.length/\i=.int .i64 k/\sv=.int .i64 (sumS code k)/\leadP st (sumS code k) (code.drop k)=leadP st 0 code/\Mods Nil' w wl) (fun _ i _=>code.length - (intOf i).toNat)
 case atStart=>exact ⟨0,Nat.zero_le _,rfl,rfl,rfl,Mods.refl _ _⟩
 case round =>
  obtain ⟨k,hk,rfl,rfl,hn,hM⟩:=hrel
  have HN:Hid _:=hn
  have HM:=hid hM;clear hn hM
  by_cases hlt:k<code.length
  ·have HD:Hid (leadP st (sumS code k) (code.drop k)=((if code[k].o.jumps then decide (0<=code[k].target (sumS code k))&&(st[(code[k].target (sumS code k)).toNat]?.getD false) else true)&&leadP st (sumS code k+code[k].o.slots) (code.drop (k+1)))):=by
    rw [Hid,List.drop_eq_getElem_cons hlt];rfl
   have HSt:Hid (sumS code (k+1)=sumS code k+code[k].o.slots):=sumS_step code k hlt
   obtain ⟨g,rfl,hg,q0,q1,q2,q3,q4,q5,q6,q7⟩:=code_at (HC.out.mods HM.out (fun _ _=>id)) rfl rfl k hlt
   have hx:=HOk.out code[k] (List.getElem_mem hlt)
   have hA:=tab_at (HO.out.mods HM.out) code[k] hx.k
   have hsum:=HSum.out k
   have hsl:=hx.slots
   have hj:=hx.j
   have ht:code[k].target (sumS code k)=(sumS code k:Int)+code[k].o.slots+code[k].jump:=rfl
   rw [ht] at HD;clear hx ht;generalize code[k].o=o at *;generalize code[k].jump=jmp at *;generalize code[k].d=xd at *;generalize code[k].s=xs at *;generalize code[k].num=xn at *;generalize code[k].high=xh at *;generalize code[k].name=xm at *;generalize bs[code[k].k]?.getD 0=b at *
   have hA1:=hA.mods ((Mods.refl _ _).alloc (.cells #[.pointer (some ⟨b,0,none⟩),.int .u8 xd,.int .u8 xs,.int .i16 jmp,.int .i32 xn,.int .i32 xh,.string ByteArray.empty,.string (T xm)] 99))
   obtain ⟨y2,y3,_,_⟩:=hA1.cells;have HA1:=hid hA1
   have HM1:Hid (Mods Nil' w (wr.alloc (.cells #[.pointer (some ⟨b,0,none⟩),.int .u8 xd,.int .u8 xs,.int .i16 jmp,.int .i32 xn,.int .i32 xh,.string ByteArray.empty,.string (T xm)] 99))):=HM.out.alloc _
   clear hA hA1;generalize sumS code k=sk at *
   have HTg:Hid (Calls Tryz.prog 173 #[.agg #[.pointer (some ⟨b,0,none⟩),.int .u8 xd,.int .u8 xs,.int .i16 jmp,.int .i32 xn,.int .i32 xh,.string ByteArray.empty,.string (T xm)],.int .i64 sk] (wr.alloc (.cells #[.pointer (some ⟨b,0,none⟩),.int .u8 xd,.int .u8 xs,.int .i16 jmp,.int .i32 xn,.int .i32 xh,.string ByteArray.empty,.string (T xm)] 99)) fun e w'=>e=.returned (.int .i64 ((sk:Int)+o.slots+jmp))/\Mods Nil' (wr.alloc (.cells #[.pointer (some ⟨b,0,none⟩),.int .u8 xd,.int .u8 xs,.int .i16 jmp,.int .i32 xn,.int .i32 xh,.string ByteArray.empty,.string (T xm)] 99)) w'):=target_any _ b o HA1.out xd xs xn xh jmp _ _ sk (by omega) (by omega) hj
   have hBk:Blk (wr.alloc (.cells #[.pointer (some ⟨b,0,none⟩),.int .u8 xd,.int .u8 xs,.int .i16 jmp,.int .i32 xn,.int .i32 xh,.string ByteArray.empty,.string (T xm)] 99)) wr.heap.size #[.pointer (some ⟨b,0,none⟩),.int .u8 xd,.int .u8 xs,.int .i16 jmp,.int .i32 xn,.int .i32 xh,.string ByteArray.empty,.string (T xm)] 99:=Blk.new _ _ _
   have HBk:=hid hBk;clear hBk
   generalize hjs:o.jumps=oj at *
   cases oj with
   | false =>
    have HNx:Hid (leadP st (sk+o.slots) (code.drop (k+1))=leadP st 0 code):=by
     have:=HD.out
     rw [HN.out] at this;rw [Hid]
     simpa using this.symm
    generalize o.slots=os at *;go_wp2_with fail
    go_roundw
    case rel=>exact ⟨k+1,by omega,by go_num,by rw [HSt.out];go_num,by rw [HSt.out];exact HNx.out,HM1.out⟩
    case measure=>simp [intOf];omega
   | true =>
    have HD2:Hid (leadP st 0 code=((decide (0<=(sk:Int)+o.slots+jmp)&&(st[((sk:Int)+o.slots+jmp).toNat]?.getD false))&&leadP st (sk+o.slots) (code.drop (k+1)))):=by
     have:=HD.out
     rw [HN.out] at this;rw [Hid]
     simpa using this
    clear HD;go_wp2_with fail;refine HTg.out.mono ?_;rintro e w3 ⟨rfl,m3⟩
    have HM3:Hid (Mods Nil' w w3):=HM1.out.trans m3
    have hB3:=HBk.out.mods m3 id
    have hA3:=HA1.out.mods m3
    obtain ⟨v2,_,_,_⟩:=hA3.cells
    have v0:w3.cell? ⟨wr.heap.size,0,none⟩=some (.pointer (some ⟨b,0,none⟩)):=hB3.cell 0
    clear hB3 hA3 m3 HTg HA1;generalize o.slots=os at *
    by_cases hneg:(sk:Int)+os+jmp<0
    ·have HF:Hid (leadP st 0 code=false):=by
      rw [Hid,HD2.out,decide_eq_false (by omega),Bool.false_and,Bool.false_and]
     generalize (sk:Int)+os+jmp=tt at *
     go_wp2_with fail;go_ret
     exact ⟨by rw [HF.out];rfl,HM3.out⟩
    ·obtain ⟨t,ht⟩:∃ t:Nat,(sk:Int)+os+jmp=t:=⟨((sk:Int)+os+jmp).toNat,by omega⟩
     rw [ht] at HD2 hneg ⊢
     simp only [show decide ((0:Int)<=(t:Int))=true by simp,Bool.true_and,Int.toNat_natCast] at HD2
     by_cases hlt2:t<st.length
     ·obtain ⟨gS,rfl,csS⟩:=(HS.out.mods HM3.out (fun _ _=>id)).at rfl t hlt2
      have cS':=csS t hlt2
      have e1:(boolL st)[t]?=some (.bool st[t]):=by simp [boolL,hlt2]
      rw [e1] at cS'
      have e2:st[t]?.getD false=st[t]:=by simp [hlt2]
      rw [e2] at HD2;clear csS e1 e2;generalize st[t]=sb at *
      cases sb with
      | false =>
       have HF:Hid (leadP st 0 code=false):=by rw [Hid,HD2.out,Bool.false_and]
       go_wp2_with fail;go_ret
       exact ⟨by rw [HF.out];rfl,HM3.out⟩
      | true =>
       have HNx:Hid (leadP st (sk+os) (code.drop (k+1))=leadP st 0 code):=by
        rw [Hid,HD2.out,Bool.true_and]
       go_wp2_with fail
       go_roundw
       case rel=>exact ⟨k+1,by omega,by go_num,by rw [HSt.out];go_num,by rw [HSt.out];exact HNx.out,HM3.out⟩
       case measure=>simp [intOf];omega
     ·have HF:Hid (leadP st 0 code=false):=by
       rw [Hid,HD2.out,List.getElem?_eq_none (by omega)];rfl
      have hge:¬ ((t:Int)<(st.length:Int)):=by omega
      go_wp2_with fail;go_ret
      exact ⟨by rw [HF.out];rfl,HM3.out⟩
  ·obtain rfl:k=code.length:=by omega
   have HF:Hid (leadP st 0 code=true):=by
    rw [Hid,<- HN.out,List.drop_length];rfl
   go_wp2_with fail;go_ret
   exact ⟨by rw [HF.out];rfl,HM.out⟩
theorem info_instr:(Tryz.prog.info? 99).map (fun i=>(i.zero,i.size,i.bytes))=some (some (.agg Z8),8,56):=by kernel_rfl
theorem instr_one (x:PIns) (hop:x.op.oneCell'=true):∀ u∈x.cellsL,u.oneCell'=true:=by
 intro u hu
 simp only [PIns.cellsL,List.mem_cons,List.not_mem_nil,or_false] at hu
 rcases hu with rfl | rfl | rfl | rfl | rfl | rfl | rfl | rfl
 ·exact hop
 all_goals rfl
structure KInv (w0:World) (b:Nat) (q:PR) (tv:Value) (bs:List Nat) (v:Value) (acc:List PI) (gS n:Nat) (st:List Bool) (w:World):Prop where
 rd:PRd w b q
 sl:Sl w 99 8 v acc.length (codeC bs acc)
 sb:Blk w gS (boolA st) 4
 ln:st.length=n
 own:∀ k,v.ownBlock=some k->w0.heap.size<=k/\k≠gS
 gS:w0.heap.size<=gS
 md:Mods Nil' w0 w
theorem KInv.quiet {w0 w w':World} {b:Nat} {q:PR} {tv:Value} {bs:List Nat} {v:Value} {acc:List PI} {gS n:Nat} {st:List Bool} (h:KInv w0 b q tv bs v acc gS n st w) (m:Mods Nil' w w'):KInv w0 b q tv bs v acc gS n st w' :=
 ⟨Blk.mods h.rd m id,h.sl.mods m (fun _ _=>id),h.sb.mods m id,h.ln,h.own,h.gS,h.md.trans m⟩
theorem KInv.app {w0 w w':World} {b:Nat} {q:PR} {tv:Value} {bs:List Nat} {v v':Value} {acc:List PI} {gS n:Nat} {st:List Bool} {x:PI} (h:KInv w0 b q tv bs v acc gS n st w) (hb:b<w0.heap.size) (s:Sl w' 99 8 v' (acc.length+1) (codeC bs acc++(x.ins bs).cellsL)) (m:Mods (fun k=>v.ownBlock=some k) w w') (l:∀ k,v'.ownBlock=some k->v.ownBlock=some k\/w.heap.size<=k) :
  KInv w0 b q tv bs v' (acc++[x]) gS n st w':=by
 refine ⟨Blk.mods h.rd m (fun e=>by have:=(h.own b e).1;omega),by simpa [codeC] using s,h.sb.mods m (fun e=>(h.own gS e).2 rfl),h.ln,fun k hk=>?_,h.gS,h.md.step m (fun i hi e=>by have:=(h.own i e).1;omega)⟩
 rcases l k hk with e | e
 ·exact h.own k e
 ·have h1:=h.md.size
  have h2:=h.sb.lt
  exact ⟨by omega,by omega⟩
theorem KInv.mark {w0 w:World} {b:Nat} {q:PR} {tv:Value} {bs:List Nat} {v:Value} {acc:List PI} {gS n:Nat} {st:List Bool} (h:KInv w0 b q tv bs v acc gS n st w) (hb:b<w0.heap.size) (i:Nat):KInv w0 b q tv bs v acc gS n (st.set i true) (w.setCell ⟨gS,i,none⟩ (.bool true)) :=
 ⟨Blk.setOther h.rd (by have:=h.gS;simp only;omega) _,h.sl.mods ((Mods.refl (Only gS) w).setb i _) (fun k hk e=>(h.own k hk).2 e),by rw [<- boolA_set];exact h.sb.set i _,by simp [h.ln],h.own,h.gS,h.md.set (.inr h.gS) _⟩
theorem from_view (l:List UInt8) (x:PI) (h:fromP l=some x):∃ k hi,byCodeM (at' l 0)=some k/\x=⟨k,at' l 1 % 16,at' l 1 / 16,sgn16 (at' l 2+256*at' l 3),num32 (l.drop 4),hi,[]⟩/\(-2147483648<=hi/\hi<=2147483647)/\¬ l.length<(tableS[k]?.getD noOp).slots*8:=by
 by_cases h8:l.length<8
 ·rw [fromP_short l h8] at h;cases h
 ·cases hc:byCodeM (at' l 0) with
  | none=>rw [fromP_none l h8 hc] at h;cases h
  | some k =>
   by_cases hs:l.length<(tableS[k]?.getD noOp).slots*8
   ·rw [fromP_less l h8 k hc hs] at h;cases h
   ·rw [fromP_main l h8 k hc hs] at h
    split at h
    ·cases h
    ·rename_i hz
     generalize hhi:(if 1<(tableS[k]?.getD noOp).slots then num32 (l.drop 12) else 0)=hi at h
     have hb:-2147483648<=hi/\hi<=2147483647:=by
      rw [<- hhi]
      split
      ·exact num32_bd _
      ·omega
     split at h
     ·cases h
      exact ⟨k,hi,rfl,rfl,hb,hs⟩
     ·cases h
theorem from_ok (l:List UInt8) (x:PI) (h:fromP l=some x):PIok x:=by
 obtain ⟨k,hi,hk,rfl,hb,hs⟩:=from_view l x h
 have h1:=at_lt l 1
 have h2:=at_lt l 2
 have h3:=at_lt l 3
 exact ⟨byCode_lt _ _ hk,by simp only;omega,by simp only;omega,sgn16_bd _ (by omega),num32_bd _,hb⟩
theorem from_nm (l:List UInt8) (x:PI) (h:fromP l=some x):x.name=[]:=by
 obtain ⟨k,hi,hk,rfl,hb,hs⟩:=from_view l x h
 rfl
theorem from_len (l:List UInt8) (x:PI) (h:fromP l=some x):x.o.slots*8<=l.length:=by
 obtain ⟨k,hi,hk,rfl,hb,hs⟩:=from_view l x h;exact Nat.le_of_not_lt hs
def CodePost (w:World) (b:Nat) (bs:List Nat) (q:PR) (code:List PI) (e:Ending) (w':World):Prop :=
 ∃ v,e=.returned v/\PRd w' b q/\Sl w' 99 8 v code.length (codeC bs code)/\(∀ k,v.ownBlock=some k->w.heap.size<=k)/\Mods (Only b) w w'/\(∀ x∈code,PIok x)
theorem boolA_L (l:List Bool):boolA l=(boolL l).toArray:=rfl
theorem sl_bools {w:World} {g n:Nat} {st:List Bool} (h:Blk w g (boolA st) 4) (hn:st.length=n) (hm:n<=10000):Sl w 4 1 (.slice (some ⟨g,0,none⟩) n n) st.length (boolL st):=by
 subst hn
 exact SlB.sl ⟨Nat.le_refl _,by unfold maxLen;omega,by simp [boolA],by rw [Nat.mul_one,boolA_L];exact List.take_of_length_le (by simp [boolL]),by simp [boolL]⟩ h
set_option maxRecDepth 100000 in
set_option maxHeartbeats 2000000 in
theorem code_any (w:World) (b:Nat) (q:PR) (h:PRd w b q) (wT:World) (tv:Value) (bs:List Nat) (hT:OpsIn 0 wT tv bs tableS) (mT:Mods Nil' wT w) (hbT:wT.heap.size<=b) (sl:List UInt8) (hsl:sl.length<=2000) :
  Calls Tryz.prog 206 #[.pointer (some ⟨b,0,none⟩),tv,.string (T sl)] w fun e w'=>CodePost w b bs (codeP sl q).2 (codeP sl q).1 e w':=by
 obtain ⟨iI,hiI,hzI,hsI,hbI⟩:=info_parts info_instr;obtain ⟨iB,hiB,hzB,hsB,hbB⟩:=info_parts info_bool
 have hb:b<w.heap.size:=Blk.lt h
 have hs:(T sl).size=sl.length:=T_size sl
 obtain ⟨n,hn⟩:∃ n,n=sl.length / 8:=⟨_,rfl⟩
 have hcp:codeP sl q=match codeL sl n (n+1) 0 [] (List.replicate n false) with
   | none=>([],⟨q.rest,true⟩)
   | some (l,st)=>(l,wantP (leadP st 0 l) (wantP (lastP l) q)):=by rw [hn];rfl
 have HCP:Hid _:=hcp
 clear hcp
 have hq8:((sl.length:Int) / 8)=(n:Int):=by omega
 have hn8:n*8<=sl.length:=by omega
 have HT:=hid hT;have HMT:=hid mT
 have HO:Hid (OpsIn 0 w tv bs tableS):=hT.mods mT
 obtain ⟨oT,cT,hv,_⟩:=hT.sl.view;subst hv;clear hT mT hn
 have hK0:KInv w b q (.slice oT bs.length cT) bs (.slice none 0 0) [] w.heap.size n (List.replicate n false) (w.alloc (.cells (boolA (List.replicate n false)) 4)) :=
  ⟨Blk.alloc h _,Sl.nil _ _ _,Blk.new _ _ _,by simp,fun k hk=>(by cases hk),Nat.le_refl _,(Mods.refl _ _).alloc _⟩
 have hmk:=run_make_row' (P:=Tryz.prog) 277 4 (.bool false) 1 Tryz.underlying277 info_bool rfl .i64 .i64 n (by omega) (by omega)
 simp only [made_bool] at hmk
 go_enter Tryz.func206,Tryz.ntmps206
 go_upto_block 0 with fail;clear hmk
 have HK0:Hid _:=hK0
 clear hK0
 go_cut [7] (fun v wx=>∃ acc st,KInv w b q (.slice oT bs.length cT) bs v acc w.heap.size n st wx/\codeL sl n (n+1) 0 [] (List.replicate n false)=some (acc,st)/\acc.length<=n/\(∀ x∈acc,PIok x))
 case first =>
  go_wp2_with fail
  go_loopg [7,9] (n+1) (fun g v at_ wx=>∃ (f p:Nat) (acc:List PI) (st:List Bool),at_=.int .i64 p/\KInv w b q (.slice oT bs.length cT) bs v acc w.heap.size n st wx/\codeL sl n f p acc st=codeL sl n (n+1) 0 [] (List.replicate n false)/\n<p+f/\p<=n/\g=f/\acc.length<=p/\(∀ x∈acc,PIok x))
  case atStart=>exact ⟨n+1,0,[],_,rfl,HK0.out,rfl,by omega,Nat.zero_le _,rfl,Nat.le_refl _,fun x hx=>(by cases hx)⟩
  case round =>
   obtain ⟨f,p,acc,st,rfl,hK,hR,hf,hp,hgf,hal,hok⟩:=hrel;clear HK0;have HK:=hid hK
   have HR:Hid _:=hR
   have HOk:=hid hok;clear hK hR hok
   obtain ⟨f,rfl⟩:∃ f',f=f'+1:=⟨f - 1,by omega⟩
   have HGf:Hid _:=hgf
   clear hgf
   by_cases hlt:p<n
   ·have x8:(T sl).extract (p*8) sl.length=T (sl.drop (p*8)):=by
     have:=T_drop sl (p*8)
     rw [hs] at this;exact this
    have i8:((p:Int)*8)<=(sl.length:Int):=by omega
    have HFr:=from_any wr (.slice oT bs.length cT) bs (HO.out.mods HK.out.md) (sl.drop (p*8)) (by unfold maxLen;simp;omega)
    have hR2:=HR.out
    rw [codeL,if_pos hlt] at hR2
    have HR2:Hid _:=hR2
    clear hR2 HR
    have hlen:(sl.drop (p*8)).length=sl.length - p*8:=by simp
    have hfl:=from_len (sl.drop (p*8))
    have hfo:=from_ok (sl.drop (p*8))
    have hfn:=from_nm (sl.drop (p*8))
    rw [hlen] at hfl;have HFr2:=hid HFr;have HFl:=hid hfl;have HFo:=hid hfo;have HFn:=hid hfn;clear HFr hlen hfl hfo hfn;generalize sl.drop (p*8)=lp at *;go_wp2_with fail;refine HFr2.out.mono ?_;rintro e w3 ⟨cs,rfl,hcs,h8,m3⟩
    have HK3:Hid (KInv w b q (.slice oT bs.length cT) bs u7 acc w.heap.size n st w3):=HK.out.quiet m3
    have HO3:Hid (OpsIn 0 w3 (.slice oT bs.length cT) bs tableS):=(HO.out.mods HK.out.md).mods m3
    clear m3 HFr2
    cases hfr:fromP lp with
    | none =>
     rw [hfr] at HR2;have HNo:=hid HR2.out.symm;obtain ⟨e0,e1,e2,e3,e4,e5,e6,e7,rfl⟩:=h8;clear hcs HR2 hfr
     have hRd:PRd (w3.alloc (.cells #[.pointer e0,.int .u8 e1,.int .u8 e2,.int .i16 e3,.int .i32 e4,.int .i32 e5,.string e6,.string e7] 99)) b q:=Blk.alloc HK3.out.rd _
     have c1:=Blk.cell hRd 1
     have fr1:=Blk.frozen hRd 1
     simp at c1
     have HRd:Hid _:=hRd
     clear hRd;go_wp2_with fail;go_ret;rw [HCP.out,HNo.out]
     exact ⟨_,rfl,Blk.set HRd.out 1 _,Sl.nil _ _ _,fun k hk=>(by cases hk),((HK3.out.md.alloc _).of_nil).setb 1 _,fun x hx=>(by cases hx)⟩
    | some x =>
     rw [hfr] at HR2
     have hcx:=hcs x hfr
     have hxo:=HFo.out x hfr
     have hxl:=HFl.out x hfr
     have hxs:=hxo.slots
     clear hcs h8 HFo HFl HFn hfr
     have hA:=tab_at HO3.out x hxo.k
     have HXo:=hid hxo
     have HR3:Hid (codeL sl n f (p+x.o.slots) (acc++[x]) (st.set p true)=codeL sl n (n+1) 0 [] (List.replicate n false)):=HR2.out
     clear HR2 hxo HO3
     have HXc:Hid ((x.ins bs).cellsL=[.pointer (some ⟨bs[x.k]?.getD 0,0,none⟩),.int .u8 x.d,.int .u8 x.s,.int .i16 x.jump,.int .i32 x.num,.int .i32 x.high,.string ByteArray.empty,.string (T x.name)]):=rfl
     have hcx2:cs=#[.pointer (some ⟨bs[x.k]?.getD 0,0,none⟩),.int .u8 x.d,.int .u8 x.s,.int .i16 x.jump,.int .i32 x.num,.int .i32 x.high,.string ByteArray.empty,.string (T x.name)]:=hcx
     clear hcx;subst hcx2
     have HOne:Hid (∀ u∈(x.ins bs).cellsL,u.oneCell'=true):=instr_one _ rfl
     rw [HXc.out] at HOne
     generalize hos:x.o.slots=os at *
     have HA:=hid hA;have HOs:=hid hos;clear hA hos
     generalize hbx:bs[x.k]?.getD 0=bx at *
     have HBx:=hid hbx;clear hbx;generalize x.d=xd at *;generalize x.s=xs at *;generalize x.jump=xj at *;generalize x.num=xn at *;generalize x.high=xh at *;generalize x.name=xm at *
     have HIn:Hid (KInv w b q (.slice oT bs.length cT) bs u7 acc w.heap.size n st (w3.alloc (.cells #[.pointer (some ⟨bx,0,none⟩),.int .u8 xd,.int .u8 xs,.int .i16 xj,.int .i32 xn,.int .i32 xh,.string ByteArray.empty,.string (T xm)] 99))):=HK3.out.quiet ((Mods.refl _ _).alloc _)
     have HBn:Hid (Blk (w3.alloc (.cells #[.pointer (some ⟨bx,0,none⟩),.int .u8 xd,.int .u8 xs,.int .i16 xj,.int .i32 xn,.int .i32 xh,.string ByteArray.empty,.string (T xm)] 99)) w3.heap.size #[.pointer (some ⟨bx,0,none⟩),.int .u8 xd,.int .u8 xs,.int .i16 xj,.int .i32 xn,.int .i32 xh,.string ByteArray.empty,.string (T xm)] 99):=Blk.new _ _ _
     have HAn:Hid (OpAt (w3.alloc (.cells #[.pointer (some ⟨bx,0,none⟩),.int .u8 xd,.int .u8 xs,.int .i16 xj,.int .i32 xn,.int .i32 xh,.string ByteArray.empty,.string (T xm)] 99)) bx x.o):=HA.out.mods ((Mods.refl _ _).alloc _)
     have HOw:=hid HK3.out.sl.lt
     have hg3:w.heap.size<w3.heap.size:=HK3.out.sb.lt
     clear HK3 HA
     have lS:p<(boolA st).size:=by have:=HIn.out.ln;simp [boolA];omega
     have HLS:Hid _:=lS
     clear lS
     go_wp2_with (at_builtin;go_loud (refine wpList_append_sl _ rfl (.tmp 34) (.tmp 36) 92 rfl 99 iI (.agg Z8) 8 56 Tryz.underlying92 hiI hzI hsI hbI rfl (by decide) u7 acc.length (codeC bs acc) rfl (HIn.out.quiet ((Mods.refl _ _).alloc _)).sl ⟨w3.heap.size+1,0,none⟩ 1 1 [.pointer (some ⟨bx,0,none⟩),.int .u8 xd,.int .u8 xs,.int .i16 xj,.int .i32 xn,.int .i32 xh,.string ByteArray.empty,.string (T xm)] rfl rfl (news_cells _ _ _ _ (by simp)) HOne.out (by unfold maxLen;omega) (by omega) ?_;intro vA wA sA mA lA;have HKA:Hid (KInv w b q (.slice oT bs.length cT) bs vA (acc++[x]) w.heap.size n st wA):=(HIn.out.quiet ((Mods.refl _ _).alloc _)).app hb (by rw [HXc.out];exact sA) mA lA;have HBA:Hid (Blk wA w3.heap.size #[.pointer (some ⟨bx,0,none⟩),.int .u8 xd,.int .u8 xs,.int .i16 xj,.int .i32 xn,.int .i32 xh,.string ByteArray.empty,.string (T xm)] 99):=(HBn.out.alloc _).mods mA (fun e=>by have:=HOw.out _ e;omega);obtain ⟨oA,cA,rfl,_⟩:=Sl.view sA;clear sA mA lA;obtain ⟨y0,y1⟩:wA.cell? ⟨w.heap.size,p,none⟩=some (.bool (st[p]?.getD false))/\wA.frozen? ⟨w.heap.size,p,none⟩=false:=⟨by rw [HKA.out.sb.cell p];simp [boolA,HKA.out.ln,hlt],HKA.out.sb.frozen p⟩;have HKM:=HKA.out.mark hb p;have z0:(wA.setCell ⟨w.heap.size,p,none⟩ (.bool true)).cell? ⟨w3.heap.size,0,none⟩=some (.pointer (some ⟨bx,0,none⟩)):=(Blk.setOther HBA.out (show w.heap.size≠w3.heap.size by omega) _).cell 0;have HM2:Hid (KInv w b q (.slice oT bs.length cT) bs (.slice oA (acc.length+1) cA) (acc++[x]) w.heap.size n (st.set p true) (wA.setCell ⟨w.heap.size,p,none⟩ (.bool true))):=HKM;clear HKM;have hAM:=tab_at (HO.out.mods HM2.out.md) x HXo.out.k;rw [HBx.out] at hAM;obtain ⟨z2,_,_,_⟩:=hAM.cells;rw [HOs.out] at z2;clear hAM))
     go_roundg f
     case measure=>have:=HGf.out;omega
     case rel=>exact ⟨f,p+os,acc++[x],st.set p true,by go_num,HM2.out,HR3.out,by omega,by omega,rfl,by simp;omega,fun y hy=>(by rcases List.mem_append.1 hy with h' | h';exact HOk.out y h';rw [List.mem_singleton.1 h'];exact HXo.out)⟩
   ·have HR2:Hid (codeL sl n (n+1) 0 [] (List.replicate n false)=some (acc,st)):=by
     rw [Hid,<- HR.out,codeL,if_neg hlt]
    have hnlt:¬ ((p:Int)<(n:Int)):=by omega
    go_wp2_with fail;go_meet
    exact ⟨acc,st,HK.out,HR2.out,by omega,HOk.out⟩
 case rest =>
 obtain ⟨acc,st,hK,hR,hal,hok⟩:=hcut;rw [hR] at HCP
 simp only at HCP
 clear hR HK0;obtain ⟨oC,cC,rfl,_⟩:=hK.sl.view;have HK:=hid hK;have HOk:=hid hok;clear hK hok
 have HFin:Hid (∀ w4,PRd w4 b (wantP (lastP acc) q)->Mods (Only b) wc w4->Calls Tryz.prog 261 #[.slice oC acc.length cC,.slice (some ⟨w.heap.size,0,none⟩) n n] w4 (fun e w'=>e=.returned (.bool (leadP st 0 acc))/\Mods Nil' w4 w')/\∀ w5,Mods Nil' w4 w5->∀ w6,PRd w6 b (wantP (leadP st 0 acc) (wantP (lastP acc) q))->Mods (Only b) w5 w6->CodePost w b bs (wantP (leadP st 0 acc) (wantP (lastP acc) q)) acc (.returned (.slice oC acc.length cC)) w6):=by
  intro w4 h4 m4
  have hne:∀ k,(Value.slice oC acc.length cC).ownBlock=some k->¬ Only b k:=fun k hk e=>by have:=(HK.out.own k hk).1;have:k=b:=e;omega
  have hS4:=HK.out.sl.mods m4 hne
  have hm4:Mods (Only b) w w4:=HK.out.md.of_nil.trans m4
  have hB4:Blk w4 w.heap.size (boolA st) 4:=HK.out.sb.mods m4 (show ¬ w.heap.size=b by omega)
  have hbw:b<w4.heap.size:=Blk.lt h4
  have hob:OpsIn 0 w4 (.slice oT bs.length cT) bs tableS:=HT.out.mods (HMT.out.step hm4 (fun i hi e=>by have:i=b:=e;omega))
  refine ⟨?_,fun w5 m5 w6 h6 m6=>?_⟩
  ·have:=lead_any w4 _ bs hob acc HOk.out (by omega) _ hS4 st (by have:=HK.out.ln;omega) (.slice (some ⟨w.heap.size,0,none⟩) n n) (by have:=HK.out.ln;exact sl_bools hB4 this (by omega))
   exact this
  ·exact ⟨_,rfl,h6,(hS4.mods m5 (fun _ _=>id)).mods m6 hne,fun k hk=>(HK.out.own k hk).1,(hm4.trans m5.of_nil).trans m6,HOk.out⟩
 cases hal0:acc.length with
 | zero =>
  rw [hal0] at HFin
  obtain rfl:acc=[]:=List.length_eq_zero_iff.1 hal0
  have HL:Hid (lastP []=false):=rfl
  rw [HL.out] at HFin HCP;generalize leadP st 0 []=ld at *;go_wp2_with fail
  refine (want_any b _ _ _ HK.out.rd).mono ?_
  rintro e w4 ⟨rfl,h4,m4⟩;obtain ⟨f1,f2⟩:=HFin.out w4 h4 m4
  have F2:Hid _:=f2
  clear f2 HFin;go_wp2_with fail;refine f1.mono ?_;rintro e w5 ⟨rfl,m5⟩
  have h5:=Blk.mods h4 m5 id
  have F3:Hid _:=F2.out w5 m5
  clear F2 m5 m4 h4;go_wp2_with fail
  refine (want_any b _ _ _ h5).mono ?_
  rintro e w6 ⟨rfl,h6,m6⟩
  have F4:Hid _:=F3.out w6 h6 m6
  clear F3 h6 m6 h5;go_wp2_with fail;go_ret;rw [HCP.out];exact F4.out
 | succ j =>
  have hj:j<acc.length:=by omega
  have HL:Hid (lastP acc=acc[j].o.ends):=by
   have:acc.getLast?=some acc[j]:=by rw [List.getLast?_eq_getElem?,show acc.length - 1=j by omega];simp [hj]
   rw [Hid,lastP,this]
  obtain ⟨g,rfl,hg,q0,_,_,_,_,_,_,_⟩:=code_at HK.out.sl rfl rfl j hj
  obtain ⟨_,_,q4,_⟩:=(tab_at (HO.out.mods HK.out.md) acc[j] (HOk.out acc[j] (List.getElem_mem hj)).k).cells
  rw [hal0] at HFin;rw [HL.out] at HFin HCP;generalize acc[j].o.ends=le at *;generalize bs[acc[j].k]?.getD 0=bx at *;generalize leadP st 0 acc=ld at *;have HL0:=hid hal0
  have hj2:j<2000:=by omega
  clear hal0 hal;go_wp2_with fail
  refine (want_any b _ _ _ HK.out.rd).mono ?_
  rintro e w4 ⟨rfl,h4,m4⟩;obtain ⟨f1,f2⟩:=HFin.out w4 h4 m4
  have F2:Hid _:=f2
  clear f2 HFin;go_wp2_with fail;refine f1.mono ?_;rintro e w5 ⟨rfl,m5⟩
  have h5:=Blk.mods h4 m5 id
  have F3:Hid _:=F2.out w5 m5
  clear F2 m5 m4 h4;go_wp2_with fail
  refine (want_any b _ _ _ h5).mono ?_
  rintro e w6 ⟨rfl,h6,m6⟩
  have F4:Hid _:=F3.out w6 h6 m6
  clear F3 h6 m6 h5;go_wp2_with fail;go_ret;rw [HCP.out];exact F4.out
end Go.Proofs.YtoknbkfclhmapaaGreatDoor
