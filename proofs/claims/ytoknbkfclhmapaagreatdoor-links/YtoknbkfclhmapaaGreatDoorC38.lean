import Derived.Test.YtoknbkfclhmapaaGreatDoorC37
import Derived.Test.YtoknbkfclhmapaaGreatDoorC35
namespace Go.Proofs.YtoknbkfclhmapaaGreatDoor
open Go.RowKit
set_option maxHeartbeats 400000 in
theorem refers_any (w:World) (b:Nat) (o:OpS) (hA:OpAt w b o) (d:Int) (s:Nat) (num high jump:Int) (label name:ByteArray) :
  Calls Tryz.prog 44 #[.agg #[.pointer (some ⟨b,0,none⟩),.int .u8 d,.int .u8 s,.int .i16 jump,.int .i32 num,.int .i32 high,.string label,.string name]] w fun e w'=>e=.returned (.int .i64 ((if s=1 then o.refers else 0:Nat):Int))/\Mods Nil' w w':=by
 have hA1:=(hA.mods ((Mods.refl _ _).alloc (.cells #[.pointer (some ⟨b,0,none⟩),.int .u8 d,.int .u8 s,.int .i16 jump,.int .i32 num,.int .i32 high,.string label,.string name] 99))).cells
 obtain ⟨_,_,_,z5⟩:=hA1;generalize o.refers=rf at *
 by_cases h1:s=1
 ·subst h1
  simp only [Int.cast_ofNat_Int] at *
  go_enter Tryz.func44,Tryz.ntmps44
  go_wp2_with fail;go_ret
  exact ⟨rfl,((Mods.refl _ _).alloc _)⟩
 ·have h2:¬ ((s:Int)=1):=by omega
  go_enter Tryz.func44,Tryz.ntmps44
  go_wp2_with fail;go_ret
  exact ⟨rfl,((Mods.refl _ _).alloc _)⟩
theorem ref_any (b:Nat) (q:PR) (n slot:Nat) (w:World) (h:PRd w b q) (hl:q.rest.length<=maxLen):Calls Tryz.prog 116 #[.pointer (some ⟨b,0,none⟩),.int .i64 n,.int .i64 slot] w fun e w'=>e=.returned (.string (T (refP n slot q).1))/\PRd w' b (refP n slot q).2/\Mods (Only b) w w':=by
 have H1:Hid (∀ w,PRd w b q->Calls Tryz.prog 112 #[.pointer (some ⟨b,0,none⟩)] w fun e w'=>e=.returned (.int .i64 ((oneP q).1:Nat))/\PRd w' b (oneP q).2/\Mods (Only b) w w'):=fun w h=>one_any b q w h hl
 have hl1:=Nat.le_trans (one_len q) hl
 have hrp:refP n slot q=nameP (wantP (decide ((twoP (wantP (decide ((oneP q).1=n)) (oneP q).2)).1=slot)) (twoP (wantP (decide ((oneP q).1=n)) (oneP q).2)).2):=rfl
 rw [hrp];clear hrp;generalize oneP q=r1 at *;obtain ⟨a,q1⟩:=r1;simp only at *
 have hl2:(wantP (decide (a=n)) q1).rest.length<=maxLen:=hl1
 have hd:((a:Int)==(n:Int))=decide (a=n):=by rw [Bool.eq_iff_iff];simp;omega
 obtain ⟨q2,hq2⟩:∃ q2,wantP (decide (a=n)) q1=q2:=⟨_,rfl⟩
 rw [hq2] at hl2 ⊢;have HQ2:=hid hq2;clear hq2
 have H2:Hid (∀ w,PRd w b q2->Calls Tryz.prog 115 #[.pointer (some ⟨b,0,none⟩)] w fun e w'=>e=.returned (.int .i64 ((twoP q2).1:Nat))/\PRd w' b (twoP q2).2/\Mods (Only b) w w'):=fun w h=>two_any b q2 w h hl2
 have hl3:=Nat.le_trans (two_len q2) hl2
 generalize twoP q2=r2 at *;obtain ⟨c,q3⟩:=r2;simp only at *
 have hl4:(wantP (decide (c=slot)) q3).rest.length<=maxLen:=hl3
 have hd2:((c:Int)==(slot:Int))=decide (c=slot):=by rw [Bool.eq_iff_iff];simp;omega
 obtain ⟨q4,hq4⟩:∃ q4,wantP (decide (c=slot)) q3=q4:=⟨_,rfl⟩
 rw [hq4] at hl4 ⊢;have HQ4:=hid hq4;clear hq4
 have H4:Hid (∀ w,PRd w b q4->Calls Tryz.prog 204 #[.pointer (some ⟨b,0,none⟩)] w fun e w'=>e=.returned (.string (T (nameP q4).1))/\PRd w' b (nameP q4).2/\Mods (Only b) w w'):=fun w h=>pname_any b q4 w h hl4
 generalize nameP q4=r4 at *;obtain ⟨nm,q5⟩:=r4;simp only at *
 go_enter Tryz.func116,Tryz.ntmps116
 go_wp2_with fail
 refine (H1.out _ h).mono ?_
 rintro e w1 ⟨rfl,h1,m1⟩;go_wp2_with fail
 refine (want_any b _ _ _ h1).mono ?_
 rintro e w2 ⟨rfl,h2,m2⟩;rw [HQ2.out] at h2;go_wp2_with fail
 refine (H2.out _ h2).mono ?_
 rintro e w3 ⟨rfl,h3,m3⟩;go_wp2_with fail
 refine (want_any b _ _ _ h3).mono ?_
 rintro e w4 ⟨rfl,h4,m4⟩;rw [HQ4.out] at h4;go_wp2_with fail
 refine (H4.out _ h4).mono ?_
 rintro e w5 ⟨rfl,h5,m5⟩;go_wp2_with fail;go_ret
 exact ⟨rfl,h5,(((m1.trans m2).trans m3).trans m4).trans m5⟩
theorem pmap_at {w:World} {ms:List PMap} {v:Value} {n:Nat} (h:Sl w 88 4 v n (ms.flatMap PMap.cells)) (hn:n=ms.length) {o:Option Addr} {c:Nat} (hv:v=.slice o n c) (k:Nat) (hk:k<ms.length) :
  ∃ g,o=some ⟨g,0,none⟩/\w.cell? ⟨g,k*4,none⟩=some (.string (T ms[k].name))/\w.cell? ⟨g,k*4+1,none⟩=some (.int .u8 ms[k].key)/\w.cell? ⟨g,k*4+2,none⟩=some (.int .u8 ms[k].value)/\w.cell? ⟨g,k*4+3,none⟩=some (.int .u8 ms[k].entries):=by
 obtain ⟨o',c',hv',h2⟩:=h.view;rw [hv] at hv'
 cases hv'
 obtain ⟨g,cs,rfl,hb,ht,_⟩:=h2 (by omega)
 have key:∀ j,j<4->w.cell? ⟨g,k*4+j,none⟩=(PMap.cells ms[k])[j]?:=fun j hj=>by
  rw [hb.cell (k*4+j),<- Array.getElem?_toList,<- List.getElem?_take_of_lt (show k*4+j<n*4 by omega),ht]
  exact flat_get PMap.cells 4 (fun _=>rfl) ms k j hk hj
 exact ⟨g,rfl,key 0 (by omega),key 1 (by omega),key 2 (by omega),key 3 (by omega)⟩
set_option maxHeartbeats 400000 in
theorem hasMap_any (w:World) (ms:List PMap) (hm:ms.length<=1000) (vM:Value) (hM:Sl w 88 4 vM ms.length (ms.flatMap PMap.cells)) (nm:List UInt8) :
  Calls Tryz.prog 117 #[vM,.string (T nm)] w fun e w'=>e=.returned (.bool (hasMapP ms nm))/\Mods Nil' w w':=by
 obtain ⟨oM,cM,rfl,_⟩:=hM.view;have HM:=hid hM;clear hM
 go_enter Tryz.func117,Tryz.ntmps117
 go_wp2_with fail
 go_loopw [9] (fun i wl=>∃ k:Nat,k<=ms.length/\i=.int .i64 k/\hasMapP (ms.drop k) nm=hasMapP ms nm/\Mods Nil' w wl) (fun i _=>ms.length - (intOf i).toNat)
 case atStart=>exact ⟨0,Nat.zero_le _,rfl,rfl,Mods.refl _ _⟩
 case round =>
  obtain ⟨k,hk,rfl,hn,hMd⟩:=hrel
  have HN:Hid _:=hn
  have HMd:=hid hMd;clear hn hMd
  by_cases hlt:k<ms.length
  ·obtain ⟨g,rfl,q0,q1,q2,q3⟩:=pmap_at (HM.out.mods HMd.out (fun _ _=>id)) rfl rfl k hlt
   have HD:Hid (hasMapP ms nm=((ms[k].name==nm)||hasMapP (ms.drop (k+1)) nm)):=by
    rw [Hid,<- HN.out,List.drop_eq_getElem_cons hlt];rfl
   generalize ms[k].name=mn at *;generalize ms[k].key=mk at *;generalize ms[k].value=mv at *;generalize ms[k].entries=me at *
   by_cases he:mn=nm
   ·subst he
    have HF:Hid (hasMapP ms mn=true):=by rw [Hid,HD.out];simp
    go_wp2_with fail;go_ret
    exact ⟨by rw [HF.out];rfl,HMd.out.alloc _⟩
   ·have HF:Hid (hasMapP (ms.drop (k+1)) nm=hasMapP ms nm):=by rw [Hid,HD.out,beq_false_of_ne he];simp
    have hne:((T mn).toList==(T nm).toList)=false:=str_ne fun e=>he (congrArg BL e)
    go_wp2_with fail
    go_roundw
    case rel=>exact ⟨k+1,by omega,by go_num,HF.out,HMd.out.alloc _⟩
    case measure=>simp [intOf];omega
  ·obtain rfl:k=ms.length:=by omega
   have HF:Hid (hasMapP ms nm=false):=by rw [Hid,<- HN.out,List.drop_length];rfl
   go_wp2_with fail;go_ret
   exact ⟨by rw [HF.out];rfl,HMd.out⟩
theorem ref_len (n slot:Nat) (q:PR):(refP n slot q).2.rest.length<=q.rest.length:=by
 refine Nat.le_trans (name_len _) ?_
 refine Nat.le_trans (two_len _) ?_
 exact one_len q
theorem code_name {w:World} {g n c:Nat} {bs:List Nat} {l:List PI} (h:Sl w 99 8 (.slice (some ⟨g,0,none⟩) n c) n (codeC bs l)) (hn:n=l.length) (k:Nat) (hk:k<l.length) (nm:List UInt8) :
  Sl (w.setCell ⟨g,k*8+7,none⟩ (.string (T nm))) 99 8 (.slice (some ⟨g,0,none⟩) n c) n (codeC bs (l.set k { l[k] with name:=nm })):=by
 have:=h.setAt (k*8+7) (.string (T nm)) (by omega)
 unfold codeC at *
 rwa [flat_set (fun x:PI=>(x.ins bs).cellsL) 8 (fun _=>rfl) l k 7 hk (by omega) (.string (T nm)) { l[k] with name:=nm } rfl] at this
theorem Fns.name {w:World} {lo:Nat} {bs:List Nat} {v:Value} {fs:List PFn} {vs:List Value} (h:Fns w lo bs v fs vs) (i:Nat) (hi:i<fs.length) (hv:i<vs.length) {g n c:Nat} (he:vs[i]=.slice (some ⟨g,0,none⟩) n c) (k:Nat) (hk:k<fs[i].code.length) (nm:List UInt8) :
  Fns (w.setCell ⟨g,k*8+7,none⟩ (.string (T nm))) lo bs v (fs.set i ⟨fs[i].name,fs[i].code.set k { fs[i].code[k] with name:=nm }⟩) vs:=by
 have m:Mods (Only g) w (w.setCell ⟨g,k*8+7,none⟩ (.string (T nm))):=(Mods.refl _ _).setb _ _
 have hs:=h.cd i hi hv
 have hg:vs[i].ownBlock=some g:=by rw [he];rfl
 have hnm:(fs.set i ⟨fs[i].name,fs[i].code.set k { fs[i].code[k] with name:=nm }⟩).map (·.name)=fs.map (·.name):=by
  rw [List.map_set]
  exact List.ext_getElem (by simp) (fun j h1 h2=>by
   rw [List.getElem_set]
   split
   ·rename_i e;subst e;simp
   ·rfl)
 refine ⟨by simp [h.len],?_,fun j h1 h2=>?_,fun f hf x hx=>?_,h.own,h.ownC,h.ne⟩
 ·rw [hnm,List.length_set]
  exact h.sl.mods m (fun k' hk' e=>hs.apart h.sl (by decide) hg (hk'.trans (congrArg some e)))
 ·rw [List.length_set] at h1
  by_cases e:i=j
  ·subst e
   simp only [List.getElem_set_self,List.length_set]
   rw [he] at hs ⊢
   have hn:n=fs[i].code.length:=by
    obtain ⟨o,cp,e1,_⟩:=hs.view
    cases e1;rfl
   subst hn;exact code_name hs rfl k hk nm
  ·rw [List.getElem_set_ne e]
   exact (h.cd j h1 h2).mods m (fun k' hk' e'=>h.ne i j hv h2 e g hg (hk'.trans (congrArg some e')))
 ·rcases List.mem_or_eq_of_mem_set hf with h' | h'
  ·exact h.ok f h' x hx
  ·subst h'
   rcases List.mem_or_eq_of_mem_set hx with h'' | h''
   ·exact h.ok fs[i] (List.getElem_mem hi) x h''
   ·subst h''
    have:=h.ok fs[i] (List.getElem_mem hi) fs[i].code[k] (List.getElem_mem hk)
    exact ⟨this.k,this.d,this.s,this.j,this.n,this.h⟩
structure RInv (w0:World) (lo b:Nat) (bs:List Nat) (q:PR) (vF:Value) (fs:List PFn) (vs:List Value) (w:World):Prop where
 rd:PRd w b q
 fn:Fns w lo bs vF fs vs
 md:Mods (fun k=>k=b\/lo<=k) w0 w
theorem RInv.read {w0 w w':World} {lo b:Nat} {bs:List Nat} {q q':PR} {vF:Value} {fs:List PFn} {vs:List Value} (h:RInv w0 lo b bs q vF fs vs w) (hr:PRd w' b q') (m:Mods (Only b) w w'):RInv w0 lo b bs q' vF fs vs w' :=
 ⟨hr,h.fn.read h.rd m,h.md.trans (m.mono (fun _ _ e=>.inl e))⟩
theorem RInv.quiet {w0 w w':World} {lo b:Nat} {bs:List Nat} {q:PR} {vF:Value} {fs:List PFn} {vs:List Value} (h:RInv w0 lo b bs q vF fs vs w) (m:Mods Nil' w w'):RInv w0 lo b bs q vF fs vs w' :=
 ⟨Blk.mods h.rd m id,h.fn.quiet m,h.md.trans (m.of_nil)⟩
theorem RInv.name {w0 w:World} {lo b:Nat} {bs:List Nat} {q:PR} {vF:Value} {fs:List PFn} {vs:List Value} (h:RInv w0 lo b bs q vF fs vs w) (i:Nat) (hi:i<fs.length) (hv:i<vs.length) {g n c:Nat} (he:vs[i]=.slice (some ⟨g,0,none⟩) n c) (k:Nat) (hk:k<fs[i].code.length) (nm:List UInt8) :
  RInv w0 lo b bs q vF (fs.set i ⟨fs[i].name,fs[i].code.set k { fs[i].code[k] with name:=nm }⟩) vs (w.setCell ⟨g,k*8+7,none⟩ (.string (T nm))) :=
 ⟨Blk.setOther h.rd (fun e=>(h.fn.cd i hi hv).notBlk h.rd (by decide) (by rw [he];exact congrArg some e)) _,h.fn.name i hi hv he k hk nm,h.md.set (.inl (.inr (h.fn.ownC _ (List.getElem_mem hv) g (by rw [he];rfl)))) _⟩
section
variable {P : Program} {ops : Array Oper} {C : World -> Prop} {es : List Nat}
theorem mix_pureG {Q:Act->World->Prop} {k:Nat} {o:Oper} {rest:List Oper} {a:Act} {w:World} (hw:Region.wanted o (yielded ops a.tmps)=true) (hE:es.contains k=false) (hp:plainOp o=true)
  (h:∀ K:Act->Prop,(∀ a',wpMix P ops C es Q (k+1) rest a' w->K a')->o.quiet P a C K):wpMix P ops C es Q k (o::rest) a w:=by
 unfold wpMix;rw [if_pos hw,hE]
 obtain ⟨v,h1,h2⟩:=h _ (fun _ h=>h)
 exact ⟨v,fun w hw=>pure_of_plain hp v w (h1 w hw),h2⟩
theorem mix_skip {Q:Act->World->Prop} {k:Nat} {o:Oper} {rest:List Oper} {a:Act} {w:World} (hw:Region.wanted o (yielded ops a.tmps)=false) (h:wpMix P ops C es Q (k+1) rest (a.put o.dst undef) w):wpMix P ops C es Q k (o::rest) a w:=by
 unfold wpMix;rw [hw];exact h
theorem mix_nilCheckG {Q:Act->World->Prop} {k:Nat} {o:Oper} {rest:List Oper} {a:Act} {w:World} (hw:Region.wanted o (yielded ops a.tmps)=true) (hE:es.contains k=false) (x:Operand) (ad:Addr) (ho:o.op=.nilCheck x) (hx:a.eval x=.pointer (some ad))
  (h:wpMix P ops C es Q (k+1) rest (a.put o.dst (.pointer (some ad))) w):wpMix P ops C es Q k (o::rest) a w:=by
 unfold wpMix;rw [if_pos hw,hE]
 refine ⟨_,fun w _=>?_,h⟩
 unfold pureAt
 simp only [execOp,ho,hx]
 exact ⟨rfl,rfl⟩
theorem mix_pick {Q:Act->World->Prop} {k:Nat} {o:Oper} {rest:List Oper} {a:Act} {w:World} (hgd:o.guard=none) (hE:es.contains k=false) (c x y:Operand) (bv:Bool) (ho:o.op=.pick c x y) (hx:a.eval c=.bool bv)
  (h:wpMix P ops C es Q (k+1) rest (a.put o.dst (if bv then a.eval x else a.eval y)) w):wpMix P ops C es Q k (o::rest) a w:=by
 unfold wpMix;rw [if_pos (wanted_free hgd _),hE]
 refine ⟨_,fun w _=>?_,h⟩
 unfold pureAt
 simp only [execOp,ho,hx]
 exact ⟨rfl,rfl⟩
theorem mix_actG {Q:Act->World->Prop} {k:Nat} {o:Oper} {rest:List Oper} {a:Act} {w:World} (hw:Region.wanted o (yielded ops a.tmps)=true) (hE:es.contains k=true)
  (h:∀ K:Act->World->Prop,(∀ a' w',a'.defers=a.defers->C w'->wpMix P ops C es Q (k+1) rest a' w'->K a' w')->o.wp P a w K (fun _ _ _=>False)):wpMix P ops C es Q k (o::rest) a w:=by
 unfold wpMix;rw [if_pos hw,if_pos hE]
 have h1:=h (fun a' w'=>a'.defers=a.defers/\C w'/\wpMix P ops C es Q (k+1) rest a' w') (fun a' w' h1 h2 h3=>⟨h1,h2,h3⟩)
 unfold Oper.wp at h1;unfold effAt;generalize (execOp a.eval o).run P w=r at *
 cases r with
 | ok n w' =>
  cases n<;>simp only [Oper.upon] at h1<;>simp only [effUpon]
  case value u=>exact h1.2
  case skip=>exact h1.2
  case defer d =>
   have h2:=h1.1
   have h3:(({ a with defers:=d::a.defers }:Act).put o.dst undef).defers=d::a.defers:=by
    unfold Act.put;split<;>rfl
   rw [h3] at h2
   have:=congrArg List.length h2
   simp at this
  case enter f args =>
   refine h1.mono fun e w'' he=>?_
   cases e with
   | returned v=>exact ⟨v,rfl,he.2⟩
   | panicked c=>exact he.elim
   | outgrown=>obtain ⟨_,_,hf⟩:=he;exact hf.elim
  case row row args=>exact h1.mono fun v w'' he=>he.2
 | halt x w'=>cases x<;>simp only [Oper.upon] at h1
end
end Go.Proofs.YtoknbkfclhmapaaGreatDoor
