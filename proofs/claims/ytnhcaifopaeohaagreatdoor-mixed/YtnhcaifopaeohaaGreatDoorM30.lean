import Derived.Test.YtnhcaifopaeohaaGreatDoorM27
namespace Go.Proofs.YtnhcaifopaeohaaGreatDoor
open Go.RowKit
set_option linter.all false
theorem mapsP_cnt:∀ (k:Nat) (q:PR) (last:List UInt8) (acc:List PMap),(mapsP k q last acc).1.length=acc.length+k
 | 0,_,_,_=>rfl
 | k+1,q,last,acc=>by rw [mapsP,mapsP_cnt k];simp;omega
theorem headsP_cnt:∀ (k:Nat) (q:PR) (last:List UInt8) (all:Nat) (acc:List PHead),(headsP k q last all acc).1.length=acc.length+k
 | 0,_,_,_,_=>rfl
 | k+1,q,last,all,acc=>by rw [headsP,headsP_cnt k];simp;omega
theorem headsP_sum:∀ (k:Nat) (q:PR) (last:List UInt8) (all:Nat) (acc:List PHead),all=sumH acc->(headsP k q last all acc).2.1=sumH (headsP k q last all acc).1
 | 0,_,_,_,_,h=>h
 | k+1,q,last,all,acc,h=>by rw [headsP];exact headsP_sum k _ _ _ _ (by rw [h];simp [sumH])
theorem headsP_len:∀ (k:Nat) (q:PR) (last:List UInt8) (all:Nat) (acc:List PHead),(headsP k q last all acc).2.2.rest.length<=q.rest.length
 | 0,_,_,_,_=>Nat.le_refl _
 | k+1,q,last,all,acc=>by
  rw [headsP]
  refine Nat.le_trans (headsP_len k _ _ _ _) ?_
  show (twoP (nameP q).2).2.rest.length<=_
  exact Nat.le_trans (two_len _) (name_len _)
theorem codeL_cnt (sl:List UInt8):∀ (f p:Nat) (acc:List PI) (st:List Bool) (l:List PI) (st':List Bool),codeL sl (sl.length / 8) f p acc st=some (l,st')->acc.length<=p->p<=sl.length / 8->l.length<=sl.length / 8
 | 0,p,acc,st,l,st',h,_,_=>by cases h
 | f+1,p,acc,st,l,st',h,ha,hp=>by
  rw [codeL] at h
  split at h
  ·rename_i hlt
   split at h
   ·cases h
   ·rename_i x hx
    have h1:=from_len _ _ hx
    have h2:=(from_ok _ _ hx).slots
    rw [List.length_drop] at h1
    exact codeL_cnt sl f _ _ _ l st' h (by simp;omega) (by omega)
  ·cases h;omega
theorem codeP_cnt (sl:List UInt8) (q:PR):(codeP sl q).1.length<=sl.length / 8:=by
 unfold codeP
 split
 ·simp
 ·rename_i l st h
  exact codeL_cnt sl _ 0 [] _ l st h (Nat.le_refl _) (Nat.zero_le _)
theorem codeP_rest (sl:List UInt8) (q:PR):(codeP sl q).2.rest=q.rest:=by
 unfold codeP
 split<;>rfl
theorem codesP_cnt:∀ (hs:List PHead) (r:PR) (acc:List PFn) (B:Nat),(∀ h∈hs,h.slots<=B)->(∀ f∈acc,f.code.length<=B)->(codesP hs r acc).1.length=acc.length+hs.length/\(∀ f∈(codesP hs r acc).1,f.code.length<=B)/\(codesP hs r acc).2.rest.length<=r.rest.length
 | [],r,acc,B,_,ha=>⟨rfl,ha,Nat.le_refl _⟩
 | h::hs,r,acc,B,hh,ha=>by
  rw [codesP]
  have h1:=codeP_cnt (takeP (h.slots*8) r).1 (takeP (h.slots*8) r).2
  have h2:=take_le (h.slots*8) r
  have h3:=hh h (by simp)
  obtain ⟨e1,e2,e3⟩:=codesP_cnt hs (codeP (takeP (h.slots*8) r).1 (takeP (h.slots*8) r).2).2 (acc++[⟨h.name,(codeP (takeP (h.slots*8) r).1 (takeP (h.slots*8) r).2).1⟩]) B (fun x hx=>hh x (List.mem_cons_of_mem _ hx)) (fun f hf=>by
   rcases List.mem_append.1 hf with h' | h'
   ·exact ha f h'
   ·rw [List.mem_singleton.1 h']
    show (codeP (takeP (h.slots*8) r).1 (takeP (h.slots*8) r).2).1.length<=B
    omega)
  refine ⟨by rw [e1];simp;omega,e2,Nat.le_trans e3 ?_⟩
  rw [codeP_rest];exact take_len _ _
theorem funcsP_cnt (q:PR):(funcsP q).1.length<=256/\(∀ f∈(funcsP q).1,f.code.length<=2000)/\(funcsP q).2.rest.length<=q.rest.length:=by
 have h1:=one_lt q
 have hl:=one_len q
 have hfp:funcsP q=if (wantP (decide ((headsP (oneP q).1 (wantP (decide ((oneP q).1<=16)) (oneP q).2) [] 0 []).2.1<=200)) (headsP (oneP q).1 (wantP (decide ((oneP q).1<=16)) (oneP q).2) [] 0 []).2.2).bad then ([],wantP (decide ((headsP (oneP q).1 (wantP (decide ((oneP q).1<=16)) (oneP q).2) [] 0 []).2.1<=200)) (headsP (oneP q).1 (wantP (decide ((oneP q).1<=16)) (oneP q).2) [] 0 []).2.2) else codesP (headsP (oneP q).1 (wantP (decide ((oneP q).1<=16)) (oneP q).2) [] 0 []).1 (wantP (decide ((headsP (oneP q).1 (wantP (decide ((oneP q).1<=16)) (oneP q).2) [] 0 []).2.1<=200)) (headsP (oneP q).1 (wantP (decide ((oneP q).1<=16)) (oneP q).2) [] 0 []).2.2) []:=rfl
 rw [hfp]
 have e1:=headsP_cnt (oneP q).1 (wantP (decide ((oneP q).1<=16)) (oneP q).2) [] 0 []
 have e2:=headsP_sum (oneP q).1 (wantP (decide ((oneP q).1<=16)) (oneP q).2) [] 0 [] rfl
 have e3:(headsP (oneP q).1 (wantP (decide ((oneP q).1<=16)) (oneP q).2) [] 0 []).2.2.rest.length<=q.rest.length:=Nat.le_trans (headsP_len _ _ _ _ _) hl
 generalize headsP (oneP q).1 (wantP (decide ((oneP q).1<=16)) (oneP q).2) [] 0 []=hd at *
 split
 ·exact ⟨by simp,fun f hf=>(by cases hf),e3⟩
 ·rename_i hb
  have ht:hd.2.1<=200:=by
   simp [wantP] at hb
   omega
  obtain ⟨k1,k2,k3⟩:=codesP_cnt hd.1 (wantP (decide (hd.2.1<=200)) hd.2.2) [] 200 (fun h hm=>by have:=sumH_mem _ h hm;omega) (fun f hf=>(by cases hf))
  simp only [List.length_nil] at e1 k1
  exact ⟨by omega,fun f hf=>Nat.le_trans (k2 f hf) (by omega),Nat.le_trans k3 e3⟩
def DecPost (w:World) (bs:List Nat) (d:List PMap × List PFn × PR) (e:Ending) (w':World):Prop :=
 ∃ vM vF vs,e=.returned (.tuple #[.agg #[vM,vF],.bool (!d.2.2.bad)])/\Mods Nil' w w'/\(∃ o n c o' n' c',vM=.slice o n c/\vF=.slice o' n' c') /\
  (d.2.2.bad=false->Sl w' 47 4 vM d.1.length (d.1.flatMap PMap.cells)/\Fns w' w.heap.size bs vF d.2.1 vs)
structure DInv (w:World) (q:PR) (w':World):Prop where
 rd:PRd w' (w.heap.size+1) q
 rs:Blk w' w.heap.size #[.slice none 0 0,.slice none 0 0] 37
 md:Mods Nil' w w'
theorem DInv.read {w w' w'':World} {q q':PR} (h:DInv w q w') (hr:PRd w'' (w.heap.size+1) q') (m:Mods (Only (w.heap.size+1)) w' w''):DInv w q' w'' :=
 ⟨hr,h.rs.mods m (show ¬ w.heap.size=w.heap.size+1 by omega),h.md.step m (fun i hi e=>by have:i=w.heap.size+1:=e;omega)⟩
theorem decodeP_steps {s:List UInt8} {a1:List UInt8} {q1 q2:PR} {n3:Nat} {q3 q4:PR} {ms:List PMap} {q5:PR} {fs:List PFn} {q6:PR} {gs:List PFn} {q7:PR} (h1:takeP 4 ⟨s,false⟩=(a1,q1)) (h2:wantP (a1==[83,80,79,76]) q1=q2) (h3:oneP q2=(n3,q3)) (h4:wantP (decide (n3=1)) q3=q4) (h5:mapsP (oneP q4).1 (wantP (decide ((oneP q4).1<=8)) (oneP q4).2) [] []=(ms,q5)) (h6:funcsP q5=(fs,q6)) (h7:refsP ms fs q6=(gs,q7)) :
  decodeP s=(ms,gs,wantP (q7.rest==[]) q7):=by
 unfold decodeP
 simp only [h1,h2,h3,h4,h5,h6,h7]
theorem Fns.lower {w:World} {lo lo':Nat} {bs:List Nat} {v:Value} {fs:List PFn} {vs:List Value} (h:Fns w lo bs v fs vs) (hl:lo'<=lo):Fns w lo' bs v fs vs :=
 ⟨h.len,h.sl,h.cd,h.ok,fun k hk=>Nat.le_trans hl (h.own k hk),fun u hu k hk=>Nat.le_trans hl (h.ownC u hu k hk),h.ne⟩
set_option maxRecDepth 100000 in
set_option maxHeartbeats 2000000 in
theorem decode_any (w:World) (wT:World) (tv:Value) (bs:List Nat) (hT:OpsIn 0 wT tv bs tableS) (mT:Mods Nil' wT w) (s:List UInt8) (hs:s.length<=maxLen) :
  Calls Tryz.prog 30 #[tv,.int .i64 1,.string (T s),.func (.func 31) #[] #[]] w fun e w'=>DecPost w bs (decodeP s) e w':=by
 obtain ⟨oT,cT,hv,_⟩:=hT.sl.view;subst hv;have HT:=hid hT;have HMT:=hid mT;clear hT mT
 have hTw:=HMT.out.size
 obtain ⟨a1,q1,h1⟩:∃ a q,takeP 4 ⟨s,false⟩=(a,q):=⟨_,_,rfl⟩
 obtain ⟨q2,h2⟩:∃ q2,wantP (a1==[83,80,79,76]) q1=q2:=⟨_,rfl⟩
 obtain ⟨n3,q3,h3⟩:∃ a q,oneP q2=(a,q):=⟨_,_,rfl⟩
 obtain ⟨q4,h4⟩:∃ q,wantP (decide (n3=1)) q3=q:=⟨_,rfl⟩
 obtain ⟨ms,q5,h5⟩:∃ a q,mapsP (oneP q4).1 (wantP (decide ((oneP q4).1<=8)) (oneP q4).2) [] []=(a,q):=⟨_,_,rfl⟩
 obtain ⟨fs,q6,h6⟩:∃ a q,funcsP q5=(a,q):=⟨_,_,rfl⟩
 obtain ⟨gs,q7,h7⟩:∃ a q,refsP ms fs q6=(a,q):=⟨_,_,rfl⟩
 rw [decodeP_steps h1 h2 h3 h4 h5 h6 h7]
 have l1:q1.rest.length<=maxLen:=by have:=take_len 4 ⟨s,false⟩;rw [h1] at this;exact Nat.le_trans this hs
 have l2:q2.rest.length<=maxLen:=by rw [<- h2];exact l1
 have l3:q3.rest.length<=maxLen:=by have:=one_len q2;rw [h3] at this;exact Nat.le_trans this l2
 have l4:q4.rest.length<=maxLen:=by rw [<- h4];exact l3
 have l5:q5.rest.length<=maxLen:=by have:=mapsP_len (oneP q4).1 (wantP (decide ((oneP q4).1<=8)) (oneP q4).2) [] [];rw [h5] at this;exact Nat.le_trans this (Nat.le_trans (one_len q4) l4)
 have m5:ms.length<=1000:=by have:=mapsP_cnt (oneP q4).1 (wantP (decide ((oneP q4).1<=8)) (oneP q4).2) [] [];rw [h5] at this;have:=one_lt q4;simp at *;omega
 obtain ⟨f6,c6,l6⟩:=funcsP_cnt q5;rw [h6] at f6 c6 l6
 simp only at f6 c6 l6
 have l6':=Nat.le_trans l6 l5
 have C1:Hid (∀ w b,PRd w b ⟨s,false⟩->Calls Tryz.prog 58 #[.pointer (some ⟨b,0,none⟩),.int .i64 4] w fun e w'=>e=.returned (.string (T a1))/\PRd w' b q1/\Mods (Only b) w w'):=fun w b h=>by have:=take_any b ⟨s,false⟩ 4 w h hs (by decide);rw [h1] at this;exact this
 have C2:Hid (∀ w b,PRd w b q1->Calls Tryz.prog 57 #[.pointer (some ⟨b,0,none⟩),.bool (a1==[83,80,79,76])] w fun e w'=>e=.returned (.tuple #[])/\PRd w' b q2/\Mods (Only b) w w'):=fun w b h=>by have:=want_any b q1 (a1==[83,80,79,76]) w h;rw [h2] at this;exact this
 have C3:Hid (∀ w b,PRd w b q2->Calls Tryz.prog 59 #[.pointer (some ⟨b,0,none⟩)] w fun e w'=>e=.returned (.int .i64 n3)/\PRd w' b q3/\Mods (Only b) w w'):=fun w b h=>by have:=one_any b q2 w h l2;rw [h3] at this;exact this
 have C4:Hid (∀ w b,PRd w b q3->Calls Tryz.prog 57 #[.pointer (some ⟨b,0,none⟩),.bool ((n3:Int)==1)] w fun e w'=>e=.returned (.tuple #[])/\PRd w' b q4/\Mods (Only b) w w'):=fun w b h=>by
  have:=want_any b q3 (decide (n3=1)) w h
  rw [h4] at this
  rwa [show ((n3:Int)==1)=decide (n3=1) by rw [Bool.eq_iff_iff];simp;omega]
 have C5:Hid (∀ w b,PRd w b q4->Calls Tryz.prog 60 #[.pointer (some ⟨b,0,none⟩)] w fun e w'=>MapsPost w b q5 ms e w'):=fun w b h=>by have:=pmaps_any b q4 w h l4;rw [h5] at this;exact this
 have C6:Hid (∀ w b,PRd w b q5->Mods Nil' wT w->wT.heap.size<=b->Calls Tryz.prog 61 #[.pointer (some ⟨b,0,none⟩),.slice oT bs.length cT] w fun e w'=>FuncsPost w b bs q6 fs e w'):=fun w b h m hb=>by have:=funcs_any w b q5 h l5 wT _ bs HT.out m hb;rw [h6] at this;exact this
 have C7:Hid (∀ w b lo vM vF vs,PRd w b q6->Mods Nil' wT w->wT.heap.size<=b->wT.heap.size<=lo->Sl w 47 4 vM ms.length (ms.flatMap PMap.cells)->Fns w lo bs vF fs vs->Calls Tryz.prog 31 #[.pointer (some ⟨b,0,none⟩),.agg #[vM,vF]] w fun e w'=>e=.returned (.tuple #[])/\RInv w lo b bs q7 vF gs vs w'):=fun w b lo vM vF vs h m hb hlo hM hF=>by have:=prefs_any w b q6 h l6' wT _ bs HT.out m hb lo hlo ms m5 vM hM fs f6 c6 vF vs hF;rw [h7] at this;exact this
 clear h1 h2 h3 h4 h5 h6 h7 l1 l2 l3 l4 l5 l6 l6' m5 f6 c6 HT
 have D0:Hid (DInv w ⟨s,false⟩ ((w.alloc (.cells #[.slice none 0 0,.slice none 0 0] 37)).alloc (.cells #[.string (T s),.bool false] 124))) :=
  ⟨by have:=Blk.new (w.alloc (.cells #[.slice none 0 0,.slice none 0 0] 37)) #[.string (T s),.bool false] 124;simpa [PRd] using this,(Blk.new _ _ _).alloc _,((Mods.refl _ _).alloc _).alloc _⟩
 have hcmp:((T a1).toList==[83,80,79,76])=(a1==[83,80,79,76]):=by simp [T]
 have hb:wT.heap.size<=w.heap.size+1:=by omega
 go_enter Tryz.func30,Tryz.ntmps30
 go_wp2_with fail
 refine (C1.out _ _ D0.out.rd).mono ?_
 rintro e w1 ⟨rfl,h1,m1⟩
 have D1:Hid (DInv w q1 w1):=D0.out.read h1 m1
 clear D0 h1 m1;go_wp2_with fail
 refine (C2.out _ _ D1.out.rd).mono ?_
 rintro e w2 ⟨rfl,h2,m2⟩
 have D2:Hid (DInv w q2 w2):=D1.out.read h2 m2
 clear D1 h2 m2;go_wp2_with fail
 refine (C3.out _ _ D2.out.rd).mono ?_
 rintro e w3 ⟨rfl,h3,m3⟩
 have D3:Hid (DInv w q3 w3):=D2.out.read h3 m3
 clear D2 h3 m3;go_wp2_with fail
 refine (C4.out _ _ D3.out.rd).mono ?_
 rintro e w4 ⟨rfl,h4,m4⟩
 have D4:Hid (DInv w q4 w4):=D3.out.read h4 m4
 clear D3 h4 m4;go_wp2_with fail
 refine (C5.out _ _ D4.out.rd).mono ?_
 rintro e w5 ⟨vM,rfl,hM⟩;obtain ⟨oM,cM,rfl,_⟩:=hM.sl.view
 have D5:Hid (DInv w q5 w5):=D4.out.read hM.rd hM.md
 have HM5:=hid hM.sl;have HML:=hid hM.sl.lt;clear D4 hM
 have D5':Hid (DInv w q5 (w5.alloc (.cells #[.slice oM ms.length cM,.slice none 0 0] 37))):=⟨Blk.alloc D5.out.rd _,D5.out.rs.alloc _,D5.out.md.alloc _⟩
 have HPb:Hid (Blk (w5.alloc (.cells #[.slice oM ms.length cM,.slice none 0 0] 37)) w5.heap.size #[.slice oM ms.length cM,.slice none 0 0] 37):=Blk.new _ _ _
 have HM5':Hid (Sl (w5.alloc (.cells #[.slice oM ms.length cM,.slice none 0 0] 37)) 47 4 (.slice oM ms.length cM) ms.length (ms.flatMap PMap.cells)):=HM5.out.mods ((Mods.refl Nil' _).alloc _) (fun _ _=>id)
 have h5s:w.heap.size+1<w5.heap.size:=D5.out.rd.lt
 clear D5 HM5;go_wp2_with fail
 refine (C6.out _ _ D5'.out.rd (HMT.out.trans D5'.out.md) hb).mono ?_
 rintro e w6 ⟨vF,vs,rfl,h6,hF,m6⟩;obtain ⟨oF,cF,rfl,_⟩:=hF.sl.view
 have D6:Hid (DInv w q6 w6):=D5'.out.read h6 m6
 have HPb6:Hid (Blk w6 w5.heap.size #[.slice oM ms.length cM,.slice none 0 0] 37):=HPb.out.mods m6 (show ¬ w5.heap.size=w.heap.size+1 by omega)
 have HM6:Hid (Sl w6 47 4 (.slice oM ms.length cM) ms.length (ms.flatMap PMap.cells)):=HM5'.out.mods m6 (fun k hk e=>HM5'.out.notBlk D5'.out.rd (by decide) (hk.trans (congrArg some e)))
 have HF6:Hid (Fns w6 (w5.heap.size+1) bs (.slice oF fs.length cF) fs vs):=by have h':=hF;simp at h';exact h'
 clear h6 hF m6 D5' HPb HM5'
 have y1:w6.cell? ⟨w5.heap.size,1,none⟩=some (.slice none 0 0):=HPb6.out.cell 1
 have f1:=HPb6.out.frozen 1
 have HPb7:Hid (Blk (w6.setCell ⟨w5.heap.size,1,none⟩ (.slice oF fs.length cF)) w5.heap.size #[.slice oM ms.length cM,.slice oF fs.length cF] 37):=HPb6.out.set 1 _
 have D7:Hid (DInv w q6 (w6.setCell ⟨w5.heap.size,1,none⟩ (.slice oF fs.length cF))):=⟨Blk.setOther D6.out.rd (show w5.heap.size≠w.heap.size+1 by omega) _,Blk.setOther D6.out.rs (show w5.heap.size≠w.heap.size by omega) _,D6.out.md.set (.inr (show w.heap.size<=w5.heap.size by omega)) _⟩
 have HM7:Hid (Sl (w6.setCell ⟨w5.heap.size,1,none⟩ (.slice oF fs.length cF)) 47 4 (.slice oM ms.length cM) ms.length (ms.flatMap PMap.cells)):=HM6.out.mods ((Mods.refl (Only w5.heap.size) w6).setb _ _) (fun k hk e=>HM6.out.notBlk HPb6.out (by decide) (hk.trans (congrArg some e)))
 have HF7:Hid (Fns (w6.setCell ⟨w5.heap.size,1,none⟩ (.slice oF fs.length cF)) (w5.heap.size+1) bs (.slice oF fs.length cF) fs vs):=HF6.out.mods ((Mods.refl (Only w5.heap.size) w6).setb _ _) (fun k hk e=>by have:=HF6.out.own k hk;have:k=w5.heap.size:=e;omega) (fun u hu k hk e=>by have:=HF6.out.ownC u hu k hk;have:k=w5.heap.size:=e;omega)
 have z0:(w6.setCell ⟨w5.heap.size,1,none⟩ (.slice oF fs.length cF)).cell? ⟨w5.heap.size,0,none⟩=some (.slice oM ms.length cM):=HPb7.out.cell 0
 have z1:(w6.setCell ⟨w5.heap.size,1,none⟩ (.slice oF fs.length cF)).cell? ⟨w5.heap.size,1,none⟩=some (.slice oF fs.length cF):=HPb7.out.cell 1
 clear HPb6 HM6 HF6 D6;go_wp2_with fail
 refine (C7.out _ _ (w5.heap.size+1) _ _ vs D7.out.rd (HMT.out.trans D7.out.md) hb (by omega) HM7.out HF7.out).mono ?_
 rintro e w8 ⟨rfl,hR⟩
 have D8:Hid (DInv w q7 w8):=⟨hR.rd,D7.out.rs.mods hR.md (fun e=>by rcases e with e | e<;>omega),D7.out.md.step hR.md (fun i hi e=>by rcases e with e | e<;>omega)⟩
 have HPb8:Hid (Blk w8 w5.heap.size #[.slice oM ms.length cM,.slice oF fs.length cF] 37):=HPb7.out.mods hR.md (fun e=>by rcases e with e | e<;>omega)
 have HM8:Hid (Sl w8 47 4 (.slice oM ms.length cM) ms.length (ms.flatMap PMap.cells)):=HM7.out.mods hR.md (fun k hk e=>by
  rcases e with e | e
  ·exact HM7.out.notBlk D7.out.rd (by decide) (hk.trans (congrArg some e))
  ·have:=HML.out k hk;omega)
 have HF8:=hid hR.fn;clear hR D7 HPb7 HM7 HF7 z0 z1 y1 f1;obtain ⟨r7,b7⟩:=q7
 have x0:w8.cell? ⟨w.heap.size+1,0,none⟩=some (.string (T r7)):=D8.out.rd.cell 0
 go_wp2_with fail
 refine (want_any _ _ _ _ D8.out.rd).mono ?_
 rintro e w9 ⟨rfl,h9,m9⟩
 simp only
 rw [show (T r7).toList=r7 by simp [T]] at h9
 have D9:Hid (DInv w (wantP r7.isEmpty ⟨r7,b7⟩) w9):=D8.out.read h9 m9
 have HPb9:Hid (Blk w9 w5.heap.size #[.slice oM ms.length cM,.slice oF fs.length cF] 37):=HPb8.out.mods m9 (show ¬ w5.heap.size=w.heap.size+1 by omega)
 have HM9:Hid (Sl w9 47 4 (.slice oM ms.length cM) ms.length (ms.flatMap PMap.cells)):=HM8.out.mods m9 (fun k hk e=>HM8.out.notBlk D8.out.rd (by decide) (hk.trans (congrArg some e)))
 have HF9:Hid (Fns w9 (w5.heap.size+1) bs (.slice oF fs.length cF) gs vs):=HF8.out.read D8.out.rd m9
 clear h9 m9 D8 HPb8 HM8 HF8 x0
 have HQ:Hid (∃ q8,wantP r7.isEmpty ⟨r7,b7⟩=q8):=⟨_,rfl⟩
 obtain ⟨⟨r8,b8⟩,hq8⟩:=HQ.out
 rw [hq8] at D9;have HQ8:=hid hq8;clear hq8 HQ
 have x1:w9.cell? ⟨w.heap.size+1,1,none⟩=some (.bool b8):=D9.out.rd.cell 1
 have g0:w9.cell? ⟨w.heap.size,0,none⟩=some (.slice none 0 0):=D9.out.rs.cell 0
 have g1:w9.cell? ⟨w.heap.size,1,none⟩=some (.slice none 0 0):=D9.out.rs.cell 1
 have fg:=D9.out.rs.frozen
 cases b8 with
 | true =>
  go_wp2_with fail
  refine bodyPost_ret (results_cell_tmp_row Tryz.results30 _ _ w.heap.size 37 _ (0,0) _ _ rfl rfl ((D9.out.rs.set 0 _).set 1 _) Tryz.underlying37 rfl (by kernel_rfl)) rfl ?_
  rw [HQ8.out]
  exact ⟨_,_,[],rfl,(D9.out.md.set (.inr (Nat.le_refl _)) _).set (.inr (Nat.le_refl _)) _,⟨_,_,_,_,_,_,rfl,rfl⟩,fun h=>(by cases h)⟩
 | false =>
  have z0:w9.cell? ⟨w5.heap.size,0,none⟩=some (.slice oM ms.length cM):=HPb9.out.cell 0
  have z1:w9.cell? ⟨w5.heap.size,1,none⟩=some (.slice oF fs.length cF):=HPb9.out.cell 1
  have HB:Hid (Blk ((w9.setCell ⟨w.heap.size,0,none⟩ (.slice oM ms.length cM)).setCell ⟨w.heap.size,1,none⟩ (.slice oF fs.length cF)) w.heap.size #[.slice oM ms.length cM,.slice oF fs.length cF] 37):=(D9.out.rs.set 0 _).set 1 _
  have HMd:Hid (Mods (Only w.heap.size) w9 ((w9.setCell ⟨w.heap.size,0,none⟩ (.slice oM ms.length cM)).setCell ⟨w.heap.size,1,none⟩ (.slice oF fs.length cF))):=((Mods.refl _ _).setb _ _).setb _ _
  go_wp2_with fail
  refine bodyPost_ret (results_cell_tmp_row Tryz.results30 _ _ w.heap.size 37 _ (0,0) _ _ rfl rfl HB.out Tryz.underlying37 rfl (by kernel_rfl)) rfl ?_
  rw [HQ8.out]
  exact ⟨_,_,vs,rfl,D9.out.md.step HMd.out (fun i hi e=>by have:i=w.heap.size:=e;omega),⟨_,_,_,_,_,_,rfl,rfl⟩,fun _=>⟨HM9.out.mods HMd.out (fun k hk e=>HM9.out.notBlk D9.out.rs (by decide) (hk.trans (congrArg some e))),((HF9.out.mods HMd.out (fun k hk e=>by have:=HF9.out.own k hk;have:k=w.heap.size:=e;omega) (fun u hu k hk e=>by have:=HF9.out.ownC u hu k hk;have:k=w.heap.size:=e;omega)).lower (by omega))⟩⟩
set_option maxHeartbeats 400000 in
theorem decObj_any (w:World) (wT:World) (tv:Value) (bs:List Nat) (hT:OpsIn 0 wT tv bs tableS) (mT:Mods Nil' wT w) (s:List UInt8) (hs:s.length<=maxLen) :
  Calls Tryz.prog 14 #[tv,.string (T s)] w fun e w'=>DecPost w bs (decodeP s) e w':=by
 have HD:Hid (∀ w',Mods Nil' w w'->Calls Tryz.prog 30 #[tv,.int .i64 1,.string (T s),.func (.func 31) #[] #[]] w' fun e w''=>DecPost w' bs (decodeP s) e w''):=fun w' m=>decode_any w' wT tv bs hT (mT.trans m) s hs
 clear hT mT;generalize decodeP s=d at *
 have hB:Blk (w.alloc (.cells #[.slice none 0 0,.slice none 0 0] 37)) w.heap.size #[.slice none 0 0,.slice none 0 0] 37:=Blk.new _ _ _
 have HB:=hid hB;clear hB
 go_enter Tryz.func14,Tryz.ntmps14
 go_wp2_with fail
 refine (HD.out _ ((Mods.refl _ _).alloc _)).mono ?_
 rintro e w1 ⟨vM,vF,vs,rfl,m1,⟨oM,nM,cM,oF,nF,cF,rfl,rfl⟩,hgood⟩
 have hB1:=HB.out.mods m1 id
 have HB1:=hid hB1
 have g0:w1.cell? ⟨w.heap.size,0,none⟩=some (.slice none 0 0):=hB1.cell 0
 have g1:w1.cell? ⟨w.heap.size,1,none⟩=some (.slice none 0 0):=hB1.cell 1
 have fg:=hB1.frozen
 have HM1:Hid (Mods Nil' w w1):=((Mods.refl _ _).alloc _).trans m1
 have HG:Hid _:=hgood
 clear m1 hB1 hgood
 have HMd:Hid (Mods (Only w.heap.size) w1 ((w1.setCell ⟨w.heap.size,0,none⟩ (.slice oM nM cM)).setCell ⟨w.heap.size,1,none⟩ (.slice oF nF cF))):=((Mods.refl _ _).setb _ _).setb _ _
 have HBB:Hid (Blk ((w1.setCell ⟨w.heap.size,0,none⟩ (.slice oM nM cM)).setCell ⟨w.heap.size,1,none⟩ (.slice oF nF cF)) w.heap.size #[.slice oM nM cM,.slice oF nF cF] 37):=(HB1.out.set 0 _).set 1 _
 go_wp2_with fail
 refine bodyPost_ret (results_cell_tmp_row Tryz.results14 _ _ w.heap.size 37 _ (0,0) _ (.bool (!d.2.2.bad)) rfl rfl HBB.out Tryz.underlying37 rfl (by kernel_rfl)) rfl ?_
 refine ⟨.slice oM nM cM,.slice oF nF cF,vs,rfl,HM1.out.step HMd.out (fun i hi e=>by have:i=w.heap.size:=e;omega),⟨_,_,_,_,_,_,rfl,rfl⟩,fun hb=>?_⟩
 obtain ⟨hM,hF⟩:=HG.out hb
 have hws:(w.alloc (.cells #[.slice none 0 0,.slice none 0 0] 37)).heap.size=w.heap.size+1:=by simp
 rw [hws] at hF
 exact ⟨hM.mods HMd.out (fun k hk e=>hM.notBlk HB1.out (by decide) (hk.trans (congrArg some e))),(hF.mods HMd.out (fun k hk e=>by have:=hF.own k hk;have:k=w.heap.size:=e;omega) (fun u hu k hk e=>by have:=hF.ownC u hu k hk;have:k=w.heap.size:=e;omega)).lower (by omega)⟩
end Go.Proofs.YtnhcaifopaeohaaGreatDoor
