import Derived.Test.YtnhcaifopaeohaaGreatDoorM35
namespace Go.Proofs.YtnhcaifopaeohaaGreatDoor
open Go.RowKit
set_option linter.all false
set_option maxHeartbeats 400000 in
theorem mnEq_any (w:World) (b:Nat) (nm:ByteArray) (hb:Blk w b #[.string nm] 9) (a:ByteArray) (x y z:Int) :
  Calls Tryz.prog 123 #[.agg #[.string a,.int .u8 x,.int .u8 y,.int .u8 z],.pointer (some ⟨b,0,none⟩)] w fun e w'=>e=.returned (.bool (a.toList==nm.toList))/\Mods Nil' w w':=by
 have c0:w.cell? ⟨b,0,none⟩=some (.string nm):=hb.cell 0
 have hbl:=hb.lt
 clear hb
 go_enter Tryz.func123,Tryz.ntmps123
 go_wp2_with fail;go_ret
 exact ⟨rfl,(Mods.refl _ _).alloc _⟩
set_option maxHeartbeats 1000000 in
theorem idxM_any (w:World) (b:Nat) (nm:ByteArray) (hb:Blk w b #[.string nm] 9) (rows:List PMap) (vM:Value) (hM:Sl w 47 4 vM rows.length (rows.flatMap PMap.cells)) (hl:rows.length<=1000) :
  Calls Tryz.prog 122 #[vM,.func (.func 123) #[] #[.pointer (some ⟨b,0,none⟩)]] w fun e w'=>e=.returned (.int .i64 (placeM nm (rows.map (fun x=>T x.name))))/\Mods Nil' w w':=by
 obtain ⟨oF,cF,hvF,_⟩:=hM.view;subst hvF;have HF:=hid hM;have HB:=hid hb;clear hM hb
 have hE71:=enters_of (P:=Tryz.prog) Tryz.func123 (by kernel_rfl) rfl
 go_enter Tryz.func122,Tryz.ntmps122
 go_wp2_with fail
 go_loopg [8] rows.length (fun g iv wx=>∃ k:Nat,k<=rows.length/\iv=.int .i64 k/\Mods Nil' w wx/\(∀ j,(hj:j<rows.length)->j<k->T rows[j].name≠nm)/\g=rows.length - k)
 case atStart=>exact ⟨0,Nat.zero_le _,rfl,Mods.refl _ _,fun j _ h=>absurd h (Nat.not_lt_zero _),rfl⟩
 case round =>
  obtain ⟨k,hk,rfl,hmd,hn,rfl⟩:=hrel;have HN:=hid hn;have HMD:=hid hmd;clear hn hmd
  by_cases hlt:k<rows.length
  ·obtain ⟨o',cap',hvv,h2⟩:=(HF.out.mods HMD.out (fun _ _=>id)).view
   cases hvv
   obtain ⟨g,cs,rfl,hb',ht',_⟩:=h2 (by omega)
   have key:∀ c,c<4->wr.cell? ⟨g,k*4+c,none⟩=(PMap.cells rows[k])[c]?:=fun c hc=>by
    rw [take_cell hb' ht' (k*4+c) (by omega)]
    exact flat_get PMap.cells 4 (fun _=>rfl) rows k c hlt hc
   have c0:wr.cell? ⟨g,k*4,none⟩=some (.string (T rows[k].name)):=key 0 (by omega)
   have c1:wr.cell? ⟨g,k*4+1,none⟩=some (.int .u8 rows[k].key):=key 1 (by omega)
   have c2:wr.cell? ⟨g,k*4+2,none⟩=some (.int .u8 rows[k].value):=key 2 (by omega)
   have c3:wr.cell? ⟨g,k*4+3,none⟩=some (.int .u8 rows[k].entries):=key 3 (by omega)
   have HEQ:Hid (Calls Tryz.prog 123 #[.agg #[.string (T rows[k].name),.int .u8 rows[k].key,.int .u8 rows[k].value,.int .u8 rows[k].entries],.pointer (some ⟨b,0,none⟩)] wr fun e w'=>e=.returned (.bool ((T rows[k].name).toList==nm.toList))/\Mods Nil' wr w'):=mnEq_any wr b nm (HB.out.mods HMD.out id) (T rows[k].name) _ _ _
   have HPL:Hid (T rows[k].name=nm->placeM nm (rows.map (fun x=>T x.name))=k):=fun he=>placeM_at nm (rows.map (fun x=>T x.name)) k (by simpa using hlt) (fun j hj hjk=>by simpa using HN.out j (by simpa using hj) hjk) (by simpa using he)
   have HN2:Hid (T rows[k].name≠nm->∀ j,(hj:j<rows.length)->j<k+1->T rows[j].name≠nm):=fun he j hj hjk=>by
    by_cases e:j=k
    ·subst e;exact he
    ·exact HN.out j hj (by omega)
   clear hb' ht' h2 key
   have HEB:Hid (((T rows[k].name).toList==nm.toList)=decide (T rows[k].name=nm)):=by
    rw [Hid]
    by_cases he:T rows[k].name=nm
    ·rw [str_eq he];simp [he]
    ·rw [str_ne he];simp [he]
   generalize T rows[k].name=tk at *;generalize rows[k].key=xk at *;generalize rows[k].value=xv at *;generalize rows[k].entries=xe at *;go_wp2_with fail;refine HEQ.out.mono ?_;rintro e w2 ⟨rfl,m2⟩;rw [HEB.out]
   have HM2:Hid (Mods Nil' w w2):=HMD.out.trans m2
   clear HEB HEQ m2
   by_cases he:tk=nm
   ·have hd:decide (tk=nm)=true:=by simpa using he
    have HP:Hid (placeM nm (rows.map (fun x=>T x.name))=k):=HPL.out he
    rw [hd];clear hd he;go_wp2_with fail;go_ret
    exact ⟨ret_i64 HP.out.symm,HM2.out⟩
   ·have hd:decide (tk=nm)=false:=by simpa using he
    have HN3:Hid (∀ j,(hj:j<rows.length)->j<k+1->T rows[j].name≠nm):=HN2.out he
    rw [hd];clear hd he;go_wp2_with fail
    go_roundg (rows.length - (k+1))
    case measure=>omega
    case rel=>exact ⟨k+1,by omega,by go_num,HM2.out,HN3.out,rfl⟩
  ·have HP:Hid (placeM nm (rows.map (fun x=>T x.name))=-1):=by
    refine placeM_none nm _ (fun j hj=>?_)
    have hj':j<rows.length:=by simpa using hj
    simpa using HN.out j hj' (by omega)
   go_wp2_with fail;go_ret
   exact ⟨ret_i64 HP.out.symm,HMD.out⟩
set_option maxHeartbeats 400000 in
theorem mnum_any (w:World) (nm:ByteArray) (rows:List PMap) (vM vF:Value) (o1:Option Addr) (n1 c1:Nat) (hF:vF=.slice o1 n1 c1) (hM:Sl w 47 4 vM rows.length (rows.flatMap PMap.cells)) (hl:rows.length<=1000) :
  Calls Tryz.prog 56 #[.agg #[vM,vF],.string nm] w fun e w'=>e=.returned (.int .i64 (placeM nm (rows.map (fun x=>T x.name))))/\Mods Nil' w w':=by
 subst hF;obtain ⟨oM,cM,hvM,_⟩:=hM.view;subst hvM
 have HI:Hid (∀ w',Mods Nil' w w'->∀ b,Blk w' b #[.string nm] 9->Calls Tryz.prog 122 #[.slice oM rows.length cM,.func (.func 123) #[] #[.pointer (some ⟨b,0,none⟩)]] w' fun e w2=>e=.returned (.int .i64 (placeM nm (rows.map (fun x=>T x.name))))/\Mods Nil' w' w2) :=
  fun w' m b hb=>idxM_any w' b nm hb rows _ (hM.mods m (fun _ _=>id)) hl
 clear hM
 go_enter Tryz.func56,Tryz.ntmps56
 go_wp2_with fail
 refine (HI.out _ (((Mods.refl _ _).alloc _).alloc _) (w.heap.size+1) ?_).mono ?_
 ·have:=Blk.new (w.alloc (.cells #[.slice oM rows.length cM,.slice o1 n1 c1] 37)) #[.string nm] 9
  rw [show (w.alloc (.cells #[.slice oM rows.length cM,.slice o1 n1 c1] 37)).heap.size=w.heap.size+1 by simp] at this
  exact this
 ·rintro e w2 ⟨rfl,m2⟩;go_wp2_with fail;go_ret
  exact ⟨rfl,(((Mods.refl _ _).alloc _).alloc _).trans m2⟩
def decsP:List (List UInt8)->List (List PMap × List PFn)
 | []=>[]
 | s::l=>if (decodeP s).2.2.bad then [] else ((decodeP s).1,(decodeP s).2.1)::decsP l
structure PartD where
 vM:Value
 vF:Value
 ms:List PMap
 fs:List PFn
 vs:List Value
 lo:Nat
def PartD.cells (p:PartD):List Value:=[p.vM,p.vF]
def PartD.plain (p:PartD):List PMap × List PFn:=(p.ms,p.fs)
structure PartAt (w:World) (bs:List Nat) (p:PartD):Prop where
 maps:Sl w 47 4 p.vM p.ms.length (p.ms.flatMap PMap.cells)
 fns:Fns w p.lo bs p.vF p.fs p.vs
theorem PartAt.quiet {w w':World} {bs:List Nat} {p:PartD} (h:PartAt w bs p) (m:Mods Nil' w w'):PartAt w' bs p:=⟨h.maps.mods m (fun _ _=>id),h.fns.quiet m⟩
theorem info_program:(Tryz.prog.info? 37).map (fun i=>(i.zero,i.size,i.bytes))=some (some (.agg #[.slice none 0 0,.slice none 0 0]),2,48):=by kernel_rfl
structure Parts (w0:World) (bs:List Nat) (v:Value) (ps:List PartD) (w:World):Prop where
 sl:Sl w 37 2 v ps.length (ps.flatMap PartD.cells)
 each:∀ p∈ps,PartAt w bs p
 md:Mods Nil' w0 w
 own:∀ k,v.ownBlock=some k->w0.heap.size<=k
 lo:∀ p∈ps,w0.heap.size<=p.lo
 ord:ps.Pairwise (fun p q=>∀ u∈p.vs,∀ k,u.ownBlock=some k->k<q.lo)
theorem Parts.nil (w:World) (bs:List Nat):Parts w bs (.slice none 0 0) [] w where
 sl:=Sl.nil _ _ _
 each:=fun _ h=>by cases h
 md:=Mods.refl _ _
 own:=fun k h=>by cases h
 lo:=fun _ h=>by cases h
 ord:=List.Pairwise.nil
theorem Parts.quiet {w0 w w':World} {bs:List Nat} {v:Value} {ps:List PartD} (h:Parts w0 bs v ps w) (m:Mods Nil' w w'):Parts w0 bs v ps w' :=
 ⟨h.sl.mods m (fun _ _=>id),fun p hp=>(h.each p hp).quiet m,h.md.trans m,h.own,h.lo,h.ord⟩
theorem PartAt.mods {w w':World} {bs:List Nat} {p:PartD} {v:Value} {n:Nat} {xs:List Value} (h:PartAt w bs p) (hs:Sl w 37 2 v n xs) (m:Mods (fun k=>v.ownBlock=some k) w w'):PartAt w' bs p :=
 ⟨h.maps.mods m (fun k hk e=>h.maps.apart hs (by decide) hk e),h.fns.mods m (fun k hk e=>h.fns.sl.apart hs (by decide) hk e) (fun u hu k hk e=>by
  obtain ⟨i,hi,rfl⟩:=List.getElem_of_mem hu
  exact (h.fns.cd i (by rw [<- h.fns.len];exact hi) hi).apart hs (by decide) hk e)⟩
theorem Parts.app {w0 w w':World} {bs:List Nat} {v v':Value} {ps:List PartD} {p:PartD} (h:Parts w0 bs v ps w) (hp:PartAt w bs p) (hlo:w0.heap.size<=p.lo) (hord:∀ q∈ps,∀ u∈q.vs,∀ k,u.ownBlock=some k->k<p.lo)
  (s:Sl w' 37 2 v' (ps.length+1) (ps.flatMap PartD.cells++p.cells)) (m:Mods (fun k=>v.ownBlock=some k) w w') (l:∀ k,v'.ownBlock=some k->v.ownBlock=some k\/w.heap.size<=k):Parts w0 bs v' (ps++[p]) w':=by
 refine ⟨?_,?_,h.md.step m (fun i hi e=>by have:=h.own i e;omega),fun k hk=>?_,?_,?_⟩
 ·rw [List.length_append,List.flatMap_append];simpa using s
 ·intro q hq
  rcases List.mem_append.1 hq with hq | hq
  ·exact (h.each q hq).mods h.sl m
  ·rw [List.mem_singleton.1 hq];exact hp.mods h.sl m
 ·rcases l k hk with e | e
  ·exact h.own k e
  ·have:=h.md.size;omega
 ·intro q hq
  rcases List.mem_append.1 hq with hq | hq
  ·exact h.lo q hq
  ·rw [List.mem_singleton.1 hq];exact hlo
 ·rw [List.pairwise_append]
  exact ⟨h.ord,List.pairwise_singleton _ _,fun q hq r hr=>by rw [List.mem_singleton.1 hr];exact hord q hq⟩
set_option maxRecDepth 100000 in
set_option maxHeartbeats 1000000 in
theorem ldec_any (w:World) (hE:EnvW w) (g cap:Nat) (cs:Array Value) (objs:List (List UInt8)) (hb:Blk w g cs 9) (hcs:∀ k (h:k<objs.length),cs[k]?=some (.string (T objs[k]))) (hn:objs.length<=1000) (hs:∀ s∈objs,s.length<=maxLen) :
  Calls Tryz.prog 25 #[.slice (some ⟨g,0,none⟩) objs.length cap] w fun e w'=>∃ v tv bs ps wT,e=.returned v/\OpsIn 0 wT tv bs tableS/\Mods Nil' w wT/\Parts wT bs v ps w'/\ps.map PartD.plain=decsP objs:=by
 obtain ⟨iP,hiP,hq⟩:=Option.map_eq_some_iff.1 info_program
 have hzP:iP.zero=some (.agg #[.slice none 0 0,.slice none 0 0]):=congrArg (·.1) hq
 have hsP:iP.size=2:=congrArg (·.2.1) hq
 have hbP:iP.bytes=48:=congrArg (·.2.2) hq
 have HB:=hid hb;have HCS:=hid hcs;have HS:=hid hs;have HE:=hid hE;clear hq hb hcs hs hE
 go_enter Tryz.func25,Tryz.ntmps25
 go_wp2_with fail
 refine (table_any _ HE.out).mono ?_
 rintro e wT ⟨tv,bs,rfl,hT,mT⟩;have HT:=hid hT;have HMT:=hid mT
 have HBT:Hid (Blk wT g cs 9):=HB.out.mods mT id
 obtain ⟨oT,cT,hvT,_⟩:=hT.sl.view;clear hT mT HB HE;subst hvT;go_wp2_with fail
 go_loopg [4,12] objs.length (fun gg ov iv wx=>∃ (k:Nat) (ps:List PartD),iv=.int .i64 k/\Parts wT bs ov ps wx/\ps.map PartD.plain++decsP (objs.drop k)=decsP objs/\ps.length=k/\k<=objs.length/\gg=objs.length - k)
 case atStart=>exact ⟨0,[],rfl,Parts.nil _ _,rfl,rfl,Nat.zero_le _,rfl⟩
 case round =>
  obtain ⟨k,ps,rfl,hP,HR0,hpl,hk,rfl⟩:=hrel;have HR:=hid HR0;have HP:=hid hP;have HPL:=hid hpl;clear HR0 hP hpl
  by_cases hkl:k<objs.length
  ·have c0:wr.cell? ⟨g,k,none⟩=some (.string (T objs[k])):=by rw [(HBT.out.mods HP.out.md id).cell k];exact HCS.out k hkl
   have HD:Hid (Calls Tryz.prog 14 #[.slice oT bs.length cT,.string (T objs[k])] wr fun e w'=>DecPost wr bs (decodeP objs[k]) e w'):=decObj_any wr wT _ bs HT.out HP.out.md objs[k] (HS.out _ (List.getElem_mem hkl))
   have HX:Hid (decsP (objs.drop k)=if (decodeP objs[k]).2.2.bad then [] else ((decodeP objs[k]).1,(decodeP objs[k]).2.1)::decsP (objs.drop (k+1))):=by
    rw [Hid,List.drop_eq_getElem_cons hkl,decsP]
   generalize decodeP objs[k]=d at *;generalize T objs[k]=sk at *;go_wp2_with fail;refine HD.out.mono ?_
   rintro e w2 ⟨vM,vF,vs,rfl,m2,⟨a1,a2,a3,b1,b2,b3,rfl,rfl⟩,hok⟩
   have HP2:Hid (Parts wT bs u4 ps (w2.alloc (.cells #[.slice a1 a2 a3,.slice b1 b2 b3] 37))):=HP.out.quiet (m2.alloc _)
   have HLO:Hid (∀ q∈ps,∀ u∈q.vs,∀ k,u.ownBlock=some k->k<wr.heap.size):=by
    intro q hq u hu k hk;obtain ⟨i,hi,rfl⟩:=List.getElem_of_mem hu
    have hf:=(HP.out.each q hq).fns
    exact (hf.cd i (by rw [<- hf.len];exact hi) hi).lt k hk
   have HW0:=hid HP.out.md.size
   rcases bool_cases d.2.2.bad with hbad | hbad
   ·have HXB:Hid (ps.map PartD.plain=decsP objs):=by
     rw [Hid,<- HR.out,HX.out,if_pos hbad,List.append_nil]
    rw [hbad];clear hok HD HX hbad;go_wp2_with fail;go_ret
    exact ⟨_,_,bs,ps,wT,rfl,HT.out,HMT.out,HP2.out,HXB.out⟩
   ·obtain ⟨hsm,hfn⟩:=hok hbad
    have HPA:Hid (PartAt (w2.alloc (.cells #[.slice a1 a2 a3,.slice b1 b2 b3] 37)) bs ⟨.slice a1 a2 a3,.slice b1 b2 b3,d.1,d.2.1,vs,wr.heap.size⟩):=PartAt.quiet ⟨hsm,hfn⟩ ((Mods.refl _ _).alloc _)
    have HXB:Hid ((ps++[(⟨.slice a1 a2 a3,.slice b1 b2 b3,d.1,d.2.1,vs,wr.heap.size⟩:PartD)]).map PartD.plain++decsP (objs.drop (k+1))=decsP objs):=by
     rw [Hid,<- HR.out,HX.out,if_neg (by rw [hbad];decide)]
     simp [PartD.plain]
    rw [hbad];clear hok HD HX hbad hsm hfn
    have hpk:ps.length<=1000:=by rw [HPL.out];omega
    go_wp2_with (at_builtin;refine wpList_append_sl _ rfl (.tmp 24) (.tmp 26) 70 rfl 37 iP (.agg #[.slice none 0 0,.slice none 0 0]) 2 48 Tryz.underlying70 hiP hzP hsP hbP rfl (by decide) u4 ps.length (ps.flatMap PartD.cells) rfl (HP2.out.quiet ((Mods.refl _ _).alloc _)).sl ⟨w2.heap.size+1,0,none⟩ 1 1 [.slice a1 a2 a3,.slice b1 b2 b3] rfl rfl (news_cells _ _ _ _ (by simp)) (fun u hu=>by simp at hu;rcases hu with rfl | rfl<;>rfl) (by unfold maxLen;omega) (by omega) ?_;intro v5 w5 s5 m5 l5)
    have HP5:Hid (Parts wT bs v5 (ps++[⟨.slice a1 a2 a3,.slice b1 b2 b3,d.1,d.2.1,vs,wr.heap.size⟩]) w5):=(HP2.out.quiet ((Mods.refl _ _).alloc _)).app (HPA.out.quiet ((Mods.refl _ _).alloc _)) HW0.out (fun q hq u hu k hk=>HLO.out q hq u hu k hk) s5 m5 l5
    clear s5 m5 l5
    go_roundg (objs.length - (k+1))
    case measure=>omega
    case rel=>exact ⟨k+1,_,by go_num,HP5.out,HXB.out,by rw [List.length_append,HPL.out];rfl,by omega,rfl⟩
  ·obtain rfl:k=objs.length:=by omega
   have HXB:Hid (ps.map PartD.plain=decsP objs):=by
    have:=HR.out
    rw [List.drop_length] at this
    simpa [Hid,decsP] using this
   go_wp2_with fail;go_ret
   exact ⟨_,_,bs,ps,wT,rfl,HT.out,HMT.out,HP.out,HXB.out⟩
def sumF (fs:List PFn):Nat:=(fs.map (fun f=>slotsP f.code)).sum
theorem sumF_take (fs:List PFn) (k:Nat) (h:k<fs.length):sumF (fs.take (k+1))=sumF (fs.take k)+slotsP fs[k].code:=by
 unfold sumF;rw [List.take_add_one,List.map_append,List.sum_append]
 simp [h]
set_option maxRecDepth 100000 in
set_option maxHeartbeats 1000000 in
theorem too_any (w:World) (tv:Value) (bs:List Nat) (vM vF:Value) (ms:List PMap) (fs:List PFn) (vs:List Value) (hP:PPr w tv bs vM vF ms fs vs) (hm:ms.length<=1000) (hf:fs.length<=1000) (hok:∀ f∈fs,f.code.length<=200/\∀ x∈f.code,PIok x) (hsum:∀ k,sumF (fs.take k)<=1000000) :
  Calls Tryz.prog 53 #[.agg #[vM,vF]] w fun e w'=>e=.returned (.bool (decide (8<ms.length)||decide (16<fs.length)||decide (200<sumF fs)))/\Mods Nil' w w':=by
 obtain ⟨oM,cM,hvM,_⟩:=hP.maps.view;obtain ⟨oF,cF,hvF,_⟩:=hP.rows.view;subst hvM hvF;have HP:=hid hP;have HOK:=hid hok;have HSU:=hid hsum
 have HB0:Hid (Blk (w.alloc (.cells #[.slice oM ms.length cM,.slice oF fs.length cF] 37)) w.heap.size #[.slice oM ms.length cM,.slice oF fs.length cF] 37):=Blk.new _ _ _
 have HM0:Hid (Mods Nil' w (w.alloc (.cells #[.slice oM ms.length cM,.slice oF fs.length cF] 37))):=(Mods.refl _ _).alloc _
 clear hP hok hsum
 obtain ⟨r,hr⟩:∃ r:Bool,r=(decide (8<ms.length)||decide (16<fs.length)||decide (200<sumF fs)):=⟨_,rfl⟩
 rw [<- hr];have HR0:=hid hr;clear hr
 go_enter Tryz.func53,Tryz.ntmps53
 go_wp2_with fail;generalize w.alloc (.cells #[.slice oM ms.length cM,.slice oF fs.length cF] 37)=wB at *;generalize w.heap.size=B at *
 go_loopg [3,9] fs.length (fun g sv iv wx=>∃ k:Nat,iv=.int .i64 k/\sv=.int .i64 (sumF (fs.take k))/\Mods Nil' wB wx/\k<=fs.length/\g=fs.length - k)
 case atStart=>exact ⟨0,rfl,rfl,Mods.refl _ _,Nat.zero_le _,rfl⟩
 case round =>
  obtain ⟨k,rfl,rfl,hmd,hk,rfl⟩:=hrel;have HMD:=hid hmd;clear hmd
  have hs0:=HSU.out k
  by_cases hkl:k<fs.length
  ·have hPr:=HP.out.quiet (HM0.out.trans HMD.out)
   have hkv:k<vs.length:=by rw [hPr.len];exact hkl
   obtain ⟨gF,rfl,c0,c1⟩:=hPr.atF k hkl hkv
   have hk1:=HOK.out fs[k] (List.getElem_mem hkl)
   have hcd:=hPr.code k hkl hkv
   have HST:Hid (sumF (fs.take (k+1))=sumF (fs.take k)+slotsP fs[k].code):=sumF_take fs k hkl
   have hs1:=HSU.out (k+1)
   rw [HST.out] at hs1
   have HPS:Hid (∀ w',Mods Nil' wr w'->Calls Tryz.prog 97 #[.agg #[.string (T fs[k].name),vs[k]]] w' fun e w2=>e=.returned (.int .i64 (slotsP fs[k].code))/\Mods Nil' w' w2) :=
    fun w' m=>pslots_any w' tv bs (hPr.ops.mods m) fs[k].code hk1.2 (by have:=hk1.1;omega) _ (hcd.mods m (fun _ _=>id)) (T fs[k].name)
   obtain ⟨oC,cC,hvC,_⟩:=hcd.view;rw [hvC] at c1 HPS;clear hPr hcd hk1 hvC;generalize T fs[k].name=tn at *;generalize slotsP fs[k].code=sp at *;generalize fs[k].code.length=cl at *;generalize sumF (fs.take k)=sk at *;go_wp2_with fail
   refine (HPS.out _ ((Mods.refl _ _).alloc _)).mono ?_
   rintro e w2 ⟨rfl,m2⟩
   have HM2:Hid (Mods Nil' wB w2):=(HMD.out.alloc _).trans m2
   clear m2;go_wp2_with fail
   go_roundg (fs.length - (k+1))
   case measure=>omega
   case rel=>exact ⟨k+1,by go_num,by rw [HST.out];go_num,HM2.out,by omega,rfl⟩
  ·obtain rfl:k=fs.length:=by omega
   have HSE:Hid (sumF (fs.take fs.length)=sumF fs):=by rw [Hid,List.take_length]
   rw [HSE.out] at hs0 ⊢
   have q0:wr.cell? ⟨B,0,none⟩=some (.slice oM ms.length cM):=(HB0.out.mods HMD.out id).cell 0
   have q1:wr.cell? ⟨B,1,none⟩=some (.slice oF fs.length cF):=(HB0.out.mods HMD.out id).cell 1
   have HMF:Hid (Mods Nil' w wr):=HM0.out.trans HMD.out
   generalize sumF fs=sf at *
   by_cases h1:8<ms.length
   ·have HR:Hid (r=true):=by rw [Hid,HR0.out];simp [h1]
    go_wp2_with fail;go_ret
    exact ⟨by rw [HR.out];rfl,HMF.out⟩
   ·by_cases h2:16<fs.length
    ·have HR:Hid (r=true):=by rw [Hid,HR0.out];simp [h2]
     have t1:decide ((8:Int)<(ms.length:Int))=false:=by simp;omega
     go_wp2_with fail;go_ret
     exact ⟨by rw [HR.out];rfl,HMF.out⟩
    ·have HR:Hid (r=decide (200<sf)):=by rw [Hid,HR0.out];simp [h1,h2]
     have t1:decide ((8:Int)<(ms.length:Int))=false:=by simp;omega
     have t2:decide ((16:Int)<(fs.length:Int))=false:=by simp;omega
     have HD:Hid (decide ((200:Int)<(sf:Int))=decide (200<sf)):=by
      rw [Hid]
      congr 1
      exact propext (by omega)
     go_wp2_with fail;go_ret
     exact ⟨by rw [HR.out,<- HD.out];rfl,HMF.out⟩
def badX (names:List ByteArray) (x:PI):Bool:=decide (x.refers=1)&&decide (placeM (T x.name) names=-1)
def badF (names:List ByteArray) (f:PFn):Bool:=f.code.any (badX names)
def badP (names:List ByteArray) (p:List PFn):Bool:=p.any (badF names)
def missP (names:List ByteArray):Nat->List (List PFn)->Int
 | _,[]=>-1
 | i,p::l=>if badP names p then i else missP names (i+1) l
theorem Parts.at {w0 w:World} {bs:List Nat} {o:Option Addr} {c:Nat} {ps:List PartD} (h:Parts w0 bs (.slice o ps.length c) ps w) (k:Nat) (hk:k<ps.length) :
  ∃ g,o=some ⟨g,0,none⟩/\w.cell? ⟨g,k*2,none⟩=some ps[k].vM/\w.cell? ⟨g,k*2+1,none⟩=some ps[k].vF:=by
 obtain ⟨o',cap',hv,h2⟩:=h.sl.view
 cases hv
 obtain ⟨g,cs,rfl,hb,ht,_⟩:=h2 (by omega)
 have key:∀ c,c<2->w.cell? ⟨g,k*2+c,none⟩=(PartD.cells ps[k])[c]?:=fun c hc=>by
  rw [take_cell hb ht (k*2+c) (by omega)]
  exact flat_get PartD.cells 2 (fun _=>rfl) ps k c hk hc
 exact ⟨g,rfl,key 0 (by omega),key 1 (by omega)⟩
theorem Fns.atF {w:World} {lo:Nat} {bs:List Nat} {oF:Option Addr} {cF:Nat} {fs:List PFn} {vs:List Value} (h:Fns w lo bs (.slice oF fs.length cF) fs vs) (k:Nat) (hk:k<fs.length) (hv':k<vs.length) :
  ∃ g,oF=some ⟨g,0,none⟩/\w.cell? ⟨g,k*2,none⟩=some (.string (T fs[k].name))/\w.cell? ⟨g,k*2+1,none⟩=some vs[k]:=by
 obtain ⟨o',cap',hv,h2⟩:=h.sl.view
 cases hv
 obtain ⟨g,cs,rfl,hb,ht,_⟩:=h2 (by omega)
 have hz:k<((fs.map (·.name)).zip vs).length:=by simp only [List.length_zip,List.length_map];omega
 have key:∀ c,c<2->w.cell? ⟨g,k*2+c,none⟩=(fnC (fs[k].name,vs[k]))[c]?:=fun c hc=>by
  rw [take_cell hb ht (k*2+c) (by omega)]
  have:=flat_get fnC 2 (fun _=>rfl) ((fs.map (·.name)).zip vs) k c hz hc
  rw [this,List.getElem_zip,List.getElem_map]
 exact ⟨g,rfl,key 0 (by omega),key 1 (by omega)⟩
theorem ref_small:∀ k,k<88->(tableS[k]?.getD noOp).refers<=2:=by decide +kernel
theorem PIok.refs {x:PI} (h:PIok x):x.o.refers<=2:=ref_small x.k h.k
theorem missP_drop (names:List ByteArray) (l:List (List PFn)) (k:Nat) (h:k<l.length):missP names k (l.drop k)=if badP names l[k] then (k:Int) else missP names (k+1) (l.drop (k+1)):=by
 rw [List.drop_eq_getElem_cons h,missP]
set_option maxRecDepth 100000 in
set_option maxHeartbeats 2000000 in
theorem miss_any (w0 w:World) (tv:Value) (bs:List Nat) (hT:OpsIn 0 w0 tv bs tableS) (v:Value) (ps:List PartD) (hP:Parts w0 bs v ps w) (hpl:ps.length<=1000) (hfl:∀ p∈ps,p.fs.length<=1000/\∀ f∈p.fs,f.code.length<=1000)
  (vM vF:Value) (o1:Option Addr) (n1 c1:Nat) (hM:vM=.slice o1 n1 c1) (rows:List (List UInt8 × Value)) (hv:∀ x∈rows,∃ o n c,x.2=.slice o n c) (hF:Sl w 55 2 vF rows.length (rows.flatMap fnC)) (hl:rows.length<=1000) (names:List ByteArray) (hnm:names=rows.map (fun x=>T x.1)) :
  Calls Tryz.prog 52 #[v,.agg #[vM,vF]] w fun e w'=>e=.returned (.int .i64 (missP names 0 (ps.map (·.fs))))/\Mods Nil' w w':=by
 obtain ⟨o,c,hvv,_⟩:=hP.sl.view;obtain ⟨oF,cF,hvF,_⟩:=hF.view;subst hvv hvF hM;have HP:=hid hP;have HT:=hid hT;have HFL:=hid hfl
 have HFN:Hid (∀ w',Mods Nil' w w'->∀ nm,Calls Tryz.prog 55 #[.agg #[.slice o1 n1 c1,.slice oF rows.length cF],.string nm] w' fun e w2=>e=.returned (.int .i64 (placeM nm names))/\Mods Nil' w' w2):=fun w' m nm=>by
  rw [hnm];exact fnum_any w' nm rows hv _ _ o1 n1 c1 rfl (hF.mods m (fun _ _=>id)) hl
 have HPB:Hid (∀ nm,-1<=placeM nm names/\placeM nm names<1001):=fun nm=>by
  have:=placeM_bd nm names
  have e:names.length=rows.length:=by rw [hnm,List.length_map]
  omega
 have HB0:Hid (Blk (w.alloc (.cells #[.slice o1 n1 c1,.slice oF rows.length cF] 37)) w.heap.size #[.slice o1 n1 c1,.slice oF rows.length cF] 37):=Blk.new _ _ _
 have HM0:Hid (Mods Nil' w (w.alloc (.cells #[.slice o1 n1 c1,.slice oF rows.length cF] 37))):=(Mods.refl _ _).alloc _
 clear hP hT hfl hv hF hnm
 go_enter Tryz.func52,Tryz.ntmps52
 go_wp2_with fail;generalize w.alloc (.cells #[.slice o1 n1 c1,.slice oF rows.length cF] 37)=wB at *;generalize w.heap.size=B at *
 go_loopg [13] ps.length (fun g iv wx=>∃ k:Nat,iv=.int .i64 k/\Mods Nil' wB wx/\missP names k ((ps.map (·.fs)).drop k)=missP names 0 (ps.map (·.fs))/\k<=ps.length/\g=ps.length - k)
 case atStart=>exact ⟨0,rfl,Mods.refl _ _,rfl,Nat.zero_le _,rfl⟩
 case round =>
  obtain ⟨k,rfl,hmd,hmi,hk,rfl⟩:=hrel;have HMD:=hid hmd;have HMI:=hid hmi;clear hmd hmi
  by_cases hkl:k<ps.length
  ·obtain ⟨gP,rfl,c0,c1'⟩:=(HP.out.quiet (HM0.out.trans HMD.out)).at k hkl
   have HMS:Hid (missP names 0 (ps.map (·.fs))=if badP names ps[k].fs then (k:Int) else missP names (k+1) ((ps.map (·.fs)).drop (k+1))):=by
    rw [Hid,<- HMI.out,missP_drop names _ k (by simpa using hkl),List.getElem_map]
   have HPA:Hid (∀ w',Mods Nil' wr w'->PartAt w' bs ps[k]):=fun w' m=>(HP.out.quiet ((HM0.out.trans HMD.out).trans m)).each _ (List.getElem_mem hkl)
   have hfk:=HFL.out ps[k] (List.getElem_mem hkl)
   obtain ⟨a1,a2,ha,_⟩:=(HPA.out wr (Mods.refl _ _)).maps.view
   obtain ⟨b1,b2,hb,_⟩:=(HPA.out wr (Mods.refl _ _)).fns.sl.view
   rw [ha] at c0;rw [hb] at c1'
   have HPF:Hid (∀ w',Mods Nil' wr w'->Fns w' ps[k].lo bs (.slice b1 ps[k].fs.length b2) ps[k].fs ps[k].vs):=fun w' m=>by rw [<- hb];exact (HPA.out w' m).fns
   clear HPA ha hb HMI;generalize ps[k].fs=fs at *;generalize ps[k].vs=vs at *;generalize ps[k].lo=lo at *;generalize ps[k].ms.length=msl at *;go_wp2_with fail
   have HMr:Hid (Mods Nil' wr (wr.alloc (.cells #[.slice a1 msl a2,.slice b1 fs.length b2] 37))):=(Mods.refl _ _).alloc _
   generalize wr.alloc (.cells #[.slice a1 msl a2,.slice b1 fs.length b2] 37)=w1 at *
   obtain ⟨wO,hwO⟩:∃ wO,wO=wr:=⟨_,rfl⟩
   rw [<- hwO] at HMr HPF HMD;clear hwO c0 c1'
   go_loopg [21] fs.length (fun g iv wx=>∃ i:Nat,iv=.int .i64 i/\Mods Nil' wO wx/\(fs.take i).any (badF names)=false/\i<=fs.length/\g=fs.length - i)
   case atStart=>exact ⟨0,rfl,HMr.out,rfl,Nat.zero_le _,rfl⟩
   case round =>
    obtain ⟨i,rfl,hmd,hany,hi,rfl⟩:=hrel;have HM2:=hid hmd;have HAN:=hid hany;clear hmd hany
    by_cases hil:i<fs.length
    ·have hFr:=HPF.out wr HM2.out
     have hiv:i<vs.length:=by rw [hFr.len];exact hil
     obtain ⟨gF,rfl,c0,c1'⟩:=hFr.atF i hil hiv
     have hcd:=hFr.cd i hil hiv
     have hcl:=hfk.2 fs[i] (List.getElem_mem hil)
     have HAN2:Hid ((fs.take (i+1)).any (badF names)=badF names fs[i]):=by
      rw [Hid,List.take_add_one,List.any_append,HAN.out,Bool.false_or]
      simp [hil]
     have HBF:Hid (badF names fs[i]=true->badP names fs=true):=fun h=>by
      unfold badP;rw [List.any_eq_true]
      exact ⟨fs[i],List.getElem_mem hil,h⟩
     have HOK:Hid (∀ x∈fs[i].code,PIok x):=hFr.ok fs[i] (List.getElem_mem hil)
     have HCD:Hid (∀ w',Mods Nil' wr w'->Sl w' 84 8 vs[i] fs[i].code.length (codeC bs fs[i].code)):=fun w' m=>hcd.mods m (fun _ _=>id)
     have HBD:Hid (badF names fs[i]=fs[i].code.any (badX names)):=rfl
     generalize fs[i]=f at *;generalize vs[i]=vC at *;obtain ⟨nm,code⟩:=f;simp only at *;obtain ⟨oC,cC,rfl,_⟩:=hcd.view;clear hFr hcd;generalize badF names ⟨nm,code⟩=bf at *;go_wp2_with fail
     have HM3:Hid (Mods Nil' wr (wr.alloc (.cells #[.string (T nm),.slice oC code.length cC] 55))):=(Mods.refl _ _).alloc _
     generalize wr.alloc (.cells #[.string (T nm),.slice oC code.length cC] 55)=w2 at *
     obtain ⟨wQ,hwQ⟩:∃ wQ,wQ=wr:=⟨_,rfl⟩
     rw [<- hwQ] at HM3 HM2 HCD;clear hwQ c0 c1'
     go_loopg [28] code.length (fun g iv wx=>∃ j:Nat,iv=.int .i64 j/\Mods Nil' wQ wx/\(code.take j).any (badX names)=false/\j<=code.length/\g=code.length - j)
     case atStart=>exact ⟨0,rfl,HM3.out,rfl,Nat.zero_le _,rfl⟩
     case round =>
      obtain ⟨j,rfl,hmd,hany,hj,rfl⟩:=hrel;have HM4:=hid hmd;have HAX:=hid hany;clear hmd hany
      have HBW:Hid (Mods Nil' wB wr):=(HMD.out.trans HM2.out).trans HM4.out
      by_cases hjl:j<code.length
      ·obtain ⟨g,rfl,hg,y0,y1,y2,y3,y4,y5,y6,y7⟩:=code_at (HCD.out wr HM4.out) rfl rfl j hjl
       have hx:=HOK.out code[j] (List.getElem_mem hjl)
       have HAT:Hid (∀ w',Mods Nil' wr w'->OpAt w' (bs[code[j].k]?.getD 0) code[j].o):=fun w' m=>tab_at (HT.out.mods (((HP.out.md.trans HM0.out).trans HBW.out).trans m)) code[j] hx.k
       have HAX2:Hid ((code.take (j+1)).any (badX names)=badX names code[j]):=by
        rw [Hid,List.take_add_one,List.any_append,HAX.out,Bool.false_or]
        simp [hjl]
       have HBX:Hid (badX names code[j]=true->bf=true):=fun h=>by
        rw [HBD.out,List.any_eq_true]
        exact ⟨code[j],List.getElem_mem hjl,h⟩
       have HXD:Hid (badX names code[j]=(decide ((if code[j].s=1 then code[j].o.refers else 0)=1)&&decide (placeM (T code[j].name) names=-1))):=rfl
       have hpb:=HPB.out (T code[j].name)
       have hrf:(if code[j].s=1 then code[j].o.refers else 0)<=1000:=by
        have:=hx.refs
        split<;>omega
       clear hx;generalize badX names code[j]=bx at *;generalize code[j].o=o at *;generalize code[j].jump=jmp at *;generalize code[j].d=xd at *;generalize code[j].s=xs at *;generalize code[j].num=xn at *;generalize code[j].high=xh at *
       have HFX:Hid (∀ w',Mods Nil' wr w'->Calls Tryz.prog 55 #[.agg #[.slice o1 n1 c1,.slice oF rows.length cF],.string (T code[j].name)] w' fun e w2=>e=.returned (.int .i64 (placeM (T code[j].name) names))/\Mods Nil' w' w2):=fun w' m=>HFN.out w' ((HM0.out.trans HBW.out).trans m) _
       generalize placeM (T code[j].name) names=pl at *;generalize T code[j].name=xm at *;generalize bs[code[j].k]?.getD 0=b at *
       have HRF:Hid (∀ w',Mods Nil' wr w'->Calls Tryz.prog 54 #[.agg #[.pointer (some ⟨b,0,none⟩),.int .u8 xd,.int .u8 xs,.int .i16 jmp,.int .i32 xn,.int .i32 xh,.string ByteArray.empty,.string xm]] w' fun e w2=>e=.returned (.int .i64 ((if xs=1 then o.refers else 0:Nat):Int))/\Mods Nil' w' w2):=fun w' m=>refers_any w' b o (HAT.out w' m) xd xs xn xh jmp _ xm
       generalize (if xs=1 then o.refers else 0)=rf at *
       go_wp2_with fail
       have hbx:=Blk.new wr #[.pointer (some ⟨b,0,none⟩),.int .u8 xd,.int .u8 xs,.int .i16 jmp,.int .i32 xn,.int .i32 xh,.string ByteArray.empty,.string xm] 84
       have HMx:Hid (Mods Nil' wr (wr.alloc (.cells #[.pointer (some ⟨b,0,none⟩),.int .u8 xd,.int .u8 xs,.int .i16 jmp,.int .i32 xn,.int .i32 xh,.string ByteArray.empty,.string xm] 84))):=(Mods.refl _ _).alloc _
       refine (HRF.out _ HMx.out).mono ?_
       rintro e w5 ⟨rfl,m5⟩
       have HB5:Hid (Blk w5 wr.heap.size #[.pointer (some ⟨b,0,none⟩),.int .u8 xd,.int .u8 xs,.int .i16 jmp,.int .i32 xn,.int .i32 xh,.string ByteArray.empty,.string xm] 84):=hbx.mods m5 id
       have HM5:Hid (Mods Nil' wr w5):=HMx.out.trans m5
       clear hbx m5 y0 y1 y2 y3 y4 y5 y6 y7 HRF HAT HMx
       by_cases h1:rf=1
       ·subst h1
        have z0:w5.cell? ⟨B,0,none⟩=some (.slice o1 n1 c1):=(HB0.out.mods (HBW.out.trans HM5.out) id).cell 0
        have z1:w5.cell? ⟨B,1,none⟩=some (.slice oF rows.length cF):=(HB0.out.mods (HBW.out.trans HM5.out) id).cell 1
        have z7:w5.cell? ⟨wr.heap.size,7,none⟩=some (.string xm):=HB5.out.cell 7
        go_wp2_with fail
        refine (HFX.out _ HM5.out).mono ?_
        rintro e w6 ⟨rfl,m6⟩
        have HM6:Hid (Mods Nil' wr w6):=HM5.out.trans m6
        clear m6
        by_cases h2:pl=-1
        ·subst h2
         have HRES:Hid (missP names 0 (ps.map (·.fs))=k):=by
          rw [Hid,HMS.out,if_pos (HBF.out (HBX.out (by rw [HXD.out];rfl)))]
         have HMF:Hid (Mods Nil' w w6):=(HM0.out.trans HBW.out).trans HM6.out
         go_wp2_with fail;go_ret
         exact ⟨ret_i64 HRES.out.symm,HMF.out⟩
        ·have t1:decide (pl=-1)=false:=by simpa using h2
         have t2:(pl==-1)=false:=by simpa using h2
         have HAX3:Hid ((code.take (j+1)).any (badX names)=false):=by
          rw [Hid,HAX2.out,HXD.out,t1,Bool.and_false]
         have HM7:Hid (Mods Nil' wQ w6):=HM4.out.trans HM6.out
         clear h2;go_wp2_with fail
         go_roundg (code.length - (j+1))
         case measure=>omega
         case rel=>exact ⟨j+1,by go_num,HM7.out,HAX3.out,by omega,rfl⟩
       ·have t1:decide ((rf:Int)=1)=false:=by simp;omega
        have t2:((rf:Int)==1)=false:=by simp;omega
        have HAX3:Hid ((code.take (j+1)).any (badX names)=false):=by
         rw [Hid,HAX2.out,HXD.out,show decide (rf=1)=false by simpa using h1,Bool.false_and]
        have HM7:Hid (Mods Nil' wQ w5):=HM4.out.trans HM5.out
        clear h1;go_wp2_with fail
        go_roundg (code.length - (j+1))
        case measure=>omega
        case rel=>exact ⟨j+1,by go_num,HM7.out,HAX3.out,by omega,rfl⟩
      ·obtain rfl:j=code.length:=by omega
       have HBN:Hid ((fs.take (i+1)).any (badF names)=false):=by
        have:=HAX.out
        rw [List.take_length] at this;rw [Hid,HAN2.out,HBD.out,this]
       have HM7:Hid (Mods Nil' wO wr):=HM2.out.trans HM4.out
       go_wp2_with fail
       go_roundg (fs.length - (i+1))
       case measure=>omega
       case rel=>exact ⟨i+1,by go_num,HM7.out,HBN.out,by omega,rfl⟩
    ·obtain rfl:i=fs.length:=by omega
     have HNB:Hid (badP names fs=false):=by
      have:=HAN.out
      rw [List.take_length] at this;exact this
     have HMN:Hid (missP names (k+1) ((ps.map (·.fs)).drop (k+1))=missP names 0 (ps.map (·.fs))):=by
      rw [Hid,HMS.out,if_neg (by rw [HNB.out];decide)]
     have HM7:Hid (Mods Nil' wB wr):=HMD.out.trans HM2.out
     go_wp2_with fail
     go_roundg (ps.length - (k+1))
     case measure=>omega
     case rel=>exact ⟨k+1,by go_num,HM7.out,HMN.out,by omega,rfl⟩
  ·obtain rfl:k=ps.length:=by omega
   have HEN:Hid (missP names 0 (ps.map (·.fs))=-1):=by
    rw [Hid,<- HMI.out,List.drop_eq_nil_of_le (by simp)];rfl
   have HMF:Hid (Mods Nil' w wr):=HM0.out.trans HMD.out
   go_wp2_with fail;go_ret
   exact ⟨by rw [HEN.out];rfl,HMF.out⟩
structure PPw (wT w:World) (bs:List Nat) (vM vF:Value) (ms:List PMap) (fs:List PFn) (vs:List Value):Prop where
 maps:Sl w 47 4 vM ms.length (ms.flatMap PMap.cells)
 len:vs.length=fs.length
 rows:Sl w 55 2 vF fs.length (((fs.map (·.name)).zip vs).flatMap fnC)
 code:∀ i (_:i<fs.length) (_:i<vs.length),Sl w 84 8 vs[i] fs[i].code.length (codeC bs fs[i].code)
 ne:∀ i j (_:i<vs.length) (_:j<vs.length),i≠j->∀ k,vs[i].ownBlock=some k->vs[j].ownBlock≠some k
 own:∀ u∈vs,∀ k,u.ownBlock=some k->wT.heap.size<=k
 md:Mods Nil' wT w
theorem PPw.quiet {wT w w':World} {bs:List Nat} {vM vF:Value} {ms:List PMap} {fs:List PFn} {vs:List Value} (h:PPw wT w bs vM vF ms fs vs) (m:Mods Nil' w w'):PPw wT w' bs vM vF ms fs vs :=
 ⟨h.maps.mods m (fun _ _=>id),h.len,h.rows.mods m (fun _ _=>id),fun i a b=>(h.code i a b).mods m (fun _ _=>id),h.ne,h.own,h.md.trans m⟩
theorem PPw.ppr {wT w:World} {tv:Value} {bs:List Nat} {vM vF:Value} {ms:List PMap} {fs:List PFn} {vs:List Value} (h:PPw wT w bs vM vF ms fs vs) (hT:OpsIn 0 wT tv bs tableS):PPr w tv bs vM vF ms fs vs :=
 ⟨h.maps,h.len,h.rows,h.code,hT.mods h.md⟩
theorem code_num {w:World} {g c n:Nat} {bs:List Nat} {l:List PI} (h:Sl w 84 8 (.slice (some ⟨g,0,none⟩) n c) n (codeC bs l)) (hn:n=l.length) (k:Nat) (hk:k<l.length) (z:Int) :
  Sl (w.setCell ⟨g,k*8+4,none⟩ (.int .i32 z)) 84 8 (.slice (some ⟨g,0,none⟩) n c) n (codeC bs (l.set k { l[k] with num:=z })):=by
 have:=h.setAt (k*8+4) (.int .i32 z) (by omega)
 unfold codeC at *
 rwa [flat_set (fun x:PI=>(x.ins bs).cellsL) 8 (fun _=>rfl) l k 4 hk (by omega) (.int .i32 z) { l[k] with num:=z } rfl] at this
theorem PPw.num {wT w:World} {bs:List Nat} {vM vF:Value} {ms:List PMap} {fs:List PFn} {vs:List Value} (h:PPw wT w bs vM vF ms fs vs) (i:Nat) (hi:i<fs.length) (hv:i<vs.length) {g n c:Nat} (he:vs[i]=.slice (some ⟨g,0,none⟩) n c) (k:Nat) (hk:k<fs[i].code.length) (z:Int) :
  PPw wT (w.setCell ⟨g,k*8+4,none⟩ (.int .i32 z)) bs vM vF ms (fs.set i ⟨fs[i].name,fs[i].code.set k { fs[i].code[k] with num:=z }⟩) vs:=by
 have m:Mods (Only g) w (w.setCell ⟨g,k*8+4,none⟩ (.int .i32 z)):=(Mods.refl _ _).setb _ _
 have hs:=h.code i hi hv
 have hg:vs[i].ownBlock=some g:=by rw [he];rfl
 have hgT:=h.own vs[i] (List.getElem_mem hv) g hg
 have hnm:(fs.set i ⟨fs[i].name,fs[i].code.set k { fs[i].code[k] with num:=z }⟩).map (·.name)=fs.map (·.name):=by
  rw [List.map_set]
  exact List.ext_getElem (by simp) (fun j h1 h2=>by
   rw [List.getElem_set]
   split
   ·rename_i e;subst e;simp
   ·rfl)
 refine ⟨h.maps.mods m (fun k' hk' e=>hs.apart h.maps (by decide) hg (hk'.trans (congrArg some e))),by simp [h.len],?_,fun j h1 h2=>?_,h.ne,h.own,h.md.step m (fun b hb e=>by have:b=g:=e;omega)⟩
 ·rw [hnm,List.length_set]
  exact h.rows.mods m (fun k' hk' e=>hs.apart h.rows (by decide) hg (hk'.trans (congrArg some e)))
 ·rw [List.length_set] at h1
  by_cases e:i=j
  ·subst e
   simp only [List.getElem_set_self,List.length_set]
   rw [he] at hs ⊢
   have hn:n=fs[i].code.length:=by
    obtain ⟨o,cp,e1,_⟩:=hs.view
    cases e1;rfl
   subst hn;exact code_num hs rfl k hk z
  ·simp only [List.getElem_set_ne e]
   exact (h.code j h1 h2).mods m (fun k' hk' e'=>h.ne i j hv h2 e g hg (hk'.trans (congrArg some e')))
end Go.Proofs.YtnhcaifopaeohaaGreatDoor
