import Derived.Test.YtoknbkfclhmapaaGreatDoorC36
import Derived.Test.YtoknbkfclhmapaaGreatDoorC18
namespace Go.Proofs.YtoknbkfclhmapaaGreatDoor
open Go.RowKit
theorem info_pfunc:(Tryz.prog.info? 94).map (fun i=>(i.zero,i.size,i.bytes))=some (some (.agg #[.string E0,.slice none 0 0]),2,40):=by kernel_rfl
def fnC (x:List UInt8 × Value):List Value:=[.string (T x.1),x.2]
def blankF (h:PHead):List UInt8 × Value:=(h.name,.slice none 0 0)
def slotC (l:List PHead):List Value:=l.map (fun h=>.int .i64 (h.slots:Nat))
theorem pfn_one (n:List UInt8) (o:Option Addr) (k c:Nat):∀ u∈[Value.string (T n),.slice o k c],u.oneCell'=true:=by
 intro u hu
 simp only [List.mem_cons,List.not_mem_nil,or_false] at hu
 rcases hu with rfl | rfl<;>rfl
structure HInv (w0:World) (b:Nat) (q:PR) (v vS:Value) (hs:List PHead) (w:World):Prop where
 rd:PRd w b q
 sf:Sl w 94 2 v hs.length ((hs.map blankF).flatMap fnC)
 ss:Sl w 3 1 vS hs.length (slotC hs)
 own:∀ k,v.ownBlock=some k->w0.heap.size<=k
 ownS:∀ k,vS.ownBlock=some k->w0.heap.size<=k
 md:Mods (Only b) w0 w
structure HMid (w0:World) (b:Nat) (q:PR) (v vS:Value) (hs:List PHead) (nm:List UInt8) (w:World):Prop where
 rd:PRd w b q
 sf:Sl w 94 2 v (hs.length+1) ((hs.map blankF).flatMap fnC++[.string (T nm),.slice none 0 0])
 ss:Sl w 3 1 vS hs.length (slotC hs)
 own:∀ k,v.ownBlock=some k->w0.heap.size<=k
 ownS:∀ k,vS.ownBlock=some k->w0.heap.size<=k
 md:Mods (Only b) w0 w
theorem HInv.read {w0 w w':World} {b:Nat} {q q':PR} {v vS:Value} {hs:List PHead} (h:HInv w0 b q v vS hs w) (hr:PRd w' b q') (m:Mods (Only b) w w'):HInv w0 b q' v vS hs w' :=
 ⟨hr,h.sf.mods m (fun k hk e=>h.sf.notBlk h.rd (by decide) (hk.trans (congrArg some e))),h.ss.mods m (fun k hk e=>h.ss.notBlk h.rd (by decide) (hk.trans (congrArg some e))),h.own,h.ownS,h.md.trans m⟩
theorem HInv.alloc {w0 w:World} {b:Nat} {q:PR} {v vS:Value} {hs:List PHead} (h:HInv w0 b q v vS hs w) (o:Obj):HInv w0 b q v vS hs (w.alloc o) :=
 ⟨Blk.alloc h.rd o,h.sf.mods ((Mods.refl Nil' w).alloc o) (fun _ _=>id),h.ss.mods ((Mods.refl Nil' w).alloc o) (fun _ _=>id),h.own,h.ownS,h.md.alloc o⟩
theorem HInv.app {w0 w w':World} {b:Nat} {q:PR} {v vS v':Value} {hs:List PHead} {nm:List UInt8} (h:HInv w0 b q v vS hs w) (s:Sl w' 94 2 v' (hs.length+1) ((hs.map blankF).flatMap fnC++[.string (T nm),.slice none 0 0])) (m:Mods (fun k=>v.ownBlock=some k) w w') (l:∀ k,v'.ownBlock=some k->v.ownBlock=some k\/w.heap.size<=k):HMid w0 b q v' vS hs nm w' :=
 ⟨Blk.mods h.rd m (fun e=>h.sf.notBlk h.rd (by decide) e),s,h.ss.mods m (fun k hk e=>h.sf.apart h.ss (by decide) e hk),fun k hk=>by
  rcases l k hk with e | e
  ·exact h.own k e
  ·have:=h.md.size;omega,h.ownS,h.md.step m (fun i hi e=>by have:=h.own i e;omega)⟩
theorem HMid.read {w0 w w':World} {b:Nat} {q q':PR} {v vS:Value} {hs:List PHead} {nm:List UInt8} (h:HMid w0 b q v vS hs nm w) (hr:PRd w' b q') (m:Mods (Only b) w w'):HMid w0 b q' v vS hs nm w' :=
 ⟨hr,h.sf.mods m (fun k hk e=>h.sf.notBlk h.rd (by decide) (hk.trans (congrArg some e))),h.ss.mods m (fun k hk e=>h.ss.notBlk h.rd (by decide) (hk.trans (congrArg some e))),h.own,h.ownS,h.md.trans m⟩
theorem HMid.alloc {w0 w:World} {b:Nat} {q:PR} {v vS:Value} {hs:List PHead} {nm:List UInt8} (h:HMid w0 b q v vS hs nm w) (o:Obj):HMid w0 b q v vS hs nm (w.alloc o) :=
 ⟨Blk.alloc h.rd o,h.sf.mods ((Mods.refl Nil' w).alloc o) (fun _ _=>id),h.ss.mods ((Mods.refl Nil' w).alloc o) (fun _ _=>id),h.own,h.ownS,h.md.alloc o⟩
theorem HMid.app {w0 w w':World} {b:Nat} {q:PR} {v vS v':Value} {hs:List PHead} {nm:List UInt8} {n:Nat} (h:HMid w0 b q v vS hs nm w) (s:Sl w' 3 1 v' (hs.length+1) (slotC hs++[.int .i64 n])) (m:Mods (fun k=>vS.ownBlock=some k) w w') (l:∀ k,v'.ownBlock=some k->vS.ownBlock=some k\/w.heap.size<=k):HInv w0 b q v v' (hs++[⟨nm,n⟩]) w' :=
 ⟨Blk.mods h.rd m (fun e=>h.ss.notBlk h.rd (by decide) e),by simpa [blankF,fnC] using h.sf.mods m (fun k hk e=>h.sf.apart h.ss (by decide) hk e),by simpa [slotC] using s,h.own,fun k hk=>by
  rcases l k hk with e | e
  ·exact h.ownS k e
  ·have:=h.md.size;omega,h.md.step m (fun i hi e=>by have:=h.ownS i e;omega)⟩
theorem HInv.at {w0 w:World} {b:Nat} {q:PR} {v vS:Value} {hs:List PHead} (h:HInv w0 b q v vS hs w) (k:Nat) (hk:k<hs.length):∃ g c gS cS,v=.slice (some ⟨g,0,none⟩) hs.length c/\vS=.slice (some ⟨gS,0,none⟩) hs.length cS/\w.cell? ⟨g,k*2,none⟩=some (.string (T hs[k].name))/\w.cell? ⟨gS,k,none⟩=some (.int .i64 (hs[k].slots:Nat))/\∀ j,w.frozen? ⟨g,j,none⟩=false:=by
 obtain ⟨o,c,rfl,h2⟩:=h.sf.view;obtain ⟨oS,cS,rfl,h3⟩:=h.ss.view
 obtain ⟨g,cs,rfl,hb,ht,_⟩:=h2 (by omega)
 obtain ⟨gS,cs',rfl,hb',ht',_⟩:=h3 (by omega)
 refine ⟨g,c,gS,cS,rfl,rfl,?_,?_,fun j=>hb.frozen j⟩
 ·rw [hb.cell (k*2),<- Array.getElem?_toList,<- List.getElem?_take_of_lt (show k*2<hs.length*2 by omega),ht]
  have:=flat_get fnC 2 (fun _=>rfl) (hs.map blankF) k 0 (by simpa using hk) (by omega)
  rw [Nat.add_zero] at this;rw [this]
  simp [fnC,blankF]
 ·rw [hb'.cell k,<- Array.getElem?_toList,<- List.getElem?_take_of_lt (show k<hs.length*1 by omega),ht']
  simp [slotC,hk]
structure Fns (w:World) (lo:Nat) (bs:List Nat) (v:Value) (fs:List PFn) (vs:List Value):Prop where
 len:vs.length=fs.length
 sl:Sl w 94 2 v fs.length (((fs.map (·.name)).zip vs).flatMap fnC)
 cd:∀ i (_:i<fs.length) (_:i<vs.length),Sl w 99 8 vs[i] fs[i].code.length (codeC bs fs[i].code)
 ok:∀ f∈fs,∀ x∈f.code,PIok x
 own:∀ k,v.ownBlock=some k->lo<=k
 ownC:∀ u∈vs,∀ k,u.ownBlock=some k->lo<=k
 ne:∀ i j (_:i<vs.length) (_:j<vs.length),i≠j->∀ k,vs[i].ownBlock=some k->vs[j].ownBlock≠some k
theorem Fns.mods {w w':World} {lo:Nat} {bs:List Nat} {v:Value} {fs:List PFn} {vs:List Value} {S:Nat->Prop} (h:Fns w lo bs v fs vs) (m:Mods S w w') (h1:∀ k,v.ownBlock=some k->¬ S k) (h2:∀ u∈vs,∀ k,u.ownBlock=some k->¬ S k):Fns w' lo bs v fs vs :=
 ⟨h.len,h.sl.mods m h1,fun i a b=>(h.cd i a b).mods m (h2 _ (List.getElem_mem b)),h.ok,h.own,h.ownC,h.ne⟩
theorem Fns.quiet {w w':World} {lo:Nat} {bs:List Nat} {v:Value} {fs:List PFn} {vs:List Value} (h:Fns w lo bs v fs vs) (m:Mods Nil' w w'):Fns w' lo bs v fs vs :=
 h.mods m (fun _ _=>id) (fun _ _ _ _=>id)
theorem Fns.read {w w':World} {lo:Nat} {bs:List Nat} {v:Value} {fs:List PFn} {vs:List Value} {b:Nat} {q:PR} (h:Fns w lo bs v fs vs) (hr:PRd w b q) (m:Mods (Only b) w w'):Fns w' lo bs v fs vs :=
 h.mods m (fun k hk e=>h.sl.notBlk hr (by decide) (hk.trans (congrArg some e))) (fun u hu k hk e=>by
  obtain ⟨i,hi,rfl⟩:=List.getElem_of_mem hu
  exact (h.cd i (by rw [<- h.len];exact hi) hi).notBlk hr (by decide) (hk.trans (congrArg some e)))
theorem zip_at (ns:List (List UInt8)) (vs:List Value) (k:Nat) (h:k<ns.length) (h':k<vs.length):(ns.zip vs)[k]'(by simp;omega)=(ns[k],vs[k]):=by simp
theorem Fns.put {w:World} {lo g c:Nat} {bs:List Nat} {fs:List PFn} {vs:List Value} (k:Nat) (hk:k<fs.length) {nf:Nat} (hnf:nf=fs.length) (h:Fns w lo bs (.slice (some ⟨g,0,none⟩) nf c) fs vs) (o:Option Addr) (n cp:Nat) (code:List PI) (hn:n=code.length) (s:Sl w 99 8 (.slice o n cp) n (codeC bs code)) (hok:∀ x∈code,PIok x) (hlo:∀ k,(Value.slice o n cp).ownBlock=some k->lo<=k) (hne:∀ u∈vs,∀ k,u.ownBlock=some k->(Value.slice o n cp).ownBlock≠some k) :
  Fns (w.setCell ⟨g,k*2+1,none⟩ (.slice o n cp)) lo bs (.slice (some ⟨g,0,none⟩) nf c) (fs.set k ⟨fs[k].name,code⟩) (vs.set k (.slice o n cp)):=by
 subst hnf
 have hkv:k<vs.length:=by rw [h.len];exact hk
 have hkz:k<((fs.map (·.name)).zip vs).length:=by simp;omega
 have m:Mods (Only g) w (w.setCell ⟨g,k*2+1,none⟩ (.slice o n cp)):=(Mods.refl _ _).setb _ _
 have hf:∀ k',∀ v',Sl w 99 8 v' k' (codeC bs code)->True:=fun _ _ _=>trivial
 have hgn:∀ {v':Value} {n':Nat} {xs:List Value},Sl w 99 8 v' n' xs->∀ k,v'.ownBlock=some k->¬ Only g k:=fun s' k' hk' e=>s'.apart h.sl (by decide) hk' (congrArg some (show g=k' from e.symm))
 have hnm:(fs.set k ⟨fs[k].name,code⟩).map (·.name)=fs.map (·.name):=by
  rw [List.map_set]
  exact List.ext_getElem (by simp) (fun i h1 h2=>by
   rw [List.getElem_set]
   split
   ·rename_i e;subst e;simp
   ·rfl)
 refine ⟨by simp [h.len],?_,fun i h1 h2=>?_,fun f hf' x hx=>?_,h.own,fun u hu k' hk'=>?_,fun i j h1 h2 hij k' hk'=>?_⟩
 ·have:=h.sl.setAt (k*2+1) (.slice o n cp) (by omega)
  rw [flat_set fnC 2 (fun _=>rfl) _ k 1 hkz (by omega) (.slice o n cp) (fs[k].name,.slice o n cp) (by rw [zip_at _ _ k (by simpa using hk) hkv];simp [fnC])] at this
  rw [hnm,List.length_set]
  have e:((fs.map (·.name)).zip vs).set k (fs[k].name,.slice o n cp)=(fs.map (·.name)).zip (vs.set k (.slice o n cp)):=by
   refine List.ext_getElem (by simp) (fun i h1 h2=>?_)
   rw [List.getElem_set]
   split
   ·rename_i e;subst e;simp
   ·rename_i e
    simp [e]
  rw [e] at this;exact this
 ·rw [List.length_set] at h1 h2;rw [List.getElem_set]
  by_cases e:k=i
  ·subst e
   simp only [List.getElem_set,if_true]
   subst hn
   exact s.mods m (hgn s)
  ·simp only [e,if_false,List.getElem_set]
   exact (h.cd i h1 h2).mods m (hgn (h.cd i h1 h2))
 ·rcases List.mem_or_eq_of_mem_set hf' with h' | h'
  ·exact h.ok f h' x hx
  ·subst h';exact hok x hx
 ·rcases List.mem_or_eq_of_mem_set hu with h' | h'
  ·exact h.ownC u h' k' hk'
  ·subst h';exact hlo k' hk'
 ·rw [List.length_set] at h1 h2;rw [List.getElem_set] at hk' ⊢
  by_cases e:k=i
  ·subst e;rw [if_pos rfl] at hk';rw [if_neg hij];intro e2
   exact hne _ (List.getElem_mem h2) k' e2 hk'
  ·rw [if_neg e] at hk'
   by_cases e2:k=j
   ·subst e2;rw [if_pos rfl]
    exact hne _ (List.getElem_mem h1) k' hk'
   ·rw [if_neg e2];exact h.ne i j h1 h2 hij k' hk'
def blankP (h:PHead):PFn:=⟨h.name,[]⟩
theorem HInv.fns {w0 w:World} {b:Nat} {q:PR} {v vS:Value} {hs:List PHead} (h:HInv w0 b q v vS hs w) (bs:List Nat):Fns w w0.heap.size bs v (hs.map blankP) (List.replicate hs.length (.slice none 0 0)):=by
 refine ⟨by simp,?_,fun i h1 h2=>?_,fun f hf x hx=>?_,h.own,fun u hu k hk=>?_,fun i j h1 h2 _ k hk=>?_⟩
 ·have e:((hs.map blankP).map (·.name)).zip (List.replicate hs.length (.slice none 0 0))=hs.map blankF:=by
   refine List.ext_getElem (by simp) (fun i h1 h2=>?_)
   simp [blankP,blankF]
  rw [e]
  simpa using h.sf
 ·simp only [List.getElem_map,List.getElem_replicate,blankP]
  exact Sl.nil _ _ _
 ·obtain ⟨h',_,rfl⟩:=List.mem_map.1 hf
  cases hx
 ·rw [List.eq_of_mem_replicate hu] at hk;cases hk
 ·rw [List.getElem_replicate] at hk;cases hk
theorem two_lt (q:PR):(twoP q).1<65536:=by
 have h1:=one_lt q
 have h2:=one_lt (oneP q).2
 show (oneP q).1+256*(oneP (oneP q).2).1<65536
 omega
def sumH (l:List PHead):Nat:=(l.map (·.slots)).sum
theorem sumH_mem (l:List PHead) (h:PHead) (hm:h∈l):h.slots<=sumH l:=by
 induction l with
 | nil=>cases hm
 | cons x l ih =>
  simp only [sumH,List.map_cons,List.sum_cons] at *
  rcases List.mem_cons.1 hm with rfl | hm
  ·omega
  ·have:=ih hm;omega
theorem take_le (n:Nat) (q:PR):(takeP n q).1.length<=n:=by
 unfold takeP
 split
 ·simp;omega
 ·simp;omega
def FuncsPost (w:World) (b:Nat) (bs:List Nat) (q:PR) (fs:List PFn) (e:Ending) (w':World):Prop :=
 ∃ v vs,e=.returned v/\PRd w' b q/\Fns w' w.heap.size bs v fs vs/\Mods (Only b) w w'
theorem set_mid {α:Type} (acc l:List α) (x y:α):(acc++x::l).set acc.length y=(acc++[y])++l:=by
 rw [List.set_append,if_neg (by omega),Nat.sub_self,List.set_cons_zero,List.append_assoc];rfl
theorem get_mid {α:Type} (acc l:List α) (x:α) (h:acc.length<(acc++x::l).length):(acc++x::l)[acc.length]=x:=by
 rw [List.getElem_append_right (Nat.le_refl _)];simp
set_option maxRecDepth 100000 in
set_option maxHeartbeats 2000000 in
theorem funcs_any (w:World) (b:Nat) (q:PR) (h:PRd w b q) (hl:q.rest.length<=maxLen) (wT:World) (tv:Value) (bs:List Nat) (hT:OpsIn 0 wT tv bs tableS) (mT:Mods Nil' wT w) (hbT:wT.heap.size<=b) :
  Calls Tryz.prog 114 #[.pointer (some ⟨b,0,none⟩),tv] w fun e w'=>FuncsPost w b bs (funcsP q).2 (funcsP q).1 e w':=by
 obtain ⟨iF,hiF,hzF,hsF,hbF⟩:=info_parts info_pfunc;obtain ⟨iN,hiN,hzN,hsN,hbN⟩:=info_parts info_int
 have hb:b<w.heap.size:=Blk.lt h
 have H1:Hid (∀ w,PRd w b q->Calls Tryz.prog 112 #[.pointer (some ⟨b,0,none⟩)] w fun e w'=>e=.returned (.int .i64 ((oneP q).1:Nat))/\PRd w' b (oneP q).2/\Mods (Only b) w w'):=fun w h=>one_any b q w h hl
 have l1:=one_lt q
 have hl1:=Nat.le_trans (one_len q) hl
 have hfp:funcsP q=(let hd:=headsP (oneP q).1 (wantP (decide ((oneP q).1<=16)) (oneP q).2) [] 0 [];let q3:=wantP (decide (hd.2.1<=200)) hd.2.2;if q3.bad then ([],q3) else codesP hd.1 q3 []):=rfl
 simp only at hfp
 have HFP0:Hid _:=hfp
 clear hfp;generalize oneP q=r1 at *;obtain ⟨n,q1⟩:=r1;simp only at *
 have hd:decide ((n:Int)<=16)=decide (n<=16):=by simp;omega
 have hl2:(wantP (decide (n<=16)) q1).rest.length<=maxLen:=hl1
 have HQ:Hid (∃ q2,wantP (decide (n<=16)) q1=q2):=⟨_,rfl⟩
 obtain ⟨q2,hq2⟩:=HQ.out;rw [hq2] at hl2 HFP0;have HQ2:=hid hq2;clear hq2 HQ;have HFP:=hid HFP0.out;clear HFP0;have HT:=hid hT;have HMT:=hid mT;obtain ⟨oT,cT,hv,_⟩:=hT.sl.view;subst hv;clear hT mT
 go_enter Tryz.func114,Tryz.ntmps114
 go_wp2_with fail
 refine (H1.out _ h).mono ?_
 rintro e w1 ⟨rfl,h1,m1⟩;go_wp2_with fail
 refine (want_any b _ _ _ h1).mono ?_
 rintro e w2 ⟨rfl,h2,m2⟩
 have hI:HInv w b (wantP (decide (n<=16)) q1) (.slice none 0 0) (.slice none 0 0) [] w2:=⟨h2,Sl.nil _ _ _,Sl.nil _ _ _,fun k hk=>(by cases hk),fun k hk=>(by cases hk),m1.trans m2⟩
 rw [HQ2.out] at hI;clear h1 h2 m1 m2 hd
 have HI0:Hid _:=hI
 clear hI;go_upto_block 0 with fail
 go_cut [5,6,8] (fun v vS all wx=>∃ (hs:List PHead) (tot:Nat) (q3:PR),HInv w b q3 v vS hs wx/\headsP n q2 [] 0 []=(hs,tot,q3)/\all=.int .i64 tot/\hs.length=n/\tot=sumH hs/\tot<=n*65536/\q3.rest.length<=maxLen)
 case first =>
  go_wp2_with fail
  go_loopg [5,6,7,8,19] n (fun g v vS last all i wl=>∃ (k:Nat) (acc:List PHead) (tot:Nat) (r:PR) (lastL:List UInt8),i=.int .i64 k/\last=.string (T lastL)/\all=.int .i64 tot/\HInv w b r v vS acc wl/\headsP (n - k) r lastL tot acc=headsP n q2 [] 0 []/\k<=n/\g=n - k/\acc.length=k/\tot=sumH acc/\tot<=k*65536/\r.rest.length<=maxLen)
  case atStart=>exact ⟨0,[],0,q2,[],rfl,rfl,rfl,HI0.out,rfl,Nat.zero_le _,rfl,rfl,rfl,Nat.zero_le _,hl2⟩
  case round =>
   obtain ⟨k,acc,tot,r,lastL,rfl,rfl,rfl,hI2,HR0,hk,rfl,hal,htot,hbd,hrl⟩:=hrel
   have HR:Hid _:=HR0
   have HTot:=hid htot;clear HR0 HI0 htot
   by_cases hkn:k<n
   ·obtain ⟨j,hj⟩:∃ j,n - k=j+1:=⟨n - k - 1,by omega⟩
    have HJ:=hid hj
    have HR2:headsP j (wantP (ltL lastL (nameP r).1) (twoP (nameP r).2).2) (nameP r).1 (tot+(twoP (nameP r).2).1) (acc++[⟨(nameP r).1,(twoP (nameP r).2).1⟩])=headsP n q2 [] 0 []:=by
     rw [<- HR.out,hj];rfl
    clear HR hj
    have HN:Hid (∀ w,PRd w b r->Calls Tryz.prog 204 #[.pointer (some ⟨b,0,none⟩)] w fun e w'=>e=.returned (.string (T (nameP r).1))/\PRd w' b (nameP r).2/\Mods (Only b) w w'):=fun w h=>pname_any b r w h hrl
    have z1:=Nat.le_trans (name_len r) hrl
    generalize nameP r=p0 at *;obtain ⟨nm,r0⟩:=p0;simp only at *
    have H2:Hid (∀ w,PRd w b r0->Calls Tryz.prog 115 #[.pointer (some ⟨b,0,none⟩)] w fun e w'=>e=.returned (.int .i64 ((twoP r0).1:Nat))/\PRd w' b (twoP r0).2/\Mods (Only b) w w'):=fun w h=>two_any b r0 w h z1
    have z2:=Nat.le_trans (two_len r0) z1
    have y2:=two_lt r0
    generalize twoP r0=p1 at *;obtain ⟨sn,r1⟩:=p1;simp only at *
    have HR3:Hid _:=HR2
    clear HR2
    have HLT:Hid (ltL lastL nm=Op.bytesLess (T lastL).toList (T nm).toList):=rfl
    obtain ⟨o5,c5,rfl,_⟩:=hI2.sf.view;obtain ⟨o6,c6,rfl,_⟩:=hI2.ss.view;subst hal;go_wp2_with fail
    refine (HN.out _ hI2.rd).mono ?_
    rintro e w3 ⟨rfl,h3,m3⟩
    have hI3:=hI2.read h3 m3
    have HI3:=hid hI3;clear h3 m3 hI2 hI3
    go_wp2_with (at_builtin;go_loud (refine wpList_append_sl _ rfl (.tmp 22) (.tmp 26) 61 rfl 94 iF (.agg #[.string E0,.slice none 0 0]) 2 40 Tryz.underlying61 hiF hzF hsF hbF rfl (by decide) (.slice o5 acc.length c5) acc.length ((acc.map blankF).flatMap fnC) rfl (HI3.out.alloc _).sf ⟨w3.heap.size,0,none⟩ 1 1 [.string (T nm),.slice none 0 0] rfl rfl (news_cells _ _ _ _ rfl) (pfn_one _ _ _ _) (by unfold maxLen;omega) (by omega) ?_;intro vA wA sA mA lA;have HMA:Hid (HMid w b r0 vA (.slice o6 acc.length c6) acc nm wA):=(HI3.out.alloc _).app sA mA lA;obtain ⟨oA,cA,rfl,_⟩:=Sl.view sA;clear sA mA lA HI3))
    refine (H2.out _ HMA.out.rd).mono ?_
    rintro e w4 ⟨rfl,h4,m4⟩
    have hM4:=HMA.out.read h4 m4
    have HM4:=hid hM4;clear h4 m4 hM4 HMA
    go_wp2_with (at_builtin;go_loud (refine wpList_append_sl _ rfl (.tmp 28) (.tmp 31) 44 rfl 3 iN (.int .i64 0) 1 8 Tryz.underlying44 hiN hzN hsN hbN rfl (by decide) (.slice o6 acc.length c6) acc.length (slotC acc) rfl (HM4.out.alloc _).ss ⟨w4.heap.size,0,none⟩ 1 1 [.int .i64 sn] rfl rfl (news_cells _ _ _ _ rfl) (int_one _) (by unfold maxLen;omega) (by omega) ?_;intro vB wB sB mB lB;have HIB:Hid (HInv w b r1 (.slice oA (acc.length+1) cA) vB (acc++[⟨nm,sn⟩]) wB):=(HM4.out.alloc _).app sB mB lB;obtain ⟨oB,cB,rfl,_⟩:=Sl.view sB;clear sB mB lB HM4;obtain ⟨gA,kA,gB,kB,eA,eB,x0,x1,_⟩:=HIB.out.at acc.length (by simp);simp only [List.length_append,List.length_cons,List.length_nil,Value.slice.injEq] at eA eB;obtain ⟨rfl,_,rfl⟩:=eA;obtain ⟨rfl,_,rfl⟩:=eB;simp only [List.getElem_append_right (Nat.le_refl _),Nat.sub_self,List.getElem_cons_zero] at x0 x1))
    refine (want_any b _ _ _ HIB.out.rd).mono ?_
    rintro e wC ⟨rfl,hC,mC⟩
    have hIC:=HIB.out.read hC mC
    obtain ⟨gA',kA',gB',kB',eA,eB,v0,v1,_⟩:=hIC.at acc.length (by simp)
    simp only [List.length_append,List.length_cons,List.length_nil,Value.slice.injEq] at eA eB
    obtain ⟨⟨rfl⟩,_,rfl⟩:=eA
    obtain ⟨⟨rfl⟩,_,rfl⟩:=eB
    simp only [List.getElem_append_right (Nat.le_refl _),Nat.sub_self,List.getElem_cons_zero] at v0 v1
    have HIC:Hid (HInv w b (wantP (ltL lastL nm) r1) (.slice (some ⟨gA,0,none⟩) (acc.length+1) cA) (.slice (some ⟨gB,0,none⟩) (acc.length+1) cB) (acc++[⟨nm,sn⟩]) wC):=hIC
    clear hIC hC mC x0 x1 HIB;go_wp2_with fail
    go_roundg (n - (acc.length+1))
    case measure=>omega
    case rel=>exact ⟨acc.length+1,acc++[⟨nm,sn⟩],tot+sn,wantP (ltL lastL nm) r1,nm,by go_num,rfl,by go_num,HIC.out,by rw [show n - (acc.length+1)=j by have:=HJ.out;omega];exact HR3.out,by omega,rfl,by simp,by rw [HTot.out];simp [sumH],by omega,z2⟩
   ·obtain rfl:k=n:=by omega
    have HE:Hid (headsP k q2 [] 0 []=(acc,tot,r)):=by rw [Hid,<- HR.out,Nat.sub_self];rfl
    go_wp2_with fail;go_meet
    exact ⟨acc,tot,r,hI2,HE.out,rfl,hal,HTot.out,hbd,hrl⟩
 case rest =>
 obtain ⟨hs,tot,q3,hI,hE,rfl,hal,htot,hbd,hrl⟩:=hcut;subst hal;rw [hE] at HFP
 simp only at HFP
 have HI:=hid hI;have HTot:=hid htot;clear hE HI0 hI htot
 have hd2:decide ((tot:Int)<=200)=decide (tot<=200):=by simp;omega
 go_wp2_with fail
 refine (want_any b _ _ _ HI.out.rd).mono ?_
 rintro e w4 ⟨rfl,h4,m4⟩
 have hI4:=HI.out.read h4 m4
 have hq4:(wantP (decide (tot<=200)) q3).bad=false->tot<=200:=fun e=>by
  simp [wantP] at e
  omega
 have HQ4:Hid _:=hq4
 have hr4:(wantP (decide (tot<=200)) q3).rest.length<=maxLen:=hrl
 clear hq4 h4 m4 hd2;generalize wantP (decide (tot<=200)) q3=q4 at *;obtain ⟨rest4,bad4⟩:=q4
 have c1:w4.cell? ⟨b,1,none⟩=some (.bool bad4):=Blk.cell hI4.rd 1
 cases bad4 with
 | true =>
  simp only [if_true] at HFP
  have HI4:Hid _:=hI4
  clear hI4;go_wp2_with fail;go_ret;rw [HFP.out]
  exact ⟨_,[],rfl,HI4.out.rd,⟨rfl,Sl.nil _ _ _,fun i h=>absurd h (Nat.not_lt_zero _),fun f h=>(by cases h),fun k h=>(by cases h),fun u h=>(by cases h),fun i j h=>absurd h (Nat.not_lt_zero _)⟩,HI4.out.md⟩
 | false =>
  simp only [Bool.false_eq_true,if_false] at HFP
  have ht:=HQ4.out rfl
  have HS:Hid (∀ h∈hs,h.slots<=200):=fun h hm=>by have:=sumH_mem hs h hm;rw [<- HTot.out] at this;omega
  obtain ⟨o5,c5,rfl,_⟩:=hI4.sf.view;obtain ⟨o6,c6,rfl,_⟩:=hI4.ss.view
  have HFs:Hid (Fns w4 w.heap.size bs (.slice o5 hs.length c5) (hs.map blankP) (List.replicate hs.length (.slice none 0 0))):=hI4.fns bs
  have HI4:=hid hI4;clear hI4;go_wp2_with fail
  go_loopg [64] hs.length (fun g i wl=>∃ (k:Nat) (acc:List PFn) (vs:List Value) (r:PR),i=.int .i64 k/\Fns wl w.heap.size bs (.slice o5 hs.length c5) (acc++(hs.drop k).map blankP) (vs++List.replicate (hs.length - k) (.slice none 0 0))/\PRd wl b r/\Sl wl 3 1 (.slice o6 hs.length c6) hs.length (slotC hs)/\Mods (Only b) w wl/\codesP (hs.drop k) r acc=codesP hs ⟨rest4,false⟩ []/\k<=hs.length/\g=hs.length - k/\acc.length=k/\vs.length=k/\r.rest.length<=maxLen)
  case atStart=>exact ⟨0,[],[],⟨rest4,false⟩,rfl,HFs.out,HI4.out.rd,HI4.out.ss,HI4.out.md,rfl,Nat.zero_le _,rfl,rfl,rfl,hr4⟩
  case round =>
   obtain ⟨k,acc,vs,r,rfl,hF,hR,hSS,hM,hcp,hk,rfl,hal,hvl,hrl2⟩:=hrel;have HF:=hid hF;have HR:=hid hR;have HSS:=hid hSS;have HM:=hid hM;have HCp:=hid hcp;clear hF hR hSS hM hcp HFs HI4
   by_cases hkn:k<hs.length
   ·obtain ⟨gS,rfl,cS⟩:=HSS.out.at rfl k hkn
    have y1:=cS k hkn
    have e1:(slotC hs)[k]?=some (.int .i64 (hs[k].slots:Nat)):=by simp [slotC,hkn]
    rw [e1] at y1
    have hsl:=HS.out hs[k] (List.getElem_mem hkn)
    obtain ⟨hdk,hdt⟩:∃ x,hs.drop k=x::hs.drop (k+1)/\x=hs[k]:=⟨_,List.drop_eq_getElem_cons hkn,rfl⟩
    obtain ⟨hdr,hdx⟩:=hdt;rw [<- hdx] at y1 hsl;obtain ⟨nm,sn⟩:=hdk
    simp only at y1 hsl
    have hF3:=HF.out
    rw [hdr,show hs.length - k=(hs.length - (k+1))+1 by omega,List.replicate_succ,List.map_cons] at hF3
    have HC2:codesP (hs.drop (k+1)) (codeP (takeP (sn*8) r).1 (takeP (sn*8) r).2).2 (acc++[⟨nm,(codeP (takeP (sn*8) r).1 (takeP (sn*8) r).2).1⟩])=codesP hs ⟨rest4,false⟩ []:=by
     rw [<- HCp.out,hdr];rfl
    clear HF HCp e1 cS hdr hdx
    have HTk:Hid (∀ w,PRd w b r->Calls Tryz.prog 111 #[.pointer (some ⟨b,0,none⟩),.int .i64 ((sn:Int)*8)] w fun e w'=>e=.returned (.string (T (takeP (sn*8) r).1))/\PRd w' b (takeP (sn*8) r).2/\Mods (Only b) w w'):=fun w h=>by
     rw [show ((sn:Int)*8)=((sn*8:Nat):Int) by omega]
     exact take_any b r (sn*8) w h hrl2 (by unfold maxLen;omega)
    have htl:=take_le (sn*8) r
    have htr:=Nat.le_trans (take_len (sn*8) r) hrl2
    generalize takeP (sn*8) r=tk at *;obtain ⟨tl,rk⟩:=tk;simp only at *
    have HCd:Hid (∀ w5,PRd w5 b rk->Mods (Only b) w w5->Calls Tryz.prog 206 #[.pointer (some ⟨b,0,none⟩),.slice oT bs.length cT,.string (T tl)] w5 fun e w'=>CodePost w5 b bs (codeP tl rk).2 (codeP tl rk).1 e w'):=fun w5 h5 m5=>code_any w5 b rk h5 wT _ bs HT.out (HMT.out.step m5 (fun i hi e=>by have:i=b:=e;omega)) hbT tl (by omega)
    have hcr:(codeP tl rk).2.rest=rk.rest:=by
     unfold codeP
     split<;>rfl
    rw [<- hcr] at htr;generalize codeP tl rk=ck at *;obtain ⟨code,rc⟩:=ck;simp only at *;have HF3:=hid hF3
    have HC3:Hid _:=HC2
    clear hF3 HC2 hcr;obtain ⟨o5',c5',e5,f5⟩:=HF3.out.sl.view
    have hfl:(acc++blankP ⟨nm,sn⟩::(hs.drop (k+1)).map blankP).length=hs.length:=by simp;omega
    rw [hfl] at e5 f5
    cases e5
    obtain ⟨g,csg,rfl,_⟩:=f5 (by omega)
    have HFl:=hid hfl;clear f5 hfl;subst hal;go_wp2_with fail
    refine (HTk.out _ HR.out).mono ?_
    rintro e w5 ⟨rfl,h5,m5⟩
    have HF5:Hid _:=HF3.out.read HR.out m5
    have HS5:Hid (Sl w5 3 1 (.slice (some ⟨gS,0,none⟩) hs.length c6) hs.length (slotC hs)):=HSS.out.mods m5 (fun k hk e=>HSS.out.notBlk HR.out (by decide) (hk.trans (congrArg some e)))
    have HM5:Hid (Mods (Only b) w w5):=HM.out.trans m5
    have hsz5:=m5.size
    clear m5 HSS HM HR;go_wp2_with fail
    refine (HCd.out _ h5 HM5.out).mono ?_
    rintro e w6 ⟨vc,rfl,h6,s6,own6,m6,ok6⟩;obtain ⟨oc,cc,rfl,_⟩:=s6.view
    have hF6:=HF5.out.read h5 m6
    have HS6:Hid (Sl w6 3 1 (.slice (some ⟨gS,0,none⟩) hs.length c6) hs.length (slotC hs)):=HS5.out.mods m6 (fun k hk e=>HS5.out.notBlk h5 (by decide) (hk.trans (congrArg some e)))
    have HM6:Hid (Mods (Only b) w w6):=HM5.out.trans m6
    obtain ⟨csg,hbg,hsb⟩:=(show Sl w6 94 2 (.slice (some ⟨g,0,none⟩) hs.length c5) hs.length _ from HFl.out ▸ hF6.sl).blk
    obtain ⟨y3,hy3⟩:∃ y3,w6.cell? ⟨g,acc.length*2+1,none⟩=some y3:=by
     rw [hbg.cell,hsb.get _ (by omega)]
     have hz:acc.length<(((acc++blankP ⟨nm,sn⟩::(hs.drop (acc.length+1)).map blankP).map (·.name)).zip (vs++.slice none 0 0::List.replicate (hs.length - (acc.length+1)) (.slice none 0 0))).length:=by simp;omega
     rw [flat_get fnC 2 (fun _=>rfl) _ acc.length 1 hz (by omega)]
     exact ⟨_,rfl⟩
    have fy3:=hbg.frozen (acc.length*2+1)
    have hmd:∀ h':acc.length<(acc++blankP ⟨nm,sn⟩::(hs.drop (acc.length+1)).map blankP).length,(acc++blankP ⟨nm,sn⟩::(hs.drop (acc.length+1)).map blankP)[acc.length]=blankP ⟨nm,sn⟩:=fun h'=>get_mid _ _ _ h'
    have hput:=hF6.put acc.length (by simp) HFl.out.symm oc code.length cc code rfl s6 ok6 (fun k hk=>Nat.le_trans HM5.out.size (own6 k hk)) (fun u hu k hk e=>by
     obtain ⟨i,hi,rfl⟩:=List.getElem_of_mem hu
     have h1:=(HF5.out.cd i (by rw [<- HF5.out.len];exact hi) hi).lt k hk
     have h2:=own6 k e
     omega)
    rw [hmd,set_mid] at hput
    rw [show acc.length=vs.length by omega,set_mid] at hput
    rw [hvl] at hput;have HPut:=hid hput
    have HRd6:Hid (PRd (w6.setCell ⟨g,acc.length*2+1,none⟩ (.slice oc code.length cc)) b rc):=Blk.setOther h6 (fun e=>by simp only at e;subst e;unfold PRd Blk at h6;unfold Blk at hbg;rw [h6] at hbg;cases hbg) _
    have HSl6:Hid (Sl (w6.setCell ⟨g,acc.length*2+1,none⟩ (.slice oc code.length cc)) 3 1 (.slice (some ⟨gS,0,none⟩) hs.length c6) hs.length (slotC hs)):=HS6.out.mods ((Mods.refl (Only g) w6).setb _ _) (fun k hk e=>HS6.out.notBlk hbg (by decide) (hk.trans (congrArg some e)))
    have HMd6:Hid (Mods (Only b) w (w6.setCell ⟨g,acc.length*2+1,none⟩ (.slice oc code.length cc))):=HM6.out.set (.inr (hF6.own g rfl)) _
    clear hput hF6 HS6 HM6 h6 s6 own6 m6 ok6 hbg hsb hmd HF5 HS5 HM5 h5;go_wp2_with fail
    go_roundg (hs.length - (acc.length+1))
    case measure=>omega
    case rel=>exact ⟨acc.length+1,acc++[⟨nm,code⟩],vs++[.slice oc code.length cc],rc,by go_num,HPut.out,HRd6.out,HSl6.out,HMd6.out,HC3.out,by omega,rfl,by simp,by simp [hvl],htr⟩
   ·obtain rfl:k=hs.length:=by omega
    have HE:Hid (codesP hs ⟨rest4,false⟩ []=(acc,r)):=by rw [Hid,<- HCp.out,List.drop_length];rfl
    have hF2:=HF.out
    rw [List.drop_length,Nat.sub_self] at hF2
    simp only [List.map_nil,List.append_nil,List.replicate_zero] at hF2
    have HF2:Hid _:=hF2
    clear hF2;go_wp2_with fail;go_ret;rw [HFP.out,HE.out]
    exact ⟨_,vs,rfl,HR.out,HF2.out,HM.out⟩
end Go.Proofs.YtoknbkfclhmapaaGreatDoor
