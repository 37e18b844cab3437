import Derived.Test.YtnhcaifopaeohaaGreatDoorM20
import Derived.Test.YtnhcaifopaeohaaGreatDoorM05
import Derived.Test.YtnhcaifopaeohaaGreatDoorM06
import Derived.Test.YtnhcaifopaeohaaGreatDoorM12
namespace Go.Proofs.YtnhcaifopaeohaaGreatDoor
open Go.RowKit
set_option linter.all false
theorem run_loadVar_rowAt {P:Program} (w:World) (g off:Nat) (ty:TypeId) (cs:Array Value) (d:TypeDesc) (hc:∀ j (h:j<cs.size),w.cell? ⟨g,off+j,none⟩=some cs[j])
  (hu:P.underlying ty=some d) (hd:(match (generalizing:=false) d with | .struct _ | .array _ _=>true | _=>false)=true) (hi:(P.info? ty).map (·.size)=some cs.size) :
  (loadVar ty ⟨g,off,none⟩).run P w=.ok (.agg cs) w:=by
 have hl:(loadCells ⟨g,off,none⟩ cs.toList.length).run P w=.ok cs.toList.toArray w :=
  run_loadCells_list (P:=P) w ⟨g,off,none⟩ cs.toList (fun j v hv=>by
   have hadd:(⟨g,off,none⟩:Addr).add j=⟨g,off+j,none⟩:=by unfold Addr.add;split<;>simp_all
   obtain ⟨hj,hv⟩:=List.getElem?_eq_some_iff.1 hv
   rw [hadd,hc j (by simpa using hj)]
   simpa using hv)
 cases hq:P.info? ty with
 | none=>simp [hq] at hi
 | some i =>
  have hs:i.size=cs.size:=by simpa [hq] using hi
  have hagg:(isAgg ty).run P w=.ok true w:=by
   unfold isAgg;rw [Sem.run_bind,run_underlying hu w]
   cases d<;>simp_all
  simp only [Array.length_toList,Array.toArray_toList] at hl
  simp [loadVar,Sem.run_bind,hagg,sizeOf,typeInfo,hq,hs,hl]
theorem wpList_load_rowAt {P:Program} {ops:Array Oper} {rest:List Oper} {o:Oper} {a:Act} {w:World} {Q:Exit->Act->World->Prop} (hgd:o.guard=none) (ty:TypeId) (x:Operand) (ho:o.op=.load ty x)
  (g off:Nat) (hx:a.eval x=.pointer (some ⟨g,off,none⟩)) (cs:Array Value) (d:TypeDesc) (hc:∀ j (h:j<cs.size),w.cell? ⟨g,off+j,none⟩=some cs[j])
  (hu:P.underlying ty=some d) (hd:(match (generalizing:=false) d with | .struct _ | .array _ _=>true | _=>false)=true) (hi:(P.info? ty).map (·.size)=some cs.size)
  (h:wpList P ops Q rest (a.put o.dst (.agg cs)) w):wpList P ops Q (o::rest) a w :=
 wpList_plain hgd fun _ hK=>by
  unfold Oper.wp execOp
  simp only [ho,hx,Instr.loadAt,Instr.sureAddr,Sem.run_bind,Sem.run_pure,Result.andThen_ok,run_loadVar_rowAt w g off ty cs d hc hu hd hi]
  exact hK _ _ h
theorem LnsAt.row {w0 w:World} {v:Value} {bs:List Nat} {ls:List PLn} (h:LnsAt w0 v bs ls w) (k:Nat) (hk:k<ls.length):∃ g c,v=.slice (some ⟨g,0,none⟩) ls.length c/\ls.length<=c/\∀ w',Mods Nil' w w'->∀ j (hj:j<(ls[k].cells bs).size),w'.cell? ⟨g,k*20+j,none⟩=some (ls[k].cells bs)[j]:=by
 obtain ⟨o,c,hv,hb⟩:=h.sl.view
 obtain ⟨g,cs,rfl,hb,ht,hc,_⟩:=hb (by omega)
 refine ⟨g,c,hv,hc,fun w' m j hj=>?_⟩
 have hs:=cells_size bs ls[k]
 rw [take_cell (hb.mods m id) ht (k*20+j) (by omega),flat_get (fun x:PLn=>(x.cells bs).toList) 20 (fun x=>by simp [cells_size]) ls k j hk (by omega)]
 simp [hj]
theorem cells_name (bs:List Nat) (x:PLn) (h:x.kind≠4):(x.cells bs)[1]?=some (.string (T x.name)):=by
 unfold PLn.cells;rw [if_neg h];rfl
theorem cells_op (bs:List Nat) (x:PLn) (h:x.kind=4):(x.cells bs)[11]?=some (.pointer (some ⟨bs[x.x.k]?.getD 0,0,none⟩)):=by
 unfold PLn.cells;rw [if_pos h];rfl
theorem tslots2:∀ o∈tableS,o.slots<=2:=by
 have:tableS.all (fun o=>decide (o.slots<=2))=true:=by decide +kernel
 intro o ho
 simpa using List.all_eq_true.1 this o ho
theorem PRead.slots2 (x:PRead):x.o.slots<=2:=by
 unfold PRead.o
 cases h:tableS[x.k]? with
 | none=>exact Nat.zero_le _
 | some o=>exact tslots2 o (List.mem_of_getElem? h)
theorem last_mem {o:OL} (h:o.fs≠[]):o.last∈o.fs:=by
 obtain ⟨h1,h2⟩:=last_get h
 rw [h2];exact List.getElem_mem h1
theorem onLast_slots {o:OL} {f:OFn} {n:Nat} (h:∀ g∈o.fs,g.slots<=n) (hf:f.slots<=n):∀ g∈(o.onLast f).fs,g.slots<=n:=by
 intro g hg
 rcases List.mem_or_eq_of_mem_set hg with h1 | rfl
 ·exact h g h1
 ·exact hf
theorem last_slots {o:OL} {n:Nat} (h:∀ g∈o.fs,g.slots<=n):o.last.slots<=n:=by
 by_cases e:o.fs=[]
 ·unfold OL.last;rw [e];exact Nat.zero_le _
 ·exact h _ (last_mem e)
theorem outline_small (ls:List PLn):∀ k,k<=ls.length->(∀ f∈(outlineP (ls.take k)).fs,f.slots<=2*k)/\(outlineP (ls.take k)).fs.length<=k
 | 0,_=>by
  rw [List.take_zero]
  exact ⟨fun f hf=>(by cases hf),Nat.le_refl _⟩
 | k+1,h=>by
  obtain ⟨h1,h2⟩:=outline_small ls k (by omega)
  rw [outline_step ls k (by omega)]
  generalize outlineP (ls.take k)=o at *;generalize ls[k]=x
  have h3:∀ f∈o.fs,f.slots<=2*(k+1):=fun f hf=>by have:=h1 f hf;omega
  have h4:=last_slots h1
  unfold outStep
  split
  ·exact ⟨h3,by simpa using Nat.le_succ_of_le h2⟩
  split
  ·refine ⟨fun f hf=>?_,by simpa using h2⟩
   rcases List.mem_append.1 hf with h5 | h5
   ·exact h3 f h5
   ·have:f={}:=by simpa using h5
    subst this;exact Nat.zero_le _
  split
  ·refine ⟨onLast_slots h3 ?_,by simp [OL.onLast];omega⟩
   unfold OFn.label;split
   ·omega
   ·show o.last.slots<=_;omega
  split
  ·refine ⟨onLast_slots h3 ?_,by simp [OL.onLast];omega⟩
   have:=x.x.slots2
   show o.last.slots+x.x.o.slots<=_;omega
  ·exact ⟨h3,by omega⟩
theorem outline_maps (ls:List PLn):∀ k,k<=ls.length->(outlineP (ls.take k)).maps.length<=k
 | 0,_=>by rw [List.take_zero];exact Nat.le_refl _
 | k+1,h=>by
  have ih:=outline_maps ls k (by omega)
  rw [outline_step ls k (by omega)]
  generalize outlineP (ls.take k)=o at *;generalize ls[k]=x;unfold outStep
  split
  ·simpa using ih
  split
  ·exact Nat.le_succ_of_le ih
  split
  ·exact Nat.le_succ_of_le ih
  split
  ·exact Nat.le_succ_of_le ih
  ·exact Nat.le_succ_of_le ih
theorem OutAt.lastRow {w0 w:World} {bm:Nat} {oF:Option Addr} {cF:Nat} {lb:List Nat} {o:OL} (h:OutAt w0 bm (.slice oF o.fs.length cF) lb o w) (hne:o.fs≠[]):∃ g,oF=some ⟨g,0,none⟩/\o.fs.length<=cF/\∀ w',Mods Nil' w w'->∀ j (hj:j<(fnRow (lb[o.fs.length - 1]?.getD 0) o.last).toArray.size),w'.cell? ⟨g,(o.fs.length - 1)*3+j,none⟩=some (fnRow (lb[o.fs.length - 1]?.getD 0) o.last).toArray[j]:=by
 obtain ⟨hl,hg⟩:=last_get hne;obtain ⟨o',c',hv,hb⟩:=h.sl.view
 injection hv with e1 e2 e3
 subst e1 e3
 obtain ⟨g,cs,rfl,hb,ht,hc,_⟩:=hb (by omega)
 refine ⟨g,rfl,hc,fun w' m j hj=>?_⟩
 have hz:o.fs.length - 1<(lb.zip o.fs).length:=by rw [List.length_zip,h.len];omega
 have hj':j<3:=hj
 have hlb:o.fs.length - 1<lb.length:=by rw [h.len];exact hl
 rw [take_cell (hb.mods m id) ht ((o.fs.length - 1)*3+j) (by omega),fnRows,flat_get (fun x:Nat × OFn=>fnRow x.1 x.2) 3 (fun _=>rfl) (lb.zip o.fs) (o.fs.length - 1) j hz hj']
 rw [List.getElem_zip,List.getElem?_eq_getElem hlb,<- hg]
 simp only [Option.getD_some,List.getElem_toArray]
 rw [List.getElem?_eq_getElem]
theorem OutAt.keep {w0 w w':World} {bm A:Nat} {vF:Value} {lb:List Nat} {o:OL} {cs:Array Value} {t:TypeId} (h:OutAt w0 bm vF lb o w) (hA:Blk w A cs t) (ht:106≠t) (hlo:w0.heap.size<=A) (m:Mods (Only A) w w'):OutAt w0 bm vF lb o w':=by
 refine ⟨h.len,?_,h.sl.mods m (fun k hk e=>?_),fun i hi=>MapOf.mods (h.labs i hi) m (fun e=>?_),h.nd,h.lo,h.own,h.md.step m (fun i hi e=>by have:i=A:=e;omega)⟩
 ·exact h.maps.mods m (fun e=>h.maps.notBlk hA (show bm=A from e).symm)
 ·have e':k=A:=e
  exact h.sl.notBlk hA ht (by rw [hk,e'])
 ·exact MapOf.notBlk (h.labs i hi) hA (show _=A from e).symm
structure OutW (w0:World) (R A bm:Nat) (vF:Value) (lb:List Nat) (o:OL) (w:World):Prop where
 res:Blk w R #[.map none,.slice none 0 0] 64
 all:Blk w A #[.map (some bm),vF] 64
 out:OutAt w0 bm vF lb o w
 lt:w0.heap.size<=A/\w0.heap.size<=R/\R≠A
section
variable {w0 w w' : World} {R A bm : Nat} {vF : Value} {lb : List Nat} {o : OL}
theorem OutW.quiet (h:OutW w0 R A bm vF lb o w) (m:Mods Nil' w w'):OutW w0 R A bm vF lb o w':=⟨h.res.mods m id,h.all.mods m id,h.out.quiet m,h.lt⟩
theorem OutW.map {x:List UInt8} (h:OutW w0 R A bm vF lb o w) (hc:CntAt w' bm (x::o.maps)) (m:Mods (fun k=>k=bm) w w'):OutW w0 R A bm vF lb { o with maps:=x::o.maps } w' :=
 ⟨h.res.mods m (fun e=>h.out.maps.notBlk h.res e),h.all.mods m (fun e=>h.out.maps.notBlk h.all e),h.out.map hc m,h.lt⟩
theorem OutW.func {bN:Nat} {vF':Value} (h:OutW w0 R A bm vF lb o w) (hN:LbsAt w bN []) (hlo:w0.heap.size<=bN) (hnew:bN ∉ bm::lb)
  (s:Sl w' 106 3 vF' (o.fs.length+1) (fnRows lb o.fs++fnRow bN ({}:OFn))) (m:Mods (fun k=>vF.ownBlock=some k) w w') (lv:∀ k,vF'.ownBlock=some k->vF.ownBlock=some k\/w.heap.size<=k):OutW w0 R A bm vF' (lb++[bN]) { o with fs:=o.fs++[({}:OFn)] } (w'.setCell ⟨A,1,none⟩ vF'):=by
 have h1:=h.out.func hN hlo hnew s m lv
 have hA:=h.all.mods m (fun e=>h.out.sl.notBlk h.all (by decide) e)
 have hR:=h.res.mods m (fun e=>h.out.sl.notBlk h.res (by decide) e)
 refine ⟨hR.setOther (a:=⟨A,1,none⟩) h.lt.2.2.symm _,?_,h1.keep hA (by decide) h.lt.1 ((Mods.refl _ _).setb _ _),h.lt⟩
 exact hA.set 1 vF'
theorem OutW.lab {l':List (List UInt8 × Nat)} (h:OutW w0 R A bm vF lb o w) (hne:o.fs≠[]) (hL:LbsAt w' (lb[o.fs.length - 1]?.getD 0) l') (m:Mods (fun k=>k=lb[o.fs.length - 1]?.getD 0) w w'):OutW w0 R A bm vF lb (o.onLast { o.last with labs:=l' }) w':=by
 obtain ⟨hl,_⟩:=last_get hne
 have hlast:=h.out.labs _ hl
 exact ⟨h.res.mods m (fun e=>MapOf.notBlk hlast h.res e),h.all.mods m (fun e=>MapOf.notBlk hlast h.all e),h.out.lab hne hL m,h.lt⟩
theorem OutW.row {g cap:Nat} {f:OFn} (h:OutW w0 R A bm (.slice (some ⟨g,0,none⟩) o.fs.length cap) lb o w) (hne:o.fs≠[]) (hf:f.labs=o.last.labs):OutW w0 R A bm (.slice (some ⟨g,0,none⟩) o.fs.length cap) lb (o.onLast f) ((w.setCell ⟨g,(o.fs.length - 1)*3,none⟩ (.int .i64 f.slots)).setCell ⟨g,(o.fs.length - 1)*3+1,none⟩ (.bool f.ends)):=by
 have hA:A≠g:=fun e=>h.out.sl.notBlk h.all (by decide) (by rw [e];rfl)
 have hR:R≠g:=fun e=>h.out.sl.notBlk h.res (by decide) (by rw [e];rfl)
 exact ⟨(h.res.setOther (a:=⟨g,_,none⟩) hR.symm _).setOther (a:=⟨g,_,none⟩) hR.symm _,(h.all.setOther (a:=⟨g,_,none⟩) hA.symm _).setOther (a:=⟨g,_,none⟩) hA.symm _,h.out.row hne hf rfl,h.lt⟩
end
theorem onLast_self {o:OL} (h:o.fs≠[]):o.onLast o.last=o:=by
 obtain ⟨h1,h2⟩:=last_get h;unfold OL.onLast;rw [h2,List.set_getElem_self]
theorem OutAt.lastLab {w0 w:World} {bm:Nat} {vF:Value} {lb:List Nat} {o:OL} (h:OutAt w0 bm vF lb o w) (hne:o.fs≠[]):LbsAt w (lb[o.fs.length - 1]?.getD 0) o.last.labs:=by
 obtain ⟨h1,h2⟩:=last_get hne
 rw [h2];exact h.labs _ h1
theorem lbs_new (w:World):LbsAt (w.alloc (.map #[] 0)) w.heap.size []:=⟨#[],0,[],heap_alloc_new w _,rfl,fun _=>rfl⟩
def OutlPost (w:World) (o:OL) (e:Ending) (w':World):Prop:=∃ bm vF lb,e=.returned (.agg #[.map (some bm),vF])/\OutAt w bm vF lb o w'
set_option maxRecDepth 100000 in
theorem info_afn:(Tryz.prog.info? 106).map (fun i=>(i.zero,i.size,i.bytes))=some (some (.agg #[.int .i64 0,.bool false,.map none]),3,24):=by kernel_rfl
theorem fill_rowN (n:Nat) (cs z:Array Value) (hc:cs.size=n) (hz:z.size=n):Instr.fill (fun i=>some (i*n,n)) z [(0,.agg cs)]=some cs:=by
 obtain ⟨l⟩:=cs;obtain ⟨m⟩:=z
 simp only [List.size_toArray] at hc hz
 have h:=fold_set l [] m (by omega)
 have hcl:(Value.agg l.toArray).cells=l.toArray:=rfl
 simp only [Instr.fill,hcl,List.size_toArray,hc,hz]
 rw [if_neg (by simp)]
 simp only [List.nil_append,List.length_nil] at h
 simpa using h
theorem wpList_build_fn {ops:Array Oper} {rest:List Oper} {o:Oper} {a:Act} {w:World} {Q:Exit->Act->World->Prop} (hg:o.guard=none) (x:Operand) (ho:o.op=.buildSlice 62 1 #[(0,x)])
  (a0 a1 a2:Value) (hx:a.eval x=.agg #[a0,a1,a2])
  (h:wpList Tryz.prog ops Q rest (a.put o.dst (.slice (some ⟨w.heap.size,0,none⟩) 1 1)) (w.alloc (.cells #[a0,a1,a2] 106))):wpList Tryz.prog ops Q (o::rest) a w:=by
 obtain ⟨iP,hiP,hzP,hsP,hbP⟩:=info_parts info_afn
 refine wpList_buildSlice hg 62 106 1 _ ho #[a0,a1,a2] iP _ Tryz.underlying62 hiP hzP (by rw [hsP];decide) (by rw [hsP];decide) ?_ h
 rw [hsP]
 simp only [List.map_toArray,List.map_cons,List.map_nil,hx]
 exact fill_rowN 3 _ _ rfl (by simp)
set_option maxRecDepth 100000 in
set_option maxHeartbeats 4000000 in
theorem outline_any (wT wL w:World) (v vL:Value) (bs:List Nat) (ls:List PLn) (hO:OpsIn 0 wT v bs tableS) (m:Mods Nil' wT w) (hL:LnsAt wL vL bs ls w) (hin:InF ls) (hk4:∀ x∈ls,x.kind=4->x.x.k<tableS.length) (hnl:ls.length<=1000001) :
  Calls Tryz.prog 21 #[vL] w fun e w'=>OutlPost w (outlineP ls) e w':=by
 have HFIN:Hid (∀ e w' bm vF lb,e=.returned (.agg #[.map (some bm),vF])->OutAt w bm vF lb (outlineP ls) w'->OutlPost w (outlineP ls) e w'):=fun e w' bm vF lb h1 h2=>⟨bm,vF,lb,h1,h2⟩
 generalize OutlPost w (outlineP ls)=RP at *
 have HOP:Hid (∀ w',Mods Nil' w w'->∀ x∈ls,x.kind=4->OpAt w' (bs[x.x.k]?.getD 0) x.x.o):=fun w' m' x hx h4=>by
  have h1:=hk4 x hx h4
  have h2:x.x.k<bs.length:=by rw [hO.len];exact h1
  have:=(hO.mods (m.trans m')).at' x.x.k h2 h1
  rw [List.getElem?_eq_getElem h2];unfold PRead.o;rw [List.getElem?_eq_getElem h1];exact this
 have HLN:=hid hL;have HIN:=hid hin
 have HSM:Hid (∀ k,k<=ls.length->(∀ f∈(outlineP (ls.take k)).fs,f.slots<=2*k)/\(outlineP (ls.take k)).fs.length<=k):=outline_small ls
 have HMP:Hid (∀ k,k<=ls.length->(outlineP (ls.take k)).maps.length<=k):=outline_maps ls
 have HST:Hid (∀ k (h:k<ls.length),outlineP (ls.take (k+1))=outStep (outlineP (ls.take k)) ls[k]):=outline_step ls
 have HEND:Hid (∀ k,¬ k<ls.length->outlineP (ls.take k)=outlineP ls):=fun k h=>by rw [List.take_of_length_le (by omega)]
 obtain ⟨oL,cL,rfl,_⟩:=hL.sl.view
 have hmm:=@run_makeMap Tryz.prog
 clear hO m hL hin hk4
 have HW0:Hid (OutW w w.heap.size (w.heap.size+1+1) (w.heap.size+1) (.slice none 0 0) [] {} (((w.alloc (.cells #[.map none,.slice none 0 0] 64)).alloc (.map #[] 0)).alloc (.cells #[.map (some (w.heap.size+1)),.slice none 0 0] 64))):=by
  have m1:Mods Nil' w (w.alloc (.cells #[.map none,.slice none 0 0] 64)):=(Mods.refl _ _).alloc _
  have h1:=OutAt.new w _ m1
  have hs:(w.alloc (.cells #[.map none,.slice none 0 0] 64)).heap.size=w.heap.size+1:=by simp
  rw [hs] at h1
  have hs2:((w.alloc (.cells #[.map none,.slice none 0 0] 64)).alloc (.map #[] 0)).heap.size=w.heap.size+1+1:=by simp
  refine ⟨((Blk.new w _ _).alloc _).alloc _,?_,h1.quiet ((Mods.refl _ _).alloc _),by omega⟩
  have:=Blk.new ((w.alloc (.cells #[.map none,.slice none 0 0] 64)).alloc (.map #[] 0)) #[.map (some (w.heap.size+1)),.slice none 0 0] 64
  rw [hs2] at this;exact this
 go_enter Tryz.func21,Tryz.ntmps21
 go_upto_region 1 with fail;go_wp2_with fail;generalize ((w.alloc (.cells #[.map none,.slice none 0 0] 64)).alloc (.map #[] 0)).alloc (.cells #[.map (some (w.heap.size+1)),.slice none 0 0] 64)=w1 at *;generalize w.heap.size=R at *
 generalize hbm:R+1=bm at *
 generalize bm+1=A at *;clear hbm
 go_loopg [15] ls.length (fun q v15 wx=>∃ (k:Nat) (vF:Value) (lb:List Nat),k<=ls.length/\v15=.int .i64 k/\OutW w R A bm vF lb (outlineP (ls.take k)) wx/\q=ls.length - k)
 case atStart=>exact ⟨0,_,[],Nat.zero_le _,rfl,HW0.out,rfl⟩
 case round =>
  obtain ⟨k,vF,lb,hk,rfl,hA,rfl⟩:=hrel;have HA:=hid hA;clear hA HW0
  have hsm:=(HSM.out k hk).2
  obtain ⟨oF,cF,hvF,_⟩:=HA.out.out.sl.view;subst hvF
  by_cases hlt:k<ls.length
  ·obtain ⟨g,cL',hv,hcl,hrow⟩:=HLN.out.row k hlt
   injection hv with hv1 hv2 hv3
   subst hv1
   have HRW:=hrow wr HA.out.out.md
   have HS:Hid (outlineP (ls.take (k+1))=outStep (outlineP (ls.take k)) ls[k]):=HST.out k hlt
   have HI:Hid ((ls[k].kind=3\/ls[k].kind=4)->(outlineP (ls.take k)).fs≠[]):=HIN.out k hlt
   have HSL:Hid (∀ f∈(outlineP (ls.take k)).fs,f.slots<=2*k):=(HSM.out k hk).1
   have HO4:Hid (∀ w',Mods Nil' w w'->ls[k].kind=4->OpAt w' (bs[ls[k].x.k]?.getD 0) ls[k].x.o):=fun w' m'=>HOP.out w' m' ls[k] (List.getElem_mem hlt)
   have hmp:=HMP.out k hk
   clear hrow HST HIN HSM HOP hv3 HEND HMP;generalize outlineP (ls.take k)=o at *;generalize ls[k]=x at *
   have HCS:Hid ((x.cells bs).size=20):=cells_size bs x
   have HC0:Hid ((x.cells bs)[0]?=some (.int .i64 x.kind)):=cells_kind bs x
   have HC1:Hid ((x.cells bs).all (·.oneCell')=true):=cells_one bs x
   have HCN:Hid (x.kind≠4->(x.cells bs)[1]?=some (.string (T x.name))):=cells_name bs x
   have HCO:Hid (x.kind=4->(x.cells bs)[11]?=some (.pointer (some ⟨bs[x.x.k]?.getD 0,0,none⟩))):=cells_op bs x
   have HB2:Hid (Blk (wr.alloc (.cells (lnM 0 ⟨#[]⟩ num0 num0 num0) 102)) wr.heap.size (lnM 0 ⟨#[]⟩ num0 num0 num0) 102):=Blk.new wr _ _
   generalize x.cells bs=cs at *
   go_upto_region 5 with (first | (refine wpList_load_rowAt rfl 102 (.tmp 17) rfl g (k*20) rfl cs _ HRW Tryz.underlying102 rfl (by rw [HCS.out];kernel_rfl) ?_) | (refine wpList_store_blk rfl 102 (.tmp 5) (.tmp 18) rfl wr.heap.size cs rfl rfl 102 _ HB2.out (by rw [HCS.out];kernel_rfl) (by rw [HCS.out];rfl) HC1.out ?_;intro W3 hB3 hm3))
   have HA3:Hid (OutW w R A bm (.slice oF o.fs.length cF) lb o W3):=HA.out.quiet hm3.fresh
   have c0:W3.cell? ⟨wr.heap.size,0,none⟩=some (.int .i64 x.kind):=(hB3.cell 0).trans HC0.out
   have a0:W3.cell? ⟨A,0,none⟩=some (.map (some bm)):=HA3.out.all.cell 0
   have a1:W3.cell? ⟨A,1,none⟩=some (.slice oF o.fs.length cF):=HA3.out.all.cell 1
   have HB3:=hid hB3;have HBL:=hid HA.out.out.md.size;clear HA HB2 HRW hm3 hB3;generalize wr.heap.size=B at *
   have hcase:x.kind=1\/x.kind=2\/x.kind=3\/x.kind=4\/(x.kind≠1/\x.kind≠2/\x.kind≠3/\x.kind≠4):=by omega
   rcases hcase with hx | hx | hx | hx | hx
   ·have q1:((x.kind:Int)==1)=true:=by rw [hx];rfl
    have c1:W3.cell? ⟨B,1,none⟩=some (.string (T x.name)):=(HB3.out.cell 1).trans (HCN.out (by omega))
    have hlk:=HA3.out.out.maps.look x.name
    obtain ⟨w5,hup,hc5,m5⟩:=HA3.out.out.maps.put x.name
    have hcn:o.maps.count x.name<=k:=Nat.le_trans List.count_le_length hmp
    have HR5:Hid (OutW w R A bm (.slice oF o.fs.length cF) lb (outStep o x) w5):=by
     have:=HA3.out.map hc5 m5
     unfold outStep;rw [if_pos hx];exact this
    clear hc5 m5 hx;generalize o.maps.count x.name=cn at *;go_wp2_with fail
    go_roundg (ls.length - (k+1))
    case measure=>omega
    case rel=>exact ⟨k+1,_,lb,by omega,by go_num,by rw [HS.out];exact HR5.out,rfl⟩
   ·have q1:((x.kind:Int)==1)=false:=by rw [hx];rfl
    have q2:((x.kind:Int)==2)=true:=by rw [hx];rfl
    have HWN:Hid (OutW w R A bm (.slice oF o.fs.length cF) lb o (W3.alloc (.map #[] 0))):=HA3.out.quiet ((Mods.refl _ _).alloc _)
    have HLW:Hid (LbsAt (W3.alloc (.map #[] 0)) W3.heap.size []):=lbs_new W3
    have HOS:Hid (outStep o x={ o with fs:=o.fs++[({}:OFn)] }):=by
     rw [Hid,outStep,if_neg (by omega),if_pos hx]
    have HLO:=hid HA3.out.out.md.size
    have HNW:Hid (W3.heap.size ∉ bm::lb):=fun hm=>by
     rcases List.mem_cons.1 hm with e | e
     ·have:=HA3.out.out.maps.lt;omega
     ·obtain ⟨i,hi,e⟩:=List.getElem_of_mem e
      have hi':i<o.fs.length:=by rw [<- HA3.out.out.len];exact hi
      have:=MapOf.lt (HA3.out.out.labs i hi')
      rw [List.getElem?_eq_getElem hi] at this
      simp only [Option.getD_some] at this
      omega
    clear hx;obtain ⟨iP,hiP,hzP,hsP,hbP⟩:=info_parts info_afn;go_upto_region 10 with fail
    have HWS:Hid (∀ os,OutW w R A bm (.slice oF o.fs.length cF) lb o ((W3.alloc (.map #[] 0)).alloc os)):=fun os=>HWN.out.quiet ((Mods.refl _ _).alloc _)
    have HLS:Hid (∀ os,LbsAt ((W3.alloc (.map #[] 0)).alloc os) W3.heap.size []):=fun os=>MapOf.mods HLW.out ((Mods.refl Nil' _).alloc os) id
    have HAP:Hid (∀ os vA wA,Sl wA 106 3 vA (o.fs.length+1) (fnRows lb o.fs++fnRow W3.heap.size ({}:OFn))->Mods (fun k=>(Value.slice oF o.fs.length cF).ownBlock=some k) ((W3.alloc (.map #[] 0)).alloc os) wA->(∀ k,vA.ownBlock=some k->(Value.slice oF o.fs.length cF).ownBlock=some k\/((W3.alloc (.map #[] 0)).alloc os).heap.size<=k)->Blk wA A #[.map (some bm),.slice oF o.fs.length cF] 64/\(∃ oA cA,vA=.slice oA (o.fs.length+1) cA)/\OutW w R A bm vA (lb++[W3.heap.size]) (outStep o x) (wA.setCell ⟨A,1,none⟩ vA)):=fun os vA wA sA mA lA=>by
     refine ⟨(HWS.out os).all.mods mA (fun e=>(HWS.out os).out.sl.notBlk (HWS.out os).all (by decide) e),?_,?_⟩
     ·obtain ⟨oA,cA,hvA,_⟩:=sA.view
      exact ⟨oA,cA,hvA⟩
     ·rw [HOS.out]
      exact (HWS.out os).func (HLS.out os) HLO.out HNW.out sA mA lA
    go_wp2_with (first | (refine wpList_build_fn rfl (.tmp 38) rfl (.int .i64 0) (.bool false) (.map (some W3.heap.size)) rfl ?_) | (at_builtin;(refine wpList_append_sl _ rfl (.tmp 36) (.tmp 39) 62 rfl 106 iP (.agg #[.int .i64 0,.bool false,.map none]) 3 24 Tryz.underlying62 hiP hzP hsP hbP rfl (by decide) (.slice oF o.fs.length cF) o.fs.length (fnRows lb o.fs) rfl (HWS.out _).out.sl ⟨(W3.alloc (.map #[] 0)).heap.size,0,none⟩ 1 1 (#[.int .i64 0,.bool false,.map (some W3.heap.size)]:Array Value).toList rfl rfl (news_cells _ _ _ _ rfl) (by simp [Value.oneCell']) (by unfold maxLen;omega) (by omega) ?_;intro vA wA sA mA lA;obtain ⟨hAA,⟨oA,cA,hvA⟩,hWA⟩:=HAP.out _ _ _ sA mA lA;subst hvA;have aA1:=hAA.cell 1;have aAf:=hAA.frozen;have HAA:Hid (OutW w R A bm (.slice oA (o.fs.length+1) cA) (lb++[W3.heap.size]) (outStep o x) (wA.setCell ⟨A,1,none⟩ (.slice oA (o.fs.length+1) cA))):=hWA;clear sA mA lA hAA hWA)))
    go_roundg (ls.length - (k+1))
    case measure=>omega
    case rel=>exact ⟨k+1,_,_,by omega,by go_num,by rw [HS.out];exact HAA.out,rfl⟩
   ·have q1:((x.kind:Int)==1)=false:=by rw [hx];rfl
    have q2:((x.kind:Int)==2)=false:=by rw [hx];rfl
    have q3:((x.kind:Int)==3)=true:=by rw [hx];rfl
    have hne:=HI.out (.inl hx)
    obtain ⟨gF,rfl,hcF,hrw⟩:=HA3.out.out.lastRow hne
    have HRF:∀ j (h:j<(#[.int .i64 o.last.slots,.bool o.last.ends,.map (some (lb[o.fs.length - 1]?.getD 0))]:Array Value).size),W3.cell? ⟨gF,(o.fs.length - 1)*3+j,none⟩=some (#[.int .i64 o.last.slots,.bool o.last.ends,.map (some (lb[o.fs.length - 1]?.getD 0))]:Array Value)[j]:=hrw W3 (Mods.refl _ _)
    have hn1:1<=o.fs.length:=List.length_pos_iff.2 hne
    have hi:((o.fs.length:Int) - 1)=((o.fs.length - 1:Nat):Int):=by omega
    have HSW:Hid (∀ W,Mods Nil' W3 W->OutW w R A bm (.slice (some ⟨gF,0,none⟩) o.fs.length cF) lb o W):=fun W m=>HA3.out.quiet m
    have HOL:=last_slots HSL.out
    have HC1N:Hid (cs[1]?=some (.string (T x.name))):=HCN.out (by omega)
    have HOS:Hid (outStep o x=o.onLast (o.last.label x.name)):=by
     rw [Hid,outStep,if_neg (by omega),if_neg (by omega),if_pos hx]
    have HSE:Hid (o.onLast o.last=o):=onLast_self hne
    have HLB:Hid (∀ W,Mods Nil' W3 W->LbsAt W (lb[o.fs.length - 1]?.getD 0) o.last.labs):=fun W m=>(HSW.out W m).out.lastLab hne
    have HPL:Hid (∀ W w',Mods Nil' W3 W->LbsAt w' (lb[o.fs.length - 1]?.getD 0) (o.last.labs++[(x.name,o.last.slots)])->Mods (fun k=>k=lb[o.fs.length - 1]?.getD 0) W w'->OutW w R A bm (.slice (some ⟨gF,0,none⟩) o.fs.length cF) lb (o.onLast { o.last with labs:=o.last.labs++[(x.name,o.last.slots)] }) w'):=fun W w' m h1 h2=>(HSW.out W m).lab hne h1 h2
    clear hx hrw;go_upto_region 12 with fail;generalize lb[o.fs.length - 1]?.getD 0=bl at *
    generalize hn1':o.fs.length - 1=n1 at *
    generalize hnn:o.fs.length=nn at *
    have HLD:Hid (o.last.label x.name=if (labOf o.last.labs x.name).isSome then o.last else { o.last with labs:=o.last.labs++[(x.name,o.last.slots)] }):=rfl
    generalize hlas:o.last=la at *
    obtain ⟨sl,en,las⟩:=la
    dsimp only at *
    have HM4:Hid (Mods Nil' W3 (W3.alloc (.cells #[.int .i64 sl,.bool en,.map (some bl)] 106))):=(Mods.refl _ _).alloc _
    have c1':(W3.alloc (.cells #[.int .i64 sl,.bool en,.map (some bl)] 106)).cell? ⟨B,1,none⟩=some (.string (T x.name)):=((HB3.out.mods HM4.out id).cell 1).trans HC1N.out
    have hlk:=(HLB.out _ HM4.out).look x.name
    have HPU:Hid ((labOf las x.name).isSome=false->∃ w',(Instr.mapUpdate 61 (.map (some bl)) (.string (T x.name)) (.int .i64 sl)).run Tryz.prog (W3.alloc (.cells #[.int .i64 sl,.bool en,.map (some bl)] 106))=.ok () w'/\LbsAt w' bl (las++[(x.name,sl)])/\Mods (fun k=>k=bl) (W3.alloc (.cells #[.int .i64 sl,.bool en,.map (some bl)] 106)) w'):=fun h=>(HLB.out _ HM4.out).put x.name sl h
    generalize labOf las x.name=lo at *
    cases lo with
    | some lv =>
     have HR5:Hid (OutW w R A bm (.slice (some ⟨gF,0,none⟩) nn cF) lb (outStep o x) (W3.alloc (.cells #[.int .i64 sl,.bool en,.map (some bl)] 106))):=by
      rw [HOS.out,HLD.out]
      simp only [Option.isSome_some,if_true]
      rw [HSE.out];exact HSW.out _ HM4.out
     simp only [Option.getD_some,Option.isSome_some] at hlk
     go_wp2_with (refine wpList_load_rowAt rfl 106 (.tmp 47) rfl gF (n1*3) rfl #[.int .i64 sl,.bool en,.map (some bl)] _ HRF Tryz.underlying106 rfl (by kernel_rfl) ?_)
     go_roundg (ls.length - (k+1))
     case measure=>omega
     case rel=>exact ⟨k+1,_,lb,by omega,by go_num,by rw [HS.out];exact HR5.out,rfl⟩
    | none =>
     obtain ⟨w5,hup,hl5,m5⟩:=HPU.out rfl
     have HR5:Hid (OutW w R A bm (.slice (some ⟨gF,0,none⟩) nn cF) lb (outStep o x) w5):=by
      rw [HOS.out,HLD.out];exact HPL.out _ _ HM4.out hl5 m5
     simp only [Option.getD_none,Option.isSome_none] at hlk
     clear hl5 m5
     go_wp2_with (refine wpList_load_rowAt rfl 106 (.tmp 47) rfl gF (n1*3) rfl #[.int .i64 sl,.bool en,.map (some bl)] _ HRF Tryz.underlying106 rfl (by kernel_rfl) ?_)
     go_roundg (ls.length - (k+1))
     case measure=>omega
     case rel=>exact ⟨k+1,_,lb,by omega,by go_num,by rw [HS.out];exact HR5.out,rfl⟩
   ·have q1:((x.kind:Int)==1)=false:=by rw [hx];rfl
    have q2:((x.kind:Int)==2)=false:=by rw [hx];rfl
    have q3:((x.kind:Int)==3)=false:=by rw [hx];rfl
    have q4:((x.kind:Int)==4)=true:=by rw [hx];rfl
    have hne:=HI.out (.inr hx)
    obtain ⟨gF,rfl,hcF,hrw⟩:=HA3.out.out.lastRow hne
    have HRF:∀ j (h:j<(#[.int .i64 o.last.slots,.bool o.last.ends,.map (some (lb[o.fs.length - 1]?.getD 0))]:Array Value).size),W3.cell? ⟨gF,(o.fs.length - 1)*3+j,none⟩=some (#[.int .i64 o.last.slots,.bool o.last.ends,.map (some (lb[o.fs.length - 1]?.getD 0))]:Array Value)[j]:=hrw W3 (Mods.refl _ _)
    have hn1:1<=o.fs.length:=List.length_pos_iff.2 hne
    have hi:((o.fs.length:Int) - 1)=((o.fs.length - 1:Nat):Int):=by omega
    have HSW:Hid (∀ W,Mods Nil' W3 W->OutW w R A bm (.slice (some ⟨gF,0,none⟩) o.fs.length cF) lb o W):=fun W m=>HA3.out.quiet m
    have HOL:=last_slots HSL.out
    have HOS:Hid (outStep o x=o.onLast (o.last.code x.x.o)):=by
     rw [Hid,outStep,if_neg (by omega),if_neg (by omega),if_neg (by omega),if_pos hx]
    have HC11:Hid (cs[11]?=some (.pointer (some ⟨bs[x.x.k]?.getD 0,0,none⟩))):=HCO.out hx
    have HOA:Hid (∀ W,Mods Nil' W3 W->OpAt W (bs[x.x.k]?.getD 0) x.x.o):=fun W m=>HO4.out W (HA3.out.out.md.trans m) hx
    have hs2:=x.x.slots2
    have HRD:Hid (∀ W,Mods Nil' W3 W->W.cell? ⟨gF,(o.fs.length - 1)*3,none⟩=some (.int .i64 o.last.slots)/\W.cell? ⟨gF,(o.fs.length - 1)*3+1,none⟩=some (.bool o.last.ends)):=fun W m=>⟨hrw W m 0 (by show 0<3;decide),hrw W m 1 (by show 1<3;decide)⟩
    have HGB:Hid (∀ W,Mods Nil' W3 W->∃ cs,Blk W gF cs 106):=fun W m=>by
     obtain ⟨o',c',hv',hb'⟩:=(HSW.out W m).out.sl.view
     obtain ⟨g',cs',h1,h2,_⟩:=hb' hn1
     injection hv' with e1 e2 e3
     rw [h1] at e1
     injection e1 with e1
     injection e1 with e1
     exact ⟨cs',by rw [e1];exact h2⟩
    clear hx hrw HO4 HCO HRF;go_upto_region 17 with fail;generalize lb[o.fs.length - 1]?.getD 0=bl at *;generalize bs[x.x.k]?.getD 0=bo at *
    have HRW:Hid (∀ W f,Mods Nil' W3 W->f.labs=o.last.labs->OutW w R A bm (.slice (some ⟨gF,0,none⟩) o.fs.length cF) lb (o.onLast f) ((W.setCell ⟨gF,(o.fs.length - 1)*3,none⟩ (.int .i64 f.slots)).setCell ⟨gF,(o.fs.length - 1)*3+1,none⟩ (.bool f.ends))):=fun W f m hf=>(HSW.out W m).row hne hf
    generalize hn1':o.fs.length - 1=n1 at *
    generalize hnn:o.fs.length=nn at *
    have HFS:Hid (o.last.code x.x.o={ slots:=o.last.slots+x.x.o.slots,ends:=x.x.o.ends,labs:=o.last.labs }):=rfl
    generalize hlas:o.last=la at *
    obtain ⟨sl,en,las⟩:=la
    dsimp only at *
    go_upto_region 18 with fail
    have HMd:Hid (Mods Nil' W3 W3.drew):=(Mods.refl _ _).drew
    refine wp_region_qtail 13 (by kernel_rfl) (by kernel_rfl) ?_
    intro W hW;rw [<- hW] at HMd;clear hW c0 a0 a1;obtain ⟨d0,d1⟩:=HRD.out W HMd.out
    have e11:W.cell? ⟨B,11,none⟩=some (.pointer (some ⟨bo,0,none⟩)):=((HB3.out.mods HMd.out id).cell 11).trans HC11.out
    obtain ⟨p1,p2,p3,p4,p5,p6,p7,p8,p9,p10,p11,hbo,_⟩:=(HOA.out W HMd.out).ex
    have o2:=hbo.cell 2
    have o4:=hbo.cell 4
    obtain ⟨csF,hgb⟩:=HGB.out W HMd.out
    have gf:=hgb.frozen
    have gB:B≠gF:=fun e=>(HB3.out.mods HMd.out id).apart hgb (by decide) e
    have gO:bo≠gF:=fun e=>hbo.apart hgb (by decide) e
    have HR5:Hid (OutW w R A bm (.slice (some ⟨gF,0,none⟩) nn cF) lb (outStep o x) ((W.setCell ⟨gF,n1*3,none⟩ (.int .i64 ((sl:Int)+(x.x.o.slots:Int)))).setCell ⟨gF,n1*3+1,none⟩ (.bool x.x.o.ends))):=by
     rw [HOS.out,HFS.out]
     exact HRW.out W { slots:=sl+x.x.o.slots,ends:=x.x.o.ends,labs:=las } HMd.out rfl
    clear hbo hgb;generalize x.x.o.slots=os at *;generalize x.x.o.ends=oe at *
    simp only [List.take_succ_cons,List.take_zero,List.drop_succ_cons,List.drop_zero]
    repeat (go_big_quiet_step (fail))
    refine wpQuiet_nil ?_
    go_wp2_with fail
    go_roundg (ls.length - (k+1))
    case measure=>omega
    case rel=>exact ⟨k+1,_,lb,by omega,by go_num,by rw [HS.out];exact HR5.out,rfl⟩
   ·have q1:((x.kind:Int)==1)=false:=by simp;omega
    have q2:((x.kind:Int)==2)=false:=by simp;omega
    have q3:((x.kind:Int)==3)=false:=by simp;omega
    have q4:((x.kind:Int)==4)=false:=by simp;omega
    have HR5:Hid (OutW w R A bm (.slice oF o.fs.length cF) lb (outStep o x) W3):=by
     unfold outStep;rw [if_neg hx.1,if_neg hx.2.1,if_neg hx.2.2.1,if_neg hx.2.2.2];exact HA3.out
    clear hx;go_wp2_with fail
    go_roundg (ls.length - (k+1))
    case measure=>omega
    case rel=>exact ⟨k+1,_,lb,by omega,by go_num,by rw [HS.out];exact HR5.out,rfl⟩
  ·rw [HEND.out k hlt] at HA
   have a0:wr.cell? ⟨A,0,none⟩=some (.map (some bm)):=HA.out.all.cell 0
   have a1:wr.cell? ⟨A,1,none⟩=some (.slice oF (outlineP ls).fs.length cF):=HA.out.all.cell 1
   have r0:=HA.out.res.cell 0
   have r1:=HA.out.res.cell 1
   have rf:=HA.out.res.frozen
   have HF:Hid (OutAt w bm (.slice oF (outlineP ls).fs.length cF) lb (outlineP ls) ((wr.setCell ⟨R,0,none⟩ (.map (some bm))).setCell ⟨R,1,none⟩ (.slice oF (outlineP ls).fs.length cF))):=HA.out.out.keep HA.out.res (by decide) HA.out.lt.2.1 (((Mods.refl _ _).setb _ _).setb _ _)
   have HRB:Hid (Blk ((wr.setCell ⟨R,0,none⟩ (.map (some bm))).setCell ⟨R,1,none⟩ (.slice oF (outlineP ls).fs.length cF)) R #[.map (some bm),.slice oF (outlineP ls).fs.length cF] 64):=(HA.out.res.set 0 _).set 1 _
   go_wp2_with fail
   exact bodyPost_ret (results_cell_row Tryz.results21 _ _ R 64 #[.map (some bm),.slice oF (outlineP ls).fs.length cF] (0,0) _ rfl HRB.out Tryz.underlying64 rfl (by kernel_rfl)) rfl (HFIN.out _ _ _ _ lb rfl HF.out)
def sizeOk (n:RNum) (most:Int):Bool:=(n.sgnP 9223372036854775808).isSome&&decide (1<=(n.sgnP 9223372036854775808).getD 0)&&decide ((n.sgnP 9223372036854775808).getD 0<=most)
def sizesFitP (a b c:RNum):Bool:=sizeOk a 8&&sizeOk b 16&&sizeOk c 8
set_option maxRecDepth 100000 in
theorem ix3_0 (W:World):(Instr.index 285 (.agg #[.int .i64 8,.int .i64 16,.int .i64 8]) (.int .i64 0)).run Tryz.prog W=.ok (.int .i64 8) W:=rfl
set_option maxRecDepth 100000 in
theorem ix3_1 (W:World):(Instr.index 285 (.agg #[.int .i64 8,.int .i64 16,.int .i64 8]) (.int .i64 1)).run Tryz.prog W=.ok (.int .i64 16) W:=rfl
set_option maxRecDepth 100000 in
theorem ix3_2 (W:World):(Instr.index 285 (.agg #[.int .i64 8,.int .i64 16,.int .i64 8]) (.int .i64 2)).run Tryz.prog W=.ok (.int .i64 8) W:=rfl
set_option maxRecDepth 100000 in
set_option maxHeartbeats 4000000 in
theorem fit_any (kd:Nat) (nm:ByteArray) (a b c:RNum) (w:World) :
  Calls Tryz.prog 213 #[.agg (lnM kd nm a b c)] w fun e w'=>e=.returned (.bool (sizesFitP a b c))/\Mods Nil' w w':=by
 have HF:Hid (sizesFitP a b c=(((a.sgnP 9223372036854775808).isSome&&decide (1<=(a.sgnP 9223372036854775808).getD 0)&&decide ((a.sgnP 9223372036854775808).getD 0<=8))&&((b.sgnP 9223372036854775808).isSome&&decide (1<=(b.sgnP 9223372036854775808).getD 0)&&decide ((b.sgnP 9223372036854775808).getD 0<=16))&&((c.sgnP 9223372036854775808).isSome&&decide (1<=(c.sgnP 9223372036854775808).getD 0)&&decide ((c.sgnP 9223372036854775808).getD 0<=8)))):=rfl
 have HSA:Hid (∀ w,Calls Tryz.prog 216 #[a.aggP,.int .i64 64] w fun e w'=>e=.returned (.tuple #[.int .i64 ((a.sgnP 9223372036854775808).getD 0),.bool (a.sgnP 9223372036854775808).isSome])/\Mods Nil' w w'):=signed64_any a
 have HSB:Hid (∀ w,Calls Tryz.prog 216 #[b.aggP,.int .i64 64] w fun e w'=>e=.returned (.tuple #[.int .i64 ((b.sgnP 9223372036854775808).getD 0),.bool (b.sgnP 9223372036854775808).isSome])/\Mods Nil' w w'):=signed64_any b
 have HSC:Hid (∀ w,Calls Tryz.prog 216 #[c.aggP,.int .i64 64] w fun e w'=>e=.returned (.tuple #[.int .i64 ((c.sgnP 9223372036854775808).getD 0),.bool (c.sgnP 9223372036854775808).isSome])/\Mods Nil' w w'):=signed64_any c
 unfold RNum.aggP lnM lnC at *
 generalize sizesFitP a b c=r at *;generalize a.sgnP 9223372036854775808=sa at *;generalize decide (18446744073709551616<=a.v)=ag at *
 generalize ((a.v % 18446744073709551616:Nat):Int)=av at *
 generalize a.minus=am at *;generalize b.sgnP 9223372036854775808=sb at *;generalize decide (18446744073709551616<=b.v)=bg at *
 generalize ((b.v % 18446744073709551616:Nat):Int)=bv at *
 generalize b.minus=bm at *;generalize c.sgnP 9223372036854775808=sc at *;generalize decide (18446744073709551616<=c.v)=cg at *
 generalize ((c.v % 18446744073709551616:Nat):Int)=cv at *
 generalize c.minus=cm at *
 generalize hcs:(#[.int .i64 kd,.string nm,.bool am,.int .u64 av,.bool ag,.bool bm,.int .u64 bv,.bool bg,.bool cm,.int .u64 cv,.bool cg,.pointer none,.int .u8 (0:Nat),.int .u8 (0:Nat),.int .i16 0,.int .i32 0,.int .i32 0,.string ⟨#[]⟩,.string ⟨#[]⟩,.bool false]:Array Value)=cs at *
 have HCS:=hid hcs.symm;clear hcs
 have HB0:Hid (Blk (w.alloc (.cells cs 102)) w.heap.size cs 102):=Blk.new w _ _
 have HM0:Hid (Mods Nil' w (w.alloc (.cells cs 102))):=(Mods.refl _ _).alloc _
 go_enter Tryz.func213,Tryz.ntmps213
 go_upto_region 1 with fail;go_wp2_with fail;generalize w.alloc (.cells cs 102)=w1 at *;generalize w.heap.size=B at *
 go_loopg [8] 3 (fun q v8 wx=>∃ k:Nat,k<=3/\v8=.int .i64 k/\Mods Nil' w1 wx/\(1<=k->(sa.isSome&&decide (1<=sa.getD 0)&&decide (sa.getD 0<=8))=true)/\(2<=k->(sb.isSome&&decide (1<=sb.getD 0)&&decide (sb.getD 0<=16))=true)/\(3<=k->(sc.isSome&&decide (1<=sc.getD 0)&&decide (sc.getD 0<=8))=true)/\q=3 - k)
 case atStart=>exact ⟨0,by omega,rfl,Mods.refl _ _,fun h=>absurd h (by omega),fun h=>absurd h (by omega),fun h=>absurd h (by omega),rfl⟩
 case round =>
  obtain ⟨k,hk,rfl,hm,g1,g2,g3,rfl⟩:=hrel;have HM:=hid hm;have G1:=hid g1;have G2:=hid g2;have G3:=hid g3;clear hm g1 g2 g3
  have hcase:k=0\/k=1\/k=2\/k=3:=by omega
  rcases hcase with rfl | rfl | rfl | rfl
  ·have HBk:=HB0.out.mods HM.out id
   rw [HCS.out] at HBk
   have d0:=HBk.cell 2
   have d1:=HBk.cell 3
   have d2:=HBk.cell 4
   clear HBk
   have hix:=ix3_0
   go_wp2_with fail
   refine (HSA.out _).mono ?_
   rintro e w2 ⟨rfl,m2⟩
   have HM2:Hid (Mods Nil' w1 w2):=HM.out.trans m2
   clear m2 d0 d1 d2
   cases sa with
   | none =>
    have HNO:Hid (((none:Option Int).isSome&&decide (1<=(none:Option Int).getD 0)&&decide ((none:Option Int).getD 0<=8))=false):=rfl
    go_wp2_with fail;go_ret
    exact ⟨by rw [HF.out,HNO.out];simp,HM0.out.trans HM2.out⟩
   | some v =>
    simp only [Option.getD_some,Option.isSome_some]
    by_cases h1:v<1
    ·have HNO:Hid (((some v).isSome&&decide (1<=(some v).getD 0)&&decide ((some v).getD 0<=8))=false):=by
      rw [Hid];simp;omega
     go_wp2_with fail;go_ret
     exact ⟨by rw [HF.out,HNO.out];simp,HM0.out.trans HM2.out⟩
    ·by_cases h2:8<v
     ·have HNO:Hid (((some v).isSome&&decide (1<=(some v).getD 0)&&decide ((some v).getD 0<=8))=false):=by
       rw [Hid];simp;omega
      go_wp2_with fail;go_ret
      exact ⟨by rw [HF.out,HNO.out];simp,HM0.out.trans HM2.out⟩
     ·have HYES:Hid (((some v).isSome&&decide (1<=(some v).getD 0)&&decide ((some v).getD 0<=8))=true):=by
       rw [Hid];simp;omega
      go_wp2_with fail
      go_roundg (3 - 1)
      case measure=>omega
      case rel=>exact ⟨1,by omega,by go_num,HM2.out,fun _=>HYES.out,fun h=>absurd h (by omega),fun h=>absurd h (by omega),rfl⟩
  ·have HBk:=HB0.out.mods HM.out id
   rw [HCS.out] at HBk
   have d0:=HBk.cell 5
   have d1:=HBk.cell 6
   have d2:=HBk.cell 7
   clear HBk
   have hix:=ix3_1
   go_wp2_with fail
   refine (HSB.out _).mono ?_
   rintro e w2 ⟨rfl,m2⟩
   have HM2:Hid (Mods Nil' w1 w2):=HM.out.trans m2
   clear m2 d0 d1 d2
   cases sb with
   | none =>
    have HNO:Hid (((none:Option Int).isSome&&decide (1<=(none:Option Int).getD 0)&&decide ((none:Option Int).getD 0<=16))=false):=rfl
    go_wp2_with fail;go_ret
    exact ⟨by rw [HF.out,HNO.out];simp,HM0.out.trans HM2.out⟩
   | some v =>
    simp only [Option.getD_some,Option.isSome_some]
    by_cases h1:v<1
    ·have HNO:Hid (((some v).isSome&&decide (1<=(some v).getD 0)&&decide ((some v).getD 0<=16))=false):=by
      rw [Hid];simp;omega
     go_wp2_with fail;go_ret
     exact ⟨by rw [HF.out,HNO.out];simp,HM0.out.trans HM2.out⟩
    ·by_cases h2:16<v
     ·have HNO:Hid (((some v).isSome&&decide (1<=(some v).getD 0)&&decide ((some v).getD 0<=16))=false):=by
       rw [Hid];simp;omega
      go_wp2_with fail;go_ret
      exact ⟨by rw [HF.out,HNO.out];simp,HM0.out.trans HM2.out⟩
     ·have HYES:Hid (((some v).isSome&&decide (1<=(some v).getD 0)&&decide ((some v).getD 0<=16))=true):=by
       rw [Hid];simp;omega
      go_wp2_with fail
      go_roundg (3 - 2)
      case measure=>omega
      case rel=>exact ⟨2,by omega,by go_num,HM2.out,fun _=>G1.out (by omega),fun _=>HYES.out,fun h=>absurd h (by omega),rfl⟩
  ·have HBk:=HB0.out.mods HM.out id
   rw [HCS.out] at HBk
   have d0:=HBk.cell 8
   have d1:=HBk.cell 9
   have d2:=HBk.cell 10
   clear HBk
   have hix:=ix3_2
   go_wp2_with fail
   refine (HSC.out _).mono ?_
   rintro e w2 ⟨rfl,m2⟩
   have HM2:Hid (Mods Nil' w1 w2):=HM.out.trans m2
   clear m2 d0 d1 d2
   cases sc with
   | none =>
    have HNO:Hid (((none:Option Int).isSome&&decide (1<=(none:Option Int).getD 0)&&decide ((none:Option Int).getD 0<=8))=false):=rfl
    go_wp2_with fail;go_ret
    exact ⟨by rw [HF.out,HNO.out];simp,HM0.out.trans HM2.out⟩
   | some v =>
    simp only [Option.getD_some,Option.isSome_some]
    by_cases h1:v<1
    ·have HNO:Hid (((some v).isSome&&decide (1<=(some v).getD 0)&&decide ((some v).getD 0<=8))=false):=by
      rw [Hid];simp;omega
     go_wp2_with fail;go_ret
     exact ⟨by rw [HF.out,HNO.out];simp,HM0.out.trans HM2.out⟩
    ·by_cases h2:8<v
     ·have HNO:Hid (((some v).isSome&&decide (1<=(some v).getD 0)&&decide ((some v).getD 0<=8))=false):=by
       rw [Hid];simp;omega
      go_wp2_with fail;go_ret
      exact ⟨by rw [HF.out,HNO.out];simp,HM0.out.trans HM2.out⟩
     ·have HYES:Hid (((some v).isSome&&decide (1<=(some v).getD 0)&&decide ((some v).getD 0<=8))=true):=by
       rw [Hid];simp;omega
      go_wp2_with fail
      go_roundg (3 - 3)
      case measure=>omega
      case rel=>exact ⟨3,by omega,by go_num,HM2.out,fun _=>G1.out (by omega),fun _=>G2.out (by omega),fun _=>HYES.out,rfl⟩
  ·go_wp2_with fail;go_ret
   exact ⟨by rw [HF.out,G1.out (by omega),G2.out (by omega),G3.out (by omega)];rfl,HM0.out.trans HM.out⟩
structure PR where
 rest:List UInt8
 bad:Bool
def takeP (n:Nat) (r:PR):List UInt8 × PR:=if r.rest.length<n then (r.rest,⟨[],true⟩) else (r.rest.take n,⟨r.rest.drop n,r.bad⟩)
def oneP (r:PR):Nat × PR:=match r.rest with
 | []=>(0,⟨[],true⟩)
 | b::l=>(b.toNat,⟨l,r.bad⟩)
def wantP (c:Bool) (r:PR):PR:=⟨r.rest,r.bad||!c⟩
def twoP (r:PR):Nat × PR:=((oneP r).1+256*(oneP (oneP r).2).1,(oneP (oneP r).2).2)
def nameP (r:PR):List UInt8 × PR:=((takeP (oneP r).1 (oneP r).2).1,wantP (nameB (takeP (oneP r).1 (oneP r).2).1) (takeP (oneP r).1 (oneP r).2).2)
def sizeP (most:Nat) (r:PR):Nat × PR:=((oneP r).1,wantP (decide (1<=(oneP r).1)&&decide ((oneP r).1<=most)) (oneP r).2)
structure PMap where
 name:List UInt8
 key:Nat
 value:Nat
 entries:Nat
def PMap.cells (m:PMap):List Value:=[.string (T m.name),.int .u8 m.key,.int .u8 m.value,.int .u8 m.entries]
def ltL (a b:List UInt8):Bool:=ltB (T a) (T b)
def mapP (r:PR):PMap × PR :=
 let n:=nameP r;let k:=sizeP 8 n.2;let v:=sizeP 16 k.2;let e:=sizeP 8 v.2
 (⟨n.1,k.1,v.1,e.1⟩,e.2)
def mapsP:Nat->PR->List UInt8->List PMap->List PMap × PR
 | 0,r,_,acc=>(acc,r)
 | k+1,r,last,acc=>mapsP k (wantP (ltL last (mapP r).1.name) (mapP r).2) (mapP r).1.name (acc++[(mapP r).1])
structure PHead where
 name:List UInt8
 slots:Nat
def headP (r:PR):PHead × PR:=(⟨(nameP r).1,(twoP (nameP r).2).1⟩,(twoP (nameP r).2).2)
def headsP:Nat->PR->List UInt8->Nat->List PHead->List PHead × Nat × PR
 | 0,r,_,all,acc=>(acc,all,r)
 | k+1,r,last,all,acc=>headsP k (wantP (ltL last (headP r).1.name) (headP r).2) (headP r).1.name (all+(headP r).1.slots) (acc++[(headP r).1])
structure PI where
 k:Nat
 d:Nat
 s:Nat
 jump:Int
 num:Int
 high:Int
 name:List UInt8
def noOp:OpS:=⟨0,[],[],0,false,false,0,false⟩
def PI.o (x:PI):OpS:=tableS[x.k]?.getD noOp
def PI.ins (bs:List Nat) (x:PI):PIns:=⟨.pointer (some ⟨bs[x.k]?.getD 0,0,none⟩),x.d,x.s,x.jump,x.num,x.high,ByteArray.empty,T x.name⟩
def PI.refers (x:PI):Nat:=if x.s=1 then x.o.refers else 0
def PI.target (x:PI) (slot:Nat):Int:=(slot:Int)+x.o.slots+x.jump
def sgn16 (n:Nat):Int:=if n<32768 then n else (n:Int) - 65536
def sgn32 (n:Nat):Int:=if n<2147483648 then n else (n:Int) - 4294967296
def at' (l:List UInt8) (k:Nat):Nat:=(l[k]?.getD 0).toNat
def num32 (l:List UInt8):Int:=sgn32 (at' l 0+256*at' l 1+65536*at' l 2+16777216*at' l 3)
def byCodeM (c:Nat):Option Nat:=tableS.findIdx? (fun o=>o.code==c)
def fromP (l:List UInt8):Option PI :=
 if l.length<8 then none else
 match byCodeM (at' l 0) with
 | none=>none
 | some k =>
  let o:=tableS[k]?.getD noOp
  if l.length<o.slots*8 then none
  else
   let x:PI:=⟨k,at' l 1 % 16,at' l 1 / 16,sgn16 (at' l 2+256*at' l 3),num32 (l.drop 4),if 1<o.slots then num32 (l.drop 12) else 0,[]⟩
   if 1<o.slots/\(l.drop 8).take 4≠[0,0,0,0] then none
   else if o.needs (x.ins []) then some x else none
def codeL (sl:List UInt8) (n:Nat):Nat->Nat->List PI->List Bool->Option (List PI × List Bool)
 | 0,_,_,_=>none
 | f+1,at_,acc,st=>if at_<n then
   (match fromP (sl.drop (at_*8)) with
   | none=>none
   | some x=>codeL sl n f (at_+x.o.slots) (acc++[x]) (st.set at_ true))
  else some (acc,st)
def leadP (st:List Bool):Nat->List PI->Bool
 | _,[]=>true
 | slot,x::l=>(if x.o.jumps then decide (0<=x.target slot)&&(st[(x.target slot).toNat]?.getD false) else true)&&leadP st (slot+x.o.slots) l
def lastP (l:List PI):Bool:=match l.getLast? with
 | none=>false
 | some x=>x.o.ends
def codeP (sl:List UInt8) (r:PR):List PI × PR :=
 match codeL sl (sl.length / 8) (sl.length / 8+1) 0 [] (List.replicate (sl.length / 8) false) with
 | none=>([],⟨r.rest,true⟩)
 | some (l,st)=>(l,wantP (leadP st 0 l) (wantP (lastP l) r))
structure PFn where
 name:List UInt8
 code:List PI
def codesP:List PHead->PR->List PFn->List PFn × PR
 | [],r,acc=>(acc,r)
 | h::l,r,acc=>codesP l (codeP (takeP (h.slots*8) r).1 (takeP (h.slots*8) r).2).2 (acc++[⟨h.name,(codeP (takeP (h.slots*8) r).1 (takeP (h.slots*8) r).2).1⟩])
def funcsP (r:PR):List PFn × PR :=
 let c:=oneP r
 let h:=headsP c.1 (wantP (decide (c.1<=16)) c.2) [] 0 []
 let q:=wantP (decide (h.2.1<=200)) h.2.2
 if q.bad then ([],q) else codesP h.1 q []
def hasMapP (ms:List PMap) (nm:List UInt8):Bool:=ms.any (fun m=>m.name==nm)
def refP (n slot:Nat) (r:PR):List UInt8 × PR :=
 let a:=oneP r;let q:=wantP (decide (a.1=n)) a.2;let b:=twoP q;nameP (wantP (decide (b.1=slot)) b.2)
def refsI (ms:List PMap) (n:Nat):Nat->List PI->Int->PR->List PI->List PI × Int × PR
 | _,[],left,r,acc=>(acc,left,r)
 | slot,x::l,left,r,acc =>
  if x.refers≠0 then
   refsI ms n (slot+x.o.slots) l (left - 1) (wantP (decide (x.refers≠2)||hasMapP ms (refP n slot r).1) (wantP (decide (x.num=0)) (refP n slot r).2)) (acc++[{ x with name:=(refP n slot r).1 }])
  else refsI ms n (slot+x.o.slots) l left r (acc++[x])
def refsF (ms:List PMap):List PFn->List PFn->Int->PR->List PFn × Int × PR
 | done,[],left,r=>(done,left,r)
 | done,f::l,left,r=>refsF ms (done++[⟨f.name,(refsI ms done.length 0 f.code left r []).1⟩]) l (refsI ms done.length 0 f.code left r []).2.1 (refsI ms done.length 0 f.code left r []).2.2
def refsP (ms:List PMap) (fs:List PFn) (r:PR):List PFn × PR :=
 let h:=refsF ms [] fs ((twoP r).1:Int) (twoP r).2
 (h.1,wantP (decide (h.2.1=0)) h.2.2)
def decodeP (s:List UInt8):List PMap × List PFn × PR :=
 let a:=takeP 4 ⟨s,false⟩
 let r1:=wantP (a.1==[83,80,79,76]) a.2
 let b:=oneP r1
 let r2:=wantP (decide (b.1=1)) b.2
 let c:=oneP r2
 let m:=mapsP c.1 (wantP (decide (c.1<=8)) c.2) [] []
 let f:=funcsP m.2
 let g:=refsP m.1 f.1 f.2
 (m.1,g.1,wantP (g.2.rest==[]) g.2)
def sizeT (n:Nat):List UInt8:=32::Lib.itoa (n:Int)
def mapTP (m:PMap):List UInt8:=[109,97,112,32]++m.name++sizeT m.key++sizeT m.value++sizeT m.entries++[10]
def slotsP (l:List PI):Nat:=(l.map (·.o.slots)).sum
def ledP:Nat->List PI->List Bool->List Bool
 | _,[],st=>st
 | slot,x::l,st=>ledP (slot+x.o.slots) l (if x.o.jumps then st.set (x.target slot).toNat true else st)
def labsP:List Bool->Nat->List (List UInt8)
 | [],_=>[]
 | true::l,n=>(108::Lib.itoa (n:Int))::labsP l (n+1)
 | false::l,n=>[]::labsP l n
def PI.lab (labs:List (List UInt8)) (slot:Nat) (x:PI):List UInt8:=if x.o.jumps then labs[(x.target slot).toNat]?.getD [] else []
def codeTP (labs:List (List UInt8)):Nat->List PI->List UInt8
 | _,[]=>[]
 | slot,x::l=>(if labs[slot]?.getD []≠[] then labs[slot]?.getD []++[58,10] else [])++[32,32]++x.o.write { x.ins [] with label:=T (x.lab labs slot) }++[10]++codeTP labs (slot+x.o.slots) l
def labelsP (f:PFn):List (List UInt8):=labsP (ledP 0 f.code (List.replicate (slotsP f.code) false)) 0
def fnTP (f:PFn):List UInt8:=[102,117,110,99,32]++f.name++[10]++codeTP (labelsP f) 0 f.code
def textP (ms:List PMap) (fs:List PFn):List UInt8:=ms.flatMap mapTP++fs.flatMap fnTP
def disP (s:List UInt8):Option (List UInt8):=if (decodeP s).2.2.bad then none else some (textP (decodeP s).1 (decodeP s).2.1)
end Go.Proofs.YtnhcaifopaeohaaGreatDoor
