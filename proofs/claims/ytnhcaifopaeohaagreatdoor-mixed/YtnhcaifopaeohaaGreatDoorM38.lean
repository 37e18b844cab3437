import Derived.Test.YtnhcaifopaeohaaGreatDoorM37
import Derived.Test.YtnhcaifopaeohaaGreatDoorM28
import Derived.OwnWalk
namespace Go.Proofs.YtnhcaifopaeohaaGreatDoor
open Go.RowKit
set_option linter.all false
theorem outline_labs (ls:List PLn):∀ k,k<=ls.length->∀ f∈(outlineP (ls.take k)).fs,∀ p∈f.labs,p.2<=2*k
 | 0,_=>by rw [List.take_zero];exact fun f hf=>(by cases hf)
 | k+1,h=>by
  have ih:=outline_labs ls k (by omega)
  have hs:=(outline_small ls k (by omega)).1
  rw [outline_step ls k (by omega)]
  generalize outlineP (ls.take k)=o at *;generalize ls[k]=x
  have h3:∀ f∈o.fs,∀ p∈f.labs,p.2<=2*(k+1):=fun f hf p hp=>by have:=ih f hf p hp;omega
  have hlast:∀ p∈o.last.labs,p.2<=2*(k+1):=by
   by_cases e:o.fs=[]
   ·unfold OL.last;rw [e];exact fun p hp=>(by cases hp)
   ·exact h3 _ (last_mem e)
  have hsl:=last_slots hs
  unfold outStep
  split
  ·exact h3
  split
  ·intro f hf
   rcases List.mem_append.1 hf with h5 | h5
   ·exact h3 f h5
   ·have:f={}:=by simpa using h5
    subst this;exact fun p hp=>(by cases hp)
  split
  ·intro f hf
   rcases List.mem_or_eq_of_mem_set hf with h5 | rfl
   ·exact h3 f h5
   ·unfold OFn.label
    split
    ·exact hlast
    ·intro p hp
     rcases List.mem_append.1 hp with h6 | h6
     ·exact hlast p h6
     ·rw [List.mem_singleton.1 h6];show o.last.slots<=_;omega
  split
  ·intro f hf
   rcases List.mem_or_eq_of_mem_set hf with h5 | rfl
   ·exact h3 f h5
   ·exact hlast
  ·exact h3
theorem labOf_le {l:List (List UInt8 × Nat)} {n:Nat} (h:∀ p∈l,p.2<=n) (y:List UInt8):(labOf l y).getD 0<=n:=by
 unfold labOf
 cases hf:l.find? (fun p=>p.1==y) with
 | none=>exact Nat.zero_le _
 | some p=>exact h p (List.mem_of_find?_eq_some hf)
def BldPost (w:World) (tv:Value) (bs:List Nat) (b:BS) (e:Ending) (w':World):Prop :=
 ∃ vM vF ms fs vs,e=.returned (.agg #[vM,vF])/\PPrL w' tv bs vM vF ms fs vs/\ms.Perm b.ms/\ms.Pairwise (fun x y=>ltB (T y.name) (T x.name)=false)/\fs.Perm b.fs/\fs.Pairwise (fun x y=>ltB (T y.name) (T x.name)=false)/\Mods Nil' w w'
set_option maxRecDepth 100000 in
set_option maxHeartbeats 4000000 in
theorem build_any (wT wL wO w:World) (tv vL:Value) (bs:List Nat) (ls:List PLn) (bm:Nat) (vO:Value) (lb:List Nat) (hO:OpsIn 0 wT tv bs tableS) (m:Mods Nil' wT w) (hL:LnsAt wL vL bs ls w) (hA:OutAt wO bm vO lb (outlineP ls) w) (hin:InF ls) (hk4:∀ x∈ls,x.kind=4->x.x.k<tableS.length) (hnl:ls.length<=10000)
  (hsz:∀ x∈ls,x.kind=1->(0<=szP (x.ns.getD 0 num0)/\szP (x.ns.getD 0 num0)<256)/\(0<=szP (x.ns.getD 1 num0)/\szP (x.ns.getD 1 num0)<256)/\(0<=szP (x.ns.getD 2 num0)/\szP (x.ns.getD 2 num0)<256)) :
  Calls Tryz.prog 24 #[vL,.agg #[.map (some bm),vO]] w fun e w'=>BldPost w tv bs (buildP (outlineP ls) ls) e w':=by
 have HRP:Hid (∀ e w',(∃ vM vF ms fs vs,e=.returned (.agg #[vM,vF])/\PPrL w' tv bs vM vF ms fs vs/\ms.Perm (buildP (outlineP ls) ls).ms/\ms.Pairwise (fun x y=>ltB (T y.name) (T x.name)=false)/\fs.Perm (buildP (outlineP ls) ls).fs/\fs.Pairwise (fun x y=>ltB (T y.name) (T x.name)=false)/\Mods Nil' w w')->BldPost w tv bs (buildP (outlineP ls) ls) e w'):=fun e w' h=>h
 have HOP:Hid (∀ w',Mods Nil' w w'->∀ x∈ls,x.kind=4->OpAt w' (bs[x.x.k]?.getD 0) x.x.o):=fun w' m' x hx h4=>by
  have h1:=hk4 x hx h4
  have h2:x.x.k<bs.length:=by rw [hO.len];exact h1
  have:=(hO.mods (m.trans m')).at' x.x.k h2 h1
  rw [List.getElem?_eq_getElem h2];unfold PRead.o;rw [List.getElem?_eq_getElem h1];exact this
 have HOI:Hid (∀ w',Mods Nil' w w'->OpsIn 0 w' tv bs tableS):=fun w' m'=>hO.mods (m.trans m')
 have HLN:=hid hL;have HOA:=hid hA
 have HBL:Hid (∀ k,k<=ls.length->(buildP (outlineP ls) (ls.take k)).fs.length=(outlineP (ls.take k)).fs.length/\(buildP (outlineP ls) (ls.take k)).slot<=2*k/\(buildP (outlineP ls) (ls.take k)).ms.length<=k/\(buildP (outlineP ls) (ls.take k)).fs.length<=k/\(∀ f∈(buildP (outlineP ls) (ls.take k)).fs,f.code.length<=k)):=build_len (outlineP ls) ls
 have HST:Hid (∀ k (h:k<ls.length),buildP (outlineP ls) (ls.take (k+1))=bStep (outlineP ls) (buildP (outlineP ls) (ls.take k)) ls[k]):=build_step (outlineP ls) ls
 have HEND:Hid (∀ k,¬ k<ls.length->buildP (outlineP ls) (ls.take k)=buildP (outlineP ls) ls):=fun k h=>by rw [List.take_of_length_le (by omega)]
 have HIN:Hid (∀ k (h:k<ls.length),ls[k].kind=4->0<(buildP (outlineP ls) (ls.take k)).fs.length):=fun k h h4=>by
  rw [(build_len (outlineP ls) ls k (by omega)).1]
  exact List.length_pos_iff.2 (hin k h (.inr h4))
 have HMO:Hid (∀ x∈ls,x.kind=1->∀ w,Calls Tryz.prog 46 #[.agg (x.cells bs)] w fun e w'=>e=.returned (.agg #[.string (T (pmOf x).name),.int .u8 ((pmOf x).key:Nat),.int .u8 ((pmOf x).value:Nat),.int .u8 ((pmOf x).entries:Nat)])/\Mods Nil' w w'):=fun x hx h1 w=>by
  obtain ⟨s0,s1,s2⟩:=hsz x hx h1
  have hc:x.cells bs=lnM x.kind (T x.name) (x.ns.getD 0 num0) (x.ns.getD 1 num0) (x.ns.getD 2 num0):=by unfold PLn.cells;rw [if_neg (by omega)]
  rw [hc]
  refine (mapOf_any x.kind (T x.name) _ _ _ w s0 s1 s2).mono ?_
  rintro e w' ⟨rfl,m'⟩
  refine ⟨?_,m'⟩
  unfold pmOf
  simp only [Int.toNat_of_nonneg s0.1,Int.toNat_of_nonneg s1.1,Int.toNat_of_nonneg s2.1]
 obtain ⟨oL,cL,hvL,_⟩:=hL.sl.view;subst hvL;obtain ⟨oO,cO,hvO,_⟩:=hA.sl.view
 have hOL:(outlineP ls).fs.length<=10000:=by
  have:=(outline_small ls ls.length (Nat.le_refl _)).2
  rw [List.take_of_length_le (Nat.le_refl _)] at this
  omega
 subst hvO;clear hO m hL hin hk4 hsz hA;generalize BldPost w tv bs (buildP (outlineP ls) ls)=RP at *
 have HW0:Hid (BdW w (w.heap.size+1) w.heap.size (w.heap.size+1+1) bm (.slice oO (outlineP ls).fs.length cO) bs (.slice none 0 0) (.slice none 0 0) {} [] (((w.alloc (.cells #[.map (some bm),.slice oO (outlineP ls).fs.length cO] 64)).alloc (.cells #[.slice none 0 0,.slice none 0 0] 37)).alloc (.cells #[.slice none 0 0,.slice none 0 0] 37))):=by
  have m1:Mods Nil' w ((w.alloc (.cells #[.map (some bm),.slice oO (outlineP ls).fs.length cO] 64)).alloc (.cells #[.slice none 0 0,.slice none 0 0] 37)):=((Mods.refl _ _).alloc _).alloc _
  have h1:=BdAt.new w bs _ m1
  have hs:((w.alloc (.cells #[.map (some bm),.slice oO (outlineP ls).fs.length cO] 64)).alloc (.cells #[.slice none 0 0,.slice none 0 0] 37)).heap.size=w.heap.size+1+1:=by simp
  rw [hs] at h1
  have h2:=Blk.new (w.alloc (.cells #[.map (some bm),.slice oO (outlineP ls).fs.length cO] 64)) #[.slice none 0 0,.slice none 0 0] 37
  have hs2:(w.alloc (.cells #[.map (some bm),.slice oO (outlineP ls).fs.length cO] 64)).heap.size=w.heap.size+1:=by simp
  rw [hs2] at h2
  exact ⟨h1,h2.alloc _,((Blk.new w _ _).alloc _).alloc _,by omega⟩
 go_enter Tryz.func24,Tryz.ntmps24
 go_upto_region 2 with fail;go_wp2_with fail;generalize ((w.alloc (.cells #[.map (some bm),.slice oO (outlineP ls).fs.length cO] 64)).alloc (.cells #[.slice none 0 0,.slice none 0 0] 37)).alloc (.cells #[.slice none 0 0,.slice none 0 0] 37)=w1 at *
 generalize hA0:w.heap.size=A at *
 generalize hR0:A+1=R at *
 generalize hP0:R+1=P at *
 go_loopg [13,6] ls.length (fun q v13 v6 wx=>∃ (k:Nat) (vM vF:Value) (vs:List Value),k<=ls.length/\v13=.int .i64 k/\v6=.int .i64 (buildP (outlineP ls) (ls.take k)).slot/\BdW w R A P bm (.slice oO (outlineP ls).fs.length cO) bs vM vF (buildP (outlineP ls) (ls.take k)) vs wx/\q=ls.length - k)
 case atStart=>exact ⟨0,_,_,[],Nat.zero_le _,rfl,rfl,HW0.out,rfl⟩
 case round =>
  obtain ⟨k,vM,vF,vs,hk,rfl,rfl,hB,rfl⟩:=hrel;have HB:=hid hB;clear hB HW0;obtain ⟨hb1,hb2,hb3,hb4,hb5⟩:=HBL.out k hk;obtain ⟨oM,cM,hvM,_⟩:=HB.out.bd.maps.view;obtain ⟨oF,cF,hvF,_⟩:=HB.out.bd.rows.view;subst hvM hvF
  by_cases hlt:k<ls.length
  ·obtain ⟨g,cL',hv,hcl,hrow⟩:=HLN.out.row k hlt
   injection hv with hv1 hv2 hv3
   subst hv1
   have HRW:=hrow wr HB.out.bd.md
   have HS:Hid (buildP (outlineP ls) (ls.take (k+1))=bStep (outlineP ls) (buildP (outlineP ls) (ls.take k)) ls[k]):=HST.out k hlt
   have HI:Hid (ls[k].kind=4->0<(buildP (outlineP ls) (ls.take k)).fs.length):=HIN.out k hlt
   have HO4:Hid (∀ w',Mods Nil' w w'->ls[k].kind=4->OpAt w' (bs[ls[k].x.k]?.getD 0) ls[k].x.o):=fun w' m'=>HOP.out w' m' ls[k] (List.getElem_mem hlt)
   have HM1:Hid (ls[k].kind=1->∀ w,Calls Tryz.prog 46 #[.agg (ls[k].cells bs)] w fun e w'=>e=.returned (.agg #[.string (T (pmOf ls[k]).name),.int .u8 ((pmOf ls[k]).key:Nat),.int .u8 ((pmOf ls[k]).value:Nat),.int .u8 ((pmOf ls[k]).entries:Nat)])/\Mods Nil' w w'):=HMO.out ls[k] (List.getElem_mem hlt)
   have HFL:Hid ((buildP (outlineP ls) (ls.take k)).fs.length<=(outlineP ls).fs.length):=by
    rw [Hid,hb1];exact outline_mono ls k
   have HTG:Hid (∀ n,n<(outlineP ls).fs.length->∀ y,(labOf ((outlineP ls).fs.getD n {}).labs y).getD 0<=20000):=fun n hn y=>by
    have h1:=outline_labs ls ls.length (Nat.le_refl _)
    rw [List.take_of_length_le (Nat.le_refl _)] at h1;rw [List.getD_eq_getElem?_getD,List.getElem?_eq_getElem hn]
    have:=labOf_le (h1 _ (List.getElem_mem hn)) y
    show (labOf (outlineP ls).fs[n].labs y).getD 0<=20000
    omega
   have HOR:Hid (∀ n,n<(outlineP ls).fs.length->∃ gO,oO=some ⟨gO,0,none⟩/\(outlineP ls).fs.length<=cO/\∀ W,Mods Nil' w W->W.cell? ⟨gO,n*3+2,none⟩=some (.map (some (lb[n]?.getD 0)))/\LbsAt W (lb[n]?.getD 0) ((outlineP ls).fs.getD n {}).labs):=fun n hn=>by
    obtain ⟨gO,h1,_,h3,h4⟩:=HOA.out.fnAt n hn
    refine ⟨gO,h1,h3,fun W mW=>⟨h4 W mW 2 (by show 2<3;decide),?_⟩⟩
    rw [List.getD_eq_getElem?_getD,List.getElem?_eq_getElem hn]
    exact MapOf.mods (HOA.out.labs n hn) mW id
   clear hrow HST HIN HOP hv3 HEND HMO HBL hb1;generalize buildP (outlineP ls) (ls.take k)=b at *;generalize ls[k]=x at *;generalize (outlineP ls).fs.length=nO at *
   have HCS:Hid ((x.cells bs).size=20):=cells_size bs x
   have HC0:Hid ((x.cells bs)[0]?=some (.int .i64 x.kind)):=cells_kind bs x
   have HC1:Hid ((x.cells bs).all (·.oneCell')=true):=cells_one bs x
   have HCN:Hid (x.kind≠4->(x.cells bs)[1]?=some (.string (T x.name))):=cells_name bs x
   have HB2:Hid (Blk (wr.alloc (.cells (lnM 0 ⟨#[]⟩ num0 num0 num0) 102)) wr.heap.size (lnM 0 ⟨#[]⟩ num0 num0 num0) 102):=Blk.new wr _ _
   have HC4:Hid (x.kind=4->x.cells bs=lnC 4 ⟨#[]⟩ num0 num0 num0 (.pointer (some ⟨bs[x.x.k]?.getD 0,0,none⟩)) x.x.r.d x.x.r.s x.x.r.jump x.x.r.num x.x.r.high (T x.x.r.label) (T x.x.r.name) x.x.fits):=fun h=>by unfold PLn.cells;rw [if_pos h]
   generalize x.cells bs=cs at *
   go_upto_region 6 with (first | (refine wpList_load_rowAt rfl 102 (.tmp 15) rfl g (k*20) rfl cs _ HRW Tryz.underlying102 rfl (by rw [HCS.out];kernel_rfl) ?_) | (refine wpList_store_blk rfl 102 (.tmp 8) (.tmp 16) rfl wr.heap.size cs rfl rfl 102 _ HB2.out (by rw [HCS.out];kernel_rfl) (by rw [HCS.out];rfl) HC1.out ?_;intro W3 hB3 hm3))
   have HB3:Hid (BdW w R A P bm (.slice oO nO cO) bs (.slice oM b.ms.length cM) (.slice oF b.fs.length cF) b vs W3):=HB.out.quiet hm3.fresh
   have c0:W3.cell? ⟨wr.heap.size,0,none⟩=some (.int .i64 x.kind):=(hB3.cell 0).trans HC0.out
   have p0:W3.cell? ⟨P,0,none⟩=some (.slice oM b.ms.length cM):=HB3.out.bd.blk.cell 0
   have p1:W3.cell? ⟨P,1,none⟩=some (.slice oF b.fs.length cF):=HB3.out.bd.blk.cell 1
   have HLB:=hid hB3;clear HB HB2 HRW hm3 hB3;generalize wr.heap.size=B at *
   have hcase:x.kind=1\/x.kind=2\/x.kind=4\/(x.kind≠1/\x.kind≠2/\x.kind≠4):=by omega
   rcases hcase with hx | hx | hx | hx
   ·have q1:((x.kind:Int)==1)=true:=by rw [hx];rfl
    have HMC:=HM1.out hx
    have HBS:Hid (∀ W vA wA,Mods Nil' W3 W->Sl wA 47 4 vA (b.ms.length+1) (b.ms.flatMap PMap.cells++PMap.cells (pmOf x))->Mods (fun k=>(Value.slice oM b.ms.length cM).ownBlock=some k) W wA->(∀ k,vA.ownBlock=some k->(Value.slice oM b.ms.length cM).ownBlock=some k\/W.heap.size<=k)->(∃ oA cA,vA=.slice oA (b.ms.length+1) cA)/\Blk wA P #[.slice oM b.ms.length cM,.slice oF b.fs.length cF] 37/\BdW w R A P bm (.slice oO nO cO) bs vA (.slice oF b.fs.length cF) (bStep (outlineP ls) b x) vs (wA.setCell ⟨P,0,none⟩ vA)):=fun W vA wA mW sA mA lA=>by
     obtain ⟨oA,cA,hvA,_⟩:=sA.view
     exact ⟨⟨oA,cA,hvA⟩,(HB3.out.quiet mW).bd.blkM mA,(HB3.out.quiet mW).map (outlineP ls) hx sA mA lA⟩
    have HMW:Hid (∀ W,Mods Nil' W3 W->Sl W 47 4 (.slice oM b.ms.length cM) b.ms.length (b.ms.flatMap PMap.cells)):=fun W mW=>(HB3.out.quiet mW).bd.maps
    have HBE:Hid (∀ e:Ext (fun k=>(Value.slice oM b.ms.length cM).ownBlock=some k) W3,Blk e.w P #[.slice oM b.ms.length cM,.slice oF b.fs.length cF] 37/\Blk e.w B cs 102):=fun e=>⟨HB3.out.bd.blkM e.m,HLB.out.mods e.m (fun h=>HB3.out.bd.maps.notBlk HLB.out (by decide) h)⟩
    have HSL:Hid (buildP (outlineP ls) (ls.take (k+1))=bStep (outlineP ls) b x/\(bStep (outlineP ls) b x).slot=b.slot):=⟨HS.out,by unfold bStep;rw [if_pos hx]⟩
    obtain ⟨iP,hiP,hzP,hsP,hbP⟩:=info_parts info_pmap;clear hx HS HI HO4 HM1 HC4 HCN HB3;generalize pmOf x=pm at *;generalize bStep (outlineP ls) b x=b' at *;go_upto_region 9 with fail
    haveI:Nonempty (Ext (fun k=>(Value.slice oM b.ms.length cM).ownBlock=some k) W3):=Ext.ne _ _
    have d0:∀ e:Ext (fun k=>(Value.slice oM b.ms.length cM).ownBlock=some k) W3,e.w.cell? ⟨P,0,none⟩=some (.slice oM b.ms.length cM):=fun e=>(HBE.out e).1.cell 0
    have HLD:=hid HLB.out.drew
    refine wp_region_mixtail 6 [2,3,4,5] (fun w'=>∃ e:Ext (fun k=>(Value.slice oM b.ms.length cM).ownBlock=some k) W3,w'=e.w) (by kernel_rfl) (by kernel_rfl) ⟨⟨_,(Mods.refl _ _).drew⟩,rfl⟩ ?_
    simp only [List.take_succ_cons,List.take_zero,List.drop_succ_cons,List.drop_zero]
    iterate 2 (refine mix_pure rfl rfl rfl ?_;intro K hK;go_big_quiet_op;go_big_quiet_on)
    refine mix_act rfl rfl ?_
    intro K hK
    refine wp_load_row 102 (.tmp 8) rfl B rfl 102 cs (0,0) _ HLD.out Tryz.underlying102 rfl (by rw [HCS.out];kernel_rfl) ?_
    refine hK _ _ rfl ⟨⟨_,(Mods.refl _ _).drew⟩,rfl⟩ ?_
    clear hK K
    try simp only [Act.put,List.setIfInBounds_toArray,List.set_cons_succ,List.set_cons_zero]
    refine mix_act rfl rfl ?_
    intro K hK
    go_big_op
    refine (HMC _).mono ?_
    rintro e w4 ⟨rfl,m4⟩
    have M4:Hid (Mods Nil' W3 w4):=((Mods.refl _ _).drew).trans m4
    refine hK _ _ rfl ⟨⟨_,M4.out.of_nil⟩,rfl⟩ ?_
    clear hK K m4
    try simp only [Act.put,List.setIfInBounds_toArray,List.set_cons_succ,List.set_cons_zero]
    refine mix_act rfl rfl ?_
    intro K hK
    refine wp_build_one 34 47 4 (.tmp 28) rfl #[.string (T pm.name),.int .u8 (pm.key:Nat),.int .u8 (pm.value:Nat),.int .u8 (pm.entries:Nat)] rfl rfl iP _ Tryz.underlying34 hiP hzP hsP (by decide) (by decide) ?_
    have M5:Hid (Mods Nil' W3 (w4.alloc (.cells #[.string (T pm.name),.int .u8 (pm.key:Nat),.int .u8 (pm.value:Nat),.int .u8 (pm.entries:Nat)] 47))):=M4.out.alloc _
    refine hK _ _ rfl ⟨⟨_,M5.out.of_nil⟩,rfl⟩ ?_
    clear hK K
    try simp only [Act.put,List.setIfInBounds_toArray,List.set_cons_succ,List.set_cons_zero]
    refine mix_act rfl rfl ?_
    intro K hK
    refine wp_append_sl _ (.tmp 26) (.tmp 29) 34 rfl 47 iP (.agg #[.string E0,.int .u8 0,.int .u8 0,.int .u8 0]) 4 24 Tryz.underlying34 hiP hzP hsP hbP rfl (by decide) (.slice oM b.ms.length cM) b.ms.length (b.ms.flatMap PMap.cells) rfl (HMW.out _ M5.out) ⟨w4.heap.size,0,none⟩ 1 1 (#[.string (T pm.name),.int .u8 (pm.key:Nat),.int .u8 (pm.value:Nat),.int .u8 (pm.entries:Nat)]:Array Value).toList rfl rfl (news_cells _ _ _ _ rfl) (by simp [Value.oneCell']) (by unfold maxLen;omega) (by omega) ?_
    intro vA wA sA mA lA
    obtain ⟨⟨oA,cA,hvA⟩,hPA,hWA⟩:=HBS.out _ vA wA M5.out sA mA lA
    subst hvA
    have MA:Hid (Mods (fun k=>(Value.slice oM b.ms.length cM).ownBlock=some k) W3 wA):=(M5.out.of_nil).trans mA
    refine hK _ _ rfl ⟨⟨_,MA.out⟩,rfl⟩ ?_
    clear hK K
    refine mix_nil ?_
    have pA0:=hPA.cell 0
    have pAf:=hPA.frozen
    have HWA:=hid hWA;clear sA mA lA hPA hWA;go_wp2_with fail
    go_roundg (ls.length - (k+1))
    case measure=>omega
    case rel=>exact ⟨k+1,_,_,vs,by omega,by go_num,by rw [HSL.out.1,HSL.out.2],by rw [HSL.out.1];exact HWA.out,rfl⟩
   ·have q1:((x.kind:Int)==1)=false:=by rw [hx];rfl
    have q2:((x.kind:Int)==2)=true:=by rw [hx];rfl
    have c1:W3.cell? ⟨B,1,none⟩=some (.string (T x.name)):=(HLB.out.cell 1).trans (HCN.out (by omega))
    have HBS:Hid (∀ W vA wA,Mods Nil' W3 W->Sl wA 55 2 vA (b.fs.length+1) (((b.fs.map (·.name)).zip vs).flatMap fnC++fnC (x.name,.slice none 0 0))->Mods (fun k=>(Value.slice oF b.fs.length cF).ownBlock=some k) W wA->(∀ k,vA.ownBlock=some k->(Value.slice oF b.fs.length cF).ownBlock=some k\/W.heap.size<=k)->(∃ oA cA,vA=.slice oA (b.fs.length+1) cA)/\Blk wA P #[.slice oM b.ms.length cM,.slice oF b.fs.length cF] 37/\BdW w R A P bm (.slice oO nO cO) bs (.slice oM b.ms.length cM) vA (bStep (outlineP ls) b x) (vs++[.slice none 0 0]) (wA.setCell ⟨P,1,none⟩ vA)):=fun W vA wA mW sA mA lA=>by
     obtain ⟨oA,cA,hvA,_⟩:=sA.view
     have hq:=HB3.out.quiet mW
     exact ⟨⟨oA,cA,hvA⟩,hq.bd.blk.mods mA (fun e=>hq.bd.rows.notBlk hq.bd.blk (by decide) e),hq.func (outlineP ls) hx sA mA lA⟩
    have HMW:Hid (∀ W,Mods Nil' W3 W->Sl W 55 2 (.slice oF b.fs.length cF) b.fs.length (((b.fs.map (·.name)).zip vs).flatMap fnC)):=fun W mW=>(HB3.out.quiet mW).bd.rows
    have HSL:Hid (buildP (outlineP ls) (ls.take (k+1))=bStep (outlineP ls) b x/\(bStep (outlineP ls) b x).slot=0):=⟨HS.out,by unfold bStep;rw [if_neg (by omega),if_pos hx]⟩
    obtain ⟨iP,hiP,hzP,hsP,hbP⟩:=info_parts info_pfunc;clear hx HS HI HO4 HM1 HC4 HCN HB3;generalize bStep (outlineP ls) b x=b' at *;generalize x.name=nm at *
    have M5:Hid (Mods Nil' W3 (W3.alloc (.cells #[.string (T nm),.slice none 0 0] 55))):=(Mods.refl _ _).alloc _
    go_wp2_with (first | (refine wpList_plain rfl fun _ hK=>wp_build_one 35 55 2 (.tmp 38) rfl #[.string (T nm),.slice none 0 0] rfl rfl iP _ Tryz.underlying35 hiP hzP hsP (by decide) (by decide) (hK _ _ ?_);clear hK) | (at_builtin;(refine wpList_append_sl _ rfl (.tmp 35) (.tmp 39) 35 rfl 55 iP (.agg #[.string E0,.slice none 0 0]) 2 40 Tryz.underlying35 hiP hzP hsP hbP rfl (by decide) (.slice oF b.fs.length cF) b.fs.length (((b.fs.map (·.name)).zip vs).flatMap fnC) rfl (HMW.out _ M5.out) ⟨W3.heap.size,0,none⟩ 1 1 (#[.string (T nm),.slice none 0 0]:Array Value).toList rfl rfl (news_cells _ _ _ _ rfl) (by simp [Value.oneCell']) (by unfold maxLen;omega) (by omega) ?_;intro vA wA sA mA lA;obtain ⟨⟨oA,cA,hvA⟩,hPA,hWA⟩:=HBS.out _ vA wA M5.out sA mA lA;subst hvA;have pA1:=hPA.cell 1;have pAf:=hPA.frozen;have HWA:Hid (BdW w R A P bm (.slice oO nO cO) bs (.slice oM b.ms.length cM) (.slice oA (b.fs.length+1) cA) b' (vs++[.slice none 0 0]) (wA.setCell ⟨P,1,none⟩ (.slice oA (b.fs.length+1) cA))):=hWA;clear sA mA lA hPA hWA)))
    go_roundg (ls.length - (k+1))
    case measure=>omega
    case rel=>exact ⟨k+1,_,_,_,by omega,by go_num,by rw [HSL.out.1,HSL.out.2];rfl,by rw [HSL.out.1];exact HWA.out,rfl⟩
   ·have q1:((x.kind:Int)==1)=false:=by rw [hx];rfl
    have q2:((x.kind:Int)==2)=false:=by rw [hx];rfl
    have q4:((x.kind:Int)==4)=true:=by rw [hx];rfl
    have hpos:=HI.out hx
    have hi:((b.fs.length:Int) - 1)=((b.fs.length - 1:Nat):Int):=by omega
    have HFL2:Hid (b.fs.length - 1<nO):=by have:=HFL.out;rw [Hid];omega
    obtain ⟨gO,hoO,hcO,hOR⟩:=HOR.out (b.fs.length - 1) HFL2.out
    subst hoO
    have HTG2:=HTG.out (b.fs.length - 1) HFL2.out x.x.r.label
    have HJM:Hid (jmpOf (outlineP ls) (b.fs.length - 1) b.slot x.x=if x.x.o.jumps then (((labOf ((outlineP ls).fs.getD (b.fs.length - 1) {}).labs x.x.r.label).getD 0:Nat):Int) - b.slot - x.x.o.slots else x.x.r.jump):=rfl
    have HSL:Hid (buildP (outlineP ls) (ls.take (k+1))=bStep (outlineP ls) b x/\(bStep (outlineP ls) b x).slot=b.slot+x.x.o.slots):=⟨HS.out,by unfold bStep;rw [if_neg (by omega),if_neg (by omega),if_pos hx]⟩
    have HMD3:=hid HB3.out.bd.md
    have HIC:Hid (∀ j (h:j<(#[.pointer (some ⟨bs[x.x.k]?.getD 0,0,none⟩),.int .u8 x.x.r.d,.int .u8 x.x.r.s,.int .i16 x.x.r.jump,.int .i32 x.x.r.num,.int .i32 x.x.r.high,.string (T x.x.r.label),.string (T x.x.r.name)]:Array Value).size),W3.cell? ⟨B,11+j,none⟩=some (#[.pointer (some ⟨bs[x.x.k]?.getD 0,0,none⟩),.int .u8 x.x.r.d,.int .u8 x.x.r.s,.int .i16 x.x.r.jump,.int .i32 x.x.r.num,.int .i32 x.x.r.high,.string (T x.x.r.label),.string (T x.x.r.name)]:Array Value)[j]):=fun j hj=>by
     rw [HLB.out.cell,HC4.out hx]
     match j,hj with
     | 0,_=>rfl
     | 1,_=>rfl
     | 2,_=>rfl
     | 3,_=>rfl
     | 4,_=>rfl
     | 5,_=>rfl
     | 6,_=>rfl
     | 7,_=>rfl
    have HO5:Hid (∀ w',Mods Nil' w w'->OpAt w' (bs[x.x.k]?.getD 0) x.x.o):=fun w' m'=>HO4.out w' m' hx
    have HNF:Hid (b.fs.length - 1<b.fs.length/\b.fs.length - 1<vs.length):=⟨by omega,by rw [HB3.out.bd.len];omega⟩
    have HSL2:=hid x.x.slots2
    have HZ2:Hid (Blk (W3.alloc (.cells Z8 84)) W3.heap.size Z8 84):=Blk.new W3 _ _
    clear HI HO4 HM1 HC4 HCN HS HOR HTG
    go_upto_region 15 with (first | (refine wpList_load_rowAt rfl 84 (.tmp 44) rfl B 11 rfl #[.pointer (some ⟨bs[x.x.k]?.getD 0,0,none⟩),.int .u8 x.x.r.d,.int .u8 x.x.r.s,.int .i16 x.x.r.jump,.int .i32 x.x.r.num,.int .i32 x.x.r.high,.string (T x.x.r.label),.string (T x.x.r.name)] _ HIC.out Tryz.underlying84 rfl (by kernel_rfl) ?_) | (refine wpList_store_blk rfl 84 (.tmp 10) (.tmp 45) rfl W3.heap.size _ rfl rfl 84 _ HZ2.out (by kernel_rfl) (by rfl) (by simp [Value.oneCell']) ?_;intro W4 hB4 hm4))
    have HNI:Hid (∀ u∈vs,∀ k,u.ownBlock=some k->k≠W3.heap.size):=fun u hu k hk e=>by
     obtain ⟨code,hc⟩:=HB3.out.bd.codeM hu
     have:=hc.lt k hk
     omega
    have HI4:=hid hB4;have HM4:=hid hm4.fresh
    have HBS:Hid (∀ W vA wA u labs,Mods Nil' W3 W->vs[b.fs.length - 1]'(HNF.out.2)=u->∀ gF cF',oF=some ⟨gF,0,none⟩->cF'=cF->labs.length=(b.fs[b.fs.length - 1]'(HNF.out.1)).code.length->Sl wA 84 8 vA ((b.fs[b.fs.length - 1]'(HNF.out.1)).code.length+1) (codeLb bs ((b.fs[b.fs.length - 1]'(HNF.out.1)).code.zip labs)++[.pointer (some ⟨bs[x.x.k]?.getD 0,0,none⟩),.int .u8 x.x.r.d,.int .u8 x.x.r.s,.int .i16 (jmpOf (outlineP ls) (b.fs.length - 1) b.slot x.x),.int .i32 x.x.r.num,.int .i32 x.x.r.high,.string (T x.x.r.label),.string (T x.x.r.name)])->Mods (fun k=>u.ownBlock=some k) W wA->(∀ k,vA.ownBlock=some k->u.ownBlock=some k\/W.heap.size<=k)->(∃ oA cA,vA=.slice oA ((b.fs[b.fs.length - 1]'(HNF.out.1)).code.length+1) cA)/\BdW w R A P bm (.slice (some ⟨gO,0,none⟩) nO cO) bs (.slice oM b.ms.length cM) (.slice oF b.fs.length cF) (bStep (outlineP ls) b x) (vs.set (b.fs.length - 1) vA) (wA.setCell ⟨gF,(b.fs.length - 1)*2+1,none⟩ vA)):=fun W vA wA u labs mW hu gF cF' hoF hcF hlb sA mA lA=>by
     obtain ⟨oA,cA,hvA,_⟩:=sA.view
     have hq:=HB3.out.quiet mW
     subst hoF
     exact ⟨⟨oA,cA,hvA⟩,hq.instr (outlineP ls) hx rfl HNF.out.1 HNF.out.2 rfl hu hlb (lab:=T x.x.r.label) sA mA lA⟩
    obtain ⟨z1,z2,z3,z4,z5,z6,z7,z8,z9,z10,z11,hbo,_⟩:=(HO5.out W4 (HMD3.out.trans HM4.out)).ex
    have o3:=hbo.cell 3
    have i0:=HI4.out.cell 0
    clear hbo HZ2 HIC hB4 hm4 hx
    generalize hjj:jmpOf (outlineP ls) (b.fs.length - 1) b.slot x.x=jj at *
    clear hjj;generalize bStep (outlineP ls) b x=b' at *
    generalize hI:W3.heap.size=I at *
    have HIL:Hid (W3.heap.size<=I):=Nat.le_of_eq hI
    clear hI;go_upto_if 50 with fail
    go_cut [] (fun wx=>Mods Nil' W3 wx/\Blk wx I #[.pointer (some ⟨bs[x.x.k]?.getD 0,0,none⟩),.int .u8 x.x.r.d,.int .u8 x.x.r.s,.int .i16 jj,.int .i32 x.x.r.num,.int .i32 x.x.r.high,.string (T x.x.r.label),.string (T x.x.r.name)] 84)
    case first =>
     have HJT0:Hid (∀ W,Mods Nil' W4 W->x.x.o.jumps=true->Calls Tryz.prog 47 #[.agg #[.pointer (some ⟨bs[x.x.k]?.getD 0,0,none⟩),.int .u8 x.x.r.d,.int .u8 x.x.r.s,.int .i16 x.x.r.jump,.int .i32 x.x.r.num,.int .i32 x.x.r.high,.string (T x.x.r.label),.string (T x.x.r.name)],.int .i64 b.slot,.int .i64 ((labOf ((outlineP ls).fs.getD (b.fs.length - 1) {}).labs x.x.r.label).getD 0:Nat)] W fun e w'=>e=.returned (.int .i16 jj)/\Mods Nil' W w'):=fun W mW hj=>by
      refine (jumpTo_any W _ x.x.o (HO5.out W (HMD3.out.trans (HM4.out.trans mW))) x.x.r.d x.x.r.s x.x.r.num x.x.r.high x.x.r.jump (T x.x.r.label) (T x.x.r.name) b.slot _ (by omega) (by omega) HSL2.out).mono ?_
      rintro e w' ⟨rfl,m'⟩
      have hjm:=HJM.out
      rw [if_pos hj] at hjm
      exact ⟨by rw [hjm],m'⟩
     generalize hjb:x.x.o.jumps=jb at *
     cases jb with
     | false =>
      have HJ3:Hid (jj=x.x.r.jump):=by have:=HJM.out;rw [Hid];simpa using this
      clear HJT0 HJM;go_wp2_with fail;go_meet;rw [HJ3.out]
      exact ⟨HM4.out,HI4.out⟩
     | true =>
      go_upto_region 16 with fail
      have HMd:Hid (Mods Nil' W4 W4.drew):=(Mods.refl _ _).drew
      refine wp_region_qtail 11 (by kernel_rfl) (by kernel_rfl) ?_
      intro W hW;rw [<- hW] at HMd;clear hW
      have HI5:Hid (Blk W I #[.pointer (some ⟨bs[x.x.k]?.getD 0,0,none⟩),.int .u8 x.x.r.d,.int .u8 x.x.r.s,.int .i16 x.x.r.jump,.int .i32 x.x.r.num,.int .i32 x.x.r.high,.string (T x.x.r.label),.string (T x.x.r.name)] 84):=HI4.out.mods HMd.out id
      have j0:=HI5.out.cell 0
      have j1:=HI5.out.cell 1
      have j2:=HI5.out.cell 2
      have j3:=HI5.out.cell 3
      have j4:=HI5.out.cell 4
      have j5:=HI5.out.cell 5
      have j6:=HI5.out.cell 6
      have j7:=HI5.out.cell 7
      have a1:W.cell? ⟨A,1,none⟩=some (.slice (some ⟨gO,0,none⟩) nO cO):=(HB3.out.quiet (HM4.out.trans HMd.out)).all.cell 1
      obtain ⟨oc,hlb⟩:=hOR W (HMD3.out.trans (HM4.out.trans HMd.out))
      have hlk:=hlb.look1 x.x.r.label
      have HJT:=HJT0.out W HMd.out rfl
      have HN2:=HFL2.out
      clear hlb HJM HJT0;generalize (labOf ((outlineP ls).fs.getD (b.fs.length - 1) {}).labs x.x.r.label).getD 0=tg at *
      simp only [List.take_succ_cons,List.take_zero,List.drop_succ_cons,List.drop_zero]
      repeat (go_big_quiet_step (fail))
      refine wpQuiet_nil ?_
      go_wp2_with fail;refine HJT.mono ?_;rintro e w6 ⟨rfl,m6⟩
      have hI6:=HI5.out.mods m6 id
      have k3:=hI6.cell 3
      have kf:=hI6.frozen
      have HI7:Hid (Blk (w6.setCell ⟨I,3,none⟩ (.int .i16 jj)) I #[.pointer (some ⟨bs[x.x.k]?.getD 0,0,none⟩),.int .u8 x.x.r.d,.int .u8 x.x.r.s,.int .i16 jj,.int .i32 x.x.r.num,.int .i32 x.x.r.high,.string (T x.x.r.label),.string (T x.x.r.name)] 84):=hI6.set 3 _
      have HM7:Hid (Mods Nil' W3 (w6.setCell ⟨I,3,none⟩ (.int .i16 jj))):=(HM4.out.trans (HMd.out.trans m6)).step ((Mods.refl (Only I) _).setb 3 _) (fun i hi e=>by have e':i=I:=e;have:=HIL.out;omega)
      clear m6 hI6 j0 j1 j2 j3 j4 j5 j6 j7 a1 oc hlk HJT;go_wp2_with fail;go_meet
      exact ⟨HM7.out,HI7.out⟩
    case rest =>
    obtain ⟨hM7,hI7⟩:=hcut;have HM7:=hid hM7;have HI7:=hid hI7
    have HB7:Hid (BdW w R A P bm (.slice (some ⟨gO,0,none⟩) nO cO) bs (.slice oM b.ms.length cM) (.slice oF b.fs.length cF) b vs wc):=HB3.out.quiet hM7
    clear hM7 hI7 o3 i0 HI4 HM4 p0 p1 c0;obtain ⟨oF',cF',hvF',hbF⟩:=HB7.out.bd.rows.view
    injection hvF' with e1 e2 e3
    subst e1 e3
    obtain ⟨gF,csF,rfl,hbF,htF,hcF,_⟩:=hbF (by omega)
    have HVF:Hid (∀ W,Blk W gF csF 55->W.cell? ⟨gF,(b.fs.length - 1)*2+1,none⟩=some (vs[b.fs.length - 1]'(HNF.out.2))):=fun W hW=>by
     rw [take_cell hW htF _ (by omega),flat_get fnC 2 (fun _=>rfl) _ (b.fs.length - 1) 1 (by have:=HNF.out;simp;omega) (by omega),zip_at _ _ _ (by simpa using HNF.out.1) HNF.out.2]
     rfl
    obtain ⟨labs,hl1,hl2⟩:=HB7.out.bd.code _ HNF.out.1 HNF.out.2;have HCL:=hid hl1
    have hcl5:=hb5 _ (List.getElem_mem HNF.out.1)
    have HVN:Hid (vs[b.fs.length - 1]'(HNF.out.2)∈vs):=List.getElem_mem _
    obtain ⟨oC,cC,hvC,_⟩:=hl2.view
    have HBS2:=HBS.out
    clear HBS;generalize (b.fs[b.fs.length - 1]'(HNF.out.1)).code=code at *;generalize (vs[b.fs.length - 1]'(HNF.out.2))=vC at *;subst hvC
    have HBW:Hid (∀ e:Ext (fun k=>(Value.slice oC code.length cC).ownBlock=some k) wc,Blk e.w P #[.slice oM b.ms.length cM,.slice (some ⟨gF,0,none⟩) b.fs.length cF] 37/\Blk e.w gF csF 55/\Blk e.w I #[.pointer (some ⟨bs[x.x.k]?.getD 0,0,none⟩),.int .u8 x.x.r.d,.int .u8 x.x.r.s,.int .i16 jj,.int .i32 x.x.r.num,.int .i32 x.x.r.high,.string (T x.x.r.label),.string (T x.x.r.name)] 84):=fun e=>⟨HB7.out.bd.blk.mods e.m (fun h=>hl2.notBlk HB7.out.bd.blk (by decide) h),hbF.mods e.m (fun h=>hl2.notBlk hbF (by decide) h),HI7.out.mods e.m (fun h=>HNI.out _ HVN.out I h rfl)⟩
    have HSW:Hid (∀ W,Mods Nil' wc W->Sl W 84 8 (.slice oC code.length cC) code.length (codeLb bs (code.zip labs))):=fun W mW=>hl2.mods mW (fun _ _=>id)
    have HNG:Hid (I≠gF):=HI7.out.apart hbF (by decide)
    obtain ⟨iP,hiP,hzP,hsP,hbP⟩:=info_parts info_instr;clear hl1 hl2 hbF htF;go_upto_region 17 with fail
    haveI:Nonempty (Ext (fun k=>(Value.slice oC code.length cC).ownBlock=some k) wc):=Ext.ne _ _
    have d1:∀ e:Ext (fun k=>(Value.slice oC code.length cC).ownBlock=some k) wc,e.w.cell? ⟨P,1,none⟩=some (.slice (some ⟨gF,0,none⟩) b.fs.length cF):=fun e=>(HBW.out e).1.cell 1
    have d2:∀ e:Ext (fun k=>(Value.slice oC code.length cC).ownBlock=some k) wc,e.w.cell? ⟨gF,(b.fs.length - 1)*2+1,none⟩=some (.slice oC code.length cC):=fun e=>HVF.out _ (HBW.out e).2.1
    have HID:=hid HI7.out.drew
    have hn1:b.fs.length - 1<b.fs.length:=HNF.out.1
    refine wp_region_mixtail 12 [9,10,11] (fun w'=>∃ e:Ext (fun k=>(Value.slice oC code.length cC).ownBlock=some k) wc,w'=e.w) (by kernel_rfl) (by kernel_rfl) ⟨⟨_,(Mods.refl _ _).drew⟩,rfl⟩ ?_
    simp only [List.take_succ_cons,List.take_zero,List.drop_succ_cons,List.drop_zero]
    iterate 9 (refine mix_pure rfl rfl rfl ?_;intro K hK;go_big_quiet_op;go_big_quiet_on)
    refine mix_act rfl rfl ?_
    intro K hK
    refine wp_load_row 84 (.tmp 10) rfl I rfl 84 _ (0,0) _ HID.out Tryz.underlying84 rfl (by kernel_rfl) ?_
    refine hK _ _ rfl ⟨⟨_,(Mods.refl _ _).drew⟩,rfl⟩ ?_
    clear hK K
    try simp only [Act.put,List.setIfInBounds_toArray,List.set_cons_succ,List.set_cons_zero]
    refine mix_act rfl rfl ?_
    intro K hK
    refine wp_build_one 53 84 8 (.tmp 73) rfl #[.pointer (some ⟨bs[x.x.k]?.getD 0,0,none⟩),.int .u8 x.x.r.d,.int .u8 x.x.r.s,.int .i16 jj,.int .i32 x.x.r.num,.int .i32 x.x.r.high,.string (T x.x.r.label),.string (T x.x.r.name)] rfl rfl iP _ Tryz.underlying53 hiP hzP hsP (by decide) (by decide) ?_
    have M5:Hid (Mods Nil' wc (wc.drew.alloc (.cells #[.pointer (some ⟨bs[x.x.k]?.getD 0,0,none⟩),.int .u8 x.x.r.d,.int .u8 x.x.r.s,.int .i16 jj,.int .i32 x.x.r.num,.int .i32 x.x.r.high,.string (T x.x.r.label),.string (T x.x.r.name)] 84))):=((Mods.refl _ _).drew).alloc _
    refine hK _ _ rfl ⟨⟨_,M5.out.of_nil⟩,rfl⟩ ?_
    clear hK K
    try simp only [Act.put,List.setIfInBounds_toArray,List.set_cons_succ,List.set_cons_zero]
    refine mix_act rfl rfl ?_
    intro K hK
    refine wp_append_sl _ (.tmp 72) (.tmp 74) 53 rfl 84 iP (.agg Z8) 8 56 Tryz.underlying53 hiP hzP hsP hbP rfl (by decide) (.slice oC code.length cC) code.length (codeLb bs (code.zip labs)) rfl (HSW.out _ M5.out) ⟨wc.drew.heap.size,0,none⟩ 1 1 (#[.pointer (some ⟨bs[x.x.k]?.getD 0,0,none⟩),.int .u8 x.x.r.d,.int .u8 x.x.r.s,.int .i16 jj,.int .i32 x.x.r.num,.int .i32 x.x.r.high,.string (T x.x.r.label),.string (T x.x.r.name)]:Array Value).toList rfl rfl (news_cells _ _ _ _ rfl) (by simp [Value.oneCell']) (by unfold maxLen;omega) (by omega) ?_
    intro vA wA sA mA lA
    obtain ⟨⟨oA,cA,hvA⟩,hWA⟩:=HBS2 _ vA wA _ labs (HM7.out.trans M5.out) rfl gF cF rfl rfl HCL.out sA mA lA
    subst hvA
    have MA:Hid (Mods (fun k=>(Value.slice oC code.length cC).ownBlock=some k) wc wA):=(M5.out.of_nil).trans mA
    refine hK _ _ rfl ⟨⟨_,MA.out⟩,rfl⟩ ?_
    clear hK K
    refine mix_nil ?_
    obtain ⟨_,hgA,hIA⟩:=HBW.out ⟨_,MA.out⟩
    have gA1:=HVF.out _ hgA
    have gAf:=hgA.frozen
    have HWA:=hid hWA
    have hI9:Blk (wA.setCell ⟨gF,(b.fs.length - 1)*2+1,none⟩ (.slice oA (code.length+1) cA)) I _ 84:=hIA.mods ((Mods.refl (Only gF) _).setb _ _) (fun e=>HNG.out e)
    have i9:=hI9.cell 0
    obtain ⟨z1,z2,z3,z4,z5,z6,z7,z8,z9,z10,z11,hbo9,_⟩:=(HO5.out _ HWA.out.bd.md).ex
    have o9:=hbo9.cell 2
    have hs2:=HSL2.out
    clear sA mA lA hWA hgA hIA hI9 hbo9;go_wp2_with fail
    go_roundg (ls.length - (k+1))
    case measure=>omega
    case rel=>exact ⟨k+1,_,_,_,by omega,by go_num,by rw [HSL.out.1,HSL.out.2];go_num,by rw [HSL.out.1];exact HWA.out,rfl⟩
   ·have q1:((x.kind:Int)==1)=false:=by rw [beq_eq_false_iff_ne];omega
    have q2:((x.kind:Int)==2)=false:=by rw [beq_eq_false_iff_ne];omega
    have q4:((x.kind:Int)==4)=false:=by rw [beq_eq_false_iff_ne];omega
    have HE:Hid (bStep (outlineP ls) b x=b):=by rw [Hid,bStep,if_neg hx.1,if_neg hx.2.1,if_neg hx.2.2]
    clear hx;go_wp2_with fail
    go_roundg (ls.length - (k+1))
    case measure=>omega
    case rel=>exact ⟨k+1,_,_,vs,by omega,by go_num,by rw [HS.out,HE.out],by rw [HS.out,HE.out];exact HB3.out,rfl⟩
  ·have hend:=HEND.out k hlt
   rw [hend] at HB
   have HRES:Hid (∀ (W:World) (ms':List PMap) (rs':List FRow),rs'.Perm (List.zipWith rowV (buildP (outlineP ls) ls).fs vs)->ms'.Perm (buildP (outlineP ls) ls).ms->ms'.Pairwise (fun x y=>ltB (T y.name) (T x.name)=false)->rs'.Pairwise (fun x y=>ltB (T y.f.name) (T x.f.name)=false)->Sl W 47 4 (.slice oM (buildP (outlineP ls) ls).ms.length cM) ms'.length (ms'.flatMap PMap.cells)->Sl W 55 2 (.slice oF (buildP (outlineP ls) ls).fs.length cF) rs'.length (rs'.flatMap FRow.cells)->Mods (fun k=>(Value.slice oM (buildP (outlineP ls) ls).ms.length cM).ownBlock=some k\/(Value.slice oF (buildP (outlineP ls) ls).fs.length cF).ownBlock=some k) wr W->Blk W P #[.slice oM (buildP (outlineP ls) ls).ms.length cM,.slice oF (buildP (outlineP ls) ls).fs.length cF] 37/\Blk W R #[.slice none 0 0,.slice none 0 0] 37/\∀ W',Mods (Only R) W W'->RP (.returned (.agg #[.slice oM (buildP (outlineP ls) ls).ms.length cM,.slice oF (buildP (outlineP ls) ls).fs.length cF])) W'):=fun W ms' rs' hp hpm hw1 hw2 sM sF mW=>by
    have hbd:=HB.out.bd
    have hB:Blk W P #[.slice oM (buildP (outlineP ls) ls).ms.length cM,.slice oF (buildP (outlineP ls) ls).fs.length cF] 37:=hbd.blk.mods mW (fun h=>h.elim (fun h=>hbd.maps.notBlk hbd.blk (by decide) h) (fun h=>hbd.rows.notBlk hbd.blk (by decide) h))
    have hR:Blk W R #[.slice none 0 0,.slice none 0 0] 37:=HB.out.res.mods mW (fun h=>h.elim (fun h=>hbd.maps.notBlk HB.out.res (by decide) h) (fun h=>hbd.rows.notBlk HB.out.res (by decide) h))
    refine ⟨hB,hR,fun W' mR=>?_⟩
    have mW':Mods (fun k=>(Value.slice oM (buildP (outlineP ls) ls).ms.length cM).ownBlock=some k\/(Value.slice oF (buildP (outlineP ls) ls).fs.length cF).ownBlock=some k\/k=R) wr W':=(mW.mono (fun _ _ h=>h.elim .inl (fun h=>.inr (.inl h)))).trans (mR.mono (fun _ _ h=>.inr (.inr h)))
    have hmd:Mods Nil' w W':=hbd.md.step mW' (fun i hi h=>by
     rcases h with h | h | h
     ·have:=hbd.ownM i h;omega
     ·have:=hbd.ownF i h;omega
     ·omega)
    have sM':=sM.mods mR (fun k hk e=>sM.notBlk hR (by decide) (hk.trans (congrArg some e)))
    have sF':=sF.mods mR (fun k hk e=>sF.notBlk hR (by decide) (hk.trans (congrArg some e)))
    obtain ⟨hP,hpf⟩:=HB.out.sorted hp sM' sF' mW' (HOI.out W' hmd)
    exact HRP.out _ W' ⟨_,_,ms',rs'.map (·.f),_,rfl,hP,hpm,hw1,hpf,List.pairwise_map.2 hw2,hmd⟩
   have HSO:Hid (Calls Tryz.prog 48 #[.agg #[.slice oM (buildP (outlineP ls) ls).ms.length cM,.slice oF (buildP (outlineP ls) ls).fs.length cF]] wr fun r w'=>r=.returned (.tuple #[])/\∃ (ms':List PMap) (rs':List FRow),ms'.Perm (buildP (outlineP ls) ls).ms/\ms'.Pairwise (fun x y=>ltB (T y.name) (T x.name)=false)/\rs'.Perm (List.zipWith rowV (buildP (outlineP ls) ls).fs vs)/\rs'.Pairwise (fun x y=>ltB (T y.f.name) (T x.f.name)=false)/\Sl w' 47 4 (.slice oM (buildP (outlineP ls) ls).ms.length cM) ms'.length (ms'.flatMap PMap.cells)/\Sl w' 55 2 (.slice oF (buildP (outlineP ls) ls).fs.length cF) rs'.length (rs'.flatMap FRow.cells)/\Mods (fun b=>(Value.slice oM (buildP (outlineP ls) ls).ms.length cM).ownBlock=some b\/(Value.slice oF (buildP (outlineP ls) ls).fs.length cF).ownBlock=some b) wr w'):=by
    obtain ⟨h1,h2,h3⟩:=rowV_cells _ vs HB.out.bd.len HB.out.bd.slices
    have hl:(List.zipWith rowV (buildP (outlineP ls) ls).fs vs).length=(buildP (outlineP ls) ls).fs.length:=by rw [List.length_zipWith,HB.out.bd.len];simp
    rw [hend] at hb3 hb4
    refine psort_any wr _ _ _ (List.zipWith rowV (buildP (outlineP ls) ls).fs vs) (by omega) (by omega) HB.out.bd.maps ?_
    rw [h1,hl];exact HB.out.bd.rows
   have p0:wr.cell? ⟨P,0,none⟩=some (.slice oM (buildP (outlineP ls) ls).ms.length cM):=HB.out.bd.blk.cell 0
   have p1:wr.cell? ⟨P,1,none⟩=some (.slice oF (buildP (outlineP ls) ls).fs.length cF):=HB.out.bd.blk.cell 1
   rw [hend];clear hend HB HBL HST HEND HIN HOP HMO HLN HOA hb1 hb2 hb3 hb4 hb5 HOI HRP;generalize buildP (outlineP ls) ls=b at *;go_wp2_with fail;refine HSO.out.mono ?_
   rintro e w5 ⟨rfl,ms',rs',hp1,hp2,hp3,hp4,hs1,hs2,hm5⟩
   obtain ⟨hB5,hR5,hfin⟩:=HRES.out w5 ms' rs' hp3 hp1 hp2 hp4 hs1 hs2 hm5;have HFI:=hid hfin
   have b0:=hB5.cell 0
   have b1:=hB5.cell 1
   have r0:=hR5.cell 0
   have r1:=hR5.cell 1
   have rf:=hR5.frozen
   have HR6:Hid (Blk ((w5.setCell ⟨R,0,none⟩ (.slice oM b.ms.length cM)).setCell ⟨R,1,none⟩ (.slice oF b.fs.length cF)) R #[.slice oM b.ms.length cM,.slice oF b.fs.length cF] 37):=(hR5.set 0 _).set 1 _
   have HM6:Hid (Mods (Only R) w5 ((w5.setCell ⟨R,0,none⟩ (.slice oM b.ms.length cM)).setCell ⟨R,1,none⟩ (.slice oF b.fs.length cF))):=((Mods.refl _ _).setb _ _).setb _ _
   clear hp1 hp2 hp3 hp4 hs1 hs2 hm5 hfin HRES HSO hB5 hR5;go_wp2_with fail
   exact bodyPost_ret (results_cell_row Tryz.results24 _ _ R 37 #[.slice oM b.ms.length cM,.slice oF b.fs.length cF] (0,0) _ rfl HR6.out Tryz.underlying37 rfl (by kernel_rfl)) rfl (HFI.out _ HM6.out)
def LOk (x:PLn):Prop:=x.In
theorem parse_lok:∀ (ts:List (List UInt8)) (inF:Bool) (n:Nat) (acc ls:List PLn),parseP ts inF n acc=.inl ls->(∀ x∈acc,LOk x)->∀ x∈ls,LOk x
 | [],_,_,acc,ls,h,ha=>by
  rw [parseP] at h
  injection h with h
  subst h;exact ha
 | t::ts,inF,n,acc,ls,h,ha=>by
  rw [parseP] at h
  cases hl:lineP t with
  | none=>rw [hl] at h;cases h
  | some x =>
   rw [hl] at h
   dsimp only at h
   split at h
   ·cases h
   ·refine parse_lok ts _ _ _ ls h (fun y hy=>?_)
    rcases List.mem_append.1 hy with hy | hy
    ·exact ha y hy
    ·rw [List.mem_singleton.1 hy];exact line_in hl
theorem nameB_16 {n:List UInt8} (h:nameB n=true):n.length<=16:=by
 unfold nameB at h
 simp only [Bool.and_eq_true,decide_eq_true_eq] at h
 exact h.1.1
theorem LOk.name {x:PLn} (h:LOk x) (hk:x.kind=1\/x.kind=2\/x.kind=3):nameB x.name=true:=h.nm hk
theorem plenR_app:∀ (fs gs:List PFn),plenR (fs++gs)=plenR fs+plenR gs
 | [],gs=>by simp [plenR]
 | f::fs,gs=>by rw [List.cons_append,plenR,plenR,plenR_app fs gs];omega
theorem plenR_set:∀ (fs:List PFn) (i:Nat) (h:i<fs.length) (g:PFn),plenR (fs.set i g)+fs[i].code.length=plenR fs+g.code.length
 | f::fs,0,_,g=>by rw [List.set_cons_zero,plenR,plenR];simp;omega
 | f::fs,i+1,h,g=>by
  rw [List.set_cons_succ,plenR,plenR,List.getElem_cons_succ]
  have:=plenR_set fs i (by simpa using h) g
  omega
theorem plenR_perm {fs gs:List PFn} (h:fs.Perm gs):plenR fs=plenR gs:=by
 induction h with
 | nil=>rfl
 | cons x _ ih=>rw [plenR,plenR,ih]
 | swap x y l=>rw [plenR,plenR,plenR,plenR];omega
 | trans _ _ h1 h2=>rw [h1,h2]
theorem pread_slots (x:PRead) (h:x.k<88):1<=x.o.slots:=by
 have:∀ k,k<88->1<=(tableS[k]?.getD noOp).slots:=by decide +kernel
 exact this x.k h
structure Bok (k:WK) (b:BS):Prop where
 m:b.ms.length=k.maps.length
 m8:k.maps.length<=8
 f:b.fs.length=k.funcs.length
 f16:k.funcs.length<=16
 tot:plenR b.fs<=k.slots
 sl:b.slot<=k.slots
 s200:k.slots<=200
 pm:∀ x∈b.ms,x.name.length<=16/\x.key<=16/\x.value<=16/\x.entries<=16
 fn:∀ f∈b.fs,f.name.length<=16/\∀ x∈f.code,PIok x/\x.name.length<=16
theorem size_rng {a:RNum} {most:Int} (h:sizeOk a most=true):1<=szP a/\szP a<=most:=by
 unfold sizeOk at h
 simp only [Bool.and_eq_true,decide_eq_true_eq] at h
 exact ⟨h.1.2,h.2⟩
theorem code_zero {o:OL} {k:WK} {x:PLn} (h:codeFaultP o k x=0):x.x.fits=true/\(x.x.o.jumps&&!hasLabP (o.fs.getD (k.funcs.length - 1) {}) x.x.r.label)=false/\(decide ((if x.x.r.s=1 then x.x.o.refers else 0)=2)&&decide (o.maps.count x.x.r.name=0))=false/\k.slots+x.x.o.slots<=200:=by
 unfold codeFaultP at h
 by_cases h1:x.x.fits=false
 ·rw [if_pos h1] at h;cases h
 rw [if_neg h1] at h
 by_cases h2:(x.x.o.jumps&&!hasLabP (o.fs.getD (k.funcs.length - 1) {}) x.x.r.label)=true
 ·rw [if_pos h2] at h;cases h
 rw [if_neg h2] at h
 by_cases h3:(decide ((if x.x.r.s=1 then x.x.o.refers else 0)=2)&&decide (o.maps.count x.x.r.name=0))=true
 ·rw [if_pos h3] at h;cases h
 rw [if_neg h3] at h
 by_cases h4:200<k.slots+x.x.o.slots
 ·rw [if_pos h4] at h;cases h
 exact ⟨by simpa using h1,by simpa using h2,by simpa using h3,by omega⟩
theorem Bok.step {o:OL} {k:WK} {b:BS} {x:PLn} (h:Bok k b) (hx:LOk x) (h0:faultP o k x=0) (hlab:∀ n y,(labOf (o.fs.getD n {}).labs y).getD 0<=20000) (hne:x.kind=4->0<b.fs.length):Bok (stepP k x) (bStep o b x):=by
 unfold faultP at h0;unfold stepP bStep
 by_cases k1:x.kind=1
 ·rw [if_pos k1] at h0 ⊢;rw [if_pos k1];unfold mapFaultP at h0
  split at h0
  ·cases h0
  rename_i hs
  split at h0
  ·cases h0
  split at h0
  ·cases h0
  have hs':sizesFitP (x.ns.getD 0 num0) (x.ns.getD 1 num0) (x.ns.getD 2 num0)=true:=by simpa using hs
  unfold sizesFitP at hs'
  simp only [Bool.and_eq_true] at hs'
  have s0:=size_rng hs'.1.1
  have s1:=size_rng hs'.1.2
  have s2:=size_rng hs'.2
  refine ⟨by simp [mapStepP,h.m],by simp [mapStepP];omega,h.f,h.f16,h.tot,h.sl,h.s200,fun y hy=>?_,h.fn⟩
  rcases List.mem_append.1 hy with hy | hy
  ·exact h.pm y hy
  ·rw [List.mem_singleton.1 hy];unfold pmOf
   exact ⟨nameB_16 (hx.name (.inl k1)),by simp only;omega,by simp only;omega,by simp only;omega⟩
 rw [if_neg k1] at h0 ⊢;rw [if_neg k1]
 by_cases k2:x.kind=2
 ·rw [if_pos k2] at h0 ⊢;rw [if_pos k2];unfold funcFaultP at h0
  split at h0
  ·cases h0
  split at h0
  ·cases h0
  refine ⟨h.m,h.m8,by simp [funcStepP,h.f],by simp [funcStepP];omega,?_,Nat.zero_le _,h.s200,h.pm,fun y hy=>?_⟩
  ·show plenR (b.fs++[⟨x.name,[]⟩])<=k.slots
   rw [plenR_app]
   have:=h.tot
   simpa [plenR] using this
  ·rcases List.mem_append.1 hy with hy | hy
   ·exact h.fn y hy
   ·rw [List.mem_singleton.1 hy]
    exact ⟨nameB_16 (hx.name (.inr (.inl k2))),fun z hz=>(by cases hz)⟩
 rw [if_neg k2] at h0 ⊢;rw [if_neg k2]
 by_cases k3:x.kind=3
 ·rw [if_pos k3] at h0 ⊢
  rw [if_neg (by omega)]
  exact ⟨h.m,h.m8,h.f,h.f16,h.tot,h.sl,h.s200,h.pm,h.fn⟩
 rw [if_neg k3] at h0 ⊢
 by_cases k4:x.kind=4
 ·rw [if_pos k4] at h0 ⊢;rw [if_pos k4]
  have hI:x.x.In:=hx.x k4
  obtain ⟨hfit,_,_,h200⟩:=code_zero h0
  have hp:=hne k4
  have hlt:b.fs.length - 1<b.fs.length:=by omega
  have hl:b.last=b.fs[b.fs.length - 1]:=by
   unfold BS.last
   rw [List.getD_eq_getElem?_getD,List.getElem?_eq_getElem hlt];rfl
  have hs1:=pread_slots x.x hI.k
  have hs2:=x.x.slots2
  refine ⟨h.m,h.m8,(by show (b.fs.set _ _).length=k.funcs.length;rw [List.length_set];exact h.f),h.f16,?_,?_,?_,h.pm,fun g hg=>?_⟩
  ·show plenR (b.fs.set _ _)<=k.slots+x.x.o.slots
   have:=plenR_set b.fs _ hlt ⟨b.last.name,b.last.code++[piOf o (b.fs.length - 1) b.slot x.x]⟩
   rw [hl] at this ⊢
   simp only [List.length_append,List.length_singleton] at this
   have:=h.tot
   omega
  ·have:=h.sl
   show b.slot+x.x.o.slots<=k.slots+x.x.o.slots
   omega
  ·show k.slots+x.x.o.slots<=200
   omega
  ·rcases List.mem_or_eq_of_mem_set hg with hg | rfl
   ·exact h.fn g hg
   ·have hL:=h.fn _ (List.getElem_mem hlt)
    rw [hl]
    refine ⟨hL.1,fun z hz=>?_⟩
    rcases List.mem_append.1 hz with hz | hz
    ·exact hL.2 z hz
    ·rw [List.mem_singleton.1 hz]
     have hnm:x.x.r.name.length<=16:=by
      rcases hI.i.m with e | e
      ·rw [e];exact Nat.zero_le _
      ·exact nameB_16 e
     refine ⟨⟨hI.k,Nat.le_trans hI.i.d (by decide),Nat.le_trans hI.i.s (by decide),?_,hI.i.n,hI.i.h⟩,hnm⟩
     show -32768<=jmpOf o (b.fs.length - 1) b.slot x.x/\jmpOf o (b.fs.length - 1) b.slot x.x<=32767
     unfold jmpOf
     have hb:=hlab (b.fs.length - 1) x.x.r.label
     have:=h.sl
     have:=h.s200
     split
     ·omega
     ·exact hI.i.j
 ·rw [if_neg k4,if_neg k4];exact h
theorem Bok.new:Bok {} {}:=⟨rfl,Nat.zero_le _,rfl,Nat.zero_le _,Nat.le_refl _,Nat.le_refl _,Nat.zero_le _,fun x h=>(by cases h),fun f h=>(by cases h)⟩
def walkP (ls:List PLn):WK:=ls.foldl stepP {}
theorem walk_step (ls:List PLn) (k:Nat) (h:k<ls.length):walkP (ls.take (k+1))=stepP (walkP (ls.take k)) ls[k]:=by
 unfold walkP
 rw [List.take_succ_eq_append_getElem h,List.foldl_append];rfl
theorem first_zero (o:OL):∀ (ls:List PLn) (k:WK) (n:Nat),(firstP o ls k n).1=0->∀ i (h:i<ls.length),faultP o ((ls.take i).foldl stepP k) ls[i]=0
 | x::ls,k,n,h,i,hi=>by
  rw [firstP] at h
  split at h
  ·rename_i h0
   cases i with
   | zero=>exact h0
   | succ i=>exact first_zero o ls (stepP k x) (n+1) h i (by simpa using hi)
  ·rename_i h0;exact absurd h h0
theorem built_ok {ls:List PLn} (hl:∀ x∈ls,LOk x) (hin:InF ls) (hn:ls.length<=10000) (h0:(firstP (outlineP ls) ls {} 0).1=0):∀ i,i<=ls.length->Bok (walkP (ls.take i)) (buildP (outlineP ls) (ls.take i))
 | 0,_=>by rw [List.take_zero];exact Bok.new
 | i+1,h=>by
  have ih:=built_ok hl hin hn h0 i (by omega)
  rw [walk_step ls i (by omega),build_step (outlineP ls) ls i (by omega)]
  refine ih.step (hl _ (List.getElem_mem _)) (first_zero _ ls {} 0 h0 i (by omega)) (fun n y=>?_) (fun h4=>?_)
  ·have h1:=outline_labs ls ls.length (Nat.le_refl _)
   rw [List.take_of_length_le (Nat.le_refl _)] at h1
   refine labOf_le (fun p hp=>?_) y
   rw [List.getD_eq_getElem?_getD] at hp
   cases hq:(outlineP ls).fs[n]? with
   | none=>rw [hq] at hp;cases hp
   | some f =>
    rw [hq] at hp
    have:=h1 f (List.mem_of_getElem? hq) p hp
    omega
  ·rw [(build_len (outlineP ls) ls i (by omega)).1]
   exact List.length_pos_iff.2 (hin i (by omega) (.inr h4))
theorem fit_sizes {ls:List PLn} (h0:(firstP (outlineP ls) ls {} 0).1=0):∀ x∈ls,x.kind=1->(0<=szP (x.ns.getD 0 num0)/\szP (x.ns.getD 0 num0)<256)/\(0<=szP (x.ns.getD 1 num0)/\szP (x.ns.getD 1 num0)<256)/\(0<=szP (x.ns.getD 2 num0)/\szP (x.ns.getD 2 num0)<256):=fun x hx h1=>by
 obtain ⟨i,hi,rfl⟩:=List.getElem_of_mem hx
 have h:=first_zero _ ls {} 0 h0 i hi
 unfold faultP at h;rw [if_pos h1] at h;unfold mapFaultP at h
 split at h
 ·cases h
 rename_i hs
 have hs':sizesFitP (ls[i].ns.getD 0 num0) (ls[i].ns.getD 1 num0) (ls[i].ns.getD 2 num0)=true:=by simpa using hs
 unfold sizesFitP at hs'
 simp only [Bool.and_eq_true] at hs'
 have s0:=size_rng hs'.1.1
 have s1:=size_rng hs'.1.2
 have s2:=size_rng hs'.2
 omega
theorem pslotU_len (x:PI):(pslotU x).length<=16:=by
 unfold pslotU slotU
 split
 ·simp [b8_len,fourL]
 ·simp [b8_len,fourL]
theorem plenR_mem:∀ (fs:List PFn) (f:PFn),f∈fs->f.code.length<=plenR fs
 | g::fs,f,h=>by
  rw [plenR]
  rcases List.mem_cons.1 h with rfl | h
  ·omega
  ·have:=plenR_mem fs f h;omega
theorem T_size2 (l:List UInt8):(T l).size=l.length:=rfl
theorem Bok.enc {k:WK} {b:BS} (h:Bok k b) {ms:List PMap} {fs:List PFn} (hm:ms.Perm b.ms) (hf:fs.Perm b.fs):EOk ms fs/\(∀ f∈fs,∀ x∈f.code,x.name.length<=255)/\plenR fs<=200/\(encU 1 ms fs).length<=300000/\ms.length<=8/\fs.length<=16:=by
 have hml:ms.length<=8:=by rw [hm.length_eq,h.m];exact h.m8
 have hfl:fs.length<=16:=by rw [hf.length_eq,h.f];exact h.f16
 have hpl:plenR fs<=200:=by rw [plenR_perm hf];exact Nat.le_trans h.tot h.s200
 have hpm:∀ x∈ms,_:=fun x hx=>h.pm x (hm.mem_iff.1 hx)
 have hfn:∀ f∈fs,_:=fun f hx=>h.fn f (hf.mem_iff.1 hx)
 have hcl:∀ f∈fs,f.code.length<=200:=fun f hx=>Nat.le_trans (plenR_mem fs f hx) hpl
 refine ⟨⟨by omega,by omega,fun m hx=>?_,fun f hx=>?_⟩,fun f hx x hxx=>?_,hpl,?_,hml,hfl⟩
 ·have:=hpm m hx;omega
 ·have:=hfn f hx
  exact ⟨by omega,hcl f hx,fun x hxx=>(this.2 x hxx).1⟩
 ·have:=((hfn f hx).2 x hxx).2;omega
 ·have e1:(ms.flatMap pmapU).length<=ms.length*20:=flat_bd pmapU 20 ms (fun m hx=>by
   have:=(hpm m hx).1
   unfold pmapU;rw [List.length_append,namedU_len,b8_len,T_size2]
   simp;omega)
  have e2:(fs.flatMap pheadU).length<=fs.length*19:=flat_bd pheadU 19 fs (fun f hx=>by
   have:=(hfn f hx).1
   unfold pheadU;rw [List.length_append,namedU_len,b8_len,T_size2]
   simp [twoL];omega)
  have e3:(fs.flatMap pcodeU).length<=fs.length*3200:=flat_bd pcodeU 3200 fs (fun f hx=>by
   have:=hcl f hx
   unfold pcodeU
   have:=flat_bd pslotU 16 f.code (fun x _=>pslotU_len x)
   omega)
  unfold encU
  simp only [List.length_append,b8_len,List.length_cons,List.length_nil]
  omega
def objU (ms:List PMap) (fs:List PFn):List UInt8:=encU 1 ms fs++b8 (twoL (pcntR fs))++prefF 0 fs
def AsmR (l:List UInt8) (s:ByteArray) (c n:Nat):Prop :=
 if 4000<l.length then s=⟨#[]⟩/\c=1/\n=0
 else match parseP (linesP l) false 0 [] with
  | .inr k=>s=⟨#[]⟩/\c=2/\n=k
  | .inl ls=>if (firstP (outlineP ls) ls {} 0).1=0 then (c=0/\n=0/\∃ ms fs,ms.Perm (buildP (outlineP ls) ls).ms/\ms.Pairwise (fun x y=>ltB (T y.name) (T x.name)=false)/\fs.Perm (buildP (outlineP ls) ls).fs/\fs.Pairwise (fun x y=>ltB (T y.name) (T x.name)=false)/\s=T (objU ms fs))
   else s=⟨#[]⟩/\c=(firstP (outlineP ls) ls {} 0).1/\n=(firstP (outlineP ls) ls {} 0).2
theorem parse_pos:∀ (ts:List (List UInt8)) (inF:Bool) (n:Nat) (acc:List PLn) (k:Nat),parseP ts inF n acc=.inr k->0<k
 | [],_,_,_,k,h=>by rw [parseP] at h;cases h
 | t::ts,inF,n,acc,k,h=>by
  rw [parseP] at h
  cases hl:lineP t with
  | none=>rw [hl] at h;injection h with h;omega
  | some x =>
   rw [hl] at h
   dsimp only at h
   split at h
   ·injection h with h;omega
   ·exact parse_pos ts _ _ _ k h
theorem AsmR.ok {l:List UInt8} {ls:List PLn} {ms:List PMap} {fs:List PFn} (hb:¬ 4000<l.length) (hp:parseP (linesP l) false 0 []=.inl ls) (h0:(firstP (outlineP ls) ls {} 0).1=0) (h1:ms.Perm (buildP (outlineP ls) ls).ms) (h2:ms.Pairwise (fun x y=>ltB (T y.name) (T x.name)=false)) (h3:fs.Perm (buildP (outlineP ls) ls).fs) (h4:fs.Pairwise (fun x y=>ltB (T y.name) (T x.name)=false)):AsmR l (T (objU ms fs)) 0 0:=by
 unfold AsmR;rw [if_neg hb,hp]
 show if (firstP (outlineP ls) ls {} 0).1=0 then _ else _
 rw [if_pos h0]
 exact ⟨rfl,rfl,ms,fs,h1,h2,h3,h4,rfl⟩
theorem AsmR.no {l:List UInt8} {ls:List PLn} (hb:¬ 4000<l.length) (hp:parseP (linesP l) false 0 []=.inl ls) (h0:¬ (firstP (outlineP ls) ls {} 0).1=0):AsmR l ⟨#[]⟩ (firstP (outlineP ls) ls {} 0).1 (firstP (outlineP ls) ls {} 0).2:=by
 unfold AsmR;rw [if_neg hb,hp]
 show if (firstP (outlineP ls) ls {} 0).1=0 then _ else _
 rw [if_neg h0]
 exact ⟨rfl,rfl,rfl⟩
def AsmPost (w:World) (l:List UInt8) (e:Ending) (w':World):Prop:=∃ s c n,e=.returned (.tuple #[.string s,.int .i64 (c:Nat),.int .i64 (n:Nat)])/\AsmR l s c n/\Mods Nil' w w'
set_option maxRecDepth 100000 in
set_option maxHeartbeats 2000000 in
theorem asm_any (w:World) (l:List UInt8) (hW:EnvW w) (hE:Env w) (hM:EnvM w) :
  Calls Tryz.prog 12 #[.string (T l)] w fun e w'=>AsmPost w l e w':=by
 have HTB:Hid (Calls Tryz.prog 15 #[] w fun e w'=>∃ v bs,e=.returned v/\OpsIn 0 w' v bs tableS/\Mods Nil' w w'):=table_any w hW
 have hsz:(T l).size=l.length:=rfl
 by_cases hbig:4000<l.length
 ·have HF:Hid (∀ w',Mods Nil' w w'->AsmPost w l (.returned (.tuple #[.string ⟨#[]⟩,.int .i64 1,.int .i64 0])) w'):=fun w' m=>⟨⟨#[]⟩,1,0,rfl,by unfold AsmR;rw [if_pos hbig];exact ⟨rfl,rfl,rfl⟩,m⟩
  clear HTB;generalize T l=t at *;generalize AsmPost w l=RP at *
  go_enter Tryz.func12,Tryz.ntmps12
  go_wp2_with fail;go_ret3
  exact HF.out _ (Mods.refl _ _)
 ·have HPR:Hid (∀ w' v bs,OpsIn 0 w' v bs tableS->Mods Nil' w w'->Calls Tryz.prog 20 #[v,.string (T l)] w' fun e w''=>ParseA w' bs (parseP (linesP l) false 0 []) e w''):=fun w' v bs h m=>parse_any w' w' v bs l h (Mods.refl _ _) (hE.mods m) (hM.mods m) (by omega)
  cases hp:parseP (linesP l) false 0 [] with
  | inr k =>
   have HF:Hid (∀ w',Mods Nil' w w'->AsmPost w l (.returned (.tuple #[.string ⟨#[]⟩,.int .i64 2,.int .i64 (k:Nat)])) w'):=fun w' m=>⟨⟨#[]⟩,2,k,rfl,by unfold AsmR;rw [if_neg hbig,hp];exact ⟨rfl,rfl,rfl⟩,m⟩
   rw [hp] at HPR
   have hk:=parse_pos _ _ _ _ _ hp
   clear hp;generalize linesP l=ll at *;generalize T l=t at *;generalize AsmPost w l=RP at *
   go_enter Tryz.func12,Tryz.ntmps12
   go_wp2_with fail;refine HTB.out.mono ?_;rintro e w2 ⟨v,bs,rfl,hO2,m2⟩
   have HP2:=HPR.out w2 v bs hO2 m2
   have HM2:=hid m2;clear hO2 m2 HPR HTB;go_wp2_with fail;refine HP2.mono ?_;rintro e w3 ⟨rfl,m3⟩
   have HM3:Hid (Mods Nil' w w3):=HM2.out.trans m3
   clear m3 HP2 HM2;go_wp2_with fail;go_ret3;exact HF.out _ HM3.out
  | inl ls =>
   obtain ⟨hin,hk4,hnl⟩:=parsed_ok hp
   have hlk:∀ x∈ls,LOk x:=parse_lok _ _ _ _ _ hp (fun x h=>(by cases h))
   have HOU:Hid (∀ wT w' v vL bs,OpsIn 0 wT v bs tableS->Mods Nil' wT w'->LnsAt wT vL bs ls w'->Calls Tryz.prog 21 #[vL] w' fun e w''=>OutlPost w' (outlineP ls) e w''):=fun wT w' v vL bs hO m hL=>outline_any wT wT w' v vL bs ls hO m hL hin hk4 (by omega)
   have HFI:Hid (∀ wT wO w' v vL vF bm lb bs,OpsIn 0 wT v bs tableS->Mods Nil' wT w'->LnsAt wT vL bs ls w'->OutAt wO bm vF lb (outlineP ls) w'->Calls Tryz.prog 22 #[vL,.agg #[.map (some bm),vF]] w' fun e w''=>FirstPost w' (firstP (outlineP ls) ls {} 0) e w''):=fun wT wO w' v vL vF bm lb bs hO m hL hA=>first_any wT wT wO w' v vL vF bm lb bs ls hO m hL hA hin hk4 (by omega)
   rw [hp] at HPR
   by_cases h0:(firstP (outlineP ls) ls {} 0).1=0
   ·have hbo:=built_ok hlk hin (by omega) h0 ls.length (Nat.le_refl _)
    rw [List.take_length] at hbo
    have HBU:Hid (∀ wT wO w' v vL vF bm lb bs,OpsIn 0 wT v bs tableS->Mods Nil' wT w'->LnsAt wT vL bs ls w'->OutAt wO bm vF lb (outlineP ls) w'->Calls Tryz.prog 24 #[vL,.agg #[.map (some bm),vF]] w' fun e w''=>BldPost w' v bs (buildP (outlineP ls) ls) e w''):=fun wT wO w' v vL vF bm lb bs hO m hL hA=>build_any wT wT wO w' v vL bs ls bm vF lb hO m hL hA hin hk4 (by omega) (fit_sizes h0)
    have HEN:Hid (∀ w' v bs vM vF ms fs vs,PPrL w' v bs vM vF ms fs vs->ms.Perm (buildP (outlineP ls) ls).ms->fs.Perm (buildP (outlineP ls) ls).fs->Calls Tryz.prog 23 #[.agg #[vM,vF]] w' fun e w''=>e=.returned (.string (T (objU ms fs)))/\Mods Nil' w' w''):=fun w' v bs vM vF ms fs vs hP hm hf=>by
     obtain ⟨h1,h2,h3,h4,_⟩:=hbo.enc hm hf
     exact encObjL_any w' v bs vM vF ms fs vs hP h1 h2 (by omega) h4
    have HF:Hid (∀ w' ms fs,ms.Perm (buildP (outlineP ls) ls).ms->ms.Pairwise (fun x y=>ltB (T y.name) (T x.name)=false)->fs.Perm (buildP (outlineP ls) ls).fs->fs.Pairwise (fun x y=>ltB (T y.name) (T x.name)=false)->Mods Nil' w w'->AsmPost w l (.returned (.tuple #[.string (T (objU ms fs)),.int .i64 0,.int .i64 0])) w'):=fun w' ms fs h1 h2 h3 h4 m=>⟨_,0,0,rfl,AsmR.ok hbig hp h0 h1 h2 h3 h4,m⟩
    clear hp hin hk4 hlk hbo;generalize linesP l=ll at *;generalize T l=t at *;generalize AsmPost w l=RP at *;generalize firstP (outlineP ls) ls {} 0=fp at *;generalize buildP (outlineP ls) ls=bb at *;obtain ⟨f1,f2⟩:=fp
    dsimp only at *
    go_enter Tryz.func12,Tryz.ntmps12
    go_wp2_with fail;refine HTB.out.mono ?_;rintro e w2 ⟨v,bs,rfl,hO2,m2⟩
    have HP2:=HPR.out w2 v bs hO2 m2
    have HO2:=hid hO2;have HM2:=hid m2;clear hO2 m2 HPR HTB;go_wp2_with fail;refine HP2.mono ?_;rintro e w3 ⟨vL,rfl,hL3⟩;have HL3:=hid hL3;clear hL3 HP2
    have HC3:=HOU.out w2 w3 v vL bs HO2.out HL3.out.md HL3.out
    obtain ⟨oL,cL,hvL,_⟩:=HL3.out.sl.view;subst hvL;go_wp2_with fail;refine HC3.mono ?_;rintro e w4 ⟨bm,vF,lb,rfl,hA4⟩;have HA4:=hid hA4;clear hA4 HC3;obtain ⟨oF,cF,hvF,_⟩:=HA4.out.sl.view;subst hvF
    have HB5:Hid (Blk (w4.alloc (.cells #[.map (some bm),.slice oF (outlineP ls).fs.length cF] 64)) w4.heap.size #[.map (some bm),.slice oF (outlineP ls).fs.length cF] 64):=Blk.new w4 _ _
    have HM5:Hid (Mods Nil' w4 (w4.alloc (.cells #[.map (some bm),.slice oF (outlineP ls).fs.length cF] 64))):=(Mods.refl _ _).alloc _
    generalize hol:outlineP ls=ol at *
    go_upto_region 7 with fail;generalize w4.alloc (.cells #[.map (some bm),.slice oF ol.fs.length cF] 64)=w5 at *;generalize w4.heap.size=X at *
    have HL5:Hid (LnsAt w2 (.slice oL ls.length cL) bs ls w5):=(HL3.out.quiet HA4.out.md).quiet HM5.out
    have HA5:Hid (OutAt w3 bm (.slice oF ol.fs.length cF) lb ol w5):=HA4.out.quiet HM5.out
    have x0:w5.cell? ⟨X,0,none⟩=some (.map (some bm)):=HB5.out.cell 0
    have x1:w5.cell? ⟨X,1,none⟩=some (.slice oF ol.fs.length cF):=HB5.out.cell 1
    have HC5:=HFI.out w2 w3 w5 v (.slice oL ls.length cL) (.slice oF ol.fs.length cF) bm lb bs HO2.out HL5.out.md HL5.out HA5.out
    go_wp2_with fail;refine HC5.mono ?_;rintro e w6 ⟨rfl,m6⟩
    have HL6:Hid (LnsAt w2 (.slice oL ls.length cL) bs ls w6):=HL5.out.quiet m6
    have HA6:Hid (OutAt w3 bm (.slice oF ol.fs.length cF) lb ol w6):=HA5.out.quiet m6
    have hB6:=HB5.out.mods m6 id
    have y0:w6.cell? ⟨X,0,none⟩=some (.map (some bm)):=hB6.cell 0
    have y1:w6.cell? ⟨X,1,none⟩=some (.slice oF ol.fs.length cF):=hB6.cell 1
    clear m6 hB6 x0 x1 HC5
    have HC6:=HBU.out w2 w3 w6 v (.slice oL ls.length cL) (.slice oF ol.fs.length cF) bm lb bs HO2.out HL6.out.md HL6.out HA6.out
    subst h0;go_wp2_with fail;refine HC6.mono ?_;rintro e w7 ⟨vM,vF,ms,fs,vs,rfl,hP7,p1,p2,p3,p4,m7⟩
    have HC7:=HEN.out w7 v bs vM vF ms fs vs hP7 p1 p3
    have HFF:Hid (∀ w',Mods Nil' w7 w'->RP (.returned (.tuple #[.string (T (objU ms fs)),.int .i64 0,.int .i64 0])) w'):=fun w' m'=>HF.out w' ms fs p1 p2 p3 p4 (HM2.out.trans (HL6.out.md.trans (m7.trans m')))
    clear hP7 p1 p2 p3 p4 m7 HC6;go_wp2_with fail;refine HC7.mono ?_;rintro e w8 ⟨rfl,m8⟩;have HM8:=hid m8;clear m8;go_wp2_with fail;go_ret3;exact HFF.out _ HM8.out
   ·have HF:Hid (∀ w',Mods Nil' w w'->AsmPost w l (.returned (.tuple #[.string ⟨#[]⟩,.int .i64 ((firstP (outlineP ls) ls {} 0).1:Nat),.int .i64 ((firstP (outlineP ls) ls {} 0).2:Nat)])) w'):=fun w' m=>⟨_,_,_,rfl,AsmR.no hbig hp h0,m⟩
    clear hp hin hk4 hlk;generalize linesP l=ll at *;generalize T l=t at *;generalize AsmPost w l=RP at *;generalize firstP (outlineP ls) ls {} 0=fp at *;obtain ⟨f1,f2⟩:=fp
    dsimp only at *
    go_enter Tryz.func12,Tryz.ntmps12
    go_wp2_with fail;refine HTB.out.mono ?_;rintro e w2 ⟨v,bs,rfl,hO2,m2⟩
    have HP2:=HPR.out w2 v bs hO2 m2
    have HO2:=hid hO2;have HM2:=hid m2;clear hO2 m2 HPR HTB;go_wp2_with fail;refine HP2.mono ?_;rintro e w3 ⟨vL,rfl,hL3⟩;have HL3:=hid hL3;clear hL3 HP2
    have HC3:=HOU.out w2 w3 v vL bs HO2.out HL3.out.md HL3.out
    obtain ⟨oL,cL,hvL,_⟩:=HL3.out.sl.view;subst hvL;go_wp2_with fail;refine HC3.mono ?_;rintro e w4 ⟨bm,vF,lb,rfl,hA4⟩;have HA4:=hid hA4;clear hA4 HC3;obtain ⟨oF,cF,hvF,_⟩:=HA4.out.sl.view;subst hvF
    have HB5:Hid (Blk (w4.alloc (.cells #[.map (some bm),.slice oF (outlineP ls).fs.length cF] 64)) w4.heap.size #[.map (some bm),.slice oF (outlineP ls).fs.length cF] 64):=Blk.new w4 _ _
    have HM5:Hid (Mods Nil' w4 (w4.alloc (.cells #[.map (some bm),.slice oF (outlineP ls).fs.length cF] 64))):=(Mods.refl _ _).alloc _
    generalize hol:outlineP ls=ol at *
    go_upto_region 7 with fail;generalize w4.alloc (.cells #[.map (some bm),.slice oF ol.fs.length cF] 64)=w5 at *;generalize w4.heap.size=X at *
    have HL5:Hid (LnsAt w2 (.slice oL ls.length cL) bs ls w5):=(HL3.out.quiet HA4.out.md).quiet HM5.out
    have HA5:Hid (OutAt w3 bm (.slice oF ol.fs.length cF) lb ol w5):=HA4.out.quiet HM5.out
    have x0:w5.cell? ⟨X,0,none⟩=some (.map (some bm)):=HB5.out.cell 0
    have x1:w5.cell? ⟨X,1,none⟩=some (.slice oF ol.fs.length cF):=HB5.out.cell 1
    have HC5:=HFI.out w2 w3 w5 v (.slice oL ls.length cL) (.slice oF ol.fs.length cF) bm lb bs HO2.out HL5.out.md HL5.out HA5.out
    go_wp2_with fail;refine HC5.mono ?_;rintro e w6 ⟨rfl,m6⟩
    have HL6:Hid (LnsAt w2 (.slice oL ls.length cL) bs ls w6):=HL5.out.quiet m6
    have HA6:Hid (OutAt w3 bm (.slice oF ol.fs.length cF) lb ol w6):=HA5.out.quiet m6
    have hB6:=HB5.out.mods m6 id
    have y0:w6.cell? ⟨X,0,none⟩=some (.map (some bm)):=hB6.cell 0
    have y1:w6.cell? ⟨X,1,none⟩=some (.slice oF ol.fs.length cF):=hB6.cell 1
    clear m6 hB6 x0 x1 HC5
    have hf0:((f1:Int) != 0)=true:=by
     have:¬ (f1:Int)=0:=by omega
     simpa using this
    go_wp2_with fail;go_ret3
    exact HF.out _ (HM2.out.trans HL6.out.md)
end Go.Proofs.YtnhcaifopaeohaaGreatDoor
