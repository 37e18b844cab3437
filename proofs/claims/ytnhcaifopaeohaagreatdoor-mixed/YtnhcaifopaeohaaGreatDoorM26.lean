import Derived.Test.YtnhcaifopaeohaaGreatDoorM24
import Derived.Test.YtnhcaifopaeohaaGreatDoorM25
namespace Go.Proofs.YtnhcaifopaeohaaGreatDoor
open Go.RowKit
set_option linter.all false
theorem ref_len (n slot:Nat) (q:PR):(refP n slot q).2.rest.length<=q.rest.length:=by
 refine Nat.le_trans (name_len _) ?_
 refine Nat.le_trans (two_len _) ?_
 exact one_len q
theorem code_name {w:World} {g n c:Nat} {bs:List Nat} {l:List PI} (h:Sl w 84 8 (.slice (some ⟨g,0,none⟩) n c) n (codeC bs l)) (hn:n=l.length) (k:Nat) (hk:k<l.length) (nm:List UInt8) :
  Sl (w.setCell ⟨g,k*8+7,none⟩ (.string (T nm))) 84 8 (.slice (some ⟨g,0,none⟩) n c) n (codeC bs (l.set k { l[k] with name:=nm })):=by
 have:=h.setAt (k*8+7) (.string (T nm)) (by omega)
 unfold codeC at *
 rwa [flat_set (fun x:PI=>(x.ins bs).cellsL) 8 (fun _=>rfl) l k 7 hk (by omega) (.string (T nm)) { l[k] with name:=nm } rfl] at this
theorem Fns.name {w:World} {lo:Nat} {bs:List Nat} {v:Value} {fs:List PFn} {vs:List Value} (h:Fns w lo bs v fs vs) (i:Nat) (hi:i<fs.length) (hv:i<vs.length) {g n c:Nat} (he:vs[i]=.slice (some ⟨g,0,none⟩) n c) (k:Nat) (hk:k<fs[i].code.length) (nm:List UInt8) :
  Fns (w.setCell ⟨g,k*8+7,none⟩ (.string (T nm))) lo bs v (fs.set i ⟨fs[i].name,fs[i].code.set k { fs[i].code[k] with name:=nm }⟩) vs:=by
 have m:Mods (Only g) w (w.setCell ⟨g,k*8+7,none⟩ (.string (T nm))):=(Mods.refl _ _).setb _ _
 have hs:=h.cd i hi hv
 have hg:vs[i].ownBlock=some g:=by rw [he];rfl
 have hnm:(fs.set i ⟨fs[i].name,fs[i].code.set k { fs[i].code[k] with name:=nm }⟩).map (·.name)=fs.map (·.name):=by
  rw [List.map_set]
  exact List.ext_getElem (by simp) (fun j h1 h2=>by
   rw [List.getElem_set]
   split
   ·rename_i e;subst e;simp
   ·rfl)
 refine ⟨by simp [h.len],?_,fun j h1 h2=>?_,fun f hf x hx=>?_,h.own,h.ownC,h.ne⟩
 ·rw [hnm,List.length_set]
  exact h.sl.mods m (fun k' hk' e=>hs.apart h.sl (by decide) hg (hk'.trans (congrArg some e)))
 ·rw [List.length_set] at h1
  by_cases e:i=j
  ·subst e
   simp only [List.getElem_set_self,List.length_set]
   rw [he] at hs ⊢
   have hn:n=fs[i].code.length:=by
    obtain ⟨o,cp,e1,_⟩:=hs.view
    cases e1;rfl
   subst hn;exact code_name hs rfl k hk nm
  ·rw [List.getElem_set_ne e]
   exact (h.cd j h1 h2).mods m (fun k' hk' e'=>h.ne i j hv h2 e g hg (hk'.trans (congrArg some e')))
 ·rcases List.mem_or_eq_of_mem_set hf with h' | h'
  ·exact h.ok f h' x hx
  ·subst h'
   rcases List.mem_or_eq_of_mem_set hx with h'' | h''
   ·exact h.ok fs[i] (List.getElem_mem hi) x h''
   ·subst h''
    have:=h.ok fs[i] (List.getElem_mem hi) fs[i].code[k] (List.getElem_mem hk)
    exact ⟨this.k,this.d,this.s,this.j,this.n,this.h⟩
structure RInv (w0:World) (lo b:Nat) (bs:List Nat) (q:PR) (vF:Value) (fs:List PFn) (vs:List Value) (w:World):Prop where
 rd:PRd w b q
 fn:Fns w lo bs vF fs vs
 md:Mods (fun k=>k=b\/lo<=k) w0 w
theorem RInv.read {w0 w w':World} {lo b:Nat} {bs:List Nat} {q q':PR} {vF:Value} {fs:List PFn} {vs:List Value} (h:RInv w0 lo b bs q vF fs vs w) (hr:PRd w' b q') (m:Mods (Only b) w w'):RInv w0 lo b bs q' vF fs vs w' :=
 ⟨hr,h.fn.read h.rd m,h.md.trans (m.mono (fun _ _ e=>.inl e))⟩
theorem RInv.quiet {w0 w w':World} {lo b:Nat} {bs:List Nat} {q:PR} {vF:Value} {fs:List PFn} {vs:List Value} (h:RInv w0 lo b bs q vF fs vs w) (m:Mods Nil' w w'):RInv w0 lo b bs q vF fs vs w' :=
 ⟨Blk.mods h.rd m id,h.fn.quiet m,h.md.trans (m.of_nil)⟩
theorem RInv.name {w0 w:World} {lo b:Nat} {bs:List Nat} {q:PR} {vF:Value} {fs:List PFn} {vs:List Value} (h:RInv w0 lo b bs q vF fs vs w) (i:Nat) (hi:i<fs.length) (hv:i<vs.length) {g n c:Nat} (he:vs[i]=.slice (some ⟨g,0,none⟩) n c) (k:Nat) (hk:k<fs[i].code.length) (nm:List UInt8) :
  RInv w0 lo b bs q vF (fs.set i ⟨fs[i].name,fs[i].code.set k { fs[i].code[k] with name:=nm }⟩) vs (w.setCell ⟨g,k*8+7,none⟩ (.string (T nm))) :=
 ⟨Blk.setOther h.rd (fun e=>(h.fn.cd i hi hv).notBlk h.rd (by decide) (by rw [he];exact congrArg some e)) _,h.fn.name i hi hv he k hk nm,h.md.set (.inl (.inr (h.fn.ownC _ (List.getElem_mem hv) g (by rw [he];rfl)))) _⟩
def szP (n:RNum):Int:=(n.sgnP 9223372036854775808).getD 0
set_option maxRecDepth 100000 in
set_option maxHeartbeats 1000000 in
theorem mapOf_any (kd:Nat) (nm:ByteArray) (a b c:RNum) (w:World) (ha:0<=szP a/\szP a<256) (hb:0<=szP b/\szP b<256) (hc:0<=szP c/\szP c<256) :
  Calls Tryz.prog 46 #[.agg (lnM kd nm a b c)] w fun e w'=>e=.returned (.agg #[.string nm,.int .u8 (szP a),.int .u8 (szP b),.int .u8 (szP c)])/\Mods Nil' w w':=by
 have HSA:Hid (∀ w,Calls Tryz.prog 114 #[a.aggP] w fun e w'=>e=.returned (.int .u8 (szP a))/\Mods Nil' w w'):=fun w=>sizeOf_any a w ha
 have HSB:Hid (∀ w,Calls Tryz.prog 114 #[b.aggP] w fun e w'=>e=.returned (.int .u8 (szP b))/\Mods Nil' w w'):=fun w=>sizeOf_any b w hb
 have HSC:Hid (∀ w,Calls Tryz.prog 114 #[c.aggP] w fun e w'=>e=.returned (.int .u8 (szP c))/\Mods Nil' w w'):=fun w=>sizeOf_any c w hc
 unfold RNum.aggP lnM lnC at *
 generalize szP a=sa at *;generalize decide (18446744073709551616<=a.v)=ag at *
 generalize ((a.v % 18446744073709551616:Nat):Int)=av at *
 generalize a.minus=am at *;generalize szP b=sb at *;generalize decide (18446744073709551616<=b.v)=bg at *
 generalize ((b.v % 18446744073709551616:Nat):Int)=bv at *
 generalize b.minus=bm at *;generalize szP c=sc at *;generalize decide (18446744073709551616<=c.v)=cg at *
 generalize ((c.v % 18446744073709551616:Nat):Int)=cv at *
 generalize c.minus=cm at *
 generalize hcs:(#[.int .i64 kd,.string nm,.bool am,.int .u64 av,.bool ag,.bool bm,.int .u64 bv,.bool bg,.bool cm,.int .u64 cv,.bool cg,.pointer none,.int .u8 (0:Nat),.int .u8 (0:Nat),.int .i16 0,.int .i32 0,.int .i32 0,.string ⟨#[]⟩,.string ⟨#[]⟩,.bool false]:Array Value)=cs at *
 have HCS:=hid hcs.symm;clear hcs
 have HB0:Hid (Blk ((w.alloc (.cells cs 102)).alloc (.cells #[.string ⟨#[]⟩,.int .u8 0,.int .u8 0,.int .u8 0] 47)) w.heap.size cs 102):=(Blk.new w _ _).alloc _
 have HR0:Hid (Blk ((w.alloc (.cells cs 102)).alloc (.cells #[.string ⟨#[]⟩,.int .u8 0,.int .u8 0,.int .u8 0] 47)) (w.heap.size+1) #[.string ⟨#[]⟩,.int .u8 0,.int .u8 0,.int .u8 0] 47):=by
  have:=Blk.new (w.alloc (.cells cs 102)) #[.string ⟨#[]⟩,.int .u8 0,.int .u8 0,.int .u8 0] 47
  have e:(w.alloc (.cells cs 102)).heap.size=w.heap.size+1:=by simp
  rw [e] at this;exact this
 have HM0:Hid (Mods Nil' w ((w.alloc (.cells cs 102)).alloc (.cells #[.string ⟨#[]⟩,.int .u8 0,.int .u8 0,.int .u8 0] 47))):=((Mods.refl _ _).alloc _).alloc _
 have HNE:Hid (w.heap.size≠w.heap.size+1):=by rw [Hid];omega
 have HLE:Hid (w.heap.size<=w.heap.size+1):=by rw [Hid];omega
 go_enter Tryz.func46,Tryz.ntmps46
 go_upto_region 1 with fail;generalize (w.alloc (.cells cs 102)).alloc (.cells #[.string ⟨#[]⟩,.int .u8 0,.int .u8 0,.int .u8 0] 47)=w1 at *;generalize w.heap.size+1=R at *;have HWR:=hid HLE.out
 generalize hB:w.heap.size=B at *
 have HCE:Hid (∀ e:Ext (Only R) w1,Blk e.w B cs 102):=fun e=>HB0.out.mods e.m (fun h=>HNE.out h)
 have d1:∀ e:Ext (Only R) w1,e.w.cell? ⟨B,1,none⟩=some (.string nm):=fun e=>((HCE.out e).cell 1).trans (by rw [HCS.out];rfl)
 have d2:∀ e:Ext (Only R) w1,e.w.cell? ⟨B,2,none⟩=some (.bool am):=fun e=>((HCE.out e).cell 2).trans (by rw [HCS.out];rfl)
 have d3:∀ e:Ext (Only R) w1,e.w.cell? ⟨B,3,none⟩=some (.int .u64 av):=fun e=>((HCE.out e).cell 3).trans (by rw [HCS.out];rfl)
 have d4:∀ e:Ext (Only R) w1,e.w.cell? ⟨B,4,none⟩=some (.bool ag):=fun e=>((HCE.out e).cell 4).trans (by rw [HCS.out];rfl)
 have d5:∀ e:Ext (Only R) w1,e.w.cell? ⟨B,5,none⟩=some (.bool bm):=fun e=>((HCE.out e).cell 5).trans (by rw [HCS.out];rfl)
 have d6:∀ e:Ext (Only R) w1,e.w.cell? ⟨B,6,none⟩=some (.int .u64 bv):=fun e=>((HCE.out e).cell 6).trans (by rw [HCS.out];rfl)
 have d7:∀ e:Ext (Only R) w1,e.w.cell? ⟨B,7,none⟩=some (.bool bg):=fun e=>((HCE.out e).cell 7).trans (by rw [HCS.out];rfl)
 have d8:∀ e:Ext (Only R) w1,e.w.cell? ⟨B,8,none⟩=some (.bool cm):=fun e=>((HCE.out e).cell 8).trans (by rw [HCS.out];rfl)
 have d9:∀ e:Ext (Only R) w1,e.w.cell? ⟨B,9,none⟩=some (.int .u64 cv):=fun e=>((HCE.out e).cell 9).trans (by rw [HCS.out];rfl)
 have d10:∀ e:Ext (Only R) w1,e.w.cell? ⟨B,10,none⟩=some (.bool cg):=fun e=>((HCE.out e).cell 10).trans (by rw [HCS.out];rfl)
 haveI:Nonempty (Ext (Only R) w1):=Ext.ne _ _
 refine wp_region_mix [5,9,13,15] (fun w'=>∃ e:Ext (Only R) w1,w'=e.w) (by kernel_rfl) (by kernel_rfl) (by kernel_rfl) ⟨⟨_,(Mods.refl _ _).drew⟩,rfl⟩ ?_
 iterate 5 (refine mix_pure rfl rfl rfl ?_;intro K hK;go_big_quiet_op;go_big_quiet_on)
 refine mix_act rfl rfl ?_
 intro K hK
 go_big_op
 refine (HSA.out _).mono ?_
 rintro e w2 ⟨rfl,m2⟩
 have Mw2:Hid (Mods Nil' w1 w2):=((Mods.refl _ _).drew).trans m2
 refine hK _ _ rfl ⟨⟨_,Mw2.out.mono (fun _ _ h=>h.elim)⟩,rfl⟩ ?_
 clear hK K m2
 iterate 3 (refine mix_pure rfl rfl rfl ?_;intro K hK;go_big_quiet_op;go_big_quiet_on)
 refine mix_act rfl rfl ?_
 intro K hK
 go_big_op
 refine (HSB.out _).mono ?_
 rintro e w3 ⟨rfl,m2⟩
 have Mw3:Hid (Mods Nil' w1 w3):=Mw2.out.trans m2
 refine hK _ _ rfl ⟨⟨_,Mw3.out.mono (fun _ _ h=>h.elim)⟩,rfl⟩ ?_
 clear hK K m2
 iterate 3 (refine mix_pure rfl rfl rfl ?_;intro K hK;go_big_quiet_op;go_big_quiet_on)
 refine mix_act rfl rfl ?_
 intro K hK
 go_big_op
 refine (HSC.out _).mono ?_
 rintro e w4 ⟨rfl,m2⟩
 have Mw4:Hid (Mods Nil' w1 w4):=Mw3.out.trans m2
 refine hK _ _ rfl ⟨⟨_,Mw4.out.mono (fun _ _ h=>h.elim)⟩,rfl⟩ ?_
 clear hK K m2
 iterate 1 (refine mix_pure rfl rfl rfl ?_;intro K hK;go_big_quiet_op;go_big_quiet_on)
 refine mix_act rfl rfl ?_
 intro K hK
 have hr:=HR0.out.mods Mw4.out id
 have r0:=hr.cell 0
 have r1:=hr.cell 1
 have r2:=hr.cell 2
 have r3:=hr.cell 3
 have rf:=hr.frozen
 have HR5:Hid (Blk ((((w4.setCell ⟨R,0,none⟩ (.string nm)).setCell ⟨R,1,none⟩ (.int .u8 sa)).setCell ⟨R,2,none⟩ (.int .u8 sb)).setCell ⟨R,3,none⟩ (.int .u8 sc)) R #[.string nm,.int .u8 sa,.int .u8 sb,.int .u8 sc] 47):=(((hr.set 0 _).set 1 _).set 2 _).set 3 _
 have HM5:Hid (Mods (Only R) w1 ((((w4.setCell ⟨R,0,none⟩ (.string nm)).setCell ⟨R,1,none⟩ (.int .u8 sa)).setCell ⟨R,2,none⟩ (.int .u8 sb)).setCell ⟨R,3,none⟩ (.int .u8 sc))):=((((Mw4.out.mono (fun _ _ h=>h.elim)).setb _ _).setb _ _).setb _ _).setb _ _
 go_big_op
 refine hK _ _ rfl ⟨⟨_,HM5.out⟩,rfl⟩ ?_
 clear hK K hr r0 r1 r2 r3 rf
 refine mix_nil ?_
 simp only [Exit.then]
 have HMF:=HM0.out.step HM5.out (fun i hi e=>by have e':i=R:=e;have:=HWR.out;omega)
 go_wp2_with fail
 exact bodyPost_ret (results_cell_row Tryz.results46 _ _ R 47 #[.string nm,.int .u8 sa,.int .u8 sb,.int .u8 sc] (0,0) _ rfl HR5.out Tryz.underlying47 rfl (by kernel_rfl)) rfl ⟨rfl,HMF⟩
set_option maxRecDepth 100000 in
set_option maxHeartbeats 1000000 in
theorem jumpTo_any (w:World) (b:Nat) (o:OpS) (hA:OpAt w b o) (d:Int) (s:Nat) (num high jump:Int) (label name:ByteArray) (slot target:Nat) (hs:slot<=30000) (ht:target<=30000) (ho:o.slots<=2) :
  Calls Tryz.prog 47 #[.agg #[.pointer (some ⟨b,0,none⟩),.int .u8 d,.int .u8 s,.int .i16 jump,.int .i32 num,.int .i32 high,.string label,.string name],.int .i64 slot,.int .i64 target] w fun e w'=>e=.returned (.int .i16 ((target:Int) - slot - o.slots))/\Mods Nil' w w':=by
 have hA1:=hA.mods ((Mods.refl _ _).alloc (.cells #[.pointer (some ⟨b,0,none⟩),.int .u8 d,.int .u8 s,.int .i16 jump,.int .i32 num,.int .i32 high,.string label,.string name] 84))
 obtain ⟨p1,p2,p3,p4,p5,p6,p7,p8,p9,p10,p11,hbo,_⟩:=hA1.ex
 have o2:=hbo.cell 2
 have HM:Hid (Mods Nil' w (w.alloc (.cells #[.pointer (some ⟨b,0,none⟩),.int .u8 d,.int .u8 s,.int .i16 jump,.int .i32 num,.int .i32 high,.string label,.string name] 84))):=(Mods.refl _ _).alloc _
 clear hbo hA1 hA;generalize o.slots=os at *
 go_enter Tryz.func47,Tryz.ntmps47
 go_wp2_with fail;go_ret
 exact ⟨rfl,HM.out⟩
end Go.Proofs.YtnhcaifopaeohaaGreatDoor
