import Derived.Test.YtnhcaifopaeohaaGreatDoorM26
import Derived.Test.YtnhcaifopaeohaaGreatDoorM15
namespace Go.Proofs.YtnhcaifopaeohaaGreatDoor
open Go.RowKit
set_option linter.all false
theorem Ext.same {S:Nat->Prop} {w:World} (e:Ext S w) {g:Nat} (hg:g<w.heap.size) (hS:¬ S g) (i:Nat):e.w.cell? ⟨g,i,none⟩=w.cell? ⟨g,i,none⟩:=by
 simp [World.cell?,e.m.block g hg hS]
structure RBase (w0:World) (lo b:Nat) (bs:List Nat) (vM vF:Value) (ms:List PMap) (pb:Nat) (q:PR) (fs:List PFn) (vs:List Value) (w:World):Prop where
 r:RInv w0 lo b bs q vF fs vs w
 m:Sl w 47 4 vM ms.length (ms.flatMap PMap.cells)
 p:Blk w pb #[vM,vF] 37
section
variable {w0 w w' : World} {lo b : Nat} {bs : List Nat} {vM vF : Value} {ms : List PMap} {pb : Nat} {q q' : PR} {fs : List PFn} {vs : List Value}
theorem RBase.read (h:RBase w0 lo b bs vM vF ms pb q fs vs w) (hr:PRd w' b q') (m:Mods (Only b) w w'):RBase w0 lo b bs vM vF ms pb q' fs vs w' :=
 ⟨h.r.read hr m,h.m.mods m (fun k hk e=>h.m.notBlk h.r.rd (by decide) (hk.trans (congrArg some e))),h.p.mods m (fun e=>by
  have h1:=h.p
  have h2:=h.r.rd
  unfold PRd at h2;unfold Blk at h1 h2
  rw [show pb=b from e,h2] at h1
  cases h1)⟩
theorem RBase.quiet (h:RBase w0 lo b bs vM vF ms pb q fs vs w) (m:Mods Nil' w w'):RBase w0 lo b bs vM vF ms pb q fs vs w' :=
 ⟨h.r.quiet m,h.m.mods m (fun _ _=>id),h.p.mods m id⟩
theorem RBase.name (h:RBase w0 lo b bs vM vF ms pb q fs vs w) (i:Nat) (hi:i<fs.length) (hv:i<vs.length) {g n c:Nat} (he:vs[i]=.slice (some ⟨g,0,none⟩) n c) (k:Nat) (hk:k<fs[i].code.length) (nm:List UInt8) :
  RBase w0 lo b bs vM vF ms pb q (fs.set i ⟨fs[i].name,fs[i].code.set k { fs[i].code[k] with name:=nm }⟩) vs (w.setCell ⟨g,k*8+7,none⟩ (.string (T nm))):=by
 have hs:=h.r.fn.cd i hi hv
 have hg:vs[i].ownBlock=some g:=by rw [he];rfl
 exact ⟨h.r.name i hi hv he k hk nm,h.m.mods ((Mods.refl (Only g) w).setb _ _) (fun k' hk' e=>hs.apart h.m (by decide) hg (hk'.trans (congrArg some e))),Blk.setOther h.p (fun e=>hs.notBlk h.p (by decide) (hg.trans (congrArg some e))) _⟩
theorem RBase.keep (h:RBase w0 lo b bs vM vF ms pb q fs vs w) {fb:Nat} {cs:Array Value} (hB:Blk w fb cs 55) (m:Mods (Only b) w w'):Blk w' fb cs 55 :=
 hB.mods m (fun e=>by
  have h2:=h.r.rd
  unfold PRd at h2;unfold Blk at hB h2
  rw [show fb=b from e,h2] at hB
  cases hB)
theorem RBase.keepN (h:RBase w0 lo b bs vM vF ms pb q fs vs w) {fb:Nat} {cs:Array Value} (hB:Blk w fb cs 55) (i:Nat) (hi:i<fs.length) (hv:i<vs.length) {g n c:Nat} (he:vs[i]=.slice (some ⟨g,0,none⟩) n c) (j:Nat) (u:Value):Blk (w.setCell ⟨g,j,none⟩ u) fb cs 55 :=
 Blk.setOther hB (fun e=>(h.r.fn.cd i hi hv).notBlk hB (by decide) (by rw [he];exact congrArg some e)) _
end
set_option maxRecDepth 100000 in
set_option maxHeartbeats 2000000 in
theorem prefs_any (w:World) (b:Nat) (q:PR) (hR:PRd w b q) (hl:q.rest.length<=maxLen) (wT:World) (tv:Value) (bs:List Nat) (hT:OpsIn 0 wT tv bs tableS) (mT:Mods Nil' wT w) (hbT:wT.heap.size<=b) (lo:Nat) (hlo:wT.heap.size<=lo)
  (ms:List PMap) (hms:ms.length<=1000) (vM:Value) (hM:Sl w 47 4 vM ms.length (ms.flatMap PMap.cells)) (fs:List PFn) (hfs:fs.length<=256) (hcl:∀ f∈fs,f.code.length<=2000) (vF:Value) (vs:List Value) (hF:Fns w lo bs vF fs vs) :
  Calls Tryz.prog 31 #[.pointer (some ⟨b,0,none⟩),.agg #[vM,vF]] w fun e w'=>e=.returned (.tuple #[])/\RInv w lo b bs (refsP ms fs q).2 vF (refsP ms fs q).1 vs w':=by
 obtain ⟨oF,cF,rfl,_⟩:=hF.sl.view;obtain ⟨oM,cM,rfl,_⟩:=hM.view
 have hrp:refsP ms fs q=((refsF ms [] fs ((twoP q).1:Int) (twoP q).2).1,wantP (decide ((refsF ms [] fs ((twoP q).1:Int) (twoP q).2).2.1=0)) (refsF ms [] fs ((twoP q).1:Int) (twoP q).2).2.2):=rfl
 have H2:Hid (∀ w,PRd w b q->Calls Tryz.prog 62 #[.pointer (some ⟨b,0,none⟩)] w fun e w'=>e=.returned (.int .i64 ((twoP q).1:Nat))/\PRd w' b (twoP q).2/\Mods (Only b) w w'):=fun w h=>two_any b q w h hl
 have hl1:=Nat.le_trans (two_len q) hl
 have ht:=two_lt q
 rw [hrp];clear hrp;generalize twoP q=r1 at *;obtain ⟨lf,q1⟩:=r1;simp only at *
 generalize hres:refsF ms [] fs (lf:Int) q1=res
 have HRes:=hid hres;clear hres
 have hB0:RBase w lo b bs (.slice oM ms.length cM) (.slice oF fs.length cF) ms w.heap.size q fs vs (w.alloc (.cells #[.slice oM ms.length cM,.slice oF fs.length cF] 37)) :=
  ⟨⟨Blk.alloc hR _,hF.quiet ((Mods.refl _ _).alloc _),(Mods.refl _ _).alloc _⟩,hM.mods ((Mods.refl Nil' _).alloc _) (fun _ _=>id),Blk.new _ _ _⟩
 have HB0:=hid hB0;have HT:=hid hT;have HMT:=hid mT;have HCl:=hid hcl;clear hT mT hB0 hM hF hR hcl
 go_enter Tryz.func31,Tryz.ntmps31
 go_wp2_with fail
 refine (H2.out _ HB0.out.r.rd).mono ?_
 rintro e w1 ⟨rfl,h1,m1⟩
 have HB1:Hid (RBase w lo b bs (.slice oM ms.length cM) (.slice oF fs.length cF) ms w.heap.size q1 fs vs w1):=HB0.out.read h1 m1
 clear h1 m1 HB0
 have c1:w1.cell? ⟨w.heap.size,1,none⟩=some (.slice oF fs.length cF):=HB1.out.p.cell 1
 go_upto_block 0 with fail
 go_cut [4] (fun left wx=>∃ (l:Int) (r:PR) (done:List PFn),left=.int .i64 l/\-1000000<=l/\l<=1000000/\RBase w lo b bs (.slice oM ms.length cM) (.slice oF fs.length cF) ms w.heap.size r done vs wx/\res=(done,l,r))
 case first =>
  go_wp2_with fail
  go_loopg [4,15] fs.length (fun g left i wl=>∃ (n:Nat) (l:Int) (r:PR) (done:List PFn),i=.int .i64 n/\left=.int .i64 l/\n<=fs.length/\g=fs.length - n/\-(n*2000:Int)<=l/\l<=65536/\done.length=n/\RBase w lo b bs (.slice oM ms.length cM) (.slice oF fs.length cF) ms w.heap.size r (done++fs.drop n) vs wl/\refsF ms done (fs.drop n) l r=res/\r.rest.length<=maxLen)
  case atStart=>exact ⟨0,lf,q1,[],rfl,rfl,Nat.zero_le _,rfl,by omega,by omega,rfl,HB1.out,HRes.out,hl1⟩
  case round =>
   obtain ⟨n,l,r,done,rfl,rfl,hn,rfl,hl0,hl2,hdn,hB,hE,hrl⟩:=hrel;have HB:=hid hB;have HE:=hid hE;clear hB hE HB1 c1 HRes
   by_cases hlt:n<fs.length
   ·obtain ⟨f,hdr,hfx⟩:∃ f,fs.drop n=f::fs.drop (n+1)/\f=fs[n]:=⟨_,List.drop_eq_getElem_cons hlt,rfl⟩
    have hfl:f.code.length<=2000:=by rw [hfx];exact HCl.out _ (List.getElem_mem hlt)
    rw [hdr] at HB HE;subst hdn;have HDr:=hid hdr;clear hdr hfx;obtain ⟨fnm,fcode⟩:=f
    simp only at hfl
    have HE1:Hid (refsF ms (done++[⟨fnm,(refsI ms done.length 0 fcode l r []).1⟩]) (fs.drop (done.length+1)) (refsI ms done.length 0 fcode l r []).2.1 (refsI ms done.length 0 fcode l r []).2.2=res):=HE.out
    clear HE
    generalize hri:refsI ms done.length 0 fcode l r []=ri at *
    have HRi:=hid hri;clear hri
    have hfsl:(done++⟨fnm,fcode⟩::fs.drop (done.length+1)).length=fs.length:=by simp;omega
    have hvl:done.length<vs.length:=by rw [HB.out.r.fn.len,hfsl];exact hlt
    have hgm:=fun h'=>get_mid done (fs.drop (done.length+1)) (⟨fnm,fcode⟩:PFn) h'
    have hcd:=HB.out.r.fn.cd done.length (by rw [hfsl];exact hlt) hvl
    rw [hgm] at hcd;obtain ⟨oC,cC,hvn,_⟩:=hcd.view;have HVn:=hid hvn
    have hsF:=HB.out.r.fn.sl
    rw [hfsl] at hsF;obtain ⟨oF',cF',eF,f5⟩:=hsF.view
    cases eF
    obtain ⟨gF,csF,rfl,hbF,htF,_⟩:=f5 (by omega)
    have keyF:∀ j,j<2->wr.cell? ⟨gF,done.length*2+j,none⟩=(fnC (fnm,.slice oC fcode.length cC))[j]?:=fun j hj=>by
     rw [hbF.cell,<- Array.getElem?_toList,<- List.getElem?_take_of_lt (show done.length*2+j<fs.length*2 by omega),htF,flat_get fnC 2 (fun _=>rfl) _ done.length j (by simp;omega) hj,zip_at _ _ _ (by simp) hvl,hvn]
     simp
    have y0:wr.cell? ⟨gF,done.length*2,none⟩=some (.string (T fnm)):=keyF 0 (by omega)
    have y1:wr.cell? ⟨gF,done.length*2+1,none⟩=some (.slice oC fcode.length cC):=keyF 1 (by omega)
    have HBn:Hid (RBase w lo b bs (.slice oM ms.length cM) (.slice (some ⟨gF,0,none⟩) fs.length cF) ms w.heap.size r (done++⟨fnm,fcode⟩::fs.drop (done.length+1)) vs (wr.alloc (.cells #[.string (T fnm),.slice oC fcode.length cC] 55))):=HB.out.quiet ((Mods.refl _ _).alloc _)
    have HFb:Hid (Blk (wr.alloc (.cells #[.string (T fnm),.slice oC fcode.length cC] 55)) wr.heap.size #[.string (T fnm),.slice oC fcode.length cC] 55):=Blk.new _ _ _
    have HFsl:Hid (∀ a:List PI,(done++⟨fnm,a⟩::fs.drop (done.length+1)).length=fs.length):=fun a=>by simp;omega
    have HVl:=hid hvl;clear keyF hbF htF f5 hsF hvn hcd hgm hfsl HB
    obtain ⟨wO,hwO⟩:∃ wO,wO=wr:=⟨_,rfl⟩
    subst hwO;go_wp2_with fail
    go_loopg [4,7,23] fcode.length (fun g left slot i wl=>∃ (k sl:Nat) (l':Int) (r':PR) (acc:List PI),i=.int .i64 k/\slot=.int .i64 sl/\left=.int .i64 l'/\k<=fcode.length/\g=fcode.length - k/\sl<=2*k/\-(done.length*2000+k:Int)<=l'/\l'<=65536/\acc.length=k/\RBase w lo b bs (.slice oM ms.length cM) (.slice (some ⟨gF,0,none⟩) fs.length cF) ms w.heap.size r' (done++⟨fnm,acc++fcode.drop k⟩::fs.drop (done.length+1)) vs wl/\Blk wl wO.heap.size #[.string (T fnm),.slice oC fcode.length cC] 55/\refsI ms done.length sl (fcode.drop k) l' r' acc=ri/\r'.rest.length<=maxLen)
    case atStart=>exact ⟨0,0,l,r,[],rfl,rfl,rfl,Nat.zero_le _,rfl,Nat.zero_le _,by omega,by omega,rfl,HBn.out,HFb.out,HRi.out,hrl⟩
    case round =>
     obtain ⟨k,sl,l',r',acc,rfl,rfl,rfl,hk,rfl,hsl,hb1,hb2,hak,hB2,hFb2,hri2,hrl2⟩:=hrel;have HB2:=hid hB2;have HFb2:=hid hFb2;have HRi2:=hid hri2;clear hB2 hFb2 hri2 HBn HFb HRi
     have z1:wr.cell? ⟨wO.heap.size,1,none⟩=some (.slice oC fcode.length cC):=HFb2.out.cell 1
     by_cases hkl:k<fcode.length
     ·obtain ⟨x,hdx⟩:∃ x,fcode.drop k=x::fcode.drop (k+1):=⟨_,List.drop_eq_getElem_cons hkl⟩
      rw [hdx] at HB2 HRi2;subst hak
      have hcd:Sl wr 84 8 (.slice oC fcode.length cC) fcode.length (codeC bs (acc++x::fcode.drop (acc.length+1))):=by
       have:=HB2.out.r.fn.cd done.length (by rw [HFsl.out];exact hlt) hvl
       rw [get_mid,HVn.out] at this
       simp only [List.length_append,List.length_cons,List.length_drop] at this
       rwa [show acc.length+(fcode.length - (acc.length+1)+1)=fcode.length by omega] at this
      have hxl:acc.length<(acc++x::fcode.drop (acc.length+1)).length:=by simp
      obtain ⟨g,rfl,hg,x0,x1,x2,x3,x4,x5,x6,x7⟩:=code_at hcd (by simp;omega) rfl acc.length hxl
      rw [get_mid] at x0 x1 x2 x3 x4 x5 x7
      have hxo:PIok x:=HB2.out.r.fn.ok ⟨fnm,acc++x::fcode.drop (acc.length+1)⟩ (by simp) x (by simp)
      have HMw:Hid (∀ w',Mods (fun k=>k=b\/lo<=k) w w'->Mods Nil' wT w'):=fun w' m=>HMT.out.step m (fun i hi e=>by rcases e with e | e<;>omega)
      have HTx:Hid (∀ w',Mods (fun k=>k=b\/lo<=k) w w'->OpAt w' (bs[x.k]?.getD 0) x.o):=fun w' m=>tab_at (HT.out.mods (HMw.out w' m)) x hxo.k
      have hxs:=hxo.slots
      have hB3:=fun nm w' (h:RBase w lo b bs (.slice oM ms.length cM) (.slice (some ⟨gF,0,none⟩) fs.length cF) ms w.heap.size nm (done++⟨fnm,acc++x::fcode.drop (acc.length+1)⟩::fs.drop (done.length+1)) vs w')=>h
      have HRf:Hid (x.refers=if x.s=1 then x.o.refers else 0):=rfl
      generalize hbx:bs[x.k]?.getD 0=bx at *
      have HRefs:Hid (∀ w' nm,Mods (fun k=>k=b\/lo<=k) w w'->Calls Tryz.prog 54 #[.agg #[.pointer (some ⟨bx,0,none⟩),.int .u8 x.d,.int .u8 x.s,.int .i16 x.jump,.int .i32 x.num,.int .i32 x.high,.string ByteArray.empty,.string (T nm)]] w' fun e w''=>e=.returned (.int .i64 (x.refers:Nat))/\Mods Nil' w' w''):=fun w' nm m=>by
       rw [HRf.out]
       exact refers_any w' bx x.o (HTx.out w' m) x.d x.s x.num x.high x.jump _ _
      have HCells:Hid (∀ (r2:PR) (y:PI) (w':World),RBase w lo b bs (.slice oM ms.length cM) (.slice (some ⟨gF,0,none⟩) fs.length cF) ms w.heap.size r2 (done++⟨fnm,acc++y::fcode.drop (acc.length+1)⟩::fs.drop (done.length+1)) vs w'->(w'.cell? ⟨g,acc.length*8,none⟩=some (.pointer (some ⟨bs[y.k]?.getD 0,0,none⟩))/\w'.cell? ⟨g,acc.length*8+1,none⟩=some (.int .u8 y.d)/\w'.cell? ⟨g,acc.length*8+2,none⟩=some (.int .u8 y.s)/\w'.cell? ⟨g,acc.length*8+3,none⟩=some (.int .i16 y.jump)/\w'.cell? ⟨g,acc.length*8+4,none⟩=some (.int .i32 y.num)/\w'.cell? ⟨g,acc.length*8+5,none⟩=some (.int .i32 y.high)/\w'.cell? ⟨g,acc.length*8+6,none⟩=some (.string ByteArray.empty)/\w'.cell? ⟨g,acc.length*8+7,none⟩=some (.string (T y.name)))/\w'.frozen? ⟨g,acc.length*8+7,none⟩=false):=fun r2 y w' hb=>by
       have hcd:Sl w' 84 8 (.slice (some ⟨g,0,none⟩) fcode.length cC) fcode.length (codeC bs (acc++y::fcode.drop (acc.length+1))):=by
        have:=hb.r.fn.cd done.length (by rw [HFsl.out];exact hlt) hvl
        rw [get_mid,HVn.out] at this
        simp only [List.length_append,List.length_cons,List.length_drop] at this
        rwa [show acc.length+(fcode.length - (acc.length+1)+1)=fcode.length by omega] at this
       obtain ⟨g',e',hg,x0,x1,x2,x3,x4,x5,x6,x7⟩:=code_at hcd (by simp;omega) rfl acc.length (by simp)
       cases e'
       rw [get_mid] at x0 x1 x2 x3 x4 x5 x7;obtain ⟨cs,hbk,_⟩:=hcd.blk
       exact ⟨⟨x0,x1,x2,x3,x4,x5,x6,x7⟩,hbk.frozen _⟩
      clear hcd hxl hB3 hdx;have HXo:=hid hxo;clear hxo
      by_cases hr0:x.refers=0
      ·have HRi3:Hid (refsI ms done.length (sl+x.o.slots) (fcode.drop (acc.length+1)) l' r' (acc++[x])=ri):=by
        have:=HRi2.out
        rw [refsI,if_neg (by simpa using hr0)] at this
        exact this
       have h00:((x.refers:Nat):Int)=0:=by omega
       go_wp2_with fail
       refine (HRefs.out _ _ HB2.out.r.md).mono ?_
       rintro e w3 ⟨rfl,m3⟩
       have HB3:Hid _:=HB2.out.quiet m3
       obtain ⟨⟨p0,_,_,_,_,_,_,_⟩,_⟩:=HCells.out _ _ _ HB3.out
       rw [hbx] at p0
       obtain ⟨p2,_,_,_⟩:=(HTx.out _ HB3.out.r.md).cells
       have HFb3:Hid (Blk w3 wO.heap.size #[.string (T fnm),.slice (some ⟨g,0,none⟩) fcode.length cC] 55):=HFb2.out.mods m3 id
       clear m3 HB2 HFb2 x0 x1 x2 x3 x4 x5 x6 x7 z1;generalize x.o.slots=os at *;go_wp2_with fail
       go_roundg (fcode.length - (acc.length+1))
       case measure=>omega
       case rel=>exact ⟨acc.length+1,sl+os,l',r',acc++[x],by go_num,by go_num,rfl,by omega,rfl,by omega,by omega,by omega,by simp,by have:=HB3.out;rwa [List.append_assoc],HFb3.out,HRi3.out,hrl2⟩
      ·have h00:¬ ((x.refers:Nat):Int)=0:=by omega
       have HRi3:Hid (refsI ms done.length (sl+x.o.slots) (fcode.drop (acc.length+1)) (l' - 1) (wantP (decide (x.refers≠2)||hasMapP ms (refP done.length sl r').1) (wantP (decide (x.num=0)) (refP done.length sl r').2)) (acc++[{ x with name:=(refP done.length sl r').1 }])=ri):=by
        have:=HRi2.out
        rw [refsI,if_pos (by simpa using hr0)] at this
        exact this
       have HRP:Hid (∀ w,PRd w b r'->Calls Tryz.prog 63 #[.pointer (some ⟨b,0,none⟩),.int .i64 done.length,.int .i64 sl] w fun e w'=>e=.returned (.string (T (refP done.length sl r').1))/\PRd w' b (refP done.length sl r').2/\Mods (Only b) w w'):=fun w h=>ref_any b r' done.length sl w h hrl2
       have hrl3:=Nat.le_trans (ref_len done.length sl r') hrl2
       generalize refP done.length sl r'=rp at *;obtain ⟨nm,r3⟩:=rp
       simp only at HRi3 HRP hrl3
       go_wp2_with fail
       refine (HRefs.out _ _ HB2.out.r.md).mono ?_
       rintro e w3 ⟨rfl,m3⟩
       have HB3:Hid _:=HB2.out.quiet m3
       have HFb3:Hid (Blk w3 wO.heap.size #[.string (T fnm),.slice (some ⟨g,0,none⟩) fcode.length cC] 55):=HFb2.out.mods m3 id
       clear m3 HB2 HFb2 x0 x1 x2 x3 x4 x5 x6 x7 z1;go_wp2_with fail
       refine (HRP.out _ HB3.out.r.rd).mono ?_
       rintro e w4 ⟨rfl,h4,m4⟩
       have HB4:Hid (RBase w lo b bs (.slice oM ms.length cM) (.slice (some ⟨gF,0,none⟩) fs.length cF) ms w.heap.size r3 (done++⟨fnm,acc++x::fcode.drop (acc.length+1)⟩::fs.drop (done.length+1)) vs w4):=HB3.out.read h4 m4
       have HFb4:Hid (Blk w4 wO.heap.size #[.string (T fnm),.slice (some ⟨g,0,none⟩) fcode.length cC] 55):=HB3.out.keep HFb3.out m4
       clear m4 h4 HB3 HFb3
       obtain ⟨⟨_,_,_,_,_,_,_,p7⟩,fr7⟩:=HCells.out _ _ _ HB4.out
       have HFi:Hid (done.length<(done++⟨fnm,acc++x::fcode.drop (acc.length+1)⟩::fs.drop (done.length+1)).length):=by rw [Hid,HFsl.out];exact hlt
       have hB5:=HB4.out.name done.length HFi.out hvl HVn.out acc.length (by rw [get_mid];simp) nm
       have HB5:Hid (RBase w lo b bs (.slice oM ms.length cM) (.slice (some ⟨gF,0,none⟩) fs.length cF) ms w.heap.size r3 (done++⟨fnm,acc++{ x with name:=nm }::fcode.drop (acc.length+1)⟩::fs.drop (done.length+1)) vs (w4.setCell ⟨g,acc.length*8+7,none⟩ (.string (T nm)))):=by
        simp only [get_mid,set_mid] at hB5
        simp only [List.append_assoc,List.cons_append,List.nil_append] at hB5
        exact hB5
       have HFb5:Hid (Blk (w4.setCell ⟨g,acc.length*8+7,none⟩ (.string (T nm))) wO.heap.size #[.string (T fnm),.slice (some ⟨g,0,none⟩) fcode.length cC] 55):=HB4.out.keepN HFb4.out done.length HFi.out hvl HVn.out _ _
       clear hB5
       obtain ⟨⟨p0,p1,p2,p3,p4,p5,p6,p7'⟩,_⟩:=HCells.out _ _ _ HB5.out
       simp only at p0 p1 p2 p3 p4 p5 p7'
       rw [hbx] at p0
       have hdn:decide (x.num=0)=(x.num==0):=by rw [Bool.eq_iff_iff];simp
       go_wp2_with fail
       refine (want_any b _ _ _ HB5.out.r.rd).mono ?_
       rintro e w6 ⟨rfl,h6,m6⟩;rw [<- hdn] at h6
       have HB6:Hid (RBase w lo b bs (.slice oM ms.length cM) (.slice (some ⟨gF,0,none⟩) fs.length cF) ms w.heap.size (wantP (decide (x.num=0)) r3) (done++⟨fnm,acc++{ x with name:=nm }::fcode.drop (acc.length+1)⟩::fs.drop (done.length+1)) vs w6):=HB5.out.read h6 m6
       have HFb6:Hid (Blk w6 wO.heap.size #[.string (T fnm),.slice (some ⟨g,0,none⟩) fcode.length cC] 55):=HB5.out.keep HFb5.out m6
       clear h6 m6 HB5 HFb5 p0 p1 p2 p3 p4 p5 p6 p7 p7' fr7 HFb4 HB4
       obtain ⟨⟨p0,p1,p2,p3,p4,p5,p6,p7⟩,_⟩:=HCells.out _ _ _ HB6.out
       simp only at p0 p1 p2 p3 p4 p5 p7
       rw [hbx] at p0
       have HNum:Hid (x.num=x.num):=rfl
       have hrl4:(wantP (decide (x.num=0)) r3).rest.length<=maxLen:=hrl3
       generalize wantP (decide (x.num=0)) r3=r4 at *
       have hps:w6.cell? ⟨w.heap.size,0,none⟩=some (.slice oM ms.length cM):=HB6.out.p.cell 0
       go_wp2_with fail
       obtain ⟨hgb,hg6⟩:g≠b/\g<w6.heap.size:=by
        have:=HB6.out.r.fn.cd done.length (by rw [HFsl.out];exact hlt) hvl
        rw [HVn.out] at this
        exact ⟨fun e=>this.notBlk HB6.out.r.rd (by decide) (congrArg some e),this.lt g rfl⟩
       have hpb:w.heap.size≠b:=fun e=>by
        have h1:=HB6.out.p
        have h2:=HB6.out.r.rd
        unfold PRd at h2;unfold Blk at h1 h2;rw [e,h2] at h1
        cases h1
       have E0:∀ e:Ext (Only b) w6,e.w.cell? ⟨g,acc.length*8,none⟩=some (.pointer (some ⟨bx,0,none⟩)):=fun e=>(e.same hg6 hgb _).trans p0
       have E1:∀ e:Ext (Only b) w6,e.w.cell? ⟨g,acc.length*8+1,none⟩=some (.int .u8 x.d):=fun e=>(e.same hg6 hgb _).trans p1
       have E2:∀ e:Ext (Only b) w6,e.w.cell? ⟨g,acc.length*8+2,none⟩=some (.int .u8 x.s):=fun e=>(e.same hg6 hgb _).trans p2
       have E3:∀ e:Ext (Only b) w6,e.w.cell? ⟨g,acc.length*8+3,none⟩=some (.int .i16 x.jump):=fun e=>(e.same hg6 hgb _).trans p3
       have E4:∀ e:Ext (Only b) w6,e.w.cell? ⟨g,acc.length*8+4,none⟩=some (.int .i32 x.num):=fun e=>(e.same hg6 hgb _).trans p4
       have E5:∀ e:Ext (Only b) w6,e.w.cell? ⟨g,acc.length*8+5,none⟩=some (.int .i32 x.high):=fun e=>(e.same hg6 hgb _).trans p5
       have E6:∀ e:Ext (Only b) w6,e.w.cell? ⟨g,acc.length*8+6,none⟩=some (.string ByteArray.empty):=fun e=>(e.same hg6 hgb _).trans p6
       have E7:∀ e:Ext (Only b) w6,e.w.cell? ⟨g,acc.length*8+7,none⟩=some (.string (T nm)):=fun e=>(e.same hg6 hgb _).trans p7
       have Ep:∀ e:Ext (Only b) w6,e.w.cell? ⟨w.heap.size,0,none⟩=some (.slice oM ms.length cM):=fun e=>(e.same HB6.out.p.lt hpb _).trans hps
       have ne2:=Ext.ne (Only b) w6
       have HOs:Hid (∀ w',Mods (fun k=>k=b\/lo<=k) w w'->w'.cell? ⟨bx,2,none⟩=some (.int .i64 x.o.slots)):=fun w' m=>(HTx.out w' m).cells.1
       have HIB:Hid (RBase w lo b bs (.slice oM ms.length cM) (.slice (some ⟨gF,0,none⟩) fs.length cF) ms w.heap.size r4 (done++⟨fnm,acc++{ x with name:=nm }::fcode.drop (acc.length+1)⟩::fs.drop (done.length+1)) vs w6.drew):=HB6.out.quiet (Mods.refl _ _).drew
       have HFbd:Hid (Blk w6.drew wO.heap.size #[.string (T fnm),.slice (some ⟨g,0,none⟩) fcode.length cC] 55):=HFb6.out.mods (Mods.refl Nil' _).drew id
       clear p0 p1 p2 p3 p4 p5 p6 p7 hps HTx hpb
       have HC0:Hid (∀ w',RBase w lo b bs (.slice oM ms.length cM) (.slice (some ⟨gF,0,none⟩) fs.length cF) ms w.heap.size (wantP (decide (x.refers≠2)||hasMapP ms nm) r4) (done++⟨fnm,acc++{ x with name:=nm }::fcode.drop (acc.length+1)⟩::fs.drop (done.length+1)) vs w'->w'.cell? ⟨g,acc.length*8,none⟩=some (.pointer (some ⟨bx,0,none⟩))):=fun w' hb=>by
        have:=(HCells.out _ _ _ hb).1.1
        simp only at this
        rwa [hbx] at this
       clear HRf;generalize x.refers=rf at *;generalize x.o.slots=os at *
       generalize hmb:hasMapP ms nm=mb at *
       have HMb:=hid hmb;clear hmb
       by_cases hr2:rf=2
       ·subst hr2
        have HRi4:Hid _:=HRi3.out
        simp only [Int.cast_ofNat_Int] at HRefs
        refine wp_region_mix [4,6,13,15] (fun w'=>∃ e:Ext (Only b) w6,w'=e.w) (by kernel_rfl) (by kernel_rfl) (by kernel_rfl) ⟨⟨_,(Mods.refl _ _).drew⟩,rfl⟩ ?_
        iterate 2 (refine mix_pure rfl rfl rfl ?_;intro K hK;go_big_quiet_op;go_big_quiet_on)
        refine mix_nilCheck rfl rfl _ ⟨g,acc.length*8,none⟩ rfl rfl ?_
        simp only [Act.put,List.setIfInBounds_toArray,List.set_cons_succ,List.set_cons_zero]
        iterate 1 (refine mix_pure rfl rfl rfl ?_;intro K hK;go_big_quiet_op;go_big_quiet_on)
        refine mix_act rfl rfl ?_
        intro K hK
        go_big_op
        refine (HRefs.out _ _ HIB.out.r.md).mono ?_
        rintro e w7 ⟨rfl,m7⟩
        have HB7:Hid (RBase w lo b bs (.slice oM ms.length cM) (.slice (some ⟨gF,0,none⟩) fs.length cF) ms w.heap.size r4 (done++⟨fnm,acc++{ x with name:=nm }::fcode.drop (acc.length+1)⟩::fs.drop (done.length+1)) vs w7):=HIB.out.quiet m7
        have HFb7:Hid (Blk w7 wO.heap.size #[.string (T fnm),.slice (some ⟨g,0,none⟩) fcode.length cC] 55):=HFbd.out.mods m7 id
        have X7:Hid (Mods (Only b) w6 w7):=((Mods.refl _ _).drew).trans m7.of_nil
        refine hK _ _ rfl ⟨⟨_,X7.out⟩,rfl⟩ ?_
        clear hK K m7
        iterate 1 (refine mix_pure rfl rfl rfl ?_;intro K hK;go_big_quiet_op;go_big_quiet_on)
        refine mix_act rfl rfl ?_
        intro K hK
        go_big_op
        refine hK _ _ rfl ⟨⟨_,X7.out⟩,rfl⟩ ?_
        clear hK K
        iterate 3 (refine mix_pureG rfl rfl rfl ?_;intro K hK;go_big_quiet_op;go_big_quiet_on)
        refine mix_nilCheckG rfl rfl _ ⟨g,acc.length*8,none⟩ rfl rfl ?_
        simp only [Act.put,List.setIfInBounds_toArray,List.set_cons_succ,List.set_cons_zero]
        iterate 2 (refine mix_pureG rfl rfl rfl ?_;intro K hK;go_big_quiet_op;go_big_quiet_on)
        refine mix_actG rfl rfl ?_
        intro K hK
        go_big_op
        refine (hasMap_any _ ms hms _ HB7.out.m nm).mono ?_
        rintro e w8 ⟨rfl,m8⟩;rw [HMb.out]
        have HB8:Hid (RBase w lo b bs (.slice oM ms.length cM) (.slice (some ⟨gF,0,none⟩) fs.length cF) ms w.heap.size r4 (done++⟨fnm,acc++{ x with name:=nm }::fcode.drop (acc.length+1)⟩::fs.drop (done.length+1)) vs w8):=HB7.out.quiet m8
        have HFb8:Hid (Blk w8 wO.heap.size #[.string (T fnm),.slice (some ⟨g,0,none⟩) fcode.length cC] 55):=HFb7.out.mods m8 id
        have X8:Hid (Mods (Only b) w6 w8):=X7.out.trans m8.of_nil
        have HCond:Hid ((decide (2≠2)||mb)=mb):=by simp [Hid]
        refine hK _ _ rfl ⟨⟨_,X8.out⟩,rfl⟩ ?_
        clear hK K m8
        refine mix_pick rfl rfl _ _ _ _ rfl rfl ?_
        simp only [Act.put,List.setIfInBounds_toArray,List.set_cons_succ,List.set_cons_zero,Bool.false_eq_true,if_false]
        refine mix_act rfl rfl ?_
        intro K hK
        go_big_op
        refine (want_any b _ _ _ HB8.out.r.rd).mono ?_
        rintro e w9 ⟨rfl,h9,m9⟩
        have HB9:Hid (RBase w lo b bs (.slice oM ms.length cM) (.slice (some ⟨gF,0,none⟩) fs.length cF) ms w.heap.size (wantP (decide (2≠2)||mb) r4) (done++⟨fnm,acc++{ x with name:=nm }::fcode.drop (acc.length+1)⟩::fs.drop (done.length+1)) vs w9):=by
         rw [Hid,HCond.out];exact HB8.out.read h9 m9
        have HFb9:Hid (Blk w9 wO.heap.size #[.string (T fnm),.slice (some ⟨g,0,none⟩) fcode.length cC] 55):=HB8.out.keep HFb8.out m9
        refine hK _ _ rfl ⟨⟨_,X8.out.trans m9⟩,rfl⟩ ?_
        clear hK K m9 h9
        refine mix_nil ?_
        simp only [Exit.then]
        have hC0:=HC0.out _ HB9.out
        have hC2:=HOs.out _ HB9.out.r.md
        clear HC0 HOs HRefs E0 E1 E2 E3 E4 E5 E6 E7 Ep HCells HIB HFbd HB6 HFb6;go_wp2_with fail
        go_roundg (fcode.length - (acc.length+1))
        case measure=>omega
        case rel=>exact ⟨acc.length+1,sl+os,l' - 1,wantP (decide (2≠2)||mb) r4,acc++[{ x with name:=nm }],by go_num,by go_num,by go_num,by omega,rfl,by omega,by omega,by omega,by simp,by have:=HB9.out;rwa [List.append_assoc],HFb9.out,HRi3.out,hrl4⟩
       ·have hr3:((rf:Int)==2)=false:=by simp;omega
        have hr4:((rf:Int) != 2)=true:=by simp;omega
        refine wp_region_mix [4,6,13,15] (fun w'=>∃ e:Ext (Only b) w6,w'=e.w) (by kernel_rfl) (by kernel_rfl) (by kernel_rfl) ⟨⟨_,(Mods.refl _ _).drew⟩,rfl⟩ ?_
        iterate 2 (refine mix_pure rfl rfl rfl ?_;intro K hK;go_big_quiet_op;go_big_quiet_on)
        refine mix_nilCheck rfl rfl _ ⟨g,acc.length*8,none⟩ rfl rfl ?_
        simp only [Act.put,List.setIfInBounds_toArray,List.set_cons_succ,List.set_cons_zero]
        iterate 1 (refine mix_pure rfl rfl rfl ?_;intro K hK;go_big_quiet_op;go_big_quiet_on)
        refine mix_act rfl rfl ?_
        intro K hK
        go_big_op
        refine (HRefs.out _ _ HIB.out.r.md).mono ?_
        rintro e w7 ⟨rfl,m7⟩
        have HB7:Hid (RBase w lo b bs (.slice oM ms.length cM) (.slice (some ⟨gF,0,none⟩) fs.length cF) ms w.heap.size r4 (done++⟨fnm,acc++{ x with name:=nm }::fcode.drop (acc.length+1)⟩::fs.drop (done.length+1)) vs w7):=HIB.out.quiet m7
        have HFb7:Hid (Blk w7 wO.heap.size #[.string (T fnm),.slice (some ⟨g,0,none⟩) fcode.length cC] 55):=HFbd.out.mods m7 id
        have X7:Hid (Mods (Only b) w6 w7):=((Mods.refl _ _).drew).trans m7.of_nil
        refine hK _ _ rfl ⟨⟨_,X7.out⟩,rfl⟩ ?_
        clear hK K m7
        iterate 1 (refine mix_pure rfl rfl rfl ?_;intro K hK;go_big_quiet_op;go_big_quiet_on)
        refine mix_act rfl rfl ?_
        intro K hK
        go_big_op
        refine hK _ _ rfl ⟨⟨_,X7.out⟩,rfl⟩ ?_
        clear hK K
        iterate 7 (refine mix_skip rfl ?_;simp only [Act.put,List.setIfInBounds_toArray,List.set_cons_succ,List.set_cons_zero])
        refine mix_pick rfl rfl _ _ _ _ rfl rfl ?_
        simp only [Act.put,List.setIfInBounds_toArray,List.set_cons_succ,List.set_cons_zero,if_true]
        refine mix_act rfl rfl ?_
        intro K hK
        have HCond:Hid ((decide (rf≠2)||mb)=true):=by simp [Hid,hr2]
        go_big_op
        refine (want_any b _ _ _ HB7.out.r.rd).mono ?_
        rintro e w9 ⟨rfl,h9,m9⟩
        have HB9:Hid (RBase w lo b bs (.slice oM ms.length cM) (.slice (some ⟨gF,0,none⟩) fs.length cF) ms w.heap.size (wantP (decide (rf≠2)||mb) r4) (done++⟨fnm,acc++{ x with name:=nm }::fcode.drop (acc.length+1)⟩::fs.drop (done.length+1)) vs w9):=by
         rw [Hid,HCond.out];exact HB7.out.read h9 m9
        have HFb9:Hid (Blk w9 wO.heap.size #[.string (T fnm),.slice (some ⟨g,0,none⟩) fcode.length cC] 55):=HB7.out.keep HFb7.out m9
        refine hK _ _ rfl ⟨⟨_,X7.out.trans m9⟩,rfl⟩ ?_
        clear hK K m9 h9
        refine mix_nil ?_
        simp only [Exit.then]
        have hC0:=HC0.out _ HB9.out
        have hC2:=HOs.out _ HB9.out.r.md
        clear HC0 HOs HRefs E0 E1 E2 E3 E4 E5 E6 E7 Ep HCells HIB HFbd HB6 HFb6;go_wp2_with fail
        go_roundg (fcode.length - (acc.length+1))
        case measure=>omega
        case rel=>exact ⟨acc.length+1,sl+os,l' - 1,wantP (decide (rf≠2)||mb) r4,acc++[{ x with name:=nm }],by go_num,by go_num,by go_num,by omega,rfl,by omega,by omega,by omega,by simp,by have:=HB9.out;rwa [List.append_assoc],HFb9.out,HRi3.out,hrl4⟩
     ·obtain rfl:k=fcode.length:=by omega
      have HE3:Hid (ri=(acc,l',r')):=by rw [Hid,<- HRi2.out,List.drop_length];rfl
      have HB3:Hid (RBase w lo b bs (.slice oM ms.length cM) (.slice (some ⟨gF,0,none⟩) fs.length cF) ms w.heap.size r' ((done++[⟨fnm,acc⟩])++fs.drop (done.length+1)) vs wr):=by
       have:=HB2.out
       rw [List.drop_length,List.append_nil] at this;rw [Hid,List.append_assoc];exact this
      rw [HE3.out] at HE1
      simp only at HE1
      clear HE3 HRi2 HB2;go_wp2_with fail
      go_roundg (fs.length - (done.length+1))
      case measure=>omega
      case rel=>exact ⟨done.length+1,l',r',done++[⟨fnm,acc⟩],by go_num,rfl,by omega,rfl,by omega,by omega,by simp,HB3.out,HE1.out,hrl2⟩
   ·obtain rfl:n=fs.length:=by omega
    have HE2:Hid (res=(done,l,r)):=by rw [Hid,<- HE.out,List.drop_length];rfl
    have HB2:Hid (RBase w lo b bs (.slice oM ms.length cM) (.slice oF fs.length cF) ms w.heap.size r done vs wr):=by have:=HB.out;rwa [List.drop_length,List.append_nil] at this
    go_wp2_with fail;go_meet
    exact ⟨l,r,done,rfl,by omega,by omega,HB2.out,HE2.out⟩
 case rest =>
 obtain ⟨l,r,done,rfl,hl3,hl4,hB,rfl⟩:=hcut
 have HB:Hid _:=hB
 clear hB HB1 c1 HRes
 have hd:decide (l=0)=(l==0):=by rw [Bool.eq_iff_iff];simp
 go_wp2_with fail
 refine (want_any b _ _ _ HB.out.r.rd).mono ?_
 rintro e w4 ⟨rfl,h4,m4⟩
 have HB4:Hid _:=HB.out.read h4 m4
 clear h4 m4;go_wp2_with fail
 go_end0
 exact ⟨rfl,HB4.out.r⟩
end Go.Proofs.YtnhcaifopaeohaaGreatDoor
