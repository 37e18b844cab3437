import Derived.Test.YtnhcaifopaeohaaGreatDoorM31
import Derived.Test.YtnhcaifopaeohaaGreatDoorM22
import Derived.Lib.ItoaMem
import Derived.Test.YtnhcaifopaeohaaGreatDoorM45
namespace Go.Proofs.YtnhcaifopaeohaaGreatDoor
open Go.RowKit
set_option linter.all false
def numP (mn fn:List ByteArray) (x:PI):Int:=if x.refers=1 then placeM (T x.name) fn else if x.refers=2 then placeM (T x.name) mn else x.num
def PI.linked (mn fn:List ByteArray) (x:PI):PI:={ x with num:=numP mn fn x }
def PFn.linked (mn fn:List ByteArray) (f:PFn):PFn:=⟨f.name,f.code.map (PI.linked mn fn)⟩
theorem set_take {α:Type} (f:α->α) (l:List α) (j:Nat) (h:j<l.length) (y:α) (hy:y=f l[j]):((l.take j).map f++l.drop j).set j y=(l.take (j+1)).map f++l.drop (j+1):=by
 have e:j=((l.take j).map f).length:=by simp;omega
 rw [List.set_append_right _ _ (by rw [<- e];exact Nat.le_refl _),<- e,Nat.sub_self,List.drop_eq_getElem_cons h,List.set_cons_zero,List.take_add_one,List.map_append,List.append_assoc]
 simp [h,hy]
def lnk (mn fn:List ByteArray) (fs:List PFn) (i:Nat):List PFn:=(fs.take i).map (PFn.linked mn fn)++fs.drop i
def lnkC (mn fn:List ByteArray) (code:List PI) (j:Nat):List PI:=(code.take j).map (PI.linked mn fn)++code.drop j
theorem lnkC_len (mn fn:List ByteArray) (code:List PI) (j:Nat) (h:j<=code.length):(lnkC mn fn code j).length=code.length:=by
 simp [lnkC];omega
theorem lnkC_at (mn fn:List ByteArray) (code:List PI) (j:Nat) (h:j<code.length):(lnkC mn fn code j)[j]'(by rw [lnkC_len _ _ _ _ (by omega)];exact h)=code[j]:=by
 unfold lnkC
 rw [List.getElem_append_right (by simp;omega)]
 simp [Nat.min_eq_left (Nat.le_of_lt h)]
theorem lnkC_set (mn fn:List ByteArray) (code:List PI) (j:Nat) (h:j<code.length):(lnkC mn fn code j).set j (PI.linked mn fn code[j])=lnkC mn fn code (j+1):=set_take _ code j h _ rfl
theorem lnkC_all (mn fn:List ByteArray) (code:List PI):lnkC mn fn code code.length=code.map (PI.linked mn fn):=by simp [lnkC]
theorem lnk_len (mn fn:List ByteArray) (fs:List PFn) (i:Nat) (h:i<=fs.length):(lnk mn fn fs i).length=fs.length:=by
 simp [lnk];omega
theorem lnk_at (mn fn:List ByteArray) (fs:List PFn) (i:Nat) (h:i<fs.length):(lnk mn fn fs i)[i]'(by rw [lnk_len _ _ _ _ (by omega)];exact h)=fs[i]:=by
 unfold lnk
 rw [List.getElem_append_right (by simp;omega)]
 simp [Nat.min_eq_left (Nat.le_of_lt h)]
theorem lnk_set (mn fn:List ByteArray) (fs:List PFn) (i:Nat) (h:i<fs.length):(lnk mn fn fs i).set i (PFn.linked mn fn fs[i])=lnk mn fn fs (i+1):=set_take _ fs i h _ rfl
theorem lnk_all (mn fn:List ByteArray) (fs:List PFn):lnk mn fn fs fs.length=fs.map (PFn.linked mn fn):=by simp [lnk]
def fAt (fs:List PFn) (i:Nat):PFn:=fs[i]?.getD ⟨[],[]⟩
theorem fAt_eq (fs:List PFn) (i:Nat) (h:i<fs.length):fAt fs i=fs[i]:=by simp [fAt,h]
def lnkS (mn fn:List ByteArray) (fs:List PFn) (i j:Nat):List PFn:=(lnk mn fn fs i).set i ⟨(fAt fs i).name,lnkC mn fn (fAt fs i).code j⟩
theorem lnkS_len (mn fn:List ByteArray) (fs:List PFn) (i j:Nat) (h:i<=fs.length):(lnkS mn fn fs i j).length=fs.length:=by
 rw [lnkS,List.length_set,lnk_len _ _ _ _ h]
theorem lnkS_get (mn fn:List ByteArray) (fs:List PFn) (i j:Nat) (_h:i<fs.length) (h2:i<(lnkS mn fn fs i j).length):(lnkS mn fn fs i j)[i]=⟨(fAt fs i).name,lnkC mn fn (fAt fs i).code j⟩:=by
 simp only [lnkS,List.getElem_set_self]
theorem lnkS_zero (mn fn:List ByteArray) (fs:List PFn) (i:Nat) (h:i<fs.length):lnkS mn fn fs i 0=lnk mn fn fs i:=by
 have e:(⟨(fAt fs i).name,lnkC mn fn (fAt fs i).code 0⟩:PFn)=(lnk mn fn fs i)[i]'(by rw [lnk_len _ _ _ _ (by omega)];exact h):=by
  rw [lnk_at _ _ _ _ h,fAt_eq _ _ h];simp [lnkC]
 rw [lnkS,e,List.set_getElem_self]
theorem lnkS_end (mn fn:List ByteArray) (fs:List PFn) (i:Nat) (h:i<fs.length):lnkS mn fn fs i (fAt fs i).code.length=lnk mn fn fs (i+1):=by
 rw [lnkS,lnkC_all,fAt_eq _ _ h,<- lnk_set _ _ _ _ h];rfl
theorem lnk_names (mn fn:List ByteArray) (fs:List PFn) (i:Nat):(lnk mn fn fs i).map (·.name)=fs.map (·.name):=by
 unfold lnk;rw [List.map_append,List.map_map]
 have:((fun x:PFn=>x.name) ∘ PFn.linked mn fn)=(fun x=>x.name):=rfl
 rw [this,<- List.map_append,List.take_append_drop]
theorem lnkS_names (mn fn:List ByteArray) (fs:List PFn) (i j:Nat) (h:i<fs.length):(lnkS mn fn fs i j).map (·.name)=fs.map (·.name):=by
 rw [lnkS,List.map_set,lnk_names]
 have e:(fAt fs i).name=(fs.map (·.name))[i]'(by simpa using h):=by rw [fAt_eq _ _ h,List.getElem_map]
 rw [e,List.set_getElem_self]
theorem PPw.lnkNum {wT w:World} {bs:List Nat} {vM vF:Value} {ms:List PMap} {mn fn:List ByteArray} {fs:List PFn} {vs:List Value} {i j:Nat} (h:PPw wT w bs vM vF ms (lnkS mn fn fs i j) vs) (hi:i<fs.length) (hv:i<vs.length) {g n c:Nat} (he:vs[i]=.slice (some ⟨g,0,none⟩) n c)
  (hj:j<(fAt fs i).code.length) (z:Int) (hz:numP mn fn (fAt fs i).code[j]=z):PPw wT (w.setCell ⟨g,j*8+4,none⟩ (.int .i32 z)) bs vM vF ms (lnkS mn fn fs i (j+1)) vs:=by
 have hi2:i<(lnkS mn fn fs i j).length:=by rw [lnkS_len _ _ _ _ _ (by omega)];exact hi
 have hg:=lnkS_get mn fn fs i j hi hi2
 have hj2:j<(lnkS mn fn fs i j)[i].code.length:=by rw [hg];show j<(lnkC mn fn (fAt fs i).code j).length;rw [lnkC_len _ _ _ _ (by omega)];exact hj
 have key:=h.num i hi2 hv he j hj2 z
 have e:(lnkS mn fn fs i j).set i ⟨(lnkS mn fn fs i j)[i].name,(lnkS mn fn fs i j)[i].code.set j { (lnkS mn fn fs i j)[i].code[j] with num:=z }⟩=lnkS mn fn fs i (j+1):=by
  have e2:(⟨(lnkS mn fn fs i j)[i].name,(lnkS mn fn fs i j)[i].code.set j { (lnkS mn fn fs i j)[i].code[j] with num:=z }⟩:PFn)=⟨(fAt fs i).name,lnkC mn fn (fAt fs i).code (j+1)⟩:=by
   have e3:(lnkS mn fn fs i j)[i].code[j]=(fAt fs i).code[j]:=by
    have:∀ (l:List PI) (hl:j<l.length),l=lnkC mn fn (fAt fs i).code j->l[j]=(fAt fs i).code[j]:=fun l hl e=>by
     subst e;exact lnkC_at mn fn _ j hj
    exact this _ hj2 (by rw [hg])
   rw [e3]
   have e4:({ (fAt fs i).code[j] with num:=z }:PI)=PI.linked mn fn (fAt fs i).code[j]:=by
    unfold PI.linked;rw [hz]
   rw [e4,hg]
   exact congrArg (PFn.mk _) (lnkC_set mn fn _ j hj)
  rw [e2];unfold lnkS;rw [List.set_set]
 rwa [e] at key
theorem lnkS_same (mn fn:List ByteArray) (fs:List PFn) (i j:Nat) (hj:j<(fAt fs i).code.length) (hz:numP mn fn (fAt fs i).code[j]=(fAt fs i).code[j].num):lnkS mn fn fs i (j+1)=lnkS mn fn fs i j:=by
 have e4:PI.linked mn fn (fAt fs i).code[j]=(lnkC mn fn (fAt fs i).code j)[j]'(by rw [lnkC_len _ _ _ _ (by omega)];exact hj):=by
  rw [lnkC_at mn fn _ j hj]
  unfold PI.linked;rw [hz]
 unfold lnkS;rw [<- lnkC_set mn fn _ j hj,e4,List.set_getElem_self]
theorem PPw.codeL {wT w:World} {bs:List Nat} {vM vF:Value} {ms:List PMap} {mn fn:List ByteArray} {fs:List PFn} {vs:List Value} {i j:Nat} (h:PPw wT w bs vM vF ms (lnkS mn fn fs i j) vs) (hi:i<fs.length) (hv:i<vs.length) (hj:j<=(fAt fs i).code.length) :
  Sl w 84 8 vs[i] (fAt fs i).code.length (codeC bs (lnkC mn fn (fAt fs i).code j)):=by
 have hi2:i<(lnkS mn fn fs i j).length:=by rw [lnkS_len _ _ _ _ _ (by omega)];exact hi
 have:=h.code i hi2 hv
 rw [lnkS_get mn fn fs i j hi hi2] at this
 have e:(⟨(fAt fs i).name,lnkC mn fn (fAt fs i).code j⟩:PFn).code.length=(fAt fs i).code.length:=lnkC_len mn fn _ j hj
 rw [e] at this;exact this
theorem PPw.slices {wT w:World} {bs:List Nat} {vM vF:Value} {ms:List PMap} {fs:List PFn} {vs:List Value} (h:PPw wT w bs vM vF ms fs vs):∀ x∈(fs.map (·.name)).zip vs,∃ o n c,x.2=.slice o n c:=by
 intro x hx;obtain ⟨i,hi,rfl⟩:=List.getElem_of_mem hx;rw [List.length_zip,List.length_map] at hi
 obtain ⟨o,c,e,_⟩:=(h.code i (by omega) (by omega)).view
 rw [List.getElem_zip]
 exact ⟨o,_,c,e⟩
theorem zip_names {vs:List Value} (names:List (List UInt8)) (h:vs.length=names.length):(names.zip vs).map (fun x=>T x.1)=names.map T:=by
 rw [show (fun x:List UInt8 × Value=>T x.1)=T ∘ Prod.fst from rfl,<- List.map_map,List.map_fst_zip (by omega)]
theorem PPw.fnum {wT w:World} {bs:List Nat} {vM vF:Value} {ms:List PMap} {fs:List PFn} {vs:List Value} (h:PPw wT w bs vM vF ms fs vs) (hl:fs.length<=1000) (nm:ByteArray) :
  Calls Tryz.prog 55 #[.agg #[vM,vF],.string nm] w fun e w'=>e=.returned (.int .i64 (placeM nm ((fs.map (·.name)).map T)))/\Mods Nil' w w':=by
 obtain ⟨oM,cM,hM,_⟩:=h.maps.view
 have hz:((fs.map (·.name)).zip vs).length=fs.length:=by rw [List.length_zip,List.length_map,h.len,Nat.min_self]
 have:=fnum_any w nm ((fs.map (·.name)).zip vs) h.slices vM vF oM ms.length cM hM (by rw [hz];exact h.rows) (by rw [hz];exact hl)
 rwa [zip_names _ (by rw [List.length_map];exact h.len)] at this
theorem PPw.mnum {wT w:World} {bs:List Nat} {vM vF:Value} {ms:List PMap} {fs:List PFn} {vs:List Value} (h:PPw wT w bs vM vF ms fs vs) (hl:ms.length<=1000) (nm:ByteArray) :
  Calls Tryz.prog 56 #[.agg #[vM,vF],.string nm] w fun e w'=>e=.returned (.int .i64 (placeM nm (ms.map (fun x=>T x.name))))/\Mods Nil' w w':=by
 obtain ⟨oF,cF,hF,_⟩:=h.rows.view;exact mnum_any w nm ms vM vF oF _ cF hF h.maps hl
theorem lnkC_cells {w:World} {bs:List Nat} {mn fn:List ByteArray} {code:List PI} {v:Value} {j:Nat} (h:Sl w 84 8 v code.length (codeC bs (lnkC mn fn code j))) {o:Option Addr} {c:Nat} (hv:v=.slice o code.length c) (hj:j<code.length) :
  ∃ g,o=some ⟨g,0,none⟩/\w.cell? ⟨g,j*8,none⟩=some (.pointer (some ⟨bs[code[j].k]?.getD 0,0,none⟩))/\w.cell? ⟨g,j*8+1,none⟩=some (.int .u8 code[j].d)/\w.cell? ⟨g,j*8+2,none⟩=some (.int .u8 code[j].s) /\
   w.cell? ⟨g,j*8+3,none⟩=some (.int .i16 code[j].jump)/\w.cell? ⟨g,j*8+4,none⟩=some (.int .i32 code[j].num)/\w.cell? ⟨g,j*8+5,none⟩=some (.int .i32 code[j].high)/\w.cell? ⟨g,j*8+6,none⟩=some (.string ByteArray.empty)/\w.cell? ⟨g,j*8+7,none⟩=some (.string (T code[j].name))/\w.frozen? ⟨g,j*8+4,none⟩=false:=by
 have hlen:=lnkC_len mn fn code j (by omega)
 have hj2:j<(lnkC mn fn code j).length:=by omega
 obtain ⟨g,rfl,hg,y0,y1,y2,y3,y4,y5,y6,y7⟩:=code_at h hlen.symm hv j hj2
 have e:(lnkC mn fn code j)[j]=code[j]:=lnkC_at mn fn code j hj
 rw [e] at y0 y1 y2 y3 y4 y5 y7;obtain ⟨o',c',hv',h2⟩:=h.view;rw [hv] at hv'
 cases hv'
 obtain ⟨g',cs,e2,hb,_⟩:=h2 (by omega)
 cases e2
 exact ⟨g,rfl,y0,y1,y2,y3,y4,y5,y6,y7,hb.frozen _⟩
structure Bx (w:World) (B X:Nat) (cs cX:Array Value):Prop where
 b:Blk w B cs 37
 x:Blk w X cX 37
theorem Bx.cell {w:World} {B X:Nat} {cs cX:Array Value} (h:Bx w B X cs cX) (i:Nat):w.cell? ⟨B,i,none⟩=cs[i]?:=h.b.cell i
theorem Bx.alloc {w:World} {B X:Nat} {cs cX:Array Value} (h:Bx w B X cs cX) (o:Obj):Bx (w.alloc o) B X cs cX:=⟨h.b.alloc o,h.x.alloc o⟩
theorem Bx.mods {w w':World} {B X:Nat} {cs cX:Array Value} (h:Bx w B X cs cX) (m:Mods Nil' w w') (_:¬ Nil' B):Bx w' B X cs cX:=⟨h.b.mods m id,h.x.mods m id⟩
theorem Bx.setOther {w:World} {B X:Nat} {cs cX:Array Value} (h:Bx w B X cs cX) {a:Addr} (h1:a.block≠B) (h2:a.block≠X) (v:Value):Bx (w.setCell a v) B X cs cX:=⟨h.b.setOther h1 v,h.x.setOther h2 v⟩
set_option maxRecDepth 100000 in
set_option maxHeartbeats 2000000 in
theorem refer_any (wT w:World) (tv:Value) (bs:List Nat) (hT:OpsIn 0 wT tv bs tableS) (vM vF:Value) (ms:List PMap) (fs:List PFn) (vs:List Value) (hP:PPw wT w bs vM vF ms fs vs) (hm:ms.length<=1000) (hf:fs.length<=1000) (hok:∀ f∈fs,f.code.length<=1000/\∀ x∈f.code,PIok x)
  (mn fn:List ByteArray) (hmn:mn=ms.map (fun x=>T x.name)) (hfn:fn=(fs.map (·.name)).map T) (X:Nat) (cX:Array Value) (hX:Blk w X cX 37) :
  Calls Tryz.prog 28 #[.agg #[vM,vF]] w fun e w'=>e=.returned (.tuple #[])/\PPw wT w' bs vM vF ms (fs.map (PFn.linked mn fn)) vs/\Blk w' X cX 37:=by
 obtain ⟨oM,cM,hvM,_⟩:=hP.maps.view;obtain ⟨oF,cF,hvF,_⟩:=hP.rows.view;subst hvM hvF;have HT:=hid hT;have HOK:=hid hok
 have HP0:Hid (PPw wT (w.alloc (.cells #[.slice oM ms.length cM,.slice oF fs.length cF] 37)) bs (.slice oM ms.length cM) (.slice oF fs.length cF) ms (lnk mn fn fs 0) vs):=by
  have e:lnk mn fn fs 0=fs:=by simp [lnk]
  rw [e]
  exact hP.quiet ((Mods.refl _ _).alloc _)
 have HB0:Hid (Bx (w.alloc (.cells #[.slice oM ms.length cM,.slice oF fs.length cF] 37)) w.heap.size X #[.slice oM ms.length cM,.slice oF fs.length cF] cX):=⟨Blk.new _ _ _,hX.alloc _⟩
 have hvl:vs.length=fs.length:=hP.len
 have HVL:=hid hvl;have HFN:=hid hfn;have HMN:=hid hmn;clear hP hT hok hmn hfn hvl hX
 go_enter Tryz.func28,Tryz.ntmps28
 go_wp2_with fail;generalize w.alloc (.cells #[.slice oM ms.length cM,.slice oF fs.length cF] 37)=wB at *;generalize w.heap.size=B at *
 go_loopg [9] fs.length (fun g iv wx=>∃ i:Nat,iv=.int .i64 i/\PPw wT wx bs (.slice oM ms.length cM) (.slice oF fs.length cF) ms (lnk mn fn fs i) vs/\Bx wx B X #[.slice oM ms.length cM,.slice oF fs.length cF] cX/\i<=fs.length/\g=fs.length - i)
 case atStart=>exact ⟨0,rfl,HP0.out,HB0.out,Nat.zero_le _,rfl⟩
 case round =>
  obtain ⟨i,rfl,hpw,hbw,hil,rfl⟩:=hrel;have HPr:=hid hpw;have HBr:=hid hbw;clear hpw hbw HP0 HB0
  by_cases hi:i<fs.length
  ·have hiv:i<vs.length:=by rw [HVL.out];exact hi
   have HP1:Hid (PPw wT wr bs (.slice oM ms.length cM) (.slice oF fs.length cF) ms (lnkS mn fn fs i 0) vs):=by
    rw [Hid,lnkS_zero mn fn fs i hi];exact HPr.out
   have hcd:=HP1.out.codeL hi hiv (Nat.zero_le _)
   obtain ⟨oC,cC,hvi,_⟩:=hcd.view
   have hfl:(lnk mn fn fs i).length=fs.length:=lnk_len mn fn fs i hil
   obtain ⟨gF,hoF,c0,c1⟩:∃ gF,oF=some ⟨gF,0,none⟩/\wr.cell? ⟨gF,i*2,none⟩=some (.string (T fs[i].name))/\wr.cell? ⟨gF,i*2+1,none⟩=some vs[i]:=by
    have hr:=HPr.out.ppr HT.out
    have:=PPr.atF (oF:=oF) (cF:=cF) (by rw [hfl];exact hr) i (by rw [hfl];exact hi) hiv
    rwa [lnk_at mn fn fs i hi] at this
   subst hoF;rw [hvi] at c1;have HVI:=hid hvi
   have HOKi:Hid ((fAt fs i).code.length<=1000/\∀ x∈(fAt fs i).code,PIok x):=by
    rw [Hid,fAt_eq _ _ hi];exact HOK.out fs[i] (List.getElem_mem hi)
   have hcl:=HOKi.out.1
   have HEND:Hid (lnkS mn fn fs i (fAt fs i).code.length=lnk mn fn fs (i+1)):=lnkS_end mn fn fs i hi
   clear hcd hvi hfl HPr;generalize T fs[i].name=nm at *
   obtain ⟨cl,hcll⟩:∃ cl,cl=(fAt fs i).code.length:=⟨_,rfl⟩
   have HCL:=hid hcll;rw [<- hcll] at c1 hcl;clear hcll;go_wp2_with fail
   have HF2:Hid (Blk (wr.alloc (.cells #[.string nm,.slice oC cl cC] 55)) wr.heap.size #[.string nm,.slice oC cl cC] 55):=Blk.new _ _ _
   have HB2:Hid (Bx (wr.alloc (.cells #[.string nm,.slice oC cl cC] 55)) B X #[.slice oM ms.length cM,.slice (some ⟨gF,0,none⟩) fs.length cF] cX):=HBr.out.alloc _
   have HP2:Hid (PPw wT (wr.alloc (.cells #[.string nm,.slice oC cl cC] 55)) bs (.slice oM ms.length cM) (.slice (some ⟨gF,0,none⟩) fs.length cF) ms (lnkS mn fn fs i 0) vs):=HP1.out.quiet ((Mods.refl _ _).alloc _)
   generalize wr.alloc (.cells #[.string nm,.slice oC cl cC] 55)=w1 at *;generalize wr.heap.size=F at *;clear c0 c1 HP1 HBr
   go_loopg [16] cl (fun g iv wx=>∃ j:Nat,iv=.int .i64 j/\PPw wT wx bs (.slice oM ms.length cM) (.slice (some ⟨gF,0,none⟩) fs.length cF) ms (lnkS mn fn fs i j) vs/\Blk wx F #[.string nm,.slice oC cl cC] 55/\Bx wx B X #[.slice oM ms.length cM,.slice (some ⟨gF,0,none⟩) fs.length cF] cX/\j<=cl/\g=cl - j)
   case atStart=>exact ⟨0,rfl,HP2.out,HF2.out,HB2.out,Nat.zero_le _,rfl⟩
   case round =>
    obtain ⟨j,rfl,hpw,hfw,hbw,hjl,rfl⟩:=hrel;have HPW:=hid hpw;have HFW:=hid hfw;have HBW:=hid hbw;clear hpw hfw hbw HP2 HF2 HB2
    by_cases hj:j<cl
    ·have HJ:Hid (j<(fAt fs i).code.length):=by rw [Hid,<- HCL.out];exact hj
     have hjj:=HJ.out
     obtain ⟨g,hoC,y0,y1,y2,y3,y4,y5,y6,y7,y8⟩:=lnkC_cells (HPW.out.codeL hi hiv (Nat.le_of_lt HJ.out)) HVI.out HJ.out
     subst hoC
     have z1:wr.cell? ⟨F,1,none⟩=some (.slice (some ⟨g,0,none⟩) cl cC):=HFW.out.cell 1
     have hx:=HOKi.out.2 (fAt fs i).code[j] (List.getElem_mem HJ.out)
     have HAT:Hid (∀ w',Mods Nil' wr w'->OpAt w' (bs[(fAt fs i).code[j].k]?.getD 0) (fAt fs i).code[j].o):=fun w' m=>tab_at (HT.out.mods (HPW.out.md.trans m)) (fAt fs i).code[j] hx.k
     have hrf:(if (fAt fs i).code[j].s=1 then (fAt fs i).code[j].o.refers else 0)<=1000:=by
      have:=hx.refs
      split<;>omega
     have HNUM:Hid (numP mn fn (fAt fs i).code[j]=if (if (fAt fs i).code[j].s=1 then (fAt fs i).code[j].o.refers else 0)=1 then placeM (T (fAt fs i).code[j].name) fn else if (if (fAt fs i).code[j].s=1 then (fAt fs i).code[j].o.refers else 0)=2 then placeM (T (fAt fs i).code[j].name) mn else (fAt fs i).code[j].num):=rfl
     have HSAME:Hid (numP mn fn (fAt fs i).code[j]=(fAt fs i).code[j].num->lnkS mn fn fs i (j+1)=lnkS mn fn fs i j):=lnkS_same mn fn fs i j HJ.out
     have HG7:Hid (∀ w',Mods Nil' wr w'->w'.cell? ⟨g,j*8+7,none⟩=some (.string (T (fAt fs i).code[j].name))/\w'.cell? ⟨g,j*8+4,none⟩=some (.int .i32 (fAt fs i).code[j].num)/\w'.frozen? ⟨g,j*8+4,none⟩=false):=fun w' m=>by
      obtain ⟨g',e,_,_,_,_,x4,_,_,x7,x8⟩:=lnkC_cells ((HPW.out.quiet m).codeL hi hiv (Nat.le_of_lt HJ.out)) HVI.out HJ.out
      cases e
      exact ⟨x7,x4,x8⟩
     have HNF:Hid (some g≠some F):=(HPW.out.codeL hi hiv (Nat.le_of_lt HJ.out)).notBlk HFW.out (by decide) ∘ (fun e=>by rw [HVI.out];exact e)
     have HNB:Hid (some g≠some B):=(HPW.out.codeL hi hiv (Nat.le_of_lt HJ.out)).notBlk HBW.out.b (by decide) ∘ (fun e=>by rw [HVI.out];exact e)
     have HNX:Hid (some g≠some X):=(HPW.out.codeL hi hiv (Nat.le_of_lt HJ.out)).notBlk HBW.out.x (by decide) ∘ (fun e=>by rw [HVI.out];exact e)
     have HFX:Hid (∀ w',Mods Nil' wr w'->Calls Tryz.prog 55 #[.agg #[.slice oM ms.length cM,.slice (some ⟨gF,0,none⟩) fs.length cF],.string (T (fAt fs i).code[j].name)] w' fun e w2=>e=.returned (.int .i64 (placeM (T (fAt fs i).code[j].name) fn))/\Mods Nil' w' w2):=fun w' m=>by
      have:=(HPW.out.quiet m).fnum (by rw [lnkS_len _ _ _ _ _ hil];exact hf) (T (fAt fs i).code[j].name)
      rw [lnkS_names _ _ _ _ _ hi,<- HFN.out] at this;exact this
     have HMX:Hid (∀ w',Mods Nil' wr w'->Calls Tryz.prog 56 #[.agg #[.slice oM ms.length cM,.slice (some ⟨gF,0,none⟩) fs.length cF],.string (T (fAt fs i).code[j].name)] w' fun e w2=>e=.returned (.int .i64 (placeM (T (fAt fs i).code[j].name) mn))/\Mods Nil' w' w2):=fun w' m=>by
      have:=(HPW.out.quiet m).mnum hm (T (fAt fs i).code[j].name)
      rw [<- HMN.out] at this;exact this
     have hpf:-1<=placeM (T (fAt fs i).code[j].name) fn/\placeM (T (fAt fs i).code[j].name) fn<1001:=by
      have:=placeM_bd (T (fAt fs i).code[j].name) fn
      have e:fn.length=fs.length:=by rw [HFN.out,List.length_map,List.length_map]
      omega
     have hpm:-1<=placeM (T (fAt fs i).code[j].name) mn/\placeM (T (fAt fs i).code[j].name) mn<1001:=by
      have:=placeM_bd (T (fAt fs i).code[j].name) mn
      have e:mn.length=ms.length:=by rw [HMN.out,List.length_map]
      omega
     rw [<- HCL.out] at HVI HEND;clear hx;generalize (fAt fs i).code[j].o=o at *;generalize (fAt fs i).code[j].jump=jmp at *;generalize (fAt fs i).code[j].d=xd at *;generalize (fAt fs i).code[j].s=xs at *;generalize (fAt fs i).code[j].num=xn at *;generalize (fAt fs i).code[j].high=xh at *;generalize placeM (T (fAt fs i).code[j].name) fn=pf at *;generalize placeM (T (fAt fs i).code[j].name) mn=pm at *;generalize T (fAt fs i).code[j].name=xm at *;generalize bs[(fAt fs i).code[j].k]?.getD 0=b at *
     have HRF:Hid (∀ w',Mods Nil' wr w'->Calls Tryz.prog 54 #[.agg #[.pointer (some ⟨b,0,none⟩),.int .u8 xd,.int .u8 xs,.int .i16 jmp,.int .i32 xn,.int .i32 xh,.string ByteArray.empty,.string xm]] w' fun e w2=>e=.returned (.int .i64 ((if xs=1 then o.refers else 0:Nat):Int))/\Mods Nil' w' w2):=fun w' m=>refers_any w' b o (HAT.out w' m) xd xs xn xh jmp _ xm
     generalize (if xs=1 then o.refers else 0)=rf at *
     go_wp2_with fail
     refine (HRF.out _ (Mods.refl _ _)).mono ?_
     rintro e W ⟨rfl,m5⟩
     have HPW5:Hid (PPw wT W bs (.slice oM ms.length cM) (.slice (some ⟨gF,0,none⟩) fs.length cF) ms (lnkS mn fn fs i j) vs):=HPW.out.quiet m5
     have HFW5:Hid (Blk W F #[.string nm,.slice (some ⟨g,0,none⟩) cl cC] 55):=HFW.out.mods m5 id
     have HBW5:Hid (Bx W B X #[.slice oM ms.length cM,.slice (some ⟨gF,0,none⟩) fs.length cF] cX):=HBW.out.mods m5 id
     have HG75:Hid (∀ w',Mods Nil' W w'->w'.cell? ⟨g,j*8+7,none⟩=some (.string xm)/\w'.cell? ⟨g,j*8+4,none⟩=some (.int .i32 xn)/\w'.frozen? ⟨g,j*8+4,none⟩=false):=fun w' m=>HG7.out w' (m5.trans m)
     have HFX5:Hid (∀ w',Mods Nil' W w'->Calls Tryz.prog 55 #[.agg #[.slice oM ms.length cM,.slice (some ⟨gF,0,none⟩) fs.length cF],.string xm] w' fun e w2=>e=.returned (.int .i64 pf)/\Mods Nil' w' w2):=fun w' m=>HFX.out w' (m5.trans m)
     have HMX5:Hid (∀ w',Mods Nil' W w'->Calls Tryz.prog 56 #[.agg #[.slice oM ms.length cM,.slice (some ⟨gF,0,none⟩) fs.length cF],.string xm] w' fun e w2=>e=.returned (.int .i64 pm)/\Mods Nil' w' w2):=fun w' m=>HMX.out w' (m5.trans m)
     clear m5 y0 y1 y2 y3 y4 y5 y6 y7 y8 z1 HRF HAT HPW HFW HBW HG7 HFX HMX
     by_cases h1:rf=1
     ·subst h1;generalize pf=pl at *
      have HNM:Hid (numP mn fn (fAt fs i).code[j]=pl):=by rw [Hid,HNUM.out];rfl
      go_upto_region 10 with fail
      refine wp_region_invL [.inl (.pointer (some ⟨g,j*8,none⟩)),.inl (.agg #[.slice oM ms.length cM,.slice (some ⟨gF,0,none⟩) fs.length cF]),.inl (.pointer (some ⟨g,j*8,none⟩)),.inl (.pointer (some ⟨g,j*8,none⟩)),.inl (.pointer (some ⟨g,j*8+7,none⟩)),.inl (.string xm),.inl (.int .i64 pl),.inl (.int .i32 pl),.inl (.pointer (some ⟨g,j*8,none⟩)),.inl (.pointer (some ⟨g,j*8+4,none⟩)),.inr (fun _ _ w'=>∃ w1,Mods Nil' W w1/\Mods Nil' (w1.setCell ⟨g,j*8+4,none⟩ (.int .i32 pl)) w')]
       (fun L w'=>L 10=false->Mods Nil' W w') (fun i w1 w2=>i≠10->Mods Nil' w1 w2) (by kernel_rfl) (by kernel_rfl) (by kernel_rfl) (fun _=>(Mods.refl _ _).drew) ?_ ?_ (.inr (fun _ _ _=>Mods.refl _ _)) ?_
      ·intro jj s hs i L v w1 w2 hn hj n hr
       refine stableT_of (N:=fun i w1 w2=>i≠10->Mods Nil' w1 w2) (show StableT _ _ _ 0 _ from ?_) jj s hs i L v w1 w2 hn (by rw [Nat.zero_add];exact hj) n hr
       refine ⟨fun i L u w1 w2 hn hk n ⟨w3,m3,m4⟩=>⟨w3,m3,m4.trans (n (fun e=>?_))⟩,trivial⟩
       subst e;rw [hn.1] at hk
       cases hk
      ·intro i L w1 w2 hn hC n h10
       by_cases e:i=10
       ·subst e;simp [updL] at h10
       ·exact (hC (by simpa [updL,Ne.symm e] using h10)).trans (n e)
      refine invT_det rfl (fun L w' hN hC _ K hK=>?_) ?_
      ·go_big_op
       exact hK _ _ _ rfl (fun _=>Mods.refl _ _) rfl
      simp only [Act.put,List.setIfInBounds_toArray,List.set_cons_succ,List.set_cons_zero]
      refine invT_det rfl (fun L w' hN hC _ K hK=>?_) ?_
      ·have hm:=hC (hN.2 10 _ rfl (by decide))
       have e0:w'.cell? ⟨B,0,none⟩=some (.slice oM ms.length cM):=(HBW5.out.mods hm id).cell 0
       have e1:w'.cell? ⟨B,1,none⟩=some (.slice (some ⟨gF,0,none⟩) fs.length cF):=(HBW5.out.mods hm id).cell 1
       go_big_op
       exact hK _ _ _ rfl (fun _=>Mods.refl _ _) rfl
      simp only [Act.put,List.setIfInBounds_toArray,List.set_cons_succ,List.set_cons_zero]
      refine invT_det rfl (fun L w' hN hC _ K hK=>?_) ?_
      ·go_big_op
       exact hK _ _ _ rfl (fun _=>Mods.refl _ _) rfl
      simp only [Act.put,List.setIfInBounds_toArray,List.set_cons_succ,List.set_cons_zero]
      refine invT_det rfl (fun L w' hN hC _ K hK=>?_) ?_
      ·go_big_op
       exact hK _ _ _ rfl (fun _=>Mods.refl _ _) rfl
      simp only [Act.put,List.setIfInBounds_toArray,List.set_cons_succ,List.set_cons_zero]
      refine invT_det rfl (fun L w' hN hC _ K hK=>?_) ?_
      ·go_big_op
       exact hK _ _ _ rfl (fun _=>Mods.refl _ _) rfl
      simp only [Act.put,List.setIfInBounds_toArray,List.set_cons_succ,List.set_cons_zero]
      refine invT_det rfl (fun L w' hN hC _ K hK=>?_) ?_
      ·have hm:=hC (hN.2 10 _ rfl (by decide))
       have e1:w'.cell? ⟨g,j*8+7,none⟩=some (.string xm):=(HG75.out w' hm).1
       go_big_op
       exact hK _ _ _ rfl (fun _=>Mods.refl _ _) rfl
      simp only [Act.put,List.setIfInBounds_toArray,List.set_cons_succ,List.set_cons_zero]
      refine invT_det rfl (fun L w' hN hC _ K hK=>?_) ?_
      ·have hm:=hC (hN.2 10 _ rfl (by decide))
       go_big_op
       refine (HFX5.out w' hm).mono ?_
       rintro e w2 ⟨rfl,m2⟩
       exact hK _ _ _ rfl (fun _=>m2) rfl
      simp only [Act.put,List.setIfInBounds_toArray,List.set_cons_succ,List.set_cons_zero]
      refine invT_det rfl (fun L w' hN hC _ K hK=>?_) ?_
      ·go_big_op
       exact hK _ _ _ rfl (fun _=>Mods.refl _ _) rfl
      simp only [Act.put,List.setIfInBounds_toArray,List.set_cons_succ,List.set_cons_zero]
      refine invT_det rfl (fun L w' hN hC _ K hK=>?_) ?_
      ·go_big_op
       exact hK _ _ _ rfl (fun _=>Mods.refl _ _) rfl
      simp only [Act.put,List.setIfInBounds_toArray,List.set_cons_succ,List.set_cons_zero]
      refine invT_det rfl (fun L w' hN hC _ K hK=>?_) ?_
      ·go_big_op
       exact hK _ _ _ rfl (fun _=>Mods.refl _ _) rfl
      simp only [Act.put,List.setIfInBounds_toArray,List.set_cons_succ,List.set_cons_zero]
      refine invT_any rfl (fun L w' hN hC _ K hK=>?_) (fun x10=>?_)
      ·have hm:=hC hN.1
       have e1:=(HG75.out w' hm).2.1
       have e2:=(HG75.out w' hm).2.2
       go_big_op
       exact hK _ _ (.int .i64 0) rfl (fun h=>absurd rfl h) ⟨w',hm,Mods.refl _ _⟩
      simp only [Act.put]
      refine invT_nil (fun L w' hL hC hA=>?_)
      obtain ⟨w8,m8,m9⟩:∃ w1,Mods Nil' W w1/\Mods Nil' (w1.setCell ⟨g,j*8+4,none⟩ (.int .i32 pl)) w':=allT_mem hA 10
      have HPN:Hid (PPw wT w' bs (.slice oM ms.length cM) (.slice (some ⟨gF,0,none⟩) fs.length cF) ms (lnkS mn fn fs i (j+1)) vs):=((HPW5.out.quiet m8).lnkNum hi hiv HVI.out HJ.out pl HNM.out).quiet m9
      have HFN:Hid (Blk w' F #[.string nm,.slice (some ⟨g,0,none⟩) cl cC] 55):=((HFW5.out.mods m8 id).setOther (fun e=>HNF.out (congrArg some e)) _).mods m9 id
      have HBN:Hid (Bx w' B X #[.slice oM ms.length cM,.slice (some ⟨gF,0,none⟩) fs.length cF] cX):=((HBW5.out.mods m8 id).setOther (fun e=>HNB.out (congrArg some e)) (fun e=>HNX.out (congrArg some e)) _).mods m9 id
      clear m8 m9 hA hC hL HPW5 HFW5 HBW5 HG75
      try simp only [Exit.then]
      go_wp2_with fail
      go_roundg (cl - (j+1))
      case measure=>omega
      case rel=>exact ⟨j+1,by go_num,HPN.out,HFN.out,HBN.out,by omega,rfl⟩
     ·have t1:decide ((rf:Int)=1)=false:=by simp;omega
      have t2:((rf:Int)==1)=false:=by simp;omega
      by_cases h2:rf=2
      ·subst h2;generalize pm=pl at *
       have HNM:Hid (numP mn fn (fAt fs i).code[j]=pl):=by rw [Hid,HNUM.out];rfl
       go_upto_region 12 with fail
       refine wp_region_invL [.inl (.pointer (some ⟨g,j*8,none⟩)),.inl (.agg #[.slice oM ms.length cM,.slice (some ⟨gF,0,none⟩) fs.length cF]),.inl (.pointer (some ⟨g,j*8,none⟩)),.inl (.pointer (some ⟨g,j*8,none⟩)),.inl (.pointer (some ⟨g,j*8+7,none⟩)),.inl (.string xm),.inl (.int .i64 pl),.inl (.int .i32 pl),.inl (.pointer (some ⟨g,j*8,none⟩)),.inl (.pointer (some ⟨g,j*8+4,none⟩)),.inr (fun _ _ w'=>∃ w1,Mods Nil' W w1/\Mods Nil' (w1.setCell ⟨g,j*8+4,none⟩ (.int .i32 pl)) w')]
        (fun L w'=>L 10=false->Mods Nil' W w') (fun i w1 w2=>i≠10->Mods Nil' w1 w2) (by kernel_rfl) (by kernel_rfl) (by kernel_rfl) (fun _=>(Mods.refl _ _).drew) ?_ ?_ (.inr (fun _ _ _=>Mods.refl _ _)) ?_
       ·intro jj s hs i L v w1 w2 hn hj n hr
        refine stableT_of (N:=fun i w1 w2=>i≠10->Mods Nil' w1 w2) (show StableT _ _ _ 0 _ from ?_) jj s hs i L v w1 w2 hn (by rw [Nat.zero_add];exact hj) n hr
        refine ⟨fun i L u w1 w2 hn hk n ⟨w3,m3,m4⟩=>⟨w3,m3,m4.trans (n (fun e=>?_))⟩,trivial⟩
        subst e;rw [hn.1] at hk
        cases hk
       ·intro i L w1 w2 hn hC n h10
        by_cases e:i=10
        ·subst e;simp [updL] at h10
        ·exact (hC (by simpa [updL,Ne.symm e] using h10)).trans (n e)
       refine invT_det rfl (fun L w' hN hC _ K hK=>?_) ?_
       ·go_big_op
        exact hK _ _ _ rfl (fun _=>Mods.refl _ _) rfl
       simp only [Act.put,List.setIfInBounds_toArray,List.set_cons_succ,List.set_cons_zero]
       refine invT_det rfl (fun L w' hN hC _ K hK=>?_) ?_
       ·have hm:=hC (hN.2 10 _ rfl (by decide))
        have e0:w'.cell? ⟨B,0,none⟩=some (.slice oM ms.length cM):=(HBW5.out.mods hm id).cell 0
        have e1:w'.cell? ⟨B,1,none⟩=some (.slice (some ⟨gF,0,none⟩) fs.length cF):=(HBW5.out.mods hm id).cell 1
        go_big_op
        exact hK _ _ _ rfl (fun _=>Mods.refl _ _) rfl
       simp only [Act.put,List.setIfInBounds_toArray,List.set_cons_succ,List.set_cons_zero]
       refine invT_det rfl (fun L w' hN hC _ K hK=>?_) ?_
       ·go_big_op
        exact hK _ _ _ rfl (fun _=>Mods.refl _ _) rfl
       simp only [Act.put,List.setIfInBounds_toArray,List.set_cons_succ,List.set_cons_zero]
       refine invT_det rfl (fun L w' hN hC _ K hK=>?_) ?_
       ·go_big_op
        exact hK _ _ _ rfl (fun _=>Mods.refl _ _) rfl
       simp only [Act.put,List.setIfInBounds_toArray,List.set_cons_succ,List.set_cons_zero]
       refine invT_det rfl (fun L w' hN hC _ K hK=>?_) ?_
       ·go_big_op
        exact hK _ _ _ rfl (fun _=>Mods.refl _ _) rfl
       simp only [Act.put,List.setIfInBounds_toArray,List.set_cons_succ,List.set_cons_zero]
       refine invT_det rfl (fun L w' hN hC _ K hK=>?_) ?_
       ·have hm:=hC (hN.2 10 _ rfl (by decide))
        have e1:w'.cell? ⟨g,j*8+7,none⟩=some (.string xm):=(HG75.out w' hm).1
        go_big_op
        exact hK _ _ _ rfl (fun _=>Mods.refl _ _) rfl
       simp only [Act.put,List.setIfInBounds_toArray,List.set_cons_succ,List.set_cons_zero]
       refine invT_det rfl (fun L w' hN hC _ K hK=>?_) ?_
       ·have hm:=hC (hN.2 10 _ rfl (by decide))
        go_big_op
        refine (HMX5.out w' hm).mono ?_
        rintro e w2 ⟨rfl,m2⟩
        exact hK _ _ _ rfl (fun _=>m2) rfl
       simp only [Act.put,List.setIfInBounds_toArray,List.set_cons_succ,List.set_cons_zero]
       refine invT_det rfl (fun L w' hN hC _ K hK=>?_) ?_
       ·go_big_op
        exact hK _ _ _ rfl (fun _=>Mods.refl _ _) rfl
       simp only [Act.put,List.setIfInBounds_toArray,List.set_cons_succ,List.set_cons_zero]
       refine invT_det rfl (fun L w' hN hC _ K hK=>?_) ?_
       ·go_big_op
        exact hK _ _ _ rfl (fun _=>Mods.refl _ _) rfl
       simp only [Act.put,List.setIfInBounds_toArray,List.set_cons_succ,List.set_cons_zero]
       refine invT_det rfl (fun L w' hN hC _ K hK=>?_) ?_
       ·go_big_op
        exact hK _ _ _ rfl (fun _=>Mods.refl _ _) rfl
       simp only [Act.put,List.setIfInBounds_toArray,List.set_cons_succ,List.set_cons_zero]
       refine invT_any rfl (fun L w' hN hC _ K hK=>?_) (fun x10=>?_)
       ·have hm:=hC hN.1
        have e1:=(HG75.out w' hm).2.1
        have e2:=(HG75.out w' hm).2.2
        go_big_op
        exact hK _ _ (.int .i64 0) rfl (fun h=>absurd rfl h) ⟨w',hm,Mods.refl _ _⟩
       simp only [Act.put]
       refine invT_nil (fun L w' hL hC hA=>?_)
       obtain ⟨w8,m8,m9⟩:∃ w1,Mods Nil' W w1/\Mods Nil' (w1.setCell ⟨g,j*8+4,none⟩ (.int .i32 pl)) w':=allT_mem hA 10
       have HPN:Hid (PPw wT w' bs (.slice oM ms.length cM) (.slice (some ⟨gF,0,none⟩) fs.length cF) ms (lnkS mn fn fs i (j+1)) vs):=((HPW5.out.quiet m8).lnkNum hi hiv HVI.out HJ.out pl HNM.out).quiet m9
       have HFN:Hid (Blk w' F #[.string nm,.slice (some ⟨g,0,none⟩) cl cC] 55):=((HFW5.out.mods m8 id).setOther (fun e=>HNF.out (congrArg some e)) _).mods m9 id
       have HBN:Hid (Bx w' B X #[.slice oM ms.length cM,.slice (some ⟨gF,0,none⟩) fs.length cF] cX):=((HBW5.out.mods m8 id).setOther (fun e=>HNB.out (congrArg some e)) (fun e=>HNX.out (congrArg some e)) _).mods m9 id
       clear m8 m9 hA hC hL HPW5 HFW5 HBW5 HG75
       try simp only [Exit.then]
       go_wp2_with fail
       go_roundg (cl - (j+1))
       case measure=>omega
       case rel=>exact ⟨j+1,by go_num,HPN.out,HFN.out,HBN.out,by omega,rfl⟩
      ·have t3:decide ((rf:Int)=2)=false:=by simp;omega
       have t4:((rf:Int)==2)=false:=by simp;omega
       have HPN:Hid (PPw wT W bs (.slice oM ms.length cM) (.slice (some ⟨gF,0,none⟩) fs.length cF) ms (lnkS mn fn fs i (j+1)) vs):=by
        rw [Hid,HSAME.out (by rw [HNUM.out,if_neg h1,if_neg h2])]
        exact HPW5.out
       clear h1 h2;go_wp2_with fail
       go_roundg (cl - (j+1))
       case measure=>omega
       case rel=>exact ⟨j+1,by go_num,HPN.out,HFW5.out,HBW5.out,by omega,rfl⟩
    ·obtain rfl:j=cl:=by omega
     have HPN:Hid (PPw wT wr bs (.slice oM ms.length cM) (.slice (some ⟨gF,0,none⟩) fs.length cF) ms (lnk mn fn fs (i+1)) vs):=by
      rw [Hid,<- HEND.out,<- HCL.out];exact HPW.out
     go_wp2_with fail
     go_roundg (fs.length - (i+1))
     case measure=>omega
     case rel=>exact ⟨i+1,by go_num,HPN.out,HBW.out,by omega,rfl⟩
  ·obtain rfl:i=fs.length:=by omega
   have HEN:Hid (PPw wT wr bs (.slice oM ms.length cM) (.slice oF fs.length cF) ms (fs.map (PFn.linked mn fn)) vs):=by
    rw [Hid,<- lnk_all];exact HPr.out
   go_wp2_with fail
   go_end0
   exact ⟨rfl,HEN.out,HBr.out.x⟩
end Go.Proofs.YtnhcaifopaeohaaGreatDoor
