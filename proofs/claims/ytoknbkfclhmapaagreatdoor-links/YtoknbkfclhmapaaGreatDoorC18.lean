import Derived.Test.YtoknbkfclhmapaaGreatDoorC04
import Derived.BigQuiet
import Derived.Deep.LoopGhost
import Derived.Deep.DeepCutAuto
import Derived.Test.YtoknbkfclhmapaaGreatDoorC16
namespace Go.Proofs.YtoknbkfclhmapaaGreatDoor
open Go.RowKit
def ltB (a b:ByteArray):Bool:=Op.bytesLess a.toList b.toList
def behind (p:Option ByteArray) (n:ByteArray):Bool:=match p with
 | none=>true
 | some p=>ltB p n
def mapOK (m:RMap):Bool:=!(decide (m.key<1)||decide (8<m.key)||decide (m.value<1)||decide (16<m.value)||decide (m.entries<1)||decide (8<m.entries))
def mapsR:Option ByteArray->List RMap->Bool
 | _,[]=>true
 | p,m::l=>mapOK m&&behind p m.name&&mapsR (some m.name) l
def namesR:Option ByteArray->List ByteArray->Bool
 | _,[]=>true
 | p,n::l=>behind p n&&namesR (some n) l
structure RFn where
 name:ByteArray
 slots:Nat
def RFn.cells (f:RFn):List Value:=[.string f.name,.slice none 0 0,.slice none 0 0,.int .i64 f.slots,.slice none 0 0,.slice none 0 0,.int .i64 0,.slice none 0 0]
theorem RFn.cells_len (f:RFn):f.cells.length=8:=rfl
def risingM (ms:List RMap) (fs:List RFn):Bool:=decide (ms.length<=8)&&decide (fs.length<=16)&&mapsR none ms&&namesR none (fs.map (·.name))
def prevM (ms:List RMap) (k:Nat):Option ByteArray:=if k=0 then none else (ms[k - 1]?).map (·.name)
theorem mapsR_drop (ms:List RMap) (k:Nat) (h:k<ms.length):mapsR (prevM ms k) (ms.drop k)=(mapOK ms[k]&&behind (prevM ms k) ms[k].name&&mapsR (prevM ms (k+1)) (ms.drop (k+1))):=by
 rw [List.drop_eq_getElem_cons h,mapsR]
 have:prevM ms (k+1)=some ms[k].name:=by simp [prevM,h]
 rw [this]
theorem namesR_drop (ns:List ByteArray) (k:Nat) (h:k+1<ns.length):namesR (some ns[k]) (ns.drop (k+1))=(ltB ns[k] ns[k+1]&&namesR (some ns[k+1]) (ns.drop (k+2))):=by
 rw [List.drop_eq_getElem_cons h,namesR];rfl
theorem Sl.atF {w:World} {v:Value} {n:Nat} {fs:List RFn} {o:Option Addr} {cap:Nat} (h:Sl w 46 8 v n (fs.flatMap RFn.cells)) (hn:n=fs.length) (hv:v=.slice o n cap) :
  ∀ k (_:k<fs.length),∃ g,o=some ⟨g,0,none⟩/\∀ j (hj:j<fs.length),w.cell? ⟨g,j*8,none⟩=some (.string fs[j].name):=by
 intro k hk;obtain ⟨o',cap',rfl,h2⟩:=h.view
 cases hv
 obtain ⟨g,cs,rfl,hb,ht,_⟩:=h2 (by omega)
 subst hn
 refine ⟨g,rfl,fun j hj=>?_⟩
 rw [take_cell hb ht _ (by omega)]
 exact flat_get RFn.cells 8 RFn.cells_len fs j 0 hj (by omega)
set_option maxRecDepth 100000 in
set_option maxHeartbeats 2000000 in
theorem rising_any (pb:Nat) (ms:List RMap) (fs:List RFn) (vM vF:Value) (w:World) (hp:Blk w pb #[vM,vF] 41)
  (sM:Sl w 48 4 vM ms.length (ms.flatMap RMap.cells)) (sF:Sl w 46 8 vF fs.length (fs.flatMap RFn.cells)) (hm:ms.length<=1000) (hf:fs.length<=1000) :
  Calls Tryz.prog 26 #[.pointer (some ⟨pb,0,none⟩)] w fun e w'=>e=.returned (.bool (risingM ms fs))/\Mods Nil' w w':=by
 obtain ⟨oM,cM,rfl,_⟩:=sM.view;obtain ⟨oF,cF,rfl,_⟩:=sF.view
 have p0:w.cell? ⟨pb,0,none⟩=some (.slice oM ms.length cM):=hp.cell 0
 have p1:w.cell? ⟨pb,1,none⟩=some (.slice oF fs.length cF):=hp.cell 1
 by_cases h8:ms.length<=8
 case neg =>
  have HR:Hid (risingM ms fs=false):=by simp [Hid,risingM,h8]
  have h8':(8:Int)<(ms.length:Int):=by omega
  go_enter Tryz.func26,Tryz.ntmps26
  go_wp2_with fail;go_ret
  exact ⟨by rw [HR.out];rfl,Mods.refl _ _⟩
 by_cases h16:fs.length<=16
 case neg =>
  have HR:Hid (risingM ms fs=false):=by simp [Hid,risingM,h16]
  have h8':decide ((8:Int)<(ms.length:Int))=false:=decide_eq_false (by omega)
  have h16':(16:Int)<(fs.length:Int):=by omega
  go_enter Tryz.func26,Tryz.ntmps26
  go_wp2_with fail;go_ret
  exact ⟨by rw [HR.out];rfl,Mods.refl _ _⟩
 have HR:Hid (risingM ms fs=(mapsR none ms&&namesR none (fs.map (·.name)))):=by simp [Hid,risingM,h8,h16]
 go_enter Tryz.func26,Tryz.ntmps26
 go_wp2_with fail
 go_loopg [3] ms.length (fun g kv wr=>∃ k:Nat,k<=ms.length/\kv=.int .i64 k/\g=ms.length - k/\Mods Nil' w wr/\mapsR (prevM ms k) (ms.drop k)=mapsR none ms)
 case atStart=>exact ⟨0,Nat.zero_le _,rfl,rfl,Mods.refl _ _,rfl⟩
 case round =>
  obtain ⟨k,hk,rfl,rfl,hmd,hrl⟩:=hrel
  have HRL:Hid _:=hrl
  clear hrl
  have hpW:=hp.mods hmd (fun e=>e)
  have sMW:=sM.mods hmd (fun _ _ e=>e)
  have sFW:=sF.mods hmd (fun _ _ e=>e)
  have p0:wr.cell? ⟨pb,0,none⟩=some (.slice oM ms.length cM):=hpW.cell 0
  have p1:wr.cell? ⟨pb,1,none⟩=some (.slice oF fs.length cF):=hpW.cell 1
  have lp:pb<wr.heap.size:=hpW.lt
  by_cases hkl:k<ms.length
  ·obtain ⟨gM,rfl,cells⟩:=sMW.at4 rfl rfl k hkl;obtain ⟨c0,c1,c2,c3⟩:=cells k hkl
   have cprev:0<k->wr.cell? ⟨gM,(k - 1)*4,none⟩=some (.string (ms[k - 1]'(by omega)).name):=fun h0=>(cells (k - 1) (by omega)).1
   have lM:gM<wr.heap.size:=sMW.lt gM rfl
   clear cells
   have HD:Hid (_=_):=mapsR_drop ms k hkl
   have HC:Hid (_=_):=HRL.out.symm.trans HD.out
   have HPV:Hid (0<k->prevM ms k=some (ms[k - 1]'(by omega)).name):=fun h0=>by rw [prevM,if_neg (by omega),List.getElem?_eq_getElem (by omega)];rfl
   have HPZ:Hid (k=0->prevM ms k=none):=fun h0=>by rw [prevM,if_pos h0]
   clear HRL HD;generalize prevM ms k=pv at *
   generalize hmk:ms[k]=mk at *
   obtain ⟨nm,ky,vl,en⟩:=mk
   simp only at c0 c1 c2 c3
   have HMK:Hid _:=hmk
   clear hmk;go_upto_region 7 with fail
   go_cut [81] (fun s81 wx=>s81=.bool (!(mapOK ⟨nm,ky,vl,en⟩&&behind pv nm))/\Mods Nil' w wx)
   case first =>
    by_cases t0:ky<1
    ·have HV:Hid ((!(mapOK ⟨nm,ky,vl,en⟩&&behind pv nm))=true):=by
      simp [Hid,mapOK,t0]
     clear HC;go_quiet (fail);go_wp2_with fail;go_meet
     exact ⟨by rw [HV.out],(hmd.alloc _).drewN _⟩
    have d0:decide (ky<1)=false:=decide_eq_false t0
    by_cases t1:8<ky
    ·have HV:Hid ((!(mapOK ⟨nm,ky,vl,en⟩&&behind pv nm))=true):=by
      simp [Hid,mapOK,t0,t1]
     clear HC;go_quiet (fail);go_wp2_with fail;go_meet
     exact ⟨by rw [HV.out],(hmd.alloc _).drewN _⟩
    have d1:decide (8<ky)=false:=decide_eq_false t1
    by_cases t2:vl<1
    ·have HV:Hid ((!(mapOK ⟨nm,ky,vl,en⟩&&behind pv nm))=true):=by
      simp [Hid,mapOK,t0,t1,t2]
     clear HC;go_quiet (fail);go_wp2_with fail;go_meet
     exact ⟨by rw [HV.out],(hmd.alloc _).drewN _⟩
    have d2:decide (vl<1)=false:=decide_eq_false t2
    by_cases t3:16<vl
    ·have HV:Hid ((!(mapOK ⟨nm,ky,vl,en⟩&&behind pv nm))=true):=by
      simp [Hid,mapOK,t0,t1,t2,t3]
     clear HC;go_quiet (fail);go_wp2_with fail;go_meet
     exact ⟨by rw [HV.out],(hmd.alloc _).drewN _⟩
    have d3:decide (16<vl)=false:=decide_eq_false t3
    by_cases t4:en<1
    ·have HV:Hid ((!(mapOK ⟨nm,ky,vl,en⟩&&behind pv nm))=true):=by
      simp [Hid,mapOK,t0,t1,t2,t3,t4]
     clear HC;go_quiet (fail);go_wp2_with fail;go_meet
     exact ⟨by rw [HV.out],(hmd.alloc _).drewN _⟩
    have d4:decide (en<1)=false:=decide_eq_false t4
    by_cases t5:8<en
    ·have HV:Hid ((!(mapOK ⟨nm,ky,vl,en⟩&&behind pv nm))=true):=by
      simp [Hid,mapOK,t0,t1,t2,t3,t4,t5]
     clear HC;go_quiet (fail);go_wp2_with fail;go_meet
     exact ⟨by rw [HV.out],(hmd.alloc _).drewN _⟩
    have d5:decide (8<en)=false:=decide_eq_false t5
    by_cases hk0:k=0
    ·have e0:=HPZ.out hk0
     subst e0
     have HV:Hid ((!(mapOK ⟨nm,ky,vl,en⟩&&behind none nm))=false):=by
      simp [Hid,mapOK,behind,t0,t1,t2,t3,t4,t5]
     have dk:decide ((0:Int)<(k:Int))=false:=decide_eq_false (by omega)
     have dk2:decide (0<k)=false:=decide_eq_false (by omega)
     have HK0:Hid _:=hk0
     clear hk0;go_quiet (fail);go_wp2_with fail;go_meet
     exact ⟨by rw [HV.out],(hmd.alloc _).drewN _⟩
    ·have e0:=HPV.out (by omega)
     have cp:=cprev (by omega)
     have dk:(0:Int)<(k:Int):=by omega
     have dk2:0<k:=by omega
     have hkc:((k:Int) - 1)=((k - 1:Nat):Int):=by omega
     generalize (ms[k - 1]'(by omega)).name=pn at *
     subst e0
     have HV:Hid ((!(mapOK ⟨nm,ky,vl,en⟩&&behind (some pn) nm))=!(Op.bytesLess pn.toList nm.toList)):=by
      simp [Hid,mapOK,behind,ltB,t0,t1,t2,t3,t4,t5]
     clear cprev;go_quiet (fail);go_wp2_with fail;go_meet
     exact ⟨by rw [HV.out],(hmd.alloc _).drewN _⟩
   case rest =>
   obtain ⟨rfl,hmd2⟩:=hcut
   cases hb:(mapOK ⟨nm,ky,vl,en⟩&&behind pv nm) with
   | false =>
    have HF:Hid (mapsR none ms=false):=by rw [Hid,HC.out,hb];rfl
    clear HC
    simp only [Bool.not_false]
    go_wp2_with fail;go_ret
    exact ⟨by rw [HR.out,HF.out];rfl,hmd2⟩
   | true =>
    have HC2:Hid (mapsR (prevM ms (k+1)) (ms.drop (k+1))=mapsR none ms):=by rw [Hid,HC.out,hb];rfl
    clear HC
    simp only [Bool.not_true]
    go_wp2_with fail
    go_roundg (ms.length - (k+1))
    case measure=>omega
    case rel=>exact ⟨k+1,by omega,by go_num,rfl,hmd2,HC2.out⟩
  ·obtain rfl:k=ms.length:=by omega
   have HMS:Hid (mapsR none ms=true):=by rw [Hid,<- HRL.out,List.drop_length];rfl
   clear HRL;go_wp2_with fail
   go_loopg [5] fs.length (fun g kv wx=>∃ k:Nat,kv=.int .i64 (k+1:Nat)/\g=fs.length - k/\(k=0\/k<fs.length)/\Mods Nil' w wx/\(∀ (h:k<fs.length),namesR (some fs[k].name) ((fs.map (·.name)).drop (k+1))=namesR none (fs.map (·.name))))
   case atStart =>
    refine ⟨0,rfl,rfl,.inl rfl,hmd,fun h=>?_⟩
    cases fs with
    | nil=>simp at h
    | cons f l=>rfl
   case round =>
    obtain ⟨k,rfl,rfl,hk,hmd3,hrl⟩:=hrel
    have HRL:Hid _:=hrl
    clear hrl p0 p1
    have hpW:=hp.mods hmd3 (fun e=>e)
    have sFW:=sF.mods hmd3 (fun _ _ e=>e)
    have p1:wr.cell? ⟨pb,1,none⟩=some (.slice oF fs.length cF):=hpW.cell 1
    by_cases hkl:k+1<fs.length
    ·obtain ⟨gF,rfl,cells⟩:=sFW.atF rfl rfl k (by omega)
     have d0:=cells k (by omega)
     have d1:=cells (k+1) (by omega)
     clear cells
     have HD:=namesR_drop (fs.map (·.name)) k (by simpa using hkl)
     simp only [List.getElem_map] at HD
     have HD2:Hid _:=HD
     clear HD
     have hki:(k:Int)+1<(fs.length:Int):=by omega
     cases hb:Op.bytesLess (fs[k]'(by omega)).name.toList fs[k+1].name.toList with
     | true =>
      have HC:Hid (namesR (some fs[k+1].name) ((fs.map (·.name)).drop (k+2))=namesR none (fs.map (·.name))):=by
       rw [Hid,<- HRL.out (by omega),HD2.out];simp [ltB,hb]
      go_wp2_with fail;go_quiet (fail);go_wp2_with fail
      go_roundg (fs.length - (k+1))
      case measure=>omega
      case rel=>exact ⟨k+1,by go_num,rfl,.inr (by omega),hmd3.drewN _,fun _=>HC.out⟩
     | false =>
      have HC:Hid (namesR none (fs.map (·.name))=false):=by
       rw [Hid,<- HRL.out (by omega),HD2.out];simp [ltB,hb]
      go_wp2_with fail;go_quiet (fail);go_wp2_with fail;go_ret
      exact ⟨by rw [HR.out,HMS.out,HC.out];rfl,hmd3.drewN _⟩
    ·have HF:Hid (namesR none (fs.map (·.name))=true):=by
      by_cases h0:k<fs.length
      ·rw [Hid,<- HRL.out h0,List.drop_eq_nil_of_le (by simp;omega)];rfl
      ·obtain rfl:=List.length_eq_zero_iff.1 (show fs.length=0 by omega)
       rfl
     have hki:¬ ((k:Int)+1<(fs.length:Int)):=by omega
     go_wp2_with fail;go_ret
     exact ⟨by rw [HR.out,HMS.out,HF.out];rfl,hmd3⟩
structure LInv (w0:World) (fb off:Nat) (cs:Array Value) (vL vA vJ:Value) (ats js:List Int) (ls:List RIns) (bs:List ByteArray) (ps:List Int) (vB vP:Value) (w:World):Prop where
 fn:Blk w fb ((cs.setIfInBounds (off+4) vB).setIfInBounds (off+5) vP) 46
 sl:Sl w 51 8 vL ls.length (insL ls)
 sa:Sl w 3 1 vA ats.length (intL ats)
 sj:Sl w 3 1 vJ js.length (intL js)
 sb:Sl w 9 1 vB bs.length (strL bs)
 sp:Sl w 3 1 vP ps.length (intL ps)
 fb':∀ k,vB.ownBlock=some k->w0.heap.size<=k
 fp':∀ k,vP.ownBlock=some k->w0.heap.size<=k
 bp:∀ k,vB.ownBlock=some k->vP.ownBlock≠some k
 md:Mods (fun k=>k=fb\/vL.ownBlock=some k) w0 w
theorem Sl.setAt {w:World} {e:TypeId} {size:Nat} {g n cap:Nat} {xs:List Value} (h:Sl w e size (.slice (some ⟨g,0,none⟩) n cap) n xs) (j:Nat) (u:Value) (_hj:j<n*size) :
  Sl (w.setCell ⟨g,j,none⟩ u) e size (.slice (some ⟨g,0,none⟩) n cap) n (xs.set j u):=by
 refine ⟨by rw [List.length_set];exact h.1,?_⟩
 rcases h.2 with ⟨h',_⟩ | ⟨g',cap',cur,h',h0,hg,hn,hm,hs,ht⟩
 ·cases h'
 ·cases h'
  refine .inr ⟨g,cap,cur.setIfInBounds j u,rfl,h0,Blk.set (t:=e) hg j u,hn,hm,by simpa using hs,?_⟩
  rw [Array.toList_setIfInBounds,<- ht,List.take_set]
theorem insL_set (ls:List RIns) (k:Nat) (hk:k<ls.length) (x:ByteArray):(insL ls).set (k*8+6) (.string x)=insL (ls.set k { ls[k] with label:=x }):=by
 induction ls generalizing k with
 | nil=>simp at hk
 | cons i ls ih =>
  cases k with
  | zero=>simp [insL,RIns.cellsL,RIns.cells]
  | succ k =>
   have hk':k<ls.length:=by simpa using hk
   have:=ih k hk'
   simp only [insL,List.flatMap_cons,List.set_cons_succ,List.getElem_cons_succ] at this ⊢
   rw [List.set_append_right _ _ (by rw [RIns.cellsL_len];omega),RIns.cellsL_len,show (k+1)*8+6 - 8=k*8+6 by omega,this]
section
variable {w0 w w' : World} {fb off : Nat} {cs : Array Value} {vL vA vJ : Value} {ats js : List Int} {ls ls0 : List RIns} {bs : List ByteArray} {ps : List Int} {vB vP : Value}
theorem LInv.quiet (h:LInv w0 fb off cs vL vA vJ ats js ls bs ps vB vP w) (m:Mods Nil' w w'):LInv w0 fb off cs vL vA vJ ats js ls bs ps vB vP w' :=
 ⟨h.fn.mods m (fun e=>e),h.sl.mods m (fun _ _ e=>e),h.sa.mods m (fun _ _ e=>e),h.sj.mods m (fun _ _ e=>e),h.sb.mods m (fun _ _ e=>e),h.sp.mods m (fun _ _ e=>e),h.fb',h.fp',h.bp,h.md.trans m.of_nil⟩
theorem LabPre.start (p:LabPre w fb off cs vL vA vJ ls ats js):LInv w fb off cs vL vA vJ ats js ls [] [] (.slice none 0 0) (.slice none 0 0) w:=by
 refine ⟨?_,p.sl,p.sa,p.sj,Sl.nil _ _ _,Sl.nil _ _ _,fun k h=>by simp [Value.ownBlock] at h,fun k h=>by simp [Value.ownBlock] at h,fun k h=>by simp [Value.ownBlock] at h,Mods.refl _ _⟩
 have e:((cs.setIfInBounds (off+4) (.slice none 0 0)).setIfInBounds (off+5) (.slice none 0 0))=cs:=by
  have hs:=p.sz
  apply Array.ext_getElem?
  intro i;rw [Array.getElem?_setIfInBounds,Array.getElem?_setIfInBounds]
  simp only [Array.size_setIfInBounds]
  split
  ·rename_i e;subst e;rw [p.c5];simp;omega
  ·split
   ·rename_i e;subst e;rw [p.c4];simp;omega
   ·rfl
 rw [e];exact p.fn
theorem LInv.cells (h:LInv w0 fb off cs vL vA vJ ats js ls bs ps vB vP w) (p:LabPre w0 fb off cs vL vA vJ ls0 ats js) :
  w.cell? ⟨fb,off+1,none⟩=some vL/\w.cell? ⟨fb,off+2,none⟩=some vA/\w.cell? ⟨fb,off+4,none⟩=some vB/\w.cell? ⟨fb,off+5,none⟩=some vP/\∀ j,w.frozen? ⟨fb,j,none⟩=false:=by
 have hs:=p.sz
 refine ⟨?_,?_,?_,?_,h.fn.frozen⟩
 ·rw [h.fn.cell,Array.getElem?_setIfInBounds_ne (by omega),Array.getElem?_setIfInBounds_ne (by omega)];exact p.c1
 ·rw [h.fn.cell,Array.getElem?_setIfInBounds_ne (by omega),Array.getElem?_setIfInBounds_ne (by omega)];exact p.c2
 ·rw [h.fn.cell,Array.getElem?_setIfInBounds_ne (by omega),Array.getElem?_setIfInBounds_self_of_lt (by omega)]
 ·rw [h.fn.cell,Array.getElem?_setIfInBounds_self_of_lt (by simp;omega)]
theorem LInv.name {gL n cL:Nat} (h:LInv w0 fb off cs (.slice (some ⟨gL,0,none⟩) n cL) vA vJ ats js ls bs ps vB vP w) (p:LabPre w0 fb off cs (.slice (some ⟨gL,0,none⟩) n cL) vA vJ ls0 ats js) (hn:n=ls.length) (k:Nat) (hk:k<ls.length) (x:ByteArray) :
  LInv w0 fb off cs (.slice (some ⟨gL,0,none⟩) n cL) vA vJ ats js (ls.set k { ls[k] with label:=x }) bs ps vB vP (w.setCell ⟨gL,k*8+6,none⟩ (.string x)):=by
 have hl0:gL<w0.heap.size:=p.sl.lt gL rfl
 have hms:Mods (Only gL) w (w.setCell ⟨gL,k*8+6,none⟩ (.string x)):=(Mods.refl (Only gL) w).setb _ _
 have hgf:gL≠fb:=fun e=>p.fl (by rw [<- e];rfl)
 refine ⟨?_,?_,?_,?_,?_,?_,h.fb',h.fp',h.bp,?_⟩
 ·exact h.fn.setOther (a:=⟨gL,k*8+6,none⟩) hgf _
 ·subst hn
  have:=h.sl.setAt (k*8+6) (.string x) (by omega)
  rw [insL_set ls k hk] at this;rw [List.length_set];exact this
 ·exact h.sa.mods hms (fun k hk e=>p.la gL rfl (by rw [<- show k=gL from e];exact hk))
 ·exact h.sj.mods hms (fun k hk e=>p.lj gL rfl (by rw [<- show k=gL from e];exact hk))
 ·exact h.sb.mods hms (fun k hk e=>by have:=h.fb' k hk;rw [show k=gL from e] at this;omega)
 ·exact h.sp.mods hms (fun k hk e=>by have:=h.fp' k hk;rw [show k=gL from e] at this;omega)
 ·exact h.md.set (a:=⟨gL,k*8+6,none⟩) (.inl (.inr rfl)) _
theorem LInv.mid (h:LInv w0 fb off cs vL vA vJ ats js ls bs ps vB vP w) (p:LabPre w0 fb off cs vL vA vJ ls0 ats js) {v:Value} (hv:v=vB\/v=vP) {w1:World} (m1:Mods Nil' w w1) (m:Mods (fun k=>v.ownBlock=some k) w1 w') :
  w'.cell? ⟨fb,off+4,none⟩=some vB/\w'.cell? ⟨fb,off+5,none⟩=some vP/\∀ j,w'.frozen? ⟨fb,j,none⟩=false:=by
 have hs:=p.sz
 have hlt:=p.fn.lt
 have hb:¬ v.ownBlock=some fb:=by
  rcases hv with rfl | rfl
  ·exact fun e=>by have:=h.fb' _ e;omega
  ·exact fun e=>by have:=h.fp' _ e;omega
 have h1:=(h.fn.mods m1 (fun e=>e)).mods m hb
 refine ⟨?_,?_,h1.frozen⟩
 ·rw [h1.cell,Array.getElem?_setIfInBounds_ne (by omega),Array.getElem?_setIfInBounds_self_of_lt (by omega)]
 ·rw [h1.cell,Array.getElem?_setIfInBounds_self_of_lt (by simp;omega)]
theorem LInv.appB (h:LInv w0 fb off cs vL vA vJ ats js ls bs ps vB vP w) (p:LabPre w0 fb off cs vL vA vJ ls0 ats js) {x:ByteArray} {v':Value} (sl:Sl w' 9 1 v' (bs.length+1) (strL bs++[.string x]))
  (m:Mods (fun k=>vB.ownBlock=some k) w w') (loc:∀ k,v'.ownBlock=some k->vB.ownBlock=some k\/w.heap.size<=k) :
  LInv w0 fb off cs vL vA vJ ats js ls (bs++[x]) ps v' vP (w'.setCell ⟨fb,off+4,none⟩ v'):=by
 have hlt:=p.fn.lt
 have hsz:=h.md.size
 have nf:∀ k,v'.ownBlock=some k->w0.heap.size<=k:=fun k hk=>(loc k hk).elim (h.fb' k) (fun e=>by omega)
 have hms:Mods (Only fb) w' (w'.setCell ⟨fb,off+4,none⟩ v'):=(Mods.refl (Only fb) w').setb _ _
 have hb:¬ vB.ownBlock=some fb:=fun e=>by have:=h.fb' _ e;omega
 refine ⟨?_,?_,?_,?_,?_,?_,nf,h.fp',?_,?_⟩
 ·have h1:=(h.fn.mods m hb).set (off+4) v'
  have e:((cs.setIfInBounds (off+4) vB).setIfInBounds (off+5) vP).setIfInBounds (off+4) v'=(cs.setIfInBounds (off+4) v').setIfInBounds (off+5) vP:=by
   rw [Array.setIfInBounds_comm _ _ (by omega),Array.setIfInBounds_setIfInBounds,Array.setIfInBounds_comm _ _ (by omega)]
  rw [e] at h1;exact h1
 ·exact (h.sl.mods m (fun k hk e=>by have:=h.fb' k e;have:=p.sl.lt k hk;omega)).mods hms (fun k hk e=>p.fl (by rw [<- show k=fb from e];exact hk))
 ·exact (h.sa.mods m (fun k hk e=>by have:=h.fb' k e;have:=p.sa.lt k hk;omega)).mods hms (fun k hk e=>p.fa (by rw [<- show k=fb from e];exact hk))
 ·exact (h.sj.mods m (fun k hk e=>by have:=h.fb' k e;have:=p.sj.lt k hk;omega)).mods hms (fun k hk e=>p.fj (by rw [<- show k=fb from e];exact hk))
 ·have e:strL (bs++[x])=strL bs++[.string x]:=by simp [strL]
  rw [List.length_append,e]
  exact sl.mods hms (fun k hk e=>by have:=nf k hk;rw [show k=fb from e] at this;omega)
 ·exact (h.sp.mods m (fun k hk e=>h.bp k e hk)).mods hms (fun k hk e=>by have:=h.fp' k hk;rw [show k=fb from e] at this;omega)
 ·exact fun k hk e=>(loc k hk).elim (fun e1=>h.bp k e1 e) (fun e1=>by have:=h.sp.lt k e;omega)
 ·exact (h.md.step m (fun k hk e=>by have:=h.fb' k e;omega)).set (a:=⟨fb,off+4,none⟩) (.inl (.inl rfl)) _
theorem LInv.appP (h:LInv w0 fb off cs vL vA vJ ats js ls bs ps vB vP w) (p:LabPre w0 fb off cs vL vA vJ ls0 ats js) {x:Int} {v':Value} (sl:Sl w' 3 1 v' (ps.length+1) (intL ps++[.int .i64 x]))
  (m:Mods (fun k=>vP.ownBlock=some k) w w') (loc:∀ k,v'.ownBlock=some k->vP.ownBlock=some k\/w.heap.size<=k) :
  LInv w0 fb off cs vL vA vJ ats js ls bs (ps++[x]) vB v' (w'.setCell ⟨fb,off+5,none⟩ v'):=by
 have hlt:=p.fn.lt
 have hsz:=h.md.size
 have nf:∀ k,v'.ownBlock=some k->w0.heap.size<=k:=fun k hk=>(loc k hk).elim (h.fp' k) (fun e=>by omega)
 have hms:Mods (Only fb) w' (w'.setCell ⟨fb,off+5,none⟩ v'):=(Mods.refl (Only fb) w').setb _ _
 have hb:¬ vP.ownBlock=some fb:=fun e=>by have:=h.fp' _ e;omega
 refine ⟨?_,?_,?_,?_,?_,?_,h.fb',nf,?_,?_⟩
 ·have h1:=(h.fn.mods m hb).set (off+5) v'
  rw [Array.setIfInBounds_setIfInBounds] at h1;exact h1
 ·exact (h.sl.mods m (fun k hk e=>by have:=h.fp' k e;have:=p.sl.lt k hk;omega)).mods hms (fun k hk e=>p.fl (by rw [<- show k=fb from e];exact hk))
 ·exact (h.sa.mods m (fun k hk e=>by have:=h.fp' k e;have:=p.sa.lt k hk;omega)).mods hms (fun k hk e=>p.fa (by rw [<- show k=fb from e];exact hk))
 ·exact (h.sj.mods m (fun k hk e=>by have:=h.fp' k e;have:=p.sj.lt k hk;omega)).mods hms (fun k hk e=>p.fj (by rw [<- show k=fb from e];exact hk))
 ·exact (h.sb.mods m (fun k hk e=>h.bp k hk e)).mods hms (fun k hk e=>by have:=h.fb' k hk;rw [show k=fb from e] at this;omega)
 ·have e:intL (ps++[x])=intL ps++[.int .i64 x]:=by simp [intL]
  rw [List.length_append,e]
  exact sl.mods hms (fun k hk e=>by have:=nf k hk;rw [show k=fb from e] at this;omega)
 ·exact fun k hk e=>(loc k e).elim (fun e1=>h.bp k hk e1) (fun e1=>by have:=h.sb.lt k hk;omega)
 ·exact (h.md.step m (fun k hk e=>by have:=h.fp' k e;omega)).set (a:=⟨fb,off+5,none⟩) (.inl (.inl rfl)) _
end
end Go.Proofs.YtoknbkfclhmapaaGreatDoor
