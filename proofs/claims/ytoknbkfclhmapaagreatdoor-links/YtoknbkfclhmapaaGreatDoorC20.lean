import Derived.Test.YtoknbkfclhmapaaGreatDoorC03
import Derived.Test.YtoknbkfclhmapaaGreatDoorC16
import Derived.Test.YtoknbkfclhmapaaGreatDoorC18
import Derived.BigQuiet
import Derived.Deep.LoopGhost
import Derived.Deep.DeepCutAuto
namespace Go.Proofs.YtoknbkfclhmapaaGreatDoor
open Go.RowKit
structure HFn where
 vL:Value
 vA:Value
 vB:Value
 vP:Value
def HFn.nil:HFn:=⟨.slice none 0 0,.slice none 0 0,.slice none 0 0,.slice none 0 0⟩
def rowC (x:RFn × HFn):List Value:=[.string x.1.name,x.2.vL,x.2.vA,.int .i64 x.1.slots,x.2.vB,x.2.vP,.int .i64 0,.slice none 0 0]
theorem rowC_len (x:RFn × HFn):(rowC x).length=8:=rfl
structure FH (w:World) (h:HFn) (o:FOut) (lo hi:Nat):Prop where
 sl:Sl w 51 8 h.vL o.ls.length (insL o.ls)
 sa:Sl w 3 1 h.vA o.ats.length (intL o.ats)
 sb:Sl w 9 1 h.vB o.lab.length (strL (o.lab.map (·.1)))
 sp:Sl w 3 1 h.vP o.lab.length (intL (o.lab.map (·.2)))
 il:∀ k,h.vL.ownBlock=some k->lo<=k/\k<hi
 ia:∀ k,h.vA.ownBlock=some k->lo<=k/\k<hi
 ib:∀ k,h.vB.ownBlock=some k->lo<=k/\k<hi
 ip:∀ k,h.vP.ownBlock=some k->lo<=k/\k<hi
 dl:∀ k,h.vL.ownBlock=some k->h.vA.ownBlock≠some k/\h.vB.ownBlock≠some k/\h.vP.ownBlock≠some k
 da:∀ k,h.vA.ownBlock=some k->h.vB.ownBlock≠some k/\h.vP.ownBlock≠some k
 db:∀ k,h.vB.ownBlock=some k->h.vP.ownBlock≠some k
theorem FH.mods {w w':World} {h:HFn} {o:FOut} {lo hi:Nat} {S:Nat->Prop} (f:FH w h o lo hi) (m:Mods S w w') (hS:∀ k,lo<=k->k<hi->¬ S k):FH w' h o lo hi :=
 ⟨f.sl.mods m (fun k hk=>hS k (f.il k hk).1 (f.il k hk).2),f.sa.mods m (fun k hk=>hS k (f.ia k hk).1 (f.ia k hk).2),f.sb.mods m (fun k hk=>hS k (f.ib k hk).1 (f.ib k hk).2),f.sp.mods m (fun k hk=>hS k (f.ip k hk).1 (f.ip k hk).2),f.il,f.ia,f.ib,f.ip,f.dl,f.da,f.db⟩
structure PInv (w:World) (pb rb:Nat) (vM vF:Value) (ms:List RMap) (fs:List (RFn × HFn)) (os:List FOut) (bd:Nat->Nat):Prop where
 prog:Blk w pb #[vM,vF] 41
 maps:Sl w 48 4 vM ms.length (ms.flatMap RMap.cells)
 rows:Sl w 46 8 vF fs.length (fs.flatMap rowC)
 hp:pb<bd 0
 hr:rb<bd 0
 hm:∀ k,vM.ownBlock=some k->k<bd 0
 hf:∀ k,vF.ownBlock=some k->k<bd 0
 pr:pb≠rb
 mp:vM.ownBlock≠some pb
 mr:vM.ownBlock≠some rb
 fp:vF.ownBlock≠some pb
 fr:vF.ownBlock≠some rb
 mf:∀ k,vM.ownBlock=some k->vF.ownBlock≠some k
 mono:∀ i,i<os.length->bd i<=bd (i+1)
 top:bd os.length<=w.heap.size
 each:∀ i (h:i<os.length) (h':i<fs.length),FH w fs[i].2 os[i] (bd i) (bd (i+1))
section
variable {w w' : World} {pb rb : Nat} {vM vF : Value} {ms : List RMap} {fs : List (RFn × HFn)} {os : List FOut} {bd : Nat -> Nat}
theorem PInv.le (h:PInv w pb rb vM vF ms fs os bd):∀ i,i<=os.length->bd 0<=bd i
 | 0,_=>Nat.le_refl _
 | i+1,hi=>Nat.le_trans (h.le i (by omega)) (h.mono i (by omega))
theorem PInv.le' (h:PInv w pb rb vM vF ms fs os bd) (i:Nat):∀ j,i<=j->j<=os.length->bd i<=bd j:=by
 intro j hij
 induction j with
 | zero =>
  intro _
  obtain rfl:i=0:=by omega
  exact Nat.le_refl _
 | succ j ih =>
  intro hj
  rcases Nat.lt_or_ge i (j+1) with h1 | h1
  ·exact Nat.le_trans (ih (by omega) (by omega)) (h.mono j (by omega))
  ·obtain rfl:i=j+1:=by omega
   exact Nat.le_refl _
theorem PInv.read (h:PInv w pb rb vM vF ms fs os bd) (m:Mods (Only rb) w w'):PInv w' pb rb vM vF ms fs os bd:=by
 refine ⟨h.prog.mods m h.pr,h.maps.mods m (fun k hk e=>h.mr (by rw [<- show k=rb from e];exact hk)),h.rows.mods m (fun k hk e=>h.fr (by rw [<- show k=rb from e];exact hk)),h.hp,h.hr,h.hm,h.hf,h.pr,h.mp,h.mr,h.fp,h.fr,h.mf,h.mono,Nat.le_trans h.top m.size,fun i hi hi'=>(h.each i hi hi').mods m (fun k hk _ e=>?_)⟩
 have:=h.le i (by omega)
 have:=h.hr
 rw [show k=rb from e] at hk;omega
theorem PInv.quiet (h:PInv w pb rb vM vF ms fs os bd) (m:Mods Nil' w w'):PInv w' pb rb vM vF ms fs os bd:=h.read m.of_nil
theorem insL_setN (ls:List RIns) (k:Nat) (hk:k<ls.length) (x:ByteArray):(insL ls).set (k*8+7) (.string x)=insL (ls.set k { ls[k] with name:=x }):=by
 induction ls generalizing k with
 | nil=>simp at hk
 | cons i ls ih =>
  cases k with
  | zero=>simp [insL,RIns.cellsL,RIns.cells]
  | succ k =>
   have hk':k<ls.length:=by simpa using hk
   have:=ih k hk'
   simp only [insL,List.flatMap_cons,List.set_cons_succ,List.getElem_cons_succ] at this ⊢
   rw [List.set_append_right _ _ (by rw [RIns.cellsL_len];omega),RIns.cellsL_len,show (k+1)*8+7 - 8=k*8+7 by omega,this]
theorem PInv.name (h:PInv w pb rb vM vF ms fs os bd) (i:Nat) (hi:i<os.length) (hi':i<fs.length) (k:Nat) (hk:k<os[i].ls.length) (gL cL:Nat) (hv:fs[i].2.vL=.slice (some ⟨gL,0,none⟩) os[i].ls.length cL) (x:ByteArray) :
  PInv (w.setCell ⟨gL,k*8+7,none⟩ (.string x)) pb rb vM vF ms fs (os.set i { os[i] with ls:=os[i].ls.set k { os[i].ls[k] with name:=x } }) bd/\Mods (Only gL) w (w.setCell ⟨gL,k*8+7,none⟩ (.string x))/\bd 0<=gL:=by
 have hms:Mods (Only gL) w (w.setCell ⟨gL,k*8+7,none⟩ (.string x)):=(Mods.refl (Only gL) w).setb _ _
 have F:=h.each i hi hi'
 have hin:=F.il gL (by rw [hv];rfl)
 have h0:=h.le i (by omega)
 have hgp:gL≠pb:=by have:=h.hp;omega
 refine ⟨⟨h.prog.mods hms (fun e=>hgp e.symm),h.maps.mods hms (fun j hj e=>by have:=h.hm j hj;rw [show j=gL from e] at this;omega),h.rows.mods hms (fun j hj e=>by have:=h.hf j hj;rw [show j=gL from e] at this;omega),h.hp,h.hr,h.hm,h.hf,h.pr,h.mp,h.mr,h.fp,h.fr,h.mf,?_,?_,?_⟩,hms,by omega⟩
 ·intro j hj;exact h.mono j (by simpa using hj)
 ·simpa [World.setCell] using h.top
 ·intro j hj hj'
  have hjl:j<os.length:=by simpa using hj
  by_cases e:j=i
  ·subst e
   simp only [List.getElem_set_self]
   have hsl:=F.sl
   rw [hv] at hsl
   have hset:=hsl.setAt (k*8+7) (.string x) (by omega)
   rw [insL_setN _ k hk] at hset
   have hnl:∀ u,fs[j].2.vL.ownBlock=some u->u=gL:=by
    intro u hu;rw [hv] at hu;simpa [Value.ownBlock] using hu.symm
   refine ⟨?_,F.sa.mods hms (fun u hu e=>(F.dl gL (by rw [hv];rfl)).1 (by rw [<- show u=gL from e];exact hu)),F.sb.mods hms (fun u hu e=>(F.dl gL (by rw [hv];rfl)).2.1 (by rw [<- show u=gL from e];exact hu)),F.sp.mods hms (fun u hu e=>(F.dl gL (by rw [hv];rfl)).2.2 (by rw [<- show u=gL from e];exact hu)),F.il,F.ia,F.ib,F.ip,F.dl,F.da,F.db⟩
   show Sl _ _ _ _ _ _
   rw [hv,List.length_set];exact hset
  ·simp only [List.getElem_set_ne (Ne.symm e)]
   refine (h.each j hjl hj').mods hms (fun u h1 h2 e2=>?_)
   rw [show u=gL from e2] at h1 h2
   rcases Nat.lt_or_ge j i with hji | hji
   ·have:=h.le' (j+1) i (by omega) (by omega);omega
   ·have:=h.le' (i+1) j (by omega) (by omega);omega
end
def refI (s:ByteArray) (ms:List RMap) (i:Nat):List RIns->List (RIns × Int)->Nat->RS->Option (List RIns × Nat × RS)
 | done,[],c,r=>some (done,c,r)
 | done,(x,a)::rest,c,r =>
  if x.name=T [63] then
   (if (rnm s (rw2 s (rb s r).2).2).2.bad=true\/((rb s r).1:Int)≠i\/((rw2 s (rb s r).2).1:Int)≠a then none
   else if x.word=WIDE/\placeM (rnm s (rw2 s (rb s r).2).2).1 (ms.map (·.name))<0 then none
   else refI s ms i (done++[{ x with name:=(rnm s (rw2 s (rb s r).2).2).1 }]) rest (c+1) (rnm s (rw2 s (rb s r).2).2).2)
  else refI s ms i (done++[x]) rest c r
def refF (s:ByteArray) (ms:List RMap):List FOut->List FOut->Nat->RS->Option (List FOut × Nat × RS)
 | done,[],c,r=>some (done,c,r)
 | done,o::rest,c,r=>match refI s ms done.length [] (o.ls.zip o.ats) c r with
  | none=>none
  | some (ls,c',r')=>refF s ms (done++[{ o with ls:=ls }]) rest c' r'
def refsM (s:ByteArray) (ms:List RMap) (os:List FOut) (r:RS):Option (List FOut × RS) :=
 match refF s ms [] os 0 (rw2 s r).2 with
 | none=>none
 | some (os',c,r')=>if c=(rw2 s r).1 then some (os',r') else none
theorem rw2_pos (s:ByteArray) (r:RS) (h:r.pos<=s.size):(rw2 s r).2.pos<=s.size:=rb_pos s _ (rb_pos s r h)
theorem rnm_pos (s:ByteArray) (r:RS) (h:r.pos<=s.size):(rnm s r).2.pos<=s.size:=by
 have h1:=rb_pos s r h
 unfold rnm
 dsimp only
 split
 ·exact h1
 ·rename_i hc
  simp at hc
  show (rb s r).2.pos+(rb s r).1<=s.size
  omega
theorem Sl.atR {w:World} {v:Value} {n:Nat} {fs:List (RFn × HFn)} {o:Option Addr} {cap:Nat} (h:Sl w 46 8 v n (fs.flatMap rowC)) (hn:n=fs.length) (hv:v=.slice o n cap) :
  ∀ k (_:k<fs.length),∃ g,o=some ⟨g,0,none⟩/\∀ j (hj:j<fs.length),∀ c,c<8->w.cell? ⟨g,j*8+c,none⟩=(rowC fs[j])[c]?:=by
 intro k hk;obtain ⟨o',cap',rfl,h2⟩:=h.view
 cases hv
 obtain ⟨g,cs,rfl,hb,ht,_⟩:=h2 (by omega)
 subst hn
 refine ⟨g,rfl,fun j hj c hc=>?_⟩
 rw [take_cell hb ht _ (by omega)]
 exact flat_get rowC 8 rowC_len fs j c hj hc
structure RowAt (g i:Nat) (vL vA:Value) (w:World):Prop where
 c1:w.cell? ⟨g,i*8+1,none⟩=some vL
 c2:w.cell? ⟨g,i*8+2,none⟩=some vA
theorem PInv.row {w:World} {pb rb gF cF nF:Nat} {vM:Value} {ms:List RMap} {fs:List (RFn × HFn)} {os:List FOut} {bd:Nat->Nat} (h:PInv w pb rb vM (.slice (some ⟨gF,0,none⟩) nF cF) ms fs os bd) (hn:nF=fs.length) (i:Nat) (hi:i<fs.length) {f:RFn} {vL vA vB vP:Value} (hf:fs[i]=(f,⟨vL,vA,vB,vP⟩)) :
  RowAt gF i vL vA w:=by
 subst hn;obtain ⟨g,hg,hc⟩:=h.rows.atR rfl rfl i hi
 cases hg
 have h1:=hc i hi 1 (by omega)
 have h2:=hc i hi 2 (by omega)
 rw [hf] at h1 h2
 exact ⟨h1,h2⟩
theorem PInv.fh {w:World} {pb rb:Nat} {vM vF:Value} {ms:List RMap} {fs:List (RFn × HFn)} {done rest:List FOut} {o:FOut} {bd:Nat->Nat} (h:PInv w pb rb vM vF ms fs (done++o::rest) bd) (hi:done.length<fs.length) {f:RFn} {hh:HFn} (hf:fs[done.length]=(f,hh)) :
  FH w hh o (bd done.length) (bd (done.length+1)):=by
 have:=h.each done.length (by simp) hi
 rw [hf] at this
 simpa using this
structure InsAt (gF gL gA i k:Nat) (vL vA:Value) (x:RIns) (a:Int) (w:World):Prop where
 c1:w.cell? ⟨gF,i*8+1,none⟩=some vL
 c2:w.cell? ⟨gF,i*8+2,none⟩=some vA
 ca:w.cell? ⟨gA,k,none⟩=some (.int .i64 a)
 e0:w.cell? ⟨gL,k*8,none⟩=some (.string x.word)
 e7:w.cell? ⟨gL,k*8+7,none⟩=some (.string x.name)
 ef:∀ j,w.frozen? ⟨gL,j,none⟩=false
theorem PInv.insAt {w:World} {pb rb gF cF nF gL cL gA cA nL nA:Nat} {vM vB vP:Value} {ms:List RMap} {fs:List (RFn × HFn)} {done rest:List FOut} {o:FOut} {bd:Nat->Nat} {d tl:List RIns} {x:RIns} {a:Int} {f:RFn}
  (h:PInv w pb rb vM (.slice (some ⟨gF,0,none⟩) nF cF) ms fs (done++{ o with ls:=d++x::tl }::rest) bd) (hn:nF=fs.length) (hi:done.length<fs.length)
  (hf:fs[done.length]=(f,⟨.slice (some ⟨gL,0,none⟩) nL cL,.slice (some ⟨gA,0,none⟩) nA cA,vB,vP⟩)) (hL:nL=(d++x::tl).length) (hA:nA=o.ats.length) (ha:o.ats[d.length]?=some a) :
  InsAt gF gL gA done.length d.length (.slice (some ⟨gL,0,none⟩) nL cL) (.slice (some ⟨gA,0,none⟩) nA cA) x a w:=by
 obtain ⟨c1,c2⟩:=h.row hn done.length hi hf
 have F:=h.fh hi hf
 subst hL hA
 obtain ⟨e0,e1,e2,e3,e4,e5,e6,e7,ef⟩:=F.sl.at8 rfl d.length (by simp)
 simp only [List.getElem_append_right (Nat.le_refl d.length),Nat.sub_self,List.getElem_cons_zero] at e0 e7
 obtain ⟨g,hg,cellA⟩:=F.sa.at rfl d.length (List.getElem?_eq_some_iff.1 ha).1
 cases hg
 refine ⟨c1,c2,?_,e0,e7,ef⟩
 rw [cellA d.length (List.getElem?_eq_some_iff.1 ha).1,intL,List.getElem?_map,ha];rfl
theorem PInv.nameAt {w:World} {pb rb gL cL nL:Nat} {vM vF vA vB vP:Value} {ms:List RMap} {fs:List (RFn × HFn)} {done rest:List FOut} {o:FOut} {bd:Nat->Nat} {d tl:List RIns} {x:RIns} {f:RFn}
  (h:PInv w pb rb vM vF ms fs (done++{ o with ls:=d++x::tl }::rest) bd) (hi:done.length<fs.length)
  (hf:fs[done.length]=(f,⟨.slice (some ⟨gL,0,none⟩) nL cL,vA,vB,vP⟩)) (hL:nL=(d++x::tl).length) (nm:ByteArray) :
  PInv (w.setCell ⟨gL,d.length*8+7,none⟩ (.string nm)) pb rb vM vF ms fs (done++{ o with ls:=d++{ x with name:=nm }::tl }::rest) bd/\bd 0<=gL:=by
 have hg:(done++{ o with ls:=d++x::tl }::rest)[done.length]'(by simp)={ o with ls:=d++x::tl }:=by simp
 have:=h.name done.length (by simp) hi d.length (by rw [hg];simp) gL cL (by rw [hf,hg,<- hL]) nm
 refine ⟨?_,this.2.2⟩
 have h1:=this.1
 simp only [hg,List.set_append_right _ _ (Nat.le_refl done.length),Nat.sub_self,List.set_cons_zero] at h1
 have e:∀ (hh:d.length<(d++x::tl).length),(d++x::tl)[d.length]'hh=x:=by intro hh;simp
 simp only [List.set_append_right _ _ (Nat.le_refl d.length),Nat.sub_self,List.set_cons_zero,e] at h1
 exact h1
def OnlyFns (rb:Nat) (bd:Nat->Nat):Nat->Prop:=fun k=>k=rb\/bd 0<=k
structure RefO (w0:World) (pb rb':Nat) (vM vF:Value) (ms:List RMap) (fs:List (RFn × HFn)) (bd:Nat->Nat) (s:ByteArray) (os0:List FOut) (r0:RS) (g:Nat) (cv iv:Value) (w:World):Prop where
 ex:∃ (done rest:List FOut) (c:Nat) (r:RS),cv=.int .i64 c/\iv=.int .i64 done.length/\PInv w pb rb' vM vF ms fs (done++rest) bd/\RdAt w rb' s r/\refF s ms done rest c r=refF s ms [] os0 0 r0/\r.pos<=s.size/\g=rest.length /\
  done.length+rest.length=fs.length/\c<=done.length*1000/\Mods (OnlyFns rb' bd) w0 w/\∀ o∈rest,o.ls.length<=1000/\o.ats.length=o.ls.length
structure RefN (w0:World) (pb rb':Nat) (vM vF:Value) (ms:List RMap) (fs:List (RFn × HFn)) (bd:Nat->Nat) (s:ByteArray) (os0:List FOut) (r0:RS) (done rest:List FOut) (o:FOut) (g:Nat) (cv kv:Value) (w:World):Prop where
 ex:∃ (d:List RIns) (t:List (RIns × Int)) (c:Nat) (r:RS),cv=.int .i64 c/\kv=.int .i64 d.length/\PInv w pb rb' vM vF ms fs (done++{ o with ls:=d++t.map (·.1) }::rest) bd/\RdAt w rb' s r /\
  (match refI s ms done.length d t c r with
   | none=>none
   | some (ls,c',r')=>refF s ms (done++[{ o with ls:=ls }]) rest c' r')=refF s ms [] os0 0 r0/\r.pos<=s.size/\g=t.length/\d.length+t.length=o.ls.length/\t.map (·.2)=o.ats.drop d.length/\c<=done.length*1000+d.length/\Mods (OnlyFns rb' bd) w0 w
def RefPost (w:World) (pb rb':Nat) (vM vF:Value) (ms:List RMap) (fs:List (RFn × HFn)) (bd:Nat->Nat) (s:ByteArray) (os:List FOut) (r:RS) (e:Ending) (w':World):Prop :=
 e=.returned (.bool (refsM s ms os r).isSome)/\Mods (OnlyFns rb' bd) w w'/\∀ o,refsM s ms os r=some o->PInv w' pb rb' vM vF ms fs o.1 bd/\RdAt w' rb' s o.2
set_option maxRecDepth 100000 in
set_option maxHeartbeats 1000000 in
theorem refs_any (w:World) (pb rb':Nat) (vM vF:Value) (ms:List RMap) (fs:List (RFn × HFn)) (bd:Nat->Nat) (s:ByteArray) (os:List FOut) (r:RS) (hs:s.size<=maxLen) (hI:PInv w pb rb' vM vF ms fs os bd) (hr:RdAt w rb' s r) (hp:r.pos<=s.size)
  (hl:os.length=fs.length) (hf:fs.length<=1000) (hm:ms.length<=1000) (ho:∀ o∈os,o.ls.length<=1000/\o.ats.length=o.ls.length) :
  Calls Tryz.prog 28 #[.pointer (some ⟨pb,0,none⟩),.pointer (some ⟨rb',0,none⟩)] w fun e w'=>RefPost w pb rb' vM vF ms fs bd s os r e w':=by
 obtain ⟨oF,cF,rfl,_⟩:=hI.rows.view
 have hpos1:=rw2_pos s r hp
 have hn2:=rw2_le s r
 have HM:Hid (refsM s ms os r=match refF s ms [] os 0 (rw2 s r).2 with
  | none=>none
  | some (os',c,r')=>if c=(rw2 s r).1 then some (os',r') else none):=rfl
 go_enter Tryz.func28,Tryz.ntmps28
 go_wp2_with fail
 refine (rtwo_any rb' s r _ hs hr).mono ?_
 rintro e w1 ⟨rfl,h1,m1⟩
 have hI1:=hI.read m1
 have M1:Mods (OnlyFns rb' bd) w w1:=m1.mono (fun _ _ e=>.inl e)
 clear m1;generalize rw2 s r=q at *;obtain ⟨n,r1⟩:=q;simp only at *;go_wp2_with fail
 go_loopg [6,7] os.length (fun g cv iv wx=>RefO w pb rb' vM (.slice oF fs.length cF) ms fs bd s os r1 g cv iv wx)
 case atStart=>exact ⟨[],os,0,r1,rfl,rfl,hI1,h1,rfl,hpos1,rfl,by simp [hl],by omega,M1,ho⟩
 case round =>
  obtain ⟨done,rest,c,r2,rfl,rfl,hI2,h2,HB0,hpos2,rfl,hlen,hcc,M2,ho2⟩:=hrel.ex
  have HB:Hid _:=HB0
  clear HB0 hrel hI1 h1 M1 hpos1
  have p1:wr.cell? ⟨pb,1,none⟩=some (.slice oF fs.length cF):=hI2.prog.cell 1
  cases rest with
  | nil =>
   have hdl:done.length=fs.length:=by simpa using hlen
   have HE:Hid (refsM s ms os r=if c=n then some (done,r2) else none):=by
    rw [Hid,HM.out,<- HB.out];rfl
   go_wp2_with fail;go_ret
   refine ⟨?_,M2,fun o ho=>?_⟩
   ·rw [HE.out]
    by_cases hcn:c=n
    ·simp [hcn]
    ·have:¬ (c:Int)=(n:Int):=by omega
     simp [hcn,this]
   ·rw [HE.out] at ho
    split at ho
    ·cases ho
     exact ⟨by simpa using hI2,h2⟩
    ·cases ho
  | cons o rest =>
   have hil:done.length<fs.length:=by simp at hlen;omega
   obtain ⟨gF,rfl,_⟩:=hI2.rows.atR rfl rfl done.length hil
   obtain ⟨ho3,ho4⟩:=ho2 o (by simp)
   obtain ⟨f,⟨vL,vA,vB,vP⟩,hfs⟩:∃ f h,fs[done.length]=(f,h):=⟨_,_,rfl⟩
   have HFS:=hid hfs;clear hfs
   obtain ⟨oL,cL,hvL,_⟩:=(hI2.fh hil HFS.out).sl.view
   obtain ⟨oA,cA,hvA,_⟩:=(hI2.fh hil HFS.out).sa.view
   simp only at hvL hvA
   subst hvL hvA;have HO4:=hid ho4
   have hal:o.ats.length<=1000:=by omega
   clear ho4
   have HLN:Hid (done.length+(rest.length+1)=fs.length):=by rw [Hid];simpa using hlen
   clear hlen
   have hstart:RefN w pb rb' vM (.slice (some ⟨gF,0,none⟩) fs.length cF) ms fs bd s os r1 done rest o o.ls.length (.int .i64 c) (.int .i64 (0:Nat)) wr:=by
    have hz1:(o.ls.zip o.ats).map (·.1)=o.ls:=by rw [List.map_fst_zip];have:=HO4.out;omega
    have hz2:(o.ls.zip o.ats).map (·.2)=o.ats:=by rw [List.map_snd_zip];have:=HO4.out;omega
    refine ⟨[],o.ls.zip o.ats,c,r2,rfl,rfl,?_,h2,?_,hpos2,?_,?_,?_,by simp;omega,M2⟩
    ·rw [hz1];exact hI2
    ·rw [<- HB.out,refF]<;>(cases refI s ms done.length [] (o.ls.zip o.ats) c r2<;>rfl)
    ·have:=HO4.out;simp;omega
    ·have:=HO4.out;simp;omega
    ·rw [hz2];rfl
   go_wp2_with fail
   go_loopg [6,9] o.ls.length (fun g cv kv wx=>RefN w pb rb' vM (.slice (some ⟨gF,0,none⟩) fs.length cF) ms fs bd s os r1 done rest o g cv kv wx)
   case atStart=>exact hstart
   case round =>
    obtain ⟨d,t,c',r3,rfl,rfl,hI3,h3,HB1,hpos3,rfl,hdt,HT0,hcc3,M3⟩:=hrel.ex
    have HBN:Hid _:=HB1
    have HT:Hid _:=HT0
    clear HB1 HT0 hrel hstart h2 M2 hI2 HB;obtain ⟨x1,x2⟩:=hI3.row rfl done.length hil HFS.out
    cases t with
    | nil =>
     have hdl:d.length=o.ls.length:=by simpa using hdt
     have HBX:Hid (refF s ms (done++[{ o with ls:=d }]) rest c' r3=refF s ms [] os 0 r1):=by rw [Hid,<- HBN.out];rfl
     have hln:=HLN.out
     have HD:Hid _:=hdl
     have hdl2:d.length<=1000:=by omega
     go_wp2_with fail
     go_roundg rest.length
     case measure=>simp
     case rel=>exact ⟨done++[{ o with ls:=d }],rest,c',r3,rfl,by simp,by simpa using hI3,h3,HBX.out,hpos3,rfl,by simp;omega,by simp;omega,M3,fun o ho=>ho2 o (by simp [ho])⟩
    | cons y t =>
     obtain ⟨⟨xw,x32,xd,xs,xj,xn,xl,xm⟩,a⟩:=y
     have hdlt:d.length<o.ls.length:=by simp at hdt;omega
     have hdla:d.length<o.ats.length:=by have:=HO4.out;omega
     have hat:o.ats[d.length]?=some a:=by
      have:=congrArg (fun l:List Int=>l[0]?) HT.out
      simpa using this.symm
     have HT2:Hid (t.map (·.2)=o.ats.drop (d.length+1)):=by
      have:=congrArg List.tail HT.out
      rw [Hid];simpa [List.tail_drop] using this
     have F:=hI3.fh hil HFS.out
     obtain ⟨gL,csL,hgL,_⟩:∃ g cs,oL=some ⟨g,0,none⟩/\True:=by
      obtain ⟨o',cap',hv,h2⟩:=F.sl.view
      simp only at hv
      obtain ⟨g,cs,hg,_⟩:=h2 (by rw [List.length_append,List.map_cons,List.length_cons];omega)
      exact ⟨g,cs,(Value.slice.inj hv).1.trans hg,trivial⟩
     subst hgL;obtain ⟨gA,rfl,_⟩:=F.sa.at rfl d.length hdla;clear F
     simp only [List.map_cons] at hI3
     have HLZ:Hid (o.ls.length=(d++(⟨xw,x32,xd,xs,xj,xn,xl,xm⟩:RIns)::t.map (·.1)).length):=by rw [Hid];simp at hdt ⊢;omega
     have HAT:Hid _:=hat
     obtain ⟨_,_,ca,e0,e7,ef⟩:=hI3.insAt rfl hil HFS.out HLZ.out rfl HAT.out
     simp only at e0 e7
     have HDT:Hid (d.length+(t.length+1)=o.ls.length):=by rw [Hid];simpa using hdt
     clear hdt hat HT
     by_cases hq:xm=T [63]
     ·have q:=lit_eq hq
      have HB2:=HBN.out
      rw [refI,if_pos hq] at HB2
      have HB3:Hid _:=HB2
      have hpos4:=rb_pos s r3 hpos3
      have hpos5:=rw2_pos s _ hpos4
      have hpos6:=rnm_pos s _ hpos5
      have l4:=rb_le s r3
      have l5:=rw2_le s (rb s r3).2
      clear HB2 HBN hq;go_wp2_with fail
      refine (rbyte_any rb' s r3 _ hs h3).mono ?_
      rintro e w4 ⟨rfl,h4,m4⟩
      have hI4:=hI3.read m4
      have M4:Mods (OnlyFns rb' bd) w w4:=M3.step m4 (fun _ _ e=>.inl e)
      clear m4 M3 hI3 h3;generalize rb s r3=qa at *;obtain ⟨na,r4⟩:=qa;simp only at *;go_wp2_with fail
      refine (rtwo_any rb' s r4 _ hs h4).mono ?_
      rintro e w5 ⟨rfl,h5,m5⟩
      have hI5:=hI4.read m5
      have M5:Mods (OnlyFns rb' bd) w w5:=M4.step m5 (fun _ _ e=>.inl e)
      clear m5 M4 hI4 h4;generalize rw2 s r4=qb at *;obtain ⟨nb,r5⟩:=qb;simp only at *;go_wp2_with fail
      refine (rname_any rb' s r5 _ hs hpos5 h5).mono ?_
      rintro e w6 ⟨rfl,h6,m6⟩
      have hI6:=hI5.read m6
      have M6:Mods (OnlyFns rb' bd) w w6:=M5.step m6 (fun _ _ e=>.inl e)
      clear m6 M5 hI5 h5;generalize rnm s r5=qc at *;obtain ⟨nc,r6,bad⟩:=qc;simp only at *;clear ca e0 e7 ef x1 x2 p1;obtain ⟨x1,x2,ca,e0,e7,ef⟩:=hI6.insAt rfl hil HFS.out HLZ.out rfl HAT.out
      simp only at e0 e7
      have hbd:w6.cell? ⟨rb',2,none⟩=some (.bool bad):=Blk.cell h6 2
      cases bad with
      | true =>
       have HN:Hid (refsM s ms os r=none):=by rw [Hid,HM.out,<- HB3.out];simp
       go_wp2_with fail;go_ret
       exact ⟨by rw [HN.out];rfl,M6,fun o ho=>by rw [HN.out] at ho;cases ho⟩
      | false =>
      by_cases hni:na=done.length
      case neg =>
       have hni':¬ (na:Int)=(done.length:Int):=by omega
       have HN:Hid (refsM s ms os r=none):=by rw [Hid,HM.out,<- HB3.out,if_pos (.inr (.inl hni'))]
       go_wp2_with fail;go_ret
       exact ⟨by rw [HN.out];rfl,M6,fun o ho=>by rw [HN.out] at ho;cases ho⟩
      by_cases hnb:(nb:Int)=a
      case neg =>
       have HN:Hid (refsM s ms os r=none):=by rw [Hid,HM.out,<- HB3.out,if_pos (.inr (.inr hnb))]
       subst hni;go_wp2_with fail;go_ret
       exact ⟨by rw [HN.out];rfl,M6,fun o ho=>by rw [HN.out] at ho;cases ho⟩
      have HB4:=HB3.out
      rw [if_neg (by rw [hni,hnb];simp)] at HB4
      have HB5:Hid _:=HB4
      clear HB3 HB4;obtain ⟨hI7,hgl⟩:=hI6.nameAt hil HFS.out HLZ.out nc
      have hgFL:gF<gL:=by have:=hI6.hf gF rfl;omega
      have hpL:pb<gL:=by have:=hI6.hp;omega
      have hrL:rb'<gL:=by have:=hI6.hr;omega
      have h7:RdAt (w6.setCell ⟨gL,d.length*8+7,none⟩ (.string nc)) rb' s ⟨r6,false⟩:=Blk.setOther h6 (a:=⟨gL,d.length*8+7,none⟩) (show gL≠rb' by omega) _
      have M7:Mods (OnlyFns rb' bd) w (w6.setCell ⟨gL,d.length*8+7,none⟩ (.string nc)):=M6.set (a:=⟨gL,d.length*8+7,none⟩) (.inl (.inr hgl)) _
      have hsc:=store_any pb nc ms vM _ (hI7.prog.cell 0) hI7.maps hm
      have H7:Hid _:=hI7
      have hdd:=HDT.out
      clear hI7 hI6 h6 M6
      by_cases hww:xw=WIDE
      ·have q2:=lit_eq hww
       by_cases hst:placeM nc (ms.map (·.name))<0
       ·have HN:Hid (refsM s ms os r=none):=by rw [Hid,HM.out,<- HB5.out,if_pos ⟨hww,hst⟩]
        clear hww
        go_wp2_with (go_at_call 12;refine hsc.mono ?_;rintro e w8 ⟨rfl,rfl⟩)
        go_ret
        exact ⟨by rw [HN.out];rfl,M7,fun o ho=>by rw [HN.out] at ho;cases ho⟩
       ·have HB6:=HB5.out
        rw [if_neg (fun e=>hst e.2)] at HB6
        have HB7:Hid _:=HB6
        clear HB5 HB6 hww
        go_wp2_with (go_at_call 12;refine hsc.mono ?_;rintro e w8 ⟨rfl,rfl⟩)
        go_roundg t.length
        case measure=>simp
        case rel=>exact ⟨d++[⟨xw,x32,xd,xs,xj,xn,xl,nc⟩],t,c'+1,⟨r6,false⟩,by go_num,by simp,by simpa using H7.out,h7,HB7.out,hpos6,rfl,by simp;omega,by rw [HT2.out];simp,by simp;omega,M7⟩
      ·have q2:=lit_ne hww
       have HB6:=HB5.out
       rw [if_neg (fun e=>hww e.1)] at HB6
       have HB7:Hid _:=HB6
       clear HB5 HB6 hww;go_wp2_with fail
       go_roundg t.length
       case measure=>simp
       case rel=>exact ⟨d++[⟨xw,x32,xd,xs,xj,xn,xl,nc⟩],t,c'+1,⟨r6,false⟩,by go_num,by simp,by simpa using H7.out,h7,HB7.out,hpos6,rfl,by simp;omega,by rw [HT2.out];simp,by simp;omega,M7⟩
     ·have q:=lit_ne hq
      have HBX:Hid ((match refI s ms done.length (d++[⟨xw,x32,xd,xs,xj,xn,xl,xm⟩]) t c' r3 with
        | none=>none
        | some (ls,c'',r'')=>refF s ms (done++[{ o with ls:=ls }]) rest c'' r'')=refF s ms [] os 0 r1):=by
       have:=HBN.out
       rw [refI,if_neg hq] at this;exact this
      have HQ:Hid _:=hq
      clear hq HBN;go_wp2_with fail
      go_roundg t.length
      case measure=>simp
      case rel =>
       have hdd:=HDT.out
       exact ⟨d++[⟨xw,x32,xd,xs,xj,xn,xl,xm⟩],t,c',r3,rfl,by simp,by simpa using hI3,h3,HBX.out,hpos3,rfl,by simp;omega,by rw [HT2.out];simp,by simp;omega,M3⟩
def rdMaps (s:ByteArray):Nat->RS->List RMap->List RMap × RS
 | 0,r,acc=>(acc,r)
 | k+1,r,acc=>if r.bad=true then (acc,r) else
  rdMaps s k (rb s (rb s (rb s (rnm s r).2).2).2).2 (acc++[⟨(rnm s r).1,(rb s (rnm s r).2).1,(rb s (rb s (rnm s r).2).2).1,(rb s (rb s (rb s (rnm s r).2).2).2).1⟩])
def rdFns (s:ByteArray):Nat->RS->List RFn->Nat->List RFn × Nat × RS
 | 0,r,acc,t=>(acc,t,r)
 | k+1,r,acc,t=>if r.bad=true then (acc,t,r) else
  rdFns s k (rw2 s (rnm s r).2).2 (acc++[⟨(rnm s r).1,(rw2 s (rnm s r).2).1⟩]) (t+(rw2 s (rnm s r).2).1)
def rdBodies (s:ByteArray):List RFn->RS->List FOut->Option (List FOut × RS)
 | [],r,acc=>some (acc,r)
 | f::l,r,acc=>match bodyM s f.slots r with
  | none=>none
  | some o=>rdBodies s l o.r (acc++[o])
def HEAD:ByteArray:=T [83,80,79,76,1]
def openMid (s:ByteArray) (ms:List RMap) (fs:List RFn) (t:Nat) (r:RS):Option (List RMap × List RFn × List FOut) :=
 if r.bad=true\/risingM ms fs=false\/200<t then none
 else match rdBodies s fs r [] with
  | none=>none
  | some (os,r3)=>match refsM s ms os r3 with
   | none=>none
   | some (os',r4)=>if r4.bad=false/\r4.pos=s.size then some (ms,fs,os') else none
def openM (s:ByteArray):Option (List RMap × List RFn × List FOut) :=
 if s.size<5\/s.extract 0 5≠HEAD then none
 else
  let n:=rb s ⟨5,false⟩
  let m:=rdMaps s n.1 n.2 []
  let n2:=rb s m.2
  let f:=rdFns s n2.1 n2.2 [] 0
  openMid s m.1 f.1 f.2.1 f.2.2
structure OInv (w0:World) (pb rb':Nat) (s:ByteArray) (r:RS) (ms:List RMap) (fs:List RFn) (vM vF:Value) (w:World):Prop where
 rd:RdAt w rb' s r
 pg:Blk w pb #[vM,vF] 41
 sm:Sl w 48 4 vM ms.length (ms.flatMap RMap.cells)
 sf:Sl w 46 8 vF fs.length (fs.flatMap RFn.cells)
 fm:∀ k,vM.ownBlock=some k->pb<k
 ff:∀ k,vF.ownBlock=some k->pb<k
 mf:∀ k,vM.ownBlock=some k->vF.ownBlock≠some k
 rp:rb'<pb
 w0r:w0.heap.size<=rb'
 md:Mods Nil' w0 w
section
variable {w0 w w' : World} {pb rb' : Nat} {s : ByteArray} {r r' : RS} {ms : List RMap} {fs : List RFn} {vM vF : Value}
theorem OInv.quiet (h:OInv w0 pb rb' s r ms fs vM vF w) (m:Mods Nil' w w'):OInv w0 pb rb' s r ms fs vM vF w' :=
 ⟨Blk.mods h.rd m (fun e=>e),h.pg.mods m (fun e=>e),h.sm.mods m (fun _ _ e=>e),h.sf.mods m (fun _ _ e=>e),h.fm,h.ff,h.mf,h.rp,h.w0r,h.md.trans m⟩
theorem OInv.read (h:OInv w0 pb rb' s r ms fs vM vF w) (m:Mods (Only rb') w w') (hr:RdAt w' rb' s r'):OInv w0 pb rb' s r' ms fs vM vF w':=by
 have hrp:=h.rp
 have h0:=h.w0r
 exact ⟨hr,h.pg.mods m (fun e=>by have:pb=rb':=e;omega),h.sm.mods m (fun k hk e=>by have:=h.fm k hk;rw [show k=rb' from e] at this;omega),h.sf.mods m (fun k hk e=>by have:=h.ff k hk;rw [show k=rb' from e] at this;omega),h.fm,h.ff,h.mf,h.rp,h.w0r,
  h.md.step m (fun k hk e=>by have:k=rb':=e;omega)⟩
theorem OInv.appM (h:OInv w0 pb rb' s r ms fs vM vF w) {x:RMap} {v':Value} (sl:Sl w' 48 4 v' (ms.length+1) (ms.flatMap RMap.cells++x.cells))
  (m:Mods (fun k=>vM.ownBlock=some k) w w') (loc:∀ k,v'.ownBlock=some k->vM.ownBlock=some k\/w.heap.size<=k) :
  OInv w0 pb rb' s r (ms++[x]) fs v' vF (w'.setCell ⟨pb,0,none⟩ v'):=by
 have hrp:=h.rp
 have h0:=h.w0r
 have hpl:=h.pg.lt
 have nf:∀ k,v'.ownBlock=some k->pb<k:=fun k hk=>(loc k hk).elim (h.fm k) (fun e=>by omega)
 have hms:Mods (Only pb) w' (w'.setCell ⟨pb,0,none⟩ v'):=(Mods.refl (Only pb) w').setb _ _
 have hb:¬ vM.ownBlock=some pb:=fun e=>by have:=h.fm _ e;omega
 have hb2:¬ vM.ownBlock=some rb':=fun e=>by have:=h.fm _ e;omega
 refine ⟨(Blk.mods h.rd m hb2).setOther (a:=⟨pb,0,none⟩) (show pb≠rb' by omega) _,(h.pg.mods m hb).set 0 v',?_,?_,nf,h.ff,?_,h.rp,h.w0r,?_⟩
 ·have e:(ms++[x]).flatMap RMap.cells=ms.flatMap RMap.cells++x.cells:=by simp
  rw [List.length_append,e]
  exact sl.mods hms (fun k hk e=>by have:=nf k hk;rw [show k=pb from e] at this;omega)
 ·exact (h.sf.mods m (fun k hk e=>h.mf k e hk)).mods hms (fun k hk e=>by have:=h.ff k hk;rw [show k=pb from e] at this;omega)
 ·exact fun k hk e=>(loc k hk).elim (fun e1=>h.mf k e1 e) (fun e1=>by have:=h.sf.lt k e;omega)
 ·exact (h.md.step m (fun k hk e=>by have:=h.fm k e;omega)).set (a:=⟨pb,0,none⟩) (.inr (by show w0.heap.size<=pb;omega)) _
theorem OInv.appF (h:OInv w0 pb rb' s r ms fs vM vF w) {x:RFn} {v':Value} (sl:Sl w' 46 8 v' (fs.length+1) (fs.flatMap RFn.cells++x.cells))
  (m:Mods (fun k=>vF.ownBlock=some k) w w') (loc:∀ k,v'.ownBlock=some k->vF.ownBlock=some k\/w.heap.size<=k) :
  OInv w0 pb rb' s r ms (fs++[x]) vM v' (w'.setCell ⟨pb,1,none⟩ v'):=by
 have hrp:=h.rp
 have h0:=h.w0r
 have hpl:=h.pg.lt
 have nf:∀ k,v'.ownBlock=some k->pb<k:=fun k hk=>(loc k hk).elim (h.ff k) (fun e=>by omega)
 have hms:Mods (Only pb) w' (w'.setCell ⟨pb,1,none⟩ v'):=(Mods.refl (Only pb) w').setb _ _
 have hb:¬ vF.ownBlock=some pb:=fun e=>by have:=h.ff _ e;omega
 have hb2:¬ vF.ownBlock=some rb':=fun e=>by have:=h.ff _ e;omega
 refine ⟨(Blk.mods h.rd m hb2).setOther (a:=⟨pb,1,none⟩) (show pb≠rb' by omega) _,(h.pg.mods m hb).set 1 v',?_,?_,h.fm,nf,?_,h.rp,h.w0r,?_⟩
 ·exact (h.sm.mods m (fun k hk e=>h.mf k hk e)).mods hms (fun k hk e=>by have:=h.fm k hk;rw [show k=pb from e] at this;omega)
 ·have e:(fs++[x]).flatMap RFn.cells=fs.flatMap RFn.cells++x.cells:=by simp
  rw [List.length_append,e]
  exact sl.mods hms (fun k hk e=>by have:=nf k hk;rw [show k=pb from e] at this;omega)
 ·exact fun k hk e=>(loc k e).elim (fun e1=>h.mf k hk e1) (fun e1=>by have:=h.sm.lt k hk;omega)
 ·exact (h.md.step m (fun k hk e=>by have:=h.ff k e;omega)).set (a:=⟨pb,1,none⟩) (.inr (by show w0.heap.size<=pb;omega)) _
theorem OInv.setO (h:OInv w0 pb rb' s r ms fs vM vF w) {a:Addr} (h1:a.block≠rb') (h2:a.block≠pb) (h3:vM.ownBlock≠some a.block) (h4:vF.ownBlock≠some a.block) (h5:w0.heap.size<=a.block) (v:Value) :
  OInv w0 pb rb' s r ms fs vM vF (w.setCell a v):=by
 have hms:Mods (Only a.block) w (w.setCell a v):=(Mods.refl (Only a.block) w).set (a:=a) (.inl (show a.block=a.block from rfl)) v
 exact ⟨Blk.setOther h.rd h1 v,h.pg.setOther h2 v,h.sm.mods hms (fun k hk e=>h3 (by rw [<- show k=a.block from e];exact hk)),h.sf.mods hms (fun k hk e=>h4 (by rw [<- show k=a.block from e];exact hk)),h.fm,h.ff,h.mf,h.rp,h.w0r,h.md.set (a:=a) (.inr h5) v⟩
theorem OInv.midM (h:OInv w0 pb rb' s r ms fs vM vF w) {v:Value} (hv:v=vM\/v=vF) {w1:World} (m1:Mods Nil' w w1) (m:Mods (fun k=>v.ownBlock=some k) w1 w') :
  w'.cell? ⟨pb,0,none⟩=some vM/\w'.cell? ⟨pb,1,none⟩=some vF/\∀ j,w'.frozen? ⟨pb,j,none⟩=false:=by
 have hb:¬ v.ownBlock=some pb:=by
  rcases hv with rfl | rfl
  ·exact fun e=>by have:=h.fm _ e;omega
  ·exact fun e=>by have:=h.ff _ e;omega
 have h1:=(h.pg.mods m1 (fun e=>e)).mods m hb
 exact ⟨h1.cell 0,h1.cell 1,h1.frozen⟩
end
theorem rsl_pos (s:ByteArray) (r:RS) (h:r.pos<=s.size):(rsl s r).2.pos<=s.size:=by
 have h1:=rb_pos s r h
 have h2:=rb_pos s _ h1
 have h3:=rb_pos s _ h2
 have h4:=rb_pos s _ h3
 have h5:=rb_pos s _ h4
 have h6:=rb_pos s _ h5
 have h7:=rb_pos s _ h6
 exact rb_pos s _ h7
theorem ins_pos (s:ByteArray) (r:RS) (h:r.pos<=s.size):(insM s r).r.pos<=s.size:=by
 have h1:=rsl_pos s r h
 have h2:=rsl_pos s _ h1
 unfold insM
 dsimp only
 repeat' split
 all_goals first
  | exact h1
  | exact h2
theorem bodyL_pos (s:ByteArray) (slots:Nat):∀ (f:Nat) (r:RS) (p:Nat) (ls:List RIns) (ats js:List Int) (b:BOut),bodyL s slots f r p ls ats js=some b->r.pos<=s.size->ls.length<=p->b.r.pos<=s.size/\b.ls.length<=b.pos
 | 0,_,_,_,_,_,_,h,_,_=>by cases h
 | f+1,r,p,ls,ats,js,b,h,hr,hl=>by
  rw [bodyL] at h
  split at h
  ·split at h
   ·cases h
   ·split at h
    ·cases h
    ·rename_i i hi
     refine bodyL_pos s slots f _ _ _ _ _ b h (ins_pos s r hr) ?_
     have:1<=slotsI i.word:=(slotsI_le i.word).1
     simp;omega
  ·cases h;exact ⟨hr,hl⟩
theorem labG_len (ats:List Int):∀ (rest:List (RIns × Int × Int)) (done:List RIns) (lab:Labs) (o:List RIns × Labs),labG ats done rest lab=some o->o.1.length=done.length+rest.length
 | [],done,lab,o,h=>by rw [labG] at h;cases h;simp
 | (i,a,j)::rest,done,lab,o,h=>by
  rw [labG] at h
  split at h
  ·split at h
   ·have:=labG_len ats rest _ _ o h;simp at this ⊢;omega
   ·cases h
  ·have:=labG_len ats rest _ _ o h;simp at this ⊢;omega
theorem body_ok (s:ByteArray) (slots:Nat) (r:RS) (o:FOut) (h:bodyM s slots r=some o) (hr:r.pos<=s.size) (hs:slots<=200):o.r.pos<=s.size/\o.ls.length<=1000/\o.ats.length=o.ls.length:=by
 unfold bodyM at h
 split at h
 ·cases h
 ·rename_i b hb
  split at h
  ·cases h
  ·rename_i hc
   split at h
   ·cases h
   ·rename_i q hq
    cases h
    have h1:=bodyL_pos s slots _ _ _ _ _ _ b hb hr (by simp)
    have g:=bodyL_good s slots _ _ _ _ _ _ b hb (good_nil slots)
    have h2:=labG_len _ _ _ _ q hq
    have hz:(zip3 b.ls b.ats b.js).length=b.ls.length:=by
     have:=g.al;have:=g.jl
     simp [zip3];omega
    have hp:b.pos=slots:=by
     by_cases e:b.pos=slots
     ·exact e
     ·exact absurd (.inl e) hc
    refine ⟨h1.1,?_,?_⟩
    ·show q.1.length<=1000
     rw [h2,hz];simp;omega
    ·show b.ats.length=q.1.length
     rw [h2,hz,g.al];simp
structure SlB (size:Nat) (cs:Array Value) (cap n:Nat) (xs:List Value):Prop where
 nc:n<=cap
 cm:cap<=maxLen
 sz:cs.size=cap*size
 tk:cs.toList.take (n*size)=xs
 ln:xs.length=n*size
theorem SlB.set {size:Nat} {cs:Array Value} {cap n:Nat} {xs:List Value} (h:SlB size cs cap n xs) (j:Nat) (u:Value):SlB size (cs.setIfInBounds j u) cap n (xs.set j u) :=
 ⟨h.nc,h.cm,by simpa using h.sz,by rw [Array.toList_setIfInBounds,<- h.tk,List.take_set],by rw [List.length_set];exact h.ln⟩
theorem SlB.sl {size:Nat} {cs:Array Value} {cap n:Nat} {xs:List Value} (h:SlB size cs cap n xs) {w:World} {g:Nat} {e:TypeId} (hb:Blk w g cs e):Sl w e size (.slice (some ⟨g,0,none⟩) n cap) n xs :=
 ⟨h.ln,.inr ⟨g,cap,cs,rfl,Nat.zero_le _,hb,h.nc,h.cm,h.sz,h.tk⟩⟩
theorem Sl.blk {w:World} {e:TypeId} {size g n cap:Nat} {xs:List Value} (h:Sl w e size (.slice (some ⟨g,0,none⟩) n cap) n xs):∃ cs,Blk w g cs e/\SlB size cs cap n xs:=by
 rcases h.2 with ⟨h',_⟩ | ⟨g',cap',cur,h',_,hg,hn,hm,hs,ht⟩
 ·cases h'
 ·cases h'
  exact ⟨cur,hg,hn,hm,hs,ht,h.1⟩
theorem SlB.get {size:Nat} {cs:Array Value} {cap n:Nat} {xs:List Value} (h:SlB size cs cap n xs) (j:Nat) (hj:j<n*size):cs[j]?=xs[j]?:=by
 rw [<- h.tk,List.getElem?_take,if_pos hj];simp
theorem row_set (l:List (RFn × HFn)) (k c:Nat) (hk:k<l.length) (hc:c<8) (v:Value) (y:RFn × HFn) (hy:(rowC l[k]).set c v=rowC y):(l.flatMap rowC).set (k*8+c) v=(l.set k y).flatMap rowC:=by
 induction l generalizing k with
 | nil=>simp at hk
 | cons x l ih =>
  cases k with
  | zero =>
   simp only [List.flatMap_cons,List.set_cons_zero,List.getElem_cons_zero] at hy ⊢
   rw [Nat.zero_mul,Nat.zero_add,List.set_append_left _ _ (by rw [rowC_len];exact hc),hy]
  | succ k =>
   have hk':k<l.length:=by simpa using hk
   have:=ih k hk' (by simpa using hy)
   simp only [List.flatMap_cons,List.set_cons_succ] at this ⊢
   rw [List.set_append_right _ _ (by rw [rowC_len];omega),rowC_len,show (k+1)*8+c - 8=k*8+c by omega,this]
theorem row_sets (l:List (RFn × HFn)) (k:Nat) (hk:k<l.length) (f:RFn) (h:HFn) (he:l[k]=(f,h)) (vL vA vB vP:Value) :
  ((((l.flatMap rowC).set (k*8+1) vL).set (k*8+2) vA).set (k*8+4) vB).set (k*8+5) vP=(l.set k (f,⟨vL,vA,vB,vP⟩)).flatMap rowC:=by
 obtain ⟨a,b,c,d⟩:=h
 rw [row_set l k 1 hk (by omega) vL (f,⟨vL,b,c,d⟩) (by rw [he];rfl)]
 rw [row_set _ k 2 (by simpa using hk) (by omega) vA (f,⟨vL,vA,c,d⟩) (by simp;rfl)]
 rw [row_set _ k 4 (by simpa using hk) (by omega) vB (f,⟨vL,vA,vB,d⟩) (by simp;rfl)]
 rw [row_set _ k 5 (by simpa using hk) (by omega) vP (f,⟨vL,vA,vB,vP⟩) (by simp;rfl)]
 simp
theorem OInv.start {w0 w:World} {pb rb':Nat} {s:ByteArray} {r:RS} {ms:List RMap} {fs:List RFn} {vM vF:Value} (h:OInv w0 pb rb' s r ms fs vM vF w) :
  PInv w pb rb' vM vF ms (fs.map (fun f=>(f,HFn.nil))) [] (fun _=>w.heap.size):=by
 have hrp:=h.rp
 have e:(fs.map (fun f=>(f,HFn.nil))).flatMap rowC=fs.flatMap RFn.cells:=by
  rw [List.flatMap_map];rfl
 refine ⟨h.pg,h.sm,by rw [List.length_map,e];exact h.sf,h.pg.lt,Blk.lt h.rd,h.sm.lt,h.sf.lt,by omega,fun e=>by have:=h.fm _ e;omega,fun e=>by have:=h.fm _ e;omega,fun e=>by have:=h.ff _ e;omega,fun e=>by have:=h.ff _ e;omega,h.mf,fun i hi=>by simp at hi,Nat.le_refl _,fun i hi=>by simp at hi⟩
theorem PInv.body {w w':World} {pb rb' fb nF cF:Nat} {vM:Value} {ms:List RMap} {fs:List (RFn × HFn)} {os:List FOut} {bd:Nat->Nat} {f:RFn} {hh:HFn} {cs:Array Value} {o:FOut}
  (h:PInv w pb rb' vM (.slice (some ⟨fb,0,none⟩) nF cF) ms fs os bd) (hn:nF=fs.length) (hk:os.length<fs.length) (hf:fs[os.length]=(f,hh)) (hb:SlB 8 cs cF nF (fs.flatMap rowC)) (m:Mods (fun k=>k=fb\/k=rb') w w') (hF:FnAt w fb (os.length*8) cs o w') :
  ∃ h2,PInv w' pb rb' vM (.slice (some ⟨fb,0,none⟩) nF cF) ms (fs.set os.length (f,h2)) (os++[o]) (fun j=>if j<=os.length then bd j else w'.heap.size):=by
 obtain ⟨vL,vA,vB,vP,h1,h2,h3,h4,h5,f1,f2,f3,f4,d1,d2,d3⟩:=hF.ex
 have hfb:=h.hf fb rfl
 have hrb:=h.hr
 have htop:=h.top
 have hpfb:pb≠fb:=fun e=>h.fp (by rw [e];rfl)
 refine ⟨⟨vL,vA,vB,vP⟩,?_⟩
 refine ⟨h.prog.mods m (fun e=>e.elim hpfb h.pr),h.maps.mods m (fun k hk e=>e.elim (fun e=>h.mf k hk (by rw [e];rfl)) (fun e=>h.mr (by rw [<- e];exact hk))),?_,by simpa using h.hp,by simpa using h.hr,by simpa using h.hm,by simpa using h.hf,h.pr,h.mp,h.mr,h.fp,h.fr,h.mf,?_,?_,?_⟩
 ·subst hn
  have hs:=((((hb.set (os.length*8+1) vL).set (os.length*8+2) vA).set (os.length*8+4) vB).set (os.length*8+5) vP)
  rw [row_sets fs os.length hk f hh hf] at hs;rw [List.length_set];exact hs.sl h1
 ·intro i hi
  have hi':i<=os.length:=by simp at hi;omega
  simp only [if_pos hi']
  split
  ·exact h.mono i (by omega)
  ·have:bd i<=bd os.length:=h.le' i os.length hi' (Nat.le_refl _)
   have:=m.size;omega
 ·simp only [List.length_append,List.length_cons,List.length_nil]
  rw [if_neg (by omega)]
  exact Nat.le_refl _
 ·intro i hi hi'
  have hil:i<=os.length:=by simp at hi;omega
  simp only [if_pos hil]
  by_cases e:i=os.length
  ·subst e
   simp only [List.getElem_set_self,List.getElem_append_right (Nat.le_refl os.length),Nat.sub_self,List.getElem_cons_zero]
   rw [if_neg (by omega)]
   exact ⟨h2,h3,h4,h5,fun k hk=>⟨Nat.le_trans htop (f1 k hk),h2.lt k hk⟩,fun k hk=>⟨Nat.le_trans htop (f2 k hk),h3.lt k hk⟩,fun k hk=>⟨Nat.le_trans htop (f3 k hk),h4.lt k hk⟩,fun k hk=>⟨Nat.le_trans htop (f4 k hk),h5.lt k hk⟩,d1,d2,d3⟩
  ·have hil2:i<os.length:=by omega
   rw [if_pos (by omega)]
   have hge:∀ (q:i<(os++[o]).length),(os++[o])[i]=os[i]:=fun q=>List.getElem_append_left hil2
   rw [hge,List.getElem_set_ne (Ne.symm e)]
   refine (h.each i hil2 (by simpa using hi')).mods m (fun k hk _ e=>?_)
   have h0:=h.le i (by omega)
   rcases e with e | e
   ·subst e;omega
   ·subst e;omega
theorem rdFns_le (s:ByteArray):∀ (n:Nat) (r:RS) (acc:List RFn) (t:Nat),(∀ f∈acc,f.slots<=t)->∀ f∈(rdFns s n r acc t).1,f.slots<=(rdFns s n r acc t).2.1
 | 0,_,_,_,h=>h
 | n+1,r,acc,t,h=>by
  rw [rdFns]
  split
  ·exact h
  ·refine rdFns_le s n _ _ _ (fun f hf=>?_)
   rcases List.mem_append.1 hf with hf | hf
   ·have:=h f hf;omega
   ·rw [List.mem_singleton.1 hf];simp
end Go.Proofs.YtoknbkfclhmapaaGreatDoor
