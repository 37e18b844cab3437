import Derived.Great.BuildSlice
import Derived.Shelf.Strings.Cut
import Derived.Shelf.Strings.Split
import Derived.Test.YtekmhcbefnmflaaGreatDoorCL26
namespace Go.Proofs.YtekmhcbefnmflaaGreatDoor
open Go.RowKit
open Nat renaming le_trans->ab,le_refl->an
open Decidable renaming decide->eS
open List renaming length->ee
set_option linter.all false
set_option maxHeartbeats 400000
theorem Aj:∀(k:Nat) (q:PR) (last:tLB) (acc:List aW),ee (mapsP k q last acc).1=ee acc+k
 |0,_,_,_=>rfl
 |k+1,q,last,acc=>by rw[mapsP,Aj k];simp;omega
theorem Dg:∀(k:Nat) (q:PR) (last:tLB) (all:Nat) (acc:List bY),ee (headsP k q last all acc).1=ee acc+k
 |0,_,_,_,_=>rfl
 |k+1,q,last,all,acc=>by rw[headsP,Dg k];simp;omega
theorem Dh:∀(k:Nat) (q:PR) (last:tLB) (all:Nat) (acc:List bY),all=JD acc->(headsP k q last all acc).2.1=JD (headsP k q last all acc).1
 |0,_,_,_,_,h=>h
 |k+1,q,last,all,acc,h=>by rw[headsP];exact Dh k _ _ _ _ (by rw[h];simp[JD])
theorem Di:∀(k:Nat) (q:PR) (last:tLB) (all:Nat) (acc:List bY),ee (headsP k q last all acc).2.2.rest<=ee q.rest
 |0,_,_,_,_=>an _
 |k+1,q,last,all,acc=>by
  rw[headsP];refine ab (Di k _ _ _ _) ?_;show(kR (dJ q).2).2.rest.length<=_
  exact ab (Oa _) (zb _)
theorem Fe(sl:tLB):∀(f p:Nat) (acc:List PI) (st:List Bool) (l:List PI) (st':List Bool),codeL sl (ee sl/8) f p acc st=some (l,st')->ee acc<=p->p<=ee sl/8->ee l<=ee sl/8
 |0,p,acc,st,l,st',h,_,_=>by cases h
 |f+1,p,acc,st,l,st',h,ha,hp=>by
  rw[codeL]at h;split at h
  ·rename_i hlt
   split at h
   ·cases h
   ·rename_i x hx
    have h1:=Df _ _ hx;have h2:=(GN _ _ hx).slots;rw[List.length_drop]at h1;exact Fe sl f _ _ _ l st' h (by simp;omega) (by omega)
  ·cases h;omega
theorem Rs(sl:tLB)(q:PR):ee (codeP sl q).1<=ee sl/8:=by
 unfold codeP;split
 ·simp
 ·rename_i l st h
  exact Fe sl _ 0 [] _ l st h (an _) (Nat.zero_le _)
theorem Mr(sl:tLB)(q:PR):(codeP sl q).2.rest=q.rest:=by unfold codeP;split<;>rfl
theorem Dj:∀(hs:List bY) (r:PR) (acc:List cZ) (B:Nat),(∀h∈hs,h.slots<=B)->(∀f∈acc,ee f.code<=B)->ee (codesP hs r acc).1=ee acc+ee hs/\(∀f∈(codesP hs r acc).1,ee f.code<=B)/\(codesP hs r acc).2.rest.length<=ee r.rest
 |[],r,acc,B,_,ha=>⟨rfl,ha,an _⟩
 |h::hs,r,acc,B,hh,ha=>by
  rw[codesP];have h1:=Rs (aR (h.slots*8) r).1 (aR (h.slots*8) r).2;have h2:=Og (h.slots*8) r;have h3:=hh h (by simp)
  obtain⟨e1,e2,e3⟩:=Dj hs (codeP (aR (h.slots*8) r).1 (aR (h.slots*8) r).2).2 (acc++[⟨h.name,(codeP (aR (h.slots*8) r).1 (aR (h.slots*8) r).2).1⟩]) B (λx hx=>hh x (List.mem_cons_of_mem _ hx)) (λf hf=>by
   rcases List.mem_append.1 hf with h'|h'
   ·exact ha f h'
   ·rw[List.mem_singleton.1 h'];show(codeP (aR (h.slots*8) r).1 (aR (h.slots*8) r).2).1.length<=B
    omega)
  refine⟨by rw[e1];simp;omega,e2,ab e3 ?_⟩;rw[Mr];exact take_len _ _
theorem Dk(q:PR):ee (dF q).1<=256/\(∀f∈(dF q).1,ee f.code<=2000)/\(dF q).2.rest.length<=ee q.rest:=by
 have h1:=kU q;have hl:=kr q;have hfp:dF q=if(az (eS ((headsP (oneP q).1 (az (eS ((oneP q).1<=16)) (oneP q).2) [] 0 []).2.1<=200)) (headsP (oneP q).1 (az (eS ((oneP q).1<=16)) (oneP q).2) [] 0 []).2.2).bad then([],az (eS ((headsP (oneP q).1 (az (eS ((oneP q).1<=16)) (oneP q).2) [] 0 []).2.1<=200)) (headsP (oneP q).1 (az (eS ((oneP q).1<=16)) (oneP q).2) [] 0 []).2.2)else codesP (headsP (oneP q).1 (az (eS ((oneP q).1<=16)) (oneP q).2) [] 0 []).1 (az (eS ((headsP (oneP q).1 (az (eS ((oneP q).1<=16)) (oneP q).2) [] 0 []).2.1<=200)) (headsP (oneP q).1 (az (eS ((oneP q).1<=16)) (oneP q).2) [] 0 []).2.2) []:=rfl;rw[hfp];have e1:=Dg (oneP q).1 (az (eS ((oneP q).1<=16)) (oneP q).2) [] 0 [];have e2:=Dh (oneP q).1 (az (eS ((oneP q).1<=16)) (oneP q).2) [] 0 [] rfl;have e3:ee (headsP (oneP q).1 (az (eS ((oneP q).1<=16)) (oneP q).2) [] 0 []).2.2.rest<=ee q.rest:=ab (Di _ _ _ _ _) hl;generalize headsP (oneP q).1 (az (eS ((oneP q).1<=16)) (oneP q).2) [] 0 []=hd at *;split
 ·exact⟨by simp,λf hf=>(by cases hf),e3⟩
 ·rename_i hb
  have ht:hd.2.1<=200:=by simp[az]at hb;omega
  obtain⟨k1,k2,k3⟩:=Dj hd.1 (az (eS (hd.2.1<=200)) hd.2.2) [] 200 (λh hm=>by have:=JE _ h hm;omega) (λf hf=>(by cases hf));simp only[List.length_nil]at e1 k1;exact⟨by omega,λf hf=>ab (k2 f hf) (by omega),ab k3 e3⟩
def vX(w:tW)(bs:tLN)(d:List aW×List cZ×PR)(e:Ending)(w':tW):Prop :=
 ∃vM vF vs,e=.returned (.tuple #[.agg #[vM,vF],.bool (!d.2.2.bad)])/\aa ah w w'/\(∃o n c o' n' c',vM=.slice o n c/\vF=.slice o' n' c') /\
  (d.2.2.bad=false->Sl w' 113 4 vM (ee d.1) (d.1.flatMap aW.cells)/\xN w' w.heap.size bs vF d.2.1 vs)
structure Rt(w:tW)(q:PR)(w':tW):Prop where
 rd:jO w' (w.heap.size+1) q
 rs:ak w' w.heap.size #[vN,vN] 99
 md:aa ah w w'
theorem Rt.read{w w' w'':tW}{q q':PR}(h:Rt w q w')(hr:jO w'' (w.heap.size+1) q')(m:aa (Only (w.heap.size+1)) w' w''):Rt w q' w'' :=
 ⟨hr,h.rs.ae m (show ¬w.heap.size=w.heap.size+1 by omega),h.md.step m (λi hi e=>by have:i=w.heap.size+1:=e;omega)⟩
theorem xN.lower{w:tW}{lo lo':Nat}{bs:tLN}{v:Value}{fs:List cZ}{vs:tLV}(h:xN w lo bs v fs vs)(hl:lo'<=lo):xN w lo' bs v fs vs :=
 ⟨h.len,h.sl,h.cd,h.ok,λk hk=>ab hl (h.own k hk),λu hu k hk=>ab hl (h.rR u hu k hk),h.ne⟩
theorem Dl(w:tW)(tv:Value)(bs:tLN)(hO:aT 0 w tv bs ax)(code:List PI)(hok:∀x∈code,kz x)(hl:ee code<=10000)(vC:Value)(hC:Sl w 141 8 vC (ee code) (kI bs code))(nm:tBA):Calls Tryz.prog 77 #[.agg #[.string nm,vC]] w λe w'=>e=.returned (vI (aL code))/\aa ah w w':=by
 obtain⟨oC,cC,rfl,_⟩:=hC.view;have HO:=ai hO;have HC:=ai hC;have Eb:=ai hok;have Jz:af (∀k,iJ code k<=20000):=λk=>by have:=BK code Eb.o k;omega
 clear hO hC hok;have hM0:aa ah w (w.alloc (.cells #[.string nm,.slice oC (ee code) cC] 109)):=aq;have dU:=ai hM0;clear hM0;go_in;go_wp2_with fail;go_loopw [3,9] (λsv i wl=>∃k:Nat,k<=ee code/\i=vI k/\sv=vI (iJ code k)/\aa ah w wl) (λ_ i _=>ee code-(intOf i).toNat)
 case atStart=>exact⟨0,Nat.zero_le _,rfl,rfl,dU.o⟩
 case round =>
  obtain⟨k,hk,rfl,rfl,hM⟩:=hrel;have HM:=ai hM;clear hM dU;by_cases hlt:k<ee code
  ·have PT:=ai (vV code k hlt);obtain⟨g,rfl,hg,q0,q1,q2,q3,q4,q5,q6,q7⟩:=oK (HC.o.ae HM.o (λ_ _=>id)) rfl rfl k hlt;have hx:=Eb.o code[k] (List.getElem_mem hlt);have hA:=lT (HO.o.ae HM.o) code[k] hx.k;have hsum:=Jz.o k;have hsl:=hx.slots;clear hx;generalize code[k].o=o at *;generalize code[k].jump=jmp at *;generalize code[k].d=xd at *;generalize code[k].s=xs at *;generalize code[k].num=xn at *;generalize code[k].high=xh at *;generalize code[k].name=xm at *;generalize bs[code[k].k]?.getD 0=b at *;have hA1:=hA.ae (aA.alloc (.cells #[vP b,vB xd,vB xs,.int .i16 jmp,vJ xn,vJ xh,.string ByteArray.empty,.string (T xm)] 141));obtain⟨y2,_,_,_⟩:=hA1.cells;clear hA hA1;generalize iJ code k=sk at *;generalize o.slots=os at *;go_wp2_with fail;go_roundw
   case rel=>exact⟨k+1,by omega,by go_num,by rw[PT.o];go_num,HM.o.alloc _⟩
   case measure=>simp[intOf];omega
  ·obtain rfl:k=ee code:=by omega
   have HF:af (iJ code (ee code)=aL code):=by rw[af,iJ,List.take_length];rfl
   rw[HF.o];go_wp2_with fail;go_ret;exact⟨rfl,HM.o⟩
