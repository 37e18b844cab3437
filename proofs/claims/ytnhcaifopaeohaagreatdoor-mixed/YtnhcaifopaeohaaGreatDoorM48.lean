import Derived.Test.YtnhcaifopaeohaaGreatDoorM37
import Derived.Test.YtnhcaifopaeohaaGreatDoorM47
import Derived.Lib.SliceRun
namespace Go.Proofs.YtnhcaifopaeohaaGreatDoor
open Go.RowKit
set_option linter.all false
def atM (l:List PMap) (i:Nat):PMap:=l[i]?.getD ⟨[],0,0,0⟩
def keepM (l:List PMap) (i:Nat):Bool:=decide (i=0)||!sameM (atM l i) (atM l (i - 1))
def compU (l:List PMap):Nat->List PMap
 | 0=>[]
 | n+1=>compU l n++(if keepM l n then [atM l n] else [])
def compM (l:List PMap):List PMap:=compU l l.length
theorem atM_eq (l:List PMap) (i:Nat) (h:i<l.length):atM l i=l[i]:=by simp [atM,h]
theorem compU_le (l:List PMap):∀ n,(compU l n).length<=n
 | 0=>Nat.le_refl _
 | n+1=>by
  unfold compU;rw [List.length_append]
  have:=compU_le l n
  split<;>simp<;>omega
theorem compU_all (l:List PMap):∀ n,n<=l.length->(∀ j,j<n->keepM l j=true)->compU l n=l.take n
 | 0,_,_=>by simp [compU]
 | n+1,h,hk=>by
  unfold compU
  rw [compU_all l n (by omega) (fun j hj=>hk j (by omega)),hk n (by omega),if_pos rfl,List.take_add_one,atM_eq l n (by omega)]
  simp [show n<l.length by omega]
theorem compM_all (l:List PMap) (h:∀ j,j<l.length->keepM l j=true):compM l=l:=by
 unfold compM;rw [compU_all l _ (Nat.le_refl _) h,List.take_length]
theorem keepM_zero (l:List PMap):keepM l 0=true:=rfl
theorem flat_lenU {α:Type} (f:α->List Value) (n:Nat) (hf:∀ x,(f x).length=n):∀ l:List α,(l.flatMap f).length=l.length*n
 | []=>by simp
 | x::l=>by rw [List.flatMap_cons,List.length_append,hf,flat_lenU f n hf l,List.length_cons,Nat.succ_mul,Nat.add_comm]
theorem flat_take {α:Type} (f:α->List Value) (n:Nat) (hf:∀ x,(f x).length=n):∀ (l:List α) (k:Nat),(l.flatMap f).take (k*n)=(l.take k).flatMap f
 | [],k=>by simp
 | x::l,0=>by simp
 | x::l,k+1=>by
  rw [List.flatMap_cons,List.take_succ_cons,List.flatMap_cons,Nat.succ_mul,Nat.add_comm,List.take_append,hf,Nat.add_sub_cancel_left,flat_take f n hf l k,List.take_of_length_le (by rw [hf];omega)]
structure CSt (w0:World) (g cap n:Nat) (l:List PMap) (w:World):Prop where
 sl:Sl w 47 4 (.slice (some ⟨g,0,none⟩) n cap) n (l.flatMap PMap.cells)
 len:l.length=n
 md:Mods (Only g) w0 w
theorem CSt.quiet {w0 w w':World} {g cap n:Nat} {l:List PMap} (h:CSt w0 g cap n l w) (m:Mods Nil' w w'):CSt w0 g cap n l w' :=
 ⟨h.sl.mods m (fun _ _=>id),h.len,h.md.trans (m.mono (fun _ _ e=>e.elim))⟩
theorem CSt.put {w0 w:World} {g cap n:Nat} {l:List PMap} (h:CSt w0 g cap n l w) (k:Nat) (hk:k<n) (m:PMap) :
  CSt w0 g cap n (l.set k m) ((((w.setCell ⟨g,k*4,none⟩ (.string (T m.name))).setCell ⟨g,k*4+1,none⟩ (.int .u8 m.key)).setCell ⟨g,k*4+2,none⟩ (.int .u8 m.value)).setCell ⟨g,k*4+3,none⟩ (.int .u8 m.entries)):=by
 have hl:=h.len
 have hm:=h.sl
 have hf:∀ x:PMap,x.cells.length=4:=fun _=>rfl
 have hk':k<l.length:=by omega
 have e1:=hm.setAt (k*4) (.string (T m.name)) (by omega)
 have e2:=e1.setAt (k*4+1) (.int .u8 m.key) (by omega)
 have e3:=e2.setAt (k*4+2) (.int .u8 m.value) (by omega)
 have e4:=e3.setAt (k*4+3) (.int .u8 m.entries) (by omega)
 rw [show k*4=k*4+0 from rfl,flat_set PMap.cells 4 hf l k 0 hk' (by omega) _ { l[k] with name:=m.name } rfl,
  flat_set PMap.cells 4 hf _ k 1 (by simpa using hk') (by omega) _ { l[k] with name:=m.name,key:=m.key } (by simp [PMap.cells]),
  flat_set PMap.cells 4 hf _ k 2 (by simpa using hk') (by omega) _ { l[k] with name:=m.name,key:=m.key,value:=m.value } (by simp [PMap.cells]),
  flat_set PMap.cells 4 hf _ k 3 (by simpa using hk') (by omega) _ m (by simp [PMap.cells])] at e4
 simp only [List.set_set] at e4
 exact ⟨e4,by rw [List.length_set];exact hl,(((h.md.set (a:=⟨g,k*4,none⟩) (.inl rfl) _).set (a:=⟨g,k*4+1,none⟩) (.inl rfl) _).set (a:=⟨g,k*4+2,none⟩) (.inl rfl) _).set (a:=⟨g,k*4+3,none⟩) (.inl rfl) _⟩
theorem CSt.at {w0 w:World} {g cap n:Nat} {l:List PMap} (h:CSt w0 g cap n l w) (k:Nat) (hk:k<n) :
  w.cell? ⟨g,k*4,none⟩=some (.string (T (atM l k).name))/\w.cell? ⟨g,k*4+1,none⟩=some (.int .u8 (atM l k).key)/\w.cell? ⟨g,k*4+2,none⟩=some (.int .u8 (atM l k).value)/\w.cell? ⟨g,k*4+3,none⟩=some (.int .u8 (atM l k).entries):=by
 have hk':k<l.length:=by rw [h.len];exact hk
 obtain ⟨o',cap',hv,h2⟩:=h.sl.view
 cases hv
 obtain ⟨g',cs,e,hb,ht,_⟩:=h2 (by omega)
 cases e
 have key:∀ c,c<4->w.cell? ⟨g,k*4+c,none⟩=(PMap.cells l[k])[c]?:=fun c hc=>by
  rw [take_cell hb ht (k*4+c) (by omega)]
  exact flat_get PMap.cells 4 (fun _=>rfl) l k c hk' hc
 rw [atM_eq l k hk']
 exact ⟨key 0 (by omega),key 1 (by omega),key 2 (by omega),key 3 (by omega)⟩
theorem CSt.frz {w0 w:World} {g cap n:Nat} {l:List PMap} (h:CSt w0 g cap n l w) (hn:0<n) (j:Nat):w.frozen? ⟨g,j,none⟩=false:=by
 obtain ⟨o',cap',hv,h2⟩:=h.sl.view
 cases hv
 obtain ⟨g',cs,e,hb,_⟩:=h2 hn
 cases e
 exact hb.frozen j
theorem setCells_blk {b:Nat} {t:TypeId}:∀ (vs:List Value) (w:World) (o:Nat) (cs:Array Value),Blk w b cs t->∃ cs',Blk (w.setCells b o vs) b cs' t/\cs'.size=cs.size/\(∀ j,j<o->cs'[j]?=cs[j]?)/\Mods (Only b) w (w.setCells b o vs)
 | [],w,o,cs,h=>⟨cs,h,rfl,fun _ _=>rfl,Mods.refl _ _⟩
 | v::vs,w,o,cs,h=>by
  obtain ⟨cs',h1,h2,h3,h4⟩:=setCells_blk vs (w.setCell ⟨b,o,none⟩ v) (o+1) _ (h.set o v)
  refine ⟨cs',h1,by rw [h2];simp,fun j hj=>?_,((Mods.refl _ _).setb _ _).trans h4⟩
  rw [h3 j (by omega),Array.getElem?_setIfInBounds,if_neg (by omega)]
theorem CSt.clear {w0 w:World} {g cap n:Nat} {l:List PMap} (h:CSt w0 g cap n l w) (k c:Nat) (hk:k<n) (ty:TypeId) :
  ∃ w',(Builtin.clear_ #[34] ty #[.slice (some ⟨g,k*4,none⟩) (n - k) c]).run Tryz.prog w=.ok (.tuple #[]) w'/\Sl w' 47 4 (.slice (some ⟨g,0,none⟩) k cap) k ((l.take k).flatMap PMap.cells)/\Mods (Only g) w0 w':=by
 obtain ⟨m,hm⟩:∃ m,n - k=m+1:=⟨n - k - 1,by omega⟩
 rcases h.sl.2 with ⟨h',_⟩ | ⟨g',cap',cur,h',h0,hg,hn,hmx,hs,ht⟩
 ·cases h'
 cases h'
 have hb:Blk w g cur 47:=hg
 obtain ⟨zs,hz⟩:∃ zs,zs=(Builtin.zeroCells (Value.agg #[.string E0,.int .u8 0,.int .u8 0,.int .u8 0]).cells (n - k)).toList:=⟨_,rfl⟩
 have hzl:zs.length=(n - k)*4:=by rw [hz];simp [Builtin.zeroCells,Value.cells]
 have hz1:∀ v∈zs,v.oneCell'=true:=by
  rw [hz];intro v hv
  simp only [Builtin.zeroCells,Value.cells,Array.toList_map,List.mem_map] at hv
  obtain ⟨i,_,rfl⟩:=hv
  have h4:i % (#[Value.string E0,.int .u8 0,.int .u8 0,.int .u8 0]:Array Value).size<4:=Nat.mod_lt _ (by decide)
  generalize i % (#[Value.string E0,.int .u8 0,.int .u8 0,.int .u8 0]:Array Value).size=q at h4 ⊢
  rcases q with _ | _ | _ | _ | q
  ·rfl
  ·rfl
  ·rfl
  ·rfl
  ·omega
 have hst:=run_storeCells_cells (P:=Tryz.prog) g (k*4) zs 0 w (fun j hj=>by
   rw [Nat.add_zero,hb.cell]
   have:k*4+j<cur.size:=by rw [hs];omega
   simp [this]) (fun j _=>hb.frozen _) hz1
 rw [Nat.add_zero] at hst
 obtain ⟨cs',b1,b2,b3,b4⟩:=setCells_blk zs w (k*4) cur hb
 refine ⟨w.setCells g (k*4) zs,?_,?_,h.md.trans b4⟩
 ·rw [hm] at hz ⊢
  simp [Builtin.clear_,run_underlying Tryz.underlying34,Tryz.zeroValue47,<- hz,hst]
 ·refine ⟨by rw [flat_lenU PMap.cells 4 (fun _=>rfl),List.length_take,h.len,Nat.min_eq_left (by omega)],.inr ⟨g,cap,cs',rfl,h0,b1,by omega,hmx,by rw [b2,hs],?_⟩⟩
  have e1:cs'.toList.take (k*4)=cur.toList.take (k*4):=by
   refine List.ext_getElem? fun j=>?_
   rw [List.getElem?_take,List.getElem?_take]
   by_cases hj:j<k*4
   ·rw [if_pos hj,if_pos hj,Array.getElem?_toList,Array.getElem?_toList,b3 j hj]
   ·rw [if_neg hj,if_neg hj]
  rw [e1,<- flat_take PMap.cells 4 (fun _=>rfl) l k,<- ht,List.take_take,Nat.min_eq_left (by omega)]
set_option maxRecDepth 100000 in
set_option maxHeartbeats 2000000 in
theorem comp_any (w:World) (v:Value) (l:List PMap) (hl:l.length<=1000000) (hs:Sl w 47 4 v l.length (l.flatMap PMap.cells)) :
  Calls Tryz.prog 49 #[v] w fun e w'=>∃ v',e=.returned v'/\Sl w' 47 4 v' (compM l).length ((compM l).flatMap PMap.cells)/\Mods (fun b=>v.ownBlock=some b) w w'/\v'.ownBlock=v.ownBlock:=by
 obtain ⟨o,cap,hv,h2⟩:=hs.view
 by_cases hn:l.length<2
 ·have HS:Hid (Sl w 47 4 v (compM l).length ((compM l).flatMap PMap.cells)):=by
   rw [Hid,compM_all l (fun j hj=>by
     have e:j=0:=by omega
     rw [e];exact keepM_zero l)];exact hs
  subst hv;generalize l.length=n at *;clear hs h2
  go_enter Tryz.func49,Tryz.ntmps49
  go_wp2_with fail;go_ret
  exact ⟨_,rfl,HS.out,Mods.refl _ _,rfl⟩
 ·obtain ⟨g,cs,rfl,hb,_,hnc,hcm⟩:=h2 (by omega)
  subst hv
  have HC0:Hid (CSt w g cap l.length l w):=⟨hs,rfl,Mods.refl _ _⟩
  have hno:2<=l.length:=by omega
  have HE:Hid (∀ (a b:PMap) (w':World),(binOp .eql 47 (.agg #[.string (T a.name),.int .u8 a.key,.int .u8 a.value,.int .u8 a.entries]) (.agg #[.string (T b.name),.int .u8 b.key,.int .u8 b.value,.int .u8 b.entries])).run Tryz.prog w'=.ok (.bool (sameM a b)) w'):=fun a b w'=>eqlM w' a b
  have HN:Hid (∀ (a b:PMap) (w':World),(binOp .neq 47 (.agg #[.string (T a.name),.int .u8 a.key,.int .u8 a.value,.int .u8 a.entries]) (.agg #[.string (T b.name),.int .u8 b.key,.int .u8 b.value,.int .u8 b.entries])).run Tryz.prog w'=.ok (.bool (!sameM a b)) w'):=fun a b w'=>neqM w' a b
  obtain ⟨n,hnl⟩:∃ n,n=l.length:=⟨_,rfl⟩
  have HNL:=hid hnl;rw [<- hnl] at HC0 hno hl hnc hn ⊢;clear hs hb h2 hnl
  go_enter Tryz.func49,Tryz.ntmps49
  go_wp2_with fail
  go_loopg [3] n (fun gg iv wx=>∃ k:Nat,iv=.int .i64 k/\CSt w g cap n l wx/\(∀ j,j<k->keepM l j=true)/\1<=k/\k<=n/\gg=n+1 - k)
  case atStart=>exact ⟨1,rfl,HC0.out,fun j hj=>by
     have e:j=0:=by omega
     rw [e];exact keepM_zero l,Nat.le_refl _,by omega,rfl⟩
  case round =>
   obtain ⟨k,rfl,hC,hkp,hk1,hkn,rfl⟩:=hrel;have HC:=hid hC;have HK:=hid hkp;clear hC hkp HC0
   by_cases hkl:k<n
   ·obtain ⟨c0,c1,c2,c3⟩:=HC.out.at k hkl
    obtain ⟨d0,d1,d2,d3⟩:=HC.out.at (k - 1) (by omega)
    have hkc:((k:Int) - 1)=((k - 1:Nat):Int):=by omega
    have heq:=HE.out (atM l k) (atM l (k - 1))
    have HKS:Hid (keepM l k=!sameM (atM l k) (atM l (k - 1))):=by
     unfold keepM
     rw [Hid,decide_eq_false (by omega),Bool.false_or]
    clear HE
    generalize hq:sameM (atM l k) (atM l (k - 1))=q at *
    clear hq;generalize (atM l k).key=ak at *;generalize (atM l k).value=av at *;generalize (atM l k).entries=ae at *;generalize T (atM l k).name=an at *;generalize (atM l (k - 1)).key=bk at *;generalize (atM l (k - 1)).value=bv at *;generalize (atM l (k - 1)).entries=be at *;generalize T (atM l (k - 1)).name=bn at *
    cases q with
    | false =>
     go_upto_region 6 with fail;go_quiet (fail)
     have HCq:Hid (CSt w g cap n l (wr.drewN nq)):=HC.out.quiet ((Mods.refl _ _).drewN nq)
     generalize wr.drewN nq=W at *;clear c0 c1 c2 c3 d0 d1 d2 d3 heq HC
     have HKn:Hid (∀ j,j<k+1->keepM l j=true):=fun j hj=>by
      by_cases e:j<k
      ·exact HK.out j e
      ·have e2:j=k:=by omega
       rw [e2,HKS.out];rfl
     go_wp2_with fail
     go_roundg (n+1 - (k+1))
     case measure=>omega
     case rel=>exact ⟨k+1,by go_num,HCq.out,HKn.out,by omega,by omega,rfl⟩
    | true =>
     go_upto_region 6 with fail;go_quiet (fail)
     have HCq:Hid (CSt w g cap n l (wr.drewN nq)):=HC.out.quiet ((Mods.refl _ _).drewN nq)
     generalize wr.drewN nq=W at *;clear c0 c1 c2 c3 d0 d1 d2 d3 heq HC;go_wp2_with fail
     have HT0:Hid (l.take k=compU l (k+1)/\k=(compU l (k+1)).length):=by
      have e:compU l (k+1)=l.take k:=by
       rw [compU,compU_all l k (by rw [<- HNL.out];omega) HK.out,HKS.out];simp
      exact ⟨e.symm,by rw [e,List.length_take,<- HNL.out];omega⟩
     clear HKS hkc
     go_loopg [3,5] (n - (k+1)) (fun gg kv qv wx=>∃ (K q:Nat) (L:List PMap),kv=.int .i64 K/\qv=.int .i64 q/\CSt w g cap n L wx/\L.take K=compU l (k+q)/\K=(compU l (k+q)).length/\(∀ j,k+q - 1<=j->j<n->atM L j=atM l j)/\K<=k+q - 1/\1<=q/\k+q<=n/\gg=n - (k+q))
     case atStart=>exact ⟨k,1,l,rfl,rfl,HCq.out,HT0.out.1,HT0.out.2,fun _ _ _=>rfl,by omega,Nat.le_refl _,by omega,rfl⟩
     case round =>
      obtain ⟨K,q,L,rfl,rfl,hC,htk,hKl,hat,hKq,hq1,hqn,rfl⟩:=hrel;have HC:=hid hC;have HTK:=hid htk;have HKL:=hid hKl;have HAT:=hid hat;clear hC htk hKl hat HT0 HCq
      by_cases hql:k+q<n
      ·have hqi:q<n - k:=by omega
       have HX:Hid (atM L (k+q)=atM l (k+q)/\atM L (k+q - 1)=atM l (k+q - 1)):=⟨HAT.out _ (by omega) hql,HAT.out _ (Nat.le_refl _) (by omega)⟩
       have HCL:Hid (∀ w',CSt w g cap n L w'->(w'.cell? ⟨g,k*4+q*4,none⟩=some (.string (T (atM l (k+q)).name))/\w'.cell? ⟨g,k*4+q*4+1,none⟩=some (.int .u8 (atM l (k+q)).key)/\w'.cell? ⟨g,k*4+q*4+2,none⟩=some (.int .u8 (atM l (k+q)).value)/\w'.cell? ⟨g,k*4+q*4+3,none⟩=some (.int .u8 (atM l (k+q)).entries)) /\
         (w'.cell? ⟨g,k*4+(q - 1)*4,none⟩=some (.string (T (atM l (k+q - 1)).name))/\w'.cell? ⟨g,k*4+(q - 1)*4+1,none⟩=some (.int .u8 (atM l (k+q - 1)).key)/\w'.cell? ⟨g,k*4+(q - 1)*4+2,none⟩=some (.int .u8 (atM l (k+q - 1)).value)/\w'.cell? ⟨g,k*4+(q - 1)*4+3,none⟩=some (.int .u8 (atM l (k+q - 1)).entries))):=fun w' h=>by
        have h1:=h.at (k+q) hql
        have h2:=h.at (k+q - 1) (by omega)
        rw [HX.out.1,Nat.add_mul] at h1
        rw [HX.out.2,show k+q - 1=k+(q - 1) by omega,Nat.add_mul] at h2
        rw [show k+q - 1=k+(q - 1) by omega]
        exact ⟨h1,h2⟩
       obtain ⟨⟨c0,c1,c2,c3⟩,⟨d0,d1,d2,d3⟩⟩:=HCL.out wr HC.out
       have hkc:((q:Int) - 1)=((q - 1:Nat):Int):=by omega
       have hne:=HN.out (atM l (k+q)) (atM l (k+q - 1))
       have HKS:Hid (keepM l (k+q)=!sameM (atM l (k+q)) (atM l (k+q - 1))):=by
        unfold keepM
        rw [Hid,decide_eq_false (by omega),Bool.false_or]
       have HPUT:Hid (∀ w',CSt w g cap n L w'->CSt w g cap n (L.set K (atM l (k+q))) ((((w'.setCell ⟨g,K*4,none⟩ (.string (T (atM l (k+q)).name))).setCell ⟨g,K*4+1,none⟩ (.int .u8 (atM l (k+q)).key)).setCell ⟨g,K*4+2,none⟩ (.int .u8 (atM l (k+q)).value)).setCell ⟨g,K*4+3,none⟩ (.int .u8 (atM l (k+q)).entries))):=fun w' h=>h.put K (by omega) _
       have HN1:Hid (sameM (atM l (k+q)) (atM l (k+q - 1))=true->compU l (k+(q+1))=compU l (k+q)):=fun h=>by
        rw [<- Nat.add_assoc,compU,HKS.out,h];simp
       have HN2:Hid (sameM (atM l (k+q)) (atM l (k+q - 1))=false->compU l (k+(q+1))=compU l (k+q)++[atM l (k+q)]):=fun h=>by
        rw [<- Nat.add_assoc,compU,HKS.out,h];simp
       have HLL:=hid HC.out.len;clear HKS HX;generalize sameM (atM l (k+q)) (atM l (k+q - 1))=sm at *;generalize atM l (k+q)=x at *;generalize (atM l (k+q - 1)).key=bk at *;generalize (atM l (k+q - 1)).value=bv at *;generalize (atM l (k+q - 1)).entries=be at *;generalize T (atM l (k+q - 1)).name=bn at *;obtain ⟨xn,xk,xv,xe⟩:=x
       try simp only at *
       generalize T xn=an at *
       cases sm with
       | true =>
        go_upto_region 11 with fail;go_quiet (fail)
        have HCq:Hid (CSt w g cap n L (wr.drewN nq)):=HC.out.quiet ((Mods.refl _ _).drewN nq)
        generalize wr.drewN nq=W2 at *;clear c0 c1 c2 c3 d0 d1 d2 d3 hne HC hkc
        have HE:=HN1.out rfl
        have HTn:Hid (L.take K=compU l (k+(q+1))/\K=(compU l (k+(q+1))).length):=by
         rw [Hid,HE];exact ⟨HTK.out,HKL.out⟩
        clear HE;go_wp2_with fail
        go_roundg (n - (k+(q+1)))
        case measure=>omega
        case rel=>exact ⟨K,q+1,L,rfl,by go_num,HCq.out,HTn.out.1,HTn.out.2,fun j h1 h2=>HAT.out j (by omega) h2,by omega,by omega,by omega,rfl⟩
       | false =>
        go_upto_region 11 with fail;go_quiet (fail)
        have HCq:Hid (CSt w g cap n L (wr.drewN nq)):=HC.out.quiet ((Mods.refl _ _).drewN nq)
        generalize wr.drewN nq=W2 at *;clear c0 c1 c2 c3 d0 d1 d2 d3 hne HC hkc
        obtain ⟨⟨c0,c1,c2,c3⟩,_⟩:=HCL.out W2 HCq.out
        obtain ⟨y0,y1,y2,y3⟩:=HCq.out.at K (by omega)
        have fz:=HCq.out.frz (by omega)
        have HTn:Hid ((L.set K ⟨xn,xk,xv,xe⟩).take (K+1)=compU l (k+(q+1))/\K+1=(compU l (k+(q+1))).length):=by
         rw [Hid,HN2.out rfl]
         refine ⟨?_,by rw [List.length_append,<- HKL.out];rfl⟩
         rw [List.take_add_one,List.take_set_of_le (Nat.le_refl _),HTK.out]
         simp [HLL.out,show K<n by omega]
        have HAn:Hid (∀ j,k+(q+1) - 1<=j->j<n->atM (L.set K ⟨xn,xk,xv,xe⟩) j=atM l j):=fun j h1 h2=>by
         rw [<- HAT.out j (by omega) h2]
         unfold atM
         rw [List.getElem?_set_ne (by omega)]
        have HPn:Hid (CSt w g cap n (L.set K ⟨xn,xk,xv,xe⟩) ((((W2.setCell ⟨g,K*4,none⟩ (.string an)).setCell ⟨g,K*4+1,none⟩ (.int .u8 xk)).setCell ⟨g,K*4+2,none⟩ (.int .u8 xv)).setCell ⟨g,K*4+3,none⟩ (.int .u8 xe))):=HPUT.out W2 HCq.out
        clear HPUT HCL;go_wp2_with fail
        go_roundg (n - (k+(q+1)))
        case measure=>omega
        case rel=>exact ⟨K+1,q+1,_,by go_num,by go_num,HPn.out,HTn.out.1,HTn.out.2,HAn.out,by omega,by omega,by omega,rfl⟩
      ·obtain rfl:n=k+q:=by omega
       obtain ⟨w9,hcl,hs9,m9⟩:=HC.out.clear K (cap - K) (by omega) 0
       have HR:Hid (compM l=L.take K/\(compM l).length=K):=by
        unfold compM;rw [Hid,<- HNL.out,HTK.out]
        exact ⟨rfl,HKL.out.symm⟩
       have HS9:=hid hs9;have HM9:=hid m9
       have hz:k+q - k=q:=by omega
       clear hs9 m9;go_wp2_with fail;go_ret
       refine ⟨_,rfl,?_,?_,rfl⟩
       ·rw [HR.out.2,HR.out.1];exact HS9.out
       ·exact HM9.out.mono (fun b _ e=>by rw [show b=g from e];rfl)
   ·obtain rfl:k=n:=by omega
    have HR:Hid (compM l=l):=compM_all l (by rw [<- HNL.out];exact HK.out)
    go_wp2_with fail;go_ret
    refine ⟨_,rfl,?_,?_,rfl⟩
    ·rw [HR.out,<- HNL.out];exact HC.out.sl
    ·exact HC.out.md.mono (fun b _ e=>by rw [show b=g from e];rfl)
def rowOf (f:PFn):Value->FRow
 | .slice o n c=>⟨f,o,n,c⟩
 | _=>⟨f,none,0,0⟩
def PartD.rows (p:PartD):List FRow:=List.zipWith rowOf p.fs p.vs
theorem rows_cells:∀ (fs:List PFn) (vs:List Value),vs.length=fs.length->(∀ u∈vs,∃ o n c,u=.slice o n c)->((fs.map (·.name)).zip vs).flatMap fnC=(List.zipWith rowOf fs vs).flatMap FRow.cells
 | [],[],_,_=>rfl
 | [],_::_,h,_=>by simp at h
 | _::_,[],h,_=>by simp at h
 | f::fs,v::vs,h,hv=>by
  obtain ⟨o,n,c,rfl⟩:=hv v (by simp)
  rw [List.map_cons,List.zip_cons_cons,List.flatMap_cons,List.zipWith_cons_cons,List.flatMap_cons,rows_cells fs vs (by simpa using h) (fun u hu=>hv u (by simp [hu]))]
  rfl
theorem Fns.slices {w:World} {lo:Nat} {bs:List Nat} {v:Value} {fs:List PFn} {vs:List Value} (h:Fns w lo bs v fs vs):∀ u∈vs,∃ o n c,u=.slice o n c:=by
 intro u hu;obtain ⟨i,hi,rfl⟩:=List.getElem_of_mem hu
 obtain ⟨o,c,e,_⟩:=(h.cd i (by rw [<- h.len];exact hi) hi).view
 exact ⟨o,_,c,e⟩
theorem PartAt.rowsSl {w:World} {bs:List Nat} {p:PartD} (h:PartAt w bs p):Sl w 55 2 p.vF p.rows.length (p.rows.flatMap FRow.cells):=by
 have hl:p.rows.length=p.fs.length:=by unfold PartD.rows;rw [List.length_zipWith,h.fns.len,Nat.min_self]
 rw [hl];unfold PartD.rows;rw [<- rows_cells p.fs p.vs h.fns.len h.fns.slices];exact h.fns.sl
theorem frow_one (l:List FRow):∀ u∈l.flatMap FRow.cells,u.oneCell'=true:=by
 intro u hu;obtain ⟨x,_,hx⟩:=List.mem_flatMap.1 hu
 simp [FRow.cells] at hx
 rcases hx with rfl | rfl<;>rfl
theorem pmaps_one (l:List PMap):∀ u∈l.flatMap PMap.cells,u.oneCell'=true:=by
 intro u hu;obtain ⟨x,_,hx⟩:=List.mem_flatMap.1 hu
 simp [PMap.cells] at hx
 rcases hx with rfl | rfl | rfl | rfl<;>rfl
structure JInv (w0:World) (B R:Nat) (vM vF:Value) (ms:List PMap) (rs:List FRow) (w:World):Prop where
 box:Blk w B #[vM,vF] 37
 res:Blk w R #[.slice none 0 0,.slice none 0 0] 37
 maps:Sl w 47 4 vM ms.length (ms.flatMap PMap.cells)
 rows:Sl w 55 2 vF rs.length (rs.flatMap FRow.cells)
 ownM:∀ k,vM.ownBlock=some k->w0.heap.size<=k
 ownF:∀ k,vF.ownBlock=some k->w0.heap.size<=k
 newB:w0.heap.size<=B
 newR:w0.heap.size<=R
 ne:B≠R
 md:Mods Nil' w0 w
theorem JInv.quiet {w0 w w':World} {B R:Nat} {vM vF:Value} {ms:List PMap} {rs:List FRow} (h:JInv w0 B R vM vF ms rs w) (m:Mods Nil' w w'):JInv w0 B R vM vF ms rs w' :=
 ⟨h.box.mods m id,h.res.mods m id,h.maps.mods m (fun _ _=>id),h.rows.mods m (fun _ _=>id),h.ownM,h.ownF,h.newB,h.newR,h.ne,h.md.trans m⟩
theorem JInv.appM {w0 w w':World} {B R:Nat} {vM vF v':Value} {ms m2:List PMap} {rs:List FRow} (h:JInv w0 B R vM vF ms rs w) (s:Sl w' 47 4 v' (ms.length+m2.length) (ms.flatMap PMap.cells++m2.flatMap PMap.cells)) (m:Mods (fun k=>vM.ownBlock=some k) w w') (l:∀ k,v'.ownBlock=some k->vM.ownBlock=some k\/w.heap.size<=k) :
  JInv w0 B R v' vF (ms++m2) rs (w'.setCell ⟨B,0,none⟩ v'):=by
 have hb:=h.box.mods m (h.maps.notBlk h.box (by decide))
 have hr:=h.res.mods m (h.maps.notBlk h.res (by decide))
 have mB:Mods (Only B) w' (w'.setCell ⟨B,0,none⟩ v'):=(Mods.refl _ _).setb _ _
 have hF:=h.rows.mods m (fun k hk e=>h.rows.apart h.maps (by decide) hk e)
 refine ⟨hb.set 0 v',hr.setOther (a:=⟨B,0,none⟩) h.ne _,?_,hF.mods mB (fun k hk e=>hF.notBlk hb (by decide) (by rw [<- show k=B from e];exact hk)),fun k hk=>?_,h.ownF,h.newB,h.newR,h.ne,(h.md.step m (fun i hi e=>by have:=h.ownM i e;omega)).set (a:=⟨B,0,none⟩) (.inr h.newB) _⟩
 ·rw [List.length_append,List.flatMap_append]
  exact s.mods mB (fun k hk e=>s.notBlk hb (by decide) (by rw [<- show k=B from e];exact hk))
 ·rcases l k hk with e | e
  ·exact h.ownM k e
  ·have:=h.md.size;omega
theorem JInv.appF {w0 w w':World} {B R:Nat} {vM vF v':Value} {ms:List PMap} {rs r2:List FRow} (h:JInv w0 B R vM vF ms rs w) (s:Sl w' 55 2 v' (rs.length+r2.length) (rs.flatMap FRow.cells++r2.flatMap FRow.cells)) (m:Mods (fun k=>vF.ownBlock=some k) w w') (l:∀ k,v'.ownBlock=some k->vF.ownBlock=some k\/w.heap.size<=k) :
  JInv w0 B R vM v' ms (rs++r2) (w'.setCell ⟨B,1,none⟩ v'):=by
 have hb:=h.box.mods m (h.rows.notBlk h.box (by decide))
 have hr:=h.res.mods m (h.rows.notBlk h.res (by decide))
 have mB:Mods (Only B) w' (w'.setCell ⟨B,1,none⟩ v'):=(Mods.refl _ _).setb _ _
 have hM:=h.maps.mods m (fun k hk e=>h.maps.apart h.rows (by decide) hk e)
 refine ⟨hb.set 1 v',hr.setOther (a:=⟨B,1,none⟩) h.ne _,hM.mods mB (fun k hk e=>hM.notBlk hb (by decide) (by rw [<- show k=B from e];exact hk)),?_,h.ownM,fun k hk=>?_,h.newB,h.newR,h.ne,(h.md.step m (fun i hi e=>by have:=h.ownF i e;omega)).set (a:=⟨B,1,none⟩) (.inr h.newB) _⟩
 ·rw [List.length_append,List.flatMap_append]
  exact s.mods mB (fun k hk e=>s.notBlk hb (by decide) (by rw [<- show k=B from e];exact hk))
 ·rcases l k hk with e | e
  ·exact h.ownF k e
  ·have:=h.md.size;omega
theorem JInv.sorted {w0 w w':World} {B R:Nat} {vM vF:Value} {ms ms':List PMap} {rs rs':List FRow} (h:JInv w0 B R vM vF ms rs w) (sM:Sl w' 47 4 vM ms'.length (ms'.flatMap PMap.cells)) (sF:Sl w' 55 2 vF rs'.length (rs'.flatMap FRow.cells)) (m:Mods (fun b=>vM.ownBlock=some b\/vF.ownBlock=some b) w w'):JInv w0 B R vM vF ms' rs' w':=by
 refine ⟨h.box.mods m ?_,h.res.mods m ?_,sM,sF,h.ownM,h.ownF,h.newB,h.newR,h.ne,h.md.step m (fun i hi e=>?_)⟩
 ·rintro (e | e)
  ·exact h.maps.notBlk h.box (by decide) e
  ·exact h.rows.notBlk h.box (by decide) e
 ·rintro (e | e)
  ·exact h.maps.notBlk h.res (by decide) e
  ·exact h.rows.notBlk h.res (by decide) e
 ·rcases e with e | e
  ·have:=h.ownM i e;omega
  ·have:=h.ownF i e;omega
theorem JInv.comp {w0 w w':World} {B R:Nat} {vM vF v':Value} {ms m2:List PMap} {rs:List FRow} (h:JInv w0 B R vM vF ms rs w) (s:Sl w' 47 4 v' m2.length (m2.flatMap PMap.cells)) (m:Mods (fun k=>vM.ownBlock=some k) w w') (l:v'.ownBlock=vM.ownBlock) :
  JInv w0 B R v' vF m2 rs (w'.setCell ⟨B,0,none⟩ v'):=by
 have hb:=h.box.mods m (h.maps.notBlk h.box (by decide))
 have hr:=h.res.mods m (h.maps.notBlk h.res (by decide))
 have mB:Mods (Only B) w' (w'.setCell ⟨B,0,none⟩ v'):=(Mods.refl _ _).setb _ _
 have hF:=h.rows.mods m (fun k hk e=>h.rows.apart h.maps (by decide) hk e)
 exact ⟨hb.set 0 v',hr.setOther (a:=⟨B,0,none⟩) h.ne _,s.mods mB (fun k hk e=>s.notBlk hb (by decide) (by rw [<- show k=B from e];exact hk)),hF.mods mB (fun k hk e=>hF.notBlk hb (by decide) (by rw [<- show k=B from e];exact hk)),fun k hk=>h.ownM k (l ▸ hk),h.ownF,h.newB,h.newR,h.ne,(h.md.step m (fun i hi e=>by have:=h.ownM i e;omega)).set (a:=⟨B,0,none⟩) (.inr h.newB) _⟩
set_option maxRecDepth 100000 in
set_option maxHeartbeats 2000000 in
theorem join_any (w0 w:World) (bs:List Nat) (v:Value) (ps:List PartD) (hP:Parts w0 bs v ps w) (hpl:ps.length<=100) (hml:∀ p∈ps,p.ms.length<=1000) (hfl:∀ p∈ps,p.rows.length<=1000) :
  Calls Tryz.prog 26 #[v] w fun e w'=>∃ (vM vF:Value) (ms:List PMap) (rs:List FRow),e=.returned (.agg #[vM,vF])/\Sl w' 47 4 vM (compM ms).length ((compM ms).flatMap PMap.cells)/\Sl w' 55 2 vF rs.length (rs.flatMap FRow.cells)/\ms.Perm (ps.flatMap (·.ms))/\ms.Pairwise (fun x y=>ltB (T y.name) (T x.name)=false)/\rs.Perm (ps.flatMap PartD.rows)/\rs.Pairwise (fun x y=>ltB (T y.f.name) (T x.f.name)=false)/\Mods Nil' w w':=by
 obtain ⟨o,c,hvv,_⟩:=hP.sl.view;subst hvv;obtain ⟨iM,hiM,hzM,hsM,hbM⟩:=info_parts info_pmap;obtain ⟨iF,hiF,hzF,hsF,hbF⟩:=info_parts info_pfunc;have HP:=hid hP;have HML:=hid hml;have HFL:=hid hfl
 have hJ0:JInv w (w.heap.size+1) w.heap.size (.slice none 0 0) (.slice none 0 0) [] [] ((w.alloc (.cells #[.slice none 0 0,.slice none 0 0] 37)).alloc (.cells #[.slice none 0 0,.slice none 0 0] 37)):=by
  have hb:=Blk.new (w.alloc (.cells #[.slice none 0 0,.slice none 0 0] 37)) #[.slice none 0 0,.slice none 0 0] 37
  rw [show (w.alloc (.cells #[.slice none 0 0,.slice none 0 0] 37)).heap.size=w.heap.size+1 by simp] at hb
  exact ⟨hb,(Blk.new w _ _).alloc _,Sl.nil _ _ _,Sl.nil _ _ _,(fun _ h=>by cases h),(fun _ h=>by cases h),by omega,by omega,by omega,((Mods.refl _ _).alloc _).alloc _⟩
 have HJ0:=hid hJ0;clear hP hml hfl hJ0
 go_enter Tryz.func26,Tryz.ntmps26
 go_wp2_with fail;generalize (w.alloc (.cells #[.slice none 0 0,.slice none 0 0] 37)).alloc (.cells #[.slice none 0 0,.slice none 0 0] 37)=wB at *;generalize w.heap.size+1=B at *;generalize w.heap.size=R at *
 go_loopg [8] ps.length (fun g iv wx=>∃ (k:Nat) (vM vF:Value),iv=.int .i64 k/\JInv w B R vM vF ((ps.take k).flatMap (·.ms)) ((ps.take k).flatMap PartD.rows) wx/\k<=ps.length/\g=ps.length - k)
 case atStart=>exact ⟨0,_,_,rfl,HJ0.out,Nat.zero_le _,rfl⟩
 case round =>
  obtain ⟨k,vM,vF,rfl,hJ,hk,rfl⟩:=hrel;have HJ:=hid hJ
  have hmb:((ps.take k).flatMap (·.ms)).length<=100000:=by
   have:=flat_bd (fun p:PartD=>p.ms) 1000 (ps.take k) (fun x hx=>HML.out x (List.mem_of_mem_take hx))
   rw [List.length_take] at this
   have h2:min k ps.length*1000<=100*1000:=Nat.mul_le_mul_right _ (by omega)
   exact Nat.le_trans this h2
  have hfb:((ps.take k).flatMap PartD.rows).length<=100000:=by
   have:=flat_bd PartD.rows 1000 (ps.take k) (fun x hx=>HFL.out x (List.mem_of_mem_take hx))
   rw [List.length_take] at this
   have h2:min k ps.length*1000<=100*1000:=Nat.mul_le_mul_right _ (by omega)
   exact Nat.le_trans this h2
  obtain ⟨oM,cM,hvM,_⟩:=hJ.maps.view;obtain ⟨oF,cF,hvF,_⟩:=hJ.rows.view;clear hJ HJ0
  by_cases hkl:k<ps.length
  ·obtain ⟨gP,rfl,c0,c1'⟩:=(HP.out.quiet HJ.out.md).at k hkl
   have HMT:Hid ((ps.take (k+1)).flatMap (·.ms)=(ps.take k).flatMap (·.ms)++ps[k].ms):=take_flat _ ps k hkl
   have HFT:Hid ((ps.take (k+1)).flatMap PartD.rows=(ps.take k).flatMap PartD.rows++ps[k].rows):=take_flat _ ps k hkl
   have hpa:=(HP.out.quiet HJ.out.md).each _ (List.getElem_mem hkl)
   have h1:=HML.out ps[k] (List.getElem_mem hkl)
   have h2:=HFL.out ps[k] (List.getElem_mem hkl)
   obtain ⟨a1,a2,ha,_⟩:=hpa.maps.view;obtain ⟨b1,b2,hb,_⟩:=hpa.rowsSl.view
   have HPM:Hid (Sl wr 47 4 (.slice a1 ps[k].ms.length a2) ps[k].ms.length (ps[k].ms.flatMap PMap.cells)):=by rw [<- ha];exact hpa.maps
   have HPF:Hid (∀ w',Mods Nil' w w'->Sl w' 55 2 (.slice b1 ps[k].rows.length b2) ps[k].rows.length (ps[k].rows.flatMap FRow.cells)):=fun w' m=>by
    rw [<- hb];exact ((HP.out.quiet m).each _ (List.getElem_mem hkl)).rowsSl
   rw [ha] at c0;rw [hb] at c1';clear hpa ha hb;generalize ps[k].ms=m2 at *;generalize ps[k].rows=r2 at *;generalize (ps.take k).flatMap (·.ms)=ms at *;generalize (ps.take k).flatMap PartD.rows=rs at *;subst hvM hvF
   have HM1:Hid (Mods Nil' wr (wr.alloc (.cells #[.slice a1 m2.length a2,.slice b1 r2.length b2] 37))):=(Mods.refl _ _).alloc _
   have HBp:Hid (Blk (wr.alloc (.cells #[.slice a1 m2.length a2,.slice b1 r2.length b2] 37)) wr.heap.size #[.slice a1 m2.length a2,.slice b1 r2.length b2] 37):=Blk.new _ _ _
   go_upto_region 5 with fail
   have HJ1:Hid (JInv w B R (.slice oM ms.length cM) (.slice oF rs.length cF) ms rs (wr.alloc (.cells #[.slice a1 m2.length a2,.slice b1 r2.length b2] 37))):=HJ.out.quiet HM1.out
   have HPM1:Hid (Sl (wr.alloc (.cells #[.slice a1 m2.length a2,.slice b1 r2.length b2] 37)) 47 4 (.slice a1 m2.length a2) m2.length (m2.flatMap PMap.cells)):=HPM.out.mods HM1.out (fun _ _=>id)
   generalize wr.alloc (.cells #[.slice a1 m2.length a2,.slice b1 r2.length b2] 37)=W at *
   have HPn:Hid (wr.heap.size≠B):=fun e=>by
    have:=HJ.out.box.lt
    omega
   clear c0 c1' HJ HPM HM1;generalize wr.heap.size=P at *
   have y0:W.cell? ⟨B,0,none⟩=some (.slice oM ms.length cM):=HJ1.out.box.cell 0
   have y1:W.cell? ⟨P,0,none⟩=some (.slice a1 m2.length a2):=HBp.out.cell 0
   go_upto_region 6 with (at_builtin;refine wpList_append_row _ rfl (.tmp 13) (.tmp 15) 34 rfl 47 iM (.agg #[.string E0,.int .u8 0,.int .u8 0,.int .u8 0]) 4 24 Tryz.underlying34 hiM hzM hsM hbM rfl (by decide) (.slice oM ms.length cM) ms.length (ms.flatMap PMap.cells) rfl HJ1.out.maps (.slice a1 m2.length a2) m2.length (m2.flatMap PMap.cells) rfl HPM1.out (pmaps_one _) (by unfold maxLen;omega) (by omega) ?_;intro v5 w5 s5 m5 l5;obtain ⟨o5,c5,rfl,_⟩:=Sl.view s5;have y2:w5.cell? ⟨B,0,none⟩=some (.slice oM ms.length cM):=(HJ1.out.box.mods m5 (HJ1.out.maps.notBlk HJ1.out.box (by decide))).cell 0;have y3:=(HJ1.out.box.mods m5 (HJ1.out.maps.notBlk HJ1.out.box (by decide))).frozen 0)
   have HJ2:Hid (JInv w B R (.slice o5 (ms.length+m2.length) c5) (.slice oF rs.length cF) (ms++m2) rs (w5.setCell ⟨B,0,none⟩ (.slice o5 (ms.length+m2.length) c5))):=HJ1.out.appM s5 m5 l5
   have HBp2:Hid (Blk (w5.setCell ⟨B,0,none⟩ (.slice o5 (ms.length+m2.length) c5)) P #[.slice a1 m2.length a2,.slice b1 r2.length b2] 37):=(HBp.out.mods m5 (HJ1.out.maps.notBlk HBp.out (by decide))).setOther (a:=⟨B,0,none⟩) (fun e=>HPn.out e.symm) _
   clear y0 y1 y2 y3 s5 m5 l5 HJ1 HBp HPM1;generalize w5.setCell ⟨B,0,none⟩ (.slice o5 (ms.length+m2.length) c5)=W6 at *
   have HPF6:Hid (Sl W6 55 2 (.slice b1 r2.length b2) r2.length (r2.flatMap FRow.cells)):=HPF.out W6 HJ2.out.md
   have y0:W6.cell? ⟨B,1,none⟩=some (.slice oF rs.length cF):=HJ2.out.box.cell 1
   have y1:W6.cell? ⟨P,1,none⟩=some (.slice b1 r2.length b2):=HBp2.out.cell 1
   go_upto_region 7 with (at_builtin;refine wpList_append_row _ rfl (.tmp 19) (.tmp 21) 35 rfl 55 iF (.agg #[.string E0,.slice none 0 0]) 2 40 Tryz.underlying35 hiF hzF hsF hbF rfl (by decide) (.slice oF rs.length cF) rs.length (rs.flatMap FRow.cells) rfl HJ2.out.rows (.slice b1 r2.length b2) r2.length (r2.flatMap FRow.cells) rfl HPF6.out (frow_one _) (by unfold maxLen;omega) (by omega) ?_;intro v7 w7 s7 m7 l7;obtain ⟨o7,c7,rfl,_⟩:=Sl.view s7;have y2:w7.cell? ⟨B,1,none⟩=some (.slice oF rs.length cF):=(HJ2.out.box.mods m7 (HJ2.out.rows.notBlk HJ2.out.box (by decide))).cell 1;have y3:=(HJ2.out.box.mods m7 (HJ2.out.rows.notBlk HJ2.out.box (by decide))).frozen 1)
   have HJ3:Hid (JInv w B R (.slice o5 (ms.length+m2.length) c5) (.slice o7 (rs.length+r2.length) c7) (ms++m2) (rs++r2) (w7.setCell ⟨B,1,none⟩ (.slice o7 (rs.length+r2.length) c7))):=HJ2.out.appF s7 m7 l7
   clear y0 y1 y2 y3 s7 m7 l7 HJ2 HBp2 HPF6;generalize w7.setCell ⟨B,1,none⟩ (.slice o7 (rs.length+r2.length) c7)=W8 at *;go_wp2_with fail
   go_roundg (ps.length - (k+1))
   case measure=>omega
   case rel=>exact ⟨k+1,_,_,by go_num,by rw [HMT.out,HFT.out];exact HJ3.out,by omega,rfl⟩
  ·obtain rfl:k=ps.length:=by omega
   have HJe:Hid (JInv w B R vM vF (ps.flatMap (·.ms)) (ps.flatMap PartD.rows) wr):=by
    have:=HJ.out
    rw [List.take_length] at this;exact this
   rw [List.take_length] at hmb hfb hvM hvF
   generalize hms:ps.flatMap (·.ms)=ms at *
   generalize hrs:ps.flatMap PartD.rows=rs at *
   have HMS:=hid hms;have HRS:=hid hrs;clear hms hrs;subst hvM hvF
   have y0:wr.cell? ⟨B,0,none⟩=some (.slice oM ms.length cM):=HJe.out.box.cell 0
   have y1:wr.cell? ⟨B,1,none⟩=some (.slice oF rs.length cF):=HJe.out.box.cell 1
   go_wp2_with fail
   refine (psort_any wr (.slice oM ms.length cM) (.slice oF rs.length cF) ms rs (by omega) (by omega) HJe.out.maps HJe.out.rows).mono ?_
   rintro e w2 ⟨rfl,ms',rs',p1,q1,p2,q2,s1,s2,m2⟩
   have HJs:Hid (JInv w B R (.slice oM ms.length cM) (.slice oF rs.length cF) ms' rs' w2):=HJe.out.sorted s1 s2 m2
   have HPQ:Hid (ms'.Perm ms/\ms'.Pairwise (fun x y=>ltB (T y.name) (T x.name)=false)/\rs'.Perm rs/\rs'.Pairwise (fun x y=>ltB (T y.f.name) (T x.f.name)=false)):=⟨p1,q1,p2,q2⟩
   have e1:ms'.length=ms.length:=p1.length_eq
   have HE1:=hid e1
   have e2:rs'.length=rs.length:=p2.length_eq
   have HE2:=hid e2;clear y0 y1 p1 q1 p2 q2 s1 s2 m2 e1 e2 HJe HJ
   have y0:w2.cell? ⟨B,0,none⟩=some (.slice oM ms.length cM):=HJs.out.box.cell 0
   go_wp2_with fail
   refine (comp_any w2 (.slice oM ms.length cM) ms' (by rw [HE1.out];omega) HJs.out.maps).mono ?_
   rintro e w3 ⟨v3,rfl,s3,m3,l3⟩
   have HJc:Hid (JInv w B R v3 (.slice oF rs.length cF) (compM ms') rs' (w3.setCell ⟨B,0,none⟩ v3)):=HJs.out.comp s3 m3 l3
   have hb3:=HJs.out.box.mods m3 (HJs.out.maps.notBlk HJs.out.box (by decide))
   obtain ⟨o3,c3,hv3,_⟩:=s3.view;subst hv3
   have y2:w3.cell? ⟨B,0,none⟩=some (.slice oM ms.length cM):=hb3.cell 0
   have y3:=hb3.frozen 0
   clear y0 s3 m3 l3 hb3 HJs;go_upto_region 10 with fail;generalize w3.setCell ⟨B,0,none⟩ (.slice o3 (compM ms').length c3)=w4 at *;clear y2 y3
   have y0:w4.cell? ⟨B,0,none⟩=some (.slice o3 (compM ms').length c3):=HJc.out.box.cell 0
   have y1:w4.cell? ⟨B,1,none⟩=some (.slice oF rs.length cF):=HJc.out.box.cell 1
   have y2:w4.cell? ⟨R,0,none⟩=some (.slice none 0 0):=HJc.out.res.cell 0
   have y3:w4.cell? ⟨R,1,none⟩=some (.slice none 0 0):=HJc.out.res.cell 1
   have y4:=HJc.out.res.frozen 0
   have y5:=HJc.out.res.frozen 1
   go_wp2_with fail
   refine bodyPost_ret (results_cell_row Tryz.results26 _ _ R 37 #[.slice o3 (compM ms').length c3,.slice oF rs.length cF] (0,0) _ rfl ((HJc.out.res.set 0 _).set 1 _) Tryz.underlying37 rfl (by kernel_rfl)) rfl ?_
   obtain ⟨p1,q1,p2,q2⟩:=HPQ.out
   have mR:Mods (Only R) w4 ((w4.setCell ⟨R,0,none⟩ (.slice o3 (compM ms').length c3)).setCell ⟨R,1,none⟩ (.slice oF rs.length cF)):=((Mods.refl _ _).setb _ _).setb _ _
   refine ⟨_,_,ms',rs',rfl,HJc.out.maps.mods mR (fun k hk e=>HJc.out.maps.notBlk HJc.out.res (by decide) (by rw [<- show k=R from e];exact hk)),HJc.out.rows.mods mR (fun k hk e=>HJc.out.rows.notBlk HJc.out.res (by decide) (by rw [<- show k=R from e];exact hk)),by rw [HMS.out];exact p1,q1,by rw [HRS.out];exact p2,q2,?_⟩
   exact HJc.out.md.step mR (fun i hi e=>by have h1:i=R:=e;have:=HJc.out.newR;omega)
structure PartOk (p:List PMap × List PFn):Prop where
 ml:p.1.length<=8
 fl:p.2.length<=16
 mb:∀ m∈p.1,m.name.length<=255/\m.key<=255/\m.value<=255/\m.entries<=255
 fb:∀ f∈p.2,f.name.length<=255/\f.code.length<=200
theorem rows_len {w:World} {bs:List Nat} {p:PartD} (h:PartAt w bs p):p.rows.length=p.fs.length:=by
 unfold PartD.rows;rw [List.length_zipWith,h.fns.len,Nat.min_self]
theorem zip_f:∀ (fs:List PFn) (vs:List Value),vs.length=fs.length->(List.zipWith rowOf fs vs).map (·.f)=fs
 | [],_,_=>rfl
 | f::fs,[],h=>by simp at h
 | f::fs,v::vs,h=>by
  rw [List.zipWith_cons_cons,List.map_cons,zip_f fs vs (by simpa using h)]
  cases v<;>rfl
theorem rows_f {w:World} {bs:List Nat} {p:PartD} (h:PartAt w bs p):p.rows.map (·.f)=p.fs:=zip_f p.fs p.vs h.fns.len
structure FRowAt (w:World) (lo:Nat) (bs:List Nat) (r:FRow):Prop where
 sl:Sl w 84 8 r.v r.f.code.length (codeC bs r.f.code)
 ok:∀ x∈r.f.code,PIok x
 own:∀ k,r.v.ownBlock=some k->lo<=k
theorem part_row {w:World} {bs:List Nat} {p:PartD} (h:PartAt w bs p) (i:Nat) (hi:i<p.rows.length):∃ (h1:i<p.fs.length) (h2:i<p.vs.length),p.rows[i].f=p.fs[i]/\p.rows[i].v=p.vs[i]:=by
 have h1:i<p.fs.length:=by rw [<- rows_len h];exact hi
 have h2:i<p.vs.length:=by rw [h.fns.len];exact h1
 refine ⟨h1,h2,?_⟩
 have e:p.rows[i]=rowOf p.fs[i] p.vs[i]:=List.getElem_zipWith (f:=rowOf) (h:=hi)
 obtain ⟨o,n,c,ev⟩:=h.fns.slices p.vs[i] (List.getElem_mem h2)
 rw [e,ev]
 exact ⟨rfl,rfl⟩
theorem part_rows {w:World} {bs:List Nat} {p:PartD} (h:PartAt w bs p):∀ r∈p.rows,FRowAt w p.lo bs r/\r.v∈p.vs/\r.f∈p.fs:=by
 intro r hr;obtain ⟨i,hi,rfl⟩:=List.getElem_of_mem hr;obtain ⟨h1,h2,e1,e2⟩:=part_row h i hi
 refine ⟨⟨?_,?_,?_⟩,by rw [e2];exact List.getElem_mem h2,by rw [e1];exact List.getElem_mem h1⟩
 ·rw [e1,e2];exact h.fns.cd i h1 h2
 ·rw [e1];exact h.fns.ok _ (List.getElem_mem h1)
 ·rw [e2];exact h.fns.ownC _ (List.getElem_mem h2)
def ApartV (x y:FRow):Prop:=∀ k,x.v.ownBlock=some k->y.v.ownBlock≠some k
theorem part_ne {w:World} {bs:List Nat} {p:PartD} (h:PartAt w bs p):p.rows.Pairwise ApartV:=by
 rw [List.pairwise_iff_getElem];intro i j hi hj hij k hk;obtain ⟨a1,a2,_,e2⟩:=part_row h i hi;obtain ⟨b1,b2,_,f2⟩:=part_row h j hj;rw [e2] at hk;rw [f2]
 exact h.fns.ne i j a2 b2 (by omega) k hk
theorem parts_ne {w:World} {bs:List Nat}:∀ (ps:List PartD),(∀ p∈ps,PartAt w bs p)->ps.Pairwise (fun p q=>∀ u∈p.vs,∀ k,u.ownBlock=some k->k<q.lo)->(ps.flatMap PartD.rows).Pairwise ApartV
 | [],_,_=>List.Pairwise.nil
 | p::ps,h,ho=>by
  rw [List.flatMap_cons,List.pairwise_append];rw [List.pairwise_cons] at ho
  refine ⟨part_ne (h p (by simp)),parts_ne ps (fun q hq=>h q (by simp [hq])) ho.2,fun x hx y hy k hk hk2=>?_⟩
  obtain ⟨q,hq,hy⟩:=List.mem_flatMap.1 hy
  have h1:=ho.1 q hq x.v (part_rows (h p (by simp)) x hx).2.1 k hk
  have h2:=(part_rows (h q (by simp [hq])) y hy).1.own k hk2
  omega
theorem rows_zip:∀ rs:List FRow,(((rs.map (·.f)).map (·.name)).zip (rs.map FRow.v)).flatMap fnC=rs.flatMap FRow.cells
 | []=>rfl
 | r::rs=>by
  rw [List.map_cons,List.map_cons,List.map_cons,List.zip_cons_cons,List.flatMap_cons,List.flatMap_cons,rows_zip rs]
  rfl
theorem ppw_of {wT w:World} {bs:List Nat} {v vM vF:Value} {ps:List PartD} {ms:List PMap} {rs:List FRow} (hP:Parts wT bs v ps w) (hM:Sl w 47 4 vM ms.length (ms.flatMap PMap.cells)) (hF:Sl w 55 2 vF rs.length (rs.flatMap FRow.cells)) (hp:rs.Perm (ps.flatMap PartD.rows)) :
  PPw wT w bs vM vF ms (rs.map (·.f)) (rs.map FRow.v)/\∀ f∈rs.map (·.f),∀ x∈f.code,PIok x:=by
 have hr:∀ r∈rs,FRowAt w wT.heap.size bs r:=fun r hr=>by
  obtain ⟨p,hpm,hr⟩:=List.mem_flatMap.1 (hp.subset hr)
  have h:=(part_rows (hP.each p hpm) r hr).1
  exact ⟨h.sl,h.ok,fun k hk=>Nat.le_trans (hP.lo p hpm) (h.own k hk)⟩
 have hne:rs.Pairwise ApartV:=(hp.pairwise_iff (fun {x y} h k hk e=>h k e hk)).2 (parts_ne ps hP.each hP.ord)
 rw [List.pairwise_iff_getElem] at hne
 refine ⟨⟨hM,by simp,?_,fun i h1 h2=>?_,fun i j h1 h2 hij k hk e=>?_,fun u hu k hk=>?_,hP.md⟩,fun f hf x hx=>?_⟩
 ·rw [rows_zip,List.length_map];exact hF
 ·rw [List.length_map] at h1 h2
  simp only [List.getElem_map]
  exact (hr rs[i] (List.getElem_mem h1)).sl
 ·rw [List.length_map] at h1 h2
  simp only [List.getElem_map] at hk e
  rcases Nat.lt_or_ge i j with c | c
  ·exact hne i j h1 h2 c k hk e
  ·exact hne j i h2 h1 (by omega) k e hk
 ·obtain ⟨r,hrm,rfl⟩:=List.mem_map.1 hu
  exact (hr r hrm).own k hk
 ·obtain ⟨r,hrm,rfl⟩:=List.mem_map.1 hf
  exact (hr r hrm).ok x hx
def faultOf (r1 r2 r3:Int) (tm:Bool):Int × Int:=if r1≠-1 then (4,r1) else if r2≠-1 then (8,r2) else if r3≠-1 then (5,r3) else if tm then (1,0) else (0,0)
set_option maxHeartbeats 1000000 in
theorem fault_any (wT w:World) (tv:Value) (bs:List Nat) (hT:OpsIn 0 wT tv bs tableS) (v:Value) (ps:List PartD) (hP:Parts wT bs v ps w) (hpl:ps.length<=8) (hok:∀ p∈ps,PartOk p.plain)
  (vM vF:Value) (ms:List PMap) (fs:List PFn) (vs:List Value) (hW:PPw wT w bs vM vF ms fs vs) (hm:ms.length<=1000) (hf:fs.length<=1000) (hfo:∀ f∈fs,f.code.length<=200/\∀ x∈f.code,PIok x) (hsum:∀ k,sumF (fs.take k)<=1000000)
  (r1 r2 r3:Int) (tm:Bool) (h1:r1=twiceP 0 [] (ps.map (fun p=>p.fs.map (fun f=>T f.name)))) (h2:r2=otherP 0 [] (ps.map (·.ms))) (h3:r3=missP ((fs.map (·.name)).map T) 0 (ps.map (·.fs))) (h4:tm=(decide (8<ms.length)||decide (16<fs.length)||decide (200<sumF fs))) :
  Calls Tryz.prog 27 #[v,.agg #[vM,vF]] w fun e w'=>e=.returned (.tuple #[.int .i64 (faultOf r1 r2 r3 tm).1,.int .i64 (faultOf r1 r2 r3 tm).2])/\Mods Nil' w w':=by
 obtain ⟨o,c,hv,_⟩:=hP.sl.view;obtain ⟨oM,cM,hvM,_⟩:=hW.maps.view;obtain ⟨oF,cF,hvF,_⟩:=hW.rows.view
 have H1:Hid (∀ w',Mods Nil' w w'->Calls Tryz.prog 50 #[v] w' fun e w2=>e=.returned (.int .i64 r1)/\Mods Nil' w' w2):=fun w' m=>twice_any wT w' bs v ps (hP.quiet m) (by omega) (fun p hp=>Nat.le_trans (hok p hp).fl (by omega)) r1 h1
 have H2:Hid (∀ w',Mods Nil' w w'->Calls Tryz.prog 51 #[v] w' fun e w2=>e=.returned (.int .i64 r2)/\Mods Nil' w' w2):=fun w' m=>lother_any wT w' bs v ps (hP.quiet m) (by omega) (fun p hp=>Nat.le_trans (hok p hp).ml (by omega)) r2 h2
 have hz:((fs.map (·.name)).zip vs).length=fs.length:=by rw [List.length_zip,List.length_map,hW.len,Nat.min_self]
 have H3:Hid (∀ w',Mods Nil' w w'->Calls Tryz.prog 52 #[v,.agg #[vM,vF]] w' fun e w2=>e=.returned (.int .i64 r3)/\Mods Nil' w' w2):=fun w' m=>by
  have:=miss_any wT w' tv bs hT v ps (hP.quiet m) (by omega) (fun p hp=>⟨Nat.le_trans (hok p hp).fl (by omega),fun f hf=>Nat.le_trans ((hok p hp).fb f hf).2 (by omega)⟩) vM vF oM ms.length cM hvM ((fs.map (·.name)).zip vs) hW.slices (by rw [hz];exact (hW.quiet m).rows) (by rw [hz];exact hf) _ (zip_names _ (by rw [List.length_map];exact hW.len)).symm
  rw [<- h3] at this;exact this
 have H4:Hid (∀ w',Mods Nil' w w'->Calls Tryz.prog 53 #[.agg #[vM,vF]] w' fun e w2=>e=.returned (.bool tm)/\Mods Nil' w' w2):=fun w' m=>by
  rw [h4];exact too_any w' tv bs vM vF ms fs vs ((hW.quiet m).ppr hT) hm hf hfo hsum
 have HB0:Hid (Blk (w.alloc (.cells #[vM,vF] 37)) w.heap.size #[vM,vF] 37):=Blk.new _ _ _
 have HM0:Hid (Mods Nil' w (w.alloc (.cells #[vM,vF] 37))):=(Mods.refl _ _).alloc _
 subst hv hvM hvF;clear hP hW hok hfo hsum h1 h2 h3 h4 hT hz
 obtain ⟨e1,he1⟩:∃ e1,e1=(faultOf r1 r2 r3 tm).1:=⟨_,rfl⟩
 obtain ⟨e2,he2⟩:∃ e2,e2=(faultOf r1 r2 r3 tm).2:=⟨_,rfl⟩
 rw [<- he1,<- he2]
 have HE:Hid (e1=(faultOf r1 r2 r3 tm).1/\e2=(faultOf r1 r2 r3 tm).2):=⟨he1,he2⟩
 clear he1 he2
 go_enter Tryz.func27,Tryz.ntmps27
 go_wp2_with fail
 refine (H1.out _ HM0.out).mono ?_
 rintro e w1 ⟨rfl,m1⟩
 have HM1:Hid (Mods Nil' w w1):=HM0.out.trans m1
 have HB1:Hid (Blk w1 w.heap.size #[.slice oM ms.length cM,.slice oF fs.length cF] 37):=HB0.out.mods m1 id
 clear m1
 by_cases c1:r1=-1
 ·subst c1;go_wp2_with fail
  refine (H2.out _ HM1.out).mono ?_
  rintro e w2 ⟨rfl,m2⟩
  have HM2:Hid (Mods Nil' w w2):=HM1.out.trans m2
  have HB2:Hid (Blk w2 w.heap.size #[.slice oM ms.length cM,.slice oF fs.length cF] 37):=HB1.out.mods m2 id
  clear m2
  by_cases c2:r2=-1
  ·subst c2
   have y0:w2.cell? ⟨w.heap.size,0,none⟩=some (.slice oM ms.length cM):=HB2.out.cell 0
   have y1:w2.cell? ⟨w.heap.size,1,none⟩=some (.slice oF fs.length cF):=HB2.out.cell 1
   go_wp2_with fail
   refine (H3.out _ HM2.out).mono ?_
   rintro e w3 ⟨rfl,m3⟩
   have HM3:Hid (Mods Nil' w w3):=HM2.out.trans m3
   have HB3:Hid (Blk w3 w.heap.size #[.slice oM ms.length cM,.slice oF fs.length cF] 37):=HB2.out.mods m3 id
   clear m3 y0 y1
   by_cases c3:r3=-1
   ·subst c3
    have y0:w3.cell? ⟨w.heap.size,0,none⟩=some (.slice oM ms.length cM):=HB3.out.cell 0
    have y1:w3.cell? ⟨w.heap.size,1,none⟩=some (.slice oF fs.length cF):=HB3.out.cell 1
    go_wp2_with fail
    refine (H4.out _ HM3.out).mono ?_
    rintro e w4 ⟨rfl,m4⟩
    have HM4:Hid (Mods Nil' w w4):=HM3.out.trans m4
    clear m4 y0 y1
    cases tm with
    | true =>
     go_wp2_with fail;go_ret2
     exact ⟨by rw [HE.out.1,HE.out.2];rfl,HM4.out⟩
    | false =>
     go_wp2_with fail;go_ret2
     exact ⟨by rw [HE.out.1,HE.out.2];rfl,HM4.out⟩
   ·have t1:decide (r3=-1)=false:=by simpa using c3
    have t2:(r3==-1)=false:=by simpa using c3
    have HE3:Hid (e1=5/\e2=r3):=by
     have:=HE.out
     unfold faultOf at this
     rw [if_neg (by decide),if_neg (by decide),if_pos c3] at this
     exact this
    clear c3;go_wp2_with fail;go_ret2
    exact ⟨by rw [HE3.out.1,HE3.out.2];rfl,HM3.out⟩
  ·have t1:decide (r2=-1)=false:=by simpa using c2
   have t2:(r2==-1)=false:=by simpa using c2
   have HE3:Hid (e1=8/\e2=r2):=by
    have:=HE.out
    unfold faultOf at this
    rw [if_neg (by decide),if_pos c2] at this
    exact this
   clear c2;go_wp2_with fail;go_ret2
   exact ⟨by rw [HE3.out.1,HE3.out.2];rfl,HM2.out⟩
 ·have t1:decide (r1=-1)=false:=by simpa using c1
  have t2:(r1==-1)=false:=by simpa using c1
  have HE3:Hid (e1=4/\e2=r1):=by
   have:=HE.out
   unfold faultOf at this;rw [if_pos c1] at this;exact this
  clear c1;go_wp2_with fail;go_ret2
  exact ⟨by rw [HE3.out.1,HE3.out.2];rfl,HM1.out⟩
def mnP (ms:List PMap):List ByteArray:=ms.map (fun x=>T x.name)
def fnP (fs:List PFn):List ByteArray:=(fs.map (·.name)).map T
def tooP (ms:List PMap) (fs:List PFn):Bool:=decide (8<ms.length)||decide (16<fs.length)||decide (200<sumF fs)
def faultsP (ds:List (List PMap × List PFn)) (ms:List PMap) (fs:List PFn):Int × Int :=
 faultOf (twiceP 0 [] (ds.map (fun p=>p.2.map (fun f=>T f.name)))) (otherP 0 [] (ds.map (·.1))) (missP (fnP fs) 0 (ds.map (·.2))) (tooP (compM ms) fs)
def LinkQ (objs:List (List UInt8)) (s:ByteArray) (e a:Int):Prop :=
 if objs.length=0\/8<objs.length then s=E0/\e=9/\a=0
 else if (decsP objs).length<objs.length then s=E0/\e=7/\a=(decsP objs).length
 else ∃ (ms:List PMap) (fs:List PFn),ms.Perm ((decsP objs).flatMap (·.1))/\ms.Pairwise (fun x y=>ltB (T y.name) (T x.name)=false)/\fs.Perm ((decsP objs).flatMap (·.2))/\fs.Pairwise (fun x y=>ltB (T y.name) (T x.name)=false) /\
  (if (faultsP (decsP objs) ms fs).1≠0 then s=E0/\e=(faultsP (decsP objs) ms fs).1/\a=(faultsP (decsP objs) ms fs).2
   else s=T (encU 2 (compM ms) (fs.map (PFn.linked (mnP (compM ms)) (fnP fs))))/\e=0/\a=0)
theorem slotsP_le2:∀ l:List PI,(∀ x∈l,PIok x)->slotsP l<=2*l.length
 | [],_=>by simp [slotsP]
 | x::l,h=>by
  have h1:=slotsP_le2 l (fun y hy=>h y (by simp [hy]))
  have h2:=(h x (by simp)).slots
  unfold slotsP at *
  simp only [List.map_cons,List.sum_cons,List.length_cons]
  omega
theorem sumF_le:∀ fs:List PFn,(∀ f∈fs,f.code.length<=200/\∀ x∈f.code,PIok x)->sumF fs<=400*fs.length
 | [],_=>by simp [sumF]
 | f::fs,h=>by
  have h1:=sumF_le fs (fun y hy=>h y (by simp [hy]))
  have h2:=h f (by simp)
  have h3:=slotsP_le2 f.code h2.2
  unfold sumF at *
  simp only [List.map_cons,List.sum_cons,List.length_cons]
  omega
theorem PIok.linked {x:PI} (h:PIok x) (mn fn:List ByteArray) (hm:mn.length<=1000) (hf:fn.length<=1000):PIok (x.linked mn fn):=by
 refine ⟨h.k,h.d,h.s,h.j,?_,h.h⟩
 show -2147483648<=numP mn fn x/\numP mn fn x<=2147483647
 unfold numP
 have h1:=placeM_bd (T x.name) fn
 have h2:=placeM_bd (T x.name) mn
 have h3:=h.n
 split
 ·omega
 ·split<;>omega
theorem compU_mem (l:List PMap):∀ n,n<=l.length->∀ m∈compU l n,m∈l
 | 0,_,m,hm=>by simp [compU] at hm
 | n+1,h,m,hm=>by
  unfold compU at hm
  rcases List.mem_append.1 hm with hm | hm
  ·exact compU_mem l n (by omega) m hm
  ·split at hm
   ·rw [List.mem_singleton.1 hm,atM_eq l n (by omega)];exact List.getElem_mem _
   ·cases hm
theorem compM_mem (l:List PMap):∀ m∈compM l,m∈l:=compU_mem l l.length (Nat.le_refl _)
theorem compM_le (l:List PMap):(compM l).length<=l.length:=compU_le l l.length
theorem parts_plain {ps:List PartD} {ds:List (List PMap × List PFn)} (h:ps.map PartD.plain=ds):ds.length=ps.length/\ds.flatMap (·.1)=ps.flatMap (·.ms)/\ds.flatMap (·.2)=ps.flatMap (·.fs)/\ds.map (·.1)=ps.map (·.ms)/\ds.map (·.2)=ps.map (·.fs)/\ds.map (fun p=>p.2.map (fun f=>T f.name))=ps.map (fun p=>p.fs.map (fun f=>T f.name)):=by
 subst h
 refine ⟨by simp,?_,?_,?_,?_,?_⟩
 ·rw [List.flatMap_map];rfl
 ·rw [List.flatMap_map];rfl
 ·rw [List.map_map];rfl
 ·rw [List.map_map];rfl
 ·rw [List.map_map];rfl
theorem flat_map_f {w:World} {bs:List Nat}:∀ (ps:List PartD),(∀ p∈ps,PartAt w bs p)->(ps.flatMap PartD.rows).map (·.f)=ps.flatMap (·.fs)
 | [],_=>rfl
 | p::ps,h=>by
  rw [List.flatMap_cons,List.map_append,List.flatMap_cons,rows_f (h p (by simp)),flat_map_f ps (fun q hq=>h q (by simp [hq]))]
theorem fault_zero (r1 r2 r3:Int) (tm:Bool):((faultOf r1 r2 r3 tm).1=0/\tm=false)\/(1<=(faultOf r1 r2 r3 tm).1/\(faultOf r1 r2 r3 tm).1<=8):=by
 unfold faultOf
 split
 ·right;exact ⟨(by decide:(1:Int)<=4),(by decide:(4:Int)<=8)⟩
 ·split
  ·right;exact ⟨(by decide:(1:Int)<=8),(by decide:(8:Int)<=8)⟩
  ·split
   ·right;exact ⟨(by decide:(1:Int)<=5),(by decide:(5:Int)<=8)⟩
   ·cases tm
    ·left;exact ⟨rfl,rfl⟩
    ·right;exact ⟨(by decide:(1:Int)<=1),(by decide:(1:Int)<=8)⟩
theorem decsP_le:∀ l:List (List UInt8),(decsP l).length<=l.length
 | []=>Nat.le_refl _
 | s::l=>by
  rw [decsP]
  split
  ·exact Nat.zero_le _
  ·rw [List.length_cons,List.length_cons];exact Nat.succ_le_succ (decsP_le l)
theorem link_bounds {ps:List PartD} (hn:ps.length<=8) (hok:∀ p∈ps,PartOk p.plain) {ms:List PMap} {fs:List PFn} (pm:ms.Perm (ps.flatMap (·.ms))) (pf:fs.Perm (ps.flatMap (·.fs))) (hpi:∀ f∈fs,∀ x∈f.code,PIok x) :
  ms.length<=64/\fs.length<=128/\(∀ f∈fs,f.name.length<=255/\f.code.length<=200/\∀ x∈f.code,PIok x)/\(∀ m∈ms,m.name.length<=255/\m.key<=255/\m.value<=255/\m.entries<=255)/\∀ k,sumF (fs.take k)<=1000000:=by
 have h1:ms.length<=64:=by
  have:=flat_bd (fun p:PartD=>p.ms) 8 ps (fun p hp=>(hok p hp).ml)
  rw [pm.length_eq]
  omega
 have h2:fs.length<=128:=by
  have:=flat_bd (fun p:PartD=>p.fs) 16 ps (fun p hp=>(hok p hp).fl)
  rw [pf.length_eq]
  omega
 have h3:∀ f∈fs,f.name.length<=255/\f.code.length<=200/\∀ x∈f.code,PIok x:=fun f hf=>by
  obtain ⟨p,hp,hf2⟩:=List.mem_flatMap.1 (pf.mem_iff.1 hf)
  have:=(hok p hp).fb f hf2
  exact ⟨this.1,this.2,hpi f hf⟩
 refine ⟨h1,h2,h3,fun m hm=>?_,fun k=>?_⟩
 ·obtain ⟨p,hp,hf2⟩:=List.mem_flatMap.1 (pm.mem_iff.1 hm)
  exact (hok p hp).mb m hf2
 ·have:=sumF_le (fs.take k) (fun f hf=>(h3 f (List.mem_of_mem_take hf)).2)
  rw [List.length_take] at this
  omega
theorem link_eok {ms:List PMap} {fs:List PFn} (h3:∀ f∈fs,f.name.length<=255/\f.code.length<=200/\∀ x∈f.code,PIok x) (h4:∀ m∈ms,m.name.length<=255/\m.key<=255/\m.value<=255/\m.entries<=255) (ht:tooP (compM ms) fs=false):EOk (compM ms) (fs.map (PFn.linked (mnP (compM ms)) (fnP fs))):=by
 unfold tooP at ht
 simp only [Bool.or_eq_false_iff,decide_eq_false_iff_not] at ht
 refine ⟨by omega,by rw [List.length_map];omega,fun m hm=>h4 m (compM_mem ms m hm),fun f hf=>?_⟩
 obtain ⟨g,hg,rfl⟩:=List.mem_map.1 hf
 have:=h3 g hg
 refine ⟨this.1,by show (g.code.map _).length<=200;rw [List.length_map];exact this.2.1,fun x hx=>?_⟩
 obtain ⟨y,hy,rfl⟩:=List.mem_map.1 (show x∈g.code.map (PI.linked (mnP (compM ms)) (fnP fs)) from hx)
 exact (this.2.2 y hy).linked _ _ (by unfold mnP;rw [List.length_map];omega) (by unfold fnP;rw [List.length_map,List.length_map];omega)
set_option maxRecDepth 100000 in
set_option maxHeartbeats 1000000 in
theorem link_any (w:World) (hE:EnvW w) (o:Option Addr) (cap:Nat) (objs:List (List UInt8)) (hb:0<objs.length->∃ g cs,o=some ⟨g,0,none⟩/\Blk w g cs 9/\∀ k (h:k<objs.length),cs[k]?=some (.string (T objs[k]))) (hn:objs.length<=maxLen) (hs:∀ s∈objs,s.length<=maxLen) (hq:∀ q∈decsP objs,PartOk q) :
  Calls Tryz.prog 13 #[.slice o objs.length cap] w fun r w'=>∃ s e a,r=.returned (.tuple #[.string s,.int .i64 e,.int .i64 a])/\LinkQ objs s e a/\Mods Nil' w w':=by
 by_cases h0:objs.length=0
 ·have HL:Hid (LinkQ objs E0 9 0):=by unfold LinkQ;rw [Hid,if_pos (.inl h0)];exact ⟨rfl,rfl,rfl⟩
  rw [h0];clear hb hq hs
  go_enter Tryz.func13,Tryz.ntmps13
  go_wp2_with fail;go_ret3
  exact ⟨_,_,_,rfl,HL.out,Mods.refl _ _⟩
 by_cases h8:8<objs.length
 ·have HL:Hid (LinkQ objs E0 9 0):=by unfold LinkQ;rw [Hid,if_pos (.inr h8)];exact ⟨rfl,rfl,rfl⟩
  clear hb hq hs;generalize objs.length=n at *
  have t1:decide ((n:Int)=0)=false:=by simp;omega
  have t2:((n:Int)==0)=false:=by simp;omega
  have hn2:n<=9223372036854775807:=hn
  go_enter Tryz.func13,Tryz.ntmps13
  go_wp2_with fail;go_ret3
  exact ⟨_,_,_,rfl,HL.out,Mods.refl _ _⟩
 obtain ⟨g,cs,rfl,hbk,hcs⟩:=hb (by omega)
 have HDEC:Hid (Calls Tryz.prog 25 #[.slice (some ⟨g,0,none⟩) objs.length cap] w fun e w'=>∃ v tv bs ps wT,e=.returned v/\OpsIn 0 wT tv bs tableS/\Mods Nil' w wT/\Parts wT bs v ps w'/\ps.map PartD.plain=decsP objs):=ldec_any w hE g cap cs objs hbk hcs (by omega) hs
 have HQ:=hid hq
 have HLQ:Hid (∀ s e a,LinkQ objs s e a ↔ if (decsP objs).length<objs.length then s=E0/\e=7/\a=(decsP objs).length
   else ∃ (ms:List PMap) (fs:List PFn),ms.Perm ((decsP objs).flatMap (·.1))/\ms.Pairwise (fun x y=>ltB (T y.name) (T x.name)=false)/\fs.Perm ((decsP objs).flatMap (·.2))/\fs.Pairwise (fun x y=>ltB (T y.name) (T x.name)=false) /\
    (if (faultsP (decsP objs) ms fs).1≠0 then s=E0/\e=(faultsP (decsP objs) ms fs).1/\a=(faultsP (decsP objs) ms fs).2
     else s=T (encU 2 (compM ms) (fs.map (PFn.linked (mnP (compM ms)) (fnP fs))))/\e=0/\a=0)):=fun s e a=>by
  unfold LinkQ
  rw [if_neg (by omega)]
 have hno:objs.length<=8:=by omega
 have HDL:Hid ((decsP objs).length<=objs.length):=decsP_le objs
 clear hbk hcs hE hs hq hb h8 hn;generalize objs.length=n at *
 have t1:decide ((n:Int)=0)=false:=by simp;omega
 have t2:((n:Int)==0)=false:=by simp;omega
 have t3:decide ((8:Int)<n)=false:=by simp;omega
 clear h0
 go_enter Tryz.func13,Tryz.ntmps13
 go_wp2_with fail;refine HDEC.out.mono ?_;rintro e w1 ⟨v,tv,bs,ps,wT,rfl,hT,mT,hP,hpl⟩;obtain ⟨o5,c5,hv5,_⟩:=hP.sl.view;subst hv5;obtain ⟨d1,d2,d3,d4,d5,d6⟩:=parts_plain hpl
 have HM1:Hid (Mods Nil' w w1):=mT.trans hP.md
 have HMT:=hid mT;have HP:=hid hP;have HT:=hid hT;have HD:=hid d1
 have HDS:Hid ((decsP objs).flatMap (·.1)=ps.flatMap (·.ms)/\(decsP objs).flatMap (·.2)=ps.flatMap (·.fs)/\(decsP objs).map (·.1)=ps.map (·.ms)/\(decsP objs).map (·.2)=ps.map (·.fs)/\(decsP objs).map (fun p=>p.2.map (fun f=>T f.name))=ps.map (fun p=>p.fs.map (fun f=>T f.name))):=⟨d2,d3,d4,d5,d6⟩
 have HOK:Hid (∀ p∈ps,PartOk p.plain):=fun p hp=>HQ.out _ (by rw [<- hpl];exact List.mem_map.2 ⟨p,hp,rfl⟩)
 clear hP hT mT hpl d1 d2 d3 d4 d5 d6 HDEC HQ t1 t2 t3
 by_cases hlt:ps.length<n
 ·have HR:Hid (LinkQ objs E0 7 ps.length):=by
   rw [Hid,HLQ.out,if_pos (by rw [HD.out];exact hlt),HD.out];exact ⟨rfl,rfl,rfl⟩
  go_wp2_with fail;go_ret3
  exact ⟨_,_,_,rfl,HR.out,HM1.out⟩
 ·have hps:ps.length<=8:=by
   have:=HDL.out;rw [HD.out] at this;exact Nat.le_trans this hno
  go_wp2_with fail
  refine (join_any wT w1 bs _ ps HP.out (by omega) (fun p hp=>Nat.le_trans (HOK.out p hp).ml (by omega)) (fun p hp=>by rw [rows_len (HP.out.each p hp)];exact Nat.le_trans (HOK.out p hp).fl (by omega))).mono ?_
  rintro e w2 ⟨vM,vF,ms,rs,rfl,hM,hF,pm,sm,pr,sr,m2⟩
  obtain ⟨hW,hok⟩:=ppw_of (HP.out.quiet m2) hM hF pr
  obtain ⟨oM,cM,hvM,_⟩:=hM.view;obtain ⟨oF,cF,hvF,_⟩:=hF.view
  have pf:(rs.map (·.f)).Perm (ps.flatMap (·.fs)):=by rw [<- flat_map_f ps HP.out.each];exact pr.map _
  have sf:(rs.map (·.f)).Pairwise (fun x y=>ltB (T y.name) (T x.name)=false):=List.pairwise_map.2 sr
  have hrl:rs.length=(rs.map (·.f)).length:=by simp
  rw [hrl] at hvF;clear hM hF pr sr hrl;generalize rs.map (·.f)=fs at *;generalize rs.map FRow.v=vs at *
  have hbd:=link_bounds hps HOK.out pm pf hok
  obtain ⟨F,hFF⟩:∃ F,F=faultsP (decsP objs) ms fs:=⟨_,rfl⟩
  have HRES:Hid (∀ s e a,(if F.1≠0 then s=E0/\e=F.1/\a=F.2 else s=T (encU 2 (compM ms) (fs.map (PFn.linked (mnP (compM ms)) (fnP fs))))/\e=0/\a=0)->LinkQ objs s e a):=fun s e a h=>by
   rw [HLQ.out,if_neg (by rw [HD.out];exact hlt)]
   refine ⟨ms,fs,by rw [HDS.out.1];exact pm,sm,by rw [HDS.out.2.1];exact pf,sf,?_⟩
   rw [<- hFF];exact h
  have HFZ:Hid ((F.1=0/\tooP (compM ms) fs=false)\/(1<=F.1/\F.1<=8)):=by rw [Hid,hFF];exact fault_zero _ _ _ _
  have HFA:Hid (∀ w',Mods Nil' w2 w'->Calls Tryz.prog 27 #[.slice o5 ps.length c5,.agg #[vM,vF]] w' fun e w3=>e=.returned (.tuple #[.int .i64 F.1,.int .i64 F.2])/\Mods Nil' w' w3):=fun w' m=>by
   rw [hFF]
   exact fault_any wT w' tv bs HT.out _ ps ((HP.out.quiet m2).quiet m) hps HOK.out vM vF (compM ms) fs vs (hW.quiet m) (Nat.le_trans (compM_le ms) (by omega)) (by omega) (fun f hf=>(hbd.2.2.1 f hf).2) hbd.2.2.2.2 _ _ _ _ (by rw [HDS.out.2.2.2.2]) (by rw [HDS.out.2.2.1]) (by rw [HDS.out.2.2.2.1];rfl) rfl
  have HRF:Hid (∀ w',Mods Nil' w2 w'->∀ X cX,Blk w' X cX 37->Calls Tryz.prog 28 #[.agg #[vM,vF]] w' fun e w3=>e=.returned (.tuple #[])/\PPw wT w3 bs vM vF (compM ms) (fs.map (PFn.linked (mnP (compM ms)) (fnP fs))) vs/\Blk w3 X cX 37):=fun w' m X cX hX =>
   refer_any wT w' tv bs HT.out vM vF (compM ms) fs vs (hW.quiet m) (Nat.le_trans (compM_le ms) (by omega)) (by omega) (fun f hf=>⟨Nat.le_trans (hbd.2.2.1 f hf).2.1 (by omega),(hbd.2.2.1 f hf).2.2⟩) _ _ rfl rfl X cX hX
  have HIM:Hid (tooP (compM ms) fs=false->∀ w',PPw wT w' bs vM vF (compM ms) (fs.map (PFn.linked (mnP (compM ms)) (fnP fs))) vs->Calls Tryz.prog 29 #[.agg #[vM,vF]] w' fun e w3=>e=.returned (.string (T (encU 2 (compM ms) (fs.map (PFn.linked (mnP (compM ms)) (fnP fs))))))/\Mods Nil' w' w3):=fun ht w' h =>
   img_any w' tv bs vM vF _ _ vs (h.ppr HT.out) (link_eok hbd.2.2.1 hbd.2.2.2.1 ht)
  have HM2:Hid (Mods Nil' w w2):=HM1.out.trans m2
  clear hbd hFF pm sm pf sf hok m2 hW HLQ HD HDS HDL HOK HP HM1 hps;generalize tooP (compM ms) fs=tm at *;generalize T (encU 2 (compM ms) (fs.map (PFn.linked (mnP (compM ms)) (fnP fs))))=im at *;subst hvM hvF;obtain ⟨F1,F2⟩:=F
  have HB0:Hid (Blk (w2.alloc (.cells #[.slice oM (compM ms).length cM,.slice oF fs.length cF] 37)) w2.heap.size #[.slice oM (compM ms).length cM,.slice oF fs.length cF] 37):=Blk.new _ _ _
  have HM3:Hid (Mods Nil' w2 (w2.alloc (.cells #[.slice oM (compM ms).length cM,.slice oF fs.length cF] 37))):=(Mods.refl _ _).alloc _
  go_wp2_with fail
  refine (HFA.out _ HM3.out).mono ?_
  rintro e w3 ⟨rfl,m3⟩
  have HB3:Hid (Blk w3 w2.heap.size #[.slice oM (compM ms).length cM,.slice oF fs.length cF] 37):=HB0.out.mods m3 id
  have HM4:Hid (Mods Nil' w2 w3):=HM3.out.trans m3
  clear m3 HB0 HM3 HFA;generalize w2.heap.size=B at *
  by_cases hz:F1=0
  ·subst hz
   have htm:tm=false:=by
    rcases HFZ.out with h | h
    ·exact h.2
    ·exact absurd h.1 (by decide)
   have HR0:Hid (LinkQ objs im 0 0):=HRES.out im 0 0 (by rw [if_neg (by decide)];exact ⟨rfl,rfl,rfl⟩)
   have HIM2:Hid (∀ w',PPw wT w' bs (.slice oM (compM ms).length cM) (.slice oF fs.length cF) (compM ms) (fs.map (PFn.linked (mnP (compM ms)) (fnP fs))) vs->Calls Tryz.prog 29 #[.agg #[.slice oM (compM ms).length cM,.slice oF fs.length cF]] w' fun e w3=>e=.returned (.string im)/\Mods Nil' w' w3):=HIM.out htm
   have y0:w3.cell? ⟨B,0,none⟩=some (.slice oM (compM ms).length cM):=HB3.out.cell 0
   have y1:w3.cell? ⟨B,1,none⟩=some (.slice oF fs.length cF):=HB3.out.cell 1
   clear HRES HFZ htm HIM;go_wp2_with fail
   refine (HRF.out _ HM4.out _ _ HB3.out).mono ?_
   rintro e w4 ⟨rfl,hW4,hB4⟩;have HW4:=hid hW4;clear y0 y1 HB3 HRF HM4 hW4
   have y0:w4.cell? ⟨B,0,none⟩=some (.slice oM (compM ms).length cM):=hB4.cell 0
   have y1:w4.cell? ⟨B,1,none⟩=some (.slice oF fs.length cF):=hB4.cell 1
   clear hB4;go_wp2_with fail
   refine (HIM2.out _ HW4.out).mono ?_
   rintro e w5 ⟨rfl,m5⟩
   have HME:Hid (Mods Nil' w w5):=(HMT.out.trans HW4.out.md).trans m5
   clear HIM2 HW4 m5 y0 y1;go_wp2_with fail;go_ret3
   exact ⟨_,_,_,rfl,HR0.out,HME.out⟩
  ·have t1:decide (F1=0)=false:=by simpa using hz
   have t2:(F1==0)=false:=by simpa using hz
   have HR0:Hid (LinkQ objs E0 F1 F2):=HRES.out E0 F1 F2 (by rw [if_pos hz];exact ⟨rfl,rfl,rfl⟩)
   have HME:Hid (Mods Nil' w w3):=HM2.out.trans HM4.out
   clear HRES HFZ HIM HRF HM4 HB3 hz;go_wp2_with fail;go_ret3
   exact ⟨_,_,_,rfl,HR0.out,HME.out⟩
end Go.Proofs.YtnhcaifopaeohaaGreatDoor
