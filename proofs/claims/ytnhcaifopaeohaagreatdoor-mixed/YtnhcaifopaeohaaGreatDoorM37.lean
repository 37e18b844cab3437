import Derived.Test.YtnhcaifopaeohaaGreatDoorM36
import Derived.Test.YtnhcaifopaeohaaGreatDoorM05
import Derived.Deep.Upon
import Derived.Test.YtnhcaifopaeohaaGreatDoorM46
import Derived.Test.YtnhcaifopaeohaaGreatDoorM02
import Derived.Test.YtnhcaifopaeohaaGreatDoorM33
import Derived.Test.YtnhcaifopaeohaaGreatDoorM35
import Derived.Test.YtnhcaifopaeohaaGreatDoorM25
import Derived.Test.YtnhcaifopaeohaaGreatDoorM34
namespace Go.Proofs.YtnhcaifopaeohaaGreatDoor
open Go.RowKit
open Go.RowKit Go.Sort
set_option linter.all false
theorem name_le (q:PR):(nameP q).1.length<=255:=by
 have h1:=take_le (oneP q).1 (oneP q).2
 have h2:=one_lt q
 show (takeP (oneP q).1 (oneP q).2).1.length<=255
 omega
theorem ref_le (n slot:Nat) (q:PR):(refP n slot q).1.length<=255:=name_le _
structure PMOk (m:PMap):Prop where
 n:m.name.length<=255
 k:m.key<256
 v:m.value<256
 e:m.entries<256
theorem mapsP_ok:∀ (k:Nat) (q:PR) (last:List UInt8) (acc:List PMap),(∀ m∈acc,PMOk m)->∀ m∈(mapsP k q last acc).1,PMOk m
 | 0,_,_,_,h=>h
 | k+1,q,last,acc,h=>by
  rw [mapsP]
  refine mapsP_ok k _ _ _ (fun m hm=>?_)
  rcases List.mem_append.1 hm with hm | hm
  ·exact h m hm
  ·rw [List.mem_singleton.1 hm]
   exact ⟨name_le _,one_lt _,one_lt _,one_lt _⟩
theorem codeL_nm (sl:List UInt8) (n:Nat):∀ (f p:Nat) (acc:List PI) (st:List Bool) (l:List PI) (st':List Bool),codeL sl n f p acc st=some (l,st')->(∀ x∈acc,x.name=[])->∀ x∈l,x.name=[]
 | 0,_,_,_,_,_,h,_=>by cases h
 | f+1,p,acc,st,l,st',h,ha=>by
  rw [codeL] at h
  split at h
  ·split at h
   ·cases h
   ·rename_i x hx
    exact codeL_nm sl n f _ _ _ l st' h (fun y hy=>by
     rcases List.mem_append.1 hy with hy | hy
     ·exact ha y hy
     ·rw [List.mem_singleton.1 hy];exact from_nm _ _ hx)
  ·cases h;exact ha
theorem codeP_nm (sl:List UInt8) (q:PR):∀ x∈(codeP sl q).1,x.name=[]:=by
 unfold codeP
 split
 ·intro x hx;cases hx
 ·rename_i l st h
  exact codeL_nm sl _ _ _ _ _ l st h (fun x hx=>(by cases hx))
theorem codesP_nm:∀ (hs:List PHead) (r:PR) (acc:List PFn),(∀ f∈acc,∀ x∈f.code,x.name=[])->∀ f∈(codesP hs r acc).1,∀ x∈f.code,x.name=[]
 | [],_,_,h=>h
 | h::hs,r,acc,ha=>by
  rw [codesP]
  refine codesP_nm hs _ _ (fun f hf=>?_)
  rcases List.mem_append.1 hf with hf | hf
  ·exact ha f hf
  ·rw [List.mem_singleton.1 hf];exact codeP_nm _ _
theorem funcsP_nm (q:PR):∀ f∈(funcsP q).1,∀ x∈f.code,x.name=[]:=by
 unfold funcsP
 simp only
 split
 ·intro f hf;cases hf
 ·exact codesP_nm _ _ _ (fun f hf=>(by cases hf))
theorem refsI_nm (ms:List PMap) (n:Nat):∀ (sl:Nat) (l:List PI) (left:Int) (r:PR) (acc:List PI),(∀ x∈acc,x.name.length<=255)->(∀ x∈l,x.name=[])->∀ x∈(refsI ms n sl l left r acc).1,x.name.length<=255
 | _,[],_,_,_,ha,_=>ha
 | sl,x::l,left,r,acc,ha,hl=>by
  rw [refsI]
  have hl2:∀ y∈l,y.name=[]:=fun y hy=>hl y (List.mem_cons_of_mem _ hy)
  split
  ·refine refsI_nm ms n _ l _ _ _ (fun y hy=>?_) hl2
   rcases List.mem_append.1 hy with hy | hy
   ·exact ha y hy
   ·rw [List.mem_singleton.1 hy];exact ref_le _ _ _
  ·refine refsI_nm ms n _ l _ _ _ (fun y hy=>?_) hl2
   rcases List.mem_append.1 hy with hy | hy
   ·exact ha y hy
   ·rw [List.mem_singleton.1 hy,hl x (by simp)];simp
theorem refsF_nm (ms:List PMap):∀ (done l:List PFn) (left:Int) (r:PR),(∀ f∈done,∀ x∈f.code,x.name.length<=255)->(∀ f∈l,∀ x∈f.code,x.name=[])->∀ f∈(refsF ms done l left r).1,∀ x∈f.code,x.name.length<=255
 | _,[],_,_,hd,_=>hd
 | done,f::l,left,r,hd,hl=>by
  rw [refsF]
  refine refsF_nm ms _ l _ _ (fun g hg=>?_) (fun g hg=>hl g (List.mem_cons_of_mem _ hg))
  rcases List.mem_append.1 hg with hg | hg
  ·exact hd g hg
  ·rw [List.mem_singleton.1 hg]
   exact refsI_nm ms _ _ _ _ _ _ (fun x hx=>(by cases hx)) (hl f (by simp))
theorem dec_nm (s:List UInt8):(∀ m∈(decodeP s).1,PMOk m)/\∀ f∈(decodeP s).2.1,∀ x∈f.code,x.name.length<=255:=by
 constructor
 ·exact mapsP_ok _ _ _ _ (fun m hm=>(by cases hm))
 ·exact refsF_nm _ [] _ _ _ (fun f hf=>(by cases hf)) (funcsP_nm _)
structure PFnOk (f:PFn):Prop where
 n:f.name.length<=255
 l:f.code.length<=200
 ok:∀ x∈f.code,x.o.needs (x.ins [])=true
 j:JOk (slotsP f.code) 0 f.code
theorem nameB_le (l:List UInt8) (h:nameB l=true):l.length<=255:=by
 cases l with
 | nil=>simp
 | cons c r =>
  simp only [nameB,Bool.and_eq_true,decide_eq_true_eq] at h
  simp only [List.length_cons] at *
  omega
theorem run_append_row {P:Program} (w:World) (t ty e:TypeId) (i:TypeInfo) (z:Value) (size bytes:Nat) (ht:P.underlying t=some (.slice e)) (hi:P.info? e=some i) (hz:i.zero=some z)
  (hsize:i.size=size) (hby:i.bytes=bytes) (hzs:z.cells.size=size) (hsz:0<size)
  (v:Value) (n:Nat) (xs:List Value) (hown:Sl w e size v n xs) (u:Value) (m:Nat) (ys:List Value) (harg:Sl w e size u m ys) (h1:∀ u∈ys,u.oneCell'=true)
  (h63:n+m<=maxLen) (hbytes:(n+m)*bytes<=140737488355328) :
  ∃ v' w',(Builtin.append_ #[t,t] ty #[v,u]).run P w=.ok v' w'/\Sl w' e size v' (n+m) (xs++ys)/\Mods (fun k=>v.ownBlock=some k) w w'/\(∀ k,v'.ownBlock=some k->v.ownBlock=some k\/w.heap.size<=k):=by
 rcases harg.2 with ⟨rfl,rfl⟩ | ⟨g,cap,cur,rfl,_,hg,hn,hm,hcs,htk⟩
 ·have hy:ys=[]:=List.length_eq_zero_iff.1 (by rw [harg.1];omega)
  subst hy;obtain ⟨o,c,hv,h2⟩:=hown.view
  have hle:n<=c:=by
   rcases hown.2 with ⟨rfl,rfl⟩ | ⟨g,cap,cur,rfl,_,hg,hn,hm,hcs,htk⟩
   ·exact Nat.zero_le _
   ·cases hv;exact hn
  subst hv
  have:=run_append_nothing (P:=P) w t t ty e i ht hi o n c hle (.slice none 0 0) (Src.ofNil w ht 0)
  exact ⟨_,_,this,by rw [List.append_nil];exact hown,Mods.refl _ _,fun k hk=>.inl hk⟩
 ·refine run_append_sl (P:=P) w t ty e i z size bytes ht hi hz hsize hby hzs hsz v n xs hown ⟨g,0,none⟩ m cap ys harg.1 ?_ h1 h63 hbytes
  intro j x hx
  have hb:Blk w g cur e:=hg
  have hadd:(⟨g,0,none⟩:Addr).add j=⟨g,j,none⟩:=by unfold Addr.add;split<;>simp_all
  have hj:j<ys.length:=(List.getElem?_eq_some_iff.1 hx).1
  rw [hadd,take_cell hb htk j (by rw [<- harg.1];exact hj),hx]
theorem wpList_append_row {P:Program} (w:World) {ops:Array Oper} {rest:List Oper} {o:Oper} {a:Act} {Q:Exit->Act->World->Prop} (hgd:o.guard=none) (s x:Operand) (t:TypeId)
  (ho:o.op=.call { callee:=.builtin .append,args:=#[s,x],argTypes:=#[t,t] })
  (e:TypeId) (i:TypeInfo) (z:Value) (size bytes:Nat) (ht:P.underlying t=some (.slice e)) (hi:P.info? e=some i) (hz:i.zero=some z)
  (hsize:i.size=size) (hby:i.bytes=bytes) (hzs:z.cells.size=size) (hsz:0<size)
  (v:Value) (n:Nat) (xs:List Value) (hs:a.eval s=v) (hown:Sl w e size v n xs) (u:Value) (m:Nat) (ys:List Value) (hx:a.eval x=u) (harg:Sl w e size u m ys) (h1:∀ u∈ys,u.oneCell'=true)
  (h63:n+m<=maxLen) (hbytes:(n+m)*bytes<=140737488355328)
  (h:∀ v' w',Sl w' e size v' (n+m) (xs++ys)->Mods (fun k=>v.ownBlock=some k) w w'->(∀ k,v'.ownBlock=some k->v.ownBlock=some k\/w.heap.size<=k)->wpList P ops Q rest (a.put o.dst v') w'):wpList P ops Q (o::rest) a w:=by
 refine wpList_plain hgd fun _ hK=>?_
 obtain ⟨v',w',hr,h2,h3,h4⟩:=run_append_row (P:=P) w t o.type e i z size bytes ht hi hz hsize hby hzs hsz v n xs hown u m ys harg h1 h63 hbytes
 unfold Oper.wp execOp
 simp only [ho,resolve,invoke,builtin,Sem.run_bind,Sem.run_pure,Result.andThen_ok,List.map_toArray,List.map_cons,List.map_nil,hs,hx,hr]
 exact hK _ _ (h v' w' h2 h3 h4)
theorem flat_bd {α β:Type} (f:α->List β) (n:Nat):∀ (l:List α),(∀ x∈l,(f x).length<=n)->(l.flatMap f).length<=l.length*n
 | [],_=>by simp
 | x::l,h=>by
  rw [List.flatMap_cons,List.length_append,List.length_cons,Nat.succ_mul]
  have h1:=h x (by simp)
  have h2:=flat_bd f n l (fun y hy=>h y (by simp [hy]))
  omega
theorem take_flat {α β:Type} (f:α->List β) (l:List α) (k:Nat) (h:k<l.length):(l.take (k+1)).flatMap f=(l.take k).flatMap f++f l[k]:=by
 rw [List.take_add_one,List.flatMap_append]
 simp [h]
section
variable {α : Type} [Inhabited α]
theorem flatK_list (enc:α->List Value) (k:Nat) (hk:∀ x,(enc x).length=k) (l:List α):(flatK enc k l.toArray).toList=l.flatMap enc:=by
 have hl:(l.flatMap enc).length=l.length*k:=by
  induction l with
  | nil=>simp
  | cons x l ih=>rw [List.flatMap_cons,List.length_append,ih,hk,List.length_cons,Nat.succ_mul,Nat.add_comm]
 refine List.ext_getElem (by rw [Array.length_toList,size_flatK,hl];rfl) fun t h1 h2=>?_
 have ht:t<l.length*k:=by rw [<- hl];exact h2
 have k0:0<k:=by
  rcases Nat.eq_zero_or_pos k with h | h
  ·subst h;simp at ht
  ·exact h
 have hi:t / k<l.length:=Nat.div_lt_of_lt_mul (by rw [Nat.mul_comm];exact ht)
 have hc:=Nat.mod_lt t k0
 have e:=flat_get enc k hk l (t / k) (t % k) hi hc
 rw [Nat.div_add_mod' t k,List.getElem?_eq_getElem h2] at e
 have e1:(flatK enc k l.toArray).toList[t]=(flatK enc k l.toArray)[t]!:=by
  rw [getElem!_pos (flatK enc k l.toArray) t (by simpa using h1)];simp
 rw [e1,get_flatK enc k l.toArray t (by simpa using ht)]
 have e2:l.toArray[t / k]! = l[t / k]:=by rw [getElem!_pos l.toArray (t / k) (by simpa using hi)];simp
 rw [e2]
 have e3:(enc l[t / k])[t % k]?=some (enc l[t / k])[t % k]!:=by
  rw [getElem!_pos (enc l[t / k]) (t % k) (by rw [hk];exact hc),List.getElem?_eq_getElem (by rw [hk];exact hc)]
 rw [e3] at e
 exact (Option.some.inj e).symm
theorem perm_list {d d':Array α} {n:Nat} (hn:n=d.size) (h:PermIn 0 n d d'):d'.toList.Perm d.toList:=by
 obtain ⟨hs,_,hp⟩:=h;subst hn
 have e1:(d'.extract 0 d.size).toList=d'.toList:=by rw [<- hs];simp
 have e2:(d.extract 0 d.size).toList=d.toList:=by simp
 rwa [e1,e2] at hp
theorem sorted_list {lt:α->α->Bool} {d:Array α} {n:Nat} (hn:n=d.size) (h:SortedIn lt 0 n d):d.toList.Pairwise (fun x y=>lt y x=false):=by
 rw [List.pairwise_iff_getElem];intro i j hi hj hij
 have:=h i j (Nat.zero_le _) hij (by rw [hn];simpa using hj)
 rw [getElem!_pos d i (by simpa using hi),getElem!_pos d j (by simpa using hj)] at this
 simpa using this
theorem grow_blk {w:World} {g:Nat} {o:Obj} {os:Array Obj} (h:w.heap[g]?=some o):(grow w os).heap[g]?=some o:=by
 have hg:=(Array.getElem?_eq_some_iff.1 h).1
 show (w.heap++os)[g]?=_
 rw [Array.getElem?_append_left hg,h]
theorem sortWorld_sl {w:World} {e:TypeId} (enc:α->List Value) (k:Nat) (hk:∀ x,(enc x).length=k) {g cap n:Nat} {l l':List α} (hl:l'.length=l.length) (hs:Sl w e k (.slice (some ⟨g,0,none⟩) l.length cap) l.length (l.flatMap enc)) (os:Array Obj) :
  Sl (sortWorldK enc k w g 0 n l'.toArray os) e k (.slice (some ⟨g,0,none⟩) l.length cap) l.length (l'.flatMap enc)/\Mods (fun b=>b=g) w (sortWorldK enc k w g 0 n l'.toArray os):=by
 have hF:=flatK_list enc k hk l'
 have hFs:(flatK enc k l'.toArray).size=l.length*k:=by rw [size_flatK];simp [hl]
 have hlen:(l'.flatMap enc).length=l.length*k:=by rw [<- hF,Array.length_toList,hFs]
 generalize flatK enc k l'.toArray=F at hF hFs
 rcases hs.2 with ⟨h,_⟩ | ⟨g',cap',cur,h,h0,hg,hn,hm,hcs,ht⟩
 ·cases h
 cases h
 have hb:(sortWorldK enc k w g 0 n l'.toArray os).heap[g]?=some (.cells (putCells id 0 (flatK enc k l'.toArray) cur) e):=by
  refine grow_blk ?_
  show (w.heap.modify g _)[g]?=_
  rw [Array.getElem?_modify,if_pos rfl,hg]
  rfl
 refine ⟨⟨hlen,.inr ⟨g,cap,_,rfl,h0,hb,hn,hm,?_,?_⟩⟩,⟨rfl,rfl,rfl,?_,fun b hb1 hb2=>?_⟩⟩
 ·unfold putCells;rw [Array.size_mapIdx,hcs]
 ·rw [<- flatK_list enc k hk l']
  have hFs2:(flatK enc k l'.toArray).size=l.length*k:=by rw [size_flatK];simp [hl]
  have hcur:l.length*k<=cur.size:=by rw [hcs];exact Nat.mul_le_mul_right _ hn
  refine List.ext_getElem (by simp [putCells,hl];omega) fun t h1 h2=>?_
  have h3:t<(flatK enc k l'.toArray).size:=by simpa using h2
  rw [List.getElem_take]
  simp only [putCells,Array.getElem_toList,Array.getElem_mapIdx]
  rw [if_pos ⟨Nat.zero_le _,by omega⟩,Nat.sub_zero,getElem!_pos _ t h3]
  rfl
 ·show w.heap.size<=(w.heap.modify g _++os).size
  simp
 ·show (w.heap.modify g _++os)[b]?=_
  rw [Array.getElem?_append_left (by simpa using hb1),Array.getElem?_modify,if_neg (fun e=>hb2 e.symm)]
theorem holdsK_sl {w:World} {e:TypeId} (enc:α->List Value) (k:Nat) (hk:∀ x,(enc x).length=k) {g cap:Nat} {l:List α} (hs:Sl w e k (.slice (some ⟨g,0,none⟩) l.length cap) l.length (l.flatMap enc)):HoldsK enc k w g 0 l.toArray/\g<w.heap.size:=by
 rcases hs.2 with ⟨h',_⟩ | ⟨g',cap',cs,h',_,hg,_,_,_,ht⟩
 ·cases h'
 cases h'
 have hb:Blk w g cs e:=hg
 refine ⟨fun j hj=>?_,hb.lt⟩
 rw [Nat.zero_add]
 refine ⟨?_,hb.frozen _⟩
 have hj':j<l.length*k:=by rw [size_flatK] at hj;simpa using hj
 rw [take_cell hb ht j hj',<- flatK_list enc k hk l,getElem!_pos _ j hj,List.getElem?_eq_getElem (by simpa using hj)]
 simp
theorem sort_sl {ρ:Go.Shelf.Ren} (L:SlLaysF0.n6 Tryz.prog ρ) (k:Nat) (aE:∀ w,(isAgg (ρ.t 24)).run Tryz.prog w=.ok true w) (zE:∀ w,(Go.sizeOf (ρ.t 24)).run Tryz.prog w=.ok k w) (enc:α->List Value) (hk:∀ x,(enc x).length=k) (h1:∀ x,∀ v∈enc x,v.oneCell'=true) (cf:α->α->Int) (hO:SWO (ltOf cf)) (f:Nat)
  (eg:∀ args w,(callFunc f args).run Tryz.prog w=.ok (.enter f args) w) (hcmp:∀ (w:World) x y,Calls Tryz.prog f #[.agg (enc x).toArray,.agg (enc y).toArray] w fun e w'=>e=.returned (.int .i64 (cf x y))/\∃ q os',w'=grow (w.drewN q) os')
  (w:World) (e:TypeId) (v:Value) (l:List α) (g cap:Nat) (hv:v=.slice (some ⟨g,0,none⟩) l.length cap) (hl:l.length<=1000000) (hs:Sl w e k v l.length (l.flatMap enc)) :
  Calls Tryz.prog (ρ.f 6) #[v,.func (.func f) #[] #[]] w fun r w'=>r=.returned (.tuple #[])/\∃ l':List α,l'.Perm l/\l'.Pairwise (fun x y=>ltOf cf y x=false)/\Sl w' e k v l'.length (l'.flatMap enc)/\Mods (fun b=>v.ownBlock=some b) w w':=by
 subst hv;obtain ⟨hH,hg⟩:=holdsK_sl enc k hk hs
 have hcon:=AnyQ.slices_SortFunc L k aE zE enc hk h1 cf hO f #[] g 0 cap l.toArray w eg (fun m os dk _ x y=>hcmp _ x y) hH hg (by simp;omega)
 refine hcon.mono ?_
 rintro r w' ⟨rfl,d',n,os,hp,hso,rfl⟩
 have hp':=perm_list rfl hp
 have hs':=sorted_list (d:=d') (by rw [hp.1]) hso
 have e1:d'.toList.length=l.length:=by rw [hp'.length_eq]
 obtain ⟨hA,hB⟩:=sortWorld_sl (n:=n) enc k hk (l':=d'.toList) e1 hs os
 refine ⟨rfl,d'.toList,by simpa using hp',hs',?_,?_⟩
 ·rw [e1];exact hA
 ·exact ⟨hB.os,hB.tape,hB.output,hB.size,fun b hb hn=>hB.block b hb (fun e=>hn (by rw [e];rfl))⟩
end
theorem cmpB_lt:∀ a b:List UInt8,decide (Lib.compareBytes a b<0)=decide (a<b)
 | [],[]=>by simp [Lib.compareBytes,List.lt_irrefl]
 | [],b::bs=>by simp [Lib.compareBytes]
 | a::as',[]=>by simp [Lib.compareBytes]
 | a::as',b::bs=>by
  unfold Lib.compareBytes
  by_cases h:a<b
  ·rw [if_pos h]
   simp [List.cons_lt_cons_iff,h]
  ·rw [if_neg h]
   by_cases h2:b<a
   ·rw [if_pos h2]
    have h3:¬ a=b:=fun e=>by subst e;exact h h2
    simp [List.cons_lt_cons_iff,h,h3]
   ·rw [if_neg h2]
    have h3:a=b:=by
     apply UInt8.toNat_inj.1
     have h4:¬ a.toNat<b.toNat:=fun e=>h (UInt8.lt_iff_toNat_lt.2 e)
     have h5:¬ b.toNat<a.toNat:=fun e=>h2 (UInt8.lt_iff_toNat_lt.2 e)
     omega
    subst h3;rw [cmpB_lt as' bs]
    simp
section
variable {α : Type} (nm : α -> List UInt8)
def cfN (x y:α):Int:=Lib.compareBytes (nm x) (nm y)
theorem ltN (x y:α):ltOf (cfN nm) x y=ltB (T (nm x)) (T (nm y)):=by
 unfold ltOf cfN;rw [cmpB_lt,ltB_eq]
 have e:∀ l:List UInt8,(T l).toList=l:=fun l=>by rw [ByteArray.toList_eq];simp [T]
 rw [e,e]
theorem swoN:SWO (ltOf (cfN nm)) where
 irrefl x:=by rw [ltN];exact ltB_irrefl _
 trans x y z h1 h2:=by rw [ltN] at *;exact ltB_trans h1 h2
 ntrans x y z h1 h2:=by rw [ltN] at *;exact leB_trans h2 h1
end
theorem cmp_any (w:World) (a b:List UInt8):Calls Tryz.prog 117 #[.string (T a),.string (T b)] w fun e w'=>e=.returned (.int .i64 (Lib.compareBytes a b))/\w'=w:=by
 have h:=Any.strings_Compare Tryz.lc (T a) (T b) w
 have e:∀ l:List UInt8,(T l).data.toList=l:=fun l=>by simp [T]
 rw [e,e] at h;exact h
theorem len0_any (w:World):Calls Tryz.prog 218 #[.int .u64 0] w fun e w'=>e=.returned (.int .i64 0)/\w'=w:=by
 have h:=Any.bits_Len Tryz.lb 0 w (by omega) (by omega)
 refine h.mono ?_
 rintro e w' ⟨rfl,rfl⟩
 exact ⟨rfl,rfl⟩
theorem closM_any (w:World) (a b:List UInt8) (x1 x2 x3 y1 y2 y3:Int):Calls Tryz.prog 116 #[.agg #[.string (T a),.int .u8 x1,.int .u8 x2,.int .u8 x3],.agg #[.string (T b),.int .u8 y1,.int .u8 y2,.int .u8 y3]] w fun e w'=>e=.returned (.int .i64 (Lib.compareBytes a b))/\∃ q os',w'=grow (w.drewN q) os':=by
 have hcon:=fun W=>cmp_any W a b
 generalize Lib.compareBytes a b=r at *;generalize T a=ta at *;generalize T b=tb at *
 go_enter Tryz.func116,Tryz.ntmps116
 go_wp2_with fail
 refine (hcon _).mono ?_
 rintro e w' ⟨rfl,rfl⟩
 go_wp2_with fail;go_ret
 exact ⟨rfl,0,_,by rw [alloc_eq_grow,alloc_eq_grow,grow_grow];rfl⟩
theorem closF_any (w:World) (a b:List UInt8) (o1 o2:Option Addr) (n1 c1 n2 c2:Nat):Calls Tryz.prog 119 #[.agg #[.string (T a),.slice o1 n1 c1],.agg #[.string (T b),.slice o2 n2 c2]] w fun e w'=>e=.returned (.int .i64 (Lib.compareBytes a b))/\∃ q os',w'=grow (w.drewN q) os':=by
 have hcon:=fun W=>cmp_any W a b
 generalize Lib.compareBytes a b=r at *;generalize T a=ta at *;generalize T b=tb at *
 go_enter Tryz.func119,Tryz.ntmps119
 go_wp2_with fail
 refine (hcon _).mono ?_
 rintro e w' ⟨rfl,rfl⟩
 go_wp2_with fail;go_ret
 exact ⟨rfl,0,_,by rw [alloc_eq_grow,alloc_eq_grow,grow_grow];rfl⟩
structure FRow where
 f:PFn
 o:Option Addr
 n:Nat
 c:Nat
def FRow.v (x:FRow):Value:=.slice x.o x.n x.c
def FRow.cells (x:FRow):List Value:=[.string (T x.f.name),.slice x.o x.n x.c]
theorem sortM_some (w:World) (v:Value) (l:List PMap) (g cap:Nat) (hv:v=.slice (some ⟨g,0,none⟩) l.length cap) (hl:l.length<=1000000) (hs:Sl w 47 4 v l.length (l.flatMap PMap.cells)) :
  Calls Tryz.prog 115 #[v,.func (.func 116) #[] #[]] w fun r w'=>r=.returned (.tuple #[])/\∃ l':List PMap,l'.Perm l/\l'.Pairwise (fun x y=>ltB (T y.name) (T x.name)=false)/\Sl w' 47 4 v l'.length (l'.flatMap PMap.cells)/\Mods (fun b=>v.ownBlock=some b) w w':=by
 have eg:∀ args w,(callFunc 116 args).run Tryz.prog w=.ok (.enter 116 args) w:=enters_of Tryz.func116 (by kernel_rfl) rfl
 have inh:Inhabited PMap:=⟨⟨[],0,0,0⟩⟩
 have h:=sort_sl Tryz.soM 4 Tryz.isAgg47 Tryz.sizeOf47 PMap.cells (fun _=>rfl) (fun x v hv=>by simp [PMap.cells] at hv;rcases hv with rfl | rfl | rfl | rfl<;>rfl) (cfN PMap.name) (swoN _) 116 eg (fun w x y=>closM_any w x.name y.name _ _ _ _ _ _) w 47 v l g cap hv hl hs
 refine h.mono ?_
 rintro r w' ⟨rfl,l',hp,hq,hs',hm⟩
 exact ⟨rfl,l',hp,hq.imp (fun {x y} e=>by rw [<- ltN PMap.name];exact e),hs',hm⟩
theorem sortF_some (w:World) (v:Value) (l:List FRow) (g cap:Nat) (hv:v=.slice (some ⟨g,0,none⟩) l.length cap) (hl:l.length<=1000000) (hs:Sl w 55 2 v l.length (l.flatMap FRow.cells)) :
  Calls Tryz.prog 118 #[v,.func (.func 119) #[] #[]] w fun r w'=>r=.returned (.tuple #[])/\∃ l':List FRow,l'.Perm l/\l'.Pairwise (fun x y=>ltB (T y.f.name) (T x.f.name)=false)/\Sl w' 55 2 v l'.length (l'.flatMap FRow.cells)/\Mods (fun b=>v.ownBlock=some b) w w':=by
 have eg:∀ args w,(callFunc 119 args).run Tryz.prog w=.ok (.enter 119 args) w:=enters_of Tryz.func119 (by kernel_rfl) rfl
 have inh:Inhabited FRow:=⟨⟨⟨[],[]⟩,none,0,0⟩⟩
 have h:=sort_sl Tryz.soF 2 Tryz.isAgg55 Tryz.sizeOf55 FRow.cells (fun _=>rfl) (fun x v hv=>by simp [FRow.cells] at hv;rcases hv with rfl | rfl<;>rfl) (cfN (fun x:FRow=>x.f.name)) (swoN _) 119 eg (fun w x y=>closF_any w x.f.name y.f.name _ _ _ _ _ _) w 55 v l g cap hv hl hs
 refine h.mono ?_
 rintro r w' ⟨rfl,l',hp,hq,hs',hm⟩
 exact ⟨rfl,l',hp,hq.imp (fun {x y} e=>by rw [<- ltN (fun x:FRow=>x.f.name)];exact e),hs',hm⟩
theorem insM_nil (w:World) (f:Value) (hf:f=.func (.func 116) #[] #[]):Calls Tryz.prog 261 #[.slice none 0 0,.int .i64 0,.int .i64 0,f] w fun e w'=>e=.returned (.tuple #[])/\Mods Nil' w w':=by
 subst hf
 go_enter Tryz.func261,Tryz.ntmps261
 go_wp2_with fail
 go_loopg [8] 1 (fun g iv wx=>iv=.int .i64 1/\Mods Nil' w wx/\g=1)
 case atStart=>exact ⟨rfl,Mods.refl _ _,rfl⟩
 case round =>
  obtain ⟨rfl,HM,rfl⟩:=hrel;go_wp2_with fail
  go_end0
  exact ⟨rfl,HM⟩
set_option maxRecDepth 100000 in
set_option maxHeartbeats 1000000 in
theorem pdqM_nil (w:World) (f:Value) (hf:f=.func (.func 116) #[] #[]):Calls Tryz.prog 217 #[.slice none 0 0,.int .i64 0,.int .i64 0,.int .i64 0,f] w fun e w'=>e=.returned (.tuple #[])/\Mods Nil' w w':=by
 subst hf
 go_enter Tryz.func217,Tryz.ntmps217
 go_wp2_with fail
 go_loopg [1,2,3] 1 (fun g a b c wx=>a=.int .i64 0/\b=.int .i64 0/\c=.int .i64 0/\Mods Nil' w wx/\g=1)
 case atStart=>exact ⟨rfl,rfl,rfl,Mods.refl _ _,rfl⟩
 case round =>
  obtain ⟨rfl,rfl,rfl,HM,rfl⟩:=hrel;go_wp2_with fail
  refine (insM_nil _ _ rfl).mono ?_
  rintro e w2 ⟨rfl,m2⟩;go_wp2_with fail
  refine bodyPost_ret (results_none rfl _ _ _) rfl ?_
  exact ⟨rfl,HM.trans m2⟩
theorem sortM_nil (w:World):Calls Tryz.prog 115 #[.slice none 0 0,.func (.func 116) #[] #[]] w fun e w'=>e=.returned (.tuple #[])/\Mods Nil' w w':=by
 go_enter Tryz.func115,Tryz.ntmps115
 go_wp2_with fail
 refine (len0_any _).mono ?_
 rintro e w1 ⟨rfl,rfl⟩;go_wp2_with fail
 refine (pdqM_nil _ _ rfl).mono ?_
 rintro e w2 ⟨rfl,m2⟩;go_wp2_with fail
 go_end0
 exact ⟨rfl,m2⟩
theorem insF_nil (w:World) (f:Value) (hf:f=.func (.func 119) #[] #[]):Calls Tryz.prog 272 #[.slice none 0 0,.int .i64 0,.int .i64 0,f] w fun e w'=>e=.returned (.tuple #[])/\Mods Nil' w w':=by
 subst hf
 go_enter Tryz.func272,Tryz.ntmps272
 go_wp2_with fail
 go_loopg [8] 1 (fun g iv wx=>iv=.int .i64 1/\Mods Nil' w wx/\g=1)
 case atStart=>exact ⟨rfl,Mods.refl _ _,rfl⟩
 case round =>
  obtain ⟨rfl,HM,rfl⟩:=hrel;go_wp2_with fail
  go_end0
  exact ⟨rfl,HM⟩
set_option maxRecDepth 100000 in
set_option maxHeartbeats 1000000 in
theorem pdqF_nil (w:World) (f:Value) (hf:f=.func (.func 119) #[] #[]):Calls Tryz.prog 220 #[.slice none 0 0,.int .i64 0,.int .i64 0,.int .i64 0,f] w fun e w'=>e=.returned (.tuple #[])/\Mods Nil' w w':=by
 subst hf
 go_enter Tryz.func220,Tryz.ntmps220
 go_wp2_with fail
 go_loopg [1,2,3] 1 (fun g a b c wx=>a=.int .i64 0/\b=.int .i64 0/\c=.int .i64 0/\Mods Nil' w wx/\g=1)
 case atStart=>exact ⟨rfl,rfl,rfl,Mods.refl _ _,rfl⟩
 case round =>
  obtain ⟨rfl,rfl,rfl,HM,rfl⟩:=hrel;go_wp2_with fail
  refine (insF_nil _ _ rfl).mono ?_
  rintro e w2 ⟨rfl,m2⟩;go_wp2_with fail
  refine bodyPost_ret (results_none rfl _ _ _) rfl ?_
  exact ⟨rfl,HM.trans m2⟩
theorem sortF_nil (w:World):Calls Tryz.prog 118 #[.slice none 0 0,.func (.func 119) #[] #[]] w fun e w'=>e=.returned (.tuple #[])/\Mods Nil' w w':=by
 go_enter Tryz.func118,Tryz.ntmps118
 go_wp2_with fail
 refine (len0_any _).mono ?_
 rintro e w1 ⟨rfl,rfl⟩;go_wp2_with fail
 refine (pdqF_nil _ _ rfl).mono ?_
 rintro e w2 ⟨rfl,m2⟩;go_wp2_with fail
 go_end0
 exact ⟨rfl,m2⟩
theorem sortM_any (w:World) (v:Value) (l:List PMap) (hl:l.length<=1000000) (hs:Sl w 47 4 v l.length (l.flatMap PMap.cells)) :
  Calls Tryz.prog 115 #[v,.func (.func 116) #[] #[]] w fun r w'=>r=.returned (.tuple #[])/\∃ l':List PMap,l'.Perm l/\l'.Pairwise (fun x y=>ltB (T y.name) (T x.name)=false)/\Sl w' 47 4 v l'.length (l'.flatMap PMap.cells)/\Mods (fun b=>v.ownBlock=some b) w w':=by
 rcases hs.2 with ⟨h',hn⟩ | ⟨g,cap,cs,h',_⟩
 case inr=>exact sortM_some w v l g cap h' hl hs
 case inl =>
  have e:l=[]:=List.length_eq_zero_iff.1 (by omega)
  subst e;rw [h']
  refine (sortM_nil w).mono ?_
  rintro r w' ⟨rfl,m⟩
  exact ⟨rfl,[],List.Perm.refl _,List.Pairwise.nil,Sl.nil _ _ _,m.os,m.tape,m.output,m.size,fun b hb _=>m.block b hb id⟩
theorem sortF_any (w:World) (v:Value) (l:List FRow) (hl:l.length<=1000000) (hs:Sl w 55 2 v l.length (l.flatMap FRow.cells)) :
  Calls Tryz.prog 118 #[v,.func (.func 119) #[] #[]] w fun r w'=>r=.returned (.tuple #[])/\∃ l':List FRow,l'.Perm l/\l'.Pairwise (fun x y=>ltB (T y.f.name) (T x.f.name)=false)/\Sl w' 55 2 v l'.length (l'.flatMap FRow.cells)/\Mods (fun b=>v.ownBlock=some b) w w':=by
 rcases hs.2 with ⟨h',hn⟩ | ⟨g,cap,cs,h',_⟩
 case inr=>exact sortF_some w v l g cap h' hl hs
 case inl =>
  have e:l=[]:=List.length_eq_zero_iff.1 (by omega)
  subst e;rw [h']
  refine (sortF_nil w).mono ?_
  rintro r w' ⟨rfl,m⟩
  exact ⟨rfl,[],List.Perm.refl _,List.Pairwise.nil,Sl.nil _ _ _,m.os,m.tape,m.output,m.size,fun b hb _=>m.block b hb id⟩
set_option maxHeartbeats 1000000 in
theorem psort_any (w:World) (vM vF:Value) (ms:List PMap) (rs:List FRow) (hml:ms.length<=1000000) (hrl:rs.length<=1000000) (hM:Sl w 47 4 vM ms.length (ms.flatMap PMap.cells)) (hF:Sl w 55 2 vF rs.length (rs.flatMap FRow.cells)) :
  Calls Tryz.prog 48 #[.agg #[vM,vF]] w fun r w'=>r=.returned (.tuple #[])/\∃ (ms':List PMap) (rs':List FRow),ms'.Perm ms/\ms'.Pairwise (fun x y=>ltB (T y.name) (T x.name)=false)/\rs'.Perm rs/\rs'.Pairwise (fun x y=>ltB (T y.f.name) (T x.f.name)=false) /\
   Sl w' 47 4 vM ms'.length (ms'.flatMap PMap.cells)/\Sl w' 55 2 vF rs'.length (rs'.flatMap FRow.cells)/\Mods (fun b=>vM.ownBlock=some b\/vF.ownBlock=some b) w w':=by
 obtain ⟨oM,cM,hvM,_⟩:=hM.view;obtain ⟨oF,cF,hvF,_⟩:=hF.view
 have m0:Mods Nil' w (w.alloc (.cells #[vM,vF] 37)):=(Mods.refl _ _).alloc _
 have hb0:=Blk.new w #[vM,vF] 37
 have H1:Hid (Calls Tryz.prog 115 #[vM,.func (.func 116) #[] #[]] (w.alloc (.cells #[vM,vF] 37)) fun r w'=>r=.returned (.tuple #[])/\∃ l':List PMap,l'.Perm ms/\l'.Pairwise (fun x y=>ltB (T y.name) (T x.name)=false)/\Sl w' 47 4 vM l'.length (l'.flatMap PMap.cells)/\Mods (fun b=>vM.ownBlock=some b) (w.alloc (.cells #[vM,vF] 37)) w') :=
  sortM_any _ vM ms hml (hM.mods m0 (fun _ _=>id))
 have H2:Hid (∀ w',Mods (fun b=>vM.ownBlock=some b) (w.alloc (.cells #[vM,vF] 37)) w'->Blk w' w.heap.size #[vM,vF] 37/\Calls Tryz.prog 118 #[vF,.func (.func 119) #[] #[]] w' fun r w''=>r=.returned (.tuple #[])/\∃ l':List FRow,l'.Perm rs/\l'.Pairwise (fun x y=>ltB (T y.f.name) (T x.f.name)=false)/\Sl w'' 55 2 vF l'.length (l'.flatMap FRow.cells)/\Mods (fun b=>vF.ownBlock=some b) w' w''):=fun w' m=>by
  refine ⟨hb0.mods m ((hM.mods m0 (fun _ _=>id)).notBlk hb0 (by decide)),sortF_any _ vF rs hrl ((hF.mods m0 (fun _ _=>id)).mods m (fun k hk e=>?_))⟩
  exact hM.apart hF (by decide) e hk
 have H3:Hid (∀ w' w'' (ms':List PMap),Sl w' 47 4 vM ms'.length (ms'.flatMap PMap.cells)->Mods (fun b=>vF.ownBlock=some b) w' w''->Sl w'' 47 4 vM ms'.length (ms'.flatMap PMap.cells)):=fun w' w'' ms' h m=>h.mods m (fun k hk e=>hM.apart hF (by decide) hk e)
 have HM0:=hid m0;subst hvM hvF;clear hM hF hb0 m0
 go_enter Tryz.func48,Tryz.ntmps48
 go_wp2_with fail;refine H1.out.mono ?_
 rintro e w1 ⟨rfl,ms',p1,q1,s1,m1⟩
 have hb1:=(H2.out w1 m1).1.cell 1
 have z1:w1.cell? ⟨w.heap.size,1,none⟩=some (.slice oF rs.length cF):=hb1
 have HC:Hid (Calls Tryz.prog 118 #[.slice oF rs.length cF,.func (.func 119) #[] #[]] w1 fun r w''=>r=.returned (.tuple #[])/\∃ l':List FRow,l'.Perm rs/\l'.Pairwise (fun x y=>ltB (T y.f.name) (T x.f.name)=false)/\Sl w'' 55 2 (.slice oF rs.length cF) l'.length (l'.flatMap FRow.cells)/\Mods (fun b=>(Value.slice oF rs.length cF).ownBlock=some b) w1 w''):=(H2.out w1 m1).2
 have HP1:Hid (ms'.Perm ms/\ms'.Pairwise (fun x y=>ltB (T y.name) (T x.name)=false)/\Sl w1 47 4 (.slice oM ms.length cM) ms'.length (ms'.flatMap PMap.cells)/\Mods (fun b=>(Value.slice oM ms.length cM).ownBlock=some b) (w.alloc (.cells #[.slice oM ms.length cM,.slice oF rs.length cF] 37)) w1):=⟨p1,q1,s1,m1⟩
 clear hb1 p1 q1 s1 m1 H1 H2;go_wp2_with fail;refine HC.out.mono ?_
 rintro e w2 ⟨rfl,rs',p2,q2,s2,m2⟩
 have HP2:Hid (rs'.Perm rs/\rs'.Pairwise (fun x y=>ltB (T y.f.name) (T x.f.name)=false)/\Sl w2 55 2 (.slice oF rs.length cF) rs'.length (rs'.flatMap FRow.cells)/\Mods (fun b=>(Value.slice oF rs.length cF).ownBlock=some b) w1 w2):=⟨p2,q2,s2,m2⟩
 clear p2 q2 s2 m2 HC z1;go_wp2_with fail
 go_end0
 obtain ⟨p1,q1,s1,m1⟩:=HP1.out;obtain ⟨p2,q2,s2,m2⟩:=HP2.out
 refine ⟨rfl,ms',rs',p1,q1,p2,q2,H3.out _ _ _ s1 m2,s2,?_⟩
 have hm:=HM0.out
 exact ⟨m2.os.trans (m1.os.trans hm.os),m2.tape.trans (m1.tape.trans hm.tape),m2.output.trans (m1.output.trans hm.output),Nat.le_trans hm.size (Nat.le_trans m1.size m2.size),fun k hk hn=>by
  rw [m2.block k (Nat.lt_of_lt_of_le hk (Nat.le_trans hm.size m1.size)) (fun e=>hn (.inr e)),m1.block k (Nat.lt_of_lt_of_le hk hm.size) (fun e=>hn (.inl e)),hm.block k hk id]⟩
structure BS where
 ms:List PMap:=[]
 fs:List PFn:=[]
 slot:Nat:=0
def pmOf (x:PLn):PMap:=⟨x.name,(szP (x.ns.getD 0 num0)).toNat,(szP (x.ns.getD 1 num0)).toNat,(szP (x.ns.getD 2 num0)).toNat⟩
def PRead.pi (x:PRead) (j:Int):PI:=⟨x.k,x.r.d,x.r.s,j,x.r.num,x.r.high,x.r.name⟩
def jmpOf (o:OL) (last slot:Nat) (x:PRead):Int:=if x.o.jumps then (((labOf (o.fs.getD last {}).labs x.r.label).getD 0:Nat):Int) - slot - x.o.slots else x.r.jump
def piOf (o:OL) (last slot:Nat) (x:PRead):PI:=x.pi (jmpOf o last slot x)
def BS.last (b:BS):PFn:=b.fs.getD (b.fs.length - 1) ⟨[],[]⟩
def bStep (o:OL) (b:BS) (x:PLn):BS :=
 if x.kind=1 then { b with ms:=b.ms++[pmOf x] }
 else if x.kind=2 then { b with fs:=b.fs++[⟨x.name,[]⟩],slot:=0 }
 else if x.kind=4 then { b with fs:=b.fs.set (b.fs.length - 1) ⟨b.last.name,b.last.code++[piOf o (b.fs.length - 1) b.slot x.x]⟩,slot:=b.slot+x.x.o.slots }
 else b
def buildP (o:OL) (ls:List PLn):BS:=ls.foldl (bStep o) {}
theorem build_step (o:OL) (ls:List PLn) (k:Nat) (h:k<ls.length):buildP o (ls.take (k+1))=bStep o (buildP o (ls.take k)) ls[k]:=by
 unfold buildP
 rw [List.take_succ_eq_append_getElem h,List.foldl_append];rfl
theorem build_len (o:OL) (ls:List PLn):∀ k,k<=ls.length->(buildP o (ls.take k)).fs.length=(outlineP (ls.take k)).fs.length/\(buildP o (ls.take k)).slot<=2*k/\(buildP o (ls.take k)).ms.length<=k/\(buildP o (ls.take k)).fs.length<=k/\(∀ f∈(buildP o (ls.take k)).fs,f.code.length<=k)
 | 0,_=>by rw [List.take_zero];exact ⟨rfl,Nat.le_refl _,Nat.le_refl _,Nat.le_refl _,fun f hf=>(by cases hf)⟩
 | k+1,h=>by
  obtain ⟨h1,h2,h3,h4,h5⟩:=build_len o ls k (by omega)
  rw [outline_step ls k (by omega),build_step o ls k (by omega)]
  generalize outlineP (ls.take k)=ol at *;generalize buildP o (ls.take k)=b at *;generalize ls[k]=x
  have h6:∀ f∈b.fs,f.code.length<=k+1:=fun f hf=>by have:=h5 f hf;omega
  unfold outStep bStep
  by_cases k1:x.kind=1
  ·rw [if_pos k1,if_pos k1]
   exact ⟨h1,by simp only;omega,by simp;omega,by simp only;omega,h6⟩
  rw [if_neg k1,if_neg k1]
  by_cases k2:x.kind=2
  ·rw [if_pos k2,if_pos k2]
   refine ⟨by simp [h1],Nat.zero_le _,by simp only;omega,by simp;omega,fun f hf=>?_⟩
   rcases List.mem_append.1 hf with hf | hf
   ·exact h6 f hf
   ·rw [List.mem_singleton.1 hf];exact Nat.zero_le _
  rw [if_neg k2,if_neg k2]
  by_cases k3:x.kind=3
  ·rw [if_pos k3,if_neg (by omega)]
   exact ⟨by rw [onLast_len];exact h1,by omega,by omega,by omega,h6⟩
  rw [if_neg k3]
  by_cases k4:x.kind=4
  ·rw [if_pos k4,if_pos k4]
   have:=x.x.slots2
   refine ⟨by rw [onLast_len];simpa using h1,by simp only;omega,by simp only;omega,by simp;omega,fun f hf=>?_⟩
   rcases List.mem_or_eq_of_mem_set hf with hf | rfl
   ·exact h6 f hf
   ·simp only [List.length_append,List.length_singleton]
    have:b.last.code.length<=k:=by
     unfold BS.last
     cases hq:b.fs[b.fs.length - 1]? with
     | none =>
      rw [List.getD_eq_getElem?_getD,hq];exact Nat.zero_le _
     | some f =>
      rw [List.getD_eq_getElem?_getD,hq];exact h5 f (List.mem_of_getElem? hq)
    omega
  ·rw [if_neg k4,if_neg k4]
   exact ⟨h1,by omega,by omega,by omega,h6⟩
structure BdAt (w0:World) (P:Nat) (bs:List Nat) (vM vF:Value) (ms:List PMap) (fs:List PFn) (vs:List Value) (w:World):Prop where
 blk:Blk w P #[vM,vF] 37
 maps:Sl w 47 4 vM ms.length (ms.flatMap PMap.cells)
 len:vs.length=fs.length
 rows:Sl w 55 2 vF fs.length (((fs.map (·.name)).zip vs).flatMap fnC)
 code:∀ i (_:i<fs.length) (_:i<vs.length),CodeL w vs[i] bs fs[i].code
 lo:w0.heap.size<=P
 ownM:∀ k,vM.ownBlock=some k->w0.heap.size<=k
 ownF:∀ k,vF.ownBlock=some k->w0.heap.size<=k
 ownC:∀ u∈vs,∀ k,u.ownBlock=some k->w0.heap.size<=k
 ne:∀ i j (_:i<vs.length) (_:j<vs.length),i≠j->∀ k,vs[i].ownBlock=some k->vs[j].ownBlock≠some k
 md:Mods Nil' w0 w
section
variable {w0 w w' : World} {P : Nat} {bs : List Nat} {vM vF v' : Value} {ms : List PMap} {fs : List PFn} {vs : List Value}
theorem CodeL.notBlk {v:Value} {code:List PI} {k:Nat} {cs:Array Value} {e':TypeId} (h:CodeL w v bs code) (hb:Blk w k cs e') (he:84≠e'):v.ownBlock≠some k:=by
 obtain ⟨_,_,h2⟩:=h;exact h2.notBlk hb he
theorem CodeL.apart {v:Value} {code:List PI} {k n' size':Nat} {e':TypeId} {xs':List Value} (h:CodeL w v bs code) (h':Sl w e' size' v' n' xs') (he:84≠e') (hk:v.ownBlock=some k):v'.ownBlock≠some k:=by
 obtain ⟨_,_,h2⟩:=h;exact h2.apart h' he hk
theorem CodeL.lt {v:Value} {code:List PI} (h:CodeL w v bs code) (k:Nat) (hk:v.ownBlock=some k):k<w.heap.size:=by
 obtain ⟨_,_,h2⟩:=h;exact h2.lt k hk
theorem BdAt.quiet (h:BdAt w0 P bs vM vF ms fs vs w) (m:Mods Nil' w w'):BdAt w0 P bs vM vF ms fs vs w' :=
 ⟨h.blk.mods m id,h.maps.mods m (fun _ _=>id),h.len,h.rows.mods m (fun _ _=>id),fun i a b=>(h.code i a b).mods m (fun _ _=>id),h.lo,h.ownM,h.ownF,h.ownC,h.ne,h.md.trans m⟩
theorem BdAt.codeM {u:Value} (h:BdAt w0 P bs vM vF ms fs vs w) (hu:u∈vs):∃ code,CodeL w u bs code:=by
 obtain ⟨i,hi,rfl⟩:=List.getElem_of_mem hu
 exact ⟨_,h.code i (by rw [<- h.len];exact hi) hi⟩
theorem BdAt.blkM (h:BdAt w0 P bs vM vF ms fs vs w) (m:Mods (fun k=>vM.ownBlock=some k) w w'):Blk w' P #[vM,vF] 37 :=
 h.blk.mods m (fun e=>h.maps.notBlk h.blk (by decide) e)
theorem BdAt.map (h:BdAt w0 P bs vM vF ms fs vs w) (x:PMap) (s:Sl w' 47 4 v' (ms.length+1) (ms.flatMap PMap.cells++PMap.cells x)) (m:Mods (fun k=>vM.ownBlock=some k) w w') (l:∀ k,v'.ownBlock=some k->vM.ownBlock=some k\/w.heap.size<=k):BdAt w0 P bs v' vF (ms++[x]) fs vs (w'.setCell ⟨P,0,none⟩ v'):=by
 have hB:=h.blkM m
 have mP:Mods (Only P) w' (w'.setCell ⟨P,0,none⟩ v'):=(Mods.refl _ _).setb _ _
 have hP:∀ {e:TypeId} {size n:Nat} {v:Value} {xs:List Value},Sl w' e size v n xs->e≠37->∀ k,v.ownBlock=some k->¬ Only P k:=fun s he k hk e=>s.notBlk hB he (hk.trans (congrArg some e))
 have hrow:Sl w' 55 2 vF fs.length (((fs.map (·.name)).zip vs).flatMap fnC):=h.rows.mods m (fun k hk e=>h.rows.apart h.maps (by decide) hk e)
 have hcode:∀ i (_:i<fs.length) (_:i<vs.length),CodeL w' vs[i] bs fs[i].code:=fun i a b=>(h.code i a b).mods m (fun k hk e=>(h.code i a b).apart h.maps (by decide) hk e)
 refine ⟨hB.set 0 v',?_,h.len,hrow.mods mP (hP hrow (by decide)),fun i a b=>(hcode i a b).mods mP (fun k hk e=>(hcode i a b).notBlk hB (by decide) (hk.trans (congrArg some e))),h.lo,fun k hk=>?_,h.ownF,h.ownC,h.ne,?_⟩
 ·have:=s.mods mP (hP s (by decide))
  simpa using this
 ·rcases l k hk with e | e
  ·exact h.ownM k e
  ·have:=h.md.size;omega
 ·refine (h.md.step m (fun i hi e=>by have:=h.ownM i e;omega)).step mP (fun i hi e=>?_)
  have e':i=P:=e
  have:=h.lo
  omega
theorem BdAt.func (h:BdAt w0 P bs vM vF ms fs vs w) (nm:List UInt8) (s:Sl w' 55 2 v' (fs.length+1) (((fs.map (·.name)).zip vs).flatMap fnC++fnC (nm,.slice none 0 0))) (m:Mods (fun k=>vF.ownBlock=some k) w w') (l:∀ k,v'.ownBlock=some k->vF.ownBlock=some k\/w.heap.size<=k):BdAt w0 P bs vM v' ms (fs++[⟨nm,[]⟩]) (vs++[.slice none 0 0]) (w'.setCell ⟨P,1,none⟩ v'):=by
 have hB:Blk w' P #[vM,vF] 37:=h.blk.mods m (fun e=>h.rows.notBlk h.blk (by decide) e)
 have mP:Mods (Only P) w' (w'.setCell ⟨P,1,none⟩ v'):=(Mods.refl _ _).setb _ _
 have hP:∀ {e:TypeId} {size n:Nat} {v:Value} {xs:List Value},Sl w' e size v n xs->e≠37->∀ k,v.ownBlock=some k->¬ Only P k:=fun s he k hk e=>s.notBlk hB he (hk.trans (congrArg some e))
 have hmap:Sl w' 47 4 vM ms.length (ms.flatMap PMap.cells):=h.maps.mods m (fun k hk e=>h.maps.apart h.rows (by decide) hk e)
 have hcode:∀ i (_:i<fs.length) (_:i<vs.length),CodeL w' vs[i] bs fs[i].code:=fun i a b=>(h.code i a b).mods m (fun k hk e=>(h.code i a b).apart h.rows (by decide) hk e)
 refine ⟨hB.set 1 v',hmap.mods mP (hP hmap (by decide)),by simp [h.len],?_,fun i a b=>?_,h.lo,h.ownM,fun k hk=>?_,fun u hu k hk=>?_,fun i j hi hj hij k hk=>?_,?_⟩
 ·have:=s.mods mP (hP s (by decide))
  have e:((fs++[(⟨nm,[]⟩:PFn)]).map (·.name)).zip (vs++[Value.slice none 0 0])=((fs.map (·.name)).zip vs)++[(nm,Value.slice none 0 0)]:=by
   rw [List.map_append,List.zip_append (by simp [h.len])];rfl
  rw [e,List.flatMap_append]
  simpa using this
 ·by_cases hi:i<fs.length
  ·have hi':i<vs.length:=by rw [h.len];exact hi
   simp only [List.getElem_append_left hi,List.getElem_append_left hi']
   exact (hcode i hi hi').mods mP (fun k hk e=>(hcode i hi hi').notBlk hB (by decide) (hk.trans (congrArg some e)))
  ·have e1:i=fs.length:=by simp at a;omega
   have e2:i=vs.length:=by rw [h.len];exact e1
   have e3:(fs++[(⟨nm,[]⟩:PFn)])[i]=⟨nm,[]⟩:=by subst e1;simp
   have e4:(vs++[Value.slice none 0 0])[i]=.slice none 0 0:=by subst e2;simp
   rw [e3,e4]
   exact ⟨[],rfl,Sl.nil _ _ _⟩
 ·rcases l k hk with e | e
  ·exact h.ownF k e
  ·have:=h.md.size;omega
 ·rcases List.mem_append.1 hu with hu | hu
  ·exact h.ownC u hu k hk
  ·rw [List.mem_singleton.1 hu] at hk;cases hk
 ·by_cases hi':i<vs.length
  ·rw [List.getElem_append_left hi'] at hk
   by_cases hj':j<vs.length
   ·rw [List.getElem_append_left hj'];exact h.ne i j hi' hj' hij k hk
   ·have e2:j=vs.length:=by simp at hj;omega
    have e4:(vs++[Value.slice none 0 0])[j]=.slice none 0 0:=by subst e2;simp
    rw [e4];intro e;cases e
  ·have e2:i=vs.length:=by simp at hi;omega
   have e4:(vs++[Value.slice none 0 0])[i]=.slice none 0 0:=by subst e2;simp
   rw [e4] at hk;cases hk
 ·refine (h.md.step m (fun i hi e=>by have:=h.ownF i e;omega)).step mP (fun i hi e=>?_)
  have e':i=P:=e
  have:=h.lo
  omega
theorem BdAt.instr {g c k:Nat} {u:Value} {x:PI} {lab:ByteArray} (hk:k<fs.length) (hkv:k<vs.length) {nf:Nat} (hnf:nf=fs.length) (h:BdAt w0 P bs vM (.slice (some ⟨g,0,none⟩) nf c) ms fs vs w) (hu:vs[k]=u)
  {labs:List ByteArray} (hl1:labs.length=fs[k].code.length) (s:Sl w' 84 8 v' (fs[k].code.length+1) (codeLb bs (fs[k].code.zip labs)++(x.insL bs lab).cellsL)) (m:Mods (fun k=>u.ownBlock=some k) w w') (l:∀ k,v'.ownBlock=some k->u.ownBlock=some k\/w.heap.size<=k) :
  BdAt w0 P bs vM (.slice (some ⟨g,0,none⟩) nf c) ms (fs.set k ⟨fs[k].name,fs[k].code++[x]⟩) (vs.set k v') (w'.setCell ⟨g,k*2+1,none⟩ v'):=by
 subst hnf hu
 have hown:(Value.slice (some ⟨g,0,none⟩) fs.length c).ownBlock=some g:=rfl
 have hck:=h.code k hk hkv
 have hB:Blk w' P #[vM,.slice (some ⟨g,0,none⟩) fs.length c] 37:=h.blk.mods m (fun e=>hck.notBlk h.blk (by decide) e)
 have hmap:Sl w' 47 4 vM ms.length (ms.flatMap PMap.cells):=h.maps.mods m (fun k' hk' e=>hck.apart h.maps (by decide) e hk')
 have hrow:Sl w' 55 2 (.slice (some ⟨g,0,none⟩) fs.length c) fs.length (((fs.map (·.name)).zip vs).flatMap fnC):=h.rows.mods m (fun k' hk' e=>hck.apart h.rows (by decide) e hk')
 have hcode:∀ i (_:i<fs.length) (_:i<vs.length),i≠k->CodeL w' vs[i] bs fs[i].code:=fun i a b hik=>(h.code i a b).mods m (fun k' hk' e=>h.ne i k b hkv hik k' hk' e)
 have hnew:CodeL w' v' bs (fs[k].code++[x]):=by
  refine ⟨labs++[lab],by simp [hl1],?_⟩
  have e:(fs[k].code++[x]).zip (labs++[lab])=fs[k].code.zip labs++[(x,lab)]:=by
   rw [List.zip_append hl1.symm];rfl
  rw [e]
  have:=s
  unfold codeLb at *
  rw [List.flatMap_append]
  simpa using this
 have mg:Mods (Only g) w' (w'.setCell ⟨g,k*2+1,none⟩ v'):=(Mods.refl _ _).setb _ _
 have hgI:∀ {v:Value} {code:List PI},CodeL w' v bs code->∀ k',v.ownBlock=some k'->¬ Only g k':=fun hc k' hk' e=>hc.apart hrow (by decide) hk' (by rw [hown];exact congrArg some (show g=k' from e.symm))
 have hkz:k<((fs.map (·.name)).zip vs).length:=by simp;omega
 have hnm:(fs.set k ⟨fs[k].name,fs[k].code++[x]⟩).map (·.name)=fs.map (·.name):=by
  rw [List.map_set]
  exact List.ext_getElem (by simp) (fun i h1 h2=>by
   rw [List.getElem_set]
   split
   ·rename_i e;subst e;simp
   ·rfl)
 refine ⟨hB.mods mg (fun e=>hrow.notBlk hB (by decide) (by rw [hown];exact congrArg some (show g=P from e.symm))),hmap.mods mg (fun k' hk' e=>hmap.apart hrow (by decide) hk' (by rw [hown];exact congrArg some (show g=k' from e.symm))),by simp [h.len],?_,fun i a b=>?_,h.lo,h.ownM,h.ownF,fun u hu k' hk'=>?_,fun i j hi hj hij k' hk'=>?_,?_⟩
 ·have:=hrow.setAt (k*2+1) v' (by omega)
  rw [flat_set fnC 2 (fun _=>rfl) _ k 1 hkz (by omega) v' (fs[k].name,v') (by rw [zip_at _ _ k (by simpa using hk) hkv];simp [fnC])] at this
  rw [hnm,List.length_set]
  have e:((fs.map (·.name)).zip vs).set k (fs[k].name,v')=(fs.map (·.name)).zip (vs.set k v'):=by
   refine List.ext_getElem (by simp) (fun i h1 h2=>?_)
   rw [List.getElem_set]
   split
   ·rename_i e;subst e;simp
   ·rename_i e
    simp [e]
  rw [e] at this;exact this
 ·rw [List.length_set] at a b
  by_cases e:k=i
  ·subst e
   simp only [List.getElem_set,if_true]
   exact hnew.mods mg (hgI hnew)
  ·simp only [e,if_false,List.getElem_set]
   exact (hcode i a b (Ne.symm e)).mods mg (hgI (hcode i a b (Ne.symm e)))
 ·rcases List.mem_or_eq_of_mem_set hu with h' | h'
  ·exact h.ownC u h' k' hk'
  ·subst h'
   rcases l k' hk' with e | e
   ·exact h.ownC _ (List.getElem_mem hkv) k' e
   ·have:=h.md.size;omega
 ·rw [List.length_set] at hi hj;rw [List.getElem_set] at hk' ⊢
  have hnn:∀ i' (_:i'<vs.length),k≠i'->∀ k',vs[i'].ownBlock=some k'->v'.ownBlock≠some k':=fun i' hi' hik k' hk' e=>by
   rcases l k' e with e2 | e2
   ·exact h.ne i' k hi' hkv (Ne.symm hik) k' hk' e2
   ·have:=(h.code i' (by rw [<- h.len];exact hi') hi').lt k' hk'
    omega
  by_cases e:k=i
  ·subst e;rw [if_pos rfl] at hk';rw [if_neg hij];intro e2;exact hnn j hj hij k' e2 hk'
  ·rw [if_neg e] at hk'
   by_cases e2:k=j
   ·subst e2;rw [if_pos rfl];exact hnn i hi e k' hk'
   ·rw [if_neg e2];exact h.ne i j hi hj hij k' hk'
 ·refine (h.md.step m (fun i hi e=>by have:=h.ownC _ (List.getElem_mem hkv) i e;omega)).step mg (fun i hi e=>?_)
  have e':i=g:=e
  have:=h.ownF g hown
  omega
theorem BdAt.new (w0:World) (bs:List Nat) (w:World) (m:Mods Nil' w0 w):BdAt w0 w.heap.size bs (.slice none 0 0) (.slice none 0 0) [] [] [] (w.alloc (.cells #[.slice none 0 0,.slice none 0 0] 37)) :=
 ⟨Blk.new w _ _,Sl.nil _ _ _,rfl,Sl.nil _ _ _,fun i h=>absurd h (Nat.not_lt_zero _),m.size,fun k h=>(by cases h),fun k h=>(by cases h),fun u h=>(by cases h),fun i j h=>absurd h (Nat.not_lt_zero _),m.alloc _⟩
end
theorem wp_build_one {P:Program} {o:Oper} {a:Act} {w:World} {K:Act->World->Prop} {Q:Exit->Act->World->Prop} (t e:TypeId) (n:Nat) (x:Operand) (ho:o.op=.buildSlice t 1 #[(0,x)]) (cs:Array Value) (hx:a.eval x=.agg cs) (hn:cs.size=n) (i:TypeInfo) (z:Value)
  (hu:P.underlying t=some (.slice e)) (hi:P.info? e=some i) (hz:i.zero=some z) (hs:i.size=n) (h0:0<n) (h1:n<=1000)
  (h:K (a.put o.dst (.slice (some ⟨w.heap.size,0,none⟩) 1 1)) (w.alloc (.cells cs e))):o.wp P a w K Q:=by
 refine wp_buildSlice t e 1 _ ho cs i z hu hi hz (by rw [hs];omega) (by rw [hs];omega) ?_ h
 rw [hs]
 simp only [List.map_toArray,List.map_cons,List.map_nil,hx]
 exact fill_rowN n _ _ hn (by simp)
structure BdW (w0:World) (R A P bm:Nat) (vO:Value) (bs:List Nat) (vM vF:Value) (b:BS) (vs:List Value) (w:World):Prop where
 bd:BdAt w0 P bs vM vF b.ms b.fs vs w
 res:Blk w R #[.slice none 0 0,.slice none 0 0] 37
 all:Blk w A #[.map (some bm),vO] 64
 ne:R≠P
section
variable {w0 w w' : World} {R A P bm : Nat} {vO vM vF v' : Value} {bs : List Nat} {b : BS} {vs : List Value}
theorem BdW.quiet (h:BdW w0 R A P bm vO bs vM vF b vs w) (m:Mods Nil' w w'):BdW w0 R A P bm vO bs vM vF b vs w':=⟨h.bd.quiet m,h.res.mods m id,h.all.mods m id,h.ne⟩
theorem BdW.map {x:PLn} (o:OL) (hx:x.kind=1) (h:BdW w0 R A P bm vO bs vM vF b vs w) (s:Sl w' 47 4 v' (b.ms.length+1) (b.ms.flatMap PMap.cells++PMap.cells (pmOf x))) (m:Mods (fun k=>vM.ownBlock=some k) w w') (l:∀ k,v'.ownBlock=some k->vM.ownBlock=some k\/w.heap.size<=k):BdW w0 R A P bm vO bs v' vF (bStep o b x) vs (w'.setCell ⟨P,0,none⟩ v'):=by
 have mP:Mods (Only P) w' (w'.setCell ⟨P,0,none⟩ v'):=(Mods.refl _ _).setb _ _
 have hB:=h.bd.blkM m
 have hr:Blk w' R #[.slice none 0 0,.slice none 0 0] 37:=h.res.mods m (fun e=>h.bd.maps.notBlk h.res (by decide) e)
 have ha:Blk w' A #[.map (some bm),vO] 64:=h.all.mods m (fun e=>h.bd.maps.notBlk h.all (by decide) e)
 have e:bStep o b x={ b with ms:=b.ms++[pmOf x] }:=by unfold bStep;rw [if_pos hx]
 rw [e]
 exact ⟨h.bd.map (pmOf x) s m l,hr.mods mP (fun e=>h.ne e),ha.mods mP (fun e=>ha.apart hB (by decide) e),h.ne⟩
theorem BdW.func {x:PLn} (o:OL) (hx:x.kind=2) (h:BdW w0 R A P bm vO bs vM vF b vs w) (s:Sl w' 55 2 v' (b.fs.length+1) (((b.fs.map (·.name)).zip vs).flatMap fnC++fnC (x.name,.slice none 0 0))) (m:Mods (fun k=>vF.ownBlock=some k) w w') (l:∀ k,v'.ownBlock=some k->vF.ownBlock=some k\/w.heap.size<=k):BdW w0 R A P bm vO bs vM v' (bStep o b x) (vs++[.slice none 0 0]) (w'.setCell ⟨P,1,none⟩ v'):=by
 have mP:Mods (Only P) w' (w'.setCell ⟨P,1,none⟩ v'):=(Mods.refl _ _).setb _ _
 have hB:Blk w' P #[vM,vF] 37:=h.bd.blk.mods m (fun e=>h.bd.rows.notBlk h.bd.blk (by decide) e)
 have hr:Blk w' R #[.slice none 0 0,.slice none 0 0] 37:=h.res.mods m (fun e=>h.bd.rows.notBlk h.res (by decide) e)
 have ha:Blk w' A #[.map (some bm),vO] 64:=h.all.mods m (fun e=>h.bd.rows.notBlk h.all (by decide) e)
 have e:bStep o b x={ b with fs:=b.fs++[⟨x.name,[]⟩],slot:=0 }:=by unfold bStep;rw [if_neg (by omega),if_pos hx]
 rw [e]
 exact ⟨h.bd.func x.name s m l,hr.mods mP (fun e=>h.ne e),ha.mods mP (fun e=>ha.apart hB (by decide) e),h.ne⟩
theorem BdW.instr {x:PLn} (o:OL) (hx:x.kind=4) {g c n:Nat} {u:Value} {lab:ByteArray} (hn:n=b.fs.length - 1) (hk:n<b.fs.length) (hkv:n<vs.length) {nf:Nat} (hnf:nf=b.fs.length) (h:BdW w0 R A P bm vO bs vM (.slice (some ⟨g,0,none⟩) nf c) b vs w) (hu:vs[n]=u)
  {labs:List ByteArray} (hl1:labs.length=b.fs[n].code.length) (s:Sl w' 84 8 v' (b.fs[n].code.length+1) (codeLb bs (b.fs[n].code.zip labs)++((piOf o n b.slot x.x).insL bs lab).cellsL)) (m:Mods (fun k=>u.ownBlock=some k) w w') (l:∀ k,v'.ownBlock=some k->u.ownBlock=some k\/w.heap.size<=k) :
  BdW w0 R A P bm vO bs vM (.slice (some ⟨g,0,none⟩) nf c) (bStep o b x) (vs.set n v') (w'.setCell ⟨g,n*2+1,none⟩ v'):=by
 have hI:=h.bd.instr hk hkv hnf hu hl1 s m l
 have hcode:=h.bd.code n hk hkv
 rw [hu] at hcode
 have mg:Mods (Only g) w' (w'.setCell ⟨g,n*2+1,none⟩ v'):=(Mods.refl _ _).setb _ _
 have hr:Blk w' R #[.slice none 0 0,.slice none 0 0] 37:=h.res.mods m (fun e=>hcode.notBlk h.res (by decide) e)
 have ha:Blk w' A #[.map (some bm),vO] 64:=h.all.mods m (fun e=>hcode.notBlk h.all (by decide) e)
 have hrow:Sl w' 55 2 (.slice (some ⟨g,0,none⟩) nf c) b.fs.length (((b.fs.map (·.name)).zip vs).flatMap fnC):=h.bd.rows.mods m (fun k' hk' e=>hcode.apart h.bd.rows (by decide) e hk')
 have e:bStep o b x={ b with fs:=b.fs.set n ⟨b.fs[n].name,b.fs[n].code++[piOf o n b.slot x.x]⟩,slot:=b.slot+x.x.o.slots }:=by
  unfold bStep
  rw [if_neg (by omega),if_neg (by omega),if_pos hx]
  have hl:b.last=b.fs[n]:=by
   unfold BS.last
   rw [<- hn,List.getD_eq_getElem?_getD,List.getElem?_eq_getElem hk];rfl
  rw [hl,<- hn]
 rw [e]
 exact ⟨hI,hr.mods mg (fun e=>hrow.notBlk hr (by decide) (congrArg some (show g=R from e.symm))),ha.mods mg (fun e=>hrow.notBlk ha (by decide) (congrArg some (show g=A from e.symm))),h.ne⟩
end
def rowV (f:PFn):Value->FRow
 | .slice o n c=>⟨f,o,n,c⟩
 | _=>⟨f,none,0,0⟩
theorem rowV_cells:∀ (fs:List PFn) (vs:List Value),vs.length=fs.length->(∀ u∈vs,∃ o n c,u=.slice o n c)->(List.zipWith rowV fs vs).flatMap FRow.cells=((fs.map (·.name)).zip vs).flatMap fnC/\(List.zipWith rowV fs vs).map (·.f)=fs/\(List.zipWith rowV fs vs).map FRow.v=vs
 | [],[],_,_=>⟨rfl,rfl,rfl⟩
 | f::fs,v::vs,h,hs=>by
  obtain ⟨h1,h2,h3⟩:=rowV_cells fs vs (by simpa using h) (fun u hu=>hs u (by simp [hu]))
  obtain ⟨o,n,c,rfl⟩:=hs v (by simp)
  refine ⟨?_,?_,?_⟩
  ·rw [List.zipWith_cons_cons,List.flatMap_cons,h1];rfl
  ·rw [List.zipWith_cons_cons,List.map_cons,h2];rfl
  ·rw [List.zipWith_cons_cons,List.map_cons,h3];rfl
 | [],_::_,h,_=>by simp at h
 | _::_,[],h,_=>by simp at h
theorem BdAt.slices {w0 w:World} {P:Nat} {bs:List Nat} {vM vF:Value} {ms:List PMap} {fs:List PFn} {vs:List Value} (h:BdAt w0 P bs vM vF ms fs vs w):∀ u∈vs,∃ o n c,u=.slice o n c:=fun u hu=>by
 obtain ⟨code,hc⟩:=h.codeM hu;obtain ⟨o,c,hv,_⟩:=hc.view
 exact ⟨o,_,c,hv⟩
theorem BdW.sorted {w0 w w':World} {R A P bm:Nat} {vO vM vF:Value} {bs:List Nat} {b:BS} {vs:List Value} (h:BdW w0 R A P bm vO bs vM vF b vs w) {tv:Value} {ms':List PMap} {rs':List FRow} (hp:rs'.Perm (List.zipWith rowV b.fs vs)) (sM:Sl w' 47 4 vM ms'.length (ms'.flatMap PMap.cells)) (sF:Sl w' 55 2 vF rs'.length (rs'.flatMap FRow.cells)) (m:Mods (fun k=>vM.ownBlock=some k\/vF.ownBlock=some k\/k=R) w w') (hO:OpsIn 0 w' tv bs tableS) :
  PPrL w' tv bs vM vF ms' (rs'.map (·.f)) (rs'.map FRow.v)/\(rs'.map (·.f)).Perm b.fs:=by
 obtain ⟨h1,h2,h3⟩:=rowV_cells b.fs vs h.bd.len h.bd.slices
 refine ⟨⟨sM,by simp,?_,fun i hi hi'=>?_,hO⟩,?_⟩
 ·have e:(((rs'.map (·.f)).map (·.name)).zip (rs'.map FRow.v)).flatMap fnC=rs'.flatMap FRow.cells:=by
   rw [List.map_map,List.zip_map',List.flatMap_map];rfl
  rw [e,List.length_map];exact sF
 ·have hi2:i<rs'.length:=by simpa using hi
  have hm:rs'[i]∈List.zipWith rowV b.fs vs:=hp.mem_iff.1 (List.getElem_mem hi2)
  obtain ⟨j,hj,e⟩:=List.getElem_of_mem hm
  have hjf:j<b.fs.length:=by rw [List.length_zipWith] at hj;omega
  have hjv:j<vs.length:=by rw [List.length_zipWith] at hj;omega
  have e1:rs'[i].f=b.fs[j]:=by
   have:=congrArg (fun l:List PFn=>l[j]?) h2
   simp only [List.getElem?_map,List.getElem?_eq_getElem hj,List.getElem?_eq_getElem hjf,Option.map_some,Option.some.injEq] at this
   rw [<- e];exact this
  have e2:rs'[i].v=vs[j]:=by
   have:=congrArg (fun l:List Value=>l[j]?) h3
   simp only [List.getElem?_map,List.getElem?_eq_getElem hj,List.getElem?_eq_getElem hjv,Option.map_some,Option.some.injEq] at this
   rw [<- e];exact this
  simp only [List.getElem_map]
  rw [e1,e2]
  have hc:=h.bd.code j hjf hjv
  refine hc.mods m (fun k hk hS=>?_)
  rcases hS with hS | hS | hS
  ·exact hc.apart h.bd.maps (by decide) hk hS
  ·exact hc.apart h.bd.rows (by decide) hk hS
  ·exact hc.notBlk h.res (by decide) (hk.trans (congrArg some hS))
 ·have:=hp.map (·.f)
  rw [h2] at this;exact this
end Go.Proofs.YtnhcaifopaeohaaGreatDoor
