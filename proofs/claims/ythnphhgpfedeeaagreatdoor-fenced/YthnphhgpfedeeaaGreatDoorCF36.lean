import Derived.Test.YthnphhgpfedeeaaGreatDoorCF31
namespace Go.Proofs.YthnphhgpfedeeaaGreatDoor
open Go.RowKit
open List renaming mem_or_eq_of_mem_set->ab,getElem_append_left->al,getElem_set->an,zipWith_cons_cons->ao,zipWith->ar,getElem_mem->aE,length_set->ba,map_cons->bj,getElem_of_mem->bq,flatMap_append->bt,length_zipWith->bO,ext_getElem->b5
open Nat renaming zero_le->bh,le_refl->bQ
open Option renaming map_some->b9
set_option linter.all false
structure BS where
 ms:List az:=[]
 fs:List aS:=[]
 slot:Nat:=0
def ack(x:dN):az:=⟨x.name,(szP (x.ns.getD 0 aT)).toNat,(szP (x.ns.getD 1 aT)).toNat,(szP (x.ns.getD 2 aT)).toNat⟩
def dH.pi(x:dH)(j:Int):PI:=⟨x.k,x.r.d,x.r.s,j,x.r.num,x.r.high,x.r.name⟩
def BB(o:OL)(last slot:Nat)(x:dH):Int:=if x.o.jumps then(((fA (o.fs.getD last {}).bB x.r.label).getD 0:Nat):Int)-slot-x.o.slots else x.r.jump
def XX(o:OL)(last slot:Nat)(x:dH):PI:=x.pi (BB o last slot x)
def BS.last(b:BS):aS:=b.fs.getD (b.fs.length-1) ⟨[],[]⟩
def gH(o:OL)(b:BS)(x:dN):BS :=
 if x.kind=1 then{b with ms:=b.ms++[ack x]}
 else if x.kind=2 then{b with fs:=b.fs++[⟨x.name,[]⟩],slot:=0}
 else if x.kind=4 then{b with fs:=b.fs.set (b.fs.length-1) ⟨b.last.name,b.last.code++[XX o (b.fs.length-1) b.slot x.x]⟩,slot:=b.slot+x.x.o.slots}
 else b
def aK(o:OL)(ls:List dN):BS:=ls.foldl (gH o) {}
theorem vQ(o:OL)(ls:List dN)(k:Nat)(h:k<ls.length):aK o (ls.take (k+1))=gH o (aK o (ls.take k)) ls[k]:=by unfold aK;rw[List.take_succ_eq_append_getElem h,List.foldl_append];rfl
theorem uj(o:OL)(ls:List dN):∀k,k<=ls.length->(aK o (ls.take k)).fs.length=(ah (ls.take k)).fs.length/\(aK o (ls.take k)).slot<=2*k/\(aK o (ls.take k)).ms.length<=k/\(aK o (ls.take k)).fs.length<=k/\(∀f∈(aK o (ls.take k)).fs,f.code.length<=k)
 |0,_=>by rw[List.take_zero];exact⟨rfl,bQ _,bQ _,bQ _,λf hf=>(by cases hf)⟩
 |k+1,h=>by
  obtain⟨h1,h2,h3,h4,h5⟩:=uj o ls k (by omega);rw[fO ls k (by omega),vQ o ls k (by omega)];generalize ah (ls.take k)=ol at *;generalize aK o (ls.take k)=b at *;generalize ls[k]=x;have h6:∀f∈b.fs,f.code.length<=k+1:=λf hf=>by have:=h5 f hf;omega
  unfold bH gH;by_cases k1:x.kind=1
  ·rw[iP9 k1,iP9 k1];exact⟨h1,by simp only;omega,by simp;omega,by simp only;omega,h6⟩
  rw[iN9 k1,iN9 k1];by_cases k2:x.kind=2
  ·rw[iP9 k2,iP9 k2];refine⟨by simp[h1],bh _,by simp only;omega,by simp;omega,λf hf=>?_⟩;rcases List.mem_append.1 hf with hf|hf
   ·exact h6 f hf
   ·rw[List.mem_singleton.1 hf];exact bh _
  rw[iN9 k2,iN9 k2];by_cases k3:x.kind=3
  ·rw[iP9 k3,iN9 (by omega)];exact⟨by rw[jM];exact h1,by omega,by omega,by omega,h6⟩
  rw[iN9 k3];by_cases k4:x.kind=4
  ·rw[iP9 k4,iP9 k4];have:=x.x.vz;refine⟨by rw[jM];simpa using h1,by simp only;omega,by simp only;omega,by simp;omega,λf hf=>?_⟩;rcases ab hf with hf|rfl
   ·exact h6 f hf
   ·simp only[List.length_append,List.length_singleton]
    have:b.last.code.length<=k:=by
     unfold BS.last;cases hq:b.fs[b.fs.length-1]? with
     |none =>rw[List.getD_eq_getElem?_getD,hq];exact bh _
     |some f =>rw[List.getD_eq_getElem?_getD,hq];exact h5 f (List.mem_of_getElem? hq)
    omega
  ·rw[iN9 k4,iN9 k4];exact⟨h1,by omega,by omega,by omega,h6⟩
structure tH(w0:tW)(P:Nat)(bs:List Nat)(vM vF:Value)(ms:List az)(fs:List aS)(vs:List Value)(w:tW):Prop where
 blk:ak w P #[vM,vF] 90
 maps:Sl w 100 4 vM ms.length (ms.flatMap az.cells)
 len:vs.length=fs.length
 rows:Sl w 96 2 vF fs.length (((fs.map (·.name)).zip vs).flatMap mF)
 code:∀i (_:i<fs.length) (_:i<vs.length),gX w vs[i] bs fs[i].code
 lo:w0.heap.size<=P
 qH:∀k,vM.ownBlock=some k->w0.heap.size<=k
 oH:∀k,vF.ownBlock=some k->w0.heap.size<=k
 l8:∀u∈vs,∀k,u.ownBlock=some k->w0.heap.size<=k
 ne:∀i j (_:i<vs.length) (_:j<vs.length),i≠j->∀k,vs[i].ownBlock=some k->vs[j].ownBlock≠some k
 md:aa ae w0 w
section
variable {w0 w w' : World} {P : Nat} {bs : List Nat} {vM vF v' : Value} {ms : List az} {fs : List aS} {vs : List Value}
theorem gX.au{v:Value}{code:List PI}{k:Nat}{cs:tAV}{e':TypeId}(h:gX w v bs code)(hb:ak w k cs e')(he:138≠e'):v.ownBlock≠some k:=by obtain⟨_,_,h2⟩:=h;exact h2.au hb he
theorem gX.apart{v:Value}{code:List PI}{k n' size':Nat}{e':TypeId}{xs':List Value}(h:gX w v bs code)(h':Sl w e' size' v' n' xs')(he:138≠e')(hk:v.ownBlock=some k):v'.ownBlock≠some k:=by obtain⟨_,_,h2⟩:=h;exact h2.apart h' he hk
theorem gX.lt{v:Value}{code:List PI}(h:gX w v bs code)(k:Nat)(hk:v.ownBlock=some k):k<w.heap.size:=by obtain⟨_,_,h2⟩:=h;exact h2.lt k hk
theorem tH.quiet(h:tH w0 P bs vM vF ms fs vs w)(m:aa ae w w'):tH w0 P bs vM vF ms fs vs w' :=
 ⟨h.blk.ag m id,h.maps.ag m (λ_ _=>id),h.len,h.rows.ag m (λ_ _=>id),λi a b=>(h.code i a b).ag m (λ_ _=>id),h.lo,h.qH,h.oH,h.l8,h.ne,h.md.trans m⟩
theorem tH.ZP{u:Value}(h:tH w0 P bs vM vF ms fs vs w)(hu:u∈vs):∃code,gX w u bs code:=by obtain⟨i,hi,rfl⟩:=bq hu;exact⟨_,h.code i (by rw[<-h.len];exact hi) hi⟩
theorem tH.func(h:tH w0 P bs vM vF ms fs vs w)(nm:tLB)(s:Sl w' 96 2 v' (fs.length+1) (((fs.map (·.name)).zip vs).flatMap mF++mF (nm,.slice none 0 0)))(m:aa (λk=>vF.ownBlock=some k) w w')(l:∀k,v'.ownBlock=some k->vF.ownBlock=some k\/w.heap.size<=k):tH w0 P bs vM v' ms (fs++[⟨nm,[]⟩]) (vs++[.slice none 0 0]) (w'.setCell ⟨P,1,none⟩ v'):=by
 have hB:ak w' P #[vM,vF] 90:=h.blk.ag m (λe=>h.rows.au h.blk (by decide) e);have mP:aa (Only P) w' (w'.setCell ⟨P,1,none⟩ v'):=ax.aY _ _;have hP:∀{e:TypeId} {size n:Nat} {v:Value} {xs:List Value},Sl w' e size v n xs->e≠90->∀k,v.ownBlock=some k->¬Only P k:=λs he k hk e=>s.au hB he (hk.trans (congrArg some e));have hmap:Sl w' 100 4 vM ms.length (ms.flatMap az.cells):=h.maps.ag m (λk hk e=>h.maps.apart h.rows (by decide) hk e);have hcode:∀i (_:i<fs.length) (_:i<vs.length),gX w' vs[i] bs fs[i].code:=λi a b=>(h.code i a b).ag m (λk hk e=>(h.code i a b).apart h.rows (by decide) hk e);refine⟨hB.set 1 v',hmap.ag mP (hP hmap (by decide)),by simp[h.len],?_,λi a b=>?_,h.lo,h.qH,λk hk=>?_,λu hu k hk=>?_,λi j hi hj hij k hk=>?_,?_⟩
 ·have:=s.ag mP (hP s (by decide));have e:((fs++[(⟨nm,[]⟩:aS)]).map (·.name)).zip (vs++[Value.slice none 0 0])=((fs.map (·.name)).zip vs)++[(nm,Value.slice none 0 0)]:=by rw[List.map_append,List.zip_append (by simp[h.len])];rfl
  rw[e,bt]
  simpa using this
 ·by_cases hi:i<fs.length
  ·have hi':i<vs.length:=by rw[h.len];exact hi
   simp only[al hi,al hi'];exact(hcode i hi hi').ag mP (λk hk e=>(hcode i hi hi').au hB (by decide) (hk.trans (congrArg some e)))
  ·have e1:i=fs.length:=by simp at a;omega
   have e2:i=vs.length:=by rw[h.len];exact e1
   have e3:(fs++[(⟨nm,[]⟩:aS)])[i]=⟨nm,[]⟩:=by subst e1;simp
   have e4:(vs++[Value.slice none 0 0])[i]=.slice none 0 0:=by subst e2;simp
   rw[e3,e4];exact⟨[],rfl,Sl.nil _ _ _⟩
 ·rcases l k hk with e|e
  ·exact h.oH k e
  ·have:=h.md.size;omega
 ·rcases List.mem_append.1 hu with hu|hu
  ·exact h.l8 u hu k hk
  ·rw[List.mem_singleton.1 hu]at hk;cases hk
 ·by_cases hi':i<vs.length
  ·rw[al hi']at hk;by_cases hj':j<vs.length
   ·rw[al hj'];exact h.ne i j hi' hj' hij k hk
   ·have e2:j=vs.length:=by simp at hj;omega
    have e4:(vs++[Value.slice none 0 0])[j]=.slice none 0 0:=by subst e2;simp
    rw[e4];intro e;cases e
  ·have e2:i=vs.length:=by simp at hi;omega
   have e4:(vs++[Value.slice none 0 0])[i]=.slice none 0 0:=by subst e2;simp
   rw[e4]at hk;cases hk
 ·refine(h.md.step m (λi hi e=>by have:=h.oH i e;omega)).step mP (λi hi e=>?_);have e':i=P:=e;have:=h.lo;omega
theorem tH.instr{g c k:Nat}{u:Value}{x:PI}{lab:tBA}(hk:k<fs.length)(zn:k<vs.length){nf:Nat}(hnf:nf=fs.length)(h:tH w0 P bs vM (.slice (some ⟨g,0,none⟩) nf c) ms fs vs w)(hu:vs[k]=u){bB:List tBA} (hl1:bB.length=fs[k].code.length) (s:Sl w' 138 8 v' (fs[k].code.length+1) (nG bs (fs[k].code.zip bB)++(x.TG bs lab).dU)) (m:aa (λk=>u.ownBlock=some k) w w') (l:∀k,v'.ownBlock=some k->u.ownBlock=some k\/w.heap.size<=k):tH w0 P bs vM (.slice (some ⟨g,0,none⟩) nf c) ms (fs.set k ⟨fs[k].name,fs[k].code++[x]⟩) (vs.set k v') (w'.setCell ⟨g,k*2+1,none⟩ v'):=by
 subst hnf hu;have hown:(Value.slice (some ⟨g,0,none⟩) fs.length c).ownBlock=some g:=rfl;have hck:=h.code k hk zn;have hB:ak w' P #[vM,.slice (some ⟨g,0,none⟩) fs.length c] 90:=h.blk.ag m (λe=>hck.au h.blk (by decide) e);have hmap:Sl w' 100 4 vM ms.length (ms.flatMap az.cells):=h.maps.ag m (λk' hk' e=>hck.apart h.maps (by decide) e hk');have hrow:Sl w' 96 2 (.slice (some ⟨g,0,none⟩) fs.length c) fs.length (((fs.map (·.name)).zip vs).flatMap mF):=h.rows.ag m (λk' hk' e=>hck.apart h.rows (by decide) e hk');have hcode:∀i (_:i<fs.length) (_:i<vs.length),i≠k->gX w' vs[i] bs fs[i].code:=λi a b hik=>(h.code i a b).ag m (λk' hk' e=>h.ne i k b zn hik k' hk' e)
 have hnew:gX w' v' bs (fs[k].code++[x]):=by
  refine⟨bB++[lab],by simp[hl1],?_⟩;have e:(fs[k].code++[x]).zip (bB++[lab])=fs[k].code.zip bB++[(x,lab)]:=by rw[List.zip_append hl1.symm];rfl
  rw[e];have:=s;unfold nG at *;rw[bt]
  simpa using this
 have mg:aa (Only g) w' (w'.setCell ⟨g,k*2+1,none⟩ v'):=ax.aY _ _;have hgI:∀{v:Value} {code:List PI},gX w' v bs code->∀k',v.ownBlock=some k'->¬Only g k':=λhc k' hk' e=>hc.apart hrow (by decide) hk' (by rw[hown];exact congrArg some (show g=k' from e.symm));have hkz:k<((fs.map (·.name)).zip vs).length:=by simp;omega
 have hnm:(fs.set k ⟨fs[k].name,fs[k].code++[x]⟩).map (·.name)=fs.map (·.name):=by
  rw[List.map_set]
  exact b5 (by simp) (λi h1 h2=>by
   rw[an];split
   ·rename_i e;subst e;simp
   ·rfl)
 refine⟨hB.ag mg (λe=>hrow.au hB (by decide) (by rw[hown];exact congrArg some (show g=P from e.symm))),hmap.ag mg (λk' hk' e=>hmap.apart hrow (by decide) hk' (by rw[hown];exact congrArg some (show g=k' from e.symm))),by simp[h.len],?_,λi a b=>?_,h.lo,h.qH,h.oH,λu hu k' hk'=>?_,λi j hi hj hij k' hk'=>?_,?_⟩
 ·have:=hrow.setAt (k*2+1) v' (by omega);rw[lJ mF 2 (λ_=>rfl) _ k 1 hkz (by omega) v' (fs[k].name,v') (by rw[EW _ _ k (by simpa using hk) zn];simp[mF])]at this;rw[hnm,ba]
  have e:((fs.map (·.name)).zip vs).set k (fs[k].name,v')=(fs.map (·.name)).zip (vs.set k v'):=by
   refine b5 (by simp) (λi h1 h2=>?_);rw[an];split
   ·rename_i e;subst e;simp
   ·rename_i e
    simp[e]
  rw[e]at this;exact this
 ·rw[ba]at a b;by_cases e:k=i
  ·subst e;simp only[an,if_true];exact hnew.ag mg (hgI hnew)
  ·simp only[e,if_false,an];exact(hcode i a b (Ne.symm e)).ag mg (hgI (hcode i a b (Ne.symm e)))
 ·rcases ab hu with h'|h'
  ·exact h.l8 u h' k' hk'
  ·subst h';rcases l k' hk' with e|e
   ·exact h.l8 _ (aE zn) k' e
   ·have:=h.md.size;omega
 ·rw[ba]at hi hj;rw[an]at hk' ⊢
  have hnn:∀i' (_:i'<vs.length),k≠i'->∀k',vs[i'].ownBlock=some k'->v'.ownBlock≠some k':=λi' hi' hik k' hk' e=>by
   rcases l k' e with e2|e2
   ·exact h.ne i' k hi' zn (Ne.symm hik) k' hk' e2
   ·have:=(h.code i' (by rw[<-h.len];exact hi') hi').lt k' hk';omega
  by_cases e:k=i
  ·subst e;rw[iP9 rfl]at hk';rw[iN9 hij];intro e2;exact hnn j hj hij k' e2 hk'
  ·rw[iN9 e]at hk';by_cases e2:k=j
   ·subst e2;rw[iP9 rfl];exact hnn i hi e k' hk'
   ·rw[iN9 e2];exact h.ne i j hi hj hij k' hk'
 ·refine(h.md.step m (λi hi e=>by have:=h.l8 _ (aE zn) i e;omega)).step mg (λi hi e=>?_);have e':i=g:=e;have:=h.oH g hown;omega
theorem tH.new(w0:tW)(bs:List Nat)(w:tW)(m:aa ae w0 w):tH w0 w.heap.size bs (.slice none 0 0) (.slice none 0 0) [] [] [] (w.alloc (.cells #[.slice none 0 0,.slice none 0 0] 90)) :=
 ⟨ak.new w _ _,Sl.nil _ _ _,rfl,Sl.nil _ _ _,λi h=>absurd h (Nat.not_lt_zero _),m.size,λk h=>(by cases h),λk h=>(by cases h),λu h=>(by cases h),λi j h=>absurd h (Nat.not_lt_zero _),m.alloc _⟩
end
theorem xK{P:Program}{o:Oper}{a:Act}{w:tW}{K:Act->tW->Prop}{Q:Exit->Act->tW->Prop}(t e:TypeId)(n:Nat)(x:Operand)(ho:o.op=.buildSlice t 1 #[(0,x)])(cs:tAV)(hx:a.eval x=.agg cs)(hn:cs.size=n)(i:TypeInfo)(z:Value)(hu:P.underlying t=some (.slice e)) (hi:P.info? e=some i) (hz:i.zero=some z) (hs:i.size=n) (h0:0<n) (h1:n<=1000)(h:K (a.put o.dst (.slice (some ⟨w.heap.size,0,none⟩) 1 1)) (w.alloc (.cells cs e))):o.wp P a w K Q:=by refine wp_buildSlice t e 1 _ ho cs i z hu hi hz (by rw[hs];omega) (by rw[hs];omega) ?_ h;rw[hs];simp only[List.map_toArray,bj,List.map_nil,hx];exact Dm n _ _ hn (by simp)
structure Ju(w0:tW)(R A P bm:Nat)(vO:Value)(bs:List Nat)(vM vF:Value)(b:BS)(vs:List Value)(w:tW):Prop where
 bd:tH w0 P bs vM vF b.ms b.fs vs w
 res:ak w R #[.slice none 0 0,.slice none 0 0] 90
 all:ak w A #[.map (some bm),vO] 108
 ne:R≠P
section
variable {w0 w w' : World} {R A P bm : Nat} {vO vM vF v' : Value} {bs : List Nat} {b : BS} {vs : List Value}
theorem Ju.quiet(h:Ju w0 R A P bm vO bs vM vF b vs w)(m:aa ae w w'):Ju w0 R A P bm vO bs vM vF b vs w':=⟨h.bd.quiet m,h.res.ag m id,h.all.ag m id,h.ne⟩
theorem Ju.func{x:dN}(o:OL)(hx:x.kind=2)(h:Ju w0 R A P bm vO bs vM vF b vs w)(s:Sl w' 96 2 v' (b.fs.length+1) (((b.fs.map (·.name)).zip vs).flatMap mF++mF (x.name,.slice none 0 0)))(m:aa (λk=>vF.ownBlock=some k) w w')(l:∀k,v'.ownBlock=some k->vF.ownBlock=some k\/w.heap.size<=k):Ju w0 R A P bm vO bs vM v' (gH o b x) (vs++[.slice none 0 0]) (w'.setCell ⟨P,1,none⟩ v'):=by
 have mP:aa (Only P) w' (w'.setCell ⟨P,1,none⟩ v'):=ax.aY _ _;have hB:ak w' P #[vM,vF] 90:=h.bd.blk.ag m (λe=>h.bd.rows.au h.bd.blk (by decide) e);have hr:ak w' R #[.slice none 0 0,.slice none 0 0] 90:=h.res.ag m (λe=>h.bd.rows.au h.res (by decide) e);have ha:ak w' A #[.map (some bm),vO] 108:=h.all.ag m (λe=>h.bd.rows.au h.all (by decide) e);have e:gH o b x={b with fs:=b.fs++[⟨x.name,[]⟩],slot:=0}:=by unfold gH;rw[iN9 (by omega),iP9 hx]
 rw[e];exact⟨h.bd.func x.name s m l,hr.ag mP (λe=>h.ne e),ha.ag mP (λe=>ha.apart hB (by decide) e),h.ne⟩
theorem Ju.instr{x:dN}(o:OL)(hx:x.kind=4){g c n:Nat}{u:Value}{lab:tBA}(hn:n=b.fs.length-1)(hk:n<b.fs.length)(zn:n<vs.length){nf:Nat}(hnf:nf=b.fs.length)(h:Ju w0 R A P bm vO bs vM (.slice (some ⟨g,0,none⟩) nf c) b vs w)(hu:vs[n]=u){bB:List tBA} (hl1:bB.length=b.fs[n].code.length) (s:Sl w' 138 8 v' (b.fs[n].code.length+1) (nG bs (b.fs[n].code.zip bB)++((XX o n b.slot x.x).TG bs lab).dU)) (m:aa (λk=>u.ownBlock=some k) w w') (l:∀k,v'.ownBlock=some k->u.ownBlock=some k\/w.heap.size<=k):Ju w0 R A P bm vO bs vM (.slice (some ⟨g,0,none⟩) nf c) (gH o b x) (vs.set n v') (w'.setCell ⟨g,n*2+1,none⟩ v'):=by
 have hI:=h.bd.instr hk zn hnf hu hl1 s m l;have hcode:=h.bd.code n hk zn;rw[hu]at hcode;have mg:aa (Only g) w' (w'.setCell ⟨g,n*2+1,none⟩ v'):=ax.aY _ _;have hr:ak w' R #[.slice none 0 0,.slice none 0 0] 90:=h.res.ag m (λe=>hcode.au h.res (by decide) e);have ha:ak w' A #[.map (some bm),vO] 108:=h.all.ag m (λe=>hcode.au h.all (by decide) e);have hrow:Sl w' 96 2 (.slice (some ⟨g,0,none⟩) nf c) b.fs.length (((b.fs.map (·.name)).zip vs).flatMap mF):=h.bd.rows.ag m (λk' hk' e=>hcode.apart h.bd.rows (by decide) e hk')
 have e:gH o b x={b with fs:=b.fs.set n ⟨b.fs[n].name,b.fs[n].code++[XX o n b.slot x.x]⟩,slot:=b.slot+x.x.o.slots}:=by
  unfold gH;rw[iN9 (by omega),iN9 (by omega),iP9 hx];have hl:b.last=b.fs[n]:=by unfold BS.last;rw[<-hn,List.getD_eq_getElem?_getD,List.getElem?_eq_getElem hk];rfl
  rw[hl,<-hn]
 rw[e];exact⟨hI,hr.ag mg (λe=>hrow.au hr (by decide) (congrArg some (show g=R from e.symm))),ha.ag mg (λe=>hrow.au ha (by decide) (congrArg some (show g=A from e.symm))),h.ne⟩
end
def Fq(f:aS):Value->bZ
 |.slice o n c=>⟨f,o,n,c⟩
 |_=>⟨f,none,0,0⟩
theorem vR:∀(fs:List aS) (vs:List Value),vs.length=fs.length->(∀u∈vs,∃o n c,u=.slice o n c)->(ar Fq fs vs).flatMap bZ.cells=((fs.map (·.name)).zip vs).flatMap mF/\(ar Fq fs vs).map (·.f)=fs/\(ar Fq fs vs).map bZ.v=vs
 |[],[],_,_=>⟨rfl,rfl,rfl⟩
 |f::fs,v::vs,h,hs=>by
  obtain⟨h1,h2,h3⟩:=vR fs vs (by simpa using h) (λu hu=>hs u (by simp[hu]));obtain⟨o,n,c,rfl⟩:=hs v (by simp);refine⟨?_,?_,?_⟩
  ·rw[ao,List.flatMap_cons,h1];rfl
  ·rw[ao,bj,h2];rfl
  ·rw[ao,bj,h3];rfl
 |[],_::_,h,_=>by simp at h
 |_::_,[],h,_=>by simp at h
theorem tH.slices{w0 w:tW}{P:Nat}{bs:List Nat}{vM vF:Value}{ms:List az}{fs:List aS}{vs:List Value}(h:tH w0 P bs vM vF ms fs vs w):∀u∈vs,∃o n c,u=.slice o n c:=λu hu=>by
 obtain⟨code,hc⟩:=h.ZP hu;obtain⟨o,c,hv,_⟩:=hc.view;exact⟨o,_,c,hv⟩
theorem Ju.sorted{w0 w w':tW}{R A P bm:Nat}{vO vM vF:Value}{bs:List Nat}{b:BS}{vs:List Value}(h:Ju w0 R A P bm vO bs vM vF b vs w){tv:Value}{ms':List az}{rs':List bZ}(hp:rs'.Perm (ar Fq b.fs vs))(sM:Sl w' 100 4 vM ms'.length (ms'.flatMap az.cells))(sF:Sl w' 96 2 vF rs'.length (rs'.flatMap bZ.cells))(m:aa (λk=>vM.ownBlock=some k\/vF.ownBlock=some k\/k=R) w w')(hO:aH 0 w' tv bs aq):tC w' tv bs vM vF ms' (rs'.map (·.f)) (rs'.map bZ.v)/\(rs'.map (·.f)).Perm b.fs:=by
 obtain⟨h1,h2,h3⟩:=vR b.fs vs h.bd.len h.bd.slices;refine⟨⟨sM,by simp,?_,λi hi hi'=>?_,hO⟩,?_⟩
 ·have e:(((rs'.map (·.f)).map (·.name)).zip (rs'.map bZ.v)).flatMap mF=rs'.flatMap bZ.cells:=by rw[List.map_map,List.zip_map',List.flatMap_map];rfl
  rw[e,List.length_map];exact sF
 ·have hi2:i<rs'.length:=by simpa using hi
  have hm:rs'[i]∈ar Fq b.fs vs:=hp.mem_iff.1 (aE hi2);obtain⟨j,hj,e⟩:=bq hm;have hjf:j<b.fs.length:=by rw[bO]at hj;omega
  have hjv:j<vs.length:=by rw[bO]at hj;omega
  have e1:rs'[i].f=b.fs[j]:=by have:=congrArg (λl:List aS=>l[j]?) h2;simp only[List.getElem?_map,List.getElem?_eq_getElem hj,List.getElem?_eq_getElem hjf,b9,Option.some.injEq]at this;rw[<-e];exact this
  have e2:rs'[i].v=vs[j]:=by have:=congrArg (λl:List Value=>l[j]?) h3;simp only[List.getElem?_map,List.getElem?_eq_getElem hj,List.getElem?_eq_getElem hjv,b9,Option.some.injEq]at this;rw[<-e];exact this
  simp only[List.getElem_map];rw[e1,e2];have hc:=h.bd.code j hjf hjv;refine hc.ag m (λk hk hS=>?_);rcases hS with hS|hS|hS
  ·exact hc.apart h.bd.maps (by decide) hk hS
  ·exact hc.apart h.bd.rows (by decide) hk hS
  ·exact hc.au h.res (by decide) (hk.trans (congrArg some hS))
 ·have:=hp.map (·.f);rw[h2]at this;exact this
theorem qI(ls:List dN):∀k,k<=ls.length->∀f∈(ah (ls.take k)).fs,∀p∈f.bB,p.2<=2*k
 |0,_=>by rw[List.take_zero];exact λf hf=>(by cases hf)
 |k+1,h=>by
  have ih:=qI ls k (by omega);have hs:=(iJ ls k (by omega)).1;rw[fO ls k (by omega)];generalize ah (ls.take k)=o at *;generalize ls[k]=x;have h3:∀f∈o.fs,∀p∈f.bB,p.2<=2*(k+1):=λf hf p hp=>by have:=ih f hf p hp;omega
  have hlast:∀p∈o.last.bB,p.2<=2*(k+1):=by
   by_cases e:o.fs=[]
   ·unfold OL.last;rw[e];exact λp hp=>(by cases hp)
   ·exact h3 _ (GH e)
  have hsl:=qD hs;unfold bH;split
  ·exact h3
  split
  ·intro f hf;rcases List.mem_append.1 hf with h5|h5
   ·exact h3 f h5
   ·have:f={}:=by simpa using h5
    subst this;exact λp hp=>(by cases hp)
  split
  ·intro f hf;rcases ab hf with h5|rfl
   ·exact h3 f h5
   ·unfold ra.label;split
    ·exact hlast
    ·intro p hp;rcases List.mem_append.1 hp with h6|h6
     ·exact hlast p h6
     ·rw[List.mem_singleton.1 h6];show o.last.slots<=_;omega
  split
  ·intro f hf;rcases ab hf with h5|rfl
   ·exact h3 f h5
   ·exact hlast
  ·exact h3
theorem Ib{l:List (tLB×Nat)}{n:Nat}(h:∀p∈l,p.2<=n)(y:tLB):(fA l y).getD 0<=n:=by
 unfold fA;cases hf:l.find? (λp=>p.1==y)with
 |none=>exact bh _
 |some p=>exact h p (List.mem_of_find?_eq_some hf)
def zT(w:tW)(tv:Value)(bs:List Nat)(b:BS)(e:Ending)(w':tW):Prop :=
 ∃vM vF ms fs vs,e=.returned (.agg #[vM,vF])/\tC w' tv bs vM vF ms fs vs/\ms.Perm b.ms/\ms.Pairwise (λx y=>ji (T y.name) (T x.name)=false)/\fs.Perm b.fs/\fs.Pairwise (λx y=>ji (T y.name) (T x.name)=false)/\aa ae w w'
