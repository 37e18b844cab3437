import Derived.Test.YthnphhgpfedeeaaGreatDoorCK19
namespace Go.Proofs.YthnphhgpfedeeaaGreatDoor
open Go.RowKit Tryz
open _root_.Array renaming replicate->de
open Bool renaming and_eq_true->bh,false->fj,true->fR
open List renaming getElem_set->ar,getElem_mem->ba,ext_getElem->cq,getElem_zip->cw,nil_append->cx,append_nil->cy,take_zero->cD,size_toArray->cH,length->cI,getElem_map->cN,flatMap_def->cP,length_cons->cW,length->eJ
open Nat renaming le_succ_of_le->ao,not_lt_zero->bj,zero_add->bt,zero_le->b9,lt_trichotomy->cG,le_refl->cJ
open Option renaming getD_some->ab,isSome_some->al,map_some->b5,some->eK,none->eL
open Region renaming wanted->cj,noSelect->cY
open Decidable renaming decide->gh
open Obj renaming map->lz,cells->fL
open Value renaming map->kq,string->eR,bool->fX,slice->eS,agg->fY
open _root_.Go renaming Value->fa,heap_alloc_new->tR,Program->lj,TypeId->ju,run_underlying->pB,Oper->iz,Exit->nB,wpList->n9,execOp->oX,info_parts->oY,yielded->pw,getD_set_ne->tA
set_option linter.all false
set_option maxRecDepth 100000
set_option maxHeartbeats 4000000
def ze(w:tW)(b:Nat)(f:tBA->Option fa)(n:Nat):Prop:=∃(es:Array MapEntry) (clock:Nat) (kv:List (tBA×fa)),w.heap[b]?=eK (lz es clock)/\es.toList.map K9=kv.map kvC/\(∀s,(kv.find? (λp=>s==p.1)).map (·.2)=f s)/\kv.length=n
theorem ze.of{w:tW}{b n:Nat}{f:tBA->Option fa}(h:ze w b f n):MapOf w b f:=by obtain⟨es,c,kv,h1,h2,h3,_⟩:=h;exact⟨es,c,kv,h1,h2,h3⟩
theorem ze.new(w:tW):ze (w.alloc (lz #[] 0)) w.heap.size (λ_=>eL) 0:=⟨#[],0,[],tR w _,rfl,λ_=>rfl,rfl⟩
theorem ze.ai{w w':tW}{b n:Nat}{f:tBA->Option fa}{S:Nat->Prop}(h:ze w b f n)(m:aa S w w')(hS:¬S b):ze w' b f n:=by have hl:=h.of.lt;obtain⟨es,clock,kv,hb,h2⟩:=h;exact⟨es,clock,kv,(m.block b hl hS).trans hb,h2⟩
theorem ze.len{P:lj}{w:tW}{b n:Nat}{f:tBA->Option fa}(h:ze w b f n){t kt et rt:ju}(hm:P.underlying t=eK (.map kt et)):(Builtin.len_ #[t] rt #[kq (eK b)]).run P w=.ok (vI n) w:=by
 obtain⟨es,clock,kv,hb,he,hf,hn⟩:=h;have hs:es.size=n:=by have:=congrArg cI he;simp at this;omega
 unfold Builtin.len_;simp[pB hm,MapKept.run_getObj_map hb,hs,goInt]
theorem MapOf.NW{P:lj}{w:tW}{b:Nat}{f:tBA->Option fa}(h:MapOf w b f){t kt et:ju}(hm:P.underlying t=eK (.map kt et))(hk:P.underlying kt=eK .string){z:fa}(hz:(zeroValue et).run P w=.ok z w)(s:tBA):(Instr.lookup t (kq (eK b)) (eR s) fj).run P w=.ok ((f s).getD z) w:=by
 obtain⟨es,clock,kv,hb,he,hf⟩:=h;have hc:(Instr.checkKey es.isEmpty 10000 kt (eR s)).run P w=.ok () w:=MapKept.run_checkKey (k:=eR s) hk (by simp[MapKept.IsKey]) _ 9999;have hfn:=MapKept.run_findKey (P:=P) (w:=w) hk (kY s es.toList kv 0 he);have hv:=qE s kv 0;rw[hf s]at hv;unfold Instr.lookup;simp only[Sem.run_bind,pB hm,MapKept.run_getObj_map hb,hc,hfn,Result.andThen,Sem.run_pure];cases hq:kvFind s kv 0 with
 |none =>rw[hq]at hv;rw[<-hv];simp[hz,Result.andThen]
 |some q =>rw[hq]at hv;rw[<-hv];simp
theorem ze.update{P:lj}{w:tW}{b n:Nat}{f:tBA->Option fa}(h:ze w b f n){t kt et:ju}(hm:P.underlying t=eK (.map kt et))(hk:P.underlying kt=eK .string)(s:tBA)(u:fa):∃w',(Instr.mapUpdate t (kq (eK b)) (eR s) u).run P w=.ok () w'/\ze w' b (λs'=>if s'=s then eK u else f s') (if(f s).isSome then n else n+1)/\aa (λk=>k=b) w w':=by
 obtain⟨es,clock,kv,hb,he,hf,hn⟩:=h;have hlt:=(Array.getElem?_eq_some_iff.1 hb).1;have hc:(Instr.checkKey fj 10000 kt (eR s)).run P w=.ok () w:=MapKept.run_checkKey (k:=eR s) hk (by simp[MapKept.IsKey]) _ 9999;have hfn:=MapKept.run_findKey (P:=P) (w:=w) hk (kY s es.toList kv 0 he);have IK:∀o:Obj,aa (λk=>k=b) w {w with heap:=w.heap.setIfInBounds b o}:=λo=>⟨rfl,rfl,rfl,by simp,λk _ hn=>(MapKept.heap_set hb).2 k hn⟩
 have hv:=qE s kv 0;rw[hf s]at hv;cases hq:kvFind s kv 0 with
 |none =>
  rw[hq]at hfn hv;have hno:(f s).isSome=fj:=by rw[<-hv];rfl
  refine⟨{w with heap:=w.heap.setIfInBounds b (lz (es.push {key:=eR s,val:=u,born:=clock}) (clock+1))},?_,⟨_,_,kv++[(s,u)],(MapKept.heap_set hb).1,?_,λs'=>?_,by rw[hno,iN9 (by simp)];simp[hn]⟩,IK _⟩
  ·unfold Instr.mapUpdate;simp[pB hm,MapKept.run_getObj_map hb,hc,hfn,MapKept.run_setObj_map _ hb,Result.andThen]
  ·simp[he,K9,kvC]
  ·have hn:=ue s kv 0 hq;rw[List.find?_append];by_cases d:s'=s
   ·subst d;rw[hn];simp[yQ]
   ·have d':=TR d;show _=if s'=s then eK u else f s'
    rw[iN9 d,<-hf s'];cases kv.find? (λp=>s'==p.1)with
    |none=>simp[d']
    |some q=>simp
 |some q =>
  obtain⟨j,v⟩:=q;rw[hq]at hfn hv;have afk:(f s).isSome=fR:=by rw[<-hv];rfl
  obtain⟨n',e,hn',⟨v',hv'⟩,hs⟩:=zV s kv 0 j v hq;rw[bt]at e;subst e;have hjl:j<es.size:=by have:=congrArg cI he;simp at this;omega
  have hej:K9 es[j]=kvC (s,v'):=by
   have:=congrArg (λl:List (fa×fa)=>l[j]?) he;simp only[List.getElem?_map,hv',b5]at this;rw[Array.getElem?_toList,Array.getElem?_eq_getElem hjl]at this
   simpa using this
  have hkey:es[j].key=eR s:=congrArg Prod.fst hej;have hst:(Instr.keyThatStays (((es[j]?).map (·.key)).getD (eR s)) (eR s)).run P w=.ok (eR s) w:=by rw[Array.getElem?_eq_getElem hjl,b5,ab,hkey];exact MapKept.run_keyThatStays (d:=.string) (by simp[MapKept.IsKey])
  refine⟨{w with heap:=w.heap.setIfInBounds b (lz (es.modify j λe=>{e with key:=eR s,val:=u}) clock)},?_,⟨_,_,kv.set j (s,u),(MapKept.heap_set hb).1,?_,λs'=>?_,by rw[afk,iP9 rfl];simp[hn]⟩,IK _⟩
  ·unfold Instr.mapUpdate;simp[pB hm,MapKept.run_getObj_map hb,hc,hfn,hst,MapKept.run_setObj_map _ hb,Result.andThen]
  ·rw[List.map_set,<-he];refine cq (by simp) λt h1 h2=>?_;simp only[cN,Array.getElem_toList,Array.getElem_modify,ar];split
   ·rfl
   ·rfl
  ·rw[hs u s',hf s']
def cntF(l:List tLB)(s:tBA):Option fa:=if l.count (BL s)=0 then eL else eK (vI (l.count (BL s):Nat))
theorem cnt_push(l:List tLB)(x:tLB):(λs'=>if s'=T x then eK (Value.int .i64 ((l.count x:Nat)+1:Int))else cntF l s')=cntF (x::l):=by
 funext s;by_cases e:s=T x
 ·subst e;have hb:BL (T x)=x:=by simp[BL,T]
  simp[cntF,hb]
 ·rw[iN9 e];have hne:x≠BL s:=λh=>e (by rw[h,YL]);simp[cntF,List.count_cons,hne]
def ed(w:tW)(b:Nat)(l:List tLB):Prop:=∃n,ze w b (cntF l) n/\(l.Nodup->n=eJ l)
theorem ed.ai{w w':tW}{b:Nat}{l:List tLB}{S:Nat->Prop}(h:ed w b l)(m:aa S w w')(hS:¬S b):ed w' b l:=by obtain⟨n,h1,h2⟩:=h;exact⟨n,h1.ai m hS,h2⟩
theorem ed.new(w:tW):ed (w.alloc (lz #[] 0)) w.heap.size []:=⟨0,ze.new w,λ_=>rfl⟩
theorem ed.lt{w:tW}{b:Nat}{l:List tLB}(h:ed w b l):b<w.heap.size:=by obtain⟨n,h1,_⟩:=h;exact h1.of.lt
theorem ed.aA{w:tW}{b g:Nat}{l:List tLB}{cs:tAV}{t:ju}(h:ed w b l)(hb:au w g cs t):g≠b:=by obtain⟨n,h1,_⟩:=h;exact h1.of.aA hb
theorem ed.look{w:tW}{b:Nat}{l:List tLB}(h:ed w b l)(x:tLB):(Instr.lookup 105 (kq (eK b)) (eR (T x)) fj).run prog w=.ok (vI (l.count x:Nat)) w:=by
 obtain⟨n,h1,_⟩:=h;have:=h1.of.NW (P:=prog) (t:=105) underlying105 underlying9 (z:=vI 0) (zeroValue3 w) (T x);have hb:BL (T x)=x:=by simp[BL,T]
 rw[this,cntF,hb];by_cases e:l.count x=0
 ·rw[iP9 e,e];rfl
 ·rw[iN9 e];rfl
theorem ed.put{w:tW}{b:Nat}{l:List tLB}(h:ed w b l)(x:tLB):∃w',(Instr.mapUpdate 105 (kq (eK b)) (eR (T x)) (vI ((l.count x:Nat)+1:Int))).run prog w=.ok () w'/\ed w' b (x::l)/\aa (λk=>k=b) w w':=by
 obtain⟨n,h1,h2⟩:=h;obtain⟨w',r1,r2,r3⟩:=h1.update (P:=prog) (t:=105) underlying105 underlying9 (T x) (vI ((l.count x:Nat)+1:Int));rw[cnt_push]at r2;refine⟨w',r1,⟨_,r2,λhn=>?_⟩,r3⟩;have hb:BL (T x)=x:=by simp[BL,T]
 obtain⟨hx,hl⟩:=List.nodup_cons.1 hn;have hc:=List.count_eq_zero.2 hx;rw[cntF,hb,iP9 hc];simp[h2 hl]
theorem ed.size{w:tW}{b:Nat}{l:List tLB}(h:ed w b l)(hn:l.Nodup):(Builtin.len_ #[105] 3 #[kq (eK b)]).run prog w=.ok (vI (eJ l:Nat)) w:=by obtain⟨n,h1,h2⟩:=h;rw[<-h2 hn];exact h1.len underlying105
structure tK where
 slots:Nat:=0
 ends:Bool:=fj
 bX:List (tLB×Nat):=[]
def gK(l:List (tLB×Nat))(x:tLB):Option Nat:=(l.find? (λp=>p.1==x)).map (·.2)
structure OL where
 maps:List tLB:=[]
 fs:List tK:=[]
def OL.last(o:OL):tK:=o.fs.getD (eJ o.fs-1) {}
def OL.dQ(o:OL)(f:tK):OL:={o with fs:=o.fs.set (eJ o.fs-1) f}
def tK.label(f:tK)(x:tLB):tK:=if(gK f.bX x).isSome then f else{f with bX:=f.bX++[(x,f.slots)]}
def tK.code(f:tK)(op:fO):tK:={f with slots:=f.slots+op.slots,ends:=op.ends}
def cu(o:OL)(x:fE):OL :=
 if x.kind=1 then{o with maps:=x.name::o.maps}
 else if x.kind=2 then{o with fs:=o.fs++[{}]}
 else if x.kind=3 then o.dQ (o.last.label x.name)
 else if x.kind=4 then o.dQ (o.last.code x.x.o)
 else o
def aj(ls:List fE):OL:=ls.foldl cu {}
theorem gW(ls:List fE)(k:Nat)(h:k<eJ ls):aj (ls.take (k+1))=cu (aj (ls.take k)) ls[k]:=by unfold aj;rw[List.take_succ_eq_append_getElem h,List.foldl_append];rfl
def InF(ls:List fE):Prop:=∀k (h:k<eJ ls),(ls[k].kind=3\/ls[k].kind=4)->(aj (ls.take k)).fs≠[]
def QM(l:List (tLB×Nat))(s:tBA):Option fa:=(gK l (BL s)).map (λn=>vI (n:Nat))
def iW(w:tW)(b:Nat)(l:List (tLB×Nat)):Prop:=MapOf w b (QM l)
theorem Vc(l:List (tLB×Nat))(x:tLB)(n:Nat)(h:(gK l x).isSome=fj):(λs'=>if s'=T x then eK (Value.int .i64 (n:Nat))else QM l s')=QM (l++[(x,n)]):=by
 funext s;have hb:BL (T x)=x:=by simp[BL,T]
 unfold QM gK at *;rw[List.find?_append];by_cases e:s=T x
 ·subst e;rw[iP9 rfl,hb];cases hf:l.find? (λp=>p.1==x)with
  |some q=>rw[hf]at h;cases h
  |none=>simp
 ·rw[iN9 e];have hne:(x==BL s)=fj:=by rw[beq_eq_false_iff_ne];exact λh=>e (by rw[h,YL])
  cases l.find? (λp=>p.1==BL s)with
  |some q=>simp
  |none=>simp[hne]
theorem iW.look{w:tW}{b:Nat}{l:List (tLB×Nat)}(h:iW w b l)(x:tLB):(Instr.lookup 105 (kq (eK b)) (eR (T x)) fR).run prog w=.ok (.tuple #[vI ((gK l x).getD 0:Nat),fX (gK l x).isSome]) w:=by
 have:=MapOf.lookup (P:=prog) h (t:=105) underlying105 underlying9 (z:=vI 0) (zeroValue3 w) (T x);have hb:BL (T x)=x:=by simp[BL,T]
 rw[this,QM,hb];cases gK l x<;>rfl
theorem iW.adv{w:tW}{b:Nat}{l:List (tLB×Nat)}(h:iW w b l)(x:tLB):(Instr.lookup 105 (kq (eK b)) (eR (T x)) fj).run prog w=.ok (vI ((gK l x).getD 0:Nat)) w:=by
 have:=MapOf.NW (P:=prog) h (t:=105) underlying105 underlying9 (z:=vI 0) (zeroValue3 w) (T x);have hb:BL (T x)=x:=by simp[BL,T]
 rw[this,QM,hb];cases gK l x<;>rfl
theorem iW.put{w:tW}{b:Nat}{l:List (tLB×Nat)}(h:iW w b l)(x:tLB)(n:Nat)(hx:(gK l x).isSome=fj):∃w',(Instr.mapUpdate 105 (kq (eK b)) (eR (T x)) (vI n)).run prog w=.ok () w'/\iW w' b (l++[(x,n)])/\aa (λk=>k=b) w w':=by obtain⟨w',r1,r2,r3⟩:=MapOf.update (P:=prog) h (t:=105) underlying105 underlying9 (T x) (vI n);rw[Vc l x n hx]at r2;exact⟨w',r1,r2,r3⟩
def j9(b:Nat)(f:tK):tLV:=[vI f.slots,fX f.ends,kq (eK b)]
def iX(lb:tLN)(fs:List tK):tLV:=(lb.zip fs).flatMap (λx=>j9 x.1 x.2)
structure dZ(w0:tW)(bm:Nat)(vF:fa)(lb:tLN)(o:OL)(w:tW):Prop where
 len:eJ lb=eJ o.fs
 maps:ed w bm o.maps
 sl:Sl w 164 3 vF (eJ o.fs) (iX lb o.fs)
 bX:∀i (h:i<eJ o.fs),iW w (lb[i]?.getD 0) o.fs[i].bX
 nd:(bm::lb).Nodup
 lo:∀b∈bm::lb,w0.heap.size<=b
 own:∀k,vF.ownBlock=eK k->w0.heap.size<=k
 md:aa af w0 w
theorem dZ.quiet{w0 w w':tW}{bm:Nat}{vF:fa}{lb:tLN}{o:OL}(h:dZ w0 bm vF lb o w)(m:aa af w w'):dZ w0 bm vF lb o w' :=
 ⟨h.len,h.maps.ai m id,h.sl.ai m (λ_ _=>id),λi hi=>MapOf.ai (h.bX i hi) m id,h.nd,h.lo,h.own,h.md.trans m⟩
theorem dZ.new(w0 w:tW)(m:aa af w0 w):dZ w0 w.heap.size (vN) [] {} (w.alloc (lz #[] 0)) :=
 ⟨rfl,ed.new w,Sl.nil _ _ _,λi h=>absurd h (bj _),by simp,λb hb=>by
  have:b=w.heap.size:=by simpa using hb
  rw[this];exact m.size,λk h=>(by cases h),m.alloc _⟩
theorem MapOf.C9{w:tW}{b:Nat}{f:tBA->Option fa}(h:MapOf w b f){e:ju}{size n:Nat}{v:fa}{xs:tLV}(hs:Sl w e size v n xs):v.ownBlock≠eK b:=λhk=>by
 rcases hs.2 with⟨h0,_⟩ |⟨g,cap,cur,h0,_,hg,_⟩
 ·rw[h0]at hk;cases hk
 ·rw[h0]at hk;cases hk;exact h.aA hg rfl
theorem dZ.map{w0 w w':tW}{bm:Nat}{vF:fa}{lb:tLN}{o:OL}{x:tLB}(h:dZ w0 bm vF lb o w)(hc:ed w' bm (x::o.maps))(m:aa (λk=>k=bm) w w'):dZ w0 bm vF lb {o with maps:=x::o.maps} w':=by
 have hnd:=List.nodup_cons.1 h.nd;refine⟨h.len,hc,h.sl.ai m (λk hk e=>?_),λi hi=>MapOf.ai (h.bX i hi) m (λe=>hnd.1 ?_),h.nd,h.lo,h.own,h.md.step m (λi hi e=>?_)⟩
 ·obtain⟨n,h1,_⟩:=h.maps;have e':=e;exact h1.of.C9 h.sl (by rw[hk,e'])
 ·have hl:i<eJ lb:=by rw[h.len];exact hi
  rw[List.getElem?_eq_getElem hl]at e;exact e ▸ ba hl
 ·have:=h.lo bm (by simp);omega
theorem LU(lb:tLN)(fs:List tK)(h:eJ lb=eJ fs)(b:Nat)(f:tK):iX (lb++[b]) (fs++[f])=iX lb fs++j9 b f:=by unfold iX;rw[List.zip_append h,List.flatMap_append];simp
theorem dZ.func{w0 w w':tW}{bm bN:Nat}{vF Yw:fa}{lb:tLN}{o:OL}(h:dZ w0 bm vF lb o w)(hN:iW w bN [])(hlo:w0.heap.size<=bN)(hnew:bN ∉ bm::lb)(s:Sl w' 164 3 Yw (eJ o.fs+1) (iX lb o.fs++j9 bN ({}:tK))) (m:aa (λk=>vF.ownBlock=eK k) w w') (lv:∀k,Yw.ownBlock=eK k->vF.ownBlock=eK k\/w.heap.size<=k):dZ w0 bm Yw (lb++[bN]) {o with fs:=o.fs++[({}:tK)]} w':=by
 refine⟨by simp[h.len],?_,?_,λi hi=>?_,?_,λb hb=>?_,λk hk=>?_,h.md.step m (λi hi e=>by have:=h.own i e;omega)⟩
 ·obtain⟨n,h1,h2⟩:=h.maps;exact⟨n,h1.ai m (λe=>h1.of.C9 h.sl e),h2⟩
 ·show Sl w' 164 3 Yw (eJ (o.fs++[({}:tK)])) (iX (lb++[bN]) (o.fs++[({}:tK)]))
  rw[LU _ _ h.len,List.length_append,List.length_singleton];exact s
 ·have hi':i<eJ o.fs+1:=by simpa using hi
  rcases Nat.lt_or_ge i (eJ o.fs) with e|e
  ·have e1:(lb++[bN])[i]?.getD 0=lb[i]?.getD 0:=by rw[List.getElem?_append_left (by rw[h.len];exact e)]
   have e2:(o.fs++[({}:tK)])[i]'hi=o.fs[i]:=List.getElem_append_left e;have hl:=h.bX i e;show iW w' ((lb++[bN])[i]?.getD 0) ((o.fs++[({}:tK)])[i]'hi).bX
   rw[e1,e2];exact MapOf.ai hl m (λe'=>MapOf.C9 hl h.sl e')
  ·have e3:i=eJ o.fs:=by omega
   subst e3;have e1:(lb++[bN])[eJ o.fs]?.getD 0=bN:=by rw[List.getElem?_append_right (by rw[h.len];exact cJ _),h.len,Nat.sub_self];rfl
   have e2:(o.fs++[({}:tK)])[eJ o.fs]'hi={}:=by simp
   show iW w' ((lb++[bN])[eJ o.fs]?.getD 0) ((o.fs++[({}:tK)])[eJ o.fs]'hi).bX
   rw[e1,e2];exact MapOf.ai hN m (λe'=>MapOf.C9 hN h.sl e')
 ·have:=h.nd;rw[<-List.cons_append,List.nodup_append]
  exact⟨this,by simp,λa ha b hb e=>hnew (by
   have hb':b=bN:=by simpa using hb
   rw[<-hb',<-e];exact ha)⟩
 ·have hb':b=bm\/b∈lb\/b=bN:=by simpa using hb
  rcases hb' with e|e|e
  ·exact h.lo b (by simp[e])
  ·exact h.lo b (by simp[e])
  ·rw[e];exact hlo
 ·rcases lv k hk with e|e
  ·exact h.own k e
  ·have:=h.md.size;omega
theorem nA{o:OL}(h:o.fs≠[]):∃hl:eJ o.fs-1<eJ o.fs,o.last=o.fs[eJ o.fs-1]:=by have hp:=List.length_pos_iff.2 h;refine⟨by omega,?_⟩;unfold OL.last;rw[List.getD_eq_getElem?_getD,List.getElem?_eq_getElem (by omega)];rfl
theorem QN{l:tLN}(h:l.Nodup){i j:Nat}(hi:i<eJ l)(hj:j<eJ l)(e:l[i]=l[j]):i=j:=by
 rw[List.nodup_iff_pairwise_ne,List.pairwise_iff_getElem]at h;rcases cG i j with d|d|d
 ·exact absurd e (h i j hi hj d)
 ·exact d
 ·exact absurd e.symm (h j i hj hi d)
theorem dZ.lab{w0 w w':tW}{bm:Nat}{vF:fa}{lb:tLN}{o:OL}{l':List (tLB×Nat)}(h:dZ w0 bm vF lb o w)(hne:o.fs≠[])(hL:iW w' (lb[eJ o.fs-1]?.getD 0) l')(m:aa (λk=>k=lb[eJ o.fs-1]?.getD 0) w w'):dZ w0 bm vF lb (o.dQ {o.last with bX:=l'}) w':=by
 obtain⟨hl,hg⟩:=nA hne;have hlb:eJ o.fs-1<eJ lb:=by rw[h.len];exact hl
 have hel:lb[eJ o.fs-1]?.getD 0=lb[eJ o.fs-1]:=by rw[List.getElem?_eq_getElem hlb];rfl
 have hnd:=List.nodup_cons.1 h.nd;have hlast:=h.bX (eJ o.fs-1) hl;refine⟨by simp[OL.dQ,h.len],?_,?_,λi hi=>?_,h.nd,h.lo,h.own,h.md.step m (λi hi e=>?_)⟩
 ·exact h.maps.ai m (λe=>hnd.1 (by rw[e,hel];exact ba hlb))
 ·have hr:iX lb (o.dQ {o.last with bX:=l'}).fs=iX lb o.fs:=by
   unfold iX OL.dQ
   have:(lb.zip (o.fs.set (eJ o.fs-1) {o.last with bX:=l'})).map (λx=>j9 x.1 x.2)=(lb.zip o.fs).map (λx=>j9 x.1 x.2):=by
    apply cq
    ·simp
    ·intro j h1 h2;simp only[cN,cw,ar];split
     ·rename_i e;subst e
      have hs:o.last.slots=o.fs[eJ o.fs-1].slots:=by rw[hg]
      have he:o.last.ends=o.fs[eJ o.fs-1].ends:=by rw[hg]
      simp only[j9,hs,he]
     ·rfl
   rw[cP,cP,this]
  rw[hr];have:=h.sl.ai m (λk hk e=>by have e':=e;exact MapOf.C9 hlast h.sl (by rw[hk,e']))
  simpa [OL.dQ]using this
 ·have hi':i<eJ o.fs:=by simpa [OL.dQ]using hi
  have e2:(o.dQ {o.last with bX:=l'}).fs[i]'hi=if eJ o.fs-1=i then{o.last with bX:=l'}else o.fs[i]:=by simp only[OL.dQ,ar]
  rw[e2];split
  ·rename_i e;subst e;exact hL
  ·rename_i e
   refine MapOf.ai (h.bX i hi') m (λe'=>e ?_);have hil:i<eJ lb:=by rw[h.len];exact hi'
   rw[List.getElem?_eq_getElem hil,hel]at e';exact(QN hnd.2 hil hlb e').symm
 ·have:=h.lo (lb[eJ o.fs-1]) (by simp);rw[hel]at e;omega
theorem dZ.row{w0 w w':tW}{bm g cap:Nat}{lb:tLN}{o:OL}{f:tK}(h:dZ w0 bm (eS (eK ⟨g,0,eL⟩) (eJ o.fs) cap) lb o w)(hne:o.fs≠[])(hf:f.bX=o.last.bX)(hw:w'=(w.setCell ⟨g,(eJ o.fs-1)*3,eL⟩ (vI f.slots)).setCell ⟨g,(eJ o.fs-1)*3+1,eL⟩ (fX f.ends)):dZ w0 bm (eS (eK ⟨g,0,eL⟩) (eJ o.fs) cap) lb (o.dQ f) w':=by
 obtain⟨hl,hg⟩:=nA hne;have hlb:eJ o.fs-1<eJ lb:=by rw[h.len];exact hl
 have hown:=h.own g rfl;have m:aa (Only g) w w':=by rw[hw];exact(ax.bA _ _).bA _ _
 have hz:eJ (lb.zip o.fs)=eJ o.fs:=by simp[h.len]
 have hzi:eJ o.fs-1<eJ (lb.zip o.fs):=by rw[hz];exact hl
 refine⟨by simp[OL.dQ,h.len],?_,?_,λi hi=>?_,h.nd,h.lo,h.own,h.md.step m (λi hi e=>by have:i=g:=e;omega)⟩
 ·obtain⟨n,h1,h2⟩:=h.maps;exact⟨n,h1.ai m (λe=>h1.of.C9 h.sl (by have:bm=g:=e;rw[this];rfl)),h2⟩
 ·have s1:=h.sl.setAt ((eJ o.fs-1)*3) (vI f.slots) (by omega);have s2:=s1.setAt ((eJ o.fs-1)*3+1) (fX f.ends) (by omega)
  have hr:((iX lb o.fs).set ((eJ o.fs-1)*3) (vI f.slots)).set ((eJ o.fs-1)*3+1) (fX f.ends)=iX lb (o.dQ f).fs:=by
   unfold iX OL.dQ;have e1:=iO (λx:Nat×tK=>j9 x.1 x.2) 3 (λ_=>rfl) (lb.zip o.fs) (eJ o.fs-1) 0 hzi (by omega) (vI f.slots) (lb[eJ o.fs-1],{o.last with slots:=f.slots}) (by rw[hg];simp[j9]);rw[Nat.add_zero]at e1;rw[e1];have e2:=iO (λx:Nat×tK=>j9 x.1 x.2) 3 (λ_=>rfl) ((lb.zip o.fs).set (eJ o.fs-1) (lb[eJ o.fs-1],{o.last with slots:=f.slots})) (eJ o.fs-1) 1 (by simpa using hzi) (by omega) (fX f.ends) (lb[eJ o.fs-1],f) (by simp[j9]);rw[e2,List.set_set];congr 1;apply cq
   ·simp
   ·intro j h1 h2;simp only[ar,cw];split
    ·rename_i e;subst e;simp
    ·rename_i e;simp
  rw[hw,<-hr];have hle:eJ (o.dQ f).fs=eJ o.fs:=by simp[OL.dQ]
  rw[hle];exact s2
 ·have hi':i<eJ o.fs:=by simpa [OL.dQ]using hi
  have hli:=h.bX i hi'
  have e2:((o.dQ f).fs[i]'hi).bX=o.fs[i].bX:=by
   simp only[OL.dQ,ar];split
   ·rename_i e;subst e;rw[hf,hg]
   ·rfl
  rw[e2];exact MapOf.ai hli m (λe=>MapOf.C9 hli h.sl (by have:lb[i]?.getD 0=g:=e;rw[this];rfl))
theorem run_loadVar_rowAt{P:lj}(w:tW)(g off:Nat)(ty:ju)(cs:tAV)(d:TypeDesc)(hc:∀j (h:j<cs.size),w.cell? ⟨g,off+j,eL⟩=eK cs[j])(hu:P.underlying ty=eK d) (hd:(match (generalizing:=false) d with|.struct _|.array _ _=>fR|_=>fj)=fR) (hi:(P.info? ty).map (·.size)=eK cs.size):(loadVar ty ⟨g,off,eL⟩).run P w=.ok (fY cs) w:=by
 have hl:=run_loadCells_list (P:=P) w ⟨g,off,eL⟩ cs.toList (λj v hv=>by
   have hadd:(⟨g,off,eL⟩:Addr).add j=⟨g,off+j,eL⟩:=by unfold Addr.add;split<;>simp_all
   obtain⟨hj,hv⟩:=List.getElem?_eq_some_iff.1 hv;rw[hadd,hc j (by simpa using hj)]
   simpa using hv)
 cases hq:P.info? ty with
 |none=>simp[hq]at hi
 |some i =>
  have hs:i.size=cs.size:=by simpa [hq]using hi
  have hagg:(isAgg ty).run P w=.ok fR w:=by unfold isAgg;rw[Sem.run_bind,pB hu w];cases d<;>simp_all
  simp only[Array.length_toList,Array.toArray_toList]at hl;simp[loadVar,Sem.run_bind,hagg,sizeOf,typeInfo,hq,hs,hl]
theorem eH{P:lj}{ops:Array iz}{rest:List iz}{o:iz}{a:Act}{w:tW}{Q:nB->Act->tW->Prop}(hgd:o.guard=eL)(ty:ju)(x:Operand)(ho:o.op=.load ty x)(g off:Nat) (hx:a.eval x=.pointer (eK ⟨g,off,eL⟩)) (cs:tAV) (d:TypeDesc) (hc:∀j (h:j<cs.size),w.cell? ⟨g,off+j,eL⟩=eK cs[j])(hu:P.underlying ty=eK d) (hd:(match (generalizing:=false) d with|.struct _|.array _ _=>fR|_=>fj)=fR) (hi:(P.info? ty).map (·.size)=eK cs.size)(h:n9 P ops Q rest (a.put o.dst (fY cs)) w):n9 P ops Q (o::rest) a w :=
 wpList_plain hgd λ_ hK=>by unfold Oper.wp oX;simp only[ho,hx,Instr.loadAt,Instr.sureAddr,Sem.run_bind,Sem.run_pure,Result.andThen_ok,run_loadVar_rowAt w g off ty cs d hc hu hd hi];exact hK _ _ h
theorem gJ.row{w0 w:tW}{v:fa}{bs:tLN}{ls:List fE}(h:gJ w0 v bs ls w)(k:Nat)(hk:k<eJ ls):∃g c,v=eS (eK ⟨g,0,eL⟩) (eJ ls) c/\ls.length<=c/\∀w',aa af w w'->∀j (hj:j<(ls[k].cells bs).size),w'.cell? ⟨g,k*20+j,eL⟩=eK (ls[k].cells bs)[j]:=by obtain⟨o,c,hv,hb⟩:=h.sl.view;obtain⟨g,cs,rfl,hb,ht,hc,_⟩:=hb (by omega);refine⟨g,c,hv,hc,λw' m j hj=>?_⟩;have hs:=gV bs ls[k];rw[aV (hb.ai m id) ht (k*20+j) (by omega),flat_get (λx:fE=>(x.cells bs).toList) 20 (λx=>by simp[gV]) ls k j hk (by omega)];simp[hj]
theorem nD(bs:tLN)(x:fE)(h:x.kind≠4):(x.cells bs)[1]?=eK (eR (T x.name)):=by unfold fE.cells;rw[iN9 h];rfl
theorem Vd(bs:tLN)(x:fE)(h:x.kind=4):(x.cells bs)[11]?=eK (vP (bs[x.x.k]?.getD 0)):=by unfold fE.cells;rw[iP9 h];rfl
theorem ZA:∀o∈az,o.slots<=2:=by
 have:az.all (λo=>gh (o.slots<=2))=fR:=by decide +kernel
 intro o ho
 simpa using List.all_eq_true.1 this o ho
theorem fD.Aj(x:fD):x.o.slots<=2:=by
 unfold fD.o;cases h:az[x.k]? with
 |none=>exact b9 _
 |some o=>exact ZA o (List.mem_of_getElem? h)
theorem Jl{o:OL}(h:o.fs≠[]):o.last∈o.fs:=by obtain⟨h1,h2⟩:=nA h;rw[h2];exact ba h1
theorem zg{o:OL}{f:tK}{n:Nat}(h:∀g∈o.fs,g.slots<=n)(hf:f.slots<=n):∀g∈(o.dQ f).fs,g.slots<=n:=by
 intro g hg;rcases List.mem_or_eq_of_mem_set hg with h1|rfl
 ·exact h g h1
 ·exact hf
theorem rF{o:OL}{n:Nat}(h:∀g∈o.fs,g.slots<=n):o.last.slots<=n:=by
 by_cases e:o.fs=[]
 ·unfold OL.last;rw[e];exact b9 _
 ·exact h _ (Jl e)
theorem jt(ls:List fE):∀k,k<=eJ ls->(∀f∈(aj (ls.take k)).fs,f.slots<=2*k)/\(aj (ls.take k)).fs.length<=k
 |0,_=>by rw[cD];exact⟨λf hf=>(by cases hf),cJ _⟩
 |k+1,h=>by
  obtain⟨h1,h2⟩:=jt ls k (by omega);rw[gW ls k (by omega)];generalize aj (ls.take k)=o at *;generalize ls[k]=x;have h3:∀f∈o.fs,f.slots<=2*(k+1):=λf hf=>by have:=h1 f hf;omega
  have h4:=rF h1;unfold cu;split
  ·exact⟨h3,by simpa using ao h2⟩
  split
  ·refine⟨λf hf=>?_,by simpa using h2⟩;rcases List.mem_append.1 hf with h5|h5
   ·exact h3 f h5
   ·have:f={}:=by simpa using h5
    subst this;exact b9 _
  split
  ·refine⟨zg h3 ?_,by simp[OL.dQ];omega⟩;unfold tK.label;split
   ·omega
   ·show o.last.slots<=_;omega
  split
  ·refine⟨zg h3 ?_,by simp[OL.dQ];omega⟩;have:=x.x.Aj;show o.last.slots+x.x.o.slots<=_;omega
  ·exact⟨h3,by omega⟩
theorem zh(ls:List fE):∀k,k<=eJ ls->eJ (aj (ls.take k)).maps<=k
 |0,_=>by rw[cD];exact cJ _
 |k+1,h=>by
  have ih:=zh ls k (by omega);rw[gW ls k (by omega)];generalize aj (ls.take k)=o at *;generalize ls[k]=x;unfold cu;split
  ·simpa using ih
  split
  ·exact ao ih
  split
  ·exact ao ih
  split
  ·exact ao ih
  ·exact ao ih
theorem dZ.NX{w0 w:tW}{bm:Nat}{oF:Option Addr}{cF:Nat}{lb:tLN}{o:OL}(h:dZ w0 bm (eS oF (eJ o.fs) cF) lb o w)(hne:o.fs≠[]):∃g,oF=eK ⟨g,0,eL⟩/\o.fs.length<=cF/\∀w',aa af w w'->∀j (hj:j<(j9 (lb[eJ o.fs-1]?.getD 0) o.last).toArray.size),w'.cell? ⟨g,(eJ o.fs-1)*3+j,eL⟩=eK (j9 (lb[eJ o.fs-1]?.getD 0) o.last).toArray[j]:=by
 obtain⟨hl,hg⟩:=nA hne;obtain⟨o',c',hv,hb⟩:=h.sl.view;injection hv with e1 e2 e3;subst e1 e3;obtain⟨g,cs,rfl,hb,ht,hc,_⟩:=hb (by omega);refine⟨g,rfl,hc,λw' m j hj=>?_⟩;have hz:eJ o.fs-1<eJ (lb.zip o.fs):=by rw[List.length_zip,h.len];omega
 have hj':j<3:=hj;have hlb:eJ o.fs-1<eJ lb:=by rw[h.len];exact hl
 rw[aV (hb.ai m id) ht ((eJ o.fs-1)*3+j) (by omega),iX,flat_get (λx:Nat×tK=>j9 x.1 x.2) 3 (λ_=>rfl) (lb.zip o.fs) (eJ o.fs-1) j hz hj'];rw[cw,List.getElem?_eq_getElem hlb,<-hg];simp only[ab,List.getElem_toArray];rw[List.getElem?_eq_getElem]
theorem dZ.keep{w0 w w':tW}{bm A:Nat}{vF:fa}{lb:tLN}{o:OL}{cs:tAV}{t:ju}(h:dZ w0 bm vF lb o w)(hA:au w A cs t)(ht:164≠t)(hlo:w0.heap.size<=A)(m:aa (Only A) w w'):dZ w0 bm vF lb o w':=by
 refine⟨h.len,?_,h.sl.ai m (λk hk e=>?_),λi hi=>MapOf.ai (h.bX i hi) m (λe=>?_),h.nd,h.lo,h.own,h.md.step m (λi hi e=>by have:i=A:=e;omega)⟩
 ·exact h.maps.ai m (λe=>h.maps.aA hA (show bm=A from e).symm)
 ·have e':k=A:=e;exact h.sl.aA hA ht (by rw[hk,e'])
 ·exact MapOf.aA (h.bX i hi) hA (show _=A from e).symm
structure jT(w0:tW)(R A bm:Nat)(vF:fa)(lb:tLN)(o:OL)(w:tW):Prop where
 res:au w R #[kq eL,vN] 108
 all:au w A #[kq (eK bm),vF] 108
 lQ:dZ w0 bm vF lb o w
 lt:w0.heap.size<=A/\w0.heap.size<=R/\R≠A
section
variable {w0 w w' : World} {R A bm : Nat} {vF : fa} {lb : List Nat} {o : OL}
theorem jT.quiet(h:jT w0 R A bm vF lb o w)(m:aa af w w'):jT w0 R A bm vF lb o w':=⟨h.res.ai m id,h.all.ai m id,h.lQ.quiet m,h.lt⟩
theorem jT.map{x:tLB}(h:jT w0 R A bm vF lb o w)(hc:ed w' bm (x::o.maps))(m:aa (λk=>k=bm) w w'):jT w0 R A bm vF lb {o with maps:=x::o.maps} w' :=
 ⟨h.res.ai m (λe=>h.lQ.maps.aA h.res e),h.all.ai m (λe=>h.lQ.maps.aA h.all e),h.lQ.map hc m,h.lt⟩
theorem jT.func{bN:Nat}{Yw:fa}(h:jT w0 R A bm vF lb o w)(hN:iW w bN [])(hlo:w0.heap.size<=bN)(hnew:bN ∉ bm::lb)(s:Sl w' 164 3 Yw (eJ o.fs+1) (iX lb o.fs++j9 bN ({}:tK))) (m:aa (λk=>vF.ownBlock=eK k) w w') (lv:∀k,Yw.ownBlock=eK k->vF.ownBlock=eK k\/w.heap.size<=k):jT w0 R A bm Yw (lb++[bN]) {o with fs:=o.fs++[({}:tK)]} (w'.setCell ⟨A,1,eL⟩ Yw):=by have h1:=h.lQ.func hN hlo hnew s m lv;have hA:=h.all.ai m (λe=>h.lQ.sl.aA h.all (by decide) e);have hR:=h.res.ai m (λe=>h.lQ.sl.aA h.res (by decide) e);refine⟨hR.setOther (a:=⟨A,1,eL⟩) h.lt.2.2.symm _,?_,h1.keep hA (by decide) h.lt.1 (ax.bA _ _),h.lt⟩;exact hA.set 1 Yw
theorem jT.lab{l':List (tLB×Nat)}(h:jT w0 R A bm vF lb o w)(hne:o.fs≠[])(hL:iW w' (lb[eJ o.fs-1]?.getD 0) l')(m:aa (λk=>k=lb[eJ o.fs-1]?.getD 0) w w'):jT w0 R A bm vF lb (o.dQ {o.last with bX:=l'}) w':=by obtain⟨hl,_⟩:=nA hne;have hlast:=h.lQ.bX _ hl;exact⟨h.res.ai m (λe=>MapOf.aA hlast h.res e),h.all.ai m (λe=>MapOf.aA hlast h.all e),h.lQ.lab hne hL m,h.lt⟩
theorem jT.row{g cap:Nat}{f:tK}(h:jT w0 R A bm (eS (eK ⟨g,0,eL⟩) (eJ o.fs) cap) lb o w)(hne:o.fs≠[])(hf:f.bX=o.last.bX):jT w0 R A bm (eS (eK ⟨g,0,eL⟩) (eJ o.fs) cap) lb (o.dQ f) ((w.setCell ⟨g,(eJ o.fs-1)*3,eL⟩ (vI f.slots)).setCell ⟨g,(eJ o.fs-1)*3+1,eL⟩ (fX f.ends)):=by have hA:A≠g:=λe=>h.lQ.sl.aA h.all (by decide) (by rw[e];rfl);have hR:R≠g:=λe=>h.lQ.sl.aA h.res (by decide) (by rw[e];rfl);exact⟨(h.res.setOther (a:=⟨g,_,eL⟩) hR.symm _).setOther (a:=⟨g,_,eL⟩) hR.symm _,(h.all.setOther (a:=⟨g,_,eL⟩) hA.symm _).setOther (a:=⟨g,_,eL⟩) hA.symm _,h.lQ.row hne hf rfl,h.lt⟩
end
theorem Jm{o:OL}(h:o.fs≠[]):o.dQ o.last=o:=by obtain⟨h1,h2⟩:=nA h;unfold OL.dQ;rw[h2,List.set_getElem_self]
theorem dZ.ZB{w0 w:tW}{bm:Nat}{vF:fa}{lb:tLN}{o:OL}(h:dZ w0 bm vF lb o w)(hne:o.fs≠[]):iW w (lb[eJ o.fs-1]?.getD 0) o.last.bX:=by obtain⟨h1,h2⟩:=nA hne;rw[h2];exact h.bX _ h1
theorem ZC(w:tW):iW (w.alloc (lz #[] 0)) w.heap.size []:=⟨#[],0,[],tR w _,rfl,λ_=>rfl⟩
def zi(w:tW)(o:OL)(e:Ending)(w':tW):Prop:=∃bm vF lb,e=.returned (fY #[kq (eK bm),vF])/\dZ w bm vF lb o w'
theorem Jn:(prog.info? 164).map (λi=>(i.zero,i.size,i.bytes))=eK (eK (fY #[vI 0,fX fj,kq eL]),3,24):=by kernel_rfl
theorem Fy(n:Nat)(cs z:tAV)(hc:cs.size=n)(hz:z.size=n):Instr.fill (λi=>eK (i*n,n)) z [(0,fY cs)]=eK cs:=by
 obtain⟨l⟩:=cs;obtain⟨m⟩:=z;simp only[cH]at hc hz;have h:=C8 l [] m (by omega);have hcl:(Value.agg l.toArray).cells=l.toArray:=rfl;simp only[Instr.fill,hcl,cH,hc,hz];rw[iN9 (by simp)];simp only[cx,List.length_nil]at h
 simpa using h
theorem BR{ops:Array iz}{rest:List iz}{o:iz}{a:Act}{w:tW}{Q:nB->Act->tW->Prop}(hg:o.guard=eL)(x:Operand)(ho:o.op=.buildSlice 106 1 #[(0,x)])(a0 a1 a2:fa) (hx:a.eval x=fY #[a0,a1,a2])(h:n9 prog ops Q rest (a.put o.dst (eS (eK ⟨w.heap.size,0,eL⟩) 1 1)) (w.alloc (fL #[a0,a1,a2] 164))):n9 prog ops Q (o::rest) a w:=by obtain⟨iP,hiP,sP,hsP,xz⟩:=oY Jn;refine wpList_buildSlice hg 106 164 1 _ ho #[a0,a1,a2] iP _ underlying106 hiP sP (by rw[hsP];decide) (by rw[hsP];decide) ?_ h;rw[hsP];simp only[List.map_toArray,List.map_cons,List.map_nil,hx];exact Fy 3 _ _ rfl (by simp)
set_option linter.all false
theorem Jo(wT wL w:tW)(v vL:fa)(bs:tLN)(ls:List fE)(hO:aM 0 wT v bs az)(m:aa af wT w)(hL:gJ wL vL bs ls w)(hin:InF ls)(hk4:∀x∈ls,x.kind=4->x.x.k<eJ az)(hkk:∀x∈ls,1<=x.kind/\x.kind<=4)(hnl:eJ ls<=1000001):Calls prog 42 #[vL] w λe w'=>zi w (aj ls) e w':=by
 have QO:ah (∀e w' bm vF lb,e=.returned (fY #[kq (eK bm),vF])->dZ w bm vF lb (aj ls) w'->zi w (aj ls) e w'):=λe w' bm vF lb h1 h2=>⟨bm,vF,lb,h1,h2⟩
 generalize zi w (aj ls)=RP at *
 have BU:ah (∀w',aa af w w'->∀x∈ls,x.kind=4->dO w' (bs[x.x.k]?.getD 0) x.x.o):=λw' m' x hx h4=>by
  have h1:=hk4 x hx h4;have h2:x.x.k<eJ bs:=by rw[hO.len];exact h1
  have:=(hO.ai (m.trans m')).at' x.x.k h2 h1;rw[List.getElem?_eq_getElem h2];unfold fD.o;rw[List.getElem?_eq_getElem h1];exact this
 have LK:=aq hL;have NU:=aq hin;have HKK:=aq hkk;have HSM:=aq (jt ls);have wu:=aq (zh ls);have HST:=aq (gW ls);have nu:ah (∀k,¬k<eJ ls->aj (ls.take k)=aj ls):=λk h=>by rw[List.take_of_length_le (by omega)]
 obtain⟨oL,cL,rfl,_⟩:=hL.sl.view;have hmm:=@run_makeMap prog;clear hO m hL hin hk4 hkk
 have HW0:ah (jT w w.heap.size (w.heap.size+1+1) (w.heap.size+1) (vN) [] {} (((w.alloc (fL #[kq eL,vN] 108)).alloc (lz #[] 0)).alloc (fL #[kq (eK (w.heap.size+1)),vN] 108))):=by
  have m1:aa af w (w.alloc (fL #[kq eL,vN] 108)):=aw;have h1:=dZ.new w _ m1;have hs:(w.alloc (fL #[kq eL,vN] 108)).heap.size=w.heap.size+1:=by simp
  rw[hs]at h1;have hs2:((w.alloc (fL #[kq eL,vN] 108)).alloc (lz #[] 0)).heap.size=w.heap.size+1+1:=by simp
  refine⟨((au.new w _ _).alloc _).alloc _,?_,h1.quiet aw,by omega⟩;have:=au.new ((w.alloc (fL #[kq eL,vN] 108)).alloc (lz #[] 0)) #[kq (eK (w.heap.size+1)),vN] 108;rw[hs2]at this;exact this
 go_in;go_upto_region 1 with fail;go_wp2_with fail;generalize((w.alloc (fL #[kq eL,vN] 108)).alloc (lz #[] 0)).alloc (fL #[kq (eK (w.heap.size+1)),vN] 108)=w1 at *;generalize w.heap.size=R at *;generalize hbm:R+1=bm at *;generalize bm+1=A at *;clear hbm;go_loopg [15] (eJ ls) (λq v15 wx=>∃(k:Nat) (vF:fa) (lb:tLN),k<=eJ ls/\v15=vI k/\jT w R A bm vF lb (aj (ls.take k)) wx/\q=eJ ls-k)
 case atStart=>exact⟨0,_,[],b9 _,rfl,HW0.o,rfl⟩
 case round =>
  obtain⟨k,vF,lb,hk,rfl,hA,rfl⟩:=hrel;have HA:=aq hA;clear hA HW0;have hsm:=(HSM.o k hk).2;obtain⟨oF,cF,kC,_⟩:=HA.o.lQ.sl.view;subst kC;by_cases hlt:k<eJ ls
  ·obtain⟨g,cL',hv,hcl,hrow⟩:=LK.o.row k hlt;injection hv with hv1 hv2 hv3;subst hv1;have HRW:=hrow wr HA.o.lQ.md;have HS:=aq (HST.o k hlt);have HI:=aq (NU.o k hlt);have Bl:=aq ((HSM.o k hk).1);have HO4:=aq (λw' m'=>BU.o w' m' ls[k] (ba hlt));have Yr:=aq (HKK.o _ (ba hlt));have hmp:=wu.o k hk;clear hrow HST NU HSM BU hv3 nu wu;generalize aj (ls.take k)=o at *;generalize ls[k]=x at *;have jI:=aq (gV bs x);have NV:=aq (rE bs x);have Bk:=aq (cells_one bs x);have Iz:=aq (nD bs x);have QP:=aq (Vd bs x);have HB2:=aq (au.new wr (iA 0 ⟨#[]⟩ aF aF aF) 160);generalize x.cells bs=cs at *;go_upto_region 5 with(first |(refine eH rfl 160 (.tmp 17) rfl g (k*20) rfl cs _ HRW underlying160 rfl (by rw[jI.o];kernel_rfl) ?_) |(refine gx rfl 160 (.tmp 5) (.tmp 18) rfl wr.heap.size cs rfl rfl 160 _ HB2.o (by rw[jI.o];kernel_rfl) (by rw[jI.o];rfl) Bk.o ?_;intro W3 hB3 yK))
   have kT:=aq (HA.o.quiet yK.fresh);have c0:=(hB3.cell 0).trans NV.o;have a0:=kT.o.all.c0;have a1:=kT.o.all.c1;have HB3:=aq hB3;have Yx:=aq HA.o.lQ.md.size;clear HA HB2 HRW yK hB3;generalize wr.heap.size=B at *;have hcase:x.kind=1\/x.kind=2\/x.kind=3\/x.kind=4:=by have:=Yr.o;omega
   rcases hcase with hx|hx|hx|hx
   ·have q1:((x.kind:Int)==1)=fR:=by rw[hx];rfl
    have c1:=(HB3.o.cell 1).trans (Iz.o (by omega));have hlk:=kT.o.lQ.maps.look x.name;obtain⟨w5,Yy,QT,m5⟩:=kT.o.lQ.maps.put x.name;have hcn:o.maps.count x.name<=k:=Nat.le_trans List.count_le_length hmp;have KZ:ah (jT w R A bm (eS oF (eJ o.fs) cF) lb (cu o x) w5):=by have:=kT.o.map QT m5;unfold cu;rw[iP9 hx];exact this
    clear QT m5 hx;generalize o.maps.count x.name=cn at *;go_wp2_with fail;go_roundg (eJ ls-(k+1))
    case measure=>omega
    case rel=>exact⟨k+1,_,lb,by omega,by go_num,by rw[HS.o];exact KZ.o,rfl⟩
   ·have q1:((x.kind:Int)==1)=fj:=by rw[hx];rfl
    have q2:((x.kind:Int)==2)=fR:=by rw[hx];rfl
    have HWN:ah (jT w R A bm (eS oF (eJ o.fs) cF) lb o (W3.alloc (lz #[] 0))):=kT.o.quiet aw;have HLW:=aq (ZC W3);have HOS:ah (cu o x={o with fs:=o.fs++[({}:tK)]}):=by rw[ah,cu,iN9 (by omega),iP9 hx]
    have ZD:=aq kT.o.lQ.md.size
    have qJ:ah (W3.heap.size ∉ bm::lb):=λhm=>by
     rcases List.mem_cons.1 hm with e|e
     ·have:=kT.o.lQ.maps.lt;omega
     ·obtain⟨i,hi,e⟩:=List.getElem_of_mem e;have hi':i<eJ o.fs:=by rw[<-kT.o.lQ.len];exact hi
      have:=MapOf.lt (kT.o.lQ.bX i hi');rw[List.getElem?_eq_getElem hi]at this;simp only[ab]at this;omega
    clear hx;obtain⟨iP,hiP,sP,hsP,xz⟩:=oY Jn;go_upto_region 10 with fail;have HWS:ah (∀os,jT w R A bm (eS oF (eJ o.fs) cF) lb o ((W3.alloc (lz #[] 0)).alloc os)):=λos=>HWN.o.quiet aw;have HLS:ah (∀os,iW ((W3.alloc (lz #[] 0)).alloc os) W3.heap.size []):=λos=>MapOf.ai HLW.o ((aa.refl af _).alloc os) id
    have HAP:ah (∀os vA wA,Sl wA 164 3 vA (eJ o.fs+1) (iX lb o.fs++j9 W3.heap.size ({}:tK))->aa (λk=>(Value.slice oF (eJ o.fs) cF).ownBlock=eK k) ((W3.alloc (lz #[] 0)).alloc os) wA->(∀k,vA.ownBlock=eK k->(Value.slice oF (eJ o.fs) cF).ownBlock=eK k\/((W3.alloc (lz #[] 0)).alloc os).heap.size<=k)->au wA A #[kq (eK bm),eS oF (eJ o.fs) cF] 108/\(∃oA cA,vA=eS oA (eJ o.fs+1) cA)/\jT w R A bm vA (lb++[W3.heap.size]) (cu o x) (wA.setCell ⟨A,1,eL⟩ vA)):=λos vA wA sA mA lA=>by
     refine⟨(HWS.o os).all.ai mA (λe=>(HWS.o os).lQ.sl.aA (HWS.o os).all (by decide) e),?_,?_⟩
     ·obtain⟨oA,cA,BV,_⟩:=sA.view;exact⟨oA,cA,BV⟩
     ·rw[HOS.o];exact(HWS.o os).func (HLS.o os) ZD.o qJ.o sA mA lA
    go_wp2_with (first |(refine BR rfl (.tmp 38) rfl (vI 0) (fX fj) (kq (eK W3.heap.size)) rfl ?_) |(at_builtin;(refine aQ _ rfl (.tmp 36) (.tmp 39) 106 rfl 164 iP (fY #[vI 0,fX fj,kq eL]) 3 24 underlying106 hiP sP hsP xz rfl (by decide) (eS oF (eJ o.fs) cF) (eJ o.fs) (iX lb o.fs) rfl (HWS.o _).lQ.sl ⟨(W3.alloc (lz #[] 0)).heap.size,0,eL⟩ 1 1 (#[vI 0,fX fj,kq (eK W3.heap.size)]:tAV).toList rfl rfl (bH _ _ _ _ rfl) (by simp[Value.oneCell']) (by unfold maxLen;omega) (by omega) ?_;intro vA wA sA mA lA;obtain⟨hAA,⟨oA,cA,BV⟩,Jp⟩:=HAP.o _ _ _ sA mA lA;subst BV;have aA1:=hAA.cell 1;have aAf:=hAA.frozen;have HAA:=aq Jp;clear sA mA lA hAA Jp)));go_roundg (eJ ls-(k+1))
    case measure=>omega
    case rel=>exact⟨k+1,_,_,by omega,by go_num,by rw[HS.o];exact HAA.o,rfl⟩
   ·have q1:((x.kind:Int)==1)=fj:=by rw[hx];rfl
    have q2:((x.kind:Int)==2)=fj:=by rw[hx];rfl
    have q3:((x.kind:Int)==3)=fR:=by rw[hx];rfl
    have hne:=HI.o (.inl hx);obtain⟨gF,rfl,hcF,hrw⟩:=kT.o.lQ.NX hne;have Da:∀j (h:j<(#[vI o.last.slots,fX o.last.ends,kq (eK (lb[eJ o.fs-1]?.getD 0))]:tAV).size),W3.cell? ⟨gF,(eJ o.fs-1)*3+j,eL⟩=eK (#[vI o.last.slots,fX o.last.ends,kq (eK (lb[eJ o.fs-1]?.getD 0))]:tAV)[j]:=hrw W3 ax;have hn1:1<=eJ o.fs:=List.length_pos_iff.2 hne;have hi:((eJ o.fs:Int)-1)=((eJ o.fs-1:Nat):Int):=by omega
    have Tz:=aq (λW (m:aa af W3 W)=>kT.o.quiet m);have HOL:=rF Bl.o;have afl:=aq (Iz.o (by omega));have HOS:ah (cu o x=o.dQ (o.last.label x.name)):=by rw[ah,cu,iN9 (by omega),iN9 (by omega),iP9 hx]
    have Jq:=aq (Jm hne);have QU:=aq (λW m=>(Tz.o W m).lQ.ZB hne);have Ve:ah (∀W w',aa af W3 W->iW w' (lb[eJ o.fs-1]?.getD 0) (o.last.bX++[(x.name,o.last.slots)])->aa (λk=>k=lb[eJ o.fs-1]?.getD 0) W w'->jT w R A bm (eS (eK ⟨gF,0,eL⟩) (eJ o.fs) cF) lb (o.dQ {o.last with bX:=o.last.bX++[(x.name,o.last.slots)]}) w'):=λW w' m h1 h2=>(Tz.o W m).lab hne h1 h2;clear hx hrw;go_upto_region 12 with fail;generalize lb[eJ o.fs-1]?.getD 0=bl at *;generalize hn1':eJ o.fs-1=n1 at *;generalize hnn:eJ o.fs=nn at *;have HLD:ah (o.last.label x.name=if(gK o.last.bX x.name).isSome then o.last else{o.last with bX:=o.last.bX++[(x.name,o.last.slots)]}):=rfl;generalize afm:o.last=la at *;obtain⟨sl,en,las⟩:=la;dsimp only at *;have gG:ah (aa af W3 (W3.alloc (fL #[vI sl,fX en,kq (eK bl)] 164))):=aw;have c1':=((HB3.o.ai gG.o id).cell 1).trans afl.o;have hlk:=(QU.o _ gG.o).look x.name;have HPU:=aq (λh=>(QU.o _ gG.o).put x.name sl h);generalize gK las x.name=lo at *;cases lo with
    |some lv =>
     have KZ:ah (jT w R A bm (eS (eK ⟨gF,0,eL⟩) nn cF) lb (cu o x) (W3.alloc (fL #[vI sl,fX en,kq (eK bl)] 164))):=by rw[HOS.o,HLD.o];simp only[al,if_true];rw[Jq.o];exact Tz.o _ gG.o
     simp only[ab,al]at hlk;go_wp2_with (refine eH rfl 164 (.tmp 47) rfl gF (n1*3) rfl #[vI sl,fX en,kq (eK bl)] _ Da underlying164 rfl (by kernel_rfl) ?_);go_roundg (eJ ls-(k+1))
     case measure=>omega
     case rel=>exact⟨k+1,_,lb,by omega,by go_num,by rw[HS.o];exact KZ.o,rfl⟩
    |none =>
     obtain⟨w5,Yy,hl5,m5⟩:=HPU.o rfl;have KZ:ah (jT w R A bm (eS (eK ⟨gF,0,eL⟩) nn cF) lb (cu o x) w5):=by rw[HOS.o,HLD.o];exact Ve.o _ _ gG.o hl5 m5
     simp only[Option.getD_none,Option.isSome_none]at hlk;clear hl5 m5;go_wp2_with (refine eH rfl 164 (.tmp 47) rfl gF (n1*3) rfl #[vI sl,fX en,kq (eK bl)] _ Da underlying164 rfl (by kernel_rfl) ?_);go_roundg (eJ ls-(k+1))
     case measure=>omega
     case rel=>exact⟨k+1,_,lb,by omega,by go_num,by rw[HS.o];exact KZ.o,rfl⟩
   ·have q1:((x.kind:Int)==1)=fj:=by rw[hx];rfl
    have q2:((x.kind:Int)==2)=fj:=by rw[hx];rfl
    have q3:((x.kind:Int)==3)=fj:=by rw[hx];rfl
    have q4:((x.kind:Int)==4)=fR:=by rw[hx];rfl
    have hne:=HI.o (.inr hx);obtain⟨gF,rfl,hcF,hrw⟩:=kT.o.lQ.NX hne;have Da:∀j (h:j<(#[vI o.last.slots,fX o.last.ends,kq (eK (lb[eJ o.fs-1]?.getD 0))]:tAV).size),W3.cell? ⟨gF,(eJ o.fs-1)*3+j,eL⟩=eK (#[vI o.last.slots,fX o.last.ends,kq (eK (lb[eJ o.fs-1]?.getD 0))]:tAV)[j]:=hrw W3 ax;have hn1:1<=eJ o.fs:=List.length_pos_iff.2 hne;have hi:((eJ o.fs:Int)-1)=((eJ o.fs-1:Nat):Int):=by omega
    have Tz:=aq (λW (m:aa af W3 W)=>kT.o.quiet m);have HOL:=rF Bl.o;have HOS:ah (cu o x=o.dQ (o.last.code x.x.o)):=by rw[ah,cu,iN9 (by omega),iN9 (by omega),iN9 (by omega),iP9 hx]
    have afn:=aq (QP.o hx);have ZE:=aq (λW m=>HO4.o W (kT.o.lQ.md.trans m) hx);have hs2:=x.x.Aj;have Cd:ah (∀W,aa af W3 W->W.cell? ⟨gF,(eJ o.fs-1)*3,eL⟩=eK (vI o.last.slots)/\W.cell? ⟨gF,(eJ o.fs-1)*3+1,eL⟩=eK (fX o.last.ends)):=λW m=>⟨hrw W m 0 (by show 0<3;decide),hrw W m 1 (by show 1<3;decide)⟩
    have HGB:ah (∀W,aa af W3 W->∃cs,au W gF cs 164):=λW m=>by obtain⟨o',c',hv',hb'⟩:=(Tz.o W m).lQ.sl.view;obtain⟨g',cs',h1,h2,_⟩:=hb' hn1;injection hv' with e1 e2 e3;rw[h1]at e1;injection e1 with e1;injection e1 with e1;exact⟨cs',by rw[e1];exact h2⟩
    clear hx hrw HO4 QP Da;go_upto_region 17 with fail;generalize lb[eJ o.fs-1]?.getD 0=bl at *;generalize bs[x.x.k]?.getD 0=bo at *;have HRW:ah (∀W f,aa af W3 W->f.bX=o.last.bX->jT w R A bm (eS (eK ⟨gF,0,eL⟩) (eJ o.fs) cF) lb (o.dQ f) ((W.setCell ⟨gF,(eJ o.fs-1)*3,eL⟩ (vI f.slots)).setCell ⟨gF,(eJ o.fs-1)*3+1,eL⟩ (fX f.ends))):=λW f m hf=>(Tz.o W m).row hne hf;generalize hn1':eJ o.fs-1=n1 at *;generalize hnn:eJ o.fs=nn at *;have HFS:ah (o.last.code x.x.o={slots:=o.last.slots+x.x.o.slots,ends:=x.x.o.ends,bX:=o.last.bX}):=rfl;generalize afm:o.last=la at *;obtain⟨sl,en,las⟩:=la;dsimp only at *;go_upto_region 18 with fail;have fK:ah (aa af W3 W3.drew):=aN;refine bK 13 (by kernel_rfl) (by kernel_rfl) ?_;intro W hW;rw[<-hW]at fK;clear hW c0 a0 a1;obtain⟨d0,d1⟩:=Cd.o W fK.o;have e11:=((HB3.o.ai fK.o id).cell 11).trans afn.o;obtain⟨p1,p2,p3,p4,p5,p6,p7,p8,p9,p10,p11,CU,_⟩:=(ZE.o W fK.o).ex;have o2:=CU.cell 2;have o4:=CU.cell 4;obtain⟨csF,hgb⟩:=HGB.o W fK.o;have gf:=hgb.frozen;have gB:B≠gF:=λe=>(HB3.o.ai fK.o id).apart hgb (by decide) e;have gO:bo≠gF:=λe=>CU.apart hgb (by decide) e;have KZ:ah (jT w R A bm (eS (eK ⟨gF,0,eL⟩) nn cF) lb (cu o x) ((W.setCell ⟨gF,n1*3,eL⟩ (vI ((sl:Int)+(x.x.o.slots:Int)))).setCell ⟨gF,n1*3+1,eL⟩ (fX x.x.o.ends))):=by rw[HOS.o,HFS.o];exact HRW.o W {slots:=sl+x.x.o.slots,ends:=x.x.o.ends,bX:=las} fK.o rfl
    clear CU hgb;generalize x.x.o.slots=os at *;generalize x.x.o.ends=oe at *;simp only[List.take_succ_cons,cD,List.drop_succ_cons,List.drop_zero]
    repeat(go_big_quiet_step (fail))
    refine wpQuiet_nil ?_;go_wp2_with fail;go_roundg (eJ ls-(k+1))
    case measure=>omega
    case rel=>exact⟨k+1,_,lb,by omega,by go_num,by rw[HS.o];exact KZ.o,rfl⟩
  ·rw[nu.o k hlt]at HA;have a0:=HA.o.all.c0;have a1:=HA.o.all.c1;have r0:=HA.o.res.cell 0;have r1:=HA.o.res.cell 1;have rf:=HA.o.res.frozen;have HF:ah (dZ w bm (eS oF (eJ (aj ls).fs) cF) lb (aj ls) ((wr.setCell ⟨R,0,eL⟩ (kq (eK bm))).setCell ⟨R,1,eL⟩ (eS oF (eJ (aj ls).fs) cF))):=HA.o.lQ.keep HA.o.res (by decide) HA.o.lt.2.1 ((ax.bA _ _).bA _ _);have HRB:ah (au ((wr.setCell ⟨R,0,eL⟩ (kq (eK bm))).setCell ⟨R,1,eL⟩ (eS oF (eJ (aj ls).fs) cF)) R #[kq (eK bm),eS oF (eJ (aj ls).fs) cF] 108):=(HA.o.res.set 0 _).set 1 _;go_wp2_with fail;exact bodyPost_ret (results_cell_row results42 _ _ R 108 #[kq (eK bm),eS oF (eJ (aj ls).fs) cF] (0,0) _ rfl HRB.o underlying108 rfl (by kernel_rfl)) rfl (QO.o _ _ _ _ lb rfl HF.o)
def LV(n:bI)(most:Int):Bool:=(n.dC 9223372036854775808).isSome&&gh (1<=(n.dC 9223372036854775808).getD 0)&&gh ((n.dC 9223372036854775808).getD 0<=most)
def kD(a b c:bI):Bool:=LV a 8&&LV b 16&&LV c 8
theorem adw(W:tW):(Instr.index 341 (fY #[vI 8,vI 16,vI 8]) (vI 0)).run prog W=.ok (vI 8) W:=rfl
theorem adx(W:tW):(Instr.index 341 (fY #[vI 8,vI 16,vI 8]) (vI 1)).run prog W=.ok (vI 16) W:=rfl
theorem ady(W:tW):(Instr.index 341 (fY #[vI 8,vI 16,vI 8]) (vI 2)).run prog W=.ok (vI 8) W:=rfl
theorem ZF(kd:Nat)(nm:tBA)(a b c:bI)(w:tW):Calls prog 256 #[fY (iA kd nm a b c)] w λe w'=>e=.returned (fX (kD a b c))/\aa af w w':=by
 have HF:ah (kD a b c=(((a.dC 9223372036854775808).isSome&&gh (1<=(a.dC 9223372036854775808).getD 0)&&gh ((a.dC 9223372036854775808).getD 0<=8))&&((b.dC 9223372036854775808).isSome&&gh (1<=(b.dC 9223372036854775808).getD 0)&&gh ((b.dC 9223372036854775808).getD 0<=16))&&((c.dC 9223372036854775808).isSome&&gh (1<=(c.dC 9223372036854775808).getD 0)&&gh ((c.dC 9223372036854775808).getD 0<=8)))):=rfl;have NY:=aq (lV a);have HSB:=aq (lV b);have HSC:=aq (lV c);unfold bI.dY iA Jh at *;generalize kD a b c=r at *;generalize a.dC 9223372036854775808=sa at *;generalize gh (18446744073709551616<=a.v)=ag at *;generalize((a.v%18446744073709551616:Nat):Int)=av at *;generalize a.minus=am at *;generalize b.dC 9223372036854775808=sb at *;generalize gh (18446744073709551616<=b.v)=bg at *;generalize((b.v%18446744073709551616:Nat):Int)=bv at *;generalize b.minus=bm at *;generalize c.dC 9223372036854775808=sc at *;generalize gh (18446744073709551616<=c.v)=cg at *;generalize((c.v%18446744073709551616:Nat):Int)=cv at *;generalize c.minus=cm at *;generalize hcs:(#[vI kd,eR nm,fX am,vU av,fX ag,fX bm,vU bv,fX bg,fX cm,vU cv,fX cg,vO,vB (0:Nat),vB (0:Nat),.int .i16 0,vJ 0,vJ 0,eR ⟨#[]⟩,eR ⟨#[]⟩,fX fj]:tAV)=cs at *;have jI:=aq hcs.symm;clear hcs;have HB0:=aq (au.new w cs 160);have eW:ah (aa af w (w.alloc (fL cs 160))):=aw;go_in;go_upto_region 1 with fail;go_wp2_with fail;generalize w.alloc (fL cs 160)=w1 at *;generalize w.heap.size=B at *;go_loopg [8] 3 (λq v8 wx=>∃k:Nat,k<=3/\v8=vI k/\aa af w1 wx/\(1<=k->(sa.isSome&&gh (1<=sa.getD 0)&&gh (sa.getD 0<=8))=fR)/\(2<=k->(sb.isSome&&gh (1<=sb.getD 0)&&gh (sb.getD 0<=16))=fR)/\(3<=k->(sc.isSome&&gh (1<=sc.getD 0)&&gh (sc.getD 0<=8))=fR)/\q=3-k)
 case atStart=>exact⟨0,by omega,rfl,ax,λh=>absurd h (by omega),λh=>absurd h (by omega),λh=>absurd h (by omega),rfl⟩
 case round =>
  obtain⟨k,hk,rfl,hm,g1,g2,g3,rfl⟩:=hrel;have HM:=aq hm;have G1:=aq g1;have G2:=aq g2;have G3:=aq g3;clear hm g1 g2 g3;have hcase:k=0\/k=1\/k=2\/k=3:=by omega
  rcases hcase with rfl|rfl|rfl|rfl
  ·have pQ:=HB0.o.ai HM.o id;rw[jI.o]at pQ;have d0:=pQ.cell 2;have d1:=pQ.cell 3;have d2:=pQ.cell 4;clear pQ;have hix:=adw;go_wp2_with fail;refine(NY.o _).mono ?_;rintro e w2 ⟨rfl,m2⟩;have bP:=aq (HM.o.trans m2);clear m2 d0 d1 d2;cases sa with
   |none =>have xC:ah (((eL:Option Int).isSome&&gh (1<=(eL:Option Int).getD 0)&&gh ((eL:Option Int).getD 0<=8))=fj):=rfl;go_wp2_with fail;go_ret;exact⟨by rw[HF.o,xC.o];simp,eW.o.trans bP.o⟩
   |some v =>
    simp only[ab,al];by_cases h1:v<1
    ·have xC:ah (((eK v).isSome&&gh (1<=(eK v).getD 0)&&gh ((eK v).getD 0<=8))=fj):=by rw[ah];simp;omega
     go_wp2_with fail;go_ret;exact⟨by rw[HF.o,xC.o];simp,eW.o.trans bP.o⟩
    ·by_cases h2:8<v
     ·have xC:ah (((eK v).isSome&&gh (1<=(eK v).getD 0)&&gh ((eK v).getD 0<=8))=fj):=by rw[ah];simp;omega
      go_wp2_with fail;go_ret;exact⟨by rw[HF.o,xC.o];simp,eW.o.trans bP.o⟩
     ·have LD:ah (((eK v).isSome&&gh (1<=(eK v).getD 0)&&gh ((eK v).getD 0<=8))=fR):=by rw[ah];simp;omega
      go_wp2_with fail;go_roundg (3-1)
      case measure=>omega
      case rel=>exact⟨1,by omega,by go_num,bP.o,λ_=>LD.o,λh=>absurd h (by omega),λh=>absurd h (by omega),rfl⟩
  ·have pQ:=HB0.o.ai HM.o id;rw[jI.o]at pQ;have d0:=pQ.cell 5;have d1:=pQ.cell 6;have d2:=pQ.cell 7;clear pQ;have hix:=adx;go_wp2_with fail;refine(HSB.o _).mono ?_;rintro e w2 ⟨rfl,m2⟩;have bP:=aq (HM.o.trans m2);clear m2 d0 d1 d2;cases sb with
   |none =>have xC:ah (((eL:Option Int).isSome&&gh (1<=(eL:Option Int).getD 0)&&gh ((eL:Option Int).getD 0<=16))=fj):=rfl;go_wp2_with fail;go_ret;exact⟨by rw[HF.o,xC.o];simp,eW.o.trans bP.o⟩
   |some v =>
    simp only[ab,al];by_cases h1:v<1
    ·have xC:ah (((eK v).isSome&&gh (1<=(eK v).getD 0)&&gh ((eK v).getD 0<=16))=fj):=by rw[ah];simp;omega
     go_wp2_with fail;go_ret;exact⟨by rw[HF.o,xC.o];simp,eW.o.trans bP.o⟩
    ·by_cases h2:16<v
     ·have xC:ah (((eK v).isSome&&gh (1<=(eK v).getD 0)&&gh ((eK v).getD 0<=16))=fj):=by rw[ah];simp;omega
      go_wp2_with fail;go_ret;exact⟨by rw[HF.o,xC.o];simp,eW.o.trans bP.o⟩
     ·have LD:ah (((eK v).isSome&&gh (1<=(eK v).getD 0)&&gh ((eK v).getD 0<=16))=fR):=by rw[ah];simp;omega
      go_wp2_with fail;go_roundg (3-2)
      case measure=>omega
      case rel=>exact⟨2,by omega,by go_num,bP.o,λ_=>G1.o (by omega),λ_=>LD.o,λh=>absurd h (by omega),rfl⟩
  ·have pQ:=HB0.o.ai HM.o id;rw[jI.o]at pQ;have d0:=pQ.cell 8;have d1:=pQ.cell 9;have d2:=pQ.cell 10;clear pQ;have hix:=ady;go_wp2_with fail;refine(HSC.o _).mono ?_;rintro e w2 ⟨rfl,m2⟩;have bP:=aq (HM.o.trans m2);clear m2 d0 d1 d2;cases sc with
   |none =>have xC:ah (((eL:Option Int).isSome&&gh (1<=(eL:Option Int).getD 0)&&gh ((eL:Option Int).getD 0<=8))=fj):=rfl;go_wp2_with fail;go_ret;exact⟨by rw[HF.o,xC.o];simp,eW.o.trans bP.o⟩
   |some v =>
    simp only[ab,al];by_cases h1:v<1
    ·have xC:ah (((eK v).isSome&&gh (1<=(eK v).getD 0)&&gh ((eK v).getD 0<=8))=fj):=by rw[ah];simp;omega
     go_wp2_with fail;go_ret;exact⟨by rw[HF.o,xC.o];simp,eW.o.trans bP.o⟩
    ·by_cases h2:8<v
     ·have xC:ah (((eK v).isSome&&gh (1<=(eK v).getD 0)&&gh ((eK v).getD 0<=8))=fj):=by rw[ah];simp;omega
      go_wp2_with fail;go_ret;exact⟨by rw[HF.o,xC.o];simp,eW.o.trans bP.o⟩
     ·have LD:ah (((eK v).isSome&&gh (1<=(eK v).getD 0)&&gh ((eK v).getD 0<=8))=fR):=by rw[ah];simp;omega
      go_wp2_with fail;go_roundg (3-3)
      case measure=>omega
      case rel=>exact⟨3,by omega,by go_num,bP.o,λ_=>G1.o (by omega),λ_=>G2.o (by omega),λ_=>LD.o,rfl⟩
  ·go_wp2_with fail;go_ret;exact⟨by rw[HF.o,G1.o (by omega),G2.o (by omega),G3.o (by omega)];rfl,eW.o.trans HM.o⟩
structure PR where
 rest:tLB
 bad:Bool
def dK(n:Nat)(r:PR):tLB×PR:=if eJ r.rest<n then(r.rest,⟨[],fR⟩)else(r.rest.take n,⟨r.rest.drop n,r.bad⟩)
def oneP(r:PR):Nat×PR:=match r.rest with
 |[]=>(0,⟨[],fR⟩)
 |b::l=>(b.toNat,⟨l,r.bad⟩)
def aO(c:Bool)(r:PR):PR:=⟨r.rest,r.bad||!c⟩
def jE(r:PR):Nat×PR:=((oneP r).1+256*(oneP (oneP r).2).1,(oneP (oneP r).2).2)
def dV(r:PR):tLB×PR:=((dK (oneP r).1 (oneP r).2).1,aO (nameB (dK (oneP r).1 (oneP r).2).1) (dK (oneP r).1 (oneP r).2).2)
def dP(most:Nat)(r:PR):Nat×PR:=((oneP r).1,aO (gh (1<=(oneP r).1)&&gh ((oneP r).1<=most)) (oneP r).2)
structure aB where
 name:tLB
 key:Nat
 value:Nat
 entries:Nat
def aB.cells(m:aB):tLV:=[eR (T m.name),vB m.key,vB m.value,vB m.entries]
def ltL(a b:tLB):Bool:=jA (T a) (T b)
def ZG(r:PR):aB×PR :=
 let n:=dV r;let k:=dP 8 n.2;let v:=dP 16 k.2;let e:=dP 8 v.2
 (⟨n.1,k.1,v.1,e.1⟩,e.2)
def mapsP:Nat->PR->tLB->List aB->List aB×PR
 |0,r,_,acc=>(acc,r)
 |k+1,r,last,acc=>mapsP k (aO (ltL last (ZG r).1.name) (ZG r).2) (ZG r).1.name (acc++[(ZG r).1])
structure gL where
 name:tLB
 slots:Nat
def Jr(r:PR):gL×PR:=(⟨(dV r).1,(jE (dV r).2).1⟩,(jE (dV r).2).2)
def headsP:Nat->PR->tLB->Nat->List gL->List gL×Nat×PR
 |0,r,_,all,acc=>(acc,all,r)
 |k+1,r,last,all,acc=>headsP k (aO (ltL last (Jr r).1.name) (Jr r).2) (Jr r).1.name (all+(Jr r).1.slots) (acc++[(Jr r).1])
structure PI where
 k:Nat
 d:Nat
 s:Nat
 jump:Int
 num:Int
 high:Int
 name:tLB
def zj:fO:=⟨0,[],[],0,fj,fj,0,fj⟩
def PI.o(x:PI):fO:=az[x.k]?.getD zj
def PI.ins(bs:tLN)(x:PI):dM:=⟨vP (bs[x.k]?.getD 0),x.d,x.s,x.jump,x.num,x.high,ByteArray.empty,T x.name⟩
def PI.bD(x:PI):Nat:=if x.s=1 then x.o.bD else 0
def PI.target(x:PI)(slot:Nat):Int:=(slot:Int)+x.o.slots+x.jump
def fG(n:Nat):Int:=if n<32768 then n else(n:Int)-65536
def Db(n:Nat):Int:=if n<2147483648 then n else(n:Int)-4294967296
def at'(l:tLB)(k:Nat):Nat:=(l[k]?.getD 0).toNat
def cZ(l:tLB):Int:=Db (at' l 0+256*at' l 1+65536*at' l 2+16777216*at' l 3)
def lZ(c:Nat):Option Nat:=az.findIdx? (λo=>o.code==c)
def jJ(l:tLB):Option PI :=
 if eJ l<8 then eL else
 match lZ (at' l 0)with
 |none=>eL
 |some k =>
  let o:=az[k]?.getD zj
  if eJ l<o.slots*8 then eL
  else
   let x:PI:=⟨k,at' l 1%16,at' l 1/16,fG (at' l 2+256*at' l 3),cZ (l.drop 4),if 1<o.slots then cZ (l.drop 12)else 0,[]⟩
   if 1<o.slots/\(l.drop 8).take 4≠[0,0,0,0]then eL
   else if o.needs (x.ins [])then eK x else eL
def codeL(sl:tLB)(n:Nat):Nat->Nat->List PI->List Bool->Option (List PI×List Bool)
 |0,_,_,_=>eL
 |f+1,at_,acc,st=>if at_<n then
   (match jJ (sl.drop (at_*8))with
   |none=>eL
   |some x=>codeL sl n f (at_+x.o.slots) (acc++[x]) (st.set at_ fR))
  else eK (acc,st)
def leadP(st:List Bool):Nat->List PI->Bool
 |_,[]=>fR
 |slot,x::l=>(if x.o.jumps then gh (0<=x.target slot)&&(st[(x.target slot).toNat]?.getD fj)else fR)&&leadP st (slot+x.o.slots) l
def Bn(l:List PI):Bool:=match l.getLast? with
 |none=>fj
 |some x=>x.o.ends
def codeP(sl:tLB)(r:PR):List PI×PR :=
 match codeL sl (eJ sl/8) (eJ sl/8+1) 0 [] (List.replicate (eJ sl/8) fj)with
 |none=>([],⟨r.rest,fR⟩)
 |some (l,st)=>(l,aO (leadP st 0 l) (aO (Bn l) r))
structure bz where
 name:tLB
 code:List PI
def codesP:List gL->PR->List bz->List bz×PR
 |[],r,acc=>(acc,r)
 |h::l,r,acc=>codesP l (codeP (dK (h.slots*8) r).1 (dK (h.slots*8) r).2).2 (acc++[⟨h.name,(codeP (dK (h.slots*8) r).1 (dK (h.slots*8) r).2).1⟩])
def jU(r:PR):List bz×PR :=
 let c:=oneP r
 let h:=headsP c.1 (aO (gh (c.1<=16)) c.2) [] 0 []
 let q:=aO (gh (h.2.1<=200)) h.2.2
 if q.bad then([],q)else codesP h.1 q []
def jd(ms:List aB)(nm:tLB):Bool:=ms.any (λm=>m.name==nm)
def Ak(n slot:Nat)(r:PR):tLB×PR :=
 let a:=oneP r;let q:=aO (gh (a.1=n)) a.2;let b:=jE q;dV (aO (gh (b.1=slot)) b.2)
def refsI(ms:List aB)(n:Nat):Nat->List PI->Int->PR->List PI->List PI×Int×PR
 |_,[],left,r,acc=>(acc,left,r)
 |slot,x::l,left,r,acc =>
  if x.bD≠0 then
   refsI ms n (slot+x.o.slots) l (left-1) (aO (gh (x.bD≠2)||jd ms (Ak n slot r).1) (aO (gh (x.num=0)) (Ak n slot r).2)) (acc++[{x with name:=(Ak n slot r).1}])
  else refsI ms n (slot+x.o.slots) l left r (acc++[x])
def refsF(ms:List aB):List bz->List bz->Int->PR->List bz×Int×PR
 |done,[],left,r=>(done,left,r)
 |done,f::l,left,r=>refsF ms (done++[⟨f.name,(refsI ms (eJ done) 0 f.code left r []).1⟩]) l (refsI ms (eJ done) 0 f.code left r []).2.1 (refsI ms (eJ done) 0 f.code left r []).2.2
def Fz(ms:List aB)(fs:List bz)(r:PR):List bz×PR :=
 let h:=refsF ms [] fs ((jE r).1:Int) (jE r).2
 (h.1,aO (gh (h.2.1=0)) h.2.2)
def iC(s:tLB):List aB×List bz×PR :=
 let a:=dK 4 ⟨s,fj⟩
 let r1:=aO (a.1==[83,80,79,76]) a.2
 let b:=oneP r1
 let r2:=aO (gh (b.1=1)) b.2
 let c:=oneP r2
 let m:=mapsP c.1 (aO (gh (c.1<=8)) c.2) [] []
 let f:=jU m.2
 let g:=Fz m.1 f.1 f.2
 (m.1,g.1,aO (g.2.rest==[]) g.2)
def aU(l:List PI):Nat:=(l.map (·.o.slots)).sum
theorem NZ(s:tBA):eJ (BL s)=s.size:=rfl
theorem abB(s:tBA)(i:Nat)(h:i<s.size):(BL s)[i]'(by rw[NZ];exact h)=s[i]:=rfl
theorem LX(b:Bool):b=fR\/b=fj:=by cases b<;>simp
theorem xD(l:tLB)(b:Nat):at' l b<256:=by unfold at';exact UInt8.toNat_lt _
theorem Vf(n:Nat)(h:n<4294967296):-2147483648<=Db n/\Db n<=2147483647:=by unfold Db;split<;>omega
theorem Js(n:Nat)(h:n<65536):-32768<=fG n/\fG n<=32767:=by unfold fG;split<;>omega
theorem zk(l:tLB):-2147483648<=cZ l/\cZ l<=2147483647:=by have h0:=xD l 0;have h1:=xD l 1;have h2:=xD l 2;have h3:=xD l 3;exact Vf _ (by omega)

section
variable {P : lj} {ops : Array iz} {md : Region.Mode} {C : World -> Prop} {N : World -> World -> Prop}
def eU(md:Region.Mode)(o:iz):tLN:=(o.after.toList.filter (λe=>Region.binds md e)).map (·.on)
def Al(P:lj)(ops:Array iz)(N:tW->tW->Prop)(R:fa->tW->Prop)(o:iz)(a:Act)(w:tW):Prop :=
 if cj o (pw ops a.tmps)=fR then(∀K:Act->tW->Prop,(∀a' w' v,a'=a.put o.dst v->N w w'->R v w'->K a' w')->o.wp P a w K (λ_ _ _=>False))else R undef w
theorem Dc(a:Act)(d:Option Tmp)(v:fa)(t:Nat)(h:d≠eK t):(a.put d v).tmps[t]?=a.tmps[t]?:=by
 unfold Act.put;split
 ·rename_i d'
  have:d'≠t:=λe=>h (by rw[e]);simp[this]
 ·rfl
theorem De(a:Act)(d:Option Tmp)(v:fa):(a.put d v).tmps.size=a.tmps.size:=by unfold Act.put;split<;>simp
theorem put_defers(a:Act)(d:Option Tmp)(v:fa):(a.put d v).defers=a.defers:=by unfold Act.put;split<;>rfl
theorem zl(a:Act)(t:Nat)(v:fa)(h:t<a.tmps.size):(a.put (eK t) v).tmps[t]?=eK v:=by unfold Act.put;simp[h]
def chkI(md:Region.Mode)(l:List iz)(n:Nat):Bool :=
 (List.range (eJ l)).all λi=>match l[i]? with
  |none=>fR
  |some o=>(eU md o).all (λj=>gh (j<i))&&(match o.dst with|none=>fR|some d=>gh (d<n)) &&
   (List.range (eJ l)).all λj=>match l[j]? with
    |none=>fR
    |some o'=>(j==i)||((match o.dst with|none=>fR|some d=>!(o'.dst==eK d)) &&
      (match o'.dst with|none=>fR|some t=>!((o.looksAt l.toArray).contains t)||(if j<i then(eU md o).contains j else(eU md o').contains i)))
structure Vg(md:Region.Mode)(l:List iz)(n:Nat):Prop where
 low:∀(i:Nat) (o:iz),l[i]?=eK o->∀j∈eU md o,j<i
 dst:∀(i:Nat) (o:iz) (d:Tmp),l[i]?=eK o->o.dst=eK d->d<n
 one:∀(i:Nat) (o:iz) (j:Nat) (o':iz) (d:Tmp),l[i]?=eK o->l[j]?=eK o'->o.dst=eK d->o'.dst=eK d->j=i
 rd:∀(i:Nat) (o:iz) (j:Nat) (o':iz) (t:Tmp),l[i]?=eK o->l[j]?=eK o'->j≠i->o'.dst=eK t->t∈o.looksAt l.toArray->(j<i->j∈eU md o)/\(i<j->i∈eU md o')
theorem Vh{l:List iz}{n:Nat}(h:chkI md l n=fR):Vg md l n:=by
 unfold chkI at h;rw[List.all_eq_true]at h
 have key:∀(i:Nat) (o:iz),l[i]?=eK o->(((eU md o).all (λj=>gh (j<i))&&(match o.dst with|none=>fR|some d=>gh (d<n))) &&
   (List.range (eJ l)).all λj=>match l[j]? with
    |none=>fR
    |some o'=>(j==i)||((match o.dst with|none=>fR|some d=>!(o'.dst==eK d)) &&
      (match o'.dst with|none=>fR|some t=>!((o.looksAt l.toArray).contains t)||(if j<i then(eU md o).contains j else(eU md o').contains i))))=fR:=by
  intro i o hi;have h1:=h i (List.mem_range.2 (List.getElem?_eq_some_iff.1 hi).1)
  simpa only[hi]using h1
 have k2:∀(i:Nat) (o:iz) (j:Nat) (o':iz),l[i]?=eK o->l[j]?=eK o'->j≠i->((match o.dst with|none=>fR|some d=>!(o'.dst==eK d)) &&
      (match o'.dst with|none=>fR|some t=>!((o.looksAt l.toArray).contains t)||(if j<i then(eU md o).contains j else(eU md o').contains i)))=fR:=by
  intro i o j o' hi hj hne;have h1:=key i o hi;rw[bh]at h1;have h2:=List.all_eq_true.1 h1.2 j (List.mem_range.2 (List.getElem?_eq_some_iff.1 hj).1);simp only[hj]at h2;have:(j==i)=fj:=by simp[hne]
  rw[this,Bool.false_or]at h2;exact h2
 refine⟨?_,?_,?_,?_⟩
 ·intro i o hi j hj;have h1:=key i o hi;simp only[bh]at h1
  simpa using List.all_eq_true.1 h1.1.1 j hj
 ·intro i o d hi hd;have h1:=key i o hi;simp only[bh,hd]at h1
  simpa using h1.1.2
 ·intro i o j o' d hi hj hd hd';by_cases hne:j=i
  ·exact hne
  ·have h1:=k2 i o j o' hi hj hne;rw[bh]at h1;have h2:=h1.1;rw[hd,hd']at h2;simp at h2
 ·intro i o j o' t hi hj hne hd ht;have h1:=k2 i o j o' hi hj hne;rw[bh]at h1;have h2:=h1.2;have hc:(o.looksAt l.toArray).contains t=fR:=by simpa using ht
  simp only[hd,hc,Bool.not_true,Bool.false_or]at h2;constructor
  ·intro hlt;rw[iP9 hlt]at h2
   simpa using h2
  ·intro hlt;rw[iN9 (by omega)]at h2
   simpa using h2
def unlF(f:Nat->Bool):Nat->Nat
 |0=>0
 |n+1=>unlF f n+(if f n then 0 else 1)
theorem Jt(f:Nat->Bool):∀n,unlF f n=0->∀j,j<n->f j=fR
 |0,_,j,hj=>absurd hj (bj _)
 |n+1,h,j,hj=>by
  simp only[unlF]at h;by_cases e:j=n
  ·subst e;cases hf:f j with
   |true=>rfl
   |false=>simp[hf]at h
  ·exact Jt f n (by omega) j (by omega)
theorem Df(f g:Nat->Bool):∀n,(∀j,j<n->f j=g j)->unlF f n=unlF g n
 |0,_=>rfl
 |n+1,h=>by simp only[unlF];rw[Df f g n (λj hj=>h j (by omega)),h n (by omega)]
theorem Ju(f g:Nat->Bool)(i:Nat)(hf:f i=fj)(hg:g i=fR)(he:∀j,j≠i->g j=f j):∀n,i<n->unlF f n=unlF g n+1
 |0,h=>absurd h (bj _)
 |n+1,h=>by
  simp only[unlF];by_cases e:i=n
  ·subst e;rw[Df g f i (λj hj=>he j (by omega)),hf,hg];simp
  ·rw[Ju f g i hf hg he n (by omega),he n (by omega)];omega
theorem ZH(n:Nat):unlF (λ_=>fj) n=n:=by
 induction n with
 |zero=>rfl
 |succ n ih=>simp only[unlF,ih];rfl
theorem Jv{R:fa->tW->Prop}{o:iz}{a:Act}{w:tW}(h:∀K:Act->tW->Prop,(∀a' w' v,a'=a.put o.dst v->N w w'->R v w'->K a' w')->o.wp P a w K (λ_ _ _=>False)):lL P o a w (λu w'=>∃v,a.put o.dst u=a.put o.dst v/\N w w'/\R v w'):=by
 have h1:=h (λa' w'=>∃v,a'=a.put o.dst v/\N w w'/\R v w') (λa' w' v h1 h2 h3=>⟨v,h1,h2,h3⟩);unfold Oper.wp at h1;unfold lL;generalize(oX a.eval o).run P w=r at *;cases r with
 |ok n w' =>
  cases n<;>simp only[Oper.upon]at h1<;>simp only[effUpon]
  case value u=>exact h1
  case skip=>exact h1
  case defer d =>obtain⟨v,h2,_⟩:=h1;have h3:=congrArg Act.defers h2;rw[put_defers,put_defers]at h3;have:=congrArg cI h3;simp at this
  case enter f args =>
   refine h1.mono λe w'' he=>?_;cases e with
   |returned v=>exact⟨v,rfl,he⟩
   |panicked c=>exact he.elim
   |outgrown=>obtain⟨_,_,hf⟩:=he;exact hf.elim
  case row row args=>exact h1
 |halt x w'=>cases x<;>simp only[Oper.upon]at h1
theorem QV{o:iz}{a:Act}{w:tW}{K:Act->tW->Prop}{Q:nB->Act->tW->Prop}(h:lL P o a w (λv w'=>K (a.put o.dst v) w')):o.wp P a w K Q:=by
 unfold lL at h;unfold Oper.wp;generalize(oX a.eval o).run P w=r at *;cases r with
 |ok n w' =>
  cases n<;>simp only[effUpon]at h<;>simp only[Oper.upon]
  case value u=>exact h
  case skip=>exact h
  case enter f args=>exact h.mono λe w'' ⟨v,he,hk⟩=>by subst he;exact hk
  case row row args=>exact h
 |halt x w'=>simp only[effUpon]at h
theorem QW{a a':Act}{o:iz}{ops:Array iz}(h:∀t∈o.looksAt ops,a.tmps[t]?=a'.tmps[t]?):∀x∈o.op.operands,a.eval x=a'.eval x:=by
 intro x hx;cases x with
 |tmp t =>have ht:t∈o.looksAt ops:=List.mem_append_left _ (List.mem_filterMap.2 ⟨.tmp t,by simpa using hx,rfl⟩);have:=h t ht;simp only[Act.eval,Array.getD_eq_getD_getElem?,this]
 |_=>rfl
theorem Jw{a a':Act}{o:iz}{ops:Array iz}(h:∀t∈o.looksAt ops,a.tmps[t]?=a'.tmps[t]?):cj o (pw ops a.tmps)=cj o (pw ops a'.tmps):=by
 unfold cj;cases hg:o.guard with
 |none=>rfl
 |some g =>
  obtain⟨j,want⟩:=g;simp only;unfold pw;cases hd:(ops[j]?).bind (·.dst)with
  |none=>rfl
  |some d =>have ht:d∈o.looksAt ops:=List.mem_append_right _ (by simp[hg,hd]);simp only[Option.bind_some,h d ht]
theorem kW{listed:Array Bool}{i:Nat}(h:i<listed.size)(d:Bool):(listed.setIfInBounds i fR).getD i d=fR:=by simp[h]
theorem Dg{listed:Array Bool}{i:Nat}(h:i<listed.size)(d d':Bool):listed.getD i d=listed.getD i d':=by simp[h]
end
abbrev LW:=(Nat->Bool)->tW->Prop
abbrev iY:=fa ⊕ ((Nat->Bool)->fa->tW->Prop)
section
variable {P : lj} {ops : Array iz} {md : Region.Mode} {C : LW} {N : Nat -> World -> World -> Prop}
def iJ(L:Nat->Bool)(i:Nat):Nat->Bool:=λj=>if j=i then fR else L j
def rH(F:List LW):tLN->LW
 |[],_,_=>True
 |j::ds,L,w=>(F[j]?.getD (λ_ _=>True)) L w/\rH F ds L w
def LY:List LW->LW
 |[],_,_=>True
 |f::l,L,w=>f L w/\LY l L w
def relT:iY->(Nat->Bool)->fa->tW->Prop
 |.inl v=>λ_ u _=>u=v
 |.inr R=>R
def ZI(x:fa):iY->fa
 |.inl v=>v
 |.inr _=>x
def zm(x:fa):iY->LW
 |.inl _=>λ_ _=>True
 |.inr R=>λL w=>R L x w
def rJ(md:Region.Mode)(ops:Array iz)(k:Nat)(L:Nat->Bool):Prop:=L k=fj/\∀(j:Nat) (o:iz),ops[j]?=eK o->(eU md o).contains k=fR->L j=fj
def sS(P:lj)(ops:Array iz)(md:Region.Mode)(C:LW)(N:Nat->tW->tW->Prop)(Q:Act->tW->Prop):Nat->List iY->List iz->Act->List LW->Prop
 |_,_,[],a,F=>∀(L:Nat->Bool) (w:tW),(∀j,j<ops.size->L j=fR)->C L w->LY F L w->Q a w
 |_,[],_::_,_,_=>False
 |k,.inl v::ss,o::rest,a,F=>(∀(L:Nat->Bool) (w:tW),rJ md ops k L->C L w->rH F (eU md o) L w->Al P ops (N k) (λ(u:fa) (_:tW)=>u=v) o a w)/\sS P ops md C N Q (k+1) ss rest (a.put o.dst v) (F++[λ(_:Nat->Bool) (_:tW)=>True])
 |k,.inr R::ss,o::rest,a,F=>(∀(L:Nat->Bool) (w:tW),rJ md ops k L->C L w->rH F (eU md o) L w->Al P ops (N k) (R (iJ L k)) o a w)/\∀x,sS P ops md C N Q (k+1) ss rest (a.put o.dst x) (F++[λL w=>R L x w])
def factsT(x:Nat->fa):Nat->List iY->Nat->List LW
 |_,_,0=>[]
 |_,[],_+1=>[]
 |k,s::ss,i+1=>zm (x k) s::factsT x (k+1) ss i
def putT(x:Nat->fa):Nat->List iY->List iz->Nat->Act->Act
 |_,_,_,0,a=>a
 |_,[],_,_+1,a=>a
 |_,_,[],_+1,a=>a
 |k,s::ss,o::l,i+1,a=>putT x (k+1) ss l i (a.put o.dst (ZI (x k) s))
theorem Am{Q:Act->tW->Prop}:∀{l:List iz} {k:Nat} {ss:List iY} {a:Act} {F:List LW},sS P ops md C N Q k ss l a F->eJ l<=eJ ss
 |[],_,_,_,_,_=>b9 _
 |_::_,_,[],_,_,h=>h.elim
 |_::_,_,.inl _::_,_,_,h=>Nat.succ_le_succ (Am h.2)
 |_::_,_,.inr _::_,_,_,h=>Nat.succ_le_succ (Am (h.2 undef))
theorem Dh{Q:Act->tW->Prop}(x:Nat->fa):∀{l:List iz} {ss:List iY} {a:Act} {F:List LW} (k:Nat),sS P ops md C N Q k ss l a F -> ∀(i:Nat) (o:iz) (s:iY),l[i]?=eK o->ss[i]?=eK s->∀(L:Nat->Bool) (w:tW),rJ md ops (k+i) L->C L w->rH (F++factsT x k ss i) (eU md o) L w->Al P ops (N (k+i)) (λu w=>relT s (iJ L (k+i)) u w) o (putT x k ss l i a) w
 |[],_,_,_,_,_,i,_,_,ho,_,_,_,_,_,_=>by simp at ho
 |_::_,[],_,_,_,h,_,_,_,_,_,_,_,_,_,_=>h.elim
 |o0::l,.inl v::ss,a,F,k,h,i,o,s,ho,hs,L,w,hn,hC,hk=>by
  cases i with
  |zero =>simp only[List.getElem?_cons_zero,Option.some.injEq]at ho hs;subst ho hs;simp only[factsT,cy]at hk;simp only[putT];exact h.1 L w hn hC hk
  |succ i =>
   simp only[List.getElem?_cons_succ]at ho hs;simp only[putT];have e:k+(i+1)=k+1+i:=by omega
   rw[e]at hn ⊢;refine Dh x (k+1) h.2 i o s ho hs L w hn hC ?_
   simpa [factsT,zm]using hk
 |o0::l,.inr R::ss,a,F,k,h,i,o,s,ho,hs,L,w,hn,hC,hk=>by
  cases i with
  |zero =>simp only[List.getElem?_cons_zero,Option.some.injEq]at ho hs;subst ho hs;simp only[factsT,cy]at hk;simp only[putT];exact h.1 L w hn hC hk
  |succ i =>
   simp only[List.getElem?_cons_succ]at ho hs;simp only[putT];have e:k+(i+1)=k+1+i:=by omega
   rw[e]at hn ⊢;refine Dh x (k+1) (h.2 (x k)) i o s ho hs L w hn hC ?_
   simpa [factsT,zm]using hk
theorem Ao{Q:Act->tW->Prop}(x:Nat->fa):∀{l:List iz} {ss:List iY} {a:Act} {F:List LW} (k:Nat),sS P ops md C N Q k ss l a F -> ∀(L:Nat->Bool) (w:tW),(∀j,j<ops.size->L j=fR)->C L w->LY (F++factsT x k ss (eJ l)) L w->Q (putT x k ss l (eJ l) a) w
 |[],ss,a,F,k,h,L,w,hL,hC,hk=>by
  have h':∀(L:Nat->Bool) (w:tW),(∀j,j<ops.size->L j=fR)->C L w->LY F L w->Q a w:=by
   cases ss with
   |nil=>exact h
   |cons s ss=>cases s<;>exact h
  simp only[List.length_nil,factsT,cy]at hk
  simpa [putT]using h' L w hL hC hk
 |_::_,[],_,_,_,h,_,_,_,_,_=>h.elim
 |o0::l,.inl v::ss,a,F,k,h,L,w,hL,hC,hk=>by
  simp only[cW,putT];refine Ao x (k+1) h.2 L w hL hC ?_
  simpa [factsT,zm]using hk
 |o0::l,.inr R::ss,a,F,k,h,L,w,hL,hC,hk=>by
  simp only[cW,putT];refine Ao x (k+1) (h.2 (x k)) L w hL hC ?_
  simpa [factsT,zm]using hk
theorem Ap(x:Nat->fa):∀(ss:List iY) (k i j:Nat),(factsT x k ss i)[j]?=if j<i then(ss[j]?).map (zm (x (k+j)))else eL
 |[],k,0,j=>by simp[factsT]
 |[],k,i+1,j=>by simp[factsT]
 |s::ss,k,0,j=>by simp[factsT]
 |s::ss,k,i+1,0=>by simp[factsT]
 |s::ss,k,i+1,j+1=>by
  rw[factsT,List.getElem?_cons_succ,Ap x ss (k+1) i j];have:k+1+j=k+(j+1):=by omega
  simp[this]
theorem FB(F:List LW)(L:Nat->Bool)(w:tW):∀(ds:tLN),(∀j∈ds,∀f:LW,F[j]?=eK f->f L w)->rH F ds L w
 |[],_=>trivial
 |j::ds,h=>⟨by
   cases hf:F[j]? with
   |none=>trivial
   |some f=>exact h j (by simp) f hf,FB F L w ds (λi hi=>h i (List.mem_cons_of_mem _ hi))⟩
theorem N0(L:Nat->Bool)(w:tW):∀(F:List LW),(∀(j:Nat) (f:LW),F[j]?=eK f->f L w)->LY F L w
 |[],_=>trivial
 |f::F,h=>⟨h 0 f (by simp),N0 L w F (λj g hg=>h (j+1) g (by simpa using hg))⟩
theorem Aq(x:Nat->fa):∀(i:Nat) (l:List iz) (ss:List iY) (k:Nat) (a:Act),(putT x k ss l i a).tmps.size=a.tmps.size
 |0,_,_,_,_=>by simp[putT]
 |i+1,_,[],_,_=>by simp[putT]
 |i+1,[],_::_,_,_=>by simp[putT]
 |i+1,o::l,s::ss,k,a=>by rw[putT,Aq x i l ss,De]
theorem Bo(x:Nat->fa):∀(i:Nat) (l:List iz) (ss:List iY) (k:Nat) (a:Act),(putT x k ss l i a).defers=a.defers
 |0,_,_,_,_=>by simp[putT]
 |i+1,_,[],_,_=>by simp[putT]
 |i+1,[],_::_,_,_=>by simp[putT]
 |i+1,o::l,s::ss,k,a=>by rw[putT,Bo x i l ss,put_defers]
theorem rM(x:Nat->fa)(t:Nat):∀(i:Nat) (l:List iz) (ss:List iY) (k:Nat) (a:Act),(∀(j:Nat) (o:iz),j<i->l[j]?=eK o->o.dst≠eK t)->(putT x k ss l i a).tmps[t]?=a.tmps[t]?
 |0,_,_,_,_,_=>by simp[putT]
 |i+1,_,[],_,_,_=>by simp[putT]
 |i+1,[],_::_,_,_,_=>by simp[putT]
 |i+1,o::l,s::ss,k,a,h=>by rw[putT,rM x t i l ss _ _ (λj o' hj ho=>h (j+1) o' (by omega) (by simpa using ho)),Dc _ _ _ _ (h 0 o (by omega) rfl)]
theorem GN(x:Nat->fa)(t:Nat):∀(i:Nat) (l:List iz) (ss:List iY) (k:Nat) (a:Act) (j:Nat) (o:iz) (s:iY),j<i->l[j]?=eK o->ss[j]?=eK s->o.dst=eK t -> (∀(j':Nat) (o':iz),j'<i->j'≠j->l[j']?=eK o'->o'.dst≠eK t)->t<a.tmps.size->(putT x k ss l i a).tmps[t]?=eK (ZI (x (k+j)) s)
 |0,_,_,_,_,j,_,_,hj,_,_,_,_,_=>absurd hj (bj _)
 |i+1,_,[],_,_,j,_,_,_,_,hs,_,_,_=>by simp at hs
 |i+1,[],_::_,_,_,j,_,_,_,ho,_,_,_,_=>by simp at ho
 |i+1,o0::l,s0::ss,k,a,0,o,s,_,ho,hs,hd,hx,ht=>by simp only[List.getElem?_cons_zero,Option.some.injEq]at ho hs;subst ho hs;rw[putT,rM x t i l ss _ _ (λj o' hj ho=>hx (j+1) o' (by omega) (by omega) (by simpa using ho)),hd,zl _ _ _ ht];rfl
 |i+1,o0::l,s0::ss,k,a,j+1,o,s,hj,ho,hs,hd,hx,ht=>by
  simp only[List.getElem?_cons_succ]at ho hs;rw[putT,GN x t i l ss (k+1) _ j o s (by omega) ho hs hd (λj' o' h1 h2 h3=>hx (j'+1) o' (by omega) (by omega) (by simpa using h3)) (by rw[De];exact ht)];have:k+1+j=k+(j+1):=by omega
  rw[this]
def IA(listed:Array Bool):Nat->Bool:=λj=>listed.getD j fj
structure GP(md:Region.Mode)(C:LW)(ss:List iY)(l:List iz)(a0:Act)(listed:Array Bool)(a:Act)(w:tW)(x:Nat->fa):Prop where
 c:C (IA listed) w
 sz:a.tmps.size=a0.tmps.size
 df:a.defers=a0.defers
 ls:listed.size=eJ l
 val:∀(j:Nat) (o:iz) (d:Tmp) (s:iY),listed.getD j fj=fR->l[j]?=eK o->ss[j]?=eK s->o.dst=eK d->a.tmps[d]?=eK (ZI (x j) s)
 fact:∀(j:Nat) (s:iY),listed.getD j fj=fR->ss[j]?=eK s->zm (x j) s (IA listed) w
 old:∀d:Tmp,(∀(j:Nat) (o:iz),listed.getD j fj=fR->l[j]?=eK o->o.dst≠eK d)->a.tmps[d]?=a0.tmps[d]?
 shut:∀(j:Nat) (o:iz),listed.getD j fj=fR->l[j]?=eK o->∀i∈eU md o,listed.getD i fj=fR
theorem GP.eq{ss:List iY}{l:List iz}{a0 a:Act}{listed:Array Bool}{w:tW}{x:Nat->fa}(h:GP md C ss l a0 listed a w x)(hB:Vg md l a0.tmps.size)(hls:eJ l<=eJ ss)(hall:∀j,j<eJ l->listed.getD j fj=fR):a=putT x 0 ss l (eJ l) a0:=by
 have ht:a.tmps=(putT x 0 ss l (eJ l) a0).tmps:=by
  apply Array.ext_getElem?;intro t;by_cases hd:∃(j:Nat) (o:iz),l[j]?=eK o/\o.dst=eK t
  ·obtain⟨j,o,hj,GQ⟩:=hd;have hjl:=(List.getElem?_eq_some_iff.1 hj).1;obtain⟨s,hs⟩:∃s,ss[j]?=eK s:=⟨ss[j]'(by omega),List.getElem?_eq_getElem _⟩
   rw[h.val j o t s (hall j hjl) hj hs GQ,GN x t (eJ l) l ss 0 a0 j o s hjl hj hs GQ (λj' o' _ hne ho' hd'=>hne (hB.one j o j' o' t hj ho' GQ hd')) (hB.dst j o t hj GQ)];simp
  ·rw[h.old t (λj o _ hj GQ=>hd ⟨j,o,hj,GQ⟩),rM x t (eJ l) l ss 0 a0 (λj o _ hj GQ=>hd ⟨j,o,hj,GQ⟩)]
 have hdf:a.defers=(putT x 0 ss l (eJ l) a0).defers:=by rw[h.df,Bo]
 cases a;generalize putT x 0 ss l (eJ l) a0=b at *;cases b;simp only at ht hdf;rw[ht,hdf]
theorem GP.same{ss:List iY}{l:List iz}{a0 a:Act}{listed:Array Bool}{w:tW}{x:Nat->fa}(h:GP md C ss l a0 listed a w x)(hB:Vg md l a0.tmps.size)(hls:eJ l<=eJ ss){i:Nat} {o:iz} (hi:l[i]?=eK o) (hu:listed.getD i fj=fj) (hr:∀j∈eU md o,listed.getD j fj=fR):∀t∈o.looksAt l.toArray,a.tmps[t]?=(putT x 0 ss l i a0).tmps[t]?:=by
 intro t ht;by_cases hd:∃(j:Nat) (o':iz),j<i/\l[j]?=eK o'/\o'.dst=eK t
 ·obtain⟨j,o',hji,hj,GQ⟩:=hd;have hjl:=(List.getElem?_eq_some_iff.1 hj).1;obtain⟨s,hs⟩:∃s,ss[j]?=eK s:=⟨ss[j]'(by omega),List.getElem?_eq_getElem _⟩
  have abC:=(hB.rd i o j o' t hi hj (by omega) GQ ht).1 hji;rw[h.val j o' t s (hr j abC) hj hs GQ,GN x t i l ss 0 a0 j o' s hji hj hs GQ (λj' o'' _ hne ho' hd'=>hne (hB.one j o' j' o'' t hj ho' GQ hd')) (hB.dst j o' t hj GQ)];simp
 ·rw[rM x t i l ss 0 a0 (λj o' hji hj GQ=>hd ⟨j,o',hji,hj,GQ⟩)];refine h.old t (λj o' hl hj GQ=>?_);rcases cG j i with hji|hji|hji
  ·exact hd ⟨j,o',hji,hj,GQ⟩
  ·subst hji;rw[hu]at hl;cases hl
  ·have abC:=(hB.rd i o j o' t hi hj (by omega) GQ ht).2 hji;have:=h.shut j o' hl hj i abC;rw[hu]at this;cases this
theorem GP.step{ss:List iY}{l:List iz}{a0 a:Act}{listed:Array Bool}{w w':tW}{x:Nat->fa}(h:GP md C ss l a0 listed a w x)(hB:Vg md l a0.tmps.size)(_hls:eJ l<=eJ ss)(hst:∀(j:Nat) (s:iY),ss[j]?=eK s->∀(i:Nat) (L:Nat->Bool) u w w',rJ md l.toArray i L->L j=fR->N i w w'->relT s L u w->relT s (iJ L i) u w') (hN:∀(i:Nat) (L:Nat->Bool) w w',rJ md l.toArray i L->C L w->N i w w'->C (iJ L i) w'){i:Nat} {o:iz} {s:iY} {v:fa} (hi:l[i]?=eK o) (hs:ss[i]?=eK s) (hu:listed.getD i fj=fj) (hr:∀j∈eU md o,listed.getD j fj=fR) (n:N i w w') (hv:relT s (iJ (IA listed) i) v w'):∃x',GP md C ss l a0 (listed.setIfInBounds i fR) (a.put o.dst v) w' x':=by
 have hil:=(List.getElem?_eq_some_iff.1 hi).1;have hix:i<listed.size:=by rw[h.ls];exact hil
 refine⟨λj=>if j=i then v else x j,?_⟩
 have hmem:∀j,(listed.setIfInBounds i fR).getD j fj=fR->j=i\/(j≠i/\listed.getD j fj=fR):=by
  intro j hj;by_cases e:j=i
  ·exact .inl e
  ·rw[tA fj (λe'=>e e'.symm)]at hj;exact .inr ⟨e,hj⟩
 have Vi:∀j,listed.getD j fj=fR->(listed.setIfInBounds i fR).getD j fj=fR:=by
  intro j hj;by_cases e:j=i
  ·subst e;exact kW hix fj
  ·rw[tA fj (λe'=>e e'.symm)];exact hj
 have ZJ:rJ md l.toArray i (IA listed):=by
  refine⟨hu,λj o' hj hc=>?_⟩;cases hlj:IA listed j with
  |false=>rfl
  |true =>have:=h.shut j o' hlj (by simpa using hj) i (by simpa using hc);rw[hu]at this;cases this
 have abD:IA (listed.setIfInBounds i fR)=iJ (IA listed) i:=by
  funext j;unfold IA iJ;by_cases e:j=i
  ·subst e;rw[iP9 rfl];exact kW hix fj
  ·rw[iN9 e];exact tA fj (λe'=>e e'.symm)
 have adz:∀(j:Nat) (y:fa) (s':iY),listed.getD j fj=fR->ss[j]?=eK s'->zm y s' (IA listed) w->zm y s' (iJ (IA listed) i) w':=by
  intro j y s' hj hs' hf;cases s' with
  |inl _=>trivial
  |inr R=>exact hst j _ hs' i (IA listed) y w w' ZJ hj n hf
 refine⟨by rw[abD];exact hN i _ _ _ ZJ h.c n,by rw[De,h.sz],by rw[put_defers,h.df],by simp[h.ls],?_,?_,?_,?_⟩
 ·intro j o' d s' hj ho' hs' hd;rcases hmem j hj with rfl |⟨hne,hj'⟩
  ·rw[hi]at ho';cases ho';rw[hs]at hs';cases hs';rw[hd,zl _ _ _ (by rw[h.sz];exact hB.dst j o d hi hd)];simp only[if_true];cases s with
   |inl v0=>simp only[relT]at hv;simp[ZI,hv]
   |inr R=>rfl
  ·rw[iN9 hne,Dc _ _ _ _ (λe=>hne (hB.one i o j o' d hi ho' e hd))];exact h.val j o' d s' hj' ho' hs' hd
 ·intro j s' hj hs';rcases hmem j hj with rfl |⟨hne,hj'⟩
  ·rw[hs]at hs';cases hs';simp only[if_true];cases s with
   |inl v0=>trivial
   |inr R=>rw[abD];exact hv
  ·simp only[iN9 hne];rw[abD];exact adz j _ _ hj' hs' (h.fact j s' hj' hs')
 ·intro d hd;rw[Dc _ _ _ _ (hd i o (kW hix fj) hi)];exact h.old d (λj o' hj ho'=>hd j o' (Vi j hj) ho')
 ·intro j o' hj ho' k hk;rcases hmem j hj with rfl |⟨hne,hj'⟩
  ·rw[hi]at ho';cases ho';exact Vi k (hr k hk)
  ·exact Vi k (h.shut j o' hj' ho' k hk)
theorem LZ{ss:List iY}{l:List iz}{a0:Act}{Q:Act->tW->Prop}{Q':nB->Act->tW->Prop}(hQ:∀a w,Q a w->Q' .normal a w)(hB:Vg md l a0.tmps.size)(hsel:cY l.toArray=fR)(hst:∀(j:Nat) (s:iY),ss[j]?=eK s->∀(i:Nat) (L:Nat->Bool) u w w',rJ md l.toArray i L->L j=fR->N i w w'->relT s L u w->relT s (iJ L i) u w') (hN:∀(i:Nat) (L:Nat->Bool) w w',rJ md l.toArray i L->C L w->N i w w'->C (iJ L i) w') (hrf:(l.all (λo=>o.guard.isNone))=fR\/∀i w,N i w w)(hW:sS P l.toArray md C N Q 0 ss l a0 []):∀(fuel:Nat) (listed:Array Bool) (a:Act) (w:tW) (x:Nat->fa),GP md C ss l a0 listed a w x->unlF (λj=>listed.getD j fj) (eJ l)<=fuel -> wpAny P md l.toArray Q' fuel listed a w:=by
 have hls:=Am hW
 have hend:∀(listed:Array Bool) (a:Act) (w:tW) (x:Nat->fa),GP md C ss l a0 listed a w x->(∀j,j<eJ l->listed.getD j fj=fR)->Q' .normal a w:=by
  intro listed a w x h hall;rw[h.eq hB hls hall];refine hQ _ _ (Ao x 0 hW (IA listed) w (λj hj=>hall j (by simpa using hj)) h.c ?_);refine N0 _ w _ (λj f hf=>?_);rw[cx,Ap]at hf;by_cases hj:j<eJ l
  ·rw[iP9 hj]at hf;obtain⟨s,hs⟩:∃s,ss[j]?=eK s:=⟨ss[j]'(by omega),List.getElem?_eq_getElem _⟩
   rw[hs]at hf;simp only[b5,Option.some.injEq,bt]at hf;rw[<-hf];exact h.fact j s (hall j hj) hs
  ·rw[iN9 hj]at hf;cases hf
 have hnil:∀(listed:Array Bool),listed.size=eJ l->Region.ready md l.toArray listed=[]->∀n j,j<n->j<eJ l->listed.getD j fj=fR:=by
  intro listed hsz hr n;induction n with
  |zero=>intro j hj;exact absurd hj (bj _)
  |succ n ih =>
   intro j hj hjl;cases hc:listed.getD j fj with
   |true=>rfl
   |false =>
    exfalso;have hjs:j<listed.size:=by omega
    obtain⟨o,ho⟩:∃o,l[j]?=eK o:=⟨l[j],List.getElem?_eq_getElem _⟩
    have:j∈Region.ready md l.toArray listed:=mem_ready.2 ⟨by rw[Dg hjs fR fj];exact hc,o,by simpa using ho,λe he hb=>by have hd:e.on∈eU md o:=List.mem_map.2 ⟨e,List.mem_filter.2 ⟨by simpa using he,hb⟩,rfl⟩;have hlt:=hB.low j o ho e.on hd;exact ih e.on (by omega) (by omega)⟩;rw[hr]at this;cases this
 intro fuel;induction fuel with
 |zero =>
  intro listed a w x h hf;have hall:=Jt (λj=>listed.getD j fj) (eJ l) (by omega);refine⟨?_,hend listed a w x h hall⟩;apply List.eq_nil_iff_forall_not_mem.2;intro i hi;obtain⟨h0,o,ho,_⟩:=mem_ready.1 hi;have hil:i<eJ l:=by simpa using(Array.getElem?_eq_some_iff.1 ho).1
  have h1:=hall i hil;rw[Dg (by rw[h.ls];exact hil) fR fj,h1]at h0;cases h0
 |succ fuel ih =>
  intro listed a w x h hf;refine⟨λhr=>hend listed a w x h (λj hj=>hnil listed h.ls hr (j+1) j (by omega) hj),?_⟩;intro i hi;obtain⟨h0,o,ho,hrd⟩:=mem_ready.1 hi;have hi':l[i]?=eK o:=by simpa using ho
  have hil:=(List.getElem?_eq_some_iff.1 hi').1;have hix:i<listed.size:=by rw[h.ls];exact hil
  have hu:listed.getD i fj=fj:=by rw[Dg hix fj fR];exact h0
  have hr:∀j∈eU md o,listed.getD j fj=fR:=by intro j hj;obtain⟨e,he,rfl⟩:=List.mem_map.1 hj;obtain⟨he1,he2⟩:=List.mem_filter.1 he;exact hrd e (by simpa using he1) he2
  obtain⟨s,hs⟩:∃s,ss[i]?=eK s:=⟨ss[i]'(by omega),List.getElem?_eq_getElem _⟩
  have hk:rH ([]++factsT x 0 ss i) (eU md o) (IA listed) w:=by
   refine FB _ _ w _ (λj hj f hfj=>?_);rw[cx,Ap]at hfj;by_cases hji:j<i
   ·rw[iP9 hji]at hfj;obtain⟨s',hs'⟩:∃s,ss[j]?=eK s:=⟨ss[j]'(by omega),List.getElem?_eq_getElem _⟩
    rw[hs']at hfj;simp only[b5,Option.some.injEq,bt]at hfj;rw[<-hfj];exact h.fact j s' (hr j hj) hs'
   ·rw[iN9 hji]at hfj;cases hfj
  have ZJ:rJ md l.toArray (0+i) (IA listed):=by
   rw[bt];refine⟨hu,λj o' hj hc=>?_⟩;cases hlj:IA listed j with
   |false=>rfl
   |true =>have:=h.shut j o' hlj (by simpa using hj) i (by simpa using hc);rw[hu]at this;cases this
  have hg:=Dh x 0 hW i o s hi' hs (IA listed) w ZJ h.c hk;rw[bt]at hg;have hsame:=h.same hB hls hi' hu hr;have hsl:=λcs b=>Region.noSelect_spec hsel i o cs b ho;have hun:∀listed':Array Bool,listed'=listed.setIfInBounds i fR->unlF (λj=>listed'.getD j fj) (eJ l)<=fuel:=by rintro _ rfl;have:=Ju (λj=>listed.getD j fj) (λj=>(listed.setIfInBounds i fR).getD j fj) i hu (kW hix fj) (λj hj=>tA fj (λe=>hj e.symm)) (eJ l) hil;omega
  unfold wpOp;simp only[ho];unfold Al at hg;rw[<-Jw hsame]at hg;split
  ·rename_i hw
   rw[iP9 hw]at hg;left;refine QV ?_;have he:=Jv hg;unfold lL at he ⊢;rw[execOp_congr o hsl (QW hsame)];refine ja ?_ he;rintro u w' ⟨v,huv,hn,hv⟩
   have hput:a.put o.dst u=a.put o.dst v:=by
    cases hd:o.dst with
    |none=>rfl
    |some d =>have h1:=congrArg (λb:Act=>b.tmps[d]?) huv;simp only[hd]at h1;rw[zl _ _ _ (by rw[Aq];exact hB.dst i o d hi' hd),zl _ _ _ (by rw[Aq];exact hB.dst i o d hi' hd)]at h1;cases h1;rfl
   rw[hput];obtain⟨x',h'⟩:=h.step hB hls hst hN hi' hs hu hr hn hv;exact ih _ _ _ x' h' (hun _ rfl)
  ·rename_i hw
   rw[iN9 hw]at hg
   have hnn:N i w w:=by
    rcases hrf with hg0|hrf
    ·exfalso;have hgn:=List.all_eq_true.1 hg0 o (List.mem_of_getElem? hi');exact hw (fC (by simpa using hgn) _)
    ·exact hrf i w
   obtain⟨x',h'⟩:=h.step hB hls hst hN hi' hs hu hr hnn hg;exact ih _ _ _ x' h' (hun _ rfl)
theorem jV{id:Nat}{Q:nB->Act->tW->Prop}{a:Act}{w:tW}{l:List iz}(ss:List iY)(C:LW)(N:Nat->tW->tW->Prop)(hm:P.follows .mixedOrders=fR)(hB:chkI .any l a.tmps.size=fR)(hsel:cY l.toArray=fR)(hC:C (λ_=>fj) w.drew)(hst:∀(j:Nat) (s:iY),ss[j]?=eK s->∀(i:Nat) (L:Nat->Bool) u w w',rJ .any l.toArray i L->L j=fR->N i w w'->relT s L u w->relT s (iJ L i) u w') (hN:∀(i:Nat) (L:Nat->Bool) w w',rJ .any l.toArray i L->C L w->N i w w'->C (iJ L i) w') (hrf:(l.all (λo=>o.guard.isNone))=fR\/∀i w,N i w w)(h:sS P l.toArray .any C N (λa' w'=>Q .normal a' w') 0 ss l a []):(Code.region id l.toArray fR).wp P Q a w:=by
 refine wp_region_any hm ?_;refine LZ (C:=C) (N:=N) (ss:=ss) (l:=l) (a0:=a) (Q:=λa' w'=>Q .normal a' w') (λ_ _ h=>h) (Vh hB) hsel hst hN hrf h _ _ a w.drew (λ_=>undef) ⟨?_,rfl,rfl,by simp,?_,?_,?_,?_⟩ ?_
 ·have:IA (de l.toArray.size fj)=λ_=>fj:=by funext j;simp only[IA,Array.getD_eq_getD_getElem?,Array.getElem?_replicate];split<;>rfl
  rw[this];exact hC
 ·intro j o d s hj;exfalso;revert hj;simp[Array.getElem?_replicate];split<;>simp
 ·intro j s hj;exfalso;revert hj;simp[Array.getElem?_replicate];split<;>simp
 ·intro d _;rfl
 ·intro j o hj;exfalso;revert hj;simp[Array.getElem?_replicate];split<;>simp
 ·have:unlF (λj=>(de l.toArray.size fj).getD j fj) (eJ l)=eJ l:=by refine(Df _ (λ_=>fj) _ (λj hj=>?_)).trans (ZH (eJ l));simp[Array.getElem?_replicate];split<;>simp
  rw[this];simp
theorem dE{Q:Act->tW->Prop}{k:Nat}{ss:List iY}{o:iz}{rest:List iz}{a:Act}{F:List LW}{v:fa}(hgd:o.guard=eL)(h:∀(L:Nat->Bool) (w:tW),rJ md ops k L->C L w->rH F (eU md o) L w->∀K:Act->tW->Prop,(∀a' w' v',a'=a.put o.dst v'->N k w w'->v'=v->K a' w')->o.wp P a w K (λ_ _ _=>False))(hr:sS P ops md C N Q (k+1) ss rest (a.put o.dst v) (F++[λ(_:Nat->Bool) (_:tW)=>True])):sS P ops md C N Q k (.inl v::ss) (o::rest) a F :=
 ⟨λL w hn hC hk=>by unfold Al;rw[iP9 (fC hgd _)];exact h L w hn hC hk,hr⟩
theorem nE{Q:Act->tW->Prop}{k:Nat}{ss:List iY}{o:iz}{rest:List iz}{a:Act}{F:List LW}{R:(Nat->Bool)->fa->tW->Prop}(hgd:o.guard=eL)(h:∀(L:Nat->Bool) (w:tW),rJ md ops k L->C L w->rH F (eU md o) L w->∀K:Act->tW->Prop,(∀a' w' v',a'=a.put o.dst v'->N k w w'->R (iJ L k) v' w'->K a' w')->o.wp P a w K (λ_ _ _=>False))(hr:∀x,sS P ops md C N Q (k+1) ss rest (a.put o.dst x) (F++[λL w=>R L x w])):sS P ops md C N Q k (.inr R::ss) (o::rest) a F :=
 ⟨λL w hn hC hk=>by unfold Al;rw[iP9 (fC hgd _)];exact h L w hn hC hk,hr⟩
theorem zn{Q:Act->tW->Prop}{k:Nat}{ss:List iY}{a:Act}{F:List LW}(h:∀(L:Nat->Bool) (w:tW),(∀j,j<ops.size->L j=fR)->C L w->LY F L w->Q a w):sS P ops md C N Q k ss [] a F:=by
 cases ss with
 |nil=>exact h
 |cons s ss=>cases s<;>exact h
theorem nG{F:List LW}{L:Nat->Bool}{w:tW}:∀{ds:tLN},rH F ds L w->∀j,ds.contains j=fR->(F[j]?.getD (λ_ _=>True)) L w
 |[],_,j,hj=>by simp at hj
 |i::ds,h,j,hj=>by
  rw[List.contains_cons,Bool.or_eq_true]at hj;rcases hj with hj|hj
  ·have:j=i:=by simpa using hj
   subst this;exact h.1
  ·exact nG h.2 j hj
theorem zo{F:List LW}{L:Nat->Bool}{w:tW}(h:LY F L w):∀(j:Nat),(F[j]?.getD (λ_ _=>True)) L w:=by
 induction F with
 |nil=>intro j;simp
 |cons f F ih =>
  intro j;cases j with
  |zero=>exact h.1
  |succ j=>simpa using ih h.2 j
def rO(md:Region.Mode)(ops:Array iz)(N:Nat->tW->tW->Prop):Nat->List iY->Prop
 |_,[]=>True
 |k,.inl _::l=>rO md ops N (k+1) l
 |k,.inr R::l=>(∀(i:Nat) (L:Nat->Bool) u w w',rJ md ops i L->L k=fR->N i w w'->R L u w->R (iJ L i) u w')/\rO md ops N (k+1) l
theorem kE:∀{ss:List iY} {k:Nat},rO md ops N k ss->∀(j:Nat) (s:iY),ss[j]?=eK s->∀(i:Nat) (L:Nat->Bool) u w w',rJ md ops i L->L (k+j)=fR->N i w w'->relT s L u w->relT s (iJ L i) u w'
 |[],_,_,j,s,hs,_,_,_,_,_,_,_,_,_=>by simp at hs
 |.inl v::l,k,h,0,s,hs,i,L,u,w,w',hn,hk,n,hr=>by simp only[List.getElem?_cons_zero,Option.some.injEq]at hs;subst hs;exact hr
 |.inl v::l,k,h,j+1,s,hs,i,L,u,w,w',hn,hk,n,hr=>by
  have e:k+(j+1)=k+1+j:=by omega
  rw[e]at hk;exact kE (ss:=l) (k:=k+1) h j s (by simpa using hs) i L u w w' hn hk n hr
 |.inr R::l,k,h,0,s,hs,i,L,u,w,w',hn,hk,n,hr=>by simp only[List.getElem?_cons_zero,Option.some.injEq]at hs;subst hs;exact h.1 i L u w w' hn hk n hr
 |.inr R::l,k,h,j+1,s,hs,i,L,u,w,w',hn,hk,n,hr=>by
  have e:k+(j+1)=k+1+j:=by omega
  rw[e]at hk;exact kE (ss:=l) (k:=k+1) h.2 j s (by simpa using hs) i L u w w' hn hk n hr
end
