import Derived.Test.YtekmhcbefnmflaaGreatDoorCL21
namespace Go.Proofs.YtekmhcbefnmflaaGreatDoor
open Go.RowKit Tryz
open List renaming getElem_set->ar,getElem_mem->bh,ext_getElem->bt,getElem_zip->b5,take_zero->cb,size_toArray->cj,getElem_map->cx,flatMap_def->cy,length->ee
open Nat renaming le_succ_of_le->ao,zero_le->b9,le_refl->cw
open Option renaming getD_some->ab,isSome_some->an,map_some->cD,some->eC,none->ez
open Bool renaming false->eE,true->eJ
open Decidable renaming decide->eS
open Obj renaming map->kq,cells->eR
open Value renaming map->jn,string->eI,bool->fS,slice->eK,agg->fW
open _root_.Go renaming Value->eM,heap_alloc_new->sx,Program->jz,TypeId->gh,run_underlying->pB,Oper->fY,wpList->nB,info_parts->lO
set_option linter.all false
set_option maxRecDepth 100000
set_option maxHeartbeats 4000000
def yX(w:tW)(b:Nat)(f:tBA->Option eM)(n:Nat):Prop:=∃(es:Array MapEntry) (clock:Nat) (kv:List (tBA×eM)),w.heap[b]?=eC (kq es clock)/\es.toList.map KY=kv.map kvC/\(∀s,(kv.find? (λp=>s==p.1)).map (·.2)=f s)/\kv.length=n
theorem yX.of{w:tW}{b n:Nat}{f:tBA->Option eM}(h:yX w b f n):MapOf w b f:=by obtain⟨es,c,kv,h1,h2,h3,_⟩:=h;exact⟨es,c,kv,h1,h2,h3⟩
theorem yX.new(w:tW):yX (w.alloc (kq #[] 0)) w.heap.size (λ_=>ez) 0:=⟨#[],0,[],sx w _,rfl,λ_=>rfl,rfl⟩
theorem yX.ae{w w':tW}{b n:Nat}{f:tBA->Option eM}{S:Nat->Prop}(h:yX w b f n)(m:aa S w w')(hS:¬S b):yX w' b f n:=by have hl:=h.of.lt;obtain⟨es,clock,kv,hb,h2⟩:=h;exact⟨es,clock,kv,(m.block b hl hS).trans hb,h2⟩
theorem yX.len{P:jz}{w:tW}{b n:Nat}{f:tBA->Option eM}(h:yX w b f n){t kt et rt:gh}(hm:P.underlying t=eC (.map kt et)):(Builtin.len_ #[t] rt #[jn (eC b)]).run P w=.ok (vI n) w:=by
 obtain⟨es,clock,kv,hb,he,hf,hn⟩:=h;have hs:es.size=n:=by have:=congrArg List.length he;simp at this;omega
 unfold Builtin.len_;simp[pB hm,MapKept.run_getObj_map hb,hs,goInt]
theorem MapOf.N7{P:jz}{w:tW}{b:Nat}{f:tBA->Option eM}(h:MapOf w b f){t kt et:gh}(hm:P.underlying t=eC (.map kt et))(hk:P.underlying kt=eC .string){z:eM}(hz:(zeroValue et).run P w=.ok z w)(s:tBA):(Instr.lookup t (jn (eC b)) (eI s) eE).run P w=.ok ((f s).getD z) w:=by
 obtain⟨es,clock,kv,hb,he,hf⟩:=h;have hc:(Instr.checkKey es.isEmpty 10000 kt (eI s)).run P w=.ok () w:=MapKept.run_checkKey (k:=eI s) hk (by simp[MapKept.IsKey]) _ 9999;have hfn:=MapKept.run_findKey (P:=P) (w:=w) hk (lH s es.toList kv 0 he);have hv:=qH s kv 0;rw[hf s]at hv;unfold Instr.lookup;simp only[Sem.run_bind,pB hm,MapKept.run_getObj_map hb,hc,hfn,Result.andThen,Sem.run_pure];cases hq:kvFind s kv 0 with
 |none =>rw[hq]at hv;rw[<-hv];simp[hz,Result.andThen]
 |some q =>rw[hq]at hv;rw[<-hv];simp
theorem yX.update{P:jz}{w:tW}{b n:Nat}{f:tBA->Option eM}(h:yX w b f n){t kt et:gh}(hm:P.underlying t=eC (.map kt et))(hk:P.underlying kt=eC .string)(s:tBA)(u:eM):∃w',(Instr.mapUpdate t (jn (eC b)) (eI s) u).run P w=.ok () w'/\yX w' b (λs'=>if s'=s then eC u else f s') (if(f s).isSome then n else n+1)/\aa (λk=>k=b) w w':=by
 obtain⟨es,clock,kv,hb,he,hf,hn⟩:=h;have hlt:=(Array.getElem?_eq_some_iff.1 hb).1;have hc:(Instr.checkKey eE 10000 kt (eI s)).run P w=.ok () w:=MapKept.run_checkKey (k:=eI s) hk (by simp[MapKept.IsKey]) _ 9999;have hfn:=MapKept.run_findKey (P:=P) (w:=w) hk (lH s es.toList kv 0 he);have Io:∀o:Obj,aa (λk=>k=b) w {w with heap:=w.heap.setIfInBounds b o}:=λo=>⟨rfl,rfl,rfl,by simp,λk _ hn=>(MapKept.heap_set hb).2 k hn⟩
 have hv:=qH s kv 0;rw[hf s]at hv;cases hq:kvFind s kv 0 with
 |none =>
  rw[hq]at hfn hv;have hno:(f s).isSome=eE:=by rw[<-hv];rfl
  refine⟨{w with heap:=w.heap.setIfInBounds b (kq (es.push {key:=eI s,val:=u,born:=clock}) (clock+1))},?_,⟨_,_,kv++[(s,u)],(MapKept.heap_set hb).1,?_,λs'=>?_,by rw[hno,iN9 (by simp)];simp[hn]⟩,Io _⟩
  ·unfold Instr.mapUpdate;simp[pB hm,MapKept.run_getObj_map hb,hc,hfn,MapKept.run_setObj_map _ hb,Result.andThen]
  ·simp[he,KY,kvC]
  ·have hn:=tV s kv 0 hq;rw[List.find?_append];by_cases d:s'=s
   ·subst d;rw[hn];simp[yE]
   ·have d':=T9 d;show _=if s'=s then eC u else f s'
    rw[iN9 d,<-hf s'];cases kv.find? (λp=>s'==p.1)with
    |none=>simp[d']
    |some q=>simp
 |some q =>
  obtain⟨j,v⟩:=q;rw[hq]at hfn hv;have ae6:(f s).isSome=eJ:=by rw[<-hv];rfl
  obtain⟨n',e,hn',⟨v',hv'⟩,hs⟩:=zD s kv 0 j v hq;rw[Nat.zero_add]at e;subst e;have hjl:j<es.size:=by have:=congrArg List.length he;simp at this;omega
  have hej:KY es[j]=kvC (s,v'):=by
   have:=congrArg (λl:List (eM×eM)=>l[j]?) he;simp only[List.getElem?_map,hv',cD]at this;rw[Array.getElem?_toList,Array.getElem?_eq_getElem hjl]at this
   simpa using this
  have hkey:es[j].key=eI s:=congrArg Prod.fst hej;have hst:(Instr.keyThatStays (((es[j]?).map (·.key)).getD (eI s)) (eI s)).run P w=.ok (eI s) w:=by rw[Array.getElem?_eq_getElem hjl,cD,ab,hkey];exact MapKept.run_keyThatStays (d:=.string) (by simp[MapKept.IsKey])
  refine⟨{w with heap:=w.heap.setIfInBounds b (kq (es.modify j λe=>{e with key:=eI s,val:=u}) clock)},?_,⟨_,_,kv.set j (s,u),(MapKept.heap_set hb).1,?_,λs'=>?_,by rw[ae6,iP9 rfl];simp[hn]⟩,Io _⟩
  ·unfold Instr.mapUpdate;simp[pB hm,MapKept.run_getObj_map hb,hc,hfn,hst,MapKept.run_setObj_map _ hb,Result.andThen]
  ·rw[List.map_set,<-he];refine bt (by simp) λt h1 h2=>?_;simp only[cx,Array.getElem_toList,Array.getElem_modify,ar];split
   ·rfl
   ·rfl
  ·rw[hs u s',hf s']
def cntF(l:List tLB)(s:tBA):Option eM:=if l.count (BL s)=0 then ez else eC (vI (l.count (BL s):Nat))
theorem cnt_push(l:List tLB)(x:tLB):(λs'=>if s'=T x then eC (Value.int .i64 ((l.count x:Nat)+1:Int))else cntF l s')=cntF (x::l):=by
 funext s;by_cases e:s=T x
 ·subst e;have hb:BL (T x)=x:=by simp[BL,T]
  simp[cntF,hb]
 ·rw[iN9 e];have hne:x≠BL s:=λh=>e (by rw[h,Yk]);simp[cntF,List.count_cons,hne]
def eQ(w:tW)(b:Nat)(l:List tLB):Prop:=∃n,yX w b (cntF l) n/\(l.Nodup->n=ee l)
theorem eQ.ae{w w':tW}{b:Nat}{l:List tLB}{S:Nat->Prop}(h:eQ w b l)(m:aa S w w')(hS:¬S b):eQ w' b l:=by obtain⟨n,h1,h2⟩:=h;exact⟨n,h1.ae m hS,h2⟩
theorem eQ.new(w:tW):eQ (w.alloc (kq #[] 0)) w.heap.size []:=⟨0,yX.new w,λ_=>rfl⟩
theorem eQ.lt{w:tW}{b:Nat}{l:List tLB}(h:eQ w b l):b<w.heap.size:=by obtain⟨n,h1,_⟩:=h;exact h1.of.lt
theorem eQ.ay{w:tW}{b g:Nat}{l:List tLB}{cs:tAV}{t:gh}(h:eQ w b l)(hb:ak w g cs t):g≠b:=by obtain⟨n,h1,_⟩:=h;exact h1.of.ay hb
theorem eQ.look{w:tW}{b:Nat}{l:List tLB}(h:eQ w b l)(x:tLB):(Instr.lookup 88 (jn (eC b)) (eI (T x)) eE).run prog w=.ok (vI (l.count x:Nat)) w:=by
 obtain⟨n,h1,_⟩:=h;have:=h1.of.N7 (P:=prog) (t:=88) underlying88 underlying9 (z:=vI 0) (zeroValue3 w) (T x);have hb:BL (T x)=x:=by simp[BL,T]
 rw[this,cntF,hb];by_cases e:l.count x=0
 ·rw[iP9 e,e];rfl
 ·rw[iN9 e];rfl
theorem eQ.put{w:tW}{b:Nat}{l:List tLB}(h:eQ w b l)(x:tLB):∃w',(Instr.mapUpdate 88 (jn (eC b)) (eI (T x)) (vI ((l.count x:Nat)+1:Int))).run prog w=.ok () w'/\eQ w' b (x::l)/\aa (λk=>k=b) w w':=by
 obtain⟨n,h1,h2⟩:=h;obtain⟨w',r1,r2,r3⟩:=h1.update (P:=prog) (t:=88) underlying88 underlying9 (T x) (vI ((l.count x:Nat)+1:Int));rw[cnt_push]at r2;refine⟨w',r1,⟨_,r2,λhn=>?_⟩,r3⟩;have hb:BL (T x)=x:=by simp[BL,T]
 obtain⟨hx,hl⟩:=List.nodup_cons.1 hn;have hc:=List.count_eq_zero.2 hx;rw[cntF,hb,iP9 hc];simp[h2 hl]
theorem eQ.size{w:tW}{b:Nat}{l:List tLB}(h:eQ w b l)(hn:l.Nodup):(Builtin.len_ #[88] 3 #[jn (eC b)]).run prog w=.ok (vI (ee l:Nat)) w:=by obtain⟨n,h1,h2⟩:=h;rw[<-h2 hn];exact h1.len underlying88
structure tM where
 slots:Nat:=0
 ends:Bool:=eE
 bP:List (tLB×Nat):=[]
def ib(l:List (tLB×Nat))(x:tLB):Option Nat:=(l.find? (λp=>p.1==x)).map (·.2)
structure OL where
 maps:List tLB:=[]
 fs:List tM:=[]
def OL.last(o:OL):tM:=o.fs.getD (ee o.fs-1) {}
def OL.dK(o:OL)(f:tM):OL:={o with fs:=o.fs.set (ee o.fs-1) f}
def tM.label(f:tM)(x:tLB):tM:=if(ib f.bP x).isSome then f else{f with bP:=f.bP++[(x,f.slots)]}
def tM.code(f:tM)(op:dX):tM:={f with slots:=f.slots+op.slots,ends:=op.ends}
def bV(o:OL)(x:fJ):OL :=
 if x.kind=1 then{o with maps:=x.name::o.maps}
 else if x.kind=2 then{o with fs:=o.fs++[{}]}
 else if x.kind=3 then o.dK (o.last.label x.name)
 else if x.kind=4 then o.dK (o.last.code x.x.o)
 else o
def au(ls:List fJ):OL:=ls.foldl bV {}
theorem gW(ls:List fJ)(k:Nat)(h:k<ee ls):au (ls.take (k+1))=bV (au (ls.take k)) ls[k]:=by unfold au;rw[List.take_succ_eq_append_getElem h,List.foldl_append];rfl
def InF(ls:List fJ):Prop:=∀k (h:k<ee ls),(ls[k].kind=3\/ls[k].kind=4)->(au (ls.take k)).fs≠[]
def Q6(l:List (tLB×Nat))(s:tBA):Option eM:=(ib l (BL s)).map (λn=>vI (n:Nat))
def jN(w:tW)(b:Nat)(l:List (tLB×Nat)):Prop:=MapOf w b (Q6 l)
theorem VI(l:List (tLB×Nat))(x:tLB)(n:Nat)(h:(ib l x).isSome=eE):(λs'=>if s'=T x then eC (Value.int .i64 (n:Nat))else Q6 l s')=Q6 (l++[(x,n)]):=by
 funext s;have hb:BL (T x)=x:=by simp[BL,T]
 unfold Q6 ib at *;rw[List.find?_append];by_cases e:s=T x
 ·subst e;rw[iP9 rfl,hb];cases hf:l.find? (λp=>p.1==x)with
  |some q=>rw[hf]at h;cases h
  |none=>simp
 ·rw[iN9 e];have hne:(x==BL s)=eE:=by rw[beq_eq_false_iff_ne];exact λh=>e (by rw[h,Yk])
  cases l.find? (λp=>p.1==BL s)with
  |some q=>simp
  |none=>simp[hne]
theorem jN.look{w:tW}{b:Nat}{l:List (tLB×Nat)}(h:jN w b l)(x:tLB):(Instr.lookup 88 (jn (eC b)) (eI (T x)) eJ).run prog w=.ok (.tuple #[vI ((ib l x).getD 0:Nat),fS (ib l x).isSome]) w:=by
 have:=MapOf.lookup (P:=prog) h (t:=88) underlying88 underlying9 (z:=vI 0) (zeroValue3 w) (T x);have hb:BL (T x)=x:=by simp[BL,T]
 rw[this,Q6,hb];cases ib l x<;>rfl
theorem jN.ac6{w:tW}{b:Nat}{l:List (tLB×Nat)}(h:jN w b l)(x:tLB):(Instr.lookup 88 (jn (eC b)) (eI (T x)) eE).run prog w=.ok (vI ((ib l x).getD 0:Nat)) w:=by
 have:=MapOf.N7 (P:=prog) h (t:=88) underlying88 underlying9 (z:=vI 0) (zeroValue3 w) (T x);have hb:BL (T x)=x:=by simp[BL,T]
 rw[this,Q6,hb];cases ib l x<;>rfl
theorem jN.put{w:tW}{b:Nat}{l:List (tLB×Nat)}(h:jN w b l)(x:tLB)(n:Nat)(hx:(ib l x).isSome=eE):∃w',(Instr.mapUpdate 88 (jn (eC b)) (eI (T x)) (vI n)).run prog w=.ok () w'/\jN w' b (l++[(x,n)])/\aa (λk=>k=b) w w':=by obtain⟨w',r1,r2,r3⟩:=MapOf.update (P:=prog) h (t:=88) underlying88 underlying9 (T x) (vI n);rw[VI l x n hx]at r2;exact⟨w',r1,r2,r3⟩
def kH(b:Nat)(f:tM):tLV:=[vI f.slots,fS f.ends,jn (eC b)]
def ja(lb:tLN)(fs:List tM):tLV:=(lb.zip fs).flatMap (λx=>kH x.1 x.2)
structure dY(w0:tW)(bm:Nat)(vF:eM)(lb:tLN)(o:OL)(w:tW):Prop where
 len:ee lb=ee o.fs
 maps:eQ w bm o.maps
 sl:Sl w 148 3 vF (ee o.fs) (ja lb o.fs)
 bP:∀i (h:i<ee o.fs),jN w (lb[i]?.getD 0) o.fs[i].bP
 nd:(bm::lb).Nodup
 lo:∀b∈bm::lb,w0.heap.size<=b
 own:∀k,vF.ownBlock=eC k->w0.heap.size<=k
 md:aa ah w0 w
theorem dY.quiet{w0 w w':tW}{bm:Nat}{vF:eM}{lb:tLN}{o:OL}(h:dY w0 bm vF lb o w)(m:aa ah w w'):dY w0 bm vF lb o w' :=
 ⟨h.len,h.maps.ae m id,h.sl.ae m (λ_ _=>id),λi hi=>MapOf.ae (h.bP i hi) m id,h.nd,h.lo,h.own,h.md.trans m⟩
theorem dY.new(w0 w:tW)(m:aa ah w0 w):dY w0 w.heap.size (vN) [] {} (w.alloc (kq #[] 0)) :=
 ⟨rfl,eQ.new w,Sl.nil _ _ _,λi h=>absurd h (Nat.not_lt_zero _),by simp,λb hb=>by
  have:b=w.heap.size:=by simpa using hb
  rw[this];exact m.size,λk h=>(by cases h),m.alloc _⟩
theorem MapOf.CT{w:tW}{b:Nat}{f:tBA->Option eM}(h:MapOf w b f){e:gh}{size n:Nat}{v:eM}{xs:tLV}(hs:Sl w e size v n xs):v.ownBlock≠eC b:=λhk=>by
 rcases hs.2 with⟨h0,_⟩ |⟨g,cap,cur,h0,_,hg,_⟩
 ·rw[h0]at hk;cases hk
 ·rw[h0]at hk;cases hk;exact h.ay hg rfl
theorem dY.map{w0 w w':tW}{bm:Nat}{vF:eM}{lb:tLN}{o:OL}{x:tLB}(h:dY w0 bm vF lb o w)(hc:eQ w' bm (x::o.maps))(m:aa (λk=>k=bm) w w'):dY w0 bm vF lb {o with maps:=x::o.maps} w':=by
 have hnd:=List.nodup_cons.1 h.nd;refine⟨h.len,hc,h.sl.ae m (λk hk e=>?_),λi hi=>MapOf.ae (h.bP i hi) m (λe=>hnd.1 ?_),h.nd,h.lo,h.own,h.md.step m (λi hi e=>?_)⟩
 ·obtain⟨n,h1,_⟩:=h.maps;have e':=e;exact h1.of.CT h.sl (by rw[hk,e'])
 ·have hl:i<ee lb:=by rw[h.len];exact hi
  rw[List.getElem?_eq_getElem hl]at e;exact e ▸ bh hl
 ·have:=h.lo bm (by simp);omega
theorem L6(lb:tLN)(fs:List tM)(h:ee lb=ee fs)(b:Nat)(f:tM):ja (lb++[b]) (fs++[f])=ja lb fs++kH b f:=by unfold ja;rw[List.zip_append h,List.flatMap_append];simp
theorem dY.func{w0 w w':tW}{bm bN:Nat}{vF Yc:eM}{lb:tLN}{o:OL}(h:dY w0 bm vF lb o w)(hN:jN w bN [])(hlo:w0.heap.size<=bN)(hnew:bN ∉ bm::lb)(s:Sl w' 148 3 Yc (ee o.fs+1) (ja lb o.fs++kH bN ({}:tM))) (m:aa (λk=>vF.ownBlock=eC k) w w') (lv:∀k,Yc.ownBlock=eC k->vF.ownBlock=eC k\/w.heap.size<=k):dY w0 bm Yc (lb++[bN]) {o with fs:=o.fs++[({}:tM)]} w':=by
 refine⟨by simp[h.len],?_,?_,λi hi=>?_,?_,λb hb=>?_,λk hk=>?_,h.md.step m (λi hi e=>by have:=h.own i e;omega)⟩
 ·obtain⟨n,h1,h2⟩:=h.maps;exact⟨n,h1.ae m (λe=>h1.of.CT h.sl e),h2⟩
 ·show Sl w' 148 3 Yc (ee (o.fs++[({}:tM)])) (ja (lb++[bN]) (o.fs++[({}:tM)]))
  rw[L6 _ _ h.len,List.length_append,List.length_singleton];exact s
 ·have hi':i<ee o.fs+1:=by simpa using hi
  rcases Nat.lt_or_ge i (ee o.fs) with e|e
  ·have e1:(lb++[bN])[i]?.getD 0=lb[i]?.getD 0:=by rw[List.getElem?_append_left (by rw[h.len];exact e)]
   have e2:(o.fs++[({}:tM)])[i]'hi=o.fs[i]:=List.getElem_append_left e;have hl:=h.bP i e;show jN w' ((lb++[bN])[i]?.getD 0) ((o.fs++[({}:tM)])[i]'hi).bP
   rw[e1,e2];exact MapOf.ae hl m (λe'=>MapOf.CT hl h.sl e')
  ·have e3:i=ee o.fs:=by omega
   subst e3;have e1:(lb++[bN])[ee o.fs]?.getD 0=bN:=by rw[List.getElem?_append_right (by rw[h.len];exact cw _),h.len,Nat.sub_self];rfl
   have e2:(o.fs++[({}:tM)])[ee o.fs]'hi={}:=by simp
   show jN w' ((lb++[bN])[ee o.fs]?.getD 0) ((o.fs++[({}:tM)])[ee o.fs]'hi).bP
   rw[e1,e2];exact MapOf.ae hN m (λe'=>MapOf.CT hN h.sl e')
 ·have:=h.nd;rw[<-List.cons_append,List.nodup_append]
  exact⟨this,by simp,λa ha b hb e=>hnew (by
   have hb':b=bN:=by simpa using hb
   rw[<-hb',<-e];exact ha)⟩
 ·have hb':b=bm\/b∈lb\/b=bN:=by simpa using hb
  rcases hb' with e|e|e
  ·exact h.lo b (by simp[e])
  ·exact h.lo b (by simp[e])
  ·rw[e];exact hlo
 ·rcases lv k hk with e|e
  ·exact h.own k e
  ·have:=h.md.size;omega
theorem nI{o:OL}(h:o.fs≠[]):∃hl:ee o.fs-1<ee o.fs,o.last=o.fs[ee o.fs-1]:=by have hp:=List.length_pos_iff.2 h;refine⟨by omega,?_⟩;unfold OL.last;rw[List.getD_eq_getElem?_getD,List.getElem?_eq_getElem (by omega)];rfl
theorem Q7{l:tLN}(h:l.Nodup){i j:Nat}(hi:i<ee l)(hj:j<ee l)(e:l[i]=l[j]):i=j:=by
 rw[List.nodup_iff_pairwise_ne,List.pairwise_iff_getElem]at h;rcases Nat.lt_trichotomy i j with d|d|d
 ·exact absurd e (h i j hi hj d)
 ·exact d
 ·exact absurd e.symm (h j i hj hi d)
theorem dY.lab{w0 w w':tW}{bm:Nat}{vF:eM}{lb:tLN}{o:OL}{l':List (tLB×Nat)}(h:dY w0 bm vF lb o w)(hne:o.fs≠[])(hL:jN w' (lb[ee o.fs-1]?.getD 0) l')(m:aa (λk=>k=lb[ee o.fs-1]?.getD 0) w w'):dY w0 bm vF lb (o.dK {o.last with bP:=l'}) w':=by
 obtain⟨hl,hg⟩:=nI hne;have hlb:ee o.fs-1<ee lb:=by rw[h.len];exact hl
 have hel:lb[ee o.fs-1]?.getD 0=lb[ee o.fs-1]:=by rw[List.getElem?_eq_getElem hlb];rfl
 have hnd:=List.nodup_cons.1 h.nd;have hlast:=h.bP (ee o.fs-1) hl;refine⟨by simp[OL.dK,h.len],?_,?_,λi hi=>?_,h.nd,h.lo,h.own,h.md.step m (λi hi e=>?_)⟩
 ·exact h.maps.ae m (λe=>hnd.1 (by rw[e,hel];exact bh hlb))
 ·have hr:ja lb (o.dK {o.last with bP:=l'}).fs=ja lb o.fs:=by
   unfold ja OL.dK
   have:(lb.zip (o.fs.set (ee o.fs-1) {o.last with bP:=l'})).map (λx=>kH x.1 x.2)=(lb.zip o.fs).map (λx=>kH x.1 x.2):=by
    apply bt
    ·simp
    ·intro j h1 h2;simp only[cx,b5,ar];split
     ·rename_i e;subst e
      have hs:o.last.slots=o.fs[ee o.fs-1].slots:=by rw[hg]
      have he:o.last.ends=o.fs[ee o.fs-1].ends:=by rw[hg]
      simp only[kH,hs,he]
     ·rfl
   rw[cy,cy,this]
  rw[hr];have:=h.sl.ae m (λk hk e=>by have e':=e;exact MapOf.CT hlast h.sl (by rw[hk,e']))
  simpa [OL.dK]using this
 ·have hi':i<ee o.fs:=by simpa [OL.dK]using hi
  have e2:(o.dK {o.last with bP:=l'}).fs[i]'hi=if ee o.fs-1=i then{o.last with bP:=l'}else o.fs[i]:=by simp only[OL.dK,ar]
  rw[e2];split
  ·rename_i e;subst e;exact hL
  ·rename_i e
   refine MapOf.ae (h.bP i hi') m (λe'=>e ?_);have hil:i<ee lb:=by rw[h.len];exact hi'
   rw[List.getElem?_eq_getElem hil,hel]at e';exact(Q7 hnd.2 hil hlb e').symm
 ·have:=h.lo (lb[ee o.fs-1]) (by simp);rw[hel]at e;omega
theorem dY.row{w0 w w':tW}{bm g cap:Nat}{lb:tLN}{o:OL}{f:tM}(h:dY w0 bm (eK (eC ⟨g,0,ez⟩) (ee o.fs) cap) lb o w)(hne:o.fs≠[])(hf:f.bP=o.last.bP)(hw:w'=(w.setCell ⟨g,(ee o.fs-1)*3,ez⟩ (vI f.slots)).setCell ⟨g,(ee o.fs-1)*3+1,ez⟩ (fS f.ends)):dY w0 bm (eK (eC ⟨g,0,ez⟩) (ee o.fs) cap) lb (o.dK f) w':=by
 obtain⟨hl,hg⟩:=nI hne;have hlb:ee o.fs-1<ee lb:=by rw[h.len];exact hl
 have hown:=h.own g rfl;have m:aa (Only g) w w':=by rw[hw];exact(aA.bz _ _).bz _ _
 have hz:ee (lb.zip o.fs)=ee o.fs:=by simp[h.len]
 have hzi:ee o.fs-1<ee (lb.zip o.fs):=by rw[hz];exact hl
 refine⟨by simp[OL.dK,h.len],?_,?_,λi hi=>?_,h.nd,h.lo,h.own,h.md.step m (λi hi e=>by have:i=g:=e;omega)⟩
 ·obtain⟨n,h1,h2⟩:=h.maps;exact⟨n,h1.ae m (λe=>h1.of.CT h.sl (by have:bm=g:=e;rw[this];rfl)),h2⟩
 ·have s1:=h.sl.setAt ((ee o.fs-1)*3) (vI f.slots) (by omega);have s2:=s1.setAt ((ee o.fs-1)*3+1) (fS f.ends) (by omega)
  have hr:((ja lb o.fs).set ((ee o.fs-1)*3) (vI f.slots)).set ((ee o.fs-1)*3+1) (fS f.ends)=ja lb (o.dK f).fs:=by
   unfold ja OL.dK;have e1:=tT (λx:Nat×tM=>kH x.1 x.2) 3 (λ_=>rfl) (lb.zip o.fs) (ee o.fs-1) 0 hzi (by omega) (vI f.slots) (lb[ee o.fs-1],{o.last with slots:=f.slots}) (by rw[hg];simp[kH]);rw[Nat.add_zero]at e1;rw[e1];have e2:=tT (λx:Nat×tM=>kH x.1 x.2) 3 (λ_=>rfl) ((lb.zip o.fs).set (ee o.fs-1) (lb[ee o.fs-1],{o.last with slots:=f.slots})) (ee o.fs-1) 1 (by simpa using hzi) (by omega) (fS f.ends) (lb[ee o.fs-1],f) (by simp[kH]);rw[e2,List.set_set];congr 1;apply bt
   ·simp
   ·intro j h1 h2;simp only[ar,b5];split
    ·rename_i e;subst e;simp
    ·rename_i e;simp
  rw[hw,<-hr];have hle:ee (o.dK f).fs=ee o.fs:=by simp[OL.dK]
  rw[hle];exact s2
 ·have hi':i<ee o.fs:=by simpa [OL.dK]using hi
  have hli:=h.bP i hi'
  have e2:((o.dK f).fs[i]'hi).bP=o.fs[i].bP:=by
   simp only[OL.dK,ar];split
   ·rename_i e;subst e;rw[hf,hg]
   ·rfl
  rw[e2];exact MapOf.ae hli m (λe=>MapOf.CT hli h.sl (by have:lb[i]?.getD 0=g:=e;rw[this];rfl))
theorem run_loadVar_rowAt{P:jz}(w:tW)(g off:Nat)(ty:gh)(cs:tAV)(d:TypeDesc)(hc:∀j (h:j<cs.size),w.cell? ⟨g,off+j,ez⟩=eC cs[j])(hu:P.underlying ty=eC d) (hd:(match (generalizing:=false) d with|.struct _|.array _ _=>eJ|_=>eE)=eJ) (hi:(P.info? ty).map (·.size)=eC cs.size):(loadVar ty ⟨g,off,ez⟩).run P w=.ok (fW cs) w:=by
 have hl:=run_loadCells_list (P:=P) w ⟨g,off,ez⟩ cs.toList (λj v hv=>by
   have hadd:(⟨g,off,ez⟩:Addr).add j=⟨g,off+j,ez⟩:=by unfold Addr.add;split<;>simp_all
   obtain⟨hj,hv⟩:=List.getElem?_eq_some_iff.1 hv;rw[hadd,hc j (by simpa using hj)]
   simpa using hv)
 cases hq:P.info? ty with
 |none=>simp[hq]at hi
 |some i =>
  have hs:i.size=cs.size:=by simpa [hq]using hi
  have hagg:(isAgg ty).run P w=.ok eJ w:=by unfold isAgg;rw[Sem.run_bind,pB hu w];cases d<;>simp_all
  simp only[Array.length_toList,Array.toArray_toList]at hl;simp[loadVar,Sem.run_bind,hagg,sizeOf,typeInfo,hq,hs,hl]
theorem eW{P:jz}{ops:Array fY}{rest:List fY}{o:fY}{a:Act}{w:tW}{Q:Exit->Act->tW->Prop}(hgd:o.guard=ez)(ty:gh)(x:Operand)(ho:o.op=.load ty x)(g off:Nat) (hx:a.eval x=.pointer (eC ⟨g,off,ez⟩)) (cs:tAV) (d:TypeDesc) (hc:∀j (h:j<cs.size),w.cell? ⟨g,off+j,ez⟩=eC cs[j])(hu:P.underlying ty=eC d) (hd:(match (generalizing:=false) d with|.struct _|.array _ _=>eJ|_=>eE)=eJ) (hi:(P.info? ty).map (·.size)=eC cs.size)(h:nB P ops Q rest (a.put o.dst (fW cs)) w):nB P ops Q (o::rest) a w :=
 wpList_plain hgd λ_ hK=>by unfold Oper.wp execOp;simp only[ho,hx,Instr.loadAt,Instr.sureAddr,Sem.run_bind,Sem.run_pure,Result.andThen_ok,run_loadVar_rowAt w g off ty cs d hc hu hd hi];exact hK _ _ h
theorem jD.row{w0 w:tW}{v:eM}{bs:tLN}{ls:List fJ}(h:jD w0 v bs ls w)(k:Nat)(hk:k<ee ls):∃g c,v=eK (eC ⟨g,0,ez⟩) (ee ls) c/\ls.length<=c/\∀w',aa ah w w'->∀j (hj:j<(ls[k].cells bs).size),w'.cell? ⟨g,k*20+j,ez⟩=eC (ls[k].cells bs)[j]:=by obtain⟨o,c,hv,hb⟩:=h.sl.view;obtain⟨g,cs,rfl,hb,ht,hc,_⟩:=hb (by omega);refine⟨g,c,hv,hc,λw' m j hj=>?_⟩;have hs:=gV bs ls[k];rw[aX (hb.ae m id) ht (k*20+j) (by omega),flat_get (λx:fJ=>(x.cells bs).toList) 20 (λx=>by simp[gV]) ls k j hk (by omega)];simp[hj]
theorem nK(bs:tLN)(x:fJ)(h:x.kind≠4):(x.cells bs)[1]?=eC (eI (T x.name)):=by unfold fJ.cells;rw[iN9 h];rfl
theorem VJ(bs:tLN)(x:fJ)(h:x.kind=4):(x.cells bs)[11]?=eC (vP (bs[x.x.k]?.getD 0)):=by unfold fJ.cells;rw[iP9 h];rfl
theorem ZB:∀o∈ax,o.slots<=2:=by
 have:ax.all (λo=>eS (o.slots<=2))=eJ:=by decide +kernel
 intro o ho
 simpa using List.all_eq_true.1 this o ho
theorem fG.zX(x:fG):x.o.slots<=2:=by
 unfold fG.o;cases h:ax[x.k]? with
 |none=>exact b9 _
 |some o=>exact ZB o (List.mem_of_getElem? h)
theorem Jj{o:OL}(h:o.fs≠[]):o.last∈o.fs:=by obtain⟨h1,h2⟩:=nI h;rw[h2];exact bh h1
theorem yY{o:OL}{f:tM}{n:Nat}(h:∀g∈o.fs,g.slots<=n)(hf:f.slots<=n):∀g∈(o.dK f).fs,g.slots<=n:=by
 intro g hg;rcases List.mem_or_eq_of_mem_set hg with h1|rfl
 ·exact h g h1
 ·exact hf
theorem rG{o:OL}{n:Nat}(h:∀g∈o.fs,g.slots<=n):o.last.slots<=n:=by
 by_cases e:o.fs=[]
 ·unfold OL.last;rw[e];exact b9 _
 ·exact h _ (Jj e)
theorem jE(ls:List fJ):∀k,k<=ee ls->(∀f∈(au (ls.take k)).fs,f.slots<=2*k)/\(au (ls.take k)).fs.length<=k
 |0,_=>by rw[cb];exact⟨λf hf=>(by cases hf),cw _⟩
 |k+1,h=>by
  obtain⟨h1,h2⟩:=jE ls k (by omega);rw[gW ls k (by omega)];generalize au (ls.take k)=o at *;generalize ls[k]=x;have h3:∀f∈o.fs,f.slots<=2*(k+1):=λf hf=>by have:=h1 f hf;omega
  have h4:=rG h1;unfold bV;split
  ·exact⟨h3,by simpa using ao h2⟩
  split
  ·refine⟨λf hf=>?_,by simpa using h2⟩;rcases List.mem_append.1 hf with h5|h5
   ·exact h3 f h5
   ·have:f={}:=by simpa using h5
    subst this;exact b9 _
  split
  ·refine⟨yY h3 ?_,by simp[OL.dK];omega⟩;unfold tM.label;split
   ·omega
   ·show o.last.slots<=_;omega
  split
  ·refine⟨yY h3 ?_,by simp[OL.dK];omega⟩;have:=x.x.zX;show o.last.slots+x.x.o.slots<=_;omega
  ·exact⟨h3,by omega⟩
theorem yZ(ls:List fJ):∀k,k<=ee ls->ee (au (ls.take k)).maps<=k
 |0,_=>by rw[cb];exact cw _
 |k+1,h=>by
  have ih:=yZ ls k (by omega);rw[gW ls k (by omega)];generalize au (ls.take k)=o at *;generalize ls[k]=x;unfold bV;split
  ·simpa using ih
  split
  ·exact ao ih
  split
  ·exact ao ih
  split
  ·exact ao ih
  ·exact ao ih
theorem dY.N8{w0 w:tW}{bm:Nat}{oF:Option Addr}{cF:Nat}{lb:tLN}{o:OL}(h:dY w0 bm (eK oF (ee o.fs) cF) lb o w)(hne:o.fs≠[]):∃g,oF=eC ⟨g,0,ez⟩/\o.fs.length<=cF/\∀w',aa ah w w'->∀j (hj:j<(kH (lb[ee o.fs-1]?.getD 0) o.last).toArray.size),w'.cell? ⟨g,(ee o.fs-1)*3+j,ez⟩=eC (kH (lb[ee o.fs-1]?.getD 0) o.last).toArray[j]:=by
 obtain⟨hl,hg⟩:=nI hne;obtain⟨o',c',hv,hb⟩:=h.sl.view;injection hv with e1 e2 e3;subst e1 e3;obtain⟨g,cs,rfl,hb,ht,hc,_⟩:=hb (by omega);refine⟨g,rfl,hc,λw' m j hj=>?_⟩;have hz:ee o.fs-1<ee (lb.zip o.fs):=by rw[List.length_zip,h.len];omega
 have hj':j<3:=hj;have hlb:ee o.fs-1<ee lb:=by rw[h.len];exact hl
 rw[aX (hb.ae m id) ht ((ee o.fs-1)*3+j) (by omega),ja,flat_get (λx:Nat×tM=>kH x.1 x.2) 3 (λ_=>rfl) (lb.zip o.fs) (ee o.fs-1) j hz hj'];rw[b5,List.getElem?_eq_getElem hlb,<-hg];simp only[ab,List.getElem_toArray];rw[List.getElem?_eq_getElem]
theorem dY.keep{w0 w w':tW}{bm A:Nat}{vF:eM}{lb:tLN}{o:OL}{cs:tAV}{t:gh}(h:dY w0 bm vF lb o w)(hA:ak w A cs t)(ht:148≠t)(hlo:w0.heap.size<=A)(m:aa (Only A) w w'):dY w0 bm vF lb o w':=by
 refine⟨h.len,?_,h.sl.ae m (λk hk e=>?_),λi hi=>MapOf.ae (h.bP i hi) m (λe=>?_),h.nd,h.lo,h.own,h.md.step m (λi hi e=>by have:i=A:=e;omega)⟩
 ·exact h.maps.ae m (λe=>h.maps.ay hA (show bm=A from e).symm)
 ·have e':k=A:=e;exact h.sl.ay hA ht (by rw[hk,e'])
 ·exact MapOf.ay (h.bP i hi) hA (show _=A from e).symm
structure lK(w0:tW)(R A bm:Nat)(vF:eM)(lb:tLN)(o:OL)(w:tW):Prop where
 res:ak w R #[jn ez,vN] 91
 all:ak w A #[jn (eC bm),vF] 91
 gm:dY w0 bm vF lb o w
 lt:w0.heap.size<=A/\w0.heap.size<=R/\R≠A
section
variable {w0 w w' : World} {R A bm : Nat} {vF : eM} {lb : List Nat} {o : OL}
theorem lK.quiet(h:lK w0 R A bm vF lb o w)(m:aa ah w w'):lK w0 R A bm vF lb o w':=⟨h.res.ae m id,h.all.ae m id,h.gm.quiet m,h.lt⟩
theorem lK.map{x:tLB}(h:lK w0 R A bm vF lb o w)(hc:eQ w' bm (x::o.maps))(m:aa (λk=>k=bm) w w'):lK w0 R A bm vF lb {o with maps:=x::o.maps} w' :=
 ⟨h.res.ae m (λe=>h.gm.maps.ay h.res e),h.all.ae m (λe=>h.gm.maps.ay h.all e),h.gm.map hc m,h.lt⟩
theorem lK.func{bN:Nat}{Yc:eM}(h:lK w0 R A bm vF lb o w)(hN:jN w bN [])(hlo:w0.heap.size<=bN)(hnew:bN ∉ bm::lb)(s:Sl w' 148 3 Yc (ee o.fs+1) (ja lb o.fs++kH bN ({}:tM))) (m:aa (λk=>vF.ownBlock=eC k) w w') (lv:∀k,Yc.ownBlock=eC k->vF.ownBlock=eC k\/w.heap.size<=k):lK w0 R A bm Yc (lb++[bN]) {o with fs:=o.fs++[({}:tM)]} (w'.setCell ⟨A,1,ez⟩ Yc):=by have h1:=h.gm.func hN hlo hnew s m lv;have hA:=h.all.ae m (λe=>h.gm.sl.ay h.all (by decide) e);have hR:=h.res.ae m (λe=>h.gm.sl.ay h.res (by decide) e);refine⟨hR.setOther (a:=⟨A,1,ez⟩) h.lt.2.2.symm _,?_,h1.keep hA (by decide) h.lt.1 (aA.bz _ _),h.lt⟩;exact hA.set 1 Yc
theorem lK.lab{l':List (tLB×Nat)}(h:lK w0 R A bm vF lb o w)(hne:o.fs≠[])(hL:jN w' (lb[ee o.fs-1]?.getD 0) l')(m:aa (λk=>k=lb[ee o.fs-1]?.getD 0) w w'):lK w0 R A bm vF lb (o.dK {o.last with bP:=l'}) w':=by obtain⟨hl,_⟩:=nI hne;have hlast:=h.gm.bP _ hl;exact⟨h.res.ae m (λe=>MapOf.ay hlast h.res e),h.all.ae m (λe=>MapOf.ay hlast h.all e),h.gm.lab hne hL m,h.lt⟩
theorem lK.row{g cap:Nat}{f:tM}(h:lK w0 R A bm (eK (eC ⟨g,0,ez⟩) (ee o.fs) cap) lb o w)(hne:o.fs≠[])(hf:f.bP=o.last.bP):lK w0 R A bm (eK (eC ⟨g,0,ez⟩) (ee o.fs) cap) lb (o.dK f) ((w.setCell ⟨g,(ee o.fs-1)*3,ez⟩ (vI f.slots)).setCell ⟨g,(ee o.fs-1)*3+1,ez⟩ (fS f.ends)):=by have hA:A≠g:=λe=>h.gm.sl.ay h.all (by decide) (by rw[e];rfl);have hR:R≠g:=λe=>h.gm.sl.ay h.res (by decide) (by rw[e];rfl);exact⟨(h.res.setOther (a:=⟨g,_,ez⟩) hR.symm _).setOther (a:=⟨g,_,ez⟩) hR.symm _,(h.all.setOther (a:=⟨g,_,ez⟩) hA.symm _).setOther (a:=⟨g,_,ez⟩) hA.symm _,h.gm.row hne hf rfl,h.lt⟩
end
theorem Jk{o:OL}(h:o.fs≠[]):o.dK o.last=o:=by obtain⟨h1,h2⟩:=nI h;unfold OL.dK;rw[h2,List.set_getElem_self]
theorem dY.ZC{w0 w:tW}{bm:Nat}{vF:eM}{lb:tLN}{o:OL}(h:dY w0 bm vF lb o w)(hne:o.fs≠[]):jN w (lb[ee o.fs-1]?.getD 0) o.last.bP:=by obtain⟨h1,h2⟩:=nI hne;rw[h2];exact h.bP _ h1
theorem ZD(w:tW):jN (w.alloc (kq #[] 0)) w.heap.size []:=⟨#[],0,[],sx w _,rfl,λ_=>rfl⟩
def CU(w:tW)(o:OL)(e:Ending)(w':tW):Prop:=∃bm vF lb,e=.returned (fW #[jn (eC bm),vF])/\dY w bm vF lb o w'
theorem Jl:(prog.info? 148).map (λi=>(i.zero,i.size,i.bytes))=eC (eC (fW #[vI 0,fS eE,jn ez]),3,24):=by kernel_rfl
theorem E5(n:Nat)(cs z:tAV)(hc:cs.size=n)(hz:z.size=n):Instr.fill (λi=>eC (i*n,n)) z [(0,fW cs)]=eC cs:=by
 obtain⟨l⟩:=cs;obtain⟨m⟩:=z;simp only[cj]at hc hz;have h:=CS l [] m (by omega);have hcl:(Value.agg l.toArray).cells=l.toArray:=rfl;simp only[Instr.fill,hcl,cj,hc,hz];rw[iN9 (by simp)];simp only[List.nil_append,List.length_nil]at h
 simpa using h
theorem Bu{ops:Array fY}{rest:List fY}{o:fY}{a:Act}{w:tW}{Q:Exit->Act->tW->Prop}(hg:o.guard=ez)(x:Operand)(ho:o.op=.buildSlice 89 1 #[(0,x)])(a0 a1 a2:eM) (hx:a.eval x=fW #[a0,a1,a2])(h:nB prog ops Q rest (a.put o.dst (eK (eC ⟨w.heap.size,0,ez⟩) 1 1)) (w.alloc (eR #[a0,a1,a2] 148))):nB prog ops Q (o::rest) a w:=by obtain⟨iP,hiP,sK,hsP,wJ⟩:=lO Jl;refine wpList_buildSlice hg 89 148 1 _ ho #[a0,a1,a2] iP _ underlying89 hiP sK (by rw[hsP];decide) (by rw[hsP];decide) ?_ h;rw[hsP];simp only[List.map_toArray,List.map_cons,List.map_nil,hx];exact E5 3 _ _ rfl (by simp)
set_option linter.all false
theorem Jm(wT wL w:tW)(v vL:eM)(bs:tLN)(ls:List fJ)(hO:aT 0 wT v bs ax)(m:aa ah wT w)(hL:jD wL vL bs ls w)(hin:InF ls)(hk4:∀x∈ls,x.kind=4->x.x.k<ee ax)(hkk:∀x∈ls,1<=x.kind/\x.kind<=4)(hnl:ee ls<=1000001):Calls prog 24 #[vL] w λe w'=>CU w (au ls) e w':=by
 have Q8:af (∀e w' bm vF lb,e=.returned (fW #[jn (eC bm),vF])->dY w bm vF lb (au ls) w'->CU w (au ls) e w'):=λe w' bm vF lb h1 h2=>⟨bm,vF,lb,h1,h2⟩
 generalize CU w (au ls)=RP at *
 have Bv:af (∀w',aa ah w w'->∀x∈ls,x.kind=4->eu w' (bs[x.x.k]?.getD 0) x.x.o):=λw' m' x hx h4=>by
  have h1:=hk4 x hx h4;have h2:x.x.k<ee bs:=by rw[hO.len];exact h1
  have:=(hO.ae (m.trans m')).at' x.x.k h2 h1;rw[List.getElem?_eq_getElem h2];unfold fG.o;rw[List.getElem?_eq_getElem h1];exact this
 have Ya:=ai hL;have HIN:=ai hin;have HKK:=ai hkk;have Jn:=ai (jE ls);have VF:=ai (yZ ls);have HST:=ai (gW ls);have sV:af (∀k,¬k<ee ls->au (ls.take k)=au ls):=λk h=>by rw[List.take_of_length_le (by omega)]
 obtain⟨oL,cL,rfl,_⟩:=hL.sl.view;have hmm:=@run_makeMap prog;clear hO m hL hin hk4 hkk
 have HW0:af (lK w w.heap.size (w.heap.size+1+1) (w.heap.size+1) (vN) [] {} (((w.alloc (eR #[jn ez,vN] 91)).alloc (kq #[] 0)).alloc (eR #[jn (eC (w.heap.size+1)),vN] 91))):=by
  have m1:aa ah w (w.alloc (eR #[jn ez,vN] 91)):=aq;have h1:=dY.new w _ m1;have hs:(w.alloc (eR #[jn ez,vN] 91)).heap.size=w.heap.size+1:=by simp
  rw[hs]at h1;have hs2:((w.alloc (eR #[jn ez,vN] 91)).alloc (kq #[] 0)).heap.size=w.heap.size+1+1:=by simp
  refine⟨((ak.new w _ _).alloc _).alloc _,?_,h1.quiet aq,by omega⟩;have:=ak.new ((w.alloc (eR #[jn ez,vN] 91)).alloc (kq #[] 0)) #[jn (eC (w.heap.size+1)),vN] 91;rw[hs2]at this;exact this
 go_in;go_upto_region 1 with fail;go_wp2_with fail;generalize((w.alloc (eR #[jn ez,vN] 91)).alloc (kq #[] 0)).alloc (eR #[jn (eC (w.heap.size+1)),vN] 91)=w1 at *;generalize w.heap.size=R at *;generalize ZE:R+1=bm at *;generalize bm+1=A at *;clear ZE;go_loopg [15] (ee ls) (λq v15 wx=>∃(k:Nat) (vF:eM) (lb:tLN),k<=ee ls/\v15=vI k/\lK w R A bm vF lb (au (ls.take k)) wx/\q=ee ls-k)
 case atStart=>exact⟨0,_,[],b9 _,rfl,HW0.o,rfl⟩
 case round =>
  obtain⟨k,vF,lb,hk,rfl,hA,rfl⟩:=hrel;have HA:=ai hA;clear hA HW0;have hsm:=(Jn.o k hk).2;obtain⟨oF,cF,qi,_⟩:=HA.o.gm.sl.view;subst qi;by_cases hlt:k<ee ls
  ·obtain⟨g,cL',hv,hcl,hrow⟩:=Ya.o.row k hlt;injection hv with hv1 hv2 hv3;subst hv1;have HRW:=hrow wr HA.o.gm.md;have HS:=ai (HST.o k hlt);have HI:=ai (HIN.o k hlt);have tN:=ai ((Jn.o k hk).1);have VK:=ai (λw' m'=>Bv.o w' m' ls[k] (bh hlt));have X9:=ai (HKK.o _ (bh hlt));have hmp:=VF.o k hk;clear hrow HST HIN Jn Bv hv3 sV VF;generalize au (ls.take k)=o at *;generalize ls[k]=x at *;have jS:=ai (gV bs x);have HC0:=ai (rF bs x);have E4:=ai (cells_one bs x);have Hz:=ai (nK bs x);have Q9:=ai (VJ bs x);have HB2:=ai (ak.new wr (jx 0 ⟨#[]⟩ aD aD aD) 143);generalize x.cells bs=cs at *;go_upto_region 5 with(first |(refine eW rfl 143 (.tmp 17) rfl g (k*20) rfl cs _ HRW underlying143 rfl (by rw[jS.o];kernel_rfl) ?_) |(refine gz rfl 143 (.tmp 5) (.tmp 18) rfl wr.heap.size cs rfl rfl 143 _ HB2.o (by rw[jS.o];kernel_rfl) (by rw[jS.o];rfl) E4.o ?_;intro W3 hB3 yt))
   have lq:=ai (HA.o.quiet yt.fresh);have c0:=(hB3.cell 0).trans HC0.o;have a0:=lq.o.all.c0;have a1:=lq.o.all.c1;have HB3:=ai hB3;have ZF:=ai HA.o.gm.md.size;clear HA HB2 HRW yt hB3;generalize wr.heap.size=B at *;have hcase:x.kind=1\/x.kind=2\/x.kind=3\/x.kind=4:=by have:=X9.o;omega
   rcases hcase with hx|hx|hx|hx
   ·have q1:((x.kind:Int)==1)=eJ:=by rw[hx];rfl
    have c1:=(HB3.o.cell 1).trans (Hz.o (by omega));have hlk:=lq.o.gm.maps.look x.name;obtain⟨w5,ZG,Ra,m5⟩:=lq.o.gm.maps.put x.name;have hcn:o.maps.count x.name<=k:=Nat.le_trans List.count_le_length hmp;have KO:af (lK w R A bm (eK oF (ee o.fs) cF) lb (bV o x) w5):=by have:=lq.o.map Ra m5;unfold bV;rw[iP9 hx];exact this
    clear Ra m5 hx;generalize o.maps.count x.name=cn at *;go_wp2_with fail;go_roundg (ee ls-(k+1))
    case measure=>omega
    case rel=>exact⟨k+1,_,lb,by omega,by go_num,by rw[HS.o];exact KO.o,rfl⟩
   ·have q1:((x.kind:Int)==1)=eE:=by rw[hx];rfl
    have q2:((x.kind:Int)==2)=eJ:=by rw[hx];rfl
    have HWN:af (lK w R A bm (eK oF (ee o.fs) cF) lb o (W3.alloc (kq #[] 0))):=lq.o.quiet aq;have HLW:=ai (ZD W3);have HOS:af (bV o x={o with fs:=o.fs++[({}:tM)]}):=by rw[af,bV,iN9 (by omega),iP9 hx]
    have HLO:=ai lq.o.gm.md.size
    have xu:af (W3.heap.size ∉ bm::lb):=λhm=>by
     rcases List.mem_cons.1 hm with e|e
     ·have:=lq.o.gm.maps.lt;omega
     ·obtain⟨i,hi,e⟩:=List.getElem_of_mem e;have hi':i<ee o.fs:=by rw[<-lq.o.gm.len];exact hi
      have:=MapOf.lt (lq.o.gm.bP i hi');rw[List.getElem?_eq_getElem hi]at this;simp only[ab]at this;omega
    clear hx;obtain⟨iP,hiP,sK,hsP,wJ⟩:=lO Jl;go_upto_region 10 with fail;have HWS:af (∀os,lK w R A bm (eK oF (ee o.fs) cF) lb o ((W3.alloc (kq #[] 0)).alloc os)):=λos=>HWN.o.quiet aq;have HLS:af (∀os,jN ((W3.alloc (kq #[] 0)).alloc os) W3.heap.size []):=λos=>MapOf.ae HLW.o ((aa.refl ah _).alloc os) id
    have HAP:af (∀os vA wA,Sl wA 148 3 vA (ee o.fs+1) (ja lb o.fs++kH W3.heap.size ({}:tM))->aa (λk=>(Value.slice oF (ee o.fs) cF).ownBlock=eC k) ((W3.alloc (kq #[] 0)).alloc os) wA->(∀k,vA.ownBlock=eC k->(Value.slice oF (ee o.fs) cF).ownBlock=eC k\/((W3.alloc (kq #[] 0)).alloc os).heap.size<=k)->ak wA A #[jn (eC bm),eK oF (ee o.fs) cF] 91/\(∃oA cA,vA=eK oA (ee o.fs+1) cA)/\lK w R A bm vA (lb++[W3.heap.size]) (bV o x) (wA.setCell ⟨A,1,ez⟩ vA)):=λos vA wA sA mA lA=>by
     refine⟨(HWS.o os).all.ae mA (λe=>(HWS.o os).gm.sl.ay (HWS.o os).all (by decide) e),?_,?_⟩
     ·obtain⟨oA,cA,Bw,_⟩:=sA.view;exact⟨oA,cA,Bw⟩
     ·rw[HOS.o];exact(HWS.o os).func (HLS.o os) HLO.o xu.o sA mA lA
    go_wp2_with (first |(refine Bu rfl (.tmp 38) rfl (vI 0) (fS eE) (jn (eC W3.heap.size)) rfl ?_) |(at_builtin;(refine aP _ rfl (.tmp 36) (.tmp 39) 89 rfl 148 iP (fW #[vI 0,fS eE,jn ez]) 3 24 underlying89 hiP sK hsP wJ rfl (by decide) (eK oF (ee o.fs) cF) (ee o.fs) (ja lb o.fs) rfl (HWS.o _).gm.sl ⟨(W3.alloc (kq #[] 0)).heap.size,0,ez⟩ 1 1 (#[vI 0,fS eE,jn (eC W3.heap.size)]:tAV).toList rfl rfl (aY _ _ _ _ rfl) (by simp[Value.oneCell']) (by unfold maxLen;omega) (by omega) ?_;intro vA wA sA mA lA;obtain⟨hAA,⟨oA,cA,Bw⟩,Jo⟩:=HAP.o _ _ _ sA mA lA;subst Bw;have aA1:=hAA.cell 1;have aAf:=hAA.frozen;have HAA:=ai Jo;clear sA mA lA hAA Jo)));go_roundg (ee ls-(k+1))
    case measure=>omega
    case rel=>exact⟨k+1,_,_,by omega,by go_num,by rw[HS.o];exact HAA.o,rfl⟩
   ·have q1:((x.kind:Int)==1)=eE:=by rw[hx];rfl
    have q2:((x.kind:Int)==2)=eE:=by rw[hx];rfl
    have q3:((x.kind:Int)==3)=eJ:=by rw[hx];rfl
    have hne:=HI.o (.inl hx);obtain⟨gF,rfl,hcF,hrw⟩:=lq.o.gm.N8 hne;have Bz:∀j (h:j<(#[vI o.last.slots,fS o.last.ends,jn (eC (lb[ee o.fs-1]?.getD 0))]:tAV).size),W3.cell? ⟨gF,(ee o.fs-1)*3+j,ez⟩=eC (#[vI o.last.slots,fS o.last.ends,jn (eC (lb[ee o.fs-1]?.getD 0))]:tAV)[j]:=hrw W3 aA;have hn1:1<=ee o.fs:=List.length_pos_iff.2 hne;have hi:((ee o.fs:Int)-1)=((ee o.fs-1:Nat):Int):=by omega
    have TG:=ai (λW (m:aa ah W3 W)=>lq.o.quiet m);have HOL:=rG tN.o;have ae7:=ai (Hz.o (by omega));have HOS:af (bV o x=o.dK (o.last.label x.name)):=by rw[af,bV,iN9 (by omega),iN9 (by omega),iP9 hx]
    have HSE:=ai (Jk hne);have Rc:=ai (λW m=>(TG.o W m).gm.ZC hne);have HPL:af (∀W w',aa ah W3 W->jN w' (lb[ee o.fs-1]?.getD 0) (o.last.bP++[(x.name,o.last.slots)])->aa (λk=>k=lb[ee o.fs-1]?.getD 0) W w'->lK w R A bm (eK (eC ⟨gF,0,ez⟩) (ee o.fs) cF) lb (o.dK {o.last with bP:=o.last.bP++[(x.name,o.last.slots)]}) w'):=λW w' m h1 h2=>(TG.o W m).lab hne h1 h2;clear hx hrw;go_upto_region 12 with fail;generalize lb[ee o.fs-1]?.getD 0=bl at *;generalize hn1':ee o.fs-1=n1 at *;generalize hnn:ee o.fs=nn at *;have HLD:af (o.last.label x.name=if(ib o.last.bP x.name).isSome then o.last else{o.last with bP:=o.last.bP++[(x.name,o.last.slots)]}):=rfl;generalize ae8:o.last=la at *;obtain⟨sl,en,las⟩:=la;dsimp only at *;have jh:af (aa ah W3 (W3.alloc (eR #[vI sl,fS en,jn (eC bl)] 148))):=aq;have c1':=((HB3.o.ae jh.o id).cell 1).trans ae7.o;have hlk:=(Rc.o _ jh.o).look x.name;have HPU:=ai (λh=>(Rc.o _ jh.o).put x.name sl h);generalize ib las x.name=lo at *;cases lo with
    |some lv =>
     have KO:af (lK w R A bm (eK (eC ⟨gF,0,ez⟩) nn cF) lb (bV o x) (W3.alloc (eR #[vI sl,fS en,jn (eC bl)] 148))):=by rw[HOS.o,HLD.o];simp only[an,if_true];rw[HSE.o];exact TG.o _ jh.o
     simp only[ab,an]at hlk;go_wp2_with (refine eW rfl 148 (.tmp 47) rfl gF (n1*3) rfl #[vI sl,fS en,jn (eC bl)] _ Bz underlying148 rfl (by kernel_rfl) ?_);go_roundg (ee ls-(k+1))
     case measure=>omega
     case rel=>exact⟨k+1,_,lb,by omega,by go_num,by rw[HS.o];exact KO.o,rfl⟩
    |none =>
     obtain⟨w5,ZG,hl5,m5⟩:=HPU.o rfl;have KO:af (lK w R A bm (eK (eC ⟨gF,0,ez⟩) nn cF) lb (bV o x) w5):=by rw[HOS.o,HLD.o];exact HPL.o _ _ jh.o hl5 m5
     simp only[Option.getD_none,Option.isSome_none]at hlk;clear hl5 m5;go_wp2_with (refine eW rfl 148 (.tmp 47) rfl gF (n1*3) rfl #[vI sl,fS en,jn (eC bl)] _ Bz underlying148 rfl (by kernel_rfl) ?_);go_roundg (ee ls-(k+1))
     case measure=>omega
     case rel=>exact⟨k+1,_,lb,by omega,by go_num,by rw[HS.o];exact KO.o,rfl⟩
   ·have q1:((x.kind:Int)==1)=eE:=by rw[hx];rfl
    have q2:((x.kind:Int)==2)=eE:=by rw[hx];rfl
    have q3:((x.kind:Int)==3)=eE:=by rw[hx];rfl
    have q4:((x.kind:Int)==4)=eJ:=by rw[hx];rfl
    have hne:=HI.o (.inr hx);obtain⟨gF,rfl,hcF,hrw⟩:=lq.o.gm.N8 hne;have Bz:∀j (h:j<(#[vI o.last.slots,fS o.last.ends,jn (eC (lb[ee o.fs-1]?.getD 0))]:tAV).size),W3.cell? ⟨gF,(ee o.fs-1)*3+j,ez⟩=eC (#[vI o.last.slots,fS o.last.ends,jn (eC (lb[ee o.fs-1]?.getD 0))]:tAV)[j]:=hrw W3 aA;have hn1:1<=ee o.fs:=List.length_pos_iff.2 hne;have hi:((ee o.fs:Int)-1)=((ee o.fs-1:Nat):Int):=by omega
    have TG:=ai (λW (m:aa ah W3 W)=>lq.o.quiet m);have HOL:=rG tN.o;have HOS:af (bV o x=o.dK (o.last.code x.x.o)):=by rw[af,bV,iN9 (by omega),iN9 (by omega),iN9 (by omega),iP9 hx]
    have ae9:=ai (Q9.o hx);have ZH:=ai (λW m=>VK.o W (lq.o.gm.md.trans m) hx);have hs2:=x.x.zX;have UO:af (∀W,aa ah W3 W->W.cell? ⟨gF,(ee o.fs-1)*3,ez⟩=eC (vI o.last.slots)/\W.cell? ⟨gF,(ee o.fs-1)*3+1,ez⟩=eC (fS o.last.ends)):=λW m=>⟨hrw W m 0 (by show 0<3;decide),hrw W m 1 (by show 1<3;decide)⟩
    have HGB:af (∀W,aa ah W3 W->∃cs,ak W gF cs 148):=λW m=>by obtain⟨o',c',hv',hb'⟩:=(TG.o W m).gm.sl.view;obtain⟨g',cs',h1,h2,_⟩:=hb' hn1;injection hv' with e1 e2 e3;rw[h1]at e1;injection e1 with e1;injection e1 with e1;exact⟨cs',by rw[e1];exact h2⟩
    clear hx hrw VK Q9 Bz;go_upto_region 17 with fail;generalize lb[ee o.fs-1]?.getD 0=bl at *;generalize bs[x.x.k]?.getD 0=bo at *;have HRW:af (∀W f,aa ah W3 W->f.bP=o.last.bP->lK w R A bm (eK (eC ⟨gF,0,ez⟩) (ee o.fs) cF) lb (o.dK f) ((W.setCell ⟨gF,(ee o.fs-1)*3,ez⟩ (vI f.slots)).setCell ⟨gF,(ee o.fs-1)*3+1,ez⟩ (fS f.ends))):=λW f m hf=>(TG.o W m).row hne hf;generalize hn1':ee o.fs-1=n1 at *;generalize hnn:ee o.fs=nn at *;have HFS:af (o.last.code x.x.o={slots:=o.last.slots+x.x.o.slots,ends:=x.x.o.ends,bP:=o.last.bP}):=rfl;generalize ae8:o.last=la at *;obtain⟨sl,en,las⟩:=la;dsimp only at *;go_upto_region 18 with fail;have gu:af (aa ah W3 W3.drew):=aU;refine bU 13 (by kernel_rfl) (by kernel_rfl) ?_;intro W hW;rw[<-hW]at gu;clear hW c0 a0 a1;obtain⟨d0,d1⟩:=UO.o W gu.o;have e11:=((HB3.o.ae gu.o id).cell 11).trans ae9.o;obtain⟨p1,p2,p3,p4,p5,p6,p7,p8,p9,p10,p11,CK,_⟩:=(ZH.o W gu.o).ex;have o2:=CK.cell 2;have o4:=CK.cell 4;obtain⟨csF,hgb⟩:=HGB.o W gu.o;have gf:=hgb.frozen;have gB:B≠gF:=λe=>(HB3.o.ae gu.o id).apart hgb (by decide) e;have gO:bo≠gF:=λe=>CK.apart hgb (by decide) e;have KO:af (lK w R A bm (eK (eC ⟨gF,0,ez⟩) nn cF) lb (bV o x) ((W.setCell ⟨gF,n1*3,ez⟩ (vI ((sl:Int)+(x.x.o.slots:Int)))).setCell ⟨gF,n1*3+1,ez⟩ (fS x.x.o.ends))):=by rw[HOS.o,HFS.o];exact HRW.o W {slots:=sl+x.x.o.slots,ends:=x.x.o.ends,bP:=las} gu.o rfl
    clear CK hgb;generalize x.x.o.slots=os at *;generalize x.x.o.ends=oe at *;simp only[List.take_succ_cons,cb,List.drop_succ_cons,List.drop_zero]
    repeat(go_big_quiet_step (fail))
    refine wpQuiet_nil ?_;go_wp2_with fail;go_roundg (ee ls-(k+1))
    case measure=>omega
    case rel=>exact⟨k+1,_,lb,by omega,by go_num,by rw[HS.o];exact KO.o,rfl⟩
  ·rw[sV.o k hlt]at HA;have a0:=HA.o.all.c0;have a1:=HA.o.all.c1;have r0:=HA.o.res.cell 0;have r1:=HA.o.res.cell 1;have rf:=HA.o.res.frozen;have HF:af (dY w bm (eK oF (ee (au ls).fs) cF) lb (au ls) ((wr.setCell ⟨R,0,ez⟩ (jn (eC bm))).setCell ⟨R,1,ez⟩ (eK oF (ee (au ls).fs) cF))):=HA.o.gm.keep HA.o.res (by decide) HA.o.lt.2.1 ((aA.bz _ _).bz _ _);have HRB:af (ak ((wr.setCell ⟨R,0,ez⟩ (jn (eC bm))).setCell ⟨R,1,ez⟩ (eK oF (ee (au ls).fs) cF)) R #[jn (eC bm),eK oF (ee (au ls).fs) cF] 91):=(HA.o.res.set 0 _).set 1 _;go_wp2_with fail;exact bodyPost_ret (results_cell_row results24 _ _ R 91 #[jn (eC bm),eK oF (ee (au ls).fs) cF] (0,0) _ rfl HRB.o underlying91 rfl (by kernel_rfl)) rfl (Q8.o _ _ _ _ lb rfl HF.o)
def L7(n:bE)(most:Int):Bool:=(n.dL 9223372036854775808).isSome&&eS (1<=(n.dL 9223372036854775808).getD 0)&&eS ((n.dL 9223372036854775808).getD 0<=most)
def kT(a b c:bE):Bool:=L7 a 8&&L7 b 16&&L7 c 8
theorem ac7(W:tW):(Instr.index 363 (fW #[vI 8,vI 16,vI 8]) (vI 0)).run prog W=.ok (vI 8) W:=rfl
theorem ac8(W:tW):(Instr.index 363 (fW #[vI 8,vI 16,vI 8]) (vI 1)).run prog W=.ok (vI 16) W:=rfl
theorem ac9(W:tW):(Instr.index 363 (fW #[vI 8,vI 16,vI 8]) (vI 2)).run prog W=.ok (vI 8) W:=rfl
theorem ZI(kd:Nat)(nm:tBA)(a b c:bE)(w:tW):Calls prog 265 #[fW (jx kd nm a b c)] w λe w'=>e=.returned (fS (kT a b c))/\aa ah w w':=by
 have HF:af (kT a b c=(((a.dL 9223372036854775808).isSome&&eS (1<=(a.dL 9223372036854775808).getD 0)&&eS ((a.dL 9223372036854775808).getD 0<=8))&&((b.dL 9223372036854775808).isSome&&eS (1<=(b.dL 9223372036854775808).getD 0)&&eS ((b.dL 9223372036854775808).getD 0<=16))&&((c.dL 9223372036854775808).isSome&&eS (1<=(c.dL 9223372036854775808).getD 0)&&eS ((c.dL 9223372036854775808).getD 0<=8)))):=rfl;have VL:=ai (ma a);have HSB:=ai (ma b);have HSC:=ai (ma c);unfold bE.fB jx Jg at *;generalize kT a b c=r at *;generalize a.dL 9223372036854775808=sa at *;generalize eS (18446744073709551616<=a.v)=ag at *;generalize((a.v%18446744073709551616:Nat):Int)=av at *;generalize a.minus=am at *;generalize b.dL 9223372036854775808=sb at *;generalize eS (18446744073709551616<=b.v)=bg at *;generalize((b.v%18446744073709551616:Nat):Int)=bv at *;generalize b.minus=bm at *;generalize c.dL 9223372036854775808=sc at *;generalize eS (18446744073709551616<=c.v)=cg at *;generalize((c.v%18446744073709551616:Nat):Int)=cv at *;generalize c.minus=cm at *;generalize hcs:(#[vI kd,eI nm,fS am,vU av,fS ag,fS bm,vU bv,fS bg,fS cm,vU cv,fS cg,vO,vB (0:Nat),vB (0:Nat),.int .i16 0,vJ 0,vJ 0,eI ⟨#[]⟩,eI ⟨#[]⟩,fS eE]:tAV)=cs at *;have jS:=ai hcs.symm;clear hcs;have HB0:=ai (ak.new w cs 143);have dU:af (aa ah w (w.alloc (eR cs 143))):=aq;go_in;go_upto_region 1 with fail;go_wp2_with fail;generalize w.alloc (eR cs 143)=w1 at *;generalize w.heap.size=B at *;go_loopg [8] 3 (λq v8 wx=>∃k:Nat,k<=3/\v8=vI k/\aa ah w1 wx/\(1<=k->(sa.isSome&&eS (1<=sa.getD 0)&&eS (sa.getD 0<=8))=eJ)/\(2<=k->(sb.isSome&&eS (1<=sb.getD 0)&&eS (sb.getD 0<=16))=eJ)/\(3<=k->(sc.isSome&&eS (1<=sc.getD 0)&&eS (sc.getD 0<=8))=eJ)/\q=3-k)
 case atStart=>exact⟨0,by omega,rfl,aA,λh=>absurd h (by omega),λh=>absurd h (by omega),λh=>absurd h (by omega),rfl⟩
 case round =>
  obtain⟨k,hk,rfl,hm,g1,g2,g3,rfl⟩:=hrel;have HM:=ai hm;have G1:=ai g1;have G2:=ai g2;have G3:=ai g3;clear hm g1 g2 g3;have hcase:k=0\/k=1\/k=2\/k=3:=by omega
  rcases hcase with rfl|rfl|rfl|rfl
  ·have pQ:=HB0.o.ae HM.o id;rw[jS.o]at pQ;have d0:=pQ.cell 2;have d1:=pQ.cell 3;have d2:=pQ.cell 4;clear pQ;have hix:=ac7;go_wp2_with fail;refine(VL.o _).mono ?_;rintro e w2 ⟨rfl,m2⟩;have dV:=ai (HM.o.trans m2);clear m2 d0 d1 d2;cases sa with
   |none =>have zA:af (((ez:Option Int).isSome&&eS (1<=(ez:Option Int).getD 0)&&eS ((ez:Option Int).getD 0<=8))=eE):=rfl;go_wp2_with fail;go_ret;exact⟨by rw[HF.o,zA.o];simp,dU.o.trans dV.o⟩
   |some v =>
    simp only[ab,an];by_cases h1:v<1
    ·have zA:af (((eC v).isSome&&eS (1<=(eC v).getD 0)&&eS ((eC v).getD 0<=8))=eE):=by rw[af];simp;omega
     go_wp2_with fail;go_ret;exact⟨by rw[HF.o,zA.o];simp,dU.o.trans dV.o⟩
    ·by_cases h2:8<v
     ·have zA:af (((eC v).isSome&&eS (1<=(eC v).getD 0)&&eS ((eC v).getD 0<=8))=eE):=by rw[af];simp;omega
      go_wp2_with fail;go_ret;exact⟨by rw[HF.o,zA.o];simp,dU.o.trans dV.o⟩
     ·have LK:af (((eC v).isSome&&eS (1<=(eC v).getD 0)&&eS ((eC v).getD 0<=8))=eJ):=by rw[af];simp;omega
      go_wp2_with fail;go_roundg (3-1)
      case measure=>omega
      case rel=>exact⟨1,by omega,by go_num,dV.o,λ_=>LK.o,λh=>absurd h (by omega),λh=>absurd h (by omega),rfl⟩
  ·have pQ:=HB0.o.ae HM.o id;rw[jS.o]at pQ;have d0:=pQ.cell 5;have d1:=pQ.cell 6;have d2:=pQ.cell 7;clear pQ;have hix:=ac8;go_wp2_with fail;refine(HSB.o _).mono ?_;rintro e w2 ⟨rfl,m2⟩;have dV:=ai (HM.o.trans m2);clear m2 d0 d1 d2;cases sb with
   |none =>have zA:af (((ez:Option Int).isSome&&eS (1<=(ez:Option Int).getD 0)&&eS ((ez:Option Int).getD 0<=16))=eE):=rfl;go_wp2_with fail;go_ret;exact⟨by rw[HF.o,zA.o];simp,dU.o.trans dV.o⟩
   |some v =>
    simp only[ab,an];by_cases h1:v<1
    ·have zA:af (((eC v).isSome&&eS (1<=(eC v).getD 0)&&eS ((eC v).getD 0<=16))=eE):=by rw[af];simp;omega
     go_wp2_with fail;go_ret;exact⟨by rw[HF.o,zA.o];simp,dU.o.trans dV.o⟩
    ·by_cases h2:16<v
     ·have zA:af (((eC v).isSome&&eS (1<=(eC v).getD 0)&&eS ((eC v).getD 0<=16))=eE):=by rw[af];simp;omega
      go_wp2_with fail;go_ret;exact⟨by rw[HF.o,zA.o];simp,dU.o.trans dV.o⟩
     ·have LK:af (((eC v).isSome&&eS (1<=(eC v).getD 0)&&eS ((eC v).getD 0<=16))=eJ):=by rw[af];simp;omega
      go_wp2_with fail;go_roundg (3-2)
      case measure=>omega
      case rel=>exact⟨2,by omega,by go_num,dV.o,λ_=>G1.o (by omega),λ_=>LK.o,λh=>absurd h (by omega),rfl⟩
  ·have pQ:=HB0.o.ae HM.o id;rw[jS.o]at pQ;have d0:=pQ.cell 8;have d1:=pQ.cell 9;have d2:=pQ.cell 10;clear pQ;have hix:=ac9;go_wp2_with fail;refine(HSC.o _).mono ?_;rintro e w2 ⟨rfl,m2⟩;have dV:=ai (HM.o.trans m2);clear m2 d0 d1 d2;cases sc with
   |none =>have zA:af (((ez:Option Int).isSome&&eS (1<=(ez:Option Int).getD 0)&&eS ((ez:Option Int).getD 0<=8))=eE):=rfl;go_wp2_with fail;go_ret;exact⟨by rw[HF.o,zA.o];simp,dU.o.trans dV.o⟩
   |some v =>
    simp only[ab,an];by_cases h1:v<1
    ·have zA:af (((eC v).isSome&&eS (1<=(eC v).getD 0)&&eS ((eC v).getD 0<=8))=eE):=by rw[af];simp;omega
     go_wp2_with fail;go_ret;exact⟨by rw[HF.o,zA.o];simp,dU.o.trans dV.o⟩
    ·by_cases h2:8<v
     ·have zA:af (((eC v).isSome&&eS (1<=(eC v).getD 0)&&eS ((eC v).getD 0<=8))=eE):=by rw[af];simp;omega
      go_wp2_with fail;go_ret;exact⟨by rw[HF.o,zA.o];simp,dU.o.trans dV.o⟩
     ·have LK:af (((eC v).isSome&&eS (1<=(eC v).getD 0)&&eS ((eC v).getD 0<=8))=eJ):=by rw[af];simp;omega
      go_wp2_with fail;go_roundg (3-3)
      case measure=>omega
      case rel=>exact⟨3,by omega,by go_num,dV.o,λ_=>G1.o (by omega),λ_=>G2.o (by omega),λ_=>LK.o,rfl⟩
  ·go_wp2_with fail;go_ret;exact⟨by rw[HF.o,G1.o (by omega),G2.o (by omega),G3.o (by omega)];rfl,dU.o.trans HM.o⟩
