import Derived.Test.YthnphhgpfedeeaaGreatDoorCF18
namespace Go.Proofs.YthnphhgpfedeeaaGreatDoor
open Go.RowKit Tryz
open List renaming getElem_set->al,ext_getElem->an,getElem_zip->ao,size_toArray->ar,getElem_map->bj,getElem_mem->bq,flatMap_def->bt
open Nat renaming le_succ_of_le->ab,le_refl->aE,zero_le->ba
open Option renaming getD_some->bh,map_some->bO
set_option linter.all false
set_option maxRecDepth 100000
def xw(w:tW)(b:Nat)(f:tBA->Option Value)(n:Nat):Prop:=∃(es:Array MapEntry) (clock:Nat) (kv:List (tBA×Value)),w.heap[b]?=some (.map es clock)/\es.toList.map JD=kv.map kvC/\(∀s,(kv.find? (λp=>s==p.1)).map (·.2)=f s)/\kv.length=n
theorem xw.of{w:tW}{b n:Nat}{f:tBA->Option Value}(h:xw w b f n):MapOf w b f:=by obtain⟨es,c,kv,h1,h2,h3,_⟩:=h;exact⟨es,c,kv,h1,h2,h3⟩
theorem xw.new(w:tW):xw (w.alloc (.map #[] 0)) w.heap.size (λ_=>none) 0:=⟨#[],0,[],heap_alloc_new w _,rfl,λ_=>rfl,rfl⟩
theorem xw.ag{w w':tW}{b n:Nat}{f:tBA->Option Value}{S:Nat->Prop}(h:xw w b f n)(m:aa S w w')(hS:¬S b):xw w' b f n:=by have hl:=h.of.lt;obtain⟨es,clock,kv,hb,h2⟩:=h;exact⟨es,clock,kv,(m.block b hl hS).trans hb,h2⟩
theorem xw.len{P:Program}{w:tW}{b n:Nat}{f:tBA->Option Value}(h:xw w b f n){t kt et rt:TypeId}(hm:P.underlying t=some (.map kt et)):(Builtin.len_ #[t] rt #[.map (some b)]).run P w=.ok (.int .i64 n) w:=by
 obtain⟨es,clock,kv,hb,he,hf,hn⟩:=h;have hs:es.size=n:=by have:=congrArg List.length he;simp at this;omega
 unfold Builtin.len_;simp[run_underlying hm,MapKept.run_getObj_map hb,hs,goInt]
theorem MapOf.LV{P:Program}{w:tW}{b:Nat}{f:tBA->Option Value}(h:MapOf w b f){t kt et:TypeId}(hm:P.underlying t=some (.map kt et))(hk:P.underlying kt=some .string){z:Value}(hz:(zeroValue et).run P w=.ok z w)(s:tBA):(Instr.lookup t (.map (some b)) (.string s) false).run P w=.ok ((f s).getD z) w:=by
 obtain⟨es,clock,kv,hb,he,hf⟩:=h;have hc:(Instr.checkKey es.isEmpty 10000 kt (.string s)).run P w=.ok () w:=MapKept.run_checkKey (k:=.string s) hk (by simp[MapKept.IsKey]) _ 9999;have hfn:=MapKept.run_findKey (P:=P) (w:=w) hk (j8 s es.toList kv 0 he);have hv:=pT s kv 0;rw[hf s]at hv;unfold Instr.lookup;simp only[Sem.run_bind,run_underlying hm,MapKept.run_getObj_map hb,hc,hfn,Result.andThen,Sem.run_pure];cases hq:kvFind s kv 0 with
 |none =>rw[hq]at hv;rw[<-hv];simp[hz,Result.andThen]
 |some q =>rw[hq]at hv;rw[<-hv];simp
theorem xw.update{P:Program}{w:tW}{b n:Nat}{f:tBA->Option Value}(h:xw w b f n){t kt et:TypeId}(hm:P.underlying t=some (.map kt et))(hk:P.underlying kt=some .string)(s:tBA)(u:Value):∃w',(Instr.mapUpdate t (.map (some b)) (.string s) u).run P w=.ok () w'/\xw w' b (λs'=>if s'=s then some u else f s') (if(f s).isSome then n else n+1)/\aa (λk=>k=b) w w':=by
 obtain⟨es,clock,kv,hb,he,hf,hn⟩:=h;have hlt:=(Array.getElem?_eq_some_iff.1 hb).1;have hc:(Instr.checkKey false 10000 kt (.string s)).run P w=.ok () w:=MapKept.run_checkKey (k:=.string s) hk (by simp[MapKept.IsKey]) _ 9999;have hfn:=MapKept.run_findKey (P:=P) (w:=w) hk (j8 s es.toList kv 0 he);have Gc:∀o:Obj,aa (λk=>k=b) w {w with heap:=w.heap.setIfInBounds b o}:=λo=>⟨rfl,rfl,rfl,by simp,λk _ hn=>(MapKept.heap_set hb).2 k hn⟩
 have hv:=pT s kv 0;rw[hf s]at hv;cases hq:kvFind s kv 0 with
 |none =>
  rw[hq]at hfn hv;have hno:(f s).isSome=false:=by rw[<-hv];rfl
  refine⟨{w with heap:=w.heap.setIfInBounds b (.map (es.push {key:=.string s,val:=u,born:=clock}) (clock+1))},?_,⟨_,_,kv++[(s,u)],(MapKept.heap_set hb).1,?_,λs'=>?_,by rw[hno,iN9 (by simp)];simp[hn]⟩,Gc _⟩
  ·unfold Instr.mapUpdate;simp[run_underlying hm,MapKept.run_getObj_map hb,hc,hfn,MapKept.run_setObj_map _ hb,Result.andThen]
  ·simp[he,JD,kvC]
  ·have hn:=rE s kv 0 hq;rw[List.find?_append];by_cases d:s'=s
   ·subst d;rw[hn];simp[wK]
   ·have d':(s'==s)=false:=RF d;show _=if s'=s then some u else f s'
    rw[iN9 d,<-hf s'];cases kv.find? (λp=>s'==p.1)with
    |none=>simp[d']
    |some q=>simp
 |some q =>
  obtain⟨j,v⟩:=q;rw[hq]at hfn hv;have adZ:(f s).isSome=true:=by rw[<-hv];rfl
  obtain⟨n',e,hn',⟨v',hv'⟩,hs⟩:=yo s kv 0 j v hq;rw[Nat.zero_add]at e;subst e;have hjl:j<es.size:=by have:=congrArg List.length he;simp at this;omega
  have hej:JD es[j]=kvC (s,v'):=by
   have:=congrArg (λl:List (Value×Value)=>l[j]?) he;simp only[List.getElem?_map,hv',bO]at this;rw[Array.getElem?_toList,Array.getElem?_eq_getElem hjl]at this
   simpa using this
  have hkey:es[j].key=.string s:=congrArg Prod.fst hej;have hst:(Instr.keyThatStays (((es[j]?).map (·.key)).getD (.string s)) (.string s)).run P w=.ok (.string s) w:=by rw[Array.getElem?_eq_getElem hjl,bO,bh,hkey];exact MapKept.run_keyThatStays (d:=.string) (by simp[MapKept.IsKey])
  refine⟨{w with heap:=w.heap.setIfInBounds b (.map (es.modify j λe=>{e with key:=.string s,val:=u}) clock)},?_,⟨_,_,kv.set j (s,u),(MapKept.heap_set hb).1,?_,λs'=>?_,by rw[adZ,iP9 rfl];simp[hn]⟩,Gc _⟩
  ·unfold Instr.mapUpdate;simp[run_underlying hm,MapKept.run_getObj_map hb,hc,hfn,hst,MapKept.run_setObj_map _ hb,Result.andThen]
  ·rw[List.map_set,<-he];refine an (by simp) λt h1 h2=>?_;simp only[bj,Array.getElem_toList,Array.getElem_modify,al];split
   ·rfl
   ·rfl
  ·rw[hs u s',hf s']
def cntF(l:List tLB)(s:tBA):Option Value:=if l.count (BL s)=0 then none else some (.int .i64 (l.count (BL s):Nat))
theorem cnt_push(l:List tLB)(x:tLB):(λs'=>if s'=T x then some (Value.int .i64 ((l.count x:Nat)+1:Int))else cntF l s')=cntF (x::l):=by
 funext s;by_cases e:s=T x
 ·subst e;have hb:BL (T x)=x:=by simp[BL,T]
  simp[cntF,hb]
 ·rw[iN9 e];have hne:x≠BL s:=λh=>e (by rw[h,Wn]);simp[cntF,List.count_cons,hne]
def ed(w:tW)(b:Nat)(l:List tLB):Prop:=∃n,xw w b (cntF l) n/\(l.Nodup->n=l.length)
theorem ed.ag{w w':tW}{b:Nat}{l:List tLB}{S:Nat->Prop}(h:ed w b l)(m:aa S w w')(hS:¬S b):ed w' b l:=by obtain⟨n,h1,h2⟩:=h;exact⟨n,h1.ag m hS,h2⟩
theorem ed.new(w:tW):ed (w.alloc (.map #[] 0)) w.heap.size []:=⟨0,xw.new w,λ_=>rfl⟩
theorem ed.lt{w:tW}{b:Nat}{l:List tLB}(h:ed w b l):b<w.heap.size:=by obtain⟨n,h1,_⟩:=h;exact h1.of.lt
theorem ed.au{w:tW}{b g:Nat}{l:List tLB}{cs:tAV}{t:TypeId}(h:ed w b l)(hb:ak w g cs t):g≠b:=by obtain⟨n,h1,_⟩:=h;exact h1.of.au hb
theorem ed.look{w:tW}{b:Nat}{l:List tLB}(h:ed w b l)(x:tLB):(Instr.lookup 105 (.map (some b)) (.string (T x)) false).run prog w=.ok (.int .i64 (l.count x:Nat)) w:=by
 obtain⟨n,h1,_⟩:=h;have:=h1.of.LV (P:=prog) (t:=105) underlying105 underlying9 (z:=.int .i64 0) (zeroValue3 w) (T x);have hb:BL (T x)=x:=by simp[BL,T]
 rw[this,cntF,hb];by_cases e:l.count x=0
 ·rw[iP9 e,e];rfl
 ·rw[iN9 e];rfl
theorem ed.put{w:tW}{b:Nat}{l:List tLB}(h:ed w b l)(x:tLB):∃w',(Instr.mapUpdate 105 (.map (some b)) (.string (T x)) (.int .i64 ((l.count x:Nat)+1:Int))).run prog w=.ok () w'/\ed w' b (x::l)/\aa (λk=>k=b) w w':=by
 obtain⟨n,h1,h2⟩:=h;obtain⟨w',r1,r2,r3⟩:=h1.update (P:=prog) (t:=105) underlying105 underlying9 (T x) (.int .i64 ((l.count x:Nat)+1:Int));rw[cnt_push]at r2;refine⟨w',r1,⟨_,r2,λhn=>?_⟩,r3⟩;have hb:BL (T x)=x:=by simp[BL,T]
 obtain⟨hx,hl⟩:=List.nodup_cons.1 hn;have hc:l.count x=0:=List.count_eq_zero.2 hx;rw[cntF,hb,iP9 hc];simp[h2 hl]
theorem ed.size{w:tW}{b:Nat}{l:List tLB}(h:ed w b l)(hn:l.Nodup):(Builtin.len_ #[105] 3 #[.map (some b)]).run prog w=.ok (.int .i64 (l.length:Nat)) w:=by obtain⟨n,h1,h2⟩:=h;rw[<-h2 hn];exact h1.len underlying105
structure ra where
 slots:Nat:=0
 ends:Bool:=false
 bB:List (tLB×Nat):=[]
def fA(l:List (tLB×Nat))(x:tLB):Option Nat:=(l.find? (λp=>p.1==x)).map (·.2)
structure OL where
 maps:List tLB:=[]
 fs:List ra:=[]
def OL.last(o:OL):ra:=o.fs.getD (o.fs.length-1) {}
def OL.cZ(o:OL)(f:ra):OL:={o with fs:=o.fs.set (o.fs.length-1) f}
def ra.label(f:ra)(x:tLB):ra:=if(fA f.bB x).isSome then f else{f with bB:=f.bB++[(x,f.slots)]}
def ra.code(f:ra)(op:dY):ra:={f with slots:=f.slots+op.slots,ends:=op.ends}
def bH(o:OL)(x:dN):OL :=
 if x.kind=1 then{o with maps:=x.name::o.maps}
 else if x.kind=2 then{o with fs:=o.fs++[{}]}
 else if x.kind=3 then o.cZ (o.last.label x.name)
 else if x.kind=4 then o.cZ (o.last.code x.x.o)
 else o
def ah(ls:List dN):OL:=ls.foldl bH {}
theorem fO(ls:List dN)(k:Nat)(h:k<ls.length):ah (ls.take (k+1))=bH (ah (ls.take k)) ls[k]:=by unfold ah;rw[List.take_succ_eq_append_getElem h,List.foldl_append];rfl
def InF(ls:List dN):Prop:=∀k (h:k<ls.length),(ls[k].kind=3\/ls[k].kind=4)->(ah (ls.take k)).fs≠[]
def OX(l:List (tLB×Nat))(s:tBA):Option Value:=(fA l (BL s)).map (λn=>.int .i64 (n:Nat))
def gU(w:tW)(b:Nat)(l:List (tLB×Nat)):Prop:=MapOf w b (OX l)
theorem Td(l:List (tLB×Nat))(x:tLB)(n:Nat)(h:(fA l x).isSome=false):(λs'=>if s'=T x then some (Value.int .i64 (n:Nat))else OX l s')=OX (l++[(x,n)]):=by
 funext s;have hb:BL (T x)=x:=by simp[BL,T]
 unfold OX fA at *;rw[List.find?_append];by_cases e:s=T x
 ·subst e;rw[iP9 rfl,hb];cases hf:l.find? (λp=>p.1==x)with
  |some q=>rw[hf]at h;cases h
  |none=>simp
 ·rw[iN9 e];have hne:(x==BL s)=false:=by rw[beq_eq_false_iff_ne];exact λh=>e (by rw[h,Wn])
  cases l.find? (λp=>p.1==BL s)with
  |some q=>simp
  |none=>simp[hne]
theorem gU.look{w:tW}{b:Nat}{l:List (tLB×Nat)}(h:gU w b l)(x:tLB):(Instr.lookup 105 (.map (some b)) (.string (T x)) true).run prog w=.ok (.tuple #[.int .i64 ((fA l x).getD 0:Nat),.bool (fA l x).isSome]) w:=by
 have:=MapOf.lookup (P:=prog) h (t:=105) underlying105 underlying9 (z:=.int .i64 0) (zeroValue3 w) (T x);have hb:BL (T x)=x:=by simp[BL,T]
 rw[this,OX,hb];cases fA l x<;>rfl
theorem gU.abX{w:tW}{b:Nat}{l:List (tLB×Nat)}(h:gU w b l)(x:tLB):(Instr.lookup 105 (.map (some b)) (.string (T x)) false).run prog w=.ok (.int .i64 ((fA l x).getD 0:Nat)) w:=by
 have:=MapOf.LV (P:=prog) h (t:=105) underlying105 underlying9 (z:=.int .i64 0) (zeroValue3 w) (T x);have hb:BL (T x)=x:=by simp[BL,T]
 rw[this,OX,hb];cases fA l x<;>rfl
theorem gU.put{w:tW}{b:Nat}{l:List (tLB×Nat)}(h:gU w b l)(x:tLB)(n:Nat)(hx:(fA l x).isSome=false):∃w',(Instr.mapUpdate 105 (.map (some b)) (.string (T x)) (.int .i64 n)).run prog w=.ok () w'/\gU w' b (l++[(x,n)])/\aa (λk=>k=b) w w':=by obtain⟨w',r1,r2,r3⟩:=MapOf.update (P:=prog) h (t:=105) underlying105 underlying9 (T x) (.int .i64 n);rw[Td l x n hx]at r2;exact⟨w',r1,r2,r3⟩
def jC(b:Nat)(f:ra):List Value:=[.int .i64 f.slots,.bool f.ends,.map (some b)]
def gV(lb:List Nat)(fs:List ra):List Value:=(lb.zip fs).flatMap (λx=>jC x.1 x.2)
structure dL(w0:tW)(bm:Nat)(vF:Value)(lb:List Nat)(o:OL)(w:tW):Prop where
 len:lb.length=o.fs.length
 maps:ed w bm o.maps
 sl:Sl w 164 3 vF o.fs.length (gV lb o.fs)
 bB:∀i (h:i<o.fs.length),gU w (lb[i]?.getD 0) o.fs[i].bB
 nd:(bm::lb).Nodup
 lo:∀b∈bm::lb,w0.heap.size<=b
 own:∀k,vF.ownBlock=some k->w0.heap.size<=k
 md:aa ae w0 w
theorem dL.quiet{w0 w w':tW}{bm:Nat}{vF:Value}{lb:List Nat}{o:OL}(h:dL w0 bm vF lb o w)(m:aa ae w w'):dL w0 bm vF lb o w' :=
 ⟨h.len,h.maps.ag m id,h.sl.ag m (λ_ _=>id),λi hi=>MapOf.ag (h.bB i hi) m id,h.nd,h.lo,h.own,h.md.trans m⟩
theorem dL.new(w0 w:tW)(m:aa ae w0 w):dL w0 w.heap.size (.slice none 0 0) [] {} (w.alloc (.map #[] 0)) :=
 ⟨rfl,ed.new w,Sl.nil _ _ _,λi h=>absurd h (Nat.not_lt_zero _),by simp,λb hb=>by
  have:b=w.heap.size:=by simpa using hb
  rw[this];exact m.size,λk h=>(by cases h),m.alloc _⟩
theorem MapOf.Dl{w:tW}{b:Nat}{f:tBA->Option Value}(h:MapOf w b f){e:TypeId}{size n:Nat}{v:Value}{xs:List Value}(hs:Sl w e size v n xs):v.ownBlock≠some b:=λhk=>by
 rcases hs.2 with⟨h0,_⟩ |⟨g,cap,cur,h0,_,hg,_⟩
 ·rw[h0]at hk;cases hk
 ·rw[h0]at hk;cases hk;exact h.au hg rfl
theorem J7(lb:List Nat)(fs:List ra)(h:lb.length=fs.length)(b:Nat)(f:ra):gV (lb++[b]) (fs++[f])=gV lb fs++jC b f:=by unfold gV;rw[List.zip_append h,List.flatMap_append];simp
theorem dL.func{w0 w w':tW}{bm bN:Nat}{vF VX:Value}{lb:List Nat}{o:OL}(h:dL w0 bm vF lb o w)(hN:gU w bN [])(hlo:w0.heap.size<=bN)(hnew:bN ∉ bm::lb)(s:Sl w' 164 3 VX (o.fs.length+1) (gV lb o.fs++jC bN ({}:ra))) (m:aa (λk=>vF.ownBlock=some k) w w') (lv:∀k,VX.ownBlock=some k->vF.ownBlock=some k\/w.heap.size<=k):dL w0 bm VX (lb++[bN]) {o with fs:=o.fs++[({}:ra)]} w':=by
 refine⟨by simp[h.len],?_,?_,λi hi=>?_,?_,λb hb=>?_,λk hk=>?_,h.md.step m (λi hi e=>by have:=h.own i e;omega)⟩
 ·obtain⟨n,h1,h2⟩:=h.maps;exact⟨n,h1.ag m (λe=>h1.of.Dl h.sl e),h2⟩
 ·show Sl w' 164 3 VX (o.fs++[({}:ra)]).length (gV (lb++[bN]) (o.fs++[({}:ra)]))
  rw[J7 _ _ h.len,List.length_append,List.length_singleton];exact s
 ·have hi':i<o.fs.length+1:=by simpa using hi
  rcases Nat.lt_or_ge i o.fs.length with e|e
  ·have e1:(lb++[bN])[i]?.getD 0=lb[i]?.getD 0:=by rw[List.getElem?_append_left (by rw[h.len];exact e)]
   have e2:(o.fs++[({}:ra)])[i]'hi=o.fs[i]:=List.getElem_append_left e;have hl:=h.bB i e;show gU w' ((lb++[bN])[i]?.getD 0) ((o.fs++[({}:ra)])[i]'hi).bB
   rw[e1,e2];exact MapOf.ag hl m (λe'=>MapOf.Dl hl h.sl e')
  ·have e3:i=o.fs.length:=by omega
   subst e3;have e1:(lb++[bN])[o.fs.length]?.getD 0=bN:=by rw[List.getElem?_append_right (by rw[h.len];exact aE _),h.len,Nat.sub_self];rfl
   have e2:(o.fs++[({}:ra)])[o.fs.length]'hi={}:=by simp
   show gU w' ((lb++[bN])[o.fs.length]?.getD 0) ((o.fs++[({}:ra)])[o.fs.length]'hi).bB
   rw[e1,e2];exact MapOf.ag hN m (λe'=>MapOf.Dl hN h.sl e')
 ·have:=h.nd;rw[<-List.cons_append,List.nodup_append]
  exact⟨this,by simp,λa ha b hb e=>hnew (by
   have hb':b=bN:=by simpa using hb
   rw[<-hb',<-e];exact ha)⟩
 ·have hb':b=bm\/b∈lb\/b=bN:=by simpa using hb
  rcases hb' with e|e|e
  ·exact h.lo b (by simp[e])
  ·exact h.lo b (by simp[e])
  ·rw[e];exact hlo
 ·rcases lv k hk with e|e
  ·exact h.own k e
  ·have:=h.md.size;omega
theorem lX{o:OL}(h:o.fs≠[]):∃hl:o.fs.length-1<o.fs.length,o.last=o.fs[o.fs.length-1]:=by have hp:0<o.fs.length:=List.length_pos_iff.2 h;refine⟨by omega,?_⟩;unfold OL.last;rw[List.getD_eq_getElem?_getD,List.getElem?_eq_getElem (by omega)];rfl
theorem OY{l:List Nat}(h:l.Nodup){i j:Nat}(hi:i<l.length)(hj:j<l.length)(e:l[i]=l[j]):i=j:=by
 rw[List.nodup_iff_pairwise_ne,List.pairwise_iff_getElem]at h;rcases Nat.lt_trichotomy i j with d|d|d
 ·exact absurd e (h i j hi hj d)
 ·exact d
 ·exact absurd e.symm (h j i hj hi d)
theorem dL.lab{w0 w w':tW}{bm:Nat}{vF:Value}{lb:List Nat}{o:OL}{l':List (tLB×Nat)}(h:dL w0 bm vF lb o w)(hne:o.fs≠[])(hL:gU w' (lb[o.fs.length-1]?.getD 0) l')(m:aa (λk=>k=lb[o.fs.length-1]?.getD 0) w w'):dL w0 bm vF lb (o.cZ {o.last with bB:=l'}) w':=by
 obtain⟨hl,hg⟩:=lX hne;have hlb:o.fs.length-1<lb.length:=by rw[h.len];exact hl
 have hel:lb[o.fs.length-1]?.getD 0=lb[o.fs.length-1]:=by rw[List.getElem?_eq_getElem hlb];rfl
 have hnd:=List.nodup_cons.1 h.nd;have hlast:=h.bB (o.fs.length-1) hl;refine⟨by simp[OL.cZ,h.len],?_,?_,λi hi=>?_,h.nd,h.lo,h.own,h.md.step m (λi hi e=>?_)⟩
 ·exact h.maps.ag m (λe=>hnd.1 (by rw[e,hel];exact bq hlb))
 ·have hr:gV lb (o.cZ {o.last with bB:=l'}).fs=gV lb o.fs:=by
   unfold gV OL.cZ
   have:(lb.zip (o.fs.set (o.fs.length-1) {o.last with bB:=l'})).map (λx=>jC x.1 x.2)=(lb.zip o.fs).map (λx=>jC x.1 x.2):=by
    apply an
    ·simp
    ·intro j h1 h2;simp only[bj,ao,al];split
     ·rename_i e;subst e
      have hs:o.last.slots=o.fs[o.fs.length-1].slots:=by rw[hg]
      have he:o.last.ends=o.fs[o.fs.length-1].ends:=by rw[hg]
      simp only[jC,hs,he]
     ·rfl
   rw[bt,bt,this]
  rw[hr];have:=h.sl.ag m (λk hk e=>by have e':k=lb[o.fs.length-1]?.getD 0:=e;exact MapOf.Dl hlast h.sl (by rw[hk,e']))
  simpa [OL.cZ]using this
 ·have hi':i<o.fs.length:=by simpa [OL.cZ]using hi
  have e2:(o.cZ {o.last with bB:=l'}).fs[i]'hi=if o.fs.length-1=i then{o.last with bB:=l'}else o.fs[i]:=by simp only[OL.cZ,al]
  rw[e2];split
  ·rename_i e;subst e;exact hL
  ·rename_i e
   refine MapOf.ag (h.bB i hi') m (λe'=>e ?_);have hil:i<lb.length:=by rw[h.len];exact hi'
   rw[List.getElem?_eq_getElem hil,hel]at e';exact(OY hnd.2 hil hlb e').symm
 ·have:=h.lo (lb[o.fs.length-1]) (by simp);rw[hel]at e;omega
theorem dL.row{w0 w w':tW}{bm g cap:Nat}{lb:List Nat}{o:OL}{f:ra}(h:dL w0 bm (.slice (some ⟨g,0,none⟩) o.fs.length cap) lb o w)(hne:o.fs≠[])(hf:f.bB=o.last.bB)(hw:w'=(w.setCell ⟨g,(o.fs.length-1)*3,none⟩ (.int .i64 f.slots)).setCell ⟨g,(o.fs.length-1)*3+1,none⟩ (.bool f.ends)):dL w0 bm (.slice (some ⟨g,0,none⟩) o.fs.length cap) lb (o.cZ f) w':=by
 obtain⟨hl,hg⟩:=lX hne;have hlb:o.fs.length-1<lb.length:=by rw[h.len];exact hl
 have hown:w0.heap.size<=g:=h.own g rfl;have m:aa (Only g) w w':=by rw[hw];exact(ax.aY _ _).aY _ _
 have hz:(lb.zip o.fs).length=o.fs.length:=by simp[h.len]
 have hzi:o.fs.length-1<(lb.zip o.fs).length:=by rw[hz];exact hl
 refine⟨by simp[OL.cZ,h.len],?_,?_,λi hi=>?_,h.nd,h.lo,h.own,h.md.step m (λi hi e=>by have:i=g:=e;omega)⟩
 ·obtain⟨n,h1,h2⟩:=h.maps;exact⟨n,h1.ag m (λe=>h1.of.Dl h.sl (by have:bm=g:=e;rw[this];rfl)),h2⟩
 ·have s1:=h.sl.setAt ((o.fs.length-1)*3) (.int .i64 f.slots) (by omega);have s2:=s1.setAt ((o.fs.length-1)*3+1) (.bool f.ends) (by omega)
  have hr:((gV lb o.fs).set ((o.fs.length-1)*3) (.int .i64 f.slots)).set ((o.fs.length-1)*3+1) (.bool f.ends)=gV lb (o.cZ f).fs:=by
   unfold gV OL.cZ;have e1:=lJ (λx:Nat×ra=>jC x.1 x.2) 3 (λ_=>rfl) (lb.zip o.fs) (o.fs.length-1) 0 hzi (by omega) (.int .i64 f.slots) (lb[o.fs.length-1],{o.last with slots:=f.slots}) (by rw[hg];simp[jC]);rw[Nat.add_zero]at e1;rw[e1];have e2:=lJ (λx:Nat×ra=>jC x.1 x.2) 3 (λ_=>rfl) ((lb.zip o.fs).set (o.fs.length-1) (lb[o.fs.length-1],{o.last with slots:=f.slots})) (o.fs.length-1) 1 (by simpa using hzi) (by omega) (.bool f.ends) (lb[o.fs.length-1],f) (by simp[jC]);rw[e2,List.set_set];congr 1;apply an
   ·simp
   ·intro j h1 h2;simp only[al,ao];split
    ·rename_i e;subst e;simp
    ·rename_i e;simp
  rw[hw,<-hr];have hle:(o.cZ f).fs.length=o.fs.length:=by simp[OL.cZ]
  rw[hle];exact s2
 ·have hi':i<o.fs.length:=by simpa [OL.cZ]using hi
  have hli:=h.bB i hi'
  have e2:((o.cZ f).fs[i]'hi).bB=o.fs[i].bB:=by
   simp only[OL.cZ,al];split
   ·rename_i e;subst e;rw[hf,hg]
   ·rfl
  rw[e2];exact MapOf.ag hli m (λe=>MapOf.Dl hli h.sl (by have:lb[i]?.getD 0=g:=e;rw[this];rfl))
theorem run_loadVar_rowAt{P:Program}(w:tW)(g off:Nat)(ty:TypeId)(cs:tAV)(d:TypeDesc)(hc:∀j (h:j<cs.size),w.cell? ⟨g,off+j,none⟩=some cs[j])(hu:P.underlying ty=some d) (hd:(match (generalizing:=false) d with|.struct _|.array _ _=>true|_=>false)=true) (hi:(P.info? ty).map (·.size)=some cs.size):(loadVar ty ⟨g,off,none⟩).run P w=.ok (.agg cs) w:=by
 have hl:(loadCells ⟨g,off,none⟩ cs.toList.length).run P w=.ok cs.toList.toArray w :=
  run_loadCells_list (P:=P) w ⟨g,off,none⟩ cs.toList (λj v hv=>by
   have hadd:(⟨g,off,none⟩:Addr).add j=⟨g,off+j,none⟩:=by unfold Addr.add;split<;>simp_all
   obtain⟨hj,hv⟩:=List.getElem?_eq_some_iff.1 hv;rw[hadd,hc j (by simpa using hj)]
   simpa using hv)
 cases hq:P.info? ty with
 |none=>simp[hq]at hi
 |some i =>
  have hs:i.size=cs.size:=by simpa [hq]using hi
  have hagg:(isAgg ty).run P w=.ok true w:=by unfold isAgg;rw[Sem.run_bind,run_underlying hu w];cases d<;>simp_all
  simp only[Array.length_toList,Array.toArray_toList]at hl;simp[loadVar,Sem.run_bind,hagg,sizeOf,typeInfo,hq,hs,hl]
theorem dO{P:Program}{ops:Array Oper}{rest:List Oper}{o:Oper}{a:Act}{w:tW}{Q:Exit->Act->tW->Prop}(hgd:o.guard=none)(ty:TypeId)(x:Operand)(ho:o.op=.load ty x)(g off:Nat) (hx:a.eval x=.pointer (some ⟨g,off,none⟩)) (cs:tAV) (d:TypeDesc) (hc:∀j (h:j<cs.size),w.cell? ⟨g,off+j,none⟩=some cs[j])(hu:P.underlying ty=some d) (hd:(match (generalizing:=false) d with|.struct _|.array _ _=>true|_=>false)=true) (hi:(P.info? ty).map (·.size)=some cs.size)(h:wpList P ops Q rest (a.put o.dst (.agg cs)) w):wpList P ops Q (o::rest) a w :=
 wpList_plain hgd λ_ hK=>by unfold Oper.wp execOp;simp only[ho,hx,Instr.loadAt,Instr.sureAddr,Sem.run_bind,Sem.run_pure,Result.andThen_ok,run_loadVar_rowAt w g off ty cs d hc hu hd hi];exact hK _ _ h
theorem fG.row{w0 w:tW}{v:Value}{bs:List Nat}{ls:List dN}(h:fG w0 v bs ls w)(k:Nat)(hk:k<ls.length):∃g c,v=.slice (some ⟨g,0,none⟩) ls.length c/\ls.length<=c/\∀w',aa ae w w'->∀j (hj:j<(ls[k].cells bs).size),w'.cell? ⟨g,k*20+j,none⟩=some (ls[k].cells bs)[j]:=by obtain⟨o,c,hv,hb⟩:=h.sl.view;obtain⟨g,cs,rfl,hb,ht,hc,_⟩:=hb (by omega);refine⟨g,c,hv,hc,λw' m j hj=>?_⟩;have hs:=gT bs ls[k];rw[aW (hb.ag m id) ht (k*20+j) (by omega),flat_get (λx:dN=>(x.cells bs).toList) 20 (λx=>by simp[gT]) ls k j hk (by omega)];simp[hj]
theorem qC(bs:List Nat)(x:dN)(h:x.kind≠4):(x.cells bs)[1]?=some (.string (T x.name)):=by unfold dN.cells;rw[iN9 h];rfl
theorem Te(bs:List Nat)(x:dN)(h:x.kind=4):(x.cells bs)[11]?=some (.pointer (some ⟨bs[x.x.k]?.getD 0,0,none⟩)):=by unfold dN.cells;rw[iP9 h];rfl
theorem Xg:∀o∈aq,o.slots<=2:=by
 have:aq.all (λo=>decide (o.slots<=2))=true:=by decide +kernel
 intro o ho
 simpa using List.all_eq_true.1 this o ho
theorem dH.vz(x:dH):x.o.slots<=2:=by
 unfold dH.o;cases h:aq[x.k]? with
 |none=>exact ba _
 |some o=>exact Xg o (List.mem_of_getElem? h)
theorem GH{o:OL}(h:o.fs≠[]):o.last∈o.fs:=by obtain⟨h1,h2⟩:=lX h;rw[h2];exact bq h1
theorem xx{o:OL}{f:ra}{n:Nat}(h:∀g∈o.fs,g.slots<=n)(hf:f.slots<=n):∀g∈(o.cZ f).fs,g.slots<=n:=by
 intro g hg;rcases List.mem_or_eq_of_mem_set hg with h1|rfl
 ·exact h g h1
 ·exact hf
theorem qD{o:OL}{n:Nat}(h:∀g∈o.fs,g.slots<=n):o.last.slots<=n:=by
 by_cases e:o.fs=[]
 ·unfold OL.last;rw[e];exact ba _
 ·exact h _ (GH e)
theorem iJ(ls:List dN):∀k,k<=ls.length->(∀f∈(ah (ls.take k)).fs,f.slots<=2*k)/\(ah (ls.take k)).fs.length<=k
 |0,_=>by rw[List.take_zero];exact⟨λf hf=>(by cases hf),aE _⟩
 |k+1,h=>by
  obtain⟨h1,h2⟩:=iJ ls k (by omega);rw[fO ls k (by omega)];generalize ah (ls.take k)=o at *;generalize ls[k]=x;have h3:∀f∈o.fs,f.slots<=2*(k+1):=λf hf=>by have:=h1 f hf;omega
  have h4:=qD h1;unfold bH;split
  ·exact⟨h3,by simpa using ab h2⟩
  split
  ·refine⟨λf hf=>?_,by simpa using h2⟩;rcases List.mem_append.1 hf with h5|h5
   ·exact h3 f h5
   ·have:f={}:=by simpa using h5
    subst this;exact ba _
  split
  ·refine⟨xx h3 ?_,by simp[OL.cZ];omega⟩;unfold ra.label;split
   ·omega
   ·show o.last.slots<=_;omega
  split
  ·refine⟨xx h3 ?_,by simp[OL.cZ];omega⟩;have:=x.x.vz;show o.last.slots+x.x.o.slots<=_;omega
  ·exact⟨h3,by omega⟩
theorem xy(ls:List dN):∀k,k<=ls.length->(ah (ls.take k)).maps.length<=k
 |0,_=>by rw[List.take_zero];exact aE _
 |k+1,h=>by
  have ih:=xy ls k (by omega);rw[fO ls k (by omega)];generalize ah (ls.take k)=o at *;generalize ls[k]=x;unfold bH;split
  ·simpa using ih
  split
  ·exact ab ih
  split
  ·exact ab ih
  split
  ·exact ab ih
  ·exact ab ih
theorem dL.LX{w0 w:tW}{bm:Nat}{oF:Option Addr}{cF:Nat}{lb:List Nat}{o:OL}(h:dL w0 bm (.slice oF o.fs.length cF) lb o w)(hne:o.fs≠[]):∃g,oF=some ⟨g,0,none⟩/\o.fs.length<=cF/\∀w',aa ae w w'->∀j (hj:j<(jC (lb[o.fs.length-1]?.getD 0) o.last).toArray.size),w'.cell? ⟨g,(o.fs.length-1)*3+j,none⟩=some (jC (lb[o.fs.length-1]?.getD 0) o.last).toArray[j]:=by
 obtain⟨hl,hg⟩:=lX hne;obtain⟨o',c',hv,hb⟩:=h.sl.view;injection hv with e1 e2 e3;subst e1 e3;obtain⟨g,cs,rfl,hb,ht,hc,_⟩:=hb (by omega);refine⟨g,rfl,hc,λw' m j hj=>?_⟩;have hz:o.fs.length-1<(lb.zip o.fs).length:=by rw[List.length_zip,h.len];omega
 have hj':j<3:=hj;have hlb:o.fs.length-1<lb.length:=by rw[h.len];exact hl
 rw[aW (hb.ag m id) ht ((o.fs.length-1)*3+j) (by omega),gV,flat_get (λx:Nat×ra=>jC x.1 x.2) 3 (λ_=>rfl) (lb.zip o.fs) (o.fs.length-1) j hz hj'];rw[ao,List.getElem?_eq_getElem hlb,<-hg];simp only[bh,List.getElem_toArray];rw[List.getElem?_eq_getElem]
theorem dL.keep{w0 w w':tW}{bm A:Nat}{vF:Value}{lb:List Nat}{o:OL}{cs:tAV}{t:TypeId}(h:dL w0 bm vF lb o w)(hA:ak w A cs t)(ht:164≠t)(hlo:w0.heap.size<=A)(m:aa (Only A) w w'):dL w0 bm vF lb o w':=by
 refine⟨h.len,?_,h.sl.ag m (λk hk e=>?_),λi hi=>MapOf.ag (h.bB i hi) m (λe=>?_),h.nd,h.lo,h.own,h.md.step m (λi hi e=>by have:i=A:=e;omega)⟩
 ·exact h.maps.ag m (λe=>h.maps.au hA (show bm=A from e).symm)
 ·have e':k=A:=e;exact h.sl.au hA ht (by rw[hk,e'])
 ·exact MapOf.au (h.bB i hi) hA (show _=A from e).symm
structure kW(w0:tW)(R A bm:Nat)(vF:Value)(lb:List Nat)(o:OL)(w:tW):Prop where
 res:ak w R #[.map none,.slice none 0 0] 108
 all:ak w A #[.map (some bm),vF] 108
 mV:dL w0 bm vF lb o w
 lt:w0.heap.size<=A/\w0.heap.size<=R/\R≠A
section
variable {w0 w w' : World} {R A bm : Nat} {vF : Value} {lb : List Nat} {o : OL}
theorem kW.quiet(h:kW w0 R A bm vF lb o w)(m:aa ae w w'):kW w0 R A bm vF lb o w':=⟨h.res.ag m id,h.all.ag m id,h.mV.quiet m,h.lt⟩
theorem kW.func{bN:Nat}{VX:Value}(h:kW w0 R A bm vF lb o w)(hN:gU w bN [])(hlo:w0.heap.size<=bN)(hnew:bN ∉ bm::lb)(s:Sl w' 164 3 VX (o.fs.length+1) (gV lb o.fs++jC bN ({}:ra))) (m:aa (λk=>vF.ownBlock=some k) w w') (lv:∀k,VX.ownBlock=some k->vF.ownBlock=some k\/w.heap.size<=k):kW w0 R A bm VX (lb++[bN]) {o with fs:=o.fs++[({}:ra)]} (w'.setCell ⟨A,1,none⟩ VX):=by have h1:=h.mV.func hN hlo hnew s m lv;have hA:=h.all.ag m (λe=>h.mV.sl.au h.all (by decide) e);have hR:=h.res.ag m (λe=>h.mV.sl.au h.res (by decide) e);refine⟨hR.setOther (a:=⟨A,1,none⟩) h.lt.2.2.symm _,?_,h1.keep hA (by decide) h.lt.1 (ax.aY _ _),h.lt⟩;exact hA.set 1 VX
theorem kW.lab{l':List (tLB×Nat)}(h:kW w0 R A bm vF lb o w)(hne:o.fs≠[])(hL:gU w' (lb[o.fs.length-1]?.getD 0) l')(m:aa (λk=>k=lb[o.fs.length-1]?.getD 0) w w'):kW w0 R A bm vF lb (o.cZ {o.last with bB:=l'}) w':=by obtain⟨hl,_⟩:=lX hne;have hlast:=h.mV.bB _ hl;exact⟨h.res.ag m (λe=>MapOf.au hlast h.res e),h.all.ag m (λe=>MapOf.au hlast h.all e),h.mV.lab hne hL m,h.lt⟩
theorem kW.row{g cap:Nat}{f:ra}(h:kW w0 R A bm (.slice (some ⟨g,0,none⟩) o.fs.length cap) lb o w)(hne:o.fs≠[])(hf:f.bB=o.last.bB):kW w0 R A bm (.slice (some ⟨g,0,none⟩) o.fs.length cap) lb (o.cZ f) ((w.setCell ⟨g,(o.fs.length-1)*3,none⟩ (.int .i64 f.slots)).setCell ⟨g,(o.fs.length-1)*3+1,none⟩ (.bool f.ends)):=by have hA:A≠g:=λe=>h.mV.sl.au h.all (by decide) (by rw[e];rfl);have hR:R≠g:=λe=>h.mV.sl.au h.res (by decide) (by rw[e];rfl);exact⟨(h.res.setOther (a:=⟨g,_,none⟩) hR.symm _).setOther (a:=⟨g,_,none⟩) hR.symm _,(h.all.setOther (a:=⟨g,_,none⟩) hA.symm _).setOther (a:=⟨g,_,none⟩) hA.symm _,h.mV.row hne hf rfl,h.lt⟩
end
theorem GI{o:OL}(h:o.fs≠[]):o.cZ o.last=o:=by obtain⟨h1,h2⟩:=lX h;unfold OL.cZ;rw[h2,List.set_getElem_self]
theorem dL.Xh{w0 w:tW}{bm:Nat}{vF:Value}{lb:List Nat}{o:OL}(h:dL w0 bm vF lb o w)(hne:o.fs≠[]):gU w (lb[o.fs.length-1]?.getD 0) o.last.bB:=by obtain⟨h1,h2⟩:=lX hne;rw[h2];exact h.bB _ h1
theorem Xi(w:tW):gU (w.alloc (.map #[] 0)) w.heap.size []:=⟨#[],0,[],heap_alloc_new w _,rfl,λ_=>rfl⟩
def xz(w:tW)(o:OL)(e:Ending)(w':tW):Prop:=∃bm vF lb,e=.returned (.agg #[.map (some bm),vF])/\dL w bm vF lb o w'
theorem GJ:(prog.info? 164).map (λi=>(i.zero,i.size,i.bytes))=some (some (.agg #[.int .i64 0,.bool false,.map none]),3,24):=by kernel_rfl
theorem Dm(n:Nat)(cs z:tAV)(hc:cs.size=n)(hz:z.size=n):Instr.fill (λi=>some (i*n,n)) z [(0,.agg cs)]=some cs:=by
 obtain⟨l⟩:=cs;obtain⟨m⟩:=z;simp only[ar]at hc hz;have h:=AU l [] m (by omega);have hcl:(Value.agg l.toArray).cells=l.toArray:=rfl;simp only[Instr.fill,hcl,ar,hc,hz];rw[iN9 (by simp)];simp only[List.nil_append,List.length_nil]at h
 simpa using h
theorem zJ{ops:Array Oper}{rest:List Oper}{o:Oper}{a:Act}{w:tW}{Q:Exit->Act->tW->Prop}(hg:o.guard=none)(x:Operand)(ho:o.op=.buildSlice 106 1 #[(0,x)])(a0 a1 a2:Value) (hx:a.eval x=.agg #[a0,a1,a2])(h:wpList prog ops Q rest (a.put o.dst (.slice (some ⟨w.heap.size,0,none⟩) 1 1)) (w.alloc (.cells #[a0,a1,a2] 164))):wpList prog ops Q (o::rest) a w:=by obtain⟨iP,hiP,rX,hsP,wj⟩:=info_parts GJ;refine wpList_buildSlice hg 106 164 1 _ ho #[a0,a1,a2] iP _ underlying106 hiP rX (by rw[hsP];decide) (by rw[hsP];decide) ?_ h;rw[hsP];simp only[List.map_toArray,List.map_cons,List.map_nil,hx];exact Dm 3 _ _ rfl (by simp)
