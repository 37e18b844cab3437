import Derived.Test.YthnphhgpfedeeaaGreatDoorCF30
import Derived.Deep.Upon
import Derived.Test.YthnphhgpfedeeaaGreatDoorCF02
namespace Go.Proofs.YthnphhgpfedeeaaGreatDoor
open Go.RowKit Tryz
open Go.RowKit Go.Sort
open List renaming flatMap_cons->ab
set_option linter.all false
set_option maxRecDepth 100000
set_option maxHeartbeats 1000000
def zw(n slot:Nat)(x:PI):tLB:=if x.aO=0 then []else b8 [(n:Int)]++b8 (ko slot)++fC (T x.name)
def prefC(n:Nat):Nat->List PI->tLB
 |_,[]=>[]
 |slot,x::c=>zw n slot x++prefC n (slot+x.o.slots) c
def pcntC:List PI->Nat
 |[]=>0
 |x::c=>(if x.aO=0 then 0 else 1)+pcntC c
def prefF:Nat->List aS->tLB
 |_,[]=>[]
 |n,f::fs=>prefC n 0 f.code++prefF (n+1) fs
def pcntR:List aS->Nat
 |[]=>0
 |f::fs=>pcntC f.code+pcntR fs
theorem Dy(bs:List Nat):∀l:List PI,nG bs (l.zip (List.replicate l.length ByteArray.empty))=xe bs l
 |[]=>rfl
 |x::l=>by have ih:=Dy bs l;unfold nG xe at ih ⊢;rw[List.length_cons,List.replicate_succ,List.zip_cons_cons,ab,ab,ih];rfl
theorem XN{w:tW}{tv:Value}{bs:List Nat}{vM vF:Value}{ms:List az}{fs:List aS}{vs:List Value}(h:We w tv bs vM vF ms fs vs):tC w tv bs vM vF ms fs vs :=
 ⟨h.maps,h.len,h.rows,λi a b=>⟨List.replicate fs[i].code.length ByteArray.empty,List.length_replicate,by rw[Dy];exact h.code i a b⟩,h.ops⟩
theorem Bt{w:tW}{v:Value}{l:tLB}(h:Out w v l)(h0:0<l.length):Sem.run prog (convert 30 9 v) w=.ok (.string (T l)) w:=by
 obtain⟨o,c,rfl,h2⟩:=Sl.view h;obtain⟨g,cs,rfl,hb,ht,_⟩:=h2 h0;have key:=run_convert_bytes_back (P:=prog) w 30 9 5 ⟨g,0,none⟩ c l underlying30 underlying5 underlying9 ?_
 ·exact key
 ·intro j hj;have hadd:(⟨g,0,none⟩:Addr).add j=⟨g,j,none⟩:=by unfold Addr.add;split<;>simp_all
  rw[hadd,aW hb ht j (by omega)];simp[rj,hj]
theorem Bu{P:Program}(w:tW)(t ty e:TypeId)(i:TypeInfo)(z:Value)(size bytes:Nat)(ht:P.underlying t=some (.slice e))(hi:P.info? e=some i)(hz:i.zero=some z)(hsize:i.size=size) (hby:i.bytes=bytes) (hzs:z.cells.size=size) (hsz:0<size)(v:Value) (n:Nat) (xs:List Value) (hown:Sl w e size v n xs) (u:Value) (m:Nat) (ys:List Value) (PG:Sl w e size u m ys) (h1:∀u∈ys,u.oneCell'=true)(h63:n+m<=maxLen) (hbytes:(n+m)*bytes<=140737488355328):∃v' w',(Builtin.append_ #[t,t] ty #[v,u]).run P w=.ok v' w'/\Sl w' e size v' (n+m) (xs++ys)/\aa (λk=>v.ownBlock=some k) w w'/\(∀k,v'.ownBlock=some k->v.ownBlock=some k\/w.heap.size<=k):=by
 rcases PG.2 with⟨rfl,rfl⟩ |⟨g,cap,cur,rfl,_,hg,hn,hm,hcs,htk⟩
 ·have hy:ys=[]:=List.length_eq_zero_iff.1 (by rw[PG.1];omega);subst hy;obtain⟨o,c,hv,h2⟩:=hown.view
  have hle:n<=c:=by
   rcases hown.2 with⟨rfl,rfl⟩ |⟨g,cap,cur,rfl,_,hg,hn,hm,hcs,htk⟩
   ·exact Nat.zero_le _
   ·cases hv;exact hn
  subst hv;have:=run_append_nothing (P:=P) w t t ty e i ht hi o n c hle (.slice none 0 0) (Src.ofNil w ht 0);exact⟨_,_,this,by rw[List.append_nil];exact hown,ax,λk hk=>.inl hk⟩
 ·refine uD (P:=P) w t ty e i z size bytes ht hi hz hsize hby hzs hsz v n xs hown ⟨g,0,none⟩ m cap ys PG.1 ?_ h1 h63 hbytes;intro j x hx;have hb:ak w g cur e:=hg;have hadd:(⟨g,0,none⟩:Addr).add j=⟨g,j,none⟩:=by unfold Addr.add;split<;>simp_all
  have hj:j<ys.length:=(List.getElem?_eq_some_iff.1 hx).1;rw[hadd,aW hb htk j (by rw[<-PG.1];exact hj),hx]
theorem ng{P:Program}(w:tW){ops:Array Oper}{rest:List Oper}{o:Oper}{a:Act}{Q:Exit->Act->tW->Prop}(hgd:o.guard=none)(s x:Operand)(t:TypeId)(ho:o.op=.call {callee:=.builtin .append,args:=#[s,x],argTypes:=#[t,t]})(e:TypeId) (i:TypeInfo) (z:Value) (size bytes:Nat) (ht:P.underlying t=some (.slice e)) (hi:P.info? e=some i) (hz:i.zero=some z)(hsize:i.size=size) (hby:i.bytes=bytes) (hzs:z.cells.size=size) (hsz:0<size)(v:Value) (n:Nat) (xs:List Value) (hs:a.eval s=v) (hown:Sl w e size v n xs) (u:Value) (m:Nat) (ys:List Value) (hx:a.eval x=u) (PG:Sl w e size u m ys) (h1:∀u∈ys,u.oneCell'=true)(h63:n+m<=maxLen) (hbytes:(n+m)*bytes<=140737488355328)(h:∀v' w',Sl w' e size v' (n+m) (xs++ys)->aa (λk=>v.ownBlock=some k) w w'->(∀k,v'.ownBlock=some k->v.ownBlock=some k\/w.heap.size<=k)->wpList P ops Q rest (a.put o.dst v') w'):wpList P ops Q (o::rest) a w:=by refine wpList_plain hgd λ_ hK=>?_;obtain⟨v',w',hr,h2,h3,h4⟩:=Bu (P:=P) w t o.type e i z size bytes ht hi hz hsize hby hzs hsz v n xs hown u m ys PG h1 h63 hbytes;unfold Oper.wp execOp;simp only[ho,resolve,invoke,builtin,Sem.run_bind,Sem.run_pure,Result.andThen_ok,List.map_toArray,List.map_cons,List.map_nil,hs,hx,hr];exact hK _ _ (h v' w' h2 h3 h4)
def oG(fs:List aS):Nat:=(fs.map (λf=>aM f.code)).sum
theorem PH(fs:List aS)(k:Nat)(h:k<fs.length):oG (fs.take (k+1))=oG (fs.take k)+aM fs[k].code:=by unfold oG;rw[List.take_add_one,List.map_append,List.sum_append];simp[h]
theorem XP(w:tW)(tv:Value)(bs:List Nat)(vM vF:Value)(ms:List az)(fs:List aS)(vs:List Value)(hP:We w tv bs vM vF ms fs vs)(hm:ms.length<=1000)(hf:fs.length<=1000)(hok:∀f∈fs,f.code.length<=200/\∀x∈f.code,eU x)(hsum:∀k,oG (fs.take k)<=1000000):Calls prog 83 #[.agg #[vM,vF]] w λe w'=>e=.returned (.bool (decide (8<ms.length)||decide (16<fs.length)||decide (200<oG fs)))/\aa ae w w':=by
 obtain⟨oM,cM,yR,_⟩:=hP.maps.view;obtain⟨oF,cF,jZ,_⟩:=hP.rows.view;subst yR jZ;have HP:=ai hP;have uH:=ai hok;have HSU:=ai hsum;have HB0:af (ak (w.alloc (.cells #[.slice oM ms.length cM,.slice oF fs.length cF] 90)) w.heap.size #[.slice oM ms.length cM,.slice oF fs.length cF] 90):=ak.new _ _ _;have eX:af (aa ae w (w.alloc (.cells #[.slice oM ms.length cM,.slice oF fs.length cF] 90))):=aj;clear hP hok hsum;obtain⟨r,hr⟩:∃r:Bool,r=(decide (8<ms.length)||decide (16<fs.length)||decide (200<oG fs)):=⟨_,rfl⟩
 rw[<-hr];have iA:=ai hr;clear hr;go_enter func83,ntmps83;go_wp2_with fail;generalize w.alloc (.cells #[.slice oM ms.length cM,.slice oF fs.length cF] 90)=wB at *;generalize w.heap.size=B at *;go_loopg [3,9] fs.length (λg sv iv wx=>∃k:Nat,iv=.int .i64 k/\sv=.int .i64 (oG (fs.take k))/\aa ae wB wx/\k<=fs.length/\g=fs.length-k)
 case atStart=>exact⟨0,rfl,rfl,ax,Nat.zero_le _,rfl⟩
 case round =>
  obtain⟨k,rfl,rfl,hmd,hk,rfl⟩:=hrel;have nP:=ai hmd;clear hmd;have hs0:=HSU.o k;by_cases hkl:k<fs.length
  ·have CL:=HP.o.quiet (eX.o.trans nP.o);have zn:k<vs.length:=by rw[CL.len];exact hkl
   obtain⟨gF,rfl,c0,c1⟩:=CL.TI k hkl zn;have hk1:=uH.o fs[k] (List.getElem_mem hkl);have pF:=CL.code k hkl zn;have HST:af (oG (fs.take (k+1))=oG (fs.take k)+aM fs[k].code):=PH fs k hkl;have hs1:=HSU.o (k+1);rw[HST.o]at hs1
   have Zx:af (∀w',aa ae wr w'->Calls prog 69 #[.agg #[.string (T fs[k].name),vs[k]]] w' λe w2=>e=.returned (.int .i64 (aM fs[k].code))/\aa ae w' w2) :=
    λw' m=>Bk w' tv bs (CL.ops.ag m) fs[k].code hk1.2 (by have:=hk1.1;omega) _ (pF.ag m (λ_ _=>id)) (T fs[k].name)
   obtain⟨oC,cC,hvC,_⟩:=pF.view;rw[hvC]at c1 Zx;clear CL pF hk1 hvC;generalize T fs[k].name=tn at *;generalize aM fs[k].code=sp at *;generalize fs[k].code.length=cl at *;generalize oG (fs.take k)=sk at *;go_wp2_with fail;refine(Zx.o _ aj).mono ?_;rintro e w2 ⟨rfl,m2⟩;have dD:af (aa ae wB w2):=(nP.o.alloc _).trans m2;clear m2;go_wp2_with fail;go_roundg (fs.length-(k+1))
   case measure=>omega
   case rel=>exact⟨k+1,by go_num,by rw[HST.o];go_num,dD.o,by omega,rfl⟩
  ·obtain rfl:k=fs.length:=by omega
   have V6:af (oG (fs.take fs.length)=oG fs):=by rw[af,List.take_length]
   rw[V6.o]at hs0 ⊢;have q0:wr.cell? ⟨B,0,none⟩=some (.slice oM ms.length cM):=(HB0.o.ag nP.o id).cell 0;have q1:wr.cell? ⟨B,1,none⟩=some (.slice oF fs.length cF):=(HB0.o.ag nP.o id).cell 1;have XQ:=ai (eX.o.trans nP.o);generalize oG fs=sf at *;by_cases h1:8<ms.length
   ·have HR:af (r=true):=by rw[af,iA.o];simp[h1]
    go_wp2_with fail;go_ret;exact⟨by rw[HR.o];rfl,XQ.o⟩
   ·by_cases h2:16<fs.length
    ·have HR:af (r=true):=by rw[af,iA.o];simp[h2]
     have t1:decide ((8:Int)<(ms.length:Int))=false:=by simp;omega
     go_wp2_with fail;go_ret;exact⟨by rw[HR.o];rfl,XQ.o⟩
    ·have HR:af (r=decide (200<sf)):=by rw[af,iA.o];simp[h1,h2]
     have t1:decide ((8:Int)<(ms.length:Int))=false:=by simp;omega
     have t2:decide ((16:Int)<(fs.length:Int))=false:=by simp;omega
     have HD:af (decide ((200:Int)<(sf:Int))=decide (200<sf)):=by rw[af];congr 1;exact propext (by omega)
     go_wp2_with fail;go_ret;exact⟨by rw[HR.o,<-HD.o];rfl,XQ.o⟩
theorem pG.TI{w:tW}{lo:Nat}{bs:List Nat}{oF:Option Addr}{cF:Nat}{fs:List aS}{vs:List Value}(h:pG w lo bs (.slice oF fs.length cF) fs vs)(k:Nat)(hk:k<fs.length)(hv':k<vs.length):∃g,oF=some ⟨g,0,none⟩/\w.cell? ⟨g,k*2,none⟩=some (.string (T fs[k].name))/\w.cell? ⟨g,k*2+1,none⟩=some vs[k]:=by
 obtain⟨o',cap',hv,h2⟩:=h.sl.view;cases hv;obtain⟨g,cs,rfl,hb,ht,_⟩:=h2 (by omega);have hz:k<((fs.map (·.name)).zip vs).length:=by simp only[List.length_zip,List.length_map];omega
 have key:∀c,c<2->w.cell? ⟨g,k*2+c,none⟩=(mF (fs[k].name,vs[k]))[c]?:=λc hc=>by rw[aW hb ht (k*2+c) (by omega)];have:=flat_get mF 2 (λ_=>rfl) ((fs.map (·.name)).zip vs) k c hz hc;rw[this,List.getElem_zip,List.getElem_map]
 exact⟨g,rfl,key 0 (by omega),key 1 (by omega)⟩
theorem PL:∀k,k<88->(aq[k]?.getD iK).aO<=2:=by decide +kernel
theorem eU.refs{x:PI}(h:eU x):x.o.aO<=2:=PL x.k h.k
theorem Mi(w:tW)(a b:tLB):Calls prog 153 #[.string (T a),.string (T b)] w λe w'=>e=.returned (.int .i64 (Lib.compareBytes a b))/\w'=w:=by
 have h:=Any.strings_Compare lc (T a) (T b) w;have e:∀l:tLB,(T l).data.toList=l:=λl=>by simp[T]
 rw[e,e]at h;exact h
structure bZ where
 f:aS
 o:Option Addr
 n:Nat
 c:Nat
def bZ.v(x:bZ):Value:=.slice x.o x.n x.c
def bZ.cells(x:bZ):List Value:=[.string (T x.f.name),.slice x.o x.n x.c]
theorem akF(w:tW)(n:Nat)(hn:n=0\/n=1):Calls prog 261 #[.int .u64 n] w λe w'=>∃L,e=.returned (.int .i64 L)/\w'=w:=by have h:=Any.bits_Len lb n w (by omega) (by omega);refine h.mono ?_;rintro e w' ⟨rfl,rfl⟩;exact⟨_,rfl,rfl⟩
theorem ame(w:tW)(o:Option Addr)(n c:Nat)(f:Value)(hf:f=.func (.func 152) #[] #[])(hn:n=0\/n=1):Calls prog 303 #[.slice o n c,.int .i64 0,.int .i64 n,f] w λe w'=>e=.returned (.tuple #[])/\aa ae w w':=by
 subst hf;rcases hn with rfl|rfl
 all_goals
  go_enter func303,ntmps303;go_wp2_with fail;go_loopg [8] 1 (λg iv wx=>iv=.int .i64 1/\aa ae w wx/\g=1)
  case atStart=>exact⟨rfl,ax,rfl⟩
  case round =>obtain⟨rfl,HM,rfl⟩:=hrel;go_wp2_with fail;go_end0;exact⟨rfl,HM⟩
theorem amf(w:tW)(o:Option Addr)(n c:Nat)(L:Int)(f:Value)(hf:f=.func (.func 152) #[] #[])(hn:n=0\/n=1):Calls prog 260 #[.slice o n c,.int .i64 0,.int .i64 n,.int .i64 L,f] w λe w'=>e=.returned (.tuple #[])/\aa ae w w':=by
 have HI:=ai (λW=>ame W o n c f hf hn);subst hf;rcases hn with rfl|rfl
 all_goals
  go_enter func260,ntmps260;go_wp2_with fail;go_loopg [1,2,3] 1 (λg a b c wx=>a=.int .i64 0/\b=.int .i64 _/\c=.int .i64 L/\aa ae w wx/\g=1)
  case atStart=>exact⟨rfl,rfl,rfl,ax,rfl⟩
  case round =>obtain⟨rfl,rfl,rfl,HM,rfl⟩:=hrel;go_wp2_with fail;refine(HI.o _).mono ?_;rintro e w2 ⟨rfl,m2⟩;go_wp2_with fail;refine bodyPost_ret (results_none rfl _ _ _) rfl ?_;exact⟨rfl,HM.trans m2⟩
theorem alH(w:tW)(o:Option Addr)(n c:Nat)(hn:n=0\/n=1):Calls prog 151 #[.slice o n c,.func (.func 152) #[] #[]] w λe w'=>e=.returned (.tuple #[])/\aa ae w w':=by
 have HP:=ai (λW L=>amf W o n c L _ rfl hn);have HL:=ai (λW=>akF W n hn);rcases hn with rfl|rfl
 all_goals
  go_enter func151,ntmps151;go_wp2_with fail;refine(HL.o _).mono ?_;rintro e w1 ⟨L,rfl,rfl⟩;go_wp2_with fail;refine(HP.o _ L).mono ?_;rintro e w2 ⟨rfl,m2⟩;go_wp2_with fail;go_end0;exact⟨rfl,m2⟩
theorem amg(w:tW)(o:Option Addr)(n c:Nat)(f:Value)(hf:f=.func (.func 155) #[] #[])(hn:n=0\/n=1):Calls prog 314 #[.slice o n c,.int .i64 0,.int .i64 n,f] w λe w'=>e=.returned (.tuple #[])/\aa ae w w':=by
 subst hf;rcases hn with rfl|rfl
 all_goals
  go_enter func314,ntmps314;go_wp2_with fail;go_loopg [8] 1 (λg iv wx=>iv=.int .i64 1/\aa ae w wx/\g=1)
  case atStart=>exact⟨rfl,ax,rfl⟩
  case round =>obtain⟨rfl,HM,rfl⟩:=hrel;go_wp2_with fail;go_end0;exact⟨rfl,HM⟩
theorem amh(w:tW)(o:Option Addr)(n c:Nat)(L:Int)(f:Value)(hf:f=.func (.func 155) #[] #[])(hn:n=0\/n=1):Calls prog 263 #[.slice o n c,.int .i64 0,.int .i64 n,.int .i64 L,f] w λe w'=>e=.returned (.tuple #[])/\aa ae w w':=by
 have HI:=ai (λW=>amg W o n c f hf hn);subst hf;rcases hn with rfl|rfl
 all_goals
  go_enter func263,ntmps263;go_wp2_with fail;go_loopg [1,2,3] 1 (λg a b c wx=>a=.int .i64 0/\b=.int .i64 _/\c=.int .i64 L/\aa ae w wx/\g=1)
  case atStart=>exact⟨rfl,rfl,rfl,ax,rfl⟩
  case round =>obtain⟨rfl,rfl,rfl,HM,rfl⟩:=hrel;go_wp2_with fail;refine(HI.o _).mono ?_;rintro e w2 ⟨rfl,m2⟩;go_wp2_with fail;refine bodyPost_ret (results_none rfl _ _ _) rfl ?_;exact⟨rfl,HM.trans m2⟩
theorem alI(w:tW)(o:Option Addr)(n c:Nat)(hn:n=0\/n=1):Calls prog 154 #[.slice o n c,.func (.func 155) #[] #[]] w λe w'=>e=.returned (.tuple #[])/\aa ae w w':=by
 have HP:=ai (λW L=>amh W o n c L _ rfl hn);have HL:=ai (λW=>akF W n hn);rcases hn with rfl|rfl
 all_goals
  go_enter func154,ntmps154;go_wp2_with fail;refine(HL.o _).mono ?_;rintro e w1 ⟨L,rfl,rfl⟩;go_wp2_with fail;refine(HP.o _ L).mono ?_;rintro e w2 ⟨rfl,m2⟩;go_wp2_with fail;go_end0;exact⟨rfl,m2⟩
theorem ami{α:Type}{R:α->α->Prop}{l:List α}(h:l.length<=1):l.Pairwise R:=by
 match l,h with
 |[],_=>exact List.Pairwise.nil
 |[x],_=>exact List.pairwise_singleton _ _
theorem amj(w:tW)(oM oF:Option Addr)(nM cM nF cF:Nat)(hM:nM<=1)(hF:nF<=1):Calls prog 77 #[.agg #[.slice oM nM cM,.slice oF nF cF]] w λr w'=>r=.returned (.tuple #[])/\aa ae w w':=by have HB:=ai (ak.new w #[.slice oM nM cM,.slice oF nF cF] 90);have eX:af (aa ae w (w.alloc (.cells #[.slice oM nM cM,.slice oF nF cF] 90))):=aj;have HSM:=ai (λW=>alH W oM nM cM (by omega));have HSF:=ai (λW=>alI W oF nF cF (by omega));clear hM hF;go_enter func77,ntmps77;go_wp2_with fail;refine(HSM.o _).mono ?_;rintro e w1 ⟨rfl,m1⟩;have HB1:=ai (HB.o.ag m1 id);have dh:=ai (eX.o.trans m1);clear m1 HB eX;have z1:w1.cell? ⟨w.heap.size,1,none⟩=some (.slice oF nF cF):=HB1.o.cell 1;go_wp2_with fail;refine(HSF.o _).mono ?_;rintro e w2 ⟨rfl,m2⟩;have dD:=ai (dh.o.trans m2);clear m2 z1;go_wp2_with fail;go_end0;exact⟨rfl,dD.o⟩
theorem ak7(w:tW)(vM vF:Value)(ms:List az)(rs:List bZ)(JG:ms.length<=1)(hrl:rs.length<=1)(hM:Sl w 100 4 vM ms.length (ms.flatMap az.cells))(hF:Sl w 96 2 vF rs.length (rs.flatMap bZ.cells)):Calls prog 77 #[.agg #[vM,vF]] w λr w'=>r=.returned (.tuple #[])/\∃(ms':List az) (rs':List bZ),ms'.Perm ms/\ms'.Pairwise (λx y=>ji (T y.name) (T x.name)=false)/\rs'.Perm rs/\rs'.Pairwise (λx y=>ji (T y.f.name) (T x.f.name)=false) /\ Sl w' 100 4 vM ms'.length (ms'.flatMap az.cells)/\Sl w' 96 2 vF rs'.length (rs'.flatMap bZ.cells)/\aa (λb=>vM.ownBlock=some b\/vF.ownBlock=some b) w w':=by obtain⟨oM,cM,rfl,_⟩:=hM.view;obtain⟨oF,cF,rfl,_⟩:=hF.view;exact(amj w oM oF _ cM _ cF JG hrl).mono λe w' ⟨h,m⟩=>⟨h,ms,rs,List.Perm.refl _,ami JG,List.Perm.refl _,ami hrl,hM.ag m (λ_ _=>id),hF.ag m (λ_ _=>id),m.mono (λ_ _ h=>h.elim)⟩
