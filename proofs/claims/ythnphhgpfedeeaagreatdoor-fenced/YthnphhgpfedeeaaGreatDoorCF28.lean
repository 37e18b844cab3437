import Derived.Test.YthnphhgpfedeeaaGreatDoorCF26
namespace Go.Proofs.YthnphhgpfedeeaaGreatDoor
open Go.RowKit Tryz
open List renaming getElem_mem->ao,take_length->ar
open Nat renaming le_trans->ab,le_refl->al,zero_le->an
set_option linter.all false
set_option maxRecDepth 100000
set_option maxHeartbeats 1000000
def szP(n:bC):Int:=(n.dV 9223372036854775808).getD 0
theorem Kl(w:tW)(b:Nat)(o:dY)(hA:bY w b o)(d:Int)(s:Nat)(num high jump:Int)(label name:tBA)(slot target:Nat)(hs:slot<=30000)(ht:target<=30000)(ho:o.slots<=2):Calls prog 76 #[.agg #[.pointer (some ⟨b,0,none⟩),.int .u8 d,.int .u8 s,.int .i16 jump,.int .i32 num,.int .i32 high,.string label,.string name],.int .i64 slot,.int .i64 target] w λe w'=>e=.returned (.int .i16 ((target:Int)-slot-o.slots))/\aa ae w w':=by have hA1:=hA.ag (ax.alloc (.cells #[.pointer (some ⟨b,0,none⟩),.int .u8 d,.int .u8 s,.int .i16 jump,.int .i32 num,.int .i32 high,.string label,.string name] 138));obtain⟨p1,p2,p3,p4,p5,p6,p7,p8,p9,p10,p11,yD,_⟩:=hA1.ex;have o2:=yD.cell 2;have HM:af (aa ae w (w.alloc (.cells #[.pointer (some ⟨b,0,none⟩),.int .u8 d,.int .u8 s,.int .i16 jump,.int .i32 num,.int .i32 high,.string label,.string name] 138))):=aj;clear yD hA1 hA;generalize o.slots=os at *;go_enter func76,ntmps76;go_wp2_with fail;go_ret;exact⟨rfl,HM.o⟩

theorem yO:∀(k:Nat) (q:PR) (last:tLB) (acc:List az),(mapsP k q last acc).1.length=acc.length+k
 |0,_,_,_=>rfl
 |k+1,q,last,acc=>by rw[mapsP,yO k];simp;omega
theorem Be:∀(k:Nat) (q:PR) (last:tLB) (all:Nat) (acc:List fH),(headsP k q last all acc).1.length=acc.length+k
 |0,_,_,_,_=>rfl
 |k+1,q,last,all,acc=>by rw[headsP,Be k];simp;omega
theorem Bf:∀(k:Nat) (q:PR) (last:tLB) (all:Nat) (acc:List fH),all=GV acc->(headsP k q last all acc).2.1=GV (headsP k q last all acc).1
 |0,_,_,_,_,h=>h
 |k+1,q,last,all,acc,h=>by rw[headsP];exact Bf k _ _ _ _ (by rw[h];simp[GV])
theorem Bg:∀(k:Nat) (q:PR) (last:tLB) (all:Nat) (acc:List fH),(headsP k q last all acc).2.2.rest.length<=q.rest.length
 |0,_,_,_,_=>al _
 |k+1,q,last,all,acc=>by
  rw[headsP];refine ab (Bg k _ _ _ _) ?_;show(iY (dA q).2).2.rest.length<=_
  exact ab (xC _) (tu _)
theorem Dw(sl:tLB):∀(f p:Nat) (acc:List PI) (st:List Bool) (l:List PI) (st':List Bool),codeL sl (sl.length/8) f p acc st=some (l,st')->acc.length<=p->p<=sl.length/8->l.length<=sl.length/8
 |0,p,acc,st,l,st',h,_,_=>by cases h
 |f+1,p,acc,st,l,st',h,ha,hp=>by
  rw[codeL]at h;split at h
  ·rename_i hlt
   split at h
   ·cases h
   ·rename_i x hx
    have h1:=GS _ _ hx;have h2:=(L6 _ _ hx).slots;rw[List.length_drop]at h1;exact Dw sl f _ _ _ l st' h (by simp;omega) (by omega)
  ·cases h;omega
theorem Pw(sl:tLB)(q:PR):(codeP sl q).1.length<=sl.length/8:=by
 unfold codeP;split
 ·simp
 ·rename_i l st h
  exact Dw sl _ 0 [] _ l st h (al _) (an _)
theorem Kn(sl:tLB)(q:PR):(codeP sl q).2.rest=q.rest:=by unfold codeP;split<;>rfl
theorem Bh:∀(hs:List fH) (r:PR) (acc:List aS) (B:Nat),(∀h∈hs,h.slots<=B)->(∀f∈acc,f.code.length<=B)->(codesP hs r acc).1.length=acc.length+hs.length/\(∀f∈(codesP hs r acc).1,f.code.length<=B)/\(codesP hs r acc).2.rest.length<=r.rest.length
 |[],r,acc,B,_,ha=>⟨rfl,ha,al _⟩
 |h::hs,r,acc,B,hh,ha=>by
  rw[codesP];have h1:=Pw (bU (h.slots*8) r).1 (bU (h.slots*8) r).2;have h2:=L7 (h.slots*8) r;have h3:=hh h (by simp)
  obtain⟨e1,e2,e3⟩:=Bh hs (codeP (bU (h.slots*8) r).1 (bU (h.slots*8) r).2).2 (acc++[⟨h.name,(codeP (bU (h.slots*8) r).1 (bU (h.slots*8) r).2).1⟩]) B (λx hx=>hh x (List.mem_cons_of_mem _ hx)) (λf hf=>by
   rcases List.mem_append.1 hf with h'|h'
   ·exact ha f h'
   ·rw[List.mem_singleton.1 h'];show(codeP (bU (h.slots*8) r).1 (bU (h.slots*8) r).2).1.length<=B
    omega)
  refine⟨by rw[e1];simp;omega,e2,ab e3 ?_⟩;rw[Kn];exact take_len _ _
theorem Bi(q:PR):(jH q).1.length<=256/\(∀f∈(jH q).1,f.code.length<=2000)/\(jH q).2.rest.length<=q.rest.length:=by
 have h1:=yN q;have hl:=fP q;have hfp:jH q=if(aI (decide ((headsP (oneP q).1 (aI (decide ((oneP q).1<=16)) (oneP q).2) [] 0 []).2.1<=200)) (headsP (oneP q).1 (aI (decide ((oneP q).1<=16)) (oneP q).2) [] 0 []).2.2).bad then([],aI (decide ((headsP (oneP q).1 (aI (decide ((oneP q).1<=16)) (oneP q).2) [] 0 []).2.1<=200)) (headsP (oneP q).1 (aI (decide ((oneP q).1<=16)) (oneP q).2) [] 0 []).2.2)else codesP (headsP (oneP q).1 (aI (decide ((oneP q).1<=16)) (oneP q).2) [] 0 []).1 (aI (decide ((headsP (oneP q).1 (aI (decide ((oneP q).1<=16)) (oneP q).2) [] 0 []).2.1<=200)) (headsP (oneP q).1 (aI (decide ((oneP q).1<=16)) (oneP q).2) [] 0 []).2.2) []:=rfl;rw[hfp];have e1:=Be (oneP q).1 (aI (decide ((oneP q).1<=16)) (oneP q).2) [] 0 [];have e2:=Bf (oneP q).1 (aI (decide ((oneP q).1<=16)) (oneP q).2) [] 0 [] rfl;have e3:(headsP (oneP q).1 (aI (decide ((oneP q).1<=16)) (oneP q).2) [] 0 []).2.2.rest.length<=q.rest.length:=ab (Bg _ _ _ _ _) hl;generalize headsP (oneP q).1 (aI (decide ((oneP q).1<=16)) (oneP q).2) [] 0 []=hd at *;split
 ·exact⟨by simp,λf hf=>(by cases hf),e3⟩
 ·rename_i hb
  have ht:hd.2.1<=200:=by simp[aI]at hb;omega
  obtain⟨k1,k2,k3⟩:=Bh hd.1 (aI (decide (hd.2.1<=200)) hd.2.2) [] 200 (λh hm=>by have:=GW _ h hm;omega) (λf hf=>(by cases hf));simp only[List.length_nil]at e1 k1;exact⟨by omega,λf hf=>ab (k2 f hf) (by omega),ab k3 e3⟩
def mZ(w:tW)(bs:List Nat)(d:List az×List aS×PR)(e:Ending)(w':tW):Prop :=
 ∃vM vF vs,e=.returned (.tuple #[.agg #[vM,vF],.bool (!d.2.2.bad)])/\aa ae w w'/\(∃o n c o' n' c',vM=.slice o n c/\vF=.slice o' n' c') /\
  (d.2.2.bad=false->Sl w' 100 4 vM d.1.length (d.1.flatMap az.cells)/\pG w' w.heap.size bs vF d.2.1 vs)
structure zM(w:tW)(q:PR)(w':tW):Prop where
 rd:dM w' (w.heap.size+1) q
 rs:ak w' w.heap.size #[.slice none 0 0,.slice none 0 0] 90
 md:aa ae w w'
theorem zM.read{w w' w'':tW}{q q':PR}(h:zM w q w')(hr:dM w'' (w.heap.size+1) q')(m:aa (Only (w.heap.size+1)) w' w''):zM w q' w'' :=
 ⟨hr,h.rs.ag m (show ¬w.heap.size=w.heap.size+1 by omega),h.md.step m (λi hi e=>by have:i=w.heap.size+1:=e;omega)⟩
theorem pG.lower{w:tW}{lo lo':Nat}{bs:List Nat}{v:Value}{fs:List aS}{vs:List Value}(h:pG w lo bs v fs vs)(hl:lo'<=lo):pG w lo' bs v fs vs :=
 ⟨h.len,h.sl,h.cd,h.ok,λk hk=>ab hl (h.own k hk),λu hu k hk=>ab hl (h.l8 u hu k hk),h.ne⟩
theorem Bk(w:tW)(tv:Value)(bs:List Nat)(hO:aH 0 w tv bs aq)(code:List PI)(hok:∀x∈code,eU x)(hl:code.length<=10000)(vC:Value)(hC:Sl w 138 8 vC code.length (xe bs code))(nm:tBA):Calls prog 69 #[.agg #[.string nm,vC]] w λe w'=>e=.returned (.int .i64 (aM code))/\aa ae w w':=by
 obtain⟨oC,cC,rfl,_⟩:=hC.view;have HO:af (aH 0 w tv bs aq):=hO;have HC:af (Sl w 138 8 (.slice oC code.length cC) code.length (xe bs code)):=hC;have Cu:af (∀x∈code,eU x):=hok;have GR:af (∀k,eH code k<=20000):=λk=>by have:=zR code Cu.o k;omega
 clear hO hC hok;have hM0:aa ae w (w.alloc (.cells #[.string nm,.slice oC code.length cC] 96)):=aj;have eX:af (aa ae w (w.alloc (.cells #[.string nm,.slice oC code.length cC] 96))):=hM0;clear hM0;go_enter func69,ntmps69;go_wp2_with fail;go_loopw [3,9] (λsv i wl=>∃k:Nat,k<=code.length/\i=.int .i64 k/\sv=.int .i64 (eH code k)/\aa ae w wl) (λ_ i _=>code.length-(intOf i).toNat)
 case atStart=>exact⟨0,an _,rfl,rfl,eX.o⟩
 case round =>
  obtain⟨k,hk,rfl,rfl,hM⟩:=hrel;have HM:af (aa ae w wr):=hM;clear hM eX;by_cases hlt:k<code.length
  ·have NL:af (eH code (k+1)=eH code k+code[k].o.slots):=uf code k hlt;obtain⟨g,rfl,hg,q0,q1,q2,q3,q4,q5,q6,q7⟩:=kZ (HC.o.ag HM.o (λ_ _=>id)) rfl rfl k hlt;have hx:=Cu.o code[k] (ao hlt);have hA:=jI (HO.o.ag HM.o) code[k] hx.k;have hsum:=GR.o k;have hsl:=hx.slots;clear hx;generalize code[k].o=o at *;generalize code[k].jump=jmp at *;generalize code[k].d=xd at *;generalize code[k].s=xs at *;generalize code[k].num=xn at *;generalize code[k].high=xh at *;generalize code[k].name=xm at *;generalize bs[code[k].k]?.getD 0=b at *;have hA1:=hA.ag (ax.alloc (.cells #[.pointer (some ⟨b,0,none⟩),.int .u8 xd,.int .u8 xs,.int .i16 jmp,.int .i32 xn,.int .i32 xh,.string ByteArray.empty,.string (T xm)] 138));obtain⟨y2,_,_,_⟩:=hA1.cells;clear hA hA1;generalize eH code k=sk at *;generalize o.slots=os at *;go_wp2_with fail;go_roundw
   case rel=>exact⟨k+1,by omega,by go_num,by rw[NL.o];go_num,HM.o.alloc _⟩
   case measure=>simp[intOf];omega
  ·obtain rfl:k=code.length:=by omega
   have HF:af (eH code code.length=aM code):=by rw[af,eH,ar];rfl
   rw[HF.o];go_wp2_with fail;go_ret;exact⟨rfl,HM.o⟩
def PI.TG(bs:List Nat)(x:PI)(lab:tBA):di:={x.ins bs with label:=lab}
def nG(bs:List Nat)(l:List (PI×tBA)):List Value:=l.flatMap (λx=>(x.1.TG bs x.2).dU)
def gX(w:tW)(v:Value)(bs:List Nat)(code:List PI):Prop:=∃bB:List tBA,bB.length=code.length/\Sl w 138 8 v code.length (nG bs (code.zip bB))
theorem gX.ag{w w':tW}{v:Value}{bs:List Nat}{code:List PI}{S:Nat->Prop}(h:gX w v bs code)(m:aa S w w')(hS:∀k,v.ownBlock=some k->¬S k):gX w' v bs code:=by obtain⟨bB,h1,h2⟩:=h;exact⟨bB,h1,h2.ag m hS⟩
theorem gX.view{w:tW}{v:Value}{bs:List Nat}{code:List PI}(h:gX w v bs code):∃o cap,v=.slice o code.length cap/\True:=by obtain⟨bB,_,h2⟩:=h;obtain⟨o,cap,hv,_⟩:=h2.view;exact⟨o,cap,hv,trivial⟩
theorem Bl{w:tW}{bs:List Nat}{l:List PI}{v:Value}{n:Nat}(h:gX w v bs l)(hn:n=l.length){o:Option Addr}{c:Nat}(hv:v=.slice o n c)(k:Nat)(hk:k<l.length):∃g lab,o=some ⟨g,0,none⟩/\g<w.heap.size/\w.cell? ⟨g,k*8,none⟩=some (.pointer (some ⟨bs[l[k].k]?.getD 0,0,none⟩))/\w.cell? ⟨g,k*8+1,none⟩=some (.int .u8 l[k].d)/\w.cell? ⟨g,k*8+2,none⟩=some (.int .u8 l[k].s) /\ w.cell? ⟨g,k*8+3,none⟩=some (.int .i16 l[k].jump)/\w.cell? ⟨g,k*8+4,none⟩=some (.int .i32 l[k].num)/\w.cell? ⟨g,k*8+5,none⟩=some (.int .i32 l[k].high)/\w.cell? ⟨g,k*8+6,none⟩=some (.string lab)/\w.cell? ⟨g,k*8+7,none⟩=some (.string (T l[k].name)):=by
 obtain⟨bB,h1,h0⟩:=h;subst hn;obtain⟨o',c',hv',h2⟩:=h0.view;rw[hv]at hv';cases hv';obtain⟨g,cs,rfl,hb,ht,_⟩:=h2 (by omega);have hz:k<(l.zip bB).length:=by rw[List.length_zip,h1];omega
 have hkl:k<bB.length:=by omega
 have e:(l.zip bB)[k]=(l[k],bB[k]):=List.getElem_zip;have hc:∀j,j<8->w.cell? ⟨g,k*8+j,none⟩=((l[k].TG bs bB[k]).dU)[j]?:=λj hj=>by rw[aW hb ht _ (by omega),nG,flat_get (λx:PI×tBA=>(x.1.TG bs x.2).dU) 8 (λ_=>rfl) (l.zip bB) k j hz hj,e]
 exact⟨g,bB[k],rfl,hb.lt,hc 0 (by omega),hc 1 (by omega),hc 2 (by omega),hc 3 (by omega),hc 4 (by omega),hc 5 (by omega),hc 6 (by omega),hc 7 (by omega)⟩
theorem Ha(w:tW)(tv:Value)(bs:List Nat)(hO:aH 0 w tv bs aq)(code:List PI)(hok:∀x∈code,eU x)(hl:code.length<=10000)(vC:Value)(hC:gX w vC bs code)(nm:tBA):Calls prog 69 #[.agg #[.string nm,vC]] w λe w'=>e=.returned (.int .i64 (aM code))/\aa ae w w':=by
 obtain⟨oC,cC,rfl,_⟩:=hC.view;have HO:=ai hO;have HC:=ai hC;have Cu:=ai hok;have GR:af (∀k,eH code k<=20000):=λk=>by have:=zR code Cu.o k;omega
 clear hO hC hok;have hM0:aa ae w (w.alloc (.cells #[.string nm,.slice oC code.length cC] 96)):=aj;have eX:=ai hM0;clear hM0;go_enter func69,ntmps69;go_wp2_with fail;go_loopw [3,9] (λsv i wl=>∃k:Nat,k<=code.length/\i=.int .i64 k/\sv=.int .i64 (eH code k)/\aa ae w wl) (λ_ i _=>code.length-(intOf i).toNat)
 case atStart=>exact⟨0,an _,rfl,rfl,eX.o⟩
 case round =>
  obtain⟨k,hk,rfl,rfl,hM⟩:=hrel;have HM:=ai hM;clear hM eX;by_cases hlt:k<code.length
  ·have NL:af (eH code (k+1)=eH code k+code[k].o.slots):=uf code k hlt;obtain⟨g,lab,rfl,hg,q0,q1,q2,q3,q4,q5,q6,q7⟩:=Bl (HC.o.ag HM.o (λ_ _=>id)) rfl rfl k hlt;have hx:=Cu.o code[k] (ao hlt);have hA:=jI (HO.o.ag HM.o) code[k] hx.k;have hsum:=GR.o k;have hsl:=hx.slots;clear hx;generalize code[k].o=o at *;generalize code[k].jump=jmp at *;generalize code[k].d=xd at *;generalize code[k].s=xs at *;generalize code[k].num=xn at *;generalize code[k].high=xh at *;generalize code[k].name=xm at *;generalize bs[code[k].k]?.getD 0=b at *;have hA1:=hA.ag (ax.alloc (.cells #[.pointer (some ⟨b,0,none⟩),.int .u8 xd,.int .u8 xs,.int .i16 jmp,.int .i32 xn,.int .i32 xh,.string lab,.string (T xm)] 138));obtain⟨y2,_,_,_⟩:=hA1.cells;clear hA hA1;generalize eH code k=sk at *;generalize o.slots=os at *;go_wp2_with fail;go_roundw
   case rel=>exact⟨k+1,by omega,by go_num,by rw[NL.o];go_num,HM.o.alloc _⟩
   case measure=>simp[intOf];omega
  ·obtain rfl:k=code.length:=by omega
   have HF:af (eH code code.length=aM code):=by rw[af,eH,ar];rfl
   rw[HF.o];go_wp2_with fail;go_ret;exact⟨rfl,HM.o⟩
