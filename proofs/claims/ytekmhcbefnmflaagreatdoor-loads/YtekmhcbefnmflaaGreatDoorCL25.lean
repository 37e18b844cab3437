import Derived.Lib.AppendZerosOnto
import Derived.Test.YtekmhcbefnmflaaGreatDoorCL14
import Derived.Test.YtekmhcbefnmflaaGreatDoorCL24
import Derived.Test.YtekmhcbefnmflaaGreatDoorCL19
namespace Go.Proofs.YtekmhcbefnmflaaGreatDoor
open Go.RowKit Tryz
open Bool renaming false_eq_true->ar
open List renaming getElem_mem->bh,length->ee
open Nat renaming le_trans->ab,le_refl->an,two_pow_add_eq_or_of_lt->ao
open Decidable renaming decide->eS
open Ending renaming returned->fR
open Obj renaming cells->eR
open Option renaming some->eC,none->ez
open Value renaming string->eI,bool->fS,tuple->gb,agg->fW,func->eL
open _root_.Go renaming Calls->fL,maxLen->fX,bits->pd,bits_nat->tr,Value->eM,bodyPost_ret->iz
set_option linter.all false
set_option maxRecDepth 100000
set_option maxHeartbeats 2000000
def jO(w:tW)(b:Nat)(q:PR):Prop:=ak w b #[eI (T q.rest),fS q.bad] 264
theorem dZ(b:Nat)(q:PR)(c:Bool)(w:tW)(h:jO w b q):fL prog 157 #[vP b,fS c] w λe w'=>e=fR (gb #[])/\jO w' b (az c q)/\aa (Only b) w w':=by
 obtain⟨l,bad⟩:=q;have c1:=ak.cell h 1;have f1:=ak.frozen h 1;simp at c1;cases bad with
 |true =>go_in;go_wp2_with fail;go_end0;exact⟨rfl,ak.set h 1 _,aA.bz 1 _⟩
 |false =>
  cases c
  all_goals
   go_in;go_wp2_with fail;go_end0;exact⟨rfl,ak.set h 1 _,aA.bz 1 _⟩
theorem uO(b:Nat)(q:PR)(n:Nat)(w:tW)(h:jO w b q)(hl:ee q.rest<=fX)(hn:n<=fX):fL prog 158 #[vP b,vI n] w λe w'=>e=fR (eI (T (aR n q).1))/\jO w' b (aR n q).2/\aa (Only b) w w':=by
 unfold fX at hl hn;obtain⟨l,bad⟩:=q;simp only at hl;have hs:=bS l;have c0:=ak.cell h 0;have f0:=ak.frozen h 0;have c1:=ak.cell h 1;have f1:=ak.frozen h 1;simp at c0 c1;by_cases hlt:ee l<n
 ·have HE:af (aR n ⟨l,bad⟩=(l,⟨[],true⟩)):=by simp[af,aR,hlt]
  have h2:=ak.set h 1 (fS true);have z0:=h2.cell 0;have g0:=h2.frozen 0;simp at z0;have e1:(T l).extract 0 (ee l)=T l:=by rw[zG,List.take_length]
  have e2:(T l).extract (ee l) (ee l)=T []:=by have:=nr l (ee l);rw[hs,List.drop_length]at this;exact this
  go_in;go_wp2_with fail;go_ret;rw[HE.o];exact⟨rfl,h2.set 0 _,(aA.bz 1 _).bz 0 _⟩
 ·have HE:af (aR n ⟨l,bad⟩=(l.take n,⟨l.drop n,bad⟩)):=by simp[af,aR,hlt]
  have e1:=zG l n;have e2:(T l).extract n (ee l)=T (l.drop n):=by have:=nr l n;rw[hs]at this;exact this
  go_in;go_wp2_with fail;go_ret;rw[HE.o];exact⟨rfl,ak.set h 0 _,aA.bz 0 _⟩
theorem rP(b:Nat)(q:PR)(w:tW)(h:jO w b q)(hl:ee q.rest<=fX):fL prog 159 #[vP b] w λe w'=>e=fR (vI ((oneP q).1:Nat))/\jO w' b (oneP q).2/\aa (Only b) w w':=by
 obtain⟨l,bad⟩:=q;cases l with
 |nil =>have HE:af (aR 1 ⟨[],bad⟩=([],⟨[],true⟩)):=rfl;have he:=lh;go_in;go_wp2_with fail;refine(uO b ⟨[],bad⟩ 1 _ h hl (by unfold fX;decide)).mono ?_;rw[HE.o];rintro e w1 ⟨rfl,h1,m1⟩;go_wp2_with fail;go_ret;exact⟨rfl,h1,m1⟩
 |cons c l =>
  have HE:af (aR 1 ⟨c::l,bad⟩=([c],⟨l,bad⟩)):=by simp[af,aR]
  have he:=iX c [];have hs:(T [c]).size=1:=rfl;have hg:(T [c])[0]=c:=rfl;have hc:=c.toNat_lt;go_in;go_wp2_with fail;refine(uO b ⟨c::l,bad⟩ 1 _ h hl (by unfold fX;decide)).mono ?_;rw[HE.o];rintro e w1 ⟨rfl,h1,m1⟩;go_wp2_with fail;go_ret;exact⟨rfl,h1,m1⟩
theorem abB(a b:Nat)(ha:a<256)(hb:b<256):pd .or .i64 (a:Int) ((b:Int)*256)=((a+256*b:Nat):Int):=by
 have h:=(tr .i64 16 (by decide) (λn h0 h1=>by rw[IntKind.wrap_i64];omega) a (b*256) (by omega) (by omega)).2;have e:=ao (i:=8) (show a<2 ^ 8 from ha) b;have e3:((b*256:Nat):Int)=(b:Int)*256:=by simp
 have e4:a ||| b*256=a+256*b:=by rw[Nat.or_comm,Nat.mul_comm b 256];exact e.symm.trans (Nat.add_comm _ _)
 rw[e3,e4]at h;exact h
theorem kU(q:PR):(oneP q).1<256:=by
 unfold oneP;split
 ·decide
 ·exact UInt8.toNat_lt _
theorem kr(q:PR):ee (oneP q).2.rest<=ee q.rest:=by
 unfold oneP;split
 ·simp
 ·rename_i b l h;rw[h];simp
theorem take_len(n:Nat)(q:PR):ee (aR n q).2.rest<=ee q.rest:=by
 unfold aR;split
 ·simp
 ·simp
theorem Oa(q:PR):ee (kR q).2.rest<=ee q.rest:=ab (kr _) (kr _)
theorem zb(q:PR):ee (dJ q).2.rest<=ee q.rest:=ab (take_len _ _) (kr _)
theorem qk(m:Nat)(q:PR):ee (bX m q).2.rest<=ee q.rest:=kr _
theorem Ob(b:Nat)(q:PR)(w:tW)(h:jO w b q)(hl:ee q.rest<=fX):fL prog 273 #[vP b] w λe w'=>e=fR (vI ((kR q).1:Nat))/\jO w' b (kR q).2/\aa (Only b) w w':=by have hl2:=ab (kr q) hl;have H1:=ai (λw h=>rP b q w h hl);have H2:=ai (λw h=>rP b _ w h hl2);have l1:=kU q;have l2:=kU (oneP q).2;rw[show kR q=((oneP q).1+256*(oneP (oneP q).2).1,(oneP (oneP q).2).2)from rfl];generalize oneP (oneP q).2=r2 at *;generalize oneP q=r1 at *;obtain⟨a1,q1⟩:=r1;obtain⟨a2,q2⟩:=r2;simp only at *;have hor:=abB _ _ l1 l2;go_in;go_wp2_with fail;refine(H1.o _ h).mono ?_;rintro e w1 ⟨rfl,h1,m1⟩;go_wp2_with fail;refine(H2.o _ h1).mono ?_;rintro e w2 ⟨rfl,h2,m2⟩;go_wp2_with fail;go_ret;exact⟨by simp,h2,m1.trans m2⟩
theorem GL(n:Nat)(q:PR):ee (aR n q).1<=ee q.rest:=by
 unfold aR;split
 ·exact an _
 ·simp;omega
theorem E7(b:Nat)(q:PR)(w:tW)(h:jO w b q)(hl:ee q.rest<=fX):fL prog 276 #[vP b] w λe w'=>e=fR (eI (T (dJ q).1))/\jO w' b (dJ q).2/\aa (Only b) w w':=by have HE:af (dJ q=((aR (oneP q).1 (oneP q).2).1,az (nameB (aR (oneP q).1 (oneP q).2).1) (aR (oneP q).1 (oneP q).2).2)):=rfl;have l1:=kU q;have hl2:=ab (kr q) hl;have hl3:=ab (GL (oneP q).1 (oneP q).2) hl2;rw[HE.o];go_in;go_wp2_with fail;refine(rP b q _ h hl).mono ?_;rintro e w1 ⟨rfl,h1,m1⟩;go_wp2_with fail;refine(uO b _ _ _ h1 hl2 (by unfold fX;omega)).mono ?_;rintro e w2 ⟨rfl,h2,m2⟩;go_wp2_with fail;refine(tZ _ _ (by rw[bS];exact hl3)).mono ?_;rintro e w3 ⟨rfl,rfl⟩;go_wp2_with fail;refine(dZ b _ _ _ h2).mono ?_;rintro e w4 ⟨rfl,h4,m4⟩;go_wp2_with fail;go_ret;exact⟨rfl,h4,(m1.trans m2).trans m4⟩
theorem Ae(b:Nat)(q:PR)(m:Nat)(_hm:m<=255)(w:tW)(h:jO w b q)(hl:ee q.rest<=fX):fL prog 277 #[vP b,vI m] w λe w'=>e=fR (vB ((bX m q).1:Nat))/\jO w' b (bX m q).2/\aa (Only b) w w':=by
 have H1:=ai (λw h=>rP b q w h hl);have l1:=kU q;rw[show bX m q=((oneP q).1,az (eS (1<=(oneP q).1)&&eS ((oneP q).1<=m)) (oneP q).2)from rfl];generalize oneP q=r1 at *;obtain⟨n,q1⟩:=r1;simp only at *;by_cases ha:1<=n
 ·have HD:af ((eS (1<=n)&&eS (n<=m))=eS (n<=m)):=by simp[af,ha]
  rw[HD.o];have hd:eS ((n:Int)<=(m:Int))=eS (n<=m):=by simp
  go_in;go_wp2_with fail;refine(H1.o _ h).mono ?_;rintro e w1 ⟨rfl,h1,m1⟩;go_wp2_with fail;refine(dZ b _ _ _ h1).mono ?_;rintro e w4 ⟨rfl,h4,m4⟩;go_wp2_with fail;go_ret;exact⟨rfl,h4,m1.trans m4⟩
 ·have hn:n=0:=by omega
  subst hn;go_in;go_wp2_with fail;refine(H1.o _ h).mono ?_;rintro e w1 ⟨rfl,h1,m1⟩;go_wp2_with fail;refine(dZ b _ _ _ h1).mono ?_;rintro e w4 ⟨rfl,h4,m4⟩;go_wp2_with fail;go_ret;exact⟨rfl,h4,m1.trans m4⟩
theorem Af:(prog.info? 113).map (λi=>(i.zero,i.size,i.bytes))=eC (eC (fW #[eI E0,vB 0,vB 0,vB 0]),4,24):=by kernel_rfl
theorem VP(x:aW):∀u∈x.cells,u.oneCell'=true:=by intro u hu;simp only[aW.cells,List.mem_cons,List.not_mem_nil,or_false]at hu;rcases hu with rfl|rfl|rfl|rfl<;>rfl
structure xK(w0:tW)(b:Nat)(q:PR)(v:eM)(ms:List aW)(w:tW):Prop where
 rd:jO w b q
 sl:Sl w 113 4 v (ee ms) (ms.flatMap aW.cells)
 own:∀k,v.ownBlock=eC k->w0.heap.size<=k
 md:aa (Only b) w0 w
theorem xK.read{w0 w w':tW}{b:Nat}{q q':PR}{v:eM}{ms:List aW}(h:xK w0 b q v ms w)(hb:b<w0.heap.size)(hr:jO w' b q')(m:aa (Only b) w w'):xK w0 b q' v ms w' :=
 ⟨hr,h.sl.ae m (λk hk e=>by have:=h.own k hk;rw[show k=b from e]at this;omega),h.own,h.md.trans m⟩
theorem xK.alloc{w0 w:tW}{b:Nat}{q:PR}{v:eM}{ms:List aW}(h:xK w0 b q v ms w)(o:Obj):xK w0 b q v ms (w.alloc o) :=
 ⟨ak.alloc h.rd o,h.sl.ae ((aa.refl ah w).alloc o) (λ_ _=>id),h.own,h.md.alloc o⟩
theorem xK.set{w0 w:tW}{b:Nat}{q:PR}{v:eM}{ms:List aW}(h:xK w0 b q v ms w){g:Nat}(hg:w0.heap.size<=g)(hb:b<w0.heap.size)(hv:v.ownBlock≠eC g)(i:Nat)(x:eM):xK w0 b q v ms (w.setCell ⟨g,i,ez⟩ x) :=
 ⟨ak.setOther h.rd (by simp only;omega) x,h.sl.ae ((aa.refl (Only g) w).bz i x) (λk hk e=>hv (by rw[hk];exact congrArg eC e)),h.own,h.md.set (.inr hg) x⟩
theorem xK.app{w0 w w':tW}{b:Nat}{q:PR}{v v':eM}{ms:List aW}{x:aW}(h:xK w0 b q v ms w)(hb:b<w0.heap.size)(s:Sl w' 113 4 v' (ee ms+1) (ms.flatMap aW.cells++x.cells))(m:aa (λk=>v.ownBlock=eC k) w w')(l:∀k,v'.ownBlock=eC k->v.ownBlock=eC k\/w.heap.size<=k):xK w0 b q v' (ms++[x]) w' :=
 ⟨ak.ae h.rd m (λe=>by have:=h.own b e;omega),by simpa using s,λk hk=>by
  rcases l k hk with e|e
  ·exact h.own k e
  ·have:=h.md.size;omega,h.md.step m (λi hi e=>by have:=h.own i e;omega)⟩
theorem E8:∀(k:Nat) (q:PR) (last:tLB) (acc:List aW),ee (mapsP k q last acc).2.rest<=ee q.rest
 |0,_,_,_=>an _
 |k+1,q,last,acc=>by
  rw[mapsP];refine ab (E8 k _ _ _) ?_;show(bX 8 (bX 16 (bX 8 (dJ q).2).2).2).2.rest.length<=_
  exact ab (qk _ _) (ab (qk _ _) (ab (qk _ _) (zb _)))
def Jv(w:tW)(b:Nat)(q:PR)(ms:List aW)(e:Ending)(w':tW):Prop:=∃v,e=fR v/\xK w b q v ms w'
theorem Rh(b:Nat)(q:PR)(w:tW)(h:jO w b q)(hl:ee q.rest<=fX):fL prog 160 #[vP b] w λe w'=>Jv w b (mapsP (oneP q).1 (az (eS ((oneP q).1<=8)) (oneP q).2) [] []).2 (mapsP (oneP q).1 (az (eS ((oneP q).1<=8)) (oneP q).2) [] []).1 e w':=by
 obtain⟨iM,hiM,hzM,hsM,hbM⟩:=info_parts Af;have hb:=ak.lt h;have H1:=ai (λw h=>rP b q w h hl);have l1:=kU q;have hl1:=ab (kr q) hl;generalize oneP q=r1 at *;obtain⟨n,q1⟩:=r1;simp only at *;have hd:eS ((n:Int)<=8)=eS (n<=8):=by simp;omega
 have hl2:ee (az (eS (n<=8)) q1).rest<=fX:=hl1;have HQ:af (∃q2,az (eS (n<=8)) q1=q2):=⟨_,rfl⟩
 obtain⟨q2,hq2⟩:=HQ.o;rw[hq2]at hl2 ⊢;have HQ2:=ai hq2;clear hq2 HQ;go_in;go_wp2_with fail;refine(H1.o _ h).mono ?_;rintro e w1 ⟨rfl,h1,m1⟩;go_wp2_with fail;refine(dZ b _ _ _ h1).mono ?_;rintro e w2 ⟨rfl,h2,m2⟩;have hI:xK w b (az (eS (n<=8)) q1) (vN) [] w2:=⟨h2,Sl.nil _ _ _,λk hk=>(by cases hk),m1.trans m2⟩
 rw[HQ2.o]at hI;clear h1 h2 m1 m2 hd;go_wp2_with fail;go_loopg [3,4,14] n (λg v last i wl=>∃(k:Nat) (acc:List aW) (r:PR) (nP:tLB),i=vI k/\last=eI (T nP)/\xK w b r v acc wl/\mapsP (n-k) r nP acc=mapsP n q2 [] []/\k<=n/\g=n-k/\acc.length<=k/\r.rest.length<=fX)
 case atStart=>exact⟨0,[],q2,[],rfl,rfl,hI,rfl,Nat.zero_le _,rfl,an _,hl2⟩
 case round =>
  obtain⟨k,acc,r,nP,rfl,rfl,hI2,fQ,hk,rfl,hal,hrl⟩:=hrel;have HR:af _:=fQ;clear fQ hI;by_cases hkn:k<n
  ·obtain⟨j,hj⟩:∃j,n-k=j+1:=⟨n-k-1,by omega⟩
   have HJ:=ai hj;have iO:mapsP j (az (Ea nP (dJ r).1) (bX 8 (bX 16 (bX 8 (dJ r).2).2).2).2) (dJ r).1 (acc++[⟨(dJ r).1,(bX 8 (dJ r).2).1,(bX 16 (bX 8 (dJ r).2).2).1,(bX 8 (bX 16 (bX 8 (dJ r).2).2).2).1⟩])=mapsP n q2 [] []:=by rw[<-HR.o,hj];rfl
   clear HR hj;have HN:=ai (λw h=>E7 b r w h hrl);have z1:=ab (zb r) hrl;have HK:af (∀w,jO w b (dJ r).2->fL prog 277 #[vP b,vI 8] w λe w'=>e=fR (vB ((bX 8 (dJ r).2).1:Nat))/\jO w' b (bX 8 (dJ r).2).2/\aa (Only b) w w'):=λw h=>Ae b _ 8 (by decide) w h z1;have y1:=kU (dJ r).2;have z2:=ab (qk 8 (dJ r).2) z1;rw[show(oneP (dJ r).2).1=(bX 8 (dJ r).2).1 from rfl]at y1;generalize dJ r=p0 at *;obtain⟨nm,r0⟩:=p0;simp only at *;have HV:af (∀w,jO w b (bX 8 r0).2->fL prog 277 #[vP b,vI 16] w λe w'=>e=fR (vB ((bX 16 (bX 8 r0).2).1:Nat))/\jO w' b (bX 16 (bX 8 r0).2).2/\aa (Only b) w w'):=λw h=>Ae b _ 16 (by decide) w h z2;have y2:=kU (bX 8 r0).2;have z3:=ab (qk 16 (bX 8 r0).2) z2;rw[show(oneP (bX 8 r0).2).1=(bX 16 (bX 8 r0).2).1 from rfl]at y2;generalize bX 8 r0=p1 at *;obtain⟨ky,r1⟩:=p1;simp only at *;have HW:af (∀w,jO w b (bX 16 r1).2->fL prog 277 #[vP b,vI 8] w λe w'=>e=fR (vB ((bX 8 (bX 16 r1).2).1:Nat))/\jO w' b (bX 8 (bX 16 r1).2).2/\aa (Only b) w w'):=λw h=>Ae b _ 8 (by decide) w h z3;have y3:=kU (bX 16 r1).2;have z4:=ab (qk 8 (bX 16 r1).2) z3;rw[show(oneP (bX 16 r1).2).1=(bX 8 (bX 16 r1).2).1 from rfl]at y3;generalize bX 16 r1=p2 at *;obtain⟨vl,r2⟩:=p2;simp only at *;generalize bX 8 r2=p3 at *;obtain⟨en,r3⟩:=p3;simp only at *;have tJ:af _:=iO;clear iO;have Oc:af (Ea nP nm=Op.bytesLess (T nP).toList (T nm).toList):=rfl;have hOw:=hI2.sl.lt;have HOw:af _:=hOw;have hwr:=hI2.md.size;clear hOw;go_wp2_with fail;refine(HN.o _ hI2.rd).mono ?_;rintro e w3 ⟨rfl,h3,m3⟩;have II:=hI2.read hb h3 m3;have hs3:=m3.size;clear h3 m3 hI2;have yo:=II.alloc (eR #[eI (T nm),vB 0,vB 0,vB 0] 113);have hB4:=ak.new w3 #[eI (T nm),vB 0,vB 0,vB 0] 113;have Tn:af (u3.ownBlock≠eC w3.heap.size):=λe=>by have:=HOw.o _ e;omega
   clear II;go_wp2_with fail;refine(HK.o _ yo.rd).mono ?_;rintro e w5 ⟨rfl,h5,m5⟩;have hI5:=yo.read hb h5 m5;have hB5:=hB4.ae m5 (show ¬w3.heap.size=b by omega);clear h5 m5 yo hB4;have f5:=hB5.frozen 1;have g5:=hB5.c1;have hI6:=hI5.set (g:=w3.heap.size) (by omega) hb Tn.o 1 (vB ky);have hB6:=hB5.set 1 (vB ky);clear hI5 hB5;go_wp2_with fail;refine(HV.o _ hI6.rd).mono ?_;rintro e w7 ⟨rfl,h7,m7⟩;have hI7:=hI6.read hb h7 m7;have hB7:ak w7 w3.heap.size #[eI (T nm),vB ky,vB 0,vB 0] 113:=hB6.ae m7 (show ¬w3.heap.size=b by omega);clear h7 m7 hI6 hB6 f5 g5;have f7:=hB7.frozen 2;have g7:=hB7.c2;have hI8:=hI7.set (g:=w3.heap.size) (by omega) hb Tn.o 2 (vB vl);have hB8:=hB7.set 2 (vB vl);clear hI7 hB7;go_wp2_with fail;refine(HW.o _ hI8.rd).mono ?_;rintro e w9 ⟨rfl,h9,m9⟩;have hI9:=hI8.read hb h9 m9;have hB9:ak w9 w3.heap.size #[eI (T nm),vB ky,vB vl,vB 0] 113:=hB8.ae m9 (show ¬w3.heap.size=b by omega);clear h9 m9 hI8 hB8 f7 g7;have f9:=hB9.frozen 3;have g9:=hB9.c3;have hIa:=hI9.set (g:=w3.heap.size) (by omega) hb Tn.o 3 (vB en);have hBa:ak (w9.setCell ⟨w3.heap.size,3,ez⟩ (vB en)) w3.heap.size #[eI (T nm),vB ky,vB vl,vB en] 113:=hB9.set 3 (vB en);have ga:=hB9.c0;clear hI9 hB9;go_wp2_with fail;refine(dZ b _ _ _ hIa.rd).mono ?_;rintro e wb ⟨rfl,hb',mb⟩;have hIb:=hIa.read hb hb' mb;have hBb:=hBa.ae mb (show ¬w3.heap.size=b by omega);clear hb' mb hIa hBa f9 g9 ga;obtain⟨i0,i1,i2,i3⟩:wb.cell? ⟨w3.heap.size,0,ez⟩=eC (eI (T nm))/\wb.cell? ⟨w3.heap.size,1,ez⟩=eC (vB ky)/\wb.cell? ⟨w3.heap.size,2,ez⟩=eC (vB vl)/\wb.cell? ⟨w3.heap.size,3,ez⟩=eC (vB en):=⟨hBb.cell 0,hBb.cell 1,hBb.cell 2,hBb.cell 3⟩
   have HIb:af _:=hIb;clear hBb hIb;go_wp2_with (at_builtin;refine aP _ rfl (.tmp 36) (.tmp 38) 96 rfl 113 iM (fW #[eI E0,vB 0,vB 0,vB 0]) 4 24 underlying96 hiM hzM hsM hbM rfl (by decide) u3 (ee acc) (acc.flatMap aW.cells) rfl (HIb.o.alloc _).sl ⟨wb.heap.size,0,ez⟩ 1 1 (aW.cells ⟨nm,ky,vl,en⟩) rfl rfl (aY _ _ _ _ rfl) (VP _) (by unfold fX;omega) (by omega) ?_;intro vA wA sA mA lA;obtain⟨oA,cA,rfl,_⟩:=Sl.view sA);go_roundg (n-(k+1))
   case measure=>omega
   case rel=>exact⟨k+1,acc++[⟨nm,ky,vl,en⟩],_,nm,by go_num,rfl,(HIb.o.alloc _).app hb sA mA lA,by rw[show n-(k+1)=j by have:=HJ.o;omega];exact tJ.o,by omega,rfl,by simp;omega,z4⟩
  ·obtain rfl:k=n:=by omega
   have HE:af (mapsP k q2 [] []=(acc,r)):=by rw[af,<-HR.o,Nat.sub_self];rfl
   go_wp2_with fail;go_ret;rw[HE.o];exact⟨_,rfl,hI2⟩
theorem ZM(os:List dX)(c k:Nat)(hk:k<ee os)(hlt:∀j (h:j<ee os),j<k->os[j].code≠c)(he:os[k].code=c):os.findIdx? (λo=>o.code==c)=eC k:=by rw[List.findIdx?_eq_some_iff_getElem];refine⟨hk,by simp[he],λj hj=>?_⟩;have:=hlt j (by omega) hj;simp[this]
theorem ZN(os:List dX)(c:Nat)(h:∀j (h:j<ee os),os[j].code≠c):os.findIdx? (λo=>o.code==c)=ez:=by rw[List.findIdx?_eq_none_iff];intro x hx;obtain⟨i,hi,rfl⟩:=List.getElem_of_mem hx;simp[h i hi]
def codeV(bs:tLN):Option Nat->eM
 |none=>vO
 |some k=>gG (bs[k]?.getD 0)
theorem Ma(w:tW)(v:eM)(bs:tLN)(os:List dX)(c:Nat)(hO:aT 0 w v bs os)(hl:ee os<=1000)(sZ:∀o∈os,o.code<256):fL prog 370 #[v,vB c] w λe w'=>e=fR (codeV bs (os.findIdx? (λo=>o.code==c)))/\w'=w:=by
 obtain⟨o0,cap,rfl,_⟩:=hO.sl.view;have hlen:=hO.len;have HL:af _:=hlen;clear hlen;have hbl:ee bs<=1000:=by rw[HL.o];exact hl
 go_in;go_wp2;go_loop [9] (λi=>∃k:Nat,k<=ee bs/\i=vI k/\∀j,(h:j<ee os)->j<k->os[j].code≠c) (λi=>ee bs-(intOf i).toNat)
 case atStart=>exact⟨0,Nat.zero_le _,rfl,λj _ h=>absurd h (Nat.not_lt_zero _)⟩
 case round =>
  obtain⟨k,hk,rfl,hn⟩:=hrel;have HN:af _:=hn;clear hn;by_cases hlt:k<ee bs
  ·obtain⟨g,rfl,cs⟩:=hO.sl.at rfl k hlt;have ck:=cs k hlt;have e1:(bs.map gG)[k]?=eC (vP (bs[k])):=by simp[hlt,gG]
   rw[e1]at ck;have hk':k<ee os:=by rw[<-HL.o];exact hlt
   obtain⟨o1,n1,c1,f6,c6,k7,c7,k8,c8,f9,c9,hblk,_⟩:=(hO.at' k hlt hk').ex;have z0:=hblk.cell 0;simp at z0;have HB:af (bs[k]?.getD 0=bs[k]):=by simp[af,hlt]
   have hcl:=sZ os[k] (bh hk');clear hblk cs e1;by_cases he:os[k].code=c
   ·have HF:af (_=_):=ZM os c k hk' (λj h hj=>HN.o j h hj) he;have q:((os[k].code:Int)==(c:Int))=true:=by simp[he]
    go_wp2;go_ret;refine⟨?_,rfl⟩;rw[HF.o];simp only[codeV,HB.o,gG];rfl
   ·have HE:af _:=he;have q:((os[k].code:Int)==(c:Int))=false:=by simp;omega
    clear he;go_wp2;go_round
    case rel=>exact⟨k+1,by omega,by go_num,λj h hj=>by
     by_cases e:j=k
     ·subst e;exact HE.o
     ·exact HN.o j h (by omega)⟩
    case measure=>simp[intOf];omega
  ·have HF:af (_=_):=ZN os c (λj h=>HN.o j h (by rw[<-HL.o]at h;omega));go_wp2;go_ret;rw[HF.o];exact⟨rfl,rfl⟩
theorem Od(k:IntKind)(i m:Nat)(a b:Nat)(hw:∀n:Int,0<=n->n<2 ^ m->k.wrap n=n)(hm:m<=k.bits)(him:i<=m)(ha:a<2 ^ i)(hb:b*2 ^ i<2 ^ m):pd .or k (a:Int) ((b*2 ^ i:Nat):Int)=((a+b*2 ^ i:Nat):Int):=by
 have ha':=Nat.lt_of_lt_of_le ha (Nat.pow_le_pow_right (by decide) him);have h:=(tr k m hm hw a (b*2 ^ i) ha' hb).2;have e:=ao ha b;have e4:a ||| b*2 ^ i=a+b*2 ^ i:=by rw[Nat.or_comm,Nat.mul_comm b];exact e.symm.trans (Nat.add_comm _ _)
 rw[e4]at h;exact h
theorem adb(a b:Nat)(ha:a<256)(hb:b<256):pd .or .u32 (a:Int) ((b:Int)*256)=(a:Int)+(b:Int)*256:=by
 have h:=Od .u32 8 16 a b (λn h0 h1=>by rw[IntKind.wrap_u32];omega) (by decide) (by decide) ha (by omega)
 simpa using h
theorem ade(n c:Nat)(hn:n<65536)(hc:c<256):pd .or .u32 (n:Int) ((c:Int)*65536)=(n:Int)+(c:Int)*65536:=by
 have h:=Od .u32 16 24 n c (λn h0 h1=>by rw[IntKind.wrap_u32];omega) (by decide) (by decide) hn (by omega)
 simpa using h
theorem adf(n d:Nat)(hn:n<16777216)(hd:d<256):pd .or .u32 (n:Int) ((d:Int)*16777216)=(n:Int)+(d:Int)*16777216:=by
 have h:=Od .u32 24 32 n d (λn h0 h1=>by rw[IntKind.wrap_u32];omega) (by decide) (by decide) hn (by omega)
 simpa using h
theorem adg(a b:Nat)(ha:a<256)(hb:b<256):pd .or .u16 (a:Int) ((b:Int)*256)=(a:Int)+(b:Int)*256:=by
 have h:=Od .u16 8 16 a b (λn h0 h1=>by rw[IntKind.wrap_u16];omega) (by decide) (by decide) ha (by omega)
 simpa using h
theorem A9(s:tBA)(i:Nat)(h:i<s.size):at' (BL s) i=s[i].toNat:=by
 have e:(BL s)[i]?=eC s[i]:=by rw[List.getElem?_eq_getElem (by rw[dO];exact h),Lv s i h]
 simp[at',e]
theorem Mc(a b c d:Nat)(ha:a<256)(hb:b<256)(hc:c<256)(hd:d<256):wrap32 ((a:Int)+(b:Int)*256+(c:Int)*65536+(d:Int)*16777216)=yQ (a+256*b+65536*c+16777216*d):=by unfold wrap32 yQ;split<;>omega
theorem E9(s:tBA)(w:tW)(h:4<=s.size)(hs:s.size<=fX):fL prog 371 #[eI s] w λe w'=>e=fR (vJ (bI (BL s)))/\∃n,w'=w.drewN n:=by
 unfold fX at hs;have e0:=A9 s 0 (by omega);have e1:=A9 s 1 (by omega);have e2:=A9 s 2 (by omega);have e3:=A9 s 3 (by omega);have HN:af (bI (BL s)=yQ (s[0].toNat+256*s[1].toNat+65536*s[2].toNat+16777216*s[3].toNat)):=by rw[af,bI,e0,e1,e2,e3]
 rw[HN.o];clear HN e0 e1 e2 e3;have l0:=(s[0]).toNat_lt;have l1:=(s[1]).toNat_lt;have l2:=(s[2]).toNat_lt;have l3:=(s[3]).toNat_lt;have p0:0<s.size:=by omega
 have p1:1<s.size:=by omega
 have p2:2<s.size:=by omega
 have p3:3<s.size:=by omega
 have i1:(1:Int)<(s.size:Int):=by omega
 have i2:(2:Int)<(s.size:Int):=by omega
 have i3:(3:Int)<(s.size:Int):=by omega
 have w0:IntKind.u32.wrap (s[0].toNat:Int)=s[0].toNat:=by rw[IntKind.wrap_u32];omega
 have w1:IntKind.u32.wrap (s[1].toNat:Int)=s[1].toNat:=by rw[IntKind.wrap_u32];omega
 have w2:IntKind.u32.wrap (s[2].toNat:Int)=s[2].toNat:=by rw[IntKind.wrap_u32];omega
 have w3:IntKind.u32.wrap (s[3].toNat:Int)=s[3].toNat:=by rw[IntKind.wrap_u32];omega
 have v1:IntKind.u32.wrap ((s[1].toNat:Int)*256)=(s[1].toNat:Int)*256:=by rw[IntKind.wrap_u32];omega
 have v2:IntKind.u32.wrap ((s[2].toNat:Int)*65536)=(s[2].toNat:Int)*65536:=by rw[IntKind.wrap_u32];omega
 have v3:IntKind.u32.wrap ((s[3].toNat:Int)*16777216)=(s[3].toNat:Int)*16777216:=by rw[IntKind.wrap_u32];omega
 have o1:=adb s[0].toNat s[1].toNat l0 l1;have o2:=ade (s[0].toNat+s[1].toNat*256) s[2].toNat (by omega) l2;have o3:=adf (s[0].toNat+s[1].toNat*256+s[2].toNat*65536) s[3].toNat (by omega) l3;simp only[Int.natCast_add,Int.natCast_mul,Int.cast_ofNat_Int]at o2 o3;go_in;go_wp2_with fail;go_quiet (fail);go_wp2_with fail;go_ret;refine⟨?_,nq,rfl⟩;show Ending.returned (vJ (wrap32 _))=_
 rw[Mc _ _ _ _ l0 l1 l2 l3]
theorem VQ(x:dQ)(op:eM)(p:PK):PK.right {x with op:=op} p=PK.right x p:=rfl
theorem VR(o:dX)(x:dQ)(op:eM):o.needs {x with op:=op}=o.needs x:=by unfold dX.needs;have :=funext (VQ x op);rw[this];rfl
theorem Jw(o:dX)(x:PI)(bs:tLN):o.needs (x.ins bs)=o.needs (x.ins []):=VR o (x.ins []) _
def aaP(cs:tAV):Prop:=∃(p:Option Addr) (d s j n h:Int) (l m:tBA),cs=#[.pointer p,vB d,vB s,.int .i16 j,vJ n,vJ h,eI l,eI m]
def nQ(w:tW)(bs:tLN)(l:tLB)(e:Ending)(w':tW):Prop:=∃cs,e=fR (gb #[fW cs,fS (gp l).isSome])/\(∀x,gp l=eC x->cs=(x.ins bs).cells)/\aaP cs/\aa ah w w'
theorem Ba(l:tLB)(h:ee l<8):gp l=ez:=by unfold gp;rw[iP9 h]
theorem Da(l:tLB)(h:¬ee l<8)(hc:gU (at' l 0)=ez):gp l=ez:=by unfold gp;rw[iN9 h,hc]
theorem Db(l:tLB)(h:¬ee l<8)(k:Nat)(hc:gU (at' l 0)=eC k)(hs:ee l<(ax[k]?.getD kg).slots*8):gp l=ez:=by unfold gp;rw[iN9 h,hc];simp only;rw[iP9 hs]
theorem Md:∀o∈ax,o.code<256:=by decide +kernel
theorem Bb:∀o∈ax,o.slots=1\/o.slots=2:=by decide +kernel
theorem Fa(c k:Nat)(h:gU c=eC k):k<88:=by have:=List.findIdx?_eq_some_iff_getElem.1 h;have h2:=this.1;rw[eZ]at h2;exact h2
theorem adh(a:Nat)(ha:a<256):pd .and .u8 (a:Int) 15=((a%16:Nat):Int):=by have h:=(tr .u8 8 (by decide) (λn h0 h1=>by rw[IntKind.wrap_u8];omega) a 15 ha (by decide)).1;have e:a &&& 15=a%16:=Nat.and_two_pow_sub_one_eq_mod a 4;rw[e]at h;exact h
theorem Me(a b:Nat)(ha:a<256)(hb:b<256):IntKind.i16.wrap ((a:Int)+(b:Int)*256)=eP (a+256*b):=by unfold eP IntKind.wrap;simp[IntKind.bits,IntKind.signed];split<;>omega
theorem Em(w:tW)(m:Nat)(a:Addr)(v:eM):(w.drewN m).setCell a v=(w.setCell a v).drewN m:=rfl
theorem Mf(w:tW)(g:Nat)(hg:g=w.heap.size){t:TypeId}{z0 z1 z2 z3 z4 z5 z6 z7 a0 a1 a2 a3 a4 a5 a6 a7:eM}:(((((((((w.alloc (eR #[z0,z1,z2,z3,z4,z5,z6,z7] t)).setCell ⟨g,0,ez⟩ a0).setCell ⟨g,1,ez⟩ a1).setCell ⟨g,2,ez⟩ a2).setCell ⟨g,3,ez⟩ a3).setCell ⟨g,4,ez⟩ a4).setCell ⟨g,5,ez⟩ a5).setCell ⟨g,6,ez⟩ a6).setCell ⟨g,7,ez⟩ a7)=w.alloc (eR #[a0,a1,a2,a3,a4,a5,a6,a7] t):=by subst hg;simp[go_sem]
abbrev Z8:tAV:=#[vO,vB 0,vB 0,.int .i16 0,vJ 0,vJ 0,eI ⟨#[]⟩,eI ⟨#[]⟩]
theorem nQ.no{w w':tW}{bs:tLN}{l:tLB}{cs:tAV}(h:gp l=ez)(m:aa ah w w')(h8:aaP cs):nQ w bs l (fR (gb #[fW cs,fS false])) w' :=
 ⟨cs,by rw[h];rfl,λx hx=>(by rw[h]at hx;cases hx),h8,m⟩
theorem Dc(l:tLB)(h:¬ee l<8)(k:Nat)(hc:gU (at' l 0)=eC k)(hs:¬ee l<(ax[k]?.getD kg).slots*8):gp l = if 1<(ax[k]?.getD kg).slots/\(l.drop 8).take 4≠[0,0,0,0]then ez else if(ax[k]?.getD kg).needs (PI.ins [] ⟨k,at' l 1%16,at' l 1/16,eP (at' l 2+256*at' l 3),bI (l.drop 4),if 1<(ax[k]?.getD kg).slots then bI (l.drop 12)else 0,[]⟩)then eC ⟨k,at' l 1%16,at' l 1/16,eP (at' l 2+256*at' l 3),bI (l.drop 4),if 1<(ax[k]?.getD kg).slots then bI (l.drop 12)else 0,[]⟩else ez:=by unfold gp;rw[iN9 h,hc];simp only;rw[iN9 hs]
theorem Jy(l:tLB)(bs:tLN)(k:Nat)(h:Int)(hh:-2147483648<=h/\h<=2147483647):dQ.Fit (PI.ins bs ⟨k,at' l 1%16,at' l 1/16,eP (at' l 2+256*at' l 3),bI (l.drop 4),h,[]⟩):=by have h1:=jo l 1;have h2:=jo l 2;have h3:=jo l 3;have hj:=CE (at' l 2+256*at' l 3) (by omega);have hn:=qg (l.drop 4);exact⟨by simp only[PI.ins];omega,by simp only[PI.ins];omega,hj.1,hj.2,hn.1,hn.2,hh.1,hh.2,by simp[PI.ins],by show(T []).size<=300;decide⟩
theorem VS(w:tW)(v:eM)(bs:tLN)(hO:aT 0 w v bs ax)(l:tLB)(hl:ee l<=fX):fL prog 339 #[v,eI (T l)] w λe w'=>nQ w bs l e w':=by
 have hs:=bS l;have hl':=hl;unfold fX at hl;by_cases h8:ee l<8
 ·have HF:=ai (Ba l h8);go_in;go_wp2_with fail;exact iz (aw results339 _ _ w.heap.size 141 _ (0,0) _ _ rfl rfl (ak.new _ _ _) underlying141 rfl (by kernel_rfl)) rfl (nQ.no HF.o aq ⟨_,_,_,_,_,_,_,_,rfl⟩)
 have p0:0<(T l).size:=by omega
 have p1:1<(T l).size:=by omega
 have p2:2<(T l).size:=by omega
 have p3:3<(T l).size:=by omega
 have e0:=A9 (T l) 0 p0;have e1:=A9 (T l) 1 p1;have e2:=A9 (T l) 2 p2;have e3:=A9 (T l) 3 p3;rw[show BL (T l)=l from rfl]at e0 e1 e2 e3;have hBy:af (∀W,aT 0 W v bs ax->fL prog 370 #[v,vB ((T l)[0].toNat:Nat)] W λe w'=>e=fR (codeV bs (gU (at' l 0)))/\w'=W):=λW h=>by rw[e0];exact Ma W v bs ax _ h (by rw[eZ];decide) Md
 have i1:(1:Int)<(ee l:Int):=by omega
 have i2:(2:Int)<(ee l:Int):=by omega
 have i3:(3:Int)<(ee l:Int):=by omega
 have HO1:af (aT 0 (w.alloc (eR Z8 141)) v bs ax):=hO.ae aq;have hZ:=ak.new w Z8 141;obtain⟨o0,cap,hv,_⟩:=hO.sl.view;subst hv;cases hc:gU (at' l 0)with
 |none =>have HF:=ai (Da l h8 hc);rw[hc]at hBy;go_in;go_wp2_with fail;refine(hBy.o _ HO1.o).mono ?_;rintro e w1 ⟨rfl,rfl⟩;simp only[codeV];go_wp2_with fail;exact iz (aw results339 _ _ w.heap.size 141 _ (0,0) _ _ rfl rfl (ak.new _ _ _) underlying141 rfl (by kernel_rfl)) rfl (nQ.no HF.o aq ⟨_,_,_,_,_,_,_,_,rfl⟩)
 |some k =>
  rw[hc]at hBy;have VT:=Fa _ _ hc;have hkt:k<ee ax:=by rw[eZ];exact VT
  have hkb:k<ee bs:=by rw[hO.len];exact hkt
  have HG:af (ax[k]?.getD kg=ax[k]):=by simp[af,hkt]
  have pQ:af (bs[k]?.getD 0=bs[k]):=by simp[af,hkb]
  have hsl:=Bb ax[k] (bh hkt);have hAt:=hO.at' k hkb hkt;have hAt1:=hAt.ae (aA.alloc (eR Z8 141));obtain⟨o1,n1,c1,f6,c6,k7,c7,k8,c8,f9,c9,hblk,GG⟩:=hAt.ex;have hb1:=hblk.ae ((aa.refl ah w).alloc (eR Z8 141)) id;have z2:=hb1.c2;have ZO:=ai GG;have HB:=ai hblk;clear hblk GG hb1 hAt hAt1;by_cases hless:ee l<ax[k].slots*8
  ·have HF:=ai (Db l h8 k hc (by rw[HG.o];exact hless));generalize ax[k].slots=sn at *;have hq:((ee l:Int)<(sn:Int)*8):=by omega
   go_in;go_wp2_with fail;refine(hBy.o _ HO1.o).mono ?_;rintro e w1 ⟨rfl,rfl⟩;simp only[codeV,pQ.o,gG];go_wp2_with fail;exact iz (aw results339 _ _ w.heap.size 141 _ (0,0) _ _ rfl rfl (ak.new _ _ _) underlying141 rfl (by kernel_rfl)) rfl (nQ.no HF.o aq ⟨_,_,_,_,_,_,_,_,rfl⟩)
  have HM:=Dc l h8 k hc (by rw[HG.o];exact hless);rw[HG.o]at HM;have aaQ:af _:=HM;clear HM;have l1:=((T l)[1]).toNat_lt;have l2:=((T l)[2]).toNat_lt;have l3:=((T l)[3]).toNat_lt;have hand:=adh (T l)[1].toNat l1;have w2':IntKind.u16.wrap ((T l)[2].toNat:Int)=(T l)[2].toNat:=by rw[IntKind.wrap_u16];omega
  have w3':IntKind.u16.wrap ((T l)[3].toNat:Int)=(T l)[3].toNat:=by rw[IntKind.wrap_u16];omega
  have v3':IntKind.u16.wrap ((((T l)[3]).toNat:Int)*256)=((T l)[3].toNat:Int)*256:=by rw[IntKind.wrap_u16];omega
  have o16:=adg (T l)[2].toNat (T l)[3].toNat l2 l3;have s16:=Me (T l)[2].toNat (T l)[3].toNat l2 l3;have x4:(T l).extract 4 (ee l)=T (l.drop 4):=by have:=nr l 4;rw[hs]at this;exact this
  have afa:af (∀W,fL prog 371 #[eI (T (l.drop 4))] W λe w'=>e=fR (vJ (bI (l.drop 4)))/\∃n,w'=W.drewN n):=λW=>E9 (T (l.drop 4)) W (by rw[bS];simp;omega) (by rw[bS];simp;unfold fX;omega);have hq:¬((ee l:Int)<(ax[k].slots:Int)*8):=by omega
  have i4:(4:Int)<=(ee l:Int):=by omega
  go_in;go_wp2_with fail;refine(hBy.o _ HO1.o).mono ?_;rintro e w1 ⟨rfl,rfl⟩;simp only[codeV,pQ.o,gG];go_upto_region 6 with fail;go_cut [7] (λp wx=>∃g,p=vP g/\w.heap.size<g/\ak wx g #[vP (bs[k]),vB (((T l)[1].toNat:Int)%16),vB (((T l)[1].toNat:Int)/16),.int .i16 0,vJ (bI (l.drop 4)),vJ 0,eI ⟨#[]⟩,eI ⟨#[]⟩] 141/\aa ah (w.alloc (eR Z8 141)) wx)
  case first =>
   have af0:af (∀args w,(callFunc 371 args).run prog w=.ok (.enter 371 args) w):=enters_of func371 (by kernel_rfl) rfl
   have hZ3:ak ((w.alloc (eR Z8 141)).alloc (eR #[vP (bs[k]),vB (((T l)[1].toNat:Int)%16),vB (((T l)[1].toNat:Int)/16),.int .i16 0,vJ (bI (l.drop 4)),vJ 0,eI ⟨#[]⟩,eI ⟨#[]⟩] 141)) (w.heap.size+1) #[vP (bs[k]),vB (((T l)[1].toNat:Int)%16),vB (((T l)[1].toNat:Int)/16),.int .i16 0,vJ (bI (l.drop 4)),vJ 0,eI ⟨#[]⟩,eI ⟨#[]⟩] 141:=by
    have:=ak.new (w.alloc (eR Z8 141)) #[vP (bs[k]),vB (((T l)[1].toNat:Int)%16),vB (((T l)[1].toNat:Int)/16),.int .i16 0,vJ (bI (l.drop 4)),vJ 0,eI ⟨#[]⟩,eI ⟨#[]⟩] 141
    simpa using this
   have hM3:aa ah (w.alloc (eR Z8 141)) ((w.alloc (eR Z8 141)).alloc (eR #[vP (bs[k]),vB (((T l)[1].toNat:Int)%16),vB (((T l)[1].toNat:Int)/16),.int .i16 0,vJ (bI (l.drop 4)),vJ 0,eI ⟨#[]⟩,eI ⟨#[]⟩] 141)):=aq
   refine uM [.inl (vP (bs[k])),.inl (eI (T l)),.inl (vB (T l)[1].toNat),.inl (vB (((T l)[1].toNat:Int)%16)),.inl (eI (T l)),.inl (vB (T l)[1].toNat),.inl (vB (((T l)[1].toNat:Int)/16)),.inl (eI (T l)),.inl (eI (T (l.drop 4))),.inl (vJ (bI (l.drop 4))),.inl (fW #[vP (bs[k]),vB (((T l)[1].toNat:Int)%16),vB (((T l)[1].toNat:Int)/16),.int .i16 0,vJ (bI (l.drop 4)),vJ 0,eI ⟨#[]⟩,eI ⟨#[]⟩]),.inr (λL u _=>L 11=true/\u=vP (w.heap.size+1)),.inl undef]
    (λL w'=>∃m,w'=(if L 12 then(w.alloc (eR Z8 141)).alloc (eR #[vP (bs[k]),vB (((T l)[1].toNat:Int)%16),vB (((T l)[1].toNat:Int)/16),.int .i16 0,vJ (bI (l.drop 4)),vJ 0,eI ⟨#[]⟩,eI ⟨#[]⟩] 141)else if L 11 then(w.alloc (eR Z8 141)).alloc (eR Z8 141)else w.alloc (eR Z8 141)).drewN m)
    (λi w1 w2=>(i≠11->i≠12->∃m,w2=w1.drewN m)/\(i=11->∃m,w2=((w.alloc (eR Z8 141)).alloc (eR Z8 141)).drewN m)/\(i=12->∃m,w2=((w.alloc (eR Z8 141)).alloc (eR #[vP (bs[k]),vB (((T l)[1].toNat:Int)%16),vB (((T l)[1].toNat:Int)/16),.int .i16 0,vJ (bI (l.drop 4)),vJ 0,eI ⟨#[]⟩,eI ⟨#[]⟩] 141)).drewN m))
    (by kernel_rfl) (by kernel_rfl) (by kernel_rfl) ⟨1,rfl⟩ ?_ ?_ (.inl (by kernel_rfl)) ?_
   ·intro jj s hs i L v w1 w2 hn hj n hr;refine rO (N:=λ_ _ _=>True) (show za _ _ _ 0 _ from ?_) jj s hs i L v w1 w2 hn (by rw[Nat.zero_add];exact hj) trivial hr;exact⟨λi L u w1 w2 hn hk n h=>⟨by simp[jF,h.1],h.2⟩,trivial⟩
   ·rintro i L w1 w2 hn ⟨m,rfl⟩ ⟨n1,n2,n3⟩;by_cases e1:i=11
    ·subst e1;obtain⟨m',rfl⟩:=n2 rfl;have:=hn.2 12 _ rfl (by decide);exact⟨m',by simp[jF,this]⟩
    by_cases e2:i=12
    ·subst e2;obtain⟨m',rfl⟩:=n3 rfl;exact⟨m',by simp[jF]⟩
    obtain⟨m',rfl⟩:=n1 e1 e2;exact⟨m+m',by simp only[jF,iN9 (Ne.symm e1),iN9 (Ne.symm e2)];exact World.drewN_drewN ..⟩
   iterate 9 (refine ic rfl (λL w' hN hC _ K hK=>?_) ?_;(· go_big_op;exact hK _ _ _ rfl ⟨λ_ _=>⟨0,rfl⟩,(λh=>by cases h),(λh=>by cases h)⟩ rfl);simp only[Act.put,sA9,sB9,sC9])
   refine ic rfl (λL w' hN hC _ K hK=>?_) ?_
   ·go_big_op;refine(afa.o _).mono ?_;rintro e w3 ⟨rfl,n3,rfl⟩;exact hK _ _ _ rfl ⟨λ_ _=>⟨n3,rfl⟩,(λh=>by cases h),(λh=>by cases h)⟩ rfl
   simp only[Act.put,sA9,sB9,sC9];refine ic rfl (λL w' hN hC _ K hK=>?_) ?_
   ·go_big_op;exact hK _ _ _ rfl ⟨λ_ _=>⟨0,rfl⟩,(λh=>by cases h),(λh=>by cases h)⟩ rfl
   simp only[Act.put,sA9,sB9,sC9];refine uN rfl (λL w' hN hC _ K hK=>?_) (λx=>?_)
   ·obtain⟨m,rfl⟩:=hC;have h1:=hN.1;have h2:=hN.2 12 _ rfl (by decide);simp only[h1,h2,ar,if_false]at *;go_big_op;exact hK _ _ _ rfl ⟨λh=>absurd rfl h,(λ_=>⟨m,rfl⟩),(λh=>by cases h)⟩ ⟨by simp[jF],rfl⟩
   simp only[Act.put,sA9,sB9,sC9];refine ic rfl (λL w' hN hC hk K hK=>?_) ?_
   ·obtain⟨h1,rfl⟩:L 11=true/\x=vP (w.heap.size+1):=nN hk 11 (by decide);obtain⟨m,rfl⟩:=hC;have h2:=hN.1;simp only[h1,h2,ar,if_false,if_true]at *;go_big_op;exact hK _ _ _ rfl ⟨λ_ h=>absurd rfl h,(λh=>by cases h),λ_=>⟨m,by simp only[Em];rw[Mf (w.alloc (eR Z8 141)) _ (by simp)]⟩⟩ rfl
   refine Jt (λL w' hL hC hA=>?_);obtain⟨_,rfl⟩:L 11=true/\x=vP (w.heap.size+1):=Ju hA 11;obtain⟨m,rfl⟩:=hC;simp only[hL 12 (by decide),if_true,Act.put];clear hA hL;go_wp2_with fail;go_meet;exact⟨w.heap.size+1,rfl,by omega,hZ3.drewN m,hM3.drewN m⟩
  case rest =>
  obtain⟨g,rfl,hgl,hBg,hMg⟩:=hcut;have hOg:ak wc bs[k] _ 158:=(HB.o.alloc _).ae hMg id;have hZg:=hZ.ae hMg id;have hne:bs[k]≠g:=by intro e;unfold ak at hOg hBg;rw[e,hBg]at hOg;cases hOg
  have af1:=hsl;have HMw:=ai (aq.trans hMg);have y2:=hOg.c2;have HOg:=ai hOg;have HZg:=ai hZg;have HBg:=ai hBg;have HMg:af _:=hMg;have g3:=hBg.cell 3;have fg3:=hBg.frozen 3;simp at g3;clear hZg hBg hMg hOg z2;go_upto_region 7 with fail;have ne1:=Ext.ne (Only g) wc;refine bR [10] (λw'=>∃e:Ext (Only g) wc,w'=e.w) (by kernel_rfl) (by kernel_rfl) (by kernel_rfl) ⟨⟨_,aU⟩,rfl⟩ ?_
  iterate 10 (refine aG rfl rfl rfl ?_;intro K hK;go_big_quiet_op;go_big_quiet_on)
  refine aN rfl rfl ?_;intro K hK;go_big_op;refine hK _ _ rfl ⟨⟨_,aU.bz 3 _⟩,rfl⟩ ?_;clear hK K;refine dR ?_;simp only[Exit.then];have Mg:af (ak (wc.setCell ⟨g,3,ez⟩ (.int .i16 (eP ((T l)[2].toNat+256*(T l)[3].toNat)))).drew g #[vP (bs[k]),vB (((T l)[1].toNat:Int)%16),vB (((T l)[1].toNat:Int)/16),.int .i16 (eP ((T l)[2].toNat+256*(T l)[3].toNat)),vJ (bI (l.drop 4)),vJ (0),eI ⟨#[]⟩,eI ⟨#[]⟩] 141):=(HBg.o.set 3 _).drew;have HOW:af (ak (wc.setCell ⟨g,3,ez⟩ (.int .i16 (eP ((T l)[2].toNat+256*(T l)[3].toNat)))).drew bs[k] #[vB ax[k].code,.slice o1 n1 c1,vI ax[k].slots,fS ax[k].jumps,fS ax[k].ends,vI ax[k].aJ,eL f6 #[] c6,eL (.func k7) #[] c7,eL (.func k8) #[] c8,eL f9 #[] c9] 158):=(HOg.o.setOther (a:=⟨g,3,ez⟩) (λe=>hne e.symm) _).drew;have HZW:af (ak (wc.setCell ⟨g,3,ez⟩ (.int .i16 (eP ((T l)[2].toNat+256*(T l)[3].toNat)))).drew w.heap.size Z8 141):=(HZg.o.setOther (a:=⟨g,3,ez⟩) (show g≠w.heap.size by omega) _).drew;have GM:af (aa ah w (wc.setCell ⟨g,3,ez⟩ (.int .i16 (eP ((T l)[2].toNat+256*(T l)[3].toNat)))).drew):=(HMw.o.set (a:=⟨g,3,ez⟩) (.inr (show w.heap.size<=g by omega)) _).drew;have Ht:af (g≠w.heap.size):=by show g≠w.heap.size;omega
  have zA:af (bs[k]≠w.heap.size):=by intro e;have:=HB.o.lt;omega
  generalize(wc.setCell ⟨g,3,ez⟩ (.int .i16 (eP ((T l)[2].toNat+256*(T l)[3].toNat)))).drew=W at *;clear HBg HOg HZg HMg HMw ne1 g3 fg3 y2;have y2:=HOW.o.c2;rcases hsl with h1|h1
  ·rw[h1]at y2;have TH:af _:=aaQ.o;rw[h1]at TH;simp only[show ¬(1<1) by decide,false_and,if_false]at TH;go_upto_region 13 with fail;have HX:af ((PI.ins bs ⟨k,at' l 1%16,at' l 1/16,eP (at' l 2+256*at' l 3),bI (l.drop 4),0,[]⟩).cells=#[vP (bs[k]),vB (((T l)[1].toNat:Int)%16),vB (((T l)[1].toNat:Int)/16),.int .i16 (eP ((T l)[2].toNat+256*(T l)[3].toNat)),vJ (bI (l.drop 4)),vJ (0),eI ⟨#[]⟩,eI ⟨#[]⟩]):=by rw[af,e1,e2,e3];simp only[dQ.cells,PI.ins,pQ.o];rfl
   have abC:af (dQ.Fit (PI.ins bs ⟨k,at' l 1%16,at' l 1/16,eP (at' l 2+256*at' l 3),bI (l.drop 4),0,[]⟩)):=Jy l bs k _ (by decide);have VU:af (∀W,aa ah w W->fL prog k8 (#[fW #[vP (bs[k]),vB (((T l)[1].toNat:Int)%16),vB (((T l)[1].toNat:Int)/16),.int .i16 (eP ((T l)[2].toNat+256*(T l)[3].toNat)),vJ (bI (l.drop 4)),vJ (0),eI ⟨#[]⟩,eI ⟨#[]⟩]]++c8) W λe w''=>e=fR (fS (ax[k].needs (PI.ins [] ⟨k,at' l 1%16,at' l 1/16,eP (at' l 2+256*at' l 3),bI (l.drop 4),0,[]⟩)))/\aa ah W w''):=λW m=>by have h:=ZO.o.nd W _ m.kp abC.o;rw[HX.o,Jw]at h;exact h
   have HFin:=ai TH.o;generalize ax[k].needs (PI.ins [] ⟨k,at' l 1%16,at' l 1/16,eP (at' l 2+256*at' l 3),bI (l.drop 4),0,[]⟩)=nb at *;have hen:=ZO.o.e8;unfold ym at hen;obtain⟨d0,d1,d2,d3,d4,d5,d6,d7⟩:=Ext.aO Mg.o (S:=Only w.heap.size) (λe=>Ht.o e);have d8:∀e:Ext (Only w.heap.size) W,e.w.cell? ⟨bs[k],8,ez⟩=eC (eL (.func k8) #[] c8):=λe=>e.cell HOW.o (λe=>zA.o e) 8;have ne2:=Ext.ne (Only w.heap.size) W;refine bR [6,7] (λw'=>∃e:Ext (Only w.heap.size) W,w'=e.w) (by kernel_rfl) (by kernel_rfl) (by kernel_rfl) ⟨⟨_,aU⟩,rfl⟩ ?_
   iterate 2 (refine aG rfl rfl rfl ?_;intro K hK;go_big_quiet_op;go_big_quiet_on)
   refine eF rfl rfl _ ⟨bs[k],0,ez⟩ rfl rfl ?_;simp only[Act.put,sA9,sB9,sC9]
   iterate 3 (refine aG rfl rfl rfl ?_;intro K hK;go_big_quiet_op;go_big_quiet_on)
   refine aN rfl rfl ?_;intro K hK;go_big_op;refine(VU.o _ (GM.o.trans aU)).mono ?_;rintro e w8 ⟨rfl,m8⟩;have ZP:=(HZW.o.drew).ae m8 id;have HZ8:=ai ZP;have M8:=ai ((GM.o.trans aU).trans m8);refine hK _ _ rfl ⟨⟨_,aU.trans (m8.mono (λ_ _ h=>h.elim))⟩,rfl⟩ ?_;have X8:af (aa (Only w.heap.size) W w8):=aU.trans (m8.mono (λ_ _ h=>h.elim));clear hK K m8;obtain⟨t0,t1,t2,t3,t4,t5,t6,t7⟩:=ZP.aO;have ft:=ZP.frozen;clear ZP;refine aN rfl rfl ?_;intro K hK;go_big_op;refine hK _ _ rfl ⟨⟨_,X8.o.dI (.inl rfl) _ _ _ _ _ _ _ _⟩,rfl⟩ ?_;clear hK K
   iterate 1 (refine aG rfl rfl rfl ?_;intro K hK;go_big_quiet_op;go_big_quiet_on)
   refine dR ?_;simp only[Exit.then];go_wp2_with fail;refine iz (aw results339 _ _ w.heap.size 141 _ (0,0) _ _ rfl rfl (HZ8.o.dI _ _ _ _ _ _ _ _) underlying141 rfl (by kernel_rfl)) rfl ⟨#[vP (bs[k]),vB (((T l)[1].toNat:Int)%16),vB (((T l)[1].toNat:Int)/16),.int .i16 (eP ((T l)[2].toNat+256*(T l)[3].toNat)),vJ (bI (l.drop 4)),vJ (0),eI ⟨#[]⟩,eI ⟨#[]⟩],?_,?_,⟨_,_,_,_,_,_,_,_,rfl⟩,M8.o.dI (.inr (an _)) _ _ _ _ _ _ _ _⟩
   ·rw[HFin.o];cases nb<;>rfl
   ·intro x hx;rw[HFin.o]at hx;cases nb with
    |false=>cases hx
    |true=>cases hx;exact HX.o.symm
  ·rw[h1]at y2;have TH:af _:=aaQ.o;rw[h1]at TH;have af2:16<=ee l:=by rw[h1]at hless;omega
   have i8:(8:Int)<=(ee l:Int):=by omega
   have x8:(T l).extract 8 (ee l)=T (l.drop 8):=by have:=nr l 8;rw[hs]at this;exact this
   have s8:(T (l.drop 8)).size=ee l-8:=by rw[bS];simp
   have x9:(T (l.drop 8)).extract 0 4=T ((l.drop 8).take 4):=zG _ _;have x12:(T (l.drop 8)).extract 4 (T (l.drop 8)).size=T (l.drop 12):=by rw[nr,List.drop_drop]
   have i9:(4:Int)<=((ee l-8:Nat):Int):=by omega
   have i10:4<=ee l-8:=by omega
   by_cases hz:(l.drop 8).take 4=[0,0,0,0]
   ·simp only[show 1<2 by decide,hz,true_and,ne_eq,not_true_eq_false,if_false,if_true]at TH;have q9:=gi (a:=T ((l.drop 8).take 4)) (l:=[0,0,0,0]) (by rw[hz]);generalize T ((l.drop 8).take 4)=t4 at *;have afb:af (∀W,fL prog 371 #[eI (T (l.drop 12))] W λe w'=>e=fR (vJ (bI (l.drop 12)))/\∃n,w'=W.drewN n):=λW=>E9 (T (l.drop 12)) W (by rw[bS];simp;omega) (by rw[bS];simp;unfold fX;omega);rw[s8]at x12;have g5:=Mg.o.cell 5;have fg5:=Mg.o.frozen 5;simp at g5;go_wp2_with fail;refine(afb.o _).mono ?_;rintro e w3 ⟨rfl,n3,rfl⟩;have afc:af (ak ((W.drewN n3).setCell ⟨g,5,ez⟩ (vJ (bI (l.drop 12)))) g #[vP (bs[k]),vB (((T l)[1].toNat:Int)%16),vB (((T l)[1].toNat:Int)/16),.int .i16 (eP ((T l)[2].toNat+256*(T l)[3].toNat)),vJ (bI (l.drop 4)),vJ (bI (l.drop 12)),eI ⟨#[]⟩,eI ⟨#[]⟩] 141):=(Mg.o.drewN n3).set 5 _;have afd:af (ak ((W.drewN n3).setCell ⟨g,5,ez⟩ (vJ (bI (l.drop 12)))) bs[k] #[vB ax[k].code,.slice o1 n1 c1,vI ax[k].slots,fS ax[k].jumps,fS ax[k].ends,vI ax[k].aJ,eL f6 #[] c6,eL (.func k7) #[] c7,eL (.func k8) #[] c8,eL f9 #[] c9] 158):=(HOW.o.drewN n3).setOther (a:=⟨g,5,ez⟩) (λe=>hne e.symm) _;have afe:af (ak ((W.drewN n3).setCell ⟨g,5,ez⟩ (vJ (bI (l.drop 12)))) w.heap.size Z8 141):=(HZW.o.drewN n3).setOther (a:=⟨g,5,ez⟩) Ht.o _;have adi:af (aa ah w ((W.drewN n3).setCell ⟨g,5,ez⟩ (vJ (bI (l.drop 12))))):=(GM.o.drewN n3).set (a:=⟨g,5,ez⟩) (.inr (show w.heap.size<=g by omega)) _;go_upto_region 13 with fail;clear g5 fg5 y2;generalize((W.drewN n3).setCell ⟨g,5,ez⟩ (vJ (bI (l.drop 12))))=W2 at *;have HX:af ((PI.ins bs ⟨k,at' l 1%16,at' l 1/16,eP (at' l 2+256*at' l 3),bI (l.drop 4),bI (l.drop 12),[]⟩).cells=#[vP (bs[k]),vB (((T l)[1].toNat:Int)%16),vB (((T l)[1].toNat:Int)/16),.int .i16 (eP ((T l)[2].toNat+256*(T l)[3].toNat)),vJ (bI (l.drop 4)),vJ (bI (l.drop 12)),eI ⟨#[]⟩,eI ⟨#[]⟩]):=by rw[af,e1,e2,e3];simp only[dQ.cells,PI.ins,pQ.o];rfl
    have abC:af (dQ.Fit (PI.ins bs ⟨k,at' l 1%16,at' l 1/16,eP (at' l 2+256*at' l 3),bI (l.drop 4),bI (l.drop 12),[]⟩)):=Jy l bs k _ (qg _);have VU:af (∀W,aa ah w W->fL prog k8 (#[fW #[vP (bs[k]),vB (((T l)[1].toNat:Int)%16),vB (((T l)[1].toNat:Int)/16),.int .i16 (eP ((T l)[2].toNat+256*(T l)[3].toNat)),vJ (bI (l.drop 4)),vJ (bI (l.drop 12)),eI ⟨#[]⟩,eI ⟨#[]⟩]]++c8) W λe w''=>e=fR (fS (ax[k].needs (PI.ins [] ⟨k,at' l 1%16,at' l 1/16,eP (at' l 2+256*at' l 3),bI (l.drop 4),bI (l.drop 12),[]⟩)))/\aa ah W w''):=λW m=>by have h:=ZO.o.nd W _ m.kp abC.o;rw[HX.o,Jw]at h;exact h
    have HFin:=ai TH.o;generalize ax[k].needs (PI.ins [] ⟨k,at' l 1%16,at' l 1/16,eP (at' l 2+256*at' l 3),bI (l.drop 4),bI (l.drop 12),[]⟩)=nb at *;have hen:=ZO.o.e8;unfold ym at hen;obtain⟨d0,d1,d2,d3,d4,d5,d6,d7⟩:=Ext.aO afc.o (S:=Only w.heap.size) (λe=>Ht.o e);have d8:∀e:Ext (Only w.heap.size) W2,e.w.cell? ⟨bs[k],8,ez⟩=eC (eL (.func k8) #[] c8):=λe=>e.cell afd.o (λe=>zA.o e) 8;have ne2:=Ext.ne (Only w.heap.size) W2;refine bR [6,7] (λw'=>∃e:Ext (Only w.heap.size) W2,w'=e.w) (by kernel_rfl) (by kernel_rfl) (by kernel_rfl) ⟨⟨_,aU⟩,rfl⟩ ?_
    iterate 2 (refine aG rfl rfl rfl ?_;intro K hK;go_big_quiet_op;go_big_quiet_on)
    refine eF rfl rfl _ ⟨bs[k],0,ez⟩ rfl rfl ?_;simp only[Act.put,sA9,sB9,sC9]
    iterate 3 (refine aG rfl rfl rfl ?_;intro K hK;go_big_quiet_op;go_big_quiet_on)
    refine aN rfl rfl ?_;intro K hK;go_big_op;refine(VU.o _ (adi.o.trans aU)).mono ?_;rintro e w8 ⟨rfl,m8⟩;have ZP:=(afe.o.drew).ae m8 id;have HZ8:=ai ZP;have M8:=ai ((adi.o.trans aU).trans m8);refine hK _ _ rfl ⟨⟨_,aU.trans (m8.mono (λ_ _ h=>h.elim))⟩,rfl⟩ ?_;have X8:af (aa (Only w.heap.size) W2 w8):=aU.trans (m8.mono (λ_ _ h=>h.elim));clear hK K m8;obtain⟨t0,t1,t2,t3,t4,t5,t6,t7⟩:=ZP.aO;have ft:=ZP.frozen;clear ZP;refine aN rfl rfl ?_;intro K hK;go_big_op;refine hK _ _ rfl ⟨⟨_,X8.o.dI (.inl rfl) _ _ _ _ _ _ _ _⟩,rfl⟩ ?_;clear hK K
    iterate 1 (refine aG rfl rfl rfl ?_;intro K hK;go_big_quiet_op;go_big_quiet_on)
    refine dR ?_;simp only[Exit.then];go_wp2_with fail;refine iz (aw results339 _ _ w.heap.size 141 _ (0,0) _ _ rfl rfl (HZ8.o.dI _ _ _ _ _ _ _ _) underlying141 rfl (by kernel_rfl)) rfl ⟨#[vP (bs[k]),vB (((T l)[1].toNat:Int)%16),vB (((T l)[1].toNat:Int)/16),.int .i16 (eP ((T l)[2].toNat+256*(T l)[3].toNat)),vJ (bI (l.drop 4)),vJ (bI (l.drop 12)),eI ⟨#[]⟩,eI ⟨#[]⟩],?_,?_,⟨_,_,_,_,_,_,_,_,rfl⟩,M8.o.dI (.inr (an _)) _ _ _ _ _ _ _ _⟩
    ·rw[HFin.o];cases nb<;>rfl
    ·intro x hx;rw[HFin.o]at hx;cases nb with
     |false=>cases hx
     |true=>cases hx;exact HX.o.symm
   ·simp only[show 1<2 by decide,hz,true_and,ne_eq,not_false_eq_true,if_true]at TH;have q9:=fP (a:=T ((l.drop 8).take 4)) (l:=[0,0,0,0]) (λe=>hz (congrArg BL e));generalize T ((l.drop 8).take 4)=t4 at *;rw[s8]at x12;obtain⟨t0,t1,t2,t3,t4',t5,t6,t7⟩:=HZW.o.aO;have ft:=HZW.o.frozen;go_wp2_with fail;exact iz (aw results339 _ _ w.heap.size 141 _ (0,0) _ _ rfl rfl (HZW.o.dI _ _ _ _ _ _ _ _) underlying141 rfl (by kernel_rfl)) rfl (nQ.no TH.o (GM.o.dI (.inr (an _)) _ _ _ _ _ _ _ _) ⟨_,_,_,_,_,_,_,_,rfl⟩)
