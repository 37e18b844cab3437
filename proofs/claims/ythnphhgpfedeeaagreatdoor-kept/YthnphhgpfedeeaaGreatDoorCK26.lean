import Derived.Test.YthnphhgpfedeeaaGreatDoorCK22
namespace Go.Proofs.YthnphhgpfedeeaaGreatDoor
open Go.RowKit Tryz
open Bool renaming false_and->cw,false_eq_true->cD,true->fR,false->fj
open List renaming getElem_mem->al,replicate->ao,getElem_set->ba,mem_or_eq_of_mem_set->bj,not_mem_nil->bt,ext_getElem->b5,length_set->b9,getElem_replicate->cq,mem_cons->cx,getElem_of_mem->cy,drop_length->cG,length->eJ
open Nat renaming le_trans->ab,le_refl->ar,two_pow_add_eq_or_of_lt->bh,zero_le->cj
open Decidable renaming decide->gh
open Ending renaming returned->fW
open Obj renaming cells->fL
open Option renaming some->eK,none->eL
open Value renaming string->eR,bool->fX,tuple->jl,agg->fY,slice->eS,func->fN
open _root_.Go renaming Calls->fS,maxLen->jz,bits->pD,bits_nat->vh,Value->fa,Ending->mz,info_parts->oY,Addr->kh,bodyPost_ret->kx
set_option linter.all false
set_option maxRecDepth 100000
set_option maxHeartbeats 2000000
def eu(w:tW)(b:Nat)(q:PR):Prop:=au w b #[eR (T q.rest),fX q.bad] 194
theorem dx(b:Nat)(q:PR)(c:Bool)(w:tW)(h:eu w b q):fS prog 96 #[vP b,fX c] w λe w'=>e=fW (jl #[])/\eu w' b (aO c q)/\aa (Only b) w w':=by
 obtain⟨l,bad⟩:=q;have c1:=au.cell h 1;have f1:=au.frozen h 1;simp at c1;cases bad with
 |true =>go_in;go_wp2_with fail;go_end0;exact⟨rfl,au.set h 1 _,ax.bA 1 _⟩
 |false =>
  cases c
  all_goals
   go_in;go_wp2_with fail;go_end0;exact⟨rfl,au.set h 1 _,ax.bA 1 _⟩
theorem qd(b:Nat)(q:PR)(n:Nat)(w:tW)(h:eu w b q)(hl:eJ q.rest<=jz)(hn:n<=jz):fS prog 97 #[vP b,vI n] w λe w'=>e=fW (eR (T (dK n q).1))/\eu w' b (dK n q).2/\aa (Only b) w w':=by
 unfold jz at hl hn;obtain⟨l,bad⟩:=q;simp only at hl;have hs:=di l;have c0:=au.cell h 0;have f0:=au.frozen h 0;have c1:=au.cell h 1;have f1:=au.frozen h 1;simp at c0 c1;by_cases hlt:eJ l<n
 ·have HE:ah (dK n ⟨l,bad⟩=(l,⟨[],fR⟩)):=by simp[ah,dK,hlt]
  have h2:=au.set h 1 (fX fR);have z0:=h2.cell 0;have g0:=h2.frozen 0;simp at z0;have e1:(T l).extract 0 (eJ l)=T l:=by rw[zX,List.take_length]
  have e2:(T l).extract (eJ l) (eJ l)=T []:=by have:=nj l (eJ l);rw[hs,cG]at this;exact this
  go_in;go_wp2_with fail;go_ret;rw[HE.o];exact⟨rfl,h2.set 0 _,(ax.bA 1 _).bA 0 _⟩
 ·have HE:ah (dK n ⟨l,bad⟩=(l.take n,⟨l.drop n,bad⟩)):=by simp[ah,dK,hlt]
  have e1:=zX l n;have e2:(T l).extract n (eJ l)=T (l.drop n):=by have:=nj l n;rw[hs]at this;exact this
  go_in;go_wp2_with fail;go_ret;rw[HE.o];exact⟨rfl,au.set h 0 _,ax.bA 0 _⟩
theorem l8(b:Nat)(q:PR)(w:tW)(h:eu w b q)(hl:eJ q.rest<=jz):fS prog 98 #[vP b] w λe w'=>e=fW (vI ((oneP q).1:Nat))/\eu w' b (oneP q).2/\aa (Only b) w w':=by
 obtain⟨l,bad⟩:=q;cases l with
 |nil =>have HE:ah (dK 1 ⟨[],bad⟩=([],⟨[],fR⟩)):=rfl;have he:=kR;go_in;go_wp2_with fail;refine(qd b ⟨[],bad⟩ 1 _ h hl (by unfold jz;decide)).mono ?_;rw[HE.o];rintro e w1 ⟨rfl,h1,m1⟩;go_wp2_with fail;go_ret;exact⟨rfl,h1,m1⟩
 |cons c l =>
  have HE:ah (dK 1 ⟨c::l,bad⟩=([c],⟨l,bad⟩)):=by simp[ah,dK]
  have he:=iR c [];have hs:(T [c]).size=1:=rfl;have hg:(T [c])[0]=c:=rfl;have hc:=c.toNat_lt;go_in;go_wp2_with fail;refine(qd b ⟨c::l,bad⟩ 1 _ h hl (by unfold jz;decide)).mono ?_;rw[HE.o];rintro e w1 ⟨rfl,h1,m1⟩;go_wp2_with fail;go_ret;exact⟨rfl,h1,m1⟩
theorem abE(a b:Nat)(ha:a<256)(hb:b<256):pD .or .i64 (a:Int) ((b:Int)*256)=((a+256*b:Nat):Int):=by
 have h:=(vh .i64 16 (by decide) (λn h0 h1=>by rw[IntKind.wrap_i64];omega) a (b*256) (by omega) (by omega)).2;have e:=bh (i:=8) (show a<2 ^ 8 from ha) b;have e3:((b*256:Nat):Int)=(b:Int)*256:=by simp
 have e4:a ||| b*256=a+256*b:=by rw[Nat.or_comm,Nat.mul_comm b 256];exact e.symm.trans (Nat.add_comm _ _)
 rw[e3,e4]at h;exact h
theorem jW(q:PR):(oneP q).1<256:=by
 unfold oneP;split
 ·decide
 ·exact UInt8.toNat_lt _
theorem gX(q:PR):eJ (oneP q).2.rest<=eJ q.rest:=by
 unfold oneP;split
 ·simp
 ·rename_i b l h;rw[h];simp
theorem take_len(n:Nat)(q:PR):eJ (dK n q).2.rest<=eJ q.rest:=by
 unfold dK;split
 ·simp
 ·simp
theorem zt(q:PR):eJ (jE q).2.rest<=eJ q.rest:=ab (gX _) (gX _)
theorem uU(q:PR):eJ (dV q).2.rest<=eJ q.rest:=ab (take_len _ _) (gX _)
theorem qe(m:Nat)(q:PR):eJ (dP m q).2.rest<=eJ q.rest:=gX _
theorem GR(b:Nat)(q:PR)(w:tW)(h:eu w b q)(hl:eJ q.rest<=jz):fS prog 170 #[vP b] w λe w'=>e=fW (vI ((jE q).1:Nat))/\eu w' b (jE q).2/\aa (Only b) w w':=by have hl2:=ab (gX q) hl;have H1:=aq (λw h=>l8 b q w h hl);have H2:=aq (λw h=>l8 b _ w h hl2);have l1:=jW q;have l2:=jW (oneP q).2;rw[show jE q=((oneP q).1+256*(oneP (oneP q).2).1,(oneP (oneP q).2).2)from rfl];generalize oneP (oneP q).2=r2 at *;generalize oneP q=r1 at *;obtain⟨a1,q1⟩:=r1;obtain⟨a2,q2⟩:=r2;simp only at *;have hor:=abE _ _ l1 l2;go_in;go_wp2_with fail;refine(H1.o _ h).mono ?_;rintro e w1 ⟨rfl,h1,m1⟩;go_wp2_with fail;refine(H2.o _ h1).mono ?_;rintro e w2 ⟨rfl,h2,m2⟩;go_wp2_with fail;go_ret;exact⟨by simp,h2,m1.trans m2⟩
theorem GS(n:Nat)(q:PR):eJ (dK n q).1<=eJ q.rest:=by
 unfold dK;split
 ·exact ar _
 ·simp;omega
theorem Ar(b:Nat)(q:PR)(w:tW)(h:eu w b q)(hl:eJ q.rest<=jz):fS prog 168 #[vP b] w λe w'=>e=fW (eR (T (dV q).1))/\eu w' b (dV q).2/\aa (Only b) w w':=by have HE:ah (dV q=((dK (oneP q).1 (oneP q).2).1,aO (nameB (dK (oneP q).1 (oneP q).2).1) (dK (oneP q).1 (oneP q).2).2)):=rfl;have l1:=jW q;have hl2:=ab (gX q) hl;have hl3:=ab (GS (oneP q).1 (oneP q).2) hl2;rw[HE.o];go_in;go_wp2_with fail;refine(l8 b q _ h hl).mono ?_;rintro e w1 ⟨rfl,h1,m1⟩;go_wp2_with fail;refine(qd b _ _ _ h1 hl2 (by unfold jz;omega)).mono ?_;rintro e w2 ⟨rfl,h2,m2⟩;go_wp2_with fail;refine(uk _ _ (by rw[di];exact hl3)).mono ?_;rintro e w3 ⟨rfl,rfl⟩;go_wp2_with fail;refine(dx b _ _ _ h2).mono ?_;rintro e w4 ⟨rfl,h4,m4⟩;go_wp2_with fail;go_ret;exact⟨rfl,h4,(m1.trans m2).trans m4⟩
theorem Au(b:Nat)(q:PR)(m:Nat)(_hm:m<=255)(w:tW)(h:eu w b q)(hl:eJ q.rest<=jz):fS prog 169 #[vP b,vI m] w λe w'=>e=fW (vB ((dP m q).1:Nat))/\eu w' b (dP m q).2/\aa (Only b) w w':=by
 have H1:=aq (λw h=>l8 b q w h hl);have l1:=jW q;rw[show dP m q=((oneP q).1,aO (gh (1<=(oneP q).1)&&gh ((oneP q).1<=m)) (oneP q).2)from rfl];generalize oneP q=r1 at *;obtain⟨n,q1⟩:=r1;simp only at *;by_cases ha:1<=n
 ·have HD:ah ((gh (1<=n)&&gh (n<=m))=gh (n<=m)):=by simp[ah,ha]
  rw[HD.o];have hd:gh ((n:Int)<=(m:Int))=gh (n<=m):=by simp
  go_in;go_wp2_with fail;refine(H1.o _ h).mono ?_;rintro e w1 ⟨rfl,h1,m1⟩;go_wp2_with fail;refine(dx b _ _ _ h1).mono ?_;rintro e w4 ⟨rfl,h4,m4⟩;go_wp2_with fail;go_ret;exact⟨rfl,h4,m1.trans m4⟩
 ·have hn:n=0:=by omega
  subst hn;go_in;go_wp2_with fail;refine(H1.o _ h).mono ?_;rintro e w1 ⟨rfl,h1,m1⟩;go_wp2_with fail;refine(dx b _ _ _ h1).mono ?_;rintro e w4 ⟨rfl,h4,m4⟩;go_wp2_with fail;go_ret;exact⟨rfl,h4,m1.trans m4⟩
theorem Av:(prog.info? 100).map (λi=>(i.zero,i.size,i.bytes))=eK (eK (fY #[eR E0,vB 0,vB 0,vB 0]),4,24):=by kernel_rfl
theorem Vj(x:aB):∀u∈x.cells,u.oneCell'=fR:=by intro u hu;simp only[aB.cells,cx,bt,or_false]at hu;rcases hu with rfl|rfl|rfl|rfl<;>rfl
structure xZ(w0:tW)(b:Nat)(q:PR)(v:fa)(ms:List aB)(w:tW):Prop where
 rd:eu w b q
 sl:Sl w 100 4 v (eJ ms) (ms.flatMap aB.cells)
 own:∀k,v.ownBlock=eK k->w0.heap.size<=k
 md:aa (Only b) w0 w
theorem xZ.read{w0 w w':tW}{b:Nat}{q q':PR}{v:fa}{ms:List aB}(h:xZ w0 b q v ms w)(hb:b<w0.heap.size)(hr:eu w' b q')(m:aa (Only b) w w'):xZ w0 b q' v ms w' :=
 ⟨hr,h.sl.ai m (λk hk e=>by have:=h.own k hk;rw[show k=b from e]at this;omega),h.own,h.md.trans m⟩
theorem xZ.alloc{w0 w:tW}{b:Nat}{q:PR}{v:fa}{ms:List aB}(h:xZ w0 b q v ms w)(o:Obj):xZ w0 b q v ms (w.alloc o) :=
 ⟨au.alloc h.rd o,h.sl.ai ((aa.refl af w).alloc o) (λ_ _=>id),h.own,h.md.alloc o⟩
theorem xZ.set{w0 w:tW}{b:Nat}{q:PR}{v:fa}{ms:List aB}(h:xZ w0 b q v ms w){g:Nat}(hg:w0.heap.size<=g)(hb:b<w0.heap.size)(hv:v.ownBlock≠eK g)(i:Nat)(x:fa):xZ w0 b q v ms (w.setCell ⟨g,i,eL⟩ x) :=
 ⟨au.setOther h.rd (by simp only;omega) x,h.sl.ai ((aa.refl (Only g) w).bA i x) (λk hk e=>hv (by rw[hk];exact congrArg eK e)),h.own,h.md.set (.inr hg) x⟩
theorem xZ.app{w0 w w':tW}{b:Nat}{q:PR}{v v':fa}{ms:List aB}{x:aB}(h:xZ w0 b q v ms w)(hb:b<w0.heap.size)(s:Sl w' 100 4 v' (eJ ms+1) (ms.flatMap aB.cells++x.cells))(m:aa (λk=>v.ownBlock=eK k) w w')(l:∀k,v'.ownBlock=eK k->v.ownBlock=eK k\/w.heap.size<=k):xZ w0 b q v' (ms++[x]) w' :=
 ⟨au.ai h.rd m (λe=>by have:=h.own b e;omega),by simpa using s,λk hk=>by
  rcases l k hk with e|e
  ·exact h.own k e
  ·have:=h.md.size;omega,h.md.step m (λi hi e=>by have:=h.own i e;omega)⟩
theorem Aw:∀(k:Nat) (q:PR) (last:tLB) (acc:List aB),eJ (mapsP k q last acc).2.rest<=eJ q.rest
 |0,_,_,_=>ar _
 |k+1,q,last,acc=>by
  rw[mapsP];refine ab (Aw k _ _ _) ?_;show(dP 8 (dP 16 (dP 8 (dV q).2).2).2).2.rest.length<=_
  exact ab (qe _ _) (ab (qe _ _) (ab (qe _ _) (uU _)))
def Di(w:tW)(b:Nat)(q:PR)(ms:List aB)(e:mz)(w':tW):Prop:=∃v,e=fW v/\xZ w b q v ms w'
theorem FC(b:Nat)(q:PR)(w:tW)(h:eu w b q)(hl:eJ q.rest<=jz):fS prog 99 #[vP b] w λe w'=>Di w b (mapsP (oneP q).1 (aO (gh ((oneP q).1<=8)) (oneP q).2) [] []).2 (mapsP (oneP q).1 (aO (gh ((oneP q).1<=8)) (oneP q).2) [] []).1 e w':=by
 obtain⟨iM,hiM,hzM,hsM,hbM⟩:=oY Av;have hb:=au.lt h;have H1:=aq (λw h=>l8 b q w h hl);have l1:=jW q;have hl1:=ab (gX q) hl;generalize oneP q=r1 at *;obtain⟨n,q1⟩:=r1;simp only at *;have hd:gh ((n:Int)<=8)=gh (n<=8):=by simp;omega
 have hl2:eJ (aO (gh (n<=8)) q1).rest<=jz:=hl1;have HQ:ah (∃q2,aO (gh (n<=8)) q1=q2):=⟨_,rfl⟩
 obtain⟨q2,hq2⟩:=HQ.o;rw[hq2]at hl2 ⊢;have Zh:=aq hq2;clear hq2 HQ;go_in;go_wp2_with fail;refine(H1.o _ h).mono ?_;rintro e w1 ⟨rfl,h1,m1⟩;go_wp2_with fail;refine(dx b _ _ _ h1).mono ?_;rintro e w2 ⟨rfl,h2,m2⟩;have hI:xZ w b (aO (gh (n<=8)) q1) (vN) [] w2:=⟨h2,Sl.nil _ _ _,λk hk=>(by cases hk),m1.trans m2⟩
 rw[Zh.o]at hI;clear h1 h2 m1 m2 hd;go_wp2_with fail;go_loopg [3,4,14] n (λg v last i wl=>∃(k:Nat) (acc:List aB) (r:PR) (nH:tLB),i=vI k/\last=eR (T nH)/\xZ w b r v acc wl/\mapsP (n-k) r nH acc=mapsP n q2 [] []/\k<=n/\g=n-k/\acc.length<=k/\r.rest.length<=jz)
 case atStart=>exact⟨0,[],q2,[],rfl,rfl,hI,rfl,cj _,rfl,ar _,hl2⟩
 case round =>
  obtain⟨k,acc,r,nH,rfl,rfl,hI2,gq,hk,rfl,hal,hrl⟩:=hrel;have HR:ah _:=gq;clear gq hI;by_cases hkn:k<n
  ·obtain⟨j,hj⟩:∃j,n-k=j+1:=⟨n-k-1,by omega⟩
   have HJ:=aq hj;have jh:mapsP j (aO (ltL nH (dV r).1) (dP 8 (dP 16 (dP 8 (dV r).2).2).2).2) (dV r).1 (acc++[⟨(dV r).1,(dP 8 (dV r).2).1,(dP 16 (dP 8 (dV r).2).2).1,(dP 8 (dP 16 (dP 8 (dV r).2).2).2).1⟩])=mapsP n q2 [] []:=by rw[<-HR.o,hj];rfl
   clear HR hj;have HN:=aq (λw h=>Ar b r w h hrl);have z1:=ab (uU r) hrl;have HK:ah (∀w,eu w b (dV r).2->fS prog 169 #[vP b,vI 8] w λe w'=>e=fW (vB ((dP 8 (dV r).2).1:Nat))/\eu w' b (dP 8 (dV r).2).2/\aa (Only b) w w'):=λw h=>Au b _ 8 (by decide) w h z1;have y1:=jW (dV r).2;have z2:=ab (qe 8 (dV r).2) z1;rw[show(oneP (dV r).2).1=(dP 8 (dV r).2).1 from rfl]at y1;generalize dV r=p0 at *;obtain⟨nm,r0⟩:=p0;simp only at *;have HV:ah (∀w,eu w b (dP 8 r0).2->fS prog 169 #[vP b,vI 16] w λe w'=>e=fW (vB ((dP 16 (dP 8 r0).2).1:Nat))/\eu w' b (dP 16 (dP 8 r0).2).2/\aa (Only b) w w'):=λw h=>Au b _ 16 (by decide) w h z2;have y2:=jW (dP 8 r0).2;have z3:=ab (qe 16 (dP 8 r0).2) z2;rw[show(oneP (dP 8 r0).2).1=(dP 16 (dP 8 r0).2).1 from rfl]at y2;generalize dP 8 r0=p1 at *;obtain⟨ky,r1⟩:=p1;simp only at *;have HW:ah (∀w,eu w b (dP 16 r1).2->fS prog 169 #[vP b,vI 8] w λe w'=>e=fW (vB ((dP 8 (dP 16 r1).2).1:Nat))/\eu w' b (dP 8 (dP 16 r1).2).2/\aa (Only b) w w'):=λw h=>Au b _ 8 (by decide) w h z3;have y3:=jW (dP 16 r1).2;have z4:=ab (qe 8 (dP 16 r1).2) z3;rw[show(oneP (dP 16 r1).2).1=(dP 8 (dP 16 r1).2).1 from rfl]at y3;generalize dP 16 r1=p2 at *;obtain⟨vl,r2⟩:=p2;simp only at *;generalize dP 8 r2=p3 at *;obtain⟨en,r3⟩:=p3;simp only at *;have tH:ah _:=jh;clear jh;have TA:ah (ltL nH nm=Op.bytesLess (T nH).toList (T nm).toList):=rfl;have hOw:=hI2.sl.lt;have HOw:ah _:=hOw;have hwr:=hI2.md.size;clear hOw;go_wp2_with fail;refine(HN.o _ hI2.rd).mono ?_;rintro e w3 ⟨rfl,h3,m3⟩;have hI3:=hI2.read hb h3 m3;have hs3:=m3.size;clear h3 m3 hI2;have TB:=hI3.alloc (fL #[eR (T nm),vB 0,vB 0,vB 0] 100);have hB4:=au.new w3 #[eR (T nm),vB 0,vB 0,vB 0] 100;have KW:ah (u3.ownBlock≠eK w3.heap.size):=λe=>by have:=HOw.o _ e;omega
   clear hI3;go_wp2_with fail;refine(HK.o _ TB.rd).mono ?_;rintro e w5 ⟨rfl,h5,m5⟩;have hI5:=TB.read hb h5 m5;have QX:=hB4.ai m5 (show ¬w3.heap.size=b by omega);clear h5 m5 TB hB4;have f5:=QX.frozen 1;have g5:=QX.c1;have hI6:=hI5.set (g:=w3.heap.size) (by omega) hb KW.o 1 (vB ky);have hB6:=QX.set 1 (vB ky);clear hI5 QX;go_wp2_with fail;refine(HV.o _ hI6.rd).mono ?_;rintro e w7 ⟨rfl,h7,m7⟩;have hI7:=hI6.read hb h7 m7;have hB7:au w7 w3.heap.size #[eR (T nm),vB ky,vB 0,vB 0] 100:=hB6.ai m7 (show ¬w3.heap.size=b by omega);clear h7 m7 hI6 hB6 f5 g5;have f7:=hB7.frozen 2;have g7:=hB7.c2;have hI8:=hI7.set (g:=w3.heap.size) (by omega) hb KW.o 2 (vB vl);have hB8:=hB7.set 2 (vB vl);clear hI7 hB7;go_wp2_with fail;refine(HW.o _ hI8.rd).mono ?_;rintro e w9 ⟨rfl,h9,m9⟩;have hI9:=hI8.read hb h9 m9;have K0:au w9 w3.heap.size #[eR (T nm),vB ky,vB vl,vB 0] 100:=hB8.ai m9 (show ¬w3.heap.size=b by omega);clear h9 m9 hI8 hB8 f7 g7;have f9:=K0.frozen 3;have g9:=K0.c3;have hIa:=hI9.set (g:=w3.heap.size) (by omega) hb KW.o 3 (vB en);have hBa:au (w9.setCell ⟨w3.heap.size,3,eL⟩ (vB en)) w3.heap.size #[eR (T nm),vB ky,vB vl,vB en] 100:=K0.set 3 (vB en);have ga:=K0.c0;clear hI9 K0;go_wp2_with fail;refine(dx b _ _ _ hIa.rd).mono ?_;rintro e wb ⟨rfl,hb',mb⟩;have hIb:=hIa.read hb hb' mb;have hBb:=hBa.ai mb (show ¬w3.heap.size=b by omega);clear hb' mb hIa hBa f9 g9 ga;obtain⟨i0,i1,i2,i3⟩:wb.cell? ⟨w3.heap.size,0,eL⟩=eK (eR (T nm))/\wb.cell? ⟨w3.heap.size,1,eL⟩=eK (vB ky)/\wb.cell? ⟨w3.heap.size,2,eL⟩=eK (vB vl)/\wb.cell? ⟨w3.heap.size,3,eL⟩=eK (vB en):=⟨hBb.cell 0,hBb.cell 1,hBb.cell 2,hBb.cell 3⟩
   have HIb:ah _:=hIb;clear hBb hIb;go_wp2_with (at_builtin;refine aQ _ rfl (.tmp 36) (.tmp 38) 87 rfl 100 iM (fY #[eR E0,vB 0,vB 0,vB 0]) 4 24 underlying87 hiM hzM hsM hbM rfl (by decide) u3 (eJ acc) (acc.flatMap aB.cells) rfl (HIb.o.alloc _).sl ⟨wb.heap.size,0,eL⟩ 1 1 (aB.cells ⟨nm,ky,vl,en⟩) rfl rfl (bH _ _ _ _ rfl) (Vj _) (by unfold jz;omega) (by omega) ?_;intro vA wA sA mA lA;obtain⟨oA,cA,rfl,_⟩:=Sl.view sA);go_roundg (n-(k+1))
   case measure=>omega
   case rel=>exact⟨k+1,acc++[⟨nm,ky,vl,en⟩],_,nm,by go_num,rfl,(HIb.o.alloc _).app hb sA mA lA,by rw[show n-(k+1)=j by have:=HJ.o;omega];exact tH.o,by omega,rfl,by simp;omega,z4⟩
  ·obtain rfl:k=n:=by omega
   have HE:ah (mapsP k q2 [] []=(acc,r)):=by rw[ah,<-HR.o,Nat.sub_self];rfl
   go_wp2_with fail;go_ret;rw[HE.o];exact⟨_,rfl,hI2⟩
theorem ZK(os:List fO)(c k:Nat)(hk:k<eJ os)(hlt:∀j (h:j<eJ os),j<k->os[j].code≠c)(he:os[k].code=c):os.findIdx? (λo=>o.code==c)=eK k:=by rw[List.findIdx?_eq_some_iff_getElem];refine⟨hk,by simp[he],λj hj=>?_⟩;have:=hlt j (by omega) hj;simp[this]
theorem ZL(os:List fO)(c:Nat)(h:∀j (h:j<eJ os),os[j].code≠c):os.findIdx? (λo=>o.code==c)=eL:=by rw[List.findIdx?_eq_none_iff];intro x hx;obtain⟨i,hi,rfl⟩:=cy hx;simp[h i hi]
def codeV(bs:tLN):Option Nat->fa
 |none=>vO
 |some k=>gH (bs[k]?.getD 0)
theorem L6(w:tW)(v:fa)(bs:tLN)(os:List fO)(c:Nat)(hO:aM 0 w v bs os)(hl:eJ os<=1000)(qA:∀o∈os,o.code<256):fS prog 322 #[v,vB c] w λe w'=>e=fW (codeV bs (os.findIdx? (λo=>o.code==c)))/\w'=w:=by
 obtain⟨o0,cap,rfl,_⟩:=hO.sl.view;have hlen:=hO.len;have HL:ah _:=hlen;clear hlen;have hbl:eJ bs<=1000:=by rw[HL.o];exact hl
 go_in;go_wp2;go_loop [9] (λi=>∃k:Nat,k<=eJ bs/\i=vI k/\∀j,(h:j<eJ os)->j<k->os[j].code≠c) (λi=>eJ bs-(intOf i).toNat)
 case atStart=>exact⟨0,cj _,rfl,λj _ h=>absurd h (Nat.not_lt_zero _)⟩
 case round =>
  obtain⟨k,hk,rfl,hn⟩:=hrel;have HN:ah _:=hn;clear hn;by_cases hlt:k<eJ bs
  ·obtain⟨g,rfl,cs⟩:=hO.sl.at rfl k hlt;have ck:=cs k hlt;have e1:(bs.map gH)[k]?=eK (vP (bs[k])):=by simp[hlt,gH]
   rw[e1]at ck;have hk':k<eJ os:=by rw[<-HL.o];exact hlt
   obtain⟨o1,n1,c1,f6,c6,k7,c7,k8,c8,f9,c9,hblk,_⟩:=(hO.at' k hlt hk').ex;have z0:=hblk.cell 0;simp at z0;have HB:ah (bs[k]?.getD 0=bs[k]):=by simp[ah,hlt]
   have hcl:=qA os[k] (al hk');clear hblk cs e1;by_cases he:os[k].code=c
   ·have HF:ah (_=_):=ZK os c k hk' (λj h hj=>HN.o j h hj) he;have q:((os[k].code:Int)==(c:Int))=fR:=by simp[he]
    go_wp2;go_ret;refine⟨?_,rfl⟩;rw[HF.o];simp only[codeV,HB.o,gH];rfl
   ·have HE:ah _:=he;have q:((os[k].code:Int)==(c:Int))=fj:=by simp;omega
    clear he;go_wp2;go_round
    case rel=>exact⟨k+1,by omega,by go_num,λj h hj=>by
     by_cases e:j=k
     ·subst e;exact HE.o
     ·exact HN.o j h (by omega)⟩
    case measure=>simp[intOf];omega
  ·have HF:ah (_=_):=ZL os c (λj h=>HN.o j h (by rw[<-HL.o]at h;omega));go_wp2;go_ret;rw[HF.o];exact⟨rfl,rfl⟩
theorem Jy(k:IntKind)(i m:Nat)(a b:Nat)(hw:∀n:Int,0<=n->n<2 ^ m->k.wrap n=n)(hm:m<=k.bits)(him:i<=m)(ha:a<2 ^ i)(hb:b*2 ^ i<2 ^ m):pD .or k (a:Int) ((b*2 ^ i:Nat):Int)=((a+b*2 ^ i:Nat):Int):=by
 have ha':=Nat.lt_of_lt_of_le ha (Nat.pow_le_pow_right (by decide) him);have h:=(vh k m hm hw a (b*2 ^ i) ha' hb).2;have e:=bh ha b;have e4:a ||| b*2 ^ i=a+b*2 ^ i:=by rw[Nat.or_comm,Nat.mul_comm b];exact e.symm.trans (Nat.add_comm _ _)
 rw[e4]at h;exact h
theorem adA(a b:Nat)(ha:a<256)(hb:b<256):pD .or .u32 (a:Int) ((b:Int)*256)=(a:Int)+(b:Int)*256:=by
 have h:=Jy .u32 8 16 a b (λn h0 h1=>by rw[IntKind.wrap_u32];omega) (by decide) (by decide) ha (by omega)
 simpa using h
theorem adB(n c:Nat)(hn:n<65536)(hc:c<256):pD .or .u32 (n:Int) ((c:Int)*65536)=(n:Int)+(c:Int)*65536:=by
 have h:=Jy .u32 16 24 n c (λn h0 h1=>by rw[IntKind.wrap_u32];omega) (by decide) (by decide) hn (by omega)
 simpa using h
theorem adC(n d:Nat)(hn:n<16777216)(hd:d<256):pD .or .u32 (n:Int) ((d:Int)*16777216)=(n:Int)+(d:Int)*16777216:=by
 have h:=Jy .u32 24 32 n d (λn h0 h1=>by rw[IntKind.wrap_u32];omega) (by decide) (by decide) hn (by omega)
 simpa using h
theorem adD(a b:Nat)(ha:a<256)(hb:b<256):pD .or .u16 (a:Int) ((b:Int)*256)=(a:Int)+(b:Int)*256:=by
 have h:=Jy .u16 8 16 a b (λn h0 h1=>by rw[IntKind.wrap_u16];omega) (by decide) (by decide) ha (by omega)
 simpa using h
theorem Bp(s:tBA)(i:Nat)(h:i<s.size):at' (BL s) i=s[i].toNat:=by
 have e:(BL s)[i]?=eK s[i]:=by rw[List.getElem?_eq_getElem (by rw[NZ];exact h),abB s i h]
 simp[at',e]
theorem L7(a b c d:Nat)(ha:a<256)(hb:b<256)(hc:c<256)(hd:d<256):wrap32 ((a:Int)+(b:Int)*256+(c:Int)*65536+(d:Int)*16777216)=Db (a+256*b+65536*c+16777216*d):=by unfold wrap32 Db;split<;>omega
theorem FD(s:tBA)(w:tW)(h:4<=s.size)(hs:s.size<=jz):fS prog 323 #[eR s] w λe w'=>e=fW (vJ (cZ (BL s)))/\∃n,w'=w.drewN n:=by
 unfold jz at hs;have e0:=Bp s 0 (by omega);have e1:=Bp s 1 (by omega);have e2:=Bp s 2 (by omega);have e3:=Bp s 3 (by omega);have HN:ah (cZ (BL s)=Db (s[0].toNat+256*s[1].toNat+65536*s[2].toNat+16777216*s[3].toNat)):=by rw[ah,cZ,e0,e1,e2,e3]
 rw[HN.o];clear HN e0 e1 e2 e3;have l0:=(s[0]).toNat_lt;have l1:=(s[1]).toNat_lt;have l2:=(s[2]).toNat_lt;have l3:=(s[3]).toNat_lt;have p0:0<s.size:=by omega
 have p1:1<s.size:=by omega
 have p2:2<s.size:=by omega
 have p3:3<s.size:=by omega
 have i1:(1:Int)<(s.size:Int):=by omega
 have i2:(2:Int)<(s.size:Int):=by omega
 have i3:(3:Int)<(s.size:Int):=by omega
 have w0:IntKind.u32.wrap (s[0].toNat:Int)=s[0].toNat:=by rw[IntKind.wrap_u32];omega
 have w1:IntKind.u32.wrap (s[1].toNat:Int)=s[1].toNat:=by rw[IntKind.wrap_u32];omega
 have w2:IntKind.u32.wrap (s[2].toNat:Int)=s[2].toNat:=by rw[IntKind.wrap_u32];omega
 have w3:IntKind.u32.wrap (s[3].toNat:Int)=s[3].toNat:=by rw[IntKind.wrap_u32];omega
 have v1:IntKind.u32.wrap ((s[1].toNat:Int)*256)=(s[1].toNat:Int)*256:=by rw[IntKind.wrap_u32];omega
 have v2:IntKind.u32.wrap ((s[2].toNat:Int)*65536)=(s[2].toNat:Int)*65536:=by rw[IntKind.wrap_u32];omega
 have v3:IntKind.u32.wrap ((s[3].toNat:Int)*16777216)=(s[3].toNat:Int)*16777216:=by rw[IntKind.wrap_u32];omega
 have o1:=adA s[0].toNat s[1].toNat l0 l1;have o2:=adB (s[0].toNat+s[1].toNat*256) s[2].toNat (by omega) l2;have o3:=adC (s[0].toNat+s[1].toNat*256+s[2].toNat*65536) s[3].toNat (by omega) l3;simp only[Int.natCast_add,Int.natCast_mul,Int.cast_ofNat_Int]at o2 o3;go_in;go_wp2_with fail;go_quiet (fail);go_wp2_with fail;go_ret;refine⟨?_,nq,rfl⟩;show Ending.returned (vJ (wrap32 _))=_
 rw[L7 _ _ _ _ l0 l1 l2 l3]
theorem Vk(x:dM)(op:fa)(p:PK):PK.right {x with op:=op} p=PK.right x p:=rfl
theorem Vl(o:fO)(x:dM)(op:fa):o.needs {x with op:=op}=o.needs x:=by unfold fO.needs;have :=funext (Vk x op);rw[this];rfl
theorem Jz(o:fO)(x:PI)(bs:tLN):o.needs (x.ins bs)=o.needs (x.ins []):=Vl o (x.ins []) _
def abh(cs:tAV):Prop:=∃(p:Option kh) (d s j n h:Int) (l m:tBA),cs=#[.pointer p,vB d,vB s,.int .i16 j,vJ n,vJ h,eR l,eR m]
def nI(w:tW)(bs:tLN)(l:tLB)(e:mz)(w':tW):Prop:=∃cs,e=fW (jl #[fY cs,fX (jJ l).isSome])/\(∀x,jJ l=eK x->cs=(x.ins bs).cells)/\abh cs/\aa af w w'
theorem Bq(l:tLB)(h:eJ l<8):jJ l=eL:=by unfold jJ;rw[iP9 h]
theorem Dj(l:tLB)(h:¬eJ l<8)(hc:lZ (at' l 0)=eL):jJ l=eL:=by unfold jJ;rw[iN9 h,hc]
theorem Dk(l:tLB)(h:¬eJ l<8)(k:Nat)(hc:lZ (at' l 0)=eK k)(hs:eJ l<(az[k]?.getD zj).slots*8):jJ l=eL:=by unfold jJ;rw[iN9 h,hc];simp only;rw[iP9 hs]
theorem L8:∀o∈az,o.code<256:=by decide +kernel
theorem Br:∀o∈az,o.slots=1\/o.slots=2:=by decide +kernel
theorem FE(c k:Nat)(h:lZ c=eK k):k<88:=by have:=List.findIdx?_eq_some_iff_getElem.1 h;have h2:=this.1;rw[fF]at h2;exact h2
theorem adE(a:Nat)(ha:a<256):pD .and .u8 (a:Int) 15=((a%16:Nat):Int):=by have h:=(vh .u8 8 (by decide) (λn h0 h1=>by rw[IntKind.wrap_u8];omega) a 15 ha (by decide)).1;have e:a &&& 15=a%16:=Nat.and_two_pow_sub_one_eq_mod a 4;rw[e]at h;exact h
theorem L9(a b:Nat)(ha:a<256)(hb:b<256):IntKind.i16.wrap ((a:Int)+(b:Int)*256)=fG (a+256*b):=by unfold fG IntKind.wrap;simp[IntKind.bits,IntKind.signed];split<;>omega
theorem EH(w:tW)(m:Nat)(a:kh)(v:fa):(w.drewN m).setCell a v=(w.setCell a v).drewN m:=rfl
theorem Ma(w:tW)(g:Nat)(hg:g=w.heap.size){t:TypeId}{z0 z1 z2 z3 z4 z5 z6 z7 a0 a1 a2 a3 a4 a5 a6 a7:fa}:(((((((((w.alloc (fL #[z0,z1,z2,z3,z4,z5,z6,z7] t)).setCell ⟨g,0,eL⟩ a0).setCell ⟨g,1,eL⟩ a1).setCell ⟨g,2,eL⟩ a2).setCell ⟨g,3,eL⟩ a3).setCell ⟨g,4,eL⟩ a4).setCell ⟨g,5,eL⟩ a5).setCell ⟨g,6,eL⟩ a6).setCell ⟨g,7,eL⟩ a7)=w.alloc (fL #[a0,a1,a2,a3,a4,a5,a6,a7] t):=by subst hg;simp[go_sem]
abbrev Z8:tAV:=#[vO,vB 0,vB 0,.int .i16 0,vJ 0,vJ 0,eR ⟨#[]⟩,eR ⟨#[]⟩]
theorem nI.no{w w':tW}{bs:tLN}{l:tLB}{cs:tAV}(h:jJ l=eL)(m:aa af w w')(h8:abh cs):nI w bs l (fW (jl #[fY cs,fX fj])) w' :=
 ⟨cs,by rw[h];rfl,λx hx=>(by rw[h]at hx;cases hx),h8,m⟩
theorem Dl(l:tLB)(h:¬eJ l<8)(k:Nat)(hc:lZ (at' l 0)=eK k)(hs:¬eJ l<(az[k]?.getD zj).slots*8):jJ l = if 1<(az[k]?.getD zj).slots/\(l.drop 8).take 4≠[0,0,0,0]then eL else if(az[k]?.getD zj).needs (PI.ins [] ⟨k,at' l 1%16,at' l 1/16,fG (at' l 2+256*at' l 3),cZ (l.drop 4),if 1<(az[k]?.getD zj).slots then cZ (l.drop 12)else 0,[]⟩)then eK ⟨k,at' l 1%16,at' l 1/16,fG (at' l 2+256*at' l 3),cZ (l.drop 4),if 1<(az[k]?.getD zj).slots then cZ (l.drop 12)else 0,[]⟩else eL:=by unfold jJ;rw[iN9 h,hc];simp only;rw[iN9 hs]
theorem JA(l:tLB)(bs:tLN)(k:Nat)(h:Int)(hh:-2147483648<=h/\h<=2147483647):dM.Fit (PI.ins bs ⟨k,at' l 1%16,at' l 1/16,fG (at' l 2+256*at' l 3),cZ (l.drop 4),h,[]⟩):=by have h1:=xD l 1;have h2:=xD l 2;have h3:=xD l 3;have hj:=Js (at' l 2+256*at' l 3) (by omega);have hn:=zk (l.drop 4);exact⟨by simp only[PI.ins];omega,by simp only[PI.ins];omega,hj.1,hj.2,hn.1,hn.2,hh.1,hh.2,by simp[PI.ins],by show(T []).size<=300;decide⟩
theorem Vm(w:tW)(v:fa)(bs:tLN)(hO:aM 0 w v bs az)(l:tLB)(hl:eJ l<=jz):fS prog 266 #[v,eR (T l)] w λe w'=>nI w bs l e w':=by
 have hs:=di l;have hl':=hl;unfold jz at hl;by_cases h8:eJ l<8
 ·have HF:=aq (Bq l h8);go_in;go_wp2_with fail;exact kx (ay results266 _ _ w.heap.size 138 _ (0,0) _ _ rfl rfl (au.new _ _ _) underlying138 rfl (by kernel_rfl)) rfl (nI.no HF.o aw ⟨_,_,_,_,_,_,_,_,rfl⟩)
 have p0:0<(T l).size:=by omega
 have p1:1<(T l).size:=by omega
 have p2:2<(T l).size:=by omega
 have p3:3<(T l).size:=by omega
 have e0:=Bp (T l) 0 p0;have e1:=Bp (T l) 1 p1;have e2:=Bp (T l) 2 p2;have e3:=Bp (T l) 3 p3;rw[show BL (T l)=l from rfl]at e0 e1 e2 e3;have hBy:ah (∀W,aM 0 W v bs az->fS prog 322 #[v,vB ((T l)[0].toNat:Nat)] W λe w'=>e=fW (codeV bs (lZ (at' l 0)))/\w'=W):=λW h=>by rw[e0];exact L6 W v bs az _ h (by rw[fF];decide) L8
 have i1:(1:Int)<(eJ l:Int):=by omega
 have i2:(2:Int)<(eJ l:Int):=by omega
 have i3:(3:Int)<(eJ l:Int):=by omega
 have HO1:ah (aM 0 (w.alloc (fL Z8 138)) v bs az):=hO.ai aw;have hZ:=au.new w Z8 138;obtain⟨o0,cap,hv,_⟩:=hO.sl.view;subst hv;cases hc:lZ (at' l 0)with
 |none =>have HF:=aq (Dj l h8 hc);rw[hc]at hBy;go_in;go_wp2_with fail;refine(hBy.o _ HO1.o).mono ?_;rintro e w1 ⟨rfl,rfl⟩;simp only[codeV];go_wp2_with fail;exact kx (ay results266 _ _ w.heap.size 138 _ (0,0) _ _ rfl rfl (au.new _ _ _) underlying138 rfl (by kernel_rfl)) rfl (nI.no HF.o aw ⟨_,_,_,_,_,_,_,_,rfl⟩)
 |some k =>
  rw[hc]at hBy;have afo:=FE _ _ hc;have hkt:k<eJ az:=by rw[fF];exact afo
  have hkb:k<eJ bs:=by rw[hO.len];exact hkt
  have HG:ah (az[k]?.getD zj=az[k]):=by simp[ah,hkt]
  have pQ:ah (bs[k]?.getD 0=bs[k]):=by simp[ah,hkb]
  have hsl:=Br az[k] (al hkt);have hAt:=hO.at' k hkb hkt;have hAt1:=hAt.ai (ax.alloc (fL Z8 138));obtain⟨o1,n1,c1,f6,c6,k7,c7,k8,c8,f9,c9,hblk,GL⟩:=hAt.ex;have hb1:=hblk.ai ((aa.refl af w).alloc (fL Z8 138)) id;have z2:=hb1.c2;have ZM:=aq GL;have HB:=aq hblk;clear hblk GL hb1 hAt hAt1;by_cases hless:eJ l<az[k].slots*8
  ·have HF:=aq (Dk l h8 k hc (by rw[HG.o];exact hless));generalize az[k].slots=sn at *;have hq:((eJ l:Int)<(sn:Int)*8):=by omega
   go_in;go_wp2_with fail;refine(hBy.o _ HO1.o).mono ?_;rintro e w1 ⟨rfl,rfl⟩;simp only[codeV,pQ.o,gH];go_wp2_with fail;exact kx (ay results266 _ _ w.heap.size 138 _ (0,0) _ _ rfl rfl (au.new _ _ _) underlying138 rfl (by kernel_rfl)) rfl (nI.no HF.o aw ⟨_,_,_,_,_,_,_,_,rfl⟩)
  have HM:=Dl l h8 k hc (by rw[HG.o];exact hless);rw[HG.o]at HM;have abj:ah _:=HM;clear HM;have l1:=((T l)[1]).toNat_lt;have l2:=((T l)[2]).toNat_lt;have l3:=((T l)[3]).toNat_lt;have hand:=adE (T l)[1].toNat l1;have w2':IntKind.u16.wrap ((T l)[2].toNat:Int)=(T l)[2].toNat:=by rw[IntKind.wrap_u16];omega
  have w3':IntKind.u16.wrap ((T l)[3].toNat:Int)=(T l)[3].toNat:=by rw[IntKind.wrap_u16];omega
  have v3':IntKind.u16.wrap ((((T l)[3]).toNat:Int)*256)=((T l)[3].toNat:Int)*256:=by rw[IntKind.wrap_u16];omega
  have o16:=adD (T l)[2].toNat (T l)[3].toNat l2 l3;have s16:=L9 (T l)[2].toNat (T l)[3].toNat l2 l3;have x4:(T l).extract 4 (eJ l)=T (l.drop 4):=by have:=nj l 4;rw[hs]at this;exact this
  have adF:ah (∀W,fS prog 323 #[eR (T (l.drop 4))] W λe w'=>e=fW (vJ (cZ (l.drop 4)))/\∃n,w'=W.drewN n):=λW=>FD (T (l.drop 4)) W (by rw[di];simp;omega) (by rw[di];simp;unfold jz;omega);have hq:¬((eJ l:Int)<(az[k].slots:Int)*8):=by omega
  have i4:(4:Int)<=(eJ l:Int):=by omega
  go_in;go_wp2_with fail;refine(hBy.o _ HO1.o).mono ?_;rintro e w1 ⟨rfl,rfl⟩;simp only[codeV,pQ.o,gH];go_upto_region 6 with fail;go_cut [7] (λp wx=>∃g,p=vP g/\w.heap.size<g/\au wx g #[vP (bs[k]),vB (((T l)[1].toNat:Int)%16),vB (((T l)[1].toNat:Int)/16),.int .i16 0,vJ (cZ (l.drop 4)),vJ 0,eR ⟨#[]⟩,eR ⟨#[]⟩] 138/\aa af (w.alloc (fL Z8 138)) wx)
  case first =>
   have agq:ah (∀args w,(callFunc 323 args).run prog w=.ok (.enter 323 args) w):=enters_of func323 (by kernel_rfl) rfl
   have hZ3:au ((w.alloc (fL Z8 138)).alloc (fL #[vP (bs[k]),vB (((T l)[1].toNat:Int)%16),vB (((T l)[1].toNat:Int)/16),.int .i16 0,vJ (cZ (l.drop 4)),vJ 0,eR ⟨#[]⟩,eR ⟨#[]⟩] 138)) (w.heap.size+1) #[vP (bs[k]),vB (((T l)[1].toNat:Int)%16),vB (((T l)[1].toNat:Int)/16),.int .i16 0,vJ (cZ (l.drop 4)),vJ 0,eR ⟨#[]⟩,eR ⟨#[]⟩] 138:=by
    have:=au.new (w.alloc (fL Z8 138)) #[vP (bs[k]),vB (((T l)[1].toNat:Int)%16),vB (((T l)[1].toNat:Int)/16),.int .i16 0,vJ (cZ (l.drop 4)),vJ 0,eR ⟨#[]⟩,eR ⟨#[]⟩] 138
    simpa using this
   have hM3:aa af (w.alloc (fL Z8 138)) ((w.alloc (fL Z8 138)).alloc (fL #[vP (bs[k]),vB (((T l)[1].toNat:Int)%16),vB (((T l)[1].toNat:Int)/16),.int .i16 0,vJ (cZ (l.drop 4)),vJ 0,eR ⟨#[]⟩,eR ⟨#[]⟩] 138)):=aw
   refine jV [.inl (vP (bs[k])),.inl (eR (T l)),.inl (vB (T l)[1].toNat),.inl (vB (((T l)[1].toNat:Int)%16)),.inl (eR (T l)),.inl (vB (T l)[1].toNat),.inl (vB (((T l)[1].toNat:Int)/16)),.inl (eR (T l)),.inl (eR (T (l.drop 4))),.inl (vJ (cZ (l.drop 4))),.inl (fY #[vP (bs[k]),vB (((T l)[1].toNat:Int)%16),vB (((T l)[1].toNat:Int)/16),.int .i16 0,vJ (cZ (l.drop 4)),vJ 0,eR ⟨#[]⟩,eR ⟨#[]⟩]),.inr (λL u _=>L 11=fR/\u=vP (w.heap.size+1)),.inl undef]
    (λL w'=>∃m,w'=(if L 12 then(w.alloc (fL Z8 138)).alloc (fL #[vP (bs[k]),vB (((T l)[1].toNat:Int)%16),vB (((T l)[1].toNat:Int)/16),.int .i16 0,vJ (cZ (l.drop 4)),vJ 0,eR ⟨#[]⟩,eR ⟨#[]⟩] 138)else if L 11 then(w.alloc (fL Z8 138)).alloc (fL Z8 138)else w.alloc (fL Z8 138)).drewN m)
    (λi w1 w2=>(i≠11->i≠12->∃m,w2=w1.drewN m)/\(i=11->∃m,w2=((w.alloc (fL Z8 138)).alloc (fL Z8 138)).drewN m)/\(i=12->∃m,w2=((w.alloc (fL Z8 138)).alloc (fL #[vP (bs[k]),vB (((T l)[1].toNat:Int)%16),vB (((T l)[1].toNat:Int)/16),.int .i16 0,vJ (cZ (l.drop 4)),vJ 0,eR ⟨#[]⟩,eR ⟨#[]⟩] 138)).drewN m))
    (by kernel_rfl) (by kernel_rfl) (by kernel_rfl) ⟨1,rfl⟩ ?_ ?_ (.inl (by kernel_rfl)) ?_
   ·intro jj s hs i L v w1 w2 hn hj n hr;refine kE (N:=λ_ _ _=>True) (show rO _ _ _ 0 _ from ?_) jj s hs i L v w1 w2 hn (by rw[Nat.zero_add];exact hj) trivial hr;exact⟨λi L u w1 w2 hn hk n h=>⟨by simp[iJ,h.1],h.2⟩,trivial⟩
   ·rintro i L w1 w2 hn ⟨m,rfl⟩ ⟨n1,n2,n3⟩;by_cases e1:i=11
    ·subst e1;obtain⟨m',rfl⟩:=n2 rfl;have:=hn.2 12 _ rfl (by decide);exact⟨m',by simp[iJ,this]⟩
    by_cases e2:i=12
    ·subst e2;obtain⟨m',rfl⟩:=n3 rfl;exact⟨m',by simp[iJ]⟩
    obtain⟨m',rfl⟩:=n1 e1 e2;exact⟨m+m',by simp only[iJ,iN9 (Ne.symm e1),iN9 (Ne.symm e2)];exact World.drewN_drewN ..⟩
   iterate 9 (refine dE rfl (λL w' hN hC _ K hK=>?_) ?_;(· go_big_op;exact hK _ _ _ rfl ⟨λ_ _=>⟨0,rfl⟩,(λh=>by cases h),(λh=>by cases h)⟩ rfl);simp only[Act.put,sA9,sB9,sC9])
   refine dE rfl (λL w' hN hC _ K hK=>?_) ?_
   ·go_big_op;refine(adF.o _).mono ?_;rintro e w3 ⟨rfl,n3,rfl⟩;exact hK _ _ _ rfl ⟨λ_ _=>⟨n3,rfl⟩,(λh=>by cases h),(λh=>by cases h)⟩ rfl
   simp only[Act.put,sA9,sB9,sC9];refine dE rfl (λL w' hN hC _ K hK=>?_) ?_
   ·go_big_op;exact hK _ _ _ rfl ⟨λ_ _=>⟨0,rfl⟩,(λh=>by cases h),(λh=>by cases h)⟩ rfl
   simp only[Act.put,sA9,sB9,sC9];refine nE rfl (λL w' hN hC _ K hK=>?_) (λx=>?_)
   ·obtain⟨m,rfl⟩:=hC;have h1:=hN.1;have h2:=hN.2 12 _ rfl (by decide);simp only[h1,h2,cD,if_false]at *;go_big_op;exact hK _ _ _ rfl ⟨λh=>absurd rfl h,(λ_=>⟨m,rfl⟩),(λh=>by cases h)⟩ ⟨by simp[iJ],rfl⟩
   simp only[Act.put,sA9,sB9,sC9];refine dE rfl (λL w' hN hC hk K hK=>?_) ?_
   ·obtain⟨h1,rfl⟩:L 11=fR/\x=vP (w.heap.size+1):=nG hk 11 (by decide);obtain⟨m,rfl⟩:=hC;have h2:=hN.1;simp only[h1,h2,cD,if_false,if_true]at *;go_big_op;exact hK _ _ _ rfl ⟨λ_ h=>absurd rfl h,(λh=>by cases h),λ_=>⟨m,by simp only[EH];rw[Ma (w.alloc (fL Z8 138)) _ (by simp)]⟩⟩ rfl
   refine zn (λL w' hL hC hA=>?_);obtain⟨_,rfl⟩:L 11=fR/\x=vP (w.heap.size+1):=zo hA 11;obtain⟨m,rfl⟩:=hC;simp only[hL 12 (by decide),if_true,Act.put];clear hA hL;go_wp2_with fail;go_meet;exact⟨w.heap.size+1,rfl,by omega,hZ3.drewN m,hM3.drewN m⟩
  case rest =>
  obtain⟨g,rfl,hgl,hBg,hMg⟩:=hcut;have hOg:au wc bs[k] _ 146:=(HB.o.alloc _).ai hMg id;have hZg:=hZ.ai hMg id;have hne:bs[k]≠g:=by intro e;unfold au at hOg hBg;rw[e,hBg]at hOg;cases hOg
  have agr:=hsl;have HMw:=aq (aw.trans hMg);have y2:=hOg.c2;have HOg:=aq hOg;have HZg:=aq hZg;have HBg:=aq hBg;have HMg:ah _:=hMg;have g3:=hBg.cell 3;have fg3:=hBg.frozen 3;simp at g3;clear hZg hBg hMg hOg z2;go_upto_region 7 with fail;have ne1:=Ext.ne (Only g) wc;refine bQ [10] (λw'=>∃e:Ext (Only g) wc,w'=e.w) (by kernel_rfl) (by kernel_rfl) (by kernel_rfl) ⟨⟨_,aN⟩,rfl⟩ ?_
  iterate 10 (refine aG rfl rfl rfl ?_;intro K hK;go_big_quiet_op;go_big_quiet_on)
  refine aH rfl rfl ?_;intro K hK;go_big_op;refine hK _ _ rfl ⟨⟨_,aN.bA 3 _⟩,rfl⟩ ?_;clear hK K;refine bZ ?_;simp only[Exit.then];have FH:ah (au (wc.setCell ⟨g,3,eL⟩ (.int .i16 (fG ((T l)[2].toNat+256*(T l)[3].toNat)))).drew g #[vP (bs[k]),vB (((T l)[1].toNat:Int)%16),vB (((T l)[1].toNat:Int)/16),.int .i16 (fG ((T l)[2].toNat+256*(T l)[3].toNat)),vJ (cZ (l.drop 4)),vJ (0),eR ⟨#[]⟩,eR ⟨#[]⟩] 138):=(HBg.o.set 3 _).drew;have HOW:ah (au (wc.setCell ⟨g,3,eL⟩ (.int .i16 (fG ((T l)[2].toNat+256*(T l)[3].toNat)))).drew bs[k] #[vB az[k].code,eS o1 n1 c1,vI az[k].slots,fX az[k].jumps,fX az[k].ends,vI az[k].bD,fN f6 #[] c6,fN (.func k7) #[] c7,fN (.func k8) #[] c8,fN f9 #[] c9] 146):=(HOg.o.setOther (a:=⟨g,3,eL⟩) (λe=>hne e.symm) _).drew;have HZW:ah (au (wc.setCell ⟨g,3,eL⟩ (.int .i16 (fG ((T l)[2].toNat+256*(T l)[3].toNat)))).drew w.heap.size Z8 138):=(HZg.o.setOther (a:=⟨g,3,eL⟩) (show g≠w.heap.size by omega) _).drew;have JB:ah (aa af w (wc.setCell ⟨g,3,eL⟩ (.int .i16 (fG ((T l)[2].toNat+256*(T l)[3].toNat)))).drew):=(HMw.o.set (a:=⟨g,3,eL⟩) (.inr (show w.heap.size<=g by omega)) _).drew;have EB:ah (g≠w.heap.size):=by show g≠w.heap.size;omega
  have xC:ah (bs[k]≠w.heap.size):=by intro e;have:=HB.o.lt;omega
  generalize(wc.setCell ⟨g,3,eL⟩ (.int .i16 (fG ((T l)[2].toNat+256*(T l)[3].toNat)))).drew=W at *;clear HBg HOg HZg HMg HMw ne1 g3 fg3 y2;have y2:=HOW.o.c2;rcases hsl with h1|h1
  ·rw[h1]at y2;have TC:ah _:=abj.o;rw[h1]at TC;simp only[show ¬(1<1) by decide,false_and,if_false]at TC;go_upto_region 13 with fail;have HX:ah ((PI.ins bs ⟨k,at' l 1%16,at' l 1/16,fG (at' l 2+256*at' l 3),cZ (l.drop 4),0,[]⟩).cells=#[vP (bs[k]),vB (((T l)[1].toNat:Int)%16),vB (((T l)[1].toNat:Int)/16),.int .i16 (fG ((T l)[2].toNat+256*(T l)[3].toNat)),vJ (cZ (l.drop 4)),vJ (0),eR ⟨#[]⟩,eR ⟨#[]⟩]):=by rw[ah,e1,e2,e3];simp only[dM.cells,PI.ins,pQ.o];rfl
   have abF:ah (dM.Fit (PI.ins bs ⟨k,at' l 1%16,at' l 1/16,fG (at' l 2+256*at' l 3),cZ (l.drop 4),0,[]⟩)):=JA l bs k _ (by decide);have Vn:ah (∀W,aa af w W->fS prog k8 (#[fY #[vP (bs[k]),vB (((T l)[1].toNat:Int)%16),vB (((T l)[1].toNat:Int)/16),.int .i16 (fG ((T l)[2].toNat+256*(T l)[3].toNat)),vJ (cZ (l.drop 4)),vJ (0),eR ⟨#[]⟩,eR ⟨#[]⟩]]++c8) W λe w''=>e=fW (fX (az[k].needs (PI.ins [] ⟨k,at' l 1%16,at' l 1/16,fG (at' l 2+256*at' l 3),cZ (l.drop 4),0,[]⟩)))/\aa af W w''):=λW m=>by have h:=ZM.o.nd W _ m.kp abF.o;rw[HX.o,Jz]at h;exact h
   have HFin:=aq TC.o;generalize az[k].needs (PI.ins [] ⟨k,at' l 1%16,at' l 1/16,fG (at' l 2+256*at' l 3),cZ (l.drop 4),0,[]⟩)=nb at *;have hen:=ZM.o.e8;unfold ou at hen;obtain⟨d0,d1,d2,d3,d4,d5,d6,d7⟩:=Ext.jB FH.o (S:=Only w.heap.size) (λe=>EB.o e);have d8:∀e:Ext (Only w.heap.size) W,e.w.cell? ⟨bs[k],8,eL⟩=eK (fN (.func k8) #[] c8):=λe=>e.cell HOW.o (λe=>xC.o e) 8;have ne2:=Ext.ne (Only w.heap.size) W;refine bQ [6,7] (λw'=>∃e:Ext (Only w.heap.size) W,w'=e.w) (by kernel_rfl) (by kernel_rfl) (by kernel_rfl) ⟨⟨_,aN⟩,rfl⟩ ?_
   iterate 2 (refine aG rfl rfl rfl ?_;intro K hK;go_big_quiet_op;go_big_quiet_on)
   refine dL rfl rfl _ ⟨bs[k],0,eL⟩ rfl rfl ?_;simp only[Act.put,sA9,sB9,sC9]
   iterate 3 (refine aG rfl rfl rfl ?_;intro K hK;go_big_quiet_op;go_big_quiet_on)
   refine aH rfl rfl ?_;intro K hK;go_big_op;refine(Vn.o _ (JB.o.trans aN)).mono ?_;rintro e w8 ⟨rfl,m8⟩;have ZN:=(HZW.o.drew).ai m8 id;have HZ8:=aq ZN;have M8:=aq ((JB.o.trans aN).trans m8);refine hK _ _ rfl ⟨⟨_,aN.trans (m8.mono (λ_ _ h=>h.elim))⟩,rfl⟩ ?_;have X8:ah (aa (Only w.heap.size) W w8):=aN.trans (m8.mono (λ_ _ h=>h.elim));clear hK K m8;obtain⟨t0,t1,t2,t3,t4,t5,t6,t7⟩:=ZN.jB;have ft:=ZN.frozen;clear ZN;refine aH rfl rfl ?_;intro K hK;go_big_op;refine hK _ _ rfl ⟨⟨_,X8.o.uf (.inl rfl) _ _ _ _ _ _ _ _⟩,rfl⟩ ?_;clear hK K
   iterate 1 (refine aG rfl rfl rfl ?_;intro K hK;go_big_quiet_op;go_big_quiet_on)
   refine bZ ?_;simp only[Exit.then];go_wp2_with fail;refine kx (ay results266 _ _ w.heap.size 138 _ (0,0) _ _ rfl rfl (HZ8.o.uf _ _ _ _ _ _ _ _) underlying138 rfl (by kernel_rfl)) rfl ⟨#[vP (bs[k]),vB (((T l)[1].toNat:Int)%16),vB (((T l)[1].toNat:Int)/16),.int .i16 (fG ((T l)[2].toNat+256*(T l)[3].toNat)),vJ (cZ (l.drop 4)),vJ (0),eR ⟨#[]⟩,eR ⟨#[]⟩],?_,?_,⟨_,_,_,_,_,_,_,_,rfl⟩,M8.o.uf (.inr (ar _)) _ _ _ _ _ _ _ _⟩
   ·rw[HFin.o];cases nb<;>rfl
   ·intro x hx;rw[HFin.o]at hx;cases nb with
    |false=>cases hx
    |true=>cases hx;exact HX.o.symm
  ·rw[h1]at y2;have TC:ah _:=abj.o;rw[h1]at TC;have ags:16<=eJ l:=by rw[h1]at hless;omega
   have i8:(8:Int)<=(eJ l:Int):=by omega
   have x8:(T l).extract 8 (eJ l)=T (l.drop 8):=by have:=nj l 8;rw[hs]at this;exact this
   have s8:(T (l.drop 8)).size=eJ l-8:=by rw[di];simp
   have x9:(T (l.drop 8)).extract 0 4=T ((l.drop 8).take 4):=zX _ _;have x12:(T (l.drop 8)).extract 4 (T (l.drop 8)).size=T (l.drop 12):=by rw[nj,List.drop_drop]
   have i9:(4:Int)<=((eJ l-8:Nat):Int):=by omega
   have i10:4<=eJ l-8:=by omega
   by_cases hz:(l.drop 8).take 4=[0,0,0,0]
   ·simp only[show 1<2 by decide,hz,true_and,ne_eq,not_true_eq_false,if_false,if_true]at TC;have q9:=xO (a:=T ((l.drop 8).take 4)) (l:=[0,0,0,0]) (by rw[hz]);generalize T ((l.drop 8).take 4)=t4 at *;have afp:ah (∀W,fS prog 323 #[eR (T (l.drop 12))] W λe w'=>e=fW (vJ (cZ (l.drop 12)))/\∃n,w'=W.drewN n):=λW=>FD (T (l.drop 12)) W (by rw[di];simp;omega) (by rw[di];simp;unfold jz;omega);rw[s8]at x12;have g5:=FH.o.cell 5;have fg5:=FH.o.frozen 5;simp at g5;go_wp2_with fail;refine(afp.o _).mono ?_;rintro e w3 ⟨rfl,n3,rfl⟩;have afq:ah (au ((W.drewN n3).setCell ⟨g,5,eL⟩ (vJ (cZ (l.drop 12)))) g #[vP (bs[k]),vB (((T l)[1].toNat:Int)%16),vB (((T l)[1].toNat:Int)/16),.int .i16 (fG ((T l)[2].toNat+256*(T l)[3].toNat)),vJ (cZ (l.drop 4)),vJ (cZ (l.drop 12)),eR ⟨#[]⟩,eR ⟨#[]⟩] 138):=(FH.o.drewN n3).set 5 _;have afr:ah (au ((W.drewN n3).setCell ⟨g,5,eL⟩ (vJ (cZ (l.drop 12)))) bs[k] #[vB az[k].code,eS o1 n1 c1,vI az[k].slots,fX az[k].jumps,fX az[k].ends,vI az[k].bD,fN f6 #[] c6,fN (.func k7) #[] c7,fN (.func k8) #[] c8,fN f9 #[] c9] 146):=(HOW.o.drewN n3).setOther (a:=⟨g,5,eL⟩) (λe=>hne e.symm) _;have afs:ah (au ((W.drewN n3).setCell ⟨g,5,eL⟩ (vJ (cZ (l.drop 12)))) w.heap.size Z8 138):=(HZW.o.drewN n3).setOther (a:=⟨g,5,eL⟩) EB.o _;have adG:ah (aa af w ((W.drewN n3).setCell ⟨g,5,eL⟩ (vJ (cZ (l.drop 12))))):=(JB.o.drewN n3).set (a:=⟨g,5,eL⟩) (.inr (show w.heap.size<=g by omega)) _;go_upto_region 13 with fail;clear g5 fg5 y2;generalize((W.drewN n3).setCell ⟨g,5,eL⟩ (vJ (cZ (l.drop 12))))=W2 at *;have HX:ah ((PI.ins bs ⟨k,at' l 1%16,at' l 1/16,fG (at' l 2+256*at' l 3),cZ (l.drop 4),cZ (l.drop 12),[]⟩).cells=#[vP (bs[k]),vB (((T l)[1].toNat:Int)%16),vB (((T l)[1].toNat:Int)/16),.int .i16 (fG ((T l)[2].toNat+256*(T l)[3].toNat)),vJ (cZ (l.drop 4)),vJ (cZ (l.drop 12)),eR ⟨#[]⟩,eR ⟨#[]⟩]):=by rw[ah,e1,e2,e3];simp only[dM.cells,PI.ins,pQ.o];rfl
    have abF:ah (dM.Fit (PI.ins bs ⟨k,at' l 1%16,at' l 1/16,fG (at' l 2+256*at' l 3),cZ (l.drop 4),cZ (l.drop 12),[]⟩)):=JA l bs k _ (zk _);have Vn:ah (∀W,aa af w W->fS prog k8 (#[fY #[vP (bs[k]),vB (((T l)[1].toNat:Int)%16),vB (((T l)[1].toNat:Int)/16),.int .i16 (fG ((T l)[2].toNat+256*(T l)[3].toNat)),vJ (cZ (l.drop 4)),vJ (cZ (l.drop 12)),eR ⟨#[]⟩,eR ⟨#[]⟩]]++c8) W λe w''=>e=fW (fX (az[k].needs (PI.ins [] ⟨k,at' l 1%16,at' l 1/16,fG (at' l 2+256*at' l 3),cZ (l.drop 4),cZ (l.drop 12),[]⟩)))/\aa af W w''):=λW m=>by have h:=ZM.o.nd W _ m.kp abF.o;rw[HX.o,Jz]at h;exact h
    have HFin:=aq TC.o;generalize az[k].needs (PI.ins [] ⟨k,at' l 1%16,at' l 1/16,fG (at' l 2+256*at' l 3),cZ (l.drop 4),cZ (l.drop 12),[]⟩)=nb at *;have hen:=ZM.o.e8;unfold ou at hen;obtain⟨d0,d1,d2,d3,d4,d5,d6,d7⟩:=Ext.jB afq.o (S:=Only w.heap.size) (λe=>EB.o e);have d8:∀e:Ext (Only w.heap.size) W2,e.w.cell? ⟨bs[k],8,eL⟩=eK (fN (.func k8) #[] c8):=λe=>e.cell afr.o (λe=>xC.o e) 8;have ne2:=Ext.ne (Only w.heap.size) W2;refine bQ [6,7] (λw'=>∃e:Ext (Only w.heap.size) W2,w'=e.w) (by kernel_rfl) (by kernel_rfl) (by kernel_rfl) ⟨⟨_,aN⟩,rfl⟩ ?_
    iterate 2 (refine aG rfl rfl rfl ?_;intro K hK;go_big_quiet_op;go_big_quiet_on)
    refine dL rfl rfl _ ⟨bs[k],0,eL⟩ rfl rfl ?_;simp only[Act.put,sA9,sB9,sC9]
    iterate 3 (refine aG rfl rfl rfl ?_;intro K hK;go_big_quiet_op;go_big_quiet_on)
    refine aH rfl rfl ?_;intro K hK;go_big_op;refine(Vn.o _ (adG.o.trans aN)).mono ?_;rintro e w8 ⟨rfl,m8⟩;have ZN:=(afs.o.drew).ai m8 id;have HZ8:=aq ZN;have M8:=aq ((adG.o.trans aN).trans m8);refine hK _ _ rfl ⟨⟨_,aN.trans (m8.mono (λ_ _ h=>h.elim))⟩,rfl⟩ ?_;have X8:ah (aa (Only w.heap.size) W2 w8):=aN.trans (m8.mono (λ_ _ h=>h.elim));clear hK K m8;obtain⟨t0,t1,t2,t3,t4,t5,t6,t7⟩:=ZN.jB;have ft:=ZN.frozen;clear ZN;refine aH rfl rfl ?_;intro K hK;go_big_op;refine hK _ _ rfl ⟨⟨_,X8.o.uf (.inl rfl) _ _ _ _ _ _ _ _⟩,rfl⟩ ?_;clear hK K
    iterate 1 (refine aG rfl rfl rfl ?_;intro K hK;go_big_quiet_op;go_big_quiet_on)
    refine bZ ?_;simp only[Exit.then];go_wp2_with fail;refine kx (ay results266 _ _ w.heap.size 138 _ (0,0) _ _ rfl rfl (HZ8.o.uf _ _ _ _ _ _ _ _) underlying138 rfl (by kernel_rfl)) rfl ⟨#[vP (bs[k]),vB (((T l)[1].toNat:Int)%16),vB (((T l)[1].toNat:Int)/16),.int .i16 (fG ((T l)[2].toNat+256*(T l)[3].toNat)),vJ (cZ (l.drop 4)),vJ (cZ (l.drop 12)),eR ⟨#[]⟩,eR ⟨#[]⟩],?_,?_,⟨_,_,_,_,_,_,_,_,rfl⟩,M8.o.uf (.inr (ar _)) _ _ _ _ _ _ _ _⟩
    ·rw[HFin.o];cases nb<;>rfl
    ·intro x hx;rw[HFin.o]at hx;cases nb with
     |false=>cases hx
     |true=>cases hx;exact HX.o.symm
   ·simp only[show 1<2 by decide,hz,true_and,ne_eq,not_false_eq_true,if_true]at TC;have q9:=tZ (a:=T ((l.drop 8).take 4)) (l:=[0,0,0,0]) (λe=>hz (congrArg BL e));generalize T ((l.drop 8).take 4)=t4 at *;rw[s8]at x12;obtain⟨t0,t1,t2,t3,t4',t5,t6,t7⟩:=HZW.o.jB;have ft:=HZW.o.frozen;go_wp2_with fail;exact kx (ay results266 _ _ w.heap.size 138 _ (0,0) _ _ rfl rfl (HZW.o.uf _ _ _ _ _ _ _ _) underlying138 rfl (by kernel_rfl)) rfl (nI.no TC.o (JB.o.uf (.inr (ar _)) _ _ _ _ _ _ _ _) ⟨_,_,_,_,_,_,_,_,rfl⟩)
theorem dO.cells{w:tW}{b:Nat}{o:fO}(h:dO w b o):w.cell? ⟨b,2,eL⟩=eK (vI o.slots)/\w.cell? ⟨b,3,eL⟩=eK (fX o.jumps)/\w.cell? ⟨b,4,eL⟩=eK (fX o.ends)/\w.cell? ⟨b,5,eL⟩=eK (vI o.bD):=by obtain⟨o1,n1,c1,f6,c6,k7,c7,k8,c8,f9,c9,hb,_⟩:=h.ex;exact⟨hb.cell 2,hb.cell 3,hb.cell 4,hb.cell 5⟩
theorem Bt(w:tW)(b n:Nat)(hz:∀w',aa af w w'->w'.cell? ⟨b,2,eL⟩=eK (vI n))(d s num high jump:Int)(label name:tBA)(slot:Nat)(hs:slot<=1000000)(ho:n<=10)(hj:-32768<=jump/\jump<=32767):fS prog 216 #[fY #[vP b,vB d,vB s,.int .i16 jump,vJ num,vJ high,eR label,eR name],vI slot] w λe w'=>e=fW (vI ((slot:Int)+n+jump))/\aa af w w':=by have z2:=hz _ (ax.alloc (fL #[vP b,vB d,vB s,.int .i16 jump,vJ num,vJ high,eR label,eR name] 138));clear hz;go_in;go_wp2_with fail;go_quiet (fail);go_wp2_with fail;go_ret;exact⟨rfl,aw.drewN _⟩
theorem Mc(w:tW)(b:Nat)(o:fO)(hA:dO w b o)(d s num high jump:Int)(label name:tBA)(slot:Nat)(hs:slot<=1000000)(ho:o.slots<=10)(hj:-32768<=jump/\jump<=32767):fS prog 216 #[fY #[vP b,vB d,vB s,.int .i16 jump,vJ num,vJ high,eR label,eR name],vI slot] w λe w'=>e=fW (vI ((slot:Int)+o.slots+jump))/\aa af w w' :=
 Bt w b o.slots (λ_ m=>(hA.ai m).cells.1) d s num high jump label name slot hs ho hj
def fH(bs:tLN)(l:List PI):tLV:=l.flatMap (λx=>(x.ins bs).eQ)
theorem kF{w:tW}{v:fa}{bs:tLN}(hO:aM 0 w v bs az)(x:PI)(hk:x.k<88):dO w (bs[x.k]?.getD 0) x.o:=by
 have hkt:x.k<eJ az:=by rw[fF];exact hk
 have hkb:x.k<eJ bs:=by rw[hO.len];exact hkt
 have h:=hO.at' x.k hkb hkt;have e1:bs[x.k]?.getD 0=bs[x.k]:=by simp[hkb]
 have e2:x.o=az[x.k]:=by simp[PI.o,hkt]
 rw[e1,e2];exact h
theorem l9{w:tW}{bs:tLN}{l:List PI}{v:fa}{n:Nat}(h:Sl w 138 8 v n (fH bs l))(hn:n=eJ l){o:Option kh}{c:Nat}(hv:v=eS o n c)(k:Nat)(hk:k<eJ l):∃g,o=eK ⟨g,0,eL⟩/\g<w.heap.size/\w.cell? ⟨g,k*8,eL⟩=eK (vP (bs[l[k].k]?.getD 0))/\w.cell? ⟨g,k*8+1,eL⟩=eK (vB l[k].d)/\w.cell? ⟨g,k*8+2,eL⟩=eK (vB l[k].s) /\ w.cell? ⟨g,k*8+3,eL⟩=eK (.int .i16 l[k].jump)/\w.cell? ⟨g,k*8+4,eL⟩=eK (vJ l[k].num)/\w.cell? ⟨g,k*8+5,eL⟩=eK (vJ l[k].high)/\w.cell? ⟨g,k*8+6,eL⟩=eK (eR ByteArray.empty)/\w.cell? ⟨g,k*8+7,eL⟩=eK (eR (T l[k].name)):=by
 obtain⟨o',c',hv',h2⟩:=h.view;rw[hv]at hv';cases hv';obtain⟨g,cs,rfl,hb,ht,_⟩:=h2 (by omega);refine⟨g,rfl,hb.lt,?_,?_,?_,?_,?_,?_,?_,?_⟩
 all_goals rw[aV hb ht _ (by omega)]
 ·exact(flat_get (λx:PI=>(x.ins bs).eQ) 8 (λ_=>rfl) l k 0 hk (by omega)).trans rfl
 ·exact(flat_get (λx:PI=>(x.ins bs).eQ) 8 (λ_=>rfl) l k 1 hk (by omega)).trans rfl
 ·exact(flat_get (λx:PI=>(x.ins bs).eQ) 8 (λ_=>rfl) l k 2 hk (by omega)).trans rfl
 ·exact(flat_get (λx:PI=>(x.ins bs).eQ) 8 (λ_=>rfl) l k 3 hk (by omega)).trans rfl
 ·exact(flat_get (λx:PI=>(x.ins bs).eQ) 8 (λ_=>rfl) l k 4 hk (by omega)).trans rfl
 ·exact(flat_get (λx:PI=>(x.ins bs).eQ) 8 (λ_=>rfl) l k 5 hk (by omega)).trans rfl
 ·exact(flat_get (λx:PI=>(x.ins bs).eQ) 8 (λ_=>rfl) l k 6 hk (by omega)).trans rfl
 ·exact(flat_get (λx:PI=>(x.ins bs).eQ) 8 (λ_=>rfl) l k 7 hk (by omega)).trans rfl
structure gm(x:PI):Prop where
 k:x.k<88
 d:x.d<=15
 s:x.s<=15
 j:-32768<=x.jump/\x.jump<=32767
 n:-2147483648<=x.num/\x.num<=2147483647
 h:-2147483648<=x.high/\x.high<=2147483647
theorem gm.slots{x:PI}(h:gm x):x.o.slots=1\/x.o.slots=2:=by
 have hkt:x.k<eJ az:=by rw[fF];exact h.k
 have e2:x.o=az[x.k]:=by simp[PI.o,hkt]
 rw[e2];exact Br _ (al hkt)
def fQ(l:List PI)(k:Nat):Nat:=((l.take k).map (·.o.slots)).sum
theorem wy(l:List PI)(k:Nat)(h:k<eJ l):fQ l (k+1)=fQ l k+l[k].o.slots:=by unfold fQ;rw[List.take_succ_eq_append_getElem h,List.map_append,List.sum_append];simp
theorem Ci(l:List PI)(hl:∀x∈l,gm x):∀k,fQ l k<=2*eJ l:=by
 have h:∀l:List PI,(∀x∈l,gm x)->(l.map (·.o.slots)).sum<=2*eJ l:=by
  intro l;induction l with
  |nil=>intro _;simp
  |cons x l ih =>intro hl;have h1:=(hl x (by simp)).slots;have h2:=ih (λy hy=>hl y (List.mem_cons_of_mem _ hy));simp only[List.map_cons,List.sum_cons,List.length_cons];omega
 intro k;have h1:=h (l.take k) (λx hx=>hl x (List.mem_of_mem_take hx));have h2:eJ (l.take k)<=eJ l:=by simp;omega
 unfold fQ;omega
def Dm(l:List Bool):tLV:=l.map Value.bool
theorem Vo(w:tW)(tv:fa)(bs:tLN)(hO:aM 0 w tv bs az)(code:List PI)(hok:∀x∈code,gm x)(hl:eJ code<=10000)(vC:fa)(hC:Sl w 138 8 vC (eJ code) (fH bs code))(st:List Bool)(hst:eJ st<=10000)(vS:fa)(hS:Sl w 4 1 vS (eJ st) (Dm st)):fS prog 267 #[vC,vS] w λe w'=>e=fW (fX (leadP st 0 code))/\aa af w w':=by
 obtain⟨oC,cC,rfl,_⟩:=hC.view;obtain⟨oS,cS,rfl,_⟩:=hS.view;have HO:=aq hO;have HC:=aq hC;have HS:=aq hS;have Eu:=aq hok;have JC:ah (∀k,fQ code k<=20000):=λk=>by have:=Ci code Eu.o k;omega
 clear hO hC hS hok;go_in;go_wp2_with fail;go_loopw [5,11] (λsv i wl=>∃k:Nat,k<=eJ code/\i=vI k/\sv=vI (fQ code k)/\leadP st (fQ code k) (code.drop k)=leadP st 0 code/\aa af w wl) (λ_ i _=>eJ code-(intOf i).toNat)
 case atStart=>exact⟨0,cj _,rfl,rfl,rfl,ax⟩
 case round =>
  obtain⟨k,hk,rfl,rfl,hn,hM⟩:=hrel;have HN:ah _:=hn;have HM:=aq hM;clear hn hM;by_cases hlt:k<eJ code
  ·have HD:ah (leadP st (fQ code k) (code.drop k)=((if code[k].o.jumps then gh (0<=code[k].target (fQ code k))&&(st[(code[k].target (fQ code k)).toNat]?.getD fj)else fR)&&leadP st (fQ code k+code[k].o.slots) (code.drop (k+1)))):=by rw[ah,List.drop_eq_getElem_cons hlt];rfl
   have PE:=aq (wy code k hlt);obtain⟨g,rfl,hg,q0,q1,q2,q3,q4,q5,q6,q7⟩:=l9 (HC.o.ai HM.o (λ_ _=>id)) rfl rfl k hlt;have hx:=Eu.o code[k] (al hlt);have hA:=kF (HO.o.ai HM.o) code[k] hx.k;have hsum:=JC.o k;have hsl:=hx.slots;have hj:=hx.j;have ht:code[k].target (fQ code k)=(fQ code k:Int)+code[k].o.slots+code[k].jump:=rfl;rw[ht]at HD;clear hx ht;generalize code[k].o=o at *;generalize code[k].jump=jmp at *;generalize code[k].d=xd at *;generalize code[k].s=xs at *;generalize code[k].num=xn at *;generalize code[k].high=xh at *;generalize code[k].name=xm at *;generalize bs[code[k].k]?.getD 0=b at *;have hA1:=hA.ai (ax.alloc (fL #[vP b,vB xd,vB xs,.int .i16 jmp,vJ xn,vJ xh,eR ByteArray.empty,eR (T xm)] 138));obtain⟨y2,y3,_,_⟩:=hA1.cells;have HA1:=aq hA1;have bU:=aq (HM.o.alloc (fL #[vP b,vB xd,vB xs,.int .i16 jmp,vJ xn,vJ xh,eR ByteArray.empty,eR (T xm)] 138));clear hA hA1;generalize fQ code k=sk at *;have HTg:ah (fS prog 216 #[fY #[vP b,vB xd,vB xs,.int .i16 jmp,vJ xn,vJ xh,eR ByteArray.empty,eR (T xm)],vI sk] (wr.alloc (fL #[vP b,vB xd,vB xs,.int .i16 jmp,vJ xn,vJ xh,eR ByteArray.empty,eR (T xm)] 138)) λe w'=>e=fW (vI ((sk:Int)+o.slots+jmp))/\aa af (wr.alloc (fL #[vP b,vB xd,vB xs,.int .i16 jmp,vJ xn,vJ xh,eR ByteArray.empty,eR (T xm)] 138)) w'):=Mc _ b o HA1.o xd xs xn xh jmp _ _ sk (by omega) (by omega) hj;have hBk:=au.new wr #[vP b,vB xd,vB xs,.int .i16 jmp,vJ xn,vJ xh,eR ByteArray.empty,eR (T xm)] 138;have pQ:=aq hBk;clear hBk;generalize hjs:o.jumps=oj at *;cases oj with
   |false =>
    have HNx:ah (leadP st (sk+o.slots) (code.drop (k+1))=leadP st 0 code):=by
     have:=HD.o;rw[HN.o]at this;rw[ah]
     simpa using this.symm
    generalize o.slots=os at *;go_wp2_with fail;go_roundw
    case rel=>exact⟨k+1,by omega,by go_num,by rw[PE.o];go_num,by rw[PE.o];exact HNx.o,bU.o⟩
    case measure=>simp[intOf];omega
   |true =>
    have HD2:ah (leadP st 0 code=((gh (0<=(sk:Int)+o.slots+jmp)&&(st[((sk:Int)+o.slots+jmp).toNat]?.getD fj))&&leadP st (sk+o.slots) (code.drop (k+1)))):=by
     have:=HD.o;rw[HN.o]at this;rw[ah]
     simpa using this
    clear HD;go_wp2_with fail;refine HTg.o.mono ?_;rintro e w3 ⟨rfl,m3⟩;have dF:=aq (bU.o.trans m3);have hB3:=pQ.o.ai m3 id;have hA3:=HA1.o.ai m3;obtain⟨v2,_,_,_⟩:=hA3.cells;have v0:=hB3.c0;clear hB3 hA3 m3 HTg HA1;generalize o.slots=os at *;by_cases hneg:(sk:Int)+os+jmp<0
    ·have HF:ah (leadP st 0 code=fj):=by rw[ah,HD2.o,decide_eq_false (by omega),cw,cw]
     generalize(sk:Int)+os+jmp=tt at *;go_wp2_with fail;go_ret;exact⟨by rw[HF.o];rfl,dF.o⟩
    ·obtain⟨t,ht⟩:∃t:Nat,(sk:Int)+os+jmp=t:=⟨((sk:Int)+os+jmp).toNat,by omega⟩
     rw[ht]at HD2 hneg ⊢;simp only[show gh ((0:Int)<=(t:Int))=fR by simp,Bool.true_and,Int.toNat_natCast]at HD2;by_cases hlt2:t<eJ st
     ·obtain⟨gS,rfl,csS⟩:=(HS.o.ai dF.o (λ_ _=>id)).at rfl t hlt2;have cS':=csS t hlt2;have e1:(Dm st)[t]?=eK (fX st[t]):=by simp[Dm,hlt2]
      rw[e1]at cS';have e2:st[t]?.getD fj=st[t]:=by simp[hlt2]
      rw[e2]at HD2;clear csS e1 e2;generalize st[t]=sb at *;cases sb with
      |false =>
       have HF:ah (leadP st 0 code=fj):=by rw[ah,HD2.o,cw]
       go_wp2_with fail;go_ret;exact⟨by rw[HF.o];rfl,dF.o⟩
      |true =>
       have HNx:ah (leadP st (sk+os) (code.drop (k+1))=leadP st 0 code):=by rw[ah,HD2.o,Bool.true_and]
       go_wp2_with fail;go_roundw
       case rel=>exact⟨k+1,by omega,by go_num,by rw[PE.o];go_num,by rw[PE.o];exact HNx.o,dF.o⟩
       case measure=>simp[intOf];omega
     ·have HF:ah (leadP st 0 code=fj):=by rw[ah,HD2.o,List.getElem?_eq_none (by omega)];rfl
      have hge:¬((t:Int)<(eJ st:Int)):=by omega
      go_wp2_with fail;go_ret;exact⟨by rw[HF.o];rfl,dF.o⟩
  ·obtain rfl:k=eJ code:=by omega
   have HF:ah (leadP st 0 code=fR):=by rw[ah,<-HN.o,cG];rfl
   go_wp2_with fail;go_ret;exact⟨by rw[HF.o];rfl,HM.o⟩
theorem yg:(prog.info? 138).map (λi=>(i.zero,i.size,i.bytes))=eK (eK (fY Z8),8,56):=by kernel_rfl
theorem QY(x:dM)(hop:x.op.oneCell'=fR):∀u∈x.eQ,u.oneCell'=fR:=by
 intro u hu;simp only[dM.eQ,cx,bt,or_false]at hu;rcases hu with rfl|rfl|rfl|rfl|rfl|rfl|rfl|rfl
 ·exact hop
 all_goals rfl
structure yh(w0:tW)(b:Nat)(q:PR)(tv:fa)(bs:tLN)(v:fa)(acc:List PI)(gS n:Nat)(st:List Bool)(w:tW):Prop where
 rd:eu w b q
 sl:Sl w 138 8 v (eJ acc) (fH bs acc)
 sb:au w gS (nr st) 4
 ln:eJ st=n
 own:∀k,v.ownBlock=eK k->w0.heap.size<=k/\k≠gS
 gS:w0.heap.size<=gS
 md:aa af w0 w
theorem yh.quiet{w0 w w':tW}{b:Nat}{q:PR}{tv:fa}{bs:tLN}{v:fa}{acc:List PI}{gS n:Nat}{st:List Bool}(h:yh w0 b q tv bs v acc gS n st w)(m:aa af w w'):yh w0 b q tv bs v acc gS n st w' :=
 ⟨au.ai h.rd m id,h.sl.ai m (λ_ _=>id),h.sb.ai m id,h.ln,h.own,h.gS,h.md.trans m⟩
theorem yh.app{w0 w w':tW}{b:Nat}{q:PR}{tv:fa}{bs:tLN}{v v':fa}{acc:List PI}{gS n:Nat}{st:List Bool}{x:PI}(h:yh w0 b q tv bs v acc gS n st w)(hb:b<w0.heap.size)(s:Sl w' 138 8 v' (eJ acc+1) (fH bs acc++(x.ins bs).eQ))(m:aa (λk=>v.ownBlock=eK k) w w')(l:∀k,v'.ownBlock=eK k->v.ownBlock=eK k\/w.heap.size<=k):yh w0 b q tv bs v' (acc++[x]) gS n st w':=by
 refine⟨au.ai h.rd m (λe=>by have:=(h.own b e).1;omega),by simpa [fH]using s,h.sb.ai m (λe=>(h.own gS e).2 rfl),h.ln,λk hk=>?_,h.gS,h.md.step m (λi hi e=>by have:=(h.own i e).1;omega)⟩;rcases l k hk with e|e
 ·exact h.own k e
 ·have h1:=h.md.size;have h2:=h.sb.lt;exact⟨by omega,by omega⟩
theorem yh.mark{w0 w:tW}{b:Nat}{q:PR}{tv:fa}{bs:tLN}{v:fa}{acc:List PI}{gS n:Nat}{st:List Bool}(h:yh w0 b q tv bs v acc gS n st w)(hb:b<w0.heap.size)(i:Nat):yh w0 b q tv bs v acc gS n (st.set i fR) (w.setCell ⟨gS,i,eL⟩ (fX fR)) :=
 ⟨au.setOther h.rd (by have:=h.gS;simp only;omega) _,h.sl.ai ((aa.refl (Only gS) w).bA i _) (λk hk e=>(h.own k hk).2 e),by rw[<-PN];exact h.sb.set i _,by simp[h.ln],h.own,h.gS,h.md.set (.inr h.gS) _⟩
theorem Ay(l:tLB)(x:PI)(h:jJ l=eK x):∃k hi,lZ (at' l 0)=eK k/\x=⟨k,at' l 1%16,at' l 1/16,fG (at' l 2+256*at' l 3),cZ (l.drop 4),hi,[]⟩/\(-2147483648<=hi/\hi<=2147483647)/\¬eJ l<(az[k]?.getD zj).slots*8:=by
 by_cases h8:eJ l<8
 ·rw[Bq l h8]at h;cases h
 ·cases hc:lZ (at' l 0)with
  |none=>rw[Dj l h8 hc]at h;cases h
  |some k =>
   by_cases hs:eJ l<(az[k]?.getD zj).slots*8
   ·rw[Dk l h8 k hc hs]at h;cases h
   ·rw[Dl l h8 k hc hs]at h;split at h
    ·cases h
    ·rename_i hz
     generalize hhi:(if 1<(az[k]?.getD zj).slots then cZ (l.drop 12)else 0)=hi at h
     have hb:-2147483648<=hi/\hi<=2147483647:=by
      rw[<-hhi];split
      ·exact zk _
      ·omega
     split at h
     ·cases h;exact⟨k,hi,rfl,rfl,hb,hs⟩
     ·cases h
theorem N7(l:tLB)(x:PI)(h:jJ l=eK x):gm x:=by obtain⟨k,hi,hk,rfl,hb,hs⟩:=Ay l x h;have h1:=xD l 1;have h2:=xD l 2;have h3:=xD l 3;exact⟨FE _ _ hk,by simp only;omega,by simp only;omega,Js _ (by omega),zk _,hb⟩
theorem ZO(l:tLB)(x:PI)(h:jJ l=eK x):x.name=[]:=by obtain⟨k,hi,hk,rfl,hb,hs⟩:=Ay l x h;rfl
theorem JD(l:tLB)(x:PI)(h:jJ l=eK x):x.o.slots*8<=eJ l:=by obtain⟨k,hi,hk,rfl,hb,hs⟩:=Ay l x h;exact Nat.le_of_not_lt hs
def Dn(w:tW)(b:Nat)(bs:tLN)(q:PR)(code:List PI)(e:mz)(w':tW):Prop :=
 ∃v,e=fW v/\eu w' b q/\Sl w' 138 8 v (eJ code) (fH bs code)/\(∀k,v.ownBlock=eK k->w.heap.size<=k)/\aa (Only b) w w'/\(∀x∈code,gm x)
theorem ZP(l:List Bool):nr l=(Dm l).toArray:=rfl
theorem Vp{w:tW}{g n:Nat}{st:List Bool}(h:au w g (nr st) 4)(hn:eJ st=n)(hm:n<=10000):Sl w 4 1 (eS (eK ⟨g,0,eL⟩) n n) (eJ st) (Dm st):=by subst hn;exact Yn.sl ⟨ar _,by unfold jz;omega,by simp[nr],by rw[Nat.mul_one,ZP];exact List.take_of_length_le (by simp[Dm]),by simp[Dm]⟩ h
theorem code_any(w:tW)(b:Nat)(q:PR)(h:eu w b q)(wT:tW)(tv:fa)(bs:tLN)(hT:aM 0 wT tv bs az)(mT:aa af wT w)(hbT:wT.heap.size<=b)(sl:tLB)(hsl:eJ sl<=2000):fS prog 171 #[vP b,tv,eR (T sl)] w λe w'=>Dn w b bs (codeP sl q).2 (codeP sl q).1 e w':=by
 obtain⟨iI,hiI,hzI,hsI,hbI⟩:=oY yg;obtain⟨iB,hiB,hzB,hsB,hbB⟩:=oY Fl;have hb:=au.lt h;have hs:=di sl;obtain⟨n,hn⟩:∃n,n=eJ sl/8:=⟨_,rfl⟩
 have hcp:codeP sl q=match codeL sl n (n+1) 0 [] (ao n fj)with
   |none=>([],⟨q.rest,fR⟩)
   |some (l,st)=>(l,aO (leadP st 0 l) (aO (Bn l) q)):=by rw[hn];rfl
 have HCP:ah _:=hcp;clear hcp;have hq8:((eJ sl:Int)/8)=(n:Int):=by omega
 have hn8:n*8<=eJ sl:=by omega
 have HT:=aq hT;have Ew:=aq mT;have HO:=aq (hT.ai mT);obtain⟨oT,cT,hv,_⟩:=hT.sl.view;subst hv;clear hT mT hn
 have hK0:yh w b q (eS oT (eJ bs) cT) bs (vN) [] w.heap.size n (ao n fj) (w.alloc (fL (nr (ao n fj)) 4)) :=
  ⟨au.alloc h _,Sl.nil _ _ _,au.new _ _ _,by simp,λk hk=>(by cases hk),ar _,aw⟩
 have hmk:=run_make_row' (P:=prog) 313 4 (fX fj) 1 underlying313 Fl rfl .i64 .i64 n (by omega) (by omega);simp only[PM]at hmk;go_in;go_upto_block 0 with fail;clear hmk;have Tx:ah _:=hK0;clear hK0;go_cut [7] (λv wx=>∃acc st,yh w b q (eS oT (eJ bs) cT) bs v acc w.heap.size n st wx/\codeL sl n (n+1) 0 [] (ao n fj)=eK (acc,st)/\acc.length<=n/\(∀x∈acc,gm x))
 case first =>
  go_wp2_with fail;go_loopg [7,9] (n+1) (λg v at_ wx=>∃(f p:Nat) (acc:List PI) (st:List Bool),at_=vI p/\yh w b q (eS oT (eJ bs) cT) bs v acc w.heap.size n st wx/\codeL sl n f p acc st=codeL sl n (n+1) 0 [] (ao n fj)/\n<p+f/\p<=n/\g=f/\acc.length<=p/\(∀x∈acc,gm x))
  case atStart=>exact⟨n+1,0,[],_,rfl,Tx.o,rfl,by omega,cj _,rfl,ar _,λx hx=>(by cases hx)⟩
  case round =>
   obtain⟨f,p,acc,st,rfl,hK,hR,hf,hp,hgf,hal,hok⟩:=hrel;clear Tx;have HK:=aq hK;have HR:ah _:=hR;have Eu:=aq hok;clear hK hR hok;obtain⟨f,rfl⟩:∃f',f=f'+1:=⟨f-1,by omega⟩
   have HGf:ah _:=hgf;clear hgf;by_cases hlt:p<n
   ·have x8:(T sl).extract (p*8) (eJ sl)=T (sl.drop (p*8)):=by have:=nj sl (p*8);rw[hs]at this;exact this
    have i8:((p:Int)*8)<=(eJ sl:Int):=by omega
    have TC:=Vm wr (eS oT (eJ bs) cT) bs (HO.o.ai HK.o.md) (sl.drop (p*8)) (by unfold jz;simp;omega);have hR2:=HR.o;rw[codeL,iP9 hlt]at hR2;have jh:ah _:=hR2;clear hR2 HR;have hlen:eJ (sl.drop (p*8))=eJ sl-p*8:=by simp
    have hfl:=JD (sl.drop (p*8));have hfo:=N7 (sl.drop (p*8));have hfn:=ZO (sl.drop (p*8));rw[hlen]at hfl;have adH:=aq TC;have HFl:=aq hfl;have HFo:=aq hfo;have HFn:=aq hfn;clear TC hlen hfl hfo hfn;generalize sl.drop (p*8)=lp at *;go_wp2_with fail;refine adH.o.mono ?_;rintro e w3 ⟨cs,rfl,hcs,h8,m3⟩;have HK3:=aq (HK.o.quiet m3);have HO3:=aq ((HO.o.ai HK.o.md).ai m3);clear m3 adH;cases hfr:jJ lp with
    |none =>rw[hfr]at jh;have HNo:=aq jh.o.symm;obtain⟨e0,e1,e2,e3,e4,e5,e6,e7,rfl⟩:=h8;clear hcs jh hfr;have hRd:eu (w3.alloc (fL #[.pointer e0,vB e1,vB e2,.int .i16 e3,vJ e4,vJ e5,eR e6,eR e7] 138)) b q:=au.alloc HK3.o.rd _;have c1:=au.cell hRd 1;have fr1:=au.frozen hRd 1;simp at c1;have YP:ah _:=hRd;clear hRd;go_wp2_with fail;go_ret;rw[HCP.o,HNo.o];exact⟨_,rfl,au.set YP.o 1 _,Sl.nil _ _ _,λk hk=>(by cases hk),((HK3.o.md.alloc _).of_nil).bA 1 _,λx hx=>(by cases hx)⟩
    |some x =>
     rw[hfr]at jh;have hcx:=hcs x hfr;have hxo:=HFo.o x hfr;have hxl:=HFl.o x hfr;have hxs:=hxo.slots;clear hcs h8 HFo HFl HFn hfr;have hA:=kF HO3.o x hxo.k;have HXo:=aq hxo;have tH:ah (codeL sl n f (p+x.o.slots) (acc++[x]) (st.set p fR)=codeL sl n (n+1) 0 [] (ao n fj)):=jh.o;clear jh hxo HO3;have HXc:ah ((x.ins bs).eQ=[vP (bs[x.k]?.getD 0),vB x.d,vB x.s,.int .i16 x.jump,vJ x.num,vJ x.high,eR ByteArray.empty,eR (T x.name)]):=rfl;have aft:cs=#[vP (bs[x.k]?.getD 0),vB x.d,vB x.s,.int .i16 x.jump,vJ x.num,vJ x.high,eR ByteArray.empty,eR (T x.name)]:=hcx;clear hcx;subst aft;have adI:ah (∀u∈(x.ins bs).eQ,u.oneCell'=fR):=QY _ rfl;rw[HXc.o]at adI;generalize hos:x.o.slots=os at *;have HA:=aq hA;have HOs:=aq hos;clear hA hos;generalize hbx:bs[x.k]?.getD 0=bx at *;have HBx:=aq hbx;clear hbx;generalize x.d=xd at *;generalize x.s=xs at *;generalize x.jump=xj at *;generalize x.num=xn at *;generalize x.high=xh at *;generalize x.name=xm at *;have HIn:ah (yh w b q (eS oT (eJ bs) cT) bs u7 acc w.heap.size n st (w3.alloc (fL #[vP bx,vB xd,vB xs,.int .i16 xj,vJ xn,vJ xh,eR ByteArray.empty,eR (T xm)] 138))):=HK3.o.quiet aw;have HBn:=aq (au.new w3 #[vP bx,vB xd,vB xs,.int .i16 xj,vJ xn,vJ xh,eR ByteArray.empty,eR (T xm)] 138);have HAn:ah (dO (w3.alloc (fL #[vP bx,vB xd,vB xs,.int .i16 xj,vJ xn,vJ xh,eR ByteArray.empty,eR (T xm)] 138)) bx x.o):=HA.o.ai aw;have HOw:=aq HK3.o.sl.lt;have hg3:=HK3.o.sb.lt;clear HK3 HA;have lS:p<(nr st).size:=by have:=HIn.o.ln;simp[nr];omega
     have HLS:ah _:=lS;clear lS;go_wp2_with (at_builtin;go_loud (refine aQ _ rfl (.tmp 34) (.tmp 36) 73 rfl 138 iI (fY Z8) 8 56 underlying73 hiI hzI hsI hbI rfl (by decide) u7 (eJ acc) (fH bs acc) rfl (HIn.o.quiet aw).sl ⟨w3.heap.size+1,0,eL⟩ 1 1 [vP bx,vB xd,vB xs,.int .i16 xj,vJ xn,vJ xh,eR ByteArray.empty,eR (T xm)] rfl rfl (bH _ _ _ _ (by simp)) adI.o (by unfold jz;omega) (by omega) ?_;intro vA wA sA mA lA;have HKA:=aq ((HIn.o.quiet aw).app hb (by rw[HXc.o];exact sA) mA lA);have Yj:=aq ((HBn.o.alloc _).ai mA (λe=>by have:=HOw.o _ e;omega));obtain⟨oA,cA,rfl,_⟩:=Sl.view sA;clear sA mA lA;obtain⟨y0,y1⟩:wA.cell? ⟨w.heap.size,p,eL⟩=eK (fX (st[p]?.getD fj))/\wA.frozen? ⟨w.heap.size,p,eL⟩=fj:=⟨by rw[HKA.o.sb.cell p];simp[nr,HKA.o.ln,hlt],HKA.o.sb.frozen p⟩;have HKM:=HKA.o.mark hb p;have z0:(wA.setCell ⟨w.heap.size,p,eL⟩ (fX fR)).cell? ⟨w3.heap.size,0,eL⟩=eK (vP bx):=(au.setOther Yj.o (show w.heap.size≠w3.heap.size by omega) _).cell 0;have bP:=aq HKM;clear HKM;have hAM:=kF (HO.o.ai bP.o.md) x HXo.o.k;rw[HBx.o]at hAM;obtain⟨z2,_,_,_⟩:=hAM.cells;rw[HOs.o]at z2;clear hAM));go_roundg f
     case measure=>have:=HGf.o;omega
     case rel=>exact⟨f,p+os,acc++[x],st.set p fR,by go_num,bP.o,tH.o,by omega,by omega,rfl,by simp;omega,λy hy=>(by rcases List.mem_append.1 hy with h'|h';exact Eu.o y h';rw[List.mem_singleton.1 h'];exact HXo.o)⟩
   ·have jh:ah (codeL sl n (n+1) 0 [] (ao n fj)=eK (acc,st)):=by rw[ah,<-HR.o,codeL,iN9 hlt]
    have agt:¬((p:Int)<(n:Int)):=by omega
    go_wp2_with fail;go_meet;exact⟨acc,st,HK.o,jh.o,by omega,Eu.o⟩
 case rest =>
 obtain⟨acc,st,hK,hR,hal,hok⟩:=hcut;rw[hR]at HCP;simp only at HCP;clear hR Tx;obtain⟨oC,cC,rfl,_⟩:=hK.sl.view;have HK:=aq hK;have Eu:=aq hok;clear hK hok
 have HFin:ah (∀w4,eu w4 b (aO (Bn acc) q)->aa (Only b) wc w4->fS prog 267 #[eS oC (eJ acc) cC,eS (eK ⟨w.heap.size,0,eL⟩) n n] w4 (λe w'=>e=fW (fX (leadP st 0 acc))/\aa af w4 w')/\∀w5,aa af w4 w5->∀w6,eu w6 b (aO (leadP st 0 acc) (aO (Bn acc) q))->aa (Only b) w5 w6->Dn w b bs (aO (leadP st 0 acc) (aO (Bn acc) q)) acc (fW (eS oC (eJ acc) cC)) w6):=by
  intro w4 h4 m4;have hne:∀k,(Value.slice oC (eJ acc) cC).ownBlock=eK k->¬Only b k:=λk hk e=>by have:=(HK.o.own k hk).1;have:k=b:=e;omega
  have hS4:=HK.o.sl.ai m4 hne;have Ur:=HK.o.md.of_nil.trans m4;have hB4:=HK.o.sb.ai m4 (show ¬w.heap.size=b by omega);have hbw:=au.lt h4;have hob:=HT.o.ai (Ew.o.step Ur (λi hi e=>by have:i=b:=e;omega));refine⟨?_,λw5 m5 w6 h6 m6=>?_⟩
  ·have:=Vo w4 _ bs hob acc Eu.o (by omega) _ hS4 st (by have:=HK.o.ln;omega) (eS (eK ⟨w.heap.size,0,eL⟩) n n) (by have:=HK.o.ln;exact Vp hB4 this (by omega));exact this
  ·exact⟨_,rfl,h6,(hS4.ai m5 (λ_ _=>id)).ai m6 hne,λk hk=>(HK.o.own k hk).1,(Ur.trans m5.of_nil).trans m6,Eu.o⟩
 cases Vq:eJ acc with
 |zero =>rw[Vq]at HFin;obtain rfl:acc=[]:=List.length_eq_zero_iff.1 Vq;have HL:ah (Bn []=fj):=rfl;rw[HL.o]at HFin HCP;generalize leadP st 0 []=ld at *;go_wp2_with fail;refine(dx b _ _ _ HK.o.rd).mono ?_;rintro e w4 ⟨rfl,h4,m4⟩;obtain⟨f1,f2⟩:=HFin.o w4 h4 m4;have F2:ah _:=f2;clear f2 HFin;go_wp2_with fail;refine f1.mono ?_;rintro e w5 ⟨rfl,m5⟩;have h5:=au.ai h4 m5 id;have F3:ah _:=F2.o w5 m5;clear F2 m5 m4 h4;go_wp2_with fail;refine(dx b _ _ _ h5).mono ?_;rintro e w6 ⟨rfl,h6,m6⟩;have F4:ah _:=F3.o w6 h6 m6;clear F3 h6 m6 h5;go_wp2_with fail;go_ret;rw[HCP.o];exact F4.o
 |succ j =>
  have hj:j<eJ acc:=by omega
  have HL:ah (Bn acc=acc[j].o.ends):=by
   have:acc.getLast?=eK acc[j]:=by rw[List.getLast?_eq_getElem?,show eJ acc-1=j by omega];simp[hj]
   rw[ah,Bn,this]
  obtain⟨g,rfl,hg,q0,_,_,_,_,_,_,_⟩:=l9 HK.o.sl rfl rfl j hj;obtain⟨_,_,q4,_⟩:=(kF (HO.o.ai HK.o.md) acc[j] (Eu.o acc[j] (al hj)).k).cells;rw[Vq]at HFin;rw[HL.o]at HFin HCP;generalize acc[j].o.ends=le at *;generalize bs[acc[j].k]?.getD 0=bx at *;generalize leadP st 0 acc=ld at *;have Ym:=aq Vq;have hj2:j<2000:=by omega
  clear Vq hal;go_wp2_with fail;refine(dx b _ _ _ HK.o.rd).mono ?_;rintro e w4 ⟨rfl,h4,m4⟩;obtain⟨f1,f2⟩:=HFin.o w4 h4 m4;have F2:ah _:=f2;clear f2 HFin;go_wp2_with fail;refine f1.mono ?_;rintro e w5 ⟨rfl,m5⟩;have h5:=au.ai h4 m5 id;have F3:ah _:=F2.o w5 m5;clear F2 m5 m4 h4;go_wp2_with fail;refine(dx b _ _ _ h5).mono ?_;rintro e w6 ⟨rfl,h6,m6⟩;have F4:ah _:=F3.o w6 h6 m6;clear F3 h6 m6 h5;go_wp2_with fail;go_ret;rw[HCP.o];exact F4.o
theorem yj:(prog.info? 96).map (λi=>(i.zero,i.size,i.bytes))=eK (eK (fY #[eR E0,vN]),2,40):=by kernel_rfl
def nW(x:tLB×fa):tLV:=[eR (T x.1),x.2]
def rQ(h:gL):tLB×fa:=(h.name,vN)
def sU(l:List gL):tLV:=l.map (λh=>vI (h.slots:Nat))
theorem ZQ(n:tLB)(o:Option kh)(k c:Nat):∀u∈[Value.string (T n),eS o k c],u.oneCell'=fR:=by intro u hu;simp only[cx,bt,or_false]at hu;rcases hu with rfl|rfl<;>rfl
structure sW(w0:tW)(b:Nat)(q:PR)(v vS:fa)(hs:List gL)(w:tW):Prop where
 rd:eu w b q
 sf:Sl w 96 2 v (eJ hs) ((hs.map rQ).flatMap nW)
 ss:Sl w 3 1 vS (eJ hs) (sU hs)
 own:∀k,v.ownBlock=eK k->w0.heap.size<=k
 JE:∀k,vS.ownBlock=eK k->w0.heap.size<=k
 md:aa (Only b) w0 w
structure EJ(w0:tW)(b:Nat)(q:PR)(v vS:fa)(hs:List gL)(nm:tLB)(w:tW):Prop where
 rd:eu w b q
 sf:Sl w 96 2 v (eJ hs+1) ((hs.map rQ).flatMap nW++[eR (T nm),vN])
 ss:Sl w 3 1 vS (eJ hs) (sU hs)
 own:∀k,v.ownBlock=eK k->w0.heap.size<=k
 JE:∀k,vS.ownBlock=eK k->w0.heap.size<=k
 md:aa (Only b) w0 w
theorem sW.read{w0 w w':tW}{b:Nat}{q q':PR}{v vS:fa}{hs:List gL}(h:sW w0 b q v vS hs w)(hr:eu w' b q')(m:aa (Only b) w w'):sW w0 b q' v vS hs w' :=
 ⟨hr,h.sf.ai m (λk hk e=>h.sf.aA h.rd (by decide) (hk.trans (congrArg eK e))),h.ss.ai m (λk hk e=>h.ss.aA h.rd (by decide) (hk.trans (congrArg eK e))),h.own,h.JE,h.md.trans m⟩
theorem sW.alloc{w0 w:tW}{b:Nat}{q:PR}{v vS:fa}{hs:List gL}(h:sW w0 b q v vS hs w)(o:Obj):sW w0 b q v vS hs (w.alloc o) :=
 ⟨au.alloc h.rd o,h.sf.ai ((aa.refl af w).alloc o) (λ_ _=>id),h.ss.ai ((aa.refl af w).alloc o) (λ_ _=>id),h.own,h.JE,h.md.alloc o⟩
theorem sW.app{w0 w w':tW}{b:Nat}{q:PR}{v vS v':fa}{hs:List gL}{nm:tLB}(h:sW w0 b q v vS hs w)(s:Sl w' 96 2 v' (eJ hs+1) ((hs.map rQ).flatMap nW++[eR (T nm),vN]))(m:aa (λk=>v.ownBlock=eK k) w w')(l:∀k,v'.ownBlock=eK k->v.ownBlock=eK k\/w.heap.size<=k):EJ w0 b q v' vS hs nm w' :=
 ⟨au.ai h.rd m (λe=>h.sf.aA h.rd (by decide) e),s,h.ss.ai m (λk hk e=>h.sf.apart h.ss (by decide) e hk),λk hk=>by
  rcases l k hk with e|e
  ·exact h.own k e
  ·have:=h.md.size;omega,h.JE,h.md.step m (λi hi e=>by have:=h.own i e;omega)⟩
theorem EJ.read{w0 w w':tW}{b:Nat}{q q':PR}{v vS:fa}{hs:List gL}{nm:tLB}(h:EJ w0 b q v vS hs nm w)(hr:eu w' b q')(m:aa (Only b) w w'):EJ w0 b q' v vS hs nm w' :=
 ⟨hr,h.sf.ai m (λk hk e=>h.sf.aA h.rd (by decide) (hk.trans (congrArg eK e))),h.ss.ai m (λk hk e=>h.ss.aA h.rd (by decide) (hk.trans (congrArg eK e))),h.own,h.JE,h.md.trans m⟩
theorem EJ.alloc{w0 w:tW}{b:Nat}{q:PR}{v vS:fa}{hs:List gL}{nm:tLB}(h:EJ w0 b q v vS hs nm w)(o:Obj):EJ w0 b q v vS hs nm (w.alloc o) :=
 ⟨au.alloc h.rd o,h.sf.ai ((aa.refl af w).alloc o) (λ_ _=>id),h.ss.ai ((aa.refl af w).alloc o) (λ_ _=>id),h.own,h.JE,h.md.alloc o⟩
theorem EJ.app{w0 w w':tW}{b:Nat}{q:PR}{v vS v':fa}{hs:List gL}{nm:tLB}{n:Nat}(h:EJ w0 b q v vS hs nm w)(s:Sl w' 3 1 v' (eJ hs+1) (sU hs++[vI n]))(m:aa (λk=>vS.ownBlock=eK k) w w')(l:∀k,v'.ownBlock=eK k->vS.ownBlock=eK k\/w.heap.size<=k):sW w0 b q v v' (hs++[⟨nm,n⟩]) w' :=
 ⟨au.ai h.rd m (λe=>h.ss.aA h.rd (by decide) e),by simpa [rQ,nW]using h.sf.ai m (λk hk e=>h.sf.apart h.ss (by decide) hk e),by simpa [sU]using s,h.own,λk hk=>by
  rcases l k hk with e|e
  ·exact h.JE k e
  ·have:=h.md.size;omega,h.md.step m (λi hi e=>by have:=h.JE i e;omega)⟩
theorem sW.at{w0 w:tW}{b:Nat}{q:PR}{v vS:fa}{hs:List gL}(h:sW w0 b q v vS hs w)(k:Nat)(hk:k<eJ hs):∃g c gS cS,v=eS (eK ⟨g,0,eL⟩) (eJ hs) c/\vS=eS (eK ⟨gS,0,eL⟩) (eJ hs) cS/\w.cell? ⟨g,k*2,eL⟩=eK (eR (T hs[k].name))/\w.cell? ⟨gS,k,eL⟩=eK (vI (hs[k].slots:Nat))/\∀j,w.frozen? ⟨g,j,eL⟩=fj:=by
 obtain⟨o,c,rfl,h2⟩:=h.sf.view;obtain⟨oS,cS,rfl,h3⟩:=h.ss.view;obtain⟨g,cs,rfl,hb,ht,_⟩:=h2 (by omega);obtain⟨gS,cs',rfl,hb',ht',_⟩:=h3 (by omega);refine⟨g,c,gS,cS,rfl,rfl,?_,?_,λj=>hb.frozen j⟩
 ·rw[hb.cell (k*2),<-Array.getElem?_toList,<-List.getElem?_take_of_lt (show k*2<eJ hs*2 by omega),ht];have:=flat_get nW 2 (λ_=>rfl) (hs.map rQ) k 0 (by simpa using hk) (by omega);rw[Nat.add_zero]at this;rw[this];simp[nW,rQ]
 ·rw[hb'.cell k,<-Array.getElem?_toList,<-List.getElem?_take_of_lt (show k<eJ hs*1 by omega),ht'];simp[sU,hk]
structure pR(w:tW)(lo:Nat)(bs:tLN)(v:fa)(fs:List bz)(vs:tLV):Prop where
 len:eJ vs=eJ fs
 sl:Sl w 96 2 v (eJ fs) (((fs.map (·.name)).zip vs).flatMap nW)
 cd:∀i (_:i<eJ fs) (_:i<eJ vs),Sl w 138 8 vs[i] (eJ fs[i].code) (fH bs fs[i].code)
 ok:∀f∈fs,∀x∈f.code,gm x
 own:∀k,v.ownBlock=eK k->lo<=k
 ma:∀u∈vs,∀k,u.ownBlock=eK k->lo<=k
 ne:∀i j (_:i<eJ vs) (_:j<eJ vs),i≠j->∀k,vs[i].ownBlock=eK k->vs[j].ownBlock≠eK k
theorem pR.ai{w w':tW}{lo:Nat}{bs:tLN}{v:fa}{fs:List bz}{vs:tLV}{S:Nat->Prop}(h:pR w lo bs v fs vs)(m:aa S w w')(h1:∀k,v.ownBlock=eK k->¬S k)(h2:∀u∈vs,∀k,u.ownBlock=eK k->¬S k):pR w' lo bs v fs vs :=
 ⟨h.len,h.sl.ai m h1,λi a b=>(h.cd i a b).ai m (h2 _ (al b)),h.ok,h.own,h.ma,h.ne⟩
theorem pR.quiet{w w':tW}{lo:Nat}{bs:tLN}{v:fa}{fs:List bz}{vs:tLV}(h:pR w lo bs v fs vs)(m:aa af w w'):pR w' lo bs v fs vs :=
 h.ai m (λ_ _=>id) (λ_ _ _ _=>id)
theorem pR.read{w w':tW}{lo:Nat}{bs:tLN}{v:fa}{fs:List bz}{vs:tLV}{b:Nat}{q:PR}(h:pR w lo bs v fs vs)(hr:eu w b q)(m:aa (Only b) w w'):pR w' lo bs v fs vs :=
 h.ai m (λk hk e=>h.sl.aA hr (by decide) (hk.trans (congrArg eK e))) (λu hu k hk e=>by obtain⟨i,hi,rfl⟩:=cy hu;exact(h.cd i (by rw[<-h.len];exact hi) hi).aA hr (by decide) (hk.trans (congrArg eK e)))
theorem GU(ns:List tLB)(vs:tLV)(k:Nat)(h:k<eJ ns)(h':k<eJ vs):(ns.zip vs)[k]'(by simp;omega)=(ns[k],vs[k]):=by simp
theorem pR.put{w:tW}{lo g c:Nat}{bs:tLN}{fs:List bz}{vs:tLV}(k:Nat)(hk:k<eJ fs){nf:Nat}(hnf:nf=eJ fs)(h:pR w lo bs (eS (eK ⟨g,0,eL⟩) nf c) fs vs)(o:Option kh)(n cp:Nat)(code:List PI)(hn:n=eJ code)(s:Sl w 138 8 (eS o n cp) n (fH bs code))(hok:∀x∈code,gm x)(hlo:∀k,(Value.slice o n cp).ownBlock=eK k->lo<=k)(hne:∀u∈vs,∀k,u.ownBlock=eK k->(Value.slice o n cp).ownBlock≠eK k):pR (w.setCell ⟨g,k*2+1,eL⟩ (eS o n cp)) lo bs (eS (eK ⟨g,0,eL⟩) nf c) (fs.set k ⟨fs[k].name,code⟩) (vs.set k (eS o n cp)):=by
 subst hnf;have Bu:k<eJ vs:=by rw[h.len];exact hk
 have hkz:k<eJ ((fs.map (·.name)).zip vs):=by simp;omega
 have m:aa (Only g) w (w.setCell ⟨g,k*2+1,eL⟩ (eS o n cp)):=ax.bA _ _;have hf:=λk' v' (_:Sl w 138 8 v' k' (fH bs code))=>trivial;have hgn:∀{v':fa} {n':Nat} {xs:tLV},Sl w 138 8 v' n' xs->∀k,v'.ownBlock=eK k->¬Only g k:=λs' k' hk' e=>s'.apart h.sl (by decide) hk' (congrArg eK (show g=k' from e.symm))
 have hnm:(fs.set k ⟨fs[k].name,code⟩).map (·.name)=fs.map (·.name):=by
  rw[List.map_set]
  exact b5 (by simp) (λi h1 h2=>by
   rw[ba];split
   ·rename_i e;subst e;simp
   ·rfl)
 refine⟨by simp[h.len],?_,λi h1 h2=>?_,λf hf' x hx=>?_,h.own,λu hu k' hk'=>?_,λi j h1 h2 hij k' hk'=>?_⟩
 ·have:=h.sl.setAt (k*2+1) (eS o n cp) (by omega);rw[iO nW 2 (λ_=>rfl) _ k 1 hkz (by omega) (eS o n cp) (fs[k].name,eS o n cp) (by rw[GU _ _ k (by simpa using hk) Bu];simp[nW])]at this;rw[hnm,b9]
  have e:((fs.map (·.name)).zip vs).set k (fs[k].name,eS o n cp)=(fs.map (·.name)).zip (vs.set k (eS o n cp)):=by
   refine b5 (by simp) (λi h1 h2=>?_);rw[ba];split
   ·rename_i e;subst e;simp
   ·rename_i e
    simp[e]
  rw[e]at this;exact this
 ·rw[b9]at h1 h2;rw[ba];by_cases e:k=i
  ·subst e;simp only[ba,if_true];subst hn;exact s.ai m (hgn s)
  ·simp only[e,if_false,ba];exact(h.cd i h1 h2).ai m (hgn (h.cd i h1 h2))
 ·rcases bj hf' with h'|h'
  ·exact h.ok f h' x hx
  ·subst h';exact hok x hx
 ·rcases bj hu with h'|h'
  ·exact h.ma u h' k' hk'
  ·subst h';exact hlo k' hk'
 ·rw[b9]at h1 h2;rw[ba]at hk' ⊢;by_cases e:k=i
  ·subst e;rw[iP9 rfl]at hk';rw[iN9 hij];intro e2;exact hne _ (al h2) k' e2 hk'
  ·rw[iN9 e]at hk';by_cases e2:k=j
   ·subst e2;rw[iP9 rfl];exact hne _ (al h1) k' hk'
   ·rw[iN9 e2];exact h.ne i j h1 h2 hij k' hk'
def jF(h:gL):bz:=⟨h.name,[]⟩
theorem sW.fns{w0 w:tW}{b:Nat}{q:PR}{v vS:fa}{hs:List gL}(h:sW w0 b q v vS hs w)(bs:tLN):pR w w0.heap.size bs v (hs.map jF) (ao (eJ hs) (vN)):=by
 refine⟨by simp,?_,λi h1 h2=>?_,λf hf x hx=>?_,h.own,λu hu k hk=>?_,λi j h1 h2 _ k hk=>?_⟩
 ·have e:((hs.map jF).map (·.name)).zip (ao (eJ hs) (vN))=hs.map rQ:=by refine b5 (by simp) (λi h1 h2=>?_);simp[jF,rQ]
  rw[e]
  simpa using h.sf
 ·simp only[List.getElem_map,cq,jF];exact Sl.nil _ _ _
 ·obtain⟨h',_,rfl⟩:=List.mem_map.1 hf;cases hx
 ·rw[List.eq_of_mem_replicate hu]at hk;cases hk
 ·rw[cq]at hk;cases hk
