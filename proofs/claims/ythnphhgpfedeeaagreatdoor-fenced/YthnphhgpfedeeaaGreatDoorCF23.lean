import Derived.Test.YthnphhgpfedeeaaGreatDoorCF21
namespace Go.Proofs.YthnphhgpfedeeaaGreatDoor
open Go.RowKit Tryz
open Nat renaming le_trans->ab,two_pow_add_eq_or_of_lt->al,le_refl->an
set_option linter.all false
set_option maxRecDepth 100000
set_option maxHeartbeats 1000000
def dM(w:tW)(b:Nat)(q:PR):Prop:=ak w b #[.string (T q.rest),.bool q.bad] 194
theorem bI(b:Nat)(q:PR)(c:Bool)(w:tW)(h:dM w b q):Calls prog 96 #[.pointer (some ⟨b,0,none⟩),.bool c] w λe w'=>e=.returned (.tuple #[])/\dM w' b (aI c q)/\aa (Only b) w w':=by
 obtain⟨l,bad⟩:=q;have c1:=ak.cell h 1;have f1:=ak.frozen h 1;simp at c1;cases bad with
 |true =>go_enter func96,ntmps96;go_wp2_with fail;go_end0;exact⟨rfl,ak.set h 1 _,ax.aY 1 _⟩
 |false =>
  cases c
  all_goals
   go_enter func96,ntmps96;go_wp2_with fail;go_end0;exact⟨rfl,ak.set h 1 _,ax.aY 1 _⟩
theorem oq(b:Nat)(q:PR)(n:Nat)(w:tW)(h:dM w b q)(hl:q.rest.length<=maxLen)(hn:n<=maxLen):Calls prog 97 #[.pointer (some ⟨b,0,none⟩),.int .i64 n] w λe w'=>e=.returned (.string (T (bU n q).1))/\dM w' b (bU n q).2/\aa (Only b) w w':=by
 unfold maxLen at hl hn;obtain⟨l,bad⟩:=q;simp only at hl;have hs:(T l).size=l.length:=bG l;have c0:=ak.cell h 0;have f0:=ak.frozen h 0;have c1:=ak.cell h 1;have f1:=ak.frozen h 1;simp at c0 c1;by_cases hlt:l.length<n
 ·have HE:af (bU n ⟨l,bad⟩=(l,⟨[],true⟩)):=by simp[af,bU,hlt]
  have h2:=ak.set h 1 (.bool true);have z0:=h2.cell 0;have g0:=h2.frozen 0;simp at z0;have e1:(T l).extract 0 l.length=T l:=by rw[yq,List.take_length]
  have e2:(T l).extract l.length l.length=T []:=by have:=lT l l.length;rw[hs,List.drop_length]at this;exact this
  go_enter func97,ntmps97;go_wp2_with fail;go_ret;rw[HE.o];exact⟨rfl,h2.set 0 _,(ax.aY 1 _).aY 0 _⟩
 ·have HE:af (bU n ⟨l,bad⟩=(l.take n,⟨l.drop n,bad⟩)):=by simp[af,bU,hlt]
  have e1:(T l).extract 0 n=T (l.take n):=yq l n;have e2:(T l).extract n l.length=T (l.drop n):=by have:=lT l n;rw[hs]at this;exact this
  go_enter func97,ntmps97;go_wp2_with fail;go_ret;rw[HE.o];exact⟨rfl,ak.set h 0 _,ax.aY 0 _⟩
theorem kY(b:Nat)(q:PR)(w:tW)(h:dM w b q)(hl:q.rest.length<=maxLen):Calls prog 98 #[.pointer (some ⟨b,0,none⟩)] w λe w'=>e=.returned (.int .i64 ((oneP q).1:Nat))/\dM w' b (oneP q).2/\aa (Only b) w w':=by
 obtain⟨l,bad⟩:=q;cases l with
 |nil =>have HE:af (bU 1 ⟨[],bad⟩=([],⟨[],true⟩)):=rfl;have he:=jX;go_enter func98,ntmps98;go_wp2_with fail;refine(oq b ⟨[],bad⟩ 1 _ h hl (by unfold maxLen;decide)).mono ?_;rw[HE.o];rintro e w1 ⟨rfl,h1,m1⟩;go_wp2_with fail;go_ret;exact⟨rfl,h1,m1⟩
 |cons c l =>
  have HE:af (bU 1 ⟨c::l,bad⟩=([c],⟨l,bad⟩)):=by simp[af,bU]
  have he:=gQ c [];have hs:(T [c]).size=1:=rfl;have hg:(T [c])[0]=c:=rfl;have hc:=c.toNat_lt;go_enter func98,ntmps98;go_wp2_with fail;refine(oq b ⟨c::l,bad⟩ 1 _ h hl (by unfold maxLen;decide)).mono ?_;rw[HE.o];rintro e w1 ⟨rfl,h1,m1⟩;go_wp2_with fail;go_ret;exact⟨rfl,h1,m1⟩
theorem aap(a b:Nat)(ha:a<256)(hb:b<256):bits .or .i64 (a:Int) ((b:Int)*256)=((a+256*b:Nat):Int):=by
 have h:=(bits_nat .i64 16 (by decide) (λn h0 h1=>by rw[IntKind.wrap_i64];omega) a (b*256) (by omega) (by omega)).2;have e:=al (i:=8) (show a<2 ^ 8 from ha) b;have e3:((b*256:Nat):Int)=(b:Int)*256:=by simp
 have e4:a ||| b*256=a+256*b:=by rw[Nat.or_comm,Nat.mul_comm b 256];exact e.symm.trans (Nat.add_comm _ _)
 rw[e3,e4]at h;exact h
theorem yN(q:PR):(oneP q).1<256:=by
 unfold oneP;split
 ·decide
 ·exact UInt8.toNat_lt _
theorem fP(q:PR):(oneP q).2.rest.length<=q.rest.length:=by
 unfold oneP;split
 ·simp
 ·rename_i b l h;rw[h];simp
theorem take_len(n:Nat)(q:PR):(bU n q).2.rest.length<=q.rest.length:=by
 unfold bU;split
 ·simp
 ·simp
theorem xC(q:PR):(iY q).2.rest.length<=q.rest.length:=ab (fP _) (fP _)
theorem tu(q:PR):(dA q).2.rest.length<=q.rest.length:=ab (take_len _ _) (fP _)
theorem ajq(m:Nat)(q:PR):(cu m q).2.rest.length<=q.rest.length:=fP _
theorem EU(b:Nat)(q:PR)(w:tW)(h:dM w b q)(hl:q.rest.length<=maxLen):Calls prog 170 #[.pointer (some ⟨b,0,none⟩)] w λe w'=>e=.returned (.int .i64 ((iY q).1:Nat))/\dM w' b (iY q).2/\aa (Only b) w w':=by have hl2:=ab (fP q) hl;have H1:af (∀w,dM w b q->Calls prog 98 #[.pointer (some ⟨b,0,none⟩)] w λe w'=>e=.returned (.int .i64 ((oneP q).1:Nat))/\dM w' b (oneP q).2/\aa (Only b) w w'):=λw h=>kY b q w h hl;have H2:af (∀w,dM w b (oneP q).2->Calls prog 98 #[.pointer (some ⟨b,0,none⟩)] w λe w'=>e=.returned (.int .i64 ((oneP (oneP q).2).1:Nat))/\dM w' b (oneP (oneP q).2).2/\aa (Only b) w w'):=λw h=>kY b _ w h hl2;have l1:=yN q;have l2:=yN (oneP q).2;rw[show iY q=((oneP q).1+256*(oneP (oneP q).2).1,(oneP (oneP q).2).2)from rfl];generalize oneP (oneP q).2=r2 at *;generalize oneP q=r1 at *;obtain⟨a1,q1⟩:=r1;obtain⟨a2,q2⟩:=r2;simp only at *;have hor:=aap _ _ l1 l2;go_enter func170,ntmps170;go_wp2_with fail;refine(H1.o _ h).mono ?_;rintro e w1 ⟨rfl,h1,m1⟩;go_wp2_with fail;refine(H2.o _ h1).mono ?_;rintro e w2 ⟨rfl,h2,m2⟩;go_wp2_with fail;go_ret;exact⟨by simp,h2,m1.trans m2⟩
theorem EV(n:Nat)(q:PR):(bU n q).1.length<=q.rest.length:=by
 unfold bU;split
 ·exact an _
 ·simp;omega
theorem yH(b:Nat)(q:PR)(w:tW)(h:dM w b q)(hl:q.rest.length<=maxLen):Calls prog 168 #[.pointer (some ⟨b,0,none⟩)] w λe w'=>e=.returned (.string (T (dA q).1))/\dM w' b (dA q).2/\aa (Only b) w w':=by have HE:af (dA q=((bU (oneP q).1 (oneP q).2).1,aI (nameB (bU (oneP q).1 (oneP q).2).1) (bU (oneP q).1 (oneP q).2).2)):=rfl;have l1:=yN q;have hl2:=ab (fP q) hl;have hl3:=ab (EV (oneP q).1 (oneP q).2) hl2;rw[HE.o];go_enter func168,ntmps168;go_wp2_with fail;refine(kY b q _ h hl).mono ?_;rintro e w1 ⟨rfl,h1,m1⟩;go_wp2_with fail;refine(oq b _ _ _ h1 hl2 (by unfold maxLen;omega)).mono ?_;rintro e w2 ⟨rfl,h2,m2⟩;go_wp2_with fail;refine(rP _ _ (by rw[bG];exact hl3)).mono ?_;rintro e w3 ⟨rfl,rfl⟩;go_wp2_with fail;refine(bI b _ _ _ h2).mono ?_;rintro e w4 ⟨rfl,h4,m4⟩;go_wp2_with fail;go_ret;exact⟨rfl,h4,(m1.trans m2).trans m4⟩
theorem yI(b:Nat)(q:PR)(m:Nat)(_hm:m<=255)(w:tW)(h:dM w b q)(hl:q.rest.length<=maxLen):Calls prog 169 #[.pointer (some ⟨b,0,none⟩),.int .i64 m] w λe w'=>e=.returned (.int .u8 ((cu m q).1:Nat))/\dM w' b (cu m q).2/\aa (Only b) w w':=by
 have H1:af (∀w,dM w b q->Calls prog 98 #[.pointer (some ⟨b,0,none⟩)] w λe w'=>e=.returned (.int .i64 ((oneP q).1:Nat))/\dM w' b (oneP q).2/\aa (Only b) w w'):=λw h=>kY b q w h hl;have l1:=yN q;rw[show cu m q=((oneP q).1,aI (decide (1<=(oneP q).1)&&decide ((oneP q).1<=m)) (oneP q).2)from rfl];generalize oneP q=r1 at *;obtain⟨n,q1⟩:=r1;simp only at *;by_cases ha:1<=n
 ·have HD:af ((decide (1<=n)&&decide (n<=m))=decide (n<=m)):=by simp[af,ha]
  rw[HD.o];have hd:decide ((n:Int)<=(m:Int))=decide (n<=m):=by simp
  go_enter func169,ntmps169;go_wp2_with fail;refine(H1.o _ h).mono ?_;rintro e w1 ⟨rfl,h1,m1⟩;go_wp2_with fail;refine(bI b _ _ _ h1).mono ?_;rintro e w4 ⟨rfl,h4,m4⟩;go_wp2_with fail;go_ret;exact⟨rfl,h4,m1.trans m4⟩
 ·have hn:n=0:=by omega
  subst hn;go_enter func169,ntmps169;go_wp2_with fail;refine(H1.o _ h).mono ?_;rintro e w1 ⟨rfl,h1,m1⟩;go_wp2_with fail;refine(bI b _ _ _ h1).mono ?_;rintro e w4 ⟨rfl,h4,m4⟩;go_wp2_with fail;go_ret;exact⟨rfl,h4,m1.trans m4⟩
theorem Dp:(prog.info? 100).map (λi=>(i.zero,i.size,i.bytes))=some (some (.agg #[.string E0,.int .u8 0,.int .u8 0,.int .u8 0]),4,24):=by kernel_rfl
theorem Th(x:az):∀u∈x.cells,u.oneCell'=true:=by intro u hu;simp only[az.cells,List.mem_cons,List.not_mem_nil,or_false]at hu;rcases hu with rfl|rfl|rfl|rfl<;>rfl
structure ajD(w0:tW)(b:Nat)(q:PR)(v:Value)(ms:List az)(w:tW):Prop where
 rd:dM w b q
 sl:Sl w 100 4 v ms.length (ms.flatMap az.cells)
 own:∀k,v.ownBlock=some k->w0.heap.size<=k
 md:aa (Only b) w0 w
theorem ajD.read{w0 w w':tW}{b:Nat}{q q':PR}{v:Value}{ms:List az}(h:ajD w0 b q v ms w)(hb:b<w0.heap.size)(hr:dM w' b q')(m:aa (Only b) w w'):ajD w0 b q' v ms w' :=
 ⟨hr,h.sl.ag m (λk hk e=>by have:=h.own k hk;rw[show k=b from e]at this;omega),h.own,h.md.trans m⟩
theorem ajD.alloc{w0 w:tW}{b:Nat}{q:PR}{v:Value}{ms:List az}(h:ajD w0 b q v ms w)(o:Obj):ajD w0 b q v ms (w.alloc o) :=
 ⟨ak.alloc h.rd o,h.sl.ag ((aa.refl ae w).alloc o) (λ_ _=>id),h.own,h.md.alloc o⟩
theorem ajD.set{w0 w:tW}{b:Nat}{q:PR}{v:Value}{ms:List az}(h:ajD w0 b q v ms w){g:Nat}(hg:w0.heap.size<=g)(hb:b<w0.heap.size)(hv:v.ownBlock≠some g)(i:Nat)(x:Value):ajD w0 b q v ms (w.setCell ⟨g,i,none⟩ x) :=
 ⟨ak.setOther h.rd (by simp only;omega) x,h.sl.ag ((aa.refl (Only g) w).aY i x) (λk hk e=>hv (by rw[hk];exact congrArg some e)),h.own,h.md.set (.inr hg) x⟩
theorem ajD.app{w0 w w':tW}{b:Nat}{q:PR}{v v':Value}{ms:List az}{x:az}(h:ajD w0 b q v ms w)(hb:b<w0.heap.size)(s:Sl w' 100 4 v' (ms.length+1) (ms.flatMap az.cells++x.cells))(m:aa (λk=>v.ownBlock=some k) w w')(l:∀k,v'.ownBlock=some k->v.ownBlock=some k\/w.heap.size<=k):ajD w0 b q v' (ms++[x]) w' :=
 ⟨ak.ag h.rd m (λe=>by have:=h.own b e;omega),by simpa using s,λk hk=>by
  rcases l k hk with e|e
  ·exact h.own k e
  ·have:=h.md.size;omega,h.md.step m (λi hi e=>by have:=h.own i e;omega)⟩
theorem yJ:∀(k:Nat) (q:PR) (last:tLB) (acc:List az),(mapsP k q last acc).2.rest.length<=q.rest.length
 |0,_,_,_=>an _
 |k+1,q,last,acc=>by
  rw[mapsP];refine ab (yJ k _ _ _) ?_;show(cu 8 (cu 16 (cu 8 (dA q).2).2).2).2.rest.length<=_
  exact ab (ajq _ _) (ab (ajq _ _) (ab (ajq _ _) (tu _)))
def AZ(w:tW)(b:Nat)(q:PR)(ms:List az)(e:Ending)(w':tW):Prop:=∃v,e=.returned v/\ajD w b q v ms w'
theorem Dq(b:Nat)(q:PR)(w:tW)(h:dM w b q)(hl:q.rest.length<=maxLen):Calls prog 99 #[.pointer (some ⟨b,0,none⟩)] w λe w'=>AZ w b (mapsP (oneP q).1 (aI (decide ((oneP q).1<=8)) (oneP q).2) [] []).2 (mapsP (oneP q).1 (aI (decide ((oneP q).1<=8)) (oneP q).2) [] []).1 e w':=by
 obtain⟨iM,hiM,hzM,hsM,hbM⟩:=info_parts Dp;have hb:b<w.heap.size:=ak.lt h;have H1:af (∀w,dM w b q->Calls prog 98 #[.pointer (some ⟨b,0,none⟩)] w λe w'=>e=.returned (.int .i64 ((oneP q).1:Nat))/\dM w' b (oneP q).2/\aa (Only b) w w'):=λw h=>kY b q w h hl;have l1:=yN q;have hl1:=ab (fP q) hl;generalize oneP q=r1 at *;obtain⟨n,q1⟩:=r1;simp only at *;have hd:decide ((n:Int)<=8)=decide (n<=8):=by simp;omega
 have hl2:(aI (decide (n<=8)) q1).rest.length<=maxLen:=hl1;have HQ:af (∃q2,aI (decide (n<=8)) q1=q2):=⟨_,rfl⟩
 obtain⟨q2,hq2⟩:=HQ.o;rw[hq2]at hl2 ⊢;have WM:=ai hq2;clear hq2 HQ;go_enter func99,ntmps99;go_wp2_with fail;refine(H1.o _ h).mono ?_;rintro e w1 ⟨rfl,h1,m1⟩;go_wp2_with fail;refine(bI b _ _ _ h1).mono ?_;rintro e w2 ⟨rfl,h2,m2⟩;have hI:ajD w b (aI (decide (n<=8)) q1) (.slice none 0 0) [] w2:=⟨h2,Sl.nil _ _ _,λk hk=>(by cases hk),m1.trans m2⟩
 rw[WM.o]at hI;clear h1 h2 m1 m2 hd;go_wp2_with fail;go_loopg [3,4,14] n (λg v last i wl=>∃(k:Nat) (acc:List az) (r:PR) (lY:tLB),i=.int .i64 k/\last=.string (T lY)/\ajD w b r v acc wl/\mapsP (n-k) r lY acc=mapsP n q2 [] []/\k<=n/\g=n-k/\acc.length<=k/\r.rest.length<=maxLen)
 case atStart=>exact⟨0,[],q2,[],rfl,rfl,hI,rfl,Nat.zero_le _,rfl,an _,hl2⟩
 case round =>
  obtain⟨k,acc,r,lY,rfl,rfl,hI2,iA,hk,rfl,hal,hrl⟩:=hrel;have HR:af _:=iA;clear iA hI;by_cases hkn:k<n
  ·obtain⟨j,hj⟩:∃j,n-k=j+1:=⟨n-k-1,by omega⟩
   have HJ:=ai hj;have kE:mapsP j (aI (ZA lY (dA r).1) (cu 8 (cu 16 (cu 8 (dA r).2).2).2).2) (dA r).1 (acc++[⟨(dA r).1,(cu 8 (dA r).2).1,(cu 16 (cu 8 (dA r).2).2).1,(cu 8 (cu 16 (cu 8 (dA r).2).2).2).1⟩])=mapsP n q2 [] []:=by rw[<-HR.o,hj];rfl
   clear HR hj;have HN:af (∀w,dM w b r->Calls prog 168 #[.pointer (some ⟨b,0,none⟩)] w λe w'=>e=.returned (.string (T (dA r).1))/\dM w' b (dA r).2/\aa (Only b) w w'):=λw h=>yH b r w h hrl;have z1:=ab (tu r) hrl;have HK:af (∀w,dM w b (dA r).2->Calls prog 169 #[.pointer (some ⟨b,0,none⟩),.int .i64 8] w λe w'=>e=.returned (.int .u8 ((cu 8 (dA r).2).1:Nat))/\dM w' b (cu 8 (dA r).2).2/\aa (Only b) w w'):=λw h=>yI b _ 8 (by decide) w h z1;have y1:=yN (dA r).2;have z2:=ab (ajq 8 (dA r).2) z1;rw[show(oneP (dA r).2).1=(cu 8 (dA r).2).1 from rfl]at y1;generalize dA r=p0 at *;obtain⟨nm,r0⟩:=p0;simp only at *;have HV:af (∀w,dM w b (cu 8 r0).2->Calls prog 169 #[.pointer (some ⟨b,0,none⟩),.int .i64 16] w λe w'=>e=.returned (.int .u8 ((cu 16 (cu 8 r0).2).1:Nat))/\dM w' b (cu 16 (cu 8 r0).2).2/\aa (Only b) w w'):=λw h=>yI b _ 16 (by decide) w h z2;have y2:=yN (cu 8 r0).2;have z3:=ab (ajq 16 (cu 8 r0).2) z2;rw[show(oneP (cu 8 r0).2).1=(cu 16 (cu 8 r0).2).1 from rfl]at y2;generalize cu 8 r0=p1 at *;obtain⟨ky,r1⟩:=p1;simp only at *;have HW:af (∀w,dM w b (cu 16 r1).2->Calls prog 169 #[.pointer (some ⟨b,0,none⟩),.int .i64 8] w λe w'=>e=.returned (.int .u8 ((cu 8 (cu 16 r1).2).1:Nat))/\dM w' b (cu 8 (cu 16 r1).2).2/\aa (Only b) w w'):=λw h=>yI b _ 8 (by decide) w h z3;have y3:=yN (cu 16 r1).2;have z4:=ab (ajq 8 (cu 16 r1).2) z3;rw[show(oneP (cu 16 r1).2).1=(cu 8 (cu 16 r1).2).1 from rfl]at y3;generalize cu 16 r1=p2 at *;obtain⟨vl,r2⟩:=p2;simp only at *;generalize cu 8 r2=p3 at *;obtain⟨en,r3⟩:=p3;simp only at *;have xX:af _:=kE;clear kE;have Ro:af (ZA lY nm=Op.bytesLess (T lY).toList (T nm).toList):=rfl;have hOw:∀g,u3.ownBlock=some g->g<wr.heap.size:=hI2.sl.lt;have HOw:af _:=hOw;have hwr:=hI2.md.size;clear hOw;go_wp2_with fail;refine(HN.o _ hI2.rd).mono ?_;rintro e w3 ⟨rfl,h3,m3⟩;have Zh:=hI2.read hb h3 m3;have hs3:=m3.size;clear h3 m3 hI2;have Rp:=Zh.alloc (.cells #[.string (T nm),.int .u8 0,.int .u8 0,.int .u8 0] 100);have hB4:=ak.new w3 #[.string (T nm),.int .u8 0,.int .u8 0,.int .u8 0] 100;have Jo:af (u3.ownBlock≠some w3.heap.size):=λe=>by have:=HOw.o _ e;omega
   clear Zh;go_wp2_with fail;refine(HK.o _ Rp.rd).mono ?_;rintro e w5 ⟨rfl,h5,m5⟩;have hI5:=Rp.read hb h5 m5;have O9:=hB4.ag m5 (show ¬w3.heap.size=b by omega);clear h5 m5 Rp hB4;have f5:=O9.frozen 1;have g5:w5.cell? ⟨w3.heap.size,1,none⟩=some (.int .u8 0):=O9.cell 1;have ZD:=hI5.set (g:=w3.heap.size) (by omega) hb Jo.o 1 (.int .u8 ky);have hB6:=O9.set 1 (.int .u8 ky);clear hI5 O9;go_wp2_with fail;refine(HV.o _ ZD.rd).mono ?_;rintro e w7 ⟨rfl,h7,m7⟩;have hI7:=ZD.read hb h7 m7;have hB7:ak w7 w3.heap.size #[.string (T nm),.int .u8 ky,.int .u8 0,.int .u8 0] 100:=hB6.ag m7 (show ¬w3.heap.size=b by omega);clear h7 m7 ZD hB6 f5 g5;have f7:=hB7.frozen 2;have g7:w7.cell? ⟨w3.heap.size,2,none⟩=some (.int .u8 0):=hB7.cell 2;have hI8:=hI7.set (g:=w3.heap.size) (by omega) hb Jo.o 2 (.int .u8 vl);have hB8:=hB7.set 2 (.int .u8 vl);clear hI7 hB7;go_wp2_with fail;refine(HW.o _ hI8.rd).mono ?_;rintro e w9 ⟨rfl,h9,m9⟩;have hI9:=hI8.read hb h9 m9;have hB9:ak w9 w3.heap.size #[.string (T nm),.int .u8 ky,.int .u8 vl,.int .u8 0] 100:=hB8.ag m9 (show ¬w3.heap.size=b by omega);clear h9 m9 hI8 hB8 f7 g7;have f9:=hB9.frozen 3;have g9:w9.cell? ⟨w3.heap.size,3,none⟩=some (.int .u8 0):=hB9.cell 3;have hIa:=hI9.set (g:=w3.heap.size) (by omega) hb Jo.o 3 (.int .u8 en);have hBa:ak (w9.setCell ⟨w3.heap.size,3,none⟩ (.int .u8 en)) w3.heap.size #[.string (T nm),.int .u8 ky,.int .u8 vl,.int .u8 en] 100:=hB9.set 3 (.int .u8 en);have ga:w9.cell? ⟨w3.heap.size,0,none⟩=some (.string (T nm)):=hB9.cell 0;clear hI9 hB9;go_wp2_with fail;refine(bI b _ _ _ hIa.rd).mono ?_;rintro e wb ⟨rfl,hb',mb⟩;have hIb:=hIa.read hb hb' mb;have hBb:=hBa.ag mb (show ¬w3.heap.size=b by omega);clear hb' mb hIa hBa f9 g9 ga;obtain⟨i0,i1,i2,i3⟩:wb.cell? ⟨w3.heap.size,0,none⟩=some (.string (T nm))/\wb.cell? ⟨w3.heap.size,1,none⟩=some (.int .u8 ky)/\wb.cell? ⟨w3.heap.size,2,none⟩=some (.int .u8 vl)/\wb.cell? ⟨w3.heap.size,3,none⟩=some (.int .u8 en):=⟨hBb.cell 0,hBb.cell 1,hBb.cell 2,hBb.cell 3⟩
   have HIb:af _:=hIb;clear hBb hIb;go_wp2_with (at_builtin;refine aL _ rfl (.tmp 36) (.tmp 38) 87 rfl 100 iM (.agg #[.string E0,.int .u8 0,.int .u8 0,.int .u8 0]) 4 24 underlying87 hiM hzM hsM hbM rfl (by decide) u3 acc.length (acc.flatMap az.cells) rfl (HIb.o.alloc _).sl ⟨wb.heap.size,0,none⟩ 1 1 (az.cells ⟨nm,ky,vl,en⟩) rfl rfl (aV _ _ _ _ rfl) (Th _) (by unfold maxLen;omega) (by omega) ?_;intro vA wA sA mA lA;obtain⟨oA,cA,rfl,_⟩:=Sl.view sA);go_roundg (n-(k+1))
   case measure=>omega
   case rel=>exact⟨k+1,acc++[⟨nm,ky,vl,en⟩],_,nm,by go_num,rfl,(HIb.o.alloc _).app hb sA mA lA,by rw[show n-(k+1)=j by have:=HJ.o;omega];exact xX.o,by omega,rfl,by simp;omega,z4⟩
  ·obtain rfl:k=n:=by omega
   have HE:af (mapsP k q2 [] []=(acc,r)):=by rw[af,<-HR.o,Nat.sub_self];rfl
   go_wp2_with fail;go_ret;rw[HE.o];exact⟨_,rfl,hI2⟩
theorem Xn(os:List dY)(c k:Nat)(hk:k<os.length)(hlt:∀j (h:j<os.length),j<k->os[j].code≠c)(he:os[k].code=c):os.findIdx? (λo=>o.code==c)=some k:=by rw[List.findIdx?_eq_some_iff_getElem];refine⟨hk,by simp[he],λj hj=>?_⟩;have:=hlt j (by omega) hj;simp[this]
theorem Xo(os:List dY)(c:Nat)(h:∀j (h:j<os.length),os[j].code≠c):os.findIdx? (λo=>o.code==c)=none:=by rw[List.findIdx?_eq_none_iff];intro x hx;obtain⟨i,hi,rfl⟩:=List.getElem_of_mem hx;simp[h i hi]
def codeV(bs:List Nat):Option Nat->Value
 |none=>.pointer none
 |some k=>fF (bs[k]?.getD 0)
theorem Ka(w:tW)(v:Value)(bs:List Nat)(os:List dY)(c:Nat)(hO:aH 0 w v bs os)(hl:os.length<=1000)(pF:∀o∈os,o.code<256):Calls prog 322 #[v,.int .u8 c] w λe w'=>e=.returned (codeV bs (os.findIdx? (λo=>o.code==c)))/\w'=w:=by
 obtain⟨o0,cap,rfl,_⟩:=hO.sl.view;have hlen:=hO.len;have HL:af _:=hlen;clear hlen;have hbl:bs.length<=1000:=by rw[HL.o];exact hl
 go_enter func322,ntmps322;go_wp2;go_loop [9] (λi=>∃k:Nat,k<=bs.length/\i=.int .i64 k/\∀j,(h:j<os.length)->j<k->os[j].code≠c) (λi=>bs.length-(intOf i).toNat)
 case atStart=>exact⟨0,Nat.zero_le _,rfl,λj _ h=>absurd h (Nat.not_lt_zero _)⟩
 case round =>
  obtain⟨k,hk,rfl,hn⟩:=hrel;have HN:af _:=hn;clear hn;by_cases hlt:k<bs.length
  ·obtain⟨g,rfl,cs⟩:=hO.sl.at rfl k hlt;have ck:=cs k hlt;have e1:(bs.map fF)[k]?=some (.pointer (some ⟨bs[k],0,none⟩)):=by simp[hlt,fF]
   rw[e1]at ck;have hk':k<os.length:=by rw[<-HL.o];exact hlt
   obtain⟨o1,n1,c1,f6,c6,k7,c7,k8,c8,f9,c9,hblk,_⟩:=(hO.at' k hlt hk').ex;have z0:=hblk.cell 0;simp at z0;have HB:af (bs[k]?.getD 0=bs[k]):=by simp[af,hlt]
   have hcl:=pF os[k] (List.getElem_mem hk');clear hblk cs e1;by_cases he:os[k].code=c
   ·have HF:af (_=_):=Xn os c k hk' (λj h hj=>HN.o j h hj) he;have q:((os[k].code:Int)==(c:Int))=true:=by simp[he]
    go_wp2;go_ret;refine⟨?_,rfl⟩;rw[HF.o];simp only[codeV,HB.o,fF];rfl
   ·have HE:af _:=he;have q:((os[k].code:Int)==(c:Int))=false:=by simp;omega
    clear he;go_wp2;go_round
    case rel=>exact⟨k+1,by omega,by go_num,λj h hj=>by
     by_cases e:j=k
     ·subst e;exact HE.o
     ·exact HN.o j h (by omega)⟩
    case measure=>simp[intOf];omega
  ·have HF:af (_=_):=Xo os c (λj h=>HN.o j h (by rw[<-HL.o]at h;omega));go_wp2;go_ret;rw[HF.o];exact⟨rfl,rfl⟩
theorem GN(k:IntKind)(i m:Nat)(a b:Nat)(hw:∀n:Int,0<=n->n<2 ^ m->k.wrap n=n)(hm:m<=k.bits)(him:i<=m)(ha:a<2 ^ i)(hb:b*2 ^ i<2 ^ m):bits .or k (a:Int) ((b*2 ^ i:Nat):Int)=((a+b*2 ^ i:Nat):Int):=by
 have ha':a<2 ^ m:=Nat.lt_of_lt_of_le ha (Nat.pow_le_pow_right (by decide) him);have h:=(bits_nat k m hm hw a (b*2 ^ i) ha' hb).2;have e:=al ha b;have e4:a ||| b*2 ^ i=a+b*2 ^ i:=by rw[Nat.or_comm,Nat.mul_comm b];exact e.symm.trans (Nat.add_comm _ _)
 rw[e4]at h;exact h
theorem abY(a b:Nat)(ha:a<256)(hb:b<256):bits .or .u32 (a:Int) ((b:Int)*256)=(a:Int)+(b:Int)*256:=by
 have h:=GN .u32 8 16 a b (λn h0 h1=>by rw[IntKind.wrap_u32];omega) (by decide) (by decide) ha (by omega)
 simpa using h
theorem abZ(n c:Nat)(hn:n<65536)(hc:c<256):bits .or .u32 (n:Int) ((c:Int)*65536)=(n:Int)+(c:Int)*65536:=by
 have h:=GN .u32 16 24 n c (λn h0 h1=>by rw[IntKind.wrap_u32];omega) (by decide) (by decide) hn (by omega)
 simpa using h
theorem ab0(n d:Nat)(hn:n<16777216)(hd:d<256):bits .or .u32 (n:Int) ((d:Int)*16777216)=(n:Int)+(d:Int)*16777216:=by
 have h:=GN .u32 24 32 n d (λn h0 h1=>by rw[IntKind.wrap_u32];omega) (by decide) (by decide) hn (by omega)
 simpa using h
theorem ab1(a b:Nat)(ha:a<256)(hb:b<256):bits .or .u16 (a:Int) ((b:Int)*256)=(a:Int)+(b:Int)*256:=by
 have h:=GN .u16 8 16 a b (λn h0 h1=>by rw[IntKind.wrap_u16];omega) (by decide) (by decide) ha (by omega)
 simpa using h
theorem zk(s:tBA)(i:Nat)(h:i<s.size):at' (BL s) i=s[i].toNat:=by
 have e:(BL s)[i]?=some s[i]:=by rw[List.getElem?_eq_getElem (by rw[LY];exact h),aao s i h]
 simp[at',e]
theorem Kb(a b c d:Nat)(ha:a<256)(hb:b<256)(hc:c<256)(hd:d<256):wrap32 ((a:Int)+(b:Int)*256+(c:Int)*65536+(d:Int)*16777216)=xA (a+256*b+65536*c+16777216*d):=by unfold wrap32 xA;split<;>omega
theorem Dr(s:tBA)(w:tW)(h:4<=s.size)(hs:s.size<=maxLen):Calls prog 323 #[.string s] w λe w'=>e=.returned (.int .i32 (bA (BL s)))/\∃n,w'=w.drewN n:=by
 unfold maxLen at hs;have e0:=zk s 0 (by omega);have e1:=zk s 1 (by omega);have e2:=zk s 2 (by omega);have e3:=zk s 3 (by omega);have HN:af (bA (BL s)=xA (s[0].toNat+256*s[1].toNat+65536*s[2].toNat+16777216*s[3].toNat)):=by rw[af,bA,e0,e1,e2,e3]
 rw[HN.o];clear HN e0 e1 e2 e3;have l0:=(s[0]).toNat_lt;have l1:=(s[1]).toNat_lt;have l2:=(s[2]).toNat_lt;have l3:=(s[3]).toNat_lt;have p0:0<s.size:=by omega
 have p1:1<s.size:=by omega
 have p2:2<s.size:=by omega
 have p3:3<s.size:=by omega
 have i1:(1:Int)<(s.size:Int):=by omega
 have i2:(2:Int)<(s.size:Int):=by omega
 have i3:(3:Int)<(s.size:Int):=by omega
 have w0:IntKind.u32.wrap (s[0].toNat:Int)=s[0].toNat:=by rw[IntKind.wrap_u32];omega
 have w1:IntKind.u32.wrap (s[1].toNat:Int)=s[1].toNat:=by rw[IntKind.wrap_u32];omega
 have w2:IntKind.u32.wrap (s[2].toNat:Int)=s[2].toNat:=by rw[IntKind.wrap_u32];omega
 have w3:IntKind.u32.wrap (s[3].toNat:Int)=s[3].toNat:=by rw[IntKind.wrap_u32];omega
 have v1:IntKind.u32.wrap ((s[1].toNat:Int)*256)=(s[1].toNat:Int)*256:=by rw[IntKind.wrap_u32];omega
 have v2:IntKind.u32.wrap ((s[2].toNat:Int)*65536)=(s[2].toNat:Int)*65536:=by rw[IntKind.wrap_u32];omega
 have v3:IntKind.u32.wrap ((s[3].toNat:Int)*16777216)=(s[3].toNat:Int)*16777216:=by rw[IntKind.wrap_u32];omega
 have o1:=abY s[0].toNat s[1].toNat l0 l1;have o2:=abZ (s[0].toNat+s[1].toNat*256) s[2].toNat (by omega) l2;have o3:=ab0 (s[0].toNat+s[1].toNat*256+s[2].toNat*65536) s[3].toNat (by omega) l3;simp only[Int.natCast_add,Int.natCast_mul,Int.cast_ofNat_Int]at o2 o3;go_enter func323,ntmps323;go_wp2_with fail;go_quiet (fail);go_wp2_with fail;go_ret;refine⟨?_,nq,rfl⟩;show Ending.returned (.int .i32 (wrap32 _))=_
 rw[Kb _ _ _ _ l0 l1 l2 l3]
