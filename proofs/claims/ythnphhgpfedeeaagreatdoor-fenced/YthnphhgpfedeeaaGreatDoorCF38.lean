import Derived.Test.YthnphhgpfedeeaaGreatDoorCF31
namespace Go.Proofs.YthnphhgpfedeeaaGreatDoor
open Go.RowKit Tryz
open List renaming length_append->ab,getElem_mem->an,drop_eq_getElem_cons->ao,append_assoc->ar,take_succ_eq_append_getElem->ba,drop_length->bh,flatMap_cons->bj,getElem_cons_zero->bq,foldl_append->bt,length_cons->bO
open Nat renaming le_trans->al,zero_le->aE
set_option linter.all false
set_option maxRecDepth 100000
set_option maxHeartbeats 2000000
def zF(l:List tLB):List Value:=l.map (λs=>Value.string (T s))
theorem Q4(l:List tLB)(s:tLB):zF (l++[s])=zF l++[.string (T s)]:=by simp[zF]
structure af3(w0 w:tW)(v:Value)(l:List tLB):Prop where
 sl:Sl w 9 1 v l.length (zF l)
 lo:∀k,v.ownBlock=some k->w0.heap.size<=k
 md:aa ae w0 w
theorem af3.nil{w0 w:tW}(m:aa ae w0 w):af3 w0 w (.slice none 0 0) []:=⟨Sl.nil _ _ _,λk h=>(by cases h),m⟩
theorem af3.quiet{w0 w w':tW}{v:Value}{l:List tLB}(h:af3 w0 w v l)(m:aa ae w w'):af3 w0 w' v l:=⟨h.sl.ag m (λ_ _=>id),h.lo,h.md.trans m⟩
theorem af3.app{w0 w w':tW}{v v':Value}{l:List tLB}{s:tLB}(h:af3 w0 w v l)(hs:Sl w' 9 1 v' (l.length+1) (zF l++[.string (T s)]))(m:aa (λk=>v.ownBlock=some k) w w')(hl:∀k,v'.ownBlock=some k->v.ownBlock=some k\/w.heap.size<=k):af3 w0 w' v' (l++[s]):=by
 refine⟨?_,λk hk=>?_,h.md.step m (λi hi e=>by have:=h.lo i e;omega)⟩
 ·rw[Q4,ab];exact hs
 ·rcases hl k hk with e|e
  ·exact h.lo k e
  ·have:=h.md.size;omega
theorem af3.view{w0 w:tW}{v:Value}{l:List tLB}(h:af3 w0 w v l):∃o cap,v=.slice o l.length cap/\(0<l.length->∃g cs,o=some ⟨g,0,none⟩/\ak w g cs 9/\(∀k (h:k<l.length),cs[k]?=some (.string (T l[k])))/\∀k (h:k<l.length),w.cell? ⟨g,k,none⟩=some (.string (T l[k]))):=by
 obtain⟨o,cap,hv,h2⟩:=h.sl.view;refine⟨o,cap,hv,λhp=>?_⟩;obtain⟨g,cs,rfl,hb,ht,_⟩:=h2 hp;have key:∀k (h:k<l.length),w.cell? ⟨g,k,none⟩=some (.string (T l[k])):=λk hk=>by rw[aW hb ht k (by omega)];simp[zF,hk]
 refine⟨g,cs,rfl,hb,λk hk=>?_,key⟩;have:=key k hk
 rwa [hb.cell]at this
theorem Lv{w w':tW}{a:Addr}{v:Value}(m:aa ae w w')(h:w.cell? a=some v):w'.cell? a=some v:=by
 have hl:a.block<w.heap.size:=by
  unfold World.cell? at h;cases hq:w.heap[a.block]? with
  |none=>rw[hq]at h;simp at h
  |some x=>exact(Array.getElem?_eq_some_iff.1 hq).1
 unfold World.cell? at h ⊢;rw[m.block a.block hl id];exact h
theorem QV(x:PI)(h:eU x):x.o.slots<=2:=by rcases h.slots with e|e<;>omega
def E5(kd:Nat)(s:tLB):List az×List aS×PR :=
 let a:=bU 4 ⟨s,false⟩
 let r1:=aI (a.1==[83,80,79,76]) a.2
 let b:=oneP r1
 let r2:=aI (decide (b.1=kd)) b.2
 let c:=oneP r2
 let m:=mapsP c.1 (aI (decide (c.1<=8)) c.2) [] []
 let f:=jH m.2
 (m.1,f.1,f.2)
theorem akG{kd:Nat}{s:tLB}{a1:tLB}{q1 q2:PR}{n3:Nat}{q3 q4:PR}{ms:List az}{q5:PR}{fs:List aS}{q6:PR}(h1:bU 4 ⟨s,false⟩=(a1,q1))(h2:aI (a1==[83,80,79,76]) q1=q2)(h3:oneP q2=(n3,q3))(h4:aI (decide (n3=kd)) q3=q4)(h5:mapsP (oneP q4).1 (aI (decide ((oneP q4).1<=8)) (oneP q4).2) [] []=(ms,q5))(h6:jH q5=(fs,q6)):E5 kd s=(ms,fs,q6):=by unfold E5;simp only[h1,h2,h3,h4,h5,h6]
theorem akH(kd:Nat)(rk:FuncId)(en:∀args w,(callFunc rk args).run prog w=.ok (.enter rk args) w)(w:tW)(wT:tW)(tv:Value)(bs:List Nat)(hT:aH 0 wT tv bs aq)(mT:aa ae wT w)(s:tLB)(hs:s.length<=maxLen)(q7:PR)(hR:((E5 kd s).1.length<=1000/\(E5 kd s).2.1.length<=256/\(∀f∈(E5 kd s).2.1,f.code.length<=2000)/\(E5 kd s).2.2.rest.length<=maxLen)->∀w b o1 c1 vF vs,dM w b (E5 kd s).2.2->aa ae wT w->wT.heap.size<=b->pG w wT.heap.size bs vF (E5 kd s).2.1 vs->Calls prog rk #[.pointer (some ⟨b,0,none⟩),.agg #[.slice o1 (E5 kd s).1.length c1,vF]] w λe w'=>e=.returned (.tuple #[])/\dM w' b q7/\aa (Only b) w w'):Calls prog 61 #[tv,.int .i64 kd,.string (T s),.func (.func rk) #[] #[]] w λe w'=>mZ w bs ((E5 kd s).1,(E5 kd s).2.1,aI (q7.rest==[]) q7) e w':=by
 obtain⟨oT,cT,hv,_⟩:=hT.sl.view;subst hv;have HT:=ai hT;have Cv:=ai mT;clear hT mT;have hTw:=Cv.o.size;obtain⟨a1,q1,h1⟩:∃a q,bU 4 ⟨s,false⟩=(a,q):=⟨_,_,rfl⟩
 obtain⟨q2,h2⟩:∃q2,aI (a1==[83,80,79,76]) q1=q2:=⟨_,rfl⟩
 obtain⟨n3,q3,h3⟩:∃a q,oneP q2=(a,q):=⟨_,_,rfl⟩
 obtain⟨q4,h4⟩:∃q,aI (decide (n3=kd)) q3=q:=⟨_,rfl⟩
 obtain⟨ms,q5,h5⟩:∃a q,mapsP (oneP q4).1 (aI (decide ((oneP q4).1<=8)) (oneP q4).2) [] []=(a,q):=⟨_,_,rfl⟩
 obtain⟨fs,q6,h6⟩:∃a q,jH q5=(a,q):=⟨_,_,rfl⟩
 rw[akG h1 h2 h3 h4 h5 h6]at hR ⊢;dsimp only at hR ⊢;have l1:q1.rest.length<=maxLen:=by have:=take_len 4 ⟨s,false⟩;rw[h1]at this;exact al this hs
 have l2:q2.rest.length<=maxLen:=by rw[<-h2];exact l1
 have l3:q3.rest.length<=maxLen:=by have:=fP q2;rw[h3]at this;exact al this l2
 have l4:q4.rest.length<=maxLen:=by rw[<-h4];exact l3
 have l5:q5.rest.length<=maxLen:=by have:=yJ (oneP q4).1 (aI (decide ((oneP q4).1<=8)) (oneP q4).2) [] [];rw[h5]at this;exact al this (al (fP q4) l4)
 have m5:ms.length<=1000:=by have:=yO (oneP q4).1 (aI (decide ((oneP q4).1<=8)) (oneP q4).2) [] [];rw[h5]at this;have:=yN q4;simp at *;omega
 obtain⟨f6,c6,l6⟩:=Bi q5;rw[h6]at f6 c6 l6;simp only at f6 c6 l6;have l6':=al l6 l5;have C1:af (∀w b,dM w b ⟨s,false⟩->Calls prog 97 #[.pointer (some ⟨b,0,none⟩),.int .i64 4] w λe w'=>e=.returned (.string (T a1))/\dM w' b q1/\aa (Only b) w w'):=λw b h=>by have:=oq b ⟨s,false⟩ 4 w h hs (by decide);rw[h1]at this;exact this
 have C2:af (∀w b,dM w b q1->Calls prog 96 #[.pointer (some ⟨b,0,none⟩),.bool (a1==[83,80,79,76])] w λe w'=>e=.returned (.tuple #[])/\dM w' b q2/\aa (Only b) w w'):=λw b h=>by have:=bI b q1 (a1==[83,80,79,76]) w h;rw[h2]at this;exact this
 have C3:af (∀w b,dM w b q2->Calls prog 98 #[.pointer (some ⟨b,0,none⟩)] w λe w'=>e=.returned (.int .i64 n3)/\dM w' b q3/\aa (Only b) w w'):=λw b h=>by have:=kY b q2 w h l2;rw[h3]at this;exact this
 have C4:af (∀w b,dM w b q3->Calls prog 96 #[.pointer (some ⟨b,0,none⟩),.bool ((n3:Int)==kd)] w λe w'=>e=.returned (.tuple #[])/\dM w' b q4/\aa (Only b) w w'):=λw b h=>by
  have:=bI b q3 (decide (n3=kd)) w h;rw[h4]at this
  rwa [show((n3:Int)==kd)=decide (n3=kd) by rw[Bool.eq_iff_iff];simp;omega]
 have C5:af (∀w b,dM w b q4->Calls prog 99 #[.pointer (some ⟨b,0,none⟩)] w λe w'=>AZ w b q5 ms e w'):=λw b h=>by have:=Dq b q4 w h l4;rw[h5]at this;exact this
 have C6:af (∀w b,dM w b q5->aa ae wT w->wT.heap.size<=b->Calls prog 100 #[.pointer (some ⟨b,0,none⟩),.slice oT bs.length cT] w λe w'=>yL w b bs q6 fs e w'):=λw b h m hb=>by have:=Dv w b q5 h l5 wT _ bs HT.o m hb;rw[h6]at this;exact this
 have C7:=ai (hR ⟨m5,f6,c6,l6'⟩);clear hR h1 h2 h3 h4 h5 h6 l1 l2 l3 l4 l5 l6 l6' m5 f6 c6 HT
 have D0:af (zM w ⟨s,false⟩ ((w.alloc (.cells #[.slice none 0 0,.slice none 0 0] 90)).alloc (.cells #[.string (T s),.bool false] 194))) :=
  ⟨by have:=ak.new (w.alloc (.cells #[.slice none 0 0,.slice none 0 0] 90)) #[.string (T s),.bool false] 194;simpa [dM]using this,(ak.new _ _ _).alloc _,aj.alloc _⟩
 have hcmp:((T a1).toList==[83,80,79,76])=(a1==[83,80,79,76]):=by simp[T]
 have hb:wT.heap.size<=w.heap.size+1:=by omega
 go_enter func61,ntmps61;go_wp2_with fail;refine(C1.o _ _ D0.o.rd).mono ?_;rintro e w1 ⟨rfl,h1,m1⟩;have D1:=ai (D0.o.read h1 m1);clear D0 h1 m1;go_wp2_with fail;refine(C2.o _ _ D1.o.rd).mono ?_;rintro e w2 ⟨rfl,h2,m2⟩;have D2:=ai (D1.o.read h2 m2);clear D1 h2 m2;go_wp2_with fail;refine(C3.o _ _ D2.o.rd).mono ?_;rintro e w3 ⟨rfl,h3,m3⟩;have D3:=ai (D2.o.read h3 m3);clear D2 h3 m3;go_wp2_with fail;refine(C4.o _ _ D3.o.rd).mono ?_;rintro e w4 ⟨rfl,h4,m4⟩;have D4:=ai (D3.o.read h4 m4);clear D3 h4 m4;go_wp2_with fail;refine(C5.o _ _ D4.o.rd).mono ?_;rintro e w5 ⟨vM,rfl,hM⟩;obtain⟨oM,cM,rfl,_⟩:=hM.sl.view;have D5:=ai (D4.o.read hM.rd hM.md);have iC:=ai hM.sl;have ZK:=ai hM.sl.lt;clear D4 hM;have TD:af (zM w q5 (w5.alloc (.cells #[.slice oM ms.length cM,.slice none 0 0] 90))):=⟨ak.alloc D5.o.rd _,D5.o.rs.alloc _,D5.o.md.alloc _⟩
 have HPb:af (ak (w5.alloc (.cells #[.slice oM ms.length cM,.slice none 0 0] 90)) w5.heap.size #[.slice oM ms.length cM,.slice none 0 0] 90):=ak.new _ _ _;have Kq:af (Sl (w5.alloc (.cells #[.slice oM ms.length cM,.slice none 0 0] 90)) 100 4 (.slice oM ms.length cM) ms.length (ms.flatMap az.cells)):=iC.o.ag ((aa.refl ae _).alloc _) (λ_ _=>id);have h5s:w.heap.size+1<w5.heap.size:=D5.o.rd.lt;clear D5 iC;go_wp2_with fail;refine(C6.o _ _ TD.o.rd (Cv.o.trans TD.o.md) hb).mono ?_;rintro e w6 ⟨vF,vs,rfl,h6,hF,m6⟩;obtain⟨oF,cF,rfl,_⟩:=hF.sl.view;have D6:af (zM w q6 w6):=TD.o.read h6 m6;have Bj:af (ak w6 w5.heap.size #[.slice oM ms.length cM,.slice none 0 0] 90):=HPb.o.ag m6 (show ¬w5.heap.size=w.heap.size+1 by omega);have sW:af (Sl w6 100 4 (.slice oM ms.length cM) ms.length (ms.flatMap az.cells)):=Kq.o.ag m6 (λk hk e=>Kq.o.au TD.o.rd (by decide) (hk.trans (congrArg some e)));have XE:af (pG w6 (w5.heap.size+1) bs (.slice oF fs.length cF) fs vs):=by have h':=hF;simp at h';exact h'
 clear h6 hF m6 TD HPb Kq;have y1:w6.cell? ⟨w5.heap.size,1,none⟩=some (.slice none 0 0):=Bj.o.cell 1;have f1:=Bj.o.frozen 1;have EY:af (ak (w6.setCell ⟨w5.heap.size,1,none⟩ (.slice oF fs.length cF)) w5.heap.size #[.slice oM ms.length cM,.slice oF fs.length cF] 90):=Bj.o.set 1 _;have D7:af (zM w q6 (w6.setCell ⟨w5.heap.size,1,none⟩ (.slice oF fs.length cF))):=⟨ak.setOther D6.o.rd (show w5.heap.size≠w.heap.size+1 by omega) _,ak.setOther D6.o.rs (show w5.heap.size≠w.heap.size by omega) _,D6.o.md.set (.inr (show w.heap.size<=w5.heap.size by omega)) _⟩
 have xG:af (Sl (w6.setCell ⟨w5.heap.size,1,none⟩ (.slice oF fs.length cF)) 100 4 (.slice oM ms.length cM) ms.length (ms.flatMap az.cells)):=sW.o.ag ((aa.refl (Only w5.heap.size) w6).aY _ _) (λk hk e=>sW.o.au Bj.o (by decide) (hk.trans (congrArg some e)));have HF7:af (pG (w6.setCell ⟨w5.heap.size,1,none⟩ (.slice oF fs.length cF)) (w5.heap.size+1) bs (.slice oF fs.length cF) fs vs):=XE.o.ag ((aa.refl (Only w5.heap.size) w6).aY _ _) (λk hk e=>by have:=XE.o.own k hk;have:k=w5.heap.size:=e;omega) (λu hu k hk e=>by have:=XE.o.l8 u hu k hk;have:k=w5.heap.size:=e;omega);have z0:(w6.setCell ⟨w5.heap.size,1,none⟩ (.slice oF fs.length cF)).cell? ⟨w5.heap.size,0,none⟩=some (.slice oM ms.length cM):=EY.o.cell 0;have z1:(w6.setCell ⟨w5.heap.size,1,none⟩ (.slice oF fs.length cF)).cell? ⟨w5.heap.size,1,none⟩=some (.slice oF fs.length cF):=EY.o.cell 1;clear Bj sW XE D6;go_wp2_with fail;refine(C7.o _ _ _ _ _ vs D7.o.rd (Cv.o.trans D7.o.md) hb (HF7.o.lower (by omega))).mono ?_;rintro e w8 ⟨rfl,h8,m8⟩;have D8:=ai (D7.o.read h8 m8);have TE:af (ak w8 w5.heap.size #[.slice oM ms.length cM,.slice oF fs.length cF] 90):=EY.o.ag m8 (show ¬w5.heap.size=w.heap.size+1 by omega);have FV:af (Sl w8 100 4 (.slice oM ms.length cM) ms.length (ms.flatMap az.cells)):=xG.o.ag m8 (λk hk e=>xG.o.au D7.o.rd (by decide) (hk.trans (congrArg some e)));have HF8:=ai (HF7.o.read D7.o.rd m8);clear h8 m8 D7 EY xG HF7 z0 z1 y1 f1;obtain⟨r7,b7⟩:=q7;have x0:w8.cell? ⟨w.heap.size+1,0,none⟩=some (.string (T r7)):=D8.o.rd.cell 0;go_wp2_with fail;refine(bI _ _ _ _ D8.o.rd).mono ?_;rintro e w9 ⟨rfl,h9,m9⟩;simp only;rw[show(T r7).toList=r7 by simp[T]]at h9;have D9:=ai (D8.o.read h9 m9);have TF:af (ak w9 w5.heap.size #[.slice oM ms.length cM,.slice oF fs.length cF] 90):=TE.o.ag m9 (show ¬w5.heap.size=w.heap.size+1 by omega);have HM9:af (Sl w9 100 4 (.slice oM ms.length cM) ms.length (ms.flatMap az.cells)):=FV.o.ag m9 (λk hk e=>FV.o.au D8.o.rd (by decide) (hk.trans (congrArg some e)));have HF9:=ai (HF8.o.read D8.o.rd m9);clear h9 m9 D8 TE FV HF8 x0;have HQ:af (∃q8,aI r7.isEmpty ⟨r7,b7⟩=q8):=⟨_,rfl⟩
 obtain⟨⟨r8,b8⟩,hq8⟩:=HQ.o;rw[hq8]at D9;have HQ8:=ai hq8;clear hq8 HQ;have x1:w9.cell? ⟨w.heap.size+1,1,none⟩=some (.bool b8):=D9.o.rd.cell 1;have g0:w9.cell? ⟨w.heap.size,0,none⟩=some (.slice none 0 0):=D9.o.rs.cell 0;have g1:w9.cell? ⟨w.heap.size,1,none⟩=some (.slice none 0 0):=D9.o.rs.cell 1;have fg:=D9.o.rs.frozen;cases b8 with
 |true =>go_wp2_with fail;refine bodyPost_ret (aw results61 _ _ w.heap.size 90 _ (0,0) _ _ rfl rfl ((D9.o.rs.set 0 _).set 1 _) underlying90 rfl (by kernel_rfl)) rfl ?_;rw[HQ8.o];exact⟨_,_,[],rfl,(D9.o.md.set (.inr (Nat.le_refl _)) _).set (.inr (Nat.le_refl _)) _,⟨_,_,_,_,_,_,rfl,rfl⟩,λh=>(by cases h)⟩
 |false =>have z0:w9.cell? ⟨w5.heap.size,0,none⟩=some (.slice oM ms.length cM):=TF.o.cell 0;have z1:w9.cell? ⟨w5.heap.size,1,none⟩=some (.slice oF fs.length cF):=TF.o.cell 1;have HB:af (ak ((w9.setCell ⟨w.heap.size,0,none⟩ (.slice oM ms.length cM)).setCell ⟨w.heap.size,1,none⟩ (.slice oF fs.length cF)) w.heap.size #[.slice oM ms.length cM,.slice oF fs.length cF] 90):=(D9.o.rs.set 0 _).set 1 _;have eZ:af (aa (Only w.heap.size) w9 ((w9.setCell ⟨w.heap.size,0,none⟩ (.slice oM ms.length cM)).setCell ⟨w.heap.size,1,none⟩ (.slice oF fs.length cF))):=(ax.aY _ _).aY _ _;go_wp2_with fail;refine bodyPost_ret (aw results61 _ _ w.heap.size 90 _ (0,0) _ _ rfl rfl HB.o underlying90 rfl (by kernel_rfl)) rfl ?_;rw[HQ8.o];exact⟨_,_,vs,rfl,D9.o.md.step eZ.o (λi hi e=>by have:i=w.heap.size:=e;omega),⟨_,_,_,_,_,_,rfl,rfl⟩,λ_=>⟨HM9.o.ag eZ.o (λk hk e=>HM9.o.au D9.o.rs (by decide) (hk.trans (congrArg some e))),((HF9.o.ag eZ.o (λk hk e=>by have:=HF9.o.own k hk;have:k=w.heap.size:=e;omega) (λu hu k hk e=>by have:=HF9.o.l8 u hu k hk;have:k=w.heap.size:=e;omega)).lower (by omega))⟩⟩
def tJ(k:Int)(n:Nat):Bool:=decide (0<=k)&&decide (k<n)
def Yc(m f:Nat)(x:PI)(r:PR):PR:=if x.aO=1 then aI (tJ x.num f) r else if x.aO=2 then aI (tJ x.num m) r else r
def BO(m f:Nat)(l:List PI)(r:PR):PR:=l.foldl (λr x=>Yc m f x r) r
def BP(m f:Nat)(l:List aS)(r:PR):PR:=l.foldl (λr g=>BO m f g.code r) r
theorem Qf(m f:Nat)(l:List PI)(r:PR)(k:Nat)(h:k<l.length):BO m f (l.take (k+1)) r=Yc m f l[k] (BO m f (l.take k) r):=by unfold BO;rw[ba h,bt];rfl
theorem Qg(m f:Nat)(l:List aS)(r:PR)(k:Nat)(h:k<l.length):BP m f (l.take (k+1)) r=BO m f l[k].code (BP m f (l.take k) r):=by unfold BP;rw[ba h,bt];rfl
theorem KS(w:tW)(o:Option Addr)(n c:Nat)(k:Int)(h0:-2147483648<=k)(h1:k<=2147483647)(hn:n<=100000):Calls prog 101 #[.slice o n c,.int .i32 k] w λe w'=>e=.returned (.bool (tJ k n))/\w'=w:=by
 unfold tJ;by_cases hk:0<=k
 ·rw[decide_eq_true hk,Bool.true_and];go_enter func101,ntmps101;go_wp2_with fail;go_ret;exact⟨rfl,rfl⟩
 ·rw[decide_eq_false hk,Bool.false_and];go_enter func101,ntmps101;go_wp2_with fail;go_ret;exact⟨rfl,rfl⟩
theorem KT(w:tW)(o:Option Addr)(n c:Nat)(k:Int)(h0:-2147483648<=k)(h1:k<=2147483647)(hn:n<=100000):Calls prog 102 #[.slice o n c,.int .i32 k] w λe w'=>e=.returned (.bool (tJ k n))/\w'=w:=by
 unfold tJ;by_cases hk:0<=k
 ·rw[decide_eq_true hk,Bool.true_and];go_enter func102,ntmps102;go_wp2_with fail;go_ret;exact⟨rfl,rfl⟩
 ·rw[decide_eq_false hk,Bool.false_and];go_enter func102,ntmps102;go_wp2_with fail;go_ret;exact⟨rfl,rfl⟩
structure uz(w:tW)(rb:Nat)(q:PR)(w':tW):Prop where
 rd:dM w' rb q
 md:aa (Only rb) w w'
theorem uz.quiet{w w' w'':tW}{rb:Nat}{q:PR}(h:uz w rb q w')(m:aa ae w' w''):uz w rb q w'':=⟨h.rd.ag m id,h.md.trans (m.of_nil)⟩
theorem uz.read{w w' w'':tW}{rb:Nat}{q q':PR}(h:uz w rb q w')(hr:dM w'' rb q')(m:aa (Only rb) w' w''):uz w rb q' w'':=⟨hr,h.md.trans m⟩
theorem uz.fns{w w':tW}{rb lo:Nat}{q q0:PR}{bs:List Nat}{v:Value}{fs:List aS}{vs:List Value}(h:uz w rb q w')(hr:dM w rb q0)(hF:pG w lo bs v fs vs):pG w' lo bs v fs vs :=
 hF.ag h.md (λk hk e=>hF.sl.au hr (by decide) (hk.trans (congrArg some e))) (λu hu k hk e=>by obtain⟨i,hi,rfl⟩:=List.getElem_of_mem hu;exact(hF.cd i (by rw[<-hF.len];exact hi) hi).au hr (by decide) (hk.trans (congrArg some e)))
set_option linter.all false
theorem aka{w:tW}{tv:Value}{bs:List Nat}(hO:aH 0 w tv bs aq)(x:PI)(hx:eU x/\x.aO=0):Calls prog 84 #[.agg #[.pointer (some ⟨bs[x.k]?.getD 0,0,none⟩),.int .u8 x.d,.int .u8 x.s,.int .i16 x.jump,.int .i32 x.num,.int .i32 x.high,.string ByteArray.empty,.string (T x.name)]] w λe w2=>e=.returned (.int .i64 0)/\aa ae w w2:=by have:=jJ w _ x.o (jI hO x hx.1.k) x.d x.s x.num x.high x.jump ByteArray.empty (T x.name);rw[show(if x.s=1 then x.o.aO else 0)=0 from hx.2]at this;exact this
theorem amk{w:tW}{o:Option Addr}{c:Nat}{a b:Value}(h:Sl w 96 2 (.slice o 1 c) 1 [a,b]):∃g,o=some ⟨g,0,none⟩/\w.cell? ⟨g,0,none⟩=some a/\w.cell? ⟨g,1,none⟩=some b:=by obtain⟨o',c',hv,h2⟩:=h.view;cases hv;obtain⟨g,cs,rfl,hb,ht,_⟩:=h2 (by omega);exact⟨g,rfl,aW hb ht 0 (by omega),aW hb ht 1 (by omega)⟩
theorem aky{w:tW}{lo:Nat}{bs:List Nat}{v:Value}{f:aS}{vs:List Value}(h:pG w lo bs v [f] vs):∃oF cF oC cC,v=.slice oF 1 cF/\Sl w 96 2 (.slice oF 1 cF) 1 [.string (T f.name),.slice oC f.code.length cC]/\Sl w 138 8 (.slice oC f.code.length cC) f.code.length (xe bs f.code):=by obtain⟨oF,cF,jZ,_⟩:=h.sl.view;obtain⟨vC,hvs⟩:=List.length_eq_one_iff.1 h.len;have pF:=h.cd 0 (by simp) (by rw[hvs];simp);have hsl:=h.sl;simp only[hvs,bq]at pF hsl;obtain⟨oC,cC,hvC,_⟩:=pF.view;subst hvC;rw[jZ]at hsl;exact⟨oF,cF,oC,cC,jZ,hsl,pF⟩
theorem alJ(wT w:tW)(tv:Value)(bs:List Nat)(hT:aH 0 wT tv bs aq)(mT:aa ae wT w)(b:Nat)(hb:wT.heap.size<=b)(q:PR)(hR:dM w b q)(hl:q.rest.length<=maxLen)(o1:Option Addr)(n1 c1:Nat)(vF:Value)(vs:List Value)(f:aS)(hF:pG w wT.heap.size bs vF [f] vs)(hc:f.code.length<=2000)(hr:∀x∈f.code,x.aO=0):Calls prog 156 #[.pointer (some ⟨b,0,none⟩),.agg #[.slice o1 n1 c1,vF]] w λe w'=>e=.returned (.tuple #[])/\dM w' b (aI (decide ((iY q).1=0)) (iY q).2)/\aa (Only b) w w':=by
 have H2:=ai (λW (h:dM W b q)=>EU b q W h hl);have HFW:af (∀w',uz w b (iY q).2 w'->aH 0 w' tv bs aq/\pG w' wT.heap.size bs vF [f] vs):=λw' h=>⟨hT.ag (mT.step h.md (λi hi e=>by have e':i=b:=e;omega)),h.fns hR hF⟩
 have uH:af (∀x∈f.code,eU x/\x.aO=0):=λx hx=>⟨hF.ok f (by simp) x hx,hr x hx⟩
 have m0:aa ae w (w.alloc (.cells #[.slice o1 n1 c1,vF] 90)):=aj;have iA:af (dM (w.alloc (.cells #[.slice o1 n1 c1,vF] 90)) b q):=ak.alloc hR _;have HB0:af (ak (w.alloc (.cells #[.slice o1 n1 c1,vF] 90)) w.heap.size #[.slice o1 n1 c1,vF] 90):=ak.new _ _ _;have eX:=ai m0;have Ro:af (¬w.heap.size=b):=by have:=hR.lt;unfold af;omega
 obtain⟨oF,cF,oC,cC,hv,_,_⟩:=aky hF;subst hv;have htw:=Tt q;clear hT mT hF hR hr hl m0;generalize iY q=r1 at *;obtain⟨lf,q1⟩:=r1;simp only at *;go_enter func156,ntmps156;go_wp2_with fail;refine(H2.o _ iA.o).mono ?_;rintro e w1 ⟨rfl,h1,m1⟩;have hN:uz w b q1 w1:=⟨h1,(eX.o.mono (λ_ _ h=>h.elim)).trans m1⟩
 obtain⟨hO1,hF1⟩:=HFW.o w1 hN;obtain⟨oF2,cF2,oC2,cC2,hv,hrow,pF⟩:=aky hF1;cases hv;obtain⟨gF,rfl,f0,f1⟩:=amk hrow;have HF0:=ai f0;have HF1:=ai f1;have PM:=ai pF;have HO:=ai hO1;have HN:=ai hN;have x1:w1.cell? ⟨w.heap.size,1,none⟩=some (.slice (some ⟨gF,0,none⟩) 1 cF):=(HB0.o.ag m1 Ro.o).cell 1;clear h1 m1 hN hO1 hF1 hrow pF f0 f1 HB0 iA HFW H2 eX;generalize f.code=code at *;generalize T f.name=nm at *;go_wp2_with fail;clear x1;go_loopg [4,15] 1 (λq lv iv wx=>lv=.int .i64 lf/\((iv=.int .i64 0/\aa ae w1 wx/\q=1)\/(iv=.int .i64 1/\aa ae w1 wx/\q=0)))
 case atStart=>exact⟨rfl,.inl ⟨rfl,ax,rfl⟩⟩
 case round =>
  rcases hrel with⟨rfl,⟨rfl,hm,rfl⟩ |⟨rfl,hm,rfl⟩⟩
  ·have f0:=Lv hm HF0.o;have f1:=Lv hm HF1.o;go_wp2_with fail;have dw:af (aa ae w1 (wr.alloc (.cells #[.string nm,.slice oC2 code.length cC2] 96))):=hm.alloc _;have HB3:af (ak (wr.alloc (.cells #[.string nm,.slice oC2 code.length cC2] 96)) wr.heap.size #[.string nm,.slice oC2 code.length cC2] 96):=ak.new _ _ _;generalize wr.alloc (.cells #[.string nm,.slice oC2 code.length cC2] 96)=w2 at *;generalize wr.heap.size=F at *;clear f0 f1 hm;go_loopg [4,7,23] code.length (λq lv sv iv wx=>lv=.int .i64 lf/\∃(j:Nat) (s:Int),iv=.int .i64 j/\sv=.int .i64 s/\0<=s/\s<=j*100/\aa ae w1 wx/\ak wx F #[.string nm,.slice oC2 code.length cC2] 96/\j<=code.length/\q=code.length-j)
   case atStart=>exact⟨rfl,0,0,rfl,rfl,by omega,by omega,dw.o,HB3.o,aE _,rfl⟩
   case round =>
    clear dw HB3;obtain⟨rfl,j,s,rfl,rfl,hs0,hs1,hm,hbk,hj,rfl⟩:=hrel;by_cases hjl:j<code.length
    ·obtain⟨g,rfl,hg,y0,y1,y2,y3,y4,y5,y6,y7⟩:=kZ (PM.o.ag hm (λ_ _=>id)) rfl rfl j hjl;have hx:=uH.o code[j] (an hjl);have AY:=ai (aka (HO.o.ag hm) code[j] hx);have ET:af (∀w',aa ae wr w'->w'.cell? ⟨bs[code[j].k]?.getD 0,2,none⟩=some (.int .i64 code[j].o.slots)/\w'.cell? ⟨g,j*8,none⟩=some (.pointer (some ⟨bs[code[j].k]?.getD 0,0,none⟩))):=λw' m=>⟨(jI (HO.o.ag (hm.trans m)) code[j] hx.1.k).cells.1,Lv m y0⟩
     have hsl:=QV code[j] hx.1;have z1:wr.cell? ⟨F,1,none⟩=some (.slice (some ⟨g,0,none⟩) code.length cC2):=hbk.cell 1;have NI:=ai hm;have HBr:=ai hbk;clear hm hbk hx;generalize code[j].o.slots=sn at *;generalize code[j].jump=jmp at *;generalize code[j].d=xd at *;generalize code[j].s=xs at *;generalize code[j].num=xn at *;generalize code[j].high=xh at *;generalize T code[j].name=xm at *;generalize bs[code[j].k]?.getD 0=bo at *;go_wp2_with fail;refine AY.o.mono ?_;rintro e w5 ⟨rfl,m5⟩;obtain⟨u2,u0⟩:=ET.o w5 m5;have iC:=ai (NI.o.trans m5);have iT:=ai (HBr.o.ag m5 id);clear m5 y0 y1 y2 y3 y4 y5 y6 y7 z1 AY NI HBr ET;go_wp2_with fail;go_roundg (code.length-(j+1))
     case measure=>omega
     case rel=>exact⟨rfl,j+1,s+sn,by go_num,by go_num,by omega,by push_cast;omega,iC.o,iT.o,by omega,rfl⟩
    ·go_wp2_with fail;go_roundg 0
     case measure=>omega
     case rel=>exact⟨rfl,.inr ⟨by go_num,hm,rfl⟩⟩
  ·have HNr:=ai (HN.o.quiet hm);have e:((lf:Int)==0)=decide (lf=0):=by rw[Bool.eq_iff_iff];simp
   clear hm;go_wp2_with fail;refine(bI b q1 (decide (lf=0)) wr HNr.o.rd).mono ?_;rintro e w7 ⟨rfl,h7,m7⟩;have HN7:=ai (HNr.o.read h7 m7);clear h7 m7 HNr;go_wp2_with fail;go_end0;exact⟨rfl,HN7.o.rd,HN7.o.md⟩
theorem akI(w:tW)(tv:Value)(bs:List Nat)(s:tBA)(d:List az×List aS×PR)(HD:af (∀w',aa ae w w'->Calls prog 61 #[tv,.int .i64 1,.string s,.func (.func 156) #[] #[]] w' λe w''=>mZ w' bs d e w'')):Calls prog 78 #[tv,.string s] w λe w'=>mZ w bs d e w':=by
 have hB:ak (w.alloc (.cells #[.slice none 0 0,.slice none 0 0] 90)) w.heap.size #[.slice none 0 0,.slice none 0 0] 90:=ak.new _ _ _;have HB:af (ak (w.alloc (.cells #[.slice none 0 0,.slice none 0 0] 90)) w.heap.size #[.slice none 0 0,.slice none 0 0] 90):=hB;clear hB;go_enter func78,ntmps78;go_wp2_with fail;refine(HD.o _ aj).mono ?_;rintro e w1 ⟨vM,vF,vs,rfl,m1,⟨oM,nM,cM,oF,nF,cF,rfl,rfl⟩,hgood⟩;have hB1:=HB.o.ag m1 id;have HB1:af (ak w1 w.heap.size #[.slice none 0 0,.slice none 0 0] 90):=hB1;have g0:w1.cell? ⟨w.heap.size,0,none⟩=some (.slice none 0 0):=hB1.cell 0;have g1:w1.cell? ⟨w.heap.size,1,none⟩=some (.slice none 0 0):=hB1.cell 1;have fg:=hB1.frozen;have dh:af (aa ae w w1):=aj.trans m1;have HG:af _:=hgood;clear m1 hB1 hgood;have eZ:af (aa (Only w.heap.size) w1 ((w1.setCell ⟨w.heap.size,0,none⟩ (.slice oM nM cM)).setCell ⟨w.heap.size,1,none⟩ (.slice oF nF cF))):=(ax.aY _ _).aY _ _;have Pm:af (ak ((w1.setCell ⟨w.heap.size,0,none⟩ (.slice oM nM cM)).setCell ⟨w.heap.size,1,none⟩ (.slice oF nF cF)) w.heap.size #[.slice oM nM cM,.slice oF nF cF] 90):=(HB1.o.set 0 _).set 1 _;go_wp2_with fail;refine bodyPost_ret (aw results78 _ _ w.heap.size 90 _ (0,0) _ (.bool (!d.2.2.bad)) rfl rfl Pm.o underlying90 rfl (by kernel_rfl)) rfl ?_;refine⟨.slice oM nM cM,.slice oF nF cF,vs,rfl,dh.o.step eZ.o (λi hi e=>by have:i=w.heap.size:=e;omega),⟨_,_,_,_,_,_,rfl,rfl⟩,λhb=>?_⟩;obtain⟨hM,hF⟩:=HG.o hb;have hws:(w.alloc (.cells #[.slice none 0 0,.slice none 0 0] 90)).heap.size=w.heap.size+1:=by simp
 rw[hws]at hF;exact⟨hM.ag eZ.o (λk hk e=>hM.au HB1.o (by decide) (hk.trans (congrArg some e))),(hF.ag eZ.o (λk hk e=>by have:=hF.own k hk;have:k=w.heap.size:=e;omega) (λu hu k hk e=>by have:=hF.l8 u hu k hk;have:k=w.heap.size:=e;omega)).lower (by omega)⟩
def akz(s:tLB)(f:aS):Prop:=∃q,E5 1 s=([],[f],q)/\aI ((aI (decide ((iY q).1=0)) (iY q).2).rest==[]) (aI (decide ((iY q).1=0)) (iY q).2)=⟨[],false⟩
theorem akJ(w:tW)(wT:tW)(tv:Value)(bs:List Nat)(hT:aH 0 wT tv bs aq)(mT:aa ae wT w)(s:tLB)(hs:s.length<=maxLen)(f:aS)(hf:akz s f)(hr:∀x∈f.code,x.aO=0):Calls prog 78 #[tv,.string (T s)] w λe w'=>mZ w bs ([],[f],⟨[],false⟩) e w':=by obtain⟨q,h1,h2⟩:=hf;refine akI w tv bs (T s) _ (λw' m=>?_);have:=akH 1 156 (enters_of func156 (by kernel_rfl) rfl) w' wT tv bs hT (mT.trans m) s hs (aI (decide ((iY q).1=0)) (iY q).2) (λhb w b o1 c1 vF vs h m hbT hF=>by rw[h1]at h hF hb ⊢;exact alJ wT w tv bs hT m b hbT q h hb.2.2.2 o1 _ c1 vF vs f hF (hb.2.2.1 f (by simp)) hr);rw[h1,h2]at this;exact this
set_option linter.all false
theorem ak8(w:tW)(tv vO:Value)(l:tLB)(bs:List Nat)(vM vF:Value)(ms:List az)(f:aS)(vs:List Value)(hP:tC w tv bs vM vF ms [f] vs)(hE:EOk ms [f])(hn:∀x∈f.code,x.aO=0)(hO:Out w vO l)(hl:l.length<=300000):Calls prog 73 #[vO,vF] w λe w'=>lh w vO (l++b8 (ko 0)) e w':=by
 obtain⟨oF,cF,jZ,_⟩:=hP.rows.view;obtain⟨vC,hvs⟩:=List.length_eq_one_iff.1 hP.len;have pF:=hP.code 0 (by simp) (by rw[hvs];simp);have hsl:=hP.rows;simp only[hvs,bq]at pF hsl;obtain⟨oC,cC,hvC,_⟩:=pF.view;subst hvC;rw[jZ]at hsl;obtain⟨g2,ho,f0,f1⟩:=amk hsl;subst ho jZ;have HF0:=ai f0;have HF1:=ai f1;have PM:=ai pF;have zK:=ai hP.ops;have hok:=hE.fn f (by simp);have hcl:=hok.2.1;have uH:af (∀x∈f.code,eU x/\x.aO=0):=λx hx=>⟨hok.2.2 x hx,hn x hx⟩
 have HO:=ai hO;have HTW:=ai (λW (m:aa ae w W)=>Bq W vO l (hO.quiet m) (by omega) 0);clear hP hE hn hO hok hsl pF f0 f1 hvs;generalize f.code=code at *;generalize T f.name=nm at *;go_enter func73,ntmps73;go_wp2_with fail;go_loopg [5,6,14] 1 (λq lv cv iv wx=>lv=.slice none 0 0/\cv=.int .i64 0/\((iv=.int .i64 0/\aa ae w wx/\q=1)\/(iv=.int .i64 1/\aa ae w wx/\q=0)))
 case atStart=>exact⟨rfl,rfl,.inl ⟨rfl,ax,rfl⟩⟩
 case round =>
  rcases hrel with⟨rfl,rfl,⟨rfl,hm,rfl⟩ |⟨rfl,hm,rfl⟩⟩
  ·have f0:=Lv hm HF0.o;have f1:=Lv hm HF1.o;go_wp2_with fail;have dw:af (aa ae w (wr.alloc (.cells #[.string nm,.slice oC code.length cC] 96))):=hm.alloc _;generalize wr.alloc (.cells #[.string nm,.slice oC code.length cC] 96)=w2 at *;generalize wr.heap.size=F at *;clear f0 f1 hm;go_loopg [5,6,9,22] code.length (λq lv cv sv iv wx=>lv=.slice none 0 0/\cv=.int .i64 0/\∃(j:Nat) (s:Int),iv=.int .i64 j/\sv=.int .i64 s/\0<=s/\s<=j*100/\aa ae w wx/\j<=code.length/\q=code.length-j)
   case atStart=>exact⟨rfl,rfl,0,0,rfl,rfl,by omega,by omega,dw.o,aE _,rfl⟩
   case round =>
    clear dw;obtain⟨rfl,rfl,j,s,rfl,rfl,hs0,hs1,hm,hj,rfl⟩:=hrel;by_cases hjl:j<code.length
    ·obtain⟨g,lab,rfl,hg,y0,y1,y2,y3,y4,y5,y6,y7⟩:=Bl (PM.o.ag hm (λ_ _=>id)) rfl rfl j hjl;have hx:=uH.o code[j] (an hjl);have hO2:=zK.o.ag hm;have AY:af (∀w',aa ae wr w'->Calls prog 84 #[.agg #[.pointer (some ⟨bs[code[j].k]?.getD 0,0,none⟩),.int .u8 code[j].d,.int .u8 code[j].s,.int .i16 code[j].jump,.int .i32 code[j].num,.int .i32 code[j].high,.string lab,.string (T code[j].name)]] w' λe w2=>e=.returned (.int .i64 0)/\aa ae w' w2):=λw' m=>by have:=jJ w' _ code[j].o (jI (hO2.ag m) code[j] hx.1.k) code[j].d code[j].s code[j].num code[j].high code[j].jump lab (T code[j].name);rw[show(if code[j].s=1 then code[j].o.aO else 0)=0 from hx.2]at this;exact this
     have ET:af (∀w',aa ae wr w'->w'.cell? ⟨bs[code[j].k]?.getD 0,2,none⟩=some (.int .i64 code[j].o.slots)):=λw' m=>(jI (hO2.ag m) code[j] hx.1.k).cells.1;have hsl:=QV code[j] hx.1;have NI:=ai hm;clear hm hx hO2;generalize code[j].o.slots=sn at *;generalize code[j].jump=jmp at *;generalize code[j].d=xd at *;generalize code[j].s=xs at *;generalize code[j].num=xn at *;generalize code[j].high=xh at *;generalize T code[j].name=xm at *;generalize bs[code[j].k]?.getD 0=bo at *;have hbx:=ak.new wr #[.pointer (some ⟨bo,0,none⟩),.int .u8 xd,.int .u8 xs,.int .i16 jmp,.int .i32 xn,.int .i32 xh,.string lab,.string xm] 138;have m4:aa ae wr (wr.alloc (.cells #[.pointer (some ⟨bo,0,none⟩),.int .u8 xd,.int .u8 xs,.int .i16 jmp,.int .i32 xn,.int .i32 xh,.string lab,.string xm] 138)):=aj;have fU:=ai m4;have Fe:=ai hbx;clear m4 hbx;go_wp2_with fail;refine(AY.o _ fU.o).mono ?_;rintro e w5 ⟨rfl,m5⟩;have u2:=ET.o w5 (fU.o.trans m5);have u0:w5.cell? ⟨wr.heap.size,0,none⟩=some (.pointer (some ⟨bo,0,none⟩)):=(Fe.o.ag m5 id).cell 0;have iC:=ai (NI.o.trans (fU.o.trans m5));clear m5 y0 y1 y2 y3 y4 y5 y6 y7 AY NI ET fU Fe;go_wp2_with fail;go_roundg (code.length-(j+1))
     case measure=>omega
     case rel=>exact⟨rfl,rfl,j+1,s+sn,by go_num,by go_num,by omega,by push_cast;omega,iC.o,by omega,rfl⟩
    ·go_wp2_with fail;go_roundg 0
     case measure=>omega
     case rel=>exact⟨rfl,rfl,.inr ⟨by go_num,hm,rfl⟩⟩
  ·have HC:=ai (HTW.o wr hm);have NI:=ai hm;clear hm HTW HO;go_wp2_with fail;refine HC.o.mono ?_;rintro e w5 ⟨v5,rfl,s5,m5,l5⟩;obtain⟨o5,c5,rfl,h5⟩:=Sl.view s5;obtain⟨g5,_,rfl,_⟩:=h5 (by simp[b8,ko]);clear h5;have HR:af (lh w vO (l++b8 (ko 0)) (.returned (.slice (some ⟨g5,0,none⟩) (l++b8 (ko 0)).length c5)) w5):=⟨_,rfl,s5,(NI.o.mono (λ_ _ h=>h.elim)).trans m5,λk hk=>(l5 k hk).imp id (λh=>al NI.o.size h)⟩
   clear s5 m5 l5 HC NI;generalize(l++b8 (ko 0)).length=n5 at *;go_wp2_with fail;go_ret;exact HR.o
theorem akK(kind:Nat)(hk:kind<=255)(w:tW)(tv:Value)(bs:List Nat)(vM vF:Value)(ms:List az)(fs:List aS)(vs:List Value)(hP:tC w tv bs vM vF ms fs vs)(hE:EOk ms fs)(hm0:ms.length=0):Calls prog 74 #[.int .u8 kind,.agg #[vM,vF]] w λe w'=>∃v,e=.returned v/\EI w v (ib kind ms fs) w':=by
 obtain⟨iU,E8,E9,Fa,Fb⟩:=dx;obtain⟨oM,cM,yR,_⟩:=hP.maps.view;obtain⟨oF,cF,jZ,_⟩:=hP.rows.view;subst yR jZ;have JG:=hE.m;have HMZ:=ai hm0;clear hm0;have hfl:=hE.f;have HP:af (tC w tv bs (.slice oM ms.length cM) (.slice oF fs.length cF) ms fs vs):=hP;have HE:af (EOk ms fs):=hE;clear hP hE;have kc:=Lib.run_convert_bytes_const (P:=prog) (w.alloc (.cells #[.slice oM ms.length cM,.slice oF fs.length cF] 90)) 30 5 #[.int .u8 83,.int .u8 80,.int .u8 79,.int .u8 76] 4 4 underlying30 underlying5;rw[show(w.alloc (.cells #[.slice oM ms.length cM,.slice oF fs.length cF] 90)).heap.size=w.heap.size+1 by simp]at kc;go_enter func74,ntmps74
 have HOL:af (∀(o2:Obj) (j:Nat) (u:Value),([.int .u8 83,.int .u8 80,.int .u8 79,.int .u8 76]:List Value)[j]?=some u->(((w.alloc (.cells #[.slice oM ms.length cM,.slice oF fs.length cF] 90)).alloc (.cells #[.int .u8 83,.int .u8 80,.int .u8 79,.int .u8 76] 5 (4,5))).alloc o2).cell? ((⟨w.heap.size+1,0,none⟩:Addr).add j)=some u):=by
  intro o2 j u hu;have hadd:(⟨w.heap.size+1,0,none⟩:Addr).add j=⟨w.heap.size+1,j,none⟩:=by unfold Addr.add;split<;>simp_all
  rw[hadd,TJ]
  simpa using hu
 go_wp2_with (at_builtin;refine vN _ rfl (.tmp 15) (.tmp 21) 30 rfl 5 iU (.int .u8 0) 1 1 underlying30 E8 E9 Fa Fb rfl (by decide) ⟨w.heap.size+1,0,none⟩ 4 4 [.int .u8 83,.int .u8 80,.int .u8 79,.int .u8 76] rfl rfl (HOL.o _) ⟨w.heap.size+1+1,0,none⟩ 2 2 ([(kind:Int),(ms.length:Int)].map (Value.int .u8)) rfl rfl (aV _ _ _ _ (by simp)) (by decide) (by decide) (by decide) ?_;intro v2 w2 s2 m2 l2;have B2:af (ak w2 w.heap.size #[.slice oM ms.length cM,.slice oF fs.length cF] 90):=ak.ag (((ak.new w _ _).alloc _).alloc _) m2 id;have q0:w2.cell? ⟨w.heap.size,0,none⟩=some (.slice oM ms.length cM):=B2.mV.cell 0);obtain⟨wB,hwB⟩:∃wB,wB=w.alloc (.cells #[.slice oM ms.length cM,.slice oF fs.length cF] 90):=⟨_,rfl⟩
 have Pk:af (aa ae w wB):=by rw[hwB];exact aj
 have Pm:af (ak wB w.heap.size #[.slice oM ms.length cM,.slice oF fs.length cF] 90):=by rw[hwB];exact ak.new _ _ _
 have TL:af (tC wB tv bs (.slice oM ms.length cM) (.slice oF fs.length cF) ms fs vs):=HP.o.quiet Pk.o;have HI0:af (EI wB v2 ([83,80,79,76]++b8 [(kind:Int),(ms.length:Int)]) w2):=by rw[<-hwB]at m2 l2;have M0:aa ae wB ((wB.alloc (.cells #[.int .u8 83,.int .u8 80,.int .u8 79,.int .u8 76] 5 (4,5))).alloc (.cells #[.int .u8 kind,.int .u8 ms.length] 5)):=aj.alloc _;refine⟨?_,M0.trans m2,λk hk=>al M0.size (l2 k hk)⟩;exact Out.app (l:=[83,80,79,76]) (λx hx=>by simp at hx;rcases hx with rfl|rfl<;>omega) rfl s2
 clear s2 m2 l2 kc HOL hwB HP;have HO0:af (∀x:Value,x=v2->True):=λ_ _=>trivial;go_loopg [5,26] ms.length (λg ov iv wx=>∃(k:Nat) (l:tLB),iv=.int .i64 k/\EI wB ov l wx/\l++(ms.drop k).flatMap oD=[83,80,79,76]++b8 [(kind:Int),(ms.length:Int)]++ms.flatMap oD/\l.length<=6+k*260/\k<=ms.length/\g=ms.length-k)
 case atStart=>exact⟨0,_,rfl,HI0.o,rfl,by simp[b8],aE _,rfl⟩
 case round =>
  obtain⟨k,l,rfl,hI,iA,hll,hkm,rfl⟩:=hrel;have HR:af (l++(ms.drop k).flatMap oD=[83,80,79,76]++b8 [(kind:Int),(ms.length:Int)]++ms.flatMap oD):=iA;have HI:af (EI wB u5 l wr):=hI;clear iA q0;have CL:=TL.o.quiet hI.md
  ·obtain rfl:k=ms.length:=by have:=HMZ.o;omega
   have dh:af (l=[83,80,79,76]++b8 [(kind:Int),(ms.length:Int)]++ms.flatMap oD):=by
    have:=HR.o;rw[bh]at this;rw[af]
    simpa using this
   have q1:wr.cell? ⟨w.heap.size,1,none⟩=some (.slice oF fs.length cF):=(Pm.o.ag hI.md id).cell 1;have FY:af (l.length<=70000):=by rw[af];omega
   clear CL hI HR hll;go_wp2_with (at_builtin;refine aL _ rfl (.tmp 43) (.tmp 48) 30 rfl 5 iU (.int .u8 0) 1 1 underlying30 E8 E9 Fa Fb rfl (by decide) u5 l.length (rj l) rfl (HI.o.mV.quiet aj) ⟨wr.heap.size,0,none⟩ 1 1 ([(fs.length:Int)].map (Value.int .u8)) rfl rfl (aV _ _ _ _ rfl) (vK _) (by have:=FY.o;unfold maxLen;omega) (by have:=FY.o;omega) ?_;intro v7 w7 s7 m7 l7;have H7:af (EI wB v7 (l++b8 [(fs.length:Int)]) w7):=(HI.o.quiet aj).step (Out.app (λx hx=>by simp at hx;subst hx;omega) rfl s7) m7 l7;have q2:w7.cell? ⟨w.heap.size,1,none⟩=some (.slice oF fs.length cF):=(Pm.o.ag H7.o.md id).cell 1);clear s7 m7 l7 HI;go_loopg [5,53] fs.length (λg ov iv wx=>∃(k:Nat) (l':tLB),iv=.int .i64 k/\EI wB ov l' wx/\l'++(fs.drop k).flatMap jN=l++b8 [(fs.length:Int)]++fs.flatMap jN/\l'.length<=70001+k*260/\k<=fs.length/\g=fs.length-k)
   case atStart=>exact⟨0,_,rfl,H7.o,rfl,by have:=FY.o;rw[ab,gY];simp only[bO,List.length_nil];omega,aE _,rfl⟩
   case round =>
    clear q1 q2;obtain⟨k,l',rfl,hI,iA,hll,hkm,rfl⟩:=hrel;have HR:af (l'++(fs.drop k).flatMap jN=l++b8 [(fs.length:Int)]++fs.flatMap jN):=iA;clear iA;have CL:=TL.o.quiet hI.md;have TM:af (l'.length<=70001+k*260):=hll;clear hll;by_cases hkl:k<fs.length
    ·have zn:k<vs.length:=by rw[CL.len];exact hkl
     obtain⟨gF,rfl,c0,c1⟩:=CL.TI k hkl zn;have hok:=HE.o.fn fs[k] (an hkl);have pF:=CL.code k hkl zn;have HD:af (l'++jN fs[k]++(fs.drop (k+1)).flatMap jN=l++b8 [(fs.length:Int)]++fs.flatMap jN):=by rw[af,<-HR.o,ao hkl,bj,ar]
     have zK:af (∀w',aa ae wB w'->aH 0 w' tv bs aq/\gX w' vs[k] bs fs[k].code):=λw' m=>⟨(TL.o.quiet m).ops,(TL.o.quiet m).code k hkl zn⟩
     generalize fs[k]=f at *;generalize vs[k]=vC at *;obtain⟨nm,code⟩:=f;simp only at *;obtain⟨o1,o2,o3⟩:=hok;obtain⟨oC,cC,rfl,_⟩:=pF.view;clear CL HR;have HI:af (EI wB u5 l' wr):=hI;clear hI;have Hf:af (∀w',aa ae wB w'->aH 0 w' tv bs aq/\gX w' (.slice oC code.length cC) bs code):=zK.o;clear zK pF;go_upto_region 11 with fail;have ZL:EI wB u5 l' (wr.alloc (.cells #[.string (T nm),.slice oC code.length cC] 96)):=HI.o.quiet aj;have hbx:=ak.new wr #[.string (T nm),.slice oC code.length cC] 96;generalize wr.alloc (.cells #[.string (T nm),.slice oC code.length cC] 96)=W at *;generalize wr.heap.size=B at *;have HIW:af (EI wB u5 l' W):=ZL;have hnx:¬(u5.ownBlock=some B):=ZL.mV.au hbx (by decide);have Fe:af (ak W B #[.string (T nm),.slice oC code.length cC] 96):=hbx;have hts:(T nm).size<=255:=by rw[bG];exact o1
     have x0:∀g:Ext (λk=>u5.ownBlock=some k) W,g.w.cell? ⟨B,0,none⟩=some (.string (T nm)):=λg=>(Fe.o.ag g.m hnx).cell 0;have x1:∀g:Ext (λk=>u5.ownBlock=some k) W,g.w.cell? ⟨B,1,none⟩=some (.slice oC code.length cC):=λg=>(Fe.o.ag g.m hnx).cell 1;have ne1:=Ext.ne (λk=>u5.ownBlock=some k) W;clear ZL hbx c0 c1 HI;refine bE [3,5,6] (λw'=>∃e:Ext (λk=>u5.ownBlock=some k) W,w'=e.w) (by kernel_rfl) (by kernel_rfl) (by kernel_rfl) ⟨⟨_,aJ⟩,rfl⟩ ?_
     iterate 3 (refine aA rfl rfl rfl ?_;intro K hK;go_big_quiet_op;go_big_quiet_on)
     refine aF rfl rfl ?_;intro K hK;go_big_op;refine(yQ _ u5 l' (HIW.o.quiet aJ).mV (by have:=TM.o;omega) (T nm) hts).mono ?_;rintro e w3 ⟨v3,rfl,s3,m3,l3⟩;have H3:af (EI wB v3 (l'++fC (T nm)) w3):=(HIW.o.quiet aJ).step s3 m3 l3;have M3:af (aa (λk=>u5.ownBlock=some k) W w3):=aJ.trans m3;have L3:af (∀k,v3.ownBlock=some k->u5.ownBlock=some k\/W.heap.size<=k):=l3;refine hK _ _ rfl ⟨⟨_,M3.mV⟩,rfl⟩ ?_;clear hK K s3 m3 l3
     iterate 1 (refine aA rfl rfl rfl ?_;intro K hK;go_big_quiet_op;go_big_quiet_on)
     refine aF rfl rfl ?_;intro K hK;go_big_op;refine(Ha w3 tv bs (Hf.o w3 H3.o.md).1 code o3 (by omega) _ (Hf.o w3 H3.o.md).2 (T nm)).mono ?_;rintro e w4 ⟨rfl,m4⟩;have H4:af (EI wB v3 (l'++fC (T nm)) w4):=H3.o.quiet m4;have M4:af (aa (λk=>u5.ownBlock=some k) W w4):=M3.mV.trans (m4.mono (λ_ _ e=>e.elim));refine hK _ _ rfl ⟨⟨_,M4.mV⟩,rfl⟩ ?_;clear hK K;refine aF rfl rfl ?_;intro K hK;go_big_op;refine(Bq w4 v3 (l'++fC (T nm)) H4.o.mV (by have:=TM.o;rw[ab,gZ];omega) (aM code)).mono ?_;rintro e w5 ⟨v5,rfl,s5,m5,l5⟩;have H5:af (EI wB v5 (l'++fC (T nm)++b8 (ko (aM code))) w5):=H4.o.step s5 m5 l5
     have M5:af (aa (λk=>u5.ownBlock=some k) W w5):=⟨m5.os.trans M4.mV.os,m5.tape.trans M4.mV.tape,m5.output.trans M4.mV.output,al M4.mV.size m5.size,λk hk hS=>(m5.block k (Nat.lt_of_lt_of_le hk M4.mV.size) (λe=>by
      rcases L3.mV k e with h|h
      ·exact hS h
      ·omega)).trans (M4.mV.block k hk hS)⟩
     refine hK _ _ rfl ⟨⟨_,M5.mV⟩,rfl⟩ ?_;clear hK K s5 m5 l5
     iterate 1 (refine aA rfl rfl rfl ?_;intro K hK;go_big_quiet_op;go_big_quiet_on)
     refine bX ?_
     try simp only[Exit.then]
     go_wp2_with fail;go_roundg (fs.length-(k+1))
     case measure=>omega
     case rel =>
      have hlz:=TM.o;refine⟨k+1,l'++jN ⟨nm,code⟩,by go_num,?_,HD.o,?_,by omega,rfl⟩
      ·rw[jN,<-ar];exact H5.o
      ·rw[ab,jN,ab,gZ,gY];simp only[ko,bO,List.length_nil];omega
    ·obtain rfl:k=fs.length:=by omega
     have dD:af (l'=l++b8 [(fs.length:Int)]++fs.flatMap jN):=by
      have:=HR.o;rw[bh]at this;rw[af]
      simpa using this
     have aeg:af (l'.length<=140000):=by have:=TM.o;rw[af];omega
     have q1:wr.cell? ⟨w.heap.size,1,none⟩=some (.slice oF fs.length cF):=(Pm.o.ag hI.md id).cell 1;have HI:af (EI wB u5 l' wr):=hI;clear CL hI HR TM;go_wp2_with fail;go_loopg [5,68] fs.length (λg ov iv wx=>∃(k:Nat) (a:tLB),iv=.int .i64 k/\EI wB ov a wx/\a++(fs.drop k).flatMap kH=l'++fs.flatMap kH/\a.length<=140000+k*3200/\k<=fs.length/\g=fs.length-k)
     case atStart=>exact⟨0,_,rfl,HI.o,rfl,by have:=aeg.o;omega,aE _,rfl⟩
     case round =>
      clear q1 HI;obtain⟨k,a,rfl,hI,iA,hll,hkm,rfl⟩:=hrel;have HR:af (a++(fs.drop k).flatMap kH=l'++fs.flatMap kH):=iA;clear iA;have CL:=TL.o.quiet hI.md;have aeh:af (a.length<=140000+k*3200):=hll;clear hll;by_cases hkl:k<fs.length
      ·have zn:k<vs.length:=by rw[CL.len];exact hkl
       obtain⟨gF,rfl,c0,c1⟩:=CL.TI k hkl zn;have hok:=HE.o.fn fs[k] (an hkl);have pF:=CL.code k hkl zn;have HD:af (a++kH fs[k]++(fs.drop (k+1)).flatMap kH=l'++fs.flatMap kH):=by rw[af,<-HR.o,ao hkl,bj,ar]
       have zK:af (∀w',aa ae wB w'->aH 0 w' tv bs aq/\gX w' vs[k] bs fs[k].code):=λw' m=>⟨(TL.o.quiet m).ops,(TL.o.quiet m).code k hkl zn⟩
       generalize fs[k]=f at *;generalize vs[k]=vC at *;obtain⟨nm,code⟩:=f;simp only at *;obtain⟨o1,o2,o3⟩:=hok;obtain⟨oC,cC,rfl,_⟩:=pF.view;have Hf:af (∀w',aa ae wB w'->aH 0 w' tv bs aq/\gX w' (.slice oC code.length cC) bs code):=zK.o;have uH:af (∀x∈code,eU x):=o3;have HIa:af (EI wB u5 a (wr.alloc (.cells #[.string (T nm),.slice oC code.length cC] 96))):=hI.quiet aj;clear zK pF CL HR hI o3;go_wp2_with fail;generalize wr.alloc (.cells #[.string (T nm),.slice oC code.length cC] 96)=W at *;go_loopg [5,75] code.length (λg ov iv wx=>∃(j:Nat) (a':tLB),iv=.int .i64 j/\EI wB ov a' wx/\a'++(code.drop j).flatMap qG=a++kH ⟨nm,code⟩/\a'.length<=140000+k*3200+j*16/\j<=code.length/\g=code.length-j)
       case atStart=>exact⟨0,_,rfl,HIa.o,rfl,by have:=aeh.o;omega,aE _,rfl⟩
       case round =>
        clear c0 c1 HIa;obtain⟨j,a',rfl,hI,iA,hll,hjm,rfl⟩:=hrel;have HR:af (a'++(code.drop j).flatMap qG=a++kH ⟨nm,code⟩):=iA;clear iA;have aaC:af (a'.length<=140000+k*3200+j*16):=hll;clear hll;by_cases hjl:j<code.length
        ·obtain⟨g,lab,rfl,hg,y0,y1,y2,y3,y4,y5,y6,y7⟩:=Bl (Hf.o wr hI.md).2 rfl rfl j hjl;have hx:=uH.o code[j] (an hjl);have HD2:af (a'++qG code[j]++(code.drop (j+1)).flatMap qG=a++kH ⟨nm,code⟩):=by rw[af,<-HR.o,ao hjl,bj,ar]
         have HAT:af (∀w',aa ae wB w'->bY w' (bs[code[j].k]?.getD 0) code[j].o):=λw' m=>jI (Hf.o w' m).1 code[j] hx.k;have hcl:code[j].o.code<=255:=XL code[j].k hx.k;have aei:=hx.slots;have Zx:af (qG code[j]=uO code[j].o.code code[j].d code[j].s code[j].jump code[j].num code[j].high code[j].o.slots):=rfl;obtain⟨_,hxd,hxs,hxj,hxn,hxh⟩:=hx;generalize code[j].o=o at *;generalize code[j].jump=jmp at *;generalize code[j].d=xd at *;generalize code[j].s=xs at *;generalize code[j].num=xn at *;generalize code[j].high=xh at *;generalize code[j].name=xm at *;generalize bs[code[j].k]?.getD 0=b at *;generalize qG code[j]=su at *;have HI:af (EI wB u5 a' wr):=hI;clear hI HR;go_wp2_with fail;have HIx:af (EI wB u5 a' (wr.alloc (.cells #[.pointer (some ⟨b,0,none⟩),.int .u8 xd,.int .u8 xs,.int .i16 jmp,.int .i32 xn,.int .i32 xh,.string lab,.string (T xm)] 138))):=HI.o.quiet aj;obtain⟨p1,pn,pc,f6,c6,k7,c7,k8,c8,f9,c9,hop,_⟩:=(HAT.o _ HIx.o.md).ex;refine(Ku _ u5 a' HIx.o.mV (by have:=aaC.o;omega) b _ o.code o.slots hop rfl rfl xd xs jmp xn xh _ _ hcl hxd hxs hxj hxn hxh (by omega)).mono ?_;rintro e w3 ⟨v3,rfl,s3,m3,l3⟩;have H3:af (EI wB v3 (a'++su) w3):=by rw[Zx.o];exact HIx.o.step s3 m3 l3
         clear s3 m3 l3 hop;go_wp2_with fail;go_roundg (code.length-(j+1))
         case measure=>omega
         case rel =>
          have hlz:=aaC.o;have hsu:su.length<=16:=by rw[Zx.o];exact PB _ _ _ _ _ _ _
          exact⟨j+1,a'++su,by go_num,H3.o,HD2.o,by rw[ab];omega,by omega,rfl⟩
        ·obtain rfl:j=code.length:=by omega
         have fU:af (a'=a++kH ⟨nm,code⟩):=by
          have:=HR.o;rw[bh]at this;rw[af]
          simpa using this
         have HI:af (EI wB u5 a' wr):=hI;clear hI HR;go_wp2_with fail;go_roundg (fs.length-(k+1))
         case measure=>omega
         case rel =>have:=aaC.o;exact⟨k+1,a',by go_num,HI.o,by rw[fU.o];exact HD.o,by omega,by omega,rfl⟩
      ·obtain rfl:k=fs.length:=by omega
       have dw:af (a=ib kind ms fs):=by
        have:=HR.o;rw[bh]at this;rw[af,ib,<-dh.o,<-dD.o]
        simpa using this
       have HI:af (EI wB u5 a wr):=hI;clear hI HR CL;go_wp2_with fail;go_ret;refine⟨u5,rfl,?_⟩;rw[<-dw.o];exact⟨HI.o.mV,Pk.o.trans HI.o.md,λk hk=>al Pk.o.size (HI.o.own k hk)⟩
theorem aml(w:tW)(tv:Value)(bs:List Nat)(vM vF:Value)(ms:List az)(fs:List aS)(vs:List Value)(hP:We w tv bs vM vF ms fs vs)(hE:EOk ms fs)(hm0:ms.length=0):Calls prog 50 #[.agg #[vM,vF]] w λe w'=>e=.returned (.string (T (ib 2 ms fs)))/\aa ae w w':=by
 obtain⟨oM,cM,yR,_⟩:=hP.maps.view;obtain⟨oF,cF,jZ,_⟩:=hP.rows.view;subst yR jZ;have HP:af (We w tv bs (.slice oM ms.length cM) (.slice oF fs.length cF) ms fs vs):=hP;have HE:af (EOk ms fs):=hE;have HL:af (0<(ib 2 ms fs).length):=by rw[af];simp[ib]
 have HMZ:=ai hm0;clear hP hE hm0;go_enter func50,ntmps50;go_wp2_with fail;refine(akK 2 (by decide) _ tv bs _ _ ms fs vs (XN (HP.o.quiet aj)) HE.o HMZ.o).mono ?_;rintro e w2 ⟨v,rfl,hI⟩;have hcv:=Bt hI.mV HL.o;have HI:af (aa ae w w2):=aj.trans hI.md;clear hI;go_wp2_with fail;go_ret;exact⟨rfl,HI.o⟩
theorem akL(w:tW)(tv:Value)(bs:List Nat)(vM vF:Value)(ms:List az)(f:aS)(vs:List Value)(hP:tC w tv bs vM vF ms [f] vs)(hE:EOk ms [f])(hm0:ms.length=0)(hn:∀x∈f.code,x.aO=0)(hl:(ib 1 ms [f]).length<=300000):Calls prog 44 #[.agg #[vM,vF]] w λe w'=>e=.returned (.string (T (ib 1 ms [f]++b8 (ko 0))))/\aa ae w w':=by
 obtain⟨oM,cM,yR,_⟩:=hP.maps.view;obtain⟨oF,cF,jZ,_⟩:=hP.rows.view;subst yR jZ;have HP:af (tC w tv bs (.slice oM ms.length cM) (.slice oF 1 cF) ms [f] vs):=hP;have Kz:af (∀w',tC w' tv bs (.slice oM ms.length cM) (.slice oF 1 cF) ms [f] vs->Calls prog 74 #[.int .u8 1,.agg #[.slice oM ms.length cM,.slice oF 1 cF]] w' λe w2=>∃v,e=.returned v/\EI w' v (ib 1 ms [f]) w2):=λw' h=>akK 1 (by decide) w' tv bs _ _ ms [f] vs h hE hm0;have Rs:af (∀w' v,tC w' tv bs (.slice oM ms.length cM) (.slice oF 1 cF) ms [f] vs->Out w' v (ib 1 ms [f])->Calls prog 73 #[v,.slice oF 1 cF] w' λe w2=>lh w' v (ib 1 ms [f]++b8 (ko 0)) e w2):=λw' v h h2=>ak8 w' tv v _ bs _ _ ms f vs h hE hn h2 hl;have HL:af (0<(ib 1 ms [f]++b8 (ko 0)).length):=by rw[af];simp[ib]
 clear hP hE hn hl hm0;have qQ:af (tC (w.alloc (.cells #[.slice oM ms.length cM,.slice oF 1 cF] 90)) tv bs (.slice oM ms.length cM) (.slice oF 1 cF) ms [f] vs):=HP.o.quiet aj;have HB1:af (ak (w.alloc (.cells #[.slice oM ms.length cM,.slice oF 1 cF] 90)) w.heap.size #[.slice oM ms.length cM,.slice oF 1 cF] 90):=ak.new w _ _;have dh:af (aa ae w (w.alloc (.cells #[.slice oM ms.length cM,.slice oF 1 cF] 90))):=aj;generalize ib 1 ms [f]++b8 (ko 0)=res at *;generalize ib 1 ms [f]=enc at *;go_enter func44,ntmps44;go_upto_region 1 with fail;generalize w.alloc (.cells #[.slice oM ms.length cM,.slice oF 1 cF] 90)=w1 at *;generalize w.heap.size=B at *;have d0:∀e:Ext ae w1,e.w.cell? ⟨B,0,none⟩=some (.slice oM ms.length cM):=λe=>(HB1.o.ag e.m id).cell 0;have d1:∀e:Ext ae w1,e.w.cell? ⟨B,1,none⟩=some (.slice oF 1 cF):=λe=>(HB1.o.ag e.m id).cell 1
 haveI:Nonempty (Ext ae w1):=Ext.ne _ _
 refine bE [1,4,5] (λw'=>∃e:Ext ae w1,w'=e.w) (by kernel_rfl) (by kernel_rfl) (by kernel_rfl) ⟨⟨_,aJ⟩,rfl⟩ ?_
 iterate 1 (refine aA rfl rfl rfl ?_;intro K hK;go_big_quiet_op;go_big_quiet_on)
 refine aF rfl rfl ?_;intro K hK;go_big_op;refine(Kz.o _ (qQ.o.quiet aJ)).mono ?_;rintro e w2 ⟨v2,rfl,hI2⟩;have HI2:af (EI w1 v2 enc w2):=⟨hI2.mV,aJ.trans hI2.md,λk hk=>by have:=hI2.own k hk;simpa using this⟩
 refine hK _ _ rfl ⟨⟨_,HI2.o.md⟩,rfl⟩ ?_;clear hK K hI2
 iterate 2 (refine aA rfl rfl rfl ?_;intro K hK;go_big_quiet_op;go_big_quiet_on)
 refine aF rfl rfl ?_;intro K hK;go_big_op;refine(Rs.o w2 v2 (qQ.o.quiet HI2.o.md) HI2.o.mV).mono ?_;rintro e w3 ⟨v3,rfl,s3,m3,l3⟩;have HI3:af (EI w1 v3 res w3):=HI2.o.step s3 m3 l3;refine hK _ _ rfl ⟨⟨_,HI3.o.md⟩,rfl⟩ ?_;clear hK K s3 m3 l3;refine aF rfl rfl ?_;intro K hK;have hcv:=Bt HI3.o.mV HL.o;go_big_op;refine hK _ _ rfl ⟨⟨_,HI3.o.md⟩,rfl⟩ ?_;clear hK K hcv
 iterate 1 (refine aA rfl rfl rfl ?_;intro K hK;go_big_quiet_op;go_big_quiet_on)
 refine bX ?_;simp only[Exit.then];go_wp2_with fail;go_ret;exact⟨rfl,dh.o.trans HI3.o.md⟩
