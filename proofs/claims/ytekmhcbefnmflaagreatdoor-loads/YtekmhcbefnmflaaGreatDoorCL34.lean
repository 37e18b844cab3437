import Derived.Deep.Upon
import Derived.Shelf.SlSortCmp.WholeK
import Derived.Shelf.Small.Strs
import Derived.Test.YtekmhcbefnmflaaGreatDoorCL30
namespace Go.Proofs.YtekmhcbefnmflaaGreatDoor
open Go.RowKit Tryz
open List renaming take_succ_eq_append_getElem->ab,foldl_append->ao,length->ee
open Nat renaming le_trans->an
open Decidable renaming decide->eS
open Ending renaming returned->fR
open Option renaming some->eC,none->ez
open Value renaming string->eI,slice->eK,bool->fS
open _root_.Go renaming Value->eM,maxLen->fX,Calls->fL,bodyPost_ret->iz
set_option linter.all false
set_option maxRecDepth 100000
set_option maxHeartbeats 2000000
def kE(l:List tLB):tLV:=l.map (λs=>Value.string (T s))
theorem RU(l:List tLB)(s:tLB):kE (l++[s])=kE l++[eI (T s)]:=by simp[kE]
structure tC(w0 w:tW)(v:eM)(l:List tLB):Prop where
 sl:Sl w 9 1 v (ee l) (kE l)
 lo:∀k,v.ownBlock=eC k->w0.heap.size<=k
 md:aa ah w0 w
theorem tC.nil{w0 w:tW}(m:aa ah w0 w):tC w0 w (vN) []:=⟨Sl.nil _ _ _,λk h=>(by cases h),m⟩
theorem tC.quiet{w0 w w':tW}{v:eM}{l:List tLB}(h:tC w0 w v l)(m:aa ah w w'):tC w0 w' v l:=⟨h.sl.ae m (λ_ _=>id),h.lo,h.md.trans m⟩
theorem tC.app{w0 w w':tW}{v v':eM}{l:List tLB}{s:tLB}(h:tC w0 w v l)(hs:Sl w' 9 1 v' (ee l+1) (kE l++[eI (T s)]))(m:aa (λk=>v.ownBlock=eC k) w w')(hl:∀k,v'.ownBlock=eC k->v.ownBlock=eC k\/w.heap.size<=k):tC w0 w' v' (l++[s]):=by
 refine⟨?_,λk hk=>?_,h.md.step m (λi hi e=>by have:=h.lo i e;omega)⟩
 ·rw[RU,List.length_append];exact hs
 ·rcases hl k hk with e|e
  ·exact h.lo k e
  ·have:=h.md.size;omega
theorem tC.view{w0 w:tW}{v:eM}{l:List tLB}(h:tC w0 w v l):∃o cap,v=eK o (ee l) cap/\(0<ee l->∃g cs,o=eC ⟨g,0,ez⟩/\ak w g cs 9/\(∀k (h:k<ee l),cs[k]?=eC (eI (T l[k])))/\∀k (h:k<ee l),w.cell? ⟨g,k,ez⟩=eC (eI (T l[k]))):=by
 obtain⟨o,cap,hv,h2⟩:=h.sl.view;refine⟨o,cap,hv,λhp=>?_⟩;obtain⟨g,cs,rfl,hb,ht,_⟩:=h2 hp;have key:∀k (h:k<ee l),w.cell? ⟨g,k,ez⟩=eC (eI (T l[k])):=λk hk=>by rw[aX hb ht k (by omega)];simp[kE,hk]
 refine⟨g,cs,rfl,hb,λk hk=>?_,key⟩;have:=key k hk
 rwa [hb.cell]at this
theorem je{w w':tW}{a:Addr}{v:eM}(m:aa ah w w')(h:w.cell? a=eC v):w'.cell? a=eC v:=by
 have hl:a.block<w.heap.size:=by
  unfold World.cell? at h;cases hq:w.heap[a.block]? with
  |none=>rw[hq]at h;simp at h
  |some x=>exact(Array.getElem?_eq_some_iff.1 hq).1
 unfold World.cell? at h ⊢;rw[m.block a.block hl id];exact h
theorem Fp(x:PI)(h:kz x):x.o.slots<=2:=by rcases h.slots with e|e<;>omega
def lZ(kd:Nat)(s:tLB):List aW×List cZ×PR :=
 let a:=aR 4 ⟨s,false⟩
 let r1:=az (a.1==[83,80,79,76]) a.2
 let b:=oneP r1
 let r2:=az (eS (b.1=kd)) b.2
 let c:=oneP r2
 let m:=mapsP c.1 (az (eS (c.1<=8)) c.2) [] []
 let f:=dF m.2
 (m.1,f.1,f.2)
theorem JZ{kd:Nat}{s:tLB}{a1:tLB}{q1 q2:PR}{n3:Nat}{q3 q4:PR}{ms:List aW}{q5:PR}{fs:List cZ}{q6:PR}(h1:aR 4 ⟨s,false⟩=(a1,q1))(h2:az (a1==[83,80,79,76]) q1=q2)(h3:oneP q2=(n3,q3))(h4:az (eS (n3=kd)) q3=q4)(h5:mapsP (oneP q4).1 (az (eS ((oneP q4).1<=8)) (oneP q4).2) [] []=(ms,q5))(h6:dF q5=(fs,q6)):lZ kd s=(ms,fs,q6):=by unfold lZ;simp only[h1,h2,h3,h4,h5,h6]
theorem J3(kd:Nat)(rk:FuncId)(en:∀args w,(callFunc rk args).run prog w=.ok (.enter rk args) w)(w:tW)(wT:tW)(tv:eM)(bs:tLN)(hT:aT 0 wT tv bs ax)(mT:aa ah wT w)(s:tLB)(hs:ee s<=fX)(q7:PR)(hR:(ee (lZ kd s).1<=1000/\(lZ kd s).2.1.length<=256/\(∀f∈(lZ kd s).2.1,ee f.code<=2000)/\(lZ kd s).2.2.rest.length<=fX)->∀w b o1 c1 vF vs,jO w b (lZ kd s).2.2->aa ah wT w->wT.heap.size<=b->xN w wT.heap.size bs vF (lZ kd s).2.1 vs->fL prog rk #[vP b,.agg #[eK o1 (ee (lZ kd s).1) c1,vF]] w λe w'=>e=fR (.tuple #[])/\jO w' b q7/\aa (Only b) w w'):fL prog 74 #[tv,vI kd,eI (T s),.func (.func rk) #[] #[]] w λe w'=>vX w bs ((lZ kd s).1,(lZ kd s).2.1,az (q7.rest==[]) q7) e w':=by
 obtain⟨oT,cT,hv,_⟩:=hT.sl.view;subst hv;have HT:=ai hT;have TI:=ai mT;clear hT mT;have hTw:=TI.o.size;obtain⟨a1,q1,h1⟩:∃a q,aR 4 ⟨s,false⟩=(a,q):=⟨_,_,rfl⟩
 obtain⟨q2,h2⟩:∃q2,az (a1==[83,80,79,76]) q1=q2:=⟨_,rfl⟩
 obtain⟨n3,q3,h3⟩:∃a q,oneP q2=(a,q):=⟨_,_,rfl⟩
 obtain⟨q4,h4⟩:∃q,az (eS (n3=kd)) q3=q:=⟨_,rfl⟩
 obtain⟨ms,q5,h5⟩:∃a q,mapsP (oneP q4).1 (az (eS ((oneP q4).1<=8)) (oneP q4).2) [] []=(a,q):=⟨_,_,rfl⟩
 obtain⟨fs,q6,h6⟩:∃a q,dF q5=(a,q):=⟨_,_,rfl⟩
 rw[JZ h1 h2 h3 h4 h5 h6]at hR ⊢;dsimp only at hR ⊢;have l1:ee q1.rest<=fX:=by have:=take_len 4 ⟨s,false⟩;rw[h1]at this;exact an this hs
 have l2:ee q2.rest<=fX:=by rw[<-h2];exact l1
 have l3:ee q3.rest<=fX:=by have:=kr q2;rw[h3]at this;exact an this l2
 have l4:ee q4.rest<=fX:=by rw[<-h4];exact l3
 have l5:ee q5.rest<=fX:=by have:=E8 (oneP q4).1 (az (eS ((oneP q4).1<=8)) (oneP q4).2) [] [];rw[h5]at this;exact an this (an (kr q4) l4)
 have m5:ee ms<=1000:=by have:=Aj (oneP q4).1 (az (eS ((oneP q4).1<=8)) (oneP q4).2) [] [];rw[h5]at this;have:=kU q4;simp at *;omega
 obtain⟨f6,c6,l6⟩:=Dk q5;rw[h6]at f6 c6 l6;simp only at f6 c6 l6;have l6':=an l6 l5;have C1:af (∀w b,jO w b ⟨s,false⟩->fL prog 158 #[vP b,vI 4] w λe w'=>e=fR (eI (T a1))/\jO w' b q1/\aa (Only b) w w'):=λw b h=>by have:=uO b ⟨s,false⟩ 4 w h hs (by decide);rw[h1]at this;exact this
 have C2:=ai (λw b h=>by have:=dZ b q1 (a1==[83,80,79,76]) w h;rw[h2]at this;exact this);have C3:af (∀w b,jO w b q2->fL prog 159 #[vP b] w λe w'=>e=fR (vI n3)/\jO w' b q3/\aa (Only b) w w'):=λw b h=>by have:=rP b q2 w h l2;rw[h3]at this;exact this
 have C4:af (∀w b,jO w b q3->fL prog 157 #[vP b,fS ((n3:Int)==kd)] w λe w'=>e=fR (.tuple #[])/\jO w' b q4/\aa (Only b) w w'):=λw b h=>by
  have:=dZ b q3 (eS (n3=kd)) w h;rw[h4]at this
  rwa [show((n3:Int)==kd)=eS (n3=kd) by rw[Bool.eq_iff_iff];simp;omega]
 have C5:af (∀w b,jO w b q4->fL prog 160 #[vP b] w λe w'=>Jv w b q5 ms e w'):=λw b h=>by have:=Rh b q4 w h l4;rw[h5]at this;exact this
 have C6:af (∀w b,jO w b q5->aa ah wT w->wT.heap.size<=b->fL prog 161 #[vP b,eK oT (ee bs) cT] w λe w'=>Fb w b bs q6 fs e w'):=λw b h m hb=>by have:=Rj w b q5 h l5 wT _ bs HT.o m hb;rw[h6]at this;exact this
 have C7:=ai (hR ⟨m5,f6,c6,l6'⟩);clear hR h1 h2 h3 h4 h5 h6 l1 l2 l3 l4 l5 l6 l6' m5 f6 c6 HT
 have D0:af (Rt w ⟨s,false⟩ ((w.alloc (.cells #[vN,vN] 99)).alloc (.cells #[eI (T s),fS false] 264))) :=
  ⟨by have:=ak.new (w.alloc (.cells #[vN,vN] 99)) #[eI (T s),fS false] 264;simpa [jO]using this,(ak.new _ _ _).alloc _,aq.alloc _⟩
 have hcmp:((T a1).toList==[83,80,79,76])=(a1==[83,80,79,76]):=by simp[T]
 have hb:wT.heap.size<=w.heap.size+1:=by omega
 go_in;go_wp2_with fail;refine(C1.o _ _ D0.o.rd).mono ?_;rintro e w1 ⟨rfl,h1,m1⟩;have D1:=ai (D0.o.read h1 m1);clear D0 h1 m1;go_wp2_with fail;refine(C2.o _ _ D1.o.rd).mono ?_;rintro e w2 ⟨rfl,h2,m2⟩;have D2:=ai (D1.o.read h2 m2);clear D1 h2 m2;go_wp2_with fail;refine(C3.o _ _ D2.o.rd).mono ?_;rintro e w3 ⟨rfl,h3,m3⟩;have D3:=ai (D2.o.read h3 m3);clear D2 h3 m3;go_wp2_with fail;refine(C4.o _ _ D3.o.rd).mono ?_;rintro e w4 ⟨rfl,h4,m4⟩;have D4:=ai (D3.o.read h4 m4);clear D3 h4 m4;go_wp2_with fail;refine(C5.o _ _ D4.o.rd).mono ?_;rintro e w5 ⟨vM,rfl,hM⟩;obtain⟨oM,cM,rfl,_⟩:=hM.sl.view;have D5:=ai (D4.o.read hM.rd hM.md);have jK:=ai hM.sl;have HML:=ai hM.sl.lt;clear D4 hM;have D5':af (Rt w q5 (w5.alloc (.cells #[eK oM (ee ms) cM,vN] 99))):=⟨ak.alloc D5.o.rd _,D5.o.rs.alloc _,D5.o.md.alloc _⟩
 have HPb:=ai (ak.new w5 #[eK oM (ee ms) cM,vN] 99);have abL:af (Sl (w5.alloc (.cells #[eK oM (ee ms) cM,vN] 99)) 113 4 (eK oM (ee ms) cM) (ee ms) (ms.flatMap aW.cells)):=jK.o.ae ((aa.refl ah _).alloc _) (λ_ _=>id);have h5s:=D5.o.rd.lt;clear D5 jK;go_wp2_with fail;refine(C6.o _ _ D5'.o.rd (TI.o.trans D5'.o.md) hb).mono ?_;rintro e w6 ⟨vF,vs,rfl,h6,hF,m6⟩;obtain⟨oF,cF,rfl,_⟩:=hF.sl.view;have D6:=ai (D5'.o.read h6 m6);have Wu:=ai (HPb.o.ae m6 (show ¬w5.heap.size=w.heap.size+1 by omega));have yq:=ai (abL.o.ae m6 (λk hk e=>abL.o.ay D5'.o.rd (by decide) (hk.trans (congrArg eC e))));have HF6:af (xN w6 (w5.heap.size+1) bs (eK oF (ee fs) cF) fs vs):=by have h':=hF;simp at h';exact h'
 clear h6 hF m6 D5' HPb abL;have y1:=Wu.o.c1;have f1:=Wu.o.frozen 1;have aae:af (ak (w6.setCell ⟨w5.heap.size,1,ez⟩ (eK oF (ee fs) cF)) w5.heap.size #[eK oM (ee ms) cM,eK oF (ee fs) cF] 99):=Wu.o.set 1 _;have D7:af (Rt w q6 (w6.setCell ⟨w5.heap.size,1,ez⟩ (eK oF (ee fs) cF))):=⟨ak.setOther D6.o.rd (show w5.heap.size≠w.heap.size+1 by omega) _,ak.setOther D6.o.rs (show w5.heap.size≠w.heap.size by omega) _,D6.o.md.set (.inr (show w.heap.size<=w5.heap.size by omega)) _⟩
 have J4:af (Sl (w6.setCell ⟨w5.heap.size,1,ez⟩ (eK oF (ee fs) cF)) 113 4 (eK oM (ee ms) cM) (ee ms) (ms.flatMap aW.cells)):=yq.o.ae ((aa.refl (Only w5.heap.size) w6).bz _ _) (λk hk e=>yq.o.ay Wu.o (by decide) (hk.trans (congrArg eC e)));have HF7:af (xN (w6.setCell ⟨w5.heap.size,1,ez⟩ (eK oF (ee fs) cF)) (w5.heap.size+1) bs (eK oF (ee fs) cF) fs vs):=HF6.o.ae ((aa.refl (Only w5.heap.size) w6).bz _ _) (λk hk e=>by have:=HF6.o.own k hk;have:k=w5.heap.size:=e;omega) (λu hu k hk e=>by have:=HF6.o.rR u hu k hk;have:k=w5.heap.size:=e;omega);have z0:=aae.o.c0;have z1:=aae.o.c1;clear Wu yq HF6 D6;go_wp2_with fail;refine(C7.o _ _ _ _ _ vs D7.o.rd (TI.o.trans D7.o.md) hb (HF7.o.lower (by omega))).mono ?_;rintro e w8 ⟨rfl,h8,m8⟩;have D8:=ai (D7.o.read h8 m8);have ado:=ai (aae.o.ae m8 (show ¬w5.heap.size=w.heap.size+1 by omega));have Gf:=ai (J4.o.ae m8 (λk hk e=>J4.o.ay D7.o.rd (by decide) (hk.trans (congrArg eC e))));have HF8:=ai (HF7.o.read D7.o.rd m8);clear h8 m8 D7 aae J4 HF7 z0 z1 y1 f1;obtain⟨r7,b7⟩:=q7;have x0:w8.cell? ⟨w.heap.size+1,0,ez⟩=eC (eI (T r7)):=D8.o.rd.cell 0;go_wp2_with fail;refine(dZ _ _ _ _ D8.o.rd).mono ?_;rintro e w9 ⟨rfl,h9,m9⟩;simp only;rw[show(T r7).toList=r7 by simp[T]]at h9;have D9:=ai (D8.o.read h9 m9);have adp:=ai (ado.o.ae m9 (show ¬w5.heap.size=w.heap.size+1 by omega));have HM9:=ai (Gf.o.ae m9 (λk hk e=>Gf.o.ay D8.o.rd (by decide) (hk.trans (congrArg eC e))));have HF9:=ai (HF8.o.read D8.o.rd m9);clear h9 m9 D8 ado Gf HF8 x0;have HQ:af (∃q8,az r7.isEmpty ⟨r7,b7⟩=q8):=⟨_,rfl⟩
 obtain⟨⟨r8,b8⟩,hq8⟩:=HQ.o;rw[hq8]at D9;have HQ8:=ai hq8;clear hq8 HQ;have x1:w9.cell? ⟨w.heap.size+1,1,ez⟩=eC (fS b8):=D9.o.rd.cell 1;have g0:=D9.o.rs.c0;have g1:=D9.o.rs.c1;have fg:=D9.o.rs.frozen;cases b8 with
 |true =>go_wp2_with fail;refine iz (aw results74 _ _ w.heap.size 99 _ (0,0) _ _ rfl rfl ((D9.o.rs.set 0 _).set 1 _) underlying99 rfl (by kernel_rfl)) rfl ?_;rw[HQ8.o];exact⟨_,_,[],rfl,(D9.o.md.set (.inr (Nat.le_refl _)) _).set (.inr (Nat.le_refl _)) _,⟨_,_,_,_,_,_,rfl,rfl⟩,λh=>(by cases h)⟩
 |false =>have z0:=adp.o.c0;have z1:=adp.o.c1;have HB:af (ak ((w9.setCell ⟨w.heap.size,0,ez⟩ (eK oM (ee ms) cM)).setCell ⟨w.heap.size,1,ez⟩ (eK oF (ee fs) cF)) w.heap.size #[eK oM (ee ms) cM,eK oF (ee fs) cF] 99):=(D9.o.rs.set 0 _).set 1 _;have gu:af (aa (Only w.heap.size) w9 ((w9.setCell ⟨w.heap.size,0,ez⟩ (eK oM (ee ms) cM)).setCell ⟨w.heap.size,1,ez⟩ (eK oF (ee fs) cF))):=(aA.bz _ _).bz _ _;go_wp2_with fail;refine iz (aw results74 _ _ w.heap.size 99 _ (0,0) _ _ rfl rfl HB.o underlying99 rfl (by kernel_rfl)) rfl ?_;rw[HQ8.o];exact⟨_,_,vs,rfl,D9.o.md.step gu.o (λi hi e=>by have:i=w.heap.size:=e;omega),⟨_,_,_,_,_,_,rfl,rfl⟩,λ_=>⟨HM9.o.ae gu.o (λk hk e=>HM9.o.ay D9.o.rs (by decide) (hk.trans (congrArg eC e))),((HF9.o.ae gu.o (λk hk e=>by have:=HF9.o.own k hk;have:k=w.heap.size:=e;omega) (λu hu k hk e=>by have:=HF9.o.rR u hu k hk;have:k=w.heap.size:=e;omega)).lower (by omega))⟩⟩
def jt(k:Int)(n:Nat):Bool:=eS (0<=k)&&eS (k<n)
def DB(m f:Nat)(x:PI)(r:PR):PR:=if x.aJ=1 then az (jt x.num f) r else if x.aJ=2 then az (jt x.num m) r else r
def wu(m f:Nat)(l:List PI)(r:PR):PR:=l.foldl (λr x=>DB m f x r) r
def uS(m f:Nat)(l:List cZ)(r:PR):PR:=l.foldl (λr g=>wu m f g.code r) r
theorem RV(m f:Nat)(l:List PI)(r:PR)(k:Nat)(h:k<ee l):wu m f (l.take (k+1)) r=DB m f l[k] (wu m f (l.take k) r):=by unfold wu;rw[ab h,ao];rfl
theorem RW(m f:Nat)(l:List cZ)(r:PR)(k:Nat)(h:k<ee l):uS m f (l.take (k+1)) r=wu m f l[k].code (uS m f (l.take k) r):=by unfold uS;rw[ab h,ao];rfl
theorem MG(w:tW)(o:Option Addr)(n c:Nat)(k:Int)(h0:-2147483648<=k)(h1:k<=2147483647)(hn:n<=100000):fL prog 162 #[eK o n c,vJ k] w λe w'=>e=fR (fS (jt k n))/\w'=w:=by
 unfold jt;by_cases hk:0<=k
 ·rw[decide_eq_true hk,Bool.true_and];go_in;go_wp2_with fail;go_ret;exact⟨rfl,rfl⟩
 ·rw[decide_eq_false hk,Bool.false_and];go_in;go_wp2_with fail;go_ret;exact⟨rfl,rfl⟩
theorem MH(w:tW)(o:Option Addr)(n c:Nat)(k:Int)(h0:-2147483648<=k)(h1:k<=2147483647)(hn:n<=100000):fL prog 163 #[eK o n c,vJ k] w λe w'=>e=fR (fS (jt k n))/\w'=w:=by
 unfold jt;by_cases hk:0<=k
 ·rw[decide_eq_true hk,Bool.true_and];go_in;go_wp2_with fail;go_ret;exact⟨rfl,rfl⟩
 ·rw[decide_eq_false hk,Bool.false_and];go_in;go_wp2_with fail;go_ret;exact⟨rfl,rfl⟩
structure tF(w:tW)(rb:Nat)(q:PR)(w':tW):Prop where
 rd:jO w' rb q
 md:aa (Only rb) w w'
theorem tF.quiet{w w' w'':tW}{rb:Nat}{q:PR}(h:tF w rb q w')(m:aa ah w' w''):tF w rb q w'':=⟨h.rd.ae m id,h.md.trans (m.of_nil)⟩
theorem tF.read{w w' w'':tW}{rb:Nat}{q q':PR}(h:tF w rb q w')(hr:jO w'' rb q')(m:aa (Only rb) w' w''):tF w rb q' w'':=⟨hr,h.md.trans m⟩
theorem tF.fns{w w':tW}{rb lo:Nat}{q q0:PR}{bs:tLN}{v:eM}{fs:List cZ}{vs:tLV}(h:tF w rb q w')(hr:jO w rb q0)(hF:xN w lo bs v fs vs):xN w' lo bs v fs vs :=
 hF.ae h.md (λk hk e=>hF.sl.ay hr (by decide) (hk.trans (congrArg eC e))) (λu hu k hk e=>by obtain⟨i,hi,rfl⟩:=List.getElem_of_mem hu;exact(hF.cd i (by rw[<-hF.len];exact hi) hi).ay hr (by decide) (hk.trans (congrArg eC e)))
