import Derived.Test.YthnphhgpfedeeaaGreatDoorC47
import Derived.Test.YthnphhgpfedeeaaGreatDoorC50
namespace Go.Proofs.YthnphhgpfedeeaaGreatDoor
open Go.RowKit Tryz
open Bool renaming and_eq_true->cb
open Int renaming emod_nonneg->bh,toNat_of_nonneg->b9,emod_lt_of_pos->ca
open Lib renaming decDigits->ab,itoa->al
open List renaming length_append->an,not_mem_nil->ao,mem_cons->ba,map_append->bj,append_assoc->bt,mem_append->b5
open Nat renaming le_trans->ar
set_option linter.all false
set_option maxRecDepth 100000
set_option maxHeartbeats 2000000
def zF(l:List tLB):List Value:=l.map (λs=>Value.string (T s))
theorem Q4(l:List tLB)(s:tLB):zF (l++[s])=zF l++[.string (T s)]:=by simp[zF]
structure uB(w0 w:tW)(v:Value)(l:List tLB):Prop where
 sl:Sl w 9 1 v l.length (zF l)
 lo:∀k,v.ownBlock=some k->w0.heap.size<=k
 md:aa ae w0 w
theorem uB.nil{w0 w:tW}(m:aa ae w0 w):uB w0 w (.slice none 0 0) []:=⟨Sl.nil _ _ _,λk h=>(by cases h),m⟩
theorem uB.quiet{w0 w w':tW}{v:Value}{l:List tLB}(h:uB w0 w v l)(m:aa ae w w'):uB w0 w' v l:=⟨h.sl.ag m (λ_ _=>id),h.lo,h.md.trans m⟩
theorem uB.app{w0 w w':tW}{v v':Value}{l:List tLB}{s:tLB}(h:uB w0 w v l)(hs:Sl w' 9 1 v' (l.length+1) (zF l++[.string (T s)]))(m:aa (λk=>v.ownBlock=some k) w w')(hl:∀k,v'.ownBlock=some k->v.ownBlock=some k\/w.heap.size<=k):uB w0 w' v' (l++[s]):=by
 refine⟨?_,λk hk=>?_,h.md.step m (λi hi e=>by have:=h.lo i e;omega)⟩
 ·rw[Q4,an];exact hs
 ·rcases hl k hk with e|e
  ·exact h.lo k e
  ·have:=h.md.size;omega
theorem uB.view{w0 w:tW}{v:Value}{l:List tLB}(h:uB w0 w v l):∃o cap,v=.slice o l.length cap/\(0<l.length->∃g cs,o=some ⟨g,0,none⟩/\ak w g cs 9/\(∀k (h:k<l.length),cs[k]?=some (.string (T l[k])))/\∀k (h:k<l.length),w.cell? ⟨g,k,none⟩=some (.string (T l[k]))):=by
 obtain⟨o,cap,hv,h2⟩:=h.sl.view;refine⟨o,cap,hv,λhp=>?_⟩;obtain⟨g,cs,rfl,hb,ht,_⟩:=h2 hp;have key:∀k (h:k<l.length),w.cell? ⟨g,k,none⟩=some (.string (T l[k])):=λk hk=>by rw[aW hb ht k (by omega)];simp[zF,hk]
 refine⟨g,cs,rfl,hb,λk hk=>?_,key⟩;have:=key k hk
 rwa [hb.cell]at this
theorem Lv{w w':tW}{a:Addr}{v:Value}(m:aa ae w w')(h:w.cell? a=some v):w'.cell? a=some v:=by
 have hl:a.block<w.heap.size:=by
  unfold World.cell? at h;cases hq:w.heap[a.block]? with
  |none=>rw[hq]at h;simp at h
  |some x=>exact(Array.getElem?_eq_some_iff.1 hq).1
 unfold World.cell? at h ⊢;rw[m.block a.block hl id];exact h
theorem Q5(w:tW)(o:Option Addr)(cap:Nat)(texts aR:List tLB)(MU:tLB)(hlen:aR.length=texts.length)(hn:texts.length<=8)(PP:Nat->tW->Prop)(hb:0<texts.length->∃g off,o=some ⟨g,off,none⟩/\∀k (h:k<texts.length),w.cell? ⟨g,off+k,none⟩=some (.string (T texts[k])))(HAS:af (∀w1 k (h:k<texts.length) (h':k<aR.length),aa ae w w1->Calls prog 18 #[.string (T texts[k])] w1 λe w'=>(∃n:Nat,e=.returned (.tuple #[.string (T aR[k]),.int .i64 0,.int .i64 n]))/\aa ae w1 w'))(HLI:af (∀w1 v,uB w w1 v aR->Calls prog 19 #[v] w1 λe w'=>(∃a:Int,e=.returned (.tuple #[.string (T MU),.int .i64 0,.int .i64 a]))/\aa ae w1 w'))(Rm:af (∀w1,aa ae w w1->Calls prog 16 #[.string (T MU)] w1 λe w'=>∃sb,e=.returned (.tuple #[pt sb,.int .i64 0])/\PP sb w')):Calls prog 10 #[.slice o texts.length cap] w λe w'=>∃sb,e=.returned (pt sb)/\PP sb w':=by
 obtain⟨iS,hiS,hzS,hsS,hbS⟩:=info_parts Sc;have HB:=ai hb;clear hb;obtain⟨n,hnn⟩:∃n,n=texts.length:=⟨_,rfl⟩
 have LU:=ai hnn;have VV:af (aR.length=n):=hlen.trans hnn.symm;have hn':n<=8:=by rw[hnn];exact hn
 rw[<-hnn];clear hnn hn hlen;go_enter func10,ntmps10;go_upto_block 0 with fail;go_cut [3] (λv wx=>uB w wx v aR)
 case first =>
  go_wp2_with fail;go_loopg [3,4] 8 (λq v iv wx=>∃(k:Nat),iv=.int .i64 k/\uB w wx v (aR.take k)/\k<=n/\q=8-k)
  case atStart=>exact⟨0,rfl,uB.nil ax,Nat.zero_le _,rfl⟩
  case round =>
   obtain⟨k,rfl,hS,hkn,rfl⟩:=hrel;have hlk:(aR.take k).length=k:=by rw[List.length_take,VV.o];omega
   obtain⟨o1,c1,rfl,_⟩:=hS.view;rw[hlk]at hS;rw[hlk];have HS:=ai hS;clear hS;by_cases hlt:k<n
   ·have hko:k<texts.length:=by rw[<-LU.o];exact hlt
    have hkp:k<aR.length:=by rw[VV.o];exact hlt
    obtain⟨g,off,rfl,hcl⟩:=HB.o (by omega);have l1:wr.cell? ⟨g,off+k,none⟩=some (.string (T texts[k])):=Lv HS.o.md (hcl k hko);have HA:=HAS.o wr k hko hkp HS.o.md;have Yd:af (aR.take (k+1)=aR.take k++[aR[k]]):=List.take_succ_eq_append_getElem hkp;clear hcl;generalize T texts[k]=sk at *;generalize aR[k]=ok at *;go_wp2_with fail;refine HA.mono ?_;rintro e w2 ⟨⟨a,rfl⟩,m2⟩;have HS2:=ai (HS.o.quiet m2);clear HA HS m2 l1;have HSA:af (uB w (w2.alloc (.cells #[.string (T ok)] 9)) (.slice o1 k c1) (aR.take k)):=HS2.o.quiet aj;have hsl:Sl (w2.alloc (.cells #[.string (T ok)] 9)) 9 1 (.slice o1 k c1) k (zF (aR.take k)):=by have:=HSA.o.sl;rw[hlk]at this;exact this
    have ET:=ai hsl;clear hsl;go_wp2_with (at_builtin;refine aL _ rfl (.tmp 30) (.tmp 32) 24 rfl 9 iS (.string ByteArray.empty) 1 16 underlying24 hiS hzS hsS hbS rfl (by decide) (.slice o1 k c1) k (zF (aR.take k)) rfl ET.o ⟨w2.heap.size,0,none⟩ 1 1 (#[.string (T ok)]:tAV).toList rfl rfl (aV w2 #[.string (T ok)] 9 _ rfl) (by simp[Value.oneCell']) (by unfold maxLen;omega) (by omega) ?_;intro v5 w5 s5 m5 l5;obtain⟨o5,c5,hv5,_⟩:=s5.view;subst hv5);have GX:af (uB w w5 (.slice o5 (k+1) c5) (aR.take (k+1))):=by unfold af;rw[Yd.o];exact HSA.o.app (by rw[hlk];exact s5) m5 l5
    clear s5 m5 l5 HSA HS2 ET;go_roundg (8-(k+1))
    case measure=>omega
    case rel=>exact⟨k+1,by go_num,GX.o,by omega,rfl⟩
   ·have hkk:k=n:=by omega
    have HE:af (aR.take k=aR):=List.take_of_length_le (by rw[VV.o];omega);rw[HE.o]at HS;go_wp2_with fail;go_meet;exact HS.o
 case rest =>
 have hS:uB w wc _ aR:=hcut;obtain⟨o1,c1,rfl,_⟩:=hS.view;have HL:=ai (HLI.o wc _ hS);have nP:=ai hS.md;clear hS hcut HLI HAS HB;go_wp2_with fail;refine HL.o.mono ?_;rintro e w2 ⟨⟨a,rfl⟩,m2⟩;have HLD:=ai (Rm.o w2 (nP.o.trans m2));clear HL Rm m2;go_wp2_with fail;refine HLD.o.mono ?_;rintro e w3 ⟨sb,rfl,hP⟩;have HP:=ai hP;clear hP HLD;go_wp2_with fail;go_ret;exact⟨sb,rfl,HP.o⟩
def Vu(t:tLB):BS:=match parseP (linesP t) false 0 []with
 |.inl ls=>aK (ah ls) ls
 |.inr _=>{}
def ac2(t:tLB):Nat:=match parseP (linesP t) false 0 []with
 |.inl ls=>(firstP (ah ls) ls {} 0).1
 |.inr _=>1
theorem YL{t o:tLB}(hl:¬4000<t.length)(h1:ac2 t=0)(h2:(Vu t).ms.length=0)(h3:(Vu t).fs.length=1)(h4:oI [] (Vu t).fs=o){s:tBA}{c n:Nat}(h:tI t s c n):s=T o/\c=0:=by
 unfold Vu at h2 h3 h4;unfold ac2 at h1;unfold tI at h;rw[iN9 hl]at h;cases hp:parseP (linesP t) false 0 []with
 |inr k=>rw[hp]at h1;cases h1
 |inl ls =>
  rw[hp]at h h1 h2 h3 h4;dsimp only at h h1 h2 h3 h4;rw[iP9 h1]at h;obtain⟨hc,_,ms,fs,pm,_,pf,_,rfl⟩:=h;have e1:ms=[]:=by have:=pm.length_eq;rw[h2]at this;exact List.length_eq_zero_iff.1 this
  obtain⟨f,hf⟩:=List.length_eq_one_iff.1 h3;rw[hf]at pf h4;rw[e1,List.perm_singleton.1 pf,h4];exact⟨rfl,hc⟩
theorem Vv{o i:tLB}(h1:(decsP [o]).length=1)(h2:((decsP [o]).flatMap (·.1)).length=0)(h3:((decsP [o]).flatMap (·.2)).length=1)(h4:(lu (decsP [o]) [] ((decsP [o]).flatMap (·.2))).1=0)(h5:ib 2 (bQ []) (((decsP [o]).flatMap (·.2)).map (aS.linked (Mk (bQ [])) (KK ((decsP [o]).flatMap (·.2)))))=i){s:tBA}{e a:Int}(h:iD [o] s e a):s=T i/\e=0:=by
 unfold iD at h;rw[iN9 (by simp),iN9 (by rw[h1];simp)]at h;obtain⟨ms,fs,pm,_,pf,_,h⟩:=h;have e1:ms=[]:=by have:=pm.length_eq;rw[h2]at this;exact List.length_eq_zero_iff.1 this
 obtain⟨f,hf⟩:=List.length_eq_one_iff.1 h3;have e2:fs=(decsP [o]).flatMap (·.2):=by rw[hf]at pf ⊢;exact List.perm_singleton.1 pf
 rw[e1,e2,h4,iN9 (by simp),h5]at h;exact⟨h.1,h.2.1⟩
def ZY:tLB:=[102,117,110,99,32,102,10,109,111,118,32,114,48,44,32,50,10,109,117,108,32,114,48,44,32,50,49,10,101,120,105,116]
def awO:tLB:=oI [] (Vu ZY).fs
def awI:tLB:=ib 2 (bQ []) (((decsP [awO]).flatMap (·.2)).map (aS.linked (Mk (bQ [])) (KK ((decsP [awO]).flatMap (·.2)))))
theorem abm{s:tBA}{c n:Nat}(h:tI ZY s c n):s=T awO/\c=0:=YL (by decide) (by decide +kernel) (by decide +kernel) (by decide +kernel) rfl h
theorem YM{s:tBA}{e a:Int}(h:iD [awO] s e a):s=T awI/\e=0:=Vv (by decide +kernel) (by decide +kernel) (by decide +kernel) (by decide +kernel) rfl h
theorem YN:∀q∈decsP [awO],nI q/\q.1=[]:=BN (by decide +kernel)
def ZZ:List aS:=[⟨[102],[⟨2,0,0,0,2,0,[]⟩,⟨14,0,0,0,21,0,[]⟩,⟨87,0,0,0,0,0,[]⟩]⟩]
theorem abn:dP awI=([],ZZ,⟨[],false⟩):=by kernel_rfl
theorem Vw:awI.length<=1000/\awO.length<=1000:=by decide +kernel
theorem YO:qK ZZ 0:=I1 (by decide +kernel) (by decide +kernel)
theorem abo:(tL ZZ [] [] [102] ⟨#[]⟩ 9).1.trap=0/\(tL ZZ [] [] [102] ⟨#[]⟩ 9).1.r0=42/\(tL ZZ [] [] [102] ⟨#[]⟩ 9).1.used=3:=by decide +kernel
theorem Vx{fs:List aS}(h:(fs.all λf=>(atS 0 f.code).all λp=>fewB (dz p.1.o.code) p.1.s)=true):Cg fs:=λf hf p hp=>List.all_eq_true.1 (List.all_eq_true.1 h f hf) p hp
theorem Vy:Cg ZZ:=Vx (by decide +kernel)
theorem tT.wide{w w1 w':tW}{ms:List az}{fs:List aS}{sb:Nat}(h:tT w1 ms fs sb w')(m:aa ae w w1):tT w ms fs sb w':=by obtain⟨bs,b,vF,vM,gs,mb,tv,wT,hB,hl,hm,hT,hM,hk⟩:=h;have:=m.size;exact⟨bs,b,vF,vM,gs,mb,tv,wT,hB,ar this hl,m.trans hm,ar this hT,hM,λk hk'=>ar this (hk k hk')⟩
theorem Jb(w:tW)(hW:sV w)(hE:Env w)(hM:mE w)(o:Option Addr)(cap:Nat)(texts aR:List tLB)(MU:tLB)(ms:List az)(fs:List aS)(hlen:aR.length=texts.length)(hn:texts.length<=8)(hb:0<texts.length->∃g off,o=some ⟨g,off,none⟩/\∀k (h:k<texts.length),w.cell? ⟨g,off+k,none⟩=some (.string (T texts[k])))(hT:∀k (h:k<texts.length),Ir texts[k]) (hA:∀k (h:k<texts.length) (h':k<aR.length) s c n,tI texts[k] s c n->s=T aR[k]/\c=0) (hL:∀s e a,iD aR s e a->s=T MU/\e=0) (ho:∀s∈aR,s.length<=maxLen) (hi:MU.length<=maxLen) (hD:dP MU=(ms,fs,⟨[],false⟩)) (hz:I4 ms fs=true) (hq:∀q∈decsP aR,nI q/\q.1=[]):Calls prog 10 #[.slice o texts.length cap] w λe w'=>∃sb,e=.returned (pt sb)/\tT w ms fs sb w':=by
 refine Q5 w o cap texts aR MU hlen hn (tT w ms fs) hb (λw1 k h h' m=>?_) (λw1 v hS=>?_) (λw1 m=>?_)
 ·refine(Qe w1 texts[k] (hW.ag m) (hE.ag m) (hM.ag m) (hT k h)).mono λe w' ⟨s,c,n,h1,h2,h3⟩=>?_;obtain⟨rfl,rfl⟩:=hA k h h' s c n h2;exact⟨⟨n,h1⟩,h3⟩
 ·obtain⟨o',cap',rfl,hv⟩:=hS.view;refine(KR w1 (hW.ag hS.md) o' cap' aR (λh=>?_) (by unfold maxLen;omega) ho hq).mono λe w' ⟨s,c,a,h1,h2,h3⟩=>?_
  ·obtain⟨g,cs,h1,h2,h3,_⟩:=hv h;exact⟨g,cs,h1,h2,h3⟩
  ·obtain⟨rfl,rfl⟩:=hL s c a h2;exact⟨⟨a,h1⟩,h3⟩
 ·exact(I5 w1 (hW.ag m) MU hi ms fs hD hz).mono λe w' ⟨sb,h1,h2⟩=>⟨sb,h1,h2.wide m⟩
theorem abp:Ir ZY:=aaK (by decide +kernel)
theorem Q6(w:tW)(hW:sV w)(hE:Env w)(hM:mE w)(hf:∀F b,MJ F b ZZ)(hkf:xU ZZ):Calls prog 7 #[] w λe w'=>e=.returned (.bool true)/\aa ae w w':=by
 have m0:aa ae w (w.alloc (.cells #[.string (T ZY)] 9)):=(aa.refl ae w).alloc _;have eX:=ai m0
 have nP:=ai (Jb (w.alloc (.cells #[.string (T ZY)] 9)) (hW.ag m0) (hE.ag m0) (hM.ag m0) (some ⟨w.heap.size,0,none⟩) 1 [ZY] [awO] awI [] ZZ rfl (by decide) (λ_=>⟨w.heap.size,0,rfl,λk h=>by
  have:k=0:=by simp at h;omega
  subst this;exact(ak.new w _ _).cell 0⟩) (λk h=>by
  have:k=0:=by simp at h;omega
  subst this;exact abp) (λk h h' s c n hR=>by
  have:k=0:=by simp at h;omega
  subst this;exact abm hR) (λs e a h=>YM h) (λs hs=>by rw[List.mem_singleton.1 hs];have:=Vw.2;unfold maxLen;omega) (by have:=Vw.1;unfold maxLen;omega) abn (by decide +kernel) YN)
 have HT:af ((⟨#[102,117,110,99,32,102,10,109,111,118,32,114,48,44,32,50,10,109,117,108,32,114,48,44,32,50,49,10,101,120,105,116]⟩:tBA)=T ZY):=rfl;clear hW hE hM m0;go_enter func7,ntmps7;go_wp2_with fail;rw[HT.o];generalize w.alloc (.cells #[.string (T ZY)] 9)=W1 at *;refine nP.o.mono ?_;rintro e w2 ⟨sb,rfl,Xy⟩;obtain⟨bs,b,vF,vM,gs,mb,tv,wT,hB,hl,hm,hT,Vn,hk⟩:=Xy
 have Wg:af (Calls prog 12 #[pt sb,.string ⟨#[102]⟩,.string ⟨#[]⟩,.int .i64 9] w2 λe w'=>∃vL d:Value,∃f:tBA,∃sl:Nat,∃i:tBA,e=.returned (.agg #[.int .i64 0,.string f,.int .i64 sl,.int .u64 42,.string i,vL,.int .i64 3])/\(∃o n c,vL=.slice o n c)/\aa ae w w'):=by
  refine(Ch Vn sb hB YO hf hkf (by decide) [102] ⟨#[]⟩ (by decide) 9 (by decide)).mono ?_;rintro e w3 ⟨vL,a',rfl,hL,_,_,_,_,m3⟩;obtain⟨r1,r2,r3⟩:=abo;have e0:jB []=[]:=rfl;rw[e0]at hL ⊢;obtain⟨oL,cL,hv,_⟩:=hL.view;generalize(tL ZZ [] [] [102] ⟨#[]⟩ 9).1=R at *;refine⟨vL,undef,T R.fn,R.slot,strOf R.inp,?_,⟨_,_,_,hv⟩,((eX.o.trans hm).step m3 (λk hk' e=>?_))⟩
  ·unfold mK;rw[r1,r2,r3];rfl
  ·have h1:=eX.o.size;have h2:=hk k (e.elim .inl (λh=>.inr (.inl h)));omega
 have HB:=ai hB;clear hB hl hm hT Vn hk nP eX HT hf hkf;go_wp2_with fail;refine Wg.o.mono ?_;rintro e w3 ⟨vL,_,f,sl,i,rfl,⟨oL,nL,cL,rfl⟩,m3⟩;have dw:=ai m3;clear m3 Wg HB;go_wp2_with fail;go_ret;exact⟨rfl,dw.o.alloc _⟩
def py(c:Int)(n:Nat):Nat:=(if c<0 then(-(c+1))%(n:Int)else c%(n:Int)).toNat
theorem Jc(c:Int)(n:Nat)(hn:0<n):py c n<n:=by
 unfold py;split
 ·have:=ca (-(c+1)) (show(0:Int)<n by omega);have:=bh (-(c+1)) (show(n:Int)≠0 by omega);omega
 ·have:=ca c (show(0:Int)<n by omega);have:=bh c (show(n:Int)≠0 by omega);omega
theorem Eg(w:tW)(c:Int)(n:Nat)(h0:-9223372036854775808<=c)(h1:c<=9223372036854775807)(hn:0<n)(hn8:n<=1073741824):Calls prog 9 #[.int .i64 c,.int .i64 n] w λe w'=>e=.returned (.int .i64 (py c n))/\w'=w:=by
 by_cases hc:c<0
 ·have e:((py c n:Nat):Int)=-((c+1).tmod n):=by unfold py;rw[iP9 hc,<-Int.neg_tmod,Int.tmod_eq_emod_of_nonneg (by omega)];exact b9 (bh _ (by omega))
  have HE:=ai e;clear e;generalize py c n=r at *;go_enter func9,ntmps9;go_wp2_with fail;go_ret;exact⟨by rw[HE.o];rfl,rfl⟩
 ·have e:((py c n:Nat):Int)=c%n:=by unfold py;rw[iN9 hc];exact b9 (bh _ (by omega))
  have HE:=ai e;clear e;generalize py c n=r at *;go_enter func9,ntmps9;go_wp2_with fail;go_ret;exact⟨by rw[HE.o];rfl,rfl⟩
theorem Vz(w:tW)(k:Nat)(hk:k<256):(convert 30 9 (.slice (some ⟨w.heap.size,0,none⟩) 1 1)).run prog (w.alloc (.cells #[.int .u8 k] 5))=.ok (.string (strOf [k])) (w.alloc (.cells #[.int .u8 k] 5)) :=
 Ca _ w.heap.size 1 1 [k] (λb hb=>by rw[List.mem_singleton.1 hb];exact hk) ((Sl.fresh (ak.new w _ _) rfl (by show(1:Nat)<=maxLen;decide)).bys rfl)
theorem Nb:∀(n:Nat) (w:tW),n<18446744073709551616->Calls prog 11 #[.int .u64 n] w λe w'=>e=.returned (.string (T (ab n)))/\aa ae w w':=by
 intro n;induction n using Nat.strongRecOn with
 |ind n ih =>
  intro w hn;have hcast:((48+n%10:Nat):Int)=48+(n:Int)%10:=by omega
  have Fs:=ai (Vz w (48+n%10) (by omega));have dh:af (aa ae w (w.alloc (.cells #[.int .u8 ((48+n%10:Nat):Int)] 5))):=aj;rw[hcast]at Fs dh;have Cr:af (strOf [48+n%10]=T [UInt8.ofNat (48+n%10)]):=rfl;rw[Cr.o]at Fs;by_cases h10:n<10
  ·have HD:af (ab n=[UInt8.ofNat (48+n%10)]):=by unfold af;rw[ab,dif_pos h10,Nat.mod_eq_of_lt h10]
   rw[HD.o];clear ih hcast Cr HD;generalize T [UInt8.ofNat (48+n%10)]=sd at *;go_enter func11,ntmps11;go_wp2_with (rw[Fs.o]);go_ret;exact⟨rfl,dh.o⟩
  ·have HD:af (T (ab n)=T (ab (n/10))++T [UInt8.ofNat (48+n%10)]):=by unfold af;rw[ab,dif_neg h10,rF]
   have HI:af (∀w',Calls prog 11 #[.int .u64 ((n:Int)/10)] w' λe w''=>e=.returned (.string (T (ab (n/10))))/\aa ae w' w''):=λw'=>by have:=ih (n/10) (by omega) w' (by omega);rw[show(((n/10:Nat)):Int)=(n:Int)/10 by omega]at this;exact this
   rw[HD.o];have hsd:(T [UInt8.ofNat (48+n%10)]).size=1:=rfl;have hsq:(T (ab (n/10))).size<=20:=by rw[bG];exact uu (by omega)
   clear ih hcast Cr HD;generalize T [UInt8.ofNat (48+n%10)]=sd at *;generalize T (ab (n/10))=sq at *;go_enter func11,ntmps11;go_wp2_with (rw[Fs.o]);refine(HI.o _).mono ?_;rintro e w2 ⟨rfl,m2⟩;have dD:=ai (dh.o.trans m2);clear m2 HI Fs;go_wp2_with fail;go_ret;exact⟨rfl,dD.o⟩
def joinL:List tLB->tLB
 |[]=>[]
 |[a]=>a
 |a::b::l=>a++10::joinL (b::l)
theorem Cn:∀(L:List tLB),L≠[]->(∀a∈L,∀c∈a,c≠10)->linesP (joinL L)=L
 |[],h,_=>absurd rfl h
 |[a],_,h=>yE a (h a (by simp))
 |a::b::l,_,h=>by rw[joinL,Ee a _ (h a (by simp)),Cn (b::l) (by simp) (λc hc=>h c (List.mem_cons_of_mem _ hc))]
def Jd(d n:Nat):tLB:=[109,111,118,32,114]++(UInt8.ofNat (48+d)::[44,32])++ab n
def abq(d n:Nat):dN:={kind:=4,x:=⟨2,⟨[109,111,118],[],d,0,0,(n:Int),0,[],[],false⟩⟩}
theorem Je(n:Nat):al (n:Int)=ab n:=by
 unfold al;split
 ·omega
 ·rfl
theorem VA{d n:Nat}(hd:d<10)(hn:n<=2147483647):j9 [109,111,118] (kR d++44::32::al (n:Int))=some ⟨2,⟨[109,111,118],[],d,0,0,(n:Int),0,[],[],false⟩⟩:=by have e:aq=YP 0::YP 1::YP 2::aq.drop 3:=rfl;have hsk:=I9 d (44::32::al (n:Int));have h0:(YP 0).read (st0 [109,111,118] (kR d++44::32::al (n:Int)))=none:=(Cl rfl _).trans (Q3 hsk (by omega));have h2:(YP 2).read (st0 [109,111,118] (kR d++44::32::al (n:Int)))=some {st0 [109,111,118] []with d:=d,num:=n}:=(Cl rfl _).trans (abh hsk (by omega) (by omega) (by omega));unfold st0 at h0 h2;unfold j9;rw[e,readFrom,iP9 (by decide),h0];simp only;rw[readFrom,iN9 (by decide),readFrom,iP9 (by decide),h2];rfl
theorem pz{d n:Nat}(hd:d<10)(hn:n<=2147483647):bT (Jd d n)=some (abq d n)/\∀c∈Jd d n,c≠10:=by
 have hw:Jd d n=[109,111,118]++32::(kR d++44::32::al (n:Int)):=by unfold kR Jd;rw[Je d,Je n,Lib.decDigits_one hd];simp
 have hok:∀c∈Jd d n,Ja c=true:=by
  intro c hc;rw[hw]at hc;simp only[b5,ba,ao,or_false]at hc;rcases hc with(rfl|rfl|rfl)|rfl|hc|rfl|rfl|hc
  all_goals first|decide|exact Cm (Eb d c hc)|exact YK n c hc
 have hsk:ay (Jd d n)=[109,111,118]++32::(kR d++44::32::al (n:Int)):=by rw[hw,List.cons_append,pq (by decide)]
 have hwd:=zV hsk (by decide) (Stop.cons (by decide));have hs2:ay (32::(kR d++44::32::al (n:Int)))=kR d++44::32::al (n:Int):=by rw[wg,I9]
 have hm:aP 58 (32::(kR d++44::32::al (n:Int)))=false:=(MW (c:=114) (t:=al (d:Int)++44::32::al (n:Int)) hs2 (by decide)).1;refine⟨?_,abk hok⟩;unfold bT;rw[abj hok,Option.bind_some,hsk,hwd];rw[iN9 (by simp)];simp only[hm,Bool.false_eq_true,if_false];rw[iN9 (by decide),iN9 (by decide),hs2,VA hd hn];rfl
def VB:List tLB:=[[102,117,110,99,32,102],[109,111,118,32,114,54,44,32,114,49],[109,111,118,32,114,55,44,32,114,50],[106,101,113,32,114,49,44,32,48,44,32,101,110,100],[115,117,98,32,114,49,44,32,49],[97,100,100,32,114,50,44,32,51],[99,97,108,108,32,102],[106,110,101,32,114,49,44,32,48,44,32,98,97,100],[106,110,101,32,114,50,44,32,48,44,32,98,97,100],[97,100,100,32,114,48,44,32,114,54],[97,100,100,32,114,48,44,32,114,55],[101,120,105,116],[101,110,100,58],[109,111,118,32,114,48,44,32,114,55],[101,120,105,116],[98,97,100,58],[109,111,118,32,114,48,44,32,48],[101,120,105,116],[102,117,110,99,32,109,97,105,110]]
def YQ:List tLB:=[[99,97,108,108,32,102],[101,120,105,116],[102,117,110,99,32,108,111,115,116],[99,97,108,108,32,111,119,110],[108,100,49,32,114,48,44,32,91,114,48,93],[101,120,105,116],[102,117,110,99,32,111,119,110],[109,111,118,32,114,48,44,32,114,49,48],[115,117,98,32,114,48,44,32,56],[115,116,56,32,91,114,48,93,44,32,55],[101,120,105,116]]
def Lw(n x:Nat):List tLB:=VB++[Jd 1 n,Jd 2 x]++YQ
def Jv(n x:Nat):tLB:=joinL (Lw n x)
def VC(l:tLB):dN:=(bT l).getD {}
def Jf(n x:Nat):List dN:=VB.map VC++[abq 1 n,abq 2 x]++YQ.map VC
theorem zW:(VB.all λl=>(bT l).isSome&&l.all (· != 10))=true/\(YQ.all λl=>(bT l).isSome&&l.all (· != 10))=true:=by decide +kernel
theorem qL(L:List tLB)(h:(L.all λl=>(bT l).isSome&&l.all (· != 10))=true):L.map bT=(L.map VC).map some/\∀a∈L,∀c∈a,c≠10:=by
 refine⟨?_,λa ha c hc=>?_⟩
 ·rw[List.map_map];apply List.map_congr_left;intro l hl;have:=List.all_eq_true.1 h l hl;rw[cb]at this;obtain⟨p,hp⟩:=Option.isSome_iff_exists.1 this.1;show bT l=some (VC l)
  unfold VC;rw[hp];rfl
 ·have:=List.all_eq_true.1 h a ha;rw[cb]at this
  simpa using List.all_eq_true.1 this.2 c hc
theorem Jg{n x:Nat}(hn:n<=2147483647)(hx:x<=2147483647):linesP (Jv n x)=Lw n x:=by
 obtain⟨_,b1⟩:=qL _ zW.1;obtain⟨_,b2⟩:=qL _ zW.2;obtain⟨_,c1⟩:=pz (d:=1) (by decide) hn;obtain⟨_,c2⟩:=pz (d:=2) (by decide) hx;refine Cn _ (by unfold Lw VB;simp) (λa ha=>?_);unfold Lw at ha;simp only[b5,ba,ao,or_false]at ha;rcases ha with(ha|rfl|rfl)|ha
 ·exact b1 a ha
 ·exact c1
 ·exact c2
 ·exact b2 a ha
theorem Jh{n x:Nat}(hn:n<=2147483647)(hx:x<=2147483647):parseP (linesP (Jv n x)) false 0 []=.inl (Jf n x):=by obtain⟨a1,_⟩:=qL _ zW.1;obtain⟨a2,_⟩:=qL _ zW.2;rw[Jg hn hx];have:=Ef (Lw n x) (Jf n x) false 0 [] (by unfold Lw Jf;rw[bj,bj,bj,bj,a1,a2];simp only[List.map_cons,List.map_nil,(pz (d:=1) (by decide) hn).1,(pz (d:=2) (by decide) hx).1]) (by kernel_rfl);rw[this];rfl
theorem Ji(n x:Nat):(firstP (ah (Jf n x)) (Jf n x) {} 0).1=0:=by kernel_rfl
def cdB(n x:Nat):BS:=aK (ah (Jf n x)) (Jf n x)
set_option linter.all false
def cF:aS:=⟨[102],[⟨0,6,1,0,0,0,[]⟩,⟨0,7,2,0,0,0,[]⟩,⟨52,1,0,8,0,0,[]⟩,⟨10,1,0,0,1,0,[]⟩,⟨6,2,0,0,3,0,[]⟩,⟨86,0,1,0,0,0,[102]⟩,⟨54,1,0,6,0,0,[]⟩,⟨54,2,0,5,0,0,[]⟩,⟨4,0,6,0,0,0,[]⟩,⟨4,0,7,0,0,0,[]⟩,⟨87,0,0,0,0,0,[]⟩,⟨0,0,7,0,0,0,[]⟩,⟨87,0,0,0,0,0,[]⟩,⟨2,0,0,0,0,0,[]⟩,⟨87,0,0,0,0,0,[]⟩]⟩
def cLo:aS:=⟨[108,111,115,116],[⟨86,0,1,0,0,0,[111,119,110]⟩,⟨73,0,0,0,0,0,[]⟩,⟨87,0,0,0,0,0,[]⟩]⟩
def aeR:aS:=⟨[108,111,115,116],[⟨86,0,1,0,3,0,[111,119,110]⟩,⟨73,0,0,0,0,0,[]⟩,⟨87,0,0,0,0,0,[]⟩]⟩
def cM(n x:Int):aS:=⟨[109,97,105,110],[⟨2,1,0,0,n,0,[]⟩,⟨2,2,0,0,x,0,[]⟩,⟨86,0,1,0,0,0,[102]⟩,⟨87,0,0,0,0,0,[]⟩]⟩
def cOw:aS:=⟨[111,119,110],[⟨0,0,10,0,0,0,[]⟩,⟨10,0,0,0,8,0,[]⟩,⟨84,0,0,0,7,0,[]⟩,⟨87,0,0,0,0,0,[]⟩]⟩
def jd(n x:Nat):List aS:=[cF,cLo,cM n x,cOw]
def CV(n x:Nat):List aS:=[cF,aeR,cM n x,cOw]
theorem ac3(n x:Nat):(cdB n x).ms=[]:=by kernel_rfl
theorem ac4(n x:Nat):(cdB n x).fs=[cF,cM n x,cLo,cOw]:=by kernel_rfl
theorem YR(n x:Nat):(jd n x).Perm [cF,cM n x,cLo,cOw]:=List.Perm.cons _ (List.Perm.swap _ _ _)
theorem VD(n x:Nat):(jd n x).Pairwise (λx y=>ji (T y.name) (T x.name)=false):=by
 have h:([[102],[108,111,115,116],[109,97,105,110],[111,119,110]]:List tLB).Pairwise (λx y=>ji (T y) (T x)=false):=by decide +kernel
 have e:(jd n x).map (·.name)=[[102],[108,111,115,116],[109,97,105,110],[111,119,110]]:=rfl;rw[<-e,List.pairwise_map]at h;exact h
theorem Z0(n x:Nat):((jd n x).map (λf=>T f.name)).Nodup:=by have e:(jd n x).map (λf=>T f.name)=[T [102],T [108,111,115,116],T [109,97,105,110],T [111,119,110]]:=rfl;rw[e];decide +kernel
theorem abr{n x:Nat}(hn:n<=2147483647)(hx:x<=2147483647)(hl:¬4000<(Jv n x).length){s:tBA}{c k:Nat}(h:tI (Jv n x) s c k):s=T (oI [] (jd n x))/\c=0:=by
 unfold tI at h;rw[iN9 hl,Jh hn hx]at h;dsimp only at h;rw[iP9 (Ji n x)]at h;obtain⟨hc,_,ms,fs,pm,_,pf,sf,rfl⟩:=h;have e1:ms=[]:=by have h2:=ac3 n x;unfold cdB at h2;rw[h2]at pm;exact List.perm_nil.1 pm
 have e2:fs=jd n x:=by have h2:=ac4 n x;unfold cdB at h2;rw[h2]at pf;exact xV (nm:=λf=>T f.name) (pf.trans (YR n x).symm) (List.Perm.refl _) (Z0 n x) sf (VD n x)
 rw[e1,e2];exact⟨rfl,hc⟩
def coA:tLB:=[83,80,79,76,1,0,4,1,102,15,0,4,108,111,115,116,3,0,4,109,97,105,110,4,0,3,111,119,110,4,0,1,22,0,0,0,0,0,0,1,39,0,0,0,0,0,0,97,1,8,0,0,0,0,0,35,1,0,0,1,0,0,0,34,2,0,0,3,0,0,0,193,16,0,0,0,0,0,0,98,1,6,0,0,0,0,0,98,2,5,0,0,0,0,0,2,96,0,0,0,0,0,0,2,112,0,0,0,0,0,0,194,0,0,0,0,0,0,0,1,112,0,0,0,0,0,0,194,0,0,0,0,0,0,0,33,0,0,0,0,0,0,0,194,0,0,0,0,0,0,0,193,16,0,0,0,0,0,0,128,0,0,0,0,0,0,0,194,0,0,0,0,0,0,0,33,1,0,0]
def coB:tLB:=[33,2,0,0]
def coC:tLB:=[193,16,0,0,0,0,0,0,194,0,0,0,0,0,0,0,1,160,0,0,0,0,0,0,35,0,0,0,8,0,0,0,139,0,0,0,7,0,0,0,194,0,0,0,0,0,0,0,3,0,0,5,0,1,102,1,0,0,3,111,119,110,2,2,0,1,102]
theorem VE(n x:Nat):oI [] (jd n x)=coA++(b8 (gG (n:Int))++(coB++(b8 (gG (x:Int))++coC))):=by kernel_rfl
theorem YS(b0 b1 b2 b3 c0 c1 c2 c3:UInt8):fq (coA++([b0,b1,b2,b3]++(coB++([c0,c1,c2,c3]++coC))))=([],[cF,cLo,cM (bA [b0,b1,b2,b3]) (bA [c0,c1,c2,c3]),cOw],⟨[],false⟩):=by kernel_rfl
theorem zX(k:Int):∃b0 b1 b2 b3:UInt8,b8 (gG k)=[b0,b1,b2,b3]:=⟨_,_,_,_,rfl⟩
theorem FK{n:Nat}(h:n<=2147483647):bA (b8 (gG (n:Int)))=n:=by have h1:=abl (n:=(n:Int)) (by omega) [];rw[List.append_nil]at h1;exact h1
theorem VF{n x:Nat}(hn:n<=2147483647)(hx:x<=2147483647):fq (oI [] (jd n x))=([],jd n x,⟨[],false⟩):=by obtain⟨b0,b1,b2,b3,eb⟩:=zX n;obtain⟨c0,c1,c2,c3,ec⟩:=zX x;rw[VE,eb,ec,YS,<-eb,<-ec,FK hn,FK hx];rfl
theorem Q7(n x:Nat):(lu [([],jd n x)] [] (jd n x)).1=0:=by kernel_rfl
theorem ac5(n x:Nat):ib 2 (bQ []) ((jd n x).map (aS.linked (Mk (bQ [])) (KK (jd n x))))=ib 2 [] (CV n x):=by
 have e:(jd n x).map (aS.linked (Mk (bQ [])) (KK (jd n x)))=CV n x:=by kernel_rfl
 rw[e];rfl
theorem YT{n x:Nat}(hn:n<=2147483647)(hx:x<=2147483647){s:tBA}{e a:Int}(h:iD [oI [] (jd n x)] s e a):s=T (ib 2 [] (CV n x))/\e=0:=by
 have hd:decsP [oI [] (jd n x)]=[([],jd n x)]:=by rw[decsP,VF hn hx];rfl
 unfold iD at h;rw[iN9 (by simp),hd,iN9 (by simp)]at h;obtain⟨ms,fs,pm,_,pf,sf,h⟩:=h;have e1:ms=[]:=List.perm_nil.1 pm
 have e2:fs=jd n x:=by
  have:([(([]:List az),jd n x)].flatMap (·.2))=jd n x:=by simp
  rw[this]at pf;exact xV (nm:=λf=>T f.name) pf (List.Perm.refl _) (Z0 n x) sf (VD n x)
 rw[e1,e2,Q7,iN9 (by simp),ac5]at h;exact⟨h.1,h.2.1⟩
def cdA:tLB:=[83,80,79,76,2,0,4,1,102,15,0,4,108,111,115,116,3,0,4,109,97,105,110,4,0,3,111,119,110,4,0,1,22,0,0,0,0,0,0,1,39,0,0,0,0,0,0,97,1,8,0,0,0,0,0,35,1,0,0,1,0,0,0,34,2,0,0,3,0,0,0,193,16,0,0,0,0,0,0,98,1,6,0,0,0,0,0,98,2,5,0,0,0,0,0,2,96,0,0,0,0,0,0,2,112,0,0,0,0,0,0,194,0,0,0,0,0,0,0,1,112,0,0,0,0,0,0,194,0,0,0,0,0,0,0,33,0,0,0,0,0,0,0,194,0,0,0,0,0,0,0,193,16,0,0,3,0,0,0,128,0,0,0,0,0,0,0,194,0,0,0,0,0,0,0,33,1,0,0]
def ac6:tLB:=[33,2,0,0]
def cdC:tLB:=[193,16,0,0,0,0,0,0,194,0,0,0,0,0,0,0,1,160,0,0,0,0,0,0,35,0,0,0,8,0,0,0,139,0,0,0,7,0,0,0,194,0,0,0,0,0,0,0]
def cFb:aS:=⟨[102],[⟨0,6,1,0,0,0,[]⟩,⟨0,7,2,0,0,0,[]⟩,⟨52,1,0,8,0,0,[]⟩,⟨10,1,0,0,1,0,[]⟩,⟨6,2,0,0,3,0,[]⟩,⟨86,0,1,0,0,0,[]⟩,⟨54,1,0,6,0,0,[]⟩,⟨54,2,0,5,0,0,[]⟩,⟨4,0,6,0,0,0,[]⟩,⟨4,0,7,0,0,0,[]⟩,⟨87,0,0,0,0,0,[]⟩,⟨0,0,7,0,0,0,[]⟩,⟨87,0,0,0,0,0,[]⟩,⟨2,0,0,0,0,0,[]⟩,⟨87,0,0,0,0,0,[]⟩]⟩
def aeS:aS:=⟨[108,111,115,116],[⟨86,0,1,0,3,0,[]⟩,⟨73,0,0,0,0,0,[]⟩,⟨87,0,0,0,0,0,[]⟩]⟩
def cMb(n x:Int):aS:=⟨[109,97,105,110],[⟨2,1,0,0,n,0,[]⟩,⟨2,2,0,0,x,0,[]⟩,⟨86,0,1,0,0,0,[]⟩,⟨87,0,0,0,0,0,[]⟩]⟩
def xW(n x:Int):List aS:=[cFb,aeS,cMb n x,cOw]
theorem VG(n x:Nat):ib 2 [] (CV n x)=cdA++(b8 (gG (n:Int))++(ac6++(b8 (gG (x:Int))++cdC))):=by kernel_rfl
theorem YU(b0 b1 b2 b3 c0 c1 c2 c3:UInt8):dP (cdA++([b0,b1,b2,b3]++(ac6++([c0,c1,c2,c3]++cdC))))=([],xW (bA [b0,b1,b2,b3]) (bA [c0,c1,c2,c3]),⟨[],false⟩):=by kernel_rfl
theorem abt{n x:Nat}(hn:n<=2147483647)(hx:x<=2147483647):dP (ib 2 [] (CV n x))=([],xW n x,⟨[],false⟩):=by obtain⟨b0,b1,b2,b3,eb⟩:=zX n;obtain⟨c0,c1,c2,c3,ec⟩:=zX x;rw[VG,eb,ec,YU,<-eb,<-ec,FK hn,FK hx]
set_option linter.all false
def Nc:tLB:=[109,97,105,110]
def kz:tLB:=[108,111,115,116]
def kC(n x:Nat):La×List (List Nat)×List yU:=tL (xW n x) [] [] Nc ⟨#[]⟩ 999
def fE(n x:Nat):La×List (List Nat)×List yU:=tL (xW n x) (kC n x).2.1 (kC n x).2.2 kz ⟨#[]⟩ 99
def yN(x:Nat):Nat->Nat
 |0=>iw x
 |i+1=>ofP 0 (yN x i) (iw 3) 64
def kN(n:Nat):Nat->Nat
 |0=>iw n
 |i+1=>ofP 1 (kN n i) (iw 1) 64
def rN(n x:Nat):Nat->Nat
 |0=>yN x n
 |j+1=>ofP 0 (ofP 0 (rN n x j) (kN n (n-1-j)) 64) (yN x (n-1-j)) 64
def jh(n x:Nat):Nat->Nat
 |0=>0
 |j+1=>jh n x j+(x+3*(n-j))+j
theorem Nf{k:Nat}(h:k<18446744073709551616):iw (k:Int)=k:=by unfold iw;omega
theorem VH{x:Nat}(hx:x<1073741824):∀i,i<=100->yN x i=x+3*i
 |0,_=>by rw[yN,Nf (by omega)];omega
 |i+1,h=>by
  have e:iw 3=3:=by decide
  rw[yN,VH hx i (by omega),e];show iw (((x+3*i:Nat):Int)+3)=_
  unfold iw;omega
theorem Z4{n:Nat}(hn:n<=100):∀i,i<=n->kN n i=n-i
 |0,_=>by rw[kN,Nf (by omega)];omega
 |i+1,h=>by
  have e:iw 1=1:=by decide
  rw[kN,Z4 hn i (by omega),e];show iw (((n-i:Nat):Int)-1)=_
  unfold iw;omega
theorem FM{n x:Nat}(hn:n<=100)(hx:x<1073741824):∀j,j<=100->jh n x j<=j*2000000000
 |0,_=>Nat.le_refl _
 |j+1,h=>by have:=FM hn hx j (by omega);rw[jh];omega
theorem zG{n x:Nat}(hn:n<=90)(hx:x<1073741824):∀j,j<=n->rN n x j=jh n x (j+1)
 |0,_=>by rw[rN,VH hx n (by omega),jh,jh];omega
 |j+1,h=>by
  have hw:=FM (n:=n) (by omega) hx (j+1) (by omega);have e:jh n x (j+1+1)=jh n x (j+1)+(x+3*(n-(j+1)))+(j+1):=rfl;rw[rN,zG hn hx j (by omega),Z4 (by omega) _ (by omega),VH hx _ (by omega),e];generalize jh n x (j+1)=W at *
  have e1:ofP 0 W (n-(n-1-j)) 64=W+(j+1):=by
   show iw ((W:Int)+((n-(n-1-j):Nat):Int))=_
   unfold iw;omega
  rw[e1];show iw (((W+(j+1):Nat):Int)+((x+3*(n-1-j):Nat):Int))=_
  unfold iw;omega
theorem Z5(x:Nat):(kC 0 x).1.trap=0/\(kC 0 x).1.r0=rN 0 x 0:=⟨by kernel_rfl,by kernel_rfl⟩
theorem Z6(x:Nat):(kC 1 x).1.trap=0/\(kC 1 x).1.r0=rN 1 x 1:=⟨by kernel_rfl,by kernel_rfl⟩
theorem Z7(x:Nat):(kC 2 x).1.trap=0/\(kC 2 x).1.r0=rN 2 x 2:=⟨by kernel_rfl,by kernel_rfl⟩
theorem Z9(x:Nat):(kC 3 x).1.trap=0/\(kC 3 x).1.r0=rN 3 x 3:=⟨by kernel_rfl,by kernel_rfl⟩
theorem aaa(x:Nat):(kC 4 x).1.trap=0/\(kC 4 x).1.r0=rN 4 x 4:=⟨by kernel_rfl,by kernel_rfl⟩
theorem aab(x:Nat):(kC 5 x).1.trap=0/\(kC 5 x).1.r0=rN 5 x 5:=⟨by kernel_rfl,by kernel_rfl⟩
theorem aac(x:Nat):(kC 6 x).1.trap=0/\(kC 6 x).1.r0=rN 6 x 6:=⟨by kernel_rfl,by kernel_rfl⟩
theorem ac7(x:Nat):(kC 7 x).1.trap=4/\(kC 7 x).1.fn=[102]/\(kC 7 x).1.slot=5/\(kC 7 x).1.r0=0:=⟨by kernel_rfl,by kernel_rfl,by kernel_rfl,by kernel_rfl⟩
theorem ac8(x:Nat):(kC 8 x).1.trap=4/\(kC 8 x).1.fn=[102]/\(kC 8 x).1.slot=5/\(kC 8 x).1.r0=0:=⟨by kernel_rfl,by kernel_rfl,by kernel_rfl,by kernel_rfl⟩
theorem ac9(x:Nat):(kC 9 x).1.trap=4/\(kC 9 x).1.fn=[102]/\(kC 9 x).1.slot=5/\(kC 9 x).1.r0=0:=⟨by kernel_rfl,by kernel_rfl,by kernel_rfl,by kernel_rfl⟩
theorem abu(x:Nat):(kC 10 x).1.trap=4/\(kC 10 x).1.fn=[102]/\(kC 10 x).1.slot=5/\(kC 10 x).1.r0=0:=⟨by kernel_rfl,by kernel_rfl,by kernel_rfl,by kernel_rfl⟩
theorem abv(x:Nat):(kC 11 x).1.trap=4/\(kC 11 x).1.fn=[102]/\(kC 11 x).1.slot=5/\(kC 11 x).1.r0=0:=⟨by kernel_rfl,by kernel_rfl,by kernel_rfl,by kernel_rfl⟩
theorem ada(x:Nat):(fE 0 x).1.trap=3/\(fE 0 x).1.fn=kz/\(fE 0 x).1.slot=1:=⟨by kernel_rfl,by kernel_rfl,by kernel_rfl⟩
theorem adb(x:Nat):(fE 1 x).1.trap=3/\(fE 1 x).1.fn=kz/\(fE 1 x).1.slot=1:=⟨by kernel_rfl,by kernel_rfl,by kernel_rfl⟩
theorem ade(x:Nat):(fE 2 x).1.trap=3/\(fE 2 x).1.fn=kz/\(fE 2 x).1.slot=1:=⟨by kernel_rfl,by kernel_rfl,by kernel_rfl⟩
theorem adf(x:Nat):(fE 3 x).1.trap=3/\(fE 3 x).1.fn=kz/\(fE 3 x).1.slot=1:=⟨by kernel_rfl,by kernel_rfl,by kernel_rfl⟩
theorem adg(x:Nat):(fE 4 x).1.trap=3/\(fE 4 x).1.fn=kz/\(fE 4 x).1.slot=1:=⟨by kernel_rfl,by kernel_rfl,by kernel_rfl⟩
theorem adh(x:Nat):(fE 5 x).1.trap=3/\(fE 5 x).1.fn=kz/\(fE 5 x).1.slot=1:=⟨by kernel_rfl,by kernel_rfl,by kernel_rfl⟩
theorem adi(x:Nat):(fE 6 x).1.trap=3/\(fE 6 x).1.fn=kz/\(fE 6 x).1.slot=1:=⟨by kernel_rfl,by kernel_rfl,by kernel_rfl⟩
theorem adj(x:Nat):(fE 7 x).1.trap=3/\(fE 7 x).1.fn=kz/\(fE 7 x).1.slot=1:=⟨by kernel_rfl,by kernel_rfl,by kernel_rfl⟩
theorem adk(x:Nat):(fE 8 x).1.trap=3/\(fE 8 x).1.fn=kz/\(fE 8 x).1.slot=1:=⟨by kernel_rfl,by kernel_rfl,by kernel_rfl⟩
theorem adl(x:Nat):(fE 9 x).1.trap=3/\(fE 9 x).1.fn=kz/\(fE 9 x).1.slot=1:=⟨by kernel_rfl,by kernel_rfl,by kernel_rfl⟩
theorem abw(x:Nat):(fE 10 x).1.trap=3/\(fE 10 x).1.fn=kz/\(fE 10 x).1.slot=1:=⟨by kernel_rfl,by kernel_rfl,by kernel_rfl⟩
theorem abx(x:Nat):(fE 11 x).1.trap=3/\(fE 11 x).1.fn=kz/\(fE 11 x).1.slot=1:=⟨by kernel_rfl,by kernel_rfl,by kernel_rfl⟩
theorem aby{n x:Nat}(hn:n<=6)(hx:x<1073741824):(kC n x).1.trap=0/\(kC n x).1.r0=jh n x (n+1):=by
 have h:n=0\/n=1\/n=2\/n=3\/n=4\/n=5\/n=6:=by omega
 rcases h with rfl|rfl|rfl|rfl|rfl|rfl|rfl
 ·exact⟨(Z5 x).1,(Z5 x).2.trans (zG (by omega) hx _ (by omega))⟩
 ·exact⟨(Z6 x).1,(Z6 x).2.trans (zG (by omega) hx _ (by omega))⟩
 ·exact⟨(Z7 x).1,(Z7 x).2.trans (zG (by omega) hx _ (by omega))⟩
 ·exact⟨(Z9 x).1,(Z9 x).2.trans (zG (by omega) hx _ (by omega))⟩
 ·exact⟨(aaa x).1,(aaa x).2.trans (zG (by omega) hx _ (by omega))⟩
 ·exact⟨(aab x).1,(aab x).2.trans (zG (by omega) hx _ (by omega))⟩
 ·exact⟨(aac x).1,(aac x).2.trans (zG (by omega) hx _ (by omega))⟩
theorem YV{n x:Nat}(h6:6<n)(hn:n<12):(kC n x).1.trap=4/\(kC n x).1.fn=[102]/\(kC n x).1.slot=5/\(kC n x).1.r0=0:=by
 have h:n=7\/n=8\/n=9\/n=10\/n=11:=by omega
 rcases h with rfl|rfl|rfl|rfl|rfl
 ·exact ac7 x
 ·exact ac8 x
 ·exact ac9 x
 ·exact abu x
 ·exact abv x
theorem YW{n x:Nat}(hn:n<12):(fE n x).1.trap=3/\(fE n x).1.fn=kz/\(fE n x).1.slot=1:=by
 have h:n=0\/n=1\/n=2\/n=3\/n=4\/n=5\/n=6\/n=7\/n=8\/n=9\/n=10\/n=11:=by omega
 rcases h with rfl|rfl|rfl|rfl|rfl|rfl|rfl|rfl|rfl|rfl|rfl|rfl
 ·exact ada x
 ·exact adb x
 ·exact ade x
 ·exact adf x
 ·exact adg x
 ·exact adh x
 ·exact adi x
 ·exact adj x
 ·exact adk x
 ·exact adl x
 ·exact abw x
 ·exact abx x
set_option linter.all false
def Jj:tLB:=(([102,117,110,99,32,102,10,109,111,118,32,114,54,44,32,114,49,10,109,111,118,32,114,55,44,32,114,50,10,106,101,113,32,114,49,44,32,48,44,32,101,110,100,10,115,117].append [98,32,114,49,44,32,49,10,97,100,100,32,114,50,44,32,51,10,99,97,108,108,32,102,10,106,110,101,32,114,49,44,32,48,44,32,98,97,100,10,106,110,101,32,114,50,44]).append ([32,48,44,32,98,97,100,10,97,100,100,32,114,48,44,32,114,54,10,97,100,100,32,114,48,44,32,114,55,10,101,120,105,116,10,101,110,100,58,10,109,111,118,32,114,48,44].append [32,114,55,10,101,120,105,116,10,98,97,100,58,10,109,111,118,32,114,48,44,32,48,10,101,120,105,116,10,102,117,110,99,32,109,97,105,110,10,109,111,118,32,114,49,44,32]))
def Jk:tLB:=[10,109,111,118,32,114,50,44,32]
def Co:tLB:=([10,99,97,108,108,32,102,10,101,120,105,116,10,102,117,110,99,32,108,111,115,116,10,99,97,108,108,32,111,119,110,10,108,100,49,32,114,48,44,32,91,114,48,93,10,101,120,105].append [116,10,102,117,110,99,32,111,119,110,10,109,111,118,32,114,48,44,32,114,49,48,10,115,117,98,32,114,48,44,32,56,10,115,116,56,32,91,114,48,93,44,32,55,10,101,120,105,116])
theorem Ng(n x:Nat):Jj++ab n++Jk++ab x++Co=Jv n x:=by
 rw[bt,bt,bt]
 kernel_rfl
theorem VI(n x:Nat):T Jj++T (ab n)++T Jk++T (ab x)++T Co=T (Jv n x):=by rw[rF,rF,rF,rF,Ng]
theorem abz{n x:Nat}(hn:n<12)(hx:x<1073741824):(Jv n x).length<=400:=by
 have h1:(ab n).length<=20:=uu (by omega);have h2:(ab x).length<=20:=uu (by omega);rw[<-Ng,an,an,an,an];have e1:Jj.length=187:=by decide +kernel
 have e2:Jk.length=9:=by decide
 have e3:Co.length=97:=by decide +kernel
 omega
theorem Cq(n x:Nat):(oI [] (jd n x)).length<=1000/\(ib 2 [] (CV n x)).length<=1000:=by
 have e1:(oI [] (jd n x)).length=258:=by kernel_rfl
 have e2:(ib 2 [] (CV n x)).length=239:=by kernel_rfl
 omega
theorem FN(n x:Nat):Cg (xW n x):=Vx (by kernel_rfl)
set_option linter.all false
theorem YX{n x:Nat}(hn:n<=2147483647)(hx:x<=2147483647):qK (xW n x) 0:=by
 refine I1 (by kernel_rfl) (λf hf y hy=>?_);simp only[xW,ba,ao,or_false]at hf;have key:∀l:List PI,(l.all λx=>decide ((-2147483648<=x.num/\x.num<=2147483647)/\-2147483648<=x.high/\x.high<=2147483647))=true->y∈l->(-2147483648<=y.num/\y.num<=2147483647)/\-2147483648<=y.high/\y.high<=2147483647:=λl hl hm=>of_decide_eq_true (List.all_eq_true.1 hl y hm);rcases hf with rfl|rfl|rfl|rfl
 ·exact key _ (by decide +kernel) hy
 ·exact key _ (by decide +kernel) hy
 ·simp only[cMb,ba,ao,or_false]at hy;rcases hy with rfl|rfl|rfl|rfl
  ·exact⟨⟨by show(-2147483648:Int)<=n;omega,by show(n:Int)<=2147483647;omega⟩,by show(-2147483648:Int)<=0/\(0:Int)<=2147483647;decide⟩
  ·exact⟨⟨by show(-2147483648:Int)<=x;omega,by show(x:Int)<=2147483647;omega⟩,by show(-2147483648:Int)<=0/\(0:Int)<=2147483647;decide⟩
  ·decide
  ·decide
 ·exact key _ (by decide +kernel) hy
theorem YY{w w6:tW}{n x sb:Nat}(hn:n<12)(hx:x<1073741824)(Xy:tT w [] (xW n x) sb w6):Calls prog 12 #[pt sb,.string (T Nc),.string ⟨#[]⟩,.int .i64 999] w6 λe w7=>∃vL,e=.returned (.agg (mK (kC n x).1 vL))/\(∃o k c,vL=.slice o k c)/\aa ae w w7 /\ ∀w8,aa ae w7 w8->Calls prog 12 #[pt sb,.string (T kz),.string ⟨#[]⟩,.int .i64 99] w8 λe w9=>∃vL,e=.returned (.agg (mK (fE n x).1 vL))/\(∃o k c,vL=.slice o k c)/\aa ae w w9/\aa (λk=>k<w7.heap.size) w8 w9:=by
 obtain⟨bs,b,vF,vM,gs,mb,tv,wT,hB,hl,hm,hT,Vn,hk⟩:=Xy;have hco:=YX (n:=n) (x:=x) (by omega) (by omega);have e0:jB []=[]:=rfl;simp only[e0,List.length_nil]at Vn hk;have hne:¬(sb=b\/jc (MT vM mb 0) sb):=λh=>h.elim (λe=>by subst e;exact absurd (hB.ty.one Vn.blk.ty) (by decide)) (λh=>Vn.uo hB.ty (by decide) h);refine(Ch Vn sb hB hco (yY (FN n x)) (tQ (FN n x)) (by show 4<=1000;decide) Nc ⟨#[]⟩ (by decide) 999 (by decide)).mono ?_;rintro e w7 ⟨vL,a',rfl,hL,YZ,em,ev,hft,m7⟩;obtain⟨oL,cL,hv,_⟩:=hL.view;have XZ:aa ae w w7:=hm.step m7 (λk hk' e=>by have:=hk k (e.elim .inl (λh=>.inr (.inl h)));omega);refine⟨vL,rfl,⟨_,_,_,hv⟩,XZ,λw8 m8=>?_⟩;have hlen:(tL (xW n x) [] [] Nc ⟨#[]⟩ 999).2.2.length=0:=by rw[<-YZ.maps.lm,em];have:=Vn.maps.lm;exact this
 refine(Ch (YZ.quiet m8) sb ((hB.ag m7 hne).ag m8 id) (by rw[hlen];exact hco) (yY (FN n x)) (tQ (FN n x)) (by show 4<=1000;decide) kz ⟨#[]⟩ (by decide) 99 (by decide)).mono ?_;rintro e w9 ⟨vL2,a2,rfl,hL2,_,_,_,_,m9⟩;obtain⟨oL2,cL2,hv2,_⟩:=hL2.view;refine⟨vL2,rfl,⟨_,_,_,hv2⟩,(XZ.trans m8).step m9 (λk hk' e=>?_),m9.mono (λk _ e=>e.elim (λe=>by rw[e];exact YZ.blk.lt) (λh=>YZ.MS h))⟩;rcases e with e|e
 ·have:=hk k (.inl e);omega
 ·rcases hft k e with h|h
  ·have:=hk k (.inr (.inl h));omega
  ·have:=hm.size;omega
set_option linter.all false
theorem Nh{a b:tLB}{P:tLB->tLB->Prop}(h:P a b):∀k (h1:k<[a].length) (h2:k<[b].length),P [a][k] [b][k]:=λk h1 h2=>by
 have:k=0:=by simp at h1;omega
 subst this;exact h
theorem VJ(w:tW)(hW:sV w)(hE:Env w)(hM:mE w)(t o i:tLB)(ms:List az)(fs:List aS)(hT:Ir t)(hA:∀s c n,tI t s c n->s=T o/\c=0)(hL:∀s e a,iD [o] s e a->s=T i/\e=0)(ho:o.length<=maxLen)(hi:i.length<=maxLen)(hD:dP i=(ms,fs,⟨[],false⟩))(hz:I4 ms fs=true)(hq:∀q∈decsP [o],nI q/\q.1=[])(w1:tW)(m:aa ae w w1):Calls prog 10 #[.slice (some ⟨w1.heap.size,0,none⟩) 1 1] (w1.alloc (.cells #[.string (T t)] 9)) λe w'=>∃sb,e=.returned (pt sb)/\tT w ms fs sb w':=by
 have m0:aa ae w (w1.alloc (.cells #[.string (T t)] 9)):=m.alloc _;refine(Jb (w1.alloc (.cells #[.string (T t)] 9)) (hW.ag m0) (hE.ag m0) (hM.ag m0) (some ⟨w1.heap.size,0,none⟩) 1 [t] [o] i ms fs rfl (by show 1<=8;decide) (λ_=>⟨w1.heap.size,0,rfl,λk h=>?_⟩) (λk h=>Nh (b:=t) (P:=λa _=>Ir a) hT k h h) (Nh (P:=λa b=>∀s c n,tI a s c n->s=T b/\c=0) hA) hL (λs hs=>by rw[List.mem_singleton.1 hs];exact ho) hi hD hz hq).mono λe w' ⟨sb,h1,h2⟩=>⟨sb,h1,h2.wide m0⟩
 have:k=0:=by simp at h;omega
 subst this;exact(ak.new w1 _ _).cell 0
theorem Ni:VB.all Iq=true/\YQ.all Iq=true:=by decide +kernel
theorem abA{n x:Nat}(hn:n<=2147483647)(hx:x<=2147483647)(hl:¬4000<(Jv n x).length):Ir (Jv n x):=by
 refine⟨Jf n x,hl,Jh hn hx,Ji n x,λu hu=>?_⟩;rw[Jg hn hx]at hu;unfold Lw at hu;simp only[b5,ba,ao,or_false]at hu;rcases hu with(hu|rfl|rfl)|hu
 ·exact Fv (List.all_eq_true.1 Ni.1 u hu)
 ·exact⟨_,(pz (by decide) hn).1,(by show 2<=4;decide),(by show 4<=4;decide)⟩
 ·exact⟨_,(pz (by decide) hx).1,(by show 2<=4;decide),(by show 4<=4;decide)⟩
 ·exact Fv (List.all_eq_true.1 Ni.2 u hu)
theorem Y9{n x:Nat}(hn:n<=2147483647)(hx:x<=2147483647)(hl:¬4000<(Jv n x).length):∀s c k,tI (Jv n x) s c k->s=T (oI [] (jd n x))/\c=0:=@abr n x hn hx hl
theorem VK{n x:Nat}(hn:n<=2147483647)(hx:x<=2147483647):∀s e a,iD [oI [] (jd n x)] s e a->s=T (ib 2 [] (CV n x))/\e=0:=@YT n x hn hx
theorem Jl(n x:Nat):(oI [] (jd n x)).length<=maxLen:=ar (Cq n x).1 (by decide)
theorem Jm(n x:Nat):(ib 2 [] (CV n x)).length<=maxLen:=ar (Cq n x).2 (by decide)
theorem VL(n x:Nat):I4 [] (xW n x)=true:=by kernel_rfl
theorem VM{n x:Nat}(hn:n<=2147483647)(hx:x<=2147483647):∀q∈decsP [oI [] (jd n x)],nI q/\q.1=[]:=by
 have hd:decsP [oI [] (jd n x)]=[([],jd n x)]:=by rw[decsP,VF hn hx];rfl
 rw[hd];exact BN (by kernel_rfl)
theorem Za{w:tW}{n x:Nat}(hn:n<12)(hx:x<1073741824)(w1:tW)(m:aa ae w w1)(hW:sV w)(hE:Env w)(hM:mE w):Calls prog 10 #[.slice (some ⟨w1.heap.size,0,none⟩) 1 1] (w1.alloc (.cells #[.string (T (Jv n x))] 9)) λe w'=>∃sb,e=.returned (pt sb)/\tT w [] (xW n x) sb w':=by
 have hn':n<=2147483647:=by omega
 have hx':x<=2147483647:=by omega
 have hl:¬4000<(Jv n x).length:=Nat.not_lt.2 (ar (abz hn hx) (by decide));exact VJ w hW hE hM (Jv n x) (oI [] (jd n x)) (ib 2 [] (CV n x)) [] (xW n x) (abA hn' hx' hl) (Y9 hn' hx' hl) (VK hn' hx') (Jl n x) (Jm n x) (abt hn' hx') (VL n x) (VM hn' hx') w1 m
theorem abB(w:tW)(hW:sV w)(hE:Env w)(hM:mE w)(deep v:Int)(d0:-9223372036854775808<=deep)(d1:deep<=9223372036854775807)(v0:-9223372036854775808<=v)(v1:v<=9223372036854775807):Calls prog 5 #[.int .i64 deep,.int .i64 v] w λe w'=>e=.returned (.bool true)/\aa ae w w':=by
 have hn:=Jc deep 12 (by decide);have hx:=Jc v 1073741824 (by decide);have HAW:=ai (Q6 w hW hE hM (yY Vy) (tQ Vy));have qQ:af (∀w',Calls prog 9 #[.int .i64 deep,.int .i64 12] w' λe w''=>e=.returned (.int .i64 (py deep 12))/\w''=w'):=λw'=>Eg w' deep 12 d0 d1 (by decide) (by decide);have kD:af (∀w',Calls prog 9 #[.int .i64 v,.int .i64 1073741824] w' λe w''=>e=.returned (.int .i64 (py v 1073741824))/\w''=w'):=λw'=>Eg w' v 1073741824 v0 v1 (by decide) (by decide);generalize py deep 12=n at *;generalize py v 1073741824=x at *;have HD1:af (∀w',Calls prog 11 #[.int .u64 n] w' λe w''=>e=.returned (.string (T (ab n)))/\aa ae w' w''):=λw'=>Nb n w' (by omega);have HD2:af (∀w',Calls prog 11 #[.int .u64 x] w' λe w''=>e=.returned (.string (T (ab x)))/\aa ae w' w''):=λw'=>Nb x w' (by omega);have hs1:(T (ab n)).size<=20:=by rw[bG];exact uu (by omega)
 have hs2:(T (ab x)).size<=20:=by rw[bG];exact uu (by omega)
 have HTX:=ai (VI n x);have Ct:af (∀w1,aa ae w w1->Calls prog 10 #[.slice (some ⟨w1.heap.size,0,none⟩) 1 1] (w1.alloc (.cells #[.string (T (Jv n x))] 9)) λe w'=>∃sb,e=.returned (pt sb)/\tT w [] (xW n x) sb w'):=λw1 m=>Za hn hx w1 m hW hE hM;have HRU:af (∀sb w6,tT w [] (xW n x) sb w6->_):=λsb w6 h=>YY hn hx h;have Rm:=ai (YW (x:=x) hn);have HLW:af (n<=6->(kC n x).1.trap=0/\(kC n x).1.r0=jh n x (n+1)):=λh=>aby h hx;have HHI:af (6<n->(kC n x).1.trap=4/\(kC n x).1.fn=[102]/\(kC n x).1.slot=5/\(kC n x).1.r0=0):=λh=>YV h hn;have hc1:(T Jj).size=187:=by kernel_rfl
 have hc2:(T Jk).size=9:=by kernel_rfl
 have hc3:(T Co).size=97:=by kernel_rfl
 have EP1:af ((⟨((([102,117,110,99,32,102,10,109,111,118,32,114,54,44,32,114,49,10,109,111,118,32,114,55,44,32,114,50,10,106,101,113,32,114,49,44,32,48,44,32,101,110,100,10,115,117].append [98,32,114,49,44,32,49,10,97,100,100,32,114,50,44,32,51,10,99,97,108,108,32,102,10,106,110,101,32,114,49,44,32,48,44,32,98,97,100,10,106,110,101,32,114,50,44]).append ([32,48,44,32,98,97,100,10,97,100,100,32,114,48,44,32,114,54,10,97,100,100,32,114,48,44,32,114,55,10,101,120,105,116,10,101,110,100,58,10,109,111,118,32,114,48,44].append [32,114,55,10,101,120,105,116,10,98,97,100,58,10,109,111,118,32,114,48,44,32,48,10,101,120,105,116,10,102,117,110,99,32,109,97,105,110,10,109,111,118,32,114,49,44,32]))).toArray⟩:tBA)=T Jj):=rfl;have EP2:af ((⟨#[10,109,111,118,32,114,50,44,32]⟩:tBA)=T Jk):=rfl;have EP3:af ((⟨(([10,99,97,108,108,32,102,10,101,120,105,116,10,102,117,110,99,32,108,111,115,116,10,99,97,108,108,32,111,119,110,10,108,100,49,32,114,48,44,32,91,114,48,93,10,101,120,105].append [116,10,102,117,110,99,32,111,119,110,10,109,111,118,32,114,48,44,32,114,49,48,10,115,117,98,32,114,48,44,32,56,10,115,116,56,32,91,114,48,93,44,32,55,10,101,120,105,116])).toArray⟩:tBA)=T Co):=rfl;clear hW hE hM d0 d1 v0 v1;go_enter func5,ntmps5;go_wp2_with fail;refine HAW.o.mono ?_;rintro e w1 ⟨rfl,m1⟩;have dh:=ai m1;clear m1 HAW;go_wp2_with fail;refine(qQ.o _).mono ?_;rintro e w2 ⟨rfl,rfl⟩;go_wp2_with fail;refine(kD.o _).mono ?_;rintro e w2 ⟨rfl,rfl⟩;clear qQ kD;go_wp2_with fail;refine(HD1.o _).mono ?_;rintro e w3 ⟨rfl,m3⟩;have dw:=ai (dh.o.trans m3);clear m3 dh HD1;go_wp2_with (first|rw[EP1.o]|rw[EP2.o]);refine(HD2.o _).mono ?_;rintro e w4 ⟨rfl,m4⟩;have fU:=ai (dw.o.trans m4);clear m4 dw HD2;have adm:=ai HTX.o;go_wp2_with (first|rw[EP3.o]|rw[adm.o]);refine(Ct.o w4 fU.o).mono ?_;rintro e w5 ⟨sb,rfl,Xy⟩;have Wg:=ai (HRU.o sb w5 Xy);clear Xy Ct HRU fU HTX adm EP1 EP2 EP3 hc1 hc2 hc3 hs1 hs2;generalize T (Jv n x)=txt at *;generalize T (ab n)=dn at *;generalize T (ab x)=dx at *;go_wp2_with fail;refine Wg.o.mono ?_;rintro e w7 ⟨vL,rfl,⟨oL,kL,cL,rfl⟩,XZ,hnext⟩;have xG:=ai XZ;have Q8:=ai (hnext (w7.alloc (.cells (mK (kC n x).1 (.slice oL kL cL)) 34)) aj);have Kh:af (ak (w7.alloc (.cells (mK (kC n x).1 (.slice oL kL cL)) 34)) w7.heap.size (mK (kC n x).1 (.slice oL kL cL)) 34):=ak.new w7 _ _;clear XZ hnext Wg;generalize(kC n x).1=r1 at *;generalize(fE n x).1=r2 at *;unfold mK at Q8 Kh ⊢;go_wp2_with fail;refine Q8.o.mono ?_;rintro e w9 ⟨vL2,rfl,⟨oL2,kL2,cL2,rfl⟩,hM9,m9⟩;have Wd:=ai (Kh.o.ag m9 (Nat.lt_irrefl _));obtain⟨l1,l2,l3⟩:=Rm.o;have hTL:T kz=⟨#[108,111,115,116]⟩:=rfl;rw[l1,l2,l3,hTL];have adn:af (aa ae w (w9.alloc (.cells #[.int .i64 ((3:Nat):Int),.string ⟨#[108,111,115,116]⟩,.int .i64 ((1:Nat):Int),.int .u64 r2.r0,.string (strOf r2.inp),.slice oL2 kL2 cL2,.int .i64 r2.used] 34))):=hM9.alloc _;have CU:=ai (Wd.o.ag ((aa.refl ae w9).alloc (.cells #[.int .i64 ((3:Nat):Int),.string ⟨#[108,111,115,116]⟩,.int .i64 ((1:Nat):Int),.int .u64 r2.r0,.string (strOf r2.inp),.slice oL2 kL2 cL2,.int .i64 r2.used] 34)) id);clear m9 hM9 Kh Wd Q8 Rm l1 l2 l3 hTL xG;have y0:=CU.o.cell 0;have y1:=CU.o.cell 1;have y2:=CU.o.cell 2;have y3:=CU.o.cell 3;clear CU;go_upto_region 10 with fail;have HBz:af (ak (w9.alloc (.cells #[.int .i64 ((3:Nat):Int),.string ⟨#[108,111,115,116]⟩,.int .i64 ((1:Nat):Int),.int .u64 r2.r0,.string (strOf r2.inp),.slice oL2 kL2 cL2,.int .i64 r2.used] 34)) w9.heap.size #[.int .i64 ((3:Nat):Int),.string ⟨#[108,111,115,116]⟩,.int .i64 ((1:Nat):Int),.int .u64 r2.r0,.string (strOf r2.inp),.slice oL2 kL2 cL2,.int .i64 r2.used] 34):=ak.new w9 _ _;generalize w9.alloc (.cells #[.int .i64 ((3:Nat):Int),.string ⟨#[108,111,115,116]⟩,.int .i64 ((1:Nat):Int),.int .u64 r2.r0,.string (strOf r2.inp),.slice oL2 kL2 cL2,.int .i64 r2.used] 34)=Wi at *;have z0:Wi.cell? ⟨w9.heap.size,0,none⟩=some (.int .i64 3):=HBz.o.cell 0;have z1:Wi.cell? ⟨w9.heap.size,1,none⟩=some (.string ⟨#[108,111,115,116]⟩):=HBz.o.cell 1;have z2:Wi.cell? ⟨w9.heap.size,2,none⟩=some (.int .i64 1):=HBz.o.cell 2;clear HBz;generalize w9.heap.size=g11 at *;generalize w7.heap.size=g10 at *;by_cases h6:6<n
 ·obtain⟨a1,a2,a3,a4⟩:=HHI.o h6;have q0:Wi.cell? ⟨g10,0,none⟩=some (.int .i64 4):=by rw[a1]at y0;exact y0
  have q1:Wi.cell? ⟨g10,1,none⟩=some (.string ⟨#[102]⟩):=by rw[a2]at y1;exact y1
  have q2:Wi.cell? ⟨g10,2,none⟩=some (.int .i64 5):=by rw[a3]at y2;exact y2
  have q3:Wi.cell? ⟨g10,3,none⟩=some (.int .u64 0):=by rw[a4]at y3;exact y3
  clear y0 y1 y2 y3 HLW HHI a1 a2 a3 a4;go_wp2_with fail;go_ret;exact⟨rfl,adn.o⟩
 ·obtain⟨a1,a4⟩:=HLW.o (by omega);have q0:Wi.cell? ⟨g10,0,none⟩=some (.int .i64 0):=by rw[a1]at y0;exact y0
  have q3:Wi.cell? ⟨g10,3,none⟩=some (.int .u64 (jh n x (n+1))):=by rw[a4]at y3;exact y3
  have HWL:af (∀j,j<=100->jh n x j<=j*2000000000):=FM (by omega) hx;clear y0 y1 y2 y3 HLW HHI a1 a4;go_upto_block 0 with fail;go_wp2_with fail;go_loopw [12,13] (λv12 v13 wl=>∃k:Nat,k<=n+1/\v13=.int .i64 k/\v12=.int .u64 (jh n x k)/\wl=Wi) (λv12 v13 _=>n+1-(intOf v13).toNat)
  case atStart=>exact⟨0,Nat.zero_le _,rfl,rfl,rfl⟩
  case round =>
   obtain⟨k,hk,rfl,rfl,rfl⟩:=hrel;by_cases hlt:k<=n
   ·have hw:=HWL.o k (by omega);have HE:af (jh n x (k+1)=jh n x k+(x+3*(n-k))+k):=rfl;clear q0 q3 HWL;have HR:af (∀W':Nat,W'=jh n x k+(x+3*(n-k))+k->W'=jh n x (k+1)):=λW' h=>h.trans HE.o.symm;generalize jh n x k=W at *;go_wp2_with fail;go_roundw
    case rel =>refine⟨k+1,by omega,by go_num,?_,trivial⟩;rw[<-HR.o _ rfl];go_num
    case measure=>simp[intOf];omega
   ·have hkk:k=n+1:=by omega
    subst hkk;generalize jh n x (n+1)=W at *;go_wp2_with fail;go_ret;exact⟨rfl,adn.o⟩
