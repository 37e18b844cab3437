import Derived.Test.YthnphhgpfedeeaaGreatDoorCR47
import Derived.Test.YthnphhgpfedeeaaGreatDoorCR50
namespace Go.Proofs.YthnphhgpfedeeaaGreatDoor
open Go.RowKit Tryz
open Bool renaming and_eq_true->bj
open Int renaming emod_nonneg->an,toNat_of_nonneg->ar,emod_lt_of_pos->bh
open Lib renaming decDigits->ab
open List renaming map_cons->al,mem_cons_of_mem->ao
open Nat renaming le_trans->ba
set_option linter.all false
set_option maxRecDepth 100000
set_option maxHeartbeats 1000000
def zF(l:List tLB):List Value:=l.map (λs=>Value.string (T s))
theorem Q4(l:List tLB)(s:tLB):zF (l++[s])=zF l++[.string (T s)]:=by simp[zF]
structure uB(w0 w:tW)(v:Value)(l:List tLB):Prop where
 sl:Sl w 9 1 v l.length (zF l)
 lo:∀k,v.ownBlock=some k->w0.heap.size<=k
 md:aa ae w0 w
theorem uB.nil{w0 w:tW}(m:aa ae w0 w):uB w0 w (.slice none 0 0) []:=⟨Sl.nil _ _ _,λk h=>(by cases h),m⟩
theorem uB.quiet{w0 w w':tW}{v:Value}{l:List tLB}(h:uB w0 w v l)(m:aa ae w w'):uB w0 w' v l:=⟨h.sl.ag m (λ_ _=>id),h.lo,h.md.trans m⟩
theorem uB.app{w0 w w':tW}{v v':Value}{l:List tLB}{s:tLB}(h:uB w0 w v l)(hs:Sl w' 9 1 v' (l.length+1) (zF l++[.string (T s)]))(m:aa (λk=>v.ownBlock=some k) w w')(hl:∀k,v'.ownBlock=some k->v.ownBlock=some k\/w.heap.size<=k):uB w0 w' v' (l++[s]):=by
 refine⟨?_,λk hk=>?_,h.md.step m (λi hi e=>by have:=h.lo i e;omega)⟩
 ·rw[Q4,List.length_append];exact hs
 ·rcases hl k hk with e|e
  ·exact h.lo k e
  ·have:=h.md.size;omega
theorem uB.view{w0 w:tW}{v:Value}{l:List tLB}(h:uB w0 w v l):∃o cap,v=.slice o l.length cap/\(0<l.length->∃g cs,o=some ⟨g,0,none⟩/\ak w g cs 9/\(∀k (h:k<l.length),cs[k]?=some (.string (T l[k])))/\∀k (h:k<l.length),w.cell? ⟨g,k,none⟩=some (.string (T l[k]))):=by
 obtain⟨o,cap,hv,h2⟩:=h.sl.view;refine⟨o,cap,hv,λhp=>?_⟩;obtain⟨g,cs,rfl,hb,ht,_⟩:=h2 hp;have key:∀k (h:k<l.length),w.cell? ⟨g,k,none⟩=some (.string (T l[k])):=λk hk=>by rw[aW hb ht k (by omega)];simp[zF,hk]
 refine⟨g,cs,rfl,hb,λk hk=>?_,key⟩;have:=key k hk
 rwa [hb.cell]at this
theorem Lv{w w':tW}{a:Addr}{v:Value}(m:aa ae w w')(h:w.cell? a=some v):w'.cell? a=some v:=by
 have hl:a.block<w.heap.size:=by
  unfold World.cell? at h;cases hq:w.heap[a.block]? with
  |none=>rw[hq]at h;simp at h
  |some x=>exact(Array.getElem?_eq_some_iff.1 hq).1
 unfold World.cell? at h ⊢;rw[m.block a.block hl id];exact h
theorem Q5(w:tW)(o:Option Addr)(cap:Nat)(texts aR:List tLB)(MU:tLB)(hlen:aR.length=texts.length)(hn:texts.length<=8)(PP:Nat->tW->Prop)(hb:0<texts.length->∃g off,o=some ⟨g,off,none⟩/\∀k (h:k<texts.length),w.cell? ⟨g,off+k,none⟩=some (.string (T texts[k])))(HAS:af (∀w1 k (h:k<texts.length) (h':k<aR.length),aa ae w w1->Calls prog 18 #[.string (T texts[k])] w1 λe w'=>(∃n:Nat,e=.returned (.tuple #[.string (T aR[k]),.int .i64 0,.int .i64 n]))/\aa ae w1 w'))(HLI:af (∀w1 v,uB w w1 v aR->Calls prog 19 #[v] w1 λe w'=>(∃a:Int,e=.returned (.tuple #[.string (T MU),.int .i64 0,.int .i64 a]))/\aa ae w1 w'))(Rm:af (∀w1,aa ae w w1->Calls prog 16 #[.string (T MU)] w1 λe w'=>∃sb,e=.returned (.tuple #[pt sb,.int .i64 0])/\PP sb w')):Calls prog 10 #[.slice o texts.length cap] w λe w'=>∃sb,e=.returned (pt sb)/\PP sb w':=by
 obtain⟨iS,hiS,hzS,hsS,hbS⟩:=info_parts Sc;have HB:=ai hb;clear hb;obtain⟨n,hnn⟩:∃n,n=texts.length:=⟨_,rfl⟩
 have LU:=ai hnn;have VV:af (aR.length=n):=hlen.trans hnn.symm;have hn':n<=8:=by rw[hnn];exact hn
 rw[<-hnn];clear hnn hn hlen;go_enter func10,ntmps10;go_upto_block 0 with fail;go_cut [3] (λv wx=>uB w wx v aR)
 case first =>
  go_wp2_with fail;go_loopg [3,4] 8 (λq v iv wx=>∃(k:Nat),iv=.int .i64 k/\uB w wx v (aR.take k)/\k<=n/\q=8-k)
  case atStart=>exact⟨0,rfl,uB.nil ax,Nat.zero_le _,rfl⟩
  case round =>
   obtain⟨k,rfl,hS,hkn,rfl⟩:=hrel;have hlk:(aR.take k).length=k:=by rw[List.length_take,VV.o];omega
   obtain⟨o1,c1,rfl,_⟩:=hS.view;rw[hlk]at hS;rw[hlk];have HS:=ai hS;clear hS;by_cases hlt:k<n
   ·have hko:k<texts.length:=by rw[<-LU.o];exact hlt
    have hkp:k<aR.length:=by rw[VV.o];exact hlt
    obtain⟨g,off,rfl,hcl⟩:=HB.o (by omega);have l1:wr.cell? ⟨g,off+k,none⟩=some (.string (T texts[k])):=Lv HS.o.md (hcl k hko);have HA:=HAS.o wr k hko hkp HS.o.md;have Yd:af (aR.take (k+1)=aR.take k++[aR[k]]):=List.take_succ_eq_append_getElem hkp;clear hcl;generalize T texts[k]=sk at *;generalize aR[k]=ok at *;go_wp2_with fail;refine HA.mono ?_;rintro e w2 ⟨⟨a,rfl⟩,m2⟩;have HS2:=ai (HS.o.quiet m2);clear HA HS m2 l1;have HSA:af (uB w (w2.alloc (.cells #[.string (T ok)] 9)) (.slice o1 k c1) (aR.take k)):=HS2.o.quiet aj;have hsl:Sl (w2.alloc (.cells #[.string (T ok)] 9)) 9 1 (.slice o1 k c1) k (zF (aR.take k)):=by have:=HSA.o.sl;rw[hlk]at this;exact this
    have ET:=ai hsl;clear hsl;go_wp2_with (at_builtin;refine aL _ rfl (.tmp 30) (.tmp 32) 24 rfl 9 iS (.string ByteArray.empty) 1 16 underlying24 hiS hzS hsS hbS rfl (by decide) (.slice o1 k c1) k (zF (aR.take k)) rfl ET.o ⟨w2.heap.size,0,none⟩ 1 1 (#[.string (T ok)]:tAV).toList rfl rfl (aV w2 #[.string (T ok)] 9 _ rfl) (by simp[Value.oneCell']) (by unfold maxLen;omega) (by omega) ?_;intro v5 w5 s5 m5 l5;obtain⟨o5,c5,hv5,_⟩:=s5.view;subst hv5);have GX:af (uB w w5 (.slice o5 (k+1) c5) (aR.take (k+1))):=by unfold af;rw[Yd.o];exact HSA.o.app (by rw[hlk];exact s5) m5 l5
    clear s5 m5 l5 HSA HS2 ET;go_roundg (8-(k+1))
    case measure=>omega
    case rel=>exact⟨k+1,by go_num,GX.o,by omega,rfl⟩
   ·have hkk:k=n:=by omega
    have HE:af (aR.take k=aR):=List.take_of_length_le (by rw[VV.o];omega);rw[HE.o]at HS;go_wp2_with fail;go_meet;exact HS.o
 case rest =>
 have hS:uB w wc _ aR:=hcut;obtain⟨o1,c1,rfl,_⟩:=hS.view;have HL:=ai (HLI.o wc _ hS);have nP:=ai hS.md;clear hS hcut HLI HAS HB;go_wp2_with fail;refine HL.o.mono ?_;rintro e w2 ⟨⟨a,rfl⟩,m2⟩;have HLD:=ai (Rm.o w2 (nP.o.trans m2));clear HL Rm m2;go_wp2_with fail;refine HLD.o.mono ?_;rintro e w3 ⟨sb,rfl,hP⟩;have HP:=ai hP;clear hP HLD;go_wp2_with fail;go_ret;exact⟨sb,rfl,HP.o⟩
def Vu(t:tLB):BS:=match parseP (linesP t) false 0 []with
 |.inl ls=>aK (ah ls) ls
 |.inr _=>{}
def ac2(t:tLB):Nat:=match parseP (linesP t) false 0 []with
 |.inl ls=>(firstP (ah ls) ls {} 0).1
 |.inr _=>1
theorem YL{t o:tLB}(hl:¬4000<t.length)(h1:ac2 t=0)(h2:(Vu t).ms.length=0)(h3:(Vu t).fs.length=1)(h4:oI [] (Vu t).fs=o){s:tBA}{c n:Nat}(h:tI t s c n):s=T o/\c=0:=by
 unfold Vu at h2 h3 h4;unfold ac2 at h1;unfold tI at h;rw[iN9 hl]at h;cases hp:parseP (linesP t) false 0 []with
 |inr k=>rw[hp]at h1;cases h1
 |inl ls =>
  rw[hp]at h h1 h2 h3 h4;dsimp only at h h1 h2 h3 h4;rw[iP9 h1]at h;obtain⟨hc,_,ms,fs,pm,_,pf,_,rfl⟩:=h;have e1:ms=[]:=by have:=pm.length_eq;rw[h2]at this;exact List.length_eq_zero_iff.1 this
  obtain⟨f,hf⟩:=List.length_eq_one_iff.1 h3;rw[hf]at pf h4;rw[e1,List.perm_singleton.1 pf,h4];exact⟨rfl,hc⟩
theorem Vv{o i:tLB}(h1:(decsP [o]).length=1)(h2:((decsP [o]).flatMap (·.1)).length=0)(h3:((decsP [o]).flatMap (·.2)).length=1)(h4:(lu (decsP [o]) [] ((decsP [o]).flatMap (·.2))).1=0)(h5:ib 2 (bQ []) (((decsP [o]).flatMap (·.2)).map (aS.linked (Mk (bQ [])) (KK ((decsP [o]).flatMap (·.2)))))=i){s:tBA}{e a:Int}(h:iD [o] s e a):s=T i/\e=0:=by
 unfold iD at h;rw[iN9 (by simp),iN9 (by rw[h1];simp)]at h;obtain⟨ms,fs,pm,_,pf,_,h⟩:=h;have e1:ms=[]:=by have:=pm.length_eq;rw[h2]at this;exact List.length_eq_zero_iff.1 this
 obtain⟨f,hf⟩:=List.length_eq_one_iff.1 h3;have e2:fs=(decsP [o]).flatMap (·.2):=by rw[hf]at pf ⊢;exact List.perm_singleton.1 pf
 rw[e1,e2,h4,iN9 (by simp),h5]at h;exact⟨h.1,h.2.1⟩
def ZY:tLB:=[102,117,110,99,32,102,10,109,111,118,32,114,48,44,32,50,10,109,117,108,32,114,48,44,32,50,49,10,101,120,105,116]
def awO:tLB:=oI [] (Vu ZY).fs
def awI:tLB:=ib 2 (bQ []) (((decsP [awO]).flatMap (·.2)).map (aS.linked (Mk (bQ [])) (KK ((decsP [awO]).flatMap (·.2)))))
theorem abm{s:tBA}{c n:Nat}(h:tI ZY s c n):s=T awO/\c=0:=YL (by decide) (by decide +kernel) (by decide +kernel) (by decide +kernel) rfl h
theorem YM{s:tBA}{e a:Int}(h:iD [awO] s e a):s=T awI/\e=0:=Vv (by decide +kernel) (by decide +kernel) (by decide +kernel) (by decide +kernel) rfl h
theorem YN:∀q∈decsP [awO],nI q/\q.1=[]:=BN (by decide +kernel)
def ZZ:List aS:=[⟨[102],[⟨2,0,0,0,2,0,[]⟩,⟨14,0,0,0,21,0,[]⟩,⟨87,0,0,0,0,0,[]⟩]⟩]
theorem abn:dP awI=([],ZZ,⟨[],false⟩):=by kernel_rfl
theorem Vw:awI.length<=1000/\awO.length<=1000:=by decide +kernel
theorem YO:qK ZZ 0:=I1 (by decide +kernel) (by decide +kernel)
theorem abo:(tL ZZ [] [] [102] ⟨#[]⟩ 9).1.trap=0/\(tL ZZ [] [] [102] ⟨#[]⟩ 9).1.r0=42/\(tL ZZ [] [] [102] ⟨#[]⟩ 9).1.used=3:=by decide +kernel
theorem tT.wide{w w1 w':tW}{ms:List az}{fs:List aS}{sb:Nat}(h:tT w1 ms fs sb w')(m:aa ae w w1):tT w ms fs sb w':=by obtain⟨bs,b,vF,vM,gs,mb,tv,wT,hB,hl,hm,hT,hM,hk⟩:=h;have:=m.size;exact⟨bs,b,vF,vM,gs,mb,tv,wT,hB,ba this hl,m.trans hm,ba this hT,hM,λk hk'=>ba this (hk k hk')⟩
theorem Jb(w:tW)(hW:sV w)(hE:Env w)(hM:mE w)(o:Option Addr)(cap:Nat)(texts aR:List tLB)(MU:tLB)(ms:List az)(fs:List aS)(hlen:aR.length=texts.length)(hn:texts.length<=8)(hb:0<texts.length->∃g off,o=some ⟨g,off,none⟩/\∀k (h:k<texts.length),w.cell? ⟨g,off+k,none⟩=some (.string (T texts[k])))(hT:∀k (h:k<texts.length),Ir texts[k]) (hA:∀k (h:k<texts.length) (h':k<aR.length) s c n,tI texts[k] s c n->s=T aR[k]/\c=0) (hL:∀s e a,iD aR s e a->s=T MU/\e=0) (ho:∀s∈aR,s.length<=maxLen) (hi:MU.length<=maxLen) (hD:dP MU=(ms,fs,⟨[],false⟩)) (hz:I4 ms fs=true) (hq:∀q∈decsP aR,nI q/\q.1=[]):Calls prog 10 #[.slice o texts.length cap] w λe w'=>∃sb,e=.returned (pt sb)/\tT w ms fs sb w':=by
 refine Q5 w o cap texts aR MU hlen hn (tT w ms fs) hb (λw1 k h h' m=>?_) (λw1 v hS=>?_) (λw1 m=>?_)
 ·refine(Qe w1 texts[k] (hW.ag m) (hE.ag m) (hM.ag m) (hT k h)).mono λe w' ⟨s,c,n,h1,h2,h3⟩=>?_;obtain⟨rfl,rfl⟩:=hA k h h' s c n h2;exact⟨⟨n,h1⟩,h3⟩
 ·obtain⟨o',cap',rfl,hv⟩:=hS.view;refine(KR w1 (hW.ag hS.md) o' cap' aR (λh=>?_) (by unfold maxLen;omega) ho hq).mono λe w' ⟨s,c,a,h1,h2,h3⟩=>?_
  ·obtain⟨g,cs,h1,h2,h3,_⟩:=hv h;exact⟨g,cs,h1,h2,h3⟩
  ·obtain⟨rfl,rfl⟩:=hL s c a h2;exact⟨⟨a,h1⟩,h3⟩
 ·exact(I5 w1 (hW.ag m) MU hi ms fs hD hz).mono λe w' ⟨sb,h1,h2⟩=>⟨sb,h1,h2.wide m⟩
theorem abp:Ir ZY:=aaK (by decide +kernel)
theorem Q6(w:tW)(hW:sV w)(hE:Env w)(hM:mE w)(hf:∀F b,MJ F b ZZ)(hkf:xU ZZ):Calls prog 7 #[] w λe w'=>e=.returned (.bool true)/\aa ae w w':=by
 have m0:aa ae w (w.alloc (.cells #[.string (T ZY)] 9)):=(aa.refl ae w).alloc _;have eX:=ai m0
 have nP:=ai (Jb (w.alloc (.cells #[.string (T ZY)] 9)) (hW.ag m0) (hE.ag m0) (hM.ag m0) (some ⟨w.heap.size,0,none⟩) 1 [ZY] [awO] awI [] ZZ rfl (by decide) (λ_=>⟨w.heap.size,0,rfl,λk h=>by
  have:k=0:=by simp at h;omega
  subst this;exact(ak.new w _ _).cell 0⟩) (λk h=>by
  have:k=0:=by simp at h;omega
  subst this;exact abp) (λk h h' s c n hR=>by
  have:k=0:=by simp at h;omega
  subst this;exact abm hR) (λs e a h=>YM h) (λs hs=>by rw[List.mem_singleton.1 hs];have:=Vw.2;unfold maxLen;omega) (by have:=Vw.1;unfold maxLen;omega) abn (by decide +kernel) YN)
 have HT:af ((⟨#[102,117,110,99,32,102,10,109,111,118,32,114,48,44,32,50,10,109,117,108,32,114,48,44,32,50,49,10,101,120,105,116]⟩:tBA)=T ZY):=rfl;clear hW hE hM m0;go_enter func7,ntmps7;go_wp2_with fail;rw[HT.o];generalize w.alloc (.cells #[.string (T ZY)] 9)=W1 at *;refine nP.o.mono ?_;rintro e w2 ⟨sb,rfl,Xy⟩;obtain⟨bs,b,vF,vM,gs,mb,tv,wT,hB,hl,hm,hT,Vn,hk⟩:=Xy
 have Wg:af (Calls prog 12 #[pt sb,.string ⟨#[102]⟩,.string ⟨#[]⟩,.int .i64 9] w2 λe w'=>∃vL d:Value,∃f:tBA,∃sl:Nat,∃i:tBA,e=.returned (.agg #[.int .i64 0,.string f,.int .i64 sl,.int .u64 42,.string i,vL,.int .i64 3])/\(∃o n c,vL=.slice o n c)/\aa ae w w'):=by
  refine(Ch Vn sb hB YO hf hkf (by decide) [102] ⟨#[]⟩ (by decide) 9 (by decide)).mono ?_;rintro e w3 ⟨vL,a',rfl,hL,_,_,_,_,m3⟩;obtain⟨r1,r2,r3⟩:=abo;have e0:jB []=[]:=rfl;rw[e0]at hL ⊢;obtain⟨oL,cL,hv,_⟩:=hL.view;generalize(tL ZZ [] [] [102] ⟨#[]⟩ 9).1=R at *;refine⟨vL,undef,T R.fn,R.slot,strOf R.inp,?_,⟨_,_,_,hv⟩,((eX.o.trans hm).step m3 (λk hk' e=>?_))⟩
  ·unfold mK;rw[r1,r2,r3];rfl
  ·have h1:=eX.o.size;have h2:=hk k (e.elim .inl (λh=>.inr (.inl h)));omega
 have HB:=ai hB;clear hB hl hm hT Vn hk nP eX HT hf hkf;go_wp2_with fail;refine Wg.o.mono ?_;rintro e w3 ⟨vL,_,f,sl,i,rfl,⟨oL,nL,cL,rfl⟩,m3⟩;have dw:=ai m3;clear m3 Wg HB;go_wp2_with fail;go_ret;exact⟨rfl,dw.o.alloc _⟩
def py(c:Int)(n:Nat):Nat:=(if c<0 then(-(c+1))%(n:Int)else c%(n:Int)).toNat
theorem Jc(c:Int)(n:Nat)(hn:0<n):py c n<n:=by
 unfold py;split
 ·have:=bh (-(c+1)) (show(0:Int)<n by omega);have:=an (-(c+1)) (show(n:Int)≠0 by omega);omega
 ·have:=bh c (show(0:Int)<n by omega);have:=an c (show(n:Int)≠0 by omega);omega
theorem Eg(w:tW)(c:Int)(n:Nat)(h0:-9223372036854775808<=c)(h1:c<=9223372036854775807)(hn:0<n)(hn8:n<=1073741824):Calls prog 9 #[.int .i64 c,.int .i64 n] w λe w'=>e=.returned (.int .i64 (py c n))/\w'=w:=by
 by_cases hc:c<0
 ·have e:((py c n:Nat):Int)=-((c+1).tmod n):=by unfold py;rw[iP9 hc,<-Int.neg_tmod,Int.tmod_eq_emod_of_nonneg (by omega)];exact ar (an _ (by omega))
  have HE:=ai e;clear e;generalize py c n=r at *;go_enter func9,ntmps9;go_wp2_with fail;go_ret;exact⟨by rw[HE.o];rfl,rfl⟩
 ·have e:((py c n:Nat):Int)=c%n:=by unfold py;rw[iN9 hc];exact ar (an _ (by omega))
  have HE:=ai e;clear e;generalize py c n=r at *;go_enter func9,ntmps9;go_wp2_with fail;go_ret;exact⟨by rw[HE.o];rfl,rfl⟩
theorem Vz(w:tW)(k:Nat)(hk:k<256):(convert 30 9 (.slice (some ⟨w.heap.size,0,none⟩) 1 1)).run prog (w.alloc (.cells #[.int .u8 k] 5))=.ok (.string (strOf [k])) (w.alloc (.cells #[.int .u8 k] 5)) :=
 Ca _ w.heap.size 1 1 [k] (λb hb=>by rw[List.mem_singleton.1 hb];exact hk) ((Sl.fresh (ak.new w _ _) rfl (by show(1:Nat)<=maxLen;decide)).bys rfl)
theorem Nb:∀(n:Nat) (w:tW),n<18446744073709551616->Calls prog 11 #[.int .u64 n] w λe w'=>e=.returned (.string (T (ab n)))/\aa ae w w':=by
 intro n;induction n using Nat.strongRecOn with
 |ind n ih =>
  intro w hn;have hcast:((48+n%10:Nat):Int)=48+(n:Int)%10:=by omega
  have Fs:=ai (Vz w (48+n%10) (by omega));have dh:af (aa ae w (w.alloc (.cells #[.int .u8 ((48+n%10:Nat):Int)] 5))):=aj;rw[hcast]at Fs dh;have Cr:af (strOf [48+n%10]=T [UInt8.ofNat (48+n%10)]):=rfl;rw[Cr.o]at Fs;by_cases h10:n<10
  ·have HD:af (ab n=[UInt8.ofNat (48+n%10)]):=by unfold af;rw[ab,dif_pos h10,Nat.mod_eq_of_lt h10]
   rw[HD.o];clear ih hcast Cr HD;generalize T [UInt8.ofNat (48+n%10)]=sd at *;go_enter func11,ntmps11;go_wp2_with (rw[Fs.o]);go_ret;exact⟨rfl,dh.o⟩
  ·have HD:af (T (ab n)=T (ab (n/10))++T [UInt8.ofNat (48+n%10)]):=by unfold af;rw[ab,dif_neg h10,rF]
   have HI:af (∀w',Calls prog 11 #[.int .u64 ((n:Int)/10)] w' λe w''=>e=.returned (.string (T (ab (n/10))))/\aa ae w' w''):=λw'=>by have:=ih (n/10) (by omega) w' (by omega);rw[show(((n/10:Nat)):Int)=(n:Int)/10 by omega]at this;exact this
   rw[HD.o];have hsd:(T [UInt8.ofNat (48+n%10)]).size=1:=rfl;have hsq:(T (ab (n/10))).size<=20:=by rw[bG];exact uu (by omega)
   clear ih hcast Cr HD;generalize T [UInt8.ofNat (48+n%10)]=sd at *;generalize T (ab (n/10))=sq at *;go_enter func11,ntmps11;go_wp2_with (rw[Fs.o]);refine(HI.o _).mono ?_;rintro e w2 ⟨rfl,m2⟩;have dD:=ai (dh.o.trans m2);clear m2 HI Fs;go_wp2_with fail;go_ret;exact⟨rfl,dD.o⟩
def joinL:List tLB->tLB
 |[]=>[]
 |[a]=>a
 |a::b::l=>a++10::joinL (b::l)
theorem Cn:∀(L:List tLB),L≠[]->(∀a∈L,∀c∈a,c≠10)->linesP (joinL L)=L
 |[],h,_=>absurd rfl h
 |[a],_,h=>yE a (h a (by simp))
 |a::b::l,_,h=>by rw[joinL,Ee a _ (h a (by simp)),Cn (b::l) (by simp) (λc hc=>h c (ao _ hc))]
theorem Je(n:Nat):Lib.itoa (n:Int)=ab n:=by
 unfold Lib.itoa;split
 ·omega
 ·rfl
def VC(l:tLB):dN:=(bT l).getD {}
theorem qL(L:List tLB)(h:(L.all λl=>(bT l).isSome&&l.all (· != 10))=true):L.map bT=(L.map VC).map some/\∀a∈L,∀c∈a,c≠10:=by
 refine⟨?_,λa ha c hc=>?_⟩
 ·rw[List.map_map];apply List.map_congr_left;intro l hl;have:=List.all_eq_true.1 h l hl;rw[bj]at this;obtain⟨p,hp⟩:=Option.isSome_iff_exists.1 this.1;show bT l=some (VC l)
  unfold VC;rw[hp];rfl
 ·have:=List.all_eq_true.1 h a ha;rw[bj]at this
  simpa using List.all_eq_true.1 this.2 c hc
set_option linter.all false
theorem zX(k:Int):∃b0 b1 b2 b3:UInt8,b8 (gG k)=[b0,b1,b2,b3]:=⟨_,_,_,_,rfl⟩
set_option linter.all false
def loA(a:Nat):Int:=xA (a%4294967296)
def hiA(a:Nat):Int:=xA (a/4294967296)
theorem af6(a:Nat)(h:a<18446744073709551616):(-2147483648<=loA a/\loA a<=2147483647)/\(-2147483648<=hiA a/\hiA a<=2147483647)/\(hiA a%4294967296).toNat*4294967296+(loA a%4294967296).toNat=a:=by
 have h1:a%4294967296<4294967296:=Nat.mod_lt _ (by decide);have h2:a/4294967296<4294967296:=by omega
 have h3:a/4294967296*4294967296+a%4294967296=a:=by omega
 unfold loA hiA;generalize a%4294967296=l at *;generalize a/4294967296=g at *;have key:∀k:Nat,k<4294967296->(-2147483648<=xA k/\xA k<=2147483647)/\(xA k%4294967296).toNat=k:=λk hk=>by unfold xA;split<;>omega
 obtain⟨a1,a2⟩:=key l h1;obtain⟨b1,b2⟩:=key g h2;refine⟨a1,b1,?_⟩;rw[a2,b2];exact h3
def agp(d a:Nat):tLB:=[119,105,100,101,32,114]++(UInt8.ofNat (48+d)::[44,32])++ab a
def ag6(d a:Nat):dN:={kind:=4,x:=⟨85,⟨[119,105,100,101],[],d,0,0,loA a,hiA a,[],[],false⟩⟩}
theorem agT{d a:Nat}(hd:d<10)(ha:a<18446744073709551616):j9 [119,105,100,101] (kR d++44::32::ab a)=some ⟨85,⟨[119,105,100,101],[],d,0,0,loA a,hiA a,[],[],false⟩⟩:=by
 obtain⟨h1,h2,h3⟩:=af6 a ha;have hsk:=I9 d (44::32::ab a)
 have hr:(YP 85).read (st0 [119,105,100,101] (kR d++44::32::ab a))=some {st0 [119,105,100,101] []with d:=d,num:=loA a,high:=hiA a}:=by
  have e:(YP 85).read (st0 [119,105,100,101] (kR d++44::32::ab a))=readPs [.result,.comma,.wide] (st0 [119,105,100,101] (kR d++44::32::ab a)):=Cl rfl _;rw[e];refine ah6 (D:=ab a) ?_ (λr hr=>?_) hsk (by omega)
  ·obtain⟨c,q,hcq,g1,g2⟩:=Ck a;exact⟨c,q,hcq,λe=>by(subst e;revert g1;decide)⟩
  ·have:=agS r (h:=hiA a) (n:=loA a) (t:=[]) (by rw[h3];exact hr) h2 h1 Stop.nil;exact this
 have hw:∀j (h:j<85),(aq[j]'(by rw[agt];omega)).words.contains [119,105,100,101]=false:=by
  have key:∀k:Fin 88,k.1<85->(YP k).words.contains [119,105,100,101]=false:=by decide +kernel
  intro j h;rw[agu (by rw[agt];omega)];exact key ⟨j,by omega⟩ h
 have h85:85<aq.length:=by rw[agt];decide
 have:=agh [119,105,100,101] (kR d++44::32::ab a) {st0 [119,105,100,101] []with d:=d,num:=loA a,high:=hiA a} aq 0 85 h85 (λj h=>.inl (hw j h)) (by rw[agu h85];decide +kernel) (by rw[agu h85];exact hr) rfl;exact this
theorem agd{d a:Nat}(hd:d<10)(ha:a<18446744073709551616):bT (agp d a)=some (ag6 d a)/\∀c∈agp d a,c≠10:=by
 have hw:agp d a=[119,105,100,101]++32::(kR d++44::32::ab a):=by unfold kR agp;rw[Je d,Lib.decDigits_one hd];simp
 have hok:∀c∈agp d a,Ja c=true:=by
  intro c hc;rw[hw]at hc;simp only[List.mem_append,List.mem_cons,List.not_mem_nil,or_false]at hc;rcases hc with(rfl|rfl|rfl|rfl)|rfl|hc|rfl|rfl|hc
  all_goals first|decide|exact Cm (Eb d c hc)|exact Cm (px a c hc)
 have hsk:ay (agp d a)=[119,105,100,101]++32::(kR d++44::32::ab a):=by rw[hw,List.cons_append,pq (by decide)]
 have hwd:=zV hsk (by decide) (Stop.cons (by decide));have hs2:ay (32::(kR d++44::32::ab a))=kR d++44::32::ab a:=by rw[wg,I9]
 have hm:aP 58 (32::(kR d++44::32::ab a))=false:=(MW (c:=114) (t:=Lib.itoa (d:Int)++44::32::ab a) hs2 (by decide)).1;refine⟨?_,abk hok⟩;unfold bT;rw[abj hok,Option.bind_some,hsk,hwd];rw[iN9 (by simp)];simp only[hm,Bool.false_eq_true,if_false];rw[iN9 (by decide),iN9 (by decide),hs2,agT hd ha];rfl
set_option linter.all false
theorem eleven{j:Nat}(h:j<11):j=0\/j=1\/j=2\/j=3\/j=4\/j=5\/j=6\/j=7\/j=8\/j=9\/j=10:=by omega
def agF:List tLB:=[[97,100,100],[115,117,98],[109,117,108],[100,105,118],[109,111,100],[97,110,100],[111,114],[120,111,114],[108,115,104],[114,115,104],[97,115,104]]
def rkW(j:Nat):tLB:=agF[j]?.getD []
def af7:tLB:=[102,117,110,99,32,102]
def af8:tLB:=[102,117,110,99,32,103]
def af9(j:Nat):List tLB:=[[108,100,56,32,114,52,44,32,91,114,49,93],[109,111,118,32,114,53,44,32,114,51],rkW j++[32,114,51,44,32,114,52],rkW j++[51,50,32,114,53,44,32,114,52],[104,101,108,112,32,108,111,103],[101,120,105,116]]
def aga(j:Nat):List tLB:=[[108,100,56,32,114,52,44,32,91,114,49,93],[109,111,118,32,114,55,44,32,114,54],rkW j++[32,114,54,44,32,114,52],rkW j++[51,50,32,114,55,44,32,114,52],[109,111,118,32,114,49,44,32,114,54],[104,101,108,112,32,108,111,103],[109,111,118,32,114,49,44,32,114,55],[104,101,108,112,32,108,111,103],[101,120,105,116]]
def rkL(f:tLB)(d a:Nat)(s:List tLB):List tLB:=f::agp d a::s
def rkT(f:tLB)(d a:Nat)(s:List tLB):tLB:=joinL (rkL f d a s)
def af0(f:tLB)(d a:Nat)(s:List tLB):List dN:=VC f::ag6 d a::s.map VC
def agG(L:List tLB):Bool:=L.all λl=>(bT l).isSome&&l.all (· != 10)
theorem agA{f:tLB}{d a:Nat}{s:List tLB}(hd:d<10)(ha:a<18446744073709551616)(hs:agG (f::s)=true):linesP (rkT f d a s)=rkL f d a s:=by
 obtain⟨_,b1⟩:=qL _ hs;obtain⟨_,c1⟩:=agd (a:=a) hd ha;refine Cn _ (by unfold rkL;simp) (λu hu=>?_);unfold rkL at hu;rcases List.mem_cons.1 hu with rfl|hu
 ·exact b1 _ (by simp)
 ·rcases List.mem_cons.1 hu with rfl|hu
  ·exact c1
  ·exact b1 u (ao _ hu)
theorem agB{f:tLB}{d a:Nat}{s:List tLB}(hd:d<10)(ha:a<18446744073709551616)(hs:agG (f::s)=true)(hb:behindF false (af0 f d a s)=true):parseP (linesP (rkT f d a s)) false 0 []=.inl (af0 f d a s):=by obtain⟨a1,_⟩:=qL _ hs;rw[agA hd ha hs];have:=Ef (rkL f d a s) (af0 f d a s) false 0 [] (by unfold rkL af0;rw[al,al]at a1;injection a1 with e1 e2;rw[al,al,al,al,e1,e2,(agd hd ha).1]) hb;rw[this];rfl
theorem ag7{f:tLB}{d a:Nat}{s:List tLB}(hd:d<10)(ha:a<18446744073709551616)(hs:agG (f::s)=true)(hb:behindF false (af0 f d a s)=true)(hl:¬4000<(rkT f d a s).length)(h0:(firstP (ah (af0 f d a s)) (af0 f d a s) {} 0).1=0)(hk:(f::s).all Iq=true):Ir (rkT f d a s):=by
 refine⟨_,hl,agB hd ha hs hb,h0,λu hu=>?_⟩;rw[agA hd ha hs]at hu;unfold rkL at hu;rcases List.mem_cons.1 hu with rfl|hu
 ·exact Fv (List.all_eq_true.1 hk _ (by simp))
 ·rcases List.mem_cons.1 hu with rfl|hu
  ·exact⟨_,(agd hd ha).1,(by show 2<=4;decide),(by show 4<=4;decide)⟩
  ·exact Fv (List.all_eq_true.1 hk u (ao _ hu))
theorem ahP:∀j:Fin 11,agG (af7::af9 j)=true/\agG (af8::aga j)=true/\(af7::af9 j).all Iq=true/\(af8::aga j).all Iq=true:=by decide +kernel
theorem agU{j:Nat}(hj:j<11)(a:Nat):behindF false (af0 af7 3 a (af9 j))=true/\(firstP (ah (af0 af7 3 a (af9 j))) (af0 af7 3 a (af9 j)) {} 0).1=0:=by constructor<;>rcases eleven hj with rfl|rfl|rfl|rfl|rfl|rfl|rfl|rfl|rfl|rfl|rfl<;>kernel_rfl
theorem agV{j:Nat}(hj:j<11)(a:Nat):behindF false (af0 af8 6 a (aga j))=true/\(firstP (ah (af0 af8 6 a (aga j))) (af0 af8 6 a (aga j)) {} 0).1=0:=by constructor<;>rcases eleven hj with rfl|rfl|rfl|rfl|rfl|rfl|rfl|rfl|rfl|rfl|rfl<;>kernel_rfl
def rk1(j:Nat)(lo hi:Int):aS:=⟨[102],[⟨85,3,0,0,lo,hi,[]⟩,⟨82,4,1,0,0,0,[]⟩,⟨0,5,3,0,0,0,[]⟩,⟨4+4*j,3,4,0,0,0,[]⟩,⟨5+4*j,5,4,0,0,0,[]⟩,⟨86,0,0,0,4,0,[]⟩,⟨87,0,0,0,0,0,[]⟩]⟩
def rk2(j:Nat)(lo hi:Int):aS:=⟨[103],[⟨85,6,0,0,lo,hi,[]⟩,⟨82,4,1,0,0,0,[]⟩,⟨0,7,6,0,0,0,[]⟩,⟨4+4*j,6,4,0,0,0,[]⟩,⟨5+4*j,7,4,0,0,0,[]⟩,⟨0,1,6,0,0,0,[]⟩,⟨86,0,0,0,4,0,[]⟩,⟨0,1,7,0,0,0,[]⟩,⟨86,0,0,0,4,0,[]⟩,⟨87,0,0,0,0,0,[]⟩]⟩
def rkB(f:tLB)(d a:Nat)(s:List tLB):BS:=aK (ah (af0 f d a s)) (af0 f d a s)
theorem ah7{j:Nat}(hj:j<11)(a:Nat):(rkB af7 3 a (af9 j)).ms=[]/\(rkB af7 3 a (af9 j)).fs=[rk1 j (loA a) (hiA a)]:=by constructor<;>rcases eleven hj with rfl|rfl|rfl|rfl|rfl|rfl|rfl|rfl|rfl|rfl|rfl<;>kernel_rfl
theorem ah8{j:Nat}(hj:j<11)(a:Nat):(rkB af8 6 a (aga j)).ms=[]/\(rkB af8 6 a (aga j)).fs=[rk2 j (loA a) (hiA a)]:=by constructor<;>rcases eleven hj with rfl|rfl|rfl|rfl|rfl|rfl|rfl|rfl|rfl|rfl|rfl<;>kernel_rfl
theorem ahQ{f:tLB}{d a:Nat}{s:List tLB}{F:aS}(hd:d<10)(ha:a<18446744073709551616)(hs:agG (f::s)=true)(hb:behindF false (af0 f d a s)=true)(hl:¬4000<(rkT f d a s).length)(h0:(firstP (ah (af0 f d a s)) (af0 f d a s) {} 0).1=0)(hB:(rkB f d a s).ms=[]/\(rkB f d a s).fs=[F]){t:tBA}{c k:Nat}(h:tI (rkT f d a s) t c k):t=T (oI [] [F])/\c=0:=by unfold tI at h;rw[iN9 hl,agB hd ha hs hb]at h;dsimp only at h;rw[iP9 h0]at h;obtain⟨hc,_,ms,fs,pm,_,pf,_,rfl⟩:=h;unfold rkB at hB;rw[hB.1]at pm;rw[hB.2]at pf;rw[List.perm_nil.1 pm,List.perm_singleton.1 pf];exact⟨rfl,hc⟩
set_option linter.all false
def ah9:tLB:=[83,80,79,76,1,0,1,1,102,8,0,192,3,0,0]
def aia:tLB:=[83,80,79,76,1,0,1,1,103,11,0,192,6,0,0]
def rkZ:tLB:=[0,0,0,0]
def aib(j:Nat):tLB:=(oI [] [rk1 j 0 0]).drop 27
def aic(j:Nat):tLB:=(oI [] [rk2 j 0 0]).drop 27
theorem aid{j:Nat}(hj:j<11)(lo hi:Int):oI [] [rk1 j lo hi]=ah9++(b8 (gG lo)++(rkZ++(b8 (gG hi)++aib j))):=by rcases eleven hj with rfl|rfl|rfl|rfl|rfl|rfl|rfl|rfl|rfl|rfl|rfl<;>kernel_rfl
theorem aie{j:Nat}(hj:j<11)(lo hi:Int):oI [] [rk2 j lo hi]=aia++(b8 (gG lo)++(rkZ++(b8 (gG hi)++aic j))):=by rcases eleven hj with rfl|rfl|rfl|rfl|rfl|rfl|rfl|rfl|rfl|rfl|rfl<;>kernel_rfl
theorem aif{j:Nat}(hj:j<11)(b0 b1 b2 b3 c0 c1 c2 c3:UInt8):fq (ah9++([b0,b1,b2,b3]++(rkZ++([c0,c1,c2,c3]++aib j))))=([],[rk1 j (bA [b0,b1,b2,b3]) (bA [c0,c1,c2,c3])],⟨[],false⟩):=by rcases eleven hj with rfl|rfl|rfl|rfl|rfl|rfl|rfl|rfl|rfl|rfl|rfl<;>kernel_rfl
theorem aih{j:Nat}(hj:j<11)(b0 b1 b2 b3 c0 c1 c2 c3:UInt8):fq (aia++([b0,b1,b2,b3]++(rkZ++([c0,c1,c2,c3]++aic j))))=([],[rk2 j (bA [b0,b1,b2,b3]) (bA [c0,c1,c2,c3])],⟨[],false⟩):=by rcases eleven hj with rfl|rfl|rfl|rfl|rfl|rfl|rfl|rfl|rfl|rfl|rfl<;>kernel_rfl
theorem age{n:Int}(h:-2147483648<=n/\n<=2147483647):bA (b8 (gG n))=n:=by have h1:=abl (n:=n) (by omega) [];rw[List.append_nil]at h1;exact h1
theorem ahk{j:Nat}(hj:j<11){lo hi:Int}(h1:-2147483648<=lo/\lo<=2147483647)(h2:-2147483648<=hi/\hi<=2147483647):fq (oI [] [rk1 j lo hi])=([],[rk1 j lo hi],⟨[],false⟩):=by obtain⟨b0,b1,b2,b3,eb⟩:=zX lo;obtain⟨c0,c1,c2,c3,ec⟩:=zX hi;rw[aid hj,eb,ec,aif hj,<-eb,<-ec,age h1,age h2]
theorem ahl{j:Nat}(hj:j<11){lo hi:Int}(h1:-2147483648<=lo/\lo<=2147483647)(h2:-2147483648<=hi/\hi<=2147483647):fq (oI [] [rk2 j lo hi])=([],[rk2 j lo hi],⟨[],false⟩):=by obtain⟨b0,b1,b2,b3,eb⟩:=zX lo;obtain⟨c0,c1,c2,c3,ec⟩:=zX hi;rw[aie hj,eb,ec,aih hj,<-eb,<-ec,age h1,age h2]
def kN(j:Nat)(lo hi:Int):List aS:=[rk1 j lo hi,rk2 j lo hi]
def rkO(j:Nat)(lo hi:Int):List tLB:=[oI [] [rk1 j lo hi],oI [] [rk2 j lo hi]]
theorem agL{j:Nat}(hj:j<11){lo hi:Int}(h1:-2147483648<=lo/\lo<=2147483647)(h2:-2147483648<=hi/\hi<=2147483647):decsP (rkO j lo hi)=[([],[rk1 j lo hi]),([],[rk2 j lo hi])]:=by unfold rkO;rw[decsP,ahk hj h1 h2];simp only;rw[decsP,ahl hj h1 h2];rfl
theorem ahR(j:Nat)(lo hi:Int):(kN j lo hi).Pairwise (λx y=>ji (T y.name) (T x.name)=false):=by
 have h:([[102],[103]]:List tLB).Pairwise (λx y=>ji (T y) (T x)=false):=by decide +kernel
 have e:(kN j lo hi).map (·.name)=[[102],[103]]:=rfl;rw[<-e,List.pairwise_map]at h;exact h
theorem aii(j:Nat)(lo hi:Int):((kN j lo hi).map (λf=>T f.name)).Nodup:=by have e:(kN j lo hi).map (λf=>T f.name)=[T [102],T [103]]:=rfl;rw[e];decide +kernel
theorem agW{j:Nat}(hj:j<11)(lo hi:Int):(lu [([],[rk1 j lo hi]),([],[rk2 j lo hi])] [] (kN j lo hi)).1=0:=by rcases eleven hj with rfl|rfl|rfl|rfl|rfl|rfl|rfl|rfl|rfl|rfl|rfl<;>kernel_rfl
theorem aij{j:Nat}(hj:j<11)(lo hi:Int):(kN j lo hi).map (aS.linked (Mk (bQ [])) (KK (kN j lo hi)))=kN j lo hi:=by rcases eleven hj with rfl|rfl|rfl|rfl|rfl|rfl|rfl|rfl|rfl|rfl|rfl<;>kernel_rfl
theorem ahm{j:Nat}(hj:j<11){lo hi:Int}(h1:-2147483648<=lo/\lo<=2147483647)(h2:-2147483648<=hi/\hi<=2147483647){s:tBA}{e a:Int}(h:iD (rkO j lo hi) s e a):s=T (ib 2 [] (kN j lo hi))/\e=0:=by
 have hd:=agL hj h1 h2;have hl:(rkO j lo hi).length=2:=rfl;unfold iD at h;rw[iN9 (by rw[hl];omega),hd,iN9 (by rw[hl];simp)]at h;obtain⟨ms,fs,pm,_,pf,sf,h⟩:=h;have e1:ms=[]:=List.perm_nil.1 pm;have e2:fs=kN j lo hi:=by have:([(([]:List az),[rk1 j lo hi]),([],[rk2 j lo hi])].flatMap (·.2))=kN j lo hi:=rfl;rw[this]at pf;exact xV (nm:=λf=>T f.name) pf (List.Perm.refl _) (aii j lo hi) sf (ahR j lo hi)
 rw[e1,e2,agW hj,iN9 (by simp),aij hj]at h;exact⟨h.1,h.2.1⟩
def rkI(j:Nat):tLB:=ib 2 [] (kN j 0 0)
def aik:tLB:=[83,80,79,76,2,0,2,1,102,8,0,1,103,11,0,192,3,0,0]
def ail(j:Nat):tLB:=((rkI j).take 83).drop 31
def aim(j:Nat):tLB:=(rkI j).drop 95
theorem ain{j:Nat}(hj:j<11)(lo hi:Int):ib 2 [] (kN j lo hi)=aik++(b8 (gG lo)++(rkZ++(b8 (gG hi)++(ail j++(b8 (gG lo)++(rkZ++(b8 (gG hi)++aim j))))))):=by rcases eleven hj with rfl|rfl|rfl|rfl|rfl|rfl|rfl|rfl|rfl|rfl|rfl<;>kernel_rfl
theorem aio{j:Nat}(hj:j<11)(b0 b1 b2 b3 c0 c1 c2 c3 d0 d1 d2 d3 e0 e1 e2 e3:UInt8):dP (aik++([b0,b1,b2,b3]++(rkZ++([c0,c1,c2,c3]++(ail j++([d0,d1,d2,d3]++(rkZ++([e0,e1,e2,e3]++aim j))))))))=([],[rk1 j (bA [b0,b1,b2,b3]) (bA [c0,c1,c2,c3]),rk2 j (bA [d0,d1,d2,d3]) (bA [e0,e1,e2,e3])],⟨[],false⟩):=by rcases eleven hj with rfl|rfl|rfl|rfl|rfl|rfl|rfl|rfl|rfl|rfl|rfl<;>kernel_rfl
theorem ahS{j:Nat}(hj:j<11){lo hi:Int}(h1:-2147483648<=lo/\lo<=2147483647)(h2:-2147483648<=hi/\hi<=2147483647):dP (ib 2 [] (kN j lo hi))=([],kN j lo hi,⟨[],false⟩):=by obtain⟨b0,b1,b2,b3,eb⟩:=zX lo;obtain⟨c0,c1,c2,c3,ec⟩:=zX hi;rw[ain hj,eb,ec,aio hj,<-eb,<-ec,age h1,age h2];rfl
set_option linter.all false
def agH(x0 x1 x2 x3 x4 x5 x6 x7:UInt8):tBA:=⟨#[x0,x1,x2,x3,x4,x5,x6,x7]⟩
def ahn(x0 x1 x2 x3 x4 x5 x6 x7:UInt8):List Nat:=[x0.toNat,x1.toNat,x2.toNat,x3.toNat,x4.toNat,x5.toNat,x6.toNat,x7.toNat]
def rkX(j:Nat)(lo hi:Int)(i:tBA):La×List (List Nat)×List yU:=tL (kN j lo hi) [] [] [102] i 99
def rkY(j:Nat)(lo hi:Int)(i:tBA):La×List (List Nat)×List yU:=tL (kN j lo hi) (rkX j lo hi i).2.1 (rkX j lo hi i).2.2 [103] i 99
theorem aip{j:Nat}(hj:j<11)(lo hi:Int)(x0 x1 x2 x3 x4 x5 x6 x7:UInt8):(rkX j lo hi (agH x0 x1 x2 x3 x4 x5 x6 x7)).1.trap=2/\(rkX j lo hi (agH x0 x1 x2 x3 x4 x5 x6 x7)).1.fn=[102]/\(rkX j lo hi (agH x0 x1 x2 x3 x4 x5 x6 x7)).1.slot=6:=by refine⟨?_,?_,?_⟩<;>rcases eleven hj with rfl|rfl|rfl|rfl|rfl|rfl|rfl|rfl|rfl|rfl|rfl<;>kernel_rfl
theorem aiq{j:Nat}(hj:j<11)(lo hi:Int)(x0 x1 x2 x3 x4 x5 x6 x7:UInt8):(rkY j lo hi (agH x0 x1 x2 x3 x4 x5 x6 x7)).1.trap=0/\(rkY j lo hi (agH x0 x1 x2 x3 x4 x5 x6 x7)).1.r0=0 /\ (rkY j lo hi (agH x0 x1 x2 x3 x4 x5 x6 x7)).1.log=[ofP j ((hi%4294967296).toNat*4294967296+(lo%4294967296).toNat) (leN (ahn x0 x1 x2 x3 x4 x5 x6 x7)) 64,QB (ofP j (QB ((hi%4294967296).toNat*4294967296+(lo%4294967296).toNat)) (QB (leN (ahn x0 x1 x2 x3 x4 x5 x6 x7))) 32)]:=by refine⟨?_,?_,?_⟩<;>rcases eleven hj with rfl|rfl|rfl|rfl|rfl|rfl|rfl|rfl|rfl|rfl|rfl<;>kernel_rfl
