import Derived.Test.YthnphhgpfedeeaaGreatDoorCF55
namespace Go.Proofs.YthnphhgpfedeeaaGreatDoor
open Go.RowKit Tryz
open Int renaming emod_nonneg->ab,toNat_of_nonneg->al,emod_lt_of_pos->an
set_option linter.all false
set_option maxRecDepth 100000
set_option maxHeartbeats 1000000
theorem al8(w:tW)(l:tLB)(hW:sV w)(hE:Env w)(hM:mE w)(hT:Ir l)(hone:∀ls,parseP (linesP l) false 0 []=.inl ls->amm (aK (ah ls) ls)):Calls prog 18 #[.string (T l)] w λe w'=>∃s c n,e=.returned (.tuple #[.string s,.int .i64 (c:Nat),.int .i64 (n:Nat)])/\tI l s c n/\aa ae w w':=by
 have H:af (Calls prog 24 #[.string (T l)] w λe w'=>∃s c n,e=.returned (.tuple #[.string s,.int .i64 (c:Nat),.int .i64 (n:Nat)])/\tI l s c n/\aa ae w w'):=amU w l hW hE hM hT hone;clear hW hE hM hT hone;generalize T l=s0 at *;go_enter func18,ntmps18;go_wp2_with fail;refine H.o.mono ?_;rintro e w1 ⟨s,c,n,rfl,hq,m⟩;have HQ:af (tI l s c n/\aa ae w w1):=⟨hq,m⟩
 clear hq m H;go_wp2_with fail;go_ret3;exact⟨s,c,n,rfl,HQ.o.1,HQ.o.2⟩
theorem Q5(w:tW)(o:Option Addr)(cap:Nat)(texts aR:List tLB)(MU:tLB)(hlen:aR.length=texts.length)(hn:texts.length<=8)(PP:Nat->tW->Prop)(hb:0<texts.length->∃g off,o=some ⟨g,off,none⟩/\∀k (h:k<texts.length),w.cell? ⟨g,off+k,none⟩=some (.string (T texts[k])))(HAS:af (∀w1 k (h:k<texts.length) (h':k<aR.length),aa ae w w1->Calls prog 18 #[.string (T texts[k])] w1 λe w'=>(∃n:Nat,e=.returned (.tuple #[.string (T aR[k]),.int .i64 0,.int .i64 n]))/\aa ae w1 w'))(HLI:af (∀w1 v,af3 w w1 v aR->Calls prog 19 #[v] w1 λe w'=>(∃a:Int,e=.returned (.tuple #[.string (T MU),.int .i64 0,.int .i64 a]))/\aa ae w1 w'))(Rm:af (∀w1,aa ae w w1->Calls prog 16 #[.string (T MU)] w1 λe w'=>∃sb,e=.returned (.tuple #[pt sb,.int .i64 0])/\PP sb w')):Calls prog 10 #[.slice o texts.length cap] w λe w'=>∃sb,e=.returned (pt sb)/\PP sb w':=by
 obtain⟨iS,hiS,hzS,hsS,hbS⟩:=info_parts Sc;have HB:=ai hb;clear hb;obtain⟨n,hnn⟩:∃n,n=texts.length:=⟨_,rfl⟩
 have LU:=ai hnn;have VV:af (aR.length=n):=hlen.trans hnn.symm;have hn':n<=8:=by rw[hnn];exact hn
 rw[<-hnn];clear hnn hn hlen;go_enter func10,ntmps10;go_upto_block 0 with fail;go_cut [3] (λv wx=>af3 w wx v aR)
 case first =>
  go_wp2_with fail;go_loopg [3,4] 8 (λq v iv wx=>∃(k:Nat),iv=.int .i64 k/\af3 w wx v (aR.take k)/\k<=n/\q=8-k)
  case atStart=>exact⟨0,rfl,af3.nil ax,Nat.zero_le _,rfl⟩
  case round =>
   obtain⟨k,rfl,hS,hkn,rfl⟩:=hrel;have hlk:(aR.take k).length=k:=by rw[List.length_take,VV.o];omega
   obtain⟨o1,c1,rfl,_⟩:=hS.view;rw[hlk]at hS;rw[hlk];have HS:=ai hS;clear hS;by_cases hlt:k<n
   ·have hko:k<texts.length:=by rw[<-LU.o];exact hlt
    have hkp:k<aR.length:=by rw[VV.o];exact hlt
    obtain⟨g,off,rfl,hcl⟩:=HB.o (by omega);have l1:wr.cell? ⟨g,off+k,none⟩=some (.string (T texts[k])):=Lv HS.o.md (hcl k hko);have HA:=HAS.o wr k hko hkp HS.o.md;have Yd:af (aR.take (k+1)=aR.take k++[aR[k]]):=List.take_succ_eq_append_getElem hkp;clear hcl;generalize T texts[k]=sk at *;generalize aR[k]=ok at *;go_wp2_with fail;refine HA.mono ?_;rintro e w2 ⟨⟨a,rfl⟩,m2⟩;have HS2:=ai (HS.o.quiet m2);clear HA HS m2 l1;have HSA:af (af3 w (w2.alloc (.cells #[.string (T ok)] 9)) (.slice o1 k c1) (aR.take k)):=HS2.o.quiet aj;have hsl:Sl (w2.alloc (.cells #[.string (T ok)] 9)) 9 1 (.slice o1 k c1) k (zF (aR.take k)):=by have:=HSA.o.sl;rw[hlk]at this;exact this
    have ET:=ai hsl;clear hsl;go_wp2_with (at_builtin;refine aL _ rfl (.tmp 30) (.tmp 32) 24 rfl 9 iS (.string ByteArray.empty) 1 16 underlying24 hiS hzS hsS hbS rfl (by decide) (.slice o1 k c1) k (zF (aR.take k)) rfl ET.o ⟨w2.heap.size,0,none⟩ 1 1 (#[.string (T ok)]:tAV).toList rfl rfl (aV w2 #[.string (T ok)] 9 _ rfl) (by simp[Value.oneCell']) (by unfold maxLen;omega) (by omega) ?_;intro v5 w5 s5 m5 l5;obtain⟨o5,c5,hv5,_⟩:=s5.view;subst hv5);have GX:af (af3 w w5 (.slice o5 (k+1) c5) (aR.take (k+1))):=by unfold af;rw[Yd.o];exact HSA.o.app (by rw[hlk];exact s5) m5 l5
    clear s5 m5 l5 HSA HS2 ET;go_roundg (8-(k+1))
    case measure=>omega
    case rel=>exact⟨k+1,by go_num,GX.o,by omega,rfl⟩
   ·have hkk:k=n:=by omega
    have HE:af (aR.take k=aR):=List.take_of_length_le (by rw[VV.o];omega);rw[HE.o]at HS;go_wp2_with fail;go_meet;exact HS.o
 case rest =>
 have hS:af3 w wc _ aR:=hcut;obtain⟨o1,c1,rfl,_⟩:=hS.view;have HL:=ai (HLI.o wc _ hS);have nP:=ai hS.md;clear hS hcut HLI HAS HB;go_wp2_with fail;refine HL.o.mono ?_;rintro e w2 ⟨⟨a,rfl⟩,m2⟩;have HLD:=ai (Rm.o w2 (nP.o.trans m2));clear HL Rm m2;go_wp2_with fail;refine HLD.o.mono ?_;rintro e w3 ⟨sb,rfl,hP⟩;have HP:=ai hP;clear hP HLD;go_wp2_with fail;go_ret;exact⟨sb,rfl,HP.o⟩
def Vu(t:tLB):BS:=match parseP (linesP t) false 0 []with
 |.inl ls=>aK (ah ls) ls
 |.inr _=>{}
def ac2(t:tLB):Nat:=match parseP (linesP t) false 0 []with
 |.inl ls=>(firstP (ah ls) ls {} 0).1
 |.inr _=>1
theorem YL{t o:tLB}(hl:¬4000<t.length)(h1:ac2 t=0)(h2:(Vu t).ms.length=0)(h3:(Vu t).fs.length=1)(h4:oI [] (Vu t).fs=o){s:tBA}{c n:Nat}(h:tI t s c n):s=T o/\c=0:=by
 unfold Vu at h2 h3 h4;unfold ac2 at h1;unfold tI at h;rw[iN9 hl]at h;cases hp:parseP (linesP t) false 0 []with
 |inr k=>rw[hp]at h1;cases h1
 |inl ls =>
  rw[hp]at h h1 h2 h3 h4;dsimp only at h h1 h2 h3 h4;rw[iP9 h1]at h;obtain⟨hc,_,ms,fs,pm,_,pf,_,rfl⟩:=h;have e1:ms=[]:=by have:=pm.length_eq;rw[h2]at this;exact List.length_eq_zero_iff.1 this
  obtain⟨f,hf⟩:=List.length_eq_one_iff.1 h3;rw[hf]at pf h4;rw[e1,List.perm_singleton.1 pf,h4];exact⟨rfl,hc⟩
def ZY:tLB:=[102,117,110,99,32,102,10,109,111,118,32,114,48,44,32,50,10,109,117,108,32,114,48,44,32,50,49,10,101,120,105,116]
def awO:tLB:=oI [] (Vu ZY).fs
def ZZ:List aS:=[⟨[102],[⟨2,0,0,0,2,0,[]⟩,⟨14,0,0,0,21,0,[]⟩,⟨87,0,0,0,0,0,[]⟩]⟩]
theorem abm{s:tBA}{c n:Nat}(h:tI ZY s c n):s=T awO/\c=0:=YL (by decide) (by decide +kernel) (by decide +kernel) (by decide +kernel) rfl h
def py(c:Int)(n:Nat):Nat:=(if c<0 then(-(c+1))%(n:Int)else c%(n:Int)).toNat
theorem Jc(c:Int)(n:Nat)(hn:0<n):py c n<n:=by
 unfold py;split
 ·have:=an (-(c+1)) (show(0:Int)<n by omega);have:=ab (-(c+1)) (show(n:Int)≠0 by omega);omega
 ·have:=an c (show(0:Int)<n by omega);have:=ab c (show(n:Int)≠0 by omega);omega
theorem Eg(w:tW)(c:Int)(n:Nat)(h0:-9223372036854775808<=c)(h1:c<=9223372036854775807)(hn:0<n)(hn8:n<=1073741824):Calls prog 9 #[.int .i64 c,.int .i64 n] w λe w'=>e=.returned (.int .i64 (py c n))/\w'=w:=by
 by_cases hc:c<0
 ·have e:((py c n:Nat):Int)=-((c+1).tmod n):=by unfold py;rw[iP9 hc,<-Int.neg_tmod,Int.tmod_eq_emod_of_nonneg (by omega)];exact al (ab _ (by omega))
  have HE:=ai e;clear e;generalize py c n=r at *;go_enter func9,ntmps9;go_wp2_with fail;go_ret;exact⟨by rw[HE.o];rfl,rfl⟩
 ·have e:((py c n:Nat):Int)=c%n:=by unfold py;rw[iN9 hc];exact al (ab _ (by omega))
  have HE:=ai e;clear e;generalize py c n=r at *;go_enter func9,ntmps9;go_wp2_with fail;go_ret;exact⟨by rw[HE.o];rfl,rfl⟩
set_option linter.all false
def awJ:tLB:=ib 2 [] ZZ
theorem anN:∀ls,parseP (linesP ZY) false 0 []=.inl ls->amm (aK (ah ls) ls):=λls h=>by
 have e:Vu ZY=aK (ah ls) ls:=by unfold Vu;rw[h]
 rw[<-e];refine⟨by kernel_rfl,⟨[102],[⟨2,0,0,0,2,0,[]⟩,⟨14,0,0,0,21,0,[]⟩,⟨87,0,0,0,0,0,[]⟩]⟩,by kernel_rfl,⟨by decide,by decide,λm hm=>(by cases hm),λf hf=>?_⟩,by decide +kernel,by kernel_rfl,by decide +kernel⟩;rw[List.mem_singleton.1 hf];refine⟨by decide,by decide,λx hx=>?_⟩;simp only[List.mem_cons,List.not_mem_nil,or_false]at hx;rcases hx with rfl|rfl|rfl<;>exact⟨by decide,by decide,by decide,by decide,by decide,by decide⟩
theorem ane:Ir ZY:=aaK (by decide +kernel)
theorem anf:akz awO ⟨[102],[⟨2,0,0,0,2,0,[]⟩,⟨14,0,0,0,21,0,[]⟩,⟨87,0,0,0,0,0,[]⟩]⟩:=⟨⟨[0,0],false⟩,by kernel_rfl,by kernel_rfl⟩
theorem ang:∀f∈ZZ,(f.code.length<=200/\aM f.code<=200/\f.name.length<=255)/\∀x∈f.code,x.aO=0:=by decide +kernel
theorem aj7:dP awJ=([],ZZ,⟨[],false⟩):=by kernel_rfl
theorem alE:awJ.length<=1000/\awO.length<=1000:=by decide +kernel
theorem amQ:qK ZZ 0:=by have:=(ajm (s:=awJ) (by rw[aj7])).1;rw[aj7]at this;exact this
theorem anh:(tL ZZ [] [] [102] ⟨#[]⟩ 9).1.trap=0/\(tL ZZ [] [] [102] ⟨#[]⟩ 9).1.r0=42/\(tL ZZ [] [] [102] ⟨#[]⟩ 9).1.used=3:=by decide +kernel
theorem anO(w:tW)(hE:sV w)(g cap:Nat)(hg:w.cell? ⟨g,0,none⟩=some (.string (T awO))):Calls prog 19 #[.slice (some ⟨g,0,none⟩) 1 cap] w λr w'=>r=.returned (.tuple #[.string (T awJ),.int .i64 0,.int .i64 0])/\aa ae w w':=by obtain⟨⟨h1,h2,h3⟩,h4⟩:=ang _ (List.mem_singleton.2 rfl);have H:=ai (anZ w hE g cap awO _ hg (by have:=alE.2;unfold maxLen;omega) anf h1 h2 h3 h4);have HJ:af (T awJ=T (ib 2 [] [⟨[102],[⟨2,0,0,0,2,0,[]⟩,⟨14,0,0,0,21,0,[]⟩,⟨87,0,0,0,0,0,[]⟩]⟩])):=rfl;rw[<-HJ.o]at H;generalize T awJ=im at *;clear hE hg h1 h2 h3 h4 HJ;go_enter func19,ntmps19;go_wp2_with fail;refine H.o.mono ?_;rintro e w1 ⟨rfl,m⟩;have HM:=ai m;clear m H;go_wp2_with fail;go_ret3;exact⟨rfl,HM.o⟩
theorem amR(w:tW)(hW:sV w)(hE:Env w)(hM:mE w):Calls prog 7 #[] w λe w'=>e=.returned (.bool true)/\aa ae w w':=by
 have m0:aa ae w (w.alloc (.cells #[.string (T ZY)] 9)):=(aa.refl ae w).alloc _;have eX:=ai m0
 have nP:=ai (Q5 (w.alloc (.cells #[.string (T ZY)] 9)) (some ⟨w.heap.size,0,none⟩) 1 [ZY] [awO] awJ rfl (by decide) (Made (w.alloc (.cells #[.string (T ZY)] 9)) awJ) (λ_=>⟨w.heap.size,0,rfl,λk h=>by
  have:k=0:=by simp at h;omega
  subst this;exact(ak.new w _ _).cell 0⟩) (λw1 k h h' m=>by
  have:k=0:=by simp at h;omega
  subst this;have m1:=m0.trans m;exact(al8 w1 ZY (hW.ag m1) (hE.ag m1) (hM.ag m1) ane anN).mono λe w' ⟨s,c,n,h1,h2,h3⟩=>by obtain⟨rfl,rfl⟩:=abm h2;exact⟨⟨n,h1⟩,h3⟩) (λw1 v hS=>by
  obtain⟨o',cap',rfl,hv⟩:=hS.view;obtain⟨g,cs,rfl,hb,_,hcs⟩:=hv (by decide)
  exact(anO w1 (hW.ag (m0.trans hS.md)) g cap' (hcs 0 (by decide))).mono λe w' ⟨h1,h2⟩=>⟨⟨0,h1⟩,h2⟩) (λw1 m=>(ajF w1 (hW.ag (m0.trans m)) awJ (by have:=alE.1;unfold maxLen;omega) (by rw[aj7])).mono λe w' ⟨sb,h1,h2⟩=>⟨sb,h1,by
   obtain⟨bs,b,vF,vM,gs,mb,tv,wT,hB,hl,hm,hT,Vn,hk⟩:=h2;have:=m.size;exact⟨bs,b,vF,vM,gs,mb,tv,wT,hB,Nat.le_trans this hl,m.trans hm,m.trans hT,Vn,λk hk'=>Nat.le_trans this (hk k hk')⟩⟩))
 have HT:af ((⟨#[102,117,110,99,32,102,10,109,111,118,32,114,48,44,32,50,10,109,117,108,32,114,48,44,32,50,49,10,101,120,105,116]⟩:tBA)=T ZY):=rfl;clear hW hE hM m0;go_enter func7,ntmps7;go_wp2_with fail;rw[HT.o];generalize w.alloc (.cells #[.string (T ZY)] 9)=W1 at *;refine nP.o.mono ?_;rintro e w2 ⟨sb,rfl,Xy⟩;obtain⟨bs,b,vF,vM,gs,mb,tv,wT,hB,hl,hm,hT,Vn,hk⟩:=Xy;rw[aj7]at Vn hk
 have Wg:af (Calls prog 12 #[pt sb,.string ⟨#[102]⟩,.string ⟨#[]⟩,.int .i64 9] w2 λe w'=>∃vL d:Value,∃f:tBA,∃sl:Nat,∃i:tBA,e=.returned (.agg #[.int .i64 0,.string f,.int .i64 sl,.int .u64 42,.string i,vL,.int .i64 3])/\(∃o n c,vL=.slice o n c)/\aa ae w w'):=by
  refine(Ch Vn sb hB amQ (λF b=>akM (E4 F b ZZ)) (ajE (E4 (λ_=>True) 0 ZZ)) (by decide) [102] ⟨#[]⟩ (by decide) 9 (by decide)).mono ?_;rintro e w3 ⟨vL,a',rfl,hL,_,_,_,_,m3⟩;obtain⟨r1,r2,r3⟩:=anh;have e0:jB []=[]:=rfl;rw[e0]at hL ⊢;obtain⟨oL,cL,hv,_⟩:=hL.view;generalize(tL ZZ [] [] [102] ⟨#[]⟩ 9).1=R at *;refine⟨vL,undef,T R.fn,R.slot,strOf R.inp,?_,⟨_,_,_,hv⟩,((eX.o.trans hm).step m3 (λk hk' e=>?_))⟩
  ·unfold mK;rw[r1,r2,r3];rfl
  ·have h1:=eX.o.size;have h2:=hk k (e.elim .inl (λh=>.inr (.inl h)));omega
 have HB:=ai hB;clear hB hl hm hT Vn hk nP eX HT;go_wp2_with fail;refine Wg.o.mono ?_;rintro e w3 ⟨vL,_,f,sl,i,rfl,⟨oL,nL,cL,rfl⟩,m3⟩;have dw:=ai m3;clear m3 Wg HB;go_wp2_with fail;go_ret;exact⟨rfl,dw.o.alloc _⟩
